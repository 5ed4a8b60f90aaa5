/- What a row tells. -/
import Derived.Test.YtliadckofhblnaaGreatDoorAdd
import Derived.Test.YtliadckofhblnaaGreatDoorTmTo
import Derived.Shelf.Small.Bits
import Derived.Shelf.Small.Wraps
import Derived.Shelf.Strconv.Itoa0
import Derived.Shelf.Strconv.Itoa1
import Derived.Shelf.LaysM
import Derived.Shelf.Strconv.Itoa2
import Derived.Shelf.Strconv.AppendUint10
import Derived.Shelf.Strconv.AppendInt10
import Derived.Shelf.Strings.Prefix
import Derived.Ground.Names2Prog
import Derived.Shelf.Slices.SearchI
import Derived.Test.YtliadckofhblnaaGreatDoorProg
import Derived.Test.YtliadckofhblnaaGreatDoorGcdFirst
import Derived.Test.YtliadckofhblnaaGreatDoorTakeB
import Derived.Laws.Bits128
import Derived.Test.YtliadckofhblnaaGreatDoorReads
import Derived.Test.YtliadckofhblnaaGreatDoorRead
import Derived.Test.YtliadckofhblnaaGreatDoorTmUnit
import Derived.Test.YtliadckofhblnaaGreatDoorDimMul
import Derived.Deep.RegionHeld3
import Derived.Deep.Cut
import Derived.Deep.Quiet
set_option maxHeartbeats 8000000
set_option maxRecDepth 100000
namespace Go.Proofs.YtliadckofhblnaaGreatDoor.Tm
open Go.RowKit
def kq:Nat→Rat
 | 0=>0
 | 1=>5463 / 20
 | 2=>6829 / 25
 | _=>7463 / 20
theorem ix0 (w:World):(Instr.index 90 (.agg pts) (I 0)).run Tryz.prog w=.ok (.agg #[I 0,I 1]) w:=by kernel_rfl
theorem ix1 (w:World):(Instr.index 90 (.agg pts) (I 1)).run Tryz.prog w=.ok (.agg #[I 27315,I 100]) w:=by kernel_rfl
theorem ix2 (w:World):(Instr.index 90 (.agg pts) (I 2)).run Tryz.prog w=.ok (.agg #[I 2731600,I 10000]) w:=by kernel_rfl
theorem ix3 (w:World):(Instr.index 90 (.agg pts) (I 3)).run Tryz.prog w=.ok (.agg #[I 37315,I 100]) w:=by kernel_rfl
def FixV (p s:ByteArray) (v:Value):Prop :=
 (zBc (ptB p) (-1)∧v=.tuple #[.agg #[G #[],G #[]],I 201])
 ∨ (∃n:Nat,n<4∧zBc (ptB p) (n:Int)∧zBc (scB s) (-1)∧v=.tuple #[.agg #[G #[],G #[]],I 200])
 ∨ (∃n k:Nat,n<4∧k<4∧zBc (ptB p) (n:Int)∧zBc (scB s) (k:Int)∧v=.tuple #[.agg #[.string (zEp ((kq n + -oq k)*(fq k)⁻¹)),.string (zEr ((kq n + -oq k)*(fq k)⁻¹))],I (zHa ((kq n + -oq k)*(fq k)⁻¹))])
theorem zDx (p s:ByteArray) (w:World) (htab:Tab w):Calls Tryz.prog 21 #[.string p,.string s] w fun r w'=>∃v,r=.returned v∧FixV p s v∧Bw w w':=by
 obtain⟨V,hV⟩:∃V,V=w.alloc (.cells #[G #[],G #[]] 28):=⟨_,rfl⟩;have HR:Hid (T2 V w.heap.size (G #[]) (G #[])):=by rw[hV];exact⟨by simp[go_sem],by simp[go_sem],by simp[go_sem],by simp[go_sem]⟩
 have HB:Hid (Bw w V):=by rw[hV];exact bA
 have HTW:=zAb htab;have HV:=zAb hV;clear hV htab;go_enter Tryz.func21,Tryz.ntmps21
 go_upto_region 1 with fail
 rw[←un HV];clear HV
 go_upto_region 2 with (first
  | (go_at_call 50;go_must(refine(pointNames_any _).mono ?_;rintro e W0 ⟨rfl,hw⟩;have HNM:Hid (∀k,k<4→W0.cell? ⟨V.heap.size,k,none⟩=some (.string (ptn k))):=(by rw[hw];exact names4_at V);have HG:Hid (V.heap.size<W0.heap.size):=(by rw[hw];show _<_;simp);have HB0:Hid (Bw V W0):=(by rw[hw];exact bA);clear hw))
  | (go_at_call 49;go_must(refine(index4 p V.heap.size 4 _ (un HNM) (un HG)).mono ?_;rintro e W1 ⟨j,rfl,hj,hb⟩;have HJ:=zAb hj;have HB1:Hid (Bw V W1):=bt HB0 hb;clear hj hb)))
 have HR1:=zAb ((un HR).later (un HB1));have HBW1:Hid (Bw w W1):=(un HB).trans ((un HB1).mono (un HB).size);clear HNM HG HB0 HB1 HR HB;rcases un HJ with ⟨n,hn,rfl,hn1,hn2⟩|⟨rfl,hnone⟩
 ·have hn0:(0:Int)≤(n:Int):=by omega
  have hnk:¬(n:Int)<0:=by omega
  have HPN:Hid (zBc (ptB p) (n:Int)):=Or.inl ⟨n,hn,rfl,hn1,hn2⟩;clear hn1 hn2 HJ
  go_upto_region 5 with (go_at_call 51;go_must(refine(known_any s _ ((un HTW).later (un HBW1))).mono ?_;rintro e W2 ⟨v2,rfl,hkn,hb2⟩;have HKN:=zAb hkn;have HR2:=zAb ((un HR1).later hb2);have HBW2:Hid (Bw w W2):=bt HBW1 hb2;clear hkn hb2;rcases un HKN with ⟨k,b,c,a1,a2,a3,a4,l1,c1,l2,c2,l3,c3,l4,c4,hk,hf,rfl,hq1,hq2⟩|⟨hf,rfl⟩))
  ·obtain⟨Y,hY⟩:∃Y,Y=W2.alloc (.cells #[.bool b,.slice a1 l1 c1,.slice a2 l2 c2,.bool c,.slice a3 l3 c3,.slice a4 l4 c4] 84):=⟨_,rfl⟩
   have HY6:Hid (T6 Y W2.heap.size (.bool b) (.slice a1 l1 c1) (.slice a2 l2 c2) (.bool c) (.slice a3 l3 c3) (.slice a4 l4 c4)):=by rw[hY];exact⟨by simp[go_sem],by simp[go_sem],by simp[go_sem],by simp[go_sem],by simp[go_sem],by simp[go_sem],by simp[go_sem],by simp[go_sem],by simp[go_sem],by simp[go_sem],by simp[go_sem],by simp[go_sem]⟩
   have hby:Below W2.heap.size W2 Y:=by rw[hY];exact bA
   have HQY:=zAb (And.intro (hq1.later hby) (hq2.later hby));have HRY:=zAb ((un HR2).later hby);have HBW:Hid (Bw w Y):=bt HBW2 hby;have HOUT:Hid (FixV p s (.tuple #[.agg #[.string (zEp ((kq n + -oq k)*(fq k)⁻¹)),.string (zEr ((kq n + -oq k)*(fq k)⁻¹))],I (zHa ((kq n + -oq k)*(fq k)⁻¹))])):=Or.inr (Or.inr ⟨n,k,hn,hk,un HPN,hf,rfl⟩);rw[←hY];clear hY hby hq1 hq2 HKN HR2 HBW2 HR1 HBW1 hf HPN;generalize W2.heap.size=gY at *
   have y0:=(un HY6).c0;have y1:=(un HY6).c1;have y2:=(un HY6).c2;have y3:=(un HY6).c3;have y4:=(un HY6).c4;have y5:=(un HY6).c5
   go_upto_region 8 with fail
   clear y0 y1 y2 y3 y4 y5 HY6;rcases(by omega:n=0∨n=1∨n=2∨n=3)with rfl|rfl|rfl|rfl
   ·have HMK:=zAb (fun W (hw:Below w.heap.size w W) (hy:Below Y.heap.size Y W) (z:Value) (d:Bool) (a5 a6:Option Addr) (l5 c5 l6 c6:Nat) (hz:z=.agg #[.bool d,.slice a5 l5 c5,.slice a6 l6 c6]) (hq:QOf W z (kq 0) 67)=>zJq _ _ z (fq k) (oq k) (kq 0) 67 W b c d a1 a2 a3 a4 a5 a6 l1 c1 l2 c2 l3 c3 l4 c4 l5 c5 l6 c6 rfl rfl hz ((un HQY).1.later hy) ((un HQY).2.later hy) hq (by omega) (fq_ne k))
    have HFR:=zAb (fun W (ht:Tab W)=>(zEq 0 1 (0) W (by decide) (by decide) (by decide +kernel) (by decide +kernel) (zDt (by decide +kernel) (by decide +kernel)) ht:Calls Tryz.prog 54 #[.agg #[I 0,I 1]] W fun r w'=>∃v,r=.returned v∧QOf w' v (0) 67∧Bw W w'));have hix:=ix0;generalize hyy:(kq 0 + -oq k)*(fq k)⁻¹=yy at *
    clear hyy
    go_wp2_with (first
     | (go_at_call 53;go_must(refine(zHx _).mono ?_;rintro e w3 ⟨rfl,hb3⟩;have HB3:=zAb hb3;clear hb3))
     | (go_at_call 54;go_must(refine(un HFR _ ((un HTW).later ((un HBW).trans ((un HB3).mono (un HBW).size)))).mono ?_;rintro e w4 ⟨v4,rfl,hv4,hb4⟩;obtain⟨d,a5,l5,c5,a6,l6,c6,rfl⟩:=hv4.form;have HV4:=zAb hv4;have HB4:Hid (Bw Y w4):=bt HB3 hb4;clear hv4 hb4))
     | (go_at_call 52;go_must(refine(un HMK _ ((un HBW).trans ((un HB4).mono (un HBW).size)) (un HB4) _ _ _ _ _ _ _ _ rfl (un HV4)).mono ?_;rintro e w5 ⟨v5,rfl,hv5,hb5⟩;have HV5:=zAb hv5;have HB5:Hid (Bw Y w5):=bt HB4 hb5;clear hv5 hb5))
     | (go_at_call 55;go_must(refine(qtell _ _ _ _ (un HV5) (by omega) ((un HTW).later ((un HBW).trans ((un HB5).mono (un HBW).size)))).mono ?_;rintro e w6 ⟨rfl,hb6⟩;have HB6:Hid (Bw Y w6):=bt HB5 hb6;have HR6:=zAb ((un HRY).later (un HB6));clear hb6;have q0:=(un HR6).c0;have q1:=(un HR6).c1;have f0:=(un HR6).f0;have f1:=(un HR6).f1)))
    have hS:=(un HR6).store (.string (zEp yy)) (.string (zEr yy));have v0:=hS.c0;have v1:=hS.c1;exact bodyPost_ret (v:=.tuple #[.agg #[.string (zEp yy),.string (zEr yy)],I (zHa yy)]) (w:=zBh w6 w.heap.size (.string (zEp yy)) (.string (zEr yy))) (by simp[results,Tryz.results21,go_sem,v0,v1]) rfl ⟨_,rfl,un HOUT,zAk ((un HBW).trans ((un HB6).mono (un HBW).size)) (Nat.le_refl _) _ _⟩
   ·have HMK:=zAb (fun W (hw:Below w.heap.size w W) (hy:Below Y.heap.size Y W) (z:Value) (d:Bool) (a5 a6:Option Addr) (l5 c5 l6 c6:Nat) (hz:z=.agg #[.bool d,.slice a5 l5 c5,.slice a6 l6 c6]) (hq:QOf W z (kq 1) 67)=>zJq _ _ z (fq k) (oq k) (kq 1) 67 W b c d a1 a2 a3 a4 a5 a6 l1 c1 l2 c2 l3 c3 l4 c4 l5 c5 l6 c6 rfl rfl hz ((un HQY).1.later hy) ((un HQY).2.later hy) hq (by omega) (fq_ne k))
    have HFR:=zAb (fun W (ht:Tab W)=>(zEq 27315 100 (5463 / 20) W (by decide) (by decide) (by decide +kernel) (by decide +kernel) (zDt (by decide +kernel) (by decide +kernel)) ht:Calls Tryz.prog 54 #[.agg #[I 27315,I 100]] W fun r w'=>∃v,r=.returned v∧QOf w' v (5463 / 20) 67∧Bw W w'));have hix:=ix1;generalize hyy:(kq 1 + -oq k)*(fq k)⁻¹=yy at *
    clear hyy
    go_wp2_with (first
     | (go_at_call 53;go_must(refine(zHx _).mono ?_;rintro e w3 ⟨rfl,hb3⟩;have HB3:=zAb hb3;clear hb3))
     | (go_at_call 54;go_must(refine(un HFR _ ((un HTW).later ((un HBW).trans ((un HB3).mono (un HBW).size)))).mono ?_;rintro e w4 ⟨v4,rfl,hv4,hb4⟩;obtain⟨d,a5,l5,c5,a6,l6,c6,rfl⟩:=hv4.form;have HV4:=zAb hv4;have HB4:Hid (Bw Y w4):=bt HB3 hb4;clear hv4 hb4))
     | (go_at_call 52;go_must(refine(un HMK _ ((un HBW).trans ((un HB4).mono (un HBW).size)) (un HB4) _ _ _ _ _ _ _ _ rfl (un HV4)).mono ?_;rintro e w5 ⟨v5,rfl,hv5,hb5⟩;have HV5:=zAb hv5;have HB5:Hid (Bw Y w5):=bt HB4 hb5;clear hv5 hb5))
     | (go_at_call 55;go_must(refine(qtell _ _ _ _ (un HV5) (by omega) ((un HTW).later ((un HBW).trans ((un HB5).mono (un HBW).size)))).mono ?_;rintro e w6 ⟨rfl,hb6⟩;have HB6:Hid (Bw Y w6):=bt HB5 hb6;have HR6:=zAb ((un HRY).later (un HB6));clear hb6;have q0:=(un HR6).c0;have q1:=(un HR6).c1;have f0:=(un HR6).f0;have f1:=(un HR6).f1)))
    have hS:=(un HR6).store (.string (zEp yy)) (.string (zEr yy));have v0:=hS.c0;have v1:=hS.c1;exact bodyPost_ret (v:=.tuple #[.agg #[.string (zEp yy),.string (zEr yy)],I (zHa yy)]) (w:=zBh w6 w.heap.size (.string (zEp yy)) (.string (zEr yy))) (by simp[results,Tryz.results21,go_sem,v0,v1]) rfl ⟨_,rfl,un HOUT,zAk ((un HBW).trans ((un HB6).mono (un HBW).size)) (Nat.le_refl _) _ _⟩
   ·have HMK:=zAb (fun W (hw:Below w.heap.size w W) (hy:Below Y.heap.size Y W) (z:Value) (d:Bool) (a5 a6:Option Addr) (l5 c5 l6 c6:Nat) (hz:z=.agg #[.bool d,.slice a5 l5 c5,.slice a6 l6 c6]) (hq:QOf W z (kq 2) 67)=>zJq _ _ z (fq k) (oq k) (kq 2) 67 W b c d a1 a2 a3 a4 a5 a6 l1 c1 l2 c2 l3 c3 l4 c4 l5 c5 l6 c6 rfl rfl hz ((un HQY).1.later hy) ((un HQY).2.later hy) hq (by omega) (fq_ne k))
    have HFR:=zAb (fun W (ht:Tab W)=>(zEq 2731600 10000 (6829 / 25) W (by decide) (by decide) (by decide +kernel) (by decide +kernel) (zDt (by decide +kernel) (by decide +kernel)) ht:Calls Tryz.prog 54 #[.agg #[I 2731600,I 10000]] W fun r w'=>∃v,r=.returned v∧QOf w' v (6829 / 25) 67∧Bw W w'));have hix:=ix2;generalize hyy:(kq 2 + -oq k)*(fq k)⁻¹=yy at *
    clear hyy
    go_wp2_with (first
     | (go_at_call 53;go_must(refine(zHx _).mono ?_;rintro e w3 ⟨rfl,hb3⟩;have HB3:=zAb hb3;clear hb3))
     | (go_at_call 54;go_must(refine(un HFR _ ((un HTW).later ((un HBW).trans ((un HB3).mono (un HBW).size)))).mono ?_;rintro e w4 ⟨v4,rfl,hv4,hb4⟩;obtain⟨d,a5,l5,c5,a6,l6,c6,rfl⟩:=hv4.form;have HV4:=zAb hv4;have HB4:Hid (Bw Y w4):=bt HB3 hb4;clear hv4 hb4))
     | (go_at_call 52;go_must(refine(un HMK _ ((un HBW).trans ((un HB4).mono (un HBW).size)) (un HB4) _ _ _ _ _ _ _ _ rfl (un HV4)).mono ?_;rintro e w5 ⟨v5,rfl,hv5,hb5⟩;have HV5:=zAb hv5;have HB5:Hid (Bw Y w5):=bt HB4 hb5;clear hv5 hb5))
     | (go_at_call 55;go_must(refine(qtell _ _ _ _ (un HV5) (by omega) ((un HTW).later ((un HBW).trans ((un HB5).mono (un HBW).size)))).mono ?_;rintro e w6 ⟨rfl,hb6⟩;have HB6:Hid (Bw Y w6):=bt HB5 hb6;have HR6:=zAb ((un HRY).later (un HB6));clear hb6;have q0:=(un HR6).c0;have q1:=(un HR6).c1;have f0:=(un HR6).f0;have f1:=(un HR6).f1)))
    have hS:=(un HR6).store (.string (zEp yy)) (.string (zEr yy));have v0:=hS.c0;have v1:=hS.c1;exact bodyPost_ret (v:=.tuple #[.agg #[.string (zEp yy),.string (zEr yy)],I (zHa yy)]) (w:=zBh w6 w.heap.size (.string (zEp yy)) (.string (zEr yy))) (by simp[results,Tryz.results21,go_sem,v0,v1]) rfl ⟨_,rfl,un HOUT,zAk ((un HBW).trans ((un HB6).mono (un HBW).size)) (Nat.le_refl _) _ _⟩
   ·have HMK:=zAb (fun W (hw:Below w.heap.size w W) (hy:Below Y.heap.size Y W) (z:Value) (d:Bool) (a5 a6:Option Addr) (l5 c5 l6 c6:Nat) (hz:z=.agg #[.bool d,.slice a5 l5 c5,.slice a6 l6 c6]) (hq:QOf W z (kq 3) 67)=>zJq _ _ z (fq k) (oq k) (kq 3) 67 W b c d a1 a2 a3 a4 a5 a6 l1 c1 l2 c2 l3 c3 l4 c4 l5 c5 l6 c6 rfl rfl hz ((un HQY).1.later hy) ((un HQY).2.later hy) hq (by omega) (fq_ne k))
    have HFR:=zAb (fun W (ht:Tab W)=>(zEq 37315 100 (7463 / 20) W (by decide) (by decide) (by decide +kernel) (by decide +kernel) (zDt (by decide +kernel) (by decide +kernel)) ht:Calls Tryz.prog 54 #[.agg #[I 37315,I 100]] W fun r w'=>∃v,r=.returned v∧QOf w' v (7463 / 20) 67∧Bw W w'));have hix:=ix3;generalize hyy:(kq 3 + -oq k)*(fq k)⁻¹=yy at *
    clear hyy
    go_wp2_with (first
     | (go_at_call 53;go_must(refine(zHx _).mono ?_;rintro e w3 ⟨rfl,hb3⟩;have HB3:=zAb hb3;clear hb3))
     | (go_at_call 54;go_must(refine(un HFR _ ((un HTW).later ((un HBW).trans ((un HB3).mono (un HBW).size)))).mono ?_;rintro e w4 ⟨v4,rfl,hv4,hb4⟩;obtain⟨d,a5,l5,c5,a6,l6,c6,rfl⟩:=hv4.form;have HV4:=zAb hv4;have HB4:Hid (Bw Y w4):=bt HB3 hb4;clear hv4 hb4))
     | (go_at_call 52;go_must(refine(un HMK _ ((un HBW).trans ((un HB4).mono (un HBW).size)) (un HB4) _ _ _ _ _ _ _ _ rfl (un HV4)).mono ?_;rintro e w5 ⟨v5,rfl,hv5,hb5⟩;have HV5:=zAb hv5;have HB5:Hid (Bw Y w5):=bt HB4 hb5;clear hv5 hb5))
     | (go_at_call 55;go_must(refine(qtell _ _ _ _ (un HV5) (by omega) ((un HTW).later ((un HBW).trans ((un HB5).mono (un HBW).size)))).mono ?_;rintro e w6 ⟨rfl,hb6⟩;have HB6:Hid (Bw Y w6):=bt HB5 hb6;have HR6:=zAb ((un HRY).later (un HB6));clear hb6;have q0:=(un HR6).c0;have q1:=(un HR6).c1;have f0:=(un HR6).f0;have f1:=(un HR6).f1)))
    have hS:=(un HR6).store (.string (zEp yy)) (.string (zEr yy));have v0:=hS.c0;have v1:=hS.c1;exact bodyPost_ret (v:=.tuple #[.agg #[.string (zEp yy),.string (zEr yy)],I (zHa yy)]) (w:=zBh w6 w.heap.size (.string (zEp yy)) (.string (zEr yy))) (by simp[results,Tryz.results21,go_sem,v0,v1]) rfl ⟨_,rfl,un HOUT,zAk ((un HBW).trans ((un HB6).mono (un HBW).size)) (Nat.le_refl _) _ _⟩
  ·have HOUT:Hid (FixV p s (.tuple #[.agg #[G #[],G #[]],I 200])):=Or.inr (Or.inl ⟨n,hn,un HPN,hf,rfl⟩)
   have HRY:=zAb ((un HR2).later ((Below.refl W2.heap.size W2).alloc (Nat.le_refl _) (.cells #[.bool false,.slice none 0 0,.slice none 0 0,.bool false,.slice none 0 0,.slice none 0 0] 84)));have HBY:=zAb ((un HBW2).alloc (un HBW2).size (.cells #[.bool false,.slice none 0 0,.slice none 0 0,.bool false,.slice none 0 0,.slice none 0 0] 84));obtain⟨Y,hY⟩:∃Y,Y=W2.alloc (.cells #[.bool false,.slice none 0 0,.slice none 0 0,.bool false,.slice none 0 0,.slice none 0 0] 84):=⟨_,rfl⟩;rw[←hY]at HRY HBY ⊢;clear hY HR2 HBW2 HR1 HBW1;have q0:=(un HRY).c0;have q1:=(un HRY).c1;have f0:=(un HRY).f0;have f1:=(un HRY).f1
   go_wp2_with fail
   have hS:=(un HRY).store (G #[]) (G #[]);have v0:=hS.c0;have v1:=hS.c1;exact bodyPost_ret (v:=.tuple #[.agg #[G #[],G #[]],I 200]) (w:=zBh Y w.heap.size (G #[]) (G #[])) (by simp[results,Tryz.results21,go_sem,v0,v1]) rfl ⟨_,rfl,un HOUT,zAk (un HBY) (Nat.le_refl _) _ _⟩
 ·have q0:=(un HR1).c0;have q1:=(un HR1).c1;have f0:=(un HR1).f0;have f1:=(un HR1).f1
  have hn1:((-1:Int)<0):=by decide
  go_wp2_with fail
  have hS:=(un HR1).store (G #[]) (G #[]);have v0:=hS.c0;have v1:=hS.c1;exact bodyPost_ret (v:=.tuple #[.agg #[G #[],G #[]],I 201]) (w:=zBh W1 w.heap.size (G #[]) (G #[])) (by simp[results,Tryz.results21,go_sem,v0,v1]) rfl ⟨_,rfl,Or.inl ⟨Or.inr ⟨rfl,hnone⟩,rfl⟩,zAk (un HBW1) (Nat.le_refl _) _ _⟩
end Go.Proofs.YtliadckofhblnaaGreatDoor.Tm
namespace Go.Proofs
open Go.Shelf
def Tryz.lays125_ren:Go.Shelf.Ren:=⟨fun|125=>364|128=>372|129=>304|n=>n,fun|46=>335|3=>3|51=>309|53=>168|4=>4|5=>5|9=>9|n=>n,fun|n=>n⟩
theorem Tryz.lays125:Go.Proofs.Lays.n125 Tryz.prog Tryz.lays125_ren:={
 mixed:=by kernel_rfl
 f125:=Tryz.func364.trans (congrArg some (by kernel_rfl))
 f128:=Tryz.func372.trans (congrArg some (by kernel_rfl))
 f129:=Tryz.func304.trans (congrArg some (by kernel_rfl))
 t3:=Tryz.underlying3
 a3:=Tryz.isAgg3
 z3:=Tryz.sizeOf3
 v3:=Tryz.zeroValue3
 t4:=Tryz.underlying4
 a4:=Tryz.isAgg4
 z4:=Tryz.sizeOf4
 v4:=Tryz.zeroValue4
 t5:=Tryz.underlying5
 a5:=Tryz.isAgg5
 z5:=Tryz.sizeOf5
 v5:=Tryz.zeroValue5
 t9:=Tryz.underlying9
 a9:=Tryz.isAgg9
 z9:=Tryz.sizeOf9
 v9:=Tryz.zeroValue9
 t46:=Tryz.underlying335
 a46:=Tryz.isAgg335
 z46:=Tryz.sizeOf335
 v46:=Tryz.zeroValue335
 t51:=Tryz.underlying309
 a51:=Tryz.isAgg309
 z51:=Tryz.sizeOf309
 v51:=Tryz.zeroValue309
 t53:=Tryz.underlying168
 a53:=Tryz.isAgg168
 z53:=Tryz.sizeOf168
 v53:=Tryz.zeroValue168 }
theorem Tryz.bits_Len (x:Int) (w:World) (h0:0≤x) (h1:x≤18446744073709551615) :
  Calls Tryz.prog 364 #[.int .u64 x] w fun e w'=>e=.returned (.int .i64 (Lib.bitLen x.toNat))∧w'=w:=Any.bits_Len Tryz.lays125 x w h0 h1
end Go.Proofs
namespace Go.Proofs.YtliadckofhblnaaGreatDoor
open Go.RowKit
theorem mulB (x y:Value) (m n r k:Nat) (w:World) (hx:zAf w x m) (hy:zAf w y n) (hk:k≤1000000) (hm:m<1000000000 ^ k) (hn:n<1000000000 ^ k) (hr:r=m*n) :
    Calls Tryz.prog 151 #[x,y] w fun e w'=>∃a l c,e=.returned (.agg #[.slice a l c])∧zAf w' (.agg #[.slice a l c]) r∧Bw w w':=by
  subst hr;refine(mul_any x y m n k w hx hy hk hm hn).mono ?_;rintro e w' ⟨v,rfl,hv,hb⟩;obtain⟨a,n,c,rfl⟩:=hv.shape;exact⟨a,n,c,rfl,hv,hb⟩
theorem powLt (m n q M:Nat) (h:q≤n) (hM:m ^ n<M) (h1:1<M):m ^ q<M:=by
  by_cases h0:m=0
  · subst h0
    cases q with
    | zero=>simpa using h1
    | succ q=>rw[Nat.zero_pow (by omega)];omega
  · exact Nat.lt_of_le_of_lt (Nat.pow_le_pow_right (by omega) h) hM
theorem half_step (n i:Nat):n / 2 ^ i=2*(n / 2 ^ (i+1))+(n / 2 ^ i) % 2:=by
  rw[Nat.pow_succ,←Nat.div_div_eq_div_mul];omega
theorem pow_even (m n i:Nat) (h:(n / 2 ^ i) % 2=0):m ^ (n / 2 ^ i)=m ^ (n / 2 ^ (i+1))*m ^ (n / 2 ^ (i+1)):=by
  rw[←Nat.pow_add];congr 1;have:=half_step n i;omega
theorem pow_odd (m n i:Nat) (h:(n / 2 ^ i) % 2=1):m ^ (n / 2 ^ i)=m ^ (n / 2 ^ (i+1))*m ^ (n / 2 ^ (i+1))*m:=by
  rw[←Nat.pow_add,←Nat.pow_succ];congr 1;have:=half_step n i;omega
theorem bitLen_ok (n:Nat) (hn:n≤9223372036854775807):Lib.bitLen n≤64∧n / 2 ^ Lib.bitLen n=0:=by
  by_cases h0:n=0
  · subst h0
    exact⟨by decide,by simp⟩
  · obtain⟨h1,h2,h3⟩:=Lib.bitLenAux_bounds 64 n (by omega) h0
    have e:Lib.bitLen n=Lib.bitLenAux 64 n:=rfl;rw[e];refine⟨?_,Nat.div_eq_of_lt (by simpa using h3)⟩
    apply Decidable.byContradiction
    intro hc;have h4:2 ^ 64≤2 ^ (Lib.bitLenAux 64 n - 1):=Nat.pow_le_pow_right (by decide) (by omega)
    omega
theorem and_one' (x:Int):bits .and .i64 x 1=x % 2:=by
  have h1:(BitVec.ofInt 64 1).toNat=2 ^ 1 - 1:=by decide
  have key:(BitVec.ofInt 64 x &&& BitVec.ofInt 64 1).toNat=(x % ((2 ^ 64:Nat):Int)).toNat % 2 ^ 1:=by
    rw[BitVec.toNat_and,BitVec.toNat_ofInt,h1,Nat.and_two_pow_sub_one_eq_mod]
  show IntKind.i64.wrap ((BitVec.ofInt 64 x &&& BitVec.ofInt 64 1).toNat:Nat)=x % 2;rw[key,IntKind.wrap_i64]
  omega
theorem and_one (n j:Nat):bits BinOp.and IntKind.i64 ((n:Int) / 2 ^ j) 1=(((n / 2 ^ j) % 2:Nat):Int):=by
  rw[and_one']
  push_cast
  rfl
theorem bigPow_any (x:Value) (m n k:Nat) (w:World) (hx:zAf w x m) (hn:n≤9223372036854775807) (hk1:1≤k) (hk:k≤1000000) (hP:m ^ n<1000000000 ^ k) (hm:m<1000000000 ^ k) :
    Calls Tryz.prog 301 #[x,I (n:Int)] w fun e w'=>∃a l c,e=.returned (.agg #[.slice a l c])∧zAf w' (.agg #[.slice a l c]) (m ^ n)∧Bw w w':=by
  obtain⟨xa,xn,xc,rfl⟩:=hx.shape;have HX:=zAb hx;have HP:=zAb hP;have HM:=zAb hm;have H92:=zAb (fun W=>Tryz.bits_Len (n:Int) W (by omega) (by omega));clear hx hP hm;obtain⟨hL,hL0⟩:=bitLen_ok n hn;have e9:((n:Int)).toNat=n:=by simp
  rw[e9]at H92;clear e9;generalize Lib.bitLen n=L at *
  have HL0:=zAb hL0;clear hL0;go_enter Tryz.func301,Tryz.ntmps301
  go_wp2_with (first
    | (go_at_call 210;refine(zFa 1 _ (by decide)).mono ?_;rintro e w2 ⟨ba,bn,bc,rfl,hbig,hb2⟩;have HBIG:=zAb hbig;clear hbig)
    | (go_at_call 364;refine(un H92 _).mono ?_;rintro e w' ⟨rfl,rfl⟩))
  have hs2:w.heap.size+2≤w2.heap.size:=by have:=hb2.size;simpa using this
  have hc0:w2.cell? ⟨w.heap.size,0,none⟩=some (.slice xa xn xc):=by rw[hb2.cell (p:=⟨w.heap.size,0,none⟩) (by simp;omega)];simp
  have hc1:w2.cell? ⟨w.heap.size+1,0,none⟩=some (.slice none 0 0):=by rw[hb2.cell (p:=⟨w.heap.size+1,0,none⟩) (by simp)];simp
  have hf1:w2.frozen? ⟨w.heap.size+1,0,none⟩=false:=by rw[hb2.frozen (p:=⟨w.heap.size+1,0,none⟩) (by simp)];simp
  have hbw:Below w.heap.size w w2:=(bA.alloc (by simp) _).trans (hb2.mono (by simp;omega));have HX2:=zAb ((un HX).later hbw)
  go_loopw [6] (fun t wr=>∃(i:Nat) (pa:Option Addr) (pn pc:Nat),i≤64∧t=I ((i:Int) - 1)∧wr.cell? ⟨w2.heap.size,0,none⟩=some (.slice pa pn pc)∧wr.frozen? ⟨w2.heap.size,0,none⟩=false∧Hid (zAf wr (.agg #[.slice pa pn pc]) (m ^ (n / 2 ^ i)))∧Bw w2 wr) (fun t _=>(intOf t+1).toNat)
  case atStart=>exact⟨L,ba,bn,bc,hL,by go_num,World.cell?_alloc_at _ _ _ _ rfl,World.frozen?_alloc_at _ _ _ _ rfl,by rw[un HL0];exact(un HBIG).later bA,bA⟩
  case round =>
    obtain⟨i,pa,pn,pc,hi,rfl,hcell,hfr,HB,hbl⟩:=hrel
    by_cases h0:0<i
    · obtain ⟨j,rfl⟩:∃j,i=j+1:=⟨i - 1,by omega⟩
      have e6:((j+1:Nat):Int) - 1=(j:Int):=by omega
      rw[e6];clear e6;have h1:1<1000000000 ^ k:=Nat.one_lt_pow (by omega) (by decide);have hst:=half_step n j;have hdl:n / 2 ^ j≤n:=Nat.div_le_self _ _;have B1:=powLt m n (n / 2 ^ (j+1)) _ (by omega) (un HP) h1;have B2:m ^ (n / 2 ^ (j+1))*m ^ (n / 2 ^ (j+1))<1000000000 ^ k:=by rw[←Nat.pow_add];exact powLt m n _ _ (by omega) (un HP) h1
      have HE:=zAb (pow_even m n j);have HO:=zAb (pow_odd m n j);generalize m ^ (n / 2 ^ (j+1))=Q at *
      have H1:=zAb (fun W v (hv:zAf W v Q)=>mulB v v Q Q (Q*Q) k W hv hv hk B1 B1 rfl);have H2:=zAb (fun W v x (hv:zAf W v (Q*Q)) (hx:zAf W x m)=>mulB v x (Q*Q) m (Q*Q*m) k W hv hx hk B2 (un HM) rfl);clear B1 B2 h1 hst hdl;have hg:w2.heap.size<wr.heap.size:=World.block_lt_of_cell? _ _ hcell;have hc0r:=(hbl.cell (p:=⟨w.heap.size,0,none⟩) (by simp;omega)).trans hc0;have hand:=and_one n j
      by_cases hbit:(n / 2 ^ j) % 2=1
      · rw[hbit]at hand
        rw[←un HO hbit]at H2
        go_wp2_with (first
          | (go_at_call_of 151 (Value.agg #[Value.slice pa pn pc]);refine(un H1 _ _ (un HB)).mono ?_;rintro e w3 ⟨ya,yn,yc,rfl,hy,hb3⟩;have HY:=zAb (hy.box (.slice ya yn yc) (zBt hb3 hg hcell hfr).1 (zBi _ _ _));clear hy;obtain⟨hcell3,hfr3⟩:=zBt hb3 hg hcell hfr;have hcell4:=World.cell?_setCell_same w3 ⟨w2.heap.size,0,none⟩ (.slice ya yn yc) hcell3;have hfr4:(w3.setCell ⟨w2.heap.size,0,none⟩ (.slice ya yn yc)).frozen? ⟨w2.heap.size,0,none⟩=false:=by rw[World.frozen?_setCell];exact hfr3
             have hb4:Below w2.heap.size w2 (w3.setCell ⟨w2.heap.size,0,none⟩ (.slice ya yn yc)):=(hbl.trans (hb3.mono hbl.size)).setCell (Nat.le_refl _) _;have hc04:=(hb4.cell (p:=⟨w.heap.size,0,none⟩) (by simp;omega)).trans hc0)
          | (go_at_call_of 151 (Value.agg #[Value.slice xa xn xc]);refine(un H2 _ _ _ (un HY) ((un HX2).later hb4)).mono ?_;rintro e w5 ⟨za,zn,zc,rfl,hz,hb5⟩;obtain⟨hcell5,hfr5⟩:=zBt hb5 (World.block_lt_of_cell? _ _ hcell4) hcell4 hfr4;have HZ:=zAb (hz.box (.slice za zn zc) hcell5 (zBi _ _ _));clear hz))
        go_roundw
        case rel=>exact⟨j,za,zn,zc,by omega,by go_num,World.cell?_setCell_same _ _ _ hcell5,by rw[World.frozen?_setCell];exact hfr5,HZ,(hb4.trans (hb5.mono hb4.size)).setCell (Nat.le_refl _) _⟩
        case measure=>simp[intOf]
      · have hbit0:(n / 2 ^ j) % 2=0:=by omega
        rw[hbit0]at hand;rw[←un HE hbit0]at H1
        go_wp2_with (first
          | (go_at_call_of 151 (Value.agg #[Value.slice pa pn pc]);refine(un H1 _ _ (un HB)).mono ?_;rintro e w3 ⟨ya,yn,yc,rfl,hy,hb3⟩;have HY:=zAb (hy.box (.slice ya yn yc) (zBt hb3 hg hcell hfr).1 (zBi _ _ _));clear hy;obtain⟨hcell3,hfr3⟩:=zBt hb3 hg hcell hfr))
        go_roundw
        case rel=>exact⟨j,ya,yn,yc,by omega,by go_num,World.cell?_setCell_same _ _ _ hcell3,by rw[World.frozen?_setCell];exact hfr3,HY,(hbl.trans (hb3.mono hbl.size)).setCell (Nat.le_refl _) _⟩
        case measure=>simp[intOf]
    · have hi0:i=0:=by omega
      subst hi0;have HB':Hid (zAf wr (.agg #[.slice pa pn pc]) (m ^ n)):=by have:=un HB;rw[Nat.pow_zero,Nat.div_one]at this;exact this
      have hc1r:=(hbl.cell (p:=⟨w.heap.size+1,0,none⟩) (by simp;omega)).trans hc1;have hf1r:=(hbl.frozen (p:=⟨w.heap.size+1,0,none⟩) (by simp;omega)).trans hf1
      go_wp2
      refine bodyPost_ret (v:=.agg #[.slice pa pn pc]) (by simp[results,Tryz.results301,go_sem,hc1r]) rfl ⟨_,_,_,rfl,?_,?_⟩
      · exact(un HB').box _ hc1r (zBi _ _ _)
      · exact(hbw.trans (hbl.mono (by omega))).setCell (by simp) _
theorem power_of (x:Value) (m n M L1 L2:Nat) (w:World) (hx:zAf w x m) (hn:n≤4096) (hM:m ^ n=M) (h67:m<1000000000 ^ 67) (hP67:m ^ n<1000000000 ^ 67) (hL1:Lib.nDigits m=L1) (hL2:Lib.nDigits M=L2) (hl1:L1≤600) (hl2:L2≤600) (hq:((L1:Int) - 1)*(n:Int)<600) (hq0:-5000≤((L1:Int) - 1)*(n:Int)) :
  Calls Tryz.prog 269 #[x,I (n:Int)] w fun e w'=>∃a l c,e=.returned (.tuple #[.agg #[.slice a l c],.bool true])∧zAf w' (.agg #[.slice a l c]) M∧Bw w w':=by
 obtain⟨xa,xn,xc,rfl⟩:=hx.shape;have HLN:Hid (∀W,zAf W (.agg #[.slice xa xn xc]) m→Calls Tryz.prog 119 #[.agg #[.slice xa xn xc]] W fun e w'=>e=.returned (I (L1:Int))∧Bw W w'):=fun W h=>by have:=zGu _ m 67 W h (by decide) h67;rw[hL1]at this;exact this
 have HLM:Hid (∀W v,zAf W v M→Calls Tryz.prog 119 #[v] W fun e w'=>e=.returned (I (L2:Int))∧Bw W w'):=fun W v h=>by have:=zGu v M 67 W h (by decide) (by rw[←hM];exact hP67);rw[hL2]at this;exact this
 have HPW:Hid (∀W,zAf W (.agg #[.slice xa xn xc]) m→Calls Tryz.prog 301 #[.agg #[.slice xa xn xc],I (n:Int)] W fun e w'=>∃a l c,e=.returned (.agg #[.slice a l c])∧zAf w' (.agg #[.slice a l c]) M∧Bw W w'):=fun W h=>by have:=bigPow_any _ m n 67 W h (by omega) (by decide) (by decide) hP67 h67;rw[hM]at this;exact this
 obtain⟨V,hV⟩:∃V,V=(w.alloc (.cells #[.slice xa xn xc] 80)).alloc (.cells #[.slice none 0 0] 80):=⟨_,rfl⟩;have HW:Hid (Bw w V):=by rw[hV];exact bA.alloc (by simp) _
 have HA:Hid (Box V w.heap.size (.slice xa xn xc)):=by rw[hV];exact⟨by simp[go_sem],by simp[go_sem]⟩
 have HR:Hid (Box V (w.heap.size+1) (.slice none 0 0)):=by rw[hV];exact⟨by simp[go_sem],by simp[go_sem]⟩
 have HX:=zAb (hx.later (un HW));have HV:=zAb hV;clear hV hx hM h67 hP67 hL1 hL2;go_enter Tryz.func269,Tryz.ntmps269
 go_upto_region 1 with fail
 rw[←un HV];clear HV;have a0:=(un HA).c
 go_upto_region 3 with (go_at_call 119;go_must(refine(un HLN _ (un HX)).mono ?_;rintro e w1 ⟨rfl,hb⟩;have HX1:=zAb ((un HX).later hb);have HA1:=zAb ((un HA).later hb);have HR1:=zAb ((un HR).later hb);have HW1:Hid (Bw w w1):=bt HW hb;clear hb a0))
 clear HX HA HR HW HLN hq hq0;have a0:=(un HA1).c
 go_upto_region 4 with (go_at_call 301;go_must(refine(un HPW _ (un HX1)).mono ?_;rintro e w2 ⟨pa,pn,pc,rfl,hp,hb⟩;have HP2:=zAb hp;have HR2:=zAb ((un HR1).later hb);have HW2:Hid (Bw w w2):=bt HW1 hb;clear hb hp a0))
 obtain⟨V3,hV3⟩:∃V3,V3=w2.alloc (.cells #[.slice pa pn pc] 80):=⟨_,rfl⟩;have hb3:Below w2.heap.size w2 V3:=by rw[hV3];exact bA
 have HB3:Hid (Box V3 w2.heap.size (.slice pa pn pc)):=by rw[hV3];exact⟨by simp[go_sem],by simp[go_sem]⟩
 have HP3:=zAb ((un HP2).later hb3);have HR3:=zAb ((un HR2).later hb3);have HW3:Hid (Bw w V3):=bt HW2 hb3;have HNE:Hid (¬w.heap.size+1=w2.heap.size):=(by have:=(un HR2).lt;show ¬_;omega);rw[←hV3];clear hV3 hb3 HP2 HR2 HW2 HX1 HA1 HR1 HW1;generalize w2.heap.size=g6 at *
 have HS0:Hid (V3.drew.cell? ⟨g6,0,none⟩=some (.slice pa pn pc)):=(un HB3).c;refine zAi 4 (fun _=>True) (fun W'=>W'.cell? ⟨g6,0,none⟩=some (.slice pa pn pc)) 6 rfl (by kernel_rfl) ?_;refine wT7 0 (.agg #[.slice pa pn pc]) rfl (Or.inl ⟨by rfl,?_⟩) ⟨trivial,un HS0⟩ ?_
 ·intro W' hW
  go_simp
 refine wT7 1 (.agg #[.slice pa pn pc]) rfl (Or.inl ⟨by rfl,?_⟩) ⟨trivial,un HS0⟩ ?_
 ·intro W' hW
  go_simp
 have HP4:Hid (zAf V3.drew (.agg #[.slice pa pn pc]) M):=(un HP3).later ((Below.refl _ _).drew);have HR4:Hid (Box V3.drew (w.heap.size+1) (.slice none 0 0)):=(un HR3).later ((Below.refl _ _).drew);have HB4:Hid (Box V3.drew g6 (.slice pa pn pc)):=(un HB3).later ((Below.refl _ _).drew);have HW4:Hid (Bw w V3.drew):=(un HW3).drew;clear HP3 HR3 HB3 HW3 HS0;generalize V3.drew=U at *
 refine wO 2 rfl rfl (fun K hK=>?_)
 go_simp
 refine(un HLM _ _ (un HP4)).mono ?_;rintro e U2 ⟨rfl,hb⟩;have HP5:=zAb ((un HP4).later hb);have HR5:=zAb ((un HR4).later hb);have HB5:=zAb ((un HB4).later hb);have HW5:Hid (Bw w U2):=bt HW4 hb;clear hb HP4 HR4 HB4 HW4;refine hK _ _ ⟨trivial,(un HB5).c⟩ ?_;clear hK K;have hl2I:(L2:Int)≤600:=by omega
 refine wT7 3 (.bool true) rfl (Or.inl ⟨by rfl,?_⟩) ⟨trivial,(un HB5).c⟩ ?_
 ·intro W' hW
  go_simp
 have r0:=(un HR5).c;have r1:=(un HR5).f;refine wL 4 rfl rfl (fun K hK=>?_)
 go_simp
 have hne:¬w.heap.size+1=g6:=un HNE;have HB6:=zAb ((un HB5).other (fun h=>hne h.symm) (.slice pa pn pc));refine hK _ _ (un HB6).c ?_;clear hK K;refine wL 5 rfl rfl (fun K hK=>?_)
 go_simp
 refine hK _ _ (un HB6).c ?_;clear hK K;refine wDn ?_
 go_wp2_with fail
 have hs:=(un HR5).set (.slice pa pn pc);have u0:=hs.c;refine bodyPost_ret (v:=.tuple #[.agg #[.slice pa pn pc],.bool true]) (by simp[results,Tryz.results269,go_sem,u0]) rfl ⟨_,_,_,rfl,?_,?_⟩
 ·exact(un HP5).box _ (un HR5).c (zBi _ _ _)
 ·exact(un HW5).setCell (by simp) _
theorem fpow_pos (b:Bool) (a1 a2:Option Addr) (l1 c1 l2 c2:Nat) (N D k NK DK:Nat) (w:World)
  (hN:zAf w (.agg #[.slice a1 l1 c1]) N) (hD:zAf w (.agg #[.slice a2 l2 c2]) D) (hk:k≤4096)
  (hp1:∀W v,zAf W v N→Calls Tryz.prog 269 #[v,I (k:Int)] W fun e w'=>∃a l c,e=.returned (.tuple #[.agg #[.slice a l c],.bool true])∧zAf w' (.agg #[.slice a l c]) NK∧Bw W w')
  (hp2:∀W v,zAf W v D→Calls Tryz.prog 269 #[v,I (k:Int)] W fun e w'=>∃a l c,e=.returned (.tuple #[.agg #[.slice a l c],.bool true])∧zAf w' (.agg #[.slice a l c]) DK∧Bw W w') :
  Calls Tryz.prog 235 #[.agg #[.bool b,.slice a1 l1 c1,.slice a2 l2 c2],I (k:Int)] w fun e w'=>∃v,e=.returned (.tuple #[v,I 0])∧zCd w' v (b && decide (k % 2=1)) NK DK∧Bw w w':=by
 obtain⟨V,hV⟩:∃V,V=(w.alloc (.cells #[.bool b,.slice a1 l1 c1,.slice a2 l2 c2] 82)).alloc (.cells #[.bool false,.slice none 0 0,.slice none 0 0] 82):=⟨_,rfl⟩;have HW:Hid (Bw w V):=by rw[hV];exact bA.alloc (by simp) _
 have HA:Hid (FBox V w.heap.size (.bool b) (.slice a1 l1 c1) (.slice a2 l2 c2)):=by rw[hV];exact(FBox.new _ _ _ _).later bA
 have HR:Hid (FBox V (w.heap.size+1) (.bool false) (.slice none 0 0) (.slice none 0 0)):=by rw[hV];have h:=FBox.new (w.alloc (.cells #[.bool b,.slice a1 l1 c1,.slice a2 l2 c2] 82)) (.bool false) (.slice none 0 0) (.slice none 0 0);rw[Dm.size_alloc]at h;exact h
 have HN:=zAb (hN.later (un HW));have HD:=zAb (hD.later (un HW));have H1:=zAb hp1;have H2:=zAb hp2;have HV:=zAb hV;have hk0:¬(k:Int)<0:=by omega
 have HPAR:Hid (((k:Int) % 2 == 1)=decide (k % 2=1)):=by
  show _=_;rw[Bool.eq_iff_iff];simp
  omega
 clear hV hN hD hp1 hp2;go_enter Tryz.func235,Tryz.ntmps235
 go_upto_region 1 with fail
 rw[←un HV];clear HV;have t0:=(un HA).c0;have t1:=(un HA).c1;have t2:=(un HA).c2
 go_upto_region 6 with (go_at_call 269;go_must(refine(un H1 _ _ (un HN)).mono ?_;rintro e w1 ⟨p1,p2,p3,rfl,hp,hb⟩;have HP1:=zAb hp;have HA1:=zAb ((un HA).later hb);have HR1:=zAb ((un HR).later hb);have HD1:=zAb ((un HD).later hb);have HW1:Hid (Bw w w1):=bt HW hb;clear hb hp t0 t1 t2))
 obtain⟨V3,hV3⟩:∃V3,V3=w1.alloc (.cells #[.slice p1 p2 p3] 80):=⟨_,rfl⟩;have hb3:Below w1.heap.size w1 V3:=by rw[hV3];exact bA
 have HX3:Hid (Box V3 w1.heap.size (.slice p1 p2 p3)):=by rw[hV3];exact⟨by simp[go_sem],by simp[go_sem]⟩
 have HP3:=zAb ((un HP1).later hb3);have HA3:=zAb ((un HA1).later hb3);have HR3:=zAb ((un HR1).later hb3);have HD3:=zAb ((un HD1).later hb3);have HW3:Hid (Bw w V3):=bt HW1 hb3;have HNE:Hid (¬w.heap.size+1=w1.heap.size):=(by have:=(un HR1).lt;show ¬_;omega);rw[←hV3];clear hV3 hb3 HP1 HA1 HR1 HD1 HW1 HA HR HN HD HW H1;generalize w1.heap.size=g6 at *
 have t0:=(un HA3).c0;have t1:=(un HA3).c1;have t2:=(un HA3).c2
 go_upto_region 7 with (go_at_call 269;go_must(refine(un H2 _ _ (un HD3)).mono ?_;rintro e w4 ⟨q1,q2,q3,rfl,hp,hb⟩;have HQ4:=zAb hp;have HA4:=zAb ((un HA3).later hb);have HR4:=zAb ((un HR3).later hb);have HX4:=zAb ((un HX3).later hb);have HP4:=zAb ((un HP3).later hb);have HW4:Hid (Bw w w4):=bt HW3 hb;clear hb hp t0 t1 t2))
 obtain⟨V5,hV5⟩:∃V5,V5=w4.alloc (.cells #[.slice q1 q2 q3] 80):=⟨_,rfl⟩;have hb5:Below w4.heap.size w4 V5:=by rw[hV5];exact bA
 have HY5:Hid (Box V5 w4.heap.size (.slice q1 q2 q3)):=by rw[hV5];exact⟨by simp[go_sem],by simp[go_sem]⟩
 have HX5:=zAb ((un HX4).later hb5);have HP5:=zAb ((un HP4).later hb5);have HQ5:=zAb ((un HQ4).later hb5);have HA5:=zAb ((un HA4).later hb5);have HR5:=zAb ((un HR4).later hb5);have HW5:Hid (Bw w V5):=bt HW4 hb5;rw[←hV5];clear hV5 hb5 HX4 HP4 HQ4 HA4 HR4 HW4 HX3 HP3 HA3 HR3 HD3 HW3 H2;generalize w4.heap.size=g8 at *
 have t0:=(un HA5).c0;have x0:=(un HX5).c;have y0:=(un HY5).c;have r0:=(un HR5).c0;have r1:=(un HR5).c1;have r2:=(un HR5).c2;have f0:=(un HR5).f0;have f1:=(un HR5).f1;have f2:=(un HR5).f2
 cases b
 ·go_wp2_with fail
  have hS:=(un HR5).store (.bool false) (.slice p1 p2 p3) (.slice q1 q2 q3);have u0:=hS.c0;have u1:=hS.c1;have u2:=hS.c2;refine bodyPost_ret (v:=.tuple #[.agg #[.bool false,.slice p1 p2 p3,.slice q1 q2 q3],I 0]) (w:=zAs V5 (w.heap.size+1) (.bool false) (.slice p1 p2 p3) (.slice q1 q2 q3)) (by simp[results,Tryz.results235,go_sem,u0,u1,u2]) rfl ⟨_,rfl,⟨_,_,?_,(un HR5).big _ _ _ (un HP5),(un HR5).big _ _ _ (un HQ5)⟩,zAq (un HW5) (by omega) _ _ _⟩;rw[Bool.false_and]
 ·go_wp2_with fail
  have hS:=(un HR5).store (.bool ((k:Int) % 2 == 1)) (.slice p1 p2 p3) (.slice q1 q2 q3);have u0:=hS.c0;have u1:=hS.c1;have u2:=hS.c2;refine bodyPost_ret (v:=.tuple #[.agg #[.bool ((k:Int) % 2 == 1),.slice p1 p2 p3,.slice q1 q2 q3],I 0]) (w:=zAs V5 (w.heap.size+1) (.bool ((k:Int) % 2 == 1)) (.slice p1 p2 p3) (.slice q1 q2 q3)) (by simp[results,Tryz.results235,go_sem,u0,u1,u2]) rfl ⟨_,rfl,⟨_,_,?_,(un HR5).big _ _ _ (un HP5),(un HR5).big _ _ _ (un HQ5)⟩,zAq (un HW5) (by omega) _ _ _⟩;rw[un HPAR,Bool.true_and]
theorem fpow_neg (b:Bool) (x1 x2:Option Addr) (y1 z1 y2 z2:Nat) (N D k NK DK:Nat) (sg:Int) (w:World)
  (hF:zCd w (.agg #[.bool b,.slice x1 y1 z1,.slice x2 y2 z2]) b D N) (hk:k≤4096) (hk1:0<k) (hsg0:sg≠0)
  (hsg:∀W,zCd W (.agg #[.bool b,.slice x1 y1 z1,.slice x2 y2 z2]) b D N→Calls Tryz.prog 68 #[.agg #[.bool b,.slice x1 y1 z1,.slice x2 y2 z2]] W fun e w'=>e=.returned (I sg)∧Bw W w')
  (hin:∀W,zCd W (.agg #[.bool b,.slice x1 y1 z1,.slice x2 y2 z2]) b D N→Calls Tryz.prog 155 #[.agg #[.bool b,.slice x1 y1 z1,.slice x2 y2 z2]] W fun e w'=>∃v,e=.returned v∧zCd w' v b N D∧Bw W w')
  (hp1:∀W v,zAf W v N→Calls Tryz.prog 269 #[v,I (k:Int)] W fun e w'=>∃a l c,e=.returned (.tuple #[.agg #[.slice a l c],.bool true])∧zAf w' (.agg #[.slice a l c]) NK∧Bw W w')
  (hp2:∀W v,zAf W v D→Calls Tryz.prog 269 #[v,I (k:Int)] W fun e w'=>∃a l c,e=.returned (.tuple #[.agg #[.slice a l c],.bool true])∧zAf w' (.agg #[.slice a l c]) DK∧Bw W w') :
  Calls Tryz.prog 235 #[.agg #[.bool b,.slice x1 y1 z1,.slice x2 y2 z2],I (-(k:Int))] w fun e w'=>∃v,e=.returned (.tuple #[v,I 0])∧zCd w' v (b && decide (k % 2=1)) NK DK∧Bw w w':=by
 obtain⟨V,hV⟩:∃V,V=(w.alloc (.cells #[.bool b,.slice x1 y1 z1,.slice x2 y2 z2] 82)).alloc (.cells #[.bool false,.slice none 0 0,.slice none 0 0] 82):=⟨_,rfl⟩;have HW:Hid (Bw w V):=by rw[hV];exact bA.alloc (by simp) _
 have HA:Hid (FBox V w.heap.size (.bool b) (.slice x1 y1 z1) (.slice x2 y2 z2)):=by rw[hV];exact(FBox.new _ _ _ _).later bA
 have HR:Hid (FBox V (w.heap.size+1) (.bool false) (.slice none 0 0) (.slice none 0 0)):=by rw[hV];have h:=FBox.new (w.alloc (.cells #[.bool b,.slice x1 y1 z1,.slice x2 y2 z2] 82)) (.bool false) (.slice none 0 0) (.slice none 0 0);rw[Dm.size_alloc]at h;exact h
 have HF:=zAb (hF.later (un HW));have H1:=zAb hp1;have H2:=zAb hp2;have HSG:=zAb hsg;have HIN:=zAb hin;have HV:=zAb hV;have hk0:-(k:Int)<0:=by omega
 have hsb:(sg == 0)=false:=by simpa using hsg0
 have HPAR:Hid (((k:Int) % 2 == 1)=decide (k % 2=1)):=by
  show _=_;rw[Bool.eq_iff_iff];simp
  omega
 clear hV hF hp1 hp2 hsg hin hsg0;go_enter Tryz.func235,Tryz.ntmps235
 go_upto_region 1 with fail
 rw[←un HV];clear HV;have t0:=(un HA).c0;have t1:=(un HA).c1;have t2:=(un HA).c2
 go_upto_region 4 with (go_at_call 68;go_must(refine(un HSG _ (un HF)).mono ?_;rintro e w1 ⟨rfl,hb⟩;have HF1:=zAb ((un HF).later hb);have HA1:=zAb ((un HA).later hb);have HR1:=zAb ((un HR).later hb);have HW1:Hid (Bw w w1):=bt HW hb;clear hb t0 t1 t2))
 clear hsb HF HA HR HW HSG;have t0:=(un HA1).c0;have t1:=(un HA1).c1;have t2:=(un HA1).c2;have f0:=(un HA1).f0;have f1:=(un HA1).f1;have f2:=(un HA1).f2
 go_upto_region 5 with (go_at_call 155;go_must(refine(un HIN _ (un HF1)).mono ?_;rintro e w2 ⟨v2,rfl,hv,hb⟩;obtain⟨a1,l1,c1,a2,l2,c2,rfl,hN,hD⟩:=hv.form;have HN2:=zAb hN;have HD2:=zAb hD;have HA2:=zAb ((un HA1).later hb);have HR2:=zAb ((un HR1).later hb);have HW2:Hid (Bw w w2):=bt HW1 hb;clear hb hv hN hD t0 t1 t2 f0 f1 f2;have t0:=(un HA2).c0;have t1:=(un HA2).c1;have t2:=(un HA2).c2;have f0:=(un HA2).f0;have f1:=(un HA2).f1;have f2:=(un HA2).f2))
 have HA:Hid (FBox (zAs w2 w.heap.size (.bool b) (.slice a1 l1 c1) (.slice a2 l2 c2)) w.heap.size (.bool b) (.slice a1 l1 c1) (.slice a2 l2 c2)):=(un HA2).store _ _ _;have HR:Hid (FBox (zAs w2 w.heap.size (.bool b) (.slice a1 l1 c1) (.slice a2 l2 c2)) (w.heap.size+1) (.bool false) (.slice none 0 0) (.slice none 0 0)):=(un HR2).other3 (by omega) _ _ _;have HN:Hid (zAf (zAs w2 w.heap.size (.bool b) (.slice a1 l1 c1) (.slice a2 l2 c2)) (.agg #[.slice a1 l1 c1]) N):=(un HA2).big _ _ _ (un HN2);have HD:Hid (zAf (zAs w2 w.heap.size (.bool b) (.slice a1 l1 c1) (.slice a2 l2 c2)) (.agg #[.slice a2 l2 c2]) D):=(un HA2).big _ _ _ (un HD2);have HW:Hid (Bw w (zAs w2 w.heap.size (.bool b) (.slice a1 l1 c1) (.slice a2 l2 c2))):=zAq (un HW2) (Nat.le_refl _) _ _ _;unfold zAs at HA HR HN HD HW
 clear t0 t1 t2 f0 f1 f2 HA2 HR2 HN2 HD2 HW2 HF1 HA1 HR1 HW1 HIN hk0;generalize ((w2.setCell ⟨w.heap.size,0,none⟩ (.bool b)).setCell ⟨w.heap.size,1,none⟩ (.slice a1 l1 c1)).setCell ⟨w.heap.size,2,none⟩ (.slice a2 l2 c2)=V at *
 have t0:=(un HA).c0;have t1:=(un HA).c1;have t2:=(un HA).c2
 go_upto_region 6 with (go_at_call 269;go_must(refine(un H1 _ _ (un HN)).mono ?_;rintro e w1 ⟨p1,p2,p3,rfl,hp,hb⟩;have HP1:=zAb hp;have HA1:=zAb ((un HA).later hb);have HR1:=zAb ((un HR).later hb);have HD1:=zAb ((un HD).later hb);have HW1:Hid (Bw w w1):=bt HW hb;clear hb hp t0 t1 t2))
 obtain⟨V3,hV3⟩:∃V3,V3=w1.alloc (.cells #[.slice p1 p2 p3] 80):=⟨_,rfl⟩;have hb3:Below w1.heap.size w1 V3:=by rw[hV3];exact bA
 have HX3:Hid (Box V3 w1.heap.size (.slice p1 p2 p3)):=by rw[hV3];exact⟨by simp[go_sem],by simp[go_sem]⟩
 have HP3:=zAb ((un HP1).later hb3);have HA3:=zAb ((un HA1).later hb3);have HR3:=zAb ((un HR1).later hb3);have HD3:=zAb ((un HD1).later hb3);have HW3:Hid (Bw w V3):=bt HW1 hb3;have HNE:Hid (¬w.heap.size+1=w1.heap.size):=(by have:=(un HR1).lt;show ¬_;omega);rw[←hV3];clear hV3 hb3 HP1 HA1 HR1 HD1 HW1 HA HR HN HD HW H1;generalize w1.heap.size=g6 at *
 have t0:=(un HA3).c0;have t1:=(un HA3).c1;have t2:=(un HA3).c2
 go_upto_region 7 with (go_at_call 269;go_must(refine(un H2 _ _ (un HD3)).mono ?_;rintro e w4 ⟨q1,q2,q3,rfl,hp,hb⟩;have HQ4:=zAb hp;have HA4:=zAb ((un HA3).later hb);have HR4:=zAb ((un HR3).later hb);have HX4:=zAb ((un HX3).later hb);have HP4:=zAb ((un HP3).later hb);have HW4:Hid (Bw w w4):=bt HW3 hb;clear hb hp t0 t1 t2))
 obtain⟨V5,hV5⟩:∃V5,V5=w4.alloc (.cells #[.slice q1 q2 q3] 80):=⟨_,rfl⟩;have hb5:Below w4.heap.size w4 V5:=by rw[hV5];exact bA
 have HY5:Hid (Box V5 w4.heap.size (.slice q1 q2 q3)):=by rw[hV5];exact⟨by simp[go_sem],by simp[go_sem]⟩
 have HX5:=zAb ((un HX4).later hb5);have HP5:=zAb ((un HP4).later hb5);have HQ5:=zAb ((un HQ4).later hb5);have HA5:=zAb ((un HA4).later hb5);have HR5:=zAb ((un HR4).later hb5);have HW5:Hid (Bw w V5):=bt HW4 hb5;rw[←hV5];clear hV5 hb5 HX4 HP4 HQ4 HA4 HR4 HW4 HX3 HP3 HA3 HR3 HD3 HW3 H2;generalize w4.heap.size=g8 at *
 have t0:=(un HA5).c0;have x0:=(un HX5).c;have y0:=(un HY5).c;have r0:=(un HR5).c0;have r1:=(un HR5).c1;have r2:=(un HR5).c2;have f0:=(un HR5).f0;have f1:=(un HR5).f1;have f2:=(un HR5).f2
 cases b
 ·go_wp2_with fail
  have hS:=(un HR5).store (.bool false) (.slice p1 p2 p3) (.slice q1 q2 q3);have u0:=hS.c0;have u1:=hS.c1;have u2:=hS.c2;refine bodyPost_ret (v:=.tuple #[.agg #[.bool false,.slice p1 p2 p3,.slice q1 q2 q3],I 0]) (w:=zAs V5 (w.heap.size+1) (.bool false) (.slice p1 p2 p3) (.slice q1 q2 q3)) (by simp[results,Tryz.results235,go_sem,u0,u1,u2]) rfl ⟨_,rfl,⟨_,_,?_,(un HR5).big _ _ _ (un HP5),(un HR5).big _ _ _ (un HQ5)⟩,zAq (un HW5) (by omega) _ _ _⟩;rw[Bool.false_and]
 ·go_wp2_with fail
  have hS:=(un HR5).store (.bool ((k:Int) % 2 == 1)) (.slice p1 p2 p3) (.slice q1 q2 q3);have u0:=hS.c0;have u1:=hS.c1;have u2:=hS.c2;refine bodyPost_ret (v:=.tuple #[.agg #[.bool ((k:Int) % 2 == 1),.slice p1 p2 p3,.slice q1 q2 q3],I 0]) (w:=zAs V5 (w.heap.size+1) (.bool ((k:Int) % 2 == 1)) (.slice p1 p2 p3) (.slice q1 q2 q3)) (by simp[results,Tryz.results235,go_sem,u0,u1,u2]) rfl ⟨_,rfl,⟨_,_,?_,(un HR5).big _ _ _ (un HP5),(un HR5).big _ _ _ (un HQ5)⟩,zAq (un HW5) (by omega) _ _ _⟩;rw[un HPAR,Bool.true_and]
theorem rpow_of (n1 d1:ByteArray) (x y:Rat) (j:Int) (w:World) (h1:IsR n1 d1 x) (hj1:-4096≤j) (hj2:j≤4096) (htab:Tab w)
  (hF:∀W v,QOf W v x 67→Calls Tryz.prog 235 #[v,I j] W fun e w'=>∃u,e=.returned (.tuple #[u,I 0])∧QOf w' u y 67∧Bw W w') :
  Ans 176 #[.agg #[.string n1,.string d1],I j] w (zEp y) (zEr y) (zHa y):=by
 unfold Ans;obtain⟨V,hV⟩:∃V,V=(w.alloc (.cells #[.string n1,.string d1] 28)).alloc (.cells #[G #[],G #[]] 28):=⟨_,rfl⟩;have HW:Hid (Bw w V):=by rw[hV];exact bA.alloc (by simp) _
 have HA:Hid (T2 V w.heap.size (.string n1) (.string d1)):=by rw[hV];exact⟨by simp[go_sem],by simp[go_sem],by simp[go_sem],by simp[go_sem]⟩
 have HR:Hid (T2 V (w.heap.size+1) (G #[]) (G #[])):=by rw[hV];exact⟨by simp[go_sem],by simp[go_sem],by simp[go_sem],by simp[go_sem]⟩
 have HRD:=zAb (qread n1 d1 x V h1);have HTA:Hid (∀W,Below w.heap.size w W→Tab W):=fun W h=>htab.later h
 have HF:=zAb hF;have HV:=zAb hV;have k1:¬(4096:Int)<j:=by omega
 have k2:¬j < -4096:=by omega
 generalize hn:zEp y=nY at *
 generalize hd:zEr y=dY at *
 generalize he:zHa y=eY at *
 have HTL:Hid (∀W v,QOf W v y 67→Tab W→Calls Tryz.prog 55 #[v] W fun r w'=>r=.returned (.tuple #[.agg #[.string nY,.string dY],I eY])∧Bw W w'):=fun W v h ht=>by have:=qtell v y 67 W h (by decide) ht;rw[hn,hd,he]at this;exact this
 clear hV h1 hF htab hj1 hj2 hn hd he;go_enter Tryz.func176,Tryz.ntmps176
 go_upto_region 1 with fail
 rw[←un HV];clear HV;have t0:=(un HA).c0;have t1:=(un HA).c1
 go_upto_region 2 with (go_at_call 118;go_must(refine(un HRD).mono ?_;rintro e w1 ⟨v1,rfl,hv1,hb1⟩;obtain⟨b1,i1,i2,i3,i4,i5,i6,rfl⟩:=hv1.form;have HQ1:=zAb hv1;have HR1:=zAb ((un HR).later hb1);have HW1:Hid (Bw w w1):=bt HW hb1;clear hv1 hb1 t0 t1))
 obtain⟨V2,hV2⟩:∃V2,V2=w1.alloc (.cells #[.bool b1,.slice i1 i2 i3,.slice i4 i5 i6] 82):=⟨_,rfl⟩;have hb2:Below w1.heap.size w1 V2:=by rw[hV2];exact bA
 have HX2:Hid (FBox V2 w1.heap.size (.bool b1) (.slice i1 i2 i3) (.slice i4 i5 i6)):=by rw[hV2];exact FBox.new _ _ _ _
 have HQ2:=zAb ((un HQ1).later hb2);have HR2:=zAb ((un HR1).later hb2);have HW2:Hid (Bw w V2):=bt HW1 hb2;rw[←hV2];clear hV2 hb2 HQ1 HR1 HW1 HA HR HW HRD;generalize w1.heap.size=g6 at *
 have t0:=(un HX2).c0;have t1:=(un HX2).c1;have t2:=(un HX2).c2
 go_upto_region 7 with (go_at_call 235;go_must(refine(un HF _ _ (un HQ2)).mono ?_;rintro e w3 ⟨u,rfl,hu,hb⟩;obtain⟨b3,m1,m2,m3,m4,m5,m6,rfl⟩:=hu.form;have HQ3:=zAb hu;have HR3:=zAb ((un HR2).later hb);have HW3:Hid (Bw w w3):=bt HW2 hb;clear hu hb t0 t1 t2))
 obtain⟨V4,hV4⟩:∃V4,V4=w3.alloc (.cells #[.bool b3,.slice m1 m2 m3,.slice m4 m5 m6] 82):=⟨_,rfl⟩;have hb4:Below w3.heap.size w3 V4:=by rw[hV4];exact bA
 have HX4:Hid (FBox V4 w3.heap.size (.bool b3) (.slice m1 m2 m3) (.slice m4 m5 m6)):=by rw[hV4];exact FBox.new _ _ _ _
 have HQ4:=zAb ((un HQ3).later hb4);have HR4:=zAb ((un HR3).later hb4);have HW4:Hid (Bw w V4):=bt HW3 hb4;rw[←hV4];clear hV4 hb4 HQ3 HR3 HW3 HQ2 HR2 HW2 HX2 HF k1 k2;generalize w3.heap.size=g8 at *
 have t0:=(un HX4).c0;have t1:=(un HX4).c1;have t2:=(un HX4).c2
 go_wp2_with (go_at_call 55;go_must(refine(un HTL _ _ (un HQ4) (un HTA _ (un HW4))).mono ?_;rintro e w5 ⟨rfl,hb⟩;have HR5:=zAb ((un HR4).later hb);have HW5:Hid (Bw w w5):=bt HW4 hb;clear hb t0 t1 t2;have r0:=(un HR5).c0;have r1:=(un HR5).c1;have f0:=(un HR5).f0;have f1:=(un HR5).f1))
 have hS:=(un HR5).store (.string nY) (.string dY);have u0:=hS.c0;have u1:=hS.c1;exact bodyPost_ret (v:=.tuple #[.agg #[.string nY,.string dY],I eY]) (w:=zBh w5 (w.heap.size+1) (.string nY) (.string dY)) (by simp[results,Tryz.results176,go_sem,u0,u1]) rfl ⟨rfl,zAk (un HW5) (by omega) _ _⟩
end Go.Proofs.YtliadckofhblnaaGreatDoor
namespace Cub
theorem valQ_mul {b c:Bool} {n d m e:Nat} (hd:0<d) (he:0<e):valQ b n d*valQ c m e=valQ (b != c) (n*m) (d*e):=by
 unfold valQ
 rw[←sg_mul]
 have h1:=dR hd
 have h2:=dR he
 push_cast
 grind
theorem parity (b:Bool) (k:Nat):((b && decide (k % 2=1)) != b)=(b && decide ((k+1) % 2=1)):=by
 cases b
 ·rfl
 ·rcases Nat.mod_two_eq_zero_or_one k with h|h
  ·have:(k+1) % 2=1:=by omega
   simp[h,this]
  ·have:(k+1) % 2=0:=by omega
   simp[h,this]
theorem pow_val {b:Bool} {n d:Nat} (hd:0<d) (k:Nat):valQ (b && decide (k % 2=1)) (n ^ k) (d ^ k)=(valQ b n d) ^ k:=by
 induction k with
 | zero=>
  rw[Nat.pow_zero,Nat.pow_zero]
  have:(b && decide (0 % 2=1))=false:=by simp
  rw[this]
  show((sg false 1:Int):Rat) / ((1:Nat):Rat)=_
  rw[show(valQ b n d) ^ 0=1 from by simp[Rat.pow_zero]]
  simp[sg]
  grind
 | succ k ih=>
  rw[Rat.pow_succ,←ih,valQ_mul (Nat.pow_pos hd) hd,parity,←Nat.pow_succ,←Nat.pow_succ]
theorem pow_low {b:Bool} {n d:Nat} (h:Low b n d) (k:Nat):Low (b && decide (k % 2=1)) (n ^ k) (d ^ k)∧valQ (b && decide (k % 2=1)) (n ^ k) (d ^ k)=(valQ b n d) ^ k:=by
 refine⟨⟨Nat.pow_pos h.pos,?_,?_⟩,pow_val h.pos k⟩
 ·exact Nat.Coprime.pow k k h.cop
 ·intro hb
  have hb':b=true:=by cases b<;>simp_all
  have hn:=h.sign hb'
  exact Nat.pos_iff_ne_zero.1 (Nat.pow_pos (Nat.pos_iff_ne_zero.2 hn))
def pw (x:Rat) (j:Int):Rat:=if j<0 then(x⁻¹) ^ (-j).toNat else x ^ j.toNat
end Cub
namespace Go.Proofs.YtliadckofhblnaaGreatDoor
open Go.RowKit
theorem digs_pow (m n E:Nat) (hm:0<m) (h:m ^ n<10 ^ E):(Lib.nDigits m - 1)*n<E:=by
 have h1:=Cub.nDigits_ge m hm;have h2:(10 ^ (Lib.nDigits m - 1)) ^ n≤m ^ n:=Nat.pow_le_pow_left h1 n;rw[←Nat.pow_mul]at h2;exact(Nat.pow_lt_pow_iff_right (by decide)).1 (Nat.lt_of_le_of_lt h2 h)
theorem digs_le (m E:Nat) (hm:0<m) (h:m<10 ^ E):Lib.nDigits m≤E:=by
 have h1:=Cub.nDigits_ge m hm;have h2:=(Nat.pow_lt_pow_iff_right (a:=10) (by decide)).1 (Nat.lt_of_le_of_lt h1 h)
 omega
theorem power_ok (x:Value) (m n E:Nat) (w:World) (hx:zAf w x m) (hm0:0<m) (hn:n≤4096) (hE:E=600) (hm:m<10 ^ E) (hP:m ^ n<10 ^ E) :
  Calls Tryz.prog 269 #[x,I (n:Int)] w fun e w'=>∃a l c,e=.returned (.tuple #[.agg #[.slice a l c],.bool true])∧zAf w' (.agg #[.slice a l c]) (m ^ n)∧Bw w w':=by
 have hle:10 ^ E≤1000000000 ^ 67:=pow_nine E 67 (by rw[hE];decide);have d1:=digs_pow m n E hm0 hP;have d2:=digs_le m E hm0 hm;have d3:=digs_le (m ^ n) E (Nat.pow_pos hm0) hP;have d4:=Lib.nDigits_pos m
 have e1:((Lib.nDigits m:Int) - 1)*(n:Int)=(((Lib.nDigits m - 1)*n:Nat):Int):=by
  rw[Int.natCast_mul,Int.natCast_sub d4];rfl
 exact power_of x m n (m ^ n) _ _ w hx hn rfl (Nat.lt_of_lt_of_le hm hle) (Nat.lt_of_lt_of_le hP hle) rfl rfl (by omega) (by omega) (by rw[e1];omega) (by rw[e1];omega)
theorem signI_ne (b:Bool) (n:Nat) (h:n≠0):signI b n≠0:=by cases b<;>simp[signI,h]
theorem fpow_ok (v:Value) (x:Rat) (j:Int) (w:World) (hq:QOf w v x 67) (hx:x≠0) (hs:Small x) (hj1:-4096≤j) (hj2:j≤4096) (hP:Small (Cub.pw x j)) :
  Calls Tryz.prog 235 #[v,I j] w fun e w'=>∃u,e=.returned (.tuple #[u,I 0])∧QOf w' u (Cub.pw x j) 67∧Bw w w':=by
 obtain⟨b,n,d,h1,h2,rfl,h4,h5⟩:=hq;obtain⟨e1,e2,e3⟩:=Cub.low_is h2;have hn0:n≠0:=by intro h;subst h;exact hx (Cub.valQ_zero _ _)
 have hd0:=h2.pos;have hn:n<10 ^ 600:=by rw[e2];exact hs.1
 have hd:d<10 ^ 600:=by rw[e3];exact hs.2
 clear e1 e2 e3;unfold Cub.pw at hP ⊢
 by_cases hj:j<0
 ·rw[if_pos hj]at hP ⊢
  obtain⟨k,hk⟩:∃k:Nat,j=-(k:Int):=⟨(-j).toNat,by omega⟩;have e:(-j).toNat=k:=by omega
  rw[e]at hP ⊢;rw[hk];obtain⟨m1,m2⟩:=Cub.inv_low h2 hn0;rw[←m2]at hP ⊢;obtain⟨p1,p2⟩:=Cub.pow_low m1 k;obtain⟨q1,q2,q3⟩:=Cub.low_is p1;rw[←p2]at hP ⊢;have hN:d ^ k<10 ^ 600:=by rw[q2];exact hP.1
  have hD:n ^ k<10 ^ 600:=by rw[q3];exact hP.2
  obtain⟨x1,y1,z1,x2,y2,z2,rfl,_,_⟩:=h1.form
  refine(fpow_neg b x1 x2 y1 z1 y2 z2 d n k (d ^ k) (n ^ k) (signI b n) w h1 (by omega) (by omega) (signI_ne b n hn0) (fun W h=>sign_any _ b n d W h) (fun W h=>inv_any _ b n d W h)
   (fun W u hu=>power_ok u d k 600 W hu hd0 (by omega) rfl hd hN) (fun W u hu=>power_ok u n k 600 W hu (Nat.pos_of_ne_zero hn0) (by omega) rfl hn hD)).mono ?_
  rintro r w' ⟨u,rfl,hf,hb⟩;exact⟨u,rfl,⟨_,_,_,hf,p1,rfl,Nat.lt_of_lt_of_le hN pow600,Nat.lt_of_lt_of_le hD pow600⟩,hb⟩
 ·rw[if_neg hj]at hP ⊢
  obtain⟨k,hk⟩:∃k:Nat,j=(k:Int):=⟨j.toNat,by omega⟩;have e:j.toNat=k:=by omega
  rw[e]at hP ⊢;rw[hk];obtain⟨p1,p2⟩:=Cub.pow_low h2 k;obtain⟨q1,q2,q3⟩:=Cub.low_is p1;rw[←p2]at hP ⊢;have hN:n ^ k<10 ^ 600:=by rw[q2];exact hP.1
  have hD:d ^ k<10 ^ 600:=by rw[q3];exact hP.2
  obtain⟨x1,y1,z1,x2,y2,z2,rfl,g1,g2⟩:=h1.form
  refine(fpow_pos b x1 x2 y1 z1 y2 z2 n d k (n ^ k) (d ^ k) w g1 g2 (by omega)
   (fun W u hu=>power_ok u n k 600 W hu (Nat.pos_of_ne_zero hn0) (by omega) rfl hn hN) (fun W u hu=>power_ok u d k 600 W hu hd0 (by omega) rfl hd hD)).mono ?_
  rintro r w' ⟨u,rfl,hf,hb⟩;exact⟨u,rfl,⟨_,_,_,hf,p1,rfl,Nat.lt_of_lt_of_le hN pow600,Nat.lt_of_lt_of_le hD pow600⟩,hb⟩
theorem rpow_ok (n1 d1:ByteArray) (x:Rat) (j:Int) (w:World) (h1:IsR n1 d1 x) (hj1:-4096≤j) (hj2:j≤4096) (hx0:x≠0) (hP:Small (Cub.pw x j)) (htab:Tab w) :
  Ans 176 #[.agg #[.string n1,.string d1],I j] w (zEp (Cub.pw x j)) (zEr (Cub.pw x j)) (zHa (Cub.pw x j)) :=
 rpow_of n1 d1 x _ j w h1 hj1 hj2 htab (fun W v hq=>fpow_ok v x j W hq hx0 ⟨h1.rt.hn,h1.rt.hd⟩ hj1 hj2 hP)
end Go.Proofs.YtliadckofhblnaaGreatDoor
namespace Go.Proofs.YtliadckofhblnaaGreatDoor.Pf
open Go.RowKit
def Made (f:Nat) (a b:Int):Prop:=∀W,Calls Tryz.prog f #[] W fun r w'=>r=.returned (.agg #[I a,I b])∧Bw W w'
theorem ptimes_any (a b c d:Int) (w:World) (h1:-1000≤b) (h2:b≤1000) (h3:-1000≤d) (h4:d≤1000) :
  Calls Tryz.prog 368 #[.agg #[I a,I b],.agg #[I c,I d]] w fun r w'=>r=.returned (.agg #[I a,I (b+d)])∧Bw w w':=by
 go_enter Tryz.func368,Tryz.ntmps368
 go_wp2
 exact bodyPost_ret (v:=.agg #[I a,I (b+d)]) (by simp[results,Tryz.results368,go_sem]) rfl ⟨rfl,(bA.alloc (by simp) _).alloc (by simp;omega) _⟩
theorem deca_made:Made 326 10 1:=by
 intro w;go_enter Tryz.func326,Tryz.ntmps326
 go_wp2
 exact bodyPost_ret (v:=.agg #[I 10,I 1]) (by simp[results,Tryz.results326,go_sem]) rfl ⟨rfl,bA⟩
theorem hecto_made:Made 327 10 2:=by
 intro w;have H1:=zAb deca_made;have H2:=zAb deca_made;unfold Made at H1 H2
 have HT:Hid (∀W,Calls Tryz.prog 368 #[.agg #[I 10,I 1],.agg #[I 10,I 1]] W fun r w'=>r=.returned (.agg #[I 10,I 2])∧Bw W w'):=fun W=>ptimes_any 10 1 10 1 W (by decide) (by decide) (by decide) (by decide)
 obtain⟨V,hV⟩:∃V,V=w.alloc (.cells #[I 0,I 0] 357):=⟨_,rfl⟩;have HS:Hid (T2 V w.heap.size (I 0) (I 0)∧Bw w V):=by rw[hV];exact⟨⟨by simp[go_sem],by simp[go_sem],by simp[go_sem],by simp[go_sem]⟩,bA⟩
 have HV:=zAb hV;go_enter Tryz.func327,Tryz.ntmps327
 go_upto_region 1 with fail
 rw[←un HV];clear hV HV
 go_wp2_with (first
  | (go_at_call 326;go_must(refine(un H1 _).mono ?_;rintro e wn ⟨rfl,hb⟩;replace HS:=zAb (And.intro ((un HS).1.later hb) ((un HS).2.trans (hb.mono (un HS).2.size)));clear hb))
  | (go_at_call 368;go_must(refine(un HT _).mono ?_;rintro e wl ⟨rfl,hb⟩;have HL:Hid (T2 wl w.heap.size (I 0) (I 0)∧Bw w wl):=⟨(un HS).1.later hb,(un HS).2.trans (hb.mono (un HS).2.size)⟩;clear hb;have r0:=(un HL).1.c0;have r1:=(un HL).1.c1;have rf0:=(un HL).1.f0;have rf1:=(un HL).1.f1)))
 have hS:=(un HL).1.store (I 10) (I 2);have hb:=zAk (un HL).2 (Nat.le_refl _) (I 10) (I 2);have v0:=hS.c0;have v1:=hS.c1;exact bodyPost_ret (v:=.agg #[I 10,I 2]) (w:=zBh wl w.heap.size (I 10) (I 2)) (by simp[results,Tryz.results327,go_sem,v0,v1]) rfl ⟨rfl,hb⟩
theorem kilo_made:Made 328 10 3:=by
 intro w;have H1:=zAb hecto_made;have H2:=zAb deca_made;unfold Made at H1 H2
 have HT:Hid (∀W,Calls Tryz.prog 368 #[.agg #[I 10,I 2],.agg #[I 10,I 1]] W fun r w'=>r=.returned (.agg #[I 10,I 3])∧Bw W w'):=fun W=>ptimes_any 10 2 10 1 W (by decide) (by decide) (by decide) (by decide)
 obtain⟨V,hV⟩:∃V,V=w.alloc (.cells #[I 0,I 0] 357):=⟨_,rfl⟩;have HS:Hid (T2 V w.heap.size (I 0) (I 0)∧Bw w V):=by rw[hV];exact⟨⟨by simp[go_sem],by simp[go_sem],by simp[go_sem],by simp[go_sem]⟩,bA⟩
 have HV:=zAb hV;go_enter Tryz.func328,Tryz.ntmps328
 go_upto_region 1 with fail
 rw[←un HV];clear hV HV
 go_wp2_with (first
  | (go_at_call 327;go_must(refine(un H1 _).mono ?_;rintro e wn ⟨rfl,hb⟩;replace HS:=zAb (And.intro ((un HS).1.later hb) ((un HS).2.trans (hb.mono (un HS).2.size)));clear hb))
  | (go_at_call 326;go_must(refine(un H2 _).mono ?_;rintro e wn ⟨rfl,hb⟩;replace HS:=zAb (And.intro ((un HS).1.later hb) ((un HS).2.trans (hb.mono (un HS).2.size)));clear hb))
  | (go_at_call 368;go_must(refine(un HT _).mono ?_;rintro e wl ⟨rfl,hb⟩;have HL:Hid (T2 wl w.heap.size (I 0) (I 0)∧Bw w wl):=⟨(un HS).1.later hb,(un HS).2.trans (hb.mono (un HS).2.size)⟩;clear hb;have r0:=(un HL).1.c0;have r1:=(un HL).1.c1;have rf0:=(un HL).1.f0;have rf1:=(un HL).1.f1)))
 have hS:=(un HL).1.store (I 10) (I 3);have hb:=zAk (un HL).2 (Nat.le_refl _) (I 10) (I 3);have v0:=hS.c0;have v1:=hS.c1;exact bodyPost_ret (v:=.agg #[I 10,I 3]) (w:=zBh wl w.heap.size (I 10) (I 3)) (by simp[results,Tryz.results328,go_sem,v0,v1]) rfl ⟨rfl,hb⟩
theorem small_of_err {x:Rat} (h:zHa x=0):Small x:=by
  unfold zHa at h
  by_cases hs:Small x
  · exact hs
  · rw[if_neg hs]at h;cases h
theorem one_lt (E:Nat) (h:E=600):(1:Nat)<10 ^ E:=Nat.one_lt_pow (by omega) (by decide)
theorem texts_low {n d:Nat} {x:Rat} (h:Cub.Low false n d) (e:x=Cub.valQ false n d) (hn:n<10 ^ 600) (hd:d<10 ^ 600):zEp x=tb n∧zEr x=tb d∧zHa x=0:=by
  subst e;obtain⟨e1,e2,e3⟩:=Cub.low_is h;have hs:Small (Cub.valQ false n d):=⟨by rw[←e2];exact hn,by rw[←e3];exact hd⟩;unfold zEp zEr zHa;rw[if_pos hs,if_pos hs,if_pos hs,←e1,←e2,←e3];exact⟨rfl,rfl,rfl⟩
theorem fac_pos (N k:Nat) (j:Int) (hj:j=(k:Int)) (h:N ^ k<10 ^ 600):zEp (Cub.pw (Cub.valQ false N 1) j)=tb (N ^ k)∧zEr (Cub.pw (Cub.valQ false N 1) j)=tb 1∧zHa (Cub.pw (Cub.valQ false N 1) j)=0:=by
  have hl:Cub.Low false N 1:=⟨by decide,Nat.gcd_one_right _,fun h=>by cases h⟩;obtain⟨h1,h2⟩:=Cub.pow_low hl k;simp only[Bool.false_and,Nat.one_pow]at h1 h2;refine texts_low h1 ?_ h (one_lt 600 rfl);unfold Cub.pw;rw[hj,if_neg (by omega),Int.toNat_natCast,h2]
theorem zCs {U W V:World} {O:Obj} (h:Below U.heap.size U W) (hb:Below (W.alloc O).heap.size (W.alloc O) V):Below U.heap.size U V :=
  (h.alloc h.size O).trans (hb.mono (h.alloc h.size O).size)
theorem zBw {W V:World} {O:Obj} (hb:Below (W.alloc O).drew.heap.size (W.alloc O).drew V):Below W.heap.size W V :=
  have h0:=(Below.refl W.heap.size W).alloc (Nat.le_refl _) O;have h:Below W.heap.size W (W.alloc O).drew:=h0.trans ((Below.refl _ _).drew.mono h0.size)
  h.trans (hb.mono h.size)
theorem zGz (N:Nat) (j:Int) (on od fn fd:ByteArray) (w:World)
    (hof:∀W,Below w.heap.size w W→Calls Tryz.prog 103 #[I (N:Int)] W fun r w'=>r=.returned (.agg #[.string on,.string od])∧Bw W w')
    (hpw:∀W,Below w.heap.size w W→Calls Tryz.prog 176 #[.agg #[.string on,.string od],I j] W fun r w'=>r=.returned (.tuple #[.agg #[.string fn,.string fd],I 0])∧Bw W w') :
    Calls Tryz.prog 358 #[.agg #[I (N:Int),I j]] w fun r w'=>r=.returned (.agg #[.string fn,.string fd])∧Bw w w':=by
  obtain⟨V,hV⟩:∃V,V=(w.alloc (.cells #[I (N:Int),I j] 357)).alloc (.cells #[G #[],G #[]] 28):=⟨_,rfl⟩;have HP:Hid (T2 V w.heap.size (I (N:Int)) (I j)):=by rw[hV];exact⟨by simp[go_sem],by simp[go_sem],by simp[go_sem],by simp[go_sem]⟩
  have HR:Hid (T2 V (w.heap.size+1) (G #[]) (G #[])):=by rw[hV];exact⟨by simp[go_sem],by simp[go_sem],by simp[go_sem],by simp[go_sem]⟩
  have HB:Hid (Bw w V):=by rw[hV];exact bA.alloc (by simp) _
  have HV:=zAb hV;have HOF:=zAb hof;have HPW:=zAb hpw;clear hof hpw;go_enter Tryz.func358,Tryz.ntmps358
  go_upto_region 1 with fail
  rw[←un HV];clear hV HV;have t0:=(un HP).c0;have t1:=(un HP).c1;have HC0:Hid (Bw V V.drew):=(Below.refl _ _).drew;have HUP:Hid (∀W,Below V.heap.size V W→Below w.heap.size w W):=fun W h=>bt HB h
  have HUA:Hid (∀W O,Below V.heap.size V W→Below w.heap.size w (W.alloc O)):=fun W O h=>(un HB).trans ((h.alloc h.size O).mono (un HB).size)
  have HUD:Hid (∀O,Below w.heap.size w (V.alloc O).drew):=fun O=>((un HB).alloc (un HB).size O).drew
  have hv0:=(un HP).lt
  go_region_held3 (fun w'=>w'.cell? ⟨w.heap.size,0,none⟩=some (I (N:Int))∧w'.cell? ⟨w.heap.size,1,none⟩=some (I j)) (first|assumption|(simp[go_sem, *];done)) ((first
    | (go_at_call 103;go_must(refine(un HOF _ (by first|exact un HUP _ (un HC0)|exact un HUA _ _ (un HC0)|exact un HUD _)).mono ?_;rintro e wa ⟨rfl,hb⟩;have HCwa:Hid (Bw V wa):=(by first|exact bt HC0 hb|exact zCs (un HC0) hb|exact zBw hb);(first|(have HZa:=zAb ((un HZ0).later hb);clear u0 u1 uf0 uf1;have u0:=(un HZa).c0;have u1:=(un HZa).c1;have uf0:=(un HZa).f0;have uf1:=(un HZa).f1)|(have HZa:Hid (T2 wa V.heap.size (G #[]) (G #[])):=(by first|exact T2.past hb|exact T2.pastD hb);have u0:=(un HZa).c0;have u1:=(un HZa).c1;have uf0:=(un HZa).f0;have uf1:=(un HZa).f1)|skip);clear hb t0 t1;have t0:=((un HP).later (un HCwa)).c0;have t1:=((un HP).later (un HCwa)).c1;have hvwa:=((un HP).later (un HCwa)).lt))
    | (go_at_call 176;go_must(refine(un HPW _ (by first|exact un HUP _ (un HCwa)|exact un HUA _ _ (un HCwa)|exact un HUD _)).mono ?_;rintro e wb ⟨rfl,hb⟩;have HCwb:Hid (Bw V wb):=(by first|exact bt HCwa hb|exact zCs (un HCwa) hb|exact zBw hb);(first|(have HZb:=zAb ((un HZa).later hb);clear u0 u1 uf0 uf1;have u0:=(un HZb).c0;have u1:=(un HZb).c1;have uf0:=(un HZb).f0;have uf1:=(un HZb).f1)|(have HZb:Hid (T2 wb wa.heap.size (G #[]) (G #[])):=(by first|exact T2.past hb|exact T2.pastD hb);have u0:=(un HZb).c0;have u1:=(un HZb).c1;have uf0:=(un HZb).f0;have uf1:=(un HZb).f1)|skip);clear hb t0 t1;have t0:=((un HP).later (un HCwb)).c0;have t1:=((un HP).later (un HCwb)).c1;have hvwb:=((un HP).later (un HCwb)).lt))))
  all_goals
    first
    | (obtain⟨X,hX⟩:∃X,X=wb.heap.size:=⟨_,rfl⟩
       obtain⟨U,hU⟩:∃U,U=wb.alloc (.cells #[.string fn,.string fd] 28):=⟨_,rfl⟩
       have HF:Hid (T2 U X (.string fn) (.string fd)∧T2 U (w.heap.size+1) (G #[]) (G #[])∧Bw w U):=by
         rw[hU,hX];exact⟨⟨by simp[go_sem],by simp[go_sem],by simp[go_sem],by simp[go_sem]⟩,((un HR).later (un HCwb)).later bA,un HUA _ _ (un HCwb)⟩
       rw[←hU,←hX];clear hU hX)
    | (obtain⟨X,hX⟩:∃X,X=wa.heap.size:=⟨_,rfl⟩
       obtain⟨U,hU⟩:∃U,U=(wb.setCell { block:=wa.heap.size,off:=0 } (.string fn)).setCell { block:=wa.heap.size,off:=1 } (.string fd):=⟨_,rfl⟩
       have HF:Hid (T2 U X (.string fn) (.string fd)∧T2 U (w.heap.size+1) (G #[]) (G #[])∧Bw w U):=by
         rw[hU,hX];have h1:=((un HR).later (un HCwa)).lt;exact⟨(un HZb).store _ _,((un HR).later (un HCwb)).otherP wa.heap.size (by omega) _ _,zAk (un HUP _ (un HCwb)) (by omega) _ _⟩
       rw[←hU,←hX];clear hU hX)
    | (obtain⟨X,hX⟩:∃X,X=V.heap.size:=⟨_,rfl⟩
       obtain⟨U,hU⟩:∃U,U=(wb.setCell { block:=V.heap.size,off:=0 } (.string fn)).setCell { block:=V.heap.size,off:=1 } (.string fd):=⟨_,rfl⟩
       have HF:Hid (T2 U X (.string fn) (.string fd)∧T2 U (w.heap.size+1) (G #[]) (G #[])∧Bw w U):=by
         rw[hU,hX];have h1:=(un HR).lt;exact⟨(un HZb).store _ _,((un HR).later (un HCwb)).otherP V.heap.size (by omega) _ _,zAk (un HUP _ (un HCwb)) (by omega) _ _⟩
       rw[←hU,←hX];clear hU hX)
  all_goals
    have x0:=(un HF).1.c0;have x1:=(un HF).1.c1;have r0:=(un HF).2.1.c0;have r1:=(un HF).2.1.c1;have rf0:=(un HF).2.1.f0;have rf1:=(un HF).2.1.f1
    go_wp2_with fail
    have hS:=(un HF).2.1.store (.string fn) (.string fd);have hb:=zAk (un HF).2.2 (by omega) (.string fn) (.string fd) (g:=w.heap.size+1);have v0:=hS.c0;have v1:=hS.c1;exact bodyPost_ret (v:=.agg #[.string fn,.string fd]) (w:=zBh U (w.heap.size+1) (.string fn) (.string fd)) (by simp[results,Tryz.results358,go_sem,v0,v1]) rfl ⟨rfl,hb⟩
theorem zCa (N:Nat) (j:Int) (fn fd:ByteArray) (w:World) (htab:Tab w) (hN:0<N) (hN2:N<100000) (hj1:-4096≤j) (hj2:j≤4096) (h:zEp (Cub.pw (Cub.valQ false N 1) j)=fn∧zEr (Cub.pw (Cub.valQ false N 1) j)=fd∧zHa (Cub.pw (Cub.valQ false N 1) j)=0) :
    Calls Tryz.prog 358 #[.agg #[I (N:Int),I j]] w fun r w'=>r=.returned (.agg #[.string fn,.string fd])∧Bw w w':=by
  have hs:N<10 ^ 600:=u64_600 N (by omega);have hl:Cub.Low false N 1:=⟨by decide,Nat.gcd_one_right _,fun h=>by cases h⟩;obtain⟨e1,e2,e3⟩:=Cub.low_is hl;have hsm:Small (Cub.valQ false N 1):=⟨by rw[←e2];exact hs,by rw[←e3];exact one_lt 600 rfl⟩
  have hR:IsR (sT false N) ⟨#[49]⟩ (Cub.valQ false N 1):=by
    refine⟨hsm,?_,?_⟩
    · unfold zEp;rw[if_pos hsm,←e1,←e2]
    · unfold zEr;rw[if_pos hsm,←e3];exact(zHk ⟨#[49]⟩ 1 (by decide) (by decide)).1
  have hx0:Cub.valQ false N 1≠0:=fun e=>by
    rw[e]at e2;have:N=0:=e2
    omega
  refine zGz N j (sT false N) ⟨#[49]⟩ fn fd w (fun W hb=>zCg N W (by omega) (htab.later hb)) (fun W hb=>?_);have hp:=rpow_ok (sT false N) ⟨#[49]⟩ (Cub.valQ false N 1) j W hR hj1 hj2 hx0 (small_of_err h.2.2) (htab.later hb);unfold Ans at hp
  rw[h.1,h.2.1,h.2.2]at hp;exact hp
section
variable {P:Program} {ops:Array Oper} {md:Region.Mode} {C:World→Prop}
def waitsB (md:Region.Mode) (o:Oper) (i:Nat):Bool:=o.after.any fun e=>Region.binds md e && e.on == i
theorem waits_spec {o:Oper} {i:Nat} (h:waitsB md o i=true):∃e∈o.after,Region.binds md e=true∧e.on=i:=by
 unfold waitsB at h
 rw[Array.any_eq_true]at h;obtain⟨j,hj,h2⟩:=h;rw[Bool.and_eq_true,beq_iff_eq]at h2;exact⟨_,Array.getElem_mem hj,h2⟩
def wpAnyL (P:Program) (md:Region.Mode) (ops:Array Oper) (C:World→Prop) (Q:Act→Prop) (k:Nat):Nat→Array Bool→Act→Prop
 | 0,listed,a=>Region.ready md ops listed=[k]∧Region.ready md ops (listed.setIfInBounds k true)=[]∧Q a
 | fuel+1,listed,a=>Region.ready md ops listed≠[]∧
  ∀i∈Region.ready md ops listed,qOp P ops C i (wpAnyL P md ops C Q k fuel (listed.setIfInBounds i true)) a
theorem zHb {k:Nat} {Q:Act→Prop} {Q':Exit→Act→World→Prop} (hQ:∀a w,C w→Q a→wpOp P ops Q' k (fun a w=>Q' .normal a w) a w):∀(fuel:Nat) (listed:Array Bool) (a:Act) (w:World),C w→
 wpAnyL P md ops C Q k fuel listed a→wpAny P md ops Q' (fuel+1) listed a w
 | 0,_,_,_,hw,h=>⟨fun h0=>(by rw[h.1]at h0;cases h0),fun i hi=>by
  rw[h.1,List.mem_singleton]at hi;subst hi;exact wpOp_mono (fun a w hq=>⟨h.2.1,hq⟩) (hQ _ _ hw h.2.2)⟩
 | fuel+1,_,_,_,hw,h=>⟨fun h0=>absurd h0 h.1,fun i hi=>wpOp_of_qOp hw (fun a' w' hw'=>zHb hQ fuel _ a' w' hw') (h.2 i hi)⟩
theorem wpAnyL_first {Q:Act→Prop} {i k:Nat} {oi ok:Oper} {v:Value} (hi:ops[i]?=some oi) (hk:ops[k]?=some ok) (hwait:∃e∈ok.after,Region.binds md e=true∧e.on=i)
 (hsel:∀(j:Nat) (o:Oper) cs b,ops[j]?=some o→o.op≠.select cs b) :
 ∀(fuel:Nat) (listed:Array Bool) (a:Act),
  (∀j oj,ops[j]?=some oj→j≠i→listed.getD j true=false→(∀e∈oj.after,Region.binds md e=true→e.on≠i)→oi.apart ops oj=true)→
  i∈Region.ready md ops listed→YieldsIn P ops C oi v a→
  wpAnyL P md ops C Q k fuel (listed.setIfInBounds i true) (a.put oi.dst v)→wpAnyL P md ops C Q k (fuel+1) listed a:=by
 have late:∀(listed:Array Bool),i∈Region.ready md ops listed→k ∉ Region.ready md ops listed:=fun listed hr hkr=>by
  obtain⟨e,he,hb,hon⟩:=hwait;obtain⟨_,o,ho,hall⟩:=mem_ready.1 hkr;rw[hk]at ho;cases ho;have h1:=hall e he hb;have h0:=(mem_ready.1 hr).1;rw[hon]at h1;rcases Nat.lt_or_ge i listed.size with h'|h'
  ·simp[h']at h0 h1;rw[h0]at h1;cases h1
  ·simp[Array.getElem?_eq_none h']at h1
 intro fuel
 induction fuel with
 | zero=>
  intro listed a _ hr hy H;refine⟨fun h=>(by rw[h]at hr;cases hr),fun j hj=>?_⟩
  by_cases hji:j=i
  ·subst hji;exact hy.qOp hi H
  ·have:=ready_mono hj hji
   rw[H.1,List.mem_singleton]at this;subst this;exact absurd hj (late listed hr)
 | succ fuel ih=>
  intro listed a hfree hr hy H;refine⟨fun h=>(by rw[h]at hr;cases hr),fun j hj=>?_⟩
  by_cases hji:j=i
  ·subst hji;exact hy.qOp hi H
  ·have h1:=H.2 j (ready_mono hj hji)
   obtain⟨hjun,oj,hoj,hall⟩:=mem_ready.1 hj
   have hnot:∀e∈oj.after,Region.binds md e=true→e.on≠i:=fun e he hb heq=>by
    have h1:=hall e he hb;have h0:=(mem_ready.1 hr).1;rw[heq]at h1;rcases Nat.lt_or_ge i listed.size with h'|h'
    ·simp[h']at h0 h1;rw[h0]at h1;cases h1
    ·simp[Array.getElem?_eq_none h']at h1
   have h2:=qOp_put hoj (hfree j oj hoj hji hjun hnot) (fun cs b=>hsel i oi cs b hi) (fun cs b=>hsel j oj cs b hoj) hy h1
   have hfree':∀k ok,ops[k]?=some ok→k≠i→(listed.setIfInBounds j true).getD k true=false→
    (∀e∈ok.after,Region.binds md e=true→e.on≠i)→oi.apart ops ok=true:=fun k ok hk hki hun hno=>by
    refine hfree k ok hk hki ?_ hno
    by_cases hjk:j=k
    ·subst hjk;exact hjun
    ·rw[getD_set_ne true hjk]at hun;exact hun
   refine qOp_mono (fun a' h3=>ih (listed.setIfInBounds j true) a' hfree' (ready_mono hr (Ne.symm hji)) h3.1 ?_) h2;rw[Array.setIfInBounds_comm _ _ hji];exact h3.2
def lexLast (md:Region.Mode) (ops:Array Oper) (o:Oper):Nat→Nat→Array Bool→Bool
 | 0,k,listed=>(Region.ready md ops listed == [k]) && (Region.ready md ops (listed.setIfInBounds k true)).isEmpty
 | fuel+1,k,listed=>(Region.ready md ops listed).contains k && Region.free md ops listed k && waitsB md o k && lexLast md ops o fuel (k+1) (listed.setIfInBounds k true)
theorem wpAnyL_lex {Q:Act→Prop} {ok:Oper} (hs:Region.noSelect ops=true):∀(l:List Oper) (k:Nat) (listed:Array Bool) (a:Act),(∀j,j<l.length→l[j]?=ops[k+j]?)→ops[k+l.length]?=some ok→
 lexLast md ops ok l.length k listed=true→wpQuiet P ops C Q l a→wpAnyL P md ops C Q (k+l.length) l.length listed a
 | [],k,_,_,_,_,hB,h=>by
  simp only[List.length_nil,lexLast,Bool.and_eq_true,beq_iff_eq,List.isEmpty_iff]at hB;exact⟨hB.1,hB.2,h⟩
 | o :: l,k,listed,a,hl,hk,hB,h=>by
  have h0:ops[k]?=some o:=by simpa using (hl 0 (by simp)).symm
  simp only[List.length_cons,lexLast,Bool.and_eq_true]at hB;obtain⟨⟨⟨hr,hf⟩,hwt⟩,hB'⟩:=hB;have hst:qOp P ops C k (wpQuiet P ops C Q l) a:=by unfold qOp;simp only[h0];exact h
  obtain⟨v,hy,hK⟩:=yieldsIn_of_qOp h0 hst;have e:k+(o :: l).length=(k+1)+l.length:=by simp only[List.length_cons];omega
  rw[e]at hk ⊢
  exact wpAnyL_first h0 hk (waits_spec hwt) (Region.noSelect_spec hs) l.length listed a (Region.free_spec h0 hf) (by simpa using hr) hy
   (wpAnyL_lex hs l (k+1) _ _ (fun j hj=>by have:=hl (j+1) (by simp only[List.length_cons];omega);simpa [Nat.add_assoc,Nat.add_comm 1 j] using this) hk hB' hK)
def lastB (l:List Oper) (st:Oper):Bool:=Region.noSelect (l ++ [st]).toArray && lexLast .any (l ++ [st]).toArray st l.length 0 (Array.replicate (l ++ [st]).toArray.size false)
theorem quiet_last {id:Nat} {Q:Exit→Act→World→Prop} {a:Act} {w:World} {L l:List Oper} {st:Oper} (hL:L=l ++ [st]) (hm:P.follows .mixedOrders=true) (hB:lastB l st=true)
 (h:wpQuiet P L.toArray (fun w'=>∃x:zBy w,w'=x.world) (fun a'=>∀w',(∃x:zBy w,w'=x.world)→if Region.wanted st (yielded L.toArray a'.tmps)then st.wp P a' w' (fun a w=>Q .normal a w) Q else Q .normal (a'.put st.dst undef) w') l a):(Code.region id L.toArray true).wp P Q a w:=by
 subst hL;simp only[lastB,Bool.and_eq_true]at hB;have hlast:(l ++ [st]).toArray[0+l.length]?=some st:=by simp
 refine wp_region_any hm ?_;have hsz:(l ++ [st]).toArray.size=l.length+1:=by simp
 rw[hsz]at hB ⊢;refine zHb (k:=0+l.length) (C:=fun w'=>∃x:zBy w,w'=x.world) (Q:=fun a'=>∀w',(∃x:zBy w,w'=x.world)→if Region.wanted st (yielded (l ++ [st]).toArray a'.tmps)then st.wp P a' w' (fun a w=>Q .normal a w) Q else Q .normal (a'.put st.dst undef) w') ?_ _ _ _ _ ⟨⟨_,(Below.refl w.heap.size w).drew⟩,rfl⟩ ?_
 ·intro a' w' hw' hq
  have:=hq w' hw';unfold wpOp;rw[hlast]
  dsimp only
  split
  ·rename_i hwt;simp only[hwt,if_true]at this;exact .inl this
  ·rename_i hwt;simp only[hwt]at this;exact this
 ·exact wpAnyL_lex hB.1 l 0 _ a (fun j hj=>by simp[List.getElem?_append_left hj]) hlast hB.2 h
def lastOf (d:Oper):List Oper→Oper
 | []=>d
 | o :: l=>lastOf o l
theorem front_last (d:Oper):∀L:List Oper,L≠[]→L=L.dropLast ++ [lastOf d L]
 | [],h=>absurd rfl h
 | [o],_=>rfl
 | o :: o' :: l,_=>by
  have h:=front_last o (o' :: l) (by simp);rw[List.dropLast_cons_cons,List.cons_append];exact congrArg (o :: ·) h
theorem quiet_end {id:Nat} {Q:Exit→Act→World→Prop} {a:Act} {w:World} {o:Oper} {L:List Oper} (hm:P.follows .mixedOrders=true) (hB:lastB (o :: L).dropLast (lastOf o L)=true)
 (h:wpQuiet P (o :: L).toArray (fun w'=>∃x:zBy w,w'=x.world) (fun a'=>∀w',(∃x:zBy w,w'=x.world)→if Region.wanted (lastOf o L) (yielded (o :: L).toArray a'.tmps)then(lastOf o L).wp P a' w' (fun a w=>Q .normal a w) Q else Q .normal (a'.put (lastOf o L).dst undef) w') (o :: L).dropLast a):(Code.region id (o :: L).toArray true).wp P Q a w :=
 quiet_last (l:=(o :: L).dropLast) (st:=lastOf o L) (front_last o (o :: L) (by simp)) hm hB h
end
structure T5 (W:World) (g:Nat) (a b c d e:Value):Prop where
 c0:W.cell? ⟨g,0,none⟩=some a
 c1:W.cell? ⟨g,1,none⟩=some b
 c2:W.cell? ⟨g,2,none⟩=some c
 c3:W.cell? ⟨g,3,none⟩=some d
 c4:W.cell? ⟨g,4,none⟩=some e
 f0:W.frozen? ⟨g,0,none⟩=false
 f1:W.frozen? ⟨g,1,none⟩=false
 f2:W.frozen? ⟨g,2,none⟩=false
 f3:W.frozen? ⟨g,3,none⟩=false
 f4:W.frozen? ⟨g,4,none⟩=false
theorem T5.lt {W:World} {g:Nat} {a b c d e:Value} (h:T5 W g a b c d e):g<W.heap.size:=World.block_lt_of_cell? _ _ h.c0
theorem T5.later {W V:World} {g:Nat} {a b c d e:Value} (h:T5 W g a b c d e) (hb:Below W.heap.size W V):T5 V g a b c d e :=
 ⟨(hb.cell (p:=⟨g,0,none⟩) h.lt).trans h.c0,(hb.cell (p:=⟨g,1,none⟩) h.lt).trans h.c1,(hb.cell (p:=⟨g,2,none⟩) h.lt).trans h.c2,(hb.cell (p:=⟨g,3,none⟩) h.lt).trans h.c3,(hb.cell (p:=⟨g,4,none⟩) h.lt).trans h.c4,(hb.frozen (p:=⟨g,0,none⟩) h.lt).trans h.f0,(hb.frozen (p:=⟨g,1,none⟩) h.lt).trans h.f1,(hb.frozen (p:=⟨g,2,none⟩) h.lt).trans h.f2,(hb.frozen (p:=⟨g,3,none⟩) h.lt).trans h.f3,(hb.frozen (p:=⟨g,4,none⟩) h.lt).trans h.f4⟩
theorem T5.set0 {W:World} {g:Nat} {a b c d e:Value} (h:T5 W g a b c d e) (u:Value):T5 (W.setCell ⟨g,0,none⟩ u) g u b c d e :=
 ⟨World.cell?_setCell_same _ _ _ h.c0,by rw[World.cell?_setCell_other _ _ _ _ (by simp)];exact h.c1,by rw[World.cell?_setCell_other _ _ _ _ (by simp)];exact h.c2,by rw[World.cell?_setCell_other _ _ _ _ (by simp)];exact h.c3,by rw[World.cell?_setCell_other _ _ _ _ (by simp)];exact h.c4,by rw[World.frozen?_setCell];exact h.f0,by rw[World.frozen?_setCell];exact h.f1,by rw[World.frozen?_setCell];exact h.f2,by rw[World.frozen?_setCell];exact h.f3,by rw[World.frozen?_setCell];exact h.f4⟩
theorem T5.set1 {W:World} {g:Nat} {a b c d e:Value} (h:T5 W g a b c d e) (u:Value):T5 (W.setCell ⟨g,1,none⟩ u) g a u c d e :=
 ⟨by rw[World.cell?_setCell_other _ _ _ _ (by simp)];exact h.c0,World.cell?_setCell_same _ _ _ h.c1,by rw[World.cell?_setCell_other _ _ _ _ (by simp)];exact h.c2,by rw[World.cell?_setCell_other _ _ _ _ (by simp)];exact h.c3,by rw[World.cell?_setCell_other _ _ _ _ (by simp)];exact h.c4,by rw[World.frozen?_setCell];exact h.f0,by rw[World.frozen?_setCell];exact h.f1,by rw[World.frozen?_setCell];exact h.f2,by rw[World.frozen?_setCell];exact h.f3,by rw[World.frozen?_setCell];exact h.f4⟩
theorem T5.set2 {W:World} {g:Nat} {a b c d e:Value} (h:T5 W g a b c d e) (u:Value):T5 (W.setCell ⟨g,2,none⟩ u) g a b u d e :=
 ⟨by rw[World.cell?_setCell_other _ _ _ _ (by simp)];exact h.c0,by rw[World.cell?_setCell_other _ _ _ _ (by simp)];exact h.c1,World.cell?_setCell_same _ _ _ h.c2,by rw[World.cell?_setCell_other _ _ _ _ (by simp)];exact h.c3,by rw[World.cell?_setCell_other _ _ _ _ (by simp)];exact h.c4,by rw[World.frozen?_setCell];exact h.f0,by rw[World.frozen?_setCell];exact h.f1,by rw[World.frozen?_setCell];exact h.f2,by rw[World.frozen?_setCell];exact h.f3,by rw[World.frozen?_setCell];exact h.f4⟩
theorem T5.set3 {W:World} {g:Nat} {a b c d e:Value} (h:T5 W g a b c d e) (u:Value):T5 (W.setCell ⟨g,3,none⟩ u) g a b c u e :=
 ⟨by rw[World.cell?_setCell_other _ _ _ _ (by simp)];exact h.c0,by rw[World.cell?_setCell_other _ _ _ _ (by simp)];exact h.c1,by rw[World.cell?_setCell_other _ _ _ _ (by simp)];exact h.c2,World.cell?_setCell_same _ _ _ h.c3,by rw[World.cell?_setCell_other _ _ _ _ (by simp)];exact h.c4,by rw[World.frozen?_setCell];exact h.f0,by rw[World.frozen?_setCell];exact h.f1,by rw[World.frozen?_setCell];exact h.f2,by rw[World.frozen?_setCell];exact h.f3,by rw[World.frozen?_setCell];exact h.f4⟩
theorem T5.set4 {W:World} {g:Nat} {a b c d e:Value} (h:T5 W g a b c d e) (u:Value):T5 (W.setCell ⟨g,4,none⟩ u) g a b c d u :=
 ⟨by rw[World.cell?_setCell_other _ _ _ _ (by simp)];exact h.c0,by rw[World.cell?_setCell_other _ _ _ _ (by simp)];exact h.c1,by rw[World.cell?_setCell_other _ _ _ _ (by simp)];exact h.c2,by rw[World.cell?_setCell_other _ _ _ _ (by simp)];exact h.c3,World.cell?_setCell_same _ _ _ h.c4,by rw[World.frozen?_setCell];exact h.f0,by rw[World.frozen?_setCell];exact h.f1,by rw[World.frozen?_setCell];exact h.f2,by rw[World.frozen?_setCell];exact h.f3,by rw[World.frozen?_setCell];exact h.f4⟩
def store5 (W:World) (g:Nat) (a b c d e:Value):World:=((((W.setCell ⟨g,0,none⟩ a).setCell ⟨g,1,none⟩ b).setCell ⟨g,2,none⟩ c).setCell ⟨g,3,none⟩ d).setCell ⟨g,4,none⟩ e
theorem T5.store {W:World} {g:Nat} {a b c d e:Value} (h:T5 W g a b c d e) (x y z u v:Value):T5 (store5 W g x y z u v) g x y z u v:=((((h.set0 x).set1 y).set2 z).set3 u).set4 v
theorem below_store5 {B g:Nat} {w W:World} (h:Below B w W) (hg:B≤g) (x y z u v:Value):Below B w (store5 W g x y z u v) :=
 ((((h.setCell (p:=⟨g,0,none⟩) hg x).setCell (p:=⟨g,1,none⟩) hg y).setCell (p:=⟨g,2,none⟩) hg z).setCell (p:=⟨g,3,none⟩) hg u).setCell (p:=⟨g,4,none⟩) hg v
theorem binary_any (N:Nat) (j:Int) (bi:Bool) (w:World) (h:(((N:Nat):Int) == 1024)=bi):Calls Tryz.prog 359 #[.agg #[I (N:Int),I j]] w fun r w'=>r=.returned (.bool bi)∧Bw w w':=by
 go_enter Tryz.func359,Tryz.ntmps359
 go_wp2
 go_ret
 exact⟨by rw[←h];rfl,bA⟩
def RowV (nm sy:ByteArray) (f:Nat):Value:=.agg #[.string nm,.string sy,.func (.func f) #[] #[]]
def Tells (f:Nat) (N:Nat) (j:Int) (bi:Bool):Prop:=∀(nm sy fn fd:ByteArray) (w:World),(∀W,Below w.heap.size w W→Calls Tryz.prog 358 #[.agg #[I (N:Int),I j]] W fun r w'=>r=.returned (.agg #[.string fn,.string fd])∧Bw W w')→
 Calls Tryz.prog 299 #[RowV nm sy f] w fun r w'=>r=.returned (.agg #[.string nm,.string sy,.string fn,.string fd,.bool bi])∧Bw w w'
end Go.Proofs.YtliadckofhblnaaGreatDoor.Pf

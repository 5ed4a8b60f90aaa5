/- dim.Mul: of any number of dimensions. -/
import Derived.Test.YtliadckofhblnaaGreatDoorAdd
import Derived.Test.YtliadckofhblnaaGreatDoorReads
import Derived.Deep.RegionHeld3
import Derived.Deep.Cut
import Derived.Test.YtliadckofhblnaaGreatDoorTakeB
import Derived.Test.YtliadckofhblnaaGreatDoorRead
import Derived.Test.YtliadckofhblnaaGreatDoorProg
import Derived.WalkKit
import Derived.WalkSpells
import Derived.WalkLawsBesides
import Derived.Handy
import Derived.Deep.RegionWith
import Derived.Laws.Tables
import Derived.Laws.CopyOwn
import Derived.Laws.ResultCell
set_option maxHeartbeats 6400000
set_option maxRecDepth 100000
namespace Go.Proofs.YtliadckofhblnaaGreatDoor.Tm
open Go.RowKit
structure T4 (W:World) (g:Nat) (a b c d:Value):Prop where
 c0:W.cell? ⟨g,0,none⟩=some a
 c1:W.cell? ⟨g,1,none⟩=some b
 c2:W.cell? ⟨g,2,none⟩=some c
 c3:W.cell? ⟨g,3,none⟩=some d
 f0:W.frozen? ⟨g,0,none⟩=false
 f1:W.frozen? ⟨g,1,none⟩=false
 f2:W.frozen? ⟨g,2,none⟩=false
 f3:W.frozen? ⟨g,3,none⟩=false
theorem T4.lt {W:World} {g:Nat} {a b c d:Value} (h:T4 W g a b c d):g<W.heap.size:=World.block_lt_of_cell? _ _ h.c0
theorem T4.later {W V:World} {g:Nat} {a b c d:Value} (h:T4 W g a b c d) (hb:Below W.heap.size W V):T4 V g a b c d :=
 ⟨(hb.cell (p:=⟨g,0,none⟩) h.lt).trans h.c0,(hb.cell (p:=⟨g,1,none⟩) h.lt).trans h.c1,(hb.cell (p:=⟨g,2,none⟩) h.lt).trans h.c2,(hb.cell (p:=⟨g,3,none⟩) h.lt).trans h.c3,(hb.frozen (p:=⟨g,0,none⟩) h.lt).trans h.f0,(hb.frozen (p:=⟨g,1,none⟩) h.lt).trans h.f1,(hb.frozen (p:=⟨g,2,none⟩) h.lt).trans h.f2,(hb.frozen (p:=⟨g,3,none⟩) h.lt).trans h.f3⟩
def store4 (W:World) (g:Nat) (a b c d:Value):World:=(((W.setCell ⟨g,0,none⟩ a).setCell ⟨g,1,none⟩ b).setCell ⟨g,2,none⟩ c).setCell ⟨g,3,none⟩ d
theorem T4.store {W:World} {g:Nat} {a b c d:Value} (h:T4 W g a b c d) (x y z t:Value):T4 (store4 W g x y z t) g x y z t:=by
 have c0:=h.c0;have c1:=h.c1;have c2:=h.c2;have c3:=h.c3;have f0:=h.f0;have f1:=h.f1;have f2:=h.f2;have f3:=h.f3;unfold store4;exact⟨by simp[go_sem, *],by simp[go_sem, *],by simp[go_sem, *],by simp[go_sem, *],by simp[go_sem, *],by simp[go_sem, *],by simp[go_sem, *],by simp[go_sem, *]⟩
theorem below_store4 {B g:Nat} {w W:World} (h:Below B w W) (hg:B≤g) (a b c d:Value):Below B w (store4 W g a b c d) :=
 (((h.setCell (p:=⟨g,0,none⟩) hg a).setCell (p:=⟨g,1,none⟩) hg b).setCell (p:=⟨g,2,none⟩) hg c).setCell (p:=⟨g,3,none⟩) hg d
theorem times_c (w:World):Calls Tryz.prog 183 #[.agg #[I 1,I 1],.agg #[I 0,I 1]] w fun r w'=>r=.returned (.agg #[I 0,I 1])∧Bw w w':=by
 go_enter Tryz.func183,Tryz.ntmps183
 go_wp2
 exact bodyPost_ret (v:=.agg #[I 0,I 1]) (by simp[results,Tryz.results183,go_sem]) rfl ⟨rfl,(bA.alloc (by simp) _).alloc (by simp;omega) _⟩
theorem times_r (w:World):Calls Tryz.prog 183 #[.agg #[I 5,I 9],.agg #[I 32,I 1]] w fun r w'=>r=.returned (.agg #[I 160,I 9])∧Bw w w':=by
 go_enter Tryz.func183,Tryz.ntmps183
 go_wp2
 exact bodyPost_ret (v:=.agg #[I 160,I 9]) (by simp[results,Tryz.results183,go_sem]) rfl ⟨rfl,(bA.alloc (by simp) _).alloc (by simp;omega) _⟩
theorem plus_c (w:World):Calls Tryz.prog 184 #[.agg #[I 0,I 1],.agg #[I 27315,I 100]] w fun r w'=>r=.returned (.agg #[I 27315,I 100])∧Bw w w':=by
 go_enter Tryz.func184,Tryz.ntmps184
 go_wp2
 exact bodyPost_ret (v:=.agg #[I 27315,I 100]) (by simp[results,Tryz.results184,go_sem]) rfl ⟨rfl,(bA.alloc (by simp) _).alloc (by simp;omega) _⟩
theorem plus_r (w:World):Calls Tryz.prog 184 #[.agg #[I 160,I 9],.agg #[I 0,I 1]] w fun r w'=>r=.returned (.agg #[I 160,I 9])∧Bw w w':=by
 go_enter Tryz.func184,Tryz.ntmps184
 go_wp2
 exact bodyPost_ret (v:=.agg #[I 160,I 9]) (by simp[results,Tryz.results184,go_sem]) rfl ⟨rfl,(bA.alloc (by simp) _).alloc (by simp;omega) _⟩
theorem plus_f (w:World):Calls Tryz.prog 184 #[.agg #[I 27315,I 100],.agg #[I (-160),I 9]] w fun r w'=>r=.returned (.agg #[I 229835,I 900])∧Bw w w':=by
 go_enter Tryz.func184,Tryz.ntmps184
 go_wp2
 exact bodyPost_ret (v:=.agg #[I 229835,I 900]) (by simp[results,Tryz.results184,go_sem]) rfl ⟨rfl,(bA.alloc (by simp) _).alloc (by simp;omega) _⟩
theorem less_f (w:World):Calls Tryz.prog 180 #[.agg #[I 27315,I 100],.agg #[I 160,I 9]] w fun r w'=>r=.returned (.agg #[I 229835,I 900])∧Bw w w':=by
 obtain⟨V,hV⟩:∃V,V=((w.alloc (.cells #[I 27315,I 100] 89)).alloc (.cells #[I 160,I 9] 89)).alloc (.cells #[I 0,I 0] 89):=⟨_,rfl⟩;have HA:Hid (T2 V w.heap.size (I 27315) (I 100)):=by rw[hV];exact⟨by simp[go_sem],by simp[go_sem],by simp[go_sem],by simp[go_sem]⟩
 have HC:Hid (T2 V (w.heap.size+1) (I 160) (I 9)):=by rw[hV];exact⟨by simp[go_sem],by simp[go_sem],by simp[go_sem],by simp[go_sem]⟩
 have HR:Hid (T2 V (w.heap.size+2) (I 0) (I 0)):=by rw[hV];exact⟨by simp[go_sem],by simp[go_sem],by simp[go_sem],by simp[go_sem]⟩
 have HB:Hid (Bw w V):=by rw[hV];exact(bA.alloc (by simp) _).alloc (by simp;omega) _
 have HV:=zAb hV;clear hV;go_enter Tryz.func180,Tryz.ntmps180
 go_upto_region 1 with fail
 rw[←un HV];clear HV;have a0:=(un HA).c0;have a1:=(un HA).c1;have b0:=(un HC).c0;have b1:=(un HC).c1
 go_wp2_with (go_at_call 184;go_must(refine(plus_f _).mono ?_;rintro e wt ⟨rfl,hbt⟩;have HT:=zAb ((un HR).later hbt);have HBT:Hid (Bw w wt):=bt HB hbt;clear hbt a0 a1 b0 b1;have r0:=(un HT).c0;have r1:=(un HT).c1;have f0:=(un HT).f0;have f1:=(un HT).f1))
 have hS:=(un HT).store (I 229835) (I 900);have v0:=hS.c0;have v1:=hS.c1;exact bodyPost_ret (v:=.agg #[I 229835,I 900]) (w:=zBh wt (w.heap.size+2) (I 229835) (I 900)) (by simp[results,Tryz.results180,go_sem,v0,v1]) rfl ⟨rfl,zAk (un HBT) (by omega) _ _⟩
theorem kelvins_c (w:World):Calls Tryz.prog 117 #[.agg #[I 1,I 1,I 27315,I 100],.agg #[I 0,I 1]] w fun r w'=>r=.returned (.agg #[I 27315,I 100])∧Bw w w':=by
 obtain⟨V,hV⟩:∃V,V=((w.alloc (.cells #[I 1,I 1,I 27315,I 100] 138)).alloc (.cells #[I 0,I 1] 89)).alloc (.cells #[I 0,I 0] 89):=⟨_,rfl⟩;have HA:Hid (T4 V w.heap.size (I 1) (I 1) (I 27315) (I 100)):=by rw[hV];exact⟨by simp[go_sem],by simp[go_sem],by simp[go_sem],by simp[go_sem],by simp[go_sem],by simp[go_sem],by simp[go_sem],by simp[go_sem]⟩
 have HC:Hid (T2 V (w.heap.size+1) (I 0) (I 1)):=by rw[hV];exact⟨by simp[go_sem],by simp[go_sem],by simp[go_sem],by simp[go_sem]⟩
 have HR:Hid (T2 V (w.heap.size+2) (I 0) (I 0)):=by rw[hV];exact⟨by simp[go_sem],by simp[go_sem],by simp[go_sem],by simp[go_sem]⟩
 have HB:Hid (Bw w V):=by rw[hV];exact(bA.alloc (by simp) _).alloc (by simp;omega) _
 have HV:=zAb hV;clear hV;go_enter Tryz.func117,Tryz.ntmps117
 go_upto_region 1 with fail
 rw[←un HV];clear HV
 have HS:Hid (∀W,Below V.heap.size V W→W.cell? ⟨w.heap.size,0,none⟩=some (I 1)∧W.cell? ⟨w.heap.size,1,none⟩=some (I 1)∧W.cell? ⟨w.heap.size,2,none⟩=some (I 27315)∧W.cell? ⟨w.heap.size,3,none⟩=some (I 100)∧W.cell? ⟨w.heap.size+1,0,none⟩=some (I 0)∧W.cell? ⟨w.heap.size+1,1,none⟩=some (I 1)):=fun W hb=>by
  have h1:=(un HA).later hb;have h2:=(un HC).later hb;exact⟨h1.c0,h1.c1,h1.c2,h1.c3,h2.c0,h2.c1⟩
 have HS0:=zAb (un HS V.drew ((Below.refl _ _).drew));refine zAi 7 (fun W=>W.cell? ⟨w.heap.size,0,none⟩=some (I 1)∧W.cell? ⟨w.heap.size,1,none⟩=some (I 1)∧W.cell? ⟨w.heap.size,2,none⟩=some (I 27315)∧W.cell? ⟨w.heap.size,3,none⟩=some (I 100)∧W.cell? ⟨w.heap.size+1,0,none⟩=some (I 0)∧W.cell? ⟨w.heap.size+1,1,none⟩=some (I 1)) (fun _=>True) 8 rfl (by kernel_rfl) ?_;refine wT 0 (.pointer (some ⟨w.heap.size,0,none⟩)) rfl (Or.inl ⟨by rfl,?_⟩) ⟨un HS0,trivial⟩ ?_
 ·intro W hW
  go_split_ands
  go_simp
 refine wT 1 (.agg #[I 1,I 1]) rfl (Or.inl ⟨by rfl,?_⟩) ⟨un HS0,trivial⟩ ?_
 ·intro W hW
  go_split_ands
  go_simp
 refine wT 2 (.agg #[I 0,I 1]) rfl (Or.inl ⟨by rfl,?_⟩) ⟨un HS0,trivial⟩ ?_
 ·intro W hW
  go_split_ands
  go_simp
 refine wT 4 (.pointer (some ⟨w.heap.size,2,none⟩)) rfl (Or.inl ⟨by rfl,?_⟩) ⟨un HS0,trivial⟩ ?_
 ·intro W hW
  go_split_ands
  go_simp
 refine wT 5 (.agg #[I 27315,I 100]) rfl (Or.inl ⟨by rfl,?_⟩) ⟨un HS0,trivial⟩ ?_
 ·intro W hW
  go_split_ands
  go_simp
 refine wO 3 rfl rfl (fun K hK=>?_)
 go_simp
 refine(times_c _).mono ?_;rintro e wa ⟨rfl,hba⟩;have HBA:Hid (Bw V wa):=(Below.refl _ _).drew.trans (hba.mono (Below.refl V.heap.size V).drew.size);have HSA:=zAb (un HS wa (un HBA));clear hba;refine hK _ _ ⟨un HSA,trivial⟩ ?_;clear hK K;refine wO 6 rfl rfl (fun K hK=>?_)
 go_simp
 refine(plus_c _).mono ?_;rintro e wt ⟨rfl,hbt⟩;have HBT:Hid (Bw V wt):=bt HBA hbt;have HST:=zAb (un HS wt (un HBT));have HT:=zAb ((un HR).later (un HBT));clear hbt;have r0:=(un HT).c0;have r1:=(un HT).c1;have f0:=(un HT).f0;have f1:=(un HT).f1;refine hK _ _ ⟨un HST,trivial⟩ ?_;clear hK K;refine wL 7 rfl rfl (fun K hK=>?_)
 go_simp
 refine hK _ _ trivial ?_;clear hK K;refine wDn ?_
 go_wp2_with fail
 have hS:=(un HT).store (I 27315) (I 100);have v0:=hS.c0;have v1:=hS.c1;exact bodyPost_ret (v:=.agg #[I 27315,I 100]) (w:=zBh wt (w.heap.size+2) (I 27315) (I 100)) (by simp[results,Tryz.results117,go_sem,v0,v1]) rfl ⟨rfl,zAk ((un HB).trans ((un HBT).mono (un HB).size)) (by omega) _ _⟩
theorem kelvins_r (w:World):Calls Tryz.prog 117 #[.agg #[I 5,I 9,I 0,I 1],.agg #[I 32,I 1]] w fun r w'=>r=.returned (.agg #[I 160,I 9])∧Bw w w':=by
 obtain⟨V,hV⟩:∃V,V=((w.alloc (.cells #[I 5,I 9,I 0,I 1] 138)).alloc (.cells #[I 32,I 1] 89)).alloc (.cells #[I 0,I 0] 89):=⟨_,rfl⟩;have HA:Hid (T4 V w.heap.size (I 5) (I 9) (I 0) (I 1)):=by rw[hV];exact⟨by simp[go_sem],by simp[go_sem],by simp[go_sem],by simp[go_sem],by simp[go_sem],by simp[go_sem],by simp[go_sem],by simp[go_sem]⟩
 have HC:Hid (T2 V (w.heap.size+1) (I 32) (I 1)):=by rw[hV];exact⟨by simp[go_sem],by simp[go_sem],by simp[go_sem],by simp[go_sem]⟩
 have HR:Hid (T2 V (w.heap.size+2) (I 0) (I 0)):=by rw[hV];exact⟨by simp[go_sem],by simp[go_sem],by simp[go_sem],by simp[go_sem]⟩
 have HB:Hid (Bw w V):=by rw[hV];exact(bA.alloc (by simp) _).alloc (by simp;omega) _
 have HV:=zAb hV;clear hV;go_enter Tryz.func117,Tryz.ntmps117
 go_upto_region 1 with fail
 rw[←un HV];clear HV
 have HS:Hid (∀W,Below V.heap.size V W→W.cell? ⟨w.heap.size,0,none⟩=some (I 5)∧W.cell? ⟨w.heap.size,1,none⟩=some (I 9)∧W.cell? ⟨w.heap.size,2,none⟩=some (I 0)∧W.cell? ⟨w.heap.size,3,none⟩=some (I 1)∧W.cell? ⟨w.heap.size+1,0,none⟩=some (I 32)∧W.cell? ⟨w.heap.size+1,1,none⟩=some (I 1)):=fun W hb=>by
  have h1:=(un HA).later hb;have h2:=(un HC).later hb;exact⟨h1.c0,h1.c1,h1.c2,h1.c3,h2.c0,h2.c1⟩
 have HS0:=zAb (un HS V.drew ((Below.refl _ _).drew));refine zAi 7 (fun W=>W.cell? ⟨w.heap.size,0,none⟩=some (I 5)∧W.cell? ⟨w.heap.size,1,none⟩=some (I 9)∧W.cell? ⟨w.heap.size,2,none⟩=some (I 0)∧W.cell? ⟨w.heap.size,3,none⟩=some (I 1)∧W.cell? ⟨w.heap.size+1,0,none⟩=some (I 32)∧W.cell? ⟨w.heap.size+1,1,none⟩=some (I 1)) (fun _=>True) 8 rfl (by kernel_rfl) ?_;refine wT 0 (.pointer (some ⟨w.heap.size,0,none⟩)) rfl (Or.inl ⟨by rfl,?_⟩) ⟨un HS0,trivial⟩ ?_
 ·intro W hW
  go_split_ands
  go_simp
 refine wT 1 (.agg #[I 5,I 9]) rfl (Or.inl ⟨by rfl,?_⟩) ⟨un HS0,trivial⟩ ?_
 ·intro W hW
  go_split_ands
  go_simp
 refine wT 2 (.agg #[I 32,I 1]) rfl (Or.inl ⟨by rfl,?_⟩) ⟨un HS0,trivial⟩ ?_
 ·intro W hW
  go_split_ands
  go_simp
 refine wT 4 (.pointer (some ⟨w.heap.size,2,none⟩)) rfl (Or.inl ⟨by rfl,?_⟩) ⟨un HS0,trivial⟩ ?_
 ·intro W hW
  go_split_ands
  go_simp
 refine wT 5 (.agg #[I 0,I 1]) rfl (Or.inl ⟨by rfl,?_⟩) ⟨un HS0,trivial⟩ ?_
 ·intro W hW
  go_split_ands
  go_simp
 refine wO 3 rfl rfl (fun K hK=>?_)
 go_simp
 refine(times_r _).mono ?_;rintro e wa ⟨rfl,hba⟩;have HBA:Hid (Bw V wa):=(Below.refl _ _).drew.trans (hba.mono (Below.refl V.heap.size V).drew.size);have HSA:=zAb (un HS wa (un HBA));clear hba;refine hK _ _ ⟨un HSA,trivial⟩ ?_;clear hK K;refine wO 6 rfl rfl (fun K hK=>?_)
 go_simp
 refine(plus_r _).mono ?_;rintro e wt ⟨rfl,hbt⟩;have HBT:Hid (Bw V wt):=bt HBA hbt;have HST:=zAb (un HS wt (un HBT));have HT:=zAb ((un HR).later (un HBT));clear hbt;have r0:=(un HT).c0;have r1:=(un HT).c1;have f0:=(un HT).f0;have f1:=(un HT).f1;refine hK _ _ ⟨un HST,trivial⟩ ?_;clear hK K;refine wL 7 rfl rfl (fun K hK=>?_)
 go_simp
 refine hK _ _ trivial ?_;clear hK K;refine wDn ?_
 go_wp2_with fail
 have hS:=(un HT).store (I 160) (I 9);have v0:=hS.c0;have v1:=hS.c1;exact bodyPost_ret (v:=.agg #[I 160,I 9]) (w:=zBh wt (w.heap.size+2) (I 160) (I 9)) (by simp[results,Tryz.results117,go_sem,v0,v1]) rfl ⟨rfl,zAk ((un HB).trans ((un HBT).mono (un HB).size)) (by omega) _ _⟩
def MadeS (f:Nat) (a b c d:Int):Prop:=∀W,Calls Tryz.prog f #[] W fun r w'=>r=.returned (.agg #[I a,I b,I c,I d])∧Bw W w'
theorem zGv:MadeS 114 1 1 0 1:=by
 intro w;go_enter Tryz.func114,Tryz.ntmps114
 go_wp2
 exact bodyPost_ret (v:=.agg #[I 1,I 1,I 0,I 1]) (by simp[results,Tryz.results114,go_sem]) rfl ⟨rfl,bA⟩
theorem rankine_made:MadeS 106 5 9 0 1:=by
 intro w;go_enter Tryz.func106,Tryz.ntmps106
 go_wp2
 exact bodyPost_ret (v:=.agg #[I 5,I 9,I 0,I 1]) (by simp[results,Tryz.results106,go_sem]) rfl ⟨rfl,bA⟩
theorem zJi:MadeS 107 1 1 27315 100:=by
 intro w;go_enter Tryz.func107,Tryz.ntmps107
 go_wp2
 exact bodyPost_ret (v:=.agg #[I 1,I 1,I 27315,I 100]) (by simp[results,Tryz.results107,go_sem]) rfl ⟨rfl,bA⟩
theorem fahrenheit_made:MadeS 108 5 9 229835 900:=by
 intro w;obtain⟨V,hV⟩:∃V,V=w.alloc (.cells #[I 0,I 0,I 0,I 0] 138):=⟨_,rfl⟩;have HR:Hid (T4 V w.heap.size (I 0) (I 0) (I 0) (I 0)):=by rw[hV];exact⟨by simp[go_sem],by simp[go_sem],by simp[go_sem],by simp[go_sem],by simp[go_sem],by simp[go_sem],by simp[go_sem],by simp[go_sem]⟩
 have HB:Hid (Bw w V):=by rw[hV];exact bA
 have HV:=zAb hV;clear hV;have HM1:=zAb rankine_made;have HM2:=zAb zJi;unfold MadeS at HM1 HM2
 go_enter Tryz.func108,Tryz.ntmps108
 go_upto_region 1 with fail
 rw[←un HV];clear HV
 go_upto_region 2 with (first
  | (go_at_call 106;go_must(refine(un HM1 _).mono ?_;rintro e w1 ⟨rfl,hb1⟩;have HB1:=zAb hb1;clear hb1))
  | (go_at_call 107;go_must(refine(un HM2 _).mono ?_;rintro e w2 ⟨rfl,hb2⟩;have HB2:Hid (Bw V w2):=bt HB1 hb2;clear hb2)))
 obtain⟨U,hU⟩:∃U,U=(w2.alloc (.cells #[I 5,I 9,I 0,I 1] 138)).alloc (.cells #[I 1,I 1,I 27315,I 100] 138):=⟨_,rfl⟩;have HU1:Hid (T4 U w2.heap.size (I 5) (I 9) (I 0) (I 1)):=by rw[hU];exact⟨by simp[go_sem],by simp[go_sem],by simp[go_sem],by simp[go_sem],by simp[go_sem],by simp[go_sem],by simp[go_sem],by simp[go_sem]⟩
 have HU2:Hid (T4 U (w2.heap.size+1) (I 1) (I 1) (I 27315) (I 100)):=by rw[hU];exact⟨by simp[go_sem],by simp[go_sem],by simp[go_sem],by simp[go_sem],by simp[go_sem],by simp[go_sem],by simp[go_sem],by simp[go_sem]⟩
 have HBU:Hid (Bw V U):=by rw[hU];exact((un HB2).alloc (un HB2).size _).alloc (by have h:=(un HB2).size;simp;omega) _
 rw[←hU];clear hU;generalize w2.heap.size=g1 at *
 have HRU:=zAb ((un HR).later (un HBU));have HBW:Hid (Bw w U):=(un HB).trans ((un HBU).mono (un HB).size);have a0:=(un HU1).c0;have a1:=(un HU1).c1;have a2:=(un HU1).c2;have a3:=(un HU1).c3;have b0:=(un HU2).c0;have b1:=(un HU2).c1;have b2:=(un HU2).c2;have b3:=(un HU2).c3
 go_region_held3 (fun w'=>w'.cell? ⟨g1,0,none⟩=some (I 5)∧w'.cell? ⟨g1,1,none⟩=some (I 9)∧w'.cell? ⟨g1,2,none⟩=some (I 0)∧w'.cell? ⟨g1,3,none⟩=some (I 1)∧w'.cell? ⟨g1+1,0,none⟩=some (I 1)∧w'.cell? ⟨g1+1,1,none⟩=some (I 1)∧w'.cell? ⟨g1+1,2,none⟩=some (I 27315)∧w'.cell? ⟨g1+1,3,none⟩=some (I 100)) (first|assumption|(simp[go_sem, *];done)) (fail)
 all_goals
  have HSS:Hid (∀W,Below U.heap.size U W→W.cell? ⟨g1,0,none⟩=some (I 5)∧W.cell? ⟨g1,1,none⟩=some (I 9)):=fun W hb=>by
   have h1:=(un HU1).later hb;exact⟨h1.c0,h1.c1⟩
  have HS0:=zAb (un HSS U.drew.drew ((Below.refl _ _).drew.drew))
  go_upto_region 3 with fail
  refine zAi 10 (fun W=>W.cell? ⟨g1,0,none⟩=some (I 5)∧W.cell? ⟨g1,1,none⟩=some (I 9)) (fun _=>True) 11 rfl (by kernel_rfl) ?_;refine wT 0 (.pointer (some ⟨g1,0,none⟩)) rfl (Or.inl ⟨by rfl,?_⟩) ⟨un HS0,trivial⟩ ?_
  ·intro W hW
   go_split_ands
   go_simp
  refine wT 1 (.agg #[I 5,I 9]) rfl (Or.inl ⟨by rfl,?_⟩) ⟨un HS0,trivial⟩ ?_
  ·intro W hW
   go_split_ands
   go_simp
  refine wT 2 (.func (.func 117) #[.agg #[I 1,I 1,I 27315,I 100]] #[]) rfl (Or.inl ⟨by rfl,?_⟩) ⟨un HS0,trivial⟩ ?_
  ·intro W hW
   go_split_ands
   go_simp
  refine wT 3 (.agg #[I 0,I 1]) rfl (Or.inl ⟨by rfl,?_⟩) ⟨un HS0,trivial⟩ ?_
  ·intro W hW
   go_split_ands
   go_simp
  refine wT 5 (.func (.func 117) #[.agg #[I 5,I 9,I 0,I 1]] #[]) rfl (Or.inl ⟨by rfl,?_⟩) ⟨un HS0,trivial⟩ ?_
  ·intro W hW
   go_split_ands
   go_simp
  refine wT 6 (.agg #[I 32,I 1]) rfl (Or.inl ⟨by rfl,?_⟩) ⟨un HS0,trivial⟩ ?_
  ·intro W hW
   go_split_ands
   go_simp
  refine wO 4 rfl rfl (fun K hK=>?_)
  go_simp
  refine(kelvins_c _).mono ?_;rintro e wa ⟨rfl,hbwa⟩;have HBwa:Hid (Bw U wa):=((Below.refl U.heap.size U).drew.drew).trans (hbwa.mono ((Below.refl U.heap.size U).drew.drew).size);have HSwa:=zAb (un HSS wa (un HBwa));clear hbwa;refine hK _ _ ⟨un HSwa,trivial⟩ ?_;clear hK K;refine wO 7 rfl rfl (fun K hK=>?_)
  go_simp
  refine(kelvins_r _).mono ?_;rintro e wc ⟨rfl,hbwc⟩;have HBwc:Hid (Bw U wc):=bt HBwa hbwc;have HSwc:=zAb (un HSS wc (un HBwc));clear hbwc;refine hK _ _ ⟨un HSwc,trivial⟩ ?_;clear hK K;refine wO 8 rfl rfl (fun K hK=>?_)
  go_simp
  refine(less_f _).mono ?_;rintro e wd ⟨rfl,hbwd⟩;have HBwd:Hid (Bw U wd):=bt HBwc hbwd;have HSwd:=zAb (un HSS wd (un HBwd));clear hbwd;have HT:=zAb ((un HRU).later (un HBwd));have r0:=(un HT).c0;have r1:=(un HT).c1;have r2:=(un HT).c2;have r3:=(un HT).c3;have f0:=(un HT).f0;have f1:=(un HT).f1;have f2:=(un HT).f2;have f3:=(un HT).f3;refine hK _ _ ⟨un HSwd,trivial⟩ ?_;clear hK K;refine wO 9 rfl rfl (fun K hK=>?_)
  go_simp
  refine hK _ _ ⟨un HSwd,trivial⟩ ?_;clear hK K;refine wL 10 rfl rfl (fun K hK=>?_)
  go_simp
  refine hK _ _ trivial ?_;clear hK K;refine wDn ?_
  go_wp2_with fail
  have hS:=(un HT).store (I 5) (I 9) (I 229835) (I 900);have v0:=hS.c0;have v1:=hS.c1;have v2:=hS.c2;have v3:=hS.c3;exact bodyPost_ret (v:=.agg #[I 5,I 9,I 229835,I 900]) (w:=store4 wd w.heap.size (I 5) (I 9) (I 229835) (I 900)) (by simp[results,Tryz.results108,go_sem,v0,v1,v2,v3]) rfl ⟨rfl,below_store4 ((un HBW).trans ((un HBwd).mono (un HBW).size)) (Nat.le_refl _) _ _ _ _⟩
theorem neg_any (v:Value) (b:Bool) (n d:Nat) (w:World) (h:zCd w v b n d) :
 Calls Tryz.prog 182 #[v] w fun e w'=>∃v',e=.returned v'∧zCd w' v' (!b && decide (n≠0)) n d∧Bw w w':=by
 obtain⟨a1,l1,c1,a2,l2,c2,rfl,h1,h2⟩:=h.form;have H1:=zAb h1;have H2:=zAb h2;clear h h1 h2;have HB:Hid (Bw w ((w.alloc (.cells #[.bool b,.slice a1 l1 c1,.slice a2 l2 c2] 82)).alloc (.cells #[.bool false,.slice none 0 0,.slice none 0 0] 82))):=bA.alloc (by simp) _;have H37:=zAb (fun W (hb:Below w.heap.size w W)=>zCk _ n W ((un H1).later hb));go_enter Tryz.func182,Tryz.ntmps182
 go_upto_region 1 with fail
 obtain⟨V,hV⟩:∃V,V=((w.alloc (.cells #[.bool b,.slice a1 l1 c1,.slice a2 l2 c2] 82)).alloc (.cells #[.bool false,.slice none 0 0,.slice none 0 0] 82)):=⟨_,rfl⟩;have p0:V.cell? ⟨w.heap.size,0,none⟩=some (.bool b):=by rw[hV];simp[go_sem]
 have p1:V.cell? ⟨w.heap.size,1,none⟩=some (.slice a1 l1 c1):=by rw[hV];simp[go_sem]
 have p2:V.cell? ⟨w.heap.size,2,none⟩=some (.slice a2 l2 c2):=by rw[hV];simp[go_sem]
 have q0:V.cell? ⟨w.heap.size+1,0,none⟩=some (.bool false):=by rw[hV];simp[go_sem]
 have q1:V.cell? ⟨w.heap.size+1,1,none⟩=some (.slice none 0 0):=by rw[hV];simp[go_sem]
 have q2:V.cell? ⟨w.heap.size+1,2,none⟩=some (.slice none 0 0):=by rw[hV];simp[go_sem]
 have g0:V.frozen? ⟨w.heap.size+1,0,none⟩=false:=by rw[hV];simp[go_sem]
 have g1:V.frozen? ⟨w.heap.size+1,1,none⟩=false:=by rw[hV];simp[go_sem]
 have g2:V.frozen? ⟨w.heap.size+1,2,none⟩=false:=by rw[hV];simp[go_sem]
 rw[←hV]at HB ⊢;clear hV
 cases b with
 | true=>
  go_region
  obtain⟨U,hU⟩:∃U,U=(((V.setCell ⟨w.heap.size+1,0,none⟩ (.bool false)).setCell ⟨w.heap.size+1,1,none⟩ (.slice a1 l1 c1)).setCell ⟨w.heap.size+1,2,none⟩ (.slice a2 l2 c2)).drew:=⟨_,rfl⟩
  have hbU:Below w.heap.size w U:=by
   rw[hU];have h3:=(((un HB).setCell (p:=⟨w.heap.size+1,0,none⟩) (by simp) (.bool false)).setCell (p:=⟨w.heap.size+1,1,none⟩) (by simp) (.slice a1 l1 c1)).setCell (p:=⟨w.heap.size+1,2,none⟩) (by simp) (.slice a2 l2 c2);exact h3.trans (((Below.refl _ _).drew).mono h3.size)
  have r0:U.cell? ⟨w.heap.size+1,0,none⟩=some (.bool false):=by rw[hU];simp[go_sem, *]
  have r1:U.cell? ⟨w.heap.size+1,1,none⟩=some (.slice a1 l1 c1):=by rw[hU];simp[go_sem, *]
  have r2:U.cell? ⟨w.heap.size+1,2,none⟩=some (.slice a2 l2 c2):=by rw[hU];simp[go_sem, *]
  have HU:=zAb hbU;rw[←hU];clear hU hbU q0 q1 q2 g0 g1 g2 p0 p1 p2
  go_wp2_with fail
  exact bodyPost_ret (v:=.agg #[.bool false,.slice a1 l1 c1,.slice a2 l2 c2]) (by simp[results,Tryz.results182,go_sem,r0,r1,r2]) rfl ⟨_,rfl,⟨_,_,rfl,(un H1).later (un HU),(un H2).later (un HU)⟩,un HU⟩
 | false=>
  have hsV:=(un HB).size;have hlt:w.heap.size+1<V.heap.size:=World.block_lt_of_cell? _ _ q0
  have HF:Hid (∀W,Below V.heap.size V W→W.cell? ⟨w.heap.size,0,none⟩=some (.bool false)∧W.cell? ⟨w.heap.size,1,none⟩=some (.slice a1 l1 c1)∧W.cell? ⟨w.heap.size,2,none⟩=some (.slice a2 l2 c2)∧W.cell? ⟨w.heap.size+1,0,none⟩=some (.bool false)∧W.cell? ⟨w.heap.size+1,1,none⟩=some (.slice none 0 0)∧W.cell? ⟨w.heap.size+1,2,none⟩=some (.slice none 0 0)∧W.frozen? ⟨w.heap.size+1,0,none⟩=false∧W.frozen? ⟨w.heap.size+1,1,none⟩=false∧W.frozen? ⟨w.heap.size+1,2,none⟩=false):=fun W hb=>
   ⟨(hb.cell (p:=⟨w.heap.size,0,none⟩) (show w.heap.size<V.heap.size by omega)).trans p0,(hb.cell (p:=⟨w.heap.size,1,none⟩) (show w.heap.size<V.heap.size by omega)).trans p1,(hb.cell (p:=⟨w.heap.size,2,none⟩) (show w.heap.size<V.heap.size by omega)).trans p2,
    (hb.cell (p:=⟨w.heap.size+1,0,none⟩) hlt).trans q0,(hb.cell (p:=⟨w.heap.size+1,1,none⟩) hlt).trans q1,(hb.cell (p:=⟨w.heap.size+1,2,none⟩) hlt).trans q2,
    (hb.frozen (p:=⟨w.heap.size+1,0,none⟩) hlt).trans g0,(hb.frozen (p:=⟨w.heap.size+1,1,none⟩) hlt).trans g1,(hb.frozen (p:=⟨w.heap.size+1,2,none⟩) hlt).trans g2⟩
  clear q0 q1 q2 g0 g1 g2 hlt
  go_region_held3 (fun w'=>w'.cell? ⟨w.heap.size,0,none⟩=some (.bool false)∧w'.cell? ⟨w.heap.size,1,none⟩=some (.slice a1 l1 c1)∧w'.cell? ⟨w.heap.size,2,none⟩=some (.slice a2 l2 c2)) (first|assumption|(refine⟨?_,?_,?_⟩<;>first|assumption|(simp[go_sem, *];done))|(simp[go_sem, *];done)) ((go_at_call 153;go_must(refine(un H37 _ ((un HB).trans (((Below.refl _ _).drew).mono hsV))).mono ?_;rintro e w3 ⟨rfl,hb3⟩;have HB3:=zAb ((((Below.refl V.heap.size V).drew)).trans hb3);obtain⟨t0,t1,t2,q0,q1,q2,g0,g1,g2⟩:=un HF w3 (un HB3);clear hb3)))
  have HB4:=zAb ((un HB).trans ((un HB3).mono hsV));obtain⟨U,hU⟩:∃U,U=(((w3.setCell ⟨w.heap.size+1,0,none⟩ (.bool (!n == 0))).setCell ⟨w.heap.size+1,1,none⟩ (.slice a1 l1 c1)).setCell ⟨w.heap.size+1,2,none⟩ (.slice a2 l2 c2)):=⟨_,rfl⟩
  have hbU:Below w.heap.size w U:=by
   rw[hU];exact(((un HB4).setCell (p:=⟨w.heap.size+1,0,none⟩) (by simp) (.bool (!n == 0))).setCell (p:=⟨w.heap.size+1,1,none⟩) (by simp) (.slice a1 l1 c1)).setCell (p:=⟨w.heap.size+1,2,none⟩) (by simp) (.slice a2 l2 c2)
  have r0:U.cell? ⟨w.heap.size+1,0,none⟩=some (.bool (!n == 0)):=by rw[hU];simp[go_sem, *]
  have r1:U.cell? ⟨w.heap.size+1,1,none⟩=some (.slice a1 l1 c1):=by rw[hU];simp[go_sem, *]
  have r2:U.cell? ⟨w.heap.size+1,2,none⟩=some (.slice a2 l2 c2):=by rw[hU];simp[go_sem, *]
  have HU:=zAb hbU;have HE:Hid ((!n == 0)=(!false && decide (n≠0))):=by show _=_;by_cases h0:n=0<;>simp[h0]
  rw[←hU];clear hU hbU q0 q1 q2 g0 g1 g2 p0 p1 p2 t0 t1 t2
  go_wp2_with fail
  exact bodyPost_ret (v:=.agg #[.bool (!n == 0),.slice a1 l1 c1,.slice a2 l2 c2]) (by simp[results,Tryz.results182,go_sem,r0,r1,r2]) rfl ⟨_,rfl,(by rw[←un HE];exact⟨_,_,rfl,(un H1).later (un HU),(un H2).later (un HU)⟩),un HU⟩
theorem qneg (x:Value) (p:Rat) (k:Nat) (w:World) (hx:QOf w x p k) :
 Calls Tryz.prog 182 #[x] w fun r w'=>∃v,r=.returned v∧QOf w' v (-p) k∧Bw w w':=by
 obtain⟨b,n,d,h1,h2,rfl,h4,h5⟩:=hx;refine(neg_any x b n d w h1).mono ?_;rintro r w' ⟨v,rfl,j1,hb⟩;exact⟨v,rfl,⟨_,_,_,j1,(Cub.neg_low h2).1,(Cub.neg_low h2).2,h4,h5⟩,hb⟩
theorem qsub (x y:Value) (p q:Rat) (k:Nat) (w:World) (hx:QOf w x p k) (hy:QOf w y q k) (hk:k+k+k≤100000) :
 Calls Tryz.prog 116 #[x,y] w fun r w'=>∃v,r=.returned v∧QOf w' v (p + -q) (k+k+k)∧Bw w w':=by
 obtain⟨b,a1,l1,c1,a2,l2,c2,rfl⟩:=hx.form;obtain⟨c,a3,l3,c3,a4,l4,c4,rfl⟩:=hy.form;obtain⟨V,hV⟩:∃V,V=(((w.alloc (.cells #[.bool b,.slice a1 l1 c1,.slice a2 l2 c2] 82)).alloc (.cells #[.bool c,.slice a3 l3 c3,.slice a4 l4 c4] 82)).alloc (.cells #[.bool false,.slice none 0 0,.slice none 0 0] 82)):=⟨_,rfl⟩;have HS:Hid (AS w V (.bool b) (.slice a1 l1 c1) (.slice a2 l2 c2) (.bool c) (.slice a3 l3 c3) (.slice a4 l4 c4) []):=by rw[hV];exact AS.first _ _ _ _ _ _ _
 have HX:=zAb (hx.later (un HS).below);have HY:=zAb (hy.later (un HS).below);have HV:=zAb hV;have HK:=zAb hk
 have HC:Hid (∀w',Below V.heap.size V w'→(w'.cell? ⟨w.heap.size,0,none⟩=some (.bool b)∧w'.cell? ⟨w.heap.size,1,none⟩=some (.slice a1 l1 c1)∧w'.cell? ⟨w.heap.size,2,none⟩=some (.slice a2 l2 c2)∧w'.cell? ⟨w.heap.size+1,0,none⟩=some (.bool c)∧w'.cell? ⟨w.heap.size+1,1,none⟩=some (.slice a3 l3 c3)∧w'.cell? ⟨w.heap.size+1,2,none⟩=some (.slice a4 l4 c4))∧(w'.cell? ⟨w.heap.size+1+1,0,none⟩=some (.bool false)∧w'.cell? ⟨w.heap.size+1+1,1,none⟩=some (.slice none 0 0)∧w'.cell? ⟨w.heap.size+1+1,2,none⟩=some (.slice none 0 0)∧w'.frozen? ⟨w.heap.size+1+1,0,none⟩=false∧w'.frozen? ⟨w.heap.size+1+1,1,none⟩=false∧w'.frozen? ⟨w.heap.size+1+1,2,none⟩=false)∧w.heap.size<w'.heap.size∧w.heap.size+1<w'.heap.size∧w.heap.size+1+1<w'.heap.size):=fun U hb=>by
  have s:=(un HS).later hb;exact⟨⟨s.x.c0,s.x.c1,s.x.c2,s.y.c0,s.y.c1,s.y.c2⟩,⟨s.r.c0,s.r.c1,s.r.c2,s.r.f0,s.r.f1,s.r.f2⟩,s.x.lt,s.y.lt,s.r.lt⟩
 clear hx hy hk hV;go_enter Tryz.func116,Tryz.ntmps116
 go_upto_region 1 with fail
 rw[←un HV];clear HV;obtain⟨⟨t0,t1,t2,t3,t4,t5⟩,_⟩:=un HC V (Below.refl _ _)
 go_region_held3 (fun w'=>w'.cell? ⟨w.heap.size,0,none⟩=some (.bool b)∧w'.cell? ⟨w.heap.size,1,none⟩=some (.slice a1 l1 c1)∧w'.cell? ⟨w.heap.size,2,none⟩=some (.slice a2 l2 c2)∧w'.cell? ⟨w.heap.size+1,0,none⟩=some (.bool c)∧w'.cell? ⟨w.heap.size+1,1,none⟩=some (.slice a3 l3 c3)∧w'.cell? ⟨w.heap.size+1,2,none⟩=some (.slice a4 l4 c4)) (first|assumption|(refine⟨?_,?_,?_,?_,?_,?_⟩<;>first|assumption|(simp[go_sem, *];done)|(rw[World.cell?_setCell_other _ _ _ _ (by simp),World.cell?_setCell_other _ _ _ _ (by simp),World.cell?_setCell_other _ _ _ _ (by simp)];assumption))|(simp[go_sem, *];done)) ((first
  | (go_at_call 182;go_must(refine(qneg _ q k _ ((un HY).later ((Below.refl _ _).drew))).mono ?_;rintro e wa ⟨va,rfl,hva,hba⟩;have HVA:=zAb hva;have HCA:=zAb (((Below.refl V.heap.size V).drew).trans hba);clear hva hba t0 t1 t2 t3 t4 t5;obtain⟨⟨t0,t1,t2,t3,t4,t5⟩,_⟩:=un HC wa (un HCA)))
  | (go_at_call 66;go_must(refine(qadd _ _ p (-q) k _ ((un HX).later (un HCA)) (un HVA) (un HK)).mono ?_;rintro e wb ⟨vb,rfl,hvb,hbb⟩;obtain⟨b1,i1,i2,i3,i4,i5,i6,rfl⟩:=hvb.form;have HVB:=zAb hvb;have HCB:=zAb (bt HCA hbb);clear hvb hbb t0 t1 t2 t3 t4 t5;obtain⟨⟨t0,t1,t2,t3,t4,t5⟩,⟨r0,r1,r2,rf0,rf1,rf2⟩,_⟩:=un HC wb (un HCB)))))
 have HS1:=zAb ((un HS).later (un HCB));clear r0 r1 r2 rf0 rf1 rf2 t0 t1 t2 t3 t4 t5;have hS:=(un HS1).r.store (.bool b1) (.slice i1 i2 i3) (.slice i4 i5 i6);have hb:Below w.heap.size w (zAs wb (w.heap.size+1+1) (.bool b1) (.slice i1 i2 i3) (.slice i4 i5 i6)):=zAq (un HS1).below (by omega) _ _ _;obtain⟨V9,hV9⟩:∃V9,V9=zAs wb (w.heap.size+1+1) (.bool b1) (.slice i1 i2 i3) (.slice i4 i5 i6):=⟨_,rfl⟩;have hV9':V9=((wb.setCell ⟨w.heap.size+1+1,0,none⟩ (.bool b1)).setCell ⟨w.heap.size+1+1,1,none⟩ (.slice i1 i2 i3)).setCell ⟨w.heap.size+1+1,2,none⟩ (.slice i4 i5 i6):=hV9;have HQ9:=zAb ((un HVB).stored (un HS1).r);have u0:=hS.c0;have u1:=hS.c1;have u2:=hS.c2;rw[←hV9]at u0 u1 u2 HQ9 hb;rw[←hV9'];have HB9:=zAb hb;clear hV9 hV9' hS hb
 go_wp2_with fail
 exact bodyPost_ret (v:=.agg #[.bool b1,.slice i1 i2 i3,.slice i4 i5 i6]) (by simp[results,Tryz.results116,go_sem,u0,u1,u2]) rfl ⟨_,rfl,un HQ9,un HB9⟩
end Go.Proofs.YtliadckofhblnaaGreatDoor.Tm
namespace Go.Proofs.YtliadckofhblnaaGreatDoor
open Go.RowKit
theorem qquo (x y:Value) (p q:Rat) (k:Nat) (w:World) (hx:QOf w x p k) (hy:QOf w y q k) (hk:k+k≤100000) (hq:q≠0) :
  Calls Tryz.prog 69 #[x,y] w fun r w'=>∃v,r=.returned v∧QOf w' v (p*q⁻¹) (k+k)∧Bw w w':=by
 obtain⟨b,a1,l1,c1,a2,l2,c2,rfl⟩:=hx.form;obtain⟨c,a3,l3,c3,a4,l4,c4,rfl⟩:=hy.form;obtain⟨V,hV⟩:∃V,V=(((w.alloc (.cells #[.bool b,.slice a1 l1 c1,.slice a2 l2 c2] 82)).alloc (.cells #[.bool c,.slice a3 l3 c3,.slice a4 l4 c4] 82)).alloc (.cells #[.bool false,.slice none 0 0,.slice none 0 0] 82)):=⟨_,rfl⟩;have HS:Hid (AS w V (.bool b) (.slice a1 l1 c1) (.slice a2 l2 c2) (.bool c) (.slice a3 l3 c3) (.slice a4 l4 c4) []):=by rw[hV];exact AS.first _ _ _ _ _ _ _
 have HX:=zAb (hx.later (un HS).below);have HY:=zAb (hy.later (un HS).below);have HV:=zAb hV;have HK:=zAb hk
 have HC:Hid (∀w',Below V.heap.size V w'→(w'.cell? ⟨w.heap.size,0,none⟩=some (.bool b)∧w'.cell? ⟨w.heap.size,1,none⟩=some (.slice a1 l1 c1)∧w'.cell? ⟨w.heap.size,2,none⟩=some (.slice a2 l2 c2)∧w'.cell? ⟨w.heap.size+1,0,none⟩=some (.bool c)∧w'.cell? ⟨w.heap.size+1,1,none⟩=some (.slice a3 l3 c3)∧w'.cell? ⟨w.heap.size+1,2,none⟩=some (.slice a4 l4 c4))∧(w'.cell? ⟨w.heap.size+1+1,0,none⟩=some (.bool false)∧w'.cell? ⟨w.heap.size+1+1,1,none⟩=some (.slice none 0 0)∧w'.cell? ⟨w.heap.size+1+1,2,none⟩=some (.slice none 0 0)∧w'.frozen? ⟨w.heap.size+1+1,0,none⟩=false∧w'.frozen? ⟨w.heap.size+1+1,1,none⟩=false∧w'.frozen? ⟨w.heap.size+1+1,2,none⟩=false)∧w.heap.size<w'.heap.size∧w.heap.size+1<w'.heap.size∧w.heap.size+1+1<w'.heap.size):=fun U hb=>by
  have s:=(un HS).later hb;exact⟨⟨s.x.c0,s.x.c1,s.x.c2,s.y.c0,s.y.c1,s.y.c2⟩,⟨s.r.c0,s.r.c1,s.r.c2,s.r.f0,s.r.f1,s.r.f2⟩,s.x.lt,s.y.lt,s.r.lt⟩
 have HQ0:=zAb hq
 have HT:Hid (∀W v1 (j1 j2 j3:Nat) (o1:Option Addr) (o2:Option Addr) (j4:Nat) (bq:Bool),Below V.heap.size V W→v1=.agg #[.bool bq,.slice o1 j1 j2,.slice o2 j3 j4]→QOf W v1 q⁻¹ k→Calls Tryz.prog 147 #[.slice (some ⟨W.heap.size,0,none⟩) 2 2] (W.alloc (.cells #[.bool b,.slice a1 l1 c1,.slice a2 l2 c2,.bool bq,.slice o1 j1 j2,.slice o2 j3 j4] 82)) fun r w'=>∃v,r=.returned v∧QOf w' v (p*q⁻¹) (k+k)∧Bw W w'):=by
  intro W v1 j1 j2 j3 o1 o2 j4 bq hbW hv1 hq1;subst hv1;have hb:Below W.heap.size W (W.alloc (.cells #[.bool b,.slice a1 l1 c1,.slice a2 l2 c2,.bool bq,.slice o1 j1 j2,.slice o2 j3 j4] 82)):=bA;refine(qtimes W.heap.size b bq a1 a2 o1 o2 l1 c1 l2 c2 j1 j2 j3 j4 p q⁻¹ k _ (by simp[go_sem]) (by simp[go_sem]) (by simp[go_sem]) (by simp[go_sem]) (by simp[go_sem]) (by simp[go_sem]) (((un HX).later hbW).later hb) (hq1.later hb) hk).mono ?_;rintro r w' ⟨v,rfl,hv,hb'⟩;exact⟨v,rfl,hv,hb.trans (hb'.mono hb.size)⟩
 clear hx hy hk hV hq;go_enter Tryz.func69,Tryz.ntmps69
 go_upto_region 1 with fail
 rw[←un HV];clear HV;obtain⟨⟨t0,t1,t2,t3,t4,t5⟩,_⟩:=un HC V (Below.refl _ _)
 go_region_held3 (fun w'=>w'.cell? ⟨w.heap.size,0,none⟩=some (.bool b)∧w'.cell? ⟨w.heap.size,1,none⟩=some (.slice a1 l1 c1)∧w'.cell? ⟨w.heap.size,2,none⟩=some (.slice a2 l2 c2)∧w'.cell? ⟨w.heap.size+1,0,none⟩=some (.bool c)∧w'.cell? ⟨w.heap.size+1,1,none⟩=some (.slice a3 l3 c3)∧w'.cell? ⟨w.heap.size+1,2,none⟩=some (.slice a4 l4 c4)) (first|assumption|(refine⟨?_,?_,?_,?_,?_,?_⟩<;>first|assumption|(simp[go_sem, *];done)|(rw[World.cell?_setCell_other _ _ _ _ (by simp),World.cell?_setCell_other _ _ _ _ (by simp),World.cell?_setCell_other _ _ _ _ (by simp)];assumption))|(simp[go_sem, *];done)) ((first
  | (go_at_call 155;go_must(refine(qinv _ q k _ ((un HY).later ((Below.refl _ _).drew)) (un HQ0)).mono ?_;rintro e wa ⟨va,rfl,hva,hba⟩;obtain⟨bq,o1,j1,j2,o2,j3,j4,rfl⟩:=hva.form;have HVA:=zAb hva;have HCA:=zAb (((Below.refl V.heap.size V).drew).trans hba);clear hva hba t0 t1 t2 t3 t4 t5;obtain⟨⟨t0,t1,t2,t3,t4,t5⟩,_,z1,z2,z3⟩:=un HC wa (un HCA)))
  | (go_at_call 147;go_must(refine(un HT wa _ _ _ _ _ _ _ _ (un HCA) rfl (un HVA)).mono ?_;rintro e wb ⟨vb,rfl,hvb,hbb⟩;obtain⟨b1,i1,i2,i3,i4,i5,i6,rfl⟩:=hvb.form;have HVB:=zAb hvb;have HCB:=zAb (bt HCA hbb);clear hvb hbb t0 t1 t2 t3 t4 t5 z1 z2 z3;obtain⟨⟨t0,t1,t2,t3,t4,t5⟩,⟨r0,r1,r2,rf0,rf1,rf2⟩,_⟩:=un HC wb (un HCB)))))
 have HS1:=zAb ((un HS).later (un HCB));clear r0 r1 r2 rf0 rf1 rf2 t0 t1 t2 t3 t4 t5;have hS:=(un HS1).r.store (.bool b1) (.slice i1 i2 i3) (.slice i4 i5 i6);have hb:Below w.heap.size w (zAs wb (w.heap.size+1+1) (.bool b1) (.slice i1 i2 i3) (.slice i4 i5 i6)):=zAq (un HS1).below (by omega) _ _ _;obtain⟨V9,hV9⟩:∃V9,V9=zAs wb (w.heap.size+1+1) (.bool b1) (.slice i1 i2 i3) (.slice i4 i5 i6):=⟨_,rfl⟩;have hV9':V9=((wb.setCell ⟨w.heap.size+1+1,0,none⟩ (.bool b1)).setCell ⟨w.heap.size+1+1,1,none⟩ (.slice i1 i2 i3)).setCell ⟨w.heap.size+1+1,2,none⟩ (.slice i4 i5 i6):=hV9;have HQ9:=zAb ((un HVB).stored (un HS1).r);have u0:=hS.c0;have u1:=hS.c1;have u2:=hS.c2;rw[←hV9]at u0 u1 u2 HQ9 hb;rw[←hV9'];have HB9:=zAb hb;clear hV9 hV9' hS hb
 go_wp2_with fail
 exact bodyPost_ret (v:=.agg #[.bool b1,.slice i1 i2 i3,.slice i4 i5 i6]) (by simp[results,Tryz.results69,go_sem,u0,u1,u2]) rfl ⟨_,rfl,un HQ9,un HB9⟩
theorem cmp_zero (y:Rat) (h:y≠0):(Cub.cmpQ y 0 == 0)=false:=by
 rw[beq_eq_false_iff_ne];unfold Cub.cmpQ
 split
 ·decide
 ·split
  ·decide
  ·exfalso;apply h;grind
theorem zGq (n1 d1 n2 d2:ByteArray) (x y:Rat) (w:World) (h1:IsR n1 d1 x) (h2:IsR n2 d2 y) (hy:y≠0) (htab:Tab w):Ans 31 #[.agg #[.string n1,.string d1],.agg #[.string n2,.string d2]] w (zEp (x*y⁻¹)) (zEr (x*y⁻¹)) (zHa (x*y⁻¹)):=by
 unfold Ans;obtain⟨V,hV⟩:∃V,V=((w.alloc (.cells #[.string n1,.string d1] 28)).alloc (.cells #[.string n2,.string d2] 28)).alloc (.cells #[G #[],G #[]] 28):=⟨_,rfl⟩;have HS:Hid (O3 w V (.string n1) (.string d1) (.string n2) (.string d2)):=by rw[hV];exact O3.first _ _ _ _ _
 have HV:=zAb hV;have HR:=zAb (readTwo_ok n1 d1 n2 d2 x y V h1 h2);have HT:=zAb (htab.later (un HS).below);have HY0:=zAb hy;have HSG:Hid (∀W v,QOf W v y 67→∃sg:Int,(sg == 0)=false∧Calls Tryz.prog 68 #[v] W fun r w'=>r=.returned (I sg)∧Bw W w'):=fun W v hv=>⟨_,cmp_zero y hy,qsign v y 67 W hv⟩
 clear h1 h2 htab hy;go_enter Tryz.func31,Tryz.ntmps31
 go_upto_region 1 with fail
 rw[←un HV];clear hV HV;have t0:=(un HS).a.c0;have t1:=(un HS).a.c1;have t2:=(un HS).b.c0;have t3:=(un HS).b.c1
 go_upto_region 2 with (go_at_call 67;go_must(refine(un HR).mono ?_;rintro e w1 ⟨v1,v2,rfl,hv1,hv2,hb1⟩;obtain⟨b1,i1,i2,i3,i4,i5,i6,rfl⟩:=hv1.form;obtain⟨b2,j1,j2,j3,j4,j5,j6,rfl⟩:=hv2.form;have HS1:=zAb ((un HS).later hb1);have HV1:=zAb hv1;have HV2:=zAb hv2;have HT1:=zAb ((un HT).later hb1);clear hv1 hv2 hb1 t0 t1 t2 t3))
 obtain⟨V2,hV2⟩:∃V2,V2=(w1.alloc (.cells #[.bool b1,.slice i1 i2 i3,.slice i4 i5 i6] 82)).alloc (.cells #[.bool b2,.slice j1 j2 j3,.slice j4 j5 j6] 82):=⟨_,rfl⟩;have hb:Below w1.heap.size w1 V2:=by rw[hV2];exact bA.alloc (by simp) _
 have HS2:=zAb ((un HS1).later hb);have HX:=zAb ((un HV1).later hb);have HY:=zAb ((un HV2).later hb);have HT2:=zAb ((un HT1).later hb);have HP:Hid (FBox V2 w1.heap.size (.bool b1) (.slice i1 i2 i3) (.slice i4 i5 i6)):=by rw[hV2];exact(FBox.new _ _ _ _).later bA
 have HQ:Hid (FBox V2 (w1.heap.size+1) (.bool b2) (.slice j1 j2 j3) (.slice j4 j5 j6)):=by
  rw[hV2];have:=FBox.new (w1.alloc (.cells #[.bool b1,.slice i1 i2 i3,.slice i4 i5 i6] 82)) (.bool b2) (.slice j1 j2 j3) (.slice j4 j5 j6)
  rwa [show(w1.alloc (.cells #[.bool b1,.slice i1 i2 i3,.slice i4 i5 i6] 82)).heap.size=w1.heap.size+1 by simp]at this
 rw[←hV2];clear hV2 hb HS HS1 HV1 HV2 HT HT1 HR;generalize w1.heap.size=g8 at *
 have t0:=(un HP).c0;have t1:=(un HP).c1;have t2:=(un HP).c2;have t3:=(un HQ).c0;have t4:=(un HQ).c1;have t5:=(un HQ).c2;obtain⟨sg,hsg,hq⟩:=un HSG V2 _ (un HY);have HSS:=zAb hq;clear hq
 go_wp2_with (first
  | (go_at_call 68;go_must(refine(un HSS).mono ?_;rintro e w3 ⟨rfl,hb3⟩;have HX3:=zAb ((un HX).later hb3);have HY3:=zAb ((un HY).later hb3);have HS3:=zAb ((un HS2).later hb3);have HT3:=zAb ((un HT2).later hb3);have HP3:=zAb ((un HP).later hb3);have HQ3:=zAb ((un HQ).later hb3);clear hb3 t0 t1 t2 t3 t4 t5;have t0:=(un HP3).c0;have t1:=(un HP3).c1;have t2:=(un HP3).c2;have t3:=(un HQ3).c0;have t4:=(un HQ3).c1;have t5:=(un HQ3).c2))
  | (go_at_call 69;go_must(refine(qquo _ _ x y 67 _ (un HX3) (un HY3) (by decide) (un HY0)).mono ?_;rintro e w5 ⟨v5,rfl,hv5,hb5⟩;have HV5:=zAb hv5;have HS5:=zAb ((un HS3).later hb5);have HT5:=zAb ((un HT3).later hb5);clear hv5 hb5 t0 t1 t2 t3 t4 t5))
  | (go_at_call 55;go_must(refine(qtell _ _ (67+67) _ (un HV5) (by decide) (un HT5)).mono ?_;rintro e w4 ⟨rfl,hb4⟩;have HS4:=zAb ((un HS5).later hb4);clear hb4;have r0:=(un HS4).r.c0;have r1:=(un HS4).r.c1;have rf0:=(un HS4).r.f0;have rf1:=(un HS4).r.f1)))
 have hS:=(un HS4).r.store (.string (zEp (x*y⁻¹))) (.string (zEr (x*y⁻¹)));have hb:Below w.heap.size w (zBh w4 (w.heap.size+1+1) (.string (zEp (x*y⁻¹))) (.string (zEr (x*y⁻¹)))):=zAk (un HS4).below (by omega) _ _;have u0:=hS.c0;have u1:=hS.c1;exact bodyPost_ret (v:=.tuple #[.agg #[.string (zEp (x*y⁻¹)),.string (zEr (x*y⁻¹))],I (zHa (x*y⁻¹))]) (w:=zBh w4 (w.heap.size+1+1) (.string (zEp (x*y⁻¹))) (.string (zEr (x*y⁻¹)))) (by simp[results,Tryz.results31,go_sem,u0,u1]) rfl ⟨rfl,hb⟩
end Go.Proofs.YtliadckofhblnaaGreatDoor
namespace Go.Proofs.YtliadckofhblnaaGreatDoor
open Go.RowKit Go.Sort
theorem below_grow (w:World) (k:Nat) (os:Array Obj):Below w.heap.size w (grow (w.drewN k) os):=by
 refine⟨rfl,rfl,rfl,?_,fun i hi=>?_⟩
 ·simp[grow,World.drewN]
 ·simp only[grow]
  rw[Array.getElem?_append_left (by simpa [World.drewN] using hi)];rfl
theorem intFormatUint_any (u:Nat) (hu64:u<18446744073709551616) (w:World) (htab:Tab w) :
 Calls Tryz.prog 270 #[.int .u64 u,I 10] w fun e w'=>e=.returned (.string ⟨(Lib.decDigits u).toArray⟩)∧Bw w w':=by
 by_cases hs:u<100
 ·clear htab
  go_enter Tryz.func270,Tryz.ntmps270
  go_wp2_with (go_at_call 272;refine(Tryz.internal_strconv_small u hs _).mono ?_;rintro e w' ⟨rfl,rfl⟩)
  go_ret
  exact⟨rfl,Below.refl _ _⟩
 ·have hu1:1≤u:=by omega
  have hnd20:Lib.nDigits u≤20:=by have:=Lib.numDigits_eq u hu1 hu64;split at this<;>omega
  have hal:Tryz.prog.arrayLen 298=24:=by kernel_rfl
  have hsl:∀W,(Instr.sliceAt 298 (.pointer (some ⟨w.heap.size,0,none⟩)) none (some (I (Lib.nDigits u:Int))) none).run Tryz.prog W=.ok (.slice (some ⟨w.heap.size,0,none⟩) (Lib.nDigits u) 24) W:=fun W=>by
   rw[run_sliceAt_array_h W 298 ⟨w.heap.size,0,none⟩ (by kernel_rfl) .i64 (Lib.nDigits u:Int) (by omega) (by rw[hal];omega)]
   go_simp
  have hH0:=Lib.holds_zero0 w 298 (Lib.nDigits u) (by omega);have hfmt:=Tryz.internal_strconv_formatBase10 w.heap.size 0 24 u (Array.replicate (Lib.nDigits u) 0) (w.alloc (.cells Lib.zeros24 298)) hH0 (by rw[Array.size_replicate];exact Lib.lt_pow_nDigits u) hu64 (by rw[Array.size_replicate];omega);rw[Array.size_replicate]at hfmt;have HH0:=Lib.hid hH0;have HT:=zAb htab;have iu:(100:Int)≤(u:Int):=by omega
  clear hH0 hal htab;go_enter Tryz.func270,Tryz.ntmps270
  go_wp2_with (first
   | (go_at_call 273;refine(Tryz.internal_strconv_numDigits u hu1 hu64 _ (Lib.tabIs_alloc (un HT) _)).mono ?_;rintro e w' ⟨rfl,rfl⟩))
  go_at_call 274
  refine hfmt.mono ?_;rintro e w' ⟨rfl,k,v',dk,rfl,hF⟩
  have hcv:(convert 208 9 (.slice (some ⟨w.heap.size,0,none⟩) (Lib.nDigits u) 24)).run Tryz.prog ((putRow (fun (b:UInt8)=>Value.int .u8 (b.toNat:Int)) (w.alloc (.cells Lib.zeros24 298)) w.heap.size 0 dk).drewN k)=.ok (.string ⟨(Lib.decDigits u).toArray⟩) ((putRow (fun (b:UInt8)=>Value.int .u8 (b.toNat:Int)) (w.alloc (.cells Lib.zeros24 298)) w.heap.size 0 dk).drewN k):=by
   have h:=run_convert_bytes_back (P:=Tryz.prog) ((putRow (fun (b:UInt8)=>Value.int .u8 (b.toNat:Int)) (w.alloc (.cells Lib.zeros24 298)) w.heap.size 0 dk).drewN k) 208 9 5 ⟨w.heap.size,0,none⟩ 24 (Lib.decDigits u) Tryz.underlying208 Tryz.underlying5 Tryz.underlying9 (fun j hj=>by
    rw[Lib.row_is_numeral hF j hj,Lib.add_plain,World.cell?_drewN];exact cell?_putRow (fun (b:UInt8)=>Value.int .u8 (b.toNat:Int)) _ w.heap.size 0 _ dk HH0.out (by rw[hF.size,Array.size_replicate]) j (by rw[hF.size];rw[Lib.decDigits_length]at hj;exact hj))
   rw[Lib.decDigits_length]at h;exact h
  go_wp2
  go_ret
  refine⟨rfl,?_⟩;obtain⟨os',_,e⟩:=putRow_grow_new (fun (b:UInt8)=>Value.int .u8 (b.toNat:Int)) w #[.cells Lib.zeros24 298] w.heap.size 0 dk (Nat.le_refl _)
  have e2:(putRow (fun (b:UInt8)=>Value.int .u8 (b.toNat:Int)) (w.alloc (.cells Lib.zeros24 298)) w.heap.size 0 dk).drewN k=grow (w.drewN k) os':=by
   rw[alloc_eq_grow,e];rfl
  rw[e2];exact below_grow w k os'
theorem formatUint_any (u:Nat) (hu64:u<18446744073709551616) (w:World) (htab:Tab w) :
 Calls Tryz.prog 236 #[.int .u64 u,I 10] w fun e w'=>e=.returned (.string ⟨(Lib.decDigits u).toArray⟩)∧Bw w w':=by
 have HT:=zAb htab;clear htab;go_enter Tryz.func236,Tryz.ntmps236
 go_wp2_with (go_at_call 270;refine(intFormatUint_any u hu64 _ (un HT)).mono ?_;rintro e w' ⟨rfl,hb⟩)
 go_ret
 exact⟨rfl,hb⟩
theorem natOf_any (u:Nat) (hu64:u<18446744073709551616) (w:World) (htab:Tab w) :
 Calls Tryz.prog 177 #[.int .u64 u] w fun e w'=>e=.returned (.string ⟨(Lib.decDigits u).toArray⟩)∧Bw w w':=by
 have HT:=zAb htab;clear htab;go_enter Tryz.func177,Tryz.ntmps177
 go_wp2_with (go_at_call 236;refine(formatUint_any u hu64 _ (un HT)).mono ?_;rintro e w' ⟨rfl,hb⟩)
 go_ret
 exact⟨rfl,hb⟩
end Go.Proofs.YtliadckofhblnaaGreatDoor
namespace Go.Proofs.YtliadckofhblnaaGreatDoor
open Go.RowKit
theorem pow_grow (e:Nat) (he:20≤e):18446744073709551616≤10 ^ e:=Nat.le_trans (by decide:18446744073709551616≤10 ^ 20) (Nat.pow_le_pow_right (by decide) he)
theorem u64_600 (N:Nat) (h:N<18446744073709551616):N<10 ^ 600:=Nat.lt_of_lt_of_le h (pow_grow 600 (by decide))
theorem wrap_back (N:Nat) (h1:1≤N) (h2:N≤9223372036854775808):IntKind.u64.wrap (-IntKind.u64.wrap (-(N:Int)))=(N:Int):=by
 have e:∀x:Int,IntKind.u64.wrap x=x % 18446744073709551616:=fun x=>rfl
 rw[e,e];omega
theorem ratOf_neg (N:Nat) (w:World) (h1:1≤N) (h2:N≤9223372036854775808) (htab:Tab w) :
  Calls Tryz.prog 103 #[I (-(N:Int))] w fun r w'=>r=.returned (.agg #[.string (sT true N),G #[49]])∧Bw w w':=by
 obtain⟨V,hV⟩:∃V,V=w.alloc (.cells #[G #[],G #[]] 28):=⟨_,rfl⟩;have hbV:Below w.heap.size w V:=by rw[hV];exact bA
 have HR:Hid (T2 V w.heap.size (G #[]) (G #[])∧Bw w V):=⟨by rw[hV];exact⟨by simp[go_sem],by simp[go_sem],by simp[go_sem],by simp[go_sem]⟩,hbV⟩;have HV:=zAb hV;have hN:N<10 ^ 600:=u64_600 N (by omega)
 have HOF:Hid (Calls Tryz.prog 177 #[.int .u64 (N:Int)] V fun e w'=>e=.returned (.string (tb N))∧Bw V w'):=by
  have:=natOf_any N (by omega) V (htab.later hbV)
  rwa [show(⟨(Lib.decDigits N).toArray⟩:ByteArray)=tb N from zGb (by rw[zJb N hN])]at this
 have HSG:Hid (∀W,Calls Tryz.prog 120 #[.bool true,.string (tb N)] W fun e w'=>e=.returned (.string (sT true N))∧w'=W):=fun W=>signed_any true (tb N) W (by have:=(zFd N hN).2;omega)
 have k0:-(N:Int)<0:=by omega
 have k1:0<N:=by omega
 have HW:Hid (IntKind.u64.wrap (-IntKind.u64.wrap (-(N:Int)))=(N:Int)):=wrap_back N h1 h2;clear hN htab hbV;generalize sT true N=sn at *
 generalize tb N=tn at *
 go_enter Tryz.func103,Tryz.ntmps103
 go_upto_region 4 with fail
 rw[un HW];rw[←un HV];clear hV HV
 go_wp2_with (first
  | (go_at_call 177;go_must(refine(un HOF).mono ?_;rintro e W9 ⟨rfl,hb1⟩;have HR1:Hid (T2 W9 w.heap.size (G #[]) (G #[])∧Bw w W9):=⟨(un HR).1.later hb1,(un HR).2.trans (hb1.mono (un HR).2.size)⟩;clear hb1))
  | (go_at_call 120;go_must(refine(un HSG _).mono ?_;rintro e wB ⟨rfl,hwB⟩;obtain rfl:W9=wB:=hwB.symm;have r0:=(un HR1).1.c0;have r1:=(un HR1).1.c1;have rf0:=(un HR1).1.f0;have rf1:=(un HR1).1.f1)))
 have hS:=(un HR1).1.store (.string sn) (G #[49]);have hb:Below w.heap.size w (zBh W9 w.heap.size (.string sn) (G #[49])):=zAk (un HR1).2 (Nat.le_refl _) _ _;have u0:=hS.c0;have u1:=hS.c1;exact bodyPost_ret (v:=.agg #[.string sn,G #[49]]) (w:=zBh W9 w.heap.size (.string sn) (G #[49])) (by simp[results,Tryz.results103,go_sem,u0,u1]) rfl ⟨rfl,hb⟩
theorem zCg (N:Nat) (w:World) (h2:N<9223372036854775808) (htab:Tab w) :
  Calls Tryz.prog 103 #[I (N:Int)] w fun r w'=>r=.returned (.agg #[.string (sT false N),G #[49]])∧Bw w w':=by
 obtain⟨V,hV⟩:∃V,V=w.alloc (.cells #[G #[],G #[]] 28):=⟨_,rfl⟩;have hbV:Below w.heap.size w V:=by rw[hV];exact bA
 have HR:Hid (T2 V w.heap.size (G #[]) (G #[])∧Bw w V):=⟨by rw[hV];exact⟨by simp[go_sem],by simp[go_sem],by simp[go_sem],by simp[go_sem]⟩,hbV⟩;have HV:=zAb hV;have hN:N<10 ^ 600:=u64_600 N (by omega)
 have HOF:Hid (Calls Tryz.prog 177 #[.int .u64 (N:Int)] V fun e w'=>e=.returned (.string (tb N))∧Bw V w'):=by
  have:=natOf_any N (by omega) V (htab.later hbV)
  rwa [show(⟨(Lib.decDigits N).toArray⟩:ByteArray)=tb N from zGb (by rw[zJb N hN])]at this
 have HSG:Hid (∀W,Calls Tryz.prog 120 #[.bool false,.string (tb N)] W fun e w'=>e=.returned (.string (sT false N))∧w'=W):=fun W=>signed_any false (tb N) W (by have:=(zFd N hN).2;omega)
 have k0:¬(N:Int)<0:=by omega
 skip
 skip
 clear hN htab hbV;generalize sT false N=sn at *
 generalize tb N=tn at *
 go_enter Tryz.func103,Tryz.ntmps103
 go_upto_region 4 with fail
 skip
 rw[←un HV];clear hV HV
 go_wp2_with (first
  | (go_at_call 177;go_must(refine(un HOF).mono ?_;rintro e W9 ⟨rfl,hb1⟩;have HR1:Hid (T2 W9 w.heap.size (G #[]) (G #[])∧Bw w W9):=⟨(un HR).1.later hb1,(un HR).2.trans (hb1.mono (un HR).2.size)⟩;clear hb1))
  | (go_at_call 120;go_must(refine(un HSG _).mono ?_;rintro e wB ⟨rfl,hwB⟩;obtain rfl:W9=wB:=hwB.symm;have r0:=(un HR1).1.c0;have r1:=(un HR1).1.c1;have rf0:=(un HR1).1.f0;have rf1:=(un HR1).1.f1)))
 have hS:=(un HR1).1.store (.string sn) (G #[49]);have hb:Below w.heap.size w (zBh W9 w.heap.size (.string sn) (G #[49])):=zAk (un HR1).2 (Nat.le_refl _) _ _;have u0:=hS.c0;have u1:=hS.c1;exact bodyPost_ret (v:=.agg #[.string sn,G #[49]]) (w:=zBh W9 w.heap.size (.string sn) (G #[49])) (by simp[results,Tryz.results103,go_sem,u0,u1]) rfl ⟨rfl,hb⟩
end Go.Proofs.YtliadckofhblnaaGreatDoor
namespace Go.Proofs.YtliadckofhblnaaGreatDoor.Dm
open Go.RowKit
theorem zAb {p:Prop} (h:p):Hid p:=h
theorem un {p:Prop} (h:Hid p):p:=h
def okB (x:Int):Bool:=!(decide (x < -99) || decide (99<x))
def rightB (l:List Int):Bool:=l.all okB
theorem okB_lo {x:Int} (h:x < -99):okB x=false:=by simp[okB,h]
theorem zHh {x:Int} (h:x < -99∨99<x):okB x=false:=by rcases h with h|h<;>simp[okB,h]
theorem zFy {x:Int} (h1:-99≤x) (h2:x≤99):okB x=true:=by simp[okB];omega
theorem okB_out {x:Int} (h:okB x=true):-99≤x∧x≤99:=by simp[okB]at h;omega
theorem zAr {l:List Int} (k:Nat) (x:Int) (hk:l[k]?=some x) (h:okB x=false):rightB l=false:=by
 unfold rightB;rw[List.all_eq_false];exact⟨x,List.mem_of_getElem? hk,by simp[h]⟩
theorem rightB_true {l:List Int} (h:∀(j:Nat) (x:Int),l[j]?=some x→okB x=true):rightB l=true:=by
 unfold rightB;rw[List.all_eq_true];intro x hx;obtain⟨j,hj⟩:=List.getElem?_of_mem hx;exact h j x hj
theorem rightB_get {l:List Int} (h:rightB l=true) (j:Nat) (x:Int) (hj:l[j]?=some x):-99≤x∧x≤99:=by
 unfold rightB at h
 rw[List.all_eq_true]at h;exact okB_out (h x (List.mem_of_getElem? hj))
def OkTo (l:List Int) (k:Nat):Prop:=∀j,j<k→∀x,l[j]?=some x→okB x=true
theorem OkTo.zero (l:List Int):OkTo l 0:=fun j h=>absurd h (Nat.not_lt_zero j)
theorem OkTo.step {l:List Int} {k:Nat} (h:OkTo l k) {x:Int} (hk:l[k]?=some x) (hx:okB x=true):OkTo l (k+1):=by
 intro j hj y hy
 by_cases e:j=k
 ·subst e;rw[hk]at hy;cases hy;exact hx
 ·exact h j (by omega) y hy
theorem OkTo.all {l:List Int} {k:Nat} (h:OkTo l k) (hl:l.length≤k):rightB l=true :=
 rightB_true fun j x hj=>h j (by have:=(List.getElem?_eq_some_iff.1 hj).1;omega) x hj
theorem zBs {a b:Bool} (h:a=b):Ending.returned (.bool a)=.returned (.bool b):=by rw[h]
def sel (b:Bool) (x:Int):Int:=if b=true then x else 0
def errOf (b:Bool) (n:Int):Int:=if b=true then 0 else n
theorem sel_true (x:Int):sel true x=x:=rfl
theorem sel_false (x:Int):sel false x=0:=rfl
theorem errOf_true (x:Int):errOf true x=0:=rfl
theorem errOf_false (x:Int):errOf false x=x:=rfl
section
variable (x0 x1 x2 x3 x4 x5 x6 x7:Int)
theorem idx0 (w:World):(Instr.index 26 (.agg #[I x0,I x1,I x2,I x3,I x4,I x5,I x6,I x7]) (I 0)).run Tryz.prog w=.ok (I x0) w:=by kernel_rfl
theorem idx1 (w:World):(Instr.index 26 (.agg #[I x0,I x1,I x2,I x3,I x4,I x5,I x6,I x7]) (I 1)).run Tryz.prog w=.ok (I x1) w:=by kernel_rfl
theorem idx2 (w:World):(Instr.index 26 (.agg #[I x0,I x1,I x2,I x3,I x4,I x5,I x6,I x7]) (I 2)).run Tryz.prog w=.ok (I x2) w:=by kernel_rfl
theorem idx3 (w:World):(Instr.index 26 (.agg #[I x0,I x1,I x2,I x3,I x4,I x5,I x6,I x7]) (I 3)).run Tryz.prog w=.ok (I x3) w:=by kernel_rfl
theorem idx4 (w:World):(Instr.index 26 (.agg #[I x0,I x1,I x2,I x3,I x4,I x5,I x6,I x7]) (I 4)).run Tryz.prog w=.ok (I x4) w:=by kernel_rfl
theorem idx5 (w:World):(Instr.index 26 (.agg #[I x0,I x1,I x2,I x3,I x4,I x5,I x6,I x7]) (I 5)).run Tryz.prog w=.ok (I x5) w:=by kernel_rfl
theorem idx6 (w:World):(Instr.index 26 (.agg #[I x0,I x1,I x2,I x3,I x4,I x5,I x6,I x7]) (I 6)).run Tryz.prog w=.ok (I x6) w:=by kernel_rfl
theorem idx7 (w:World):(Instr.index 26 (.agg #[I x0,I x1,I x2,I x3,I x4,I x5,I x6,I x7]) (I 7)).run Tryz.prog w=.ok (I x7) w:=by kernel_rfl
theorem eight {k:Nat} (h:k≤8):k=0∨k=1∨k=2∨k=3∨k=4∨k=5∨k=6∨k=7∨k=8:=by omega
theorem zHy (w:World):Calls Tryz.prog 170 #[.agg #[I x0,I x1,I x2,I x3,I x4,I x5,I x6,I x7]] w fun e w'=>e=.returned (.bool (rightB [x0,x1,x2,x3,x4,x5,x6,x7]))∧w'=w.alloc (.cells #[I x0,I x1,I x2,I x3,I x4,I x5,I x6,I x7] 26):=by
 have i0:=idx0 x0 x1 x2 x3 x4 x5 x6 x7;have i1:=idx1 x0 x1 x2 x3 x4 x5 x6 x7;have i2:=idx2 x0 x1 x2 x3 x4 x5 x6 x7;have i3:=idx3 x0 x1 x2 x3 x4 x5 x6 x7;have i4:=idx4 x0 x1 x2 x3 x4 x5 x6 x7;have i5:=idx5 x0 x1 x2 x3 x4 x5 x6 x7;have i6:=idx6 x0 x1 x2 x3 x4 x5 x6 x7;have i7:=idx7 x0 x1 x2 x3 x4 x5 x6 x7;generalize hl:[x0,x1,x2,x3,x4,x5,x6,x7]=l;have HL:=zAb hl;clear hl;go_enter Tryz.func170,Tryz.ntmps170
 go_wp2
 go_loop [6] (fun i=>∃k:Nat,k≤8∧i=I k∧OkTo l k) (fun i=>8 - (intOf i).toNat)
 case atStart=>exact⟨0,Nat.zero_le _,rfl,OkTo.zero _⟩
 case round=>
  obtain⟨k,hk,rfl,hto⟩:=hrel;have HO:=zAb hto;clear hto;rcases eight hk with rfl|rfl|rfl|rfl|rfl|rfl|rfl|rfl|rfl
  ·go_wp2
   ·go_ret
    exact⟨zBs (zAr 0 x0 (by rw[←un HL];rfl) (zHh (by omega))).symm,rfl⟩
   ·exact⟨⟨1,by omega,rfl,(un HO).step (by rw[←un HL];rfl) (zFy (x:=x0) (by omega) (by omega))⟩,by simp[intOf]⟩
   ·go_ret
    exact⟨zBs (zAr 0 x0 (by rw[←un HL];rfl) (okB_lo (by omega))).symm,rfl⟩
  ·go_wp2
   ·go_ret
    exact⟨zBs (zAr 1 x1 (by rw[←un HL];rfl) (zHh (by omega))).symm,rfl⟩
   ·exact⟨⟨2,by omega,rfl,(un HO).step (by rw[←un HL];rfl) (zFy (x:=x1) (by omega) (by omega))⟩,by simp[intOf]⟩
   ·go_ret
    exact⟨zBs (zAr 1 x1 (by rw[←un HL];rfl) (okB_lo (by omega))).symm,rfl⟩
  ·go_wp2
   ·go_ret
    exact⟨zBs (zAr 2 x2 (by rw[←un HL];rfl) (zHh (by omega))).symm,rfl⟩
   ·exact⟨⟨3,by omega,rfl,(un HO).step (by rw[←un HL];rfl) (zFy (x:=x2) (by omega) (by omega))⟩,by simp[intOf]⟩
   ·go_ret
    exact⟨zBs (zAr 2 x2 (by rw[←un HL];rfl) (okB_lo (by omega))).symm,rfl⟩
  ·go_wp2
   ·go_ret
    exact⟨zBs (zAr 3 x3 (by rw[←un HL];rfl) (zHh (by omega))).symm,rfl⟩
   ·exact⟨⟨4,by omega,rfl,(un HO).step (by rw[←un HL];rfl) (zFy (x:=x3) (by omega) (by omega))⟩,by simp[intOf]⟩
   ·go_ret
    exact⟨zBs (zAr 3 x3 (by rw[←un HL];rfl) (okB_lo (by omega))).symm,rfl⟩
  ·go_wp2
   ·go_ret
    exact⟨zBs (zAr 4 x4 (by rw[←un HL];rfl) (zHh (by omega))).symm,rfl⟩
   ·exact⟨⟨5,by omega,rfl,(un HO).step (by rw[←un HL];rfl) (zFy (x:=x4) (by omega) (by omega))⟩,by simp[intOf]⟩
   ·go_ret
    exact⟨zBs (zAr 4 x4 (by rw[←un HL];rfl) (okB_lo (by omega))).symm,rfl⟩
  ·go_wp2
   ·go_ret
    exact⟨zBs (zAr 5 x5 (by rw[←un HL];rfl) (zHh (by omega))).symm,rfl⟩
   ·exact⟨⟨6,by omega,rfl,(un HO).step (by rw[←un HL];rfl) (zFy (x:=x5) (by omega) (by omega))⟩,by simp[intOf]⟩
   ·go_ret
    exact⟨zBs (zAr 5 x5 (by rw[←un HL];rfl) (okB_lo (by omega))).symm,rfl⟩
  ·go_wp2
   ·go_ret
    exact⟨zBs (zAr 6 x6 (by rw[←un HL];rfl) (zHh (by omega))).symm,rfl⟩
   ·exact⟨⟨7,by omega,rfl,(un HO).step (by rw[←un HL];rfl) (zFy (x:=x6) (by omega) (by omega))⟩,by simp[intOf]⟩
   ·go_ret
    exact⟨zBs (zAr 6 x6 (by rw[←un HL];rfl) (okB_lo (by omega))).symm,rfl⟩
  ·go_wp2
   ·go_ret
    exact⟨zBs (zAr 7 x7 (by rw[←un HL];rfl) (zHh (by omega))).symm,rfl⟩
   ·exact⟨⟨8,by omega,rfl,(un HO).step (by rw[←un HL];rfl) (zFy (x:=x7) (by omega) (by omega))⟩,by simp[intOf]⟩
   ·go_ret
    exact⟨zBs (zAr 7 x7 (by rw[←un HL];rfl) (okB_lo (by omega))).symm,rfl⟩
  ·go_wp2
   go_ret
   exact⟨zBs ((un HO).all (by rw[←un HL];exact Nat.le_refl 8)).symm,rfl⟩
theorem zGf (w:World):Calls Tryz.prog 179 #[.agg #[I x0,I x1,I x2,I x3,I x4,I x5,I x6,I x7]] w fun e w'=>e=.returned (.tuple #[.agg #[I (sel (rightB [x0,x1,x2,x3,x4,x5,x6,x7]) x0),I (sel (rightB [x0,x1,x2,x3,x4,x5,x6,x7]) x1),I (sel (rightB [x0,x1,x2,x3,x4,x5,x6,x7]) x2),I (sel (rightB [x0,x1,x2,x3,x4,x5,x6,x7]) x3),I (sel (rightB [x0,x1,x2,x3,x4,x5,x6,x7]) x4),I (sel (rightB [x0,x1,x2,x3,x4,x5,x6,x7]) x5),I (sel (rightB [x0,x1,x2,x3,x4,x5,x6,x7]) x6),I (sel (rightB [x0,x1,x2,x3,x4,x5,x6,x7]) x7)],I (errOf (rightB [x0,x1,x2,x3,x4,x5,x6,x7]) 51)])∧w'=((w.alloc (.cells #[I x0,I x1,I x2,I x3,I x4,I x5,I x6,I x7] 26)).alloc (.cells #[I (sel (rightB [x0,x1,x2,x3,x4,x5,x6,x7]) x0),I (sel (rightB [x0,x1,x2,x3,x4,x5,x6,x7]) x1),I (sel (rightB [x0,x1,x2,x3,x4,x5,x6,x7]) x2),I (sel (rightB [x0,x1,x2,x3,x4,x5,x6,x7]) x3),I (sel (rightB [x0,x1,x2,x3,x4,x5,x6,x7]) x4),I (sel (rightB [x0,x1,x2,x3,x4,x5,x6,x7]) x5),I (sel (rightB [x0,x1,x2,x3,x4,x5,x6,x7]) x6),I (sel (rightB [x0,x1,x2,x3,x4,x5,x6,x7]) x7)] 26)).alloc (.cells #[I x0,I x1,I x2,I x3,I x4,I x5,I x6,I x7] 26):=by
 have HC:=zAb (zHy x0 x1 x2 x3 x4 x5 x6 x7);generalize rightB [x0,x1,x2,x3,x4,x5,x6,x7]=r at *
 cases r with
 | true=>
  simp only[sel_true,errOf_true];go_enter Tryz.func179,Tryz.ntmps179
  go_wp2_with (go_at_call 170;refine(un HC _).mono ?_;rintro e w' ⟨rfl,rfl⟩)
  exact bodyPost_ret (v:=.tuple #[.agg #[I x0,I x1,I x2,I x3,I x4,I x5,I x6,I x7],I 0]) (by simp[results,Tryz.results179,go_sem]) rfl ⟨rfl,rfl⟩
 | false=>
  simp only[sel_false,errOf_false];go_enter Tryz.func179,Tryz.ntmps179
  go_wp2_with (go_at_call 170;refine(un HC _).mono ?_;rintro e w' ⟨rfl,rfl⟩)
  exact bodyPost_ret (v:=.tuple #[.agg #[I 0,I 0,I 0,I 0,I 0,I 0,I 0,I 0],I 51]) (by simp[results,Tryz.results179,go_sem]) rfl ⟨rfl,rfl⟩
end
section
variable (a0 a1 a2 a3 a4 a5 a6 a7 b0 b1 b2 b3 b4 b5 b6 b7:Int)
def quoOk (ra rb:Bool) (l:List Int):Bool:=ra && rb && rightB l
def quoErr (ra rb:Bool) (l:List Int):Int:=if (ra && rb)=true then errOf (rightB l) 51 else 1
theorem quo_any (w:World):Calls Tryz.prog 105 #[.agg #[.int .i64 a0,.int .i64 a1,.int .i64 a2,.int .i64 a3,.int .i64 a4,.int .i64 a5,.int .i64 a6,.int .i64 a7],.agg #[.int .i64 b0,.int .i64 b1,.int .i64 b2,.int .i64 b3,.int .i64 b4,.int .i64 b5,.int .i64 b6,.int .i64 b7]] w fun e w'=>e=.returned (.tuple #[.agg #[.int .i64 (sel (quoOk (rightB [a0,a1,a2,a3,a4,a5,a6,a7]) (rightB [b0,b1,b2,b3,b4,b5,b6,b7]) [wrap64 (a0 - b0),wrap64 (a1 - b1),wrap64 (a2 - b2),wrap64 (a3 - b3),wrap64 (a4 - b4),wrap64 (a5 - b5),wrap64 (a6 - b6),wrap64 (a7 - b7)]) (wrap64 (a0 - b0))),.int .i64 (sel (quoOk (rightB [a0,a1,a2,a3,a4,a5,a6,a7]) (rightB [b0,b1,b2,b3,b4,b5,b6,b7]) [wrap64 (a0 - b0),wrap64 (a1 - b1),wrap64 (a2 - b2),wrap64 (a3 - b3),wrap64 (a4 - b4),wrap64 (a5 - b5),wrap64 (a6 - b6),wrap64 (a7 - b7)]) (wrap64 (a1 - b1))),.int .i64 (sel (quoOk (rightB [a0,a1,a2,a3,a4,a5,a6,a7]) (rightB [b0,b1,b2,b3,b4,b5,b6,b7]) [wrap64 (a0 - b0),wrap64 (a1 - b1),wrap64 (a2 - b2),wrap64 (a3 - b3),wrap64 (a4 - b4),wrap64 (a5 - b5),wrap64 (a6 - b6),wrap64 (a7 - b7)]) (wrap64 (a2 - b2))),.int .i64 (sel (quoOk (rightB [a0,a1,a2,a3,a4,a5,a6,a7]) (rightB [b0,b1,b2,b3,b4,b5,b6,b7]) [wrap64 (a0 - b0),wrap64 (a1 - b1),wrap64 (a2 - b2),wrap64 (a3 - b3),wrap64 (a4 - b4),wrap64 (a5 - b5),wrap64 (a6 - b6),wrap64 (a7 - b7)]) (wrap64 (a3 - b3))),.int .i64 (sel (quoOk (rightB [a0,a1,a2,a3,a4,a5,a6,a7]) (rightB [b0,b1,b2,b3,b4,b5,b6,b7]) [wrap64 (a0 - b0),wrap64 (a1 - b1),wrap64 (a2 - b2),wrap64 (a3 - b3),wrap64 (a4 - b4),wrap64 (a5 - b5),wrap64 (a6 - b6),wrap64 (a7 - b7)]) (wrap64 (a4 - b4))),.int .i64 (sel (quoOk (rightB [a0,a1,a2,a3,a4,a5,a6,a7]) (rightB [b0,b1,b2,b3,b4,b5,b6,b7]) [wrap64 (a0 - b0),wrap64 (a1 - b1),wrap64 (a2 - b2),wrap64 (a3 - b3),wrap64 (a4 - b4),wrap64 (a5 - b5),wrap64 (a6 - b6),wrap64 (a7 - b7)]) (wrap64 (a5 - b5))),.int .i64 (sel (quoOk (rightB [a0,a1,a2,a3,a4,a5,a6,a7]) (rightB [b0,b1,b2,b3,b4,b5,b6,b7]) [wrap64 (a0 - b0),wrap64 (a1 - b1),wrap64 (a2 - b2),wrap64 (a3 - b3),wrap64 (a4 - b4),wrap64 (a5 - b5),wrap64 (a6 - b6),wrap64 (a7 - b7)]) (wrap64 (a6 - b6))),.int .i64 (sel (quoOk (rightB [a0,a1,a2,a3,a4,a5,a6,a7]) (rightB [b0,b1,b2,b3,b4,b5,b6,b7]) [wrap64 (a0 - b0),wrap64 (a1 - b1),wrap64 (a2 - b2),wrap64 (a3 - b3),wrap64 (a4 - b4),wrap64 (a5 - b5),wrap64 (a6 - b6),wrap64 (a7 - b7)]) (wrap64 (a7 - b7)))],.int .i64 (quoErr (rightB [a0,a1,a2,a3,a4,a5,a6,a7]) (rightB [b0,b1,b2,b3,b4,b5,b6,b7]) [wrap64 (a0 - b0),wrap64 (a1 - b1),wrap64 (a2 - b2),wrap64 (a3 - b3),wrap64 (a4 - b4),wrap64 (a5 - b5),wrap64 (a6 - b6),wrap64 (a7 - b7)])])∧Below w.heap.size w w':=by
  have HA:=zAb (zHy a0 a1 a2 a3 a4 a5 a6 a7)
  have HB:=zAb (zHy b0 b1 b2 b3 b4 b5 b6 b7)
  have HT:=zAb (zGf (wrap64 (a0 - b0)) (wrap64 (a1 - b1)) (wrap64 (a2 - b2)) (wrap64 (a3 - b3)) (wrap64 (a4 - b4)) (wrap64 (a5 - b5)) (wrap64 (a6 - b6)) (wrap64 (a7 - b7)))
  unfold quoOk quoErr
  generalize rightB [a0,a1,a2,a3,a4,a5,a6,a7]=ra at *
  generalize rightB [b0,b1,b2,b3,b4,b5,b6,b7]=rb at *
  generalize rightB [wrap64 (a0 - b0),wrap64 (a1 - b1),wrap64 (a2 - b2),wrap64 (a3 - b3),wrap64 (a4 - b4),wrap64 (a5 - b5),wrap64 (a6 - b6),wrap64 (a7 - b7)]=rq at *
  cases ra with
  | false=>
    simp only[Bool.false_and,sel_false,Bool.false_eq_true,if_false]
    go_enter Tryz.func105,Tryz.ntmps105
    go_wp2_with (first
      | (go_at_call_of 170 (Value.agg #[Value.int IntKind.i64 a0,Value.int IntKind.i64 a1,Value.int IntKind.i64 a2,Value.int IntKind.i64 a3,Value.int IntKind.i64 a4,Value.int IntKind.i64 a5,Value.int IntKind.i64 a6,Value.int IntKind.i64 a7]);refine(un HA _).mono ?_;rintro e w' ⟨rfl,rfl⟩))
    exact bodyPost_ret (v:=.tuple #[.agg #[.int .i64 0,.int .i64 0,.int .i64 0,.int .i64 0,.int .i64 0,.int .i64 0,.int .i64 0,.int .i64 0],.int .i64 1]) (by simp[results,Tryz.results105,go_sem]) rfl ⟨rfl,((((Below.refl _ _).alloc (Nat.le_refl _) _).alloc (by simp) _).alloc (by simp;omega) _).alloc (by simp;omega) _⟩
  | true=>
    cases rb with
    | false=>
      simp only[Bool.and_false,Bool.false_and,sel_false,Bool.false_eq_true,if_false]
      go_enter Tryz.func105,Tryz.ntmps105
      go_wp2_with (first
        | (go_at_call_of 170 (Value.agg #[Value.int IntKind.i64 a0,Value.int IntKind.i64 a1,Value.int IntKind.i64 a2,Value.int IntKind.i64 a3,Value.int IntKind.i64 a4,Value.int IntKind.i64 a5,Value.int IntKind.i64 a6,Value.int IntKind.i64 a7]);refine(un HA _).mono ?_;rintro e w' ⟨rfl,rfl⟩)
        | (go_at_call_of 170 (Value.agg #[Value.int IntKind.i64 b0,Value.int IntKind.i64 b1,Value.int IntKind.i64 b2,Value.int IntKind.i64 b3,Value.int IntKind.i64 b4,Value.int IntKind.i64 b5,Value.int IntKind.i64 b6,Value.int IntKind.i64 b7]);refine(un HB _).mono ?_;rintro e w' ⟨rfl,rfl⟩))
      exact bodyPost_ret (v:=.tuple #[.agg #[.int .i64 0,.int .i64 0,.int .i64 0,.int .i64 0,.int .i64 0,.int .i64 0,.int .i64 0,.int .i64 0],.int .i64 1]) (by simp[results,Tryz.results105,go_sem]) rfl ⟨rfl,(((((Below.refl _ _).alloc (Nat.le_refl _) _).alloc (by simp) _).alloc (by simp;omega) _).alloc (by simp;omega) _).alloc (by simp;omega) _⟩
    | true=>
      simp only[Bool.and_self,Bool.true_and,if_true]
      have i0:=idx0 b0 b1 b2 b3 b4 b5 b6 b7
      have i1:=idx1 b0 b1 b2 b3 b4 b5 b6 b7
      have i2:=idx2 b0 b1 b2 b3 b4 b5 b6 b7
      have i3:=idx3 b0 b1 b2 b3 b4 b5 b6 b7
      have i4:=idx4 b0 b1 b2 b3 b4 b5 b6 b7
      have i5:=idx5 b0 b1 b2 b3 b4 b5 b6 b7
      have i6:=idx6 b0 b1 b2 b3 b4 b5 b6 b7
      have i7:=idx7 b0 b1 b2 b3 b4 b5 b6 b7
      go_enter Tryz.func105,Tryz.ntmps105
      go_wp2_with (first
        | (go_at_call_of 170 (Value.agg #[Value.int IntKind.i64 a0,Value.int IntKind.i64 a1,Value.int IntKind.i64 a2,Value.int IntKind.i64 a3,Value.int IntKind.i64 a4,Value.int IntKind.i64 a5,Value.int IntKind.i64 a6,Value.int IntKind.i64 a7]);refine(un HA _).mono ?_;rintro e w' ⟨rfl,rfl⟩)
        | (go_at_call_of 170 (Value.agg #[Value.int IntKind.i64 b0,Value.int IntKind.i64 b1,Value.int IntKind.i64 b2,Value.int IntKind.i64 b3,Value.int IntKind.i64 b4,Value.int IntKind.i64 b5,Value.int IntKind.i64 b6,Value.int IntKind.i64 b7]);refine(un HB _).mono ?_;rintro e w' ⟨rfl,rfl⟩))
      refine wp_loop_rounds 9 ?_
      repeat any_goals (rw[rounds_succ];go_wp2_with (go_at_call 179;refine(un HT _).mono ?_;rintro e w' ⟨rfl,rfl⟩))
      exact bodyPost_ret (v:=.tuple #[.agg #[.int .i64 (sel rq (wrap64 (a0 - b0))),.int .i64 (sel rq (wrap64 (a1 - b1))),.int .i64 (sel rq (wrap64 (a2 - b2))),.int .i64 (sel rq (wrap64 (a3 - b3))),.int .i64 (sel rq (wrap64 (a4 - b4))),.int .i64 (sel rq (wrap64 (a5 - b5))),.int .i64 (sel rq (wrap64 (a6 - b6))),.int .i64 (sel rq (wrap64 (a7 - b7)))],.int .i64 (errOf rq 51)]) (by simp[results,Tryz.results105,go_sem]) rfl ⟨rfl,by repeat (first|exact Below.refl _ _|(refine Below.alloc ?_ (by simp<;>omega) _))⟩
end
def cells8 (l:List Int):Array Value:=(l.map fun x=>I x).toArray
def zFr (w:World) (g:Nat) (l:List Int):Prop:=w.heap[g]?=some (.cells (cells8 l) 26 (0,0))
theorem zFr.lt {w:World} {g:Nat} {l:List Int} (h:zFr w g l):g<w.heap.size:=(Array.getElem?_eq_some_iff.1 h).1
theorem zFr.cell {w:World} {g:Nat} {l:List Int} (h:zFr w g l) (i:Nat) (x:Int) (hi:l[i]?=some x):w.cell? ⟨g,i,none⟩=some (I x):=by
 unfold zFr cells8 at h
 simp[World.cell?,h,hi]
theorem zFr.frozen {w:World} {g:Nat} {l:List Int} (h:zFr w g l) (i:Nat):w.frozen? ⟨g,i,none⟩=false:=by
 unfold zFr at h
 simp[World.frozen?,h]
theorem zFr.set {w:World} {g:Nat} {l:List Int} (h:zFr w g l) (i:Nat) (x:Int):zFr (w.setCell ⟨g,i,none⟩ (I x)) g (l.set i x):=by
 unfold zFr cells8 at h ⊢
 simp only[World.setCell,Array.getElem?_modify,h,Option.map_some];simp[List.map_set]
theorem zFr.other {w:World} {g:Nat} {l:List Int} (h:zFr w g l) {a:Addr} (ha:g≠a.block) (x:Value):zFr (w.setCell a x) g l :=
 (Below.heap_setCell w a x g ha).trans h
theorem zFr.alloc {w:World} {g:Nat} {l:List Int} (h:zFr w g l) (o:Obj):zFr (w.alloc o) g l:=(Below.heap_alloc w o g h.lt).trans h
theorem zFr.setRow {w:World} {g:Nat} {l:List Int} (h:zFr w g l) (m:List Int):zFr (w.setRow g (cells8 m)) g m:=setRow_heap w g _ _ 26 (0,0) h
theorem size_alloc (w:World) (o:Obj):(w.alloc o).heap.size=w.heap.size+1:=by simp
theorem zFr.new (w:World) (l:List Int):zFr (w.alloc (.cells (cells8 l) 26)) w.heap.size l:=heap_alloc_new w _
theorem info24:(Tryz.prog.info? 26).map (·.size)=some 8:=by kernel_rfl
theorem ones8 (l:List Int):(cells8 l).all (·.oneCell')=true:=by
 unfold cells8;rw[Array.all_eq_true_iff_forall_mem];intro v hv;simp at hv
 obtain⟨x,_,rfl⟩:=hv
 rfl
theorem size8 (l:List Int):(cells8 l).size=l.length:=by simp[cells8]
theorem res2 {fn:Func} {p u:Tmp} (h:fn.results=#[.cell p 26,.tmp u]) (tmps:Array Value) (w:World) (g:Nat) (l:List Int) (hl:l.length=8)
  (hp:tmps.getD p undef=.pointer (some ⟨g,0,none⟩)) (ho:zFr w g l):(results fn tmps).run Tryz.prog w=.ok (.tuple #[.agg (cells8 l),tmps.getD u undef]) w:=by
 rw[results_cell_tmp h,hp];simp only[asAddr,Sem.run_pure,Result.andThen_ok];rw[run_loadVar_row w g 26 26 (cells8 l) (0,0) _ ho Tryz.underlying26 rfl (by rw[info24,size8,hl])]
 rfl
theorem store8 {ops:Array Oper} {rest:List Oper} {o:Oper} {a:Act} {w:World} {Q:Exit→Act→World→Prop} (hgd:o.guard=none) (x y:Operand) (ho:o.op=.store 26 x y)
  (g:Nat) (l m:List Int) (hl:l.length=8) (hm:m.length=8) (hx:a.eval x=.pointer (some ⟨g,0,none⟩)) (hy:a.eval y=.agg (cells8 m)) (hg:zFr w g l)
  (h:wpList Tryz.prog ops Q rest (a.put o.dst undef) (w.setRow g (cells8 m))):wpList Tryz.prog ops Q (o :: rest) a w :=
 wpList_store_row hgd 26 x y ho g (cells8 m) hx hy 26 _ hg (by rw[info24,size8,hm]) (by rw[size8,size8,hl,hm]) (ones8 m) h
def Dims (w:World) (b o n:Nat) (X:Nat→Nat→Int):Prop:=b<w.heap.size∧∀i,i<n→∀j,j<8→w.cell? ⟨b,o+i*8+j,none⟩=some (I (X i j))
theorem Dims.later {w w':World} {b o n:Nat} {X:Nat→Nat→Int} (h:Dims w b o n X) (hb:Below w.heap.size w w'):Dims w' b o n X:=by
 have:=hb.size;exact⟨by have:=h.1;omega,fun i hi j hj=>(hb.cell (p:=⟨b,o+i*8+j,none⟩) h.1).trans (h.2 i hi j hj)⟩
def dimAt (X:Nat→Nat→Int) (i:Nat):List Int:=[X i 0,X i 1,X i 2,X i 3,X i 4,X i 5,X i 6,X i 7]
def allB (X:Nat→Nat→Int):Nat→Bool
 | 0=>true
 | k+1=>allB X k && rightB (dimAt X k)
def sumD (X:Nat→Nat→Int):Nat→Nat→Int
 | 0,_=>0
 | k+1,j=>wrap64 (sumD X k j+X k j)
def sumL (X:Nat→Nat→Int) (k:Nat):List Int:=[sumD X k 0,sumD X k 1,sumD X k 2,sumD X k 3,sumD X k 4,sumD X k 5,sumD X k 6,sumD X k 7]
theorem allB_false (X:Nat→Nat→Int) (k n:Nat) (h:k<n) (hf:rightB (dimAt X k)=false):allB X n=false:=by
 induction n with
 | zero=>omega
 | succ n ih=>
  unfold allB
  by_cases e:k=n
  ·subst e;rw[hf,Bool.and_false]
  ·rw[ih (by omega),Bool.false_and]
def mulErr (X:Nat→Nat→Int) (n:Nat):Int:=if allB X n=true then errOf (rightB (sumL X n)) 51 else 1
def mixL (X:Nat→Nat→Int) (k j:Nat):List Int:=(sumL X (k+1)).take j ++ (sumL X k).drop j
theorem mixL_get (X:Nat→Nat→Int) (k j:Nat) (h:j<8):(mixL X k j)[j]?=some (sumD X k j):=by
 rcases eight (Nat.le_of_lt h)with rfl|rfl|rfl|rfl|rfl|rfl|rfl|rfl|rfl<;>first|rfl|omega
theorem mixL_set (X:Nat→Nat→Int) (k j:Nat) (h:j<8):(mixL X k j).set j (wrap64 (sumD X k j+X k j))=mixL X k (j+1):=by
 rcases eight (Nat.le_of_lt h)with rfl|rfl|rfl|rfl|rfl|rfl|rfl|rfl|rfl<;>first|rfl|omega
theorem dimAt_get (X:Nat→Nat→Int) (k j:Nat) (h:j<8):(dimAt X k)[j]?=some (X k j):=by
 rcases eight (Nat.le_of_lt h)with rfl|rfl|rfl|rfl|rfl|rfl|rfl|rfl|rfl<;>first|rfl|omega
theorem idxN (x0 x1 x2 x3 x4 x5 x6 x7:Int) (j:Nat) (y:Int) (h:[x0,x1,x2,x3,x4,x5,x6,x7][j]?=some y) (w:World):(Instr.index 26 (.agg #[I x0,I x1,I x2,I x3,I x4,I x5,I x6,I x7]) (I j)).run Tryz.prog w=.ok (I y) w:=by
 have hj:j<8:=(List.getElem?_eq_some_iff.1 h).1;rcases eight (Nat.le_of_lt hj)with rfl|rfl|rfl|rfl|rfl|rfl|rfl|rfl|rfl
 ·cases h;exact idx0 x0 x1 x2 x3 x4 x5 x6 x7 w
 ·cases h;exact idx1 x0 x1 x2 x3 x4 x5 x6 x7 w
 ·cases h;exact idx2 x0 x1 x2 x3 x4 x5 x6 x7 w
 ·cases h;exact idx3 x0 x1 x2 x3 x4 x5 x6 x7 w
 ·cases h;exact idx4 x0 x1 x2 x3 x4 x5 x6 x7 w
 ·cases h;exact idx5 x0 x1 x2 x3 x4 x5 x6 x7 w
 ·cases h;exact idx6 x0 x1 x2 x3 x4 x5 x6 x7 w
 ·cases h;exact idx7 x0 x1 x2 x3 x4 x5 x6 x7 w
 ·omega
theorem mul_any (b o n c:Nat) (X:Nat→Nat→Int) (w:World) (hn:n≤9223372036854775807) (hd:Dims w b o n X):Calls Tryz.prog 175 #[.slice (some ⟨b,o,none⟩) n c] w fun e w'=>e=.returned (.tuple #[.agg #[I (sel (allB X n && rightB (sumL X n)) (sumD X n 0)),I (sel (allB X n && rightB (sumL X n)) (sumD X n 1)),I (sel (allB X n && rightB (sumL X n)) (sumD X n 2)),I (sel (allB X n && rightB (sumL X n)) (sumD X n 3)),I (sel (allB X n && rightB (sumL X n)) (sumD X n 4)),I (sel (allB X n && rightB (sumL X n)) (sumD X n 5)),I (sel (allB X n && rightB (sumL X n)) (sumD X n 6)),I (sel (allB X n && rightB (sumL X n)) (sumD X n 7))],I (mulErr X n)])∧Bw w w':=by
  have HD:=zAb hd;have hbw:=hd.1;clear hd;go_enter Tryz.func175,Tryz.ntmps175
  go_wp2_with fail
  go_loopw [12] (fun i wr=>∃k:Nat,i=I k∧k≤n∧Hid (allB X k=true)∧Hid (zFr wr w.heap.size [0,0,0,0,0,0,0,0])∧Hid (zFr wr (w.heap.size+1) (sumL X k))∧Hid (Bw w wr)) (fun i _=>n - (intOf i).toNat)
  case atStart=>exact⟨0,rfl,Nat.zero_le _,rfl,(zFr.new w [0,0,0,0,0,0,0,0]).alloc _,(by have h:=zFr.new (w.alloc (.cells #[I 0,I 0,I 0,I 0,I 0,I 0,I 0,I 0] 26)) [0,0,0,0,0,0,0,0];rw[size_alloc]at h;exact h),((Below.refl _ _).alloc (Nat.le_refl _) _).alloc (by simp) _⟩
  case round=>
    obtain⟨k,rfl,hk,HA,HR,HP,HB⟩:=hrel
    by_cases hlt:k<n
    · obtain⟨c0,c1,c2,c3,c4,c5,c6,c7⟩:wr.cell? ⟨b,o+k*8,none⟩=some (I (X k 0))∧wr.cell? ⟨b,o+k*8+1,none⟩=some (I (X k 1))∧wr.cell? ⟨b,o+k*8+2,none⟩=some (I (X k 2))∧wr.cell? ⟨b,o+k*8+3,none⟩=some (I (X k 3))∧wr.cell? ⟨b,o+k*8+4,none⟩=some (I (X k 4))∧wr.cell? ⟨b,o+k*8+5,none⟩=some (I (X k 5))∧wr.cell? ⟨b,o+k*8+6,none⟩=some (I (X k 6))∧wr.cell? ⟨b,o+k*8+7,none⟩=some (I (X k 7)):=by
        have h:=((un HD).later (un HB)).2 k hlt;exact⟨h 0 (by omega),h 1 (by omega),h 2 (by omega),h 3 (by omega),h 4 (by omega),h 5 (by omega),h 6 (by omega),h 7 (by omega)⟩
      have HC:=zAb (zHy (X k 0) (X k 1) (X k 2) (X k 3) (X k 4) (X k 5) (X k 6) (X k 7));have hsz:=(un HP).lt;have hsz0:w.heap.size<wr.heap.size:=by omega
      cases hr:rightB [X k 0,X k 1,X k 2,X k 3,X k 4,X k 5,X k 6,X k 7]with
      | false=>
        rw[hr]at HC;have HF:=zAb (allB_false X k n hlt hr);clear hr
        go_wp2_with (first
          | (go_at_call 170;refine(un HC _).mono ?_;rintro e w' ⟨rfl,rfl⟩)
          | (refine store8 rfl (.tmp 2) (.tmp 19) rfl w.heap.size _ [0,0,0,0,0,0,0,0] rfl rfl rfl rfl (((un HR).alloc _).alloc _) ?_))
        refine bodyPost_ret (v:=.tuple #[.agg (cells8 [0,0,0,0,0,0,0,0]),I 1]) (res2 Tryz.results175 _ _ w.heap.size _ rfl rfl ((((un HR).alloc _).alloc _).setRow _)) rfl ⟨?_,?_⟩
        · unfold mulErr;rw[un HF];rfl
        · exact below_setRow (((un HB).alloc (by omega) _).alloc (by simp;omega) _) (Nat.le_refl _) _
      | true=>
        rw[hr]at HC;have HA':Hid (allB X (k+1)=true):=by show allB X (k+1)=true;unfold allB;rw[un HA];exact hr
        clear hr
        go_wp2_with (go_at_call 170;refine(un HC _).mono ?_;rintro e w' ⟨rfl,rfl⟩)
        go_loopw [21] (fun i w2=>∃j:Nat,i=I j∧j≤8∧Hid (zFr w2 (w.heap.size+1) (mixL X k j))∧Hid (zFr w2 w.heap.size [0,0,0,0,0,0,0,0])∧Hid (Bw w w2)) (fun i _=>8 - (intOf i).toNat)
        case atStart=>exact⟨0,rfl,Nat.zero_le _,((un HP).alloc _).alloc _,((un HR).alloc _).alloc _,((un HB).alloc (by omega) _).alloc (by simp;omega) _⟩
        case round=>
          obtain⟨j,rfl,hj,HP2,HR2,HB2⟩:=hrel;clear c0 c1 c2 c3 c4 c5 c6 c7 HC
          by_cases hj8:j<8
          · have hix:=fun w=>idxN (X k 0) (X k 1) (X k 2) (X k 3) (X k 4) (X k 5) (X k 6) (X k 7) j (X k j) (dimAt_get X k j hj8) w
            have hcj:=(un HP2).cell j _ (mixL_get X k j hj8);have hff:=(un HP2).frozen j
            have HP3:Hid (zFr (wr.setCell ⟨w.heap.size+1,j,none⟩ (I (wrap64 (sumD X k j+X k j)))) (w.heap.size+1) (mixL X k (j+1))):=by
              have h:=(un HP2).set j (wrap64 (sumD X k j+X k j));rw[mixL_set X k j hj8]at h;exact h
            have HR3:Hid (zFr (wr.setCell ⟨w.heap.size+1,j,none⟩ (I (wrap64 (sumD X k j+X k j)))) w.heap.size [0,0,0,0,0,0,0,0]):=(un HR2).other (by simp) _;have HB3:Hid (Bw w (wr.setCell ⟨w.heap.size+1,j,none⟩ (I (wrap64 (sumD X k j+X k j))))):=(un HB2).setCell (by simp) _
            go_wp2
            go_roundw
            case rel=>exact⟨j+1,by go_num,by omega,HP3,HR3,HB3⟩
            case measure=>simp[intOf];omega
          · obtain rfl:j=8:=by omega
            have HP3:Hid (zFr wr (w.heap.size+1) (sumL X (k+1))):=un HP2
            go_wp2
            go_roundw
            case rel=>exact⟨k+1,by go_num,by omega,HA',HR2,HP3,HB2⟩
            case measure=>simp[intOf];omega
    · obtain rfl:k=n:=by omega
      obtain⟨p0,p1,p2,p3,p4,p5,p6,p7⟩:wr.cell? ⟨w.heap.size+1,0,none⟩=some (I (sumD X k 0))∧wr.cell? ⟨w.heap.size+1,1,none⟩=some (I (sumD X k 1))∧wr.cell? ⟨w.heap.size+1,2,none⟩=some (I (sumD X k 2))∧wr.cell? ⟨w.heap.size+1,3,none⟩=some (I (sumD X k 3))∧wr.cell? ⟨w.heap.size+1,4,none⟩=some (I (sumD X k 4))∧wr.cell? ⟨w.heap.size+1,5,none⟩=some (I (sumD X k 5))∧wr.cell? ⟨w.heap.size+1,6,none⟩=some (I (sumD X k 6))∧wr.cell? ⟨w.heap.size+1,7,none⟩=some (I (sumD X k 7)):=by
        have h:=(un HP).cell;exact⟨h 0 _ rfl,h 1 _ rfl,h 2 _ rfl,h 3 _ rfl,h 4 _ rfl,h 5 _ rfl,h 6 _ rfl,h 7 _ rfl⟩
      have hsz:=(un HP).lt;have HT:=zAb (zGf (sumD X k 0) (sumD X k 1) (sumD X k 2) (sumD X k 3) (sumD X k 4) (sumD X k 5) (sumD X k 6) (sumD X k 7));have HM:Hid (mulErr X k=errOf (rightB [sumD X k 0,sumD X k 1,sumD X k 2,sumD X k 3,sumD X k 4,sumD X k 5,sumD X k 6,sumD X k 7]) 51):=by show mulErr X k=_;unfold mulErr;rw[un HA];rfl
      have HS:Hid ((allB X k && rightB (sumL X k))=rightB [sumD X k 0,sumD X k 1,sumD X k 2,sumD X k 3,sumD X k 4,sumD X k 5,sumD X k 6,sumD X k 7]):=by show(allB X k && _)=_;rw[un HA];rfl
      generalize rightB [sumD X k 0,sumD X k 1,sumD X k 2,sumD X k 3,sumD X k 4,sumD X k 5,sumD X k 6,sumD X k 7]=rq at HT HM HS
      go_wp2_with (first
          | (go_at_call 179;refine(un HT _).mono ?_;rintro e w' ⟨rfl,rfl⟩)
          | (refine store8 rfl (.tmp 2) (.tmp 35) rfl w.heap.size _ [sel rq (sumD X k 0),sel rq (sumD X k 1),sel rq (sumD X k 2),sel rq (sumD X k 3),sel rq (sumD X k 4),sel rq (sumD X k 5),sel rq (sumD X k 6),sel rq (sumD X k 7)] rfl rfl rfl rfl ((((un HR).alloc _).alloc _).alloc _) ?_))
      refine bodyPost_ret (v:=.tuple #[.agg (cells8 [sel rq (sumD X k 0),sel rq (sumD X k 1),sel rq (sumD X k 2),sel rq (sumD X k 3),sel rq (sumD X k 4),sel rq (sumD X k 5),sel rq (sumD X k 6),sel rq (sumD X k 7)]),I (errOf rq 51)]) (res2 Tryz.results175 _ _ w.heap.size _ rfl rfl (((((un HR).alloc _).alloc _).alloc _).setRow _)) rfl ⟨?_,?_⟩
      · rw[un HM,un HS];rfl
      · exact below_setRow ((((un HB).alloc (by omega) _).alloc (by simp;omega) _).alloc (by simp;omega) _) (Nat.le_refl _) _
end Go.Proofs.YtliadckofhblnaaGreatDoor.Dm

/- A ratio of whole numbers, told as a rational number. -/
import Derived.Test.YtliadckofhblnaaGreatDoorLimb3
import Derived.Test.YtliadckofhblnaaGreatDoorNtAdd
import Derived.Test.YtliadckofhblnaaGreatDoorOfTwo
import Derived.Test.YtliadckofhblnaaGreatDoorPower
import Derived.Deep.RegionHeld3
import Derived.Deep.Cut
import Derived.Test.YtliadckofhblnaaGreatDoorMulMath
import Derived.Test.YtliadckofhblnaaGreatDoorFactor
import Derived.Test.YtliadckofhblnaaGreatDoorOfs
import Derived.Test.YtliadckofhblnaaGreatDoorCopy
set_option maxHeartbeats 4000000
set_option maxRecDepth 100000
namespace Go.Proofs.YtliadckofhblnaaGreatDoor.Tm
open Go.RowKit
structure T4 (W:World) (g:Nat) (a b c d:Value):Prop where
 c0:W.cell? ⟨g,0,none⟩=some a
 c1:W.cell? ⟨g,1,none⟩=some b
 c2:W.cell? ⟨g,2,none⟩=some c
 c3:W.cell? ⟨g,3,none⟩=some d
 f0:W.frozen? ⟨g,0,none⟩=false
 f1:W.frozen? ⟨g,1,none⟩=false
 f2:W.frozen? ⟨g,2,none⟩=false
 f3:W.frozen? ⟨g,3,none⟩=false
theorem T4.lt {W:World} {g:Nat} {a b c d:Value} (h:T4 W g a b c d):g<W.heap.size:=World.block_lt_of_cell? _ _ h.c0
theorem T4.later {W V:World} {g:Nat} {a b c d:Value} (h:T4 W g a b c d) (hb:Below W.heap.size W V):T4 V g a b c d :=
 ⟨(hb.cell (p:=⟨g,0,none⟩) h.lt).trans h.c0,(hb.cell (p:=⟨g,1,none⟩) h.lt).trans h.c1,(hb.cell (p:=⟨g,2,none⟩) h.lt).trans h.c2,(hb.cell (p:=⟨g,3,none⟩) h.lt).trans h.c3,(hb.frozen (p:=⟨g,0,none⟩) h.lt).trans h.f0,(hb.frozen (p:=⟨g,1,none⟩) h.lt).trans h.f1,(hb.frozen (p:=⟨g,2,none⟩) h.lt).trans h.f2,(hb.frozen (p:=⟨g,3,none⟩) h.lt).trans h.f3⟩
def store4 (W:World) (g:Nat) (a b c d:Value):World:=(((W.setCell ⟨g,0,none⟩ a).setCell ⟨g,1,none⟩ b).setCell ⟨g,2,none⟩ c).setCell ⟨g,3,none⟩ d
theorem T4.store {W:World} {g:Nat} {a b c d:Value} (h:T4 W g a b c d) (x y z t:Value):T4 (store4 W g x y z t) g x y z t:=by
 have c0:=h.c0;have c1:=h.c1;have c2:=h.c2;have c3:=h.c3;have f0:=h.f0;have f1:=h.f1;have f2:=h.f2;have f3:=h.f3;unfold store4;exact⟨by simp[go_sem, *],by simp[go_sem, *],by simp[go_sem, *],by simp[go_sem, *],by simp[go_sem, *],by simp[go_sem, *],by simp[go_sem, *],by simp[go_sem, *]⟩
theorem below_store4 {B g:Nat} {w W:World} (h:Below B w W) (hg:B≤g) (a b c d:Value):Below B w (store4 W g a b c d) :=
 (((h.setCell (p:=⟨g,0,none⟩) hg a).setCell (p:=⟨g,1,none⟩) hg b).setCell (p:=⟨g,2,none⟩) hg c).setCell (p:=⟨g,3,none⟩) hg d
theorem times_c (w:World):Calls Tryz.prog 183 #[.agg #[I 1,I 1],.agg #[I 0,I 1]] w fun r w'=>r=.returned (.agg #[I 0,I 1])∧Bw w w':=by
 go_enter Tryz.func183,Tryz.ntmps183
 go_wp2
 exact bodyPost_ret (v:=.agg #[I 0,I 1]) (by simp[results,Tryz.results183,go_sem]) rfl ⟨rfl,(bA.alloc (by simp) _).alloc (by simp;omega) _⟩
theorem times_r (w:World):Calls Tryz.prog 183 #[.agg #[I 5,I 9],.agg #[I 32,I 1]] w fun r w'=>r=.returned (.agg #[I 160,I 9])∧Bw w w':=by
 go_enter Tryz.func183,Tryz.ntmps183
 go_wp2
 exact bodyPost_ret (v:=.agg #[I 160,I 9]) (by simp[results,Tryz.results183,go_sem]) rfl ⟨rfl,(bA.alloc (by simp) _).alloc (by simp;omega) _⟩
theorem plus_c (w:World):Calls Tryz.prog 184 #[.agg #[I 0,I 1],.agg #[I 27315,I 100]] w fun r w'=>r=.returned (.agg #[I 27315,I 100])∧Bw w w':=by
 go_enter Tryz.func184,Tryz.ntmps184
 go_wp2
 exact bodyPost_ret (v:=.agg #[I 27315,I 100]) (by simp[results,Tryz.results184,go_sem]) rfl ⟨rfl,(bA.alloc (by simp) _).alloc (by simp;omega) _⟩
theorem plus_r (w:World):Calls Tryz.prog 184 #[.agg #[I 160,I 9],.agg #[I 0,I 1]] w fun r w'=>r=.returned (.agg #[I 160,I 9])∧Bw w w':=by
 go_enter Tryz.func184,Tryz.ntmps184
 go_wp2
 exact bodyPost_ret (v:=.agg #[I 160,I 9]) (by simp[results,Tryz.results184,go_sem]) rfl ⟨rfl,(bA.alloc (by simp) _).alloc (by simp;omega) _⟩
theorem plus_f (w:World):Calls Tryz.prog 184 #[.agg #[I 27315,I 100],.agg #[I (-160),I 9]] w fun r w'=>r=.returned (.agg #[I 229835,I 900])∧Bw w w':=by
 go_enter Tryz.func184,Tryz.ntmps184
 go_wp2
 exact bodyPost_ret (v:=.agg #[I 229835,I 900]) (by simp[results,Tryz.results184,go_sem]) rfl ⟨rfl,(bA.alloc (by simp) _).alloc (by simp;omega) _⟩
theorem less_f (w:World):Calls Tryz.prog 180 #[.agg #[I 27315,I 100],.agg #[I 160,I 9]] w fun r w'=>r=.returned (.agg #[I 229835,I 900])∧Bw w w':=by
 obtain⟨V,hV⟩:∃V,V=((w.alloc (.cells #[I 27315,I 100] 89)).alloc (.cells #[I 160,I 9] 89)).alloc (.cells #[I 0,I 0] 89):=⟨_,rfl⟩;have HA:Hid (T2 V w.heap.size (I 27315) (I 100)):=by rw[hV];exact⟨by simp[go_sem],by simp[go_sem],by simp[go_sem],by simp[go_sem]⟩
 have HC:Hid (T2 V (w.heap.size+1) (I 160) (I 9)):=by rw[hV];exact⟨by simp[go_sem],by simp[go_sem],by simp[go_sem],by simp[go_sem]⟩
 have HR:Hid (T2 V (w.heap.size+2) (I 0) (I 0)):=by rw[hV];exact⟨by simp[go_sem],by simp[go_sem],by simp[go_sem],by simp[go_sem]⟩
 have HB:Hid (Bw w V):=by rw[hV];exact(bA.alloc (by simp) _).alloc (by simp;omega) _
 have HV:=zAb hV;clear hV;go_enter Tryz.func180,Tryz.ntmps180
 go_upto_region 1 with fail
 rw[←un HV];clear HV;have a0:=(un HA).c0;have a1:=(un HA).c1;have b0:=(un HC).c0;have b1:=(un HC).c1
 go_wp2_with (go_at_call 184;go_must(refine(plus_f _).mono ?_;rintro e wt ⟨rfl,hbt⟩;have HT:=zAb ((un HR).later hbt);have HBT:Hid (Bw w wt):=bt HB hbt;clear hbt a0 a1 b0 b1;have r0:=(un HT).c0;have r1:=(un HT).c1;have f0:=(un HT).f0;have f1:=(un HT).f1))
 have hS:=(un HT).store (I 229835) (I 900);have v0:=hS.c0;have v1:=hS.c1;exact bodyPost_ret (v:=.agg #[I 229835,I 900]) (w:=zBh wt (w.heap.size+2) (I 229835) (I 900)) (by simp[results,Tryz.results180,go_sem,v0,v1]) rfl ⟨rfl,zAk (un HBT) (by omega) _ _⟩
theorem kelvins_c (w:World):Calls Tryz.prog 117 #[.agg #[I 1,I 1,I 27315,I 100],.agg #[I 0,I 1]] w fun r w'=>r=.returned (.agg #[I 27315,I 100])∧Bw w w':=by
 obtain⟨V,hV⟩:∃V,V=((w.alloc (.cells #[I 1,I 1,I 27315,I 100] 138)).alloc (.cells #[I 0,I 1] 89)).alloc (.cells #[I 0,I 0] 89):=⟨_,rfl⟩;have HA:Hid (T4 V w.heap.size (I 1) (I 1) (I 27315) (I 100)):=by rw[hV];exact⟨by simp[go_sem],by simp[go_sem],by simp[go_sem],by simp[go_sem],by simp[go_sem],by simp[go_sem],by simp[go_sem],by simp[go_sem]⟩
 have HC:Hid (T2 V (w.heap.size+1) (I 0) (I 1)):=by rw[hV];exact⟨by simp[go_sem],by simp[go_sem],by simp[go_sem],by simp[go_sem]⟩
 have HR:Hid (T2 V (w.heap.size+2) (I 0) (I 0)):=by rw[hV];exact⟨by simp[go_sem],by simp[go_sem],by simp[go_sem],by simp[go_sem]⟩
 have HB:Hid (Bw w V):=by rw[hV];exact(bA.alloc (by simp) _).alloc (by simp;omega) _
 have HV:=zAb hV;clear hV;go_enter Tryz.func117,Tryz.ntmps117
 go_upto_region 1 with fail
 rw[←un HV];clear HV
 have HS:Hid (∀W,Below V.heap.size V W→W.cell? ⟨w.heap.size,0,none⟩=some (I 1)∧W.cell? ⟨w.heap.size,1,none⟩=some (I 1)∧W.cell? ⟨w.heap.size,2,none⟩=some (I 27315)∧W.cell? ⟨w.heap.size,3,none⟩=some (I 100)∧W.cell? ⟨w.heap.size+1,0,none⟩=some (I 0)∧W.cell? ⟨w.heap.size+1,1,none⟩=some (I 1)):=fun W hb=>by
  have h1:=(un HA).later hb;have h2:=(un HC).later hb;exact⟨h1.c0,h1.c1,h1.c2,h1.c3,h2.c0,h2.c1⟩
 have HS0:=zAb (un HS V.drew ((Below.refl _ _).drew));refine zAi 7 (fun W=>W.cell? ⟨w.heap.size,0,none⟩=some (I 1)∧W.cell? ⟨w.heap.size,1,none⟩=some (I 1)∧W.cell? ⟨w.heap.size,2,none⟩=some (I 27315)∧W.cell? ⟨w.heap.size,3,none⟩=some (I 100)∧W.cell? ⟨w.heap.size+1,0,none⟩=some (I 0)∧W.cell? ⟨w.heap.size+1,1,none⟩=some (I 1)) (fun _=>True) 8 rfl (by kernel_rfl) ?_;refine wT 0 (.pointer (some ⟨w.heap.size,0,none⟩)) rfl (Or.inl ⟨by rfl,?_⟩) ⟨un HS0,trivial⟩ ?_
 ·intro W hW
  go_split_ands
  go_simp
 refine wT 1 (.agg #[I 1,I 1]) rfl (Or.inl ⟨by rfl,?_⟩) ⟨un HS0,trivial⟩ ?_
 ·intro W hW
  go_split_ands
  go_simp
 refine wT 2 (.agg #[I 0,I 1]) rfl (Or.inl ⟨by rfl,?_⟩) ⟨un HS0,trivial⟩ ?_
 ·intro W hW
  go_split_ands
  go_simp
 refine wT 4 (.pointer (some ⟨w.heap.size,2,none⟩)) rfl (Or.inl ⟨by rfl,?_⟩) ⟨un HS0,trivial⟩ ?_
 ·intro W hW
  go_split_ands
  go_simp
 refine wT 5 (.agg #[I 27315,I 100]) rfl (Or.inl ⟨by rfl,?_⟩) ⟨un HS0,trivial⟩ ?_
 ·intro W hW
  go_split_ands
  go_simp
 refine wO 3 rfl rfl (fun K hK=>?_)
 go_simp
 refine(times_c _).mono ?_;rintro e wa ⟨rfl,hba⟩;have HBA:Hid (Bw V wa):=(Below.refl _ _).drew.trans (hba.mono (Below.refl V.heap.size V).drew.size);have HSA:=zAb (un HS wa (un HBA));clear hba;refine hK _ _ ⟨un HSA,trivial⟩ ?_;clear hK K;refine wO 6 rfl rfl (fun K hK=>?_)
 go_simp
 refine(plus_c _).mono ?_;rintro e wt ⟨rfl,hbt⟩;have HBT:Hid (Bw V wt):=bt HBA hbt;have HST:=zAb (un HS wt (un HBT));have HT:=zAb ((un HR).later (un HBT));clear hbt;have r0:=(un HT).c0;have r1:=(un HT).c1;have f0:=(un HT).f0;have f1:=(un HT).f1;refine hK _ _ ⟨un HST,trivial⟩ ?_;clear hK K;refine wL 7 rfl rfl (fun K hK=>?_)
 go_simp
 refine hK _ _ trivial ?_;clear hK K;refine wDn ?_
 go_wp2_with fail
 have hS:=(un HT).store (I 27315) (I 100);have v0:=hS.c0;have v1:=hS.c1;exact bodyPost_ret (v:=.agg #[I 27315,I 100]) (w:=zBh wt (w.heap.size+2) (I 27315) (I 100)) (by simp[results,Tryz.results117,go_sem,v0,v1]) rfl ⟨rfl,zAk ((un HB).trans ((un HBT).mono (un HB).size)) (by omega) _ _⟩
theorem kelvins_r (w:World):Calls Tryz.prog 117 #[.agg #[I 5,I 9,I 0,I 1],.agg #[I 32,I 1]] w fun r w'=>r=.returned (.agg #[I 160,I 9])∧Bw w w':=by
 obtain⟨V,hV⟩:∃V,V=((w.alloc (.cells #[I 5,I 9,I 0,I 1] 138)).alloc (.cells #[I 32,I 1] 89)).alloc (.cells #[I 0,I 0] 89):=⟨_,rfl⟩;have HA:Hid (T4 V w.heap.size (I 5) (I 9) (I 0) (I 1)):=by rw[hV];exact⟨by simp[go_sem],by simp[go_sem],by simp[go_sem],by simp[go_sem],by simp[go_sem],by simp[go_sem],by simp[go_sem],by simp[go_sem]⟩
 have HC:Hid (T2 V (w.heap.size+1) (I 32) (I 1)):=by rw[hV];exact⟨by simp[go_sem],by simp[go_sem],by simp[go_sem],by simp[go_sem]⟩
 have HR:Hid (T2 V (w.heap.size+2) (I 0) (I 0)):=by rw[hV];exact⟨by simp[go_sem],by simp[go_sem],by simp[go_sem],by simp[go_sem]⟩
 have HB:Hid (Bw w V):=by rw[hV];exact(bA.alloc (by simp) _).alloc (by simp;omega) _
 have HV:=zAb hV;clear hV;go_enter Tryz.func117,Tryz.ntmps117
 go_upto_region 1 with fail
 rw[←un HV];clear HV
 have HS:Hid (∀W,Below V.heap.size V W→W.cell? ⟨w.heap.size,0,none⟩=some (I 5)∧W.cell? ⟨w.heap.size,1,none⟩=some (I 9)∧W.cell? ⟨w.heap.size,2,none⟩=some (I 0)∧W.cell? ⟨w.heap.size,3,none⟩=some (I 1)∧W.cell? ⟨w.heap.size+1,0,none⟩=some (I 32)∧W.cell? ⟨w.heap.size+1,1,none⟩=some (I 1)):=fun W hb=>by
  have h1:=(un HA).later hb;have h2:=(un HC).later hb;exact⟨h1.c0,h1.c1,h1.c2,h1.c3,h2.c0,h2.c1⟩
 have HS0:=zAb (un HS V.drew ((Below.refl _ _).drew));refine zAi 7 (fun W=>W.cell? ⟨w.heap.size,0,none⟩=some (I 5)∧W.cell? ⟨w.heap.size,1,none⟩=some (I 9)∧W.cell? ⟨w.heap.size,2,none⟩=some (I 0)∧W.cell? ⟨w.heap.size,3,none⟩=some (I 1)∧W.cell? ⟨w.heap.size+1,0,none⟩=some (I 32)∧W.cell? ⟨w.heap.size+1,1,none⟩=some (I 1)) (fun _=>True) 8 rfl (by kernel_rfl) ?_;refine wT 0 (.pointer (some ⟨w.heap.size,0,none⟩)) rfl (Or.inl ⟨by rfl,?_⟩) ⟨un HS0,trivial⟩ ?_
 ·intro W hW
  go_split_ands
  go_simp
 refine wT 1 (.agg #[I 5,I 9]) rfl (Or.inl ⟨by rfl,?_⟩) ⟨un HS0,trivial⟩ ?_
 ·intro W hW
  go_split_ands
  go_simp
 refine wT 2 (.agg #[I 32,I 1]) rfl (Or.inl ⟨by rfl,?_⟩) ⟨un HS0,trivial⟩ ?_
 ·intro W hW
  go_split_ands
  go_simp
 refine wT 4 (.pointer (some ⟨w.heap.size,2,none⟩)) rfl (Or.inl ⟨by rfl,?_⟩) ⟨un HS0,trivial⟩ ?_
 ·intro W hW
  go_split_ands
  go_simp
 refine wT 5 (.agg #[I 0,I 1]) rfl (Or.inl ⟨by rfl,?_⟩) ⟨un HS0,trivial⟩ ?_
 ·intro W hW
  go_split_ands
  go_simp
 refine wO 3 rfl rfl (fun K hK=>?_)
 go_simp
 refine(times_r _).mono ?_;rintro e wa ⟨rfl,hba⟩;have HBA:Hid (Bw V wa):=(Below.refl _ _).drew.trans (hba.mono (Below.refl V.heap.size V).drew.size);have HSA:=zAb (un HS wa (un HBA));clear hba;refine hK _ _ ⟨un HSA,trivial⟩ ?_;clear hK K;refine wO 6 rfl rfl (fun K hK=>?_)
 go_simp
 refine(plus_r _).mono ?_;rintro e wt ⟨rfl,hbt⟩;have HBT:Hid (Bw V wt):=bt HBA hbt;have HST:=zAb (un HS wt (un HBT));have HT:=zAb ((un HR).later (un HBT));clear hbt;have r0:=(un HT).c0;have r1:=(un HT).c1;have f0:=(un HT).f0;have f1:=(un HT).f1;refine hK _ _ ⟨un HST,trivial⟩ ?_;clear hK K;refine wL 7 rfl rfl (fun K hK=>?_)
 go_simp
 refine hK _ _ trivial ?_;clear hK K;refine wDn ?_
 go_wp2_with fail
 have hS:=(un HT).store (I 160) (I 9);have v0:=hS.c0;have v1:=hS.c1;exact bodyPost_ret (v:=.agg #[I 160,I 9]) (w:=zBh wt (w.heap.size+2) (I 160) (I 9)) (by simp[results,Tryz.results117,go_sem,v0,v1]) rfl ⟨rfl,zAk ((un HB).trans ((un HBT).mono (un HB).size)) (by omega) _ _⟩
def MadeS (f:Nat) (a b c d:Int):Prop:=∀W,Calls Tryz.prog f #[] W fun r w'=>r=.returned (.agg #[I a,I b,I c,I d])∧Bw W w'
theorem zGv:MadeS 114 1 1 0 1:=by
 intro w;go_enter Tryz.func114,Tryz.ntmps114
 go_wp2
 exact bodyPost_ret (v:=.agg #[I 1,I 1,I 0,I 1]) (by simp[results,Tryz.results114,go_sem]) rfl ⟨rfl,bA⟩
theorem rankine_made:MadeS 106 5 9 0 1:=by
 intro w;go_enter Tryz.func106,Tryz.ntmps106
 go_wp2
 exact bodyPost_ret (v:=.agg #[I 5,I 9,I 0,I 1]) (by simp[results,Tryz.results106,go_sem]) rfl ⟨rfl,bA⟩
theorem celsius_made:MadeS 107 1 1 27315 100:=by
 intro w;go_enter Tryz.func107,Tryz.ntmps107
 go_wp2
 exact bodyPost_ret (v:=.agg #[I 1,I 1,I 27315,I 100]) (by simp[results,Tryz.results107,go_sem]) rfl ⟨rfl,bA⟩
theorem fahrenheit_made:MadeS 108 5 9 229835 900:=by
 intro w;obtain⟨V,hV⟩:∃V,V=w.alloc (.cells #[I 0,I 0,I 0,I 0] 138):=⟨_,rfl⟩;have HR:Hid (T4 V w.heap.size (I 0) (I 0) (I 0) (I 0)):=by rw[hV];exact⟨by simp[go_sem],by simp[go_sem],by simp[go_sem],by simp[go_sem],by simp[go_sem],by simp[go_sem],by simp[go_sem],by simp[go_sem]⟩
 have HB:Hid (Bw w V):=by rw[hV];exact bA
 have HV:=zAb hV;clear hV;have HM1:=zAb rankine_made;have HM2:=zAb celsius_made;unfold MadeS at HM1 HM2
 go_enter Tryz.func108,Tryz.ntmps108
 go_upto_region 1 with fail
 rw[←un HV];clear HV
 go_upto_region 2 with (first
  | (go_at_call 106;go_must(refine(un HM1 _).mono ?_;rintro e w1 ⟨rfl,hb1⟩;have HB1:=zAb hb1;clear hb1))
  | (go_at_call 107;go_must(refine(un HM2 _).mono ?_;rintro e w2 ⟨rfl,hb2⟩;have HB2:Hid (Bw V w2):=bt HB1 hb2;clear hb2)))
 obtain⟨U,hU⟩:∃U,U=(w2.alloc (.cells #[I 5,I 9,I 0,I 1] 138)).alloc (.cells #[I 1,I 1,I 27315,I 100] 138):=⟨_,rfl⟩;have HU1:Hid (T4 U w2.heap.size (I 5) (I 9) (I 0) (I 1)):=by rw[hU];exact⟨by simp[go_sem],by simp[go_sem],by simp[go_sem],by simp[go_sem],by simp[go_sem],by simp[go_sem],by simp[go_sem],by simp[go_sem]⟩
 have HU2:Hid (T4 U (w2.heap.size+1) (I 1) (I 1) (I 27315) (I 100)):=by rw[hU];exact⟨by simp[go_sem],by simp[go_sem],by simp[go_sem],by simp[go_sem],by simp[go_sem],by simp[go_sem],by simp[go_sem],by simp[go_sem]⟩
 have HBU:Hid (Bw V U):=by rw[hU];exact((un HB2).alloc (un HB2).size _).alloc (by have h:=(un HB2).size;simp;omega) _
 rw[←hU];clear hU;generalize w2.heap.size=g1 at *
 have HRU:=zAb ((un HR).later (un HBU));have HBW:Hid (Bw w U):=(un HB).trans ((un HBU).mono (un HB).size);have a0:=(un HU1).c0;have a1:=(un HU1).c1;have a2:=(un HU1).c2;have a3:=(un HU1).c3;have b0:=(un HU2).c0;have b1:=(un HU2).c1;have b2:=(un HU2).c2;have b3:=(un HU2).c3
 go_region_held3 (fun w'=>w'.cell? ⟨g1,0,none⟩=some (I 5)∧w'.cell? ⟨g1,1,none⟩=some (I 9)∧w'.cell? ⟨g1,2,none⟩=some (I 0)∧w'.cell? ⟨g1,3,none⟩=some (I 1)∧w'.cell? ⟨g1+1,0,none⟩=some (I 1)∧w'.cell? ⟨g1+1,1,none⟩=some (I 1)∧w'.cell? ⟨g1+1,2,none⟩=some (I 27315)∧w'.cell? ⟨g1+1,3,none⟩=some (I 100)) (first|assumption|(simp[go_sem, *];done)) (fail)
 all_goals
  have HSS:Hid (∀W,Below U.heap.size U W→W.cell? ⟨g1,0,none⟩=some (I 5)∧W.cell? ⟨g1,1,none⟩=some (I 9)):=fun W hb=>by
   have h1:=(un HU1).later hb;exact⟨h1.c0,h1.c1⟩
  have HS0:=zAb (un HSS U.drew.drew ((Below.refl _ _).drew.drew))
  go_upto_region 3 with fail
  refine zAi 10 (fun W=>W.cell? ⟨g1,0,none⟩=some (I 5)∧W.cell? ⟨g1,1,none⟩=some (I 9)) (fun _=>True) 11 rfl (by kernel_rfl) ?_;refine wT 0 (.pointer (some ⟨g1,0,none⟩)) rfl (Or.inl ⟨by rfl,?_⟩) ⟨un HS0,trivial⟩ ?_
  ·intro W hW
   go_split_ands
   go_simp
  refine wT 1 (.agg #[I 5,I 9]) rfl (Or.inl ⟨by rfl,?_⟩) ⟨un HS0,trivial⟩ ?_
  ·intro W hW
   go_split_ands
   go_simp
  refine wT 2 (.func (.func 117) #[.agg #[I 1,I 1,I 27315,I 100]] #[]) rfl (Or.inl ⟨by rfl,?_⟩) ⟨un HS0,trivial⟩ ?_
  ·intro W hW
   go_split_ands
   go_simp
  refine wT 3 (.agg #[I 0,I 1]) rfl (Or.inl ⟨by rfl,?_⟩) ⟨un HS0,trivial⟩ ?_
  ·intro W hW
   go_split_ands
   go_simp
  refine wT 5 (.func (.func 117) #[.agg #[I 5,I 9,I 0,I 1]] #[]) rfl (Or.inl ⟨by rfl,?_⟩) ⟨un HS0,trivial⟩ ?_
  ·intro W hW
   go_split_ands
   go_simp
  refine wT 6 (.agg #[I 32,I 1]) rfl (Or.inl ⟨by rfl,?_⟩) ⟨un HS0,trivial⟩ ?_
  ·intro W hW
   go_split_ands
   go_simp
  refine wO 4 rfl rfl (fun K hK=>?_)
  go_simp
  refine(kelvins_c _).mono ?_;rintro e wa ⟨rfl,hbwa⟩;have HBwa:Hid (Bw U wa):=((Below.refl U.heap.size U).drew.drew).trans (hbwa.mono ((Below.refl U.heap.size U).drew.drew).size);have HSwa:=zAb (un HSS wa (un HBwa));clear hbwa;refine hK _ _ ⟨un HSwa,trivial⟩ ?_;clear hK K;refine wO 7 rfl rfl (fun K hK=>?_)
  go_simp
  refine(kelvins_r _).mono ?_;rintro e wc ⟨rfl,hbwc⟩;have HBwc:Hid (Bw U wc):=bt HBwa hbwc;have HSwc:=zAb (un HSS wc (un HBwc));clear hbwc;refine hK _ _ ⟨un HSwc,trivial⟩ ?_;clear hK K;refine wO 8 rfl rfl (fun K hK=>?_)
  go_simp
  refine(less_f _).mono ?_;rintro e wd ⟨rfl,hbwd⟩;have HBwd:Hid (Bw U wd):=bt HBwc hbwd;have HSwd:=zAb (un HSS wd (un HBwd));clear hbwd;have HT:=zAb ((un HRU).later (un HBwd));have r0:=(un HT).c0;have r1:=(un HT).c1;have r2:=(un HT).c2;have r3:=(un HT).c3;have f0:=(un HT).f0;have f1:=(un HT).f1;have f2:=(un HT).f2;have f3:=(un HT).f3;refine hK _ _ ⟨un HSwd,trivial⟩ ?_;clear hK K;refine wO 9 rfl rfl (fun K hK=>?_)
  go_simp
  refine hK _ _ ⟨un HSwd,trivial⟩ ?_;clear hK K;refine wL 10 rfl rfl (fun K hK=>?_)
  go_simp
  refine hK _ _ trivial ?_;clear hK K;refine wDn ?_
  go_wp2_with fail
  have hS:=(un HT).store (I 5) (I 9) (I 229835) (I 900);have v0:=hS.c0;have v1:=hS.c1;have v2:=hS.c2;have v3:=hS.c3;exact bodyPost_ret (v:=.agg #[I 5,I 9,I 229835,I 900]) (w:=store4 wd w.heap.size (I 5) (I 9) (I 229835) (I 900)) (by simp[results,Tryz.results108,go_sem,v0,v1,v2,v3]) rfl ⟨rfl,below_store4 ((un HBW).trans ((un HBwd).mono (un HBW).size)) (Nat.le_refl _) _ _ _ _⟩
theorem neg_any (v:Value) (b:Bool) (n d:Nat) (w:World) (h:zCd w v b n d) :
 Calls Tryz.prog 182 #[v] w fun e w'=>∃v',e=.returned v'∧zCd w' v' (!b && decide (n≠0)) n d∧Bw w w':=by
 obtain⟨a1,l1,c1,a2,l2,c2,rfl,h1,h2⟩:=h.form;have H1:=zAb h1;have H2:=zAb h2;clear h h1 h2;have HB:Hid (Bw w ((w.alloc (.cells #[.bool b,.slice a1 l1 c1,.slice a2 l2 c2] 82)).alloc (.cells #[.bool false,.slice none 0 0,.slice none 0 0] 82))):=bA.alloc (by simp) _;have H37:=zAb (fun W (hb:Below w.heap.size w W)=>zCk _ n W ((un H1).later hb));go_enter Tryz.func182,Tryz.ntmps182
 go_upto_region 1 with fail
 obtain⟨V,hV⟩:∃V,V=((w.alloc (.cells #[.bool b,.slice a1 l1 c1,.slice a2 l2 c2] 82)).alloc (.cells #[.bool false,.slice none 0 0,.slice none 0 0] 82)):=⟨_,rfl⟩;have p0:V.cell? ⟨w.heap.size,0,none⟩=some (.bool b):=by rw[hV];simp[go_sem]
 have p1:V.cell? ⟨w.heap.size,1,none⟩=some (.slice a1 l1 c1):=by rw[hV];simp[go_sem]
 have p2:V.cell? ⟨w.heap.size,2,none⟩=some (.slice a2 l2 c2):=by rw[hV];simp[go_sem]
 have q0:V.cell? ⟨w.heap.size+1,0,none⟩=some (.bool false):=by rw[hV];simp[go_sem]
 have q1:V.cell? ⟨w.heap.size+1,1,none⟩=some (.slice none 0 0):=by rw[hV];simp[go_sem]
 have q2:V.cell? ⟨w.heap.size+1,2,none⟩=some (.slice none 0 0):=by rw[hV];simp[go_sem]
 have g0:V.frozen? ⟨w.heap.size+1,0,none⟩=false:=by rw[hV];simp[go_sem]
 have g1:V.frozen? ⟨w.heap.size+1,1,none⟩=false:=by rw[hV];simp[go_sem]
 have g2:V.frozen? ⟨w.heap.size+1,2,none⟩=false:=by rw[hV];simp[go_sem]
 rw[←hV]at HB ⊢;clear hV
 cases b with
 | true=>
  go_region
  obtain⟨U,hU⟩:∃U,U=(((V.setCell ⟨w.heap.size+1,0,none⟩ (.bool false)).setCell ⟨w.heap.size+1,1,none⟩ (.slice a1 l1 c1)).setCell ⟨w.heap.size+1,2,none⟩ (.slice a2 l2 c2)).drew:=⟨_,rfl⟩
  have hbU:Below w.heap.size w U:=by
   rw[hU];have h3:=(((un HB).setCell (p:=⟨w.heap.size+1,0,none⟩) (by simp) (.bool false)).setCell (p:=⟨w.heap.size+1,1,none⟩) (by simp) (.slice a1 l1 c1)).setCell (p:=⟨w.heap.size+1,2,none⟩) (by simp) (.slice a2 l2 c2);exact h3.trans (((Below.refl _ _).drew).mono h3.size)
  have r0:U.cell? ⟨w.heap.size+1,0,none⟩=some (.bool false):=by rw[hU];simp[go_sem, *]
  have r1:U.cell? ⟨w.heap.size+1,1,none⟩=some (.slice a1 l1 c1):=by rw[hU];simp[go_sem, *]
  have r2:U.cell? ⟨w.heap.size+1,2,none⟩=some (.slice a2 l2 c2):=by rw[hU];simp[go_sem, *]
  have HU:=zAb hbU;rw[←hU];clear hU hbU q0 q1 q2 g0 g1 g2 p0 p1 p2
  go_wp2_with fail
  exact bodyPost_ret (v:=.agg #[.bool false,.slice a1 l1 c1,.slice a2 l2 c2]) (by simp[results,Tryz.results182,go_sem,r0,r1,r2]) rfl ⟨_,rfl,⟨_,_,rfl,(un H1).later (un HU),(un H2).later (un HU)⟩,un HU⟩
 | false=>
  have hsV:=(un HB).size;have hlt:w.heap.size+1<V.heap.size:=World.block_lt_of_cell? _ _ q0
  have HF:Hid (∀W,Below V.heap.size V W→W.cell? ⟨w.heap.size,0,none⟩=some (.bool false)∧W.cell? ⟨w.heap.size,1,none⟩=some (.slice a1 l1 c1)∧W.cell? ⟨w.heap.size,2,none⟩=some (.slice a2 l2 c2)∧W.cell? ⟨w.heap.size+1,0,none⟩=some (.bool false)∧W.cell? ⟨w.heap.size+1,1,none⟩=some (.slice none 0 0)∧W.cell? ⟨w.heap.size+1,2,none⟩=some (.slice none 0 0)∧W.frozen? ⟨w.heap.size+1,0,none⟩=false∧W.frozen? ⟨w.heap.size+1,1,none⟩=false∧W.frozen? ⟨w.heap.size+1,2,none⟩=false):=fun W hb=>
   ⟨(hb.cell (p:=⟨w.heap.size,0,none⟩) (show w.heap.size<V.heap.size by omega)).trans p0,(hb.cell (p:=⟨w.heap.size,1,none⟩) (show w.heap.size<V.heap.size by omega)).trans p1,(hb.cell (p:=⟨w.heap.size,2,none⟩) (show w.heap.size<V.heap.size by omega)).trans p2,
    (hb.cell (p:=⟨w.heap.size+1,0,none⟩) hlt).trans q0,(hb.cell (p:=⟨w.heap.size+1,1,none⟩) hlt).trans q1,(hb.cell (p:=⟨w.heap.size+1,2,none⟩) hlt).trans q2,
    (hb.frozen (p:=⟨w.heap.size+1,0,none⟩) hlt).trans g0,(hb.frozen (p:=⟨w.heap.size+1,1,none⟩) hlt).trans g1,(hb.frozen (p:=⟨w.heap.size+1,2,none⟩) hlt).trans g2⟩
  clear q0 q1 q2 g0 g1 g2 hlt
  go_region_held3 (fun w'=>w'.cell? ⟨w.heap.size,0,none⟩=some (.bool false)∧w'.cell? ⟨w.heap.size,1,none⟩=some (.slice a1 l1 c1)∧w'.cell? ⟨w.heap.size,2,none⟩=some (.slice a2 l2 c2)) (first|assumption|(refine⟨?_,?_,?_⟩<;>first|assumption|(simp[go_sem, *];done))|(simp[go_sem, *];done)) ((go_at_call 153;go_must(refine(un H37 _ ((un HB).trans (((Below.refl _ _).drew).mono hsV))).mono ?_;rintro e w3 ⟨rfl,hb3⟩;have HB3:=zAb ((((Below.refl V.heap.size V).drew)).trans hb3);obtain⟨t0,t1,t2,q0,q1,q2,g0,g1,g2⟩:=un HF w3 (un HB3);clear hb3)))
  have HB4:=zAb ((un HB).trans ((un HB3).mono hsV));obtain⟨U,hU⟩:∃U,U=(((w3.setCell ⟨w.heap.size+1,0,none⟩ (.bool (!n == 0))).setCell ⟨w.heap.size+1,1,none⟩ (.slice a1 l1 c1)).setCell ⟨w.heap.size+1,2,none⟩ (.slice a2 l2 c2)):=⟨_,rfl⟩
  have hbU:Below w.heap.size w U:=by
   rw[hU];exact(((un HB4).setCell (p:=⟨w.heap.size+1,0,none⟩) (by simp) (.bool (!n == 0))).setCell (p:=⟨w.heap.size+1,1,none⟩) (by simp) (.slice a1 l1 c1)).setCell (p:=⟨w.heap.size+1,2,none⟩) (by simp) (.slice a2 l2 c2)
  have r0:U.cell? ⟨w.heap.size+1,0,none⟩=some (.bool (!n == 0)):=by rw[hU];simp[go_sem, *]
  have r1:U.cell? ⟨w.heap.size+1,1,none⟩=some (.slice a1 l1 c1):=by rw[hU];simp[go_sem, *]
  have r2:U.cell? ⟨w.heap.size+1,2,none⟩=some (.slice a2 l2 c2):=by rw[hU];simp[go_sem, *]
  have HU:=zAb hbU;have HE:Hid ((!n == 0)=(!false && decide (n≠0))):=by show _=_;by_cases h0:n=0<;>simp[h0]
  rw[←hU];clear hU hbU q0 q1 q2 g0 g1 g2 p0 p1 p2 t0 t1 t2
  go_wp2_with fail
  exact bodyPost_ret (v:=.agg #[.bool (!n == 0),.slice a1 l1 c1,.slice a2 l2 c2]) (by simp[results,Tryz.results182,go_sem,r0,r1,r2]) rfl ⟨_,rfl,(by rw[←un HE];exact⟨_,_,rfl,(un H1).later (un HU),(un H2).later (un HU)⟩),un HU⟩
theorem qneg (x:Value) (p:Rat) (k:Nat) (w:World) (hx:QOf w x p k) :
 Calls Tryz.prog 182 #[x] w fun r w'=>∃v,r=.returned v∧QOf w' v (-p) k∧Bw w w':=by
 obtain⟨b,n,d,h1,h2,rfl,h4,h5⟩:=hx;refine(neg_any x b n d w h1).mono ?_;rintro r w' ⟨v,rfl,j1,hb⟩;exact⟨v,rfl,⟨_,_,_,j1,(Cub.neg_low h2).1,(Cub.neg_low h2).2,h4,h5⟩,hb⟩
theorem qsub (x y:Value) (p q:Rat) (k:Nat) (w:World) (hx:QOf w x p k) (hy:QOf w y q k) (hk:k+k+k≤100000) :
 Calls Tryz.prog 116 #[x,y] w fun r w'=>∃v,r=.returned v∧QOf w' v (p + -q) (k+k+k)∧Bw w w':=by
 obtain⟨b,a1,l1,c1,a2,l2,c2,rfl⟩:=hx.form;obtain⟨c,a3,l3,c3,a4,l4,c4,rfl⟩:=hy.form;obtain⟨V,hV⟩:∃V,V=(((w.alloc (.cells #[.bool b,.slice a1 l1 c1,.slice a2 l2 c2] 82)).alloc (.cells #[.bool c,.slice a3 l3 c3,.slice a4 l4 c4] 82)).alloc (.cells #[.bool false,.slice none 0 0,.slice none 0 0] 82)):=⟨_,rfl⟩;have HS:Hid (AS w V (.bool b) (.slice a1 l1 c1) (.slice a2 l2 c2) (.bool c) (.slice a3 l3 c3) (.slice a4 l4 c4) []):=by rw[hV];exact AS.first _ _ _ _ _ _ _
 have HX:=zAb (hx.later (un HS).below);have HY:=zAb (hy.later (un HS).below);have HV:=zAb hV;have HK:=zAb hk
 have HC:Hid (∀w',Below V.heap.size V w'→(w'.cell? ⟨w.heap.size,0,none⟩=some (.bool b)∧w'.cell? ⟨w.heap.size,1,none⟩=some (.slice a1 l1 c1)∧w'.cell? ⟨w.heap.size,2,none⟩=some (.slice a2 l2 c2)∧w'.cell? ⟨w.heap.size+1,0,none⟩=some (.bool c)∧w'.cell? ⟨w.heap.size+1,1,none⟩=some (.slice a3 l3 c3)∧w'.cell? ⟨w.heap.size+1,2,none⟩=some (.slice a4 l4 c4))∧(w'.cell? ⟨w.heap.size+1+1,0,none⟩=some (.bool false)∧w'.cell? ⟨w.heap.size+1+1,1,none⟩=some (.slice none 0 0)∧w'.cell? ⟨w.heap.size+1+1,2,none⟩=some (.slice none 0 0)∧w'.frozen? ⟨w.heap.size+1+1,0,none⟩=false∧w'.frozen? ⟨w.heap.size+1+1,1,none⟩=false∧w'.frozen? ⟨w.heap.size+1+1,2,none⟩=false)∧w.heap.size<w'.heap.size∧w.heap.size+1<w'.heap.size∧w.heap.size+1+1<w'.heap.size):=fun U hb=>by
  have s:=(un HS).later hb;exact⟨⟨s.x.c0,s.x.c1,s.x.c2,s.y.c0,s.y.c1,s.y.c2⟩,⟨s.r.c0,s.r.c1,s.r.c2,s.r.f0,s.r.f1,s.r.f2⟩,s.x.lt,s.y.lt,s.r.lt⟩
 clear hx hy hk hV;go_enter Tryz.func116,Tryz.ntmps116
 go_upto_region 1 with fail
 rw[←un HV];clear HV;obtain⟨⟨t0,t1,t2,t3,t4,t5⟩,_⟩:=un HC V (Below.refl _ _)
 go_region_held3 (fun w'=>w'.cell? ⟨w.heap.size,0,none⟩=some (.bool b)∧w'.cell? ⟨w.heap.size,1,none⟩=some (.slice a1 l1 c1)∧w'.cell? ⟨w.heap.size,2,none⟩=some (.slice a2 l2 c2)∧w'.cell? ⟨w.heap.size+1,0,none⟩=some (.bool c)∧w'.cell? ⟨w.heap.size+1,1,none⟩=some (.slice a3 l3 c3)∧w'.cell? ⟨w.heap.size+1,2,none⟩=some (.slice a4 l4 c4)) (first|assumption|(refine⟨?_,?_,?_,?_,?_,?_⟩<;>first|assumption|(simp[go_sem, *];done)|(rw[World.cell?_setCell_other _ _ _ _ (by simp),World.cell?_setCell_other _ _ _ _ (by simp),World.cell?_setCell_other _ _ _ _ (by simp)];assumption))|(simp[go_sem, *];done)) ((first
  | (go_at_call 182;go_must(refine(qneg _ q k _ ((un HY).later ((Below.refl _ _).drew))).mono ?_;rintro e wa ⟨va,rfl,hva,hba⟩;have HVA:=zAb hva;have HCA:=zAb (((Below.refl V.heap.size V).drew).trans hba);clear hva hba t0 t1 t2 t3 t4 t5;obtain⟨⟨t0,t1,t2,t3,t4,t5⟩,_⟩:=un HC wa (un HCA)))
  | (go_at_call 66;go_must(refine(qadd _ _ p (-q) k _ ((un HX).later (un HCA)) (un HVA) (un HK)).mono ?_;rintro e wb ⟨vb,rfl,hvb,hbb⟩;obtain⟨b1,i1,i2,i3,i4,i5,i6,rfl⟩:=hvb.form;have HVB:=zAb hvb;have HCB:=zAb (bt HCA hbb);clear hvb hbb t0 t1 t2 t3 t4 t5;obtain⟨⟨t0,t1,t2,t3,t4,t5⟩,⟨r0,r1,r2,rf0,rf1,rf2⟩,_⟩:=un HC wb (un HCB)))))
 have HS1:=zAb ((un HS).later (un HCB));clear r0 r1 r2 rf0 rf1 rf2 t0 t1 t2 t3 t4 t5;have hS:=(un HS1).r.store (.bool b1) (.slice i1 i2 i3) (.slice i4 i5 i6);have hb:Below w.heap.size w (zAs wb (w.heap.size+1+1) (.bool b1) (.slice i1 i2 i3) (.slice i4 i5 i6)):=zAq (un HS1).below (by omega) _ _ _;obtain⟨V9,hV9⟩:∃V9,V9=zAs wb (w.heap.size+1+1) (.bool b1) (.slice i1 i2 i3) (.slice i4 i5 i6):=⟨_,rfl⟩;have hV9':V9=((wb.setCell ⟨w.heap.size+1+1,0,none⟩ (.bool b1)).setCell ⟨w.heap.size+1+1,1,none⟩ (.slice i1 i2 i3)).setCell ⟨w.heap.size+1+1,2,none⟩ (.slice i4 i5 i6):=hV9;have HQ9:=zAb ((un HVB).stored (un HS1).r);have u0:=hS.c0;have u1:=hS.c1;have u2:=hS.c2;rw[←hV9]at u0 u1 u2 HQ9 hb;rw[←hV9'];have HB9:=zAb hb;clear hV9 hV9' hS hb
 go_wp2_with fail
 exact bodyPost_ret (v:=.agg #[.bool b1,.slice i1 i2 i3,.slice i4 i5 i6]) (by simp[results,Tryz.results116,go_sem,u0,u1,u2]) rfl ⟨_,rfl,un HQ9,un HB9⟩
theorem zCs {U W V:World} {O:Obj} (h:Below U.heap.size U W) (hb:Below (W.alloc O).heap.size (W.alloc O) V):Below U.heap.size U V :=
  (h.alloc h.size O).trans (hb.mono (h.alloc h.size O).size)
theorem zBw {W V:World} {O:Obj} (hb:Below (W.alloc O).drew.heap.size (W.alloc O).drew V):Below W.heap.size W V :=
  have h0:=(Below.refl W.heap.size W).alloc (Nat.le_refl _) O;have h:Below W.heap.size W (W.alloc O).drew:=h0.trans ((Below.refl _ _).drew.mono h0.size)
  h.trans (hb.mono h.size)
theorem told_walk (a b:Int) (an ad bn bd fn fd:ByteArray) (w:World)
    (hoa:∀W,Below w.heap.size w W→Calls Tryz.prog 103 #[I a] W fun r w'=>r=.returned (.agg #[.string an,.string ad])∧Bw W w')
    (hob:∀W,Below w.heap.size w W→Calls Tryz.prog 103 #[I b] W fun r w'=>r=.returned (.agg #[.string bn,.string bd])∧Bw W w')
    (hqu:∀W,Below w.heap.size w W→Calls Tryz.prog 31 #[.agg #[.string an,.string ad],.agg #[.string bn,.string bd]] W fun r w'=>r=.returned (.tuple #[.agg #[.string fn,.string fd],I 0])∧Bw W w') :
    Calls Tryz.prog 109 #[.agg #[I a,I b]] w fun r w'=>r=.returned (.agg #[.string fn,.string fd])∧Bw w w':=by
  obtain⟨V,hV⟩:∃V,V=(w.alloc (.cells #[I a,I b] 89)).alloc (.cells #[G #[],G #[]] 28):=⟨_,rfl⟩;have HP:Hid (T2 V w.heap.size (I a) (I b)):=by rw[hV];exact⟨by simp[go_sem],by simp[go_sem],by simp[go_sem],by simp[go_sem]⟩
  have HR:Hid (T2 V (w.heap.size+1) (G #[]) (G #[])):=by rw[hV];exact⟨by simp[go_sem],by simp[go_sem],by simp[go_sem],by simp[go_sem]⟩
  have HB:Hid (Bw w V):=by rw[hV];exact bA.alloc (by simp) _
  have HV:=zAb hV;have HOA:=zAb hoa;have HOB:=zAb hob;have HQU:=zAb hqu;clear hoa hob hqu;go_enter Tryz.func109,Tryz.ntmps109
  go_upto_region 1 with fail
  rw[←un HV];clear hV HV;have t0:=(un HP).c0;have t1:=(un HP).c1;have HC0:Hid (Bw V V.drew):=(Below.refl _ _).drew;have HUP:Hid (∀W,Below V.heap.size V W→Below w.heap.size w W):=fun W h=>bt HB h
  have HUA:Hid (∀W O,Below V.heap.size V W→Below w.heap.size w (W.alloc O)):=fun W O h=>(un HB).trans ((h.alloc h.size O).mono (un HB).size)
  have HUD:Hid (∀O,Below w.heap.size w (V.alloc O).drew):=fun O=>((un HB).alloc (un HB).size O).drew
  have hv0:=(un HP).lt
  go_region_held3 (fun w'=>w'.cell? ⟨w.heap.size,0,none⟩=some (I a)∧w'.cell? ⟨w.heap.size,1,none⟩=some (I b)) (first|assumption|(simp[go_sem, *];done)) ((first
    | (go_at_call_of 103 a;go_must(refine(un HOA _ (by first|exact un HUP _ (un HC0)|exact un HUA _ _ (un HC0)|exact un HUD _)).mono ?_;rintro e wa ⟨rfl,hb⟩;have HCwa:Hid (Bw V wa):=(by first|exact bt HC0 hb|exact zCs (un HC0) hb|exact zBw hb);(first|(have HZwa:=zAb ((un HZ0).later hb);clear u0 u1 uf0 uf1;have u0:=(un HZwa).c0;have u1:=(un HZwa).c1;have uf0:=(un HZwa).f0;have uf1:=(un HZwa).f1)|(have HZwa:Hid (T2 wa V.heap.size (G #[]) (G #[])):=(by first|exact T2.past hb|exact T2.pastD hb);have u0:=(un HZwa).c0;have u1:=(un HZwa).c1;have uf0:=(un HZwa).f0;have uf1:=(un HZwa).f1)|skip);clear hb t0 t1;have t0:=((un HP).later (un HCwa)).c0;have t1:=((un HP).later (un HCwa)).c1;have hvwa:=((un HP).later (un HCwa)).lt))
    | (go_at_call_of 103 b;go_must(refine(un HOB _ (by first|exact un HUP _ (un HCwa)|exact un HUA _ _ (un HCwa)|exact un HUD _)).mono ?_;rintro e wb ⟨rfl,hb⟩;have HCwb:Hid (Bw V wb):=(by first|exact bt HCwa hb|exact zCs (un HCwa) hb|exact zBw hb);(first|(have HZwb:=zAb ((un HZwa).later hb);clear u0 u1 uf0 uf1;have u0:=(un HZwb).c0;have u1:=(un HZwb).c1;have uf0:=(un HZwb).f0;have uf1:=(un HZwb).f1)|(have HZwb:Hid (T2 wb wa.heap.size (G #[]) (G #[])):=(by first|exact T2.past hb|exact T2.pastD hb);have u0:=(un HZwb).c0;have u1:=(un HZwb).c1;have uf0:=(un HZwb).f0;have uf1:=(un HZwb).f1)|skip);clear hb t0 t1;have t0:=((un HP).later (un HCwb)).c0;have t1:=((un HP).later (un HCwb)).c1;have hvwb:=((un HP).later (un HCwb)).lt))
    | (go_at_call 31;go_must(refine(un HQU _ (by first|exact un HUP _ (un HCwb)|exact un HUA _ _ (un HCwb)|exact un HUD _)).mono ?_;rintro e wc ⟨rfl,hb⟩;have HCwc:Hid (Bw V wc):=(by first|exact bt HCwb hb|exact zCs (un HCwb) hb|exact zBw hb);(first|(have HZwc:=zAb ((un HZwb).later hb);clear u0 u1 uf0 uf1;have u0:=(un HZwc).c0;have u1:=(un HZwc).c1;have uf0:=(un HZwc).f0;have uf1:=(un HZwc).f1)|(have HZwc:Hid (T2 wc wb.heap.size (G #[]) (G #[])):=(by first|exact T2.past hb|exact T2.pastD hb);have u0:=(un HZwc).c0;have u1:=(un HZwc).c1;have uf0:=(un HZwc).f0;have uf1:=(un HZwc).f1)|skip);clear hb t0 t1;have t0:=((un HP).later (un HCwc)).c0;have t1:=((un HP).later (un HCwc)).c1;have hvwc:=((un HP).later (un HCwc)).lt))))
  all_goals
    first
    | (obtain⟨X,hX⟩:∃X,X=wc.heap.size:=⟨_,rfl⟩
       obtain⟨U,hU⟩:∃U,U=wc.alloc (.cells #[.string fn,.string fd] 28):=⟨_,rfl⟩
       have HF:Hid (T2 U X (.string fn) (.string fd)∧T2 U (w.heap.size+1) (G #[]) (G #[])∧Bw w U):=by
         rw[hU,hX];exact⟨⟨by simp[go_sem],by simp[go_sem],by simp[go_sem],by simp[go_sem]⟩,((un HR).later (un HCwc)).later bA,un HUA _ _ (un HCwc)⟩
       rw[←hU,←hX];clear hU hX)
    | (obtain⟨X,hX⟩:∃X,X=wb.heap.size:=⟨_,rfl⟩
       obtain⟨U,hU⟩:∃U,U=(wc.setCell { block:=wb.heap.size,off:=0 } (.string fn)).setCell { block:=wb.heap.size,off:=1 } (.string fd):=⟨_,rfl⟩
       have HF:Hid (T2 U X (.string fn) (.string fd)∧T2 U (w.heap.size+1) (G #[]) (G #[])∧Bw w U):=by
         rw[hU,hX];have h1:=((un HR).later (un HCwb)).lt;exact⟨(un HZwc).store _ _,((un HR).later (un HCwc)).otherP wb.heap.size (by omega) _ _,zAk (un HUP _ (un HCwc)) (by omega) _ _⟩
       rw[←hU,←hX];clear hU hX)
    | (obtain⟨X,hX⟩:∃X,X=wa.heap.size:=⟨_,rfl⟩
       obtain⟨U,hU⟩:∃U,U=(wc.setCell { block:=wa.heap.size,off:=0 } (.string fn)).setCell { block:=wa.heap.size,off:=1 } (.string fd):=⟨_,rfl⟩
       have HF:Hid (T2 U X (.string fn) (.string fd)∧T2 U (w.heap.size+1) (G #[]) (G #[])∧Bw w U):=by
         rw[hU,hX];have h1:=((un HR).later (un HCwa)).lt;exact⟨(un HZwc).store _ _,((un HR).later (un HCwc)).otherP wa.heap.size (by omega) _ _,zAk (un HUP _ (un HCwc)) (by omega) _ _⟩
       rw[←hU,←hX];clear hU hX)
    | (obtain⟨X,hX⟩:∃X,X=V.heap.size:=⟨_,rfl⟩
       obtain⟨U,hU⟩:∃U,U=(wc.setCell { block:=V.heap.size,off:=0 } (.string fn)).setCell { block:=V.heap.size,off:=1 } (.string fd):=⟨_,rfl⟩
       have HF:Hid (T2 U X (.string fn) (.string fd)∧T2 U (w.heap.size+1) (G #[]) (G #[])∧Bw w U):=by
         rw[hU,hX];have h1:=(un HR).lt;exact⟨(un HZwc).store _ _,((un HR).later (un HCwc)).otherP V.heap.size (by omega) _ _,zAk (un HUP _ (un HCwc)) (by omega) _ _⟩
       rw[←hU,←hX];clear hU hX)
  all_goals
    have x0:=(un HF).1.c0;have x1:=(un HF).1.c1;have r0:=(un HF).2.1.c0;have r1:=(un HF).2.1.c1;have rf0:=(un HF).2.1.f0;have rf1:=(un HF).2.1.f1
    go_wp2_with fail
    have hS:=(un HF).2.1.store (.string fn) (.string fd);have hb:=zAk (un HF).2.2 (by omega) (.string fn) (.string fd) (g:=w.heap.size+1);have v0:=hS.c0;have v1:=hS.c1;exact bodyPost_ret (v:=.agg #[.string fn,.string fd]) (w:=zBh U (w.heap.size+1) (.string fn) (.string fd)) (by simp[results,Tryz.results109,go_sem,v0,v1]) rfl ⟨rfl,hb⟩
end Go.Proofs.YtliadckofhblnaaGreatDoor.Tm

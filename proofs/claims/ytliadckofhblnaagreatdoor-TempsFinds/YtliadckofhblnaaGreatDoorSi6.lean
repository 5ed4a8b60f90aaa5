/- What fills si's groups. -/
import Derived.Test.YtliadckofhblnaaGreatDoorAdd
import Derived.Test.YtliadckofhblnaaGreatDoorSi1
import Derived.Test.YtliadckofhblnaaGreatDoorJoule
import Derived.Deep.Cut
set_option maxHeartbeats 8000000
set_option maxRecDepth 100000
namespace Go.Proofs.YtliadckofhblnaaGreatDoor
open Go.RowKit
theorem zEu (w:World):Calls Tryz.prog 314 #[I 0] w fun r w'=>r=.returned (.agg (J 1 0 0 0 0 0 0 0 1 1))∧Bw w w':=by
 obtain⟨V,hV⟩:∃V,V=w.alloc (.cells z10 180):=⟨_,rfl⟩;have HR:Hid (zAc V w.heap.size 180 z10):=by rw[hV];exact zAc.new _ _ _
 have HW:Hid (Bw w V):=by rw[hV];exact bA
 have HV:=zAb hV;clear hV;go_enter Tryz.func314,Tryz.ntmps314
 go_upto_region 1 with fail
 rw[←un HV];clear HV
 go_upto_region 2 with (first
  | (go_at_call 320;go_must(refine(zBp _ _).mono ?_;rintro e w1 ⟨rfl,hb⟩;have HB:=zAb hb;clear hb;have HX:Hid (zAc (w1.alloc (.cells z10 180)) w1.heap.size 180 z10):=zAc.new _ _ _))
  | (refine zAn 180 10 zAu rfl (.tmp 3) (.tmp 4) rfl w1.heap.size z10 (J 0 0 0 0 0 0 0 0 1 1) rfl rfl rfl rfl (un HX) (by kernel_rfl) ?_))
 have HX1:=zAb ((un HX).setRow (J 0 0 0 0 0 0 0 0 1 1));have HB1:Hid (Bw V ((w1.alloc (.cells z10 180)).setRow w1.heap.size (J 0 0 0 0 0 0 0 0 1 1))):=below_setRow ((un HB).alloc (un HB).size _) (un HB).size _;have HGL:Hid (w.heap.size<w1.heap.size):=Nat.lt_of_lt_of_le (un HR).lt (un HB).size;clear HX HB;generalize (w1.alloc (.cells z10 180)).setRow w1.heap.size (J 0 0 0 0 0 0 0 0 1 1)=U1 at *
 generalize w1.heap.size=g3 at *
 have c0:U1.cell? ⟨g3,0,none⟩=some (I 0):=(un HX1).ub.c 0 _ rfl;have f0:U1.frozen? ⟨g3,0,none⟩=false:=(un HX1).ub.f 0 (I 0) rfl
 go_upto_region 3 with fail
 have HX2:Hid (zAc (U1.setCell ⟨g3,0,none⟩ (I 1)) g3 180 (J 1 0 0 0 0 0 0 0 1 1)):=(un HX1).set 0 (I 1);have HR2:Hid (zAc (U1.setCell ⟨g3,0,none⟩ (I 1)) w.heap.size 180 z10):=((un HR).later (un HB1)).otherSet (by have:=un HGL;omega) _ _;have HW2:Hid (Bw w (U1.setCell ⟨g3,0,none⟩ (I 1))):=((un HW).trans ((un HB1).mono (un HW).size)).setCell (p:=⟨g3,0,none⟩) (Nat.le_of_lt (un HGL)) _;clear c0 f0 HX1 HB1 HR HW HGL;generalize U1.setCell ⟨g3,0,none⟩ (I 1)=U at *
 have u0:U.cell? ⟨g3,0,none⟩=some (I 1):=(un HX2).ub.c 0 _ rfl;have u1:U.cell? ⟨g3,1,none⟩=some (I 0):=(un HX2).ub.c 1 _ rfl;have u2:U.cell? ⟨g3,2,none⟩=some (I 0):=(un HX2).ub.c 2 _ rfl;have u3:U.cell? ⟨g3,3,none⟩=some (I 0):=(un HX2).ub.c 3 _ rfl;have u4:U.cell? ⟨g3,4,none⟩=some (I 0):=(un HX2).ub.c 4 _ rfl;have u5:U.cell? ⟨g3,5,none⟩=some (I 0):=(un HX2).ub.c 5 _ rfl;have u6:U.cell? ⟨g3,6,none⟩=some (I 0):=(un HX2).ub.c 6 _ rfl;have u7:U.cell? ⟨g3,7,none⟩=some (I 0):=(un HX2).ub.c 7 _ rfl;have u8:U.cell? ⟨g3,8,none⟩=some (I 1):=(un HX2).ub.c 8 _ rfl;have u9:U.cell? ⟨g3,9,none⟩=some (I 1):=(un HX2).ub.c 9 _ rfl
 go_wp2_with (refine zAn 180 10 zAu rfl (.tmp 2) (.tmp 8) rfl w.heap.size z10 (J 1 0 0 0 0 0 0 0 1 1) rfl rfl rfl rfl (un HR2) (by kernel_rfl) ?_)
 refine bodyPost_ret (v:=.agg (J 1 0 0 0 0 0 0 0 1 1)) (res55 Tryz.results314 _ _ w.heap.size _ rfl rfl ((un HR2).setRow _)) rfl ⟨rfl,below_setRow (un HW2) (Nat.le_refl _) _⟩
theorem siOne1 (w:World):Calls Tryz.prog 314 #[I 1] w fun r w'=>r=.returned (.agg (J 0 1 0 0 0 0 0 0 1 1))∧Bw w w':=by
 obtain⟨V,hV⟩:∃V,V=w.alloc (.cells z10 180):=⟨_,rfl⟩;have HR:Hid (zAc V w.heap.size 180 z10):=by rw[hV];exact zAc.new _ _ _
 have HW:Hid (Bw w V):=by rw[hV];exact bA
 have HV:=zAb hV;clear hV;go_enter Tryz.func314,Tryz.ntmps314
 go_upto_region 1 with fail
 rw[←un HV];clear HV
 go_upto_region 2 with (first
  | (go_at_call 320;go_must(refine(zBp _ _).mono ?_;rintro e w1 ⟨rfl,hb⟩;have HB:=zAb hb;clear hb;have HX:Hid (zAc (w1.alloc (.cells z10 180)) w1.heap.size 180 z10):=zAc.new _ _ _))
  | (refine zAn 180 10 zAu rfl (.tmp 3) (.tmp 4) rfl w1.heap.size z10 (J 0 0 0 0 0 0 0 0 1 1) rfl rfl rfl rfl (un HX) (by kernel_rfl) ?_))
 have HX1:=zAb ((un HX).setRow (J 0 0 0 0 0 0 0 0 1 1));have HB1:Hid (Bw V ((w1.alloc (.cells z10 180)).setRow w1.heap.size (J 0 0 0 0 0 0 0 0 1 1))):=below_setRow ((un HB).alloc (un HB).size _) (un HB).size _;have HGL:Hid (w.heap.size<w1.heap.size):=Nat.lt_of_lt_of_le (un HR).lt (un HB).size;clear HX HB;generalize (w1.alloc (.cells z10 180)).setRow w1.heap.size (J 0 0 0 0 0 0 0 0 1 1)=U1 at *
 generalize w1.heap.size=g3 at *
 have c1:U1.cell? ⟨g3,1,none⟩=some (I 0):=(un HX1).ub.c 1 _ rfl;have f1:U1.frozen? ⟨g3,1,none⟩=false:=(un HX1).ub.f 1 (I 0) rfl
 go_upto_region 3 with fail
 have HX2:Hid (zAc (U1.setCell ⟨g3,1,none⟩ (I 1)) g3 180 (J 0 1 0 0 0 0 0 0 1 1)):=(un HX1).set 1 (I 1);have HR2:Hid (zAc (U1.setCell ⟨g3,1,none⟩ (I 1)) w.heap.size 180 z10):=((un HR).later (un HB1)).otherSet (by have:=un HGL;omega) _ _;have HW2:Hid (Bw w (U1.setCell ⟨g3,1,none⟩ (I 1))):=((un HW).trans ((un HB1).mono (un HW).size)).setCell (p:=⟨g3,1,none⟩) (Nat.le_of_lt (un HGL)) _;clear c1 f1 HX1 HB1 HR HW HGL;generalize U1.setCell ⟨g3,1,none⟩ (I 1)=U at *
 have u0:U.cell? ⟨g3,0,none⟩=some (I 0):=(un HX2).ub.c 0 _ rfl;have u1:U.cell? ⟨g3,1,none⟩=some (I 1):=(un HX2).ub.c 1 _ rfl;have u2:U.cell? ⟨g3,2,none⟩=some (I 0):=(un HX2).ub.c 2 _ rfl;have u3:U.cell? ⟨g3,3,none⟩=some (I 0):=(un HX2).ub.c 3 _ rfl;have u4:U.cell? ⟨g3,4,none⟩=some (I 0):=(un HX2).ub.c 4 _ rfl;have u5:U.cell? ⟨g3,5,none⟩=some (I 0):=(un HX2).ub.c 5 _ rfl;have u6:U.cell? ⟨g3,6,none⟩=some (I 0):=(un HX2).ub.c 6 _ rfl;have u7:U.cell? ⟨g3,7,none⟩=some (I 0):=(un HX2).ub.c 7 _ rfl;have u8:U.cell? ⟨g3,8,none⟩=some (I 1):=(un HX2).ub.c 8 _ rfl;have u9:U.cell? ⟨g3,9,none⟩=some (I 1):=(un HX2).ub.c 9 _ rfl
 go_wp2_with (refine zAn 180 10 zAu rfl (.tmp 2) (.tmp 8) rfl w.heap.size z10 (J 0 1 0 0 0 0 0 0 1 1) rfl rfl rfl rfl (un HR2) (by kernel_rfl) ?_)
 refine bodyPost_ret (v:=.agg (J 0 1 0 0 0 0 0 0 1 1)) (res55 Tryz.results314 _ _ w.heap.size _ rfl rfl ((un HR2).setRow _)) rfl ⟨rfl,below_setRow (un HW2) (Nat.le_refl _) _⟩
theorem siOne2 (w:World):Calls Tryz.prog 314 #[I 2] w fun r w'=>r=.returned (.agg (J 0 0 1 0 0 0 0 0 1 1))∧Bw w w':=by
 obtain⟨V,hV⟩:∃V,V=w.alloc (.cells z10 180):=⟨_,rfl⟩;have HR:Hid (zAc V w.heap.size 180 z10):=by rw[hV];exact zAc.new _ _ _
 have HW:Hid (Bw w V):=by rw[hV];exact bA
 have HV:=zAb hV;clear hV;go_enter Tryz.func314,Tryz.ntmps314
 go_upto_region 1 with fail
 rw[←un HV];clear HV
 go_upto_region 2 with (first
  | (go_at_call 320;go_must(refine(zBp _ _).mono ?_;rintro e w1 ⟨rfl,hb⟩;have HB:=zAb hb;clear hb;have HX:Hid (zAc (w1.alloc (.cells z10 180)) w1.heap.size 180 z10):=zAc.new _ _ _))
  | (refine zAn 180 10 zAu rfl (.tmp 3) (.tmp 4) rfl w1.heap.size z10 (J 0 0 0 0 0 0 0 0 1 1) rfl rfl rfl rfl (un HX) (by kernel_rfl) ?_))
 have HX1:=zAb ((un HX).setRow (J 0 0 0 0 0 0 0 0 1 1));have HB1:Hid (Bw V ((w1.alloc (.cells z10 180)).setRow w1.heap.size (J 0 0 0 0 0 0 0 0 1 1))):=below_setRow ((un HB).alloc (un HB).size _) (un HB).size _;have HGL:Hid (w.heap.size<w1.heap.size):=Nat.lt_of_lt_of_le (un HR).lt (un HB).size;clear HX HB;generalize (w1.alloc (.cells z10 180)).setRow w1.heap.size (J 0 0 0 0 0 0 0 0 1 1)=U1 at *
 generalize w1.heap.size=g3 at *
 have c2:U1.cell? ⟨g3,2,none⟩=some (I 0):=(un HX1).ub.c 2 _ rfl;have f2:U1.frozen? ⟨g3,2,none⟩=false:=(un HX1).ub.f 2 (I 0) rfl
 go_upto_region 3 with fail
 have HX2:Hid (zAc (U1.setCell ⟨g3,2,none⟩ (I 1)) g3 180 (J 0 0 1 0 0 0 0 0 1 1)):=(un HX1).set 2 (I 1);have HR2:Hid (zAc (U1.setCell ⟨g3,2,none⟩ (I 1)) w.heap.size 180 z10):=((un HR).later (un HB1)).otherSet (by have:=un HGL;omega) _ _;have HW2:Hid (Bw w (U1.setCell ⟨g3,2,none⟩ (I 1))):=((un HW).trans ((un HB1).mono (un HW).size)).setCell (p:=⟨g3,2,none⟩) (Nat.le_of_lt (un HGL)) _;clear c2 f2 HX1 HB1 HR HW HGL;generalize U1.setCell ⟨g3,2,none⟩ (I 1)=U at *
 have u0:U.cell? ⟨g3,0,none⟩=some (I 0):=(un HX2).ub.c 0 _ rfl;have u1:U.cell? ⟨g3,1,none⟩=some (I 0):=(un HX2).ub.c 1 _ rfl;have u2:U.cell? ⟨g3,2,none⟩=some (I 1):=(un HX2).ub.c 2 _ rfl;have u3:U.cell? ⟨g3,3,none⟩=some (I 0):=(un HX2).ub.c 3 _ rfl;have u4:U.cell? ⟨g3,4,none⟩=some (I 0):=(un HX2).ub.c 4 _ rfl;have u5:U.cell? ⟨g3,5,none⟩=some (I 0):=(un HX2).ub.c 5 _ rfl;have u6:U.cell? ⟨g3,6,none⟩=some (I 0):=(un HX2).ub.c 6 _ rfl;have u7:U.cell? ⟨g3,7,none⟩=some (I 0):=(un HX2).ub.c 7 _ rfl;have u8:U.cell? ⟨g3,8,none⟩=some (I 1):=(un HX2).ub.c 8 _ rfl;have u9:U.cell? ⟨g3,9,none⟩=some (I 1):=(un HX2).ub.c 9 _ rfl
 go_wp2_with (refine zAn 180 10 zAu rfl (.tmp 2) (.tmp 8) rfl w.heap.size z10 (J 0 0 1 0 0 0 0 0 1 1) rfl rfl rfl rfl (un HR2) (by kernel_rfl) ?_)
 refine bodyPost_ret (v:=.agg (J 0 0 1 0 0 0 0 0 1 1)) (res55 Tryz.results314 _ _ w.heap.size _ rfl rfl ((un HR2).setRow _)) rfl ⟨rfl,below_setRow (un HW2) (Nat.le_refl _) _⟩
theorem siOne3 (w:World):Calls Tryz.prog 314 #[I 3] w fun r w'=>r=.returned (.agg (J 0 0 0 1 0 0 0 0 1 1))∧Bw w w':=by
 obtain⟨V,hV⟩:∃V,V=w.alloc (.cells z10 180):=⟨_,rfl⟩;have HR:Hid (zAc V w.heap.size 180 z10):=by rw[hV];exact zAc.new _ _ _
 have HW:Hid (Bw w V):=by rw[hV];exact bA
 have HV:=zAb hV;clear hV;go_enter Tryz.func314,Tryz.ntmps314
 go_upto_region 1 with fail
 rw[←un HV];clear HV
 go_upto_region 2 with (first
  | (go_at_call 320;go_must(refine(zBp _ _).mono ?_;rintro e w1 ⟨rfl,hb⟩;have HB:=zAb hb;clear hb;have HX:Hid (zAc (w1.alloc (.cells z10 180)) w1.heap.size 180 z10):=zAc.new _ _ _))
  | (refine zAn 180 10 zAu rfl (.tmp 3) (.tmp 4) rfl w1.heap.size z10 (J 0 0 0 0 0 0 0 0 1 1) rfl rfl rfl rfl (un HX) (by kernel_rfl) ?_))
 have HX1:=zAb ((un HX).setRow (J 0 0 0 0 0 0 0 0 1 1));have HB1:Hid (Bw V ((w1.alloc (.cells z10 180)).setRow w1.heap.size (J 0 0 0 0 0 0 0 0 1 1))):=below_setRow ((un HB).alloc (un HB).size _) (un HB).size _;have HGL:Hid (w.heap.size<w1.heap.size):=Nat.lt_of_lt_of_le (un HR).lt (un HB).size;clear HX HB;generalize (w1.alloc (.cells z10 180)).setRow w1.heap.size (J 0 0 0 0 0 0 0 0 1 1)=U1 at *
 generalize w1.heap.size=g3 at *
 have c3:U1.cell? ⟨g3,3,none⟩=some (I 0):=(un HX1).ub.c 3 _ rfl;have f3:U1.frozen? ⟨g3,3,none⟩=false:=(un HX1).ub.f 3 (I 0) rfl
 go_upto_region 3 with fail
 have HX2:Hid (zAc (U1.setCell ⟨g3,3,none⟩ (I 1)) g3 180 (J 0 0 0 1 0 0 0 0 1 1)):=(un HX1).set 3 (I 1);have HR2:Hid (zAc (U1.setCell ⟨g3,3,none⟩ (I 1)) w.heap.size 180 z10):=((un HR).later (un HB1)).otherSet (by have:=un HGL;omega) _ _;have HW2:Hid (Bw w (U1.setCell ⟨g3,3,none⟩ (I 1))):=((un HW).trans ((un HB1).mono (un HW).size)).setCell (p:=⟨g3,3,none⟩) (Nat.le_of_lt (un HGL)) _;clear c3 f3 HX1 HB1 HR HW HGL;generalize U1.setCell ⟨g3,3,none⟩ (I 1)=U at *
 have u0:U.cell? ⟨g3,0,none⟩=some (I 0):=(un HX2).ub.c 0 _ rfl;have u1:U.cell? ⟨g3,1,none⟩=some (I 0):=(un HX2).ub.c 1 _ rfl;have u2:U.cell? ⟨g3,2,none⟩=some (I 0):=(un HX2).ub.c 2 _ rfl;have u3:U.cell? ⟨g3,3,none⟩=some (I 1):=(un HX2).ub.c 3 _ rfl;have u4:U.cell? ⟨g3,4,none⟩=some (I 0):=(un HX2).ub.c 4 _ rfl;have u5:U.cell? ⟨g3,5,none⟩=some (I 0):=(un HX2).ub.c 5 _ rfl;have u6:U.cell? ⟨g3,6,none⟩=some (I 0):=(un HX2).ub.c 6 _ rfl;have u7:U.cell? ⟨g3,7,none⟩=some (I 0):=(un HX2).ub.c 7 _ rfl;have u8:U.cell? ⟨g3,8,none⟩=some (I 1):=(un HX2).ub.c 8 _ rfl;have u9:U.cell? ⟨g3,9,none⟩=some (I 1):=(un HX2).ub.c 9 _ rfl
 go_wp2_with (refine zAn 180 10 zAu rfl (.tmp 2) (.tmp 8) rfl w.heap.size z10 (J 0 0 0 1 0 0 0 0 1 1) rfl rfl rfl rfl (un HR2) (by kernel_rfl) ?_)
 refine bodyPost_ret (v:=.agg (J 0 0 0 1 0 0 0 0 1 1)) (res55 Tryz.results314 _ _ w.heap.size _ rfl rfl ((un HR2).setRow _)) rfl ⟨rfl,below_setRow (un HW2) (Nat.le_refl _) _⟩
theorem siOne5 (w:World):Calls Tryz.prog 314 #[I 5] w fun r w'=>r=.returned (.agg (J 0 0 0 0 0 1 0 0 1 1))∧Bw w w':=by
 obtain⟨V,hV⟩:∃V,V=w.alloc (.cells z10 180):=⟨_,rfl⟩;have HR:Hid (zAc V w.heap.size 180 z10):=by rw[hV];exact zAc.new _ _ _
 have HW:Hid (Bw w V):=by rw[hV];exact bA
 have HV:=zAb hV;clear hV;go_enter Tryz.func314,Tryz.ntmps314
 go_upto_region 1 with fail
 rw[←un HV];clear HV
 go_upto_region 2 with (first
  | (go_at_call 320;go_must(refine(zBp _ _).mono ?_;rintro e w1 ⟨rfl,hb⟩;have HB:=zAb hb;clear hb;have HX:Hid (zAc (w1.alloc (.cells z10 180)) w1.heap.size 180 z10):=zAc.new _ _ _))
  | (refine zAn 180 10 zAu rfl (.tmp 3) (.tmp 4) rfl w1.heap.size z10 (J 0 0 0 0 0 0 0 0 1 1) rfl rfl rfl rfl (un HX) (by kernel_rfl) ?_))
 have HX1:=zAb ((un HX).setRow (J 0 0 0 0 0 0 0 0 1 1));have HB1:Hid (Bw V ((w1.alloc (.cells z10 180)).setRow w1.heap.size (J 0 0 0 0 0 0 0 0 1 1))):=below_setRow ((un HB).alloc (un HB).size _) (un HB).size _;have HGL:Hid (w.heap.size<w1.heap.size):=Nat.lt_of_lt_of_le (un HR).lt (un HB).size;clear HX HB;generalize (w1.alloc (.cells z10 180)).setRow w1.heap.size (J 0 0 0 0 0 0 0 0 1 1)=U1 at *
 generalize w1.heap.size=g3 at *
 have c5:U1.cell? ⟨g3,5,none⟩=some (I 0):=(un HX1).ub.c 5 _ rfl;have f5:U1.frozen? ⟨g3,5,none⟩=false:=(un HX1).ub.f 5 (I 0) rfl
 go_upto_region 3 with fail
 have HX2:Hid (zAc (U1.setCell ⟨g3,5,none⟩ (I 1)) g3 180 (J 0 0 0 0 0 1 0 0 1 1)):=(un HX1).set 5 (I 1);have HR2:Hid (zAc (U1.setCell ⟨g3,5,none⟩ (I 1)) w.heap.size 180 z10):=((un HR).later (un HB1)).otherSet (by have:=un HGL;omega) _ _;have HW2:Hid (Bw w (U1.setCell ⟨g3,5,none⟩ (I 1))):=((un HW).trans ((un HB1).mono (un HW).size)).setCell (p:=⟨g3,5,none⟩) (Nat.le_of_lt (un HGL)) _;clear c5 f5 HX1 HB1 HR HW HGL;generalize U1.setCell ⟨g3,5,none⟩ (I 1)=U at *
 have u0:U.cell? ⟨g3,0,none⟩=some (I 0):=(un HX2).ub.c 0 _ rfl;have u1:U.cell? ⟨g3,1,none⟩=some (I 0):=(un HX2).ub.c 1 _ rfl;have u2:U.cell? ⟨g3,2,none⟩=some (I 0):=(un HX2).ub.c 2 _ rfl;have u3:U.cell? ⟨g3,3,none⟩=some (I 0):=(un HX2).ub.c 3 _ rfl;have u4:U.cell? ⟨g3,4,none⟩=some (I 0):=(un HX2).ub.c 4 _ rfl;have u5:U.cell? ⟨g3,5,none⟩=some (I 1):=(un HX2).ub.c 5 _ rfl;have u6:U.cell? ⟨g3,6,none⟩=some (I 0):=(un HX2).ub.c 6 _ rfl;have u7:U.cell? ⟨g3,7,none⟩=some (I 0):=(un HX2).ub.c 7 _ rfl;have u8:U.cell? ⟨g3,8,none⟩=some (I 1):=(un HX2).ub.c 8 _ rfl;have u9:U.cell? ⟨g3,9,none⟩=some (I 1):=(un HX2).ub.c 9 _ rfl
 go_wp2_with (refine zAn 180 10 zAu rfl (.tmp 2) (.tmp 8) rfl w.heap.size z10 (J 0 0 0 0 0 1 0 0 1 1) rfl rfl rfl rfl (un HR2) (by kernel_rfl) ?_)
 refine bodyPost_ret (v:=.agg (J 0 0 0 0 0 1 0 0 1 1)) (res55 Tryz.results314 _ _ w.heap.size _ rfl rfl ((un HR2).setRow _)) rfl ⟨rfl,below_setRow (un HW2) (Nat.le_refl _) _⟩
theorem siOne6 (w:World):Calls Tryz.prog 314 #[I 6] w fun r w'=>r=.returned (.agg (J 0 0 0 0 0 0 1 0 1 1))∧Bw w w':=by
 obtain⟨V,hV⟩:∃V,V=w.alloc (.cells z10 180):=⟨_,rfl⟩;have HR:Hid (zAc V w.heap.size 180 z10):=by rw[hV];exact zAc.new _ _ _
 have HW:Hid (Bw w V):=by rw[hV];exact bA
 have HV:=zAb hV;clear hV;go_enter Tryz.func314,Tryz.ntmps314
 go_upto_region 1 with fail
 rw[←un HV];clear HV
 go_upto_region 2 with (first
  | (go_at_call 320;go_must(refine(zBp _ _).mono ?_;rintro e w1 ⟨rfl,hb⟩;have HB:=zAb hb;clear hb;have HX:Hid (zAc (w1.alloc (.cells z10 180)) w1.heap.size 180 z10):=zAc.new _ _ _))
  | (refine zAn 180 10 zAu rfl (.tmp 3) (.tmp 4) rfl w1.heap.size z10 (J 0 0 0 0 0 0 0 0 1 1) rfl rfl rfl rfl (un HX) (by kernel_rfl) ?_))
 have HX1:=zAb ((un HX).setRow (J 0 0 0 0 0 0 0 0 1 1));have HB1:Hid (Bw V ((w1.alloc (.cells z10 180)).setRow w1.heap.size (J 0 0 0 0 0 0 0 0 1 1))):=below_setRow ((un HB).alloc (un HB).size _) (un HB).size _;have HGL:Hid (w.heap.size<w1.heap.size):=Nat.lt_of_lt_of_le (un HR).lt (un HB).size;clear HX HB;generalize (w1.alloc (.cells z10 180)).setRow w1.heap.size (J 0 0 0 0 0 0 0 0 1 1)=U1 at *
 generalize w1.heap.size=g3 at *
 have c6:U1.cell? ⟨g3,6,none⟩=some (I 0):=(un HX1).ub.c 6 _ rfl;have f6:U1.frozen? ⟨g3,6,none⟩=false:=(un HX1).ub.f 6 (I 0) rfl
 go_upto_region 3 with fail
 have HX2:Hid (zAc (U1.setCell ⟨g3,6,none⟩ (I 1)) g3 180 (J 0 0 0 0 0 0 1 0 1 1)):=(un HX1).set 6 (I 1);have HR2:Hid (zAc (U1.setCell ⟨g3,6,none⟩ (I 1)) w.heap.size 180 z10):=((un HR).later (un HB1)).otherSet (by have:=un HGL;omega) _ _;have HW2:Hid (Bw w (U1.setCell ⟨g3,6,none⟩ (I 1))):=((un HW).trans ((un HB1).mono (un HW).size)).setCell (p:=⟨g3,6,none⟩) (Nat.le_of_lt (un HGL)) _;clear c6 f6 HX1 HB1 HR HW HGL;generalize U1.setCell ⟨g3,6,none⟩ (I 1)=U at *
 have u0:U.cell? ⟨g3,0,none⟩=some (I 0):=(un HX2).ub.c 0 _ rfl;have u1:U.cell? ⟨g3,1,none⟩=some (I 0):=(un HX2).ub.c 1 _ rfl;have u2:U.cell? ⟨g3,2,none⟩=some (I 0):=(un HX2).ub.c 2 _ rfl;have u3:U.cell? ⟨g3,3,none⟩=some (I 0):=(un HX2).ub.c 3 _ rfl;have u4:U.cell? ⟨g3,4,none⟩=some (I 0):=(un HX2).ub.c 4 _ rfl;have u5:U.cell? ⟨g3,5,none⟩=some (I 0):=(un HX2).ub.c 5 _ rfl;have u6:U.cell? ⟨g3,6,none⟩=some (I 1):=(un HX2).ub.c 6 _ rfl;have u7:U.cell? ⟨g3,7,none⟩=some (I 0):=(un HX2).ub.c 7 _ rfl;have u8:U.cell? ⟨g3,8,none⟩=some (I 1):=(un HX2).ub.c 8 _ rfl;have u9:U.cell? ⟨g3,9,none⟩=some (I 1):=(un HX2).ub.c 9 _ rfl
 go_wp2_with (refine zAn 180 10 zAu rfl (.tmp 2) (.tmp 8) rfl w.heap.size z10 (J 0 0 0 0 0 0 1 0 1 1) rfl rfl rfl rfl (un HR2) (by kernel_rfl) ?_)
 refine bodyPost_ret (v:=.agg (J 0 0 0 0 0 0 1 0 1 1)) (res55 Tryz.results314 _ _ w.heap.size _ rfl rfl ((un HR2).setRow _)) rfl ⟨rfl,below_setRow (un HW2) (Nat.le_refl _) _⟩
theorem siOne7 (w:World):Calls Tryz.prog 314 #[I 7] w fun r w'=>r=.returned (.agg (J 0 0 0 0 0 0 0 1 1 1))∧Bw w w':=by
 obtain⟨V,hV⟩:∃V,V=w.alloc (.cells z10 180):=⟨_,rfl⟩;have HR:Hid (zAc V w.heap.size 180 z10):=by rw[hV];exact zAc.new _ _ _
 have HW:Hid (Bw w V):=by rw[hV];exact bA
 have HV:=zAb hV;clear hV;go_enter Tryz.func314,Tryz.ntmps314
 go_upto_region 1 with fail
 rw[←un HV];clear HV
 go_upto_region 2 with (first
  | (go_at_call 320;go_must(refine(zBp _ _).mono ?_;rintro e w1 ⟨rfl,hb⟩;have HB:=zAb hb;clear hb;have HX:Hid (zAc (w1.alloc (.cells z10 180)) w1.heap.size 180 z10):=zAc.new _ _ _))
  | (refine zAn 180 10 zAu rfl (.tmp 3) (.tmp 4) rfl w1.heap.size z10 (J 0 0 0 0 0 0 0 0 1 1) rfl rfl rfl rfl (un HX) (by kernel_rfl) ?_))
 have HX1:=zAb ((un HX).setRow (J 0 0 0 0 0 0 0 0 1 1));have HB1:Hid (Bw V ((w1.alloc (.cells z10 180)).setRow w1.heap.size (J 0 0 0 0 0 0 0 0 1 1))):=below_setRow ((un HB).alloc (un HB).size _) (un HB).size _;have HGL:Hid (w.heap.size<w1.heap.size):=Nat.lt_of_lt_of_le (un HR).lt (un HB).size;clear HX HB;generalize (w1.alloc (.cells z10 180)).setRow w1.heap.size (J 0 0 0 0 0 0 0 0 1 1)=U1 at *
 generalize w1.heap.size=g3 at *
 have c7:U1.cell? ⟨g3,7,none⟩=some (I 0):=(un HX1).ub.c 7 _ rfl;have f7:U1.frozen? ⟨g3,7,none⟩=false:=(un HX1).ub.f 7 (I 0) rfl
 go_upto_region 3 with fail
 have HX2:Hid (zAc (U1.setCell ⟨g3,7,none⟩ (I 1)) g3 180 (J 0 0 0 0 0 0 0 1 1 1)):=(un HX1).set 7 (I 1);have HR2:Hid (zAc (U1.setCell ⟨g3,7,none⟩ (I 1)) w.heap.size 180 z10):=((un HR).later (un HB1)).otherSet (by have:=un HGL;omega) _ _;have HW2:Hid (Bw w (U1.setCell ⟨g3,7,none⟩ (I 1))):=((un HW).trans ((un HB1).mono (un HW).size)).setCell (p:=⟨g3,7,none⟩) (Nat.le_of_lt (un HGL)) _;clear c7 f7 HX1 HB1 HR HW HGL;generalize U1.setCell ⟨g3,7,none⟩ (I 1)=U at *
 have u0:U.cell? ⟨g3,0,none⟩=some (I 0):=(un HX2).ub.c 0 _ rfl;have u1:U.cell? ⟨g3,1,none⟩=some (I 0):=(un HX2).ub.c 1 _ rfl;have u2:U.cell? ⟨g3,2,none⟩=some (I 0):=(un HX2).ub.c 2 _ rfl;have u3:U.cell? ⟨g3,3,none⟩=some (I 0):=(un HX2).ub.c 3 _ rfl;have u4:U.cell? ⟨g3,4,none⟩=some (I 0):=(un HX2).ub.c 4 _ rfl;have u5:U.cell? ⟨g3,5,none⟩=some (I 0):=(un HX2).ub.c 5 _ rfl;have u6:U.cell? ⟨g3,6,none⟩=some (I 0):=(un HX2).ub.c 6 _ rfl;have u7:U.cell? ⟨g3,7,none⟩=some (I 1):=(un HX2).ub.c 7 _ rfl;have u8:U.cell? ⟨g3,8,none⟩=some (I 1):=(un HX2).ub.c 8 _ rfl;have u9:U.cell? ⟨g3,9,none⟩=some (I 1):=(un HX2).ub.c 9 _ rfl
 go_wp2_with (refine zAn 180 10 zAu rfl (.tmp 2) (.tmp 8) rfl w.heap.size z10 (J 0 0 0 0 0 0 0 1 1 1) rfl rfl rfl rfl (un HR2) (by kernel_rfl) ?_)
 refine bodyPost_ret (v:=.agg (J 0 0 0 0 0 0 0 1 1 1)) (res55 Tryz.results314 _ _ w.heap.size _ rfl rfl ((un HR2).setRow _)) rfl ⟨rfl,below_setRow (un HW2) (Nat.le_refl _) _⟩
structure Onto (w w':World) (g:Nat):Prop where
 own:∀(q ty:Nat) (us:Array Value),¬q=g→zAc w q ty us→zAc w' q ty us
 bel:∀(B:Nat) (w0:World),B≤g→B≤w.heap.size→Below B w0 w→Below B w0 w'
 size:w.heap.size≤w'.heap.size
theorem Onto.trans {w v u:World} {g:Nat} (h:Onto w v g) (h':Onto v u g):Onto w u g :=
 ⟨fun q ty us hq ho=>h'.own q ty us hq (h.own q ty us hq ho),fun B w0 h1 h2 hb=>h'.bel B w0 h1 (Nat.le_trans h2 h.size) (h.bel B w0 h1 h2 hb),Nat.le_trans h.size h'.size⟩
theorem Onto.of_below {w v:World} {g:Nat} (h:Below w.heap.size w v):Onto w v g :=
 ⟨fun _ _ _ _ ho=>ho.later h,fun _ _ _ h2 hb=>hb.trans (h.mono h2),h.size⟩
theorem Onto.setCell (w:World) (g i:Nat) (v:Value):Onto w (w.setCell ⟨g,i,none⟩ v) g :=
 ⟨fun _ _ _ hq ho=>ho.otherSet hq _ _,fun _ _ h1 _ hb=>hb.setCell (p:=⟨g,i,none⟩) h1 _,((Below.refl 0 w).setCell (p:=⟨g,i,none⟩) (Nat.zero_le _) _).size⟩
theorem Onto.setCells (w:World) (g:Nat):∀(l:List Value) (o:Nat),Onto w (w.setCells g o l) g
 | [],_=>Onto.of_below (Below.refl _ _)
 | v :: l,o=>(Onto.setCell w g o v).trans (Onto.setCells (w.setCell ⟨g,o,none⟩ v) g l (o+1))
theorem putAt_far:∀(l:List Value) (vs:Array Value) (o i:Nat),o+l.length≤i→(zDg vs o l)[i]?=vs[i]?
 | [],_,_,_,_=>rfl
 | v :: l,vs,o,i,h=>by
  simp only[List.length_cons]at h;rw[zDg,putAt_far l _ _ _ (by omega),Array.getElem?_setIfInBounds_ne (by omega)]
theorem zFw (am:Array Value) (haz:am.size=10) (ha1:am.all (·.oneCell')=true) (g c:Nat) (hc:c<8) (vs us:Array Value) (w:World) (hg:zAc w g 286 vs) (hs:vs.size=81) (h80:vs[80]?=some (I (c:Int))) (he:(zDg vs (c*10) am.toList).setIfInBounds 80 (I ((c:Int)+1))=us) :
  Calls Tryz.prog 367 #[.agg am,.pointer (some ⟨g,0,none⟩)] w fun e w'=>e=.returned (.agg am)∧zAc w' g 286 us∧Onto w w' g:=by
 obtain⟨V,hV⟩:∃V,V=(w.alloc (.cells am 180)).alloc (.cells (J 0 0 0 0 0 0 0 0 0 0) 180):=⟨_,rfl⟩;have hbV:Below w.heap.size w V:=by rw[hV];exact bA.alloc (by simp) _
 have HA:Hid (zAc V w.heap.size 180 am):=by rw[hV];exact(zAc.new _ _ _).alloc _
 have HR:Hid (zAc V (w.heap.size+1) 180 (J 0 0 0 0 0 0 0 0 0 0)):=by rw[hV];have h:=zAc.new (w.alloc (.cells am 180)) (J 0 0 0 0 0 0 0 0 0 0) 180;rw[Dm.size_alloc]at h;exact h
 have HG:=zAb (hg.later hbV);have HON:Hid (Onto w V g):=Onto.of_below hbV;have HNE:Hid (¬w.heap.size=g∧¬w.heap.size+1=g):=(by have:=hg.lt;show _∧_;omega);have HGL:=zAb hg.lt;have HAZ:=zAb haz;have HA1:=zAb ha1;have HE:=zAb he;have HVS:=zAb hs
 have HP80:Hid ((zDg vs (c*10) am.toList)[80]?=some (I (c:Int))):=by
  show _=_;rw[putAt_far _ _ _ _ (by rw[Array.length_toList,haz];omega)];exact h80
 have hcI:(c:Int)<8:=by omega
 have hc0:(0:Int)≤(c:Int):=by omega
 have HV:=zAb hV;clear hV hbV haz ha1 he hs;have y80:V.cell? ⟨g,80,none⟩=some (I (c:Int)):=(un HG).ub.c 80 _ h80;clear h80 hg;go_enter Tryz.func367,Tryz.ntmps367
 go_upto_region 1 with fail
 rw[←un HV];clear HV
 go_upto_region 2 with (first
  | (refine wpList_load_row rfl 180 (.tmp 2) rfl w.heap.size rfl 180 am (0,0) _ (un HA) Tryz.underlying180 rfl (by rw[un HAZ];exact zAu) ?_)
  | (refine wpList_store_mid rfl 180 (.tmp 8) (.tmp 6) rfl g (c*10) am rfl rfl ((un HG).there _ _ (by rw[un HAZ,un HVS];omega)) (by rw[un HAZ];exact zAu) (un HA1) ?_))
 have HG1:Hid (zAc (V.setCells g (c*10) am.toList) g 286 (zDg vs (c*10) am.toList)):=zAc.setCells _ _ _ _ (un HG);have HAA:Hid (zAc (V.setCells g (c*10) am.toList) w.heap.size 180 am):=zAc.otherCells (un HNE).1 _ _ _ (un HA);have HR1:Hid (zAc (V.setCells g (c*10) am.toList) (w.heap.size+1) 180 (J 0 0 0 0 0 0 0 0 0 0)):=zAc.otherCells (un HNE).2 _ _ _ (un HR);have HO1:Hid (Onto w (V.setCells g (c*10) am.toList) g):=(un HON).trans (Onto.setCells V g _ _);clear y80 HG HA HR HON;generalize V.setCells g (c*10) am.toList=U1 at *
 have y80:U1.cell? ⟨g,80,none⟩=some (I (c:Int)):=(un HG1).ub.c 80 _ (un HP80);have f80:U1.frozen? ⟨g,80,none⟩=false:=(un HG1).ub.f 80 _ (un HP80)
 go_upto_region 3 with fail
 have HG2:Hid (zAc (U1.setCell ⟨g,80,none⟩ (I ((c:Int)+1))) g 286 us):=by rw[←un HE];exact(un HG1).set 80 _
 have HA2:Hid (zAc (U1.setCell ⟨g,80,none⟩ (I ((c:Int)+1))) w.heap.size 180 am):=(un HAA).otherSet (un HNE).1 _ _;have HR2:Hid (zAc (U1.setCell ⟨g,80,none⟩ (I ((c:Int)+1))) (w.heap.size+1) 180 (J 0 0 0 0 0 0 0 0 0 0)):=(un HR1).otherSet (un HNE).2 _ _;have HO2:Hid (Onto w (U1.setCell ⟨g,80,none⟩ (I ((c:Int)+1))) g):=(un HO1).trans (Onto.setCell _ g 80 _);clear y80 f80 HG1 HAA HR1 HO1;generalize U1.setCell ⟨g,80,none⟩ (I ((c:Int)+1))=U2 at *
 go_wp2_with (first
  | (refine wpList_load_row rfl 180 (.tmp 2) rfl w.heap.size rfl 180 am (0,0) _ (un HA2) Tryz.underlying180 rfl (by rw[un HAZ];exact zAu) ?_)
  | (refine zAn 180 10 zAu rfl (.tmp 3) (.tmp 13) rfl (w.heap.size+1) (J 0 0 0 0 0 0 0 0 0 0) am rfl (un HAZ) rfl rfl (un HR2) (un HA1) ?_))
 have hrow:Below w.heap.size U2 (U2.setRow (w.heap.size+1) am):=below_setRow (Below.refl _ _) (by omega) _;refine bodyPost_ret (v:=.agg am) (res55 Tryz.results367 _ _ (w.heap.size+1) _ (un HAZ) rfl ((un HR2).setRow _)) rfl ⟨rfl,(hrow.block g (un HGL)).trans (un HG2),⟨fun q ty us hq ho=>(hrow.block q ho.lt).trans ((un HO2).own q ty us hq ho),fun B w0 h1 h2 hb=>below_setRow ((un HO2).bel B w0 h1 h2 hb) (Nat.le_trans h2 (Nat.le_succ _)) _,Nat.le_trans (un HO2).size hrow.size⟩⟩
theorem zBe (a0 a1 a2 a3 a4 a5 a6 a7 an ad b0 b1 b2 b3 b4 b5 b6 b7 bn bd c0 c1 c2 c3 c4 c5 c6 c7 cn cd:Int) (w:World) (h:[wrap64 (a0+b0),wrap64 (a1+b1),wrap64 (a2+b2),wrap64 (a3+b3),wrap64 (a4+b4),wrap64 (a5+b5),wrap64 (a6+b6),wrap64 (a7+b7),wrap64 (an*bn),wrap64 (ad*bd)]=[c0,c1,c2,c3,c4,c5,c6,c7,cn,cd]) :
  Calls Tryz.prog 315 #[.agg (J a0 a1 a2 a3 a4 a5 a6 a7 an ad),.agg (J b0 b1 b2 b3 b4 b5 b6 b7 bn bd)] w fun r w'=>r=.returned (.agg (J c0 c1 c2 c3 c4 c5 c6 c7 cn cd))∧Bw w w':=by
 simp only[List.cons.injEq,and_true]at h;obtain⟨e0,e1,e2,e3,e4,e5,e6,e7,e8,e9⟩:=h;rw[←e0,←e1,←e2,←e3,←e4,←e5,←e6,←e7,←e8,←e9];exact siTimes a0 a1 a2 a3 a4 a5 a6 a7 an ad b0 b1 b2 b3 b4 b5 b6 b7 bn bd w
theorem zDz (a0 a1 a2 a3 a4 a5 a6 a7 an ad b0 b1 b2 b3 b4 b5 b6 b7 bn bd c0 c1 c2 c3 c4 c5 c6 c7 cn cd:Int) (w:World) (h:[wrap64 (a0 - b0),wrap64 (a1 - b1),wrap64 (a2 - b2),wrap64 (a3 - b3),wrap64 (a4 - b4),wrap64 (a5 - b5),wrap64 (a6 - b6),wrap64 (a7 - b7),wrap64 (an*bd),wrap64 (ad*bn)]=[c0,c1,c2,c3,c4,c5,c6,c7,cn,cd]) :
  Calls Tryz.prog 316 #[.agg (J a0 a1 a2 a3 a4 a5 a6 a7 an ad),.agg (J b0 b1 b2 b3 b4 b5 b6 b7 bn bd)] w fun r w'=>r=.returned (.agg (J c0 c1 c2 c3 c4 c5 c6 c7 cn cd))∧Bw w w':=by
 simp only[List.cons.injEq,and_true]at h;obtain⟨e0,e1,e2,e3,e4,e5,e6,e7,e8,e9⟩:=h;rw[←e0,←e1,←e2,←e3,←e4,←e5,←e6,←e7,←e8,←e9];exact siBy a0 a1 a2 a3 a4 a5 a6 a7 an ad b0 b1 b2 b3 b4 b5 b6 b7 bn bd w
theorem zDy (a0 a1 a2 a3 a4 a5 a6 a7 an ad:Int) (g:Nat) (vs us:Array Value) (w:World) (hg:zAc w g 286 vs) (hs:vs.size=81) (h80:vs[80]?=some (I 0)) (he:(zDg vs 0 [I a0,I a1,I a2,I a3,I a4,I a5,I a6,I a7,I an,I ad]).setIfInBounds 80 (I 1)=us) :
  Calls Tryz.prog 367 #[.agg (J a0 a1 a2 a3 a4 a5 a6 a7 an ad),.pointer (some ⟨g,0,none⟩)] w fun e w'=>e=.returned (.agg (J a0 a1 a2 a3 a4 a5 a6 a7 an ad))∧zAc w' g 286 us∧Onto w w' g :=
 zFw _ rfl (by kernel_rfl) g 0 (by decide) vs us w hg hs h80 he
theorem zDa (a0 a1 a2 a3 a4 a5 a6 a7 an ad:Int) (g:Nat) (vs us:Array Value) (w:World) (hg:zAc w g 286 vs) (hs:vs.size=81) (h80:vs[80]?=some (I 1)) (he:(zDg vs 10 [I a0,I a1,I a2,I a3,I a4,I a5,I a6,I a7,I an,I ad]).setIfInBounds 80 (I 2)=us) :
  Calls Tryz.prog 367 #[.agg (J a0 a1 a2 a3 a4 a5 a6 a7 an ad),.pointer (some ⟨g,0,none⟩)] w fun e w'=>e=.returned (.agg (J a0 a1 a2 a3 a4 a5 a6 a7 an ad))∧zAc w' g 286 us∧Onto w w' g :=
 zFw _ rfl (by kernel_rfl) g 1 (by decide) vs us w hg hs h80 he
theorem put2_of (a0 a1 a2 a3 a4 a5 a6 a7 an ad:Int) (g:Nat) (vs us:Array Value) (w:World) (hg:zAc w g 286 vs) (hs:vs.size=81) (h80:vs[80]?=some (I 2)) (he:(zDg vs 20 [I a0,I a1,I a2,I a3,I a4,I a5,I a6,I a7,I an,I ad]).setIfInBounds 80 (I 3)=us) :
  Calls Tryz.prog 367 #[.agg (J a0 a1 a2 a3 a4 a5 a6 a7 an ad),.pointer (some ⟨g,0,none⟩)] w fun e w'=>e=.returned (.agg (J a0 a1 a2 a3 a4 a5 a6 a7 an ad))∧zAc w' g 286 us∧Onto w w' g :=
 zFw _ rfl (by kernel_rfl) g 2 (by decide) vs us w hg hs h80 he
theorem put3_of (a0 a1 a2 a3 a4 a5 a6 a7 an ad:Int) (g:Nat) (vs us:Array Value) (w:World) (hg:zAc w g 286 vs) (hs:vs.size=81) (h80:vs[80]?=some (I 3)) (he:(zDg vs 30 [I a0,I a1,I a2,I a3,I a4,I a5,I a6,I a7,I an,I ad]).setIfInBounds 80 (I 4)=us) :
  Calls Tryz.prog 367 #[.agg (J a0 a1 a2 a3 a4 a5 a6 a7 an ad),.pointer (some ⟨g,0,none⟩)] w fun e w'=>e=.returned (.agg (J a0 a1 a2 a3 a4 a5 a6 a7 an ad))∧zAc w' g 286 us∧Onto w w' g :=
 zFw _ rfl (by kernel_rfl) g 3 (by decide) vs us w hg hs h80 he
theorem put4_of (a0 a1 a2 a3 a4 a5 a6 a7 an ad:Int) (g:Nat) (vs us:Array Value) (w:World) (hg:zAc w g 286 vs) (hs:vs.size=81) (h80:vs[80]?=some (I 4)) (he:(zDg vs 40 [I a0,I a1,I a2,I a3,I a4,I a5,I a6,I a7,I an,I ad]).setIfInBounds 80 (I 5)=us) :
  Calls Tryz.prog 367 #[.agg (J a0 a1 a2 a3 a4 a5 a6 a7 an ad),.pointer (some ⟨g,0,none⟩)] w fun e w'=>e=.returned (.agg (J a0 a1 a2 a3 a4 a5 a6 a7 an ad))∧zAc w' g 286 us∧Onto w w' g :=
 zFw _ rfl (by kernel_rfl) g 4 (by decide) vs us w hg hs h80 he
theorem put5_of (a0 a1 a2 a3 a4 a5 a6 a7 an ad:Int) (g:Nat) (vs us:Array Value) (w:World) (hg:zAc w g 286 vs) (hs:vs.size=81) (h80:vs[80]?=some (I 5)) (he:(zDg vs 50 [I a0,I a1,I a2,I a3,I a4,I a5,I a6,I a7,I an,I ad]).setIfInBounds 80 (I 6)=us) :
  Calls Tryz.prog 367 #[.agg (J a0 a1 a2 a3 a4 a5 a6 a7 an ad),.pointer (some ⟨g,0,none⟩)] w fun e w'=>e=.returned (.agg (J a0 a1 a2 a3 a4 a5 a6 a7 an ad))∧zAc w' g 286 us∧Onto w w' g :=
 zFw _ rfl (by kernel_rfl) g 5 (by decide) vs us w hg hs h80 he
theorem put6_of (a0 a1 a2 a3 a4 a5 a6 a7 an ad:Int) (g:Nat) (vs us:Array Value) (w:World) (hg:zAc w g 286 vs) (hs:vs.size=81) (h80:vs[80]?=some (I 6)) (he:(zDg vs 60 [I a0,I a1,I a2,I a3,I a4,I a5,I a6,I a7,I an,I ad]).setIfInBounds 80 (I 7)=us) :
  Calls Tryz.prog 367 #[.agg (J a0 a1 a2 a3 a4 a5 a6 a7 an ad),.pointer (some ⟨g,0,none⟩)] w fun e w'=>e=.returned (.agg (J a0 a1 a2 a3 a4 a5 a6 a7 an ad))∧zAc w' g 286 us∧Onto w w' g :=
 zFw _ rfl (by kernel_rfl) g 6 (by decide) vs us w hg hs h80 he
theorem put7_of (a0 a1 a2 a3 a4 a5 a6 a7 an ad:Int) (g:Nat) (vs us:Array Value) (w:World) (hg:zAc w g 286 vs) (hs:vs.size=81) (h80:vs[80]?=some (I 7)) (he:(zDg vs 70 [I a0,I a1,I a2,I a3,I a4,I a5,I a6,I a7,I an,I ad]).setIfInBounds 80 (I 8)=us) :
  Calls Tryz.prog 367 #[.agg (J a0 a1 a2 a3 a4 a5 a6 a7 an ad),.pointer (some ⟨g,0,none⟩)] w fun e w'=>e=.returned (.agg (J a0 a1 a2 a3 a4 a5 a6 a7 an ad))∧zAc w' g 286 us∧Onto w w' g :=
 zFw _ rfl (by kernel_rfl) g 7 (by decide) vs us w hg hs h80 he
def zAw:Array Value:=#[I 0,I 0,I 0,I 0,I 0,I 0,I 0,I 0,I 0,I 0,I 0,I 0,I 0,I 0,I 0,I 0,I 0,I 0,I 0,I 0,I 0,I 0,I 0,I 0,I 0,I 0,I 0,I 0,I 0,I 0,I 0,I 0,I 0,I 0,I 0,I 0,I 0,I 0,I 0,I 0,I 0,I 0,I 0,I 0,I 0,I 0,I 0,I 0,I 0,I 0,I 0,I 0,I 0,I 0,I 0,I 0,I 0,I 0,I 0,I 0,I 0,I 0,I 0,I 0,I 0,I 0,I 0,I 0,I 0,I 0,I 0,I 0,I 0,I 0,I 0,I 0,I 0,I 0,I 0,I 0,I 0]
def g_force1:Array Value:=#[I 1,I 1,I (-2),I 0,I 0,I 0,I 0,I 0,I 1,I 1,I 0,I 0,I 0,I 0,I 0,I 0,I 0,I 0,I 0,I 0,I 0,I 0,I 0,I 0,I 0,I 0,I 0,I 0,I 0,I 0,I 0,I 0,I 0,I 0,I 0,I 0,I 0,I 0,I 0,I 0,I 0,I 0,I 0,I 0,I 0,I 0,I 0,I 0,I 0,I 0,I 0,I 0,I 0,I 0,I 0,I 0,I 0,I 0,I 0,I 0,I 0,I 0,I 0,I 0,I 0,I 0,I 0,I 0,I 0,I 0,I 0,I 0,I 0,I 0,I 0,I 0,I 0,I 0,I 0,I 0,I 1]
def zBv:Array Value:=#[I 1,I 1,I (-2),I 0,I 0,I 0,I 0,I 0,I 1,I 1,I (-1),I 1,I (-2),I 0,I 0,I 0,I 0,I 0,I 1,I 1,I 0,I 0,I 0,I 0,I 0,I 0,I 0,I 0,I 0,I 0,I 0,I 0,I 0,I 0,I 0,I 0,I 0,I 0,I 0,I 0,I 0,I 0,I 0,I 0,I 0,I 0,I 0,I 0,I 0,I 0,I 0,I 0,I 0,I 0,I 0,I 0,I 0,I 0,I 0,I 0,I 0,I 0,I 0,I 0,I 0,I 0,I 0,I 0,I 0,I 0,I 0,I 0,I 0,I 0,I 0,I 0,I 0,I 0,I 0,I 0,I 2]
def zBm:Array Value:=#[I 2,I 1,I (-2),I 0,I 0,I 0,I 0,I 0,I 1,I 1,I 0,I 0,I 0,I 0,I 0,I 0,I 0,I 0,I 0,I 0,I 0,I 0,I 0,I 0,I 0,I 0,I 0,I 0,I 0,I 0,I 0,I 0,I 0,I 0,I 0,I 0,I 0,I 0,I 0,I 0,I 0,I 0,I 0,I 0,I 0,I 0,I 0,I 0,I 0,I 0,I 0,I 0,I 0,I 0,I 0,I 0,I 0,I 0,I 0,I 0,I 0,I 0,I 0,I 0,I 0,I 0,I 0,I 0,I 0,I 0,I 0,I 0,I 0,I 0,I 0,I 0,I 0,I 0,I 0,I 0,I 1]
def zCn:Array Value:=#[I 2,I 1,I (-3),I 0,I 0,I 0,I 0,I 0,I 1,I 1,I 0,I 0,I 0,I 0,I 0,I 0,I 0,I 0,I 0,I 0,I 0,I 0,I 0,I 0,I 0,I 0,I 0,I 0,I 0,I 0,I 0,I 0,I 0,I 0,I 0,I 0,I 0,I 0,I 0,I 0,I 0,I 0,I 0,I 0,I 0,I 0,I 0,I 0,I 0,I 0,I 0,I 0,I 0,I 0,I 0,I 0,I 0,I 0,I 0,I 0,I 0,I 0,I 0,I 0,I 0,I 0,I 0,I 0,I 0,I 0,I 0,I 0,I 0,I 0,I 0,I 0,I 0,I 0,I 0,I 0,I 1]
def zDr:Array Value:=#[I 0,I 0,I 1,I 1,I 0,I 0,I 0,I 0,I 1,I 1,I 0,I 0,I 0,I 0,I 0,I 0,I 0,I 0,I 0,I 0,I 0,I 0,I 0,I 0,I 0,I 0,I 0,I 0,I 0,I 0,I 0,I 0,I 0,I 0,I 0,I 0,I 0,I 0,I 0,I 0,I 0,I 0,I 0,I 0,I 0,I 0,I 0,I 0,I 0,I 0,I 0,I 0,I 0,I 0,I 0,I 0,I 0,I 0,I 0,I 0,I 0,I 0,I 0,I 0,I 0,I 0,I 0,I 0,I 0,I 0,I 0,I 0,I 0,I 0,I 0,I 0,I 0,I 0,I 0,I 0,I 1]
def zDq:Array Value:=#[I 0,I 0,I 1,I 1,I 0,I 0,I 0,I 0,I 1,I 1,I 2,I 1,I (-3),I (-1),I 0,I 0,I 0,I 0,I 1,I 1,I 0,I 0,I 0,I 0,I 0,I 0,I 0,I 0,I 0,I 0,I 0,I 0,I 0,I 0,I 0,I 0,I 0,I 0,I 0,I 0,I 0,I 0,I 0,I 0,I 0,I 0,I 0,I 0,I 0,I 0,I 0,I 0,I 0,I 0,I 0,I 0,I 0,I 0,I 0,I 0,I 0,I 0,I 0,I 0,I 0,I 0,I 0,I 0,I 0,I 0,I 0,I 0,I 0,I 0,I 0,I 0,I 0,I 0,I 0,I 0,I 2]
def zDp:Array Value:=#[I 0,I 0,I 1,I 1,I 0,I 0,I 0,I 0,I 1,I 1,I 2,I 1,I (-3),I (-1),I 0,I 0,I 0,I 0,I 1,I 1,I (-2),I (-1),I 4,I 2,I 0,I 0,I 0,I 0,I 1,I 1,I 0,I 0,I 0,I 0,I 0,I 0,I 0,I 0,I 0,I 0,I 0,I 0,I 0,I 0,I 0,I 0,I 0,I 0,I 0,I 0,I 0,I 0,I 0,I 0,I 0,I 0,I 0,I 0,I 0,I 0,I 0,I 0,I 0,I 0,I 0,I 0,I 0,I 0,I 0,I 0,I 0,I 0,I 0,I 0,I 0,I 0,I 0,I 0,I 0,I 0,I 3]
def zDc:Array Value:=#[I 0,I 0,I 1,I 1,I 0,I 0,I 0,I 0,I 1,I 1,I 2,I 1,I (-3),I (-1),I 0,I 0,I 0,I 0,I 1,I 1,I (-2),I (-1),I 4,I 2,I 0,I 0,I 0,I 0,I 1,I 1,I 2,I 1,I (-3),I (-2),I 0,I 0,I 0,I 0,I 1,I 1,I 0,I 0,I 0,I 0,I 0,I 0,I 0,I 0,I 0,I 0,I 0,I 0,I 0,I 0,I 0,I 0,I 0,I 0,I 0,I 0,I 0,I 0,I 0,I 0,I 0,I 0,I 0,I 0,I 0,I 0,I 0,I 0,I 0,I 0,I 0,I 0,I 0,I 0,I 0,I 0,I 4]
def zDn:Array Value:=#[I 0,I 0,I 1,I 1,I 0,I 0,I 0,I 0,I 1,I 1,I 2,I 1,I (-3),I (-1),I 0,I 0,I 0,I 0,I 1,I 1,I (-2),I (-1),I 4,I 2,I 0,I 0,I 0,I 0,I 1,I 1,I 2,I 1,I (-3),I (-2),I 0,I 0,I 0,I 0,I 1,I 1,I (-2),I (-1),I 3,I 2,I 0,I 0,I 0,I 0,I 1,I 1,I 0,I 0,I 0,I 0,I 0,I 0,I 0,I 0,I 0,I 0,I 0,I 0,I 0,I 0,I 0,I 0,I 0,I 0,I 0,I 0,I 0,I 0,I 0,I 0,I 0,I 0,I 0,I 0,I 0,I 0,I 5]
def zDb:Array Value:=#[I 0,I 0,I 1,I 1,I 0,I 0,I 0,I 0,I 1,I 1,I 2,I 1,I (-3),I (-1),I 0,I 0,I 0,I 0,I 1,I 1,I (-2),I (-1),I 4,I 2,I 0,I 0,I 0,I 0,I 1,I 1,I 2,I 1,I (-3),I (-2),I 0,I 0,I 0,I 0,I 1,I 1,I (-2),I (-1),I 3,I 2,I 0,I 0,I 0,I 0,I 1,I 1,I 2,I 1,I (-2),I (-1),I 0,I 0,I 0,I 0,I 1,I 1,I 0,I 0,I 0,I 0,I 0,I 0,I 0,I 0,I 0,I 0,I 0,I 0,I 0,I 0,I 0,I 0,I 0,I 0,I 0,I 0,I 6]
def zGy:Array Value:=#[I 0,I 0,I 1,I 1,I 0,I 0,I 0,I 0,I 1,I 1,I 2,I 1,I (-3),I (-1),I 0,I 0,I 0,I 0,I 1,I 1,I (-2),I (-1),I 4,I 2,I 0,I 0,I 0,I 0,I 1,I 1,I 2,I 1,I (-3),I (-2),I 0,I 0,I 0,I 0,I 1,I 1,I (-2),I (-1),I 3,I 2,I 0,I 0,I 0,I 0,I 1,I 1,I 2,I 1,I (-2),I (-1),I 0,I 0,I 0,I 0,I 1,I 1,I 0,I 1,I (-2),I (-1),I 0,I 0,I 0,I 0,I 1,I 1,I 0,I 0,I 0,I 0,I 0,I 0,I 0,I 0,I 0,I 0,I 7]
def zBu:Array Value:=#[I 0,I 0,I 1,I 1,I 0,I 0,I 0,I 0,I 1,I 1,I 2,I 1,I (-3),I (-1),I 0,I 0,I 0,I 0,I 1,I 1,I (-2),I (-1),I 4,I 2,I 0,I 0,I 0,I 0,I 1,I 1,I 2,I 1,I (-3),I (-2),I 0,I 0,I 0,I 0,I 1,I 1,I (-2),I (-1),I 3,I 2,I 0,I 0,I 0,I 0,I 1,I 1,I 2,I 1,I (-2),I (-1),I 0,I 0,I 0,I 0,I 1,I 1,I 0,I 1,I (-2),I (-1),I 0,I 0,I 0,I 0,I 1,I 1,I 2,I 1,I (-2),I (-2),I 0,I 0,I 0,I 0,I 1,I 1,I 8]
def zCm:Array Value:=#[I 0,I 0,I (-1),I 0,I 0,I 0,I 0,I 0,I 1,I 1,I 0,I 0,I 0,I 0,I 0,I 0,I 0,I 0,I 0,I 0,I 0,I 0,I 0,I 0,I 0,I 0,I 0,I 0,I 0,I 0,I 0,I 0,I 0,I 0,I 0,I 0,I 0,I 0,I 0,I 0,I 0,I 0,I 0,I 0,I 0,I 0,I 0,I 0,I 0,I 0,I 0,I 0,I 0,I 0,I 0,I 0,I 0,I 0,I 0,I 0,I 0,I 0,I 0,I 0,I 0,I 0,I 0,I 0,I 0,I 0,I 0,I 0,I 0,I 0,I 0,I 0,I 0,I 0,I 0,I 0,I 1]
def g_rays1:Array Value:=#[I 0,I 0,I (-1),I 0,I 0,I 0,I 0,I 0,I 1,I 1,I 0,I 0,I 0,I 0,I 0,I 0,I 0,I 0,I 0,I 0,I 0,I 0,I 0,I 0,I 0,I 0,I 0,I 0,I 0,I 0,I 0,I 0,I 0,I 0,I 0,I 0,I 0,I 0,I 0,I 0,I 0,I 0,I 0,I 0,I 0,I 0,I 0,I 0,I 0,I 0,I 0,I 0,I 0,I 0,I 0,I 0,I 0,I 0,I 0,I 0,I 0,I 0,I 0,I 0,I 0,I 0,I 0,I 0,I 0,I 0,I 0,I 0,I 0,I 0,I 0,I 0,I 0,I 0,I 0,I 0,I 1]
def g_rays2:Array Value:=#[I 0,I 0,I (-1),I 0,I 0,I 0,I 0,I 0,I 1,I 1,I 2,I 0,I (-2),I 0,I 0,I 0,I 0,I 0,I 1,I 1,I 0,I 0,I 0,I 0,I 0,I 0,I 0,I 0,I 0,I 0,I 0,I 0,I 0,I 0,I 0,I 0,I 0,I 0,I 0,I 0,I 0,I 0,I 0,I 0,I 0,I 0,I 0,I 0,I 0,I 0,I 0,I 0,I 0,I 0,I 0,I 0,I 0,I 0,I 0,I 0,I 0,I 0,I 0,I 0,I 0,I 0,I 0,I 0,I 0,I 0,I 0,I 0,I 0,I 0,I 0,I 0,I 0,I 0,I 0,I 0,I 2]
def g_rays3:Array Value:=#[I 0,I 0,I (-1),I 0,I 0,I 0,I 0,I 0,I 1,I 1,I 2,I 0,I (-2),I 0,I 0,I 0,I 0,I 0,I 1,I 1,I 2,I 0,I (-2),I 0,I 0,I 0,I 0,I 0,I 1,I 1,I 0,I 0,I 0,I 0,I 0,I 0,I 0,I 0,I 0,I 0,I 0,I 0,I 0,I 0,I 0,I 0,I 0,I 0,I 0,I 0,I 0,I 0,I 0,I 0,I 0,I 0,I 0,I 0,I 0,I 0,I 0,I 0,I 0,I 0,I 0,I 0,I 0,I 0,I 0,I 0,I 0,I 0,I 0,I 0,I 0,I 0,I 0,I 0,I 0,I 0,I 3]
def zEt:Array Value:=#[I 0,I 0,I (-1),I 0,I 0,I 0,I 0,I 0,I 1,I 1,I 2,I 0,I (-2),I 0,I 0,I 0,I 0,I 0,I 1,I 1,I 2,I 0,I (-2),I 0,I 0,I 0,I 0,I 0,I 1,I 1,I 0,I 0,I (-1),I 0,I 0,I 1,I 0,I 0,I 1,I 1,I 0,I 0,I 0,I 0,I 0,I 0,I 0,I 0,I 0,I 0,I 0,I 0,I 0,I 0,I 0,I 0,I 0,I 0,I 0,I 0,I 0,I 0,I 0,I 0,I 0,I 0,I 0,I 0,I 0,I 0,I 0,I 0,I 0,I 0,I 0,I 0,I 0,I 0,I 0,I 0,I 4]
def g_plane1:Array Value:=#[I 0,I 0,I 0,I 0,I 0,I 0,I 0,I 0,I 1,I 1,I 0,I 0,I 0,I 0,I 0,I 0,I 0,I 0,I 0,I 0,I 0,I 0,I 0,I 0,I 0,I 0,I 0,I 0,I 0,I 0,I 0,I 0,I 0,I 0,I 0,I 0,I 0,I 0,I 0,I 0,I 0,I 0,I 0,I 0,I 0,I 0,I 0,I 0,I 0,I 0,I 0,I 0,I 0,I 0,I 0,I 0,I 0,I 0,I 0,I 0,I 0,I 0,I 0,I 0,I 0,I 0,I 0,I 0,I 0,I 0,I 0,I 0,I 0,I 0,I 0,I 0,I 0,I 0,I 0,I 0,I 1]
def zCp:Array Value:=#[I 0,I 0,I 0,I 0,I 0,I 0,I 0,I 0,I 1,I 1,I 0,I 0,I 0,I 0,I 0,I 0,I 0,I 0,I 1,I 1,I 0,I 0,I 0,I 0,I 0,I 0,I 0,I 0,I 0,I 0,I 0,I 0,I 0,I 0,I 0,I 0,I 0,I 0,I 0,I 0,I 0,I 0,I 0,I 0,I 0,I 0,I 0,I 0,I 0,I 0,I 0,I 0,I 0,I 0,I 0,I 0,I 0,I 0,I 0,I 0,I 0,I 0,I 0,I 0,I 0,I 0,I 0,I 0,I 0,I 0,I 0,I 0,I 0,I 0,I 0,I 0,I 0,I 0,I 0,I 0,I 2]
def zFh:Array Value:=#[I 0,I 0,I 0,I 0,I 0,I 0,I 1,I 0,I 1,I 1,I 0,I 0,I 0,I 0,I 0,I 0,I 0,I 0,I 0,I 0,I 0,I 0,I 0,I 0,I 0,I 0,I 0,I 0,I 0,I 0,I 0,I 0,I 0,I 0,I 0,I 0,I 0,I 0,I 0,I 0,I 0,I 0,I 0,I 0,I 0,I 0,I 0,I 0,I 0,I 0,I 0,I 0,I 0,I 0,I 0,I 0,I 0,I 0,I 0,I 0,I 0,I 0,I 0,I 0,I 0,I 0,I 0,I 0,I 0,I 0,I 0,I 0,I 0,I 0,I 0,I 0,I 0,I 0,I 0,I 0,I 1]
def zDu:Array Value:=#[I 0,I 0,I 0,I 0,I 0,I 0,I 1,I 0,I 1,I 1,I (-2),I 0,I 0,I 0,I 0,I 0,I 1,I 0,I 1,I 1,I 0,I 0,I 0,I 0,I 0,I 0,I 0,I 0,I 0,I 0,I 0,I 0,I 0,I 0,I 0,I 0,I 0,I 0,I 0,I 0,I 0,I 0,I 0,I 0,I 0,I 0,I 0,I 0,I 0,I 0,I 0,I 0,I 0,I 0,I 0,I 0,I 0,I 0,I 0,I 0,I 0,I 0,I 0,I 0,I 0,I 0,I 0,I 0,I 0,I 0,I 0,I 0,I 0,I 0,I 0,I 0,I 0,I 0,I 0,I 0,I 2]
def zGh:Array Value:=#[I 0,I 0,I 1,I 0,I 0,I 0,I 0,I 0,I 60,I 1,I 0,I 0,I 0,I 0,I 0,I 0,I 0,I 0,I 0,I 0,I 0,I 0,I 0,I 0,I 0,I 0,I 0,I 0,I 0,I 0,I 0,I 0,I 0,I 0,I 0,I 0,I 0,I 0,I 0,I 0,I 0,I 0,I 0,I 0,I 0,I 0,I 0,I 0,I 0,I 0,I 0,I 0,I 0,I 0,I 0,I 0,I 0,I 0,I 0,I 0,I 0,I 0,I 0,I 0,I 0,I 0,I 0,I 0,I 0,I 0,I 0,I 0,I 0,I 0,I 0,I 0,I 0,I 0,I 0,I 0,I 1]
def zFi:Array Value:=#[I 0,I 0,I 1,I 0,I 0,I 0,I 0,I 0,I 60,I 1,I 0,I 0,I 1,I 0,I 0,I 0,I 0,I 0,I 3600,I 1,I 0,I 0,I 0,I 0,I 0,I 0,I 0,I 0,I 0,I 0,I 0,I 0,I 0,I 0,I 0,I 0,I 0,I 0,I 0,I 0,I 0,I 0,I 0,I 0,I 0,I 0,I 0,I 0,I 0,I 0,I 0,I 0,I 0,I 0,I 0,I 0,I 0,I 0,I 0,I 0,I 0,I 0,I 0,I 0,I 0,I 0,I 0,I 0,I 0,I 0,I 0,I 0,I 0,I 0,I 0,I 0,I 0,I 0,I 0,I 0,I 2]
def g_along3:Array Value:=#[I 0,I 0,I 1,I 0,I 0,I 0,I 0,I 0,I 60,I 1,I 0,I 0,I 1,I 0,I 0,I 0,I 0,I 0,I 3600,I 1,I 0,I 0,I 1,I 0,I 0,I 0,I 0,I 0,I 86400,I 1,I 0,I 0,I 0,I 0,I 0,I 0,I 0,I 0,I 0,I 0,I 0,I 0,I 0,I 0,I 0,I 0,I 0,I 0,I 0,I 0,I 0,I 0,I 0,I 0,I 0,I 0,I 0,I 0,I 0,I 0,I 0,I 0,I 0,I 0,I 0,I 0,I 0,I 0,I 0,I 0,I 0,I 0,I 0,I 0,I 0,I 0,I 0,I 0,I 0,I 0,I 3]
def g_along4:Array Value:=#[I 0,I 0,I 1,I 0,I 0,I 0,I 0,I 0,I 60,I 1,I 0,I 0,I 1,I 0,I 0,I 0,I 0,I 0,I 3600,I 1,I 0,I 0,I 1,I 0,I 0,I 0,I 0,I 0,I 86400,I 1,I 3,I 0,I 0,I 0,I 0,I 0,I 0,I 0,I 1,I 1000,I 0,I 0,I 0,I 0,I 0,I 0,I 0,I 0,I 0,I 0,I 0,I 0,I 0,I 0,I 0,I 0,I 0,I 0,I 0,I 0,I 0,I 0,I 0,I 0,I 0,I 0,I 0,I 0,I 0,I 0,I 0,I 0,I 0,I 0,I 0,I 0,I 0,I 0,I 0,I 0,I 4]
def g_along5:Array Value:=#[I 0,I 0,I 1,I 0,I 0,I 0,I 0,I 0,I 60,I 1,I 0,I 0,I 1,I 0,I 0,I 0,I 0,I 0,I 3600,I 1,I 0,I 0,I 1,I 0,I 0,I 0,I 0,I 0,I 86400,I 1,I 3,I 0,I 0,I 0,I 0,I 0,I 0,I 0,I 1,I 1000,I 0,I 1,I 0,I 0,I 0,I 0,I 0,I 0,I 1000,I 1,I 0,I 0,I 0,I 0,I 0,I 0,I 0,I 0,I 0,I 0,I 0,I 0,I 0,I 0,I 0,I 0,I 0,I 0,I 0,I 0,I 0,I 0,I 0,I 0,I 0,I 0,I 0,I 0,I 0,I 0,I 5]
def g_along6:Array Value:=#[I 0,I 0,I 1,I 0,I 0,I 0,I 0,I 0,I 60,I 1,I 0,I 0,I 1,I 0,I 0,I 0,I 0,I 0,I 3600,I 1,I 0,I 0,I 1,I 0,I 0,I 0,I 0,I 0,I 86400,I 1,I 3,I 0,I 0,I 0,I 0,I 0,I 0,I 0,I 1,I 1000,I 0,I 1,I 0,I 0,I 0,I 0,I 0,I 0,I 1000,I 1,I (-1),I 1,I (-2),I 0,I 0,I 0,I 0,I 0,I 100000,I 1,I 0,I 0,I 0,I 0,I 0,I 0,I 0,I 0,I 0,I 0,I 0,I 0,I 0,I 0,I 0,I 0,I 0,I 0,I 0,I 0,I 6]
def g_along7:Array Value:=#[I 0,I 0,I 1,I 0,I 0,I 0,I 0,I 0,I 60,I 1,I 0,I 0,I 1,I 0,I 0,I 0,I 0,I 0,I 3600,I 1,I 0,I 0,I 1,I 0,I 0,I 0,I 0,I 0,I 86400,I 1,I 3,I 0,I 0,I 0,I 0,I 0,I 0,I 0,I 1,I 1000,I 0,I 1,I 0,I 0,I 0,I 0,I 0,I 0,I 1000,I 1,I (-1),I 1,I (-2),I 0,I 0,I 0,I 0,I 0,I 100000,I 1,I 2,I 0,I 0,I 0,I 0,I 0,I 0,I 0,I 10000,I 1,I 0,I 0,I 0,I 0,I 0,I 0,I 0,I 0,I 0,I 0,I 7]
def zDv:Array Value:=#[I 0,I 0,I 1,I 0,I 0,I 0,I 0,I 0,I 60,I 1,I 0,I 0,I 1,I 0,I 0,I 0,I 0,I 0,I 3600,I 1,I 0,I 0,I 1,I 0,I 0,I 0,I 0,I 0,I 86400,I 1,I 3,I 0,I 0,I 0,I 0,I 0,I 0,I 0,I 1,I 1000,I 0,I 1,I 0,I 0,I 0,I 0,I 0,I 0,I 1000,I 1,I (-1),I 1,I (-2),I 0,I 0,I 0,I 0,I 0,I 100000,I 1,I 2,I 0,I 0,I 0,I 0,I 0,I 0,I 0,I 10000,I 1,I 0,I 0,I 0,I 0,I 0,I 0,I 0,I 1,I 8,I 1,I 8]
def allG:Array Value:=#[I 1,I 1,I (-2),I 0,I 0,I 0,I 0,I 0,I 1,I 1,I (-1),I 1,I (-2),I 0,I 0,I 0,I 0,I 0,I 1,I 1,I 0,I 0,I 0,I 0,I 0,I 0,I 0,I 0,I 0,I 0,I 0,I 0,I 0,I 0,I 0,I 0,I 0,I 0,I 0,I 0,I 0,I 0,I 0,I 0,I 0,I 0,I 0,I 0,I 0,I 0,I 0,I 0,I 0,I 0,I 0,I 0,I 0,I 0,I 0,I 0,I 0,I 0,I 0,I 0,I 0,I 0,I 0,I 0,I 0,I 0,I 0,I 0,I 0,I 0,I 0,I 0,I 0,I 0,I 0,I 0,I 2,I 2,I 1,I (-2),I 0,I 0,I 0,I 0,I 0,I 1,I 1,I 0,I 0,I 0,I 0,I 0,I 0,I 0,I 0,I 0,I 0,I 0,I 0,I 0,I 0,I 0,I 0,I 0,I 0,I 0,I 0,I 0,I 0,I 0,I 0,I 0,I 0,I 0,I 0,I 0,I 0,I 0,I 0,I 0,I 0,I 0,I 0,I 0,I 0,I 0,I 0,I 0,I 0,I 0,I 0,I 0,I 0,I 0,I 0,I 0,I 0,I 0,I 0,I 0,I 0,I 0,I 0,I 0,I 0,I 0,I 0,I 0,I 0,I 0,I 0,I 0,I 0,I 0,I 0,I 0,I 0,I 1,I 2,I 1,I (-3),I 0,I 0,I 0,I 0,I 0,I 1,I 1,I 0,I 0,I 0,I 0,I 0,I 0,I 0,I 0,I 0,I 0,I 0,I 0,I 0,I 0,I 0,I 0,I 0,I 0,I 0,I 0,I 0,I 0,I 0,I 0,I 0,I 0,I 0,I 0,I 0,I 0,I 0,I 0,I 0,I 0,I 0,I 0,I 0,I 0,I 0,I 0,I 0,I 0,I 0,I 0,I 0,I 0,I 0,I 0,I 0,I 0,I 0,I 0,I 0,I 0,I 0,I 0,I 0,I 0,I 0,I 0,I 0,I 0,I 0,I 0,I 0,I 0,I 0,I 0,I 0,I 0,I 1,I 0,I 0,I 1,I 1,I 0,I 0,I 0,I 0,I 1,I 1,I 2,I 1,I (-3),I (-1),I 0,I 0,I 0,I 0,I 1,I 1,I (-2),I (-1),I 4,I 2,I 0,I 0,I 0,I 0,I 1,I 1,I 2,I 1,I (-3),I (-2),I 0,I 0,I 0,I 0,I 1,I 1,I (-2),I (-1),I 3,I 2,I 0,I 0,I 0,I 0,I 1,I 1,I 2,I 1,I (-2),I (-1),I 0,I 0,I 0,I 0,I 1,I 1,I 0,I 1,I (-2),I (-1),I 0,I 0,I 0,I 0,I 1,I 1,I 2,I 1,I (-2),I (-2),I 0,I 0,I 0,I 0,I 1,I 1,I 8,I 0,I 0,I (-1),I 0,I 0,I 0,I 0,I 0,I 1,I 1,I 0,I 0,I 0,I 0,I 0,I 0,I 0,I 0,I 0,I 0,I 0,I 0,I 0,I 0,I 0,I 0,I 0,I 0,I 0,I 0,I 0,I 0,I 0,I 0,I 0,I 0,I 0,I 0,I 0,I 0,I 0,I 0,I 0,I 0,I 0,I 0,I 0,I 0,I 0,I 0,I 0,I 0,I 0,I 0,I 0,I 0,I 0,I 0,I 0,I 0,I 0,I 0,I 0,I 0,I 0,I 0,I 0,I 0,I 0,I 0,I 0,I 0,I 0,I 0,I 0,I 0,I 0,I 0,I 0,I 0,I 1,I 0,I 0,I (-1),I 0,I 0,I 0,I 0,I 0,I 1,I 1,I 2,I 0,I (-2),I 0,I 0,I 0,I 0,I 0,I 1,I 1,I 2,I 0,I (-2),I 0,I 0,I 0,I 0,I 0,I 1,I 1,I 0,I 0,I (-1),I 0,I 0,I 1,I 0,I 0,I 1,I 1,I 0,I 0,I 0,I 0,I 0,I 0,I 0,I 0,I 0,I 0,I 0,I 0,I 0,I 0,I 0,I 0,I 0,I 0,I 0,I 0,I 0,I 0,I 0,I 0,I 0,I 0,I 0,I 0,I 0,I 0,I 0,I 0,I 0,I 0,I 0,I 0,I 0,I 0,I 0,I 0,I 4,I 0,I 0,I 0,I 0,I 0,I 0,I 0,I 0,I 1,I 1,I 0,I 0,I 0,I 0,I 0,I 0,I 0,I 0,I 1,I 1,I 0,I 0,I 0,I 0,I 0,I 0,I 0,I 0,I 0,I 0,I 0,I 0,I 0,I 0,I 0,I 0,I 0,I 0,I 0,I 0,I 0,I 0,I 0,I 0,I 0,I 0,I 0,I 0,I 0,I 0,I 0,I 0,I 0,I 0,I 0,I 0,I 0,I 0,I 0,I 0,I 0,I 0,I 0,I 0,I 0,I 0,I 0,I 0,I 0,I 0,I 0,I 0,I 0,I 0,I 0,I 0,I 0,I 0,I 0,I 0,I 2,I 0,I 0,I 0,I 0,I 0,I 0,I 1,I 0,I 1,I 1,I (-2),I 0,I 0,I 0,I 0,I 0,I 1,I 0,I 1,I 1,I 0,I 0,I 0,I 0,I 0,I 0,I 0,I 0,I 0,I 0,I 0,I 0,I 0,I 0,I 0,I 0,I 0,I 0,I 0,I 0,I 0,I 0,I 0,I 0,I 0,I 0,I 0,I 0,I 0,I 0,I 0,I 0,I 0,I 0,I 0,I 0,I 0,I 0,I 0,I 0,I 0,I 0,I 0,I 0,I 0,I 0,I 0,I 0,I 0,I 0,I 0,I 0,I 0,I 0,I 0,I 0,I 0,I 0,I 0,I 0,I 2,I 0,I 0,I 1,I 0,I 0,I 0,I 0,I 0,I 60,I 1,I 0,I 0,I 1,I 0,I 0,I 0,I 0,I 0,I 3600,I 1,I 0,I 0,I 1,I 0,I 0,I 0,I 0,I 0,I 86400,I 1,I 3,I 0,I 0,I 0,I 0,I 0,I 0,I 0,I 1,I 1000,I 0,I 1,I 0,I 0,I 0,I 0,I 0,I 0,I 1000,I 1,I (-1),I 1,I (-2),I 0,I 0,I 0,I 0,I 0,I 100000,I 1,I 2,I 0,I 0,I 0,I 0,I 0,I 0,I 0,I 10000,I 1,I 0,I 0,I 0,I 0,I 0,I 0,I 0,I 1,I 8,I 1,I 8]
def gAt:Nat→Array Value
 | 0=>zBv
 | 1=>zBm
 | 2=>zCn
 | 3=>zBu
 | 4=>zCm
 | 5=>zEt
 | 6=>zCp
 | 7=>zDu
 | _=>zDv
theorem info92:(Tryz.prog.info? 287).map (·.size)=some 729:=by kernel_rfl
theorem built92:Tryz.prog.built 287 [(0,.agg (gAt 0)),(1,.agg (gAt 1)),(2,.agg (gAt 2)),(3,.agg (gAt 3)),(4,.agg (gAt 4)),(5,.agg (gAt 5)),(6,.agg (gAt 6)),(7,.agg (gAt 7)),(8,.agg (gAt 8))]=some allG:=by kernel_rfl
theorem zsize92:Tryz.zeroCells287.size=729:=by kernel_rfl
theorem gsize92:allG.size=729:=by kernel_rfl
theorem gones92:allG.all (·.oneCell')=true:=by kernel_rfl
theorem allIx0 (w:World):(Instr.index 287 (.agg allG) (I 0)).run Tryz.prog w=.ok (.agg (gAt 0)) w:=by kernel_rfl
theorem allIx1 (w:World):(Instr.index 287 (.agg allG) (I 1)).run Tryz.prog w=.ok (.agg (gAt 1)) w:=by kernel_rfl
theorem allIx2 (w:World):(Instr.index 287 (.agg allG) (I 2)).run Tryz.prog w=.ok (.agg (gAt 2)) w:=by kernel_rfl
theorem allIx3 (w:World):(Instr.index 287 (.agg allG) (I 3)).run Tryz.prog w=.ok (.agg (gAt 3)) w:=by kernel_rfl
theorem allIx4 (w:World):(Instr.index 287 (.agg allG) (I 4)).run Tryz.prog w=.ok (.agg (gAt 4)) w:=by kernel_rfl
theorem allIx5 (w:World):(Instr.index 287 (.agg allG) (I 5)).run Tryz.prog w=.ok (.agg (gAt 5)) w:=by kernel_rfl
theorem allIx6 (w:World):(Instr.index 287 (.agg allG) (I 6)).run Tryz.prog w=.ok (.agg (gAt 6)) w:=by kernel_rfl
theorem allIx7 (w:World):(Instr.index 287 (.agg allG) (I 7)).run Tryz.prog w=.ok (.agg (gAt 7)) w:=by kernel_rfl
theorem allIx8 (w:World):(Instr.index 287 (.agg allG) (I 8)).run Tryz.prog w=.ok (.agg (gAt 8)) w:=by kernel_rfl
structure FS (w W:World) (g:Nat) (vs:Array Value) (bs:List (Nat×Array Value)):Prop where
 gr:zAc W g 286 vs
 on:Onto w W g
 bx:∀p,p∈bs→¬p.1=g∧zAc W p.1 180 p.2
theorem FS.later {w W V:World} {g:Nat} {vs:Array Value} {bs:List (Nat×Array Value)} (h:FS w W g vs bs) (hb:Below W.heap.size W V):FS w V g vs bs :=
 ⟨h.gr.later hb,h.on.trans (Onto.of_below hb),fun p hp=>⟨(h.bx p hp).1,(h.bx p hp).2.later hb⟩⟩
theorem FS.put {w W V:World} {g:Nat} {vs us:Array Value} {bs:List (Nat×Array Value)} (h:FS w W g vs bs) (hg:zAc V g 286 us) (ho:Onto W V g):FS w V g us bs :=
 ⟨hg,h.on.trans ho,fun p hp=>⟨(h.bx p hp).1,ho.own _ _ _ (h.bx p hp).1 (h.bx p hp).2⟩⟩
theorem FS.tail {w W:World} {g:Nat} {vs:Array Value} {q:Nat×Array Value} {bs:List (Nat×Array Value)} (h:FS w W g vs (q :: bs)):FS w W g vs bs :=
 ⟨h.gr,h.on,fun p hp=>h.bx p (List.mem_cons_of_mem _ hp)⟩
theorem FS.alloc {w W:World} {g:Nat} {vs:Array Value} {bs:List (Nat×Array Value)} (h:FS w W g vs bs) (us:Array Value):FS w (W.alloc (.cells us 180)) g vs ((W.heap.size,us) :: bs):=by
 have h1:=h.later (zBx W (.cells us 180));refine⟨h1.gr,h1.on,fun p hp=>?_⟩;rcases List.mem_cons.1 hp with rfl|hp
 ·exact⟨Nat.ne_of_gt h.gr.lt,zAc.new _ _ _⟩
 ·exact h1.bx p hp
theorem FS.row {w W:World} {g b:Nat} {vs us:Array Value} {bs:List (Nat×Array Value)} (h:FS w W g vs ((b,us) :: bs)) (hlt:w.heap.size≤b) (hne:∀p,p∈bs→¬b=p.1) (u:Array Value):FS w (W.setRow b u) g vs ((b,u) :: bs):=by
 have hb:=h.bx (b,us) (by simp);refine⟨h.gr.otherRow hb.1,⟨fun q ty xs hq ho=>(h.on.own q ty xs hq ho).otherRow (by have:=ho.lt;omega),fun B w0 h1 h2 hB=>below_setRow (h.on.bel B w0 h1 h2 hB) (Nat.le_trans h2 hlt) _,Nat.le_trans h.on.size (below_setRow (Below.refl 0 W) (Nat.zero_le b) u).size⟩,fun p hp=>?_⟩;rcases List.mem_cons.1 hp with rfl|hp
 ·exact⟨hb.1,hb.2.setRow _⟩
 ·exact⟨(h.bx p (List.mem_cons_of_mem _ hp)).1,(h.bx p (List.mem_cons_of_mem _ hp)).2.otherRow (hne p hp)⟩
theorem fill_force (g:Nat) (w:World) (hg:zAc w g 286 zAw) :
  Calls Tryz.prog 313 #[.func (.func 367) #[] #[.pointer (some ⟨g,0,none⟩)]] w fun e w'=>e=.returned (.tuple #[])∧zAc w' g 286 zBv∧Onto w w' g:=by
 have HF0:Hid (FS w w g zAw []):=⟨hg,Onto.of_below (Below.refl _ _),fun p hp=>(by exact absurd hp (by simp))⟩;clear hg;go_enter Tryz.func313,Tryz.ntmps313
 go_upto_region 1 with (first
  | (refine zAn 180 10 zAu rfl (.tmp 2) (.tmp 11) rfl W8.heap.size z10 (J 1 1 (-2) 0 0 0 0 0 1 1) rfl rfl rfl rfl (zAc.new _ _ _) (by kernel_rfl) ?_)
  | (go_at_call 367;go_must(refine(zDy 1 1 (-2) 0 0 0 0 0 1 1 g zAw g_force1 _ (un HF7).gr rfl rfl (by kernel_rfl)).mono ?_;rintro e W8 ⟨rfl,hg1,ho1⟩;have HF8:=zAb ((un HF7).put hg1 ho1);clear hg1 ho1))
  | (go_at_call 316;have hchk:=HF6;clear hchk;refine(zDz 1 1 (-1) 0 0 0 0 0 1 1 0 0 1 0 0 0 0 0 1 1 1 1 (-2) 0 0 0 0 0 1 1 _ (by decide +kernel)).mono ?_;rintro e W7 ⟨rfl,hb⟩;have HF7:=zAb ((un HF6).later hb);clear hb)
  | (go_at_call 314;have hchk:=HF5;clear hchk;refine(siOne2 _).mono ?_;rintro e W6 ⟨rfl,hb⟩;have HF6:=zAb ((un HF5).later hb);clear hb)
  | (go_at_call 316;have hchk:=HF4;clear hchk;refine(zDz 1 1 0 0 0 0 0 0 1 1 0 0 1 0 0 0 0 0 1 1 1 1 (-1) 0 0 0 0 0 1 1 _ (by decide +kernel)).mono ?_;rintro e W5 ⟨rfl,hb⟩;have HF5:=zAb ((un HF4).later hb);clear hb)
  | (go_at_call 314;have hchk:=HF3;clear hchk;refine(siOne2 _).mono ?_;rintro e W4 ⟨rfl,hb⟩;have HF4:=zAb ((un HF3).later hb);clear hb)
  | (go_at_call 315;have hchk:=HF2;clear hchk;refine(zBe 0 1 0 0 0 0 0 0 1 1 1 0 0 0 0 0 0 0 1 1 1 1 0 0 0 0 0 0 1 1 _ (by decide +kernel)).mono ?_;rintro e W3 ⟨rfl,hb⟩;have HF3:=zAb ((un HF2).later hb);clear hb)
  | (go_at_call 314;have hchk:=HF1;clear hchk;refine(zEu _).mono ?_;rintro e W2 ⟨rfl,hb⟩;have HF2:=zAb ((un HF1).later hb);clear hb)
  | (go_at_call 314;have hchk:=HF0;clear hchk;refine(siOne1 _).mono ?_;rintro e W1 ⟨rfl,hb⟩;have HF1:=zAb ((un HF0).later hb);clear hb))
 have HF9:=zAb (((un HF8).alloc z10).row (un HF8).on.size (fun p hp=>Nat.ne_of_gt ((un HF8).bx p hp).2.lt) (J 1 1 (-2) 0 0 0 0 0 1 1));generalize (W8.alloc (.cells z10 180)).setRow W8.heap.size (J 1 1 (-2) 0 0 0 0 0 1 1)=W9 at *
 generalize W8.heap.size=k2 at *
 go_upto_region 1 with fail
 have HSS:Hid (∀(W':World) (vs:Array Value),FS w W' g vs [(k2,J 1 1 (-2) 0 0 0 0 0 1 1)]→C10 W' k2 (I 1) (I 1) (I (-2)) (I 0) (I 0) (I 0) (I 0) (I 0) (I 1) (I 1)):=fun W' vs h=>(h.bx (k2,J 1 1 (-2) 0 0 0 0 0 1 1) (by simp)).2.c10
 have HF10:Hid (FS w (W9.drew) g g_force1 [(k2,J 1 1 (-2) 0 0 0 0 0 1 1)]):=(un HF9).later (Below.refl _ _).drew;have HS10:=zAb (un HSS _ _ (un HF10));refine zAi 6 (fun _=>True) (fun W'=>W'.cell? ⟨k2,0,none⟩=some (I 1)∧W'.cell? ⟨k2,1,none⟩=some (I 1)∧W'.cell? ⟨k2,2,none⟩=some (I (-2))∧W'.cell? ⟨k2,3,none⟩=some (I 0)∧W'.cell? ⟨k2,4,none⟩=some (I 0)∧W'.cell? ⟨k2,5,none⟩=some (I 0)∧W'.cell? ⟨k2,6,none⟩=some (I 0)∧W'.cell? ⟨k2,7,none⟩=some (I 0)∧W'.cell? ⟨k2,8,none⟩=some (I 1)∧W'.cell? ⟨k2,9,none⟩=some (I 1)) 7 rfl (by kernel_rfl) ?_;refine wT7 0 (.func (.func 367) #[] #[.pointer (some ⟨g,0,none⟩)]) rfl (Or.inl ⟨by rfl,?_⟩) ⟨trivial,un HS10⟩ ?_
 ·intro W hW
  go_split_ands
  go_simp
 refine wT7 1 (.agg (J 1 1 (-2) 0 0 0 0 0 1 1)) rfl (Or.inl ⟨by rfl,?_⟩) ⟨trivial,un HS10⟩ ?_
 ·intro W hW
  go_split_ands
  go_simp
 refine wO 2 rfl rfl (fun K hK=>?_)
 go_simp
 refine(zEu _).mono ?_;rintro e W11 ⟨rfl,hb⟩;have HF11:=zAb ((un HF10).later hb);clear hb;refine hK _ _ ⟨trivial,un HSS _ _ (un HF11)⟩ ?_;clear hK K;refine wO 3 rfl rfl (fun K hK=>?_)
 go_simp
 refine(zDz 1 1 (-2) 0 0 0 0 0 1 1 1 0 0 0 0 0 0 0 1 1 0 1 (-2) 0 0 0 0 0 1 1 _ (by decide +kernel)).mono ?_;rintro e W12 ⟨rfl,hb⟩;have HF12:=zAb ((un HF11).later hb);clear hb;refine hK _ _ ⟨trivial,un HSS _ _ (un HF12)⟩ ?_;clear hK K;refine wO 4 rfl rfl (fun K hK=>?_)
 go_simp
 refine(zEu _).mono ?_;rintro e W13 ⟨rfl,hb⟩;have HF13:=zAb ((un HF12).later hb);clear hb;refine hK _ _ ⟨trivial,un HSS _ _ (un HF13)⟩ ?_;clear hK K;refine wO 5 rfl rfl (fun K hK=>?_)
 go_simp
 refine(zDz 0 1 (-2) 0 0 0 0 0 1 1 1 0 0 0 0 0 0 0 1 1 (-1) 1 (-2) 0 0 0 0 0 1 1 _ (by decide +kernel)).mono ?_;rintro e W14 ⟨rfl,hb⟩;have HF14:=zAb ((un HF13).later hb);clear hb;refine hK _ _ ⟨trivial,un HSS _ _ (un HF14)⟩ ?_;clear hK K;refine wL 6 rfl rfl (fun K hK=>?_)
 go_simp
 refine(zDa (-1) 1 (-2) 0 0 0 0 0 1 1 g g_force1 zBv _ (un HF14).gr rfl rfl (by kernel_rfl)).mono ?_;rintro e W15 ⟨rfl,hg1,ho1⟩;have HF15:=zAb ((un HF14).put hg1 ho1);clear hg1 ho1;refine hK _ _ (un HSS _ _ (un HF15)) ?_;clear hK K;refine wDn ?_;clear HSS HS10
 go_wp2_with fail
 go_end0
 exact⟨rfl,(un HF15).gr,(un HF15).on⟩
theorem fill_energy (g:Nat) (b1:Nat) (w:World) (hg:zAc w g 286 zAw) (h1:zAc w b1 180 (J 1 1 (-2) 0 0 0 0 0 1 1)) (n1:¬b1=g) :
  Calls Tryz.prog 317 #[.func (.func 367) #[] #[.pointer (some ⟨g,0,none⟩)],.pointer (some ⟨b1,0,none⟩)] w fun e w'=>e=.returned (.tuple #[])∧zAc w' g 286 zBm∧Onto w w' g:=by
 have HF0:Hid (FS w w g zAw [(b1,J 1 1 (-2) 0 0 0 0 0 1 1)]):=⟨hg,Onto.of_below (Below.refl _ _),fun p hp=>(by simp only[List.mem_cons,List.not_mem_nil,or_false]at hp;subst hp;exact⟨n1,h1⟩)⟩;clear hg h1 n1;go_enter Tryz.func317,Tryz.ntmps317
 go_upto_region 0 with fail
 have HSS:Hid (∀(W':World) (vs:Array Value),FS w W' g vs [(b1,J 1 1 (-2) 0 0 0 0 0 1 1)]→C10 W' b1 (I 1) (I 1) (I (-2)) (I 0) (I 0) (I 0) (I 0) (I 0) (I 1) (I 1)):=fun W' vs h=>(h.bx (b1,J 1 1 (-2) 0 0 0 0 0 1 1) (by simp)).2.c10
 have HF1:Hid (FS w (w.drew) g zAw [(b1,J 1 1 (-2) 0 0 0 0 0 1 1)]):=(un HF0).later (Below.refl _ _).drew;have HS1:=zAb (un HSS _ _ (un HF1));refine zAi 4 (fun _=>True) (fun W'=>W'.cell? ⟨b1,0,none⟩=some (I 1)∧W'.cell? ⟨b1,1,none⟩=some (I 1)∧W'.cell? ⟨b1,2,none⟩=some (I (-2))∧W'.cell? ⟨b1,3,none⟩=some (I 0)∧W'.cell? ⟨b1,4,none⟩=some (I 0)∧W'.cell? ⟨b1,5,none⟩=some (I 0)∧W'.cell? ⟨b1,6,none⟩=some (I 0)∧W'.cell? ⟨b1,7,none⟩=some (I 0)∧W'.cell? ⟨b1,8,none⟩=some (I 1)∧W'.cell? ⟨b1,9,none⟩=some (I 1)) 5 rfl (by kernel_rfl) ?_;refine wT7 0 (.func (.func 367) #[] #[.pointer (some ⟨g,0,none⟩)]) rfl (Or.inl ⟨by rfl,?_⟩) ⟨trivial,un HS1⟩ ?_
 ·intro W hW
  go_split_ands
  go_simp
 refine wT7 1 (.agg (J 1 1 (-2) 0 0 0 0 0 1 1)) rfl (Or.inl ⟨by rfl,?_⟩) ⟨trivial,un HS1⟩ ?_
 ·intro W hW
  go_split_ands
  go_simp
 refine wO 2 rfl rfl (fun K hK=>?_)
 go_simp
 refine(zEu _).mono ?_;rintro e W2 ⟨rfl,hb⟩;have HF2:=zAb ((un HF1).later hb);clear hb;refine hK _ _ ⟨trivial,un HSS _ _ (un HF2)⟩ ?_;clear hK K;refine wO 3 rfl rfl (fun K hK=>?_)
 go_simp
 refine(zBe 1 1 (-2) 0 0 0 0 0 1 1 1 0 0 0 0 0 0 0 1 1 2 1 (-2) 0 0 0 0 0 1 1 _ (by decide +kernel)).mono ?_;rintro e W3 ⟨rfl,hb⟩;have HF3:=zAb ((un HF2).later hb);clear hb;refine hK _ _ ⟨trivial,un HSS _ _ (un HF3)⟩ ?_;clear hK K;refine wL 4 rfl rfl (fun K hK=>?_)
 go_simp
 refine(zDy 2 1 (-2) 0 0 0 0 0 1 1 g zAw zBm _ (un HF3).gr rfl rfl (by kernel_rfl)).mono ?_;rintro e W4 ⟨rfl,hg1,ho1⟩;have HF4:=zAb ((un HF3).put hg1 ho1);clear hg1 ho1;refine hK _ _ (un HSS _ _ (un HF4)) ?_;clear hK K;refine wDn ?_;clear HSS HS1
 go_wp2_with fail
 go_end0
 exact⟨rfl,(un HF4).gr,(un HF4).on⟩
theorem fill_times (g:Nat) (w:World) (hg:zAc w g 286 zAw) :
  Calls Tryz.prog 321 #[.func (.func 367) #[] #[.pointer (some ⟨g,0,none⟩)]] w fun e w'=>e=.returned (.tuple #[])∧zAc w' g 286 zCm∧Onto w w' g:=by
 have HF0:Hid (FS w w g zAw []):=⟨hg,Onto.of_below (Below.refl _ _),fun p hp=>(by exact absurd hp (by simp))⟩;clear hg;go_enter Tryz.func321,Tryz.ntmps321
 go_wp2_with (first
  | (go_at_call 367;go_must(refine(zDy 0 0 (-1) 0 0 0 0 0 1 1 g zAw zCm _ (un HF3).gr rfl rfl (by kernel_rfl)).mono ?_;rintro e W4 ⟨rfl,hg1,ho1⟩;have HF4:=zAb ((un HF3).put hg1 ho1);clear hg1 ho1))
  | (go_at_call 316;have hchk:=HF2;clear hchk;refine(zDz 0 0 0 0 0 0 0 0 1 1 0 0 1 0 0 0 0 0 1 1 0 0 (-1) 0 0 0 0 0 1 1 _ (by decide +kernel)).mono ?_;rintro e W3 ⟨rfl,hb⟩;have HF3:=zAb ((un HF2).later hb);clear hb)
  | (go_at_call 314;have hchk:=HF1;clear hchk;refine(siOne2 _).mono ?_;rintro e W2 ⟨rfl,hb⟩;have HF2:=zAb ((un HF1).later hb);clear hb)
  | (go_at_call 320;have hchk:=HF0;clear hchk;refine(zBp 1 _).mono ?_;rintro e W1 ⟨rfl,hb⟩;have HF1:=zAb ((un HF0).later hb);clear hb))
 skip
 go_end0
 exact⟨rfl,(un HF4).gr,(un HF4).on⟩
theorem fill_power (g:Nat) (b1:Nat) (w:World) (hg:zAc w g 286 zAw) (h1:zAc w b1 180 (J 2 1 (-2) 0 0 0 0 0 1 1)) (n1:¬b1=g) :
  Calls Tryz.prog 318 #[.func (.func 367) #[] #[.pointer (some ⟨g,0,none⟩)],.pointer (some ⟨b1,0,none⟩)] w fun e w'=>e=.returned (.tuple #[])∧zAc w' g 286 zCn∧Onto w w' g:=by
 have HF0:Hid (FS w w g zAw [(b1,J 2 1 (-2) 0 0 0 0 0 1 1)]):=⟨hg,Onto.of_below (Below.refl _ _),fun p hp=>(by simp only[List.mem_cons,List.not_mem_nil,or_false]at hp;subst hp;exact⟨n1,h1⟩)⟩;clear hg h1 n1;go_enter Tryz.func318,Tryz.ntmps318
 go_upto_region 0 with fail
 have HSS:Hid (∀(W':World) (vs:Array Value),FS w W' g vs [(b1,J 2 1 (-2) 0 0 0 0 0 1 1)]→C10 W' b1 (I 2) (I 1) (I (-2)) (I 0) (I 0) (I 0) (I 0) (I 0) (I 1) (I 1)):=fun W' vs h=>(h.bx (b1,J 2 1 (-2) 0 0 0 0 0 1 1) (by simp)).2.c10
 have HF1:Hid (FS w (w.drew) g zAw [(b1,J 2 1 (-2) 0 0 0 0 0 1 1)]):=(un HF0).later (Below.refl _ _).drew;have HS1:=zAb (un HSS _ _ (un HF1));refine zAi 4 (fun _=>True) (fun W'=>W'.cell? ⟨b1,0,none⟩=some (I 2)∧W'.cell? ⟨b1,1,none⟩=some (I 1)∧W'.cell? ⟨b1,2,none⟩=some (I (-2))∧W'.cell? ⟨b1,3,none⟩=some (I 0)∧W'.cell? ⟨b1,4,none⟩=some (I 0)∧W'.cell? ⟨b1,5,none⟩=some (I 0)∧W'.cell? ⟨b1,6,none⟩=some (I 0)∧W'.cell? ⟨b1,7,none⟩=some (I 0)∧W'.cell? ⟨b1,8,none⟩=some (I 1)∧W'.cell? ⟨b1,9,none⟩=some (I 1)) 5 rfl (by kernel_rfl) ?_;refine wT7 0 (.func (.func 367) #[] #[.pointer (some ⟨g,0,none⟩)]) rfl (Or.inl ⟨by rfl,?_⟩) ⟨trivial,un HS1⟩ ?_
 ·intro W hW
  go_split_ands
  go_simp
 refine wT7 1 (.agg (J 2 1 (-2) 0 0 0 0 0 1 1)) rfl (Or.inl ⟨by rfl,?_⟩) ⟨trivial,un HS1⟩ ?_
 ·intro W hW
  go_split_ands
  go_simp
 refine wO 2 rfl rfl (fun K hK=>?_)
 go_simp
 refine(siOne2 _).mono ?_;rintro e W2 ⟨rfl,hb⟩;have HF2:=zAb ((un HF1).later hb);clear hb;refine hK _ _ ⟨trivial,un HSS _ _ (un HF2)⟩ ?_;clear hK K;refine wO 3 rfl rfl (fun K hK=>?_)
 go_simp
 refine(zDz 2 1 (-2) 0 0 0 0 0 1 1 0 0 1 0 0 0 0 0 1 1 2 1 (-3) 0 0 0 0 0 1 1 _ (by decide +kernel)).mono ?_;rintro e W3 ⟨rfl,hb⟩;have HF3:=zAb ((un HF2).later hb);clear hb;refine hK _ _ ⟨trivial,un HSS _ _ (un HF3)⟩ ?_;clear hK K;refine wL 4 rfl rfl (fun K hK=>?_)
 go_simp
 refine(zDy 2 1 (-3) 0 0 0 0 0 1 1 g zAw zCn _ (un HF3).gr rfl rfl (by kernel_rfl)).mono ?_;rintro e W4 ⟨rfl,hg1,ho1⟩;have HF4:=zAb ((un HF3).put hg1 ho1);clear hg1 ho1;refine hK _ _ (un HSS _ _ (un HF4)) ?_;clear hK K;refine wDn ?_;clear HSS HS1
 go_wp2_with fail
 go_end0
 exact⟨rfl,(un HF4).gr,(un HF4).on⟩
theorem fill_plane (g:Nat) (w:World) (hg:zAc w g 286 zAw) :
  Calls Tryz.prog 323 #[.func (.func 367) #[] #[.pointer (some ⟨g,0,none⟩)]] w fun e w'=>e=.returned (.tuple #[])∧zAc w' g 286 zCp∧Onto w w' g:=by
 have HF0:Hid (FS w w g zAw []):=⟨hg,Onto.of_below (Below.refl _ _),fun p hp=>(by exact absurd hp (by simp))⟩;clear hg;go_enter Tryz.func323,Tryz.ntmps323
 go_upto_region 1 with (first
  | (refine zAn 180 10 zAu rfl (.tmp 2) (.tmp 7) rfl W4.heap.size z10 (J 0 0 0 0 0 0 0 0 1 1) rfl rfl rfl rfl (zAc.new _ _ _) (by kernel_rfl) ?_)
  | (go_at_call 367;go_must(refine(zDy 0 0 0 0 0 0 0 0 1 1 g zAw g_plane1 _ (un HF3).gr rfl rfl (by kernel_rfl)).mono ?_;rintro e W4 ⟨rfl,hg1,ho1⟩;have HF4:=zAb ((un HF3).put hg1 ho1);clear hg1 ho1))
  | (go_at_call 316;have hchk:=HF2;clear hchk;refine(zDz 1 0 0 0 0 0 0 0 1 1 1 0 0 0 0 0 0 0 1 1 0 0 0 0 0 0 0 0 1 1 _ (by decide +kernel)).mono ?_;rintro e W3 ⟨rfl,hb⟩;have HF3:=zAb ((un HF2).later hb);clear hb)
  | (go_at_call 314;have hchk:=HF1;clear hchk;refine(zEu _).mono ?_;rintro e W2 ⟨rfl,hb⟩;have HF2:=zAb ((un HF1).later hb);clear hb)
  | (go_at_call 314;have hchk:=HF0;clear hchk;refine(zEu _).mono ?_;rintro e W1 ⟨rfl,hb⟩;have HF1:=zAb ((un HF0).later hb);clear hb))
 have HF5:=zAb (((un HF4).alloc z10).row (un HF4).on.size (fun p hp=>Nat.ne_of_gt ((un HF4).bx p hp).2.lt) (J 0 0 0 0 0 0 0 0 1 1));generalize (W4.alloc (.cells z10 180)).setRow W4.heap.size (J 0 0 0 0 0 0 0 0 1 1)=W5 at *
 generalize W4.heap.size=k2 at *
 have x0_0:W5.cell? ⟨k2,0,none⟩=some (I 0):=((un HF5).bx (k2,J 0 0 0 0 0 0 0 0 1 1) (by simp)).2.ub.c 0 _ rfl;have x0_1:W5.cell? ⟨k2,1,none⟩=some (I 0):=((un HF5).bx (k2,J 0 0 0 0 0 0 0 0 1 1) (by simp)).2.ub.c 1 _ rfl;have x0_2:W5.cell? ⟨k2,2,none⟩=some (I 0):=((un HF5).bx (k2,J 0 0 0 0 0 0 0 0 1 1) (by simp)).2.ub.c 2 _ rfl;have x0_3:W5.cell? ⟨k2,3,none⟩=some (I 0):=((un HF5).bx (k2,J 0 0 0 0 0 0 0 0 1 1) (by simp)).2.ub.c 3 _ rfl;have x0_4:W5.cell? ⟨k2,4,none⟩=some (I 0):=((un HF5).bx (k2,J 0 0 0 0 0 0 0 0 1 1) (by simp)).2.ub.c 4 _ rfl;have x0_5:W5.cell? ⟨k2,5,none⟩=some (I 0):=((un HF5).bx (k2,J 0 0 0 0 0 0 0 0 1 1) (by simp)).2.ub.c 5 _ rfl;have x0_6:W5.cell? ⟨k2,6,none⟩=some (I 0):=((un HF5).bx (k2,J 0 0 0 0 0 0 0 0 1 1) (by simp)).2.ub.c 6 _ rfl;have x0_7:W5.cell? ⟨k2,7,none⟩=some (I 0):=((un HF5).bx (k2,J 0 0 0 0 0 0 0 0 1 1) (by simp)).2.ub.c 7 _ rfl;have x0_8:W5.cell? ⟨k2,8,none⟩=some (I 1):=((un HF5).bx (k2,J 0 0 0 0 0 0 0 0 1 1) (by simp)).2.ub.c 8 _ rfl;have x0_9:W5.cell? ⟨k2,9,none⟩=some (I 1):=((un HF5).bx (k2,J 0 0 0 0 0 0 0 0 1 1) (by simp)).2.ub.c 9 _ rfl
 go_wp2_with (first
  | (go_at_call 367;go_must(refine(zDa 0 0 0 0 0 0 0 0 1 1 g g_plane1 zCp _ (un HF6).gr rfl rfl (by kernel_rfl)).mono ?_;rintro e W7 ⟨rfl,hg1,ho1⟩;have HF7:=zAb ((un HF6).put hg1 ho1);clear hg1 ho1))
  | (go_at_call 315;have hchk:=HF5;clear hchk;refine(zBe 0 0 0 0 0 0 0 0 1 1 0 0 0 0 0 0 0 0 1 1 0 0 0 0 0 0 0 0 1 1 _ (by decide +kernel)).mono ?_;rintro e W6 ⟨rfl,hb⟩;have HF6:=zAb ((un HF5).later hb);clear hb x0_0 x0_1 x0_2 x0_3 x0_4 x0_5 x0_6 x0_7 x0_8 x0_9))
 skip
 go_end0
 exact⟨rfl,(un HF7).gr,(un HF7).on⟩
theorem fill_light (g:Nat) (b1:Nat) (w:World) (hg:zAc w g 286 zAw) (h1:zAc w b1 180 (J 0 0 0 0 0 0 0 0 1 1)) (n1:¬b1=g) :
 Calls Tryz.prog 324 #[.func (.func 367) #[] #[.pointer (some ⟨g,0,none⟩)],.pointer (some ⟨b1,0,none⟩)] w fun e w'=>e=.returned (.tuple #[])∧zAc w' g 286 zDu∧Onto w w' g:=by
 have HF0:Hid (FS w w g zAw [(b1,J 0 0 0 0 0 0 0 0 1 1)]):=⟨hg,Onto.of_below (Below.refl _ _),fun p hp=>(by simp only[List.mem_cons,List.not_mem_nil,or_false]at hp;subst hp;exact⟨n1,h1⟩)⟩;clear hg h1 n1;go_enter Tryz.func324,Tryz.ntmps324
 go_upto_region 0 with fail
 go_cut [3]from 4 (fun s9 wx=>∃k,s9=.pointer (some ⟨k,0,none⟩)∧Hid (FS w wx g zFh ((k,J 0 0 0 0 0 0 1 0 1 1) :: [(b1,J 0 0 0 0 0 0 0 0 1 1)])))
 case first=>
  have HSS:Hid (∀(W':World) (vs:Array Value),FS w W' g vs [(b1,J 0 0 0 0 0 0 0 0 1 1)]→C10 W' b1 (I 0) (I 0) (I 0) (I 0) (I 0) (I 0) (I 0) (I 0) (I 1) (I 1)):=fun W' vs h=>(h.bx (b1,J 0 0 0 0 0 0 0 0 1 1) (by simp)).2.c10
  have HF1:Hid (FS w (w.drew) g zAw [(b1,J 0 0 0 0 0 0 0 0 1 1)]):=(un HF0).later (Below.refl _ _).drew;have HS1:=zAb (un HSS _ _ (un HF1));refine zAi 6 (fun _=>True) (fun W'=>W'.cell? ⟨b1,0,none⟩=some (I 0)∧W'.cell? ⟨b1,1,none⟩=some (I 0)∧W'.cell? ⟨b1,2,none⟩=some (I 0)∧W'.cell? ⟨b1,3,none⟩=some (I 0)∧W'.cell? ⟨b1,4,none⟩=some (I 0)∧W'.cell? ⟨b1,5,none⟩=some (I 0)∧W'.cell? ⟨b1,6,none⟩=some (I 0)∧W'.cell? ⟨b1,7,none⟩=some (I 0)∧W'.cell? ⟨b1,8,none⟩=some (I 1)∧W'.cell? ⟨b1,9,none⟩=some (I 1)) 7 rfl (by kernel_rfl) ?_;refine wT7 0 (.func (.func 367) #[] #[.pointer (some ⟨g,0,none⟩)]) rfl (Or.inl ⟨by rfl,?_⟩) ⟨trivial,un HS1⟩ ?_
  ·intro W hW
   go_split_ands
   go_simp
  refine wT7 2 (.agg (J 0 0 0 0 0 0 0 0 1 1)) rfl (Or.inl ⟨by rfl,?_⟩) ⟨trivial,un HS1⟩ ?_
  ·intro W hW
   go_split_ands
   go_simp
  clear HS1;generalize w.drew=W1 at *
  refine zBn (i:=1) (j:=5) (by kernel_rfl) rfl rfl rfl rfl (fun K hK=>?_) (fun K hK=>?_)
  ·skip
   go_simp
   refine(siOne6 _).mono ?_;rintro e W2 ⟨rfl,hb⟩;have HF2:=zAb ((un HF1).later hb);clear hb;refine hK _ _ ⟨trivial,un HSS _ _ (un HF2)⟩ ?_;clear hK K;refine zBn (i:=3) (j:=5) (by kernel_rfl) rfl rfl rfl rfl (fun K hK=>?_) (fun K hK=>?_)
   ·skip
    go_simp
    refine(zBe 0 0 0 0 0 0 1 0 1 1 0 0 0 0 0 0 0 0 1 1 0 0 0 0 0 0 1 0 1 1 _ (by decide +kernel)).mono ?_;rintro e W3 ⟨rfl,hb⟩;have HF3:=zAb ((un HF2).later hb);clear hb;refine hK _ _ ⟨trivial,un HSS _ _ (un HF3)⟩ ?_;clear hK K;refine zBn (i:=4) (j:=5) (by kernel_rfl) rfl rfl rfl rfl (fun K hK=>?_) (fun K hK=>?_)
    ·skip
     go_simp
     refine(zDy 0 0 0 0 0 0 1 0 1 1 g zAw zFh _ (un HF3).gr rfl rfl (by kernel_rfl)).mono ?_;rintro e W4 ⟨rfl,hg1,ho1⟩;have HF4:=zAb ((un HF3).put hg1 ho1);clear hg1 ho1;refine hK _ _ ⟨trivial,un HSS _ _ (un HF4)⟩ ?_;clear hK K;refine wO 5 rfl rfl (fun K hK=>?_)
     go_simp
     have HL:Hid (w.heap.size≤W4.heap.size∧∀p:Nat×Array Value,p∈([(b1,J 0 0 0 0 0 0 0 0 1 1)]:List (Nat×Array Value))→¬W4.heap.size=p.1):=⟨(un HF4).on.size,fun p hp=>Nat.ne_of_gt ((un HF4).bx p hp).2.lt⟩;have HF5:=zAb ((un HF4).alloc z10);refine hK _ _ ⟨trivial,un HSS _ _ (un HF5).tail⟩ ?_;clear hK K;generalize hW5:W4.alloc (.cells z10 180)=W5 at *
     clear hW5;generalize W4.heap.size=k at *
     have HFE:=zAb ((un HF5).row (un HL).1 (un HL).2 (J 0 0 0 0 0 0 1 0 1 1));refine wL 6 rfl rfl (fun K hK=>?_);refine wp_store_row 180 (.tmp 3) (.tmp 8) rfl k (J 0 0 0 0 0 0 1 0 1 1) rfl rfl 180 _ ((un HF5).bx (k,z10) (by simp)).2 (by rw[zAu];rfl) rfl (by kernel_rfl) (hK _ _ (un HSS _ _ (un HFE).tail) ?_);clear hK K;refine wDn ?_;generalize W5.setRow k (J 0 0 0 0 0 0 1 0 1 1)=U at HFE ⊢
     go_wp2_with fail
     go_meet
     exact⟨k,rfl,HFE⟩
    ·skip
     go_simp
     have HL:Hid (w.heap.size≤W3.heap.size∧∀p:Nat×Array Value,p∈([(b1,J 0 0 0 0 0 0 0 0 1 1)]:List (Nat×Array Value))→¬W3.heap.size=p.1):=⟨(un HF3).on.size,fun p hp=>Nat.ne_of_gt ((un HF3).bx p hp).2.lt⟩;have HF4:=zAb ((un HF3).alloc z10);refine hK _ _ ⟨trivial,un HSS _ _ (un HF4).tail⟩ ?_;clear hK K;generalize hW4:W3.alloc (.cells z10 180)=W4 at *
     clear hW4;generalize W3.heap.size=k at *
     refine wO 4 rfl rfl (fun K hK=>?_)
     go_simp
     refine(zDy 0 0 0 0 0 0 1 0 1 1 g zAw zFh _ (un HF4).gr rfl rfl (by kernel_rfl)).mono ?_;rintro e W5 ⟨rfl,hg1,ho1⟩;have HF5:=zAb ((un HF4).put hg1 ho1);clear hg1 ho1;refine hK _ _ ⟨trivial,un HSS _ _ ((un HF5).tail)⟩ ?_;clear hK K;have HFE:=zAb ((un HF5).row (un HL).1 (un HL).2 (J 0 0 0 0 0 0 1 0 1 1));refine wL 6 rfl rfl (fun K hK=>?_);refine wp_store_row 180 (.tmp 3) (.tmp 8) rfl k (J 0 0 0 0 0 0 1 0 1 1) rfl rfl 180 _ ((un HF5).bx (k,z10) (by simp)).2 (by rw[zAu];rfl) rfl (by kernel_rfl) (hK _ _ (un HSS _ _ (un HFE).tail) ?_);clear hK K;refine wDn ?_;generalize W5.setRow k (J 0 0 0 0 0 0 1 0 1 1)=U at HFE ⊢
     go_wp2_with fail
     go_meet
     exact⟨k,rfl,HFE⟩
   ·skip
    go_simp
    have HL:Hid (w.heap.size≤W2.heap.size∧∀p:Nat×Array Value,p∈([(b1,J 0 0 0 0 0 0 0 0 1 1)]:List (Nat×Array Value))→¬W2.heap.size=p.1):=⟨(un HF2).on.size,fun p hp=>Nat.ne_of_gt ((un HF2).bx p hp).2.lt⟩;have HF3:=zAb ((un HF2).alloc z10);refine hK _ _ ⟨trivial,un HSS _ _ (un HF3).tail⟩ ?_;clear hK K;generalize hW3:W2.alloc (.cells z10 180)=W3 at *
    clear hW3;generalize W2.heap.size=k at *
    refine wO 3 rfl rfl (fun K hK=>?_)
    go_simp
    refine(zBe 0 0 0 0 0 0 1 0 1 1 0 0 0 0 0 0 0 0 1 1 0 0 0 0 0 0 1 0 1 1 _ (by decide +kernel)).mono ?_;rintro e W4 ⟨rfl,hb⟩;have HF4:=zAb ((un HF3).later hb);clear hb;refine hK _ _ ⟨trivial,un HSS _ _ ((un HF4).tail)⟩ ?_;clear hK K;refine wO 4 rfl rfl (fun K hK=>?_)
    go_simp
    refine(zDy 0 0 0 0 0 0 1 0 1 1 g zAw zFh _ (un HF4).gr rfl rfl (by kernel_rfl)).mono ?_;rintro e W5 ⟨rfl,hg1,ho1⟩;have HF5:=zAb ((un HF4).put hg1 ho1);clear hg1 ho1;refine hK _ _ ⟨trivial,un HSS _ _ ((un HF5).tail)⟩ ?_;clear hK K;have HFE:=zAb ((un HF5).row (un HL).1 (un HL).2 (J 0 0 0 0 0 0 1 0 1 1));refine wL 6 rfl rfl (fun K hK=>?_);refine wp_store_row 180 (.tmp 3) (.tmp 8) rfl k (J 0 0 0 0 0 0 1 0 1 1) rfl rfl 180 _ ((un HF5).bx (k,z10) (by simp)).2 (by rw[zAu];rfl) rfl (by kernel_rfl) (hK _ _ (un HSS _ _ (un HFE).tail) ?_);clear hK K;refine wDn ?_;generalize W5.setRow k (J 0 0 0 0 0 0 1 0 1 1)=U at HFE ⊢
    go_wp2_with fail
    go_meet
    exact⟨k,rfl,HFE⟩
  ·skip
   go_simp
   have HL:Hid (w.heap.size≤W1.heap.size∧∀p:Nat×Array Value,p∈([(b1,J 0 0 0 0 0 0 0 0 1 1)]:List (Nat×Array Value))→¬W1.heap.size=p.1):=⟨(un HF1).on.size,fun p hp=>Nat.ne_of_gt ((un HF1).bx p hp).2.lt⟩;have HF2:=zAb ((un HF1).alloc z10);refine hK _ _ ⟨trivial,un HSS _ _ (un HF2).tail⟩ ?_;clear hK K;generalize hW2:W1.alloc (.cells z10 180)=W2 at *
   clear hW2;generalize W1.heap.size=k at *
   refine wO 1 rfl rfl (fun K hK=>?_)
   go_simp
   refine(siOne6 _).mono ?_;rintro e W3 ⟨rfl,hb⟩;have HF3:=zAb ((un HF2).later hb);clear hb;refine hK _ _ ⟨trivial,un HSS _ _ ((un HF3).tail)⟩ ?_;clear hK K;refine wO 3 rfl rfl (fun K hK=>?_)
   go_simp
   refine(zBe 0 0 0 0 0 0 1 0 1 1 0 0 0 0 0 0 0 0 1 1 0 0 0 0 0 0 1 0 1 1 _ (by decide +kernel)).mono ?_;rintro e W4 ⟨rfl,hb⟩;have HF4:=zAb ((un HF3).later hb);clear hb;refine hK _ _ ⟨trivial,un HSS _ _ ((un HF4).tail)⟩ ?_;clear hK K;refine wO 4 rfl rfl (fun K hK=>?_)
   go_simp
   refine(zDy 0 0 0 0 0 0 1 0 1 1 g zAw zFh _ (un HF4).gr rfl rfl (by kernel_rfl)).mono ?_;rintro e W5 ⟨rfl,hg1,ho1⟩;have HF5:=zAb ((un HF4).put hg1 ho1);clear hg1 ho1;refine hK _ _ ⟨trivial,un HSS _ _ ((un HF5).tail)⟩ ?_;clear hK K;have HFE:=zAb ((un HF5).row (un HL).1 (un HL).2 (J 0 0 0 0 0 0 1 0 1 1));refine wL 6 rfl rfl (fun K hK=>?_);refine wp_store_row 180 (.tmp 3) (.tmp 8) rfl k (J 0 0 0 0 0 0 1 0 1 1) rfl rfl 180 _ ((un HF5).bx (k,z10) (by simp)).2 (by rw[zAu];rfl) rfl (by kernel_rfl) (hK _ _ (un HSS _ _ (un HFE).tail) ?_);clear hK K;refine wDn ?_;generalize W5.setRow k (J 0 0 0 0 0 0 1 0 1 1)=U at HFE ⊢
   go_wp2_with fail
   go_meet
   exact⟨k,rfl,HFE⟩
 case rest=>
  obtain⟨k3,rfl,HF20⟩:=hcut;generalize wc=W20 at HF20 ⊢
  go_upto_region 1 with fail
  have HSS:Hid (∀(W':World) (vs:Array Value),FS w W' g vs [(k3,J 0 0 0 0 0 0 1 0 1 1),(b1,J 0 0 0 0 0 0 0 0 1 1)]→C10 W' k3 (I 0) (I 0) (I 0) (I 0) (I 0) (I 0) (I 1) (I 0) (I 1) (I 1)):=fun W' vs h=>(h.bx (k3,J 0 0 0 0 0 0 1 0 1 1) (by simp)).2.c10
  have HF21:Hid (FS w (W20.drew) g zFh [(k3,J 0 0 0 0 0 0 1 0 1 1),(b1,J 0 0 0 0 0 0 0 0 1 1)]):=(un HF20).later (Below.refl _ _).drew;have HS21:=zAb (un HSS _ _ (un HF21));refine zAi 6 (fun _=>True) (fun W'=>W'.cell? ⟨k3,0,none⟩=some (I 0)∧W'.cell? ⟨k3,1,none⟩=some (I 0)∧W'.cell? ⟨k3,2,none⟩=some (I 0)∧W'.cell? ⟨k3,3,none⟩=some (I 0)∧W'.cell? ⟨k3,4,none⟩=some (I 0)∧W'.cell? ⟨k3,5,none⟩=some (I 0)∧W'.cell? ⟨k3,6,none⟩=some (I 1)∧W'.cell? ⟨k3,7,none⟩=some (I 0)∧W'.cell? ⟨k3,8,none⟩=some (I 1)∧W'.cell? ⟨k3,9,none⟩=some (I 1)) 7 rfl (by kernel_rfl) ?_;refine wT7 0 (.func (.func 367) #[] #[.pointer (some ⟨g,0,none⟩)]) rfl (Or.inl ⟨by rfl,?_⟩) ⟨trivial,un HS21⟩ ?_
  ·intro W hW
   go_split_ands
   go_simp
  refine wT7 1 (.agg (J 0 0 0 0 0 0 1 0 1 1)) rfl (Or.inl ⟨by rfl,?_⟩) ⟨trivial,un HS21⟩ ?_
  ·intro W hW
   go_split_ands
   go_simp
  refine wO 2 rfl rfl (fun K hK=>?_)
  go_simp
  refine(zEu _).mono ?_;rintro e W22 ⟨rfl,hb⟩;have HF22:=zAb ((un HF21).later hb);clear hb;refine hK _ _ ⟨trivial,un HSS _ _ (un HF22)⟩ ?_;clear hK K;refine wO 3 rfl rfl (fun K hK=>?_)
  go_simp
  refine(zDz 0 0 0 0 0 0 1 0 1 1 1 0 0 0 0 0 0 0 1 1 (-1) 0 0 0 0 0 1 0 1 1 _ (by decide +kernel)).mono ?_;rintro e W23 ⟨rfl,hb⟩;have HF23:=zAb ((un HF22).later hb);clear hb;refine hK _ _ ⟨trivial,un HSS _ _ (un HF23)⟩ ?_;clear hK K;refine wO 4 rfl rfl (fun K hK=>?_)
  go_simp
  refine(zEu _).mono ?_;rintro e W24 ⟨rfl,hb⟩;have HF24:=zAb ((un HF23).later hb);clear hb;refine hK _ _ ⟨trivial,un HSS _ _ (un HF24)⟩ ?_;clear hK K;refine wO 5 rfl rfl (fun K hK=>?_)
  go_simp
  refine(zDz (-1) 0 0 0 0 0 1 0 1 1 1 0 0 0 0 0 0 0 1 1 (-2) 0 0 0 0 0 1 0 1 1 _ (by decide +kernel)).mono ?_;rintro e W25 ⟨rfl,hb⟩;have HF25:=zAb ((un HF24).later hb);clear hb;refine hK _ _ ⟨trivial,un HSS _ _ (un HF25)⟩ ?_;clear hK K;refine wL 6 rfl rfl (fun K hK=>?_)
  go_simp
  refine(zDa (-2) 0 0 0 0 0 1 0 1 1 g zFh zDu _ (un HF25).gr rfl rfl (by kernel_rfl)).mono ?_;rintro e W26 ⟨rfl,hg1,ho1⟩;have HF26:=zAb ((un HF25).put hg1 ho1);clear hg1 ho1;refine hK _ _ (un HSS _ _ (un HF26)) ?_;clear hK K;refine wDn ?_;clear HSS HS21
  go_wp2_with fail
  go_end0
  exact⟨rfl,(un HF26).gr,(un HF26).on⟩
end Go.Proofs.YtliadckofhblnaaGreatDoor

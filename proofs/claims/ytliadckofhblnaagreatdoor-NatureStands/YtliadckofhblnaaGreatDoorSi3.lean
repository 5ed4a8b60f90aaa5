/- put (165): one more unit in a group. -/
import Derived.Test.YtliadckofhblnaaGreatDoorLimb3
import Derived.Test.YtliadckofhblnaaGreatDoorSi1
import Derived.Test.YtliadckofhblnaaGreatDoorReads2
set_option maxHeartbeats 4000000
set_option maxRecDepth 100000
namespace Go.Proofs.YtliadckofhblnaaGreatDoor
open Go.RowKit
theorem zEu (w:World):Calls Tryz.prog 314 #[I 0] w fun r w'=>r=.returned (.agg (J 1 0 0 0 0 0 0 0 1 1))∧Bw w w':=by
 obtain⟨V,hV⟩:∃V,V=w.alloc (.cells z10 180):=⟨_,rfl⟩;have HR:Hid (zAc V w.heap.size 180 z10):=by rw[hV];exact zAc.new _ _ _
 have HW:Hid (Bw w V):=by rw[hV];exact bA
 have HV:=zAb hV;clear hV;go_enter Tryz.func314,Tryz.ntmps314
 go_upto_region 1 with fail
 rw[←un HV];clear HV
 go_upto_region 2 with (first
  | (go_at_call 320;go_must(refine(zBp _ _).mono ?_;rintro e w1 ⟨rfl,hb⟩;have HB:=zAb hb;clear hb;have HX:Hid (zAc (w1.alloc (.cells z10 180)) w1.heap.size 180 z10):=zAc.new _ _ _))
  | (refine zAn 180 10 zAu rfl (.tmp 3) (.tmp 4) rfl w1.heap.size z10 (J 0 0 0 0 0 0 0 0 1 1) rfl rfl rfl rfl (un HX) (by kernel_rfl) ?_))
 have HX1:=zAb ((un HX).setRow (J 0 0 0 0 0 0 0 0 1 1));have HB1:Hid (Bw V ((w1.alloc (.cells z10 180)).setRow w1.heap.size (J 0 0 0 0 0 0 0 0 1 1))):=below_setRow ((un HB).alloc (un HB).size _) (un HB).size _;have HGL:Hid (w.heap.size<w1.heap.size):=Nat.lt_of_lt_of_le (un HR).lt (un HB).size;clear HX HB;generalize (w1.alloc (.cells z10 180)).setRow w1.heap.size (J 0 0 0 0 0 0 0 0 1 1)=U1 at *
 generalize w1.heap.size=g3 at *
 have c0:U1.cell? ⟨g3,0,none⟩=some (I 0):=(un HX1).ub.c 0 _ rfl;have f0:U1.frozen? ⟨g3,0,none⟩=false:=(un HX1).ub.f 0 (I 0) rfl
 go_upto_region 3 with fail
 have HX2:Hid (zAc (U1.setCell ⟨g3,0,none⟩ (I 1)) g3 180 (J 1 0 0 0 0 0 0 0 1 1)):=(un HX1).set 0 (I 1);have HR2:Hid (zAc (U1.setCell ⟨g3,0,none⟩ (I 1)) w.heap.size 180 z10):=((un HR).later (un HB1)).otherSet (by have:=un HGL;omega) _ _;have HW2:Hid (Bw w (U1.setCell ⟨g3,0,none⟩ (I 1))):=((un HW).trans ((un HB1).mono (un HW).size)).setCell (p:=⟨g3,0,none⟩) (Nat.le_of_lt (un HGL)) _;clear c0 f0 HX1 HB1 HR HW HGL;generalize U1.setCell ⟨g3,0,none⟩ (I 1)=U at *
 have u0:U.cell? ⟨g3,0,none⟩=some (I 1):=(un HX2).ub.c 0 _ rfl;have u1:U.cell? ⟨g3,1,none⟩=some (I 0):=(un HX2).ub.c 1 _ rfl;have u2:U.cell? ⟨g3,2,none⟩=some (I 0):=(un HX2).ub.c 2 _ rfl;have u3:U.cell? ⟨g3,3,none⟩=some (I 0):=(un HX2).ub.c 3 _ rfl;have u4:U.cell? ⟨g3,4,none⟩=some (I 0):=(un HX2).ub.c 4 _ rfl;have u5:U.cell? ⟨g3,5,none⟩=some (I 0):=(un HX2).ub.c 5 _ rfl;have u6:U.cell? ⟨g3,6,none⟩=some (I 0):=(un HX2).ub.c 6 _ rfl;have u7:U.cell? ⟨g3,7,none⟩=some (I 0):=(un HX2).ub.c 7 _ rfl;have u8:U.cell? ⟨g3,8,none⟩=some (I 1):=(un HX2).ub.c 8 _ rfl;have u9:U.cell? ⟨g3,9,none⟩=some (I 1):=(un HX2).ub.c 9 _ rfl
 go_wp2_with (refine zAn 180 10 zAu rfl (.tmp 2) (.tmp 8) rfl w.heap.size z10 (J 1 0 0 0 0 0 0 0 1 1) rfl rfl rfl rfl (un HR2) (by kernel_rfl) ?_)
 refine bodyPost_ret (v:=.agg (J 1 0 0 0 0 0 0 0 1 1)) (res55 Tryz.results314 _ _ w.heap.size _ rfl rfl ((un HR2).setRow _)) rfl ⟨rfl,below_setRow (un HW2) (Nat.le_refl _) _⟩
theorem siOne1 (w:World):Calls Tryz.prog 314 #[I 1] w fun r w'=>r=.returned (.agg (J 0 1 0 0 0 0 0 0 1 1))∧Bw w w':=by
 obtain⟨V,hV⟩:∃V,V=w.alloc (.cells z10 180):=⟨_,rfl⟩;have HR:Hid (zAc V w.heap.size 180 z10):=by rw[hV];exact zAc.new _ _ _
 have HW:Hid (Bw w V):=by rw[hV];exact bA
 have HV:=zAb hV;clear hV;go_enter Tryz.func314,Tryz.ntmps314
 go_upto_region 1 with fail
 rw[←un HV];clear HV
 go_upto_region 2 with (first
  | (go_at_call 320;go_must(refine(zBp _ _).mono ?_;rintro e w1 ⟨rfl,hb⟩;have HB:=zAb hb;clear hb;have HX:Hid (zAc (w1.alloc (.cells z10 180)) w1.heap.size 180 z10):=zAc.new _ _ _))
  | (refine zAn 180 10 zAu rfl (.tmp 3) (.tmp 4) rfl w1.heap.size z10 (J 0 0 0 0 0 0 0 0 1 1) rfl rfl rfl rfl (un HX) (by kernel_rfl) ?_))
 have HX1:=zAb ((un HX).setRow (J 0 0 0 0 0 0 0 0 1 1));have HB1:Hid (Bw V ((w1.alloc (.cells z10 180)).setRow w1.heap.size (J 0 0 0 0 0 0 0 0 1 1))):=below_setRow ((un HB).alloc (un HB).size _) (un HB).size _;have HGL:Hid (w.heap.size<w1.heap.size):=Nat.lt_of_lt_of_le (un HR).lt (un HB).size;clear HX HB;generalize (w1.alloc (.cells z10 180)).setRow w1.heap.size (J 0 0 0 0 0 0 0 0 1 1)=U1 at *
 generalize w1.heap.size=g3 at *
 have c1:U1.cell? ⟨g3,1,none⟩=some (I 0):=(un HX1).ub.c 1 _ rfl;have f1:U1.frozen? ⟨g3,1,none⟩=false:=(un HX1).ub.f 1 (I 0) rfl
 go_upto_region 3 with fail
 have HX2:Hid (zAc (U1.setCell ⟨g3,1,none⟩ (I 1)) g3 180 (J 0 1 0 0 0 0 0 0 1 1)):=(un HX1).set 1 (I 1);have HR2:Hid (zAc (U1.setCell ⟨g3,1,none⟩ (I 1)) w.heap.size 180 z10):=((un HR).later (un HB1)).otherSet (by have:=un HGL;omega) _ _;have HW2:Hid (Bw w (U1.setCell ⟨g3,1,none⟩ (I 1))):=((un HW).trans ((un HB1).mono (un HW).size)).setCell (p:=⟨g3,1,none⟩) (Nat.le_of_lt (un HGL)) _;clear c1 f1 HX1 HB1 HR HW HGL;generalize U1.setCell ⟨g3,1,none⟩ (I 1)=U at *
 have u0:U.cell? ⟨g3,0,none⟩=some (I 0):=(un HX2).ub.c 0 _ rfl;have u1:U.cell? ⟨g3,1,none⟩=some (I 1):=(un HX2).ub.c 1 _ rfl;have u2:U.cell? ⟨g3,2,none⟩=some (I 0):=(un HX2).ub.c 2 _ rfl;have u3:U.cell? ⟨g3,3,none⟩=some (I 0):=(un HX2).ub.c 3 _ rfl;have u4:U.cell? ⟨g3,4,none⟩=some (I 0):=(un HX2).ub.c 4 _ rfl;have u5:U.cell? ⟨g3,5,none⟩=some (I 0):=(un HX2).ub.c 5 _ rfl;have u6:U.cell? ⟨g3,6,none⟩=some (I 0):=(un HX2).ub.c 6 _ rfl;have u7:U.cell? ⟨g3,7,none⟩=some (I 0):=(un HX2).ub.c 7 _ rfl;have u8:U.cell? ⟨g3,8,none⟩=some (I 1):=(un HX2).ub.c 8 _ rfl;have u9:U.cell? ⟨g3,9,none⟩=some (I 1):=(un HX2).ub.c 9 _ rfl
 go_wp2_with (refine zAn 180 10 zAu rfl (.tmp 2) (.tmp 8) rfl w.heap.size z10 (J 0 1 0 0 0 0 0 0 1 1) rfl rfl rfl rfl (un HR2) (by kernel_rfl) ?_)
 refine bodyPost_ret (v:=.agg (J 0 1 0 0 0 0 0 0 1 1)) (res55 Tryz.results314 _ _ w.heap.size _ rfl rfl ((un HR2).setRow _)) rfl ⟨rfl,below_setRow (un HW2) (Nat.le_refl _) _⟩
theorem siOne2 (w:World):Calls Tryz.prog 314 #[I 2] w fun r w'=>r=.returned (.agg (J 0 0 1 0 0 0 0 0 1 1))∧Bw w w':=by
 obtain⟨V,hV⟩:∃V,V=w.alloc (.cells z10 180):=⟨_,rfl⟩;have HR:Hid (zAc V w.heap.size 180 z10):=by rw[hV];exact zAc.new _ _ _
 have HW:Hid (Bw w V):=by rw[hV];exact bA
 have HV:=zAb hV;clear hV;go_enter Tryz.func314,Tryz.ntmps314
 go_upto_region 1 with fail
 rw[←un HV];clear HV
 go_upto_region 2 with (first
  | (go_at_call 320;go_must(refine(zBp _ _).mono ?_;rintro e w1 ⟨rfl,hb⟩;have HB:=zAb hb;clear hb;have HX:Hid (zAc (w1.alloc (.cells z10 180)) w1.heap.size 180 z10):=zAc.new _ _ _))
  | (refine zAn 180 10 zAu rfl (.tmp 3) (.tmp 4) rfl w1.heap.size z10 (J 0 0 0 0 0 0 0 0 1 1) rfl rfl rfl rfl (un HX) (by kernel_rfl) ?_))
 have HX1:=zAb ((un HX).setRow (J 0 0 0 0 0 0 0 0 1 1));have HB1:Hid (Bw V ((w1.alloc (.cells z10 180)).setRow w1.heap.size (J 0 0 0 0 0 0 0 0 1 1))):=below_setRow ((un HB).alloc (un HB).size _) (un HB).size _;have HGL:Hid (w.heap.size<w1.heap.size):=Nat.lt_of_lt_of_le (un HR).lt (un HB).size;clear HX HB;generalize (w1.alloc (.cells z10 180)).setRow w1.heap.size (J 0 0 0 0 0 0 0 0 1 1)=U1 at *
 generalize w1.heap.size=g3 at *
 have c2:U1.cell? ⟨g3,2,none⟩=some (I 0):=(un HX1).ub.c 2 _ rfl;have f2:U1.frozen? ⟨g3,2,none⟩=false:=(un HX1).ub.f 2 (I 0) rfl
 go_upto_region 3 with fail
 have HX2:Hid (zAc (U1.setCell ⟨g3,2,none⟩ (I 1)) g3 180 (J 0 0 1 0 0 0 0 0 1 1)):=(un HX1).set 2 (I 1);have HR2:Hid (zAc (U1.setCell ⟨g3,2,none⟩ (I 1)) w.heap.size 180 z10):=((un HR).later (un HB1)).otherSet (by have:=un HGL;omega) _ _;have HW2:Hid (Bw w (U1.setCell ⟨g3,2,none⟩ (I 1))):=((un HW).trans ((un HB1).mono (un HW).size)).setCell (p:=⟨g3,2,none⟩) (Nat.le_of_lt (un HGL)) _;clear c2 f2 HX1 HB1 HR HW HGL;generalize U1.setCell ⟨g3,2,none⟩ (I 1)=U at *
 have u0:U.cell? ⟨g3,0,none⟩=some (I 0):=(un HX2).ub.c 0 _ rfl;have u1:U.cell? ⟨g3,1,none⟩=some (I 0):=(un HX2).ub.c 1 _ rfl;have u2:U.cell? ⟨g3,2,none⟩=some (I 1):=(un HX2).ub.c 2 _ rfl;have u3:U.cell? ⟨g3,3,none⟩=some (I 0):=(un HX2).ub.c 3 _ rfl;have u4:U.cell? ⟨g3,4,none⟩=some (I 0):=(un HX2).ub.c 4 _ rfl;have u5:U.cell? ⟨g3,5,none⟩=some (I 0):=(un HX2).ub.c 5 _ rfl;have u6:U.cell? ⟨g3,6,none⟩=some (I 0):=(un HX2).ub.c 6 _ rfl;have u7:U.cell? ⟨g3,7,none⟩=some (I 0):=(un HX2).ub.c 7 _ rfl;have u8:U.cell? ⟨g3,8,none⟩=some (I 1):=(un HX2).ub.c 8 _ rfl;have u9:U.cell? ⟨g3,9,none⟩=some (I 1):=(un HX2).ub.c 9 _ rfl
 go_wp2_with (refine zAn 180 10 zAu rfl (.tmp 2) (.tmp 8) rfl w.heap.size z10 (J 0 0 1 0 0 0 0 0 1 1) rfl rfl rfl rfl (un HR2) (by kernel_rfl) ?_)
 refine bodyPost_ret (v:=.agg (J 0 0 1 0 0 0 0 0 1 1)) (res55 Tryz.results314 _ _ w.heap.size _ rfl rfl ((un HR2).setRow _)) rfl ⟨rfl,below_setRow (un HW2) (Nat.le_refl _) _⟩
theorem siOne3 (w:World):Calls Tryz.prog 314 #[I 3] w fun r w'=>r=.returned (.agg (J 0 0 0 1 0 0 0 0 1 1))∧Bw w w':=by
 obtain⟨V,hV⟩:∃V,V=w.alloc (.cells z10 180):=⟨_,rfl⟩;have HR:Hid (zAc V w.heap.size 180 z10):=by rw[hV];exact zAc.new _ _ _
 have HW:Hid (Bw w V):=by rw[hV];exact bA
 have HV:=zAb hV;clear hV;go_enter Tryz.func314,Tryz.ntmps314
 go_upto_region 1 with fail
 rw[←un HV];clear HV
 go_upto_region 2 with (first
  | (go_at_call 320;go_must(refine(zBp _ _).mono ?_;rintro e w1 ⟨rfl,hb⟩;have HB:=zAb hb;clear hb;have HX:Hid (zAc (w1.alloc (.cells z10 180)) w1.heap.size 180 z10):=zAc.new _ _ _))
  | (refine zAn 180 10 zAu rfl (.tmp 3) (.tmp 4) rfl w1.heap.size z10 (J 0 0 0 0 0 0 0 0 1 1) rfl rfl rfl rfl (un HX) (by kernel_rfl) ?_))
 have HX1:=zAb ((un HX).setRow (J 0 0 0 0 0 0 0 0 1 1));have HB1:Hid (Bw V ((w1.alloc (.cells z10 180)).setRow w1.heap.size (J 0 0 0 0 0 0 0 0 1 1))):=below_setRow ((un HB).alloc (un HB).size _) (un HB).size _;have HGL:Hid (w.heap.size<w1.heap.size):=Nat.lt_of_lt_of_le (un HR).lt (un HB).size;clear HX HB;generalize (w1.alloc (.cells z10 180)).setRow w1.heap.size (J 0 0 0 0 0 0 0 0 1 1)=U1 at *
 generalize w1.heap.size=g3 at *
 have c3:U1.cell? ⟨g3,3,none⟩=some (I 0):=(un HX1).ub.c 3 _ rfl;have f3:U1.frozen? ⟨g3,3,none⟩=false:=(un HX1).ub.f 3 (I 0) rfl
 go_upto_region 3 with fail
 have HX2:Hid (zAc (U1.setCell ⟨g3,3,none⟩ (I 1)) g3 180 (J 0 0 0 1 0 0 0 0 1 1)):=(un HX1).set 3 (I 1);have HR2:Hid (zAc (U1.setCell ⟨g3,3,none⟩ (I 1)) w.heap.size 180 z10):=((un HR).later (un HB1)).otherSet (by have:=un HGL;omega) _ _;have HW2:Hid (Bw w (U1.setCell ⟨g3,3,none⟩ (I 1))):=((un HW).trans ((un HB1).mono (un HW).size)).setCell (p:=⟨g3,3,none⟩) (Nat.le_of_lt (un HGL)) _;clear c3 f3 HX1 HB1 HR HW HGL;generalize U1.setCell ⟨g3,3,none⟩ (I 1)=U at *
 have u0:U.cell? ⟨g3,0,none⟩=some (I 0):=(un HX2).ub.c 0 _ rfl;have u1:U.cell? ⟨g3,1,none⟩=some (I 0):=(un HX2).ub.c 1 _ rfl;have u2:U.cell? ⟨g3,2,none⟩=some (I 0):=(un HX2).ub.c 2 _ rfl;have u3:U.cell? ⟨g3,3,none⟩=some (I 1):=(un HX2).ub.c 3 _ rfl;have u4:U.cell? ⟨g3,4,none⟩=some (I 0):=(un HX2).ub.c 4 _ rfl;have u5:U.cell? ⟨g3,5,none⟩=some (I 0):=(un HX2).ub.c 5 _ rfl;have u6:U.cell? ⟨g3,6,none⟩=some (I 0):=(un HX2).ub.c 6 _ rfl;have u7:U.cell? ⟨g3,7,none⟩=some (I 0):=(un HX2).ub.c 7 _ rfl;have u8:U.cell? ⟨g3,8,none⟩=some (I 1):=(un HX2).ub.c 8 _ rfl;have u9:U.cell? ⟨g3,9,none⟩=some (I 1):=(un HX2).ub.c 9 _ rfl
 go_wp2_with (refine zAn 180 10 zAu rfl (.tmp 2) (.tmp 8) rfl w.heap.size z10 (J 0 0 0 1 0 0 0 0 1 1) rfl rfl rfl rfl (un HR2) (by kernel_rfl) ?_)
 refine bodyPost_ret (v:=.agg (J 0 0 0 1 0 0 0 0 1 1)) (res55 Tryz.results314 _ _ w.heap.size _ rfl rfl ((un HR2).setRow _)) rfl ⟨rfl,below_setRow (un HW2) (Nat.le_refl _) _⟩
theorem siOne5 (w:World):Calls Tryz.prog 314 #[I 5] w fun r w'=>r=.returned (.agg (J 0 0 0 0 0 1 0 0 1 1))∧Bw w w':=by
 obtain⟨V,hV⟩:∃V,V=w.alloc (.cells z10 180):=⟨_,rfl⟩;have HR:Hid (zAc V w.heap.size 180 z10):=by rw[hV];exact zAc.new _ _ _
 have HW:Hid (Bw w V):=by rw[hV];exact bA
 have HV:=zAb hV;clear hV;go_enter Tryz.func314,Tryz.ntmps314
 go_upto_region 1 with fail
 rw[←un HV];clear HV
 go_upto_region 2 with (first
  | (go_at_call 320;go_must(refine(zBp _ _).mono ?_;rintro e w1 ⟨rfl,hb⟩;have HB:=zAb hb;clear hb;have HX:Hid (zAc (w1.alloc (.cells z10 180)) w1.heap.size 180 z10):=zAc.new _ _ _))
  | (refine zAn 180 10 zAu rfl (.tmp 3) (.tmp 4) rfl w1.heap.size z10 (J 0 0 0 0 0 0 0 0 1 1) rfl rfl rfl rfl (un HX) (by kernel_rfl) ?_))
 have HX1:=zAb ((un HX).setRow (J 0 0 0 0 0 0 0 0 1 1));have HB1:Hid (Bw V ((w1.alloc (.cells z10 180)).setRow w1.heap.size (J 0 0 0 0 0 0 0 0 1 1))):=below_setRow ((un HB).alloc (un HB).size _) (un HB).size _;have HGL:Hid (w.heap.size<w1.heap.size):=Nat.lt_of_lt_of_le (un HR).lt (un HB).size;clear HX HB;generalize (w1.alloc (.cells z10 180)).setRow w1.heap.size (J 0 0 0 0 0 0 0 0 1 1)=U1 at *
 generalize w1.heap.size=g3 at *
 have c5:U1.cell? ⟨g3,5,none⟩=some (I 0):=(un HX1).ub.c 5 _ rfl;have f5:U1.frozen? ⟨g3,5,none⟩=false:=(un HX1).ub.f 5 (I 0) rfl
 go_upto_region 3 with fail
 have HX2:Hid (zAc (U1.setCell ⟨g3,5,none⟩ (I 1)) g3 180 (J 0 0 0 0 0 1 0 0 1 1)):=(un HX1).set 5 (I 1);have HR2:Hid (zAc (U1.setCell ⟨g3,5,none⟩ (I 1)) w.heap.size 180 z10):=((un HR).later (un HB1)).otherSet (by have:=un HGL;omega) _ _;have HW2:Hid (Bw w (U1.setCell ⟨g3,5,none⟩ (I 1))):=((un HW).trans ((un HB1).mono (un HW).size)).setCell (p:=⟨g3,5,none⟩) (Nat.le_of_lt (un HGL)) _;clear c5 f5 HX1 HB1 HR HW HGL;generalize U1.setCell ⟨g3,5,none⟩ (I 1)=U at *
 have u0:U.cell? ⟨g3,0,none⟩=some (I 0):=(un HX2).ub.c 0 _ rfl;have u1:U.cell? ⟨g3,1,none⟩=some (I 0):=(un HX2).ub.c 1 _ rfl;have u2:U.cell? ⟨g3,2,none⟩=some (I 0):=(un HX2).ub.c 2 _ rfl;have u3:U.cell? ⟨g3,3,none⟩=some (I 0):=(un HX2).ub.c 3 _ rfl;have u4:U.cell? ⟨g3,4,none⟩=some (I 0):=(un HX2).ub.c 4 _ rfl;have u5:U.cell? ⟨g3,5,none⟩=some (I 1):=(un HX2).ub.c 5 _ rfl;have u6:U.cell? ⟨g3,6,none⟩=some (I 0):=(un HX2).ub.c 6 _ rfl;have u7:U.cell? ⟨g3,7,none⟩=some (I 0):=(un HX2).ub.c 7 _ rfl;have u8:U.cell? ⟨g3,8,none⟩=some (I 1):=(un HX2).ub.c 8 _ rfl;have u9:U.cell? ⟨g3,9,none⟩=some (I 1):=(un HX2).ub.c 9 _ rfl
 go_wp2_with (refine zAn 180 10 zAu rfl (.tmp 2) (.tmp 8) rfl w.heap.size z10 (J 0 0 0 0 0 1 0 0 1 1) rfl rfl rfl rfl (un HR2) (by kernel_rfl) ?_)
 refine bodyPost_ret (v:=.agg (J 0 0 0 0 0 1 0 0 1 1)) (res55 Tryz.results314 _ _ w.heap.size _ rfl rfl ((un HR2).setRow _)) rfl ⟨rfl,below_setRow (un HW2) (Nat.le_refl _) _⟩
theorem siOne6 (w:World):Calls Tryz.prog 314 #[I 6] w fun r w'=>r=.returned (.agg (J 0 0 0 0 0 0 1 0 1 1))∧Bw w w':=by
 obtain⟨V,hV⟩:∃V,V=w.alloc (.cells z10 180):=⟨_,rfl⟩;have HR:Hid (zAc V w.heap.size 180 z10):=by rw[hV];exact zAc.new _ _ _
 have HW:Hid (Bw w V):=by rw[hV];exact bA
 have HV:=zAb hV;clear hV;go_enter Tryz.func314,Tryz.ntmps314
 go_upto_region 1 with fail
 rw[←un HV];clear HV
 go_upto_region 2 with (first
  | (go_at_call 320;go_must(refine(zBp _ _).mono ?_;rintro e w1 ⟨rfl,hb⟩;have HB:=zAb hb;clear hb;have HX:Hid (zAc (w1.alloc (.cells z10 180)) w1.heap.size 180 z10):=zAc.new _ _ _))
  | (refine zAn 180 10 zAu rfl (.tmp 3) (.tmp 4) rfl w1.heap.size z10 (J 0 0 0 0 0 0 0 0 1 1) rfl rfl rfl rfl (un HX) (by kernel_rfl) ?_))
 have HX1:=zAb ((un HX).setRow (J 0 0 0 0 0 0 0 0 1 1));have HB1:Hid (Bw V ((w1.alloc (.cells z10 180)).setRow w1.heap.size (J 0 0 0 0 0 0 0 0 1 1))):=below_setRow ((un HB).alloc (un HB).size _) (un HB).size _;have HGL:Hid (w.heap.size<w1.heap.size):=Nat.lt_of_lt_of_le (un HR).lt (un HB).size;clear HX HB;generalize (w1.alloc (.cells z10 180)).setRow w1.heap.size (J 0 0 0 0 0 0 0 0 1 1)=U1 at *
 generalize w1.heap.size=g3 at *
 have c6:U1.cell? ⟨g3,6,none⟩=some (I 0):=(un HX1).ub.c 6 _ rfl;have f6:U1.frozen? ⟨g3,6,none⟩=false:=(un HX1).ub.f 6 (I 0) rfl
 go_upto_region 3 with fail
 have HX2:Hid (zAc (U1.setCell ⟨g3,6,none⟩ (I 1)) g3 180 (J 0 0 0 0 0 0 1 0 1 1)):=(un HX1).set 6 (I 1);have HR2:Hid (zAc (U1.setCell ⟨g3,6,none⟩ (I 1)) w.heap.size 180 z10):=((un HR).later (un HB1)).otherSet (by have:=un HGL;omega) _ _;have HW2:Hid (Bw w (U1.setCell ⟨g3,6,none⟩ (I 1))):=((un HW).trans ((un HB1).mono (un HW).size)).setCell (p:=⟨g3,6,none⟩) (Nat.le_of_lt (un HGL)) _;clear c6 f6 HX1 HB1 HR HW HGL;generalize U1.setCell ⟨g3,6,none⟩ (I 1)=U at *
 have u0:U.cell? ⟨g3,0,none⟩=some (I 0):=(un HX2).ub.c 0 _ rfl;have u1:U.cell? ⟨g3,1,none⟩=some (I 0):=(un HX2).ub.c 1 _ rfl;have u2:U.cell? ⟨g3,2,none⟩=some (I 0):=(un HX2).ub.c 2 _ rfl;have u3:U.cell? ⟨g3,3,none⟩=some (I 0):=(un HX2).ub.c 3 _ rfl;have u4:U.cell? ⟨g3,4,none⟩=some (I 0):=(un HX2).ub.c 4 _ rfl;have u5:U.cell? ⟨g3,5,none⟩=some (I 0):=(un HX2).ub.c 5 _ rfl;have u6:U.cell? ⟨g3,6,none⟩=some (I 1):=(un HX2).ub.c 6 _ rfl;have u7:U.cell? ⟨g3,7,none⟩=some (I 0):=(un HX2).ub.c 7 _ rfl;have u8:U.cell? ⟨g3,8,none⟩=some (I 1):=(un HX2).ub.c 8 _ rfl;have u9:U.cell? ⟨g3,9,none⟩=some (I 1):=(un HX2).ub.c 9 _ rfl
 go_wp2_with (refine zAn 180 10 zAu rfl (.tmp 2) (.tmp 8) rfl w.heap.size z10 (J 0 0 0 0 0 0 1 0 1 1) rfl rfl rfl rfl (un HR2) (by kernel_rfl) ?_)
 refine bodyPost_ret (v:=.agg (J 0 0 0 0 0 0 1 0 1 1)) (res55 Tryz.results314 _ _ w.heap.size _ rfl rfl ((un HR2).setRow _)) rfl ⟨rfl,below_setRow (un HW2) (Nat.le_refl _) _⟩
theorem siOne7 (w:World):Calls Tryz.prog 314 #[I 7] w fun r w'=>r=.returned (.agg (J 0 0 0 0 0 0 0 1 1 1))∧Bw w w':=by
 obtain⟨V,hV⟩:∃V,V=w.alloc (.cells z10 180):=⟨_,rfl⟩;have HR:Hid (zAc V w.heap.size 180 z10):=by rw[hV];exact zAc.new _ _ _
 have HW:Hid (Bw w V):=by rw[hV];exact bA
 have HV:=zAb hV;clear hV;go_enter Tryz.func314,Tryz.ntmps314
 go_upto_region 1 with fail
 rw[←un HV];clear HV
 go_upto_region 2 with (first
  | (go_at_call 320;go_must(refine(zBp _ _).mono ?_;rintro e w1 ⟨rfl,hb⟩;have HB:=zAb hb;clear hb;have HX:Hid (zAc (w1.alloc (.cells z10 180)) w1.heap.size 180 z10):=zAc.new _ _ _))
  | (refine zAn 180 10 zAu rfl (.tmp 3) (.tmp 4) rfl w1.heap.size z10 (J 0 0 0 0 0 0 0 0 1 1) rfl rfl rfl rfl (un HX) (by kernel_rfl) ?_))
 have HX1:=zAb ((un HX).setRow (J 0 0 0 0 0 0 0 0 1 1));have HB1:Hid (Bw V ((w1.alloc (.cells z10 180)).setRow w1.heap.size (J 0 0 0 0 0 0 0 0 1 1))):=below_setRow ((un HB).alloc (un HB).size _) (un HB).size _;have HGL:Hid (w.heap.size<w1.heap.size):=Nat.lt_of_lt_of_le (un HR).lt (un HB).size;clear HX HB;generalize (w1.alloc (.cells z10 180)).setRow w1.heap.size (J 0 0 0 0 0 0 0 0 1 1)=U1 at *
 generalize w1.heap.size=g3 at *
 have c7:U1.cell? ⟨g3,7,none⟩=some (I 0):=(un HX1).ub.c 7 _ rfl;have f7:U1.frozen? ⟨g3,7,none⟩=false:=(un HX1).ub.f 7 (I 0) rfl
 go_upto_region 3 with fail
 have HX2:Hid (zAc (U1.setCell ⟨g3,7,none⟩ (I 1)) g3 180 (J 0 0 0 0 0 0 0 1 1 1)):=(un HX1).set 7 (I 1);have HR2:Hid (zAc (U1.setCell ⟨g3,7,none⟩ (I 1)) w.heap.size 180 z10):=((un HR).later (un HB1)).otherSet (by have:=un HGL;omega) _ _;have HW2:Hid (Bw w (U1.setCell ⟨g3,7,none⟩ (I 1))):=((un HW).trans ((un HB1).mono (un HW).size)).setCell (p:=⟨g3,7,none⟩) (Nat.le_of_lt (un HGL)) _;clear c7 f7 HX1 HB1 HR HW HGL;generalize U1.setCell ⟨g3,7,none⟩ (I 1)=U at *
 have u0:U.cell? ⟨g3,0,none⟩=some (I 0):=(un HX2).ub.c 0 _ rfl;have u1:U.cell? ⟨g3,1,none⟩=some (I 0):=(un HX2).ub.c 1 _ rfl;have u2:U.cell? ⟨g3,2,none⟩=some (I 0):=(un HX2).ub.c 2 _ rfl;have u3:U.cell? ⟨g3,3,none⟩=some (I 0):=(un HX2).ub.c 3 _ rfl;have u4:U.cell? ⟨g3,4,none⟩=some (I 0):=(un HX2).ub.c 4 _ rfl;have u5:U.cell? ⟨g3,5,none⟩=some (I 0):=(un HX2).ub.c 5 _ rfl;have u6:U.cell? ⟨g3,6,none⟩=some (I 0):=(un HX2).ub.c 6 _ rfl;have u7:U.cell? ⟨g3,7,none⟩=some (I 1):=(un HX2).ub.c 7 _ rfl;have u8:U.cell? ⟨g3,8,none⟩=some (I 1):=(un HX2).ub.c 8 _ rfl;have u9:U.cell? ⟨g3,9,none⟩=some (I 1):=(un HX2).ub.c 9 _ rfl
 go_wp2_with (refine zAn 180 10 zAu rfl (.tmp 2) (.tmp 8) rfl w.heap.size z10 (J 0 0 0 0 0 0 0 1 1 1) rfl rfl rfl rfl (un HR2) (by kernel_rfl) ?_)
 refine bodyPost_ret (v:=.agg (J 0 0 0 0 0 0 0 1 1 1)) (res55 Tryz.results314 _ _ w.heap.size _ rfl rfl ((un HR2).setRow _)) rfl ⟨rfl,below_setRow (un HW2) (Nat.le_refl _) _⟩
structure Onto (w w':World) (g:Nat):Prop where
 own:∀(q ty:Nat) (us:Array Value),¬q=g→zAc w q ty us→zAc w' q ty us
 bel:∀(B:Nat) (w0:World),B≤g→B≤w.heap.size→Below B w0 w→Below B w0 w'
 size:w.heap.size≤w'.heap.size
theorem Onto.trans {w v u:World} {g:Nat} (h:Onto w v g) (h':Onto v u g):Onto w u g :=
 ⟨fun q ty us hq ho=>h'.own q ty us hq (h.own q ty us hq ho),fun B w0 h1 h2 hb=>h'.bel B w0 h1 (Nat.le_trans h2 h.size) (h.bel B w0 h1 h2 hb),Nat.le_trans h.size h'.size⟩
theorem Onto.of_below {w v:World} {g:Nat} (h:Below w.heap.size w v):Onto w v g :=
 ⟨fun _ _ _ _ ho=>ho.later h,fun _ _ _ h2 hb=>hb.trans (h.mono h2),h.size⟩
theorem Onto.setCell (w:World) (g i:Nat) (v:Value):Onto w (w.setCell ⟨g,i,none⟩ v) g :=
 ⟨fun _ _ _ hq ho=>ho.otherSet hq _ _,fun _ _ h1 _ hb=>hb.setCell (p:=⟨g,i,none⟩) h1 _,((Below.refl 0 w).setCell (p:=⟨g,i,none⟩) (Nat.zero_le _) _).size⟩
theorem Onto.setCells (w:World) (g:Nat):∀(l:List Value) (o:Nat),Onto w (w.setCells g o l) g
 | [],_=>Onto.of_below (Below.refl _ _)
 | v :: l,o=>(Onto.setCell w g o v).trans (Onto.setCells (w.setCell ⟨g,o,none⟩ v) g l (o+1))
theorem putAt_far:∀(l:List Value) (vs:Array Value) (o i:Nat),o+l.length≤i→(zDg vs o l)[i]?=vs[i]?
 | [],_,_,_,_=>rfl
 | v :: l,vs,o,i,h=>by
  simp only[List.length_cons]at h;rw[zDg,putAt_far l _ _ _ (by omega),Array.getElem?_setIfInBounds_ne (by omega)]
theorem zFw (am:Array Value) (haz:am.size=10) (ha1:am.all (·.oneCell')=true) (g c:Nat) (hc:c<8) (vs us:Array Value) (w:World) (hg:zAc w g 286 vs) (hs:vs.size=81) (h80:vs[80]?=some (I (c:Int))) (he:(zDg vs (c*10) am.toList).setIfInBounds 80 (I ((c:Int)+1))=us) :
  Calls Tryz.prog 367 #[.agg am,.pointer (some ⟨g,0,none⟩)] w fun e w'=>e=.returned (.agg am)∧zAc w' g 286 us∧Onto w w' g:=by
 obtain⟨V,hV⟩:∃V,V=(w.alloc (.cells am 180)).alloc (.cells (J 0 0 0 0 0 0 0 0 0 0) 180):=⟨_,rfl⟩;have hbV:Below w.heap.size w V:=by rw[hV];exact bA.alloc (by simp) _
 have HA:Hid (zAc V w.heap.size 180 am):=by rw[hV];exact(zAc.new _ _ _).alloc _
 have HR:Hid (zAc V (w.heap.size+1) 180 (J 0 0 0 0 0 0 0 0 0 0)):=by rw[hV];have h:=zAc.new (w.alloc (.cells am 180)) (J 0 0 0 0 0 0 0 0 0 0) 180;rw[Dm.size_alloc]at h;exact h
 have HG:=zAb (hg.later hbV);have HON:Hid (Onto w V g):=Onto.of_below hbV;have HNE:Hid (¬w.heap.size=g∧¬w.heap.size+1=g):=(by have:=hg.lt;show _∧_;omega);have HGL:=zAb hg.lt;have HAZ:=zAb haz;have HA1:=zAb ha1;have HE:=zAb he;have HVS:=zAb hs
 have HP80:Hid ((zDg vs (c*10) am.toList)[80]?=some (I (c:Int))):=by
  show _=_;rw[putAt_far _ _ _ _ (by rw[Array.length_toList,haz];omega)];exact h80
 have hcI:(c:Int)<8:=by omega
 have hc0:(0:Int)≤(c:Int):=by omega
 have HV:=zAb hV;clear hV hbV haz ha1 he hs;have y80:V.cell? ⟨g,80,none⟩=some (I (c:Int)):=(un HG).ub.c 80 _ h80;clear h80 hg;go_enter Tryz.func367,Tryz.ntmps367
 go_upto_region 1 with fail
 rw[←un HV];clear HV
 go_upto_region 2 with (first
  | (refine wpList_load_row rfl 180 (.tmp 2) rfl w.heap.size rfl 180 am (0,0) _ (un HA) Tryz.underlying180 rfl (by rw[un HAZ];exact zAu) ?_)
  | (refine wpList_store_mid rfl 180 (.tmp 8) (.tmp 6) rfl g (c*10) am rfl rfl ((un HG).there _ _ (by rw[un HAZ,un HVS];omega)) (by rw[un HAZ];exact zAu) (un HA1) ?_))
 have HG1:Hid (zAc (V.setCells g (c*10) am.toList) g 286 (zDg vs (c*10) am.toList)):=zAc.setCells _ _ _ _ (un HG);have HAA:Hid (zAc (V.setCells g (c*10) am.toList) w.heap.size 180 am):=zAc.otherCells (un HNE).1 _ _ _ (un HA);have HR1:Hid (zAc (V.setCells g (c*10) am.toList) (w.heap.size+1) 180 (J 0 0 0 0 0 0 0 0 0 0)):=zAc.otherCells (un HNE).2 _ _ _ (un HR);have HO1:Hid (Onto w (V.setCells g (c*10) am.toList) g):=(un HON).trans (Onto.setCells V g _ _);clear y80 HG HA HR HON;generalize V.setCells g (c*10) am.toList=U1 at *
 have y80:U1.cell? ⟨g,80,none⟩=some (I (c:Int)):=(un HG1).ub.c 80 _ (un HP80);have f80:U1.frozen? ⟨g,80,none⟩=false:=(un HG1).ub.f 80 _ (un HP80)
 go_upto_region 3 with fail
 have HG2:Hid (zAc (U1.setCell ⟨g,80,none⟩ (I ((c:Int)+1))) g 286 us):=by rw[←un HE];exact(un HG1).set 80 _
 have HA2:Hid (zAc (U1.setCell ⟨g,80,none⟩ (I ((c:Int)+1))) w.heap.size 180 am):=(un HAA).otherSet (un HNE).1 _ _;have HR2:Hid (zAc (U1.setCell ⟨g,80,none⟩ (I ((c:Int)+1))) (w.heap.size+1) 180 (J 0 0 0 0 0 0 0 0 0 0)):=(un HR1).otherSet (un HNE).2 _ _;have HO2:Hid (Onto w (U1.setCell ⟨g,80,none⟩ (I ((c:Int)+1))) g):=(un HO1).trans (Onto.setCell _ g 80 _);clear y80 f80 HG1 HAA HR1 HO1;generalize U1.setCell ⟨g,80,none⟩ (I ((c:Int)+1))=U2 at *
 go_wp2_with (first
  | (refine wpList_load_row rfl 180 (.tmp 2) rfl w.heap.size rfl 180 am (0,0) _ (un HA2) Tryz.underlying180 rfl (by rw[un HAZ];exact zAu) ?_)
  | (refine zAn 180 10 zAu rfl (.tmp 3) (.tmp 13) rfl (w.heap.size+1) (J 0 0 0 0 0 0 0 0 0 0) am rfl (un HAZ) rfl rfl (un HR2) (un HA1) ?_))
 have hrow:Below w.heap.size U2 (U2.setRow (w.heap.size+1) am):=below_setRow (Below.refl _ _) (by omega) _;refine bodyPost_ret (v:=.agg am) (res55 Tryz.results367 _ _ (w.heap.size+1) _ (un HAZ) rfl ((un HR2).setRow _)) rfl ⟨rfl,(hrow.block g (un HGL)).trans (un HG2),⟨fun q ty us hq ho=>(hrow.block q ho.lt).trans ((un HO2).own q ty us hq ho),fun B w0 h1 h2 hb=>below_setRow ((un HO2).bel B w0 h1 h2 hb) (Nat.le_trans h2 (Nat.le_succ _)) _,Nat.le_trans (un HO2).size hrow.size⟩⟩
end Go.Proofs.YtliadckofhblnaaGreatDoor

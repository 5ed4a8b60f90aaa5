/- An amount's factor. -/
import Derived.Test.YtliadckofhblnaaGreatDoorLimb3
import Derived.Test.YtliadckofhblnaaGreatDoorOwn
import Derived.Test.YtliadckofhblnaaGreatDoorPower
import Derived.Test.YtliadckofhblnaaGreatDoorOfs
import Derived.Deep.RegionHeld3
set_option maxHeartbeats 4000000
set_option maxRecDepth 100000
namespace Go.Proofs.YtliadckofhblnaaGreatDoor
open Go.RowKit
theorem zCv:(Tryz.prog.info? 235).map (·.size)=some 10:=by kernel_rfl
theorem res43 {fn:Func} {p:Tmp} (h:fn.results=#[.cell p 235]) (tmps:Array Value) (w:World) (g:Nat) (vs:Array Value) (hl:vs.size=10) (hp:tmps.getD p undef=.pointer (some ⟨g,0,none⟩)) (ho:zAc w g 235 vs) :
  (results fn tmps).run Tryz.prog w=.ok (.agg vs) w:=by
 rw[zBb h,hp];simp only[asAddr,Sem.run_pure,Result.andThen_ok];rw[run_loadVar_row w g 235 235 vs (0,0) _ ho Tryz.underlying235 rfl (by rw[zCv,hl])]
theorem zDx (a0 a1 a2 a3 a4 a5 a6 a7:Int) (w:World):Calls Tryz.prog 260 #[.agg #[I a0,I a1,I a2,I a3,I a4,I a5,I a6,I a7]] w fun r w'=>r=.returned (.agg (J a0 a1 a2 a3 a4 a5 a6 a7 1 1))∧Bw w w':=by
 go_enter Tryz.func260,Tryz.ntmps260;have HR:Hid (zAc ((w.alloc (.cells #[I a0,I a1,I a2,I a3,I a4,I a5,I a6,I a7] 26)).alloc (.cells (J 0 0 0 0 0 0 0 0 0 0) 235)) (w.heap.size+1) 235 (J 0 0 0 0 0 0 0 0 0 0)):=by have h:=zAc.new (w.alloc (.cells #[I a0,I a1,I a2,I a3,I a4,I a5,I a6,I a7] 26)) (J 0 0 0 0 0 0 0 0 0 0) 235;rw[Dm.size_alloc]at h;exact h
 go_wp2_with (refine zAn 235 10 zCv rfl (.tmp 2) (.tmp 4) rfl (w.heap.size+1) (J 0 0 0 0 0 0 0 0 0 0) (J a0 a1 a2 a3 a4 a5 a6 a7 1 1) rfl rfl rfl rfl (un HR) (by kernel_rfl) ?_)
 refine bodyPost_ret (v:=.agg (J a0 a1 a2 a3 a4 a5 a6 a7 1 1)) (res43 Tryz.results260 _ _ (w.heap.size+1) _ rfl rfl ((un HR).setRow _)) rfl ⟨rfl,below_setRow (bA.alloc (by simp) _) (by omega) _⟩
theorem zEv (n:Int) (w:World):Calls Tryz.prog 261 #[I n] w fun r w'=>r=.returned (.agg (J 0 0 0 0 0 0 0 0 n 1))∧Bw w w':=by
 go_enter Tryz.func261,Tryz.ntmps261;have HR:Hid (zAc (w.alloc (.cells (J 0 0 0 0 0 0 0 0 0 0) 235)) w.heap.size 235 (J 0 0 0 0 0 0 0 0 0 0)):=zAc.new _ _ _
 go_wp2_with (refine zAn 235 10 zCv rfl (.tmp 2) (.tmp 4) rfl w.heap.size (J 0 0 0 0 0 0 0 0 0 0) (J 0 0 0 0 0 0 0 0 n 1) rfl rfl rfl rfl (un HR) (by kernel_rfl) ?_)
 refine bodyPost_ret (v:=.agg (J 0 0 0 0 0 0 0 0 n 1)) (res43 Tryz.results261 _ _ w.heap.size _ rfl rfl ((un HR).setRow _)) rfl ⟨rfl,below_setRow bA (Nat.le_refl _) _⟩
theorem amTimes_any (a0 a1 a2 a3 a4 a5 a6 a7 an ad b0 b1 b2 b3 b4 b5 b6 b7 bn bd c0 c1 c2 c3 c4 c5 c6 c7 e:Int) (w:World)
  (hm:∀W:World,Calls Tryz.prog 175 #[.slice (some ⟨W.heap.size,0,none⟩) 2 2] (W.alloc (.cells #[I a0,I a1,I a2,I a3,I a4,I a5,I a6,I a7,I b0,I b1,I b2,I b3,I b4,I b5,I b6,I b7] 26)) fun r w'=>r=.returned (.tuple #[.agg #[I c0,I c1,I c2,I c3,I c4,I c5,I c6,I c7],I e])∧Below (W.alloc (.cells #[I a0,I a1,I a2,I a3,I a4,I a5,I a6,I a7,I b0,I b1,I b2,I b3,I b4,I b5,I b6,I b7] 26)).heap.size (W.alloc (.cells #[I a0,I a1,I a2,I a3,I a4,I a5,I a6,I a7,I b0,I b1,I b2,I b3,I b4,I b5,I b6,I b7] 26)) w') :
  Calls Tryz.prog 263 #[.agg (J a0 a1 a2 a3 a4 a5 a6 a7 an ad),.agg (J b0 b1 b2 b3 b4 b5 b6 b7 bn bd)] w fun r w'=>r=.returned (.agg (J c0 c1 c2 c3 c4 c5 c6 c7 (wrap64 (an*bn)) (wrap64 (ad*bd))))∧Bw w w':=by
 obtain⟨V,hV⟩:∃V,V=(((w.alloc (.cells (J a0 a1 a2 a3 a4 a5 a6 a7 an ad) 235)).alloc (.cells (J b0 b1 b2 b3 b4 b5 b6 b7 bn bd) 235)).alloc (.cells (J 0 0 0 0 0 0 0 0 0 0) 235)):=⟨_,rfl⟩;have HA:Hid (zAc V w.heap.size 235 (J a0 a1 a2 a3 a4 a5 a6 a7 an ad)):=by rw[hV];exact((zAc.new w (J a0 a1 a2 a3 a4 a5 a6 a7 an ad) 235).alloc _).alloc _
 have HB:Hid (zAc V (w.heap.size+1) 235 (J b0 b1 b2 b3 b4 b5 b6 b7 bn bd)):=by rw[hV];have h:=(zAc.new (w.alloc (.cells (J a0 a1 a2 a3 a4 a5 a6 a7 an ad) 235)) (J b0 b1 b2 b3 b4 b5 b6 b7 bn bd) 235).alloc (.cells (J 0 0 0 0 0 0 0 0 0 0) 235);rw[Dm.size_alloc]at h;exact h
 have HR:Hid (zAc V (w.heap.size+2) 235 (J 0 0 0 0 0 0 0 0 0 0)):=by rw[hV];have h:=zAc.new ((w.alloc (.cells (J a0 a1 a2 a3 a4 a5 a6 a7 an ad) 235)).alloc (.cells (J b0 b1 b2 b3 b4 b5 b6 b7 bn bd) 235)) (J 0 0 0 0 0 0 0 0 0 0) 235;rw[Dm.size_alloc,Dm.size_alloc]at h;exact h
 have HW:Hid (Bw w V):=by rw[hV];exact(bA.alloc (by simp) _).alloc (by simp;omega) _
 have HV:=zAb hV;have HM:=zAb hm;clear hV hm;go_enter Tryz.func263,Tryz.ntmps263
 go_upto_region 1 with fail
 rw[←un HV];clear HV;have x0:V.cell? ⟨w.heap.size,0,none⟩=some (I a0):=(un HA).ub.c 0 _ rfl;have x1:V.cell? ⟨w.heap.size,1,none⟩=some (I a1):=(un HA).ub.c 1 _ rfl;have x2:V.cell? ⟨w.heap.size,2,none⟩=some (I a2):=(un HA).ub.c 2 _ rfl;have x3:V.cell? ⟨w.heap.size,3,none⟩=some (I a3):=(un HA).ub.c 3 _ rfl;have x4:V.cell? ⟨w.heap.size,4,none⟩=some (I a4):=(un HA).ub.c 4 _ rfl;have x5:V.cell? ⟨w.heap.size,5,none⟩=some (I a5):=(un HA).ub.c 5 _ rfl;have x6:V.cell? ⟨w.heap.size,6,none⟩=some (I a6):=(un HA).ub.c 6 _ rfl;have x7:V.cell? ⟨w.heap.size,7,none⟩=some (I a7):=(un HA).ub.c 7 _ rfl;have y0:V.cell? ⟨w.heap.size+1,0,none⟩=some (I b0):=(un HB).ub.c 0 _ rfl;have y1:V.cell? ⟨w.heap.size+1,1,none⟩=some (I b1):=(un HB).ub.c 1 _ rfl;have y2:V.cell? ⟨w.heap.size+1,2,none⟩=some (I b2):=(un HB).ub.c 2 _ rfl;have y3:V.cell? ⟨w.heap.size+1,3,none⟩=some (I b3):=(un HB).ub.c 3 _ rfl;have y4:V.cell? ⟨w.heap.size+1,4,none⟩=some (I b4):=(un HB).ub.c 4 _ rfl;have y5:V.cell? ⟨w.heap.size+1,5,none⟩=some (I b5):=(un HB).ub.c 5 _ rfl;have y6:V.cell? ⟨w.heap.size+1,6,none⟩=some (I b6):=(un HB).ub.c 6 _ rfl;have y7:V.cell? ⟨w.heap.size+1,7,none⟩=some (I b7):=(un HB).ub.c 7 _ rfl
 go_upto_region 2 with (go_at_call 175;go_must(refine(un HM _).mono ?_;rintro e1 w1 ⟨rfl,hb1⟩;have HB1:Hid (Bw V w1):=((Below.refl V.heap.size V).alloc (Nat.le_refl _) _).trans (hb1.mono (by simp));clear hb1 x0 y0 x1 y1 x2 y2 x3 y3 x4 y4 x5 y5 x6 y6 x7 y7))
 have HA1:=zAb ((un HA).later (un HB1));have HBB1:=zAb ((un HB).later (un HB1));have HR1:=zAb ((un HR).later (un HB1));have HW1:=zAb ((un HW).trans ((un HB1).mono (un HW).size));clear HA HB HR HW HB1;have HD:Hid (zAc (w1.alloc (.cells #[I c0,I c1,I c2,I c3,I c4,I c5,I c6,I c7] 26)) w1.heap.size 26 #[I c0,I c1,I c2,I c3,I c4,I c5,I c6,I c7]):=zAc.new _ _ _;have hal:Below w1.heap.size w1 (w1.alloc (.cells #[I c0,I c1,I c2,I c3,I c4,I c5,I c6,I c7] 26)):=bA;have HA2:=zAb ((un HA1).later hal);have HB2:=zAb ((un HBB1).later hal);have HR2:=zAb ((un HR1).later hal);have HW2:=zAb (bt HW1 hal);obtain⟨g5,hg5⟩:∃g5,g5=w1.heap.size:=⟨_,rfl⟩;rw[←hg5]at HD ⊢;clear hal hg5 HA1 HBB1 HR1 HW1;generalize w1.alloc (.cells #[I c0,I c1,I c2,I c3,I c4,I c5,I c6,I c7] 26)=U at *
 have z0:U.cell? ⟨g5,0,none⟩=some (I c0):=(un HD).ub.c 0 _ rfl;have z1:U.cell? ⟨g5,1,none⟩=some (I c1):=(un HD).ub.c 1 _ rfl;have z2:U.cell? ⟨g5,2,none⟩=some (I c2):=(un HD).ub.c 2 _ rfl;have z3:U.cell? ⟨g5,3,none⟩=some (I c3):=(un HD).ub.c 3 _ rfl;have z4:U.cell? ⟨g5,4,none⟩=some (I c4):=(un HD).ub.c 4 _ rfl;have z5:U.cell? ⟨g5,5,none⟩=some (I c5):=(un HD).ub.c 5 _ rfl;have z6:U.cell? ⟨g5,6,none⟩=some (I c6):=(un HD).ub.c 6 _ rfl;have z7:U.cell? ⟨g5,7,none⟩=some (I c7):=(un HD).ub.c 7 _ rfl;have x8:U.cell? ⟨w.heap.size,8,none⟩=some (I an):=(un HA2).ub.c 8 _ rfl;have x9:U.cell? ⟨w.heap.size,9,none⟩=some (I ad):=(un HA2).ub.c 9 _ rfl;have y8:U.cell? ⟨w.heap.size+1,8,none⟩=some (I bn):=(un HB2).ub.c 8 _ rfl;have y9:U.cell? ⟨w.heap.size+1,9,none⟩=some (I bd):=(un HB2).ub.c 9 _ rfl
 go_wp2_with (refine zAn 235 10 zCv rfl (.tmp 4) (.tmp 27) rfl (w.heap.size+2) (J 0 0 0 0 0 0 0 0 0 0) (J c0 c1 c2 c3 c4 c5 c6 c7 (wrap64 (an*bn)) (wrap64 (ad*bd))) rfl rfl rfl rfl (un HR2) (by kernel_rfl) ?_)
 refine bodyPost_ret (v:=.agg (J c0 c1 c2 c3 c4 c5 c6 c7 (wrap64 (an*bn)) (wrap64 (ad*bd)))) (res43 Tryz.results263 _ _ (w.heap.size+2) _ rfl rfl ((un HR2).setRow _)) rfl ⟨rfl,below_setRow (un HW2) (by omega) _⟩
theorem amBy_any (a0 a1 a2 a3 a4 a5 a6 a7 an ad b0 b1 b2 b3 b4 b5 b6 b7 bn bd c0 c1 c2 c3 c4 c5 c6 c7 e:Int) (w:World)
  (hm:∀W,Calls Tryz.prog 105 #[.agg #[I a0,I a1,I a2,I a3,I a4,I a5,I a6,I a7],.agg #[I b0,I b1,I b2,I b3,I b4,I b5,I b6,I b7]] W fun r w'=>r=.returned (.tuple #[.agg #[I c0,I c1,I c2,I c3,I c4,I c5,I c6,I c7],I e])∧Bw W w') :
  Calls Tryz.prog 262 #[.agg (J a0 a1 a2 a3 a4 a5 a6 a7 an ad),.agg (J b0 b1 b2 b3 b4 b5 b6 b7 bn bd)] w fun r w'=>r=.returned (.agg (J c0 c1 c2 c3 c4 c5 c6 c7 (wrap64 (an*bd)) (wrap64 (ad*bn))))∧Bw w w':=by
 obtain⟨V,hV⟩:∃V,V=(((w.alloc (.cells (J a0 a1 a2 a3 a4 a5 a6 a7 an ad) 235)).alloc (.cells (J b0 b1 b2 b3 b4 b5 b6 b7 bn bd) 235)).alloc (.cells (J 0 0 0 0 0 0 0 0 0 0) 235)):=⟨_,rfl⟩;have HA:Hid (zAc V w.heap.size 235 (J a0 a1 a2 a3 a4 a5 a6 a7 an ad)):=by rw[hV];exact((zAc.new w (J a0 a1 a2 a3 a4 a5 a6 a7 an ad) 235).alloc _).alloc _
 have HB:Hid (zAc V (w.heap.size+1) 235 (J b0 b1 b2 b3 b4 b5 b6 b7 bn bd)):=by rw[hV];have h:=(zAc.new (w.alloc (.cells (J a0 a1 a2 a3 a4 a5 a6 a7 an ad) 235)) (J b0 b1 b2 b3 b4 b5 b6 b7 bn bd) 235).alloc (.cells (J 0 0 0 0 0 0 0 0 0 0) 235);rw[Dm.size_alloc]at h;exact h
 have HR:Hid (zAc V (w.heap.size+2) 235 (J 0 0 0 0 0 0 0 0 0 0)):=by rw[hV];have h:=zAc.new ((w.alloc (.cells (J a0 a1 a2 a3 a4 a5 a6 a7 an ad) 235)).alloc (.cells (J b0 b1 b2 b3 b4 b5 b6 b7 bn bd) 235)) (J 0 0 0 0 0 0 0 0 0 0) 235;rw[Dm.size_alloc,Dm.size_alloc]at h;exact h
 have HW:Hid (Bw w V):=by rw[hV];exact(bA.alloc (by simp) _).alloc (by simp;omega) _
 have HV:=zAb hV;have HM:=zAb hm;clear hV hm;go_enter Tryz.func262,Tryz.ntmps262
 go_upto_region 1 with fail
 rw[←un HV];clear HV;have x0:V.cell? ⟨w.heap.size,0,none⟩=some (I a0):=(un HA).ub.c 0 _ rfl;have x1:V.cell? ⟨w.heap.size,1,none⟩=some (I a1):=(un HA).ub.c 1 _ rfl;have x2:V.cell? ⟨w.heap.size,2,none⟩=some (I a2):=(un HA).ub.c 2 _ rfl;have x3:V.cell? ⟨w.heap.size,3,none⟩=some (I a3):=(un HA).ub.c 3 _ rfl;have x4:V.cell? ⟨w.heap.size,4,none⟩=some (I a4):=(un HA).ub.c 4 _ rfl;have x5:V.cell? ⟨w.heap.size,5,none⟩=some (I a5):=(un HA).ub.c 5 _ rfl;have x6:V.cell? ⟨w.heap.size,6,none⟩=some (I a6):=(un HA).ub.c 6 _ rfl;have x7:V.cell? ⟨w.heap.size,7,none⟩=some (I a7):=(un HA).ub.c 7 _ rfl;have y0:V.cell? ⟨w.heap.size+1,0,none⟩=some (I b0):=(un HB).ub.c 0 _ rfl;have y1:V.cell? ⟨w.heap.size+1,1,none⟩=some (I b1):=(un HB).ub.c 1 _ rfl;have y2:V.cell? ⟨w.heap.size+1,2,none⟩=some (I b2):=(un HB).ub.c 2 _ rfl;have y3:V.cell? ⟨w.heap.size+1,3,none⟩=some (I b3):=(un HB).ub.c 3 _ rfl;have y4:V.cell? ⟨w.heap.size+1,4,none⟩=some (I b4):=(un HB).ub.c 4 _ rfl;have y5:V.cell? ⟨w.heap.size+1,5,none⟩=some (I b5):=(un HB).ub.c 5 _ rfl;have y6:V.cell? ⟨w.heap.size+1,6,none⟩=some (I b6):=(un HB).ub.c 6 _ rfl;have y7:V.cell? ⟨w.heap.size+1,7,none⟩=some (I b7):=(un HB).ub.c 7 _ rfl
 go_upto_region 2 with (go_at_call 105;go_must(refine(un HM _).mono ?_;rintro e1 w1 ⟨rfl,hb1⟩;have HB1:=zAb hb1;clear hb1 x0 y0 x1 y1 x2 y2 x3 y3 x4 y4 x5 y5 x6 y6 x7 y7))
 have HA1:=zAb ((un HA).later (un HB1));have HBB1:=zAb ((un HB).later (un HB1));have HR1:=zAb ((un HR).later (un HB1));have HW1:=zAb ((un HW).trans ((un HB1).mono (un HW).size));clear HA HB HR HW HB1;have HD:Hid (zAc (w1.alloc (.cells #[I c0,I c1,I c2,I c3,I c4,I c5,I c6,I c7] 26)) w1.heap.size 26 #[I c0,I c1,I c2,I c3,I c4,I c5,I c6,I c7]):=zAc.new _ _ _;have hal:Below w1.heap.size w1 (w1.alloc (.cells #[I c0,I c1,I c2,I c3,I c4,I c5,I c6,I c7] 26)):=bA;have HA2:=zAb ((un HA1).later hal);have HB2:=zAb ((un HBB1).later hal);have HR2:=zAb ((un HR1).later hal);have HW2:=zAb (bt HW1 hal);obtain⟨g5,hg5⟩:∃g5,g5=w1.heap.size:=⟨_,rfl⟩;rw[←hg5]at HD ⊢;clear hal hg5 HA1 HBB1 HR1 HW1;generalize w1.alloc (.cells #[I c0,I c1,I c2,I c3,I c4,I c5,I c6,I c7] 26)=U at *
 have z0:U.cell? ⟨g5,0,none⟩=some (I c0):=(un HD).ub.c 0 _ rfl;have z1:U.cell? ⟨g5,1,none⟩=some (I c1):=(un HD).ub.c 1 _ rfl;have z2:U.cell? ⟨g5,2,none⟩=some (I c2):=(un HD).ub.c 2 _ rfl;have z3:U.cell? ⟨g5,3,none⟩=some (I c3):=(un HD).ub.c 3 _ rfl;have z4:U.cell? ⟨g5,4,none⟩=some (I c4):=(un HD).ub.c 4 _ rfl;have z5:U.cell? ⟨g5,5,none⟩=some (I c5):=(un HD).ub.c 5 _ rfl;have z6:U.cell? ⟨g5,6,none⟩=some (I c6):=(un HD).ub.c 6 _ rfl;have z7:U.cell? ⟨g5,7,none⟩=some (I c7):=(un HD).ub.c 7 _ rfl;have x8:U.cell? ⟨w.heap.size,8,none⟩=some (I an):=(un HA2).ub.c 8 _ rfl;have x9:U.cell? ⟨w.heap.size,9,none⟩=some (I ad):=(un HA2).ub.c 9 _ rfl;have y8:U.cell? ⟨w.heap.size+1,8,none⟩=some (I bn):=(un HB2).ub.c 8 _ rfl;have y9:U.cell? ⟨w.heap.size+1,9,none⟩=some (I bd):=(un HB2).ub.c 9 _ rfl
 go_wp2_with (refine zAn 235 10 zCv rfl (.tmp 4) (.tmp 26) rfl (w.heap.size+2) (J 0 0 0 0 0 0 0 0 0 0) (J c0 c1 c2 c3 c4 c5 c6 c7 (wrap64 (an*bd)) (wrap64 (ad*bn))) rfl rfl rfl rfl (un HR2) (by kernel_rfl) ?_)
 refine bodyPost_ret (v:=.agg (J c0 c1 c2 c3 c4 c5 c6 c7 (wrap64 (an*bd)) (wrap64 (ad*bn)))) (res43 Tryz.results262 _ _ (w.heap.size+2) _ rfl rfl ((un HR2).setRow _)) rfl ⟨rfl,below_setRow (un HW2) (by omega) _⟩
def X2 (l:List Int) (i j:Nat):Int:=l.getD (i*8+j) 0
theorem dims_new (W:World) (a0 a1 a2 a3 a4 a5 a6 a7 b0 b1 b2 b3 b4 b5 b6 b7:Int):Dm.Dims (W.alloc (.cells #[I a0,I a1,I a2,I a3,I a4,I a5,I a6,I a7,I b0,I b1,I b2,I b3,I b4,I b5,I b6,I b7] 26)) W.heap.size 0 2 (X2 [a0,a1,a2,a3,a4,a5,a6,a7,b0,b1,b2,b3,b4,b5,b6,b7]):=by
 refine⟨by simp,fun i hi j hj=>?_⟩;have h:=(zAc.new W #[I a0,I a1,I a2,I a3,I a4,I a5,I a6,I a7,I b0,I b1,I b2,I b3,I b4,I b5,I b6,I b7] 26).ub.c (0+i*8+j);refine h _ ?_;rcases(by omega:i=0∨i=1)with rfl|rfl<;>rcases(by omega:j=0∨j=1∨j=2∨j=3∨j=4∨j=5∨j=6∨j=7)with rfl|rfl|rfl|rfl|rfl|rfl|rfl|rfl<;>rfl
def mulL (l:List Int):List Int:=[Dm.sel (Dm.allB (X2 l) 2 && Dm.rightB (Dm.sumL (X2 l) 2)) (Dm.sumD (X2 l) 2 0),Dm.sel (Dm.allB (X2 l) 2 && Dm.rightB (Dm.sumL (X2 l) 2)) (Dm.sumD (X2 l) 2 1),Dm.sel (Dm.allB (X2 l) 2 && Dm.rightB (Dm.sumL (X2 l) 2)) (Dm.sumD (X2 l) 2 2),Dm.sel (Dm.allB (X2 l) 2 && Dm.rightB (Dm.sumL (X2 l) 2)) (Dm.sumD (X2 l) 2 3),Dm.sel (Dm.allB (X2 l) 2 && Dm.rightB (Dm.sumL (X2 l) 2)) (Dm.sumD (X2 l) 2 4),Dm.sel (Dm.allB (X2 l) 2 && Dm.rightB (Dm.sumL (X2 l) 2)) (Dm.sumD (X2 l) 2 5),Dm.sel (Dm.allB (X2 l) 2 && Dm.rightB (Dm.sumL (X2 l) 2)) (Dm.sumD (X2 l) 2 6),Dm.sel (Dm.allB (X2 l) 2 && Dm.rightB (Dm.sumL (X2 l) 2)) (Dm.sumD (X2 l) 2 7)]
def quoL (a b q:List Int):List Int:=q.map (Dm.sel (Dm.quoOk (Dm.rightB a) (Dm.rightB b) q))
theorem zDf (a0 a1 a2 a3 a4 a5 a6 a7 an ad b0 b1 b2 b3 b4 b5 b6 b7 bn bd c0 c1 c2 c3 c4 c5 c6 c7 p q:Int) (w:World) (h:mulL [a0,a1,a2,a3,a4,a5,a6,a7,b0,b1,b2,b3,b4,b5,b6,b7]=[c0,c1,c2,c3,c4,c5,c6,c7]) (hp:wrap64 (an*bn)=p) (hq:wrap64 (ad*bd)=q) :
  Calls Tryz.prog 263 #[.agg (J a0 a1 a2 a3 a4 a5 a6 a7 an ad),.agg (J b0 b1 b2 b3 b4 b5 b6 b7 bn bd)] w fun r w'=>r=.returned (.agg (J c0 c1 c2 c3 c4 c5 c6 c7 p q))∧Bw w w':=by
 subst hp hq;unfold mulL at h
 simp only[List.cons.injEq,and_true]at h;obtain⟨rfl,rfl,rfl,rfl,rfl,rfl,rfl,rfl⟩:=h;exact amTimes_any a0 a1 a2 a3 a4 a5 a6 a7 an ad b0 b1 b2 b3 b4 b5 b6 b7 bn bd _ _ _ _ _ _ _ _ _ w (fun W=>Dm.mul_any W.heap.size 0 2 2 (X2 [a0,a1,a2,a3,a4,a5,a6,a7,b0,b1,b2,b3,b4,b5,b6,b7]) _ (by decide) (dims_new W a0 a1 a2 a3 a4 a5 a6 a7 b0 b1 b2 b3 b4 b5 b6 b7))
theorem zFm (a0 a1 a2 a3 a4 a5 a6 a7 an ad b0 b1 b2 b3 b4 b5 b6 b7 bn bd c0 c1 c2 c3 c4 c5 c6 c7 p q:Int) (w:World) (h:quoL [a0,a1,a2,a3,a4,a5,a6,a7] [b0,b1,b2,b3,b4,b5,b6,b7] [wrap64 (a0 - b0),wrap64 (a1 - b1),wrap64 (a2 - b2),wrap64 (a3 - b3),wrap64 (a4 - b4),wrap64 (a5 - b5),wrap64 (a6 - b6),wrap64 (a7 - b7)]=[c0,c1,c2,c3,c4,c5,c6,c7]) (hp:wrap64 (an*bd)=p) (hq:wrap64 (ad*bn)=q) :
  Calls Tryz.prog 262 #[.agg (J a0 a1 a2 a3 a4 a5 a6 a7 an ad),.agg (J b0 b1 b2 b3 b4 b5 b6 b7 bn bd)] w fun r w'=>r=.returned (.agg (J c0 c1 c2 c3 c4 c5 c6 c7 p q))∧Bw w w':=by
 subst hp hq;unfold quoL at h
 simp only[List.map_cons,List.map_nil,List.cons.injEq,and_true]at h;obtain⟨rfl,rfl,rfl,rfl,rfl,rfl,rfl,rfl⟩:=h;exact amBy_any a0 a1 a2 a3 a4 a5 a6 a7 an ad b0 b1 b2 b3 b4 b5 b6 b7 bn bd _ _ _ _ _ _ _ _ _ w (fun W=>Dm.quo_any a0 a1 a2 a3 a4 a5 a6 a7 b0 b1 b2 b3 b4 b5 b6 b7 W)
theorem zAc.set {W:World} {g ty:Nat} {vs:Array Value} (h:zAc W g ty vs) (i:Nat) (v:Value):zAc (W.setCell ⟨g,i,none⟩ v) g ty (vs.setIfInBounds i v):=by
 unfold zAc at h ⊢
 simp only[World.setCell,Array.getElem?_modify,h,Option.map_some];simp
theorem zAc.otherSet {W:World} {g k ty:Nat} {vs:Array Value} (h:zAc W g ty vs) (hk:¬g=k) (o:Nat) (v:Value):zAc (W.setCell ⟨k,o,none⟩ v) g ty vs:=(Below.heap_setCell W ⟨k,o,none⟩ v g hk).trans h
theorem zCs {U W V:World} {O:Obj} (h:Below U.heap.size U W) (hb:Below (W.alloc O).heap.size (W.alloc O) V):Below U.heap.size U V :=
 (h.alloc h.size O).trans (hb.mono (h.alloc h.size O).size)
theorem zBw {W V:World} {O:Obj} (hb:Below (W.alloc O).drew.heap.size (W.alloc O).drew V):Below W.heap.size W V :=
 have h0:=(Below.refl W.heap.size W).alloc (Nat.le_refl _) O;have h:Below W.heap.size W (W.alloc O).drew:=h0.trans ((Below.refl _ _).drew.mono h0.size)
 h.trans (hb.mono h.size)
theorem bit_made (w:World):Calls Tryz.prog 218 #[] w fun r w'=>r=.returned (.agg (J 0 0 0 0 0 0 0 1 1 1))∧Bw w w':=by
 obtain⟨V,hV⟩:∃V,V=w.alloc (.cells (J 0 0 0 0 0 0 0 0 0 0) 235):=⟨_,rfl⟩;have HR:Hid (zAc V w.heap.size 235 (J 0 0 0 0 0 0 0 0 0 0)):=by rw[hV];exact zAc.new _ _ _
 have HB:Hid (Bw w V):=by rw[hV];exact bA
 have HV:=zAb hV;clear hV;go_enter Tryz.func218,Tryz.ntmps218
 go_upto_region 1 with fail
 rw[←un HV];clear HV
 go_wp2_with fail
 refine(zDx 0 0 0 0 0 0 0 1 _).mono ?_;rintro e W ⟨rfl,hb⟩;have HR1:=zAb ((un HR).later hb);have HB1:=zAb (bt HB hb);clear HR HB hb;have HR:=HR1;have HB:=HB1;clear HR1 HB1
 go_wp2_with (refine zAn 235 10 zCv rfl (.tmp 0) (.tmp 2) rfl w.heap.size (J 0 0 0 0 0 0 0 0 0 0) (J 0 0 0 0 0 0 0 1 1 1) rfl rfl rfl rfl (un HR) (by kernel_rfl) ?_)
 exact bodyPost_ret (v:=.agg (J 0 0 0 0 0 0 0 1 1 1)) (res43 Tryz.results218 _ _ w.heap.size _ rfl rfl ((un HR).setRow _)) rfl ⟨rfl,below_setRow (un HB) (Nat.le_refl _) _⟩
theorem mole_made (w:World):Calls Tryz.prog 219 #[] w fun r w'=>r=.returned (.agg (J 0 0 0 0 0 1 0 0 1 1))∧Bw w w':=by
 obtain⟨V,hV⟩:∃V,V=w.alloc (.cells (J 0 0 0 0 0 0 0 0 0 0) 235):=⟨_,rfl⟩;have HR:Hid (zAc V w.heap.size 235 (J 0 0 0 0 0 0 0 0 0 0)):=by rw[hV];exact zAc.new _ _ _
 have HB:Hid (Bw w V):=by rw[hV];exact bA
 have HV:=zAb hV;clear hV;go_enter Tryz.func219,Tryz.ntmps219
 go_upto_region 1 with fail
 rw[←un HV];clear HV
 go_wp2_with fail
 refine(zEv 1 _).mono ?_;rintro e W ⟨rfl,hb⟩;have HR1:=zAb ((un HR).later hb);have HB1:=zAb (bt HB hb);clear HR HB hb;have HR:=HR1;have HB:=HB1;clear HR1 HB1
 go_wp2_with fail
 refine(zDx 0 0 0 0 0 (-1) 0 0 _).mono ?_;rintro e W ⟨rfl,hb⟩;have HR1:=zAb ((un HR).later hb);have HB1:=zAb (bt HB hb);clear HR HB hb;have HR:=HR1;have HB:=HB1;clear HR1 HB1
 go_wp2_with fail
 refine(zFm 0 0 0 0 0 0 0 0 1 1 0 0 0 0 0 (-1) 0 0 1 1 0 0 0 0 0 1 0 0 1 1 _ (by decide +kernel) (by decide +kernel) (by decide +kernel)).mono ?_;rintro e W ⟨rfl,hb⟩;have HR1:=zAb ((un HR).later hb);have HB1:=zAb (bt HB hb);clear HR HB hb;have HR:=HR1;have HB:=HB1;clear HR1 HB1
 go_wp2_with (refine zAn 235 10 zCv rfl (.tmp 0) (.tmp 4) rfl w.heap.size (J 0 0 0 0 0 0 0 0 0 0) (J 0 0 0 0 0 1 0 0 1 1) rfl rfl rfl rfl (un HR) (by kernel_rfl) ?_)
 exact bodyPost_ret (v:=.agg (J 0 0 0 0 0 1 0 0 1 1)) (res43 Tryz.results219 _ _ w.heap.size _ rfl rfl ((un HR).setRow _)) rfl ⟨rfl,below_setRow (un HB) (Nat.le_refl _) _⟩
theorem zCy (w:World):Calls Tryz.prog 220 #[] w fun r w'=>r=.returned (.agg (J 0 0 1 0 0 0 0 0 1 1))∧Bw w w':=by
 obtain⟨V,hV⟩:∃V,V=w.alloc (.cells (J 0 0 0 0 0 0 0 0 0 0) 235):=⟨_,rfl⟩;have HR:Hid (zAc V w.heap.size 235 (J 0 0 0 0 0 0 0 0 0 0)):=by rw[hV];exact zAc.new _ _ _
 have HB:Hid (Bw w V):=by rw[hV];exact bA
 have HV:=zAb hV;clear hV;go_enter Tryz.func220,Tryz.ntmps220
 go_upto_region 1 with fail
 rw[←un HV];clear HV
 go_wp2_with fail
 refine(zEv 1 _).mono ?_;rintro e W ⟨rfl,hb⟩;have HR1:=zAb ((un HR).later hb);have HB1:=zAb (bt HB hb);clear HR HB hb;have HR:=HR1;have HB:=HB1;clear HR1 HB1
 go_wp2_with fail
 refine(zDx 0 0 (-1) 0 0 0 0 0 _).mono ?_;rintro e W ⟨rfl,hb⟩;have HR1:=zAb ((un HR).later hb);have HB1:=zAb (bt HB hb);clear HR HB hb;have HR:=HR1;have HB:=HB1;clear HR1 HB1
 go_wp2_with fail
 refine(zFm 0 0 0 0 0 0 0 0 1 1 0 0 (-1) 0 0 0 0 0 1 1 0 0 1 0 0 0 0 0 1 1 _ (by decide +kernel) (by decide +kernel) (by decide +kernel)).mono ?_;rintro e W ⟨rfl,hb⟩;have HR1:=zAb ((un HR).later hb);have HB1:=zAb (bt HB hb);clear HR HB hb;have HR:=HR1;have HB:=HB1;clear HR1 HB1
 go_wp2_with (refine zAn 235 10 zCv rfl (.tmp 0) (.tmp 4) rfl w.heap.size (J 0 0 0 0 0 0 0 0 0 0) (J 0 0 1 0 0 0 0 0 1 1) rfl rfl rfl rfl (un HR) (by kernel_rfl) ?_)
 exact bodyPost_ret (v:=.agg (J 0 0 1 0 0 0 0 0 1 1)) (res43 Tryz.results220 _ _ w.heap.size _ rfl rfl ((un HR).setRow _)) rfl ⟨rfl,below_setRow (un HB) (Nat.le_refl _) _⟩
theorem ampere_made (w:World):Calls Tryz.prog 221 #[] w fun r w'=>r=.returned (.agg (J 0 0 0 1 0 0 0 0 1 1))∧Bw w w':=by
 obtain⟨V,hV⟩:∃V,V=w.alloc (.cells (J 0 0 0 0 0 0 0 0 0 0) 235):=⟨_,rfl⟩;have HR:Hid (zAc V w.heap.size 235 (J 0 0 0 0 0 0 0 0 0 0)):=by rw[hV];exact zAc.new _ _ _
 have HB:Hid (Bw w V):=by rw[hV];exact bA
 have HV:=zAb hV;clear hV;go_enter Tryz.func221,Tryz.ntmps221
 go_upto_region 1 with fail
 rw[←un HV];clear HV
 go_wp2_with fail
 refine(zDx 0 0 1 1 0 0 0 0 _).mono ?_;rintro e W ⟨rfl,hb⟩;have HR1:=zAb ((un HR).later hb);have HB1:=zAb (bt HB hb);clear HR HB hb;have HR:=HR1;have HB:=HB1;clear HR1 HB1
 go_wp2_with fail
 refine(zCy _).mono ?_;rintro e W ⟨rfl,hb⟩;have HR1:=zAb ((un HR).later hb);have HB1:=zAb (bt HB hb);clear HR HB hb;have HR:=HR1;have HB:=HB1;clear HR1 HB1
 go_wp2_with fail
 refine(zFm 0 0 1 1 0 0 0 0 1 1 0 0 1 0 0 0 0 0 1 1 0 0 0 1 0 0 0 0 1 1 _ (by decide +kernel) (by decide +kernel) (by decide +kernel)).mono ?_;rintro e W ⟨rfl,hb⟩;have HR1:=zAb ((un HR).later hb);have HB1:=zAb (bt HB hb);clear HR HB hb;have HR:=HR1;have HB:=HB1;clear HR1 HB1
 go_wp2_with (refine zAn 235 10 zCv rfl (.tmp 0) (.tmp 4) rfl w.heap.size (J 0 0 0 0 0 0 0 0 0 0) (J 0 0 0 1 0 0 0 0 1 1) rfl rfl rfl rfl (un HR) (by kernel_rfl) ?_)
 exact bodyPost_ret (v:=.agg (J 0 0 0 1 0 0 0 0 1 1)) (res43 Tryz.results221 _ _ w.heap.size _ rfl rfl ((un HR).setRow _)) rfl ⟨rfl,below_setRow (un HB) (Nat.le_refl _) _⟩
theorem zEx (w:World):Calls Tryz.prog 222 #[] w fun r w'=>r=.returned (.agg (J 1 0 0 0 0 0 0 0 1 1))∧Bw w w':=by
 obtain⟨V,hV⟩:∃V,V=w.alloc (.cells (J 0 0 0 0 0 0 0 0 0 0) 235):=⟨_,rfl⟩;have HR:Hid (zAc V w.heap.size 235 (J 0 0 0 0 0 0 0 0 0 0)):=by rw[hV];exact zAc.new _ _ _
 have HB:Hid (Bw w V):=by rw[hV];exact bA
 have HV:=zAb hV;clear hV;go_enter Tryz.func222,Tryz.ntmps222
 go_upto_region 1 with fail
 rw[←un HV];clear HV
 go_wp2_with fail
 refine(zDx 1 0 (-1) 0 0 0 0 0 _).mono ?_;rintro e W ⟨rfl,hb⟩;have HR1:=zAb ((un HR).later hb);have HB1:=zAb (bt HB hb);clear HR HB hb;have HR:=HR1;have HB:=HB1;clear HR1 HB1
 go_wp2_with fail
 refine(zCy _).mono ?_;rintro e W ⟨rfl,hb⟩;have HR1:=zAb ((un HR).later hb);have HB1:=zAb (bt HB hb);clear HR HB hb;have HR:=HR1;have HB:=HB1;clear HR1 HB1
 go_wp2_with fail
 refine(zDf 1 0 (-1) 0 0 0 0 0 1 1 0 0 1 0 0 0 0 0 1 1 1 0 0 0 0 0 0 0 1 1 _ (by decide +kernel) (by decide +kernel) (by decide +kernel)).mono ?_;rintro e W ⟨rfl,hb⟩;have HR1:=zAb ((un HR).later hb);have HB1:=zAb (bt HB hb);clear HR HB hb;have HR:=HR1;have HB:=HB1;clear HR1 HB1
 go_wp2_with (refine zAn 235 10 zCv rfl (.tmp 0) (.tmp 4) rfl w.heap.size (J 0 0 0 0 0 0 0 0 0 0) (J 1 0 0 0 0 0 0 0 1 1) rfl rfl rfl rfl (un HR) (by kernel_rfl) ?_)
 exact bodyPost_ret (v:=.agg (J 1 0 0 0 0 0 0 0 1 1)) (res43 Tryz.results222 _ _ w.heap.size _ rfl rfl ((un HR).setRow _)) rfl ⟨rfl,below_setRow (un HB) (Nat.le_refl _) _⟩
theorem gram_made (w:World):Calls Tryz.prog 223 #[] w fun r w'=>r=.returned (.agg #[I 0,I 1,I 0,I 0,I 0,I 0,I 0,I 0,I 1,I 1000])∧Below w.heap.size w w':=by
 obtain⟨V,hV⟩:∃V,V=w.alloc (.cells #[I 0,I 0,I 0,I 0,I 0,I 0,I 0,I 0,I 0,I 0] 235):=⟨_,rfl⟩
 have HR:Hid (zAc V w.heap.size 235 #[I 0,I 0,I 0,I 0,I 0,I 0,I 0,I 0,I 0,I 0]):=by rw[hV];exact zAc.new _ _ _
 have HB:Hid (Below w.heap.size w V):=by rw[hV];exact(Below.refl _ _).alloc (Nat.le_refl _) _
 have HV:=zAb hV
 clear hV
 go_enter Tryz.func223,Tryz.ntmps223
 go_upto_region 1 with fail
 rw[←un HV]
 clear HV
 go_wp2_with fail
 refine(zDx 2 1 (-1) 0 0 0 0 0 _).mono ?_
 rintro e W ⟨rfl,hb⟩
 have HR1:=zAb ((un HR).later hb);have HB1:=zAb ((un HB).trans (hb.mono (un HB).size))
 clear HR HB hb
 have HR:=HR1;have HB:=HB1
 clear HR1 HB1
 go_wp2_with fail
 refine(zCy _).mono ?_
 rintro e W ⟨rfl,hb⟩
 have HR1:=zAb ((un HR).later hb);have HB1:=zAb ((un HB).trans (hb.mono (un HB).size))
 clear HR HB hb
 have HR:=HR1;have HB:=HB1
 clear HR1 HB1
 go_wp2_with fail
 refine(zDf 2 1 (-1) 0 0 0 0 0 1 1 0 0 1 0 0 0 0 0 1 1 2 1 0 0 0 0 0 0 1 1 _ (by decide +kernel) (by decide +kernel) (by decide +kernel)).mono ?_
 rintro e W ⟨rfl,hb⟩
 have HR1:=zAb ((un HR).later hb);have HB1:=zAb ((un HB).trans (hb.mono (un HB).size))
 clear HR HB hb
 have HR:=HR1;have HB:=HB1
 clear HR1 HB1
 go_wp2_with fail
 refine(zEx _).mono ?_
 rintro e W ⟨rfl,hb⟩
 have HR1:=zAb ((un HR).later hb);have HB1:=zAb ((un HB).trans (hb.mono (un HB).size))
 clear HR HB hb
 have HR:=HR1;have HB:=HB1
 clear HR1 HB1
 go_wp2_with fail
 refine(zFm 2 1 0 0 0 0 0 0 1 1 1 0 0 0 0 0 0 0 1 1 1 1 0 0 0 0 0 0 1 1 _ (by decide +kernel) (by decide +kernel) (by decide +kernel)).mono ?_
 rintro e W ⟨rfl,hb⟩
 have HR1:=zAb ((un HR).later hb);have HB1:=zAb ((un HB).trans (hb.mono (un HB).size))
 clear HR HB hb
 have HR:=HR1;have HB:=HB1
 clear HR1 HB1
 go_wp2_with fail
 refine(zEx _).mono ?_
 rintro e W ⟨rfl,hb⟩
 have HR1:=zAb ((un HR).later hb);have HB1:=zAb ((un HB).trans (hb.mono (un HB).size))
 clear HR HB hb
 have HR:=HR1;have HB:=HB1
 clear HR1 HB1
 go_wp2_with fail
 refine(zFm 1 1 0 0 0 0 0 0 1 1 1 0 0 0 0 0 0 0 1 1 0 1 0 0 0 0 0 0 1 1 _ (by decide +kernel) (by decide +kernel) (by decide +kernel)).mono ?_
 rintro e W ⟨rfl,hb⟩
 have HR1:=zAb ((un HR).later hb);have HB1:=zAb ((un HB).trans (hb.mono (un HB).size))
 clear HR HB hb
 have HR:=HR1;have HB:=HB1
 clear HR1 HB1
 go_upto_region 2 with fail
 have HX:Hid (zAc (W.alloc (.cells #[I 0,I 1,I 0,I 0,I 0,I 0,I 0,I 0,I 1,I 1] 235)) W.heap.size 235 #[I 0,I 1,I 0,I 0,I 0,I 0,I 0,I 0,I 1,I 1]∧Below W.heap.size W (W.alloc (.cells #[I 0,I 1,I 0,I 0,I 0,I 0,I 0,I 0,I 1,I 1] 235))):=⟨zAc.new _ _ _,(Below.refl _ _).alloc (Nat.le_refl _) _⟩
 obtain⟨g1,hg1⟩:∃g1,g1=W.heap.size:=⟨_,rfl⟩
 obtain⟨U,hU⟩:∃U,U=W.alloc (.cells #[I 0,I 1,I 0,I 0,I 0,I 0,I 0,I 0,I 1,I 1] 235):=⟨_,rfl⟩
 rw[←hU]at HX ⊢
 rw[←hg1]at HX ⊢
 have hne:¬g1=w.heap.size:=by have:=(un HR).lt;omega
 have HR1:=zAb ((un HR).later (by rw[←hg1];exact(un HX).2));have HB1:=zAb ((un HB).trans (Below.mono (by rw[←hg1];exact(un HX).2:Below W.heap.size W U) (un HB).size))
 have HQ:=zAb (un HX).1
 clear HX HR HB hU hg1
 have HBD:Hid (Below U.heap.size U U.drew):=(Below.refl _ _).drew
 have HSS:Hid (∀W',zAc W' g1 235 #[I 0,I 1,I 0,I 0,I 0,I 0,I 0,I 0,I 1,I 1]→W'.cell? ⟨g1,0,none⟩=some (I 0)∧W'.cell? ⟨g1,1,none⟩=some (I 1)∧W'.cell? ⟨g1,2,none⟩=some (I 0)∧W'.cell? ⟨g1,3,none⟩=some (I 0)∧W'.cell? ⟨g1,4,none⟩=some (I 0)∧W'.cell? ⟨g1,5,none⟩=some (I 0)∧W'.cell? ⟨g1,6,none⟩=some (I 0)∧W'.cell? ⟨g1,7,none⟩=some (I 0)∧W'.cell? ⟨g1,8,none⟩=some (I 1)∧W'.cell? ⟨g1,9,none⟩=some (I 1)):=fun W' h=>⟨h.ub.c 0 _ rfl,h.ub.c 1 _ rfl,h.ub.c 2 _ rfl,h.ub.c 3 _ rfl,h.ub.c 4 _ rfl,h.ub.c 5 _ rfl,h.ub.c 6 _ rfl,h.ub.c 7 _ rfl,h.ub.c 8 _ rfl,h.ub.c 9 _ rfl⟩
 have HR2:=zAb ((un HR1).later (un HBD));have HQ2:=zAb ((un HQ).later (un HBD));have HB2:=zAb ((un HB1).trans ((un HBD).mono (un HB1).size))
 clear HR1 HQ HB1
 have HS0:=zAb (un HSS _ (un HQ2))
 refine zAi 3 (fun W'=>W'.cell? ⟨g1,0,none⟩=some (I 0)∧W'.cell? ⟨g1,1,none⟩=some (I 1)∧W'.cell? ⟨g1,2,none⟩=some (I 0)∧W'.cell? ⟨g1,3,none⟩=some (I 0)∧W'.cell? ⟨g1,4,none⟩=some (I 0)∧W'.cell? ⟨g1,5,none⟩=some (I 0)∧W'.cell? ⟨g1,6,none⟩=some (I 0)∧W'.cell? ⟨g1,7,none⟩=some (I 0)∧W'.cell? ⟨g1,8,none⟩=some (I 1)∧W'.cell? ⟨g1,9,none⟩=some (I 1)) (fun _=>True) 4 rfl (by kernel_rfl) ?_
 refine zAd (i:=0) (oi:=_) (v:=.agg #[I 0,I 1,I 0,I 0,I 0,I 0,I 0,I 0,I 1,I 1]) rfl (by kernel_rfl) (by kernel_rfl) (by kernel_rfl) (by kernel_rfl) (fun _ _ _ h=>h) (Or.inl ⟨by rfl,?_⟩) ⟨un HS0,trivial⟩ ?_
 ·intro W' hW
  go_split_ands
  go_simp
 clear HBD HS0
 generalize U.drew=U0 at *
 refine zAg (i:=1) (o:=_) (by kernel_rfl) rfl rfl (fun K hK=>?_)
 go_simp
 refine(zEv 1000 _).mono ?_
 rintro e U1 ⟨rfl,hb⟩
 have HR3:=zAb ((un HR2).later hb);have HQ3:=zAb ((un HQ2).later hb);have HB3:=zAb ((un HB2).trans (hb.mono (un HB2).size))
 clear hb HR2 HQ2 HB2
 refine hK _ _ ⟨un HSS _ (un HQ3),trivial⟩ ?_
 clear hK K
 refine zAg (i:=2) (o:=_) (by kernel_rfl) rfl rfl (fun K hK=>?_)
 go_simp
 refine(zFm 0 1 0 0 0 0 0 0 1 1 0 0 0 0 0 0 0 0 1000 1 0 1 0 0 0 0 0 0 1 1000 _ (by decide +kernel) (by decide +kernel) (by decide +kernel)).mono ?_
 rintro e U2 ⟨rfl,hb⟩
 have HR4:=zAb ((un HR3).later hb);have HQ4:=zAb ((un HQ3).later hb);have HB4:=zAb ((un HB3).trans (hb.mono (un HB3).size))
 clear hb HR3 HQ3 HB3
 refine hK _ _ ⟨un HSS _ (un HQ4),trivial⟩ ?_
 clear hK K
 refine zAj (i:=3) (o:=_) (by kernel_rfl) rfl rfl (by kernel_rfl) (fun K hK=>?_)
 refine wp_store_row 235 (.tmp 0) (.tmp 12) rfl w.heap.size #[I 0,I 1,I 0,I 0,I 0,I 0,I 0,I 0,I 1,I 1000] rfl rfl 235 _ (un HR4) (by rw[zCv];rfl) rfl (by kernel_rfl) (hK _ _ trivial ?_)
 clear hK K
 refine zAm (by kernel_rfl) ?_
 go_wp2_with fail
 exact bodyPost_ret (v:=.agg #[I 0,I 1,I 0,I 0,I 0,I 0,I 0,I 0,I 1,I 1000]) (res43 Tryz.results223 _ _ w.heap.size _ rfl rfl ((un HR4).setRow _)) rfl ⟨rfl,below_setRow (un HB4) (Nat.le_refl _) _⟩
theorem T2.past {W V:World} {x y:Value} (h:Below (W.alloc (.cells #[x,y] 28)).heap.size (W.alloc (.cells #[x,y] 28)) V):T2 V W.heap.size x y :=
  (show T2 (W.alloc (.cells #[x,y] 28)) W.heap.size x y from⟨by simp[go_sem],by simp[go_sem],by simp[go_sem],by simp[go_sem]⟩).later h
theorem T2.pastD {W V:World} {x y:Value} (h:Below (W.alloc (.cells #[x,y] 28)).drew.heap.size (W.alloc (.cells #[x,y] 28)).drew V):T2 V W.heap.size x y :=
  ((show T2 (W.alloc (.cells #[x,y] 28)) W.heap.size x y from⟨by simp[go_sem],by simp[go_sem],by simp[go_sem],by simp[go_sem]⟩).later ((Below.refl _ _).drew)).later h
theorem T2.otherP {W:World} {g:Nat} {x y:Value} (h:T2 W g x y) (k:Nat) (hp:k≠g) (u v:Value):T2 (zBh W k u v) g x y:=by
  unfold zBh
  have e:∀(W:World) (o:Nat) (u:Value),T2 W g x y→T2 (W.setCell ⟨k,o,none⟩ u) g x y:=fun W o u h=>
    ⟨by rw[World.cell?_setCell_other _ _ _ _ (by intro e;cases e;exact hp rfl)];exact h.c0,by rw[World.cell?_setCell_other _ _ _ _ (by intro e;cases e;exact hp rfl)];exact h.c1,by rw[World.frozen?_setCell];exact h.f0,by rw[World.frozen?_setCell];exact h.f1⟩
  exact e _ _ _ (e _ _ _ h)
theorem zGz (a0 a1 a2 a3 a4 a5 a6 a7 n d:Int) (an ad bn bd fn fd:ByteArray) (w:World)
    (hoa:∀W,Below w.heap.size w W→Calls Tryz.prog 103 #[I n] W fun r w'=>r=.returned (.agg #[.string an,.string ad])∧Bw W w')
    (hob:∀W,Below w.heap.size w W→Calls Tryz.prog 103 #[I d] W fun r w'=>r=.returned (.agg #[.string bn,.string bd])∧Bw W w')
    (hqu:∀W,Below w.heap.size w W→Calls Tryz.prog 31 #[.agg #[.string an,.string ad],.agg #[.string bn,.string bd]] W fun r w'=>r=.returned (.tuple #[.agg #[.string fn,.string fd],I 0])∧Bw W w') :
    Calls Tryz.prog 226 #[.agg (J a0 a1 a2 a3 a4 a5 a6 a7 n d)] w fun r w'=>r=.returned (.agg #[.string fn,.string fd])∧Bw w w':=by
  obtain⟨V,hV⟩:∃V,V=(w.alloc (.cells (J a0 a1 a2 a3 a4 a5 a6 a7 n d) 235)).alloc (.cells #[G #[],G #[]] 28):=⟨_,rfl⟩;have HP:Hid (UB V w.heap.size (J a0 a1 a2 a3 a4 a5 a6 a7 n d)):=by rw[hV];exact((zAc.new w (J a0 a1 a2 a3 a4 a5 a6 a7 n d) 235).alloc _).ub
  have HR:Hid (T2 V (w.heap.size+1) (G #[]) (G #[])):=by rw[hV];exact⟨by simp[go_sem],by simp[go_sem],by simp[go_sem],by simp[go_sem]⟩
  have HB:Hid (Bw w V):=by rw[hV];exact bA.alloc (by simp) _
  have HV:=zAb hV;have HOA:=zAb hoa;have HOB:=zAb hob;have HQU:=zAb hqu;clear hoa hob hqu;go_enter Tryz.func226,Tryz.ntmps226
  go_upto_region 1 with fail
  rw[←un HV];clear hV HV;have t0:V.cell? ⟨w.heap.size,8,none⟩=some (I n):=(un HP).c 8 _ rfl;have t1:V.cell? ⟨w.heap.size,9,none⟩=some (I d):=(un HP).c 9 _ rfl;have HC0:Hid (Bw V V.drew):=(Below.refl _ _).drew;have HUP:Hid (∀W,Below V.heap.size V W→Below w.heap.size w W):=fun W h=>bt HB h
  have HUA:Hid (∀W O,Below V.heap.size V W→Below w.heap.size w (W.alloc O)):=fun W O h=>(un HB).trans ((h.alloc h.size O).mono (un HB).size)
  have HUD:Hid (∀O,Below w.heap.size w (V.alloc O).drew):=fun O=>((un HB).alloc (un HB).size O).drew
  have hv0:=(un HP).lt
  go_region_held3 (fun w'=>w'.cell? ⟨w.heap.size,8,none⟩=some (I n)∧w'.cell? ⟨w.heap.size,9,none⟩=some (I d)) (first|assumption|(simp[go_sem, *];done)) ((first
    | (go_at_call_of 103 n;go_must(refine(un HOA _ (by first|exact un HUP _ (un HC0)|exact un HUA _ _ (un HC0)|exact un HUD _)).mono ?_;rintro e wa ⟨rfl,hb⟩;have HCwa:Hid (Bw V wa):=(by first|exact bt HC0 hb|exact zCs (un HC0) hb|exact zBw hb);(first|(have HZwa:=zAb ((un HZ0).later hb);clear u0 u1 uf0 uf1;have u0:=(un HZwa).c0;have u1:=(un HZwa).c1;have uf0:=(un HZwa).f0;have uf1:=(un HZwa).f1)|(have HZwa:Hid (T2 wa V.heap.size (G #[]) (G #[])):=(by first|exact T2.past hb|exact T2.pastD hb);have u0:=(un HZwa).c0;have u1:=(un HZwa).c1;have uf0:=(un HZwa).f0;have uf1:=(un HZwa).f1)|skip);clear hb t0 t1;have t0:wa.cell? ⟨w.heap.size,8,none⟩=some (I n):=((un HP).later (un HCwa)).c 8 _ rfl;have t1:wa.cell? ⟨w.heap.size,9,none⟩=some (I d):=((un HP).later (un HCwa)).c 9 _ rfl;have hvwa:=((un HP).later (un HCwa)).lt))
    | (go_at_call_of 103 d;go_must(refine(un HOB _ (by first|exact un HUP _ (un HCwa)|exact un HUA _ _ (un HCwa)|exact un HUD _)).mono ?_;rintro e wb ⟨rfl,hb⟩;have HCwb:Hid (Bw V wb):=(by first|exact bt HCwa hb|exact zCs (un HCwa) hb|exact zBw hb);(first|(have HZwb:=zAb ((un HZwa).later hb);clear u0 u1 uf0 uf1;have u0:=(un HZwb).c0;have u1:=(un HZwb).c1;have uf0:=(un HZwb).f0;have uf1:=(un HZwb).f1)|(have HZwb:Hid (T2 wb wa.heap.size (G #[]) (G #[])):=(by first|exact T2.past hb|exact T2.pastD hb);have u0:=(un HZwb).c0;have u1:=(un HZwb).c1;have uf0:=(un HZwb).f0;have uf1:=(un HZwb).f1)|skip);clear hb t0 t1;have t0:wb.cell? ⟨w.heap.size,8,none⟩=some (I n):=((un HP).later (un HCwb)).c 8 _ rfl;have t1:wb.cell? ⟨w.heap.size,9,none⟩=some (I d):=((un HP).later (un HCwb)).c 9 _ rfl;have hvwb:=((un HP).later (un HCwb)).lt))
    | (go_at_call 31;go_must(refine(un HQU _ (by first|exact un HUP _ (un HCwb)|exact un HUA _ _ (un HCwb)|exact un HUD _)).mono ?_;rintro e wc ⟨rfl,hb⟩;have HCwc:Hid (Bw V wc):=(by first|exact bt HCwb hb|exact zCs (un HCwb) hb|exact zBw hb);(first|(have HZwc:=zAb ((un HZwb).later hb);clear u0 u1 uf0 uf1;have u0:=(un HZwc).c0;have u1:=(un HZwc).c1;have uf0:=(un HZwc).f0;have uf1:=(un HZwc).f1)|(have HZwc:Hid (T2 wc wb.heap.size (G #[]) (G #[])):=(by first|exact T2.past hb|exact T2.pastD hb);have u0:=(un HZwc).c0;have u1:=(un HZwc).c1;have uf0:=(un HZwc).f0;have uf1:=(un HZwc).f1)|skip);clear hb t0 t1;have t0:wc.cell? ⟨w.heap.size,8,none⟩=some (I n):=((un HP).later (un HCwc)).c 8 _ rfl;have t1:wc.cell? ⟨w.heap.size,9,none⟩=some (I d):=((un HP).later (un HCwc)).c 9 _ rfl;have hvwc:=((un HP).later (un HCwc)).lt))))
  all_goals
    first
    | (obtain⟨X,hX⟩:∃X,X=wc.heap.size:=⟨_,rfl⟩
       obtain⟨U,hU⟩:∃U,U=wc.alloc (.cells #[.string fn,.string fd] 28):=⟨_,rfl⟩
       have HF:Hid (T2 U X (.string fn) (.string fd)∧T2 U (w.heap.size+1) (G #[]) (G #[])∧Bw w U):=by
         rw[hU,hX];exact⟨⟨by simp[go_sem],by simp[go_sem],by simp[go_sem],by simp[go_sem]⟩,((un HR).later (un HCwc)).later bA,un HUA _ _ (un HCwc)⟩
       rw[←hU,←hX];clear hU hX)
    | (obtain⟨X,hX⟩:∃X,X=wb.heap.size:=⟨_,rfl⟩
       obtain⟨U,hU⟩:∃U,U=(wc.setCell { block:=wb.heap.size,off:=0 } (.string fn)).setCell { block:=wb.heap.size,off:=1 } (.string fd):=⟨_,rfl⟩
       have HF:Hid (T2 U X (.string fn) (.string fd)∧T2 U (w.heap.size+1) (G #[]) (G #[])∧Bw w U):=by
         rw[hU,hX];have h1:=((un HR).later (un HCwb)).lt;exact⟨(un HZwc).store _ _,((un HR).later (un HCwc)).otherP wb.heap.size (by omega) _ _,zAk (un HUP _ (un HCwc)) (by omega) _ _⟩
       rw[←hU,←hX];clear hU hX)
    | (obtain⟨X,hX⟩:∃X,X=wa.heap.size:=⟨_,rfl⟩
       obtain⟨U,hU⟩:∃U,U=(wc.setCell { block:=wa.heap.size,off:=0 } (.string fn)).setCell { block:=wa.heap.size,off:=1 } (.string fd):=⟨_,rfl⟩
       have HF:Hid (T2 U X (.string fn) (.string fd)∧T2 U (w.heap.size+1) (G #[]) (G #[])∧Bw w U):=by
         rw[hU,hX];have h1:=((un HR).later (un HCwa)).lt;exact⟨(un HZwc).store _ _,((un HR).later (un HCwc)).otherP wa.heap.size (by omega) _ _,zAk (un HUP _ (un HCwc)) (by omega) _ _⟩
       rw[←hU,←hX];clear hU hX)
    | (obtain⟨X,hX⟩:∃X,X=V.heap.size:=⟨_,rfl⟩
       obtain⟨U,hU⟩:∃U,U=(wc.setCell { block:=V.heap.size,off:=0 } (.string fn)).setCell { block:=V.heap.size,off:=1 } (.string fd):=⟨_,rfl⟩
       have HF:Hid (T2 U X (.string fn) (.string fd)∧T2 U (w.heap.size+1) (G #[]) (G #[])∧Bw w U):=by
         rw[hU,hX];have h1:=(un HR).lt;exact⟨(un HZwc).store _ _,((un HR).later (un HCwc)).otherP V.heap.size (by omega) _ _,zAk (un HUP _ (un HCwc)) (by omega) _ _⟩
       rw[←hU,←hX];clear hU hX)
  all_goals
    have x0:=(un HF).1.c0;have x1:=(un HF).1.c1;have r0:=(un HF).2.1.c0;have r1:=(un HF).2.1.c1;have rf0:=(un HF).2.1.f0;have rf1:=(un HF).2.1.f1
    go_wp2_with fail
    have hS:=(un HF).2.1.store (.string fn) (.string fd);have hb:=zAk (un HF).2.2 (by omega) (.string fn) (.string fd) (g:=w.heap.size+1);have v0:=hS.c0;have v1:=hS.c1;exact bodyPost_ret (v:=.agg #[.string fn,.string fd]) (w:=zBh U (w.heap.size+1) (.string fn) (.string fd)) (by simp[results,Tryz.results226,go_sem,v0,v1]) rfl ⟨rfl,hb⟩
end Go.Proofs.YtliadckofhblnaaGreatDoor

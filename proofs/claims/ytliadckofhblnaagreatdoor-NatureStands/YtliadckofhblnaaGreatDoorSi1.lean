/- Amounts of si: number, one, times, by. -/
import Derived.Test.YtliadckofhblnaaGreatDoorLimb3
import Derived.Test.YtliadckofhblnaaGreatDoorFactor
import Derived.Test.YtliadckofhblnaaGreatDoorPower
set_option maxHeartbeats 8000000
set_option maxRecDepth 100000
namespace Go.Proofs.YtliadckofhblnaaGreatDoor
open Go.RowKit
abbrev z10:Array Value:=(J 0 0 0 0 0 0 0 0 0 0)
theorem zAu:(Tryz.prog.info? 180).map (·.size)=some 10:=by kernel_rfl
theorem res55 {fn:Func} {p:Tmp} (h:fn.results=#[.cell p 180]) (tmps:Array Value) (w:World) (g:Nat) (vs:Array Value) (hl:vs.size=10) (hp:tmps.getD p undef=.pointer (some ⟨g,0,none⟩)) (ho:zAc w g 180 vs) :
  (results fn tmps).run Tryz.prog w=.ok (.agg vs) w:=by
 rw[zBb h,hp];simp only[asAddr,Sem.run_pure,Result.andThen_ok];rw[run_loadVar_row w g 180 180 vs (0,0) _ ho Tryz.underlying180 rfl (by rw[zAu,hl])]
theorem ix0 (x0 x1 x2 x3 x4 x5 x6 x7:Int) (w:World):(Instr.index 25 (.agg #[I x0,I x1,I x2,I x3,I x4,I x5,I x6,I x7]) (I 0)).run Tryz.prog w=.ok (I x0) w:=by kernel_rfl
theorem ix1 (x0 x1 x2 x3 x4 x5 x6 x7:Int) (w:World):(Instr.index 25 (.agg #[I x0,I x1,I x2,I x3,I x4,I x5,I x6,I x7]) (I 1)).run Tryz.prog w=.ok (I x1) w:=by kernel_rfl
theorem ix2 (x0 x1 x2 x3 x4 x5 x6 x7:Int) (w:World):(Instr.index 25 (.agg #[I x0,I x1,I x2,I x3,I x4,I x5,I x6,I x7]) (I 2)).run Tryz.prog w=.ok (I x2) w:=by kernel_rfl
theorem ix3 (x0 x1 x2 x3 x4 x5 x6 x7:Int) (w:World):(Instr.index 25 (.agg #[I x0,I x1,I x2,I x3,I x4,I x5,I x6,I x7]) (I 3)).run Tryz.prog w=.ok (I x3) w:=by kernel_rfl
theorem ix4 (x0 x1 x2 x3 x4 x5 x6 x7:Int) (w:World):(Instr.index 25 (.agg #[I x0,I x1,I x2,I x3,I x4,I x5,I x6,I x7]) (I 4)).run Tryz.prog w=.ok (I x4) w:=by kernel_rfl
theorem ix5 (x0 x1 x2 x3 x4 x5 x6 x7:Int) (w:World):(Instr.index 25 (.agg #[I x0,I x1,I x2,I x3,I x4,I x5,I x6,I x7]) (I 5)).run Tryz.prog w=.ok (I x5) w:=by kernel_rfl
theorem ix6 (x0 x1 x2 x3 x4 x5 x6 x7:Int) (w:World):(Instr.index 25 (.agg #[I x0,I x1,I x2,I x3,I x4,I x5,I x6,I x7]) (I 6)).run Tryz.prog w=.ok (I x6) w:=by kernel_rfl
theorem ix7 (x0 x1 x2 x3 x4 x5 x6 x7:Int) (w:World):(Instr.index 25 (.agg #[I x0,I x1,I x2,I x3,I x4,I x5,I x6,I x7]) (I 7)).run Tryz.prog w=.ok (I x7) w:=by kernel_rfl
theorem zBp (n:Int) (w:World):Calls Tryz.prog 320 #[I n] w fun r w'=>r=.returned (.agg (J 0 0 0 0 0 0 0 0 n 1))∧Bw w w':=by
 go_enter Tryz.func320,Tryz.ntmps320;have HR:Hid (zAc (w.alloc (.cells (J 0 0 0 0 0 0 0 0 0 0) 180)) w.heap.size 180 (J 0 0 0 0 0 0 0 0 0 0)):=zAc.new _ _ _
 go_wp2_with (refine zAn 180 10 zAu rfl (.tmp 2) (.tmp 4) rfl w.heap.size (J 0 0 0 0 0 0 0 0 0 0) (J 0 0 0 0 0 0 0 0 n 1) rfl rfl rfl rfl (un HR) (by kernel_rfl) ?_)
 refine bodyPost_ret (v:=.agg (J 0 0 0 0 0 0 0 0 n 1)) (res55 Tryz.results320 _ _ w.heap.size _ rfl rfl ((un HR).setRow _)) rfl ⟨rfl,below_setRow bA (Nat.le_refl _) _⟩
theorem siTimes (a0 a1 a2 a3 a4 a5 a6 a7 an ad b0 b1 b2 b3 b4 b5 b6 b7 bn bd:Int) (w:World):Calls Tryz.prog 315 #[.agg (J a0 a1 a2 a3 a4 a5 a6 a7 an ad),.agg (J b0 b1 b2 b3 b4 b5 b6 b7 bn bd)] w fun r w'=>r=.returned (.agg (J (wrap64 (a0+b0)) (wrap64 (a1+b1)) (wrap64 (a2+b2)) (wrap64 (a3+b3)) (wrap64 (a4+b4)) (wrap64 (a5+b5)) (wrap64 (a6+b6)) (wrap64 (a7+b7)) (wrap64 (an*bn)) (wrap64 (ad*bd))))∧Bw w w':=by
 have i0:=ix0 b0 b1 b2 b3 b4 b5 b6 b7;have i1:=ix1 b0 b1 b2 b3 b4 b5 b6 b7;have i2:=ix2 b0 b1 b2 b3 b4 b5 b6 b7;have i3:=ix3 b0 b1 b2 b3 b4 b5 b6 b7;have i4:=ix4 b0 b1 b2 b3 b4 b5 b6 b7;have i5:=ix5 b0 b1 b2 b3 b4 b5 b6 b7;have i6:=ix6 b0 b1 b2 b3 b4 b5 b6 b7;have i7:=ix7 b0 b1 b2 b3 b4 b5 b6 b7;go_enter Tryz.func315,Tryz.ntmps315
 go_wp2_with fail
 refine wp_loop_rounds 9 ?_
 repeat any_goals (rw[rounds_succ];go_wp2_with fail)
 clear i0 i1 i2 i3 i4 i5 i6 i7;obtain⟨V,hV⟩:∃V,V=(((w.alloc (.cells (J (wrap64 (a0+b0)) (wrap64 (a1+b1)) (wrap64 (a2+b2)) (wrap64 (a3+b3)) (wrap64 (a4+b4)) (wrap64 (a5+b5)) (wrap64 (a6+b6)) (wrap64 (a7+b7)) an ad) 180)).alloc (.cells (J b0 b1 b2 b3 b4 b5 b6 b7 bn bd) 180)).alloc (.cells (J 0 0 0 0 0 0 0 0 0 0) 180)):=⟨_,rfl⟩;have HA:Hid (zAc V w.heap.size 180 (J (wrap64 (a0+b0)) (wrap64 (a1+b1)) (wrap64 (a2+b2)) (wrap64 (a3+b3)) (wrap64 (a4+b4)) (wrap64 (a5+b5)) (wrap64 (a6+b6)) (wrap64 (a7+b7)) an ad)):=by rw[hV];exact((zAc.new w (J (wrap64 (a0+b0)) (wrap64 (a1+b1)) (wrap64 (a2+b2)) (wrap64 (a3+b3)) (wrap64 (a4+b4)) (wrap64 (a5+b5)) (wrap64 (a6+b6)) (wrap64 (a7+b7)) an ad) 180).alloc _).alloc _
 have HB:Hid (zAc V (w.heap.size+1) 180 (J b0 b1 b2 b3 b4 b5 b6 b7 bn bd)):=by rw[hV];have h:=(zAc.new (w.alloc (.cells (J (wrap64 (a0+b0)) (wrap64 (a1+b1)) (wrap64 (a2+b2)) (wrap64 (a3+b3)) (wrap64 (a4+b4)) (wrap64 (a5+b5)) (wrap64 (a6+b6)) (wrap64 (a7+b7)) an ad) 180)) (J b0 b1 b2 b3 b4 b5 b6 b7 bn bd) 180).alloc (.cells (J 0 0 0 0 0 0 0 0 0 0) 180);rw[Dm.size_alloc]at h;exact h
 have HR:Hid (zAc V (w.heap.size+2) 180 (J 0 0 0 0 0 0 0 0 0 0)):=by rw[hV];have h:=zAc.new ((w.alloc (.cells (J (wrap64 (a0+b0)) (wrap64 (a1+b1)) (wrap64 (a2+b2)) (wrap64 (a3+b3)) (wrap64 (a4+b4)) (wrap64 (a5+b5)) (wrap64 (a6+b6)) (wrap64 (a7+b7)) an ad) 180)).alloc (.cells (J b0 b1 b2 b3 b4 b5 b6 b7 bn bd) 180)) (J 0 0 0 0 0 0 0 0 0 0) 180;rw[Dm.size_alloc,Dm.size_alloc]at h;exact h
 have HW:Hid (Bw w V):=by rw[hV];exact(bA.alloc (by simp) _).alloc (by simp;omega) _
 rw[←hV];clear hV;obtain⟨g2,hg2⟩:∃g2,g2=w.heap.size:=⟨_,rfl⟩;obtain⟨g3,hg3⟩:∃g3,g3=w.heap.size+1:=⟨_,rfl⟩;obtain⟨g4,hg4⟩:∃g4,g4=w.heap.size+2:=⟨_,rfl⟩;have HG:Hid (w.heap.size≤g2∧w.heap.size≤g4∧¬g2=g4∧¬g3=g2∧¬g4=g2):=(by show _∧_∧_∧_∧_;omega);rw[←hg4]at HR;rw[show w.heap.size+1+1=g4 from hg4.symm,←hg3,←hg2];rw[←hg3]at HB;rw[←hg2]at HA;clear hg2 hg3 hg4;have p8:V.cell? ⟨g2,8,none⟩=some (I an):=(un HA).ub.c 8 _ rfl;have p9:V.cell? ⟨g2,9,none⟩=some (I ad):=(un HA).ub.c 9 _ rfl;have q8:V.cell? ⟨g3,8,none⟩=some (I bn):=(un HB).ub.c 8 _ rfl;have q9:V.cell? ⟨g3,9,none⟩=some (I bd):=(un HB).ub.c 9 _ rfl;have f8:V.frozen? ⟨g2,8,none⟩=false:=(un HA).ub.f 8 (I an) rfl;have f9:V.frozen? ⟨g2,9,none⟩=false:=(un HA).ub.f 9 (I ad) rfl;have HS7:Hid ((V.drew).cell? ⟨g3,9,none⟩=some (I bd)):=q9;have h7a:∀v,(V.setCell ⟨g2,8,none⟩ v).cell? ⟨g3,9,none⟩=some (I bd):=fun v=>(World.cell?_setCell_other V _ _ _ (by intro e;simp only[Addr.mk.injEq]at e;exact(un HG).2.2.2.1 e.1.symm)).trans q9
 have h7b:∀v u,((V.setCell ⟨g2,8,none⟩ v).setCell ⟨g2,9,none⟩ u).cell? ⟨g3,9,none⟩=some (I bd):=fun v u=>(World.cell?_setCell_other _ _ _ _ (by intro e;simp only[Addr.mk.injEq]at e;exact(un HG).2.2.2.1 e.1.symm)).trans (h7a v)
 have HS0:Hid ((V.drew).cell? ⟨g2,8,none⟩=some (I an)∧(V.drew).cell? ⟨g2,9,none⟩=some (I ad)∧(V.drew).cell? ⟨g3,8,none⟩=some (I bn)∧(V.drew).cell? ⟨g3,9,none⟩=some (I bd)):=⟨p8,p9,q8,q9⟩;refine zAi 11 (fun W=>W.cell? ⟨g2,8,none⟩=some (I an)∧W.cell? ⟨g2,9,none⟩=some (I ad)∧W.cell? ⟨g3,8,none⟩=some (I bn)∧W.cell? ⟨g3,9,none⟩=some (I bd)) (fun W=>W.cell? ⟨g3,9,none⟩=some (I bd)) 14 rfl (by kernel_rfl) ?_;refine wT 0 (.pointer (some ⟨g2,8,none⟩)) rfl (Or.inl ⟨by rfl,?_⟩) ⟨un HS0,un HS7⟩ ?_
 ·intro W hW
  go_split_ands
  go_simp
 refine wT 1 (I an) rfl (Or.inl ⟨by rfl,?_⟩) ⟨un HS0,un HS7⟩ ?_
 ·intro W hW
  go_split_ands
  go_simp
 refine wT 2 (.pointer (some ⟨g3,8,none⟩)) rfl (Or.inl ⟨by rfl,?_⟩) ⟨un HS0,un HS7⟩ ?_
 ·intro W hW
  go_split_ands
  go_simp
 refine wT 3 (I bn) rfl (Or.inl ⟨by rfl,?_⟩) ⟨un HS0,un HS7⟩ ?_
 ·intro W hW
  go_split_ands
  go_simp
 refine wT 4 (I (wrap64 (an*bn))) rfl (Or.inl ⟨by rfl,?_⟩) ⟨un HS0,un HS7⟩ ?_
 ·intro W hW
  go_split_ands
  go_simp
  exact IntWalk.i64_left _
 refine wT 5 (.pointer (some ⟨g2,9,none⟩)) rfl (Or.inl ⟨by rfl,?_⟩) ⟨un HS0,un HS7⟩ ?_
 ·intro W hW
  go_split_ands
  go_simp
 refine wT 6 (I ad) rfl (Or.inl ⟨by rfl,?_⟩) ⟨un HS0,un HS7⟩ ?_
 ·intro W hW
  go_split_ands
  go_simp
 refine wT7 7 (.pointer (some ⟨g3,9,none⟩)) rfl (Or.inl ⟨by rfl,?_⟩) ⟨un HS0,un HS7⟩ ?_
 ·intro W hW
  go_split_ands
  go_simp
 refine wT7 8 (I bd) rfl (Or.inl ⟨by rfl,?_⟩) ⟨un HS0,un HS7⟩ ?_
 ·intro W hW
  go_split_ands
  go_simp
 refine wT7 9 (I (wrap64 (ad*bd))) rfl (Or.inl ⟨by rfl,?_⟩) ⟨un HS0,un HS7⟩ ?_
 ·intro W hW
  go_split_ands
  go_simp
  exact IntWalk.i64_left _
 refine wT 10 (.pointer (some ⟨g2,8,none⟩)) rfl (Or.inl ⟨by rfl,?_⟩) ⟨un HS0,un HS7⟩ ?_
 ·intro W hW
  go_split_ands
  go_simp
 clear HS0 HS7;refine wL 11 rfl rfl (fun K hK=>?_)
 go_simp
 refine hK _ _ (h7a _) ?_;clear hK K;refine wL 12 rfl rfl (fun K hK=>?_)
 go_simp
 refine hK _ _ (h7a _) ?_;clear hK K;refine wL 13 rfl rfl (fun K hK=>?_)
 go_simp
 refine hK _ _ (h7b _ _) ?_;clear hK K;refine wDn ?_;have HA2:Hid (zAc ((V.setCell ⟨g2,8,none⟩ (I (wrap64 (an*bn)))).setCell ⟨g2,9,none⟩ (I (wrap64 (ad*bd)))).drew g2 180 (J (wrap64 (a0+b0)) (wrap64 (a1+b1)) (wrap64 (a2+b2)) (wrap64 (a3+b3)) (wrap64 (a4+b4)) (wrap64 (a5+b5)) (wrap64 (a6+b6)) (wrap64 (a7+b7)) (wrap64 (an*bn)) (wrap64 (ad*bd)))):=((un HA).set 8 (I (wrap64 (an*bn)))).set 9 (I (wrap64 (ad*bd)));have HR2:Hid (zAc ((V.setCell ⟨g2,8,none⟩ (I (wrap64 (an*bn)))).setCell ⟨g2,9,none⟩ (I (wrap64 (ad*bd)))).drew g4 180 (J 0 0 0 0 0 0 0 0 0 0)):=((un HR).otherSet (un HG).2.2.2.2 8 (I (wrap64 (an*bn)))).otherSet (un HG).2.2.2.2 9 (I (wrap64 (ad*bd)));have HW2:Hid (Bw w ((V.setCell ⟨g2,8,none⟩ (I (wrap64 (an*bn)))).setCell ⟨g2,9,none⟩ (I (wrap64 (ad*bd)))).drew):=(((un HW).setCell (p:=⟨g2,8,none⟩) (un HG).1 _).setCell (p:=⟨g2,9,none⟩) (un HG).1 _).drew;clear p8 p9 q8 q9 f8 f9 h7a h7b HA HR HW HB;generalize ((V.setCell ⟨g2,8,none⟩ (I (wrap64 (an*bn)))).setCell ⟨g2,9,none⟩ (I (wrap64 (ad*bd)))).drew=U at *
 have u0:U.cell? ⟨g2,0,none⟩=some (I (wrap64 (a0+b0))):=(un HA2).ub.c 0 _ rfl;have u1:U.cell? ⟨g2,1,none⟩=some (I (wrap64 (a1+b1))):=(un HA2).ub.c 1 _ rfl;have u2:U.cell? ⟨g2,2,none⟩=some (I (wrap64 (a2+b2))):=(un HA2).ub.c 2 _ rfl;have u3:U.cell? ⟨g2,3,none⟩=some (I (wrap64 (a3+b3))):=(un HA2).ub.c 3 _ rfl;have u4:U.cell? ⟨g2,4,none⟩=some (I (wrap64 (a4+b4))):=(un HA2).ub.c 4 _ rfl;have u5:U.cell? ⟨g2,5,none⟩=some (I (wrap64 (a5+b5))):=(un HA2).ub.c 5 _ rfl;have u6:U.cell? ⟨g2,6,none⟩=some (I (wrap64 (a6+b6))):=(un HA2).ub.c 6 _ rfl;have u7:U.cell? ⟨g2,7,none⟩=some (I (wrap64 (a7+b7))):=(un HA2).ub.c 7 _ rfl;have u8:U.cell? ⟨g2,8,none⟩=some (I (wrap64 (an*bn))):=(un HA2).ub.c 8 _ rfl;have u9:U.cell? ⟨g2,9,none⟩=some (I (wrap64 (ad*bd))):=(un HA2).ub.c 9 _ rfl
 go_wp2_with (refine zAn 180 10 zAu rfl (.tmp 4) (.tmp 34) rfl g4 (J 0 0 0 0 0 0 0 0 0 0) (J (wrap64 (a0+b0)) (wrap64 (a1+b1)) (wrap64 (a2+b2)) (wrap64 (a3+b3)) (wrap64 (a4+b4)) (wrap64 (a5+b5)) (wrap64 (a6+b6)) (wrap64 (a7+b7)) (wrap64 (an*bn)) (wrap64 (ad*bd))) rfl rfl rfl rfl (un HR2) (by kernel_rfl) ?_)
 refine bodyPost_ret (v:=.agg (J (wrap64 (a0+b0)) (wrap64 (a1+b1)) (wrap64 (a2+b2)) (wrap64 (a3+b3)) (wrap64 (a4+b4)) (wrap64 (a5+b5)) (wrap64 (a6+b6)) (wrap64 (a7+b7)) (wrap64 (an*bn)) (wrap64 (ad*bd)))) (res55 Tryz.results315 _ _ g4 _ rfl rfl ((un HR2).setRow _)) rfl ⟨rfl,below_setRow (un HW2) (un HG).2.1 _⟩
theorem siBy (a0 a1 a2 a3 a4 a5 a6 a7 an ad b0 b1 b2 b3 b4 b5 b6 b7 bn bd:Int) (w:World):Calls Tryz.prog 316 #[.agg (J a0 a1 a2 a3 a4 a5 a6 a7 an ad),.agg (J b0 b1 b2 b3 b4 b5 b6 b7 bn bd)] w fun r w'=>r=.returned (.agg (J (wrap64 (a0 - b0)) (wrap64 (a1 - b1)) (wrap64 (a2 - b2)) (wrap64 (a3 - b3)) (wrap64 (a4 - b4)) (wrap64 (a5 - b5)) (wrap64 (a6 - b6)) (wrap64 (a7 - b7)) (wrap64 (an*bd)) (wrap64 (ad*bn))))∧Bw w w':=by
 have i0:=ix0 b0 b1 b2 b3 b4 b5 b6 b7;have i1:=ix1 b0 b1 b2 b3 b4 b5 b6 b7;have i2:=ix2 b0 b1 b2 b3 b4 b5 b6 b7;have i3:=ix3 b0 b1 b2 b3 b4 b5 b6 b7;have i4:=ix4 b0 b1 b2 b3 b4 b5 b6 b7;have i5:=ix5 b0 b1 b2 b3 b4 b5 b6 b7;have i6:=ix6 b0 b1 b2 b3 b4 b5 b6 b7;have i7:=ix7 b0 b1 b2 b3 b4 b5 b6 b7;go_enter Tryz.func316,Tryz.ntmps316
 go_wp2_with fail
 refine wp_loop_rounds 9 ?_
 repeat any_goals (rw[rounds_succ];go_wp2_with fail)
 clear i0 i1 i2 i3 i4 i5 i6 i7;obtain⟨V,hV⟩:∃V,V=(((w.alloc (.cells (J (wrap64 (a0 - b0)) (wrap64 (a1 - b1)) (wrap64 (a2 - b2)) (wrap64 (a3 - b3)) (wrap64 (a4 - b4)) (wrap64 (a5 - b5)) (wrap64 (a6 - b6)) (wrap64 (a7 - b7)) an ad) 180)).alloc (.cells (J b0 b1 b2 b3 b4 b5 b6 b7 bn bd) 180)).alloc (.cells (J 0 0 0 0 0 0 0 0 0 0) 180)):=⟨_,rfl⟩;have HA:Hid (zAc V w.heap.size 180 (J (wrap64 (a0 - b0)) (wrap64 (a1 - b1)) (wrap64 (a2 - b2)) (wrap64 (a3 - b3)) (wrap64 (a4 - b4)) (wrap64 (a5 - b5)) (wrap64 (a6 - b6)) (wrap64 (a7 - b7)) an ad)):=by rw[hV];exact((zAc.new w (J (wrap64 (a0 - b0)) (wrap64 (a1 - b1)) (wrap64 (a2 - b2)) (wrap64 (a3 - b3)) (wrap64 (a4 - b4)) (wrap64 (a5 - b5)) (wrap64 (a6 - b6)) (wrap64 (a7 - b7)) an ad) 180).alloc _).alloc _
 have HB:Hid (zAc V (w.heap.size+1) 180 (J b0 b1 b2 b3 b4 b5 b6 b7 bn bd)):=by rw[hV];have h:=(zAc.new (w.alloc (.cells (J (wrap64 (a0 - b0)) (wrap64 (a1 - b1)) (wrap64 (a2 - b2)) (wrap64 (a3 - b3)) (wrap64 (a4 - b4)) (wrap64 (a5 - b5)) (wrap64 (a6 - b6)) (wrap64 (a7 - b7)) an ad) 180)) (J b0 b1 b2 b3 b4 b5 b6 b7 bn bd) 180).alloc (.cells (J 0 0 0 0 0 0 0 0 0 0) 180);rw[Dm.size_alloc]at h;exact h
 have HR:Hid (zAc V (w.heap.size+2) 180 (J 0 0 0 0 0 0 0 0 0 0)):=by rw[hV];have h:=zAc.new ((w.alloc (.cells (J (wrap64 (a0 - b0)) (wrap64 (a1 - b1)) (wrap64 (a2 - b2)) (wrap64 (a3 - b3)) (wrap64 (a4 - b4)) (wrap64 (a5 - b5)) (wrap64 (a6 - b6)) (wrap64 (a7 - b7)) an ad) 180)).alloc (.cells (J b0 b1 b2 b3 b4 b5 b6 b7 bn bd) 180)) (J 0 0 0 0 0 0 0 0 0 0) 180;rw[Dm.size_alloc,Dm.size_alloc]at h;exact h
 have HW:Hid (Bw w V):=by rw[hV];exact(bA.alloc (by simp) _).alloc (by simp;omega) _
 rw[←hV];clear hV;obtain⟨g2,hg2⟩:∃g2,g2=w.heap.size:=⟨_,rfl⟩;obtain⟨g3,hg3⟩:∃g3,g3=w.heap.size+1:=⟨_,rfl⟩;obtain⟨g4,hg4⟩:∃g4,g4=w.heap.size+2:=⟨_,rfl⟩;have HG:Hid (w.heap.size≤g2∧w.heap.size≤g4∧¬g2=g4∧¬g3=g2∧¬g4=g2):=(by show _∧_∧_∧_∧_;omega);rw[←hg4]at HR;rw[show w.heap.size+1+1=g4 from hg4.symm,←hg3,←hg2];rw[←hg3]at HB;rw[←hg2]at HA;clear hg2 hg3 hg4;have p8:V.cell? ⟨g2,8,none⟩=some (I an):=(un HA).ub.c 8 _ rfl;have p9:V.cell? ⟨g2,9,none⟩=some (I ad):=(un HA).ub.c 9 _ rfl;have q8:V.cell? ⟨g3,8,none⟩=some (I bn):=(un HB).ub.c 8 _ rfl;have q9:V.cell? ⟨g3,9,none⟩=some (I bd):=(un HB).ub.c 9 _ rfl;have f8:V.frozen? ⟨g2,8,none⟩=false:=(un HA).ub.f 8 (I an) rfl;have f9:V.frozen? ⟨g2,9,none⟩=false:=(un HA).ub.f 9 (I ad) rfl;have HS7:Hid ((V.drew).cell? ⟨g3,8,none⟩=some (I bn)):=q8;have h7a:∀v,(V.setCell ⟨g2,8,none⟩ v).cell? ⟨g3,8,none⟩=some (I bn):=fun v=>(World.cell?_setCell_other V _ _ _ (by intro e;simp only[Addr.mk.injEq]at e;exact(un HG).2.2.2.1 e.1.symm)).trans q8
 have h7b:∀v u,((V.setCell ⟨g2,8,none⟩ v).setCell ⟨g2,9,none⟩ u).cell? ⟨g3,8,none⟩=some (I bn):=fun v u=>(World.cell?_setCell_other _ _ _ _ (by intro e;simp only[Addr.mk.injEq]at e;exact(un HG).2.2.2.1 e.1.symm)).trans (h7a v)
 have HS0:Hid ((V.drew).cell? ⟨g2,8,none⟩=some (I an)∧(V.drew).cell? ⟨g2,9,none⟩=some (I ad)∧(V.drew).cell? ⟨g3,8,none⟩=some (I bn)∧(V.drew).cell? ⟨g3,9,none⟩=some (I bd)):=⟨p8,p9,q8,q9⟩;refine zAi 11 (fun W=>W.cell? ⟨g2,8,none⟩=some (I an)∧W.cell? ⟨g2,9,none⟩=some (I ad)∧W.cell? ⟨g3,8,none⟩=some (I bn)∧W.cell? ⟨g3,9,none⟩=some (I bd)) (fun W=>W.cell? ⟨g3,8,none⟩=some (I bn)) 14 rfl (by kernel_rfl) ?_;refine wT 0 (.pointer (some ⟨g2,8,none⟩)) rfl (Or.inl ⟨by rfl,?_⟩) ⟨un HS0,un HS7⟩ ?_
 ·intro W hW
  go_split_ands
  go_simp
 refine wT 1 (I an) rfl (Or.inl ⟨by rfl,?_⟩) ⟨un HS0,un HS7⟩ ?_
 ·intro W hW
  go_split_ands
  go_simp
 refine wT 2 (.pointer (some ⟨g3,9,none⟩)) rfl (Or.inl ⟨by rfl,?_⟩) ⟨un HS0,un HS7⟩ ?_
 ·intro W hW
  go_split_ands
  go_simp
 refine wT 3 (I bd) rfl (Or.inl ⟨by rfl,?_⟩) ⟨un HS0,un HS7⟩ ?_
 ·intro W hW
  go_split_ands
  go_simp
 refine wT 4 (I (wrap64 (an*bd))) rfl (Or.inl ⟨by rfl,?_⟩) ⟨un HS0,un HS7⟩ ?_
 ·intro W hW
  go_split_ands
  go_simp
  exact IntWalk.i64_left _
 refine wT 5 (.pointer (some ⟨g2,9,none⟩)) rfl (Or.inl ⟨by rfl,?_⟩) ⟨un HS0,un HS7⟩ ?_
 ·intro W hW
  go_split_ands
  go_simp
 refine wT 6 (I ad) rfl (Or.inl ⟨by rfl,?_⟩) ⟨un HS0,un HS7⟩ ?_
 ·intro W hW
  go_split_ands
  go_simp
 refine wT7 7 (.pointer (some ⟨g3,8,none⟩)) rfl (Or.inl ⟨by rfl,?_⟩) ⟨un HS0,un HS7⟩ ?_
 ·intro W hW
  go_split_ands
  go_simp
 refine wT7 8 (I bn) rfl (Or.inl ⟨by rfl,?_⟩) ⟨un HS0,un HS7⟩ ?_
 ·intro W hW
  go_split_ands
  go_simp
 refine wT7 9 (I (wrap64 (ad*bn))) rfl (Or.inl ⟨by rfl,?_⟩) ⟨un HS0,un HS7⟩ ?_
 ·intro W hW
  go_split_ands
  go_simp
  exact IntWalk.i64_left _
 refine wT 10 (.pointer (some ⟨g2,8,none⟩)) rfl (Or.inl ⟨by rfl,?_⟩) ⟨un HS0,un HS7⟩ ?_
 ·intro W hW
  go_split_ands
  go_simp
 clear HS0 HS7;refine wL 11 rfl rfl (fun K hK=>?_)
 go_simp
 refine hK _ _ (h7a _) ?_;clear hK K;refine wL 12 rfl rfl (fun K hK=>?_)
 go_simp
 refine hK _ _ (h7a _) ?_;clear hK K;refine wL 13 rfl rfl (fun K hK=>?_)
 go_simp
 refine hK _ _ (h7b _ _) ?_;clear hK K;refine wDn ?_;have HA2:Hid (zAc ((V.setCell ⟨g2,8,none⟩ (I (wrap64 (an*bd)))).setCell ⟨g2,9,none⟩ (I (wrap64 (ad*bn)))).drew g2 180 (J (wrap64 (a0 - b0)) (wrap64 (a1 - b1)) (wrap64 (a2 - b2)) (wrap64 (a3 - b3)) (wrap64 (a4 - b4)) (wrap64 (a5 - b5)) (wrap64 (a6 - b6)) (wrap64 (a7 - b7)) (wrap64 (an*bd)) (wrap64 (ad*bn)))):=((un HA).set 8 (I (wrap64 (an*bd)))).set 9 (I (wrap64 (ad*bn)));have HR2:Hid (zAc ((V.setCell ⟨g2,8,none⟩ (I (wrap64 (an*bd)))).setCell ⟨g2,9,none⟩ (I (wrap64 (ad*bn)))).drew g4 180 (J 0 0 0 0 0 0 0 0 0 0)):=((un HR).otherSet (un HG).2.2.2.2 8 (I (wrap64 (an*bd)))).otherSet (un HG).2.2.2.2 9 (I (wrap64 (ad*bn)));have HW2:Hid (Bw w ((V.setCell ⟨g2,8,none⟩ (I (wrap64 (an*bd)))).setCell ⟨g2,9,none⟩ (I (wrap64 (ad*bn)))).drew):=(((un HW).setCell (p:=⟨g2,8,none⟩) (un HG).1 _).setCell (p:=⟨g2,9,none⟩) (un HG).1 _).drew;clear p8 p9 q8 q9 f8 f9 h7a h7b HA HR HW HB;generalize ((V.setCell ⟨g2,8,none⟩ (I (wrap64 (an*bd)))).setCell ⟨g2,9,none⟩ (I (wrap64 (ad*bn)))).drew=U at *
 have u0:U.cell? ⟨g2,0,none⟩=some (I (wrap64 (a0 - b0))):=(un HA2).ub.c 0 _ rfl;have u1:U.cell? ⟨g2,1,none⟩=some (I (wrap64 (a1 - b1))):=(un HA2).ub.c 1 _ rfl;have u2:U.cell? ⟨g2,2,none⟩=some (I (wrap64 (a2 - b2))):=(un HA2).ub.c 2 _ rfl;have u3:U.cell? ⟨g2,3,none⟩=some (I (wrap64 (a3 - b3))):=(un HA2).ub.c 3 _ rfl;have u4:U.cell? ⟨g2,4,none⟩=some (I (wrap64 (a4 - b4))):=(un HA2).ub.c 4 _ rfl;have u5:U.cell? ⟨g2,5,none⟩=some (I (wrap64 (a5 - b5))):=(un HA2).ub.c 5 _ rfl;have u6:U.cell? ⟨g2,6,none⟩=some (I (wrap64 (a6 - b6))):=(un HA2).ub.c 6 _ rfl;have u7:U.cell? ⟨g2,7,none⟩=some (I (wrap64 (a7 - b7))):=(un HA2).ub.c 7 _ rfl;have u8:U.cell? ⟨g2,8,none⟩=some (I (wrap64 (an*bd))):=(un HA2).ub.c 8 _ rfl;have u9:U.cell? ⟨g2,9,none⟩=some (I (wrap64 (ad*bn))):=(un HA2).ub.c 9 _ rfl
 go_wp2_with (refine zAn 180 10 zAu rfl (.tmp 4) (.tmp 34) rfl g4 (J 0 0 0 0 0 0 0 0 0 0) (J (wrap64 (a0 - b0)) (wrap64 (a1 - b1)) (wrap64 (a2 - b2)) (wrap64 (a3 - b3)) (wrap64 (a4 - b4)) (wrap64 (a5 - b5)) (wrap64 (a6 - b6)) (wrap64 (a7 - b7)) (wrap64 (an*bd)) (wrap64 (ad*bn))) rfl rfl rfl rfl (un HR2) (by kernel_rfl) ?_)
 refine bodyPost_ret (v:=.agg (J (wrap64 (a0 - b0)) (wrap64 (a1 - b1)) (wrap64 (a2 - b2)) (wrap64 (a3 - b3)) (wrap64 (a4 - b4)) (wrap64 (a5 - b5)) (wrap64 (a6 - b6)) (wrap64 (a7 - b7)) (wrap64 (an*bd)) (wrap64 (ad*bn)))) (res55 Tryz.results316 _ _ g4 _ rfl rfl ((un HR2).setRow _)) rfl ⟨rfl,below_setRow (un HW2) (un HG).2.1 _⟩
end Go.Proofs.YtliadckofhblnaaGreatDoor

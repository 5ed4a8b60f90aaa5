/- derived: one of a unit of si. -/
import Derived.Test.YtliadckofhblnaaGreatDoorLimb3
import Derived.Test.YtliadckofhblnaaGreatDoorNt2
namespace Go.Proofs.YtliadckofhblnaaGreatDoor.Nt
open Go.RowKit
abbrev aN (a0 a1 a2 s0 s1 s2 d0 d1 d2 d3 d4 d5 d6 d7:Int):Array Value:=#[I a0,I a1,I a2,I s0,I s1,I s2,I d0,I d1,I d2,I d3,I d4,I d5,I d6,I d7]
abbrev z14:Array Value:=#[I 0,I 0,I 0,I 0,I 0,I 0,I 0,I 0,I 0,I 0,I 0,I 0,I 0,I 0]
def nt8 (l:List Int) (k:Nat):Int:=l.getD k 0
def in9 (l:List Int):Bool:=(List.range 8).all fun j=>decide (-99≤nt8 l j∧nt8 l j≤99)
theorem in9_at {l:List Int} (h:in9 l=true):∀j,j<8→-99≤nt8 l j∧nt8 l j≤99:=fun j hj=>of_decide_eq_true (List.all_eq_true.1 h j (List.mem_range.2 hj))
def okT (a0 a1 a2 s0 s1 s2 b0 b1 b2 c0 c1 c2 t0 t1 t2:Int) (ds es fs:List Int):Bool:=decide (wrap64 (a0*b0)=c0∧wrap64 (a1*b1)=c1∧wrap64 (a2+b2)=c2∧wrap64 (s0*b0)=t0∧wrap64 (s1*b1)=t1∧wrap64 (s2+b2)=t2) && (in9 ds && in9 es && in9 fs && (List.range 8).all fun j=>nt8 fs j == nt8 ds j+nt8 es j)
theorem timesN (a0 a1 a2 s0 s1 s2 d0 d1 d2 d3 d4 d5 d6 d7 b0 b1 b2 u0 u1 u2 e0 e1 e2 e3 e4 e5 e6 e7 c0 c1 c2 t0 t1 t2 f0 f1 f2 f3 f4 f5 f6 f7:Int) (w:World) (h:okT a0 a1 a2 s0 s1 s2 b0 b1 b2 c0 c1 c2 t0 t1 t2 [d0,d1,d2,d3,d4,d5,d6,d7] [e0,e1,e2,e3,e4,e5,e6,e7] [f0,f1,f2,f3,f4,f5,f6,f7]=true) :
  Calls Tryz.prog 199 #[.agg (aN a0 a1 a2 s0 s1 s2 d0 d1 d2 d3 d4 d5 d6 d7),.agg (aN b0 b1 b2 u0 u1 u2 e0 e1 e2 e3 e4 e5 e6 e7)] w fun r w'=>r=.returned (.agg (aN c0 c1 c2 t0 t1 t2 f0 f1 f2 f3 f4 f5 f6 f7))∧Below w.heap.size w w':=by
 simp only[okT,Bool.and_eq_true,decide_eq_true_eq,List.all_eq_true,beq_iff_eq]at h
 obtain⟨⟨h0,h1,h2,h3,h4,h5⟩,⟨⟨i1,i2⟩,i3⟩,i4⟩:=h
 exact amtTimes a0 a1 a2 s0 s1 s2 b0 b1 b2 u0 u1 u2 c0 c1 c2 t0 t1 t2 (nt8 [d0,d1,d2,d3,d4,d5,d6,d7]) (nt8 [e0,e1,e2,e3,e4,e5,e6,e7]) (nt8 [f0,f1,f2,f3,f4,f5,f6,f7]) 0 w (fun g W ho=>mul_two _ _ (nt8 [f0,f1,f2,f3,f4,f5,f6,f7]) g W (in9_at i1) (in9_at i2) (fun j hj=>⟨(in9_at i3 j hj).1,(in9_at i3 j hj).2,i4 j (List.mem_range.2 hj)⟩) ho) (fun W=>numTimes _ _ _ _ _ _ _ _ _ W h0 h1 h2) (fun W=>numTimes _ _ _ _ _ _ _ _ _ W h3 h4 h5)
def okB (a0 a1 a2 s0 s1 s2 b0 b1 b2 c0 c1 c2 t0 t1 t2:Int):Bool:=decide (wrap64 (a0*b1)=c0∧wrap64 (a1*b0)=c1∧wrap64 (a2 - b2)=c2∧wrap64 (s0*b1)=t0∧wrap64 (s1*b0)=t1∧wrap64 (s2 - b2)=t2)
theorem quo8 (d0 d1 d2 d3 d4 d5 d6 d7 e0 e1 e2 e3 e4 e5 e6 e7 f0 f1 f2 f3 f4 f5 f6 f7:Int) (hq:quoL [d0,d1,d2,d3,d4,d5,d6,d7] [e0,e1,e2,e3,e4,e5,e6,e7] [wrap64 (d0 - e0),wrap64 (d1 - e1),wrap64 (d2 - e2),wrap64 (d3 - e3),wrap64 (d4 - e4),wrap64 (d5 - e5),wrap64 (d6 - e6),wrap64 (d7 - e7)]=[f0,f1,f2,f3,f4,f5,f6,f7]):∃er:Int,∀w:World,Calls Tryz.prog 105 #[.agg #[I d0,I d1,I d2,I d3,I d4,I d5,I d6,I d7],.agg #[I e0,I e1,I e2,I e3,I e4,I e5,I e6,I e7]] w fun r w'=>r=.returned (.tuple #[.agg #[I f0,I f1,I f2,I f3,I f4,I f5,I f6,I f7],I er])∧Below w.heap.size w w':=by
 unfold quoL at hq
 simp only[List.map_cons,List.map_nil,List.cons.injEq,and_true]at hq
 obtain⟨rfl,rfl,rfl,rfl,rfl,rfl,rfl,rfl⟩:=hq
 exact⟨_,fun W=>Dm.quo_any d0 d1 d2 d3 d4 d5 d6 d7 e0 e1 e2 e3 e4 e5 e6 e7 W⟩
theorem byN (a0 a1 a2 s0 s1 s2 d0 d1 d2 d3 d4 d5 d6 d7 b0 b1 b2 u0 u1 u2 e0 e1 e2 e3 e4 e5 e6 e7 c0 c1 c2 t0 t1 t2 f0 f1 f2 f3 f4 f5 f6 f7:Int) (w:World) (h:okB a0 a1 a2 s0 s1 s2 b0 b1 b2 c0 c1 c2 t0 t1 t2=true) (hq:quoL [d0,d1,d2,d3,d4,d5,d6,d7] [e0,e1,e2,e3,e4,e5,e6,e7] [wrap64 (d0 - e0),wrap64 (d1 - e1),wrap64 (d2 - e2),wrap64 (d3 - e3),wrap64 (d4 - e4),wrap64 (d5 - e5),wrap64 (d6 - e6),wrap64 (d7 - e7)]=[f0,f1,f2,f3,f4,f5,f6,f7]) :
  Calls Tryz.prog 197 #[.agg (aN a0 a1 a2 s0 s1 s2 d0 d1 d2 d3 d4 d5 d6 d7),.agg (aN b0 b1 b2 u0 u1 u2 e0 e1 e2 e3 e4 e5 e6 e7)] w fun r w'=>r=.returned (.agg (aN c0 c1 c2 t0 t1 t2 f0 f1 f2 f3 f4 f5 f6 f7))∧Below w.heap.size w w':=by
 simp only[okB,decide_eq_true_eq]at h
 obtain⟨h0,h1,h2,h3,h4,h5⟩:=h
 obtain⟨er,hQ⟩:=quo8 d0 d1 d2 d3 d4 d5 d6 d7 e0 e1 e2 e3 e4 e5 e6 e7 f0 f1 f2 f3 f4 f5 f6 f7 hq
 exact amtBy a0 a1 a2 s0 s1 s2 b0 b1 b2 u0 u1 u2 c0 c1 c2 t0 t1 t2 (nt8 [d0,d1,d2,d3,d4,d5,d6,d7]) (nt8 [e0,e1,e2,e3,e4,e5,e6,e7]) (nt8 [f0,f1,f2,f3,f4,f5,f6,f7]) er w hQ (fun W=>numBy _ _ _ _ _ _ _ _ _ W h0 h1 h2) (fun W=>numBy _ _ _ _ _ _ _ _ _ W h3 h4 h5)
set_option maxRecDepth 100000 in
set_option maxHeartbeats 4000000 in
theorem measured (a0 a1 a2 s0 s1 s2:Int) (w:World):Calls Tryz.prog 201 #[.agg (n3 a0 a1 a2),.agg (n3 s0 s1 s2)] w fun r w'=>r=.returned (.agg (aN a0 a1 a2 s0 s1 s2 0 0 0 0 0 0 0 0))∧Below w.heap.size w w':=by
 have HR:Hid (OwnU (((w.alloc (.cells (n3 a0 a1 a2) 153)).alloc (.cells (n3 s0 s1 s2) 153)).alloc (.cells z14 155)) (w.heap.size+1+1) 155 z14):=by have h:=OwnU.new ((w.alloc (.cells (n3 a0 a1 a2) 153)).alloc (.cells (n3 s0 s1 s2) 153)) z14 155;rw[Dm.size_alloc,Dm.size_alloc]at h;exact h
 have HB:Hid (Below w.heap.size w (((w.alloc (.cells (n3 a0 a1 a2) 153)).alloc (.cells (n3 s0 s1 s2) 153)).alloc (.cells z14 155))):=(((Below.refl _ _).alloc (Nat.le_refl _) _).alloc (by simp) _).alloc (by simp;omega) _
 go_enter Tryz.func201,Tryz.ntmps201
 go_wp2_with (refine storeT 155 14 info155 rfl (.tmp 4) (.tmp 7) rfl (w.heap.size+1+1) z14 (aN a0 a1 a2 s0 s1 s2 0 0 0 0 0 0 0 0) rfl rfl rfl rfl (un HR) (by kernel_rfl) ?_)
 exact bodyPost_ret (v:=.agg (aN a0 a1 a2 s0 s1 s2 0 0 0 0 0 0 0 0)) (res155 Tryz.results201 _ _ (w.heap.size+1+1) _ rfl rfl ((un HR).setRow _)) rfl ⟨rfl,below_setRow (un HB) (by omega) _⟩
structure RN (w W:World):Prop where
 o:OwnU W w.heap.size 155 z14
 b:Below w.heap.size w W
theorem RN.later {w W V:World} (h:RN w W) (hb:Below W.heap.size W V):RN w V:=⟨h.o.later hb,h.b.trans (hb.mono h.b.size)⟩
theorem RN.new (w:World):RN w (w.alloc (.cells z14 155)):=⟨OwnU.new _ _ _,(Below.refl _ _).alloc (Nat.le_refl _) _⟩
set_option maxRecDepth 100000 in
set_option maxHeartbeats 4000000 in
theorem exactly (x y:Int) (w:World):Calls Tryz.prog 196 #[I x,I y] w fun r w'=>r=.returned (.agg (aN x 1 y 0 1 0 0 0 0 0 0 0 0 0))∧Below w.heap.size w w':=by
 obtain⟨V,hV⟩:∃V,V=w.alloc (.cells z14 155):=⟨_,rfl⟩
 have H:Hid (RN w V):=by rw[hV];exact RN.new w
 have HV:=hide hV
 clear hV
 go_enter Tryz.func196,Tryz.ntmps196
 go_upto_region 1 with fail
 rw[←un HV]
 clear HV
 go_wp2_with (first
  | (go_at_call 201;go_must(refine(measured x 1 y 0 1 0 _).mono ?_;rintro e W ⟨rfl,hb⟩;have H1:=hide ((un H).later hb);clear hb))
  | (refine storeT 155 14 info155 rfl (.tmp 4) (.tmp 9) rfl w.heap.size z14 (aN x 1 y 0 1 0 0 0 0 0 0 0 0 0) rfl rfl rfl rfl (un H1).o (by kernel_rfl) ?_))
 exact bodyPost_ret (v:=.agg (aN x 1 y 0 1 0 0 0 0 0 0 0 0 0)) (res155 Tryz.results196 _ _ w.heap.size _ rfl rfl ((un H1).o.setRow _)) rfl ⟨rfl,below_setRow (un H1).b (Nat.le_refl _) _⟩
set_option maxRecDepth 100000 in
set_option maxHeartbeats 4000000 in
theorem one0 (w:World):Calls Tryz.prog 198 #[I 0] w fun r w'=>r=.returned (.agg (aN 1 1 0 0 1 0 1 0 0 0 0 0 0 0))∧Below w.heap.size w w':=by
 obtain⟨V,hV⟩:∃V,V=w.alloc (.cells z14 155):=⟨_,rfl⟩
 have H:Hid (RN w V):=by rw[hV];exact RN.new w
 have HV:=hide hV
 clear hV
 go_enter Tryz.func198,Tryz.ntmps198
 go_upto_region 1 with fail
 rw[←un HV]
 clear HV
 go_upto_region 2 with (first
  | (go_at_call 196;go_must(refine(exactly 1 0 _).mono ?_;rintro e W ⟨rfl,hb⟩;have H1:=hide ((un H).later hb);clear hb H))
  | (refine storeT 155 14 info155 rfl (.tmp 3) (.tmp 4) rfl W.heap.size z14 (aN 1 1 0 0 1 0 0 0 0 0 0 0 0 0) rfl rfl rfl rfl (OwnU.new _ _ _) (by kernel_rfl) ?_))
 have hb1:Below W.heap.size W ((W.alloc (.cells z14 155)).setRow W.heap.size (aN 1 1 0 0 1 0 0 0 0 0 0 0 0 0)):=below_setRow (albel _ _) (Nat.le_refl _) _
 have HX:Hid (OwnU ((W.alloc (.cells z14 155)).setRow W.heap.size (aN 1 1 0 0 1 0 0 0 0 0 0 0 0 0)) W.heap.size 155 (aN 1 1 0 0 1 0 0 0 0 0 0 0 0 0)):=(OwnU.new _ _ _).setRow _
 have H2:=hide ((un H1).later hb1)
 have HN:Hid (¬w.heap.size=W.heap.size):=(by have:=(un H1).o.lt;show ¬_;omega)
 have HL:Hid (w.heap.size≤W.heap.size):=(un H1).b.size
 clear H1 hb1
 generalize (W.alloc (.cells z14 155)).setRow W.heap.size (aN 1 1 0 0 1 0 0 0 0 0 0 0 0 0)=U at *
 generalize W.heap.size=g3 at *
 have c6:=(un HX).ub.c 6 (I 0) rfl;have f6:=(un HX).ub.f 6 (I 0) rfl
 go_upto_region 3 with fail
 have HX3:Hid (OwnU (U.setCell ⟨g3,6,none⟩ (I 1)) g3 155 (aN 1 1 0 0 1 0 1 0 0 0 0 0 0 0)):=(un HX).set 6 (I 1)
 have H3:Hid (RN w (U.setCell ⟨g3,6,none⟩ (I 1))):=⟨(un H2).o.otherSet (un HN) _ _,(un H2).b.setCell (p:=⟨g3,6,none⟩) (un HL) _⟩
 clear HX H2 c6 f6
 generalize U.setCell ⟨g3,6,none⟩ (I 1)=U3 at *
 go_wp2_with (first
  | (refine wpList_load_row rfl 155 (.tmp 3) rfl g3 rfl 155 (aN 1 1 0 0 1 0 1 0 0 0 0 0 0 0) (0,0) _ (un HX3) Tryz.underlying155 rfl (by kernel_rfl) ?_)
  | (refine storeT 155 14 info155 rfl (.tmp 2) (.tmp 8) rfl w.heap.size z14 (aN 1 1 0 0 1 0 1 0 0 0 0 0 0 0) rfl rfl rfl rfl (un H3).o (by kernel_rfl) ?_))
 exact bodyPost_ret (v:=.agg (aN 1 1 0 0 1 0 1 0 0 0 0 0 0 0)) (res155 Tryz.results198 _ _ w.heap.size _ rfl rfl ((un H3).o.setRow _)) rfl ⟨rfl,below_setRow (un H3).b (Nat.le_refl _) _⟩
set_option maxRecDepth 100000 in
set_option maxHeartbeats 4000000 in
theorem one1 (w:World):Calls Tryz.prog 198 #[I 1] w fun r w'=>r=.returned (.agg (aN 1 1 0 0 1 0 0 1 0 0 0 0 0 0))∧Below w.heap.size w w':=by
 obtain⟨V,hV⟩:∃V,V=w.alloc (.cells z14 155):=⟨_,rfl⟩
 have H:Hid (RN w V):=by rw[hV];exact RN.new w
 have HV:=hide hV
 clear hV
 go_enter Tryz.func198,Tryz.ntmps198
 go_upto_region 1 with fail
 rw[←un HV]
 clear HV
 go_upto_region 2 with (first
  | (go_at_call 196;go_must(refine(exactly 1 0 _).mono ?_;rintro e W ⟨rfl,hb⟩;have H1:=hide ((un H).later hb);clear hb H))
  | (refine storeT 155 14 info155 rfl (.tmp 3) (.tmp 4) rfl W.heap.size z14 (aN 1 1 0 0 1 0 0 0 0 0 0 0 0 0) rfl rfl rfl rfl (OwnU.new _ _ _) (by kernel_rfl) ?_))
 have hb1:Below W.heap.size W ((W.alloc (.cells z14 155)).setRow W.heap.size (aN 1 1 0 0 1 0 0 0 0 0 0 0 0 0)):=below_setRow (albel _ _) (Nat.le_refl _) _
 have HX:Hid (OwnU ((W.alloc (.cells z14 155)).setRow W.heap.size (aN 1 1 0 0 1 0 0 0 0 0 0 0 0 0)) W.heap.size 155 (aN 1 1 0 0 1 0 0 0 0 0 0 0 0 0)):=(OwnU.new _ _ _).setRow _
 have H2:=hide ((un H1).later hb1)
 have HN:Hid (¬w.heap.size=W.heap.size):=(by have:=(un H1).o.lt;show ¬_;omega)
 have HL:Hid (w.heap.size≤W.heap.size):=(un H1).b.size
 clear H1 hb1
 generalize (W.alloc (.cells z14 155)).setRow W.heap.size (aN 1 1 0 0 1 0 0 0 0 0 0 0 0 0)=U at *
 generalize W.heap.size=g3 at *
 have c6:=(un HX).ub.c 7 (I 0) rfl;have f6:=(un HX).ub.f 7 (I 0) rfl
 go_upto_region 3 with fail
 have HX3:Hid (OwnU (U.setCell ⟨g3,7,none⟩ (I 1)) g3 155 (aN 1 1 0 0 1 0 0 1 0 0 0 0 0 0)):=(un HX).set 7 (I 1)
 have H3:Hid (RN w (U.setCell ⟨g3,7,none⟩ (I 1))):=⟨(un H2).o.otherSet (un HN) _ _,(un H2).b.setCell (p:=⟨g3,7,none⟩) (un HL) _⟩
 clear HX H2 c6 f6
 generalize U.setCell ⟨g3,7,none⟩ (I 1)=U3 at *
 go_wp2_with (first
  | (refine wpList_load_row rfl 155 (.tmp 3) rfl g3 rfl 155 (aN 1 1 0 0 1 0 0 1 0 0 0 0 0 0) (0,0) _ (un HX3) Tryz.underlying155 rfl (by kernel_rfl) ?_)
  | (refine storeT 155 14 info155 rfl (.tmp 2) (.tmp 8) rfl w.heap.size z14 (aN 1 1 0 0 1 0 0 1 0 0 0 0 0 0) rfl rfl rfl rfl (un H3).o (by kernel_rfl) ?_))
 exact bodyPost_ret (v:=.agg (aN 1 1 0 0 1 0 0 1 0 0 0 0 0 0)) (res155 Tryz.results198 _ _ w.heap.size _ rfl rfl ((un H3).o.setRow _)) rfl ⟨rfl,below_setRow (un H3).b (Nat.le_refl _) _⟩
set_option maxRecDepth 100000 in
set_option maxHeartbeats 4000000 in
theorem one2 (w:World):Calls Tryz.prog 198 #[I 2] w fun r w'=>r=.returned (.agg (aN 1 1 0 0 1 0 0 0 1 0 0 0 0 0))∧Below w.heap.size w w':=by
 obtain⟨V,hV⟩:∃V,V=w.alloc (.cells z14 155):=⟨_,rfl⟩
 have H:Hid (RN w V):=by rw[hV];exact RN.new w
 have HV:=hide hV
 clear hV
 go_enter Tryz.func198,Tryz.ntmps198
 go_upto_region 1 with fail
 rw[←un HV]
 clear HV
 go_upto_region 2 with (first
  | (go_at_call 196;go_must(refine(exactly 1 0 _).mono ?_;rintro e W ⟨rfl,hb⟩;have H1:=hide ((un H).later hb);clear hb H))
  | (refine storeT 155 14 info155 rfl (.tmp 3) (.tmp 4) rfl W.heap.size z14 (aN 1 1 0 0 1 0 0 0 0 0 0 0 0 0) rfl rfl rfl rfl (OwnU.new _ _ _) (by kernel_rfl) ?_))
 have hb1:Below W.heap.size W ((W.alloc (.cells z14 155)).setRow W.heap.size (aN 1 1 0 0 1 0 0 0 0 0 0 0 0 0)):=below_setRow (albel _ _) (Nat.le_refl _) _
 have HX:Hid (OwnU ((W.alloc (.cells z14 155)).setRow W.heap.size (aN 1 1 0 0 1 0 0 0 0 0 0 0 0 0)) W.heap.size 155 (aN 1 1 0 0 1 0 0 0 0 0 0 0 0 0)):=(OwnU.new _ _ _).setRow _
 have H2:=hide ((un H1).later hb1)
 have HN:Hid (¬w.heap.size=W.heap.size):=(by have:=(un H1).o.lt;show ¬_;omega)
 have HL:Hid (w.heap.size≤W.heap.size):=(un H1).b.size
 clear H1 hb1
 generalize (W.alloc (.cells z14 155)).setRow W.heap.size (aN 1 1 0 0 1 0 0 0 0 0 0 0 0 0)=U at *
 generalize W.heap.size=g3 at *
 have c6:=(un HX).ub.c 8 (I 0) rfl;have f6:=(un HX).ub.f 8 (I 0) rfl
 go_upto_region 3 with fail
 have HX3:Hid (OwnU (U.setCell ⟨g3,8,none⟩ (I 1)) g3 155 (aN 1 1 0 0 1 0 0 0 1 0 0 0 0 0)):=(un HX).set 8 (I 1)
 have H3:Hid (RN w (U.setCell ⟨g3,8,none⟩ (I 1))):=⟨(un H2).o.otherSet (un HN) _ _,(un H2).b.setCell (p:=⟨g3,8,none⟩) (un HL) _⟩
 clear HX H2 c6 f6
 generalize U.setCell ⟨g3,8,none⟩ (I 1)=U3 at *
 go_wp2_with (first
  | (refine wpList_load_row rfl 155 (.tmp 3) rfl g3 rfl 155 (aN 1 1 0 0 1 0 0 0 1 0 0 0 0 0) (0,0) _ (un HX3) Tryz.underlying155 rfl (by kernel_rfl) ?_)
  | (refine storeT 155 14 info155 rfl (.tmp 2) (.tmp 8) rfl w.heap.size z14 (aN 1 1 0 0 1 0 0 0 1 0 0 0 0 0) rfl rfl rfl rfl (un H3).o (by kernel_rfl) ?_))
 exact bodyPost_ret (v:=.agg (aN 1 1 0 0 1 0 0 0 1 0 0 0 0 0)) (res155 Tryz.results198 _ _ w.heap.size _ rfl rfl ((un H3).o.setRow _)) rfl ⟨rfl,below_setRow (un H3).b (Nat.le_refl _) _⟩
set_option maxRecDepth 100000 in
set_option maxHeartbeats 4000000 in
theorem one4 (w:World):Calls Tryz.prog 198 #[I 4] w fun r w'=>r=.returned (.agg (aN 1 1 0 0 1 0 0 0 0 0 1 0 0 0))∧Below w.heap.size w w':=by
 obtain⟨V,hV⟩:∃V,V=w.alloc (.cells z14 155):=⟨_,rfl⟩
 have H:Hid (RN w V):=by rw[hV];exact RN.new w
 have HV:=hide hV
 clear hV
 go_enter Tryz.func198,Tryz.ntmps198
 go_upto_region 1 with fail
 rw[←un HV]
 clear HV
 go_upto_region 2 with (first
  | (go_at_call 196;go_must(refine(exactly 1 0 _).mono ?_;rintro e W ⟨rfl,hb⟩;have H1:=hide ((un H).later hb);clear hb H))
  | (refine storeT 155 14 info155 rfl (.tmp 3) (.tmp 4) rfl W.heap.size z14 (aN 1 1 0 0 1 0 0 0 0 0 0 0 0 0) rfl rfl rfl rfl (OwnU.new _ _ _) (by kernel_rfl) ?_))
 have hb1:Below W.heap.size W ((W.alloc (.cells z14 155)).setRow W.heap.size (aN 1 1 0 0 1 0 0 0 0 0 0 0 0 0)):=below_setRow (albel _ _) (Nat.le_refl _) _
 have HX:Hid (OwnU ((W.alloc (.cells z14 155)).setRow W.heap.size (aN 1 1 0 0 1 0 0 0 0 0 0 0 0 0)) W.heap.size 155 (aN 1 1 0 0 1 0 0 0 0 0 0 0 0 0)):=(OwnU.new _ _ _).setRow _
 have H2:=hide ((un H1).later hb1)
 have HN:Hid (¬w.heap.size=W.heap.size):=(by have:=(un H1).o.lt;show ¬_;omega)
 have HL:Hid (w.heap.size≤W.heap.size):=(un H1).b.size
 clear H1 hb1
 generalize (W.alloc (.cells z14 155)).setRow W.heap.size (aN 1 1 0 0 1 0 0 0 0 0 0 0 0 0)=U at *
 generalize W.heap.size=g3 at *
 have c6:=(un HX).ub.c 10 (I 0) rfl;have f6:=(un HX).ub.f 10 (I 0) rfl
 go_upto_region 3 with fail
 have HX3:Hid (OwnU (U.setCell ⟨g3,10,none⟩ (I 1)) g3 155 (aN 1 1 0 0 1 0 0 0 0 0 1 0 0 0)):=(un HX).set 10 (I 1)
 have H3:Hid (RN w (U.setCell ⟨g3,10,none⟩ (I 1))):=⟨(un H2).o.otherSet (un HN) _ _,(un H2).b.setCell (p:=⟨g3,10,none⟩) (un HL) _⟩
 clear HX H2 c6 f6
 generalize U.setCell ⟨g3,10,none⟩ (I 1)=U3 at *
 go_wp2_with (first
  | (refine wpList_load_row rfl 155 (.tmp 3) rfl g3 rfl 155 (aN 1 1 0 0 1 0 0 0 0 0 1 0 0 0) (0,0) _ (un HX3) Tryz.underlying155 rfl (by kernel_rfl) ?_)
  | (refine storeT 155 14 info155 rfl (.tmp 2) (.tmp 8) rfl w.heap.size z14 (aN 1 1 0 0 1 0 0 0 0 0 1 0 0 0) rfl rfl rfl rfl (un H3).o (by kernel_rfl) ?_))
 exact bodyPost_ret (v:=.agg (aN 1 1 0 0 1 0 0 0 0 0 1 0 0 0)) (res155 Tryz.results198 _ _ w.heap.size _ rfl rfl ((un H3).o.setRow _)) rfl ⟨rfl,below_setRow (un H3).b (Nat.le_refl _) _⟩
set_option maxRecDepth 100000 in
set_option maxHeartbeats 4000000 in
theorem one5 (w:World):Calls Tryz.prog 198 #[I 5] w fun r w'=>r=.returned (.agg (aN 1 1 0 0 1 0 0 0 0 0 0 1 0 0))∧Below w.heap.size w w':=by
 obtain⟨V,hV⟩:∃V,V=w.alloc (.cells z14 155):=⟨_,rfl⟩
 have H:Hid (RN w V):=by rw[hV];exact RN.new w
 have HV:=hide hV
 clear hV
 go_enter Tryz.func198,Tryz.ntmps198
 go_upto_region 1 with fail
 rw[←un HV]
 clear HV
 go_upto_region 2 with (first
  | (go_at_call 196;go_must(refine(exactly 1 0 _).mono ?_;rintro e W ⟨rfl,hb⟩;have H1:=hide ((un H).later hb);clear hb H))
  | (refine storeT 155 14 info155 rfl (.tmp 3) (.tmp 4) rfl W.heap.size z14 (aN 1 1 0 0 1 0 0 0 0 0 0 0 0 0) rfl rfl rfl rfl (OwnU.new _ _ _) (by kernel_rfl) ?_))
 have hb1:Below W.heap.size W ((W.alloc (.cells z14 155)).setRow W.heap.size (aN 1 1 0 0 1 0 0 0 0 0 0 0 0 0)):=below_setRow (albel _ _) (Nat.le_refl _) _
 have HX:Hid (OwnU ((W.alloc (.cells z14 155)).setRow W.heap.size (aN 1 1 0 0 1 0 0 0 0 0 0 0 0 0)) W.heap.size 155 (aN 1 1 0 0 1 0 0 0 0 0 0 0 0 0)):=(OwnU.new _ _ _).setRow _
 have H2:=hide ((un H1).later hb1)
 have HN:Hid (¬w.heap.size=W.heap.size):=(by have:=(un H1).o.lt;show ¬_;omega)
 have HL:Hid (w.heap.size≤W.heap.size):=(un H1).b.size
 clear H1 hb1
 generalize (W.alloc (.cells z14 155)).setRow W.heap.size (aN 1 1 0 0 1 0 0 0 0 0 0 0 0 0)=U at *
 generalize W.heap.size=g3 at *
 have c6:=(un HX).ub.c 11 (I 0) rfl;have f6:=(un HX).ub.f 11 (I 0) rfl
 go_upto_region 3 with fail
 have HX3:Hid (OwnU (U.setCell ⟨g3,11,none⟩ (I 1)) g3 155 (aN 1 1 0 0 1 0 0 0 0 0 0 1 0 0)):=(un HX).set 11 (I 1)
 have H3:Hid (RN w (U.setCell ⟨g3,11,none⟩ (I 1))):=⟨(un H2).o.otherSet (un HN) _ _,(un H2).b.setCell (p:=⟨g3,11,none⟩) (un HL) _⟩
 clear HX H2 c6 f6
 generalize U.setCell ⟨g3,11,none⟩ (I 1)=U3 at *
 go_wp2_with (first
  | (refine wpList_load_row rfl 155 (.tmp 3) rfl g3 rfl 155 (aN 1 1 0 0 1 0 0 0 0 0 0 1 0 0) (0,0) _ (un HX3) Tryz.underlying155 rfl (by kernel_rfl) ?_)
  | (refine storeT 155 14 info155 rfl (.tmp 2) (.tmp 8) rfl w.heap.size z14 (aN 1 1 0 0 1 0 0 0 0 0 0 1 0 0) rfl rfl rfl rfl (un H3).o (by kernel_rfl) ?_))
 exact bodyPost_ret (v:=.agg (aN 1 1 0 0 1 0 0 0 0 0 0 1 0 0)) (res155 Tryz.results198 _ _ w.heap.size _ rfl rfl ((un H3).o.setRow _)) rfl ⟨rfl,below_setRow (un H3).b (Nat.le_refl _) _⟩
end Go.Proofs.YtliadckofhblnaaGreatDoor.Nt

namespace Go.Proofs.YtliadckofhblnaaGreatDoor.Nt
open Go.RowKit
set_option maxRecDepth 100000 in
set_option maxHeartbeats 4000000 in
theorem derived (s:ByteArray) (u:Array Value) (D:Nat→Int) (w:World) (hz:u.size=15) (h1:u.all (·.oneCell')=true) (hu:∀j v,([I (D 0),I (D 1),I (D 2),I (D 3),I (D 4),I (D 5),I (D 6),I (D 7)]:List Value)[j]?=some v→u[2+j]?=some v)
  (hf:∀W,Below w.heap.size w W→Calls Tryz.prog 71 #[.string s] W fun r w'=>r=.returned (.tuple #[.agg u,.bool true])∧Below W.heap.size W w') :
  Calls Tryz.prog 200 #[.string s] w fun r w'=>r=.returned (.agg #[I 1,I 1,I 0,I 0,I 1,I 0,I (D 0),I (D 1),I (D 2),I (D 3),I (D 4),I (D 5),I (D 6),I (D 7)])∧Below w.heap.size w w':=by
 obtain⟨V,hV⟩:∃V,V=w.alloc (.cells z14 155):=⟨_,rfl⟩
 have H:Hid (RN w V):=by rw[hV];exact RN.new w
 have HF:=hide hf;have HZ:=hide hz;have H1:=hide h1;have HU:=hide hu
 have HE:Hid (putAt (aN 1 1 0 0 1 0 0 0 0 0 0 0 0 0) 6 [I (D 0),I (D 1),I (D 2),I (D 3),I (D 4),I (D 5),I (D 6),I (D 7)]=#[I 1,I 1,I 0,I 0,I 1,I 0,I (D 0),I (D 1),I (D 2),I (D 3),I (D 4),I (D 5),I (D 6),I (D 7)]):=by show _=_;kernel_rfl
 have HV:=hide hV
 clear hV hf hz h1 hu
 go_enter Tryz.func200,Tryz.ntmps200
 go_upto_region 1 with fail
 rw[←un HV]
 clear HV
 go_upto_region 2 with (first
  | (go_at_call 71;go_must(refine(un HF _ (un H).b).mono ?_;rintro e W ⟨rfl,hb⟩;have H2:=hide ((un H).later hb);clear hb H))
  | (refine storeT 30 15 info27 rfl (.tmp 3) (.tmp 9) rfl W.heap.size z15 u rfl (un HZ) rfl rfl (OwnU.new _ _ _) (un H1) ?_))
 have hb1:Below W.heap.size W ((W.alloc (.cells z15 30)).setRow W.heap.size u):=below_setRow (albel _ _) (Nat.le_refl _) _
 have HX:Hid (OwnU ((W.alloc (.cells z15 30)).setRow W.heap.size u) W.heap.size 30 u):=(OwnU.new _ _ _).setRow _
 have H3:=hide ((un H2).later hb1)
 clear hb1 H2 HF
 generalize (W.alloc (.cells z15 30)).setRow W.heap.size u=U at *
 generalize W.heap.size=g3 at *
 go_upto_region 3 with (first
  | (go_at_call 196;go_must(refine(exactly 1 0 _).mono ?_;rintro e W2 ⟨rfl,hb⟩;have H4:=hide ((un H3).later hb);have HX4:=hide ((un HX).later hb);clear hb H3 HX))
  | (refine storeT 155 14 info155 rfl (.tmp 5) (.tmp 11) rfl W2.heap.size z14 (aN 1 1 0 0 1 0 0 0 0 0 0 0 0 0) rfl rfl rfl rfl (OwnU.new _ _ _) (by kernel_rfl) ?_))
 have hb1:Below W2.heap.size W2 ((W2.alloc (.cells z14 155)).setRow W2.heap.size (aN 1 1 0 0 1 0 0 0 0 0 0 0 0 0)):=below_setRow (albel _ _) (Nat.le_refl _) _
 have HY:Hid (OwnU ((W2.alloc (.cells z14 155)).setRow W2.heap.size (aN 1 1 0 0 1 0 0 0 0 0 0 0 0 0)) W2.heap.size 155 (aN 1 1 0 0 1 0 0 0 0 0 0 0 0 0)):=(OwnU.new _ _ _).setRow _
 have H5:=hide ((un H4).later hb1);have HX5:=hide ((un HX4).later hb1)
 have HN:Hid (¬w.heap.size=W2.heap.size):=(by have:=(un H4).o.lt;show ¬_;omega)
 have HL:Hid (w.heap.size≤W2.heap.size):=(un H4).b.size
 clear H4 HX4 hb1
 generalize (W2.alloc (.cells z14 155)).setRow W2.heap.size (aN 1 1 0 0 1 0 0 0 0 0 0 0 0 0)=U5 at *
 generalize W2.heap.size=g5 at *
 have HMD:Hid (U5.rangeAt g3 2 [I (D 0),I (D 1),I (D 2),I (D 3),I (D 4),I (D 5),I (D 6),I (D 7)]):=(un HX5).mid _ _ (un HU)
 go_upto_region 4 with (first
  | (refine wpList_load_mid rfl 26 (.tmp 12) rfl g3 2 rfl [I (D 0),I (D 1),I (D 2),I (D 3),I (D 4),I (D 5),I (D 6),I (D 7)] _ (un HMD) Tryz.underlying26 rfl info26 ?_)
  | (refine wpList_store_mid rfl 26 (.tmp 14) (.tmp 13) rfl g5 6 #[I (D 0),I (D 1),I (D 2),I (D 3),I (D 4),I (D 5),I (D 6),I (D 7)] rfl rfl ((un HY).there 6 8 (by show 6+8≤14;omega)) info26 (by kernel_rfl) ?_))
 have HY6:Hid (OwnU (U5.setCells g5 6 [I (D 0),I (D 1),I (D 2),I (D 3),I (D 4),I (D 5),I (D 6),I (D 7)]) g5 155 #[I 1,I 1,I 0,I 0,I 1,I 0,I (D 0),I (D 1),I (D 2),I (D 3),I (D 4),I (D 5),I (D 6),I (D 7)]):=by rw[←un HE];exact OwnU.setCells _ _ _ _ (un HY)
 have H6:Hid (RN w (U5.setCells g5 6 [I (D 0),I (D 1),I (D 2),I (D 3),I (D 4),I (D 5),I (D 6),I (D 7)])):=⟨OwnU.otherCells (un HN) _ _ _ (un H5).o,below_setCells (un HL) _ _ _ (un H5).b⟩
 clear HY H5 HX5 HMD
 generalize U5.setCells g5 6 [I (D 0),I (D 1),I (D 2),I (D 3),I (D 4),I (D 5),I (D 6),I (D 7)]=U6 at *
 go_wp2_with (first
  | (refine wpList_load_row rfl 155 (.tmp 5) rfl g5 rfl 155 #[I 1,I 1,I 0,I 0,I 1,I 0,I (D 0),I (D 1),I (D 2),I (D 3),I (D 4),I (D 5),I (D 6),I (D 7)] (0,0) _ (un HY6) Tryz.underlying155 rfl (by kernel_rfl) ?_)
  | (refine storeT 155 14 info155 rfl (.tmp 2) (.tmp 15) rfl w.heap.size z14 #[I 1,I 1,I 0,I 0,I 1,I 0,I (D 0),I (D 1),I (D 2),I (D 3),I (D 4),I (D 5),I (D 6),I (D 7)] rfl rfl rfl rfl (un H6).o (by kernel_rfl) ?_))
 exact bodyPost_ret (v:=.agg #[I 1,I 1,I 0,I 0,I 1,I 0,I (D 0),I (D 1),I (D 2),I (D 3),I (D 4),I (D 5),I (D 6),I (D 7)]) (res155 Tryz.results200 _ _ w.heap.size _ rfl rfl ((un H6).o.setRow _)) rfl ⟨rfl,below_setRow (un H6).b (Nat.le_refl _) _⟩
end Go.Proofs.YtliadckofhblnaaGreatDoor.Nt

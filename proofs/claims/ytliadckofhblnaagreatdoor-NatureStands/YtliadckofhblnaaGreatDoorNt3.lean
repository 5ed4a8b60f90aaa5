/- Amounts at closed numbers; zCt, measured, one, derived. -/
import Derived.Test.YtliadckofhblnaaGreatDoorLimb3
import Derived.Test.YtliadckofhblnaaGreatDoorNt2
set_option maxHeartbeats 4000000
set_option maxRecDepth 100000
namespace Go.Proofs.YtliadckofhblnaaGreatDoor.Nt
open Go.RowKit
abbrev aN (a0 a1 a2 s0 s1 s2 d0 d1 d2 d3 d4 d5 d6 d7:Int):Array Value:=#[I a0,I a1,I a2,I s0,I s1,I s2,I d0,I d1,I d2,I d3,I d4,I d5,I d6,I d7]
abbrev z14:Array Value:=#[I 0,I 0,I 0,I 0,I 0,I 0,I 0,I 0,I 0,I 0,I 0,I 0,I 0,I 0]
def nt8 (l:List Int) (k:Nat):Int:=l.getD k 0
def in9 (l:List Int):Bool:=(List.range 8).all fun j=>decide (-99≤nt8 l j∧nt8 l j≤99)
theorem in9_at {l:List Int} (h:in9 l=true):∀j,j<8→-99≤nt8 l j∧nt8 l j≤99:=fun j hj=>of_decide_eq_true (List.all_eq_true.1 h j (List.mem_range.2 hj))
def okT (a0 a1 a2 s0 s1 s2 b0 b1 b2 c0 c1 c2 t0 t1 t2:Int) (ds es fs:List Int):Bool:=decide (wrap64 (a0*b0)=c0∧wrap64 (a1*b1)=c1∧wrap64 (a2+b2)=c2∧wrap64 (s0*b0)=t0∧wrap64 (s1*b1)=t1∧wrap64 (s2+b2)=t2) && (in9 ds && in9 es && in9 fs && (List.range 8).all fun j=>nt8 fs j == nt8 ds j+nt8 es j)
theorem zEj (a0 a1 a2 s0 s1 s2 d0 d1 d2 d3 d4 d5 d6 d7 b0 b1 b2 u0 u1 u2 e0 e1 e2 e3 e4 e5 e6 e7 c0 c1 c2 t0 t1 t2 f0 f1 f2 f3 f4 f5 f6 f7:Int) (w:World) (h:okT a0 a1 a2 s0 s1 s2 b0 b1 b2 c0 c1 c2 t0 t1 t2 [d0,d1,d2,d3,d4,d5,d6,d7] [e0,e1,e2,e3,e4,e5,e6,e7] [f0,f1,f2,f3,f4,f5,f6,f7]=true) :
  Calls Tryz.prog 199 #[.agg (aN a0 a1 a2 s0 s1 s2 d0 d1 d2 d3 d4 d5 d6 d7),.agg (aN b0 b1 b2 u0 u1 u2 e0 e1 e2 e3 e4 e5 e6 e7)] w fun r w'=>r=.returned (.agg (aN c0 c1 c2 t0 t1 t2 f0 f1 f2 f3 f4 f5 f6 f7))∧Bw w w':=by
 simp only[okT,Bool.and_eq_true,decide_eq_true_eq,List.all_eq_true,beq_iff_eq]at h;obtain⟨⟨h0,h1,h2,h3,h4,h5⟩,⟨⟨i1,i2⟩,i3⟩,i4⟩:=h;exact amtTimes a0 a1 a2 s0 s1 s2 b0 b1 b2 u0 u1 u2 c0 c1 c2 t0 t1 t2 (nt8 [d0,d1,d2,d3,d4,d5,d6,d7]) (nt8 [e0,e1,e2,e3,e4,e5,e6,e7]) (nt8 [f0,f1,f2,f3,f4,f5,f6,f7]) 0 w (fun g W ho=>mul_two _ _ (nt8 [f0,f1,f2,f3,f4,f5,f6,f7]) g W (in9_at i1) (in9_at i2) (fun j hj=>⟨(in9_at i3 j hj).1,(in9_at i3 j hj).2,i4 j (List.mem_range.2 hj)⟩) ho) (fun W=>numTimes _ _ _ _ _ _ _ _ _ W h0 h1 h2) (fun W=>numTimes _ _ _ _ _ _ _ _ _ W h3 h4 h5)
def okB (a0 a1 a2 s0 s1 s2 b0 b1 b2 c0 c1 c2 t0 t1 t2:Int):Bool:=decide (wrap64 (a0*b1)=c0∧wrap64 (a1*b0)=c1∧wrap64 (a2 - b2)=c2∧wrap64 (s0*b1)=t0∧wrap64 (s1*b0)=t1∧wrap64 (s2 - b2)=t2)
theorem quo8 (d0 d1 d2 d3 d4 d5 d6 d7 e0 e1 e2 e3 e4 e5 e6 e7 f0 f1 f2 f3 f4 f5 f6 f7:Int) (hq:quoL [d0,d1,d2,d3,d4,d5,d6,d7] [e0,e1,e2,e3,e4,e5,e6,e7] [wrap64 (d0 - e0),wrap64 (d1 - e1),wrap64 (d2 - e2),wrap64 (d3 - e3),wrap64 (d4 - e4),wrap64 (d5 - e5),wrap64 (d6 - e6),wrap64 (d7 - e7)]=[f0,f1,f2,f3,f4,f5,f6,f7]):∃er:Int,∀w:World,Calls Tryz.prog 105 #[.agg #[I d0,I d1,I d2,I d3,I d4,I d5,I d6,I d7],.agg #[I e0,I e1,I e2,I e3,I e4,I e5,I e6,I e7]] w fun r w'=>r=.returned (.tuple #[.agg #[I f0,I f1,I f2,I f3,I f4,I f5,I f6,I f7],I er])∧Bw w w':=by
 unfold quoL at hq
 simp only[List.map_cons,List.map_nil,List.cons.injEq,and_true]at hq;obtain⟨rfl,rfl,rfl,rfl,rfl,rfl,rfl,rfl⟩:=hq;exact⟨_,fun W=>Dm.quo_any d0 d1 d2 d3 d4 d5 d6 d7 e0 e1 e2 e3 e4 e5 e6 e7 W⟩
theorem byN (a0 a1 a2 s0 s1 s2 d0 d1 d2 d3 d4 d5 d6 d7 b0 b1 b2 u0 u1 u2 e0 e1 e2 e3 e4 e5 e6 e7 c0 c1 c2 t0 t1 t2 f0 f1 f2 f3 f4 f5 f6 f7:Int) (w:World) (h:okB a0 a1 a2 s0 s1 s2 b0 b1 b2 c0 c1 c2 t0 t1 t2=true) (hq:quoL [d0,d1,d2,d3,d4,d5,d6,d7] [e0,e1,e2,e3,e4,e5,e6,e7] [wrap64 (d0 - e0),wrap64 (d1 - e1),wrap64 (d2 - e2),wrap64 (d3 - e3),wrap64 (d4 - e4),wrap64 (d5 - e5),wrap64 (d6 - e6),wrap64 (d7 - e7)]=[f0,f1,f2,f3,f4,f5,f6,f7]) :
  Calls Tryz.prog 197 #[.agg (aN a0 a1 a2 s0 s1 s2 d0 d1 d2 d3 d4 d5 d6 d7),.agg (aN b0 b1 b2 u0 u1 u2 e0 e1 e2 e3 e4 e5 e6 e7)] w fun r w'=>r=.returned (.agg (aN c0 c1 c2 t0 t1 t2 f0 f1 f2 f3 f4 f5 f6 f7))∧Bw w w':=by
 simp only[okB,decide_eq_true_eq]at h;obtain⟨h0,h1,h2,h3,h4,h5⟩:=h;obtain⟨er,hQ⟩:=quo8 d0 d1 d2 d3 d4 d5 d6 d7 e0 e1 e2 e3 e4 e5 e6 e7 f0 f1 f2 f3 f4 f5 f6 f7 hq;exact amtBy a0 a1 a2 s0 s1 s2 b0 b1 b2 u0 u1 u2 c0 c1 c2 t0 t1 t2 (nt8 [d0,d1,d2,d3,d4,d5,d6,d7]) (nt8 [e0,e1,e2,e3,e4,e5,e6,e7]) (nt8 [f0,f1,f2,f3,f4,f5,f6,f7]) er w hQ (fun W=>numBy _ _ _ _ _ _ _ _ _ W h0 h1 h2) (fun W=>numBy _ _ _ _ _ _ _ _ _ W h3 h4 h5)
theorem measured (a0 a1 a2 s0 s1 s2:Int) (w:World):Calls Tryz.prog 201 #[.agg (n3 a0 a1 a2),.agg (n3 s0 s1 s2)] w fun r w'=>r=.returned (.agg (aN a0 a1 a2 s0 s1 s2 0 0 0 0 0 0 0 0))∧Bw w w':=by
 have HR:Hid (zAc (((w.alloc (.cells (n3 a0 a1 a2) 153)).alloc (.cells (n3 s0 s1 s2) 153)).alloc (.cells z14 155)) (w.heap.size+1+1) 155 z14):=by have h:=zAc.new ((w.alloc (.cells (n3 a0 a1 a2) 153)).alloc (.cells (n3 s0 s1 s2) 153)) z14 155;rw[Dm.size_alloc,Dm.size_alloc]at h;exact h
 have HB:Hid (Bw w (((w.alloc (.cells (n3 a0 a1 a2) 153)).alloc (.cells (n3 s0 s1 s2) 153)).alloc (.cells z14 155))):=(bA.alloc (by simp) _).alloc (by simp;omega) _;go_enter Tryz.func201,Tryz.ntmps201
 go_wp2_with (refine zAn 155 14 zBa rfl (.tmp 4) (.tmp 7) rfl (w.heap.size+1+1) z14 (aN a0 a1 a2 s0 s1 s2 0 0 0 0 0 0 0 0) rfl rfl rfl rfl (un HR) (by kernel_rfl) ?_)
 exact bodyPost_ret (v:=.agg (aN a0 a1 a2 s0 s1 s2 0 0 0 0 0 0 0 0)) (zCf Tryz.results201 _ _ (w.heap.size+1+1) _ rfl rfl ((un HR).setRow _)) rfl ⟨rfl,below_setRow (un HB) (by omega) _⟩
structure RN (w W:World):Prop where
 o:zAc W w.heap.size 155 z14
 b:Below w.heap.size w W
theorem RN.later {w W V:World} (h:RN w W) (hb:Below W.heap.size W V):RN w V:=⟨h.o.later hb,h.b.trans (hb.mono h.b.size)⟩
theorem RN.new (w:World):RN w (w.alloc (.cells z14 155)):=⟨zAc.new _ _ _,bA⟩
theorem zCt (x y:Int) (w:World):Calls Tryz.prog 196 #[I x,I y] w fun r w'=>r=.returned (.agg (aN x 1 y 0 1 0 0 0 0 0 0 0 0 0))∧Bw w w':=by
 obtain⟨V,hV⟩:∃V,V=w.alloc (.cells z14 155):=⟨_,rfl⟩;have H:Hid (RN w V):=by rw[hV];exact RN.new w
 have HV:=zAb hV;clear hV;go_enter Tryz.func196,Tryz.ntmps196
 go_upto_region 1 with fail
 rw[←un HV];clear HV
 go_wp2_with (first
  | (go_at_call 201;go_must(refine(measured x 1 y 0 1 0 _).mono ?_;rintro e W ⟨rfl,hb⟩;have H1:=zAb ((un H).later hb);clear hb))
  | (refine zAn 155 14 zBa rfl (.tmp 4) (.tmp 9) rfl w.heap.size z14 (aN x 1 y 0 1 0 0 0 0 0 0 0 0 0) rfl rfl rfl rfl (un H1).o (by kernel_rfl) ?_))
 exact bodyPost_ret (v:=.agg (aN x 1 y 0 1 0 0 0 0 0 0 0 0 0)) (zCf Tryz.results196 _ _ w.heap.size _ rfl rfl ((un H1).o.setRow _)) rfl ⟨rfl,below_setRow (un H1).b (Nat.le_refl _) _⟩
theorem one0 (w:World):Calls Tryz.prog 198 #[I 0] w fun r w'=>r=.returned (.agg (aN 1 1 0 0 1 0 1 0 0 0 0 0 0 0))∧Bw w w':=by
 obtain⟨V,hV⟩:∃V,V=w.alloc (.cells z14 155):=⟨_,rfl⟩;have H:Hid (RN w V):=by rw[hV];exact RN.new w
 have HV:=zAb hV;clear hV;go_enter Tryz.func198,Tryz.ntmps198
 go_upto_region 1 with fail
 rw[←un HV];clear HV
 go_upto_region 2 with (first
  | (go_at_call 196;go_must(refine(zCt 1 0 _).mono ?_;rintro e W ⟨rfl,hb⟩;have H1:=zAb ((un H).later hb);clear hb H))
  | (refine zAn 155 14 zBa rfl (.tmp 3) (.tmp 4) rfl W.heap.size z14 (aN 1 1 0 0 1 0 0 0 0 0 0 0 0 0) rfl rfl rfl rfl (zAc.new _ _ _) (by kernel_rfl) ?_))
 have hb1:Below W.heap.size W ((W.alloc (.cells z14 155)).setRow W.heap.size (aN 1 1 0 0 1 0 0 0 0 0 0 0 0 0)):=below_setRow (zBx _ _) (Nat.le_refl _) _;have HX:Hid (zAc ((W.alloc (.cells z14 155)).setRow W.heap.size (aN 1 1 0 0 1 0 0 0 0 0 0 0 0 0)) W.heap.size 155 (aN 1 1 0 0 1 0 0 0 0 0 0 0 0 0)):=(zAc.new _ _ _).setRow _;have H2:=zAb ((un H1).later hb1);have HN:Hid (¬w.heap.size=W.heap.size):=(by have:=(un H1).o.lt;show ¬_;omega);have HL:Hid (w.heap.size≤W.heap.size):=(un H1).b.size;clear H1 hb1;generalize (W.alloc (.cells z14 155)).setRow W.heap.size (aN 1 1 0 0 1 0 0 0 0 0 0 0 0 0)=U at *
 generalize W.heap.size=g3 at *
 have c6:=(un HX).ub.c 6 (I 0) rfl;have f6:=(un HX).ub.f 6 (I 0) rfl
 go_upto_region 3 with fail
 have HX3:Hid (zAc (U.setCell ⟨g3,6,none⟩ (I 1)) g3 155 (aN 1 1 0 0 1 0 1 0 0 0 0 0 0 0)):=(un HX).set 6 (I 1);have H3:Hid (RN w (U.setCell ⟨g3,6,none⟩ (I 1))):=⟨(un H2).o.otherSet (un HN) _ _,(un H2).b.setCell (p:=⟨g3,6,none⟩) (un HL) _⟩;clear HX H2 c6 f6;generalize U.setCell ⟨g3,6,none⟩ (I 1)=U3 at *
 go_wp2_with (first
  | (refine wpList_load_row rfl 155 (.tmp 3) rfl g3 rfl 155 (aN 1 1 0 0 1 0 1 0 0 0 0 0 0 0) (0,0) _ (un HX3) Tryz.underlying155 rfl (by kernel_rfl) ?_)
  | (refine zAn 155 14 zBa rfl (.tmp 2) (.tmp 8) rfl w.heap.size z14 (aN 1 1 0 0 1 0 1 0 0 0 0 0 0 0) rfl rfl rfl rfl (un H3).o (by kernel_rfl) ?_))
 exact bodyPost_ret (v:=.agg (aN 1 1 0 0 1 0 1 0 0 0 0 0 0 0)) (zCf Tryz.results198 _ _ w.heap.size _ rfl rfl ((un H3).o.setRow _)) rfl ⟨rfl,below_setRow (un H3).b (Nat.le_refl _) _⟩
theorem one1 (w:World):Calls Tryz.prog 198 #[I 1] w fun r w'=>r=.returned (.agg (aN 1 1 0 0 1 0 0 1 0 0 0 0 0 0))∧Bw w w':=by
 obtain⟨V,hV⟩:∃V,V=w.alloc (.cells z14 155):=⟨_,rfl⟩;have H:Hid (RN w V):=by rw[hV];exact RN.new w
 have HV:=zAb hV;clear hV;go_enter Tryz.func198,Tryz.ntmps198
 go_upto_region 1 with fail
 rw[←un HV];clear HV
 go_upto_region 2 with (first
  | (go_at_call 196;go_must(refine(zCt 1 0 _).mono ?_;rintro e W ⟨rfl,hb⟩;have H1:=zAb ((un H).later hb);clear hb H))
  | (refine zAn 155 14 zBa rfl (.tmp 3) (.tmp 4) rfl W.heap.size z14 (aN 1 1 0 0 1 0 0 0 0 0 0 0 0 0) rfl rfl rfl rfl (zAc.new _ _ _) (by kernel_rfl) ?_))
 have hb1:Below W.heap.size W ((W.alloc (.cells z14 155)).setRow W.heap.size (aN 1 1 0 0 1 0 0 0 0 0 0 0 0 0)):=below_setRow (zBx _ _) (Nat.le_refl _) _;have HX:Hid (zAc ((W.alloc (.cells z14 155)).setRow W.heap.size (aN 1 1 0 0 1 0 0 0 0 0 0 0 0 0)) W.heap.size 155 (aN 1 1 0 0 1 0 0 0 0 0 0 0 0 0)):=(zAc.new _ _ _).setRow _;have H2:=zAb ((un H1).later hb1);have HN:Hid (¬w.heap.size=W.heap.size):=(by have:=(un H1).o.lt;show ¬_;omega);have HL:Hid (w.heap.size≤W.heap.size):=(un H1).b.size;clear H1 hb1;generalize (W.alloc (.cells z14 155)).setRow W.heap.size (aN 1 1 0 0 1 0 0 0 0 0 0 0 0 0)=U at *
 generalize W.heap.size=g3 at *
 have c6:=(un HX).ub.c 7 (I 0) rfl;have f6:=(un HX).ub.f 7 (I 0) rfl
 go_upto_region 3 with fail
 have HX3:Hid (zAc (U.setCell ⟨g3,7,none⟩ (I 1)) g3 155 (aN 1 1 0 0 1 0 0 1 0 0 0 0 0 0)):=(un HX).set 7 (I 1);have H3:Hid (RN w (U.setCell ⟨g3,7,none⟩ (I 1))):=⟨(un H2).o.otherSet (un HN) _ _,(un H2).b.setCell (p:=⟨g3,7,none⟩) (un HL) _⟩;clear HX H2 c6 f6;generalize U.setCell ⟨g3,7,none⟩ (I 1)=U3 at *
 go_wp2_with (first
  | (refine wpList_load_row rfl 155 (.tmp 3) rfl g3 rfl 155 (aN 1 1 0 0 1 0 0 1 0 0 0 0 0 0) (0,0) _ (un HX3) Tryz.underlying155 rfl (by kernel_rfl) ?_)
  | (refine zAn 155 14 zBa rfl (.tmp 2) (.tmp 8) rfl w.heap.size z14 (aN 1 1 0 0 1 0 0 1 0 0 0 0 0 0) rfl rfl rfl rfl (un H3).o (by kernel_rfl) ?_))
 exact bodyPost_ret (v:=.agg (aN 1 1 0 0 1 0 0 1 0 0 0 0 0 0)) (zCf Tryz.results198 _ _ w.heap.size _ rfl rfl ((un H3).o.setRow _)) rfl ⟨rfl,below_setRow (un H3).b (Nat.le_refl _) _⟩
theorem one2 (w:World):Calls Tryz.prog 198 #[I 2] w fun r w'=>r=.returned (.agg (aN 1 1 0 0 1 0 0 0 1 0 0 0 0 0))∧Bw w w':=by
 obtain⟨V,hV⟩:∃V,V=w.alloc (.cells z14 155):=⟨_,rfl⟩;have H:Hid (RN w V):=by rw[hV];exact RN.new w
 have HV:=zAb hV;clear hV;go_enter Tryz.func198,Tryz.ntmps198
 go_upto_region 1 with fail
 rw[←un HV];clear HV
 go_upto_region 2 with (first
  | (go_at_call 196;go_must(refine(zCt 1 0 _).mono ?_;rintro e W ⟨rfl,hb⟩;have H1:=zAb ((un H).later hb);clear hb H))
  | (refine zAn 155 14 zBa rfl (.tmp 3) (.tmp 4) rfl W.heap.size z14 (aN 1 1 0 0 1 0 0 0 0 0 0 0 0 0) rfl rfl rfl rfl (zAc.new _ _ _) (by kernel_rfl) ?_))
 have hb1:Below W.heap.size W ((W.alloc (.cells z14 155)).setRow W.heap.size (aN 1 1 0 0 1 0 0 0 0 0 0 0 0 0)):=below_setRow (zBx _ _) (Nat.le_refl _) _;have HX:Hid (zAc ((W.alloc (.cells z14 155)).setRow W.heap.size (aN 1 1 0 0 1 0 0 0 0 0 0 0 0 0)) W.heap.size 155 (aN 1 1 0 0 1 0 0 0 0 0 0 0 0 0)):=(zAc.new _ _ _).setRow _;have H2:=zAb ((un H1).later hb1);have HN:Hid (¬w.heap.size=W.heap.size):=(by have:=(un H1).o.lt;show ¬_;omega);have HL:Hid (w.heap.size≤W.heap.size):=(un H1).b.size;clear H1 hb1;generalize (W.alloc (.cells z14 155)).setRow W.heap.size (aN 1 1 0 0 1 0 0 0 0 0 0 0 0 0)=U at *
 generalize W.heap.size=g3 at *
 have c6:=(un HX).ub.c 8 (I 0) rfl;have f6:=(un HX).ub.f 8 (I 0) rfl
 go_upto_region 3 with fail
 have HX3:Hid (zAc (U.setCell ⟨g3,8,none⟩ (I 1)) g3 155 (aN 1 1 0 0 1 0 0 0 1 0 0 0 0 0)):=(un HX).set 8 (I 1);have H3:Hid (RN w (U.setCell ⟨g3,8,none⟩ (I 1))):=⟨(un H2).o.otherSet (un HN) _ _,(un H2).b.setCell (p:=⟨g3,8,none⟩) (un HL) _⟩;clear HX H2 c6 f6;generalize U.setCell ⟨g3,8,none⟩ (I 1)=U3 at *
 go_wp2_with (first
  | (refine wpList_load_row rfl 155 (.tmp 3) rfl g3 rfl 155 (aN 1 1 0 0 1 0 0 0 1 0 0 0 0 0) (0,0) _ (un HX3) Tryz.underlying155 rfl (by kernel_rfl) ?_)
  | (refine zAn 155 14 zBa rfl (.tmp 2) (.tmp 8) rfl w.heap.size z14 (aN 1 1 0 0 1 0 0 0 1 0 0 0 0 0) rfl rfl rfl rfl (un H3).o (by kernel_rfl) ?_))
 exact bodyPost_ret (v:=.agg (aN 1 1 0 0 1 0 0 0 1 0 0 0 0 0)) (zCf Tryz.results198 _ _ w.heap.size _ rfl rfl ((un H3).o.setRow _)) rfl ⟨rfl,below_setRow (un H3).b (Nat.le_refl _) _⟩
theorem one4 (w:World):Calls Tryz.prog 198 #[I 4] w fun r w'=>r=.returned (.agg (aN 1 1 0 0 1 0 0 0 0 0 1 0 0 0))∧Bw w w':=by
 obtain⟨V,hV⟩:∃V,V=w.alloc (.cells z14 155):=⟨_,rfl⟩;have H:Hid (RN w V):=by rw[hV];exact RN.new w
 have HV:=zAb hV;clear hV;go_enter Tryz.func198,Tryz.ntmps198
 go_upto_region 1 with fail
 rw[←un HV];clear HV
 go_upto_region 2 with (first
  | (go_at_call 196;go_must(refine(zCt 1 0 _).mono ?_;rintro e W ⟨rfl,hb⟩;have H1:=zAb ((un H).later hb);clear hb H))
  | (refine zAn 155 14 zBa rfl (.tmp 3) (.tmp 4) rfl W.heap.size z14 (aN 1 1 0 0 1 0 0 0 0 0 0 0 0 0) rfl rfl rfl rfl (zAc.new _ _ _) (by kernel_rfl) ?_))
 have hb1:Below W.heap.size W ((W.alloc (.cells z14 155)).setRow W.heap.size (aN 1 1 0 0 1 0 0 0 0 0 0 0 0 0)):=below_setRow (zBx _ _) (Nat.le_refl _) _;have HX:Hid (zAc ((W.alloc (.cells z14 155)).setRow W.heap.size (aN 1 1 0 0 1 0 0 0 0 0 0 0 0 0)) W.heap.size 155 (aN 1 1 0 0 1 0 0 0 0 0 0 0 0 0)):=(zAc.new _ _ _).setRow _;have H2:=zAb ((un H1).later hb1);have HN:Hid (¬w.heap.size=W.heap.size):=(by have:=(un H1).o.lt;show ¬_;omega);have HL:Hid (w.heap.size≤W.heap.size):=(un H1).b.size;clear H1 hb1;generalize (W.alloc (.cells z14 155)).setRow W.heap.size (aN 1 1 0 0 1 0 0 0 0 0 0 0 0 0)=U at *
 generalize W.heap.size=g3 at *
 have c6:=(un HX).ub.c 10 (I 0) rfl;have f6:=(un HX).ub.f 10 (I 0) rfl
 go_upto_region 3 with fail
 have HX3:Hid (zAc (U.setCell ⟨g3,10,none⟩ (I 1)) g3 155 (aN 1 1 0 0 1 0 0 0 0 0 1 0 0 0)):=(un HX).set 10 (I 1);have H3:Hid (RN w (U.setCell ⟨g3,10,none⟩ (I 1))):=⟨(un H2).o.otherSet (un HN) _ _,(un H2).b.setCell (p:=⟨g3,10,none⟩) (un HL) _⟩;clear HX H2 c6 f6;generalize U.setCell ⟨g3,10,none⟩ (I 1)=U3 at *
 go_wp2_with (first
  | (refine wpList_load_row rfl 155 (.tmp 3) rfl g3 rfl 155 (aN 1 1 0 0 1 0 0 0 0 0 1 0 0 0) (0,0) _ (un HX3) Tryz.underlying155 rfl (by kernel_rfl) ?_)
  | (refine zAn 155 14 zBa rfl (.tmp 2) (.tmp 8) rfl w.heap.size z14 (aN 1 1 0 0 1 0 0 0 0 0 1 0 0 0) rfl rfl rfl rfl (un H3).o (by kernel_rfl) ?_))
 exact bodyPost_ret (v:=.agg (aN 1 1 0 0 1 0 0 0 0 0 1 0 0 0)) (zCf Tryz.results198 _ _ w.heap.size _ rfl rfl ((un H3).o.setRow _)) rfl ⟨rfl,below_setRow (un H3).b (Nat.le_refl _) _⟩
theorem one5 (w:World):Calls Tryz.prog 198 #[I 5] w fun r w'=>r=.returned (.agg (aN 1 1 0 0 1 0 0 0 0 0 0 1 0 0))∧Bw w w':=by
 obtain⟨V,hV⟩:∃V,V=w.alloc (.cells z14 155):=⟨_,rfl⟩;have H:Hid (RN w V):=by rw[hV];exact RN.new w
 have HV:=zAb hV;clear hV;go_enter Tryz.func198,Tryz.ntmps198
 go_upto_region 1 with fail
 rw[←un HV];clear HV
 go_upto_region 2 with (first
  | (go_at_call 196;go_must(refine(zCt 1 0 _).mono ?_;rintro e W ⟨rfl,hb⟩;have H1:=zAb ((un H).later hb);clear hb H))
  | (refine zAn 155 14 zBa rfl (.tmp 3) (.tmp 4) rfl W.heap.size z14 (aN 1 1 0 0 1 0 0 0 0 0 0 0 0 0) rfl rfl rfl rfl (zAc.new _ _ _) (by kernel_rfl) ?_))
 have hb1:Below W.heap.size W ((W.alloc (.cells z14 155)).setRow W.heap.size (aN 1 1 0 0 1 0 0 0 0 0 0 0 0 0)):=below_setRow (zBx _ _) (Nat.le_refl _) _;have HX:Hid (zAc ((W.alloc (.cells z14 155)).setRow W.heap.size (aN 1 1 0 0 1 0 0 0 0 0 0 0 0 0)) W.heap.size 155 (aN 1 1 0 0 1 0 0 0 0 0 0 0 0 0)):=(zAc.new _ _ _).setRow _;have H2:=zAb ((un H1).later hb1);have HN:Hid (¬w.heap.size=W.heap.size):=(by have:=(un H1).o.lt;show ¬_;omega);have HL:Hid (w.heap.size≤W.heap.size):=(un H1).b.size;clear H1 hb1;generalize (W.alloc (.cells z14 155)).setRow W.heap.size (aN 1 1 0 0 1 0 0 0 0 0 0 0 0 0)=U at *
 generalize W.heap.size=g3 at *
 have c6:=(un HX).ub.c 11 (I 0) rfl;have f6:=(un HX).ub.f 11 (I 0) rfl
 go_upto_region 3 with fail
 have HX3:Hid (zAc (U.setCell ⟨g3,11,none⟩ (I 1)) g3 155 (aN 1 1 0 0 1 0 0 0 0 0 0 1 0 0)):=(un HX).set 11 (I 1);have H3:Hid (RN w (U.setCell ⟨g3,11,none⟩ (I 1))):=⟨(un H2).o.otherSet (un HN) _ _,(un H2).b.setCell (p:=⟨g3,11,none⟩) (un HL) _⟩;clear HX H2 c6 f6;generalize U.setCell ⟨g3,11,none⟩ (I 1)=U3 at *
 go_wp2_with (first
  | (refine wpList_load_row rfl 155 (.tmp 3) rfl g3 rfl 155 (aN 1 1 0 0 1 0 0 0 0 0 0 1 0 0) (0,0) _ (un HX3) Tryz.underlying155 rfl (by kernel_rfl) ?_)
  | (refine zAn 155 14 zBa rfl (.tmp 2) (.tmp 8) rfl w.heap.size z14 (aN 1 1 0 0 1 0 0 0 0 0 0 1 0 0) rfl rfl rfl rfl (un H3).o (by kernel_rfl) ?_))
 exact bodyPost_ret (v:=.agg (aN 1 1 0 0 1 0 0 0 0 0 0 1 0 0)) (zCf Tryz.results198 _ _ w.heap.size _ rfl rfl ((un H3).o.setRow _)) rfl ⟨rfl,below_setRow (un H3).b (Nat.le_refl _) _⟩
end Go.Proofs.YtliadckofhblnaaGreatDoor.Nt

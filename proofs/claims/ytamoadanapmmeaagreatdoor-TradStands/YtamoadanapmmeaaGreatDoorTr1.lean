/- Units of old: lowest, one, multiple, times, by. -/
import Derived.Test.YtamoadanapmmeaaGreatDoorLimb3
import Derived.Test.YtamoadanapmmeaaGreatDoorMade
import Derived.Test.YtamoadanapmmeaaGreatDoorDimOps
namespace Go.Proofs.YtamoadanapmmeaaGreatDoor.Tr
open Go.RowKit
theorem wrapN (k:Nat) (h:k<9223372036854775808):wrap64 (k:Int)=k:=by unfold wrap64;omega
set_option maxRecDepth 100000 in
theorem lowest_any (a b:Nat) (w:World) (ha0:0<a) (hb0:0<b) (ha:a<9223372036854775808) (hb:b<9223372036854775808) :
    Calls Tryz.prog 233 #[I (a:Int),I (b:Int)] w fun e w'=>e=.returned (.tuple #[I ((a / Nat.gcd a b:Nat):Int),I ((b / Nat.gcd a b:Nat):Int)])∧Below w.heap.size w w':=by
  go_enter Tryz.func233,Tryz.ntmps233
  go_wp2
  go_loopw [6,7] (fun u v wr=>∃ x y:Nat,u=I (x:Int)∧v=I (y:Int)∧0<x∧x<9223372036854775808∧y<9223372036854775808∧Hid (Nat.gcd x y=Nat.gcd a b)∧Hid (Below w.heap.size w wr)) (fun _ v _=>(intOf v).toNat)
  case atStart=>exact ⟨a,b,rfl,rfl,ha0,ha,hb,rfl,Below.refl _ _⟩
  case round=>
    obtain ⟨x,y,rfl,rfl,hx0,hx,hy,HG,HB⟩:=hrel
    by_cases h0:0<y
    · have hy0:¬ y=0:=by omega
      have h0':(0:Int)<(y:Int):=by omega
      have hyI:¬ (y:Int)=0:=by omega
      have hlt:x % y<y:=Nat.mod_lt _ h0
      have HG':Hid (Nat.gcd y (x % y)=Nat.gcd a b):=by
        show _=_
        rw[← un HG,Nat.gcd_comm x y,Nat.gcd_rec y x,Nat.gcd_comm (x % y) y]
      go_upto_region 3 with fail
      go_quiet (fail)
      go_wp2
      go_roundw
      case rel=>exact ⟨y,x % y,rfl,by go_num,h0,hy,by omega,HG',below_drewN (un HB) _⟩
      case measure=>simp[intOf];omega
    · have hy0:y=0:=by omega
      subst hy0
      have HV:Hid (Nat.gcd a b=x):=by show _=_;rw[← un HG,Nat.gcd_zero_right]
      clear HG
      have hxI:¬ (x:Int)=0:=by omega
      have hxN:¬ x=0:=by omega
      have hqa:a / x≤a:=Nat.div_le_self _ _
      have hqb:b / x≤b:=Nat.div_le_self _ _
      have hwa:wrap64 ((a:Int) / (x:Int))=(a:Int) / (x:Int):=have:=wrapN (a / x) (by omega);by rwa [Int.natCast_ediv] at this
      have hwb:wrap64 ((b:Int) / (x:Int))=(b:Int) / (x:Int):=have:=wrapN (b / x) (by omega);by rwa [Int.natCast_ediv] at this
      go_upto_region 4 with fail
      go_quiet (fail)
      go_wp2
      exact bodyPost_ret (v:=.tuple #[I ((a / x:Nat):Int),I ((b / x:Nat):Int)]) (by simp[results,Tryz.results233,go_sem];exact ⟨hwa,hwb⟩) rfl ⟨by rw[un HV],below_drewN (un HB) _⟩
abbrev aT (e0 e1 e2 e3 e4 n d:Int):Array Value:=#[I e0,I e1,I e2,I e3,I e4,I n,I d]
abbrev z7:Array Value:=#[I 0,I 0,I 0,I 0,I 0,I 0,I 0]
theorem info127:(Tryz.prog.info? 127).map (·.size)=some 7:=by kernel_rfl
theorem res127 {fn:Func} {p:Tmp} (h:fn.results=#[.cell p 127]) (tmps:Array Value) (w:World) (g:Nat) (vs:Array Value) (hl:vs.size=7) (hp:tmps.getD p undef=.pointer (some ⟨g,0,none⟩)) (ho:OwnU w g 127 vs) :
    (results fn tmps).run Tryz.prog w=.ok (.agg vs) w:=by
  rw[results_cell1 h,hp]
  simp only[asAddr,Sem.run_pure,Result.andThen_ok]
  rw[run_loadVar_row w g 127 127 vs (0,0) _ ho Tryz.underlying127 rfl (by rw[info127,hl])]
structure TB (w W:World) (g:Nat) (vs:Array Value) (r:Nat) (us:Array Value):Prop where
  a:OwnU W g 127 vs
  o:OwnU W r 127 us
  b:Below w.heap.size w W
  n:¬ g=r
  gl:w.heap.size≤g
  rl:w.heap.size≤r
theorem TB.later {w W V:World} {g r:Nat} {vs us:Array Value} (h:TB w W g vs r us) (hb:Below W.heap.size W V):TB w V g vs r us:=⟨h.a.later hb,h.o.later hb,h.b.trans (hb.mono h.b.size),h.n,h.gl,h.rl⟩
theorem TB.set {w W:World} {g r:Nat} {vs us:Array Value} (h:TB w W g vs r us) (i:Nat) (v:Value):TB w (W.setCell ⟨g,i,none⟩ v) g (vs.setIfInBounds i v) r us:=⟨h.a.set i v,h.o.otherSet (fun e=>h.n e.symm) i v,h.b.setCell h.gl v,h.n,h.gl,h.rl⟩
theorem TB.new (w:World) (vs us:Array Value):TB w ((w.alloc (.cells vs 127)).alloc (.cells us 127)) w.heap.size vs (w.heap.size+1) us:=by
  refine ⟨(OwnU.new w vs 127).alloc _,?_,((Below.refl _ _).alloc (Nat.le_refl _) _).alloc (by simp) _,by omega,Nat.le_refl _,by omega⟩
  have h:=OwnU.new (w.alloc (.cells vs 127)) us 127
  rw[Dm.size_alloc] at h
  exact h
set_option maxRecDepth 100000 in
set_option maxHeartbeats 4000000 in
theorem mult_walk (e0 e1 e2 e3 e4 n d p q x1 y1 x2 d2 n2 y2 N D:Int) (w:World)
    (h1:∀ W,Calls Tryz.prog 233 #[I p,I q] W fun r w'=>r=.returned (.tuple #[I x1,I y1])∧Below W.heap.size W w')
    (h2:∀ W,Calls Tryz.prog 233 #[I x1,I d] W fun r w'=>r=.returned (.tuple #[I x2,I d2])∧Below W.heap.size W w')
    (h3:∀ W,Calls Tryz.prog 233 #[I n,I y1] W fun r w'=>r=.returned (.tuple #[I n2,I y2])∧Below W.heap.size W w')
    (hN:wrap64 (n2*x2)=N) (hD:wrap64 (d2*y2)=D) :
    Calls Tryz.prog 164 #[.agg (aT e0 e1 e2 e3 e4 n d),I p,I q] w fun r w'=>r=.returned (.agg (aT e0 e1 e2 e3 e4 N D))∧Below w.heap.size w w':=by
  obtain ⟨V,hV⟩:∃ V,V=(w.alloc (.cells #[I e0,I e1,I e2,I e3,I e4,I n,I d] 127)).alloc (.cells #[I 0,I 0,I 0,I 0,I 0,I 0,I 0] 127):=⟨_,rfl⟩
  have HT:Hid (TB w V w.heap.size #[I e0,I e1,I e2,I e3,I e4,I n,I d] (w.heap.size+1) z7):=by rw[hV];exact TB.new _ _ _
  have HV:=hide hV
  have H1:=hide h1;have H2:=hide h2;have H3:=hide h3
  clear hV h1 h2 h3
  go_enter Tryz.func164,Tryz.ntmps164
  go_upto_region 1 with fail
  rw[← un HV]
  clear HV
  have HG:=hide (And.intro (un HT).n (And.intro (un HT).gl (un HT).rl))
  obtain ⟨g3,hg3⟩:∃ g3,g3=w.heap.size:=⟨_,rfl⟩
  obtain ⟨g6,hg6⟩:∃ g6,g6=w.heap.size+1:=⟨_,rfl⟩
  have HT0:Hid (TB w V g3 #[I e0,I e1,I e2,I e3,I e4,I n,I d] g6 z7):=by rw[hg3,hg6];exact HT
  rw[← hg6,← hg3]
  clear hg3 hg6 HT HG
  go_upto_region 2 with (go_at_call 233;go_must (refine (un H1 _).mono ?_;rintro e w1 ⟨rfl,hb⟩;have HT1:=hide ((un HT0).later hb);clear hb HT0))
  have c6:=(un HT1).a.ub.c 6 _ rfl
  go_upto_region 3 with (go_at_call 233;go_must (refine (un H2 _).mono ?_;rintro e w2 ⟨rfl,hb⟩;have HT2:=hide ((un HT1).later hb);clear hb c6;have c6:=(un HT2).a.ub.c 6 _ rfl;have f6:=(un HT2).a.ub.f 6 (I d) rfl))
  have HT3:Hid (TB w (w2.setCell ⟨g3,6,none⟩ (I d2)) g3 #[I e0,I e1,I e2,I e3,I e4,I n,I d2] g6 z7):=(un HT2).set 6 (I d2)
  clear c6 f6 HT2 HT1
  generalize w2.setCell ⟨g3,6,none⟩ (I d2)=w3 at *
  have c5:=(un HT3).a.ub.c 5 _ rfl
  go_upto_region 4 with (go_at_call 233;go_must (refine (un H3 _).mono ?_;rintro e w4 ⟨rfl,hb⟩;have HT4:=hide ((un HT3).later hb);clear hb c5;have c5:=(un HT4).a.ub.c 5 _ rfl;have f5:=(un HT4).a.ub.f 5 (I n) rfl))
  have HT5:Hid (TB w (w4.setCell ⟨g3,5,none⟩ (I n2)) g3 #[I e0,I e1,I e2,I e3,I e4,I n2,I d2] g6 z7):=(un HT4).set 5 (I n2)
  clear c5 f5 HT4 HT3
  generalize w4.setCell ⟨g3,5,none⟩ (I n2)=w5 at *
  have c5:=(un HT5).a.ub.c 5 _ rfl;have c6:=(un HT5).a.ub.c 6 _ rfl
  have f5:=(un HT5).a.ub.f 5 (I n2) rfl;have f6:=(un HT5).a.ub.f 6 (I d2) rfl
  go_upto_region 5 with fail
  have HT6:Hid (TB w ((w5.setCell ⟨g3,5,none⟩ (I N)).setCell ⟨g3,6,none⟩ (I D)) g3 #[I e0,I e1,I e2,I e3,I e4,I N,I D] g6 z7):=((un HT5).set 5 (I N)).set 6 (I D)
  clear HT5 c5 c6 f5 f6
  generalize (w5.setCell ⟨g3,5,none⟩ (I N)).setCell ⟨g3,6,none⟩ (I D)=w6 at *
  go_wp2_with (first
    | (refine wpList_load_row rfl 127 (.tmp 3) rfl g3 rfl 127 #[I e0,I e1,I e2,I e3,I e4,I N,I D] (0,0) _ (un HT6).a Tryz.underlying127 rfl (by kernel_rfl) ?_)
    | (refine storeT 127 7 info127 rfl (.tmp 6) (.tmp 39) rfl g6 z7 #[I e0,I e1,I e2,I e3,I e4,I N,I D] rfl rfl rfl rfl (un HT6).o (by kernel_rfl) ?_))
  exact bodyPost_ret (v:=.agg #[I e0,I e1,I e2,I e3,I e4,I N,I D]) (res127 Tryz.results164 _ _ g6 _ rfl rfl ((un HT6).o.setRow _)) rfl ⟨rfl,below_setRow (un HT6).b (un HT6).rl _⟩
def lowF (a b:Nat):Nat×Nat:=(a / Nat.gcd a b,b / Nat.gcd a b)
def mulF (n d p q:Nat):Nat×Nat:=((lowF n (lowF p q).2).1*(lowF (lowF p q).1 d).1,(lowF (lowF p q).1 d).2*(lowF n (lowF p q).2).2)
def okF (a b:Nat):Bool:=decide (0<a∧0<b∧a<9223372036854775808∧b<9223372036854775808)
def okM (n d p q:Nat):Bool:=okF p q && okF (lowF p q).1 d && okF n (lowF p q).2 && okF (mulF n d p q).1 (mulF n d p q).2
theorem low_of (a b x y:Nat) (w:World) (ho:okF a b=true) (h:lowF a b=(x,y)):Calls Tryz.prog 233 #[I (a:Int),I (b:Int)] w fun e w'=>e=.returned (.tuple #[I (x:Int),I (y:Int)])∧Below w.heap.size w w':=by
  have hh:=of_decide_eq_true ho
  have:=lowest_any a b w hh.1 hh.2.1 hh.2.2.1 hh.2.2.2
  have h1:a / Nat.gcd a b=x:=congrArg Prod.fst h
  have h2:b / Nat.gcd a b=y:=congrArg Prod.snd h
  rw[h1,h2] at this
  exact this
theorem mult_of (e0 e1 e2 e3 e4:Int) (n d p q N D:Nat) (w:World) (ho:okM n d p q=true) (h:mulF n d p q=(N,D)) :
    Calls Tryz.prog 164 #[.agg (aT e0 e1 e2 e3 e4 n d),I (p:Int),I (q:Int)] w fun r w'=>r=.returned (.agg (aT e0 e1 e2 e3 e4 N D))∧Below w.heap.size w w':=by
  simp only[okM,Bool.and_eq_true] at ho
  obtain ⟨⟨⟨o1,o2⟩,o3⟩,o4⟩:=ho
  have hh:=of_decide_eq_true o4
  have hN:(lowF n (lowF p q).2).1*(lowF (lowF p q).1 d).1=N:=congrArg Prod.fst h
  have hD:(lowF (lowF p q).1 d).2*(lowF n (lowF p q).2).2=D:=congrArg Prod.snd h
  rw[h] at hh
  refine mult_walk e0 e1 e2 e3 e4 n d p q (lowF p q).1 (lowF p q).2 (lowF (lowF p q).1 d).1 (lowF (lowF p q).1 d).2 (lowF n (lowF p q).2).1 (lowF n (lowF p q).2).2 N D w (fun W=>low_of _ _ _ _ W o1 rfl) (fun W=>low_of _ _ _ _ W o2 rfl) (fun W=>low_of _ _ _ _ W o3 rfl) ?_ ?_
  · rw[← Int.natCast_mul,hN];exact wrapN N hh.2.2.1
  · rw[← Int.natCast_mul,hD];exact wrapN D hh.2.2.2
theorem jx0 (b0 b1 b2 b3 b4:Int) (w:World):(Instr.index 125 (.agg #[I b0,I b1,I b2,I b3,I b4]) (I 0)).run Tryz.prog w=.ok (I b0) w:=by kernel_rfl
theorem jx1 (b0 b1 b2 b3 b4:Int) (w:World):(Instr.index 125 (.agg #[I b0,I b1,I b2,I b3,I b4]) (I 1)).run Tryz.prog w=.ok (I b1) w:=by kernel_rfl
theorem jx2 (b0 b1 b2 b3 b4:Int) (w:World):(Instr.index 125 (.agg #[I b0,I b1,I b2,I b3,I b4]) (I 2)).run Tryz.prog w=.ok (I b2) w:=by kernel_rfl
theorem jx3 (b0 b1 b2 b3 b4:Int) (w:World):(Instr.index 125 (.agg #[I b0,I b1,I b2,I b3,I b4]) (I 3)).run Tryz.prog w=.ok (I b3) w:=by kernel_rfl
theorem jx4 (b0 b1 b2 b3 b4:Int) (w:World):(Instr.index 125 (.agg #[I b0,I b1,I b2,I b3,I b4]) (I 4)).run Tryz.prog w=.ok (I b4) w:=by kernel_rfl
set_option maxRecDepth 100000 in
set_option maxHeartbeats 8000000 in
theorem times_walk (a0 a1 a2 a3 a4 an ad b0 b1 b2 b3 b4 bn bd c0 c1 c2 c3 c4 N D:Int) (w:World) (h0:wrap64 (a0+b0)=c0) (h1:wrap64 (a1+b1)=c1) (h2:wrap64 (a2+b2)=c2) (h3:wrap64 (a3+b3)=c3) (h4:wrap64 (a4+b4)=c4)
    (hm:∀ W,Calls Tryz.prog 164 #[.agg (aT c0 c1 c2 c3 c4 an ad),I bn,I bd] W fun r w'=>r=.returned (.agg (aT c0 c1 c2 c3 c4 N D))∧Below W.heap.size W w') :
    Calls Tryz.prog 166 #[.agg (aT a0 a1 a2 a3 a4 an ad),.agg (aT b0 b1 b2 b3 b4 bn bd)] w fun r w'=>r=.returned (.agg (aT c0 c1 c2 c3 c4 N D))∧Below w.heap.size w w':=by
  have i0:=jx0 b0 b1 b2 b3 b4
  have i1:=jx1 b0 b1 b2 b3 b4
  have i2:=jx2 b0 b1 b2 b3 b4
  have i3:=jx3 b0 b1 b2 b3 b4
  have i4:=jx4 b0 b1 b2 b3 b4
  have HM:=hide hm
  clear hm
  go_enter Tryz.func166,Tryz.ntmps166
  go_wp2_with fail
  refine wp_loop_rounds 6 ?_
  repeat any_goals (rw[rounds_succ];go_wp2_with fail)
  clear i0 i1 i2 i3 i4
  have HR:Hid (OwnU (((w.alloc (.cells #[I c0,I c1,I c2,I c3,I c4,I an,I ad] 127)).alloc (.cells (aT b0 b1 b2 b3 b4 bn bd) 127)).alloc (.cells #[I 0,I 0,I 0,I 0,I 0,I 0,I 0] 127)) (w.heap.size+1+1) 127 z7):=by have h:=OwnU.new ((w.alloc (.cells #[I c0,I c1,I c2,I c3,I c4,I an,I ad] 127)).alloc (.cells (aT b0 b1 b2 b3 b4 bn bd) 127)) z7 127;rw[Dm.size_alloc,Dm.size_alloc] at h;exact h
  have HB:Hid (Below w.heap.size w (((w.alloc (.cells #[I c0,I c1,I c2,I c3,I c4,I an,I ad] 127)).alloc (.cells (aT b0 b1 b2 b3 b4 bn bd) 127)).alloc (.cells #[I 0,I 0,I 0,I 0,I 0,I 0,I 0] 127))):=(((Below.refl _ _).alloc (Nat.le_refl _) _).alloc (by simp) _).alloc (by simp;omega) _
  refine (un HM _).mono ?_
  rintro e w1 ⟨rfl,hb⟩
  have HR1:=hide ((un HR).later hb);have HB1:Hid (Below w.heap.size w w1):=(un HB).trans (hb.mono (un HB).size)
  clear hb HR HB
  go_wp2_with (refine storeT 127 7 info127 rfl (.tmp 4) (.tmp 27) rfl (w.heap.size+1+1) z7 #[I c0,I c1,I c2,I c3,I c4,I N,I D] rfl rfl rfl rfl (un HR1) (by kernel_rfl) ?_)
  exact bodyPost_ret (v:=.agg #[I c0,I c1,I c2,I c3,I c4,I N,I D]) (res127 Tryz.results166 _ _ (w.heap.size+1+1) _ rfl rfl ((un HR1).setRow _)) rfl ⟨rfl,below_setRow (un HB1) (by omega) _⟩
set_option maxRecDepth 100000 in
set_option maxHeartbeats 8000000 in
theorem by_walk (a0 a1 a2 a3 a4 an ad b0 b1 b2 b3 b4 bn bd c0 c1 c2 c3 c4 N D:Int) (w:World) (h0:wrap64 (a0 - b0)=c0) (h1:wrap64 (a1 - b1)=c1) (h2:wrap64 (a2 - b2)=c2) (h3:wrap64 (a3 - b3)=c3) (h4:wrap64 (a4 - b4)=c4)
    (hm:∀ W,Calls Tryz.prog 164 #[.agg (aT c0 c1 c2 c3 c4 an ad),I bd,I bn] W fun r w'=>r=.returned (.agg (aT c0 c1 c2 c3 c4 N D))∧Below W.heap.size W w') :
    Calls Tryz.prog 165 #[.agg (aT a0 a1 a2 a3 a4 an ad),.agg (aT b0 b1 b2 b3 b4 bn bd)] w fun r w'=>r=.returned (.agg (aT c0 c1 c2 c3 c4 N D))∧Below w.heap.size w w':=by
  have i0:=jx0 b0 b1 b2 b3 b4
  have i1:=jx1 b0 b1 b2 b3 b4
  have i2:=jx2 b0 b1 b2 b3 b4
  have i3:=jx3 b0 b1 b2 b3 b4
  have i4:=jx4 b0 b1 b2 b3 b4
  have HM:=hide hm
  clear hm
  go_enter Tryz.func165,Tryz.ntmps165
  go_wp2_with fail
  refine wp_loop_rounds 6 ?_
  repeat any_goals (rw[rounds_succ];go_wp2_with fail)
  clear i0 i1 i2 i3 i4
  have HR:Hid (OwnU (((w.alloc (.cells #[I c0,I c1,I c2,I c3,I c4,I an,I ad] 127)).alloc (.cells (aT b0 b1 b2 b3 b4 bn bd) 127)).alloc (.cells #[I 0,I 0,I 0,I 0,I 0,I 0,I 0] 127)) (w.heap.size+1+1) 127 z7):=by have h:=OwnU.new ((w.alloc (.cells #[I c0,I c1,I c2,I c3,I c4,I an,I ad] 127)).alloc (.cells (aT b0 b1 b2 b3 b4 bn bd) 127)) z7 127;rw[Dm.size_alloc,Dm.size_alloc] at h;exact h
  have HB:Hid (Below w.heap.size w (((w.alloc (.cells #[I c0,I c1,I c2,I c3,I c4,I an,I ad] 127)).alloc (.cells (aT b0 b1 b2 b3 b4 bn bd) 127)).alloc (.cells #[I 0,I 0,I 0,I 0,I 0,I 0,I 0] 127))):=(((Below.refl _ _).alloc (Nat.le_refl _) _).alloc (by simp) _).alloc (by simp;omega) _
  refine (un HM _).mono ?_
  rintro e w1 ⟨rfl,hb⟩
  have HR1:=hide ((un HR).later hb);have HB1:Hid (Below w.heap.size w w1):=(un HB).trans (hb.mono (un HB).size)
  clear hb HR HB
  go_wp2_with (refine storeT 127 7 info127 rfl (.tmp 4) (.tmp 27) rfl (w.heap.size+1+1) z7 #[I c0,I c1,I c2,I c3,I c4,I N,I D] rfl rfl rfl rfl (un HR1) (by kernel_rfl) ?_)
  exact bodyPost_ret (v:=.agg #[I c0,I c1,I c2,I c3,I c4,I N,I D]) (res127 Tryz.results165 _ _ (w.heap.size+1+1) _ rfl rfl ((un HR1).setRow _)) rfl ⟨rfl,below_setRow (un HB1) (by omega) _⟩
def okZ (n d p q N D:Int):Bool:=decide (0≤n∧0≤d∧0≤p∧0≤q∧0≤N∧0≤D) && okM n.toNat d.toNat p.toNat q.toNat && decide (mulF n.toNat d.toNat p.toNat q.toNat=(N.toNat,D.toNat))
theorem mult_z (e0 e1 e2 e3 e4 n d p q N D:Int) (w:World) (h:okZ n d p q N D=true) :
    Calls Tryz.prog 164 #[.agg (aT e0 e1 e2 e3 e4 n d),I p,I q] w fun r w'=>r=.returned (.agg (aT e0 e1 e2 e3 e4 N D))∧Below w.heap.size w w':=by
  simp only[okZ,Bool.and_eq_true,decide_eq_true_eq] at h
  obtain ⟨⟨⟨h1,h2,h3,h4,h5,h6⟩,ho⟩,hm⟩:=h
  have:=mult_of e0 e1 e2 e3 e4 n.toNat d.toNat p.toNat q.toNat N.toNat D.toNat w ho hm
  rw[Int.toNat_of_nonneg h1,Int.toNat_of_nonneg h2,Int.toNat_of_nonneg h3,Int.toNat_of_nonneg h4,Int.toNat_of_nonneg h5,Int.toNat_of_nonneg h6] at this
  exact this
def oktimes (a0 a1 a2 a3 a4 an ad b0 b1 b2 b3 b4 bn bd c0 c1 c2 c3 c4 N D:Int):Bool:=decide (wrap64 (a0+b0)=c0∧wrap64 (a1+b1)=c1∧wrap64 (a2+b2)=c2∧wrap64 (a3+b3)=c3∧wrap64 (a4+b4)=c4) && okZ an ad bn bd N D
theorem times_z (a0 a1 a2 a3 a4 an ad b0 b1 b2 b3 b4 bn bd c0 c1 c2 c3 c4 N D:Int) (w:World) (h:oktimes a0 a1 a2 a3 a4 an ad b0 b1 b2 b3 b4 bn bd c0 c1 c2 c3 c4 N D=true) :
    Calls Tryz.prog 166 #[.agg (aT a0 a1 a2 a3 a4 an ad),.agg (aT b0 b1 b2 b3 b4 bn bd)] w fun r w'=>r=.returned (.agg (aT c0 c1 c2 c3 c4 N D))∧Below w.heap.size w w':=by
  simp only[oktimes,Bool.and_eq_true,decide_eq_true_eq] at h
  obtain ⟨⟨h0,h1,h2,h3,h4⟩,hz⟩:=h
  exact times_walk a0 a1 a2 a3 a4 an ad b0 b1 b2 b3 b4 bn bd c0 c1 c2 c3 c4 N D w h0 h1 h2 h3 h4 (fun W=>mult_z _ _ _ _ _ _ _ _ _ _ _ W hz)
def okby (a0 a1 a2 a3 a4 an ad b0 b1 b2 b3 b4 bn bd c0 c1 c2 c3 c4 N D:Int):Bool:=decide (wrap64 (a0 - b0)=c0∧wrap64 (a1 - b1)=c1∧wrap64 (a2 - b2)=c2∧wrap64 (a3 - b3)=c3∧wrap64 (a4 - b4)=c4) && okZ an ad bd bn N D
theorem by_z (a0 a1 a2 a3 a4 an ad b0 b1 b2 b3 b4 bn bd c0 c1 c2 c3 c4 N D:Int) (w:World) (h:okby a0 a1 a2 a3 a4 an ad b0 b1 b2 b3 b4 bn bd c0 c1 c2 c3 c4 N D=true) :
    Calls Tryz.prog 165 #[.agg (aT a0 a1 a2 a3 a4 an ad),.agg (aT b0 b1 b2 b3 b4 bn bd)] w fun r w'=>r=.returned (.agg (aT c0 c1 c2 c3 c4 N D))∧Below w.heap.size w w':=by
  simp only[okby,Bool.and_eq_true,decide_eq_true_eq] at h
  obtain ⟨⟨h0,h1,h2,h3,h4⟩,hz⟩:=h
  exact by_walk a0 a1 a2 a3 a4 an ad b0 b1 b2 b3 b4 bn bd c0 c1 c2 c3 c4 N D w h0 h1 h2 h3 h4 (fun W=>mult_z _ _ _ _ _ _ _ _ _ _ _ W hz)
structure RB (w W:World):Prop where
  o:OwnU W w.heap.size 127 z7
  b:Below w.heap.size w W
theorem RB.later {w W V:World} (h:RB w W) (hb:Below W.heap.size W V):RB w V:=⟨h.o.later hb,h.b.trans (hb.mono h.b.size)⟩
theorem RB.new (w:World):RB w (w.alloc (.cells z7 127)):=⟨OwnU.new _ _ _,(Below.refl _ _).alloc (Nat.le_refl _) _⟩
set_option maxRecDepth 100000 in
set_option maxHeartbeats 4000000 in
theorem one0 (w:World):Calls Tryz.prog 163 #[I 0] w fun r w'=>r=.returned (.agg (aT 1 0 0 0 0 1 1))∧Below w.heap.size w w':=by
  go_enter Tryz.func163,Tryz.ntmps163
  go_upto_region 3 with fail
  have HT:Hid (TB w ((w.alloc (.cells #[I 0,I 0,I 0,I 0,I 0,I 0,I 0] 127)).alloc (.cells #[I 1,I 0,I 0,I 0,I 0,I 1,I 1] 127)) w.heap.size z7 (w.heap.size+1) #[I 1,I 0,I 0,I 0,I 0,I 1,I 1]):=TB.new _ _ _
  generalize (w.alloc (.cells #[I 0,I 0,I 0,I 0,I 0,I 0,I 0] 127)).alloc (.cells #[I 1,I 0,I 0,I 0,I 0,I 1,I 1] 127)=W at *
  go_wp2_with (first
    | (refine wpList_load_row rfl 127 (.tmp 3) rfl (w.heap.size+1) rfl 127 #[I 1,I 0,I 0,I 0,I 0,I 1,I 1] (0,0) _ (un HT).o Tryz.underlying127 rfl (by kernel_rfl) ?_)
    | (refine storeT 127 7 info127 rfl (.tmp 2) (.tmp 8) rfl w.heap.size z7 #[I 1,I 0,I 0,I 0,I 0,I 1,I 1] rfl rfl rfl rfl (un HT).a (by kernel_rfl) ?_))
  exact bodyPost_ret (v:=.agg #[I 1,I 0,I 0,I 0,I 0,I 1,I 1]) (res127 Tryz.results163 _ _ w.heap.size _ rfl rfl ((un HT).a.setRow _)) rfl ⟨rfl,below_setRow (un HT).b (Nat.le_refl _) _⟩
set_option maxRecDepth 100000 in
set_option maxHeartbeats 4000000 in
theorem one1 (w:World):Calls Tryz.prog 163 #[I 1] w fun r w'=>r=.returned (.agg (aT 0 1 0 0 0 1 1))∧Below w.heap.size w w':=by
  go_enter Tryz.func163,Tryz.ntmps163
  go_upto_region 3 with fail
  have HT:Hid (TB w ((w.alloc (.cells #[I 0,I 0,I 0,I 0,I 0,I 0,I 0] 127)).alloc (.cells #[I 0,I 1,I 0,I 0,I 0,I 1,I 1] 127)) w.heap.size z7 (w.heap.size+1) #[I 0,I 1,I 0,I 0,I 0,I 1,I 1]):=TB.new _ _ _
  generalize (w.alloc (.cells #[I 0,I 0,I 0,I 0,I 0,I 0,I 0] 127)).alloc (.cells #[I 0,I 1,I 0,I 0,I 0,I 1,I 1] 127)=W at *
  go_wp2_with (first
    | (refine wpList_load_row rfl 127 (.tmp 3) rfl (w.heap.size+1) rfl 127 #[I 0,I 1,I 0,I 0,I 0,I 1,I 1] (0,0) _ (un HT).o Tryz.underlying127 rfl (by kernel_rfl) ?_)
    | (refine storeT 127 7 info127 rfl (.tmp 2) (.tmp 8) rfl w.heap.size z7 #[I 0,I 1,I 0,I 0,I 0,I 1,I 1] rfl rfl rfl rfl (un HT).a (by kernel_rfl) ?_))
  exact bodyPost_ret (v:=.agg #[I 0,I 1,I 0,I 0,I 0,I 1,I 1]) (res127 Tryz.results163 _ _ w.heap.size _ rfl rfl ((un HT).a.setRow _)) rfl ⟨rfl,below_setRow (un HT).b (Nat.le_refl _) _⟩
set_option maxRecDepth 100000 in
set_option maxHeartbeats 4000000 in
theorem one2 (w:World):Calls Tryz.prog 163 #[I 2] w fun r w'=>r=.returned (.agg (aT 0 0 1 0 0 1 1))∧Below w.heap.size w w':=by
  go_enter Tryz.func163,Tryz.ntmps163
  go_upto_region 3 with fail
  have HT:Hid (TB w ((w.alloc (.cells #[I 0,I 0,I 0,I 0,I 0,I 0,I 0] 127)).alloc (.cells #[I 0,I 0,I 1,I 0,I 0,I 1,I 1] 127)) w.heap.size z7 (w.heap.size+1) #[I 0,I 0,I 1,I 0,I 0,I 1,I 1]):=TB.new _ _ _
  generalize (w.alloc (.cells #[I 0,I 0,I 0,I 0,I 0,I 0,I 0] 127)).alloc (.cells #[I 0,I 0,I 1,I 0,I 0,I 1,I 1] 127)=W at *
  go_wp2_with (first
    | (refine wpList_load_row rfl 127 (.tmp 3) rfl (w.heap.size+1) rfl 127 #[I 0,I 0,I 1,I 0,I 0,I 1,I 1] (0,0) _ (un HT).o Tryz.underlying127 rfl (by kernel_rfl) ?_)
    | (refine storeT 127 7 info127 rfl (.tmp 2) (.tmp 8) rfl w.heap.size z7 #[I 0,I 0,I 1,I 0,I 0,I 1,I 1] rfl rfl rfl rfl (un HT).a (by kernel_rfl) ?_))
  exact bodyPost_ret (v:=.agg #[I 0,I 0,I 1,I 0,I 0,I 1,I 1]) (res127 Tryz.results163 _ _ w.heap.size _ rfl rfl ((un HT).a.setRow _)) rfl ⟨rfl,below_setRow (un HT).b (Nat.le_refl _) _⟩
set_option maxRecDepth 100000 in
set_option maxHeartbeats 4000000 in
theorem one3 (w:World):Calls Tryz.prog 163 #[I 3] w fun r w'=>r=.returned (.agg (aT 0 0 0 1 0 1 1))∧Below w.heap.size w w':=by
  go_enter Tryz.func163,Tryz.ntmps163
  go_upto_region 3 with fail
  have HT:Hid (TB w ((w.alloc (.cells #[I 0,I 0,I 0,I 0,I 0,I 0,I 0] 127)).alloc (.cells #[I 0,I 0,I 0,I 1,I 0,I 1,I 1] 127)) w.heap.size z7 (w.heap.size+1) #[I 0,I 0,I 0,I 1,I 0,I 1,I 1]):=TB.new _ _ _
  generalize (w.alloc (.cells #[I 0,I 0,I 0,I 0,I 0,I 0,I 0] 127)).alloc (.cells #[I 0,I 0,I 0,I 1,I 0,I 1,I 1] 127)=W at *
  go_wp2_with (first
    | (refine wpList_load_row rfl 127 (.tmp 3) rfl (w.heap.size+1) rfl 127 #[I 0,I 0,I 0,I 1,I 0,I 1,I 1] (0,0) _ (un HT).o Tryz.underlying127 rfl (by kernel_rfl) ?_)
    | (refine storeT 127 7 info127 rfl (.tmp 2) (.tmp 8) rfl w.heap.size z7 #[I 0,I 0,I 0,I 1,I 0,I 1,I 1] rfl rfl rfl rfl (un HT).a (by kernel_rfl) ?_))
  exact bodyPost_ret (v:=.agg #[I 0,I 0,I 0,I 1,I 0,I 1,I 1]) (res127 Tryz.results163 _ _ w.heap.size _ rfl rfl ((un HT).a.setRow _)) rfl ⟨rfl,below_setRow (un HT).b (Nat.le_refl _) _⟩
set_option maxRecDepth 100000 in
set_option maxHeartbeats 4000000 in
theorem one4 (w:World):Calls Tryz.prog 163 #[I 4] w fun r w'=>r=.returned (.agg (aT 0 0 0 0 1 1 1))∧Below w.heap.size w w':=by
  go_enter Tryz.func163,Tryz.ntmps163
  go_upto_region 3 with fail
  have HT:Hid (TB w ((w.alloc (.cells #[I 0,I 0,I 0,I 0,I 0,I 0,I 0] 127)).alloc (.cells #[I 0,I 0,I 0,I 0,I 1,I 1,I 1] 127)) w.heap.size z7 (w.heap.size+1) #[I 0,I 0,I 0,I 0,I 1,I 1,I 1]):=TB.new _ _ _
  generalize (w.alloc (.cells #[I 0,I 0,I 0,I 0,I 0,I 0,I 0] 127)).alloc (.cells #[I 0,I 0,I 0,I 0,I 1,I 1,I 1] 127)=W at *
  go_wp2_with (first
    | (refine wpList_load_row rfl 127 (.tmp 3) rfl (w.heap.size+1) rfl 127 #[I 0,I 0,I 0,I 0,I 1,I 1,I 1] (0,0) _ (un HT).o Tryz.underlying127 rfl (by kernel_rfl) ?_)
    | (refine storeT 127 7 info127 rfl (.tmp 2) (.tmp 8) rfl w.heap.size z7 #[I 0,I 0,I 0,I 0,I 1,I 1,I 1] rfl rfl rfl rfl (un HT).a (by kernel_rfl) ?_))
  exact bodyPost_ret (v:=.agg #[I 0,I 0,I 0,I 0,I 1,I 1,I 1]) (res127 Tryz.results163 _ _ w.heap.size _ rfl rfl ((un HT).a.setRow _)) rfl ⟨rfl,below_setRow (un HT).b (Nat.le_refl _) _⟩
end Go.Proofs.YtamoadanapmmeaaGreatDoor.Tr

/- Amounts: times, by. -/
import Derived.Test.YtliadckofhblnaaGreatDoorLimb3
import Derived.Test.YtliadckofhblnaaGreatDoorFindS
set_option maxHeartbeats 4000000
set_option maxRecDepth 100000
namespace Go.Proofs.YtliadckofhblnaaGreatDoor.Nt
open Go.RowKit
abbrev n3 (a b c:Int):Array Value:=#[I a,I b,I c]
theorem info153:(Tryz.prog.info? 153).map (·.size)=some 3:=by kernel_rfl
theorem zBa:(Tryz.prog.info? 155).map (·.size)=some 14:=by kernel_rfl
theorem res153 {fn:Func} {p:Tmp} (h:fn.results=#[.cell p 153]) (tmps:Array Value) (w:World) (g:Nat) (vs:Array Value) (hl:vs.size=3) (hp:tmps.getD p undef=.pointer (some ⟨g,0,none⟩)) (ho:zAc w g 153 vs) :
  (results fn tmps).run Tryz.prog w=.ok (.agg vs) w:=by
 rw[zBb h,hp];simp only[asAddr,Sem.run_pure,Result.andThen_ok];rw[run_loadVar_row w g 153 153 vs (0,0) _ ho Tryz.underlying153 rfl (by rw[info153,hl])]
theorem zCf {fn:Func} {p:Tmp} (h:fn.results=#[.cell p 155]) (tmps:Array Value) (w:World) (g:Nat) (vs:Array Value) (hl:vs.size=14) (hp:tmps.getD p undef=.pointer (some ⟨g,0,none⟩)) (ho:zAc w g 155 vs) :
  (results fn tmps).run Tryz.prog w=.ok (.agg vs) w:=by
 rw[zBb h,hp];simp only[asAddr,Sem.run_pure,Result.andThen_ok];rw[run_loadVar_row w g 155 155 vs (0,0) _ ho Tryz.underlying155 rfl (by rw[zBa,hl])]
theorem numTimes (a0 a1 a2 b0 b1 b2 c0 c1 c2:Int) (w:World) (h0:wrap64 (a0*b0)=c0) (h1:wrap64 (a1*b1)=c1) (h2:wrap64 (a2+b2)=c2) :
  Calls Tryz.prog 246 #[.agg (n3 a0 a1 a2),.agg (n3 b0 b1 b2)] w fun r w'=>r=.returned (.agg (n3 c0 c1 c2))∧Bw w w':=by
 have HR:Hid (zAc (((w.alloc (.cells (n3 a0 a1 a2) 153)).alloc (.cells (n3 b0 b1 b2) 153)).alloc (.cells (n3 0 0 0) 153)) (w.heap.size+1+1) 153 (n3 0 0 0)):=by have h:=zAc.new ((w.alloc (.cells (n3 a0 a1 a2) 153)).alloc (.cells (n3 b0 b1 b2) 153)) (n3 0 0 0) 153;rw[Dm.size_alloc,Dm.size_alloc]at h;exact h
 have HB:Hid (Bw w (((w.alloc (.cells (n3 a0 a1 a2) 153)).alloc (.cells (n3 b0 b1 b2) 153)).alloc (.cells (n3 0 0 0) 153))):=(bA.alloc (by simp) _).alloc (by simp;omega) _;go_enter Tryz.func246,Tryz.ntmps246
 go_wp2_with (refine zAn 153 3 info153 rfl (.tmp 4) (.tmp 20) rfl (w.heap.size+1+1) (n3 0 0 0) (n3 c0 c1 c2) rfl rfl rfl rfl (un HR) (by kernel_rfl) ?_)
 exact bodyPost_ret (v:=.agg (n3 c0 c1 c2)) (res153 Tryz.results246 _ _ (w.heap.size+1+1) _ rfl rfl ((un HR).setRow _)) rfl ⟨rfl,below_setRow (un HB) (by omega) _⟩
theorem numBy (a0 a1 a2 b0 b1 b2 c0 c1 c2:Int) (w:World) (h0:wrap64 (a0*b1)=c0) (h1:wrap64 (a1*b0)=c1) (h2:wrap64 (a2 - b2)=c2) :
  Calls Tryz.prog 245 #[.agg (n3 a0 a1 a2),.agg (n3 b0 b1 b2)] w fun r w'=>r=.returned (.agg (n3 c0 c1 c2))∧Bw w w':=by
 have HR:Hid (zAc (((w.alloc (.cells (n3 a0 a1 a2) 153)).alloc (.cells (n3 b0 b1 b2) 153)).alloc (.cells (n3 0 0 0) 153)) (w.heap.size+1+1) 153 (n3 0 0 0)):=by have h:=zAc.new ((w.alloc (.cells (n3 a0 a1 a2) 153)).alloc (.cells (n3 b0 b1 b2) 153)) (n3 0 0 0) 153;rw[Dm.size_alloc,Dm.size_alloc]at h;exact h
 have HB:Hid (Bw w (((w.alloc (.cells (n3 a0 a1 a2) 153)).alloc (.cells (n3 b0 b1 b2) 153)).alloc (.cells (n3 0 0 0) 153))):=(bA.alloc (by simp) _).alloc (by simp;omega) _;go_enter Tryz.func245,Tryz.ntmps245
 go_wp2_with (refine zAn 153 3 info153 rfl (.tmp 4) (.tmp 20) rfl (w.heap.size+1+1) (n3 0 0 0) (n3 c0 c1 c2) rfl rfl rfl rfl (un HR) (by kernel_rfl) ?_)
 exact bodyPost_ret (v:=.agg (n3 c0 c1 c2)) (res153 Tryz.results245 _ _ (w.heap.size+1+1) _ rfl rfl ((un HR).setRow _)) rfl ⟨rfl,below_setRow (un HB) (by omega) _⟩
structure NA (w W:World) (av bv dv:Array Value) (g:Nat):Prop where
 a:zAc W w.heap.size 155 av
 b:zAc W (w.heap.size+1) 155 bv
 r:zAc W (w.heap.size+1+1) 155 #[I 0,I 0,I 0,I 0,I 0,I 0,I 0,I 0,I 0,I 0,I 0,I 0,I 0,I 0]
 d:zAc W g 26 dv
 l:Below w.heap.size w W
 n:w.heap.size+1+1<g
theorem NA.later {w W V:World} {av bv dv:Array Value} {g:Nat} (h:NA w W av bv dv g) (hb:Below W.heap.size W V):NA w V av bv dv g:=⟨h.a.later hb,h.b.later hb,h.r.later hb,h.d.later hb,h.l.trans (hb.mono h.l.size),h.n⟩
theorem amtTimes (a0 a1 a2 s0 s1 s2 b0 b1 b2 u0 u1 u2 c0 c1 c2 t0 t1 t2:Int) (D E F:Nat→Int) (er:Int) (w:World) (hm:∀g W,zAc W g 26 #[I (D 0),I (D 1),I (D 2),I (D 3),I (D 4),I (D 5),I (D 6),I (D 7),I (E 0),I (E 1),I (E 2),I (E 3),I (E 4),I (E 5),I (E 6),I (E 7)]→Calls Tryz.prog 175 #[.slice (some ⟨g,0,none⟩) 2 2] W fun r w'=>r=.returned (.tuple #[.agg #[I (F 0),I (F 1),I (F 2),I (F 3),I (F 4),I (F 5),I (F 6),I (F 7)],I er])∧Bw W w')
  (h1:∀W,Calls Tryz.prog 246 #[.agg #[I a0,I a1,I a2],.agg #[I b0,I b1,I b2]] W fun r w'=>r=.returned (.agg #[I c0,I c1,I c2])∧Bw W w')
  (h2:∀W,Calls Tryz.prog 246 #[.agg #[I s0,I s1,I s2],.agg #[I b0,I b1,I b2]] W fun r w'=>r=.returned (.agg #[I t0,I t1,I t2])∧Bw W w') :
  Calls Tryz.prog 199 #[.agg #[I a0,I a1,I a2,I s0,I s1,I s2,I (D 0),I (D 1),I (D 2),I (D 3),I (D 4),I (D 5),I (D 6),I (D 7)],.agg #[I b0,I b1,I b2,I u0,I u1,I u2,I (E 0),I (E 1),I (E 2),I (E 3),I (E 4),I (E 5),I (E 6),I (E 7)]] w fun r w'=>r=.returned (.agg #[I c0,I c1,I c2,I t0,I t1,I t2,I (F 0),I (F 1),I (F 2),I (F 3),I (F 4),I (F 5),I (F 6),I (F 7)])∧Bw w w':=by
 obtain⟨V,hV⟩:∃V,V=((w.alloc (.cells #[I a0,I a1,I a2,I s0,I s1,I s2,I (D 0),I (D 1),I (D 2),I (D 3),I (D 4),I (D 5),I (D 6),I (D 7)] 155)).alloc (.cells #[I b0,I b1,I b2,I u0,I u1,I u2,I (E 0),I (E 1),I (E 2),I (E 3),I (E 4),I (E 5),I (E 6),I (E 7)] 155)).alloc (.cells #[I 0,I 0,I 0,I 0,I 0,I 0,I 0,I 0,I 0,I 0,I 0,I 0,I 0,I 0] 155):=⟨_,rfl⟩;have HA:Hid (zAc V w.heap.size 155 #[I a0,I a1,I a2,I s0,I s1,I s2,I (D 0),I (D 1),I (D 2),I (D 3),I (D 4),I (D 5),I (D 6),I (D 7)]):=by rw[hV];exact((zAc.new _ _ _).alloc _).alloc _
 have HC:Hid (zAc V (w.heap.size+1) 155 #[I b0,I b1,I b2,I u0,I u1,I u2,I (E 0),I (E 1),I (E 2),I (E 3),I (E 4),I (E 5),I (E 6),I (E 7)]):=by rw[hV];have h:=zAc.new (w.alloc (.cells #[I a0,I a1,I a2,I s0,I s1,I s2,I (D 0),I (D 1),I (D 2),I (D 3),I (D 4),I (D 5),I (D 6),I (D 7)] 155)) #[I b0,I b1,I b2,I u0,I u1,I u2,I (E 0),I (E 1),I (E 2),I (E 3),I (E 4),I (E 5),I (E 6),I (E 7)] 155;rw[Dm.size_alloc]at h;exact h.alloc _
 have HR:Hid (zAc V (w.heap.size+1+1) 155 #[I 0,I 0,I 0,I 0,I 0,I 0,I 0,I 0,I 0,I 0,I 0,I 0,I 0,I 0]):=by rw[hV];have h:=zAc.new ((w.alloc (.cells #[I a0,I a1,I a2,I s0,I s1,I s2,I (D 0),I (D 1),I (D 2),I (D 3),I (D 4),I (D 5),I (D 6),I (D 7)] 155)).alloc (.cells #[I b0,I b1,I b2,I u0,I u1,I u2,I (E 0),I (E 1),I (E 2),I (E 3),I (E 4),I (E 5),I (E 6),I (E 7)] 155)) #[I 0,I 0,I 0,I 0,I 0,I 0,I 0,I 0,I 0,I 0,I 0,I 0,I 0,I 0] 155;rw[Dm.size_alloc,Dm.size_alloc]at h;exact h
 have HB:Hid (Bw w V):=by rw[hV];exact(bA.alloc (by simp) _).alloc (by simp;omega) _
 have HM:=zAb hm;have H1:=zAb h1;have H2:=zAb h2;have HMA:Hid (V.rangeAt w.heap.size 6 [I (D 0),I (D 1),I (D 2),I (D 3),I (D 4),I (D 5),I (D 6),I (D 7)]):=(un HA).mid _ _ (fun j v h=>by rcases Dm.eight (Nat.le_of_lt (List.getElem?_eq_some_iff.1 h).1)with rfl|rfl|rfl|rfl|rfl|rfl|rfl|rfl|rfl<;>first|exact h|cases h);have HMB:Hid (V.rangeAt (w.heap.size+1) 6 [I (E 0),I (E 1),I (E 2),I (E 3),I (E 4),I (E 5),I (E 6),I (E 7)]):=(un HC).mid _ _ (fun j v h=>by rcases Dm.eight (Nat.le_of_lt (List.getElem?_eq_some_iff.1 h).1)with rfl|rfl|rfl|rfl|rfl|rfl|rfl|rfl|rfl<;>first|exact h|cases h);have HV:=zAb hV;clear hV hm h1 h2;go_enter Tryz.func199,Tryz.ntmps199
 go_upto_region 1 with fail
 rw[←un HV];clear HV
 go_upto_region 2 with (first
  | (refine wpList_load_mid rfl 26 (.tmp 8) rfl w.heap.size 6 rfl [I (D 0),I (D 1),I (D 2),I (D 3),I (D 4),I (D 5),I (D 6),I (D 7)] _ (un HMA) Tryz.underlying26 rfl zCw ?_)
  | (refine wpList_load_mid rfl 26 (.tmp 10) rfl (w.heap.size+1) 6 rfl [I (E 0),I (E 1),I (E 2),I (E 3),I (E 4),I (E 5),I (E 6),I (E 7)] _ (un HMB) Tryz.underlying26 rfl zCw ?_)
  | (go_at_call 175;go_must(refine(un HM _ _ (zAc.new _ _ _)).mono ?_;rintro e w1 ⟨rfl,hb⟩;have HA1:=zAb (((un HA).alloc _).later hb);have HC1:=zAb (((un HC).alloc _).later hb);have HR1:=zAb (((un HR).alloc _).later hb);have HB1:Hid (Bw w w1):=((un HB).alloc (un HB).size _).trans (hb.mono ((un HB).alloc (un HB).size _).size);clear hb))
  | (refine zAn 26 8 zCw rfl (.tmp 5) (.tmp 14) rfl w1.heap.size #[I 0,I 0,I 0,I 0,I 0,I 0,I 0,I 0] #[I (F 0),I (F 1),I (F 2),I (F 3),I (F 4),I (F 5),I (F 6),I (F 7)] rfl rfl rfl rfl (zAc.new _ _ _) (by kernel_rfl) ?_))
 have hb2:Below w1.heap.size w1 ((w1.alloc (.cells #[I 0,I 0,I 0,I 0,I 0,I 0,I 0,I 0] 26)).setRow w1.heap.size #[I (F 0),I (F 1),I (F 2),I (F 3),I (F 4),I (F 5),I (F 6),I (F 7)]):=below_setRow (zBx _ _) (Nat.le_refl _) _;have HT0:Hid (NA w ((w1.alloc (.cells #[I 0,I 0,I 0,I 0,I 0,I 0,I 0,I 0] 26)).setRow w1.heap.size #[I (F 0),I (F 1),I (F 2),I (F 3),I (F 4),I (F 5),I (F 6),I (F 7)]) #[I a0,I a1,I a2,I s0,I s1,I s2,I (D 0),I (D 1),I (D 2),I (D 3),I (D 4),I (D 5),I (D 6),I (D 7)] #[I b0,I b1,I b2,I u0,I u1,I u2,I (E 0),I (E 1),I (E 2),I (E 3),I (E 4),I (E 5),I (E 6),I (E 7)] #[I (F 0),I (F 1),I (F 2),I (F 3),I (F 4),I (F 5),I (F 6),I (F 7)] w1.heap.size):=⟨(un HA1).later hb2,(un HC1).later hb2,(un HR1).later hb2,(zAc.new _ _ _).setRow _,bt HB1 hb2,(un HR1).lt⟩;clear hb2 HA1 HC1 HR1 HB1 HA HC HR HB HMA HMB HM;generalize (w1.alloc (.cells #[I 0,I 0,I 0,I 0,I 0,I 0,I 0,I 0] 26)).setRow w1.heap.size #[I (F 0),I (F 1),I (F 2),I (F 3),I (F 4),I (F 5),I (F 6),I (F 7)]=w2 at *
 generalize w1.heap.size=g5 at *
 have HT1:Hid (NA w w2.drew #[I a0,I a1,I a2,I s0,I s1,I s2,I (D 0),I (D 1),I (D 2),I (D 3),I (D 4),I (D 5),I (D 6),I (D 7)] #[I b0,I b1,I b2,I u0,I u1,I u2,I (E 0),I (E 1),I (E 2),I (E 3),I (E 4),I (E 5),I (E 6),I (E 7)] #[I (F 0),I (F 1),I (F 2),I (F 3),I (F 4),I (F 5),I (F 6),I (F 7)] g5):=(un HT0).later (Below.refl _ _).drew;have HSS:Hid (∀W':World,NA w W' #[I a0,I a1,I a2,I s0,I s1,I s2,I (D 0),I (D 1),I (D 2),I (D 3),I (D 4),I (D 5),I (D 6),I (D 7)] #[I b0,I b1,I b2,I u0,I u1,I u2,I (E 0),I (E 1),I (E 2),I (E 3),I (E 4),I (E 5),I (E 6),I (E 7)] #[I (F 0),I (F 1),I (F 2),I (F 3),I (F 4),I (F 5),I (F 6),I (F 7)] g5→W'.cell? ⟨w.heap.size,0,none⟩=some (I a0)∧W'.cell? ⟨w.heap.size,1,none⟩=some (I a1)∧W'.cell? ⟨w.heap.size,2,none⟩=some (I a2)∧W'.cell? ⟨w.heap.size,3,none⟩=some (I s0)∧W'.cell? ⟨w.heap.size,4,none⟩=some (I s1)∧W'.cell? ⟨w.heap.size,5,none⟩=some (I s2)∧W'.cell? ⟨(w.heap.size+1),0,none⟩=some (I b0)∧W'.cell? ⟨(w.heap.size+1),1,none⟩=some (I b1)∧W'.cell? ⟨(w.heap.size+1),2,none⟩=some (I b2)∧W'.cell? ⟨g5,0,none⟩=some (I (F 0))∧W'.cell? ⟨g5,1,none⟩=some (I (F 1))∧W'.cell? ⟨g5,2,none⟩=some (I (F 2))∧W'.cell? ⟨g5,3,none⟩=some (I (F 3))∧W'.cell? ⟨g5,4,none⟩=some (I (F 4))∧W'.cell? ⟨g5,5,none⟩=some (I (F 5))∧W'.cell? ⟨g5,6,none⟩=some (I (F 6))∧W'.cell? ⟨g5,7,none⟩=some (I (F 7))):=fun W' h=>⟨h.a.ub.c 0 _ rfl,h.a.ub.c 1 _ rfl,h.a.ub.c 2 _ rfl,h.a.ub.c 3 _ rfl,h.a.ub.c 4 _ rfl,h.a.ub.c 5 _ rfl,h.b.ub.c 0 _ rfl,h.b.ub.c 1 _ rfl,h.b.ub.c 2 _ rfl,h.d.ub.c 0 _ rfl,h.d.ub.c 1 _ rfl,h.d.ub.c 2 _ rfl,h.d.ub.c 3 _ rfl,h.d.ub.c 4 _ rfl,h.d.ub.c 5 _ rfl,h.d.ub.c 6 _ rfl,h.d.ub.c 7 _ rfl⟩
 have HS0:=zAb (un HSS _ (un HT1));clear HT0;refine zAi 12 (fun W'=>W'.cell? ⟨w.heap.size,0,none⟩=some (I a0)∧W'.cell? ⟨w.heap.size,1,none⟩=some (I a1)∧W'.cell? ⟨w.heap.size,2,none⟩=some (I a2)∧W'.cell? ⟨w.heap.size,3,none⟩=some (I s0)∧W'.cell? ⟨w.heap.size,4,none⟩=some (I s1)∧W'.cell? ⟨w.heap.size,5,none⟩=some (I s2)∧W'.cell? ⟨(w.heap.size+1),0,none⟩=some (I b0)∧W'.cell? ⟨(w.heap.size+1),1,none⟩=some (I b1)∧W'.cell? ⟨(w.heap.size+1),2,none⟩=some (I b2)∧W'.cell? ⟨g5,0,none⟩=some (I (F 0))∧W'.cell? ⟨g5,1,none⟩=some (I (F 1))∧W'.cell? ⟨g5,2,none⟩=some (I (F 2))∧W'.cell? ⟨g5,3,none⟩=some (I (F 3))∧W'.cell? ⟨g5,4,none⟩=some (I (F 4))∧W'.cell? ⟨g5,5,none⟩=some (I (F 5))∧W'.cell? ⟨g5,6,none⟩=some (I (F 6))∧W'.cell? ⟨g5,7,none⟩=some (I (F 7))) (fun _=>True) 13 rfl (by kernel_rfl) ?_;generalize w2.drew=U1 at *
 refine wT 0 (.pointer (some ⟨w.heap.size,0,none⟩)) rfl (Or.inl ⟨by rfl,?_⟩) ⟨un HS0,trivial⟩ ?_
 ·intro W' hW
  go_split_ands
  go_simp
 refine wT 1 (.agg #[I a0,I a1,I a2]) rfl (Or.inl ⟨by rfl,?_⟩) ⟨un HS0,trivial⟩ ?_
 ·intro W' hW
  go_split_ands
  go_simp
 refine wT 2 (.pointer (some ⟨(w.heap.size+1),0,none⟩)) rfl (Or.inl ⟨by rfl,?_⟩) ⟨un HS0,trivial⟩ ?_
 ·intro W' hW
  go_split_ands
  go_simp
 refine wT 3 (.agg #[I b0,I b1,I b2]) rfl (Or.inl ⟨by rfl,?_⟩) ⟨un HS0,trivial⟩ ?_
 ·intro W' hW
  go_split_ands
  go_simp
 refine wT 5 (.pointer (some ⟨w.heap.size,3,none⟩)) rfl (Or.inl ⟨by rfl,?_⟩) ⟨un HS0,trivial⟩ ?_
 ·intro W' hW
  go_split_ands
  go_simp
 refine wT 6 (.agg #[I s0,I s1,I s2]) rfl (Or.inl ⟨by rfl,?_⟩) ⟨un HS0,trivial⟩ ?_
 ·intro W' hW
  go_split_ands
  go_simp
 refine wT 7 (.pointer (some ⟨(w.heap.size+1),0,none⟩)) rfl (Or.inl ⟨by rfl,?_⟩) ⟨un HS0,trivial⟩ ?_
 ·intro W' hW
  go_split_ands
  go_simp
 refine wT 8 (.agg #[I b0,I b1,I b2]) rfl (Or.inl ⟨by rfl,?_⟩) ⟨un HS0,trivial⟩ ?_
 ·intro W' hW
  go_split_ands
  go_simp
 refine wT 10 (.agg #[I (F 0),I (F 1),I (F 2),I (F 3),I (F 4),I (F 5),I (F 6),I (F 7)]) rfl (Or.inl ⟨by rfl,?_⟩) ⟨un HS0,trivial⟩ ?_
 ·intro W' hW
  go_split_ands
  go_simp
 refine wO 4 rfl rfl (fun K hK=>?_)
 go_simp
 refine(un H1 _).mono ?_;rintro e U2 ⟨rfl,hb⟩;have HT2:=zAb ((un HT1).later hb);clear hb HT1;refine hK _ _ ⟨un HSS _ (un HT2),trivial⟩ ?_;clear hK K;refine wO 9 rfl rfl (fun K hK=>?_)
 go_simp
 refine(un H2 _).mono ?_;rintro e U3 ⟨rfl,hb⟩;have HT3:=zAb ((un HT2).later hb);clear hb HT2;refine hK _ _ ⟨un HSS _ (un HT3),trivial⟩ ?_;clear hK K;refine wO 11 rfl rfl (fun K hK=>?_)
 go_simp
 refine hK _ _ ⟨un HSS _ (un HT3),trivial⟩ ?_;clear hK K;refine wL 12 rfl rfl (fun K hK=>?_);refine wp_store_row 155 (.tmp 4) (.tmp 27) rfl (w.heap.size+1+1) #[I c0,I c1,I c2,I t0,I t1,I t2,I (F 0),I (F 1),I (F 2),I (F 3),I (F 4),I (F 5),I (F 6),I (F 7)] (by kernel_rfl) (by kernel_rfl) 155 _ (un HT3).r (by rw[zBa];rfl) rfl (by kernel_rfl) (hK _ _ trivial ?_);clear hK K;refine wDn ?_
 go_wp2_with fail
 exact bodyPost_ret (v:=.agg #[I c0,I c1,I c2,I t0,I t1,I t2,I (F 0),I (F 1),I (F 2),I (F 3),I (F 4),I (F 5),I (F 6),I (F 7)]) (zCf Tryz.results199 _ _ (w.heap.size+1+1) _ rfl rfl ((un HT3).r.setRow _)) rfl ⟨rfl,below_setRow (un HT3).l (by omega) _⟩
theorem amtBy (a0 a1 a2 s0 s1 s2 b0 b1 b2 u0 u1 u2 c0 c1 c2 t0 t1 t2:Int) (D E F:Nat→Int) (er:Int) (w:World) (hm:∀W,Calls Tryz.prog 105 #[.agg #[I (D 0),I (D 1),I (D 2),I (D 3),I (D 4),I (D 5),I (D 6),I (D 7)],.agg #[I (E 0),I (E 1),I (E 2),I (E 3),I (E 4),I (E 5),I (E 6),I (E 7)]] W fun r w'=>r=.returned (.tuple #[.agg #[I (F 0),I (F 1),I (F 2),I (F 3),I (F 4),I (F 5),I (F 6),I (F 7)],I er])∧Bw W w')
  (h1:∀W,Calls Tryz.prog 245 #[.agg #[I a0,I a1,I a2],.agg #[I b0,I b1,I b2]] W fun r w'=>r=.returned (.agg #[I c0,I c1,I c2])∧Bw W w')
  (h2:∀W,Calls Tryz.prog 245 #[.agg #[I s0,I s1,I s2],.agg #[I b0,I b1,I b2]] W fun r w'=>r=.returned (.agg #[I t0,I t1,I t2])∧Bw W w') :
  Calls Tryz.prog 197 #[.agg #[I a0,I a1,I a2,I s0,I s1,I s2,I (D 0),I (D 1),I (D 2),I (D 3),I (D 4),I (D 5),I (D 6),I (D 7)],.agg #[I b0,I b1,I b2,I u0,I u1,I u2,I (E 0),I (E 1),I (E 2),I (E 3),I (E 4),I (E 5),I (E 6),I (E 7)]] w fun r w'=>r=.returned (.agg #[I c0,I c1,I c2,I t0,I t1,I t2,I (F 0),I (F 1),I (F 2),I (F 3),I (F 4),I (F 5),I (F 6),I (F 7)])∧Bw w w':=by
 obtain⟨V,hV⟩:∃V,V=((w.alloc (.cells #[I a0,I a1,I a2,I s0,I s1,I s2,I (D 0),I (D 1),I (D 2),I (D 3),I (D 4),I (D 5),I (D 6),I (D 7)] 155)).alloc (.cells #[I b0,I b1,I b2,I u0,I u1,I u2,I (E 0),I (E 1),I (E 2),I (E 3),I (E 4),I (E 5),I (E 6),I (E 7)] 155)).alloc (.cells #[I 0,I 0,I 0,I 0,I 0,I 0,I 0,I 0,I 0,I 0,I 0,I 0,I 0,I 0] 155):=⟨_,rfl⟩;have HA:Hid (zAc V w.heap.size 155 #[I a0,I a1,I a2,I s0,I s1,I s2,I (D 0),I (D 1),I (D 2),I (D 3),I (D 4),I (D 5),I (D 6),I (D 7)]):=by rw[hV];exact((zAc.new _ _ _).alloc _).alloc _
 have HC:Hid (zAc V (w.heap.size+1) 155 #[I b0,I b1,I b2,I u0,I u1,I u2,I (E 0),I (E 1),I (E 2),I (E 3),I (E 4),I (E 5),I (E 6),I (E 7)]):=by rw[hV];have h:=zAc.new (w.alloc (.cells #[I a0,I a1,I a2,I s0,I s1,I s2,I (D 0),I (D 1),I (D 2),I (D 3),I (D 4),I (D 5),I (D 6),I (D 7)] 155)) #[I b0,I b1,I b2,I u0,I u1,I u2,I (E 0),I (E 1),I (E 2),I (E 3),I (E 4),I (E 5),I (E 6),I (E 7)] 155;rw[Dm.size_alloc]at h;exact h.alloc _
 have HR:Hid (zAc V (w.heap.size+1+1) 155 #[I 0,I 0,I 0,I 0,I 0,I 0,I 0,I 0,I 0,I 0,I 0,I 0,I 0,I 0]):=by rw[hV];have h:=zAc.new ((w.alloc (.cells #[I a0,I a1,I a2,I s0,I s1,I s2,I (D 0),I (D 1),I (D 2),I (D 3),I (D 4),I (D 5),I (D 6),I (D 7)] 155)).alloc (.cells #[I b0,I b1,I b2,I u0,I u1,I u2,I (E 0),I (E 1),I (E 2),I (E 3),I (E 4),I (E 5),I (E 6),I (E 7)] 155)) #[I 0,I 0,I 0,I 0,I 0,I 0,I 0,I 0,I 0,I 0,I 0,I 0,I 0,I 0] 155;rw[Dm.size_alloc,Dm.size_alloc]at h;exact h
 have HB:Hid (Bw w V):=by rw[hV];exact(bA.alloc (by simp) _).alloc (by simp;omega) _
 have HM:=zAb hm;have H1:=zAb h1;have H2:=zAb h2;have HMA:Hid (V.rangeAt w.heap.size 6 [I (D 0),I (D 1),I (D 2),I (D 3),I (D 4),I (D 5),I (D 6),I (D 7)]):=(un HA).mid _ _ (fun j v h=>by rcases Dm.eight (Nat.le_of_lt (List.getElem?_eq_some_iff.1 h).1)with rfl|rfl|rfl|rfl|rfl|rfl|rfl|rfl|rfl<;>first|exact h|cases h);have HMB:Hid (V.rangeAt (w.heap.size+1) 6 [I (E 0),I (E 1),I (E 2),I (E 3),I (E 4),I (E 5),I (E 6),I (E 7)]):=(un HC).mid _ _ (fun j v h=>by rcases Dm.eight (Nat.le_of_lt (List.getElem?_eq_some_iff.1 h).1)with rfl|rfl|rfl|rfl|rfl|rfl|rfl|rfl|rfl<;>first|exact h|cases h);have HV:=zAb hV;clear hV hm h1 h2;go_enter Tryz.func197,Tryz.ntmps197
 go_upto_region 1 with fail
 rw[←un HV];clear HV
 go_upto_region 2 with (first
  | (refine wpList_load_mid rfl 26 (.tmp 8) rfl w.heap.size 6 rfl [I (D 0),I (D 1),I (D 2),I (D 3),I (D 4),I (D 5),I (D 6),I (D 7)] _ (un HMA) Tryz.underlying26 rfl zCw ?_)
  | (refine wpList_load_mid rfl 26 (.tmp 10) rfl (w.heap.size+1) 6 rfl [I (E 0),I (E 1),I (E 2),I (E 3),I (E 4),I (E 5),I (E 6),I (E 7)] _ (un HMB) Tryz.underlying26 rfl zCw ?_)
  | (go_at_call 105;go_must(refine(un HM _).mono ?_;rintro e w1 ⟨rfl,hb⟩;have HA1:=zAb ((un HA).later hb);have HC1:=zAb ((un HC).later hb);have HR1:=zAb ((un HR).later hb);have HB1:Hid (Bw w w1):=bt HB hb;clear hb))
  | (refine zAn 26 8 zCw rfl (.tmp 5) (.tmp 13) rfl w1.heap.size #[I 0,I 0,I 0,I 0,I 0,I 0,I 0,I 0] #[I (F 0),I (F 1),I (F 2),I (F 3),I (F 4),I (F 5),I (F 6),I (F 7)] rfl rfl rfl rfl (zAc.new _ _ _) (by kernel_rfl) ?_))
 have hb2:Below w1.heap.size w1 ((w1.alloc (.cells #[I 0,I 0,I 0,I 0,I 0,I 0,I 0,I 0] 26)).setRow w1.heap.size #[I (F 0),I (F 1),I (F 2),I (F 3),I (F 4),I (F 5),I (F 6),I (F 7)]):=below_setRow (zBx _ _) (Nat.le_refl _) _;have HT0:Hid (NA w ((w1.alloc (.cells #[I 0,I 0,I 0,I 0,I 0,I 0,I 0,I 0] 26)).setRow w1.heap.size #[I (F 0),I (F 1),I (F 2),I (F 3),I (F 4),I (F 5),I (F 6),I (F 7)]) #[I a0,I a1,I a2,I s0,I s1,I s2,I (D 0),I (D 1),I (D 2),I (D 3),I (D 4),I (D 5),I (D 6),I (D 7)] #[I b0,I b1,I b2,I u0,I u1,I u2,I (E 0),I (E 1),I (E 2),I (E 3),I (E 4),I (E 5),I (E 6),I (E 7)] #[I (F 0),I (F 1),I (F 2),I (F 3),I (F 4),I (F 5),I (F 6),I (F 7)] w1.heap.size):=⟨(un HA1).later hb2,(un HC1).later hb2,(un HR1).later hb2,(zAc.new _ _ _).setRow _,bt HB1 hb2,(un HR1).lt⟩;clear hb2 HA1 HC1 HR1 HB1 HA HC HR HB HMA HMB HM;generalize (w1.alloc (.cells #[I 0,I 0,I 0,I 0,I 0,I 0,I 0,I 0] 26)).setRow w1.heap.size #[I (F 0),I (F 1),I (F 2),I (F 3),I (F 4),I (F 5),I (F 6),I (F 7)]=w2 at *
 generalize w1.heap.size=g5 at *
 have HT1:Hid (NA w w2.drew #[I a0,I a1,I a2,I s0,I s1,I s2,I (D 0),I (D 1),I (D 2),I (D 3),I (D 4),I (D 5),I (D 6),I (D 7)] #[I b0,I b1,I b2,I u0,I u1,I u2,I (E 0),I (E 1),I (E 2),I (E 3),I (E 4),I (E 5),I (E 6),I (E 7)] #[I (F 0),I (F 1),I (F 2),I (F 3),I (F 4),I (F 5),I (F 6),I (F 7)] g5):=(un HT0).later (Below.refl _ _).drew;have HSS:Hid (∀W':World,NA w W' #[I a0,I a1,I a2,I s0,I s1,I s2,I (D 0),I (D 1),I (D 2),I (D 3),I (D 4),I (D 5),I (D 6),I (D 7)] #[I b0,I b1,I b2,I u0,I u1,I u2,I (E 0),I (E 1),I (E 2),I (E 3),I (E 4),I (E 5),I (E 6),I (E 7)] #[I (F 0),I (F 1),I (F 2),I (F 3),I (F 4),I (F 5),I (F 6),I (F 7)] g5→W'.cell? ⟨w.heap.size,0,none⟩=some (I a0)∧W'.cell? ⟨w.heap.size,1,none⟩=some (I a1)∧W'.cell? ⟨w.heap.size,2,none⟩=some (I a2)∧W'.cell? ⟨w.heap.size,3,none⟩=some (I s0)∧W'.cell? ⟨w.heap.size,4,none⟩=some (I s1)∧W'.cell? ⟨w.heap.size,5,none⟩=some (I s2)∧W'.cell? ⟨(w.heap.size+1),0,none⟩=some (I b0)∧W'.cell? ⟨(w.heap.size+1),1,none⟩=some (I b1)∧W'.cell? ⟨(w.heap.size+1),2,none⟩=some (I b2)∧W'.cell? ⟨g5,0,none⟩=some (I (F 0))∧W'.cell? ⟨g5,1,none⟩=some (I (F 1))∧W'.cell? ⟨g5,2,none⟩=some (I (F 2))∧W'.cell? ⟨g5,3,none⟩=some (I (F 3))∧W'.cell? ⟨g5,4,none⟩=some (I (F 4))∧W'.cell? ⟨g5,5,none⟩=some (I (F 5))∧W'.cell? ⟨g5,6,none⟩=some (I (F 6))∧W'.cell? ⟨g5,7,none⟩=some (I (F 7))):=fun W' h=>⟨h.a.ub.c 0 _ rfl,h.a.ub.c 1 _ rfl,h.a.ub.c 2 _ rfl,h.a.ub.c 3 _ rfl,h.a.ub.c 4 _ rfl,h.a.ub.c 5 _ rfl,h.b.ub.c 0 _ rfl,h.b.ub.c 1 _ rfl,h.b.ub.c 2 _ rfl,h.d.ub.c 0 _ rfl,h.d.ub.c 1 _ rfl,h.d.ub.c 2 _ rfl,h.d.ub.c 3 _ rfl,h.d.ub.c 4 _ rfl,h.d.ub.c 5 _ rfl,h.d.ub.c 6 _ rfl,h.d.ub.c 7 _ rfl⟩
 have HS0:=zAb (un HSS _ (un HT1));clear HT0;refine zAi 12 (fun W'=>W'.cell? ⟨w.heap.size,0,none⟩=some (I a0)∧W'.cell? ⟨w.heap.size,1,none⟩=some (I a1)∧W'.cell? ⟨w.heap.size,2,none⟩=some (I a2)∧W'.cell? ⟨w.heap.size,3,none⟩=some (I s0)∧W'.cell? ⟨w.heap.size,4,none⟩=some (I s1)∧W'.cell? ⟨w.heap.size,5,none⟩=some (I s2)∧W'.cell? ⟨(w.heap.size+1),0,none⟩=some (I b0)∧W'.cell? ⟨(w.heap.size+1),1,none⟩=some (I b1)∧W'.cell? ⟨(w.heap.size+1),2,none⟩=some (I b2)∧W'.cell? ⟨g5,0,none⟩=some (I (F 0))∧W'.cell? ⟨g5,1,none⟩=some (I (F 1))∧W'.cell? ⟨g5,2,none⟩=some (I (F 2))∧W'.cell? ⟨g5,3,none⟩=some (I (F 3))∧W'.cell? ⟨g5,4,none⟩=some (I (F 4))∧W'.cell? ⟨g5,5,none⟩=some (I (F 5))∧W'.cell? ⟨g5,6,none⟩=some (I (F 6))∧W'.cell? ⟨g5,7,none⟩=some (I (F 7))) (fun _=>True) 13 rfl (by kernel_rfl) ?_;generalize w2.drew=U1 at *
 refine wT 0 (.pointer (some ⟨w.heap.size,0,none⟩)) rfl (Or.inl ⟨by rfl,?_⟩) ⟨un HS0,trivial⟩ ?_
 ·intro W' hW
  go_split_ands
  go_simp
 refine wT 1 (.agg #[I a0,I a1,I a2]) rfl (Or.inl ⟨by rfl,?_⟩) ⟨un HS0,trivial⟩ ?_
 ·intro W' hW
  go_split_ands
  go_simp
 refine wT 2 (.pointer (some ⟨(w.heap.size+1),0,none⟩)) rfl (Or.inl ⟨by rfl,?_⟩) ⟨un HS0,trivial⟩ ?_
 ·intro W' hW
  go_split_ands
  go_simp
 refine wT 3 (.agg #[I b0,I b1,I b2]) rfl (Or.inl ⟨by rfl,?_⟩) ⟨un HS0,trivial⟩ ?_
 ·intro W' hW
  go_split_ands
  go_simp
 refine wT 5 (.pointer (some ⟨w.heap.size,3,none⟩)) rfl (Or.inl ⟨by rfl,?_⟩) ⟨un HS0,trivial⟩ ?_
 ·intro W' hW
  go_split_ands
  go_simp
 refine wT 6 (.agg #[I s0,I s1,I s2]) rfl (Or.inl ⟨by rfl,?_⟩) ⟨un HS0,trivial⟩ ?_
 ·intro W' hW
  go_split_ands
  go_simp
 refine wT 7 (.pointer (some ⟨(w.heap.size+1),0,none⟩)) rfl (Or.inl ⟨by rfl,?_⟩) ⟨un HS0,trivial⟩ ?_
 ·intro W' hW
  go_split_ands
  go_simp
 refine wT 8 (.agg #[I b0,I b1,I b2]) rfl (Or.inl ⟨by rfl,?_⟩) ⟨un HS0,trivial⟩ ?_
 ·intro W' hW
  go_split_ands
  go_simp
 refine wT 10 (.agg #[I (F 0),I (F 1),I (F 2),I (F 3),I (F 4),I (F 5),I (F 6),I (F 7)]) rfl (Or.inl ⟨by rfl,?_⟩) ⟨un HS0,trivial⟩ ?_
 ·intro W' hW
  go_split_ands
  go_simp
 refine wO 4 rfl rfl (fun K hK=>?_)
 go_simp
 refine(un H1 _).mono ?_;rintro e U2 ⟨rfl,hb⟩;have HT2:=zAb ((un HT1).later hb);clear hb HT1;refine hK _ _ ⟨un HSS _ (un HT2),trivial⟩ ?_;clear hK K;refine wO 9 rfl rfl (fun K hK=>?_)
 go_simp
 refine(un H2 _).mono ?_;rintro e U3 ⟨rfl,hb⟩;have HT3:=zAb ((un HT2).later hb);clear hb HT2;refine hK _ _ ⟨un HSS _ (un HT3),trivial⟩ ?_;clear hK K;refine wO 11 rfl rfl (fun K hK=>?_)
 go_simp
 refine hK _ _ ⟨un HSS _ (un HT3),trivial⟩ ?_;clear hK K;refine wL 12 rfl rfl (fun K hK=>?_);refine wp_store_row 155 (.tmp 4) (.tmp 26) rfl (w.heap.size+1+1) #[I c0,I c1,I c2,I t0,I t1,I t2,I (F 0),I (F 1),I (F 2),I (F 3),I (F 4),I (F 5),I (F 6),I (F 7)] (by kernel_rfl) (by kernel_rfl) 155 _ (un HT3).r (by rw[zBa];rfl) rfl (by kernel_rfl) (hK _ _ trivial ?_);clear hK K;refine wDn ?_
 go_wp2_with fail
 exact bodyPost_ret (v:=.agg #[I c0,I c1,I c2,I t0,I t1,I t2,I (F 0),I (F 1),I (F 2),I (F 3),I (F 4),I (F 5),I (F 6),I (F 7)]) (zCf Tryz.results197 _ _ (w.heap.size+1+1) _ rfl rfl ((un HT3).r.setRow _)) rfl ⟨rfl,below_setRow (un HT3).l (by omega) _⟩
end Go.Proofs.YtliadckofhblnaaGreatDoor.Nt

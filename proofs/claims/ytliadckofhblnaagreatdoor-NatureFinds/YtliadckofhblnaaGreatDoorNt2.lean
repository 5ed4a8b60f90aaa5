/- Amounts: times, by. -/
import Derived.Test.YtliadckofhblnaaGreatDoorLimb3
import Derived.Test.YtliadckofhblnaaGreatDoorNt1
namespace Go.Proofs.YtliadckofhblnaaGreatDoor.Nt
open Go.RowKit
structure NA (w W:World) (av bv dv:Array Value) (g:Nat):Prop where
 a:OwnU W w.heap.size 155 av
 b:OwnU W (w.heap.size+1) 155 bv
 r:OwnU W (w.heap.size+1+1) 155 #[I 0,I 0,I 0,I 0,I 0,I 0,I 0,I 0,I 0,I 0,I 0,I 0,I 0,I 0]
 d:OwnU W g 26 dv
 l:Below w.heap.size w W
 n:w.heap.size+1+1<g
theorem NA.later {w W V:World} {av bv dv:Array Value} {g:Nat} (h:NA w W av bv dv g) (hb:Below W.heap.size W V):NA w V av bv dv g:=⟨h.a.later hb,h.b.later hb,h.r.later hb,h.d.later hb,h.l.trans (hb.mono h.l.size),h.n⟩
set_option maxRecDepth 100000 in
set_option maxHeartbeats 4000000 in
theorem amtTimes (a0 a1 a2 s0 s1 s2 b0 b1 b2 u0 u1 u2 c0 c1 c2 t0 t1 t2:Int) (D E F:Nat→Int) (er:Int) (w:World) (hm:∀g W,OwnU W g 26 #[I (D 0),I (D 1),I (D 2),I (D 3),I (D 4),I (D 5),I (D 6),I (D 7),I (E 0),I (E 1),I (E 2),I (E 3),I (E 4),I (E 5),I (E 6),I (E 7)]→Calls Tryz.prog 175 #[.slice (some ⟨g,0,none⟩) 2 2] W fun r w'=>r=.returned (.tuple #[.agg #[I (F 0),I (F 1),I (F 2),I (F 3),I (F 4),I (F 5),I (F 6),I (F 7)],I er])∧Below W.heap.size W w')
  (h1:∀W,Calls Tryz.prog 246 #[.agg #[I a0,I a1,I a2],.agg #[I b0,I b1,I b2]] W fun r w'=>r=.returned (.agg #[I c0,I c1,I c2])∧Below W.heap.size W w')
  (h2:∀W,Calls Tryz.prog 246 #[.agg #[I s0,I s1,I s2],.agg #[I b0,I b1,I b2]] W fun r w'=>r=.returned (.agg #[I t0,I t1,I t2])∧Below W.heap.size W w') :
  Calls Tryz.prog 199 #[.agg #[I a0,I a1,I a2,I s0,I s1,I s2,I (D 0),I (D 1),I (D 2),I (D 3),I (D 4),I (D 5),I (D 6),I (D 7)],.agg #[I b0,I b1,I b2,I u0,I u1,I u2,I (E 0),I (E 1),I (E 2),I (E 3),I (E 4),I (E 5),I (E 6),I (E 7)]] w fun r w'=>r=.returned (.agg #[I c0,I c1,I c2,I t0,I t1,I t2,I (F 0),I (F 1),I (F 2),I (F 3),I (F 4),I (F 5),I (F 6),I (F 7)])∧Below w.heap.size w w':=by
 obtain⟨V,hV⟩:∃V,V=((w.alloc (.cells #[I a0,I a1,I a2,I s0,I s1,I s2,I (D 0),I (D 1),I (D 2),I (D 3),I (D 4),I (D 5),I (D 6),I (D 7)] 155)).alloc (.cells #[I b0,I b1,I b2,I u0,I u1,I u2,I (E 0),I (E 1),I (E 2),I (E 3),I (E 4),I (E 5),I (E 6),I (E 7)] 155)).alloc (.cells #[I 0,I 0,I 0,I 0,I 0,I 0,I 0,I 0,I 0,I 0,I 0,I 0,I 0,I 0] 155):=⟨_,rfl⟩
 have HA:Hid (OwnU V w.heap.size 155 #[I a0,I a1,I a2,I s0,I s1,I s2,I (D 0),I (D 1),I (D 2),I (D 3),I (D 4),I (D 5),I (D 6),I (D 7)]):=by rw[hV];exact((OwnU.new _ _ _).alloc _).alloc _
 have HC:Hid (OwnU V (w.heap.size+1) 155 #[I b0,I b1,I b2,I u0,I u1,I u2,I (E 0),I (E 1),I (E 2),I (E 3),I (E 4),I (E 5),I (E 6),I (E 7)]):=by rw[hV];have h:=OwnU.new (w.alloc (.cells #[I a0,I a1,I a2,I s0,I s1,I s2,I (D 0),I (D 1),I (D 2),I (D 3),I (D 4),I (D 5),I (D 6),I (D 7)] 155)) #[I b0,I b1,I b2,I u0,I u1,I u2,I (E 0),I (E 1),I (E 2),I (E 3),I (E 4),I (E 5),I (E 6),I (E 7)] 155;rw[Dm.size_alloc]at h;exact h.alloc _
 have HR:Hid (OwnU V (w.heap.size+1+1) 155 #[I 0,I 0,I 0,I 0,I 0,I 0,I 0,I 0,I 0,I 0,I 0,I 0,I 0,I 0]):=by rw[hV];have h:=OwnU.new ((w.alloc (.cells #[I a0,I a1,I a2,I s0,I s1,I s2,I (D 0),I (D 1),I (D 2),I (D 3),I (D 4),I (D 5),I (D 6),I (D 7)] 155)).alloc (.cells #[I b0,I b1,I b2,I u0,I u1,I u2,I (E 0),I (E 1),I (E 2),I (E 3),I (E 4),I (E 5),I (E 6),I (E 7)] 155)) #[I 0,I 0,I 0,I 0,I 0,I 0,I 0,I 0,I 0,I 0,I 0,I 0,I 0,I 0] 155;rw[Dm.size_alloc,Dm.size_alloc]at h;exact h
 have HB:Hid (Below w.heap.size w V):=by rw[hV];exact(((Below.refl _ _).alloc (Nat.le_refl _) _).alloc (by simp) _).alloc (by simp;omega) _
 have HM:=hide hm;have H1:=hide h1;have H2:=hide h2
 have HMA:Hid (V.rangeAt w.heap.size 6 [I (D 0),I (D 1),I (D 2),I (D 3),I (D 4),I (D 5),I (D 6),I (D 7)]):=(un HA).mid _ _ (fun j v h=>by rcases Dm.eight (Nat.le_of_lt (List.getElem?_eq_some_iff.1 h).1)with rfl|rfl|rfl|rfl|rfl|rfl|rfl|rfl|rfl<;>first|exact h|cases h)
 have HMB:Hid (V.rangeAt (w.heap.size+1) 6 [I (E 0),I (E 1),I (E 2),I (E 3),I (E 4),I (E 5),I (E 6),I (E 7)]):=(un HC).mid _ _ (fun j v h=>by rcases Dm.eight (Nat.le_of_lt (List.getElem?_eq_some_iff.1 h).1)with rfl|rfl|rfl|rfl|rfl|rfl|rfl|rfl|rfl<;>first|exact h|cases h)
 have HV:=hide hV
 clear hV hm h1 h2
 go_enter Tryz.func199,Tryz.ntmps199
 go_upto_region 1 with fail
 rw[←un HV]
 clear HV
 go_upto_region 2 with (first
  | (refine wpList_load_mid rfl 26 (.tmp 8) rfl w.heap.size 6 rfl [I (D 0),I (D 1),I (D 2),I (D 3),I (D 4),I (D 5),I (D 6),I (D 7)] _ (un HMA) Tryz.underlying26 rfl info26 ?_)
  | (refine wpList_load_mid rfl 26 (.tmp 10) rfl (w.heap.size+1) 6 rfl [I (E 0),I (E 1),I (E 2),I (E 3),I (E 4),I (E 5),I (E 6),I (E 7)] _ (un HMB) Tryz.underlying26 rfl info26 ?_)
  | (go_at_call 175;go_must(refine(un HM _ _ (OwnU.new _ _ _)).mono ?_;rintro e w1 ⟨rfl,hb⟩;have HA1:=hide (((un HA).alloc _).later hb);have HC1:=hide (((un HC).alloc _).later hb);have HR1:=hide (((un HR).alloc _).later hb);have HB1:Hid (Below w.heap.size w w1):=((un HB).alloc (un HB).size _).trans (hb.mono ((un HB).alloc (un HB).size _).size);clear hb))
  | (refine storeT 26 8 info26 rfl (.tmp 5) (.tmp 14) rfl w1.heap.size #[I 0,I 0,I 0,I 0,I 0,I 0,I 0,I 0] #[I (F 0),I (F 1),I (F 2),I (F 3),I (F 4),I (F 5),I (F 6),I (F 7)] rfl rfl rfl rfl (OwnU.new _ _ _) (by kernel_rfl) ?_))
 have hb2:Below w1.heap.size w1 ((w1.alloc (.cells #[I 0,I 0,I 0,I 0,I 0,I 0,I 0,I 0] 26)).setRow w1.heap.size #[I (F 0),I (F 1),I (F 2),I (F 3),I (F 4),I (F 5),I (F 6),I (F 7)]):=below_setRow (albel _ _) (Nat.le_refl _) _
 have HT0:Hid (NA w ((w1.alloc (.cells #[I 0,I 0,I 0,I 0,I 0,I 0,I 0,I 0] 26)).setRow w1.heap.size #[I (F 0),I (F 1),I (F 2),I (F 3),I (F 4),I (F 5),I (F 6),I (F 7)]) #[I a0,I a1,I a2,I s0,I s1,I s2,I (D 0),I (D 1),I (D 2),I (D 3),I (D 4),I (D 5),I (D 6),I (D 7)] #[I b0,I b1,I b2,I u0,I u1,I u2,I (E 0),I (E 1),I (E 2),I (E 3),I (E 4),I (E 5),I (E 6),I (E 7)] #[I (F 0),I (F 1),I (F 2),I (F 3),I (F 4),I (F 5),I (F 6),I (F 7)] w1.heap.size):=⟨(un HA1).later hb2,(un HC1).later hb2,(un HR1).later hb2,(OwnU.new _ _ _).setRow _,(un HB1).trans (hb2.mono (un HB1).size),(un HR1).lt⟩
 clear hb2 HA1 HC1 HR1 HB1 HA HC HR HB HMA HMB HM
 generalize (w1.alloc (.cells #[I 0,I 0,I 0,I 0,I 0,I 0,I 0,I 0] 26)).setRow w1.heap.size #[I (F 0),I (F 1),I (F 2),I (F 3),I (F 4),I (F 5),I (F 6),I (F 7)]=w2 at *
 generalize w1.heap.size=g5 at *
 have HT1:Hid (NA w w2.drew #[I a0,I a1,I a2,I s0,I s1,I s2,I (D 0),I (D 1),I (D 2),I (D 3),I (D 4),I (D 5),I (D 6),I (D 7)] #[I b0,I b1,I b2,I u0,I u1,I u2,I (E 0),I (E 1),I (E 2),I (E 3),I (E 4),I (E 5),I (E 6),I (E 7)] #[I (F 0),I (F 1),I (F 2),I (F 3),I (F 4),I (F 5),I (F 6),I (F 7)] g5):=(un HT0).later (Below.refl _ _).drew
 have HSS:Hid (∀W':World,NA w W' #[I a0,I a1,I a2,I s0,I s1,I s2,I (D 0),I (D 1),I (D 2),I (D 3),I (D 4),I (D 5),I (D 6),I (D 7)] #[I b0,I b1,I b2,I u0,I u1,I u2,I (E 0),I (E 1),I (E 2),I (E 3),I (E 4),I (E 5),I (E 6),I (E 7)] #[I (F 0),I (F 1),I (F 2),I (F 3),I (F 4),I (F 5),I (F 6),I (F 7)] g5→W'.cell? ⟨w.heap.size,0,none⟩=some (I a0)∧W'.cell? ⟨w.heap.size,1,none⟩=some (I a1)∧W'.cell? ⟨w.heap.size,2,none⟩=some (I a2)∧W'.cell? ⟨w.heap.size,3,none⟩=some (I s0)∧W'.cell? ⟨w.heap.size,4,none⟩=some (I s1)∧W'.cell? ⟨w.heap.size,5,none⟩=some (I s2)∧W'.cell? ⟨(w.heap.size+1),0,none⟩=some (I b0)∧W'.cell? ⟨(w.heap.size+1),1,none⟩=some (I b1)∧W'.cell? ⟨(w.heap.size+1),2,none⟩=some (I b2)∧W'.cell? ⟨g5,0,none⟩=some (I (F 0))∧W'.cell? ⟨g5,1,none⟩=some (I (F 1))∧W'.cell? ⟨g5,2,none⟩=some (I (F 2))∧W'.cell? ⟨g5,3,none⟩=some (I (F 3))∧W'.cell? ⟨g5,4,none⟩=some (I (F 4))∧W'.cell? ⟨g5,5,none⟩=some (I (F 5))∧W'.cell? ⟨g5,6,none⟩=some (I (F 6))∧W'.cell? ⟨g5,7,none⟩=some (I (F 7))):=fun W' h=>⟨h.a.ub.c 0 _ rfl,h.a.ub.c 1 _ rfl,h.a.ub.c 2 _ rfl,h.a.ub.c 3 _ rfl,h.a.ub.c 4 _ rfl,h.a.ub.c 5 _ rfl,h.b.ub.c 0 _ rfl,h.b.ub.c 1 _ rfl,h.b.ub.c 2 _ rfl,h.d.ub.c 0 _ rfl,h.d.ub.c 1 _ rfl,h.d.ub.c 2 _ rfl,h.d.ub.c 3 _ rfl,h.d.ub.c 4 _ rfl,h.d.ub.c 5 _ rfl,h.d.ub.c 6 _ rfl,h.d.ub.c 7 _ rfl⟩
 have HS0:=hide (un HSS _ (un HT1))
 clear HT0
 refine region_reads 12 (fun W'=>W'.cell? ⟨w.heap.size,0,none⟩=some (I a0)∧W'.cell? ⟨w.heap.size,1,none⟩=some (I a1)∧W'.cell? ⟨w.heap.size,2,none⟩=some (I a2)∧W'.cell? ⟨w.heap.size,3,none⟩=some (I s0)∧W'.cell? ⟨w.heap.size,4,none⟩=some (I s1)∧W'.cell? ⟨w.heap.size,5,none⟩=some (I s2)∧W'.cell? ⟨(w.heap.size+1),0,none⟩=some (I b0)∧W'.cell? ⟨(w.heap.size+1),1,none⟩=some (I b1)∧W'.cell? ⟨(w.heap.size+1),2,none⟩=some (I b2)∧W'.cell? ⟨g5,0,none⟩=some (I (F 0))∧W'.cell? ⟨g5,1,none⟩=some (I (F 1))∧W'.cell? ⟨g5,2,none⟩=some (I (F 2))∧W'.cell? ⟨g5,3,none⟩=some (I (F 3))∧W'.cell? ⟨g5,4,none⟩=some (I (F 4))∧W'.cell? ⟨g5,5,none⟩=some (I (F 5))∧W'.cell? ⟨g5,6,none⟩=some (I (F 6))∧W'.cell? ⟨g5,7,none⟩=some (I (F 7))) (fun _=>True) 13 rfl (by kernel_rfl) ?_
 generalize w2.drew=U1 at *
 refine wpR_take (i:=0) (oi:=_) (v:=.pointer (some ⟨w.heap.size,0,none⟩)) rfl (by kernel_rfl) (by kernel_rfl) (by kernel_rfl) (by kernel_rfl) (fun _ _ _ h=>h) (Or.inl ⟨by rfl,?_⟩) ⟨un HS0,trivial⟩ ?_
 ·intro W' hW
  go_split_ands
  go_simp
 refine wpR_take (i:=1) (oi:=_) (v:=.agg #[I a0,I a1,I a2]) rfl (by kernel_rfl) (by kernel_rfl) (by kernel_rfl) (by kernel_rfl) (fun _ _ _ h=>h) (Or.inl ⟨by rfl,?_⟩) ⟨un HS0,trivial⟩ ?_
 ·intro W' hW
  go_split_ands
  go_simp
 refine wpR_take (i:=2) (oi:=_) (v:=.pointer (some ⟨(w.heap.size+1),0,none⟩)) rfl (by kernel_rfl) (by kernel_rfl) (by kernel_rfl) (by kernel_rfl) (fun _ _ _ h=>h) (Or.inl ⟨by rfl,?_⟩) ⟨un HS0,trivial⟩ ?_
 ·intro W' hW
  go_split_ands
  go_simp
 refine wpR_take (i:=3) (oi:=_) (v:=.agg #[I b0,I b1,I b2]) rfl (by kernel_rfl) (by kernel_rfl) (by kernel_rfl) (by kernel_rfl) (fun _ _ _ h=>h) (Or.inl ⟨by rfl,?_⟩) ⟨un HS0,trivial⟩ ?_
 ·intro W' hW
  go_split_ands
  go_simp
 refine wpR_take (i:=5) (oi:=_) (v:=.pointer (some ⟨w.heap.size,3,none⟩)) rfl (by kernel_rfl) (by kernel_rfl) (by kernel_rfl) (by kernel_rfl) (fun _ _ _ h=>h) (Or.inl ⟨by rfl,?_⟩) ⟨un HS0,trivial⟩ ?_
 ·intro W' hW
  go_split_ands
  go_simp
 refine wpR_take (i:=6) (oi:=_) (v:=.agg #[I s0,I s1,I s2]) rfl (by kernel_rfl) (by kernel_rfl) (by kernel_rfl) (by kernel_rfl) (fun _ _ _ h=>h) (Or.inl ⟨by rfl,?_⟩) ⟨un HS0,trivial⟩ ?_
 ·intro W' hW
  go_split_ands
  go_simp
 refine wpR_take (i:=7) (oi:=_) (v:=.pointer (some ⟨(w.heap.size+1),0,none⟩)) rfl (by kernel_rfl) (by kernel_rfl) (by kernel_rfl) (by kernel_rfl) (fun _ _ _ h=>h) (Or.inl ⟨by rfl,?_⟩) ⟨un HS0,trivial⟩ ?_
 ·intro W' hW
  go_split_ands
  go_simp
 refine wpR_take (i:=8) (oi:=_) (v:=.agg #[I b0,I b1,I b2]) rfl (by kernel_rfl) (by kernel_rfl) (by kernel_rfl) (by kernel_rfl) (fun _ _ _ h=>h) (Or.inl ⟨by rfl,?_⟩) ⟨un HS0,trivial⟩ ?_
 ·intro W' hW
  go_split_ands
  go_simp
 refine wpR_take (i:=10) (oi:=_) (v:=.agg #[I (F 0),I (F 1),I (F 2),I (F 3),I (F 4),I (F 5),I (F 6),I (F 7)]) rfl (by kernel_rfl) (by kernel_rfl) (by kernel_rfl) (by kernel_rfl) (fun _ _ _ h=>h) (Or.inl ⟨by rfl,?_⟩) ⟨un HS0,trivial⟩ ?_
 ·intro W' hW
  go_split_ands
  go_simp
 refine wpR_op (i:=4) (o:=_) (by kernel_rfl) rfl rfl (fun K hK=>?_)
 go_simp
 refine(un H1 _).mono ?_
 rintro e U2 ⟨rfl,hb⟩
 have HT2:=hide ((un HT1).later hb)
 clear hb HT1
 refine hK _ _ ⟨un HSS _ (un HT2),trivial⟩ ?_
 clear hK K
 refine wpR_op (i:=9) (o:=_) (by kernel_rfl) rfl rfl (fun K hK=>?_)
 go_simp
 refine(un H2 _).mono ?_
 rintro e U3 ⟨rfl,hb⟩
 have HT3:=hide ((un HT2).later hb)
 clear hb HT2
 refine hK _ _ ⟨un HSS _ (un HT3),trivial⟩ ?_
 clear hK K
 refine wpR_op (i:=11) (o:=_) (by kernel_rfl) rfl rfl (fun K hK=>?_)
 go_simp
 refine hK _ _ ⟨un HSS _ (un HT3),trivial⟩ ?_
 clear hK K
 refine wpR_late (i:=12) (o:=_) (by kernel_rfl) rfl rfl (by kernel_rfl) (fun K hK=>?_)
 refine wp_store_row 155 (.tmp 4) (.tmp 27) rfl (w.heap.size+1+1) #[I c0,I c1,I c2,I t0,I t1,I t2,I (F 0),I (F 1),I (F 2),I (F 3),I (F 4),I (F 5),I (F 6),I (F 7)] (by kernel_rfl) (by kernel_rfl) 155 _ (un HT3).r (by rw[info155];rfl) rfl (by kernel_rfl) (hK _ _ trivial ?_)
 clear hK K
 refine wpR_done (by kernel_rfl) ?_
 go_wp2_with fail
 exact bodyPost_ret (v:=.agg #[I c0,I c1,I c2,I t0,I t1,I t2,I (F 0),I (F 1),I (F 2),I (F 3),I (F 4),I (F 5),I (F 6),I (F 7)]) (res155 Tryz.results199 _ _ (w.heap.size+1+1) _ rfl rfl ((un HT3).r.setRow _)) rfl ⟨rfl,below_setRow (un HT3).l (by omega) _⟩
set_option maxRecDepth 100000 in
set_option maxHeartbeats 4000000 in
theorem amtBy (a0 a1 a2 s0 s1 s2 b0 b1 b2 u0 u1 u2 c0 c1 c2 t0 t1 t2:Int) (D E F:Nat→Int) (er:Int) (w:World) (hm:∀W,Calls Tryz.prog 105 #[.agg #[I (D 0),I (D 1),I (D 2),I (D 3),I (D 4),I (D 5),I (D 6),I (D 7)],.agg #[I (E 0),I (E 1),I (E 2),I (E 3),I (E 4),I (E 5),I (E 6),I (E 7)]] W fun r w'=>r=.returned (.tuple #[.agg #[I (F 0),I (F 1),I (F 2),I (F 3),I (F 4),I (F 5),I (F 6),I (F 7)],I er])∧Below W.heap.size W w')
  (h1:∀W,Calls Tryz.prog 245 #[.agg #[I a0,I a1,I a2],.agg #[I b0,I b1,I b2]] W fun r w'=>r=.returned (.agg #[I c0,I c1,I c2])∧Below W.heap.size W w')
  (h2:∀W,Calls Tryz.prog 245 #[.agg #[I s0,I s1,I s2],.agg #[I b0,I b1,I b2]] W fun r w'=>r=.returned (.agg #[I t0,I t1,I t2])∧Below W.heap.size W w') :
  Calls Tryz.prog 197 #[.agg #[I a0,I a1,I a2,I s0,I s1,I s2,I (D 0),I (D 1),I (D 2),I (D 3),I (D 4),I (D 5),I (D 6),I (D 7)],.agg #[I b0,I b1,I b2,I u0,I u1,I u2,I (E 0),I (E 1),I (E 2),I (E 3),I (E 4),I (E 5),I (E 6),I (E 7)]] w fun r w'=>r=.returned (.agg #[I c0,I c1,I c2,I t0,I t1,I t2,I (F 0),I (F 1),I (F 2),I (F 3),I (F 4),I (F 5),I (F 6),I (F 7)])∧Below w.heap.size w w':=by
 obtain⟨V,hV⟩:∃V,V=((w.alloc (.cells #[I a0,I a1,I a2,I s0,I s1,I s2,I (D 0),I (D 1),I (D 2),I (D 3),I (D 4),I (D 5),I (D 6),I (D 7)] 155)).alloc (.cells #[I b0,I b1,I b2,I u0,I u1,I u2,I (E 0),I (E 1),I (E 2),I (E 3),I (E 4),I (E 5),I (E 6),I (E 7)] 155)).alloc (.cells #[I 0,I 0,I 0,I 0,I 0,I 0,I 0,I 0,I 0,I 0,I 0,I 0,I 0,I 0] 155):=⟨_,rfl⟩
 have HA:Hid (OwnU V w.heap.size 155 #[I a0,I a1,I a2,I s0,I s1,I s2,I (D 0),I (D 1),I (D 2),I (D 3),I (D 4),I (D 5),I (D 6),I (D 7)]):=by rw[hV];exact((OwnU.new _ _ _).alloc _).alloc _
 have HC:Hid (OwnU V (w.heap.size+1) 155 #[I b0,I b1,I b2,I u0,I u1,I u2,I (E 0),I (E 1),I (E 2),I (E 3),I (E 4),I (E 5),I (E 6),I (E 7)]):=by rw[hV];have h:=OwnU.new (w.alloc (.cells #[I a0,I a1,I a2,I s0,I s1,I s2,I (D 0),I (D 1),I (D 2),I (D 3),I (D 4),I (D 5),I (D 6),I (D 7)] 155)) #[I b0,I b1,I b2,I u0,I u1,I u2,I (E 0),I (E 1),I (E 2),I (E 3),I (E 4),I (E 5),I (E 6),I (E 7)] 155;rw[Dm.size_alloc]at h;exact h.alloc _
 have HR:Hid (OwnU V (w.heap.size+1+1) 155 #[I 0,I 0,I 0,I 0,I 0,I 0,I 0,I 0,I 0,I 0,I 0,I 0,I 0,I 0]):=by rw[hV];have h:=OwnU.new ((w.alloc (.cells #[I a0,I a1,I a2,I s0,I s1,I s2,I (D 0),I (D 1),I (D 2),I (D 3),I (D 4),I (D 5),I (D 6),I (D 7)] 155)).alloc (.cells #[I b0,I b1,I b2,I u0,I u1,I u2,I (E 0),I (E 1),I (E 2),I (E 3),I (E 4),I (E 5),I (E 6),I (E 7)] 155)) #[I 0,I 0,I 0,I 0,I 0,I 0,I 0,I 0,I 0,I 0,I 0,I 0,I 0,I 0] 155;rw[Dm.size_alloc,Dm.size_alloc]at h;exact h
 have HB:Hid (Below w.heap.size w V):=by rw[hV];exact(((Below.refl _ _).alloc (Nat.le_refl _) _).alloc (by simp) _).alloc (by simp;omega) _
 have HM:=hide hm;have H1:=hide h1;have H2:=hide h2
 have HMA:Hid (V.rangeAt w.heap.size 6 [I (D 0),I (D 1),I (D 2),I (D 3),I (D 4),I (D 5),I (D 6),I (D 7)]):=(un HA).mid _ _ (fun j v h=>by rcases Dm.eight (Nat.le_of_lt (List.getElem?_eq_some_iff.1 h).1)with rfl|rfl|rfl|rfl|rfl|rfl|rfl|rfl|rfl<;>first|exact h|cases h)
 have HMB:Hid (V.rangeAt (w.heap.size+1) 6 [I (E 0),I (E 1),I (E 2),I (E 3),I (E 4),I (E 5),I (E 6),I (E 7)]):=(un HC).mid _ _ (fun j v h=>by rcases Dm.eight (Nat.le_of_lt (List.getElem?_eq_some_iff.1 h).1)with rfl|rfl|rfl|rfl|rfl|rfl|rfl|rfl|rfl<;>first|exact h|cases h)
 have HV:=hide hV
 clear hV hm h1 h2
 go_enter Tryz.func197,Tryz.ntmps197
 go_upto_region 1 with fail
 rw[←un HV]
 clear HV
 go_upto_region 2 with (first
  | (refine wpList_load_mid rfl 26 (.tmp 8) rfl w.heap.size 6 rfl [I (D 0),I (D 1),I (D 2),I (D 3),I (D 4),I (D 5),I (D 6),I (D 7)] _ (un HMA) Tryz.underlying26 rfl info26 ?_)
  | (refine wpList_load_mid rfl 26 (.tmp 10) rfl (w.heap.size+1) 6 rfl [I (E 0),I (E 1),I (E 2),I (E 3),I (E 4),I (E 5),I (E 6),I (E 7)] _ (un HMB) Tryz.underlying26 rfl info26 ?_)
  | (go_at_call 105;go_must(refine(un HM _).mono ?_;rintro e w1 ⟨rfl,hb⟩;have HA1:=hide ((un HA).later hb);have HC1:=hide ((un HC).later hb);have HR1:=hide ((un HR).later hb);have HB1:Hid (Below w.heap.size w w1):=(un HB).trans (hb.mono (un HB).size);clear hb))
  | (refine storeT 26 8 info26 rfl (.tmp 5) (.tmp 13) rfl w1.heap.size #[I 0,I 0,I 0,I 0,I 0,I 0,I 0,I 0] #[I (F 0),I (F 1),I (F 2),I (F 3),I (F 4),I (F 5),I (F 6),I (F 7)] rfl rfl rfl rfl (OwnU.new _ _ _) (by kernel_rfl) ?_))
 have hb2:Below w1.heap.size w1 ((w1.alloc (.cells #[I 0,I 0,I 0,I 0,I 0,I 0,I 0,I 0] 26)).setRow w1.heap.size #[I (F 0),I (F 1),I (F 2),I (F 3),I (F 4),I (F 5),I (F 6),I (F 7)]):=below_setRow (albel _ _) (Nat.le_refl _) _
 have HT0:Hid (NA w ((w1.alloc (.cells #[I 0,I 0,I 0,I 0,I 0,I 0,I 0,I 0] 26)).setRow w1.heap.size #[I (F 0),I (F 1),I (F 2),I (F 3),I (F 4),I (F 5),I (F 6),I (F 7)]) #[I a0,I a1,I a2,I s0,I s1,I s2,I (D 0),I (D 1),I (D 2),I (D 3),I (D 4),I (D 5),I (D 6),I (D 7)] #[I b0,I b1,I b2,I u0,I u1,I u2,I (E 0),I (E 1),I (E 2),I (E 3),I (E 4),I (E 5),I (E 6),I (E 7)] #[I (F 0),I (F 1),I (F 2),I (F 3),I (F 4),I (F 5),I (F 6),I (F 7)] w1.heap.size):=⟨(un HA1).later hb2,(un HC1).later hb2,(un HR1).later hb2,(OwnU.new _ _ _).setRow _,(un HB1).trans (hb2.mono (un HB1).size),(un HR1).lt⟩
 clear hb2 HA1 HC1 HR1 HB1 HA HC HR HB HMA HMB HM
 generalize (w1.alloc (.cells #[I 0,I 0,I 0,I 0,I 0,I 0,I 0,I 0] 26)).setRow w1.heap.size #[I (F 0),I (F 1),I (F 2),I (F 3),I (F 4),I (F 5),I (F 6),I (F 7)]=w2 at *
 generalize w1.heap.size=g5 at *
 have HT1:Hid (NA w w2.drew #[I a0,I a1,I a2,I s0,I s1,I s2,I (D 0),I (D 1),I (D 2),I (D 3),I (D 4),I (D 5),I (D 6),I (D 7)] #[I b0,I b1,I b2,I u0,I u1,I u2,I (E 0),I (E 1),I (E 2),I (E 3),I (E 4),I (E 5),I (E 6),I (E 7)] #[I (F 0),I (F 1),I (F 2),I (F 3),I (F 4),I (F 5),I (F 6),I (F 7)] g5):=(un HT0).later (Below.refl _ _).drew
 have HSS:Hid (∀W':World,NA w W' #[I a0,I a1,I a2,I s0,I s1,I s2,I (D 0),I (D 1),I (D 2),I (D 3),I (D 4),I (D 5),I (D 6),I (D 7)] #[I b0,I b1,I b2,I u0,I u1,I u2,I (E 0),I (E 1),I (E 2),I (E 3),I (E 4),I (E 5),I (E 6),I (E 7)] #[I (F 0),I (F 1),I (F 2),I (F 3),I (F 4),I (F 5),I (F 6),I (F 7)] g5→W'.cell? ⟨w.heap.size,0,none⟩=some (I a0)∧W'.cell? ⟨w.heap.size,1,none⟩=some (I a1)∧W'.cell? ⟨w.heap.size,2,none⟩=some (I a2)∧W'.cell? ⟨w.heap.size,3,none⟩=some (I s0)∧W'.cell? ⟨w.heap.size,4,none⟩=some (I s1)∧W'.cell? ⟨w.heap.size,5,none⟩=some (I s2)∧W'.cell? ⟨(w.heap.size+1),0,none⟩=some (I b0)∧W'.cell? ⟨(w.heap.size+1),1,none⟩=some (I b1)∧W'.cell? ⟨(w.heap.size+1),2,none⟩=some (I b2)∧W'.cell? ⟨g5,0,none⟩=some (I (F 0))∧W'.cell? ⟨g5,1,none⟩=some (I (F 1))∧W'.cell? ⟨g5,2,none⟩=some (I (F 2))∧W'.cell? ⟨g5,3,none⟩=some (I (F 3))∧W'.cell? ⟨g5,4,none⟩=some (I (F 4))∧W'.cell? ⟨g5,5,none⟩=some (I (F 5))∧W'.cell? ⟨g5,6,none⟩=some (I (F 6))∧W'.cell? ⟨g5,7,none⟩=some (I (F 7))):=fun W' h=>⟨h.a.ub.c 0 _ rfl,h.a.ub.c 1 _ rfl,h.a.ub.c 2 _ rfl,h.a.ub.c 3 _ rfl,h.a.ub.c 4 _ rfl,h.a.ub.c 5 _ rfl,h.b.ub.c 0 _ rfl,h.b.ub.c 1 _ rfl,h.b.ub.c 2 _ rfl,h.d.ub.c 0 _ rfl,h.d.ub.c 1 _ rfl,h.d.ub.c 2 _ rfl,h.d.ub.c 3 _ rfl,h.d.ub.c 4 _ rfl,h.d.ub.c 5 _ rfl,h.d.ub.c 6 _ rfl,h.d.ub.c 7 _ rfl⟩
 have HS0:=hide (un HSS _ (un HT1))
 clear HT0
 refine region_reads 12 (fun W'=>W'.cell? ⟨w.heap.size,0,none⟩=some (I a0)∧W'.cell? ⟨w.heap.size,1,none⟩=some (I a1)∧W'.cell? ⟨w.heap.size,2,none⟩=some (I a2)∧W'.cell? ⟨w.heap.size,3,none⟩=some (I s0)∧W'.cell? ⟨w.heap.size,4,none⟩=some (I s1)∧W'.cell? ⟨w.heap.size,5,none⟩=some (I s2)∧W'.cell? ⟨(w.heap.size+1),0,none⟩=some (I b0)∧W'.cell? ⟨(w.heap.size+1),1,none⟩=some (I b1)∧W'.cell? ⟨(w.heap.size+1),2,none⟩=some (I b2)∧W'.cell? ⟨g5,0,none⟩=some (I (F 0))∧W'.cell? ⟨g5,1,none⟩=some (I (F 1))∧W'.cell? ⟨g5,2,none⟩=some (I (F 2))∧W'.cell? ⟨g5,3,none⟩=some (I (F 3))∧W'.cell? ⟨g5,4,none⟩=some (I (F 4))∧W'.cell? ⟨g5,5,none⟩=some (I (F 5))∧W'.cell? ⟨g5,6,none⟩=some (I (F 6))∧W'.cell? ⟨g5,7,none⟩=some (I (F 7))) (fun _=>True) 13 rfl (by kernel_rfl) ?_
 generalize w2.drew=U1 at *
 refine wpR_take (i:=0) (oi:=_) (v:=.pointer (some ⟨w.heap.size,0,none⟩)) rfl (by kernel_rfl) (by kernel_rfl) (by kernel_rfl) (by kernel_rfl) (fun _ _ _ h=>h) (Or.inl ⟨by rfl,?_⟩) ⟨un HS0,trivial⟩ ?_
 ·intro W' hW
  go_split_ands
  go_simp
 refine wpR_take (i:=1) (oi:=_) (v:=.agg #[I a0,I a1,I a2]) rfl (by kernel_rfl) (by kernel_rfl) (by kernel_rfl) (by kernel_rfl) (fun _ _ _ h=>h) (Or.inl ⟨by rfl,?_⟩) ⟨un HS0,trivial⟩ ?_
 ·intro W' hW
  go_split_ands
  go_simp
 refine wpR_take (i:=2) (oi:=_) (v:=.pointer (some ⟨(w.heap.size+1),0,none⟩)) rfl (by kernel_rfl) (by kernel_rfl) (by kernel_rfl) (by kernel_rfl) (fun _ _ _ h=>h) (Or.inl ⟨by rfl,?_⟩) ⟨un HS0,trivial⟩ ?_
 ·intro W' hW
  go_split_ands
  go_simp
 refine wpR_take (i:=3) (oi:=_) (v:=.agg #[I b0,I b1,I b2]) rfl (by kernel_rfl) (by kernel_rfl) (by kernel_rfl) (by kernel_rfl) (fun _ _ _ h=>h) (Or.inl ⟨by rfl,?_⟩) ⟨un HS0,trivial⟩ ?_
 ·intro W' hW
  go_split_ands
  go_simp
 refine wpR_take (i:=5) (oi:=_) (v:=.pointer (some ⟨w.heap.size,3,none⟩)) rfl (by kernel_rfl) (by kernel_rfl) (by kernel_rfl) (by kernel_rfl) (fun _ _ _ h=>h) (Or.inl ⟨by rfl,?_⟩) ⟨un HS0,trivial⟩ ?_
 ·intro W' hW
  go_split_ands
  go_simp
 refine wpR_take (i:=6) (oi:=_) (v:=.agg #[I s0,I s1,I s2]) rfl (by kernel_rfl) (by kernel_rfl) (by kernel_rfl) (by kernel_rfl) (fun _ _ _ h=>h) (Or.inl ⟨by rfl,?_⟩) ⟨un HS0,trivial⟩ ?_
 ·intro W' hW
  go_split_ands
  go_simp
 refine wpR_take (i:=7) (oi:=_) (v:=.pointer (some ⟨(w.heap.size+1),0,none⟩)) rfl (by kernel_rfl) (by kernel_rfl) (by kernel_rfl) (by kernel_rfl) (fun _ _ _ h=>h) (Or.inl ⟨by rfl,?_⟩) ⟨un HS0,trivial⟩ ?_
 ·intro W' hW
  go_split_ands
  go_simp
 refine wpR_take (i:=8) (oi:=_) (v:=.agg #[I b0,I b1,I b2]) rfl (by kernel_rfl) (by kernel_rfl) (by kernel_rfl) (by kernel_rfl) (fun _ _ _ h=>h) (Or.inl ⟨by rfl,?_⟩) ⟨un HS0,trivial⟩ ?_
 ·intro W' hW
  go_split_ands
  go_simp
 refine wpR_take (i:=10) (oi:=_) (v:=.agg #[I (F 0),I (F 1),I (F 2),I (F 3),I (F 4),I (F 5),I (F 6),I (F 7)]) rfl (by kernel_rfl) (by kernel_rfl) (by kernel_rfl) (by kernel_rfl) (fun _ _ _ h=>h) (Or.inl ⟨by rfl,?_⟩) ⟨un HS0,trivial⟩ ?_
 ·intro W' hW
  go_split_ands
  go_simp
 refine wpR_op (i:=4) (o:=_) (by kernel_rfl) rfl rfl (fun K hK=>?_)
 go_simp
 refine(un H1 _).mono ?_
 rintro e U2 ⟨rfl,hb⟩
 have HT2:=hide ((un HT1).later hb)
 clear hb HT1
 refine hK _ _ ⟨un HSS _ (un HT2),trivial⟩ ?_
 clear hK K
 refine wpR_op (i:=9) (o:=_) (by kernel_rfl) rfl rfl (fun K hK=>?_)
 go_simp
 refine(un H2 _).mono ?_
 rintro e U3 ⟨rfl,hb⟩
 have HT3:=hide ((un HT2).later hb)
 clear hb HT2
 refine hK _ _ ⟨un HSS _ (un HT3),trivial⟩ ?_
 clear hK K
 refine wpR_op (i:=11) (o:=_) (by kernel_rfl) rfl rfl (fun K hK=>?_)
 go_simp
 refine hK _ _ ⟨un HSS _ (un HT3),trivial⟩ ?_
 clear hK K
 refine wpR_late (i:=12) (o:=_) (by kernel_rfl) rfl rfl (by kernel_rfl) (fun K hK=>?_)
 refine wp_store_row 155 (.tmp 4) (.tmp 26) rfl (w.heap.size+1+1) #[I c0,I c1,I c2,I t0,I t1,I t2,I (F 0),I (F 1),I (F 2),I (F 3),I (F 4),I (F 5),I (F 6),I (F 7)] (by kernel_rfl) (by kernel_rfl) 155 _ (un HT3).r (by rw[info155];rfl) rfl (by kernel_rfl) (hK _ _ trivial ?_)
 clear hK K
 refine wpR_done (by kernel_rfl) ?_
 go_wp2_with fail
 exact bodyPost_ret (v:=.agg #[I c0,I c1,I c2,I t0,I t1,I t2,I (F 0),I (F 1),I (F 2),I (F 3),I (F 4),I (F 5),I (F 6),I (F 7)]) (res155 Tryz.results197 _ _ (w.heap.size+1+1) _ rfl rfl ((un HT3).r.setRow _)) rfl ⟨rfl,below_setRow (un HT3).l (by omega) _⟩
end Go.Proofs.YtliadckofhblnaaGreatDoor.Nt

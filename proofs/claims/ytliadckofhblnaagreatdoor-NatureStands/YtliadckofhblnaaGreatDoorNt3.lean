/- Amounts at closed numbers; zCt, measured, one, derived. -/
import Derived.Test.YtliadckofhblnaaGreatDoorLimb3
import Derived.Test.YtliadckofhblnaaGreatDoorNt1
set_option maxHeartbeats 4000000
set_option maxRecDepth 100000
namespace Go.Proofs.YtliadckofhblnaaGreatDoor.Nt
open Go.RowKit
structure NA (w W:World) (av bv dv:Array Value) (g:Nat):Prop where
 a:zAc W w.heap.size 155 av
 b:zAc W (w.heap.size+1) 155 bv
 r:zAc W (w.heap.size+1+1) 155 #[I 0,I 0,I 0,I 0,I 0,I 0,I 0,I 0,I 0,I 0,I 0,I 0,I 0,I 0]
 d:zAc W g 26 dv
 l:Below w.heap.size w W
 n:w.heap.size+1+1<g
theorem NA.later {w W V:World} {av bv dv:Array Value} {g:Nat} (h:NA w W av bv dv g) (hb:Below W.heap.size W V):NA w V av bv dv g:=⟨h.a.later hb,h.b.later hb,h.r.later hb,h.d.later hb,h.l.trans (hb.mono h.l.size),h.n⟩
theorem amtTimes (a0 a1 a2 s0 s1 s2 b0 b1 b2 u0 u1 u2 c0 c1 c2 t0 t1 t2:Int) (D E F:Nat→Int) (er:Int) (w:World) (hm:∀g W,zAc W g 26 #[I (D 0),I (D 1),I (D 2),I (D 3),I (D 4),I (D 5),I (D 6),I (D 7),I (E 0),I (E 1),I (E 2),I (E 3),I (E 4),I (E 5),I (E 6),I (E 7)]→Calls Tryz.prog 175 #[.slice (some ⟨g,0,none⟩) 2 2] W fun r w'=>r=.returned (.tuple #[.agg #[I (F 0),I (F 1),I (F 2),I (F 3),I (F 4),I (F 5),I (F 6),I (F 7)],I er])∧Bw W w')
  (h1:∀W,Calls Tryz.prog 246 #[.agg #[I a0,I a1,I a2],.agg #[I b0,I b1,I b2]] W fun r w'=>r=.returned (.agg #[I c0,I c1,I c2])∧Bw W w')
  (h2:∀W,Calls Tryz.prog 246 #[.agg #[I s0,I s1,I s2],.agg #[I b0,I b1,I b2]] W fun r w'=>r=.returned (.agg #[I t0,I t1,I t2])∧Bw W w') :
  Calls Tryz.prog 199 #[.agg #[I a0,I a1,I a2,I s0,I s1,I s2,I (D 0),I (D 1),I (D 2),I (D 3),I (D 4),I (D 5),I (D 6),I (D 7)],.agg #[I b0,I b1,I b2,I u0,I u1,I u2,I (E 0),I (E 1),I (E 2),I (E 3),I (E 4),I (E 5),I (E 6),I (E 7)]] w fun r w'=>r=.returned (.agg #[I c0,I c1,I c2,I t0,I t1,I t2,I (F 0),I (F 1),I (F 2),I (F 3),I (F 4),I (F 5),I (F 6),I (F 7)])∧Bw w w':=by
 obtain⟨V,hV⟩:∃V,V=((w.alloc (.cells #[I a0,I a1,I a2,I s0,I s1,I s2,I (D 0),I (D 1),I (D 2),I (D 3),I (D 4),I (D 5),I (D 6),I (D 7)] 155)).alloc (.cells #[I b0,I b1,I b2,I u0,I u1,I u2,I (E 0),I (E 1),I (E 2),I (E 3),I (E 4),I (E 5),I (E 6),I (E 7)] 155)).alloc (.cells #[I 0,I 0,I 0,I 0,I 0,I 0,I 0,I 0,I 0,I 0,I 0,I 0,I 0,I 0] 155):=⟨_,rfl⟩;have HA:Hid (zAc V w.heap.size 155 #[I a0,I a1,I a2,I s0,I s1,I s2,I (D 0),I (D 1),I (D 2),I (D 3),I (D 4),I (D 5),I (D 6),I (D 7)]):=by rw[hV];exact((zAc.new _ _ _).alloc _).alloc _
 have HC:Hid (zAc V (w.heap.size+1) 155 #[I b0,I b1,I b2,I u0,I u1,I u2,I (E 0),I (E 1),I (E 2),I (E 3),I (E 4),I (E 5),I (E 6),I (E 7)]):=by rw[hV];have h:=zAc.new (w.alloc (.cells #[I a0,I a1,I a2,I s0,I s1,I s2,I (D 0),I (D 1),I (D 2),I (D 3),I (D 4),I (D 5),I (D 6),I (D 7)] 155)) #[I b0,I b1,I b2,I u0,I u1,I u2,I (E 0),I (E 1),I (E 2),I (E 3),I (E 4),I (E 5),I (E 6),I (E 7)] 155;rw[Dm.size_alloc]at h;exact h.alloc _
 have HR:Hid (zAc V (w.heap.size+1+1) 155 #[I 0,I 0,I 0,I 0,I 0,I 0,I 0,I 0,I 0,I 0,I 0,I 0,I 0,I 0]):=by rw[hV];have h:=zAc.new ((w.alloc (.cells #[I a0,I a1,I a2,I s0,I s1,I s2,I (D 0),I (D 1),I (D 2),I (D 3),I (D 4),I (D 5),I (D 6),I (D 7)] 155)).alloc (.cells #[I b0,I b1,I b2,I u0,I u1,I u2,I (E 0),I (E 1),I (E 2),I (E 3),I (E 4),I (E 5),I (E 6),I (E 7)] 155)) #[I 0,I 0,I 0,I 0,I 0,I 0,I 0,I 0,I 0,I 0,I 0,I 0,I 0,I 0] 155;rw[Dm.size_alloc,Dm.size_alloc]at h;exact h
 have HB:Hid (Bw w V):=by rw[hV];exact(bA.alloc (by simp) _).alloc (by simp;omega) _
 have HM:=zAb hm;have H1:=zAb h1;have H2:=zAb h2;have HMA:Hid (V.rangeAt w.heap.size 6 [I (D 0),I (D 1),I (D 2),I (D 3),I (D 4),I (D 5),I (D 6),I (D 7)]):=(un HA).mid _ _ (fun j v h=>by rcases Dm.eight (Nat.le_of_lt (List.getElem?_eq_some_iff.1 h).1)with rfl|rfl|rfl|rfl|rfl|rfl|rfl|rfl|rfl<;>first|exact h|cases h);have HMB:Hid (V.rangeAt (w.heap.size+1) 6 [I (E 0),I (E 1),I (E 2),I (E 3),I (E 4),I (E 5),I (E 6),I (E 7)]):=(un HC).mid _ _ (fun j v h=>by rcases Dm.eight (Nat.le_of_lt (List.getElem?_eq_some_iff.1 h).1)with rfl|rfl|rfl|rfl|rfl|rfl|rfl|rfl|rfl<;>first|exact h|cases h);have HV:=zAb hV;clear hV hm h1 h2;go_enter Tryz.func199,Tryz.ntmps199
 go_upto_region 1 with fail
 rw[←un HV];clear HV
 go_upto_region 2 with (first
  | (refine wpList_load_mid rfl 26 (.tmp 8) rfl w.heap.size 6 rfl [I (D 0),I (D 1),I (D 2),I (D 3),I (D 4),I (D 5),I (D 6),I (D 7)] _ (un HMA) Tryz.underlying26 rfl zCw ?_)
  | (refine wpList_load_mid rfl 26 (.tmp 10) rfl (w.heap.size+1) 6 rfl [I (E 0),I (E 1),I (E 2),I (E 3),I (E 4),I (E 5),I (E 6),I (E 7)] _ (un HMB) Tryz.underlying26 rfl zCw ?_)
  | (go_at_call 175;go_must(refine(un HM _ _ (zAc.new _ _ _)).mono ?_;rintro e w1 ⟨rfl,hb⟩;have HA1:=zAb (((un HA).alloc _).later hb);have HC1:=zAb (((un HC).alloc _).later hb);have HR1:=zAb (((un HR).alloc _).later hb);have HB1:Hid (Bw w w1):=((un HB).alloc (un HB).size _).trans (hb.mono ((un HB).alloc (un HB).size _).size);clear hb))
  | (refine zAn 26 8 zCw rfl (.tmp 5) (.tmp 14) rfl w1.heap.size #[I 0,I 0,I 0,I 0,I 0,I 0,I 0,I 0] #[I (F 0),I (F 1),I (F 2),I (F 3),I (F 4),I (F 5),I (F 6),I (F 7)] rfl rfl rfl rfl (zAc.new _ _ _) (by kernel_rfl) ?_))
 have hb2:Below w1.heap.size w1 ((w1.alloc (.cells #[I 0,I 0,I 0,I 0,I 0,I 0,I 0,I 0] 26)).setRow w1.heap.size #[I (F 0),I (F 1),I (F 2),I (F 3),I (F 4),I (F 5),I (F 6),I (F 7)]):=below_setRow (zBx _ _) (Nat.le_refl _) _;have HT0:Hid (NA w ((w1.alloc (.cells #[I 0,I 0,I 0,I 0,I 0,I 0,I 0,I 0] 26)).setRow w1.heap.size #[I (F 0),I (F 1),I (F 2),I (F 3),I (F 4),I (F 5),I (F 6),I (F 7)]) #[I a0,I a1,I a2,I s0,I s1,I s2,I (D 0),I (D 1),I (D 2),I (D 3),I (D 4),I (D 5),I (D 6),I (D 7)] #[I b0,I b1,I b2,I u0,I u1,I u2,I (E 0),I (E 1),I (E 2),I (E 3),I (E 4),I (E 5),I (E 6),I (E 7)] #[I (F 0),I (F 1),I (F 2),I (F 3),I (F 4),I (F 5),I (F 6),I (F 7)] w1.heap.size):=⟨(un HA1).later hb2,(un HC1).later hb2,(un HR1).later hb2,(zAc.new _ _ _).setRow _,bt HB1 hb2,(un HR1).lt⟩;clear hb2 HA1 HC1 HR1 HB1 HA HC HR HB HMA HMB HM;generalize (w1.alloc (.cells #[I 0,I 0,I 0,I 0,I 0,I 0,I 0,I 0] 26)).setRow w1.heap.size #[I (F 0),I (F 1),I (F 2),I (F 3),I (F 4),I (F 5),I (F 6),I (F 7)]=w2 at *
 generalize w1.heap.size=g5 at *
 have HT1:Hid (NA w w2.drew #[I a0,I a1,I a2,I s0,I s1,I s2,I (D 0),I (D 1),I (D 2),I (D 3),I (D 4),I (D 5),I (D 6),I (D 7)] #[I b0,I b1,I b2,I u0,I u1,I u2,I (E 0),I (E 1),I (E 2),I (E 3),I (E 4),I (E 5),I (E 6),I (E 7)] #[I (F 0),I (F 1),I (F 2),I (F 3),I (F 4),I (F 5),I (F 6),I (F 7)] g5):=(un HT0).later (Below.refl _ _).drew;have HSS:Hid (∀W':World,NA w W' #[I a0,I a1,I a2,I s0,I s1,I s2,I (D 0),I (D 1),I (D 2),I (D 3),I (D 4),I (D 5),I (D 6),I (D 7)] #[I b0,I b1,I b2,I u0,I u1,I u2,I (E 0),I (E 1),I (E 2),I (E 3),I (E 4),I (E 5),I (E 6),I (E 7)] #[I (F 0),I (F 1),I (F 2),I (F 3),I (F 4),I (F 5),I (F 6),I (F 7)] g5→W'.cell? ⟨w.heap.size,0,none⟩=some (I a0)∧W'.cell? ⟨w.heap.size,1,none⟩=some (I a1)∧W'.cell? ⟨w.heap.size,2,none⟩=some (I a2)∧W'.cell? ⟨w.heap.size,3,none⟩=some (I s0)∧W'.cell? ⟨w.heap.size,4,none⟩=some (I s1)∧W'.cell? ⟨w.heap.size,5,none⟩=some (I s2)∧W'.cell? ⟨(w.heap.size+1),0,none⟩=some (I b0)∧W'.cell? ⟨(w.heap.size+1),1,none⟩=some (I b1)∧W'.cell? ⟨(w.heap.size+1),2,none⟩=some (I b2)∧W'.cell? ⟨g5,0,none⟩=some (I (F 0))∧W'.cell? ⟨g5,1,none⟩=some (I (F 1))∧W'.cell? ⟨g5,2,none⟩=some (I (F 2))∧W'.cell? ⟨g5,3,none⟩=some (I (F 3))∧W'.cell? ⟨g5,4,none⟩=some (I (F 4))∧W'.cell? ⟨g5,5,none⟩=some (I (F 5))∧W'.cell? ⟨g5,6,none⟩=some (I (F 6))∧W'.cell? ⟨g5,7,none⟩=some (I (F 7))):=fun W' h=>⟨h.a.ub.c 0 _ rfl,h.a.ub.c 1 _ rfl,h.a.ub.c 2 _ rfl,h.a.ub.c 3 _ rfl,h.a.ub.c 4 _ rfl,h.a.ub.c 5 _ rfl,h.b.ub.c 0 _ rfl,h.b.ub.c 1 _ rfl,h.b.ub.c 2 _ rfl,h.d.ub.c 0 _ rfl,h.d.ub.c 1 _ rfl,h.d.ub.c 2 _ rfl,h.d.ub.c 3 _ rfl,h.d.ub.c 4 _ rfl,h.d.ub.c 5 _ rfl,h.d.ub.c 6 _ rfl,h.d.ub.c 7 _ rfl⟩
 have HS0:=zAb (un HSS _ (un HT1));clear HT0;refine zAi 12 (fun W'=>W'.cell? ⟨w.heap.size,0,none⟩=some (I a0)∧W'.cell? ⟨w.heap.size,1,none⟩=some (I a1)∧W'.cell? ⟨w.heap.size,2,none⟩=some (I a2)∧W'.cell? ⟨w.heap.size,3,none⟩=some (I s0)∧W'.cell? ⟨w.heap.size,4,none⟩=some (I s1)∧W'.cell? ⟨w.heap.size,5,none⟩=some (I s2)∧W'.cell? ⟨(w.heap.size+1),0,none⟩=some (I b0)∧W'.cell? ⟨(w.heap.size+1),1,none⟩=some (I b1)∧W'.cell? ⟨(w.heap.size+1),2,none⟩=some (I b2)∧W'.cell? ⟨g5,0,none⟩=some (I (F 0))∧W'.cell? ⟨g5,1,none⟩=some (I (F 1))∧W'.cell? ⟨g5,2,none⟩=some (I (F 2))∧W'.cell? ⟨g5,3,none⟩=some (I (F 3))∧W'.cell? ⟨g5,4,none⟩=some (I (F 4))∧W'.cell? ⟨g5,5,none⟩=some (I (F 5))∧W'.cell? ⟨g5,6,none⟩=some (I (F 6))∧W'.cell? ⟨g5,7,none⟩=some (I (F 7))) (fun _=>True) 13 rfl (by kernel_rfl) ?_;generalize w2.drew=U1 at *
 refine wT 0 (.pointer (some ⟨w.heap.size,0,none⟩)) rfl (Or.inl ⟨by rfl,?_⟩) ⟨un HS0,trivial⟩ ?_
 ·intro W' hW
  go_split_ands
  go_simp
 refine wT 1 (.agg #[I a0,I a1,I a2]) rfl (Or.inl ⟨by rfl,?_⟩) ⟨un HS0,trivial⟩ ?_
 ·intro W' hW
  go_split_ands
  go_simp
 refine wT 2 (.pointer (some ⟨(w.heap.size+1),0,none⟩)) rfl (Or.inl ⟨by rfl,?_⟩) ⟨un HS0,trivial⟩ ?_
 ·intro W' hW
  go_split_ands
  go_simp
 refine wT 3 (.agg #[I b0,I b1,I b2]) rfl (Or.inl ⟨by rfl,?_⟩) ⟨un HS0,trivial⟩ ?_
 ·intro W' hW
  go_split_ands
  go_simp
 refine wT 5 (.pointer (some ⟨w.heap.size,3,none⟩)) rfl (Or.inl ⟨by rfl,?_⟩) ⟨un HS0,trivial⟩ ?_
 ·intro W' hW
  go_split_ands
  go_simp
 refine wT 6 (.agg #[I s0,I s1,I s2]) rfl (Or.inl ⟨by rfl,?_⟩) ⟨un HS0,trivial⟩ ?_
 ·intro W' hW
  go_split_ands
  go_simp
 refine wT 7 (.pointer (some ⟨(w.heap.size+1),0,none⟩)) rfl (Or.inl ⟨by rfl,?_⟩) ⟨un HS0,trivial⟩ ?_
 ·intro W' hW
  go_split_ands
  go_simp
 refine wT 8 (.agg #[I b0,I b1,I b2]) rfl (Or.inl ⟨by rfl,?_⟩) ⟨un HS0,trivial⟩ ?_
 ·intro W' hW
  go_split_ands
  go_simp
 refine wT 10 (.agg #[I (F 0),I (F 1),I (F 2),I (F 3),I (F 4),I (F 5),I (F 6),I (F 7)]) rfl (Or.inl ⟨by rfl,?_⟩) ⟨un HS0,trivial⟩ ?_
 ·intro W' hW
  go_split_ands
  go_simp
 refine wO 4 rfl rfl (fun K hK=>?_)
 go_simp
 refine(un H1 _).mono ?_;rintro e U2 ⟨rfl,hb⟩;have HT2:=zAb ((un HT1).later hb);clear hb HT1;refine hK _ _ ⟨un HSS _ (un HT2),trivial⟩ ?_;clear hK K;refine wO 9 rfl rfl (fun K hK=>?_)
 go_simp
 refine(un H2 _).mono ?_;rintro e U3 ⟨rfl,hb⟩;have HT3:=zAb ((un HT2).later hb);clear hb HT2;refine hK _ _ ⟨un HSS _ (un HT3),trivial⟩ ?_;clear hK K;refine wO 11 rfl rfl (fun K hK=>?_)
 go_simp
 refine hK _ _ ⟨un HSS _ (un HT3),trivial⟩ ?_;clear hK K;refine wL 12 rfl rfl (fun K hK=>?_);refine wp_store_row 155 (.tmp 4) (.tmp 27) rfl (w.heap.size+1+1) #[I c0,I c1,I c2,I t0,I t1,I t2,I (F 0),I (F 1),I (F 2),I (F 3),I (F 4),I (F 5),I (F 6),I (F 7)] (by kernel_rfl) (by kernel_rfl) 155 _ (un HT3).r (by rw[zBa];rfl) rfl (by kernel_rfl) (hK _ _ trivial ?_);clear hK K;refine wDn ?_
 go_wp2_with fail
 exact bodyPost_ret (v:=.agg #[I c0,I c1,I c2,I t0,I t1,I t2,I (F 0),I (F 1),I (F 2),I (F 3),I (F 4),I (F 5),I (F 6),I (F 7)]) (zCf Tryz.results199 _ _ (w.heap.size+1+1) _ rfl rfl ((un HT3).r.setRow _)) rfl ⟨rfl,below_setRow (un HT3).l (by omega) _⟩
theorem amtBy (a0 a1 a2 s0 s1 s2 b0 b1 b2 u0 u1 u2 c0 c1 c2 t0 t1 t2:Int) (D E F:Nat→Int) (er:Int) (w:World) (hm:∀W,Calls Tryz.prog 105 #[.agg #[I (D 0),I (D 1),I (D 2),I (D 3),I (D 4),I (D 5),I (D 6),I (D 7)],.agg #[I (E 0),I (E 1),I (E 2),I (E 3),I (E 4),I (E 5),I (E 6),I (E 7)]] W fun r w'=>r=.returned (.tuple #[.agg #[I (F 0),I (F 1),I (F 2),I (F 3),I (F 4),I (F 5),I (F 6),I (F 7)],I er])∧Bw W w')
  (h1:∀W,Calls Tryz.prog 245 #[.agg #[I a0,I a1,I a2],.agg #[I b0,I b1,I b2]] W fun r w'=>r=.returned (.agg #[I c0,I c1,I c2])∧Bw W w')
  (h2:∀W,Calls Tryz.prog 245 #[.agg #[I s0,I s1,I s2],.agg #[I b0,I b1,I b2]] W fun r w'=>r=.returned (.agg #[I t0,I t1,I t2])∧Bw W w') :
  Calls Tryz.prog 197 #[.agg #[I a0,I a1,I a2,I s0,I s1,I s2,I (D 0),I (D 1),I (D 2),I (D 3),I (D 4),I (D 5),I (D 6),I (D 7)],.agg #[I b0,I b1,I b2,I u0,I u1,I u2,I (E 0),I (E 1),I (E 2),I (E 3),I (E 4),I (E 5),I (E 6),I (E 7)]] w fun r w'=>r=.returned (.agg #[I c0,I c1,I c2,I t0,I t1,I t2,I (F 0),I (F 1),I (F 2),I (F 3),I (F 4),I (F 5),I (F 6),I (F 7)])∧Bw w w':=by
 obtain⟨V,hV⟩:∃V,V=((w.alloc (.cells #[I a0,I a1,I a2,I s0,I s1,I s2,I (D 0),I (D 1),I (D 2),I (D 3),I (D 4),I (D 5),I (D 6),I (D 7)] 155)).alloc (.cells #[I b0,I b1,I b2,I u0,I u1,I u2,I (E 0),I (E 1),I (E 2),I (E 3),I (E 4),I (E 5),I (E 6),I (E 7)] 155)).alloc (.cells #[I 0,I 0,I 0,I 0,I 0,I 0,I 0,I 0,I 0,I 0,I 0,I 0,I 0,I 0] 155):=⟨_,rfl⟩;have HA:Hid (zAc V w.heap.size 155 #[I a0,I a1,I a2,I s0,I s1,I s2,I (D 0),I (D 1),I (D 2),I (D 3),I (D 4),I (D 5),I (D 6),I (D 7)]):=by rw[hV];exact((zAc.new _ _ _).alloc _).alloc _
 have HC:Hid (zAc V (w.heap.size+1) 155 #[I b0,I b1,I b2,I u0,I u1,I u2,I (E 0),I (E 1),I (E 2),I (E 3),I (E 4),I (E 5),I (E 6),I (E 7)]):=by rw[hV];have h:=zAc.new (w.alloc (.cells #[I a0,I a1,I a2,I s0,I s1,I s2,I (D 0),I (D 1),I (D 2),I (D 3),I (D 4),I (D 5),I (D 6),I (D 7)] 155)) #[I b0,I b1,I b2,I u0,I u1,I u2,I (E 0),I (E 1),I (E 2),I (E 3),I (E 4),I (E 5),I (E 6),I (E 7)] 155;rw[Dm.size_alloc]at h;exact h.alloc _
 have HR:Hid (zAc V (w.heap.size+1+1) 155 #[I 0,I 0,I 0,I 0,I 0,I 0,I 0,I 0,I 0,I 0,I 0,I 0,I 0,I 0]):=by rw[hV];have h:=zAc.new ((w.alloc (.cells #[I a0,I a1,I a2,I s0,I s1,I s2,I (D 0),I (D 1),I (D 2),I (D 3),I (D 4),I (D 5),I (D 6),I (D 7)] 155)).alloc (.cells #[I b0,I b1,I b2,I u0,I u1,I u2,I (E 0),I (E 1),I (E 2),I (E 3),I (E 4),I (E 5),I (E 6),I (E 7)] 155)) #[I 0,I 0,I 0,I 0,I 0,I 0,I 0,I 0,I 0,I 0,I 0,I 0,I 0,I 0] 155;rw[Dm.size_alloc,Dm.size_alloc]at h;exact h
 have HB:Hid (Bw w V):=by rw[hV];exact(bA.alloc (by simp) _).alloc (by simp;omega) _
 have HM:=zAb hm;have H1:=zAb h1;have H2:=zAb h2;have HMA:Hid (V.rangeAt w.heap.size 6 [I (D 0),I (D 1),I (D 2),I (D 3),I (D 4),I (D 5),I (D 6),I (D 7)]):=(un HA).mid _ _ (fun j v h=>by rcases Dm.eight (Nat.le_of_lt (List.getElem?_eq_some_iff.1 h).1)with rfl|rfl|rfl|rfl|rfl|rfl|rfl|rfl|rfl<;>first|exact h|cases h);have HMB:Hid (V.rangeAt (w.heap.size+1) 6 [I (E 0),I (E 1),I (E 2),I (E 3),I (E 4),I (E 5),I (E 6),I (E 7)]):=(un HC).mid _ _ (fun j v h=>by rcases Dm.eight (Nat.le_of_lt (List.getElem?_eq_some_iff.1 h).1)with rfl|rfl|rfl|rfl|rfl|rfl|rfl|rfl|rfl<;>first|exact h|cases h);have HV:=zAb hV;clear hV hm h1 h2;go_enter Tryz.func197,Tryz.ntmps197
 go_upto_region 1 with fail
 rw[←un HV];clear HV
 go_upto_region 2 with (first
  | (refine wpList_load_mid rfl 26 (.tmp 8) rfl w.heap.size 6 rfl [I (D 0),I (D 1),I (D 2),I (D 3),I (D 4),I (D 5),I (D 6),I (D 7)] _ (un HMA) Tryz.underlying26 rfl zCw ?_)
  | (refine wpList_load_mid rfl 26 (.tmp 10) rfl (w.heap.size+1) 6 rfl [I (E 0),I (E 1),I (E 2),I (E 3),I (E 4),I (E 5),I (E 6),I (E 7)] _ (un HMB) Tryz.underlying26 rfl zCw ?_)
  | (go_at_call 105;go_must(refine(un HM _).mono ?_;rintro e w1 ⟨rfl,hb⟩;have HA1:=zAb ((un HA).later hb);have HC1:=zAb ((un HC).later hb);have HR1:=zAb ((un HR).later hb);have HB1:Hid (Bw w w1):=bt HB hb;clear hb))
  | (refine zAn 26 8 zCw rfl (.tmp 5) (.tmp 13) rfl w1.heap.size #[I 0,I 0,I 0,I 0,I 0,I 0,I 0,I 0] #[I (F 0),I (F 1),I (F 2),I (F 3),I (F 4),I (F 5),I (F 6),I (F 7)] rfl rfl rfl rfl (zAc.new _ _ _) (by kernel_rfl) ?_))
 have hb2:Below w1.heap.size w1 ((w1.alloc (.cells #[I 0,I 0,I 0,I 0,I 0,I 0,I 0,I 0] 26)).setRow w1.heap.size #[I (F 0),I (F 1),I (F 2),I (F 3),I (F 4),I (F 5),I (F 6),I (F 7)]):=below_setRow (zBx _ _) (Nat.le_refl _) _;have HT0:Hid (NA w ((w1.alloc (.cells #[I 0,I 0,I 0,I 0,I 0,I 0,I 0,I 0] 26)).setRow w1.heap.size #[I (F 0),I (F 1),I (F 2),I (F 3),I (F 4),I (F 5),I (F 6),I (F 7)]) #[I a0,I a1,I a2,I s0,I s1,I s2,I (D 0),I (D 1),I (D 2),I (D 3),I (D 4),I (D 5),I (D 6),I (D 7)] #[I b0,I b1,I b2,I u0,I u1,I u2,I (E 0),I (E 1),I (E 2),I (E 3),I (E 4),I (E 5),I (E 6),I (E 7)] #[I (F 0),I (F 1),I (F 2),I (F 3),I (F 4),I (F 5),I (F 6),I (F 7)] w1.heap.size):=⟨(un HA1).later hb2,(un HC1).later hb2,(un HR1).later hb2,(zAc.new _ _ _).setRow _,bt HB1 hb2,(un HR1).lt⟩;clear hb2 HA1 HC1 HR1 HB1 HA HC HR HB HMA HMB HM;generalize (w1.alloc (.cells #[I 0,I 0,I 0,I 0,I 0,I 0,I 0,I 0] 26)).setRow w1.heap.size #[I (F 0),I (F 1),I (F 2),I (F 3),I (F 4),I (F 5),I (F 6),I (F 7)]=w2 at *
 generalize w1.heap.size=g5 at *
 have HT1:Hid (NA w w2.drew #[I a0,I a1,I a2,I s0,I s1,I s2,I (D 0),I (D 1),I (D 2),I (D 3),I (D 4),I (D 5),I (D 6),I (D 7)] #[I b0,I b1,I b2,I u0,I u1,I u2,I (E 0),I (E 1),I (E 2),I (E 3),I (E 4),I (E 5),I (E 6),I (E 7)] #[I (F 0),I (F 1),I (F 2),I (F 3),I (F 4),I (F 5),I (F 6),I (F 7)] g5):=(un HT0).later (Below.refl _ _).drew;have HSS:Hid (∀W':World,NA w W' #[I a0,I a1,I a2,I s0,I s1,I s2,I (D 0),I (D 1),I (D 2),I (D 3),I (D 4),I (D 5),I (D 6),I (D 7)] #[I b0,I b1,I b2,I u0,I u1,I u2,I (E 0),I (E 1),I (E 2),I (E 3),I (E 4),I (E 5),I (E 6),I (E 7)] #[I (F 0),I (F 1),I (F 2),I (F 3),I (F 4),I (F 5),I (F 6),I (F 7)] g5→W'.cell? ⟨w.heap.size,0,none⟩=some (I a0)∧W'.cell? ⟨w.heap.size,1,none⟩=some (I a1)∧W'.cell? ⟨w.heap.size,2,none⟩=some (I a2)∧W'.cell? ⟨w.heap.size,3,none⟩=some (I s0)∧W'.cell? ⟨w.heap.size,4,none⟩=some (I s1)∧W'.cell? ⟨w.heap.size,5,none⟩=some (I s2)∧W'.cell? ⟨(w.heap.size+1),0,none⟩=some (I b0)∧W'.cell? ⟨(w.heap.size+1),1,none⟩=some (I b1)∧W'.cell? ⟨(w.heap.size+1),2,none⟩=some (I b2)∧W'.cell? ⟨g5,0,none⟩=some (I (F 0))∧W'.cell? ⟨g5,1,none⟩=some (I (F 1))∧W'.cell? ⟨g5,2,none⟩=some (I (F 2))∧W'.cell? ⟨g5,3,none⟩=some (I (F 3))∧W'.cell? ⟨g5,4,none⟩=some (I (F 4))∧W'.cell? ⟨g5,5,none⟩=some (I (F 5))∧W'.cell? ⟨g5,6,none⟩=some (I (F 6))∧W'.cell? ⟨g5,7,none⟩=some (I (F 7))):=fun W' h=>⟨h.a.ub.c 0 _ rfl,h.a.ub.c 1 _ rfl,h.a.ub.c 2 _ rfl,h.a.ub.c 3 _ rfl,h.a.ub.c 4 _ rfl,h.a.ub.c 5 _ rfl,h.b.ub.c 0 _ rfl,h.b.ub.c 1 _ rfl,h.b.ub.c 2 _ rfl,h.d.ub.c 0 _ rfl,h.d.ub.c 1 _ rfl,h.d.ub.c 2 _ rfl,h.d.ub.c 3 _ rfl,h.d.ub.c 4 _ rfl,h.d.ub.c 5 _ rfl,h.d.ub.c 6 _ rfl,h.d.ub.c 7 _ rfl⟩
 have HS0:=zAb (un HSS _ (un HT1));clear HT0;refine zAi 12 (fun W'=>W'.cell? ⟨w.heap.size,0,none⟩=some (I a0)∧W'.cell? ⟨w.heap.size,1,none⟩=some (I a1)∧W'.cell? ⟨w.heap.size,2,none⟩=some (I a2)∧W'.cell? ⟨w.heap.size,3,none⟩=some (I s0)∧W'.cell? ⟨w.heap.size,4,none⟩=some (I s1)∧W'.cell? ⟨w.heap.size,5,none⟩=some (I s2)∧W'.cell? ⟨(w.heap.size+1),0,none⟩=some (I b0)∧W'.cell? ⟨(w.heap.size+1),1,none⟩=some (I b1)∧W'.cell? ⟨(w.heap.size+1),2,none⟩=some (I b2)∧W'.cell? ⟨g5,0,none⟩=some (I (F 0))∧W'.cell? ⟨g5,1,none⟩=some (I (F 1))∧W'.cell? ⟨g5,2,none⟩=some (I (F 2))∧W'.cell? ⟨g5,3,none⟩=some (I (F 3))∧W'.cell? ⟨g5,4,none⟩=some (I (F 4))∧W'.cell? ⟨g5,5,none⟩=some (I (F 5))∧W'.cell? ⟨g5,6,none⟩=some (I (F 6))∧W'.cell? ⟨g5,7,none⟩=some (I (F 7))) (fun _=>True) 13 rfl (by kernel_rfl) ?_;generalize w2.drew=U1 at *
 refine wT 0 (.pointer (some ⟨w.heap.size,0,none⟩)) rfl (Or.inl ⟨by rfl,?_⟩) ⟨un HS0,trivial⟩ ?_
 ·intro W' hW
  go_split_ands
  go_simp
 refine wT 1 (.agg #[I a0,I a1,I a2]) rfl (Or.inl ⟨by rfl,?_⟩) ⟨un HS0,trivial⟩ ?_
 ·intro W' hW
  go_split_ands
  go_simp
 refine wT 2 (.pointer (some ⟨(w.heap.size+1),0,none⟩)) rfl (Or.inl ⟨by rfl,?_⟩) ⟨un HS0,trivial⟩ ?_
 ·intro W' hW
  go_split_ands
  go_simp
 refine wT 3 (.agg #[I b0,I b1,I b2]) rfl (Or.inl ⟨by rfl,?_⟩) ⟨un HS0,trivial⟩ ?_
 ·intro W' hW
  go_split_ands
  go_simp
 refine wT 5 (.pointer (some ⟨w.heap.size,3,none⟩)) rfl (Or.inl ⟨by rfl,?_⟩) ⟨un HS0,trivial⟩ ?_
 ·intro W' hW
  go_split_ands
  go_simp
 refine wT 6 (.agg #[I s0,I s1,I s2]) rfl (Or.inl ⟨by rfl,?_⟩) ⟨un HS0,trivial⟩ ?_
 ·intro W' hW
  go_split_ands
  go_simp
 refine wT 7 (.pointer (some ⟨(w.heap.size+1),0,none⟩)) rfl (Or.inl ⟨by rfl,?_⟩) ⟨un HS0,trivial⟩ ?_
 ·intro W' hW
  go_split_ands
  go_simp
 refine wT 8 (.agg #[I b0,I b1,I b2]) rfl (Or.inl ⟨by rfl,?_⟩) ⟨un HS0,trivial⟩ ?_
 ·intro W' hW
  go_split_ands
  go_simp
 refine wT 10 (.agg #[I (F 0),I (F 1),I (F 2),I (F 3),I (F 4),I (F 5),I (F 6),I (F 7)]) rfl (Or.inl ⟨by rfl,?_⟩) ⟨un HS0,trivial⟩ ?_
 ·intro W' hW
  go_split_ands
  go_simp
 refine wO 4 rfl rfl (fun K hK=>?_)
 go_simp
 refine(un H1 _).mono ?_;rintro e U2 ⟨rfl,hb⟩;have HT2:=zAb ((un HT1).later hb);clear hb HT1;refine hK _ _ ⟨un HSS _ (un HT2),trivial⟩ ?_;clear hK K;refine wO 9 rfl rfl (fun K hK=>?_)
 go_simp
 refine(un H2 _).mono ?_;rintro e U3 ⟨rfl,hb⟩;have HT3:=zAb ((un HT2).later hb);clear hb HT2;refine hK _ _ ⟨un HSS _ (un HT3),trivial⟩ ?_;clear hK K;refine wO 11 rfl rfl (fun K hK=>?_)
 go_simp
 refine hK _ _ ⟨un HSS _ (un HT3),trivial⟩ ?_;clear hK K;refine wL 12 rfl rfl (fun K hK=>?_);refine wp_store_row 155 (.tmp 4) (.tmp 26) rfl (w.heap.size+1+1) #[I c0,I c1,I c2,I t0,I t1,I t2,I (F 0),I (F 1),I (F 2),I (F 3),I (F 4),I (F 5),I (F 6),I (F 7)] (by kernel_rfl) (by kernel_rfl) 155 _ (un HT3).r (by rw[zBa];rfl) rfl (by kernel_rfl) (hK _ _ trivial ?_);clear hK K;refine wDn ?_
 go_wp2_with fail
 exact bodyPost_ret (v:=.agg #[I c0,I c1,I c2,I t0,I t1,I t2,I (F 0),I (F 1),I (F 2),I (F 3),I (F 4),I (F 5),I (F 6),I (F 7)]) (zCf Tryz.results197 _ _ (w.heap.size+1+1) _ rfl rfl ((un HT3).r.setRow _)) rfl ⟨rfl,below_setRow (un HT3).l (by omega) _⟩
abbrev aN (a0 a1 a2 s0 s1 s2 d0 d1 d2 d3 d4 d5 d6 d7:Int):Array Value:=#[I a0,I a1,I a2,I s0,I s1,I s2,I d0,I d1,I d2,I d3,I d4,I d5,I d6,I d7]
abbrev z14:Array Value:=#[I 0,I 0,I 0,I 0,I 0,I 0,I 0,I 0,I 0,I 0,I 0,I 0,I 0,I 0]
def nt8 (l:List Int) (k:Nat):Int:=l.getD k 0
def in9 (l:List Int):Bool:=(List.range 8).all fun j=>decide (-99≤nt8 l j∧nt8 l j≤99)
theorem in9_at {l:List Int} (h:in9 l=true):∀j,j<8→-99≤nt8 l j∧nt8 l j≤99:=fun j hj=>of_decide_eq_true (List.all_eq_true.1 h j (List.mem_range.2 hj))
def okT (a0 a1 a2 s0 s1 s2 b0 b1 b2 c0 c1 c2 t0 t1 t2:Int) (ds es fs:List Int):Bool:=decide (wrap64 (a0*b0)=c0∧wrap64 (a1*b1)=c1∧wrap64 (a2+b2)=c2∧wrap64 (s0*b0)=t0∧wrap64 (s1*b1)=t1∧wrap64 (s2+b2)=t2) && (in9 ds && in9 es && in9 fs && (List.range 8).all fun j=>nt8 fs j == nt8 ds j+nt8 es j)
theorem zEj (a0 a1 a2 s0 s1 s2 d0 d1 d2 d3 d4 d5 d6 d7 b0 b1 b2 u0 u1 u2 e0 e1 e2 e3 e4 e5 e6 e7 c0 c1 c2 t0 t1 t2 f0 f1 f2 f3 f4 f5 f6 f7:Int) (w:World) (h:okT a0 a1 a2 s0 s1 s2 b0 b1 b2 c0 c1 c2 t0 t1 t2 [d0,d1,d2,d3,d4,d5,d6,d7] [e0,e1,e2,e3,e4,e5,e6,e7] [f0,f1,f2,f3,f4,f5,f6,f7]=true) :
  Calls Tryz.prog 199 #[.agg (aN a0 a1 a2 s0 s1 s2 d0 d1 d2 d3 d4 d5 d6 d7),.agg (aN b0 b1 b2 u0 u1 u2 e0 e1 e2 e3 e4 e5 e6 e7)] w fun r w'=>r=.returned (.agg (aN c0 c1 c2 t0 t1 t2 f0 f1 f2 f3 f4 f5 f6 f7))∧Bw w w':=by
 simp only[okT,Bool.and_eq_true,decide_eq_true_eq,List.all_eq_true,beq_iff_eq]at h;obtain⟨⟨h0,h1,h2,h3,h4,h5⟩,⟨⟨i1,i2⟩,i3⟩,i4⟩:=h;exact amtTimes a0 a1 a2 s0 s1 s2 b0 b1 b2 u0 u1 u2 c0 c1 c2 t0 t1 t2 (nt8 [d0,d1,d2,d3,d4,d5,d6,d7]) (nt8 [e0,e1,e2,e3,e4,e5,e6,e7]) (nt8 [f0,f1,f2,f3,f4,f5,f6,f7]) 0 w (fun g W ho=>mul_two _ _ (nt8 [f0,f1,f2,f3,f4,f5,f6,f7]) g W (in9_at i1) (in9_at i2) (fun j hj=>⟨(in9_at i3 j hj).1,(in9_at i3 j hj).2,i4 j (List.mem_range.2 hj)⟩) ho) (fun W=>numTimes _ _ _ _ _ _ _ _ _ W h0 h1 h2) (fun W=>numTimes _ _ _ _ _ _ _ _ _ W h3 h4 h5)
def okB (a0 a1 a2 s0 s1 s2 b0 b1 b2 c0 c1 c2 t0 t1 t2:Int):Bool:=decide (wrap64 (a0*b1)=c0∧wrap64 (a1*b0)=c1∧wrap64 (a2 - b2)=c2∧wrap64 (s0*b1)=t0∧wrap64 (s1*b0)=t1∧wrap64 (s2 - b2)=t2)
theorem quo8 (d0 d1 d2 d3 d4 d5 d6 d7 e0 e1 e2 e3 e4 e5 e6 e7 f0 f1 f2 f3 f4 f5 f6 f7:Int) (hq:quoL [d0,d1,d2,d3,d4,d5,d6,d7] [e0,e1,e2,e3,e4,e5,e6,e7] [wrap64 (d0 - e0),wrap64 (d1 - e1),wrap64 (d2 - e2),wrap64 (d3 - e3),wrap64 (d4 - e4),wrap64 (d5 - e5),wrap64 (d6 - e6),wrap64 (d7 - e7)]=[f0,f1,f2,f3,f4,f5,f6,f7]):∃er:Int,∀w:World,Calls Tryz.prog 105 #[.agg #[I d0,I d1,I d2,I d3,I d4,I d5,I d6,I d7],.agg #[I e0,I e1,I e2,I e3,I e4,I e5,I e6,I e7]] w fun r w'=>r=.returned (.tuple #[.agg #[I f0,I f1,I f2,I f3,I f4,I f5,I f6,I f7],I er])∧Bw w w':=by
 unfold quoL at hq
 simp only[List.map_cons,List.map_nil,List.cons.injEq,and_true]at hq;obtain⟨rfl,rfl,rfl,rfl,rfl,rfl,rfl,rfl⟩:=hq;exact⟨_,fun W=>Dm.quo_any d0 d1 d2 d3 d4 d5 d6 d7 e0 e1 e2 e3 e4 e5 e6 e7 W⟩
theorem byN (a0 a1 a2 s0 s1 s2 d0 d1 d2 d3 d4 d5 d6 d7 b0 b1 b2 u0 u1 u2 e0 e1 e2 e3 e4 e5 e6 e7 c0 c1 c2 t0 t1 t2 f0 f1 f2 f3 f4 f5 f6 f7:Int) (w:World) (h:okB a0 a1 a2 s0 s1 s2 b0 b1 b2 c0 c1 c2 t0 t1 t2=true) (hq:quoL [d0,d1,d2,d3,d4,d5,d6,d7] [e0,e1,e2,e3,e4,e5,e6,e7] [wrap64 (d0 - e0),wrap64 (d1 - e1),wrap64 (d2 - e2),wrap64 (d3 - e3),wrap64 (d4 - e4),wrap64 (d5 - e5),wrap64 (d6 - e6),wrap64 (d7 - e7)]=[f0,f1,f2,f3,f4,f5,f6,f7]) :
  Calls Tryz.prog 197 #[.agg (aN a0 a1 a2 s0 s1 s2 d0 d1 d2 d3 d4 d5 d6 d7),.agg (aN b0 b1 b2 u0 u1 u2 e0 e1 e2 e3 e4 e5 e6 e7)] w fun r w'=>r=.returned (.agg (aN c0 c1 c2 t0 t1 t2 f0 f1 f2 f3 f4 f5 f6 f7))∧Bw w w':=by
 simp only[okB,decide_eq_true_eq]at h;obtain⟨h0,h1,h2,h3,h4,h5⟩:=h;obtain⟨er,hQ⟩:=quo8 d0 d1 d2 d3 d4 d5 d6 d7 e0 e1 e2 e3 e4 e5 e6 e7 f0 f1 f2 f3 f4 f5 f6 f7 hq;exact amtBy a0 a1 a2 s0 s1 s2 b0 b1 b2 u0 u1 u2 c0 c1 c2 t0 t1 t2 (nt8 [d0,d1,d2,d3,d4,d5,d6,d7]) (nt8 [e0,e1,e2,e3,e4,e5,e6,e7]) (nt8 [f0,f1,f2,f3,f4,f5,f6,f7]) er w hQ (fun W=>numBy _ _ _ _ _ _ _ _ _ W h0 h1 h2) (fun W=>numBy _ _ _ _ _ _ _ _ _ W h3 h4 h5)
theorem measured (a0 a1 a2 s0 s1 s2:Int) (w:World):Calls Tryz.prog 201 #[.agg (n3 a0 a1 a2),.agg (n3 s0 s1 s2)] w fun r w'=>r=.returned (.agg (aN a0 a1 a2 s0 s1 s2 0 0 0 0 0 0 0 0))∧Bw w w':=by
 have HR:Hid (zAc (((w.alloc (.cells (n3 a0 a1 a2) 153)).alloc (.cells (n3 s0 s1 s2) 153)).alloc (.cells z14 155)) (w.heap.size+1+1) 155 z14):=by have h:=zAc.new ((w.alloc (.cells (n3 a0 a1 a2) 153)).alloc (.cells (n3 s0 s1 s2) 153)) z14 155;rw[Dm.size_alloc,Dm.size_alloc]at h;exact h
 have HB:Hid (Bw w (((w.alloc (.cells (n3 a0 a1 a2) 153)).alloc (.cells (n3 s0 s1 s2) 153)).alloc (.cells z14 155))):=(bA.alloc (by simp) _).alloc (by simp;omega) _;go_enter Tryz.func201,Tryz.ntmps201
 go_wp2_with (refine zAn 155 14 zBa rfl (.tmp 4) (.tmp 7) rfl (w.heap.size+1+1) z14 (aN a0 a1 a2 s0 s1 s2 0 0 0 0 0 0 0 0) rfl rfl rfl rfl (un HR) (by kernel_rfl) ?_)
 exact bodyPost_ret (v:=.agg (aN a0 a1 a2 s0 s1 s2 0 0 0 0 0 0 0 0)) (zCf Tryz.results201 _ _ (w.heap.size+1+1) _ rfl rfl ((un HR).setRow _)) rfl ⟨rfl,below_setRow (un HB) (by omega) _⟩
structure RN (w W:World):Prop where
 o:zAc W w.heap.size 155 z14
 b:Below w.heap.size w W
theorem RN.later {w W V:World} (h:RN w W) (hb:Below W.heap.size W V):RN w V:=⟨h.o.later hb,h.b.trans (hb.mono h.b.size)⟩
theorem RN.new (w:World):RN w (w.alloc (.cells z14 155)):=⟨zAc.new _ _ _,bA⟩
theorem zCt (x y:Int) (w:World):Calls Tryz.prog 196 #[I x,I y] w fun r w'=>r=.returned (.agg (aN x 1 y 0 1 0 0 0 0 0 0 0 0 0))∧Bw w w':=by
 obtain⟨V,hV⟩:∃V,V=w.alloc (.cells z14 155):=⟨_,rfl⟩;have H:Hid (RN w V):=by rw[hV];exact RN.new w
 have HV:=zAb hV;clear hV;go_enter Tryz.func196,Tryz.ntmps196
 go_upto_region 1 with fail
 rw[←un HV];clear HV
 go_wp2_with (first
  | (go_at_call 201;go_must(refine(measured x 1 y 0 1 0 _).mono ?_;rintro e W ⟨rfl,hb⟩;have H1:=zAb ((un H).later hb);clear hb))
  | (refine zAn 155 14 zBa rfl (.tmp 4) (.tmp 9) rfl w.heap.size z14 (aN x 1 y 0 1 0 0 0 0 0 0 0 0 0) rfl rfl rfl rfl (un H1).o (by kernel_rfl) ?_))
 exact bodyPost_ret (v:=.agg (aN x 1 y 0 1 0 0 0 0 0 0 0 0 0)) (zCf Tryz.results196 _ _ w.heap.size _ rfl rfl ((un H1).o.setRow _)) rfl ⟨rfl,below_setRow (un H1).b (Nat.le_refl _) _⟩
theorem one0 (w:World):Calls Tryz.prog 198 #[I 0] w fun r w'=>r=.returned (.agg (aN 1 1 0 0 1 0 1 0 0 0 0 0 0 0))∧Bw w w':=by
 obtain⟨V,hV⟩:∃V,V=w.alloc (.cells z14 155):=⟨_,rfl⟩;have H:Hid (RN w V):=by rw[hV];exact RN.new w
 have HV:=zAb hV;clear hV;go_enter Tryz.func198,Tryz.ntmps198
 go_upto_region 1 with fail
 rw[←un HV];clear HV
 go_upto_region 2 with (first
  | (go_at_call 196;go_must(refine(zCt 1 0 _).mono ?_;rintro e W ⟨rfl,hb⟩;have H1:=zAb ((un H).later hb);clear hb H))
  | (refine zAn 155 14 zBa rfl (.tmp 3) (.tmp 4) rfl W.heap.size z14 (aN 1 1 0 0 1 0 0 0 0 0 0 0 0 0) rfl rfl rfl rfl (zAc.new _ _ _) (by kernel_rfl) ?_))
 have hb1:Below W.heap.size W ((W.alloc (.cells z14 155)).setRow W.heap.size (aN 1 1 0 0 1 0 0 0 0 0 0 0 0 0)):=below_setRow (zBx _ _) (Nat.le_refl _) _;have HX:Hid (zAc ((W.alloc (.cells z14 155)).setRow W.heap.size (aN 1 1 0 0 1 0 0 0 0 0 0 0 0 0)) W.heap.size 155 (aN 1 1 0 0 1 0 0 0 0 0 0 0 0 0)):=(zAc.new _ _ _).setRow _;have H2:=zAb ((un H1).later hb1);have HN:Hid (¬w.heap.size=W.heap.size):=(by have:=(un H1).o.lt;show ¬_;omega);have HL:Hid (w.heap.size≤W.heap.size):=(un H1).b.size;clear H1 hb1;generalize (W.alloc (.cells z14 155)).setRow W.heap.size (aN 1 1 0 0 1 0 0 0 0 0 0 0 0 0)=U at *
 generalize W.heap.size=g3 at *
 have c6:=(un HX).ub.c 6 (I 0) rfl;have f6:=(un HX).ub.f 6 (I 0) rfl
 go_upto_region 3 with fail
 have HX3:Hid (zAc (U.setCell ⟨g3,6,none⟩ (I 1)) g3 155 (aN 1 1 0 0 1 0 1 0 0 0 0 0 0 0)):=(un HX).set 6 (I 1);have H3:Hid (RN w (U.setCell ⟨g3,6,none⟩ (I 1))):=⟨(un H2).o.otherSet (un HN) _ _,(un H2).b.setCell (p:=⟨g3,6,none⟩) (un HL) _⟩;clear HX H2 c6 f6;generalize U.setCell ⟨g3,6,none⟩ (I 1)=U3 at *
 go_wp2_with (first
  | (refine wpList_load_row rfl 155 (.tmp 3) rfl g3 rfl 155 (aN 1 1 0 0 1 0 1 0 0 0 0 0 0 0) (0,0) _ (un HX3) Tryz.underlying155 rfl (by kernel_rfl) ?_)
  | (refine zAn 155 14 zBa rfl (.tmp 2) (.tmp 8) rfl w.heap.size z14 (aN 1 1 0 0 1 0 1 0 0 0 0 0 0 0) rfl rfl rfl rfl (un H3).o (by kernel_rfl) ?_))
 exact bodyPost_ret (v:=.agg (aN 1 1 0 0 1 0 1 0 0 0 0 0 0 0)) (zCf Tryz.results198 _ _ w.heap.size _ rfl rfl ((un H3).o.setRow _)) rfl ⟨rfl,below_setRow (un H3).b (Nat.le_refl _) _⟩
theorem one1 (w:World):Calls Tryz.prog 198 #[I 1] w fun r w'=>r=.returned (.agg (aN 1 1 0 0 1 0 0 1 0 0 0 0 0 0))∧Bw w w':=by
 obtain⟨V,hV⟩:∃V,V=w.alloc (.cells z14 155):=⟨_,rfl⟩;have H:Hid (RN w V):=by rw[hV];exact RN.new w
 have HV:=zAb hV;clear hV;go_enter Tryz.func198,Tryz.ntmps198
 go_upto_region 1 with fail
 rw[←un HV];clear HV
 go_upto_region 2 with (first
  | (go_at_call 196;go_must(refine(zCt 1 0 _).mono ?_;rintro e W ⟨rfl,hb⟩;have H1:=zAb ((un H).later hb);clear hb H))
  | (refine zAn 155 14 zBa rfl (.tmp 3) (.tmp 4) rfl W.heap.size z14 (aN 1 1 0 0 1 0 0 0 0 0 0 0 0 0) rfl rfl rfl rfl (zAc.new _ _ _) (by kernel_rfl) ?_))
 have hb1:Below W.heap.size W ((W.alloc (.cells z14 155)).setRow W.heap.size (aN 1 1 0 0 1 0 0 0 0 0 0 0 0 0)):=below_setRow (zBx _ _) (Nat.le_refl _) _;have HX:Hid (zAc ((W.alloc (.cells z14 155)).setRow W.heap.size (aN 1 1 0 0 1 0 0 0 0 0 0 0 0 0)) W.heap.size 155 (aN 1 1 0 0 1 0 0 0 0 0 0 0 0 0)):=(zAc.new _ _ _).setRow _;have H2:=zAb ((un H1).later hb1);have HN:Hid (¬w.heap.size=W.heap.size):=(by have:=(un H1).o.lt;show ¬_;omega);have HL:Hid (w.heap.size≤W.heap.size):=(un H1).b.size;clear H1 hb1;generalize (W.alloc (.cells z14 155)).setRow W.heap.size (aN 1 1 0 0 1 0 0 0 0 0 0 0 0 0)=U at *
 generalize W.heap.size=g3 at *
 have c6:=(un HX).ub.c 7 (I 0) rfl;have f6:=(un HX).ub.f 7 (I 0) rfl
 go_upto_region 3 with fail
 have HX3:Hid (zAc (U.setCell ⟨g3,7,none⟩ (I 1)) g3 155 (aN 1 1 0 0 1 0 0 1 0 0 0 0 0 0)):=(un HX).set 7 (I 1);have H3:Hid (RN w (U.setCell ⟨g3,7,none⟩ (I 1))):=⟨(un H2).o.otherSet (un HN) _ _,(un H2).b.setCell (p:=⟨g3,7,none⟩) (un HL) _⟩;clear HX H2 c6 f6;generalize U.setCell ⟨g3,7,none⟩ (I 1)=U3 at *
 go_wp2_with (first
  | (refine wpList_load_row rfl 155 (.tmp 3) rfl g3 rfl 155 (aN 1 1 0 0 1 0 0 1 0 0 0 0 0 0) (0,0) _ (un HX3) Tryz.underlying155 rfl (by kernel_rfl) ?_)
  | (refine zAn 155 14 zBa rfl (.tmp 2) (.tmp 8) rfl w.heap.size z14 (aN 1 1 0 0 1 0 0 1 0 0 0 0 0 0) rfl rfl rfl rfl (un H3).o (by kernel_rfl) ?_))
 exact bodyPost_ret (v:=.agg (aN 1 1 0 0 1 0 0 1 0 0 0 0 0 0)) (zCf Tryz.results198 _ _ w.heap.size _ rfl rfl ((un H3).o.setRow _)) rfl ⟨rfl,below_setRow (un H3).b (Nat.le_refl _) _⟩
theorem one2 (w:World):Calls Tryz.prog 198 #[I 2] w fun r w'=>r=.returned (.agg (aN 1 1 0 0 1 0 0 0 1 0 0 0 0 0))∧Bw w w':=by
 obtain⟨V,hV⟩:∃V,V=w.alloc (.cells z14 155):=⟨_,rfl⟩;have H:Hid (RN w V):=by rw[hV];exact RN.new w
 have HV:=zAb hV;clear hV;go_enter Tryz.func198,Tryz.ntmps198
 go_upto_region 1 with fail
 rw[←un HV];clear HV
 go_upto_region 2 with (first
  | (go_at_call 196;go_must(refine(zCt 1 0 _).mono ?_;rintro e W ⟨rfl,hb⟩;have H1:=zAb ((un H).later hb);clear hb H))
  | (refine zAn 155 14 zBa rfl (.tmp 3) (.tmp 4) rfl W.heap.size z14 (aN 1 1 0 0 1 0 0 0 0 0 0 0 0 0) rfl rfl rfl rfl (zAc.new _ _ _) (by kernel_rfl) ?_))
 have hb1:Below W.heap.size W ((W.alloc (.cells z14 155)).setRow W.heap.size (aN 1 1 0 0 1 0 0 0 0 0 0 0 0 0)):=below_setRow (zBx _ _) (Nat.le_refl _) _;have HX:Hid (zAc ((W.alloc (.cells z14 155)).setRow W.heap.size (aN 1 1 0 0 1 0 0 0 0 0 0 0 0 0)) W.heap.size 155 (aN 1 1 0 0 1 0 0 0 0 0 0 0 0 0)):=(zAc.new _ _ _).setRow _;have H2:=zAb ((un H1).later hb1);have HN:Hid (¬w.heap.size=W.heap.size):=(by have:=(un H1).o.lt;show ¬_;omega);have HL:Hid (w.heap.size≤W.heap.size):=(un H1).b.size;clear H1 hb1;generalize (W.alloc (.cells z14 155)).setRow W.heap.size (aN 1 1 0 0 1 0 0 0 0 0 0 0 0 0)=U at *
 generalize W.heap.size=g3 at *
 have c6:=(un HX).ub.c 8 (I 0) rfl;have f6:=(un HX).ub.f 8 (I 0) rfl
 go_upto_region 3 with fail
 have HX3:Hid (zAc (U.setCell ⟨g3,8,none⟩ (I 1)) g3 155 (aN 1 1 0 0 1 0 0 0 1 0 0 0 0 0)):=(un HX).set 8 (I 1);have H3:Hid (RN w (U.setCell ⟨g3,8,none⟩ (I 1))):=⟨(un H2).o.otherSet (un HN) _ _,(un H2).b.setCell (p:=⟨g3,8,none⟩) (un HL) _⟩;clear HX H2 c6 f6;generalize U.setCell ⟨g3,8,none⟩ (I 1)=U3 at *
 go_wp2_with (first
  | (refine wpList_load_row rfl 155 (.tmp 3) rfl g3 rfl 155 (aN 1 1 0 0 1 0 0 0 1 0 0 0 0 0) (0,0) _ (un HX3) Tryz.underlying155 rfl (by kernel_rfl) ?_)
  | (refine zAn 155 14 zBa rfl (.tmp 2) (.tmp 8) rfl w.heap.size z14 (aN 1 1 0 0 1 0 0 0 1 0 0 0 0 0) rfl rfl rfl rfl (un H3).o (by kernel_rfl) ?_))
 exact bodyPost_ret (v:=.agg (aN 1 1 0 0 1 0 0 0 1 0 0 0 0 0)) (zCf Tryz.results198 _ _ w.heap.size _ rfl rfl ((un H3).o.setRow _)) rfl ⟨rfl,below_setRow (un H3).b (Nat.le_refl _) _⟩
theorem one4 (w:World):Calls Tryz.prog 198 #[I 4] w fun r w'=>r=.returned (.agg (aN 1 1 0 0 1 0 0 0 0 0 1 0 0 0))∧Bw w w':=by
 obtain⟨V,hV⟩:∃V,V=w.alloc (.cells z14 155):=⟨_,rfl⟩;have H:Hid (RN w V):=by rw[hV];exact RN.new w
 have HV:=zAb hV;clear hV;go_enter Tryz.func198,Tryz.ntmps198
 go_upto_region 1 with fail
 rw[←un HV];clear HV
 go_upto_region 2 with (first
  | (go_at_call 196;go_must(refine(zCt 1 0 _).mono ?_;rintro e W ⟨rfl,hb⟩;have H1:=zAb ((un H).later hb);clear hb H))
  | (refine zAn 155 14 zBa rfl (.tmp 3) (.tmp 4) rfl W.heap.size z14 (aN 1 1 0 0 1 0 0 0 0 0 0 0 0 0) rfl rfl rfl rfl (zAc.new _ _ _) (by kernel_rfl) ?_))
 have hb1:Below W.heap.size W ((W.alloc (.cells z14 155)).setRow W.heap.size (aN 1 1 0 0 1 0 0 0 0 0 0 0 0 0)):=below_setRow (zBx _ _) (Nat.le_refl _) _;have HX:Hid (zAc ((W.alloc (.cells z14 155)).setRow W.heap.size (aN 1 1 0 0 1 0 0 0 0 0 0 0 0 0)) W.heap.size 155 (aN 1 1 0 0 1 0 0 0 0 0 0 0 0 0)):=(zAc.new _ _ _).setRow _;have H2:=zAb ((un H1).later hb1);have HN:Hid (¬w.heap.size=W.heap.size):=(by have:=(un H1).o.lt;show ¬_;omega);have HL:Hid (w.heap.size≤W.heap.size):=(un H1).b.size;clear H1 hb1;generalize (W.alloc (.cells z14 155)).setRow W.heap.size (aN 1 1 0 0 1 0 0 0 0 0 0 0 0 0)=U at *
 generalize W.heap.size=g3 at *
 have c6:=(un HX).ub.c 10 (I 0) rfl;have f6:=(un HX).ub.f 10 (I 0) rfl
 go_upto_region 3 with fail
 have HX3:Hid (zAc (U.setCell ⟨g3,10,none⟩ (I 1)) g3 155 (aN 1 1 0 0 1 0 0 0 0 0 1 0 0 0)):=(un HX).set 10 (I 1);have H3:Hid (RN w (U.setCell ⟨g3,10,none⟩ (I 1))):=⟨(un H2).o.otherSet (un HN) _ _,(un H2).b.setCell (p:=⟨g3,10,none⟩) (un HL) _⟩;clear HX H2 c6 f6;generalize U.setCell ⟨g3,10,none⟩ (I 1)=U3 at *
 go_wp2_with (first
  | (refine wpList_load_row rfl 155 (.tmp 3) rfl g3 rfl 155 (aN 1 1 0 0 1 0 0 0 0 0 1 0 0 0) (0,0) _ (un HX3) Tryz.underlying155 rfl (by kernel_rfl) ?_)
  | (refine zAn 155 14 zBa rfl (.tmp 2) (.tmp 8) rfl w.heap.size z14 (aN 1 1 0 0 1 0 0 0 0 0 1 0 0 0) rfl rfl rfl rfl (un H3).o (by kernel_rfl) ?_))
 exact bodyPost_ret (v:=.agg (aN 1 1 0 0 1 0 0 0 0 0 1 0 0 0)) (zCf Tryz.results198 _ _ w.heap.size _ rfl rfl ((un H3).o.setRow _)) rfl ⟨rfl,below_setRow (un H3).b (Nat.le_refl _) _⟩
theorem one5 (w:World):Calls Tryz.prog 198 #[I 5] w fun r w'=>r=.returned (.agg (aN 1 1 0 0 1 0 0 0 0 0 0 1 0 0))∧Bw w w':=by
 obtain⟨V,hV⟩:∃V,V=w.alloc (.cells z14 155):=⟨_,rfl⟩;have H:Hid (RN w V):=by rw[hV];exact RN.new w
 have HV:=zAb hV;clear hV;go_enter Tryz.func198,Tryz.ntmps198
 go_upto_region 1 with fail
 rw[←un HV];clear HV
 go_upto_region 2 with (first
  | (go_at_call 196;go_must(refine(zCt 1 0 _).mono ?_;rintro e W ⟨rfl,hb⟩;have H1:=zAb ((un H).later hb);clear hb H))
  | (refine zAn 155 14 zBa rfl (.tmp 3) (.tmp 4) rfl W.heap.size z14 (aN 1 1 0 0 1 0 0 0 0 0 0 0 0 0) rfl rfl rfl rfl (zAc.new _ _ _) (by kernel_rfl) ?_))
 have hb1:Below W.heap.size W ((W.alloc (.cells z14 155)).setRow W.heap.size (aN 1 1 0 0 1 0 0 0 0 0 0 0 0 0)):=below_setRow (zBx _ _) (Nat.le_refl _) _;have HX:Hid (zAc ((W.alloc (.cells z14 155)).setRow W.heap.size (aN 1 1 0 0 1 0 0 0 0 0 0 0 0 0)) W.heap.size 155 (aN 1 1 0 0 1 0 0 0 0 0 0 0 0 0)):=(zAc.new _ _ _).setRow _;have H2:=zAb ((un H1).later hb1);have HN:Hid (¬w.heap.size=W.heap.size):=(by have:=(un H1).o.lt;show ¬_;omega);have HL:Hid (w.heap.size≤W.heap.size):=(un H1).b.size;clear H1 hb1;generalize (W.alloc (.cells z14 155)).setRow W.heap.size (aN 1 1 0 0 1 0 0 0 0 0 0 0 0 0)=U at *
 generalize W.heap.size=g3 at *
 have c6:=(un HX).ub.c 11 (I 0) rfl;have f6:=(un HX).ub.f 11 (I 0) rfl
 go_upto_region 3 with fail
 have HX3:Hid (zAc (U.setCell ⟨g3,11,none⟩ (I 1)) g3 155 (aN 1 1 0 0 1 0 0 0 0 0 0 1 0 0)):=(un HX).set 11 (I 1);have H3:Hid (RN w (U.setCell ⟨g3,11,none⟩ (I 1))):=⟨(un H2).o.otherSet (un HN) _ _,(un H2).b.setCell (p:=⟨g3,11,none⟩) (un HL) _⟩;clear HX H2 c6 f6;generalize U.setCell ⟨g3,11,none⟩ (I 1)=U3 at *
 go_wp2_with (first
  | (refine wpList_load_row rfl 155 (.tmp 3) rfl g3 rfl 155 (aN 1 1 0 0 1 0 0 0 0 0 0 1 0 0) (0,0) _ (un HX3) Tryz.underlying155 rfl (by kernel_rfl) ?_)
  | (refine zAn 155 14 zBa rfl (.tmp 2) (.tmp 8) rfl w.heap.size z14 (aN 1 1 0 0 1 0 0 0 0 0 0 1 0 0) rfl rfl rfl rfl (un H3).o (by kernel_rfl) ?_))
 exact bodyPost_ret (v:=.agg (aN 1 1 0 0 1 0 0 0 0 0 0 1 0 0)) (zCf Tryz.results198 _ _ w.heap.size _ rfl rfl ((un H3).o.setRow _)) rfl ⟨rfl,below_setRow (un H3).b (Nat.le_refl _) _⟩
end Go.Proofs.YtliadckofhblnaaGreatDoor.Nt

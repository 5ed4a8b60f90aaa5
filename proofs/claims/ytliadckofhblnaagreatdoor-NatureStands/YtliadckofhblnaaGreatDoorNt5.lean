/- gravitation and klitzing as they are made. -/
import Derived.Test.YtliadckofhblnaaGreatDoorLimb3
import Derived.Test.YtliadckofhblnaaGreatDoorNt3
set_option maxHeartbeats 4000000
set_option maxRecDepth 100000
namespace Go.Proofs.YtliadckofhblnaaGreatDoor.Nt
open Go.RowKit
theorem derived (s:ByteArray) (u:Array Value) (D:Nat→Int) (w:World) (hz:u.size=15) (h1:u.all (·.oneCell')=true) (hu:∀j v,([I (D 0),I (D 1),I (D 2),I (D 3),I (D 4),I (D 5),I (D 6),I (D 7)]:List Value)[j]?=some v→u[2+j]?=some v)
  (hf:∀W,Below w.heap.size w W→Calls Tryz.prog 71 #[.string s] W fun r w'=>r=.returned (.tuple #[.agg u,.bool true])∧Bw W w') :
  Calls Tryz.prog 200 #[.string s] w fun r w'=>r=.returned (.agg #[I 1,I 1,I 0,I 0,I 1,I 0,I (D 0),I (D 1),I (D 2),I (D 3),I (D 4),I (D 5),I (D 6),I (D 7)])∧Bw w w':=by
 obtain⟨V,hV⟩:∃V,V=w.alloc (.cells z14 155):=⟨_,rfl⟩;have H:Hid (RN w V):=by rw[hV];exact RN.new w
 have HF:=zAb hf;have HZ:=zAb hz;have H1:=zAb h1;have HU:=zAb hu;have HE:Hid (zDg (aN 1 1 0 0 1 0 0 0 0 0 0 0 0 0) 6 [I (D 0),I (D 1),I (D 2),I (D 3),I (D 4),I (D 5),I (D 6),I (D 7)]=#[I 1,I 1,I 0,I 0,I 1,I 0,I (D 0),I (D 1),I (D 2),I (D 3),I (D 4),I (D 5),I (D 6),I (D 7)]):=by show _=_;kernel_rfl
 have HV:=zAb hV;clear hV hf hz h1 hu;go_enter Tryz.func200,Tryz.ntmps200
 go_upto_region 1 with fail
 rw[←un HV];clear HV
 go_upto_region 2 with (first
  | (go_at_call 71;go_must(refine(un HF _ (un H).b).mono ?_;rintro e W ⟨rfl,hb⟩;have H2:=zAb ((un H).later hb);clear hb H))
  | (refine zAn 30 15 zEd rfl (.tmp 3) (.tmp 9) rfl W.heap.size z15 u rfl (un HZ) rfl rfl (zAc.new _ _ _) (un H1) ?_))
 have hb1:Below W.heap.size W ((W.alloc (.cells z15 30)).setRow W.heap.size u):=below_setRow (zBx _ _) (Nat.le_refl _) _;have HX:Hid (zAc ((W.alloc (.cells z15 30)).setRow W.heap.size u) W.heap.size 30 u):=(zAc.new _ _ _).setRow _;have H3:=zAb ((un H2).later hb1);clear hb1 H2 HF;generalize (W.alloc (.cells z15 30)).setRow W.heap.size u=U at *
 generalize W.heap.size=g3 at *
 go_upto_region 3 with (first
  | (go_at_call 196;go_must(refine(zCt 1 0 _).mono ?_;rintro e W2 ⟨rfl,hb⟩;have H4:=zAb ((un H3).later hb);have HX4:=zAb ((un HX).later hb);clear hb H3 HX))
  | (refine zAn 155 14 zBa rfl (.tmp 5) (.tmp 11) rfl W2.heap.size z14 (aN 1 1 0 0 1 0 0 0 0 0 0 0 0 0) rfl rfl rfl rfl (zAc.new _ _ _) (by kernel_rfl) ?_))
 have hb1:Below W2.heap.size W2 ((W2.alloc (.cells z14 155)).setRow W2.heap.size (aN 1 1 0 0 1 0 0 0 0 0 0 0 0 0)):=below_setRow (zBx _ _) (Nat.le_refl _) _;have HY:Hid (zAc ((W2.alloc (.cells z14 155)).setRow W2.heap.size (aN 1 1 0 0 1 0 0 0 0 0 0 0 0 0)) W2.heap.size 155 (aN 1 1 0 0 1 0 0 0 0 0 0 0 0 0)):=(zAc.new _ _ _).setRow _;have H5:=zAb ((un H4).later hb1);have HX5:=zAb ((un HX4).later hb1);have HN:Hid (¬w.heap.size=W2.heap.size):=(by have:=(un H4).o.lt;show ¬_;omega);have HL:Hid (w.heap.size≤W2.heap.size):=(un H4).b.size;clear H4 HX4 hb1;generalize (W2.alloc (.cells z14 155)).setRow W2.heap.size (aN 1 1 0 0 1 0 0 0 0 0 0 0 0 0)=U5 at *
 generalize W2.heap.size=g5 at *
 have HMD:Hid (U5.rangeAt g3 2 [I (D 0),I (D 1),I (D 2),I (D 3),I (D 4),I (D 5),I (D 6),I (D 7)]):=(un HX5).mid _ _ (un HU)
 go_upto_region 4 with (first
  | (refine wpList_load_mid rfl 26 (.tmp 12) rfl g3 2 rfl [I (D 0),I (D 1),I (D 2),I (D 3),I (D 4),I (D 5),I (D 6),I (D 7)] _ (un HMD) Tryz.underlying26 rfl zCw ?_)
  | (refine wpList_store_mid rfl 26 (.tmp 14) (.tmp 13) rfl g5 6 #[I (D 0),I (D 1),I (D 2),I (D 3),I (D 4),I (D 5),I (D 6),I (D 7)] rfl rfl ((un HY).there 6 8 (by show 6+8≤14;omega)) zCw (by kernel_rfl) ?_))
 have HY6:Hid (zAc (U5.setCells g5 6 [I (D 0),I (D 1),I (D 2),I (D 3),I (D 4),I (D 5),I (D 6),I (D 7)]) g5 155 #[I 1,I 1,I 0,I 0,I 1,I 0,I (D 0),I (D 1),I (D 2),I (D 3),I (D 4),I (D 5),I (D 6),I (D 7)]):=by rw[←un HE];exact zAc.setCells _ _ _ _ (un HY)
 have H6:Hid (RN w (U5.setCells g5 6 [I (D 0),I (D 1),I (D 2),I (D 3),I (D 4),I (D 5),I (D 6),I (D 7)])):=⟨zAc.otherCells (un HN) _ _ _ (un H5).o,zCb (un HL) _ _ _ (un H5).b⟩;clear HY H5 HX5 HMD;generalize U5.setCells g5 6 [I (D 0),I (D 1),I (D 2),I (D 3),I (D 4),I (D 5),I (D 6),I (D 7)]=U6 at *
 go_wp2_with (first
  | (refine wpList_load_row rfl 155 (.tmp 5) rfl g5 rfl 155 #[I 1,I 1,I 0,I 0,I 1,I 0,I (D 0),I (D 1),I (D 2),I (D 3),I (D 4),I (D 5),I (D 6),I (D 7)] (0,0) _ (un HY6) Tryz.underlying155 rfl (by kernel_rfl) ?_)
  | (refine zAn 155 14 zBa rfl (.tmp 2) (.tmp 15) rfl w.heap.size z14 #[I 1,I 1,I 0,I 0,I 1,I 0,I (D 0),I (D 1),I (D 2),I (D 3),I (D 4),I (D 5),I (D 6),I (D 7)] rfl rfl rfl rfl (un H6).o (by kernel_rfl) ?_))
 exact bodyPost_ret (v:=.agg #[I 1,I 1,I 0,I 0,I 1,I 0,I (D 0),I (D 1),I (D 2),I (D 3),I (D 4),I (D 5),I (D 6),I (D 7)]) (zCf Tryz.results200 _ _ w.heap.size _ rfl rfl ((un H6).o.setRow _)) rfl ⟨rfl,below_setRow (un H6).b (Nat.le_refl _) _⟩
theorem der_joule (w:World) (htab:Tab w):Calls Tryz.prog 200 #[G #[106,111,117,108,101]] w fun r w'=>r=.returned (.agg (aN 1 1 0 0 1 0 2 1 (-2) 0 0 0 0 0))∧Bw w w' :=
 derived _ (ruT 2) (nt8 [2,1,-2,0,0,0,0,0]) w (zHe 2) (zHf 2) (fun j v h=>by
  have key:∀j:Nat,j<8→(ruT 2)[2+j]?=([I 2,I 1,I (-2),I 0,I 0,I 0,I 0,I 0]:List Value)[j]?:=fun j hj=>by rcases Dm.eight (Nat.le_of_lt hj)with rfl|rfl|rfl|rfl|rfl|rfl|rfl|rfl|rfl<;>first|omega|kernel_rfl
  rw[key j (List.getElem?_eq_some_iff.1 h).1];exact h) (fun W hb=>zGg _ 2 (by decide) (Or.inl ⟨2,by decide,rfl,by decide +kernel,by decide +kernel⟩) W (htab.later hb))
theorem der_coulomb (w:World) (htab:Tab w):Calls Tryz.prog 200 #[G #[99,111,117,108,111,109,98]] w fun r w'=>r=.returned (.agg (aN 1 1 0 0 1 0 0 0 1 1 0 0 0 0))∧Bw w w' :=
 derived _ (ruT 4) (nt8 [0,0,1,1,0,0,0,0]) w (zHe 4) (zHf 4) (fun j v h=>by
  have key:∀j:Nat,j<8→(ruT 4)[2+j]?=([I 0,I 0,I 1,I 1,I 0,I 0,I 0,I 0]:List Value)[j]?:=fun j hj=>by rcases Dm.eight (Nat.le_of_lt hj)with rfl|rfl|rfl|rfl|rfl|rfl|rfl|rfl|rfl<;>first|omega|kernel_rfl
  rw[key j (List.getElem?_eq_some_iff.1 h).1];exact h) (fun W hb=>zGg _ 4 (by decide) (Or.inl ⟨4,by decide,rfl,by decide +kernel,by decide +kernel⟩) W (htab.later hb))
theorem der_newton (w:World) (htab:Tab w):Calls Tryz.prog 200 #[G #[110,101,119,116,111,110]] w fun r w'=>r=.returned (.agg (aN 1 1 0 0 1 0 1 1 (-2) 0 0 0 0 0))∧Bw w w' :=
 derived _ (ruT 0) (nt8 [1,1,-2,0,0,0,0,0]) w (zHe 0) (zHf 0) (fun j v h=>by
  have key:∀j:Nat,j<8→(ruT 0)[2+j]?=([I 1,I 1,I (-2),I 0,I 0,I 0,I 0,I 0]:List Value)[j]?:=fun j hj=>by rcases Dm.eight (Nat.le_of_lt hj)with rfl|rfl|rfl|rfl|rfl|rfl|rfl|rfl|rfl<;>first|omega|kernel_rfl
  rw[key j (List.getElem?_eq_some_iff.1 h).1];exact h) (fun W hb=>zGg _ 0 (by decide) (Or.inl ⟨0,by decide,rfl,by decide +kernel,by decide +kernel⟩) W (htab.later hb))
theorem zFp (w:World) (htab:Tab w):Calls Tryz.prog 127 #[] w fun r w'=>r=.returned (.agg (aN 602214076 1 15 0 1 0 0 0 0 0 0 (-1) 0 0))∧Bw w w':=by
 obtain⟨V,hV⟩:∃V,V=w.alloc (.cells z14 155):=⟨_,rfl⟩;have H:Hid (RN w V):=by rw[hV];exact RN.new w
 have HTA:Hid (∀W,Below w.heap.size w W→Tab W):=fun W h=>htab.later h
 have HV:=zAb hV;clear hV htab;go_enter Tryz.func127,Tryz.ntmps127
 go_upto_region 1 with fail
 rw[←un HV];clear HV
 go_wp2_with fail
 refine(zCt 602214076 15 _).mono ?_;rintro e W ⟨rfl,hb⟩;have H1:=zAb ((un H).later hb);clear H hb;have H:=H1;clear H1
 go_wp2_with fail
 refine(one5 _).mono ?_;rintro e W ⟨rfl,hb⟩;have H1:=zAb ((un H).later hb);clear H hb;have H:=H1;clear H1
 go_wp2_with fail
 refine(byN 602214076 1 15 0 1 0 0 0 0 0 0 0 0 0 1 1 0 0 1 0 0 0 0 0 0 1 0 0 602214076 1 15 0 1 0 0 0 0 0 0 (-1) 0 0 _ (by decide +kernel) (by decide +kernel)).mono ?_;rintro e W ⟨rfl,hb⟩;have H1:=zAb ((un H).later hb);clear H hb;have H:=H1;clear H1
 go_wp2_with (refine zAn 155 14 zBa rfl (.tmp 0) (.tmp 3) rfl w.heap.size z14 (aN 602214076 1 15 0 1 0 0 0 0 0 0 (-1) 0 0) rfl rfl rfl rfl (un H).o (by kernel_rfl) ?_)
 exact bodyPost_ret (v:=.agg (aN 602214076 1 15 0 1 0 0 0 0 0 0 (-1) 0 0)) (zCf Tryz.results127 _ _ w.heap.size _ rfl rfl ((un H).o.setRow _)) rfl ⟨rfl,below_setRow (un H).b (Nat.le_refl _) _⟩
theorem zGp (w:World) (htab:Tab w):Calls Tryz.prog 128 #[] w fun r w'=>r=.returned (.agg (aN 1380649 1 (-29) 0 1 0 2 1 (-2) 0 (-1) 0 0 0))∧Bw w w':=by
 obtain⟨V,hV⟩:∃V,V=w.alloc (.cells z14 155):=⟨_,rfl⟩;have H:Hid (RN w V):=by rw[hV];exact RN.new w
 have HTA:Hid (∀W,Below w.heap.size w W→Tab W):=fun W h=>htab.later h
 have HV:=zAb hV;clear hV htab;go_enter Tryz.func128,Tryz.ntmps128
 go_upto_region 1 with fail
 rw[←un HV];clear HV
 go_wp2_with fail
 refine(zCt 1380649 (-29) _).mono ?_;rintro e W ⟨rfl,hb⟩;have H1:=zAb ((un H).later hb);clear H hb;have H:=H1;clear H1
 go_wp2_with fail
 refine(der_joule _ (un HTA _ (un H).b)).mono ?_;rintro e W ⟨rfl,hb⟩;have H1:=zAb ((un H).later hb);clear H hb;have H:=H1;clear H1
 go_wp2_with fail
 refine(zEj 1380649 1 (-29) 0 1 0 0 0 0 0 0 0 0 0 1 1 0 0 1 0 2 1 (-2) 0 0 0 0 0 1380649 1 (-29) 0 1 0 2 1 (-2) 0 0 0 0 0 _ (by decide +kernel)).mono ?_;rintro e W ⟨rfl,hb⟩;have H1:=zAb ((un H).later hb);clear H hb;have H:=H1;clear H1
 go_wp2_with fail
 refine(one4 _).mono ?_;rintro e W ⟨rfl,hb⟩;have H1:=zAb ((un H).later hb);clear H hb;have H:=H1;clear H1
 go_wp2_with fail
 refine(byN 1380649 1 (-29) 0 1 0 2 1 (-2) 0 0 0 0 0 1 1 0 0 1 0 0 0 0 0 1 0 0 0 1380649 1 (-29) 0 1 0 2 1 (-2) 0 (-1) 0 0 0 _ (by decide +kernel) (by decide +kernel)).mono ?_;rintro e W ⟨rfl,hb⟩;have H1:=zAb ((un H).later hb);clear H hb;have H:=H1;clear H1
 go_wp2_with (refine zAn 155 14 zBa rfl (.tmp 0) (.tmp 5) rfl w.heap.size z14 (aN 1380649 1 (-29) 0 1 0 2 1 (-2) 0 (-1) 0 0 0) rfl rfl rfl rfl (un H).o (by kernel_rfl) ?_)
 exact bodyPost_ret (v:=.agg (aN 1380649 1 (-29) 0 1 0 2 1 (-2) 0 (-1) 0 0 0)) (zCf Tryz.results128 _ _ w.heap.size _ rfl rfl ((un H).o.setRow _)) rfl ⟨rfl,below_setRow (un H).b (Nat.le_refl _) _⟩
theorem zFk (w:World) (htab:Tab w):Calls Tryz.prog 130 #[] w fun r w'=>r=.returned (.agg (aN 1602176634 1 (-28) 0 1 0 0 0 1 1 0 0 0 0))∧Bw w w':=by
 obtain⟨V,hV⟩:∃V,V=w.alloc (.cells z14 155):=⟨_,rfl⟩;have H:Hid (RN w V):=by rw[hV];exact RN.new w
 have HTA:Hid (∀W,Below w.heap.size w W→Tab W):=fun W h=>htab.later h
 have HV:=zAb hV;clear hV htab;go_enter Tryz.func130,Tryz.ntmps130
 go_upto_region 1 with fail
 rw[←un HV];clear HV
 go_wp2_with fail
 refine(zCt 1602176634 (-28) _).mono ?_;rintro e W ⟨rfl,hb⟩;have H1:=zAb ((un H).later hb);clear H hb;have H:=H1;clear H1
 go_wp2_with fail
 refine(der_coulomb _ (un HTA _ (un H).b)).mono ?_;rintro e W ⟨rfl,hb⟩;have H1:=zAb ((un H).later hb);clear H hb;have H:=H1;clear H1
 go_wp2_with fail
 refine(zEj 1602176634 1 (-28) 0 1 0 0 0 0 0 0 0 0 0 1 1 0 0 1 0 0 0 1 1 0 0 0 0 1602176634 1 (-28) 0 1 0 0 0 1 1 0 0 0 0 _ (by decide +kernel)).mono ?_;rintro e W ⟨rfl,hb⟩;have H1:=zAb ((un H).later hb);clear H hb;have H:=H1;clear H1
 go_wp2_with (refine zAn 155 14 zBa rfl (.tmp 0) (.tmp 3) rfl w.heap.size z14 (aN 1602176634 1 (-28) 0 1 0 0 0 1 1 0 0 0 0) rfl rfl rfl rfl (un H).o (by kernel_rfl) ?_)
 exact bodyPost_ret (v:=.agg (aN 1602176634 1 (-28) 0 1 0 0 0 1 1 0 0 0 0)) (zCf Tryz.results130 _ _ w.heap.size _ rfl rfl ((un H).o.setRow _)) rfl ⟨rfl,below_setRow (un H).b (Nat.le_refl _) _⟩
theorem gas_made (w:World) (htab:Tab w):Calls Tryz.prog 129 #[] w fun r w'=>r=.returned (.agg (aN 831446261815324 1 (-14) 0 1 15 2 1 (-2) 0 (-1) (-1) 0 0))∧Bw w w':=by
 obtain⟨V,hV⟩:∃V,V=w.alloc (.cells z14 155):=⟨_,rfl⟩;have H:Hid (RN w V):=by rw[hV];exact RN.new w
 have HTA:Hid (∀W,Below w.heap.size w W→Tab W):=fun W h=>htab.later h
 have HV:=zAb hV;clear hV htab;go_enter Tryz.func129,Tryz.ntmps129
 go_upto_region 1 with fail
 rw[←un HV];clear HV
 go_wp2_with fail
 refine(zGp _ (un HTA _ (un H).b)).mono ?_;rintro e W ⟨rfl,hb⟩;have H1:=zAb ((un H).later hb);clear H hb;have H:=H1;clear H1
 go_wp2_with fail
 refine(zFp _ (un HTA _ (un H).b)).mono ?_;rintro e W ⟨rfl,hb⟩;have H1:=zAb ((un H).later hb);clear H hb;have H:=H1;clear H1
 go_wp2_with fail
 refine(zEj 1380649 1 (-29) 0 1 0 2 1 (-2) 0 (-1) 0 0 0 602214076 1 15 0 1 0 0 0 0 0 0 (-1) 0 0 831446261815324 1 (-14) 0 1 15 2 1 (-2) 0 (-1) (-1) 0 0 _ (by decide +kernel)).mono ?_;rintro e W ⟨rfl,hb⟩;have H1:=zAb ((un H).later hb);clear H hb;have H:=H1;clear H1
 go_wp2_with (refine zAn 155 14 zBa rfl (.tmp 0) (.tmp 3) rfl w.heap.size z14 (aN 831446261815324 1 (-14) 0 1 15 2 1 (-2) 0 (-1) (-1) 0 0) rfl rfl rfl rfl (un H).o (by kernel_rfl) ?_)
 exact bodyPost_ret (v:=.agg (aN 831446261815324 1 (-14) 0 1 15 2 1 (-2) 0 (-1) (-1) 0 0)) (zCf Tryz.results129 _ _ w.heap.size _ rfl rfl ((un H).o.setRow _)) rfl ⟨rfl,below_setRow (un H).b (Nat.le_refl _) _⟩
theorem faraday_made (w:World) (htab:Tab w):Calls Tryz.prog 131 #[] w fun r w'=>r=.returned (.agg (aN 964853321233100184 1 (-13) 0 1 15 0 0 1 1 0 (-1) 0 0))∧Bw w w':=by
 obtain⟨V,hV⟩:∃V,V=w.alloc (.cells z14 155):=⟨_,rfl⟩;have H:Hid (RN w V):=by rw[hV];exact RN.new w
 have HTA:Hid (∀W,Below w.heap.size w W→Tab W):=fun W h=>htab.later h
 have HV:=zAb hV;clear hV htab;go_enter Tryz.func131,Tryz.ntmps131
 go_upto_region 1 with fail
 rw[←un HV];clear HV
 go_wp2_with fail
 refine(zFk _ (un HTA _ (un H).b)).mono ?_;rintro e W ⟨rfl,hb⟩;have H1:=zAb ((un H).later hb);clear H hb;have H:=H1;clear H1
 go_wp2_with fail
 refine(zFp _ (un HTA _ (un H).b)).mono ?_;rintro e W ⟨rfl,hb⟩;have H1:=zAb ((un H).later hb);clear H hb;have H:=H1;clear H1
 go_wp2_with fail
 refine(zEj 1602176634 1 (-28) 0 1 0 0 0 1 1 0 0 0 0 602214076 1 15 0 1 0 0 0 0 0 0 (-1) 0 0 964853321233100184 1 (-13) 0 1 15 0 0 1 1 0 (-1) 0 0 _ (by decide +kernel)).mono ?_;rintro e W ⟨rfl,hb⟩;have H1:=zAb ((un H).later hb);clear H hb;have H:=H1;clear H1
 go_wp2_with (refine zAn 155 14 zBa rfl (.tmp 0) (.tmp 3) rfl w.heap.size z14 (aN 964853321233100184 1 (-13) 0 1 15 0 0 1 1 0 (-1) 0 0) rfl rfl rfl rfl (un H).o (by kernel_rfl) ?_)
 exact bodyPost_ret (v:=.agg (aN 964853321233100184 1 (-13) 0 1 15 0 0 1 1 0 (-1) 0 0)) (zCf Tryz.results131 _ _ w.heap.size _ rfl rfl ((un H).o.setRow _)) rfl ⟨rfl,below_setRow (un H).b (Nat.le_refl _) _⟩
theorem electron_made (w:World) (htab:Tab w):Calls Tryz.prog 132 #[] w fun r w'=>r=.returned (.agg (aN 91093837015 1 (-41) 28 1 (-41) 0 1 0 0 0 0 0 0))∧Bw w w':=by
 obtain⟨V,hV⟩:∃V,V=w.alloc (.cells z14 155):=⟨_,rfl⟩;have H:Hid (RN w V):=by rw[hV];exact RN.new w
 have HTA:Hid (∀W,Below w.heap.size w W→Tab W):=fun W h=>htab.later h
 have HV:=zAb hV;clear hV htab;go_enter Tryz.func132,Tryz.ntmps132
 go_upto_region 1 with fail
 rw[←un HV];clear HV
 go_wp2_with fail
 refine(measured 91093837015 1 (-41) 28 1 (-41) _).mono ?_;rintro e W ⟨rfl,hb⟩;have H1:=zAb ((un H).later hb);clear H hb;have H:=H1;clear H1
 go_wp2_with fail
 refine(one1 _).mono ?_;rintro e W ⟨rfl,hb⟩;have H1:=zAb ((un H).later hb);clear H hb;have H:=H1;clear H1
 go_wp2_with fail
 refine(zEj 91093837015 1 (-41) 28 1 (-41) 0 0 0 0 0 0 0 0 1 1 0 0 1 0 0 1 0 0 0 0 0 0 91093837015 1 (-41) 28 1 (-41) 0 1 0 0 0 0 0 0 _ (by decide +kernel)).mono ?_;rintro e W ⟨rfl,hb⟩;have H1:=zAb ((un H).later hb);clear H hb;have H:=H1;clear H1
 go_wp2_with (refine zAn 155 14 zBa rfl (.tmp 0) (.tmp 5) rfl w.heap.size z14 (aN 91093837015 1 (-41) 28 1 (-41) 0 1 0 0 0 0 0 0) rfl rfl rfl rfl (un H).o (by kernel_rfl) ?_)
 exact bodyPost_ret (v:=.agg (aN 91093837015 1 (-41) 28 1 (-41) 0 1 0 0 0 0 0 0)) (zCf Tryz.results132 _ _ w.heap.size _ rfl rfl ((un H).o.setRow _)) rfl ⟨rfl,below_setRow (un H).b (Nat.le_refl _) _⟩
theorem proton_made (w:World) (htab:Tab w):Calls Tryz.prog 139 #[] w fun r w'=>r=.returned (.agg (aN 167262192369 1 (-38) 51 1 (-38) 0 1 0 0 0 0 0 0))∧Bw w w':=by
 obtain⟨V,hV⟩:∃V,V=w.alloc (.cells z14 155):=⟨_,rfl⟩;have H:Hid (RN w V):=by rw[hV];exact RN.new w
 have HTA:Hid (∀W,Below w.heap.size w W→Tab W):=fun W h=>htab.later h
 have HV:=zAb hV;clear hV htab;go_enter Tryz.func139,Tryz.ntmps139
 go_upto_region 1 with fail
 rw[←un HV];clear HV
 go_wp2_with fail
 refine(measured 167262192369 1 (-38) 51 1 (-38) _).mono ?_;rintro e W ⟨rfl,hb⟩;have H1:=zAb ((un H).later hb);clear H hb;have H:=H1;clear H1
 go_wp2_with fail
 refine(one1 _).mono ?_;rintro e W ⟨rfl,hb⟩;have H1:=zAb ((un H).later hb);clear H hb;have H:=H1;clear H1
 go_wp2_with fail
 refine(zEj 167262192369 1 (-38) 51 1 (-38) 0 0 0 0 0 0 0 0 1 1 0 0 1 0 0 1 0 0 0 0 0 0 167262192369 1 (-38) 51 1 (-38) 0 1 0 0 0 0 0 0 _ (by decide +kernel)).mono ?_;rintro e W ⟨rfl,hb⟩;have H1:=zAb ((un H).later hb);clear H hb;have H:=H1;clear H1
 go_wp2_with (refine zAn 155 14 zBa rfl (.tmp 0) (.tmp 5) rfl w.heap.size z14 (aN 167262192369 1 (-38) 51 1 (-38) 0 1 0 0 0 0 0 0) rfl rfl rfl rfl (un H).o (by kernel_rfl) ?_)
 exact bodyPost_ret (v:=.agg (aN 167262192369 1 (-38) 51 1 (-38) 0 1 0 0 0 0 0 0)) (zCf Tryz.results139 _ _ w.heap.size _ rfl rfl ((un H).o.setRow _)) rfl ⟨rfl,below_setRow (un H).b (Nat.le_refl _) _⟩
theorem gravity_made (w:World) (htab:Tab w):Calls Tryz.prog 134 #[] w fun r w'=>r=.returned (.agg (aN 980665 1 (-5) 0 1 0 1 0 (-2) 0 0 0 0 0))∧Bw w w':=by
 obtain⟨V,hV⟩:∃V,V=w.alloc (.cells z14 155):=⟨_,rfl⟩;have H:Hid (RN w V):=by rw[hV];exact RN.new w
 have HTA:Hid (∀W,Below w.heap.size w W→Tab W):=fun W h=>htab.later h
 have HV:=zAb hV;clear hV htab;go_enter Tryz.func134,Tryz.ntmps134
 go_upto_region 1 with fail
 rw[←un HV];clear HV
 go_wp2_with fail
 refine(zCt 980665 (-5) _).mono ?_;rintro e W ⟨rfl,hb⟩;have H1:=zAb ((un H).later hb);clear H hb;have H:=H1;clear H1
 go_wp2_with fail
 refine(der_newton _ (un HTA _ (un H).b)).mono ?_;rintro e W ⟨rfl,hb⟩;have H1:=zAb ((un H).later hb);clear H hb;have H:=H1;clear H1
 go_wp2_with fail
 refine(zEj 980665 1 (-5) 0 1 0 0 0 0 0 0 0 0 0 1 1 0 0 1 0 1 1 (-2) 0 0 0 0 0 980665 1 (-5) 0 1 0 1 1 (-2) 0 0 0 0 0 _ (by decide +kernel)).mono ?_;rintro e W ⟨rfl,hb⟩;have H1:=zAb ((un H).later hb);clear H hb;have H:=H1;clear H1
 go_wp2_with fail
 refine(one1 _).mono ?_;rintro e W ⟨rfl,hb⟩;have H1:=zAb ((un H).later hb);clear H hb;have H:=H1;clear H1
 go_wp2_with fail
 refine(byN 980665 1 (-5) 0 1 0 1 1 (-2) 0 0 0 0 0 1 1 0 0 1 0 0 1 0 0 0 0 0 0 980665 1 (-5) 0 1 0 1 0 (-2) 0 0 0 0 0 _ (by decide +kernel) (by decide +kernel)).mono ?_;rintro e W ⟨rfl,hb⟩;have H1:=zAb ((un H).later hb);clear H hb;have H:=H1;clear H1
 go_wp2_with (refine zAn 155 14 zBa rfl (.tmp 0) (.tmp 5) rfl w.heap.size z14 (aN 980665 1 (-5) 0 1 0 1 0 (-2) 0 0 0 0 0) rfl rfl rfl rfl (un H).o (by kernel_rfl) ?_)
 exact bodyPost_ret (v:=.agg (aN 980665 1 (-5) 0 1 0 1 0 (-2) 0 0 0 0 0)) (zCf Tryz.results134 _ _ w.heap.size _ rfl rfl ((un H).o.setRow _)) rfl ⟨rfl,below_setRow (un H).b (Nat.le_refl _) _⟩
theorem light_made (w:World) (htab:Tab w):Calls Tryz.prog 135 #[] w fun r w'=>r=.returned (.agg (aN 299792458 1 0 0 1 0 1 0 (-1) 0 0 0 0 0))∧Bw w w':=by
 obtain⟨V,hV⟩:∃V,V=w.alloc (.cells z14 155):=⟨_,rfl⟩;have H:Hid (RN w V):=by rw[hV];exact RN.new w
 have HTA:Hid (∀W,Below w.heap.size w W→Tab W):=fun W h=>htab.later h
 have HV:=zAb hV;clear hV htab;go_enter Tryz.func135,Tryz.ntmps135
 go_upto_region 1 with fail
 rw[←un HV];clear HV
 go_wp2_with fail
 refine(zCt 299792458 0 _).mono ?_;rintro e W ⟨rfl,hb⟩;have H1:=zAb ((un H).later hb);clear H hb;have H:=H1;clear H1
 go_wp2_with fail
 refine(one0 _).mono ?_;rintro e W ⟨rfl,hb⟩;have H1:=zAb ((un H).later hb);clear H hb;have H:=H1;clear H1
 go_wp2_with fail
 refine(zEj 299792458 1 0 0 1 0 0 0 0 0 0 0 0 0 1 1 0 0 1 0 1 0 0 0 0 0 0 0 299792458 1 0 0 1 0 1 0 0 0 0 0 0 0 _ (by decide +kernel)).mono ?_;rintro e W ⟨rfl,hb⟩;have H1:=zAb ((un H).later hb);clear H hb;have H:=H1;clear H1
 go_wp2_with fail
 refine(one2 _).mono ?_;rintro e W ⟨rfl,hb⟩;have H1:=zAb ((un H).later hb);clear H hb;have H:=H1;clear H1
 go_wp2_with fail
 refine(byN 299792458 1 0 0 1 0 1 0 0 0 0 0 0 0 1 1 0 0 1 0 0 0 1 0 0 0 0 0 299792458 1 0 0 1 0 1 0 (-1) 0 0 0 0 0 _ (by decide +kernel) (by decide +kernel)).mono ?_;rintro e W ⟨rfl,hb⟩;have H1:=zAb ((un H).later hb);clear H hb;have H:=H1;clear H1
 go_wp2_with (refine zAn 155 14 zBa rfl (.tmp 0) (.tmp 5) rfl w.heap.size z14 (aN 299792458 1 0 0 1 0 1 0 (-1) 0 0 0 0 0) rfl rfl rfl rfl (un H).o (by kernel_rfl) ?_)
 exact bodyPost_ret (v:=.agg (aN 299792458 1 0 0 1 0 1 0 (-1) 0 0 0 0 0)) (zCf Tryz.results135 _ _ w.heap.size _ rfl rfl ((un H).o.setRow _)) rfl ⟨rfl,below_setRow (un H).b (Nat.le_refl _) _⟩
theorem zGr (w:World) (htab:Tab w):Calls Tryz.prog 136 #[] w fun r w'=>r=.returned (.agg (aN 662607015 1 (-42) 0 1 0 2 1 (-1) 0 0 0 0 0))∧Bw w w':=by
 obtain⟨V,hV⟩:∃V,V=w.alloc (.cells z14 155):=⟨_,rfl⟩;have H:Hid (RN w V):=by rw[hV];exact RN.new w
 have HTA:Hid (∀W,Below w.heap.size w W→Tab W):=fun W h=>htab.later h
 have HV:=zAb hV;clear hV htab;go_enter Tryz.func136,Tryz.ntmps136
 go_upto_region 1 with fail
 rw[←un HV];clear HV
 go_wp2_with fail
 refine(zCt 662607015 (-42) _).mono ?_;rintro e W ⟨rfl,hb⟩;have H1:=zAb ((un H).later hb);clear H hb;have H:=H1;clear H1
 go_wp2_with fail
 refine(der_joule _ (un HTA _ (un H).b)).mono ?_;rintro e W ⟨rfl,hb⟩;have H1:=zAb ((un H).later hb);clear H hb;have H:=H1;clear H1
 go_wp2_with fail
 refine(zEj 662607015 1 (-42) 0 1 0 0 0 0 0 0 0 0 0 1 1 0 0 1 0 2 1 (-2) 0 0 0 0 0 662607015 1 (-42) 0 1 0 2 1 (-2) 0 0 0 0 0 _ (by decide +kernel)).mono ?_;rintro e W ⟨rfl,hb⟩;have H1:=zAb ((un H).later hb);clear H hb;have H:=H1;clear H1
 go_wp2_with fail
 refine(one2 _).mono ?_;rintro e W ⟨rfl,hb⟩;have H1:=zAb ((un H).later hb);clear H hb;have H:=H1;clear H1
 go_wp2_with fail
 refine(zEj 662607015 1 (-42) 0 1 0 2 1 (-2) 0 0 0 0 0 1 1 0 0 1 0 0 0 1 0 0 0 0 0 662607015 1 (-42) 0 1 0 2 1 (-1) 0 0 0 0 0 _ (by decide +kernel)).mono ?_;rintro e W ⟨rfl,hb⟩;have H1:=zAb ((un H).later hb);clear H hb;have H:=H1;clear H1
 go_wp2_with (refine zAn 155 14 zBa rfl (.tmp 0) (.tmp 5) rfl w.heap.size z14 (aN 662607015 1 (-42) 0 1 0 2 1 (-1) 0 0 0 0 0) rfl rfl rfl rfl (un H).o (by kernel_rfl) ?_)
 exact bodyPost_ret (v:=.agg (aN 662607015 1 (-42) 0 1 0 2 1 (-1) 0 0 0 0 0)) (zCf Tryz.results136 _ _ w.heap.size _ rfl rfl ((un H).o.setRow _)) rfl ⟨rfl,below_setRow (un H).b (Nat.le_refl _) _⟩
theorem josephson_made (w:World) (htab:Tab w):Calls Tryz.prog 137 #[] w fun r w'=>r=.returned (.agg (aN 3204353268 662607015 14 0 662607015 14 (-2) (-1) 2 1 0 0 0 0))∧Bw w w':=by
 obtain⟨V,hV⟩:∃V,V=w.alloc (.cells z14 155):=⟨_,rfl⟩;have H:Hid (RN w V):=by rw[hV];exact RN.new w
 have HTA:Hid (∀W,Below w.heap.size w W→Tab W):=fun W h=>htab.later h
 have HV:=zAb hV;clear hV htab;go_enter Tryz.func137,Tryz.ntmps137
 go_upto_region 1 with fail
 rw[←un HV];clear HV
 go_wp2_with fail
 refine(zCt 2 0 _).mono ?_;rintro e W ⟨rfl,hb⟩;have H1:=zAb ((un H).later hb);clear H hb;have H:=H1;clear H1
 go_wp2_with fail
 refine(zFk _ (un HTA _ (un H).b)).mono ?_;rintro e W ⟨rfl,hb⟩;have H1:=zAb ((un H).later hb);clear H hb;have H:=H1;clear H1
 go_wp2_with fail
 refine(zEj 2 1 0 0 1 0 0 0 0 0 0 0 0 0 1602176634 1 (-28) 0 1 0 0 0 1 1 0 0 0 0 3204353268 1 (-28) 0 1 (-28) 0 0 1 1 0 0 0 0 _ (by decide +kernel)).mono ?_;rintro e W ⟨rfl,hb⟩;have H1:=zAb ((un H).later hb);clear H hb;have H:=H1;clear H1
 go_wp2_with fail
 refine(zGr _ (un HTA _ (un H).b)).mono ?_;rintro e W ⟨rfl,hb⟩;have H1:=zAb ((un H).later hb);clear H hb;have H:=H1;clear H1
 go_wp2_with fail
 refine(byN 3204353268 1 (-28) 0 1 (-28) 0 0 1 1 0 0 0 0 662607015 1 (-42) 0 1 0 2 1 (-1) 0 0 0 0 0 3204353268 662607015 14 0 662607015 14 (-2) (-1) 2 1 0 0 0 0 _ (by decide +kernel) (by decide +kernel)).mono ?_;rintro e W ⟨rfl,hb⟩;have H1:=zAb ((un H).later hb);clear H hb;have H:=H1;clear H1
 go_wp2_with (refine zAn 155 14 zBa rfl (.tmp 0) (.tmp 5) rfl w.heap.size z14 (aN 3204353268 662607015 14 0 662607015 14 (-2) (-1) 2 1 0 0 0 0) rfl rfl rfl rfl (un H).o (by kernel_rfl) ?_)
 exact bodyPost_ret (v:=.agg (aN 3204353268 662607015 14 0 662607015 14 (-2) (-1) 2 1 0 0 0 0)) (zCf Tryz.results137 _ _ w.heap.size _ rfl rfl ((un H).o.setRow _)) rfl ⟨rfl,below_setRow (un H).b (Nat.le_refl _) _⟩
theorem klitzing_made (w:World) (htab:Tab w):Calls Tryz.prog 138 #[] w fun r w'=>r=.returned (.agg (aN 662607015 2566969966535569956 14 0 2566969966535569956 56 2 1 (-3) (-2) 0 0 0 0))∧Bw w w':=by
 obtain⟨V,hV⟩:∃V,V=w.alloc (.cells z14 155):=⟨_,rfl⟩;have H:Hid (RN w V):=by rw[hV];exact RN.new w
 have HTA:Hid (∀W,Below w.heap.size w W→Tab W):=fun W h=>htab.later h
 have HV:=zAb hV;clear hV htab;go_enter Tryz.func138,Tryz.ntmps138
 go_upto_region 1 with fail
 rw[←un HV];clear HV
 go_wp2_with fail
 refine(zFk _ (un HTA _ (un H).b)).mono ?_;rintro e W ⟨rfl,hb⟩;have H1:=zAb ((un H).later hb);clear H hb;have H:=H1;clear H1
 go_upto_region 2 with (refine zAn 155 14 zBa rfl (.tmp 1) (.tmp 2) rfl W.heap.size z14 (aN 1602176634 1 (-28) 0 1 0 0 0 1 1 0 0 0 0) rfl rfl rfl rfl (zAc.new _ _ _) (by kernel_rfl) ?_)
 have hb1:Below W.heap.size W ((W.alloc (.cells z14 155)).setRow W.heap.size (aN 1602176634 1 (-28) 0 1 0 0 0 1 1 0 0 0 0)):=below_setRow (zBx _ _) (Nat.le_refl _) _;have HX:Hid (zAc ((W.alloc (.cells z14 155)).setRow W.heap.size (aN 1602176634 1 (-28) 0 1 0 0 0 1 1 0 0 0 0)) W.heap.size 155 (aN 1602176634 1 (-28) 0 1 0 0 0 1 1 0 0 0 0)):=(zAc.new _ _ _).setRow _;have H1:=zAb ((un H).later hb1);have HN:Hid (¬w.heap.size=W.heap.size):=(by have:=(un H).o.lt;show ¬_;omega);clear H hb1;have H:=H1;clear H1;generalize (W.alloc (.cells z14 155)).setRow W.heap.size (aN 1602176634 1 (-28) 0 1 0 0 0 1 1 0 0 0 0)=U at *
 generalize W.heap.size=g1 at *
 have HX1:Hid (zAc U.drew g1 155 (aN 1602176634 1 (-28) 0 1 0 0 0 1 1 0 0 0 0)):=un HX;have H1:Hid (RN w U.drew):=⟨(un H).o,(un H).b.drew⟩;have HSS:Hid (∀W':World,zAc W' g1 155 (aN 1602176634 1 (-28) 0 1 0 0 0 1 1 0 0 0 0)→W'.cell? ⟨g1,0,none⟩=some (I 1602176634)∧W'.cell? ⟨g1,1,none⟩=some (I 1)∧W'.cell? ⟨g1,2,none⟩=some (I (-28))∧W'.cell? ⟨g1,3,none⟩=some (I 0)∧W'.cell? ⟨g1,4,none⟩=some (I 1)∧W'.cell? ⟨g1,5,none⟩=some (I 0)∧W'.cell? ⟨g1,6,none⟩=some (I 0)∧W'.cell? ⟨g1,7,none⟩=some (I 0)∧W'.cell? ⟨g1,8,none⟩=some (I 1)∧W'.cell? ⟨g1,9,none⟩=some (I 1)∧W'.cell? ⟨g1,10,none⟩=some (I 0)∧W'.cell? ⟨g1,11,none⟩=some (I 0)∧W'.cell? ⟨g1,12,none⟩=some (I 0)∧W'.cell? ⟨g1,13,none⟩=some (I 0)):=fun W' h1=>⟨h1.ub.c 0 _ rfl,h1.ub.c 1 _ rfl,h1.ub.c 2 _ rfl,h1.ub.c 3 _ rfl,h1.ub.c 4 _ rfl,h1.ub.c 5 _ rfl,h1.ub.c 6 _ rfl,h1.ub.c 7 _ rfl,h1.ub.c 8 _ rfl,h1.ub.c 9 _ rfl,h1.ub.c 10 _ rfl,h1.ub.c 11 _ rfl,h1.ub.c 12 _ rfl,h1.ub.c 13 _ rfl⟩
 have HS0:=zAb (un HSS _ (un HX1));clear HX H;have HX:=HX1;have H:=H1;clear HX1 H1;refine zAi 5 (fun _=>True) (fun W'=>W'.cell? ⟨g1,0,none⟩=some (I 1602176634)∧W'.cell? ⟨g1,1,none⟩=some (I 1)∧W'.cell? ⟨g1,2,none⟩=some (I (-28))∧W'.cell? ⟨g1,3,none⟩=some (I 0)∧W'.cell? ⟨g1,4,none⟩=some (I 1)∧W'.cell? ⟨g1,5,none⟩=some (I 0)∧W'.cell? ⟨g1,6,none⟩=some (I 0)∧W'.cell? ⟨g1,7,none⟩=some (I 0)∧W'.cell? ⟨g1,8,none⟩=some (I 1)∧W'.cell? ⟨g1,9,none⟩=some (I 1)∧W'.cell? ⟨g1,10,none⟩=some (I 0)∧W'.cell? ⟨g1,11,none⟩=some (I 0)∧W'.cell? ⟨g1,12,none⟩=some (I 0)∧W'.cell? ⟨g1,13,none⟩=some (I 0)) 6 rfl (by kernel_rfl) ?_;generalize U.drew=U1 at *
 refine wT7 1 (.agg (aN 1602176634 1 (-28) 0 1 0 0 0 1 1 0 0 0 0)) rfl (Or.inl ⟨by rfl,?_⟩) ⟨trivial,un HS0⟩ ?_
 ·intro W' hW
  go_split_ands
  go_simp
 refine wT7 3 (.agg (aN 1602176634 1 (-28) 0 1 0 0 0 1 1 0 0 0 0)) rfl (Or.inl ⟨by rfl,?_⟩) ⟨trivial,un HS0⟩ ?_
 ·intro W' hW
  go_split_ands
  go_simp
 refine wO 0 rfl rfl (fun K hK=>?_)
 go_simp
 refine(zGr _ (un HTA _ (un H).b)).mono ?_;rintro e U4 ⟨rfl,hb⟩;have HX1:=zAb ((un HX).later hb);have H1:=zAb ((un H).later hb);clear hb HX H;have HX:=HX1;have H:=H1;clear HX1 H1;refine hK _ _ ⟨trivial,un HSS _ (un HX)⟩ ?_;clear hK K;refine wO 2 rfl rfl (fun K hK=>?_)
 go_simp
 refine(byN 662607015 1 (-42) 0 1 0 2 1 (-1) 0 0 0 0 0 1602176634 1 (-28) 0 1 0 0 0 1 1 0 0 0 0 662607015 1602176634 (-14) 0 1602176634 28 2 1 (-2) (-1) 0 0 0 0 _ (by decide +kernel) (by decide +kernel)).mono ?_;rintro e U4 ⟨rfl,hb⟩;have HX1:=zAb ((un HX).later hb);have H1:=zAb ((un H).later hb);clear hb HX H;have HX:=HX1;have H:=H1;clear HX1 H1;refine hK _ _ ⟨trivial,un HSS _ (un HX)⟩ ?_;clear hK K;refine wO 4 rfl rfl (fun K hK=>?_)
 go_simp
 refine(byN 662607015 1602176634 (-14) 0 1602176634 28 2 1 (-2) (-1) 0 0 0 0 1602176634 1 (-28) 0 1 0 0 0 1 1 0 0 0 0 662607015 2566969966535569956 14 0 2566969966535569956 56 2 1 (-3) (-2) 0 0 0 0 _ (by decide +kernel) (by decide +kernel)).mono ?_;rintro e U4 ⟨rfl,hb⟩;have HX1:=zAb ((un HX).later hb);have H1:=zAb ((un H).later hb);clear hb HX H;have HX:=HX1;have H:=H1;clear HX1 H1;refine hK _ _ ⟨trivial,un HSS _ (un HX)⟩ ?_;clear hK K;have HX2:=zAb ((un HX).otherRow (us:=aN 662607015 2566969966535569956 14 0 2566969966535569956 56 2 1 (-3) (-2) 0 0 0 0) (un HN));refine wL 5 rfl rfl (fun K hK=>?_);refine wp_store_row 155 (.tmp 0) (.tmp 7) rfl w.heap.size (aN 662607015 2566969966535569956 14 0 2566969966535569956 56 2 1 (-3) (-2) 0 0 0 0) (by kernel_rfl) (by kernel_rfl) 155 _ (un H).o (by rw[zBa];rfl) rfl (by kernel_rfl) (hK _ _ (un HSS _ (un HX2)) ?_);clear hK K;refine wDn ?_
 go_wp2_with fail
 exact bodyPost_ret (v:=.agg (aN 662607015 2566969966535569956 14 0 2566969966535569956 56 2 1 (-3) (-2) 0 0 0 0)) (zCf Tryz.results138 _ _ w.heap.size _ rfl rfl ((un H).o.setRow _)) rfl ⟨rfl,below_setRow (un H).b (Nat.le_refl _) _⟩
theorem gravitation_made (w:World) (htab:Tab w):Calls Tryz.prog 133 #[] w fun r w'=>r=.returned (.agg (aN 667430 1 (-16) 15 1 (-16) 3 (-1) (-2) 0 0 0 0 0))∧Bw w w':=by
 obtain⟨V,hV⟩:∃V,V=w.alloc (.cells z14 155):=⟨_,rfl⟩;have H:Hid (RN w V):=by rw[hV];exact RN.new w
 have HTA:Hid (∀W,Below w.heap.size w W→Tab W):=fun W h=>htab.later h
 have HV:=zAb hV;clear hV htab;go_enter Tryz.func133,Tryz.ntmps133
 go_upto_region 1 with fail
 rw[←un HV];clear HV
 go_wp2_with fail
 refine(der_newton _ (un HTA _ (un H).b)).mono ?_;rintro e W ⟨rfl,hb⟩;have H1:=zAb ((un H).later hb);clear H hb;have H:=H1;clear H1
 go_wp2_with fail
 refine(one0 _).mono ?_;rintro e W ⟨rfl,hb⟩;have H1:=zAb ((un H).later hb);clear H hb;have H:=H1;clear H1
 go_wp2_with fail
 refine(zEj 1 1 0 0 1 0 1 1 (-2) 0 0 0 0 0 1 1 0 0 1 0 1 0 0 0 0 0 0 0 1 1 0 0 1 0 2 1 (-2) 0 0 0 0 0 _ (by decide +kernel)).mono ?_;rintro e W ⟨rfl,hb⟩;have H1:=zAb ((un H).later hb);clear H hb;have H:=H1;clear H1
 go_wp2_with fail
 refine(one0 _).mono ?_;rintro e W ⟨rfl,hb⟩;have H1:=zAb ((un H).later hb);clear H hb;have H:=H1;clear H1
 go_wp2_with fail
 refine(zEj 1 1 0 0 1 0 2 1 (-2) 0 0 0 0 0 1 1 0 0 1 0 1 0 0 0 0 0 0 0 1 1 0 0 1 0 3 1 (-2) 0 0 0 0 0 _ (by decide +kernel)).mono ?_;rintro e W ⟨rfl,hb⟩;have H1:=zAb ((un H).later hb);clear H hb;have H:=H1;clear H1
 go_wp2_with fail
 refine(one1 _).mono ?_;rintro e W ⟨rfl,hb⟩;have H1:=zAb ((un H).later hb);clear H hb;have H:=H1;clear H1
 go_wp2_with fail
 refine(byN 1 1 0 0 1 0 3 1 (-2) 0 0 0 0 0 1 1 0 0 1 0 0 1 0 0 0 0 0 0 1 1 0 0 1 0 3 0 (-2) 0 0 0 0 0 _ (by decide +kernel) (by decide +kernel)).mono ?_;rintro e W ⟨rfl,hb⟩;have H1:=zAb ((un H).later hb);clear H hb;have H:=H1;clear H1
 go_wp2_with fail
 refine(one1 _).mono ?_;rintro e W ⟨rfl,hb⟩;have H1:=zAb ((un H).later hb);clear H hb;have H:=H1;clear H1
 go_wp2_with fail
 refine(byN 1 1 0 0 1 0 3 0 (-2) 0 0 0 0 0 1 1 0 0 1 0 0 1 0 0 0 0 0 0 1 1 0 0 1 0 3 (-1) (-2) 0 0 0 0 0 _ (by decide +kernel) (by decide +kernel)).mono ?_;rintro e W ⟨rfl,hb⟩;have H1:=zAb ((un H).later hb);clear H hb;have H:=H1;clear H1
 go_upto_region 2 with (refine zAn 155 14 zBa rfl (.tmp 1) (.tmp 10) rfl W.heap.size z14 (aN 1 1 0 0 1 0 3 (-1) (-2) 0 0 0 0 0) rfl rfl rfl rfl (zAc.new _ _ _) (by kernel_rfl) ?_)
 have hb1:Below W.heap.size W ((W.alloc (.cells z14 155)).setRow W.heap.size (aN 1 1 0 0 1 0 3 (-1) (-2) 0 0 0 0 0)):=below_setRow (zBx _ _) (Nat.le_refl _) _;have HX:Hid (zAc ((W.alloc (.cells z14 155)).setRow W.heap.size (aN 1 1 0 0 1 0 3 (-1) (-2) 0 0 0 0 0)) W.heap.size 155 (aN 1 1 0 0 1 0 3 (-1) (-2) 0 0 0 0 0)):=(zAc.new _ _ _).setRow _;have H1:=zAb ((un H).later hb1);have HN:Hid (¬w.heap.size=W.heap.size):=(by have:=(un H).o.lt;show ¬_;omega);clear H hb1;have H:=H1;clear H1;generalize (W.alloc (.cells z14 155)).setRow W.heap.size (aN 1 1 0 0 1 0 3 (-1) (-2) 0 0 0 0 0)=U at *
 generalize W.heap.size=g1 at *
 have HX1:Hid (zAc U.drew g1 155 (aN 1 1 0 0 1 0 3 (-1) (-2) 0 0 0 0 0)):=un HX;have H1:Hid (RN w U.drew):=⟨(un H).o,(un H).b.drew⟩;have HSS:Hid (∀W':World,zAc W' g1 155 (aN 1 1 0 0 1 0 3 (-1) (-2) 0 0 0 0 0)→W'.cell? ⟨g1,0,none⟩=some (I 1)∧W'.cell? ⟨g1,1,none⟩=some (I 1)∧W'.cell? ⟨g1,2,none⟩=some (I 0)∧W'.cell? ⟨g1,3,none⟩=some (I 0)∧W'.cell? ⟨g1,4,none⟩=some (I 1)∧W'.cell? ⟨g1,5,none⟩=some (I 0)∧W'.cell? ⟨g1,6,none⟩=some (I 3)∧W'.cell? ⟨g1,7,none⟩=some (I (-1))∧W'.cell? ⟨g1,8,none⟩=some (I (-2))∧W'.cell? ⟨g1,9,none⟩=some (I 0)∧W'.cell? ⟨g1,10,none⟩=some (I 0)∧W'.cell? ⟨g1,11,none⟩=some (I 0)∧W'.cell? ⟨g1,12,none⟩=some (I 0)∧W'.cell? ⟨g1,13,none⟩=some (I 0)):=fun W' h1=>⟨h1.ub.c 0 _ rfl,h1.ub.c 1 _ rfl,h1.ub.c 2 _ rfl,h1.ub.c 3 _ rfl,h1.ub.c 4 _ rfl,h1.ub.c 5 _ rfl,h1.ub.c 6 _ rfl,h1.ub.c 7 _ rfl,h1.ub.c 8 _ rfl,h1.ub.c 9 _ rfl,h1.ub.c 10 _ rfl,h1.ub.c 11 _ rfl,h1.ub.c 12 _ rfl,h1.ub.c 13 _ rfl⟩
 have HS0:=zAb (un HSS _ (un HX1));clear HX H;have HX:=HX1;have H:=H1;clear HX1 H1;refine zAi 5 (fun _=>True) (fun W'=>W'.cell? ⟨g1,0,none⟩=some (I 1)∧W'.cell? ⟨g1,1,none⟩=some (I 1)∧W'.cell? ⟨g1,2,none⟩=some (I 0)∧W'.cell? ⟨g1,3,none⟩=some (I 0)∧W'.cell? ⟨g1,4,none⟩=some (I 1)∧W'.cell? ⟨g1,5,none⟩=some (I 0)∧W'.cell? ⟨g1,6,none⟩=some (I 3)∧W'.cell? ⟨g1,7,none⟩=some (I (-1))∧W'.cell? ⟨g1,8,none⟩=some (I (-2))∧W'.cell? ⟨g1,9,none⟩=some (I 0)∧W'.cell? ⟨g1,10,none⟩=some (I 0)∧W'.cell? ⟨g1,11,none⟩=some (I 0)∧W'.cell? ⟨g1,12,none⟩=some (I 0)∧W'.cell? ⟨g1,13,none⟩=some (I 0)) 6 rfl (by kernel_rfl) ?_;generalize U.drew=U1 at *
 refine wT7 0 (.agg (n3 667430 1 (-16))) rfl (Or.inl ⟨by rfl,?_⟩) ⟨trivial,un HS0⟩ ?_
 ·intro W' hW
  go_split_ands
  go_simp
 refine wT7 1 (.agg (n3 15 1 (-16))) rfl (Or.inl ⟨by rfl,?_⟩) ⟨trivial,un HS0⟩ ?_
 ·intro W' hW
  go_split_ands
  go_simp
 refine wT7 3 (.agg (aN 1 1 0 0 1 0 3 (-1) (-2) 0 0 0 0 0)) rfl (Or.inl ⟨by rfl,?_⟩) ⟨trivial,un HS0⟩ ?_
 ·intro W' hW
  go_split_ands
  go_simp
 refine wO 2 rfl rfl (fun K hK=>?_)
 go_simp
 refine(measured 667430 1 (-16) 15 1 (-16) _).mono ?_;rintro e U4 ⟨rfl,hb⟩;have HX1:=zAb ((un HX).later hb);have H1:=zAb ((un H).later hb);clear hb HX H;have HX:=HX1;have H:=H1;clear HX1 H1;refine hK _ _ ⟨trivial,un HSS _ (un HX)⟩ ?_;clear hK K;refine wO 4 rfl rfl (fun K hK=>?_)
 go_simp
 refine(zEj 667430 1 (-16) 15 1 (-16) 0 0 0 0 0 0 0 0 1 1 0 0 1 0 3 (-1) (-2) 0 0 0 0 0 667430 1 (-16) 15 1 (-16) 3 (-1) (-2) 0 0 0 0 0 _ (by decide +kernel)).mono ?_;rintro e U4 ⟨rfl,hb⟩;have HX1:=zAb ((un HX).later hb);have H1:=zAb ((un H).later hb);clear hb HX H;have HX:=HX1;have H:=H1;clear HX1 H1;refine hK _ _ ⟨trivial,un HSS _ (un HX)⟩ ?_;clear hK K;have HX2:=zAb ((un HX).otherRow (us:=aN 667430 1 (-16) 15 1 (-16) 3 (-1) (-2) 0 0 0 0 0) (un HN));refine wL 5 rfl rfl (fun K hK=>?_);refine wp_store_row 155 (.tmp 0) (.tmp 15) rfl w.heap.size (aN 667430 1 (-16) 15 1 (-16) 3 (-1) (-2) 0 0 0 0 0) (by kernel_rfl) (by kernel_rfl) 155 _ (un H).o (by rw[zBa];rfl) rfl (by kernel_rfl) (hK _ _ (un HSS _ (un HX2)) ?_);clear hK K;refine wDn ?_
 go_wp2_with fail
 exact bodyPost_ret (v:=.agg (aN 667430 1 (-16) 15 1 (-16) 3 (-1) (-2) 0 0 0 0 0)) (zCf Tryz.results133 _ _ w.heap.size _ rfl rfl ((un H).o.setRow _)) rfl ⟨rfl,below_setRow (un H).b (Nat.le_refl _) _⟩
end Go.Proofs.YtliadckofhblnaaGreatDoor.Nt

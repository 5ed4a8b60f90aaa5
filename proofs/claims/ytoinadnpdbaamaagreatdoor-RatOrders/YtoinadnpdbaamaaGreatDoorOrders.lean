/- RatOrders: the walk, and the law whole. -/
import Derived.Test.YtoinadnpdbaamaaGreatDoorPairs
import Derived.Test.YtoinadnpdbaamaaGreatDoorBoxes
import Derived.Test.YtoinadnpdbaamaaGreatDoorOrdPairs
namespace Go.Proofs.YtoinadnpdbaamaaGreatDoor
open Go.RowKit

/-- Both arguments in their boxes. -/
structure O2 (w W : World) (a1 a2 b1 b2 : Value) : Prop where
  a : T2 W w.heap.size a1 a2
  b : T2 W (w.heap.size + 1) b1 b2
  below : Below w.heap.size w W
  lt : w.heap.size + 1 < W.heap.size
theorem O2.later {w W V : World} {a1 a2 b1 b2 : Value} (s : O2 w W a1 a2 b1 b2) (hb : Below W.heap.size W V) : O2 w V a1 a2 b1 b2 :=
  ⟨s.a.later hb, s.b.later hb, s.below.trans (hb.mono s.below.size), Nat.lt_of_lt_of_le s.lt hb.size⟩

set_option maxRecDepth 100000 in
set_option maxHeartbeats 8000000 in
theorem law_orders (n1 d1 n2 d2 : ByteArray) (n : Int) (w : World) (htab : Tab w) (s1 : n1.size ≤ maxLen) (s2 : d1.size ≤ maxLen) (s3 : n2.size ≤ maxLen) (s4 : d2.size ≤ maxLen) :
    Calls Tryz.prog 8 #[.agg #[.string n1, .string d1], .agg #[.string n2, .string d2], .int .i64 n] w fun r w' => r = .returned (.bool true) ∧ Below w.heap.size w w' := by
  obtain ⟨ca, ea, hpa, hda⟩ := both_cmp n1 d1 n2 d2 s1 s2 s3 s4
  obtain ⟨cb, eb, hpb, hdb⟩ := both_sign n1 d1 s1 s2
  obtain ⟨s0', t0', e0', hp0, hd0⟩ := both_floor n1 d1 s1 s2
  obtain ⟨s1', t1', e1', hp1, hd1⟩ := both_round n1 d1 n s1 s2
  unfold AnsN at hpa hda hpb hdb
  unfold Ans at hp0 hd0 hp1 hd1
  have HPA := hide hpa; have HDA := hide hda; have HPB := hide hpb; have HDB := hide hdb
  have HP0 := hide hp0; have HD0 := hide hd0; have HP1 := hide hp1; have HD1 := hide hd1
  clear hpa hda hpb hdb hp0 hd0 hp1 hd1
  obtain ⟨V, hV⟩ : ∃ V, V = (w.alloc (.cells #[.string n1, .string d1] 23)).alloc (.cells #[.string n2, .string d2] 23) := ⟨_, rfl⟩
  have hbV : Below w.heap.size w V := by rw [hV]; exact ((Below.refl _ _).alloc (Nat.le_refl _) _).alloc (by simp) _
  have hsz : V.heap.size = w.heap.size + 1 + 1 := by rw [hV]; simp
  have HS : Hid (O2 w V (.string n1) (.string d1) (.string n2) (.string d2)) := ⟨by rw [hV]; exact ⟨by simp [go_sem], by simp [go_sem], by simp [go_sem], by simp [go_sem]⟩, by rw [hV]; exact ⟨by simp [go_sem], by simp [go_sem], by simp [go_sem], by simp [go_sem]⟩, hbV, by omega⟩
  have HV := hide hV
  have HTW := hide htab
  have HAW := hide (fun W (hb : Below w.heap.size w W) => awake_any W (htab.later hb))
  clear s1 s2 s3 s4 htab hbV hsz
  go_enter Tryz.func8, Tryz.ntmps8
  go_upto_region 1 with fail
  rw [← unhide HV]
  clear hV HV
  have t0 := (unhide HS).a.c0; have t1 := (unhide HS).a.c1; have t2 := (unhide HS).b.c0; have t3 := (unhide HS).b.c1
  go_upto_region 2 with (go_at_call 46; go_must (refine (unhide HPA _).mono ?_; rintro e w1 ⟨rfl, hb⟩; have HS1 := hide ((unhide HS).later hb); clear hb t0 t1 t2 t3; have t0 := (unhide HS1).a.c0; have t1 := (unhide HS1).a.c1; have t2 := (unhide HS1).b.c0; have t3 := (unhide HS1).b.c1))
  go_upto_region 3 with (go_at_call 47; go_must (refine (unhide HDA _).mono ?_; rintro e w2 ⟨rfl, hb⟩; have HS2 := hide ((unhide HS1).later hb); clear hb t0 t1 t2 t3; have t0 := (unhide HS2).a.c0; have t1 := (unhide HS2).a.c1; have t2 := (unhide HS2).b.c0; have t3 := (unhide HS2).b.c1))
  go_upto_region 5 with fail
  go_upto_region 6 with (go_at_call 48; go_must (refine (unhide HPB _).mono ?_; rintro e w3 ⟨rfl, hb⟩; have HS3 := hide ((unhide HS2).later hb); clear hb t0 t1 t2 t3; have t0 := (unhide HS3).a.c0; have t1 := (unhide HS3).a.c1; have t2 := (unhide HS3).b.c0; have t3 := (unhide HS3).b.c1))
  clear HDA
  go_upto_region 7 with (go_at_call 47; go_must (refine (unhide HDB _).mono ?_; rintro e w4 ⟨rfl, hb⟩; have HS4 := hide ((unhide HS3).later hb); clear hb t0 t1 t2 t3; have t0 := (unhide HS4).a.c0; have t1 := (unhide HS4).a.c1; have t2 := (unhide HS4).b.c0; have t3 := (unhide HS4).b.c1))
  go_upto_region 9 with fail
  go_upto_region 10 with (go_at_call 49; go_must (refine (unhide HP0 _ ((unhide HTW).later (unhide HS4).below)).mono ?_; rintro e w5 ⟨rfl, hb⟩; have HS5 := hide ((unhide HS4).later hb); clear hb t0 t1 t2 t3; have t0 := (unhide HS5).a.c0; have t1 := (unhide HS5).a.c1; have t2 := (unhide HS5).b.c0; have t3 := (unhide HS5).b.c1))
  obtain ⟨V2, hV2⟩ : ∃ V2, V2 = w5.alloc (.cells #[.string s0', .string t0'] 23) := ⟨_, rfl⟩
  have hb2 : Below w5.heap.size w5 V2 := by rw [hV2]; exact (Below.refl _ _).alloc (Nat.le_refl _) _
  have hx2 : T2 V2 w5.heap.size (.string s0') (.string t0') := by rw [hV2]; exact T2.new _ _ _
  have hlt : w.heap.size + 1 < w5.heap.size := (unhide HS5).lt
  rw [← hV2]
  have HS6 := hide ((unhide HS5).later hb2); have HX6 := hide hx2
  clear hV2 hb2 hx2 HS HS1 HS2 HS3 HS4 HS5 t0 t1 t2 t3 HP0
  generalize w5.heap.size = g at *
  have t0 := (unhide HS6).a.c0; have t1 := (unhide HS6).a.c1; have t2 := (unhide HS6).b.c0; have t3 := (unhide HS6).b.c1
  go_upto_region 11 with (go_at_call 50; go_must (refine (unhide HD0 _).mono ?_; rintro e w7 ⟨rfl, hb⟩; have HS7 := hide ((unhide HS6).later hb); have HX7 := hide ((unhide HX6).later hb); clear hb t0 t1 t2 t3))
  obtain ⟨V4, hV4⟩ : ∃ V4, V4 = w7.alloc (.cells #[.string s0', .string t0'] 23) := ⟨_, rfl⟩
  have hb4 : Below w7.heap.size w7 V4 := by rw [hV4]; exact (Below.refl _ _).alloc (Nat.le_refl _) _
  have hx4 : T2 V4 w7.heap.size (.string s0') (.string t0') := by rw [hV4]; exact T2.new _ _ _
  rw [← hV4]
  have HZ0 : Hid (R4 w V4 g w7.heap.size (.string n1) (.string d1) (.string n2) (.string d2) (.string s0') (.string t0') (.string s0') (.string t0')) := ⟨(unhide HS7).a.later hb4, (unhide HS7).b.later hb4, (unhide HX7).later hb4, hx4, ((unhide HS7).later hb4).below, hlt, (unhide HX7).lt⟩
  clear hV4 hb4 hx4 HS6 HS7 HX6 HX7 HD0
  generalize w7.heap.size = h at *
  have x0 := (unhide HZ0).x.c0; have x1 := (unhide HZ0).x.c1; have y0 := (unhide HZ0).y.c0; have y1 := (unhide HZ0).y.c1
  go_upto_region 13 with fail
  clear x0 x1 y0 y1
  have t0 := (unhide HZ0).a.c0; have t1 := (unhide HZ0).a.c1; have t2 := (unhide HZ0).b.c0; have t3 := (unhide HZ0).b.c1; have x0 := (unhide HZ0).x.c0; have x1 := (unhide HZ0).x.c1; have xf0 := (unhide HZ0).x.f0; have xf1 := (unhide HZ0).x.f1; have y0 := (unhide HZ0).y.c0; have y1 := (unhide HZ0).y.c1; have yf0 := (unhide HZ0).y.f0; have yf1 := (unhide HZ0).y.f1
  go_upto_region 14 with (go_at_call 51; go_must (refine (unhide HP1 _ ((unhide HTW).later (unhide HZ0).below)).mono ?_; rintro e wa1 ⟨rfl, hb⟩; have HA1 := hide ((unhide HZ0).later hb); clear hb t0 t1 t2 t3 x0 x1 xf0 xf1 y0 y1 yf0 yf1; have t0 := (unhide HA1).a.c0; have t1 := (unhide HA1).a.c1; have t2 := (unhide HA1).b.c0; have t3 := (unhide HA1).b.c1; have x0 := (unhide HA1).x.c0; have x1 := (unhide HA1).x.c1; have xf0 := (unhide HA1).x.f0; have xf1 := (unhide HA1).x.f1; have y0 := (unhide HA1).y.c0; have y1 := (unhide HA1).y.c1; have yf0 := (unhide HA1).y.f0; have yf1 := (unhide HA1).y.f1))
  obtain ⟨U1, hU⟩ : ∃ U, U = store2 wa1 g (.string s1') (.string t1') := ⟨_, rfl⟩
  have hU' : U1 = (wa1.setCell ⟨g, 0, none⟩ (.string s1')).setCell ⟨g, 1, none⟩ (.string t1') := hU
  have HB1 := hide ((unhide HA1).putX (.string s1') (.string t1'))
  rw [← hU] at HB1
  rw [← hU']
  clear hU hU' t0 t1 t2 t3 x0 x1 xf0 xf1 y0 y1 yf0 yf1 HP1 HA1 HZ0
  have t0 := (unhide HB1).a.c0; have t1 := (unhide HB1).a.c1; have t2 := (unhide HB1).b.c0; have t3 := (unhide HB1).b.c1; have x0 := (unhide HB1).x.c0; have x1 := (unhide HB1).x.c1; have xf0 := (unhide HB1).x.f0; have xf1 := (unhide HB1).x.f1; have y0 := (unhide HB1).y.c0; have y1 := (unhide HB1).y.c1; have yf0 := (unhide HB1).y.f0; have yf1 := (unhide HB1).y.f1
  go_upto_region 15 with (go_at_call 52; go_must (refine (unhide HD1 _).mono ?_; rintro e wc1 ⟨rfl, hb⟩; have HC1 := hide ((unhide HB1).later hb); clear hb t0 t1 t2 t3 x0 x1 xf0 xf1 y0 y1 yf0 yf1; have t0 := (unhide HC1).a.c0; have t1 := (unhide HC1).a.c1; have t2 := (unhide HC1).b.c0; have t3 := (unhide HC1).b.c1; have x0 := (unhide HC1).x.c0; have x1 := (unhide HC1).x.c1; have xf0 := (unhide HC1).x.f0; have xf1 := (unhide HC1).x.f1; have y0 := (unhide HC1).y.c0; have y1 := (unhide HC1).y.c1; have yf0 := (unhide HC1).y.f0; have yf1 := (unhide HC1).y.f1))
  obtain ⟨X1, hU⟩ : ∃ U, U = store2 wc1 h (.string s1') (.string t1') := ⟨_, rfl⟩
  have hU' : X1 = (wc1.setCell ⟨h, 0, none⟩ (.string s1')).setCell ⟨h, 1, none⟩ (.string t1') := hU
  have HZ1 := hide ((unhide HC1).putY (.string s1') (.string t1'))
  rw [← hU] at HZ1
  rw [← hU']
  clear hU hU' t0 t1 t2 t3 x0 x1 xf0 xf1 y0 y1 yf0 yf1 HD1 HC1 HB1
  have x0 := (unhide HZ1).x.c0; have x1 := (unhide HZ1).x.c1; have y0 := (unhide HZ1).y.c0; have y1 := (unhide HZ1).y.c1
  go_wp2_with (go_at_call 21; go_must (refine (unhide HAW _ (unhide HZ1).below).mono ?_; rintro e w9 ⟨rfl, hb9⟩; have HE := hide ((unhide HZ1).below.trans (hb9.mono (unhide HZ1).below.size)); clear hb9))
  go_ret
  exact ⟨by simp, unhide HE⟩
end Go.Proofs.YtoinadnpdbaamaaGreatDoor

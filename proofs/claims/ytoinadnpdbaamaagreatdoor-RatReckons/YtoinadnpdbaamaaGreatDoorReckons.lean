/- RatReckons: the walk, and the law whole. -/
import Derived.Test.YtoinadnpdbaamaaGreatDoorPwBoth
import Derived.Test.YtoinadnpdbaamaaGreatDoorLawNo
namespace Go.Proofs.YtoinadnpdbaamaaGreatDoor
open Go.RowKit

/-- Both arguments and two numbers in their boxes. -/
structure R4 (w W : World) (g h : Nat) (a1 a2 b1 b2 x1 x2 y1 y2 : Value) : Prop where
  a : T2 W w.heap.size a1 a2
  b : T2 W (w.heap.size + 1) b1 b2
  x : T2 W g x1 x2
  y : T2 W h y1 y2
  below : Below w.heap.size w W
  gx : w.heap.size + 1 < g
  hy : g < h
theorem T2.other2 {W : World} {g k : Nat} {x y : Value} (h : T2 W g x y) (hk : g ≠ k) (u v : Value) : T2 (store2 W k u v) g x y := (h.otherAt hk u).otherAt hk v
section
variable {w W V : World} {g h : Nat} {a1 a2 b1 b2 x1 x2 y1 y2 : Value}
theorem R4.later (s : R4 w W g h a1 a2 b1 b2 x1 x2 y1 y2) (hb : Below W.heap.size W V) : R4 w V g h a1 a2 b1 b2 x1 x2 y1 y2 :=
  ⟨s.a.later hb, s.b.later hb, s.x.later hb, s.y.later hb, s.below.trans (hb.mono s.below.size), s.gx, s.hy⟩
theorem R4.putX (s : R4 w W g h a1 a2 b1 b2 x1 x2 y1 y2) (u v : Value) : R4 w (store2 W g u v) g h a1 a2 b1 b2 u v y1 y2 := by
  have h1 := s.gx; have h2 := s.hy
  exact ⟨s.a.other2 (by omega) u v, s.b.other2 (by omega) u v, s.x.store u v, s.y.other2 (by omega) u v, below_store2 s.below (by omega) u v, s.gx, s.hy⟩
theorem R4.putY (s : R4 w W g h a1 a2 b1 b2 x1 x2 y1 y2) (u v : Value) : R4 w (store2 W h u v) g h a1 a2 b1 b2 x1 x2 u v := by
  have h1 := s.gx; have h2 := s.hy
  exact ⟨s.a.other2 (by omega) u v, s.b.other2 (by omega) u v, s.x.other2 (by omega) u v, s.y.store u v, below_store2 s.below (by omega) u v, s.gx, s.hy⟩
end
theorem T2.new (w : World) (a b : Value) : T2 (w.alloc (.cells #[a, b] 23)) w.heap.size a b := ⟨by simp [go_sem], by simp [go_sem], by simp [go_sem], by simp [go_sem]⟩

set_option maxRecDepth 100000 in
set_option maxHeartbeats 8000000 in
theorem law_reckons (n1 d1 n2 d2 : ByteArray) (n : Int) (w : World) (htab : Tab w) (s1 : n1.size ≤ maxLen) (s2 : d1.size ≤ maxLen) (s3 : n2.size ≤ maxLen) (s4 : d2.size ≤ maxLen) :
    Calls Tryz.prog 6 #[.agg #[.string n1, .string d1], .agg #[.string n2, .string d2], .int .i64 n] w fun r w' => r = .returned (.bool true) ∧ Below w.heap.size w w' := by
  obtain ⟨s0', t0', e0', hp0, hd0⟩ := both_add n1 d1 n2 d2 s1 s2 s3 s4
  have HP0 := hide hp0; have HD0 := hide hd0
  unfold Ans at HP0 HD0
  clear hp0 hd0
  obtain ⟨s1', t1', e1', hp1, hd1⟩ := both_sub n1 d1 n2 d2 s1 s2 s3 s4
  have HP1 := hide hp1; have HD1 := hide hd1
  unfold Ans at HP1 HD1
  clear hp1 hd1
  obtain ⟨s2', t2', e2', hp2, hd2⟩ := both_mul n1 d1 n2 d2 s1 s2 s3 s4
  have HP2 := hide hp2; have HD2 := hide hd2
  unfold Ans at HP2 HD2
  clear hp2 hd2
  obtain ⟨s3', t3', e3', hp3, hd3⟩ := both_quo n1 d1 n2 d2 s1 s2 s3 s4
  have HP3 := hide hp3; have HD3 := hide hd3
  unfold Ans at HP3 HD3
  clear hp3 hd3
  obtain ⟨s4', t4', e4', hp4, hd4⟩ := both_neg n1 d1 s1 s2
  have HP4 := hide hp4; have HD4 := hide hd4
  unfold Ans at HP4 HD4
  clear hp4 hd4
  obtain ⟨s5', t5', e5', hp5, hd5⟩ := both_inv n1 d1 s1 s2
  have HP5 := hide hp5; have HD5 := hide hd5
  unfold Ans at HP5 HD5
  clear hp5 hd5
  obtain ⟨s6', t6', e6', hp6, hd6⟩ := both_pow n1 d1 n s1 s2
  have HP6 := hide hp6; have HD6 := hide hd6
  unfold Ans at HP6 HD6
  clear hp6 hd6
  obtain ⟨V, hV⟩ : ∃ V, V = (w.alloc (.cells #[.string n1, .string d1] 23)).alloc (.cells #[.string n2, .string d2] 23) := ⟨_, rfl⟩
  have hbV : Below w.heap.size w V := by rw [hV]; exact ((Below.refl _ _).alloc (Nat.le_refl _) _).alloc (by simp) _
  have hsz : V.heap.size = w.heap.size + 1 + 1 := by rw [hV]; simp
  have HS : Hid (T2 V w.heap.size (.string n1) (.string d1) ∧ T2 V (w.heap.size + 1) (.string n2) (.string d2) ∧ Below w.heap.size w V ∧ w.heap.size + 1 < V.heap.size) := ⟨by rw [hV]; exact ⟨by simp [go_sem], by simp [go_sem], by simp [go_sem], by simp [go_sem]⟩, by rw [hV]; exact ⟨by simp [go_sem], by simp [go_sem], by simp [go_sem], by simp [go_sem]⟩, hbV, by omega⟩
  have HV := hide hV
  have HTW := hide htab
  have HAW := hide (fun W (hb : Below w.heap.size w W) => awake_any W (htab.later hb))
  clear s1 s2 s3 s4 htab hbV hsz
  go_enter Tryz.func6, Tryz.ntmps6
  go_upto_region 1 with fail
  rw [← unhide HV]
  clear hV HV
  have t0 := (unhide HS).1.c0; have t1 := (unhide HS).1.c1; have t2 := (unhide HS).2.1.c0; have t3 := (unhide HS).2.1.c1
  go_upto_region 2 with (go_at_call 28; go_must (refine (unhide HP0 _ ((unhide HTW).later (unhide HS).2.2.1)).mono ?_; rintro e w1 ⟨rfl, hb1⟩; have HS1 : Hid (T2 w1 w.heap.size (.string n1) (.string d1) ∧ T2 w1 (w.heap.size + 1) (.string n2) (.string d2) ∧ Below w.heap.size w w1 ∧ w.heap.size + 1 < w1.heap.size) := ⟨(unhide HS).1.later hb1, (unhide HS).2.1.later hb1, (unhide HS).2.2.1.trans (hb1.mono (unhide HS).2.2.1.size), Nat.lt_of_lt_of_le (unhide HS).2.2.2 hb1.size⟩; clear hb1 t0 t1 t2 t3))
  obtain ⟨V2, hV2⟩ : ∃ V2, V2 = w1.alloc (.cells #[.string s0', .string t0'] 23) := ⟨_, rfl⟩
  have hb2 : Below w1.heap.size w1 V2 := by rw [hV2]; exact (Below.refl _ _).alloc (Nat.le_refl _) _
  have hx2 : T2 V2 w1.heap.size (.string s0') (.string t0') := by rw [hV2]; exact T2.new _ _ _
  rw [← hV2]
  have HS2 : Hid (T2 V2 w.heap.size (.string n1) (.string d1) ∧ T2 V2 (w.heap.size + 1) (.string n2) (.string d2) ∧ Below w.heap.size w V2 ∧ w.heap.size + 1 < w1.heap.size ∧ T2 V2 w1.heap.size (.string s0') (.string t0')) := ⟨(unhide HS1).1.later hb2, (unhide HS1).2.1.later hb2, (unhide HS1).2.2.1.trans (hb2.mono (unhide HS1).2.2.1.size), (unhide HS1).2.2.2, hx2⟩
  clear hV2 hb2 hx2 HS HS1
  generalize w1.heap.size = g at *
  have t0 := (unhide HS2).1.c0; have t1 := (unhide HS2).1.c1; have t2 := (unhide HS2).2.1.c0; have t3 := (unhide HS2).2.1.c1
  go_upto_region 3 with (go_at_call 29; go_must (refine (unhide HD0 _).mono ?_; rintro e w3 ⟨rfl, hb3⟩; have HS3 : Hid (T2 w3 w.heap.size (.string n1) (.string d1) ∧ T2 w3 (w.heap.size + 1) (.string n2) (.string d2) ∧ Below w.heap.size w w3 ∧ w.heap.size + 1 < g ∧ T2 w3 g (.string s0') (.string t0')) := ⟨(unhide HS2).1.later hb3, (unhide HS2).2.1.later hb3, (unhide HS2).2.2.1.trans (hb3.mono (unhide HS2).2.2.1.size), (unhide HS2).2.2.2.1, (unhide HS2).2.2.2.2.later hb3⟩; clear hb3 t0 t1 t2 t3))
  obtain ⟨V4, hV4⟩ : ∃ V4, V4 = w3.alloc (.cells #[.string s0', .string t0'] 23) := ⟨_, rfl⟩
  have hb4 : Below w3.heap.size w3 V4 := by rw [hV4]; exact (Below.refl _ _).alloc (Nat.le_refl _) _
  have hx4 : T2 V4 w3.heap.size (.string s0') (.string t0') := by rw [hV4]; exact T2.new _ _ _
  rw [← hV4]
  have HZ0 : Hid (R4 w V4 g w3.heap.size (.string n1) (.string d1) (.string n2) (.string d2) (.string s0') (.string t0') (.string s0') (.string t0')) := ⟨(unhide HS3).1.later hb4, (unhide HS3).2.1.later hb4, (unhide HS3).2.2.2.2.later hb4, hx4, (unhide HS3).2.2.1.trans (hb4.mono (unhide HS3).2.2.1.size), (unhide HS3).2.2.2.1, (unhide HS3).2.2.2.2.lt⟩
  clear hV4 hb4 hx4 HS2 HS3 HP0 HD0
  generalize w3.heap.size = h at *
  have x0 := (unhide HZ0).x.c0; have x1 := (unhide HZ0).x.c1; have y0 := (unhide HZ0).y.c0; have y1 := (unhide HZ0).y.c1
  go_upto_region 5 with fail
  clear x0 x1 y0 y1
  have t0 := (unhide HZ0).a.c0; have t1 := (unhide HZ0).a.c1; have t2 := (unhide HZ0).b.c0; have t3 := (unhide HZ0).b.c1; have x0 := (unhide HZ0).x.c0; have x1 := (unhide HZ0).x.c1; have xf0 := (unhide HZ0).x.f0; have xf1 := (unhide HZ0).x.f1; have y0 := (unhide HZ0).y.c0; have y1 := (unhide HZ0).y.c1; have yf0 := (unhide HZ0).y.f0; have yf1 := (unhide HZ0).y.f1
  go_upto_region 6 with (go_at_call 30; go_must (refine (unhide HP1 _ ((unhide HTW).later (unhide HZ0).below)).mono ?_; rintro e wa1 ⟨rfl, hb⟩; have HA1 := hide ((unhide HZ0).later hb); clear hb t0 t1 t2 t3 x0 x1 xf0 xf1 y0 y1 yf0 yf1; have t0 := (unhide HA1).a.c0; have t1 := (unhide HA1).a.c1; have t2 := (unhide HA1).b.c0; have t3 := (unhide HA1).b.c1; have x0 := (unhide HA1).x.c0; have x1 := (unhide HA1).x.c1; have xf0 := (unhide HA1).x.f0; have xf1 := (unhide HA1).x.f1; have y0 := (unhide HA1).y.c0; have y1 := (unhide HA1).y.c1; have yf0 := (unhide HA1).y.f0; have yf1 := (unhide HA1).y.f1))
  obtain ⟨U1, hU⟩ : ∃ U, U = store2 wa1 g (.string s1') (.string t1') := ⟨_, rfl⟩
  have hU' : U1 = (wa1.setCell ⟨g, 0, none⟩ (.string s1')).setCell ⟨g, 1, none⟩ (.string t1') := hU
  have HB1 := hide ((unhide HA1).putX (.string s1') (.string t1'))
  rw [← hU] at HB1
  rw [← hU']
  clear hU hU' t0 t1 t2 t3 x0 x1 xf0 xf1 y0 y1 yf0 yf1 HP1 HA1 HZ0
  have t0 := (unhide HB1).a.c0; have t1 := (unhide HB1).a.c1; have t2 := (unhide HB1).b.c0; have t3 := (unhide HB1).b.c1; have x0 := (unhide HB1).x.c0; have x1 := (unhide HB1).x.c1; have xf0 := (unhide HB1).x.f0; have xf1 := (unhide HB1).x.f1; have y0 := (unhide HB1).y.c0; have y1 := (unhide HB1).y.c1; have yf0 := (unhide HB1).y.f0; have yf1 := (unhide HB1).y.f1
  go_upto_region 7 with (go_at_call 31; go_must (refine (unhide HD1 _).mono ?_; rintro e wc1 ⟨rfl, hb⟩; have HC1 := hide ((unhide HB1).later hb); clear hb t0 t1 t2 t3 x0 x1 xf0 xf1 y0 y1 yf0 yf1; have t0 := (unhide HC1).a.c0; have t1 := (unhide HC1).a.c1; have t2 := (unhide HC1).b.c0; have t3 := (unhide HC1).b.c1; have x0 := (unhide HC1).x.c0; have x1 := (unhide HC1).x.c1; have xf0 := (unhide HC1).x.f0; have xf1 := (unhide HC1).x.f1; have y0 := (unhide HC1).y.c0; have y1 := (unhide HC1).y.c1; have yf0 := (unhide HC1).y.f0; have yf1 := (unhide HC1).y.f1))
  obtain ⟨X1, hU⟩ : ∃ U, U = store2 wc1 h (.string s1') (.string t1') := ⟨_, rfl⟩
  have hU' : X1 = (wc1.setCell ⟨h, 0, none⟩ (.string s1')).setCell ⟨h, 1, none⟩ (.string t1') := hU
  have HZ1 := hide ((unhide HC1).putY (.string s1') (.string t1'))
  rw [← hU] at HZ1
  rw [← hU']
  clear hU hU' t0 t1 t2 t3 x0 x1 xf0 xf1 y0 y1 yf0 yf1 HD1 HC1 HB1
  have x0 := (unhide HZ1).x.c0; have x1 := (unhide HZ1).x.c1; have y0 := (unhide HZ1).y.c0; have y1 := (unhide HZ1).y.c1
  go_upto_region 9 with fail
  clear x0 x1 y0 y1
  have t0 := (unhide HZ1).a.c0; have t1 := (unhide HZ1).a.c1; have t2 := (unhide HZ1).b.c0; have t3 := (unhide HZ1).b.c1; have x0 := (unhide HZ1).x.c0; have x1 := (unhide HZ1).x.c1; have xf0 := (unhide HZ1).x.f0; have xf1 := (unhide HZ1).x.f1; have y0 := (unhide HZ1).y.c0; have y1 := (unhide HZ1).y.c1; have yf0 := (unhide HZ1).y.f0; have yf1 := (unhide HZ1).y.f1
  go_upto_region 10 with (go_at_call 32; go_must (refine (unhide HP2 _ ((unhide HTW).later (unhide HZ1).below)).mono ?_; rintro e wa2 ⟨rfl, hb⟩; have HA2 := hide ((unhide HZ1).later hb); clear hb t0 t1 t2 t3 x0 x1 xf0 xf1 y0 y1 yf0 yf1; have t0 := (unhide HA2).a.c0; have t1 := (unhide HA2).a.c1; have t2 := (unhide HA2).b.c0; have t3 := (unhide HA2).b.c1; have x0 := (unhide HA2).x.c0; have x1 := (unhide HA2).x.c1; have xf0 := (unhide HA2).x.f0; have xf1 := (unhide HA2).x.f1; have y0 := (unhide HA2).y.c0; have y1 := (unhide HA2).y.c1; have yf0 := (unhide HA2).y.f0; have yf1 := (unhide HA2).y.f1))
  obtain ⟨U2, hU⟩ : ∃ U, U = store2 wa2 g (.string s2') (.string t2') := ⟨_, rfl⟩
  have hU' : U2 = (wa2.setCell ⟨g, 0, none⟩ (.string s2')).setCell ⟨g, 1, none⟩ (.string t2') := hU
  have HB2 := hide ((unhide HA2).putX (.string s2') (.string t2'))
  rw [← hU] at HB2
  rw [← hU']
  clear hU hU' t0 t1 t2 t3 x0 x1 xf0 xf1 y0 y1 yf0 yf1 HP2 HA2 HZ1
  have t0 := (unhide HB2).a.c0; have t1 := (unhide HB2).a.c1; have t2 := (unhide HB2).b.c0; have t3 := (unhide HB2).b.c1; have x0 := (unhide HB2).x.c0; have x1 := (unhide HB2).x.c1; have xf0 := (unhide HB2).x.f0; have xf1 := (unhide HB2).x.f1; have y0 := (unhide HB2).y.c0; have y1 := (unhide HB2).y.c1; have yf0 := (unhide HB2).y.f0; have yf1 := (unhide HB2).y.f1
  go_upto_region 11 with (go_at_call 33; go_must (refine (unhide HD2 _).mono ?_; rintro e wc2 ⟨rfl, hb⟩; have HC2 := hide ((unhide HB2).later hb); clear hb t0 t1 t2 t3 x0 x1 xf0 xf1 y0 y1 yf0 yf1; have t0 := (unhide HC2).a.c0; have t1 := (unhide HC2).a.c1; have t2 := (unhide HC2).b.c0; have t3 := (unhide HC2).b.c1; have x0 := (unhide HC2).x.c0; have x1 := (unhide HC2).x.c1; have xf0 := (unhide HC2).x.f0; have xf1 := (unhide HC2).x.f1; have y0 := (unhide HC2).y.c0; have y1 := (unhide HC2).y.c1; have yf0 := (unhide HC2).y.f0; have yf1 := (unhide HC2).y.f1))
  obtain ⟨X2, hU⟩ : ∃ U, U = store2 wc2 h (.string s2') (.string t2') := ⟨_, rfl⟩
  have hU' : X2 = (wc2.setCell ⟨h, 0, none⟩ (.string s2')).setCell ⟨h, 1, none⟩ (.string t2') := hU
  have HZ2 := hide ((unhide HC2).putY (.string s2') (.string t2'))
  rw [← hU] at HZ2
  rw [← hU']
  clear hU hU' t0 t1 t2 t3 x0 x1 xf0 xf1 y0 y1 yf0 yf1 HD2 HC2 HB2
  have x0 := (unhide HZ2).x.c0; have x1 := (unhide HZ2).x.c1; have y0 := (unhide HZ2).y.c0; have y1 := (unhide HZ2).y.c1
  go_upto_region 13 with fail
  clear x0 x1 y0 y1
  have t0 := (unhide HZ2).a.c0; have t1 := (unhide HZ2).a.c1; have t2 := (unhide HZ2).b.c0; have t3 := (unhide HZ2).b.c1; have x0 := (unhide HZ2).x.c0; have x1 := (unhide HZ2).x.c1; have xf0 := (unhide HZ2).x.f0; have xf1 := (unhide HZ2).x.f1; have y0 := (unhide HZ2).y.c0; have y1 := (unhide HZ2).y.c1; have yf0 := (unhide HZ2).y.f0; have yf1 := (unhide HZ2).y.f1
  go_upto_region 14 with (go_at_call 34; go_must (refine (unhide HP3 _ ((unhide HTW).later (unhide HZ2).below)).mono ?_; rintro e wa3 ⟨rfl, hb⟩; have HA3 := hide ((unhide HZ2).later hb); clear hb t0 t1 t2 t3 x0 x1 xf0 xf1 y0 y1 yf0 yf1; have t0 := (unhide HA3).a.c0; have t1 := (unhide HA3).a.c1; have t2 := (unhide HA3).b.c0; have t3 := (unhide HA3).b.c1; have x0 := (unhide HA3).x.c0; have x1 := (unhide HA3).x.c1; have xf0 := (unhide HA3).x.f0; have xf1 := (unhide HA3).x.f1; have y0 := (unhide HA3).y.c0; have y1 := (unhide HA3).y.c1; have yf0 := (unhide HA3).y.f0; have yf1 := (unhide HA3).y.f1))
  obtain ⟨U3, hU⟩ : ∃ U, U = store2 wa3 g (.string s3') (.string t3') := ⟨_, rfl⟩
  have hU' : U3 = (wa3.setCell ⟨g, 0, none⟩ (.string s3')).setCell ⟨g, 1, none⟩ (.string t3') := hU
  have HB3 := hide ((unhide HA3).putX (.string s3') (.string t3'))
  rw [← hU] at HB3
  rw [← hU']
  clear hU hU' t0 t1 t2 t3 x0 x1 xf0 xf1 y0 y1 yf0 yf1 HP3 HA3 HZ2
  have t0 := (unhide HB3).a.c0; have t1 := (unhide HB3).a.c1; have t2 := (unhide HB3).b.c0; have t3 := (unhide HB3).b.c1; have x0 := (unhide HB3).x.c0; have x1 := (unhide HB3).x.c1; have xf0 := (unhide HB3).x.f0; have xf1 := (unhide HB3).x.f1; have y0 := (unhide HB3).y.c0; have y1 := (unhide HB3).y.c1; have yf0 := (unhide HB3).y.f0; have yf1 := (unhide HB3).y.f1
  go_upto_region 15 with (go_at_call 35; go_must (refine (unhide HD3 _).mono ?_; rintro e wc3 ⟨rfl, hb⟩; have HC3 := hide ((unhide HB3).later hb); clear hb t0 t1 t2 t3 x0 x1 xf0 xf1 y0 y1 yf0 yf1; have t0 := (unhide HC3).a.c0; have t1 := (unhide HC3).a.c1; have t2 := (unhide HC3).b.c0; have t3 := (unhide HC3).b.c1; have x0 := (unhide HC3).x.c0; have x1 := (unhide HC3).x.c1; have xf0 := (unhide HC3).x.f0; have xf1 := (unhide HC3).x.f1; have y0 := (unhide HC3).y.c0; have y1 := (unhide HC3).y.c1; have yf0 := (unhide HC3).y.f0; have yf1 := (unhide HC3).y.f1))
  obtain ⟨X3, hU⟩ : ∃ U, U = store2 wc3 h (.string s3') (.string t3') := ⟨_, rfl⟩
  have hU' : X3 = (wc3.setCell ⟨h, 0, none⟩ (.string s3')).setCell ⟨h, 1, none⟩ (.string t3') := hU
  have HZ3 := hide ((unhide HC3).putY (.string s3') (.string t3'))
  rw [← hU] at HZ3
  rw [← hU']
  clear hU hU' t0 t1 t2 t3 x0 x1 xf0 xf1 y0 y1 yf0 yf1 HD3 HC3 HB3
  have x0 := (unhide HZ3).x.c0; have x1 := (unhide HZ3).x.c1; have y0 := (unhide HZ3).y.c0; have y1 := (unhide HZ3).y.c1
  go_upto_region 17 with fail
  clear x0 x1 y0 y1
  have t0 := (unhide HZ3).a.c0; have t1 := (unhide HZ3).a.c1; have t2 := (unhide HZ3).b.c0; have t3 := (unhide HZ3).b.c1; have x0 := (unhide HZ3).x.c0; have x1 := (unhide HZ3).x.c1; have xf0 := (unhide HZ3).x.f0; have xf1 := (unhide HZ3).x.f1; have y0 := (unhide HZ3).y.c0; have y1 := (unhide HZ3).y.c1; have yf0 := (unhide HZ3).y.f0; have yf1 := (unhide HZ3).y.f1
  go_upto_region 18 with (go_at_call 36; go_must (refine (unhide HP4 _ ((unhide HTW).later (unhide HZ3).below)).mono ?_; rintro e wa4 ⟨rfl, hb⟩; have HA4 := hide ((unhide HZ3).later hb); clear hb t0 t1 t2 t3 x0 x1 xf0 xf1 y0 y1 yf0 yf1; have t0 := (unhide HA4).a.c0; have t1 := (unhide HA4).a.c1; have t2 := (unhide HA4).b.c0; have t3 := (unhide HA4).b.c1; have x0 := (unhide HA4).x.c0; have x1 := (unhide HA4).x.c1; have xf0 := (unhide HA4).x.f0; have xf1 := (unhide HA4).x.f1; have y0 := (unhide HA4).y.c0; have y1 := (unhide HA4).y.c1; have yf0 := (unhide HA4).y.f0; have yf1 := (unhide HA4).y.f1))
  obtain ⟨U4, hU⟩ : ∃ U, U = store2 wa4 g (.string s4') (.string t4') := ⟨_, rfl⟩
  have hU' : U4 = (wa4.setCell ⟨g, 0, none⟩ (.string s4')).setCell ⟨g, 1, none⟩ (.string t4') := hU
  have HB4 := hide ((unhide HA4).putX (.string s4') (.string t4'))
  rw [← hU] at HB4
  rw [← hU']
  clear hU hU' t0 t1 t2 t3 x0 x1 xf0 xf1 y0 y1 yf0 yf1 HP4 HA4 HZ3
  have t0 := (unhide HB4).a.c0; have t1 := (unhide HB4).a.c1; have t2 := (unhide HB4).b.c0; have t3 := (unhide HB4).b.c1; have x0 := (unhide HB4).x.c0; have x1 := (unhide HB4).x.c1; have xf0 := (unhide HB4).x.f0; have xf1 := (unhide HB4).x.f1; have y0 := (unhide HB4).y.c0; have y1 := (unhide HB4).y.c1; have yf0 := (unhide HB4).y.f0; have yf1 := (unhide HB4).y.f1
  go_upto_region 19 with (go_at_call 37; go_must (refine (unhide HD4 _).mono ?_; rintro e wc4 ⟨rfl, hb⟩; have HC4 := hide ((unhide HB4).later hb); clear hb t0 t1 t2 t3 x0 x1 xf0 xf1 y0 y1 yf0 yf1; have t0 := (unhide HC4).a.c0; have t1 := (unhide HC4).a.c1; have t2 := (unhide HC4).b.c0; have t3 := (unhide HC4).b.c1; have x0 := (unhide HC4).x.c0; have x1 := (unhide HC4).x.c1; have xf0 := (unhide HC4).x.f0; have xf1 := (unhide HC4).x.f1; have y0 := (unhide HC4).y.c0; have y1 := (unhide HC4).y.c1; have yf0 := (unhide HC4).y.f0; have yf1 := (unhide HC4).y.f1))
  obtain ⟨X4, hU⟩ : ∃ U, U = store2 wc4 h (.string s4') (.string t4') := ⟨_, rfl⟩
  have hU' : X4 = (wc4.setCell ⟨h, 0, none⟩ (.string s4')).setCell ⟨h, 1, none⟩ (.string t4') := hU
  have HZ4 := hide ((unhide HC4).putY (.string s4') (.string t4'))
  rw [← hU] at HZ4
  rw [← hU']
  clear hU hU' t0 t1 t2 t3 x0 x1 xf0 xf1 y0 y1 yf0 yf1 HD4 HC4 HB4
  have x0 := (unhide HZ4).x.c0; have x1 := (unhide HZ4).x.c1; have y0 := (unhide HZ4).y.c0; have y1 := (unhide HZ4).y.c1
  go_upto_region 21 with fail
  clear x0 x1 y0 y1
  have t0 := (unhide HZ4).a.c0; have t1 := (unhide HZ4).a.c1; have t2 := (unhide HZ4).b.c0; have t3 := (unhide HZ4).b.c1; have x0 := (unhide HZ4).x.c0; have x1 := (unhide HZ4).x.c1; have xf0 := (unhide HZ4).x.f0; have xf1 := (unhide HZ4).x.f1; have y0 := (unhide HZ4).y.c0; have y1 := (unhide HZ4).y.c1; have yf0 := (unhide HZ4).y.f0; have yf1 := (unhide HZ4).y.f1
  go_upto_region 22 with (go_at_call 38; go_must (refine (unhide HP5 _ ((unhide HTW).later (unhide HZ4).below)).mono ?_; rintro e wa5 ⟨rfl, hb⟩; have HA5 := hide ((unhide HZ4).later hb); clear hb t0 t1 t2 t3 x0 x1 xf0 xf1 y0 y1 yf0 yf1; have t0 := (unhide HA5).a.c0; have t1 := (unhide HA5).a.c1; have t2 := (unhide HA5).b.c0; have t3 := (unhide HA5).b.c1; have x0 := (unhide HA5).x.c0; have x1 := (unhide HA5).x.c1; have xf0 := (unhide HA5).x.f0; have xf1 := (unhide HA5).x.f1; have y0 := (unhide HA5).y.c0; have y1 := (unhide HA5).y.c1; have yf0 := (unhide HA5).y.f0; have yf1 := (unhide HA5).y.f1))
  obtain ⟨U5, hU⟩ : ∃ U, U = store2 wa5 g (.string s5') (.string t5') := ⟨_, rfl⟩
  have hU' : U5 = (wa5.setCell ⟨g, 0, none⟩ (.string s5')).setCell ⟨g, 1, none⟩ (.string t5') := hU
  have HB5 := hide ((unhide HA5).putX (.string s5') (.string t5'))
  rw [← hU] at HB5
  rw [← hU']
  clear hU hU' t0 t1 t2 t3 x0 x1 xf0 xf1 y0 y1 yf0 yf1 HP5 HA5 HZ4
  have t0 := (unhide HB5).a.c0; have t1 := (unhide HB5).a.c1; have t2 := (unhide HB5).b.c0; have t3 := (unhide HB5).b.c1; have x0 := (unhide HB5).x.c0; have x1 := (unhide HB5).x.c1; have xf0 := (unhide HB5).x.f0; have xf1 := (unhide HB5).x.f1; have y0 := (unhide HB5).y.c0; have y1 := (unhide HB5).y.c1; have yf0 := (unhide HB5).y.f0; have yf1 := (unhide HB5).y.f1
  go_upto_region 23 with (go_at_call 39; go_must (refine (unhide HD5 _).mono ?_; rintro e wc5 ⟨rfl, hb⟩; have HC5 := hide ((unhide HB5).later hb); clear hb t0 t1 t2 t3 x0 x1 xf0 xf1 y0 y1 yf0 yf1; have t0 := (unhide HC5).a.c0; have t1 := (unhide HC5).a.c1; have t2 := (unhide HC5).b.c0; have t3 := (unhide HC5).b.c1; have x0 := (unhide HC5).x.c0; have x1 := (unhide HC5).x.c1; have xf0 := (unhide HC5).x.f0; have xf1 := (unhide HC5).x.f1; have y0 := (unhide HC5).y.c0; have y1 := (unhide HC5).y.c1; have yf0 := (unhide HC5).y.f0; have yf1 := (unhide HC5).y.f1))
  obtain ⟨X5, hU⟩ : ∃ U, U = store2 wc5 h (.string s5') (.string t5') := ⟨_, rfl⟩
  have hU' : X5 = (wc5.setCell ⟨h, 0, none⟩ (.string s5')).setCell ⟨h, 1, none⟩ (.string t5') := hU
  have HZ5 := hide ((unhide HC5).putY (.string s5') (.string t5'))
  rw [← hU] at HZ5
  rw [← hU']
  clear hU hU' t0 t1 t2 t3 x0 x1 xf0 xf1 y0 y1 yf0 yf1 HD5 HC5 HB5
  have x0 := (unhide HZ5).x.c0; have x1 := (unhide HZ5).x.c1; have y0 := (unhide HZ5).y.c0; have y1 := (unhide HZ5).y.c1
  go_upto_region 25 with fail
  clear x0 x1 y0 y1
  have t0 := (unhide HZ5).a.c0; have t1 := (unhide HZ5).a.c1; have t2 := (unhide HZ5).b.c0; have t3 := (unhide HZ5).b.c1; have x0 := (unhide HZ5).x.c0; have x1 := (unhide HZ5).x.c1; have xf0 := (unhide HZ5).x.f0; have xf1 := (unhide HZ5).x.f1; have y0 := (unhide HZ5).y.c0; have y1 := (unhide HZ5).y.c1; have yf0 := (unhide HZ5).y.f0; have yf1 := (unhide HZ5).y.f1
  go_upto_region 26 with (go_at_call 40; go_must (refine (unhide HP6 _ ((unhide HTW).later (unhide HZ5).below)).mono ?_; rintro e wa6 ⟨rfl, hb⟩; have HA6 := hide ((unhide HZ5).later hb); clear hb t0 t1 t2 t3 x0 x1 xf0 xf1 y0 y1 yf0 yf1; have t0 := (unhide HA6).a.c0; have t1 := (unhide HA6).a.c1; have t2 := (unhide HA6).b.c0; have t3 := (unhide HA6).b.c1; have x0 := (unhide HA6).x.c0; have x1 := (unhide HA6).x.c1; have xf0 := (unhide HA6).x.f0; have xf1 := (unhide HA6).x.f1; have y0 := (unhide HA6).y.c0; have y1 := (unhide HA6).y.c1; have yf0 := (unhide HA6).y.f0; have yf1 := (unhide HA6).y.f1))
  obtain ⟨U6, hU⟩ : ∃ U, U = store2 wa6 g (.string s6') (.string t6') := ⟨_, rfl⟩
  have hU' : U6 = (wa6.setCell ⟨g, 0, none⟩ (.string s6')).setCell ⟨g, 1, none⟩ (.string t6') := hU
  have HB6 := hide ((unhide HA6).putX (.string s6') (.string t6'))
  rw [← hU] at HB6
  rw [← hU']
  clear hU hU' t0 t1 t2 t3 x0 x1 xf0 xf1 y0 y1 yf0 yf1 HP6 HA6 HZ5
  have t0 := (unhide HB6).a.c0; have t1 := (unhide HB6).a.c1; have t2 := (unhide HB6).b.c0; have t3 := (unhide HB6).b.c1; have x0 := (unhide HB6).x.c0; have x1 := (unhide HB6).x.c1; have xf0 := (unhide HB6).x.f0; have xf1 := (unhide HB6).x.f1; have y0 := (unhide HB6).y.c0; have y1 := (unhide HB6).y.c1; have yf0 := (unhide HB6).y.f0; have yf1 := (unhide HB6).y.f1
  go_upto_region 27 with (go_at_call 41; go_must (refine (unhide HD6 _).mono ?_; rintro e wc6 ⟨rfl, hb⟩; have HC6 := hide ((unhide HB6).later hb); clear hb t0 t1 t2 t3 x0 x1 xf0 xf1 y0 y1 yf0 yf1; have t0 := (unhide HC6).a.c0; have t1 := (unhide HC6).a.c1; have t2 := (unhide HC6).b.c0; have t3 := (unhide HC6).b.c1; have x0 := (unhide HC6).x.c0; have x1 := (unhide HC6).x.c1; have xf0 := (unhide HC6).x.f0; have xf1 := (unhide HC6).x.f1; have y0 := (unhide HC6).y.c0; have y1 := (unhide HC6).y.c1; have yf0 := (unhide HC6).y.f0; have yf1 := (unhide HC6).y.f1))
  obtain ⟨X6, hU⟩ : ∃ U, U = store2 wc6 h (.string s6') (.string t6') := ⟨_, rfl⟩
  have hU' : X6 = (wc6.setCell ⟨h, 0, none⟩ (.string s6')).setCell ⟨h, 1, none⟩ (.string t6') := hU
  have HZ6 := hide ((unhide HC6).putY (.string s6') (.string t6'))
  rw [← hU] at HZ6
  rw [← hU']
  clear hU hU' t0 t1 t2 t3 x0 x1 xf0 xf1 y0 y1 yf0 yf1 HD6 HC6 HB6
  have x0 := (unhide HZ6).x.c0; have x1 := (unhide HZ6).x.c1; have y0 := (unhide HZ6).y.c0; have y1 := (unhide HZ6).y.c1
  go_wp2_with (go_at_call 21; go_must (refine (unhide HAW _ (unhide HZ6).below).mono ?_; rintro e w9 ⟨rfl, hb9⟩; have HE := hide ((unhide HZ6).below.trans (hb9.mono (unhide HZ6).below.size)); clear hb9))
  go_ret
  exact ⟨by simp, unhide HE⟩
end Go.Proofs.YtoinadnpdbaamaaGreatDoor

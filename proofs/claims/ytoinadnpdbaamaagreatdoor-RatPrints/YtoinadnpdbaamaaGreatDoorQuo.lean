/- rat.Add, Sub, Mul, by ofTwo. -/
import Derived.Test.YtoinadnpdbaamaaGreatDoorTwo
namespace Go.Proofs.YtoinadnpdbaamaaGreatDoor
open Go.RowKit

/-- Two numbers in their boxes, a number's box, and two Fracs' boxes behind them (or none yet). -/
structure O3 (w W : World) (x y z t : Value) : Prop where
  a : T2 W w.heap.size x y
  b : T2 W (w.heap.size + 1) z t
  r : T2 W (w.heap.size + 1 + 1) (.string ⟨#[]⟩) (.string ⟨#[]⟩)
  below : Below w.heap.size w W
theorem O3.later {w W V : World} {x y z t : Value} (s : O3 w W x y z t) (hb : Below W.heap.size W V) : O3 w V x y z t :=
  ⟨s.a.later hb, s.b.later hb, s.r.later hb, s.below.trans (hb.mono s.below.size)⟩
theorem O3.first (w : World) (x y z t : Value) : O3 w (((w.alloc (.cells #[x, y] 23)).alloc (.cells #[z, t] 23)).alloc (.cells #[.string ⟨#[]⟩, .string ⟨#[]⟩] 23)) x y z t :=
  ⟨⟨by simp [go_sem], by simp [go_sem], by simp [go_sem], by simp [go_sem]⟩, ⟨by simp [go_sem], by simp [go_sem], by simp [go_sem], by simp [go_sem]⟩, ⟨by simp [go_sem], by simp [go_sem], by simp [go_sem], by simp [go_sem]⟩,
    (((Below.refl _ _).alloc (Nat.le_refl _) _).alloc (by simp) _).alloc (by simp; omega) _⟩
/-- What a call on two numbers answers. -/
def Ans (f : Nat) (args : Array Value) (w : World) (s t : ByteArray) (e : Int) : Prop :=
  Calls Tryz.prog f args w fun r w' => r = .returned (.tuple #[.agg #[.string s, .string t], .int .i64 e]) ∧ Below w.heap.size w w'

set_option maxRecDepth 100000 in
set_option maxHeartbeats 2000000 in
theorem ofTwo93_ok (n1 d1 n2 d2 : ByteArray) (x y : Rat) (w : World) (h1 : IsR n1 d1 x) (h2 : IsR n2 d2 y) (htab : Tab w) : Ans 92 #[.agg #[.string n1, .string d1], .agg #[.string n2, .string d2], .func (Fn.func 93) #[] #[]] w (numT (x + y)) (denT (x + y)) (errT (x + y)) := by
  unfold Ans
  obtain ⟨V, hV⟩ : ∃ V, V = ((w.alloc (.cells #[.string n1, .string d1] 23)).alloc (.cells #[.string n2, .string d2] 23)).alloc (.cells #[.string ⟨#[]⟩, .string ⟨#[]⟩] 23) := ⟨_, rfl⟩
  have HS : Hid (O3 w V (.string n1) (.string d1) (.string n2) (.string d2)) := by rw [hV]; exact O3.first _ _ _ _ _
  have HV := hide hV
  have HR := hide (readTwo_ok n1 d1 n2 d2 x y V h1 h2)
  have HT := hide (htab.later (unhide HS).below)
  clear h1 h2 htab
  go_enter Tryz.func92, Tryz.ntmps92
  go_upto_region 1 with fail
  rw [← unhide HV]
  clear hV HV
  have t0 := (unhide HS).a.c0; have t1 := (unhide HS).a.c1; have t2 := (unhide HS).b.c0; have t3 := (unhide HS).b.c1
  go_upto_region 2 with (go_at_call 96; go_must (refine (unhide HR).mono ?_; rintro e w1 ⟨v1, v2, rfl, hv1, hv2, hb1⟩; obtain ⟨b1, i1, i2, i3, i4, i5, i6, rfl⟩ := hv1.form; obtain ⟨b2, j1, j2, j3, j4, j5, j6, rfl⟩ := hv2.form; have HS1 := hide ((unhide HS).later hb1); have HV1 := hide hv1; have HV2 := hide hv2; have HT1 := hide ((unhide HT).later hb1); clear hv1 hv2 hb1 t0 t1 t2 t3))
  obtain ⟨V2, hV2⟩ : ∃ V2, V2 = (w1.alloc (.cells #[.bool b1, .slice i1 i2 i3, .slice i4 i5 i6] 74)).alloc (.cells #[.bool b2, .slice j1 j2 j3, .slice j4 j5 j6] 74) := ⟨_, rfl⟩
  have hb : Below w1.heap.size w1 V2 := by rw [hV2]; exact ((Below.refl _ _).alloc (Nat.le_refl _) _).alloc (by simp) _
  have HS2 := hide ((unhide HS1).later hb); have HX := hide ((unhide HV1).later hb); have HY := hide ((unhide HV2).later hb); have HT2 := hide ((unhide HT1).later hb)
  have HP : Hid (FBox V2 w1.heap.size (.bool b1) (.slice i1 i2 i3) (.slice i4 i5 i6)) := by rw [hV2]; exact (FBox.new _ _ _ _).later ((Below.refl _ _).alloc (Nat.le_refl _) _)
  have HQ : Hid (FBox V2 (w1.heap.size + 1) (.bool b2) (.slice j1 j2 j3) (.slice j4 j5 j6)) := by
    rw [hV2]
    have := FBox.new (w1.alloc (.cells #[.bool b1, .slice i1 i2 i3, .slice i4 i5 i6] 74)) (.bool b2) (.slice j1 j2 j3) (.slice j4 j5 j6)
    rwa [show (w1.alloc (.cells #[.bool b1, .slice i1 i2 i3, .slice i4 i5 i6] 74)).heap.size = w1.heap.size + 1 by simp] at this
  rw [← hV2]
  clear hV2 hb HS HS1 HV1 HV2 HT HT1 HR
  generalize w1.heap.size = g8 at *
  have t0 := (unhide HP).c0; have t1 := (unhide HP).c1; have t2 := (unhide HP).c2; have t3 := (unhide HQ).c0; have t4 := (unhide HQ).c1; have t5 := (unhide HQ).c2
  go_wp2_with (first
    | (go_at_call 93; go_must (refine (qadd _ _ x y 67 _ (unhide HX) (unhide HY) (by decide)).mono ?_; rintro e w3 ⟨v3, rfl, hv3, hb3⟩; have HV3 := hide hv3; have HS3 := hide ((unhide HS2).later hb3); have HT3 := hide ((unhide HT2).later hb3); clear hv3 hb3 t0 t1 t2 t3 t4 t5))
    | (go_at_call 72; go_must (refine (qtell _ _ (67 + 67 + 67) _ (unhide HV3) (by decide) (unhide HT3)).mono ?_; rintro e w4 ⟨rfl, hb4⟩; have HS4 := hide ((unhide HS3).later hb4); clear hb4; have r0 := (unhide HS4).r.c0; have r1 := (unhide HS4).r.c1; have rf0 := (unhide HS4).r.f0; have rf1 := (unhide HS4).r.f1)))
  have hS := (unhide HS4).r.store (.string (numT (x + y))) (.string (denT (x + y)))
  have hb : Below w.heap.size w (store2 w4 (w.heap.size + 1 + 1) (.string (numT (x + y))) (.string (denT (x + y)))) := below_store2 (unhide HS4).below (by omega) _ _
  have u0 := hS.c0; have u1 := hS.c1
  exact bodyPost_ret (v := .tuple #[.agg #[.string (numT (x + y)), .string (denT (x + y))], .int .i64 (errT (x + y))]) (w := store2 w4 (w.heap.size + 1 + 1) (.string (numT (x + y))) (.string (denT (x + y)))) (by simp [results, Tryz.results92, go_sem, u0, u1]) rfl ⟨rfl, hb⟩

set_option maxRecDepth 100000 in
set_option maxHeartbeats 2000000 in
theorem ofTwo94_ok (n1 d1 n2 d2 : ByteArray) (x y : Rat) (w : World) (h1 : IsR n1 d1 x) (h2 : IsR n2 d2 y) (htab : Tab w) : Ans 92 #[.agg #[.string n1, .string d1], .agg #[.string n2, .string d2], .func (Fn.func 94) #[] #[]] w (numT (x + -y)) (denT (x + -y)) (errT (x + -y)) := by
  unfold Ans
  obtain ⟨V, hV⟩ : ∃ V, V = ((w.alloc (.cells #[.string n1, .string d1] 23)).alloc (.cells #[.string n2, .string d2] 23)).alloc (.cells #[.string ⟨#[]⟩, .string ⟨#[]⟩] 23) := ⟨_, rfl⟩
  have HS : Hid (O3 w V (.string n1) (.string d1) (.string n2) (.string d2)) := by rw [hV]; exact O3.first _ _ _ _ _
  have HV := hide hV
  have HR := hide (readTwo_ok n1 d1 n2 d2 x y V h1 h2)
  have HT := hide (htab.later (unhide HS).below)
  clear h1 h2 htab
  go_enter Tryz.func92, Tryz.ntmps92
  go_upto_region 1 with fail
  rw [← unhide HV]
  clear hV HV
  have t0 := (unhide HS).a.c0; have t1 := (unhide HS).a.c1; have t2 := (unhide HS).b.c0; have t3 := (unhide HS).b.c1
  go_upto_region 2 with (go_at_call 96; go_must (refine (unhide HR).mono ?_; rintro e w1 ⟨v1, v2, rfl, hv1, hv2, hb1⟩; obtain ⟨b1, i1, i2, i3, i4, i5, i6, rfl⟩ := hv1.form; obtain ⟨b2, j1, j2, j3, j4, j5, j6, rfl⟩ := hv2.form; have HS1 := hide ((unhide HS).later hb1); have HV1 := hide hv1; have HV2 := hide hv2; have HT1 := hide ((unhide HT).later hb1); clear hv1 hv2 hb1 t0 t1 t2 t3))
  obtain ⟨V2, hV2⟩ : ∃ V2, V2 = (w1.alloc (.cells #[.bool b1, .slice i1 i2 i3, .slice i4 i5 i6] 74)).alloc (.cells #[.bool b2, .slice j1 j2 j3, .slice j4 j5 j6] 74) := ⟨_, rfl⟩
  have hb : Below w1.heap.size w1 V2 := by rw [hV2]; exact ((Below.refl _ _).alloc (Nat.le_refl _) _).alloc (by simp) _
  have HS2 := hide ((unhide HS1).later hb); have HX := hide ((unhide HV1).later hb); have HY := hide ((unhide HV2).later hb); have HT2 := hide ((unhide HT1).later hb)
  have HP : Hid (FBox V2 w1.heap.size (.bool b1) (.slice i1 i2 i3) (.slice i4 i5 i6)) := by rw [hV2]; exact (FBox.new _ _ _ _).later ((Below.refl _ _).alloc (Nat.le_refl _) _)
  have HQ : Hid (FBox V2 (w1.heap.size + 1) (.bool b2) (.slice j1 j2 j3) (.slice j4 j5 j6)) := by
    rw [hV2]
    have := FBox.new (w1.alloc (.cells #[.bool b1, .slice i1 i2 i3, .slice i4 i5 i6] 74)) (.bool b2) (.slice j1 j2 j3) (.slice j4 j5 j6)
    rwa [show (w1.alloc (.cells #[.bool b1, .slice i1 i2 i3, .slice i4 i5 i6] 74)).heap.size = w1.heap.size + 1 by simp] at this
  rw [← hV2]
  clear hV2 hb HS HS1 HV1 HV2 HT HT1 HR
  generalize w1.heap.size = g8 at *
  have t0 := (unhide HP).c0; have t1 := (unhide HP).c1; have t2 := (unhide HP).c2; have t3 := (unhide HQ).c0; have t4 := (unhide HQ).c1; have t5 := (unhide HQ).c2
  go_wp2_with (first
    | (go_at_call 94; go_must (refine (qsub _ _ x y 67 _ (unhide HX) (unhide HY) (by decide)).mono ?_; rintro e w3 ⟨v3, rfl, hv3, hb3⟩; have HV3 := hide hv3; have HS3 := hide ((unhide HS2).later hb3); have HT3 := hide ((unhide HT2).later hb3); clear hv3 hb3 t0 t1 t2 t3 t4 t5))
    | (go_at_call 72; go_must (refine (qtell _ _ (67 + 67 + 67) _ (unhide HV3) (by decide) (unhide HT3)).mono ?_; rintro e w4 ⟨rfl, hb4⟩; have HS4 := hide ((unhide HS3).later hb4); clear hb4; have r0 := (unhide HS4).r.c0; have r1 := (unhide HS4).r.c1; have rf0 := (unhide HS4).r.f0; have rf1 := (unhide HS4).r.f1)))
  have hS := (unhide HS4).r.store (.string (numT (x + -y))) (.string (denT (x + -y)))
  have hb : Below w.heap.size w (store2 w4 (w.heap.size + 1 + 1) (.string (numT (x + -y))) (.string (denT (x + -y)))) := below_store2 (unhide HS4).below (by omega) _ _
  have u0 := hS.c0; have u1 := hS.c1
  exact bodyPost_ret (v := .tuple #[.agg #[.string (numT (x + -y)), .string (denT (x + -y))], .int .i64 (errT (x + -y))]) (w := store2 w4 (w.heap.size + 1 + 1) (.string (numT (x + -y))) (.string (denT (x + -y)))) (by simp [results, Tryz.results92, go_sem, u0, u1]) rfl ⟨rfl, hb⟩

set_option maxRecDepth 100000 in
set_option maxHeartbeats 2000000 in
theorem ofTwo95_ok (n1 d1 n2 d2 : ByteArray) (x y : Rat) (w : World) (h1 : IsR n1 d1 x) (h2 : IsR n2 d2 y) (htab : Tab w) : Ans 92 #[.agg #[.string n1, .string d1], .agg #[.string n2, .string d2], .func (Fn.func 95) #[] #[]] w (numT (x * y)) (denT (x * y)) (errT (x * y)) := by
  unfold Ans
  obtain ⟨V, hV⟩ : ∃ V, V = ((w.alloc (.cells #[.string n1, .string d1] 23)).alloc (.cells #[.string n2, .string d2] 23)).alloc (.cells #[.string ⟨#[]⟩, .string ⟨#[]⟩] 23) := ⟨_, rfl⟩
  have HS : Hid (O3 w V (.string n1) (.string d1) (.string n2) (.string d2)) := by rw [hV]; exact O3.first _ _ _ _ _
  have HV := hide hV
  have HR := hide (readTwo_ok n1 d1 n2 d2 x y V h1 h2)
  have HT := hide (htab.later (unhide HS).below)
  clear h1 h2 htab
  go_enter Tryz.func92, Tryz.ntmps92
  go_upto_region 1 with fail
  rw [← unhide HV]
  clear hV HV
  have t0 := (unhide HS).a.c0; have t1 := (unhide HS).a.c1; have t2 := (unhide HS).b.c0; have t3 := (unhide HS).b.c1
  go_upto_region 2 with (go_at_call 96; go_must (refine (unhide HR).mono ?_; rintro e w1 ⟨v1, v2, rfl, hv1, hv2, hb1⟩; obtain ⟨b1, i1, i2, i3, i4, i5, i6, rfl⟩ := hv1.form; obtain ⟨b2, j1, j2, j3, j4, j5, j6, rfl⟩ := hv2.form; have HS1 := hide ((unhide HS).later hb1); have HV1 := hide hv1; have HV2 := hide hv2; have HT1 := hide ((unhide HT).later hb1); clear hv1 hv2 hb1 t0 t1 t2 t3))
  obtain ⟨V2, hV2⟩ : ∃ V2, V2 = (w1.alloc (.cells #[.bool b1, .slice i1 i2 i3, .slice i4 i5 i6] 74)).alloc (.cells #[.bool b2, .slice j1 j2 j3, .slice j4 j5 j6] 74) := ⟨_, rfl⟩
  have hb : Below w1.heap.size w1 V2 := by rw [hV2]; exact ((Below.refl _ _).alloc (Nat.le_refl _) _).alloc (by simp) _
  have HS2 := hide ((unhide HS1).later hb); have HX := hide ((unhide HV1).later hb); have HY := hide ((unhide HV2).later hb); have HT2 := hide ((unhide HT1).later hb)
  have HP : Hid (FBox V2 w1.heap.size (.bool b1) (.slice i1 i2 i3) (.slice i4 i5 i6)) := by rw [hV2]; exact (FBox.new _ _ _ _).later ((Below.refl _ _).alloc (Nat.le_refl _) _)
  have HQ : Hid (FBox V2 (w1.heap.size + 1) (.bool b2) (.slice j1 j2 j3) (.slice j4 j5 j6)) := by
    rw [hV2]
    have := FBox.new (w1.alloc (.cells #[.bool b1, .slice i1 i2 i3, .slice i4 i5 i6] 74)) (.bool b2) (.slice j1 j2 j3) (.slice j4 j5 j6)
    rwa [show (w1.alloc (.cells #[.bool b1, .slice i1 i2 i3, .slice i4 i5 i6] 74)).heap.size = w1.heap.size + 1 by simp] at this
  rw [← hV2]
  clear hV2 hb HS HS1 HV1 HV2 HT HT1 HR
  generalize w1.heap.size = g8 at *
  have t0 := (unhide HP).c0; have t1 := (unhide HP).c1; have t2 := (unhide HP).c2; have t3 := (unhide HQ).c0; have t4 := (unhide HQ).c1; have t5 := (unhide HQ).c2
  go_wp2_with (first
    | (go_at_call 95; go_must (refine (qmul _ _ x y 67 _ (unhide HX) (unhide HY) (by decide)).mono ?_; rintro e w3 ⟨v3, rfl, hv3, hb3⟩; have HV3 := hide hv3; have HS3 := hide ((unhide HS2).later hb3); have HT3 := hide ((unhide HT2).later hb3); clear hv3 hb3 t0 t1 t2 t3 t4 t5))
    | (go_at_call 72; go_must (refine (qtell _ _ (67 + 67) _ (unhide HV3) (by decide) (unhide HT3)).mono ?_; rintro e w4 ⟨rfl, hb4⟩; have HS4 := hide ((unhide HS3).later hb4); clear hb4; have r0 := (unhide HS4).r.c0; have r1 := (unhide HS4).r.c1; have rf0 := (unhide HS4).r.f0; have rf1 := (unhide HS4).r.f1)))
  have hS := (unhide HS4).r.store (.string (numT (x * y))) (.string (denT (x * y)))
  have hb : Below w.heap.size w (store2 w4 (w.heap.size + 1 + 1) (.string (numT (x * y))) (.string (denT (x * y)))) := below_store2 (unhide HS4).below (by omega) _ _
  have u0 := hS.c0; have u1 := hS.c1
  exact bodyPost_ret (v := .tuple #[.agg #[.string (numT (x * y)), .string (denT (x * y))], .int .i64 (errT (x * y))]) (w := store2 w4 (w.heap.size + 1 + 1) (.string (numT (x * y))) (.string (denT (x * y)))) (by simp [results, Tryz.results92, go_sem, u0, u1]) rfl ⟨rfl, hb⟩

set_option maxRecDepth 100000 in
set_option maxHeartbeats 2000000 in
theorem ofTwo_no (n1 d1 n2 d2 : ByteArray) (fv : Value) (w : World) (s1 : n1.size ≤ maxLen) (s2 : d1.size ≤ maxLen) (s3 : n2.size ≤ maxLen) (s4 : d2.size ≤ maxLen) (h : ¬ (RightT n1 d1 ∧ RightT n2 d2)) : Ans 92 #[.agg #[.string n1, .string d1], .agg #[.string n2, .string d2], fv] w ⟨#[]⟩ ⟨#[]⟩ 3 := by
  unfold Ans
  obtain ⟨V, hV⟩ : ∃ V, V = ((w.alloc (.cells #[.string n1, .string d1] 23)).alloc (.cells #[.string n2, .string d2] 23)).alloc (.cells #[.string ⟨#[]⟩, .string ⟨#[]⟩] 23) := ⟨_, rfl⟩
  have HS : Hid (O3 w V (.string n1) (.string d1) (.string n2) (.string d2)) := by rw [hV]; exact O3.first _ _ _ _ _
  have HV := hide hV
  have HR := hide (readTwo_no n1 d1 n2 d2 V s1 s2 s3 s4 h)
  clear s1 s2 s3 s4 h
  go_enter Tryz.func92, Tryz.ntmps92
  go_upto_region 1 with fail
  rw [← unhide HV]
  clear hV HV
  have t0 := (unhide HS).a.c0; have t1 := (unhide HS).a.c1; have t2 := (unhide HS).b.c0; have t3 := (unhide HS).b.c1
  go_upto_region 2 with (go_at_call 96; go_must (refine (unhide HR).mono ?_; rintro e w1 ⟨rfl, hb1⟩; have HS1 := hide ((unhide HS).later hb1); unfold zeroF; clear hb1 t0 t1 t2 t3))
  obtain ⟨V2, hV2⟩ : ∃ V2, V2 = (w1.alloc (.cells #[.bool false, .slice none 0 0, .slice none 0 0] 74)).alloc (.cells #[.bool false, .slice none 0 0, .slice none 0 0] 74) := ⟨_, rfl⟩
  have hb : Below w1.heap.size w1 V2 := by rw [hV2]; exact ((Below.refl _ _).alloc (Nat.le_refl _) _).alloc (by simp) _
  have HS2 := hide ((unhide HS1).later hb)
  rw [← hV2]
  clear hV2 hb HS HS1 HR
  have r0 := (unhide HS2).r.c0; have r1 := (unhide HS2).r.c1; have rf0 := (unhide HS2).r.f0; have rf1 := (unhide HS2).r.f1
  go_wp2_with fail
  have hS := (unhide HS2).r.store (.string ⟨#[]⟩) (.string ⟨#[]⟩)
  have hb : Below w.heap.size w (store2 V2 (w.heap.size + 1 + 1) (.string ⟨#[]⟩) (.string ⟨#[]⟩)) := below_store2 (unhide HS2).below (by omega) _ _
  have u0 := hS.c0; have u1 := hS.c1
  exact bodyPost_ret (v := .tuple #[.agg #[.string ⟨#[]⟩, .string ⟨#[]⟩], .int .i64 3]) (w := store2 V2 (w.heap.size + 1 + 1) (.string ⟨#[]⟩) (.string ⟨#[]⟩)) (by simp [results, Tryz.results92, go_sem, u0, u1]) rfl ⟨rfl, hb⟩

set_option maxRecDepth 100000 in
set_option maxHeartbeats 2000000 in
theorem radd_of (n1 d1 n2 d2 s t : ByteArray) (e : Int) (w : World) (h : ∀ W, Below w.heap.size w W → Ans 92 #[.agg #[.string n1, .string d1], .agg #[.string n2, .string d2], .func (Fn.func 93) #[] #[]] W s t e) : Ans 28 #[.agg #[.string n1, .string d1], .agg #[.string n2, .string d2]] w s t e := by
  unfold Ans at *
  obtain ⟨V, hV⟩ : ∃ V, V = ((w.alloc (.cells #[.string n1, .string d1] 23)).alloc (.cells #[.string n2, .string d2] 23)).alloc (.cells #[.string ⟨#[]⟩, .string ⟨#[]⟩] 23) := ⟨_, rfl⟩
  have HS : Hid (O3 w V (.string n1) (.string d1) (.string n2) (.string d2)) := by rw [hV]; exact O3.first _ _ _ _ _
  have HV := hide hV
  have HR := hide (h V (unhide HS).below)
  clear h
  go_enter Tryz.func28, Tryz.ntmps28
  go_upto_region 1 with fail
  rw [← unhide HV]
  clear hV HV
  have t0 := (unhide HS).a.c0; have t1 := (unhide HS).a.c1; have t2 := (unhide HS).b.c0; have t3 := (unhide HS).b.c1
  go_wp2_with (go_at_call 92; go_must (refine (unhide HR).mono ?_; rintro e w4 ⟨rfl, hb4⟩; have HS4 := hide ((unhide HS).later hb4); clear hb4 t0 t1 t2 t3; have r0 := (unhide HS4).r.c0; have r1 := (unhide HS4).r.c1; have rf0 := (unhide HS4).r.f0; have rf1 := (unhide HS4).r.f1))
  have hS := (unhide HS4).r.store (.string s) (.string t)
  have hb : Below w.heap.size w (store2 w4 (w.heap.size + 1 + 1) (.string s) (.string t)) := below_store2 (unhide HS4).below (by omega) _ _
  have u0 := hS.c0; have u1 := hS.c1
  exact bodyPost_ret (v := .tuple #[.agg #[.string s, .string t], .int .i64 e]) (w := store2 w4 (w.heap.size + 1 + 1) (.string s) (.string t)) (by simp [results, Tryz.results28, go_sem, u0, u1]) rfl ⟨rfl, hb⟩
theorem radd_ok (n1 d1 n2 d2 : ByteArray) (x y : Rat) (w : World) (h1 : IsR n1 d1 x) (h2 : IsR n2 d2 y) (htab : Tab w) : Ans 28 #[.agg #[.string n1, .string d1], .agg #[.string n2, .string d2]] w (numT (x + y)) (denT (x + y)) (errT (x + y)) :=
  radd_of n1 d1 n2 d2 _ _ _ w (fun W hb => ofTwo93_ok n1 d1 n2 d2 x y W h1 h2 (htab.later hb))
theorem radd_no (n1 d1 n2 d2 : ByteArray) (w : World) (s1 : n1.size ≤ maxLen) (s2 : d1.size ≤ maxLen) (s3 : n2.size ≤ maxLen) (s4 : d2.size ≤ maxLen) (h : ¬ (RightT n1 d1 ∧ RightT n2 d2)) : Ans 28 #[.agg #[.string n1, .string d1], .agg #[.string n2, .string d2]] w ⟨#[]⟩ ⟨#[]⟩ 3 :=
  radd_of n1 d1 n2 d2 _ _ _ w (fun W _ => ofTwo_no n1 d1 n2 d2 _ W s1 s2 s3 s4 h)

set_option maxRecDepth 100000 in
set_option maxHeartbeats 2000000 in
theorem rsub_of (n1 d1 n2 d2 s t : ByteArray) (e : Int) (w : World) (h : ∀ W, Below w.heap.size w W → Ans 92 #[.agg #[.string n1, .string d1], .agg #[.string n2, .string d2], .func (Fn.func 94) #[] #[]] W s t e) : Ans 30 #[.agg #[.string n1, .string d1], .agg #[.string n2, .string d2]] w s t e := by
  unfold Ans at *
  obtain ⟨V, hV⟩ : ∃ V, V = ((w.alloc (.cells #[.string n1, .string d1] 23)).alloc (.cells #[.string n2, .string d2] 23)).alloc (.cells #[.string ⟨#[]⟩, .string ⟨#[]⟩] 23) := ⟨_, rfl⟩
  have HS : Hid (O3 w V (.string n1) (.string d1) (.string n2) (.string d2)) := by rw [hV]; exact O3.first _ _ _ _ _
  have HV := hide hV
  have HR := hide (h V (unhide HS).below)
  clear h
  go_enter Tryz.func30, Tryz.ntmps30
  go_upto_region 1 with fail
  rw [← unhide HV]
  clear hV HV
  have t0 := (unhide HS).a.c0; have t1 := (unhide HS).a.c1; have t2 := (unhide HS).b.c0; have t3 := (unhide HS).b.c1
  go_wp2_with (go_at_call 92; go_must (refine (unhide HR).mono ?_; rintro e w4 ⟨rfl, hb4⟩; have HS4 := hide ((unhide HS).later hb4); clear hb4 t0 t1 t2 t3; have r0 := (unhide HS4).r.c0; have r1 := (unhide HS4).r.c1; have rf0 := (unhide HS4).r.f0; have rf1 := (unhide HS4).r.f1))
  have hS := (unhide HS4).r.store (.string s) (.string t)
  have hb : Below w.heap.size w (store2 w4 (w.heap.size + 1 + 1) (.string s) (.string t)) := below_store2 (unhide HS4).below (by omega) _ _
  have u0 := hS.c0; have u1 := hS.c1
  exact bodyPost_ret (v := .tuple #[.agg #[.string s, .string t], .int .i64 e]) (w := store2 w4 (w.heap.size + 1 + 1) (.string s) (.string t)) (by simp [results, Tryz.results30, go_sem, u0, u1]) rfl ⟨rfl, hb⟩
theorem rsub_ok (n1 d1 n2 d2 : ByteArray) (x y : Rat) (w : World) (h1 : IsR n1 d1 x) (h2 : IsR n2 d2 y) (htab : Tab w) : Ans 30 #[.agg #[.string n1, .string d1], .agg #[.string n2, .string d2]] w (numT (x + -y)) (denT (x + -y)) (errT (x + -y)) :=
  rsub_of n1 d1 n2 d2 _ _ _ w (fun W hb => ofTwo94_ok n1 d1 n2 d2 x y W h1 h2 (htab.later hb))
theorem rsub_no (n1 d1 n2 d2 : ByteArray) (w : World) (s1 : n1.size ≤ maxLen) (s2 : d1.size ≤ maxLen) (s3 : n2.size ≤ maxLen) (s4 : d2.size ≤ maxLen) (h : ¬ (RightT n1 d1 ∧ RightT n2 d2)) : Ans 30 #[.agg #[.string n1, .string d1], .agg #[.string n2, .string d2]] w ⟨#[]⟩ ⟨#[]⟩ 3 :=
  rsub_of n1 d1 n2 d2 _ _ _ w (fun W _ => ofTwo_no n1 d1 n2 d2 _ W s1 s2 s3 s4 h)

set_option maxRecDepth 100000 in
set_option maxHeartbeats 2000000 in
theorem rmul_of (n1 d1 n2 d2 s t : ByteArray) (e : Int) (w : World) (h : ∀ W, Below w.heap.size w W → Ans 92 #[.agg #[.string n1, .string d1], .agg #[.string n2, .string d2], .func (Fn.func 95) #[] #[]] W s t e) : Ans 32 #[.agg #[.string n1, .string d1], .agg #[.string n2, .string d2]] w s t e := by
  unfold Ans at *
  obtain ⟨V, hV⟩ : ∃ V, V = ((w.alloc (.cells #[.string n1, .string d1] 23)).alloc (.cells #[.string n2, .string d2] 23)).alloc (.cells #[.string ⟨#[]⟩, .string ⟨#[]⟩] 23) := ⟨_, rfl⟩
  have HS : Hid (O3 w V (.string n1) (.string d1) (.string n2) (.string d2)) := by rw [hV]; exact O3.first _ _ _ _ _
  have HV := hide hV
  have HR := hide (h V (unhide HS).below)
  clear h
  go_enter Tryz.func32, Tryz.ntmps32
  go_upto_region 1 with fail
  rw [← unhide HV]
  clear hV HV
  have t0 := (unhide HS).a.c0; have t1 := (unhide HS).a.c1; have t2 := (unhide HS).b.c0; have t3 := (unhide HS).b.c1
  go_wp2_with (go_at_call 92; go_must (refine (unhide HR).mono ?_; rintro e w4 ⟨rfl, hb4⟩; have HS4 := hide ((unhide HS).later hb4); clear hb4 t0 t1 t2 t3; have r0 := (unhide HS4).r.c0; have r1 := (unhide HS4).r.c1; have rf0 := (unhide HS4).r.f0; have rf1 := (unhide HS4).r.f1))
  have hS := (unhide HS4).r.store (.string s) (.string t)
  have hb : Below w.heap.size w (store2 w4 (w.heap.size + 1 + 1) (.string s) (.string t)) := below_store2 (unhide HS4).below (by omega) _ _
  have u0 := hS.c0; have u1 := hS.c1
  exact bodyPost_ret (v := .tuple #[.agg #[.string s, .string t], .int .i64 e]) (w := store2 w4 (w.heap.size + 1 + 1) (.string s) (.string t)) (by simp [results, Tryz.results32, go_sem, u0, u1]) rfl ⟨rfl, hb⟩
theorem rmul_ok (n1 d1 n2 d2 : ByteArray) (x y : Rat) (w : World) (h1 : IsR n1 d1 x) (h2 : IsR n2 d2 y) (htab : Tab w) : Ans 32 #[.agg #[.string n1, .string d1], .agg #[.string n2, .string d2]] w (numT (x * y)) (denT (x * y)) (errT (x * y)) :=
  rmul_of n1 d1 n2 d2 _ _ _ w (fun W hb => ofTwo95_ok n1 d1 n2 d2 x y W h1 h2 (htab.later hb))
theorem rmul_no (n1 d1 n2 d2 : ByteArray) (w : World) (s1 : n1.size ≤ maxLen) (s2 : d1.size ≤ maxLen) (s3 : n2.size ≤ maxLen) (s4 : d2.size ≤ maxLen) (h : ¬ (RightT n1 d1 ∧ RightT n2 d2)) : Ans 32 #[.agg #[.string n1, .string d1], .agg #[.string n2, .string d2]] w ⟨#[]⟩ ⟨#[]⟩ 3 :=
  rmul_of n1 d1 n2 d2 _ _ _ w (fun W _ => ofTwo_no n1 d1 n2 d2 _ W s1 s2 s3 s4 h)
end Go.Proofs.YtoinadnpdbaamaaGreatDoor

namespace Go.Proofs.YtoinadnpdbaamaaGreatDoor
open Go.RowKit

/-- A number in its box, and the box of another one. -/
structure N1 (w W : World) (x y : Value) : Prop where
  a : T2 W w.heap.size x y
  r : T2 W (w.heap.size + 1) (.string ⟨#[]⟩) (.string ⟨#[]⟩)
  below : Below w.heap.size w W
theorem N1.later {w W V : World} {x y : Value} (s : N1 w W x y) (hb : Below W.heap.size W V) : N1 w V x y := ⟨s.a.later hb, s.r.later hb, s.below.trans (hb.mono s.below.size)⟩
theorem N1.first (w : World) (x y : Value) : N1 w ((w.alloc (.cells #[x, y] 23)).alloc (.cells #[.string ⟨#[]⟩, .string ⟨#[]⟩] 23)) x y :=
  ⟨⟨by simp [go_sem], by simp [go_sem], by simp [go_sem], by simp [go_sem]⟩, ⟨by simp [go_sem], by simp [go_sem], by simp [go_sem], by simp [go_sem]⟩, ((Below.refl _ _).alloc (Nat.le_refl _) _).alloc (by simp) _⟩

theorem cmp_zero (y : Rat) (h : y ≠ 0) : (Cub.cmpQ y 0 == 0) = false := by
  rw [beq_eq_false_iff_ne]
  unfold Cub.cmpQ
  split
  · decide
  · split
    · decide
    · exfalso; apply h; grind
set_option maxRecDepth 100000 in
set_option maxHeartbeats 2000000 in
theorem rquo_ok (n1 d1 n2 d2 : ByteArray) (x y : Rat) (w : World) (h1 : IsR n1 d1 x) (h2 : IsR n2 d2 y) (hy : y ≠ 0) (htab : Tab w) : Ans 34 #[.agg #[.string n1, .string d1], .agg #[.string n2, .string d2]] w (numT (x * y⁻¹)) (denT (x * y⁻¹)) (errT (x * y⁻¹)) := by
  unfold Ans
  obtain ⟨V, hV⟩ : ∃ V, V = ((w.alloc (.cells #[.string n1, .string d1] 23)).alloc (.cells #[.string n2, .string d2] 23)).alloc (.cells #[.string ⟨#[]⟩, .string ⟨#[]⟩] 23) := ⟨_, rfl⟩
  have HS : Hid (O3 w V (.string n1) (.string d1) (.string n2) (.string d2)) := by rw [hV]; exact O3.first _ _ _ _ _
  have HV := hide hV
  have HR := hide (readTwo_ok n1 d1 n2 d2 x y V h1 h2)
  have HT := hide (htab.later (unhide HS).below)
  have HY0 := hide hy
  have HSG : Hid (∀ W v, QOf W v y 67 → ∃ sg : Int, (sg == 0) = false ∧ Calls Tryz.prog 97 #[v] W fun r w' => r = .returned (.int .i64 sg) ∧ Below W.heap.size W w') := fun W v hv => ⟨_, cmp_zero y hy, qsign v y 67 W hv⟩
  clear h1 h2 htab hy
  go_enter Tryz.func34, Tryz.ntmps34
  go_upto_region 1 with fail
  rw [← unhide HV]
  clear hV HV
  have t0 := (unhide HS).a.c0; have t1 := (unhide HS).a.c1; have t2 := (unhide HS).b.c0; have t3 := (unhide HS).b.c1
  go_upto_region 2 with (go_at_call 96; go_must (refine (unhide HR).mono ?_; rintro e w1 ⟨v1, v2, rfl, hv1, hv2, hb1⟩; obtain ⟨b1, i1, i2, i3, i4, i5, i6, rfl⟩ := hv1.form; obtain ⟨b2, j1, j2, j3, j4, j5, j6, rfl⟩ := hv2.form; have HS1 := hide ((unhide HS).later hb1); have HV1 := hide hv1; have HV2 := hide hv2; have HT1 := hide ((unhide HT).later hb1); clear hv1 hv2 hb1 t0 t1 t2 t3))
  obtain ⟨V2, hV2⟩ : ∃ V2, V2 = (w1.alloc (.cells #[.bool b1, .slice i1 i2 i3, .slice i4 i5 i6] 74)).alloc (.cells #[.bool b2, .slice j1 j2 j3, .slice j4 j5 j6] 74) := ⟨_, rfl⟩
  have hb : Below w1.heap.size w1 V2 := by rw [hV2]; exact ((Below.refl _ _).alloc (Nat.le_refl _) _).alloc (by simp) _
  have HS2 := hide ((unhide HS1).later hb); have HX := hide ((unhide HV1).later hb); have HY := hide ((unhide HV2).later hb); have HT2 := hide ((unhide HT1).later hb)
  have HP : Hid (FBox V2 w1.heap.size (.bool b1) (.slice i1 i2 i3) (.slice i4 i5 i6)) := by rw [hV2]; exact (FBox.new _ _ _ _).later ((Below.refl _ _).alloc (Nat.le_refl _) _)
  have HQ : Hid (FBox V2 (w1.heap.size + 1) (.bool b2) (.slice j1 j2 j3) (.slice j4 j5 j6)) := by
    rw [hV2]
    have := FBox.new (w1.alloc (.cells #[.bool b1, .slice i1 i2 i3, .slice i4 i5 i6] 74)) (.bool b2) (.slice j1 j2 j3) (.slice j4 j5 j6)
    rwa [show (w1.alloc (.cells #[.bool b1, .slice i1 i2 i3, .slice i4 i5 i6] 74)).heap.size = w1.heap.size + 1 by simp] at this
  rw [← hV2]
  clear hV2 hb HS HS1 HV1 HV2 HT HT1 HR
  generalize w1.heap.size = g8 at *
  have t0 := (unhide HP).c0; have t1 := (unhide HP).c1; have t2 := (unhide HP).c2; have t3 := (unhide HQ).c0; have t4 := (unhide HQ).c1; have t5 := (unhide HQ).c2
  obtain ⟨sg, hsg, hq⟩ := unhide HSG V2 _ (unhide HY)
  have HSS := hide hq
  clear hq
  go_wp2_with (first
    | (go_at_call 97; go_must (refine (unhide HSS).mono ?_; rintro e w3 ⟨rfl, hb3⟩; have HX3 := hide ((unhide HX).later hb3); have HY3 := hide ((unhide HY).later hb3); have HS3 := hide ((unhide HS2).later hb3); have HT3 := hide ((unhide HT2).later hb3); have HP3 := hide ((unhide HP).later hb3); have HQ3 := hide ((unhide HQ).later hb3); clear hb3 t0 t1 t2 t3 t4 t5; have t0 := (unhide HP3).c0; have t1 := (unhide HP3).c1; have t2 := (unhide HP3).c2; have t3 := (unhide HQ3).c0; have t4 := (unhide HQ3).c1; have t5 := (unhide HQ3).c2))
    | (go_at_call 98; go_must (refine (qquo _ _ x y 67 _ (unhide HX3) (unhide HY3) (by decide) (unhide HY0)).mono ?_; rintro e w5 ⟨v5, rfl, hv5, hb5⟩; have HV5 := hide hv5; have HS5 := hide ((unhide HS3).later hb5); have HT5 := hide ((unhide HT3).later hb5); clear hv5 hb5 t0 t1 t2 t3 t4 t5))
    | (go_at_call 72; go_must (refine (qtell _ _ (67 + 67) _ (unhide HV5) (by decide) (unhide HT5)).mono ?_; rintro e w4 ⟨rfl, hb4⟩; have HS4 := hide ((unhide HS5).later hb4); clear hb4; have r0 := (unhide HS4).r.c0; have r1 := (unhide HS4).r.c1; have rf0 := (unhide HS4).r.f0; have rf1 := (unhide HS4).r.f1)))
  have hS := (unhide HS4).r.store (.string (numT (x * y⁻¹))) (.string (denT (x * y⁻¹)))
  have hb : Below w.heap.size w (store2 w4 (w.heap.size + 1 + 1) (.string (numT (x * y⁻¹))) (.string (denT (x * y⁻¹)))) := below_store2 (unhide HS4).below (by omega) _ _
  have u0 := hS.c0; have u1 := hS.c1
  exact bodyPost_ret (v := .tuple #[.agg #[.string (numT (x * y⁻¹)), .string (denT (x * y⁻¹))], .int .i64 (errT (x * y⁻¹))]) (w := store2 w4 (w.heap.size + 1 + 1) (.string (numT (x * y⁻¹))) (.string (denT (x * y⁻¹)))) (by simp [results, Tryz.results34, go_sem, u0, u1]) rfl ⟨rfl, hb⟩

set_option maxRecDepth 100000 in
set_option maxHeartbeats 2000000 in
theorem rcmp_ok (n1 d1 n2 d2 : ByteArray) (x y : Rat) (w : World) (h1 : IsR n1 d1 x) (h2 : IsR n2 d2 y) :
    Calls Tryz.prog 46 #[.agg #[.string n1, .string d1], .agg #[.string n2, .string d2]] w fun r w' => r = .returned (.tuple #[.int .i64 (Cub.cmpQ x y), .int .i64 0]) ∧ Below w.heap.size w w' := by
  obtain ⟨V, hV⟩ : ∃ V, V = (w.alloc (.cells #[.string n1, .string d1] 23)).alloc (.cells #[.string n2, .string d2] 23) := ⟨_, rfl⟩
  have hb0 : Below w.heap.size w V := by rw [hV]; exact ((Below.refl _ _).alloc (Nat.le_refl _) _).alloc (by simp) _
  have HB0 := hide hb0
  have HV := hide hV
  have HR := hide (readTwo_ok n1 d1 n2 d2 x y V h1 h2)
  clear h1 h2 hb0
  go_enter Tryz.func46, Tryz.ntmps46
  go_upto_region 2 with (go_at_call 96; go_must (rw [← unhide HV]; refine (unhide HR).mono ?_; rintro e w1 ⟨v1, v2, rfl, hv1, hv2, hb1⟩; obtain ⟨b1, i1, i2, i3, i4, i5, i6, rfl⟩ := hv1.form; obtain ⟨b2, j1, j2, j3, j4, j5, j6, rfl⟩ := hv2.form; have HB1 := hide ((unhide HB0).trans (hb1.mono (unhide HB0).size)); have HV1 := hide hv1; have HV2 := hide hv2; clear hv1 hv2 hb1))
  clear hV HV
  obtain ⟨V2, hV2⟩ : ∃ V2, V2 = (w1.alloc (.cells #[.bool b1, .slice i1 i2 i3, .slice i4 i5 i6] 74)).alloc (.cells #[.bool b2, .slice j1 j2 j3, .slice j4 j5 j6] 74) := ⟨_, rfl⟩
  have hb : Below w1.heap.size w1 V2 := by rw [hV2]; exact ((Below.refl _ _).alloc (Nat.le_refl _) _).alloc (by simp) _
  have HX := hide ((unhide HV1).later hb); have HY := hide ((unhide HV2).later hb); have HB2 := hide ((unhide HB1).trans (hb.mono (unhide HB1).size))
  have HP : Hid (FBox V2 w1.heap.size (.bool b1) (.slice i1 i2 i3) (.slice i4 i5 i6)) := by rw [hV2]; exact (FBox.new _ _ _ _).later ((Below.refl _ _).alloc (Nat.le_refl _) _)
  have HQ : Hid (FBox V2 (w1.heap.size + 1) (.bool b2) (.slice j1 j2 j3) (.slice j4 j5 j6)) := by
    rw [hV2]
    have := FBox.new (w1.alloc (.cells #[.bool b1, .slice i1 i2 i3, .slice i4 i5 i6] 74)) (.bool b2) (.slice j1 j2 j3) (.slice j4 j5 j6)
    rwa [show (w1.alloc (.cells #[.bool b1, .slice i1 i2 i3, .slice i4 i5 i6] 74)).heap.size = w1.heap.size + 1 by simp] at this
  rw [← hV2]
  clear hV2 hb HB0 HV1 HV2 HR
  generalize w1.heap.size = g8 at *
  have t0 := (unhide HP).c0; have t1 := (unhide HP).c1; have t2 := (unhide HP).c2; have t3 := (unhide HQ).c0; have t4 := (unhide HQ).c1; have t5 := (unhide HQ).c2
  go_wp2_with (go_at_call 110; go_must (refine (qcmp _ _ x y 67 _ (unhide HX) (unhide HY) (by decide)).mono ?_; rintro e w3 ⟨rfl, hb3⟩; have HB3 := hide ((unhide HB2).trans (hb3.mono (unhide HB2).size)); clear hb3 t0 t1 t2 t3 t4 t5))
  exact bodyPost_ret (v := .tuple #[.int .i64 (Cub.cmpQ x y), .int .i64 0]) (by simp [results, Tryz.results46, go_sem]) rfl ⟨rfl, unhide HB3⟩

set_option maxRecDepth 100000 in
set_option maxHeartbeats 2000000 in
theorem rneg_ok (n1 d1 : ByteArray) (x : Rat) (w : World) (h1 : IsR n1 d1 x) (htab : Tab w) : Ans 36 #[.agg #[.string n1, .string d1]] w (numT (-x)) (denT (-x)) (errT (-x)) := by
  unfold Ans
  obtain ⟨V, hV⟩ : ∃ V, V = (w.alloc (.cells #[.string n1, .string d1] 23)).alloc (.cells #[.string ⟨#[]⟩, .string ⟨#[]⟩] 23) := ⟨_, rfl⟩
  have HS : Hid (N1 w V (.string n1) (.string d1)) := by rw [hV]; exact N1.first _ _ _
  have HV := hide hV
  have HR := hide (qread n1 d1 x V h1)
  have HT := hide (htab.later (unhide HS).below)
  clear h1 htab
  go_enter Tryz.func36, Tryz.ntmps36
  go_upto_region 1 with fail
  rw [← unhide HV]
  clear hV HV
  have t0 := (unhide HS).a.c0; have t1 := (unhide HS).a.c1
  go_upto_region 2 with (go_at_call 76; go_must (refine (unhide HR).mono ?_; rintro e w1 ⟨v1, rfl, hv1, hb1⟩; obtain ⟨b1, i1, i2, i3, i4, i5, i6, rfl⟩ := hv1.form; have HS1 := hide ((unhide HS).later hb1); have HV1 := hide hv1; have HT1 := hide ((unhide HT).later hb1); clear hv1 hb1 t0 t1))
  obtain ⟨V2, hV2⟩ : ∃ V2, V2 = w1.alloc (.cells #[.bool b1, .slice i1 i2 i3, .slice i4 i5 i6] 74) := ⟨_, rfl⟩
  have hb : Below w1.heap.size w1 V2 := by rw [hV2]; exact (Below.refl _ _).alloc (Nat.le_refl _) _
  have HS2 := hide ((unhide HS1).later hb); have HX := hide ((unhide HV1).later hb); have HT2 := hide ((unhide HT1).later hb)
  have HP : Hid (FBox V2 w1.heap.size (.bool b1) (.slice i1 i2 i3) (.slice i4 i5 i6)) := by rw [hV2]; exact FBox.new _ _ _ _
  rw [← hV2]
  clear hV2 hb HS HS1 HV1 HT HT1 HR
  generalize w1.heap.size = g8 at *
  have t0 := (unhide HP).c0; have t1 := (unhide HP).c1; have t2 := (unhide HP).c2
  go_wp2_with (first
    | (go_at_call 100; go_must (refine (qneg _ x 67 _ (unhide HX)).mono ?_; rintro e w5 ⟨v5, rfl, hv5, hb5⟩; have HV5 := hide hv5; have HS5 := hide ((unhide HS2).later hb5); have HT5 := hide ((unhide HT2).later hb5); clear hv5 hb5 t0 t1 t2))
    | (go_at_call 72; go_must (refine (qtell _ _ 67 _ (unhide HV5) (by decide) (unhide HT5)).mono ?_; rintro e w4 ⟨rfl, hb4⟩; have HS4 := hide ((unhide HS5).later hb4); clear hb4; have r0 := (unhide HS4).r.c0; have r1 := (unhide HS4).r.c1; have rf0 := (unhide HS4).r.f0; have rf1 := (unhide HS4).r.f1)))
  have hS := (unhide HS4).r.store (.string (numT (-x))) (.string (denT (-x)))
  have hb : Below w.heap.size w (store2 w4 (w.heap.size + 1) (.string (numT (-x))) (.string (denT (-x)))) := below_store2 (unhide HS4).below (by omega) _ _
  have u0 := hS.c0; have u1 := hS.c1
  exact bodyPost_ret (v := .tuple #[.agg #[.string (numT (-x)), .string (denT (-x))], .int .i64 (errT (-x))]) (w := store2 w4 (w.heap.size + 1) (.string (numT (-x))) (.string (denT (-x)))) (by simp [results, Tryz.results36, go_sem, u0, u1]) rfl ⟨rfl, hb⟩
end Go.Proofs.YtoinadnpdbaamaaGreatDoor

/- rat.Simple. -/
import Derived.Test.YtndhinoomlofgaaGreatDoorSimplest
import Derived.Test.YtndhinoomlofgaaGreatDoorOfs
import Derived.Test.YtndhinoomlofgaaGreatDoorHas
namespace Go.Proofs.YtndhinoomlofgaaGreatDoor
open Go.RowKit
theorem valQ_pos {x : Rat} (h : 0 < x) : decide (x < 0) = false := decide_eq_false (fun h2 => absurd (Std.lt_trans h h2) (Std.lt_irrefl))
theorem ord_of {p q : Rat} (hp : 0 < p) (hpq : ¬ q < p) : Cub.Ord p.num.natAbs p.den q.num.natAbs q.den := by
  have hq : 0 < q := Std.lt_of_lt_of_le hp (Rat.not_lt.1 hpq)
  refine ⟨p.den_pos, q.den_pos, ?_⟩
  have e1 := (Cub.low_of p).2
  have e2 := (Cub.low_of q).2
  rw [valQ_pos hp] at e1
  rw [valQ_pos hq] at e2
  rw [← e1, ← e2, Cub.valQ_lt q.den_pos p.den_pos] at hpq
  have h : ¬ ((q.num.natAbs : Nat) : Int) * (p.den : Int) < ((p.num.natAbs : Nat) : Int) * (q.den : Int) := hpq
  have h2 : ((p.num.natAbs * q.den : Nat) : Int) ≤ ((q.num.natAbs * p.den : Nat) : Int) := by push_cast; omega
  omega
/-- simplest, by values. -/
theorem simplestQ (u v : Value) (p q : Rat) (ts : List Nat) (w : World) (hu : QOf w u p 67) (hv : QOf w v q 67) (hp : 0 < p) (hpq : ¬ q < p) (sp : Small p) (sq : Small q) (hcf : Cub.CF p.num.natAbs p.den q.num.natAbs q.den ts) :
    Calls Tryz.prog 118 #[u, v] w fun e w' => ∃ v', e = .returned v' ∧ QOf w' v' (Cub.valQ false (Cub.pr ts).1 (Cub.pr ts).2) 67 ∧ Below w.heap.size w w' := by
  have hq : 0 < q := Std.lt_of_lt_of_le hp (Rat.not_lt.1 hpq)
  obtain ⟨b, n, d, hf, hl, rfl, _, _⟩ := hu
  obtain ⟨c, m, e, hg, hk, rfl, _, _⟩ := hv
  obtain ⟨e1, e2, e3⟩ := Cub.low_is hl
  obtain ⟨f1, f2, f3⟩ := Cub.low_is hk
  rw [valQ_pos hp] at e1
  rw [valQ_pos hq] at f1
  have ho := ord_of hp hpq
  obtain ⟨a1, l1, c1, a2, l2, c2, rfl, i1, i2⟩ := hf.form
  obtain ⟨a3, l3, c3, a4, l4, c4, rfl, i3, i4⟩ := hg.form
  have s1 := sp.1; have s2 := sp.2; have s3 := sq.1; have s4 := sq.2
  rw [← e2] at s1 ho hcf
  rw [← e3] at s2 ho hcf
  rw [← f2] at s3 ho hcf
  rw [← f3] at s4 ho hcf
  subst e1; subst f1
  refine (simplest_ok a1 a2 a3 a4 l1 c1 l2 c2 l3 c3 l4 c4 n d m e w i1 i2 i3 i4 ho s1 s2 s3 s4).mono ?_
  rintro r w' ⟨v', us, rfl, h1, h2, h3⟩
  rw [h1.det hcf] at h2
  exact ⟨v', rfl, h2, h3⟩
/-- The boxes of Simple. -/
structure PB (w W : World) (g6 g7 : Nat) (b1 : Bool) (x1 x2 : Value) (b2 : Bool) (y1 y2 : Value) (p q : Rat) : Prop where
  r : T2 W (w.heap.size + 1 + 1) (.string ⟨#[]⟩) (.string ⟨#[]⟩)
  f : FBox W g6 (.bool b1) x1 x2
  g : FBox W g7 (.bool b2) y1 y2
  qf : QOf W (.agg #[.bool b1, x1, x2]) p 67
  qg : QOf W (.agg #[.bool b2, y1, y2]) q 67
  below : Below w.heap.size w W
theorem PB.later {w W V : World} {g6 g7 : Nat} {b1 b2 : Bool} {x1 x2 y1 y2 : Value} {p q : Rat} (s : PB w W g6 g7 b1 x1 x2 b2 y1 y2 p q) (hb : Below W.heap.size W V) : PB w V g6 g7 b1 x1 x2 b2 y1 y2 p q :=
  ⟨s.r.later hb, s.f.later hb, s.g.later hb, s.qf.later hb, s.qg.later hb, s.below.trans (hb.mono s.below.size)⟩
theorem QOf.formS {w : World} {v : Value} {x : Rat} {k : Nat} (h : QOf w v x k) : ∃ a1 l1 c1 a2 l2 c2, v = .agg #[.bool (decide (x < 0)), .slice a1 l1 c1, .slice a2 l2 c2] := by
  obtain ⟨b, n, d, hf, hl, rfl, _, _⟩ := h
  obtain ⟨a1, l1, c1, a2, l2, c2, rfl, _, _⟩ := hf.form
  rw [← (Cub.low_is hl).1]
  exact ⟨_, _, _, _, _, _, rfl⟩

set_option maxRecDepth 100000 in
set_option maxHeartbeats 1000000 in
theorem simple_below (n1 d1 n2 d2 : ByteArray) (x y : Rat) (w : World) (h1 : IsR n1 d1 x) (h2 : IsR n2 d2 y) (hc : Cub.cmpQ y x < 0) : Ans 55 #[.agg #[.string n1, .string d1], .agg #[.string n2, .string d2]] w ⟨#[]⟩ ⟨#[]⟩ 9 := by
  unfold Ans
  obtain ⟨V, hV⟩ : ∃ V, V = ((w.alloc (.cells #[.string n1, .string d1] 23)).alloc (.cells #[.string n2, .string d2] 23)).alloc (.cells #[.string ⟨#[]⟩, .string ⟨#[]⟩] 23) := ⟨_, rfl⟩
  have HS0 : Hid (T2 V w.heap.size (.string n1) (.string d1) ∧ T2 V (w.heap.size + 1) (.string n2) (.string d2) ∧ T2 V (w.heap.size + 1 + 1) (.string ⟨#[]⟩) (.string ⟨#[]⟩) ∧ Below w.heap.size w V) := by
    rw [hV]
    exact ⟨⟨by simp [go_sem], by simp [go_sem], by simp [go_sem], by simp [go_sem]⟩, ⟨by simp [go_sem], by simp [go_sem], by simp [go_sem], by simp [go_sem]⟩, ⟨by simp [go_sem], by simp [go_sem], by simp [go_sem], by simp [go_sem]⟩, (((Below.refl _ _).alloc (Nat.le_refl _) _).alloc (by simp) _).alloc (by simp; omega) _⟩
  have HV := hide hV
  have HR := hide (fun W => readTwo_ok n1 d1 n2 d2 x y W h1 h2)
  obtain ⟨kc, hkc⟩ : ∃ kc, kc = Cub.cmpQ y x := ⟨_, rfl⟩
  obtain ⟨k1, hk1⟩ : ∃ k1, k1 = Cub.cmpQ x 0 := ⟨_, rfl⟩
  obtain ⟨k2, hk2⟩ : ∃ k2, k2 = Cub.cmpQ y 0 := ⟨_, rfl⟩
  have H110 : Hid (∀ W u v, QOf W u y 67 → QOf W v x 67 → Calls Tryz.prog 112 #[u, v] W fun r w' => r = .returned (.int .i64 kc) ∧ Below W.heap.size W w') := fun W u v h1 h2 => by rw [hkc]; exact qcmp u v y x 67 W h1 h2 (by decide)
  have H97x : Hid (∀ W u, QOf W u x 67 → Calls Tryz.prog 99 #[u] W fun r w' => r = .returned (.int .i64 k1) ∧ Below W.heap.size W w') := fun W u h1 => by rw [hk1]; exact qsign u x 67 W h1
  have H97y : Hid (∀ W u, QOf W u y 67 → Calls Tryz.prog 99 #[u] W fun r w' => r = .returned (.int .i64 k2) ∧ Below W.heap.size W w') := fun W u h1 => by rw [hk2]; exact qsign u y 67 W h1
  rw [← hkc] at hc
  clear hkc hk1 hk2 h1 h2
  go_enter Tryz.func55, Tryz.ntmps55
  go_upto_region 1 with fail
  rw [← unhide HV]
  clear hV HV
  have t0 := (unhide HS0).1.c0; have t1 := (unhide HS0).1.c1; have t2 := (unhide HS0).2.1.c0; have t3 := (unhide HS0).2.1.c1
  go_upto_region 2 with (go_at_call 98; go_must (refine (unhide HR _).mono ?_; rintro e w1 ⟨uf, ug, rfl, hqf, hqg, hb1⟩; have HS1 : Hid (T2 w1 (w.heap.size + 1 + 1) (.string ⟨#[]⟩) (.string ⟨#[]⟩) ∧ Below w.heap.size w w1) := ⟨(unhide HS0).2.2.1.later hb1, (unhide HS0).2.2.2.trans (hb1.mono (unhide HS0).2.2.2.size)⟩; clear hb1 t0 t1 t2 t3; obtain ⟨a1, l1, c1, a2, l2, c2, rfl⟩ := hqf.formS; obtain ⟨a3, l3, c3, a4, l4, c4, rfl⟩ := hqg.formS; have HQ := hide (And.intro hqf hqg); clear hqf hqg))
  obtain ⟨b1, hb1⟩ : ∃ b1, b1 = decide (x < 0) := ⟨_, rfl⟩
  obtain ⟨b2, hb2⟩ : ∃ b2, b2 = decide (y < 0) := ⟨_, rfl⟩
  rw [← hb1, ← hb2] at HQ
  simp only [← hb1, ← hb2]
  clear hb1 hb2
  obtain ⟨V2, hV2⟩ : ∃ V2, V2 = (w1.alloc (.cells #[.bool b1, .slice a1 l1 c1, .slice a2 l2 c2] 74)).alloc (.cells #[.bool b2, .slice a3 l3 c3, .slice a4 l4 c4] 74) := ⟨_, rfl⟩
  have HP2 : Hid (PB w V2 w1.heap.size (w1.heap.size + 1) b1 (.slice a1 l1 c1) (.slice a2 l2 c2) b2 (.slice a3 l3 c3) (.slice a4 l4 c4) x y) := by
    have hbV : Below w1.heap.size w1 V2 := by rw [hV2]; exact ((Below.refl _ _).alloc (Nat.le_refl _) _).alloc (by simp) _
    exact ⟨(unhide HS1).1.later hbV, by rw [hV2]; exact ⟨by simp [go_sem], by simp [go_sem], by simp [go_sem], by simp [go_sem], by simp [go_sem], by simp [go_sem]⟩, by rw [hV2]; exact ⟨by simp [go_sem], by simp [go_sem], by simp [go_sem], by simp [go_sem], by simp [go_sem], by simp [go_sem]⟩, (unhide HQ).1.later hbV, (unhide HQ).2.later hbV, (unhide HS1).2.trans (hbV.mono (unhide HS1).2.size)⟩
  rw [← hV2]
  clear hV2 HS1 HQ HR HS0
  obtain ⟨g6, hg6⟩ : ∃ g6, g6 = w1.heap.size := ⟨_, rfl⟩
  obtain ⟨g7, hg7⟩ : ∃ g7, g7 = w1.heap.size + 1 := ⟨_, rfl⟩
  rw [← hg7, ← hg6] at HP2 ⊢
  clear hg6 hg7
  have p0 := (unhide HP2).f.c0; have p1 := (unhide HP2).f.c1; have p2 := (unhide HP2).f.c2; have q0 := (unhide HP2).g.c0; have q1 := (unhide HP2).g.c1; have q2 := (unhide HP2).g.c2
  go_upto_region 5 with (go_at_call 112; go_must (refine (unhide H110 _ _ _ (unhide HP2).qg (unhide HP2).qf).mono ?_; rintro e w3 ⟨rfl, hb3⟩; have HP3 := hide ((unhide HP2).later hb3); clear hb3 p0 p1 p2 q0 q1 q2; have p0 := (unhide HP3).f.c0; have p1 := (unhide HP3).f.c1; have p2 := (unhide HP3).f.c2; have q0 := (unhide HP3).g.c0; have q1 := (unhide HP3).g.c1; have q2 := (unhide HP3).g.c2))
  have r0 := ((unhide HP3).r).c0; have r1 := ((unhide HP3).r).c1; have rf0 := ((unhide HP3).r).f0; have rf1 := ((unhide HP3).r).f1
  go_wp2_with fail
  have hS := ((unhide HP3).r).store (.string ⟨#[]⟩) (.string ⟨#[]⟩)
  have hb : Below w.heap.size w (store2 w3 (w.heap.size + 1 + 1) (.string ⟨#[]⟩) (.string ⟨#[]⟩)) := below_store2 ((unhide HP3).below) (by omega) _ _
  have v0 := hS.c0; have v1 := hS.c1
  exact bodyPost_ret (v := .tuple #[.agg #[.string ⟨#[]⟩, .string ⟨#[]⟩], .int .i64 9]) (w := store2 w3 (w.heap.size + 1 + 1) (.string ⟨#[]⟩) (.string ⟨#[]⟩)) (by simp [results, Tryz.results55, go_sem, v0, v1]) rfl ⟨rfl, hb⟩

set_option maxRecDepth 100000 in
set_option maxHeartbeats 1000000 in
theorem simple_zero (n1 d1 n2 d2 : ByteArray) (x y : Rat) (w : World) (h1 : IsR n1 d1 x) (h2 : IsR n2 d2 y) (hc : ¬ Cub.cmpQ y x < 0) (hs1 : Cub.cmpQ x 0 ≤ 0) (hs2 : 0 ≤ Cub.cmpQ y 0) (h19 : ∀ W, Below w.heap.size w W → Calls Tryz.prog 21 #[.int .i64 0] W fun r w' => r = .returned (.agg #[.string ⟨#[48]⟩, .string ⟨#[49]⟩]) ∧ Below W.heap.size W w') : Ans 55 #[.agg #[.string n1, .string d1], .agg #[.string n2, .string d2]] w ⟨#[48]⟩ ⟨#[49]⟩ 0 := by
  unfold Ans
  obtain ⟨V, hV⟩ : ∃ V, V = ((w.alloc (.cells #[.string n1, .string d1] 23)).alloc (.cells #[.string n2, .string d2] 23)).alloc (.cells #[.string ⟨#[]⟩, .string ⟨#[]⟩] 23) := ⟨_, rfl⟩
  have HS0 : Hid (T2 V w.heap.size (.string n1) (.string d1) ∧ T2 V (w.heap.size + 1) (.string n2) (.string d2) ∧ T2 V (w.heap.size + 1 + 1) (.string ⟨#[]⟩) (.string ⟨#[]⟩) ∧ Below w.heap.size w V) := by
    rw [hV]
    exact ⟨⟨by simp [go_sem], by simp [go_sem], by simp [go_sem], by simp [go_sem]⟩, ⟨by simp [go_sem], by simp [go_sem], by simp [go_sem], by simp [go_sem]⟩, ⟨by simp [go_sem], by simp [go_sem], by simp [go_sem], by simp [go_sem]⟩, (((Below.refl _ _).alloc (Nat.le_refl _) _).alloc (by simp) _).alloc (by simp; omega) _⟩
  have HV := hide hV
  have HR := hide (fun W => readTwo_ok n1 d1 n2 d2 x y W h1 h2)
  obtain ⟨kc, hkc⟩ : ∃ kc, kc = Cub.cmpQ y x := ⟨_, rfl⟩
  obtain ⟨k1, hk1⟩ : ∃ k1, k1 = Cub.cmpQ x 0 := ⟨_, rfl⟩
  obtain ⟨k2, hk2⟩ : ∃ k2, k2 = Cub.cmpQ y 0 := ⟨_, rfl⟩
  have H110 : Hid (∀ W u v, QOf W u y 67 → QOf W v x 67 → Calls Tryz.prog 112 #[u, v] W fun r w' => r = .returned (.int .i64 kc) ∧ Below W.heap.size W w') := fun W u v h1 h2 => by rw [hkc]; exact qcmp u v y x 67 W h1 h2 (by decide)
  have H97x : Hid (∀ W u, QOf W u x 67 → Calls Tryz.prog 99 #[u] W fun r w' => r = .returned (.int .i64 k1) ∧ Below W.heap.size W w') := fun W u h1 => by rw [hk1]; exact qsign u x 67 W h1
  have H97y : Hid (∀ W u, QOf W u y 67 → Calls Tryz.prog 99 #[u] W fun r w' => r = .returned (.int .i64 k2) ∧ Below W.heap.size W w') := fun W u h1 => by rw [hk2]; exact qsign u y 67 W h1
  rw [← hkc] at hc
  rw [← hk1] at hs1
  rw [← hk2] at hs2
  have H19 := hide h19
  clear h19
  clear hkc hk1 hk2 h1 h2
  go_enter Tryz.func55, Tryz.ntmps55
  go_upto_region 1 with fail
  rw [← unhide HV]
  clear hV HV
  have t0 := (unhide HS0).1.c0; have t1 := (unhide HS0).1.c1; have t2 := (unhide HS0).2.1.c0; have t3 := (unhide HS0).2.1.c1
  go_upto_region 2 with (go_at_call 98; go_must (refine (unhide HR _).mono ?_; rintro e w1 ⟨uf, ug, rfl, hqf, hqg, hb1⟩; have HS1 : Hid (T2 w1 (w.heap.size + 1 + 1) (.string ⟨#[]⟩) (.string ⟨#[]⟩) ∧ Below w.heap.size w w1) := ⟨(unhide HS0).2.2.1.later hb1, (unhide HS0).2.2.2.trans (hb1.mono (unhide HS0).2.2.2.size)⟩; clear hb1 t0 t1 t2 t3; obtain ⟨a1, l1, c1, a2, l2, c2, rfl⟩ := hqf.formS; obtain ⟨a3, l3, c3, a4, l4, c4, rfl⟩ := hqg.formS; have HQ := hide (And.intro hqf hqg); clear hqf hqg))
  obtain ⟨b1, hb1⟩ : ∃ b1, b1 = decide (x < 0) := ⟨_, rfl⟩
  obtain ⟨b2, hb2⟩ : ∃ b2, b2 = decide (y < 0) := ⟨_, rfl⟩
  rw [← hb1, ← hb2] at HQ
  simp only [← hb1, ← hb2]
  clear hb1 hb2
  obtain ⟨V2, hV2⟩ : ∃ V2, V2 = (w1.alloc (.cells #[.bool b1, .slice a1 l1 c1, .slice a2 l2 c2] 74)).alloc (.cells #[.bool b2, .slice a3 l3 c3, .slice a4 l4 c4] 74) := ⟨_, rfl⟩
  have HP2 : Hid (PB w V2 w1.heap.size (w1.heap.size + 1) b1 (.slice a1 l1 c1) (.slice a2 l2 c2) b2 (.slice a3 l3 c3) (.slice a4 l4 c4) x y) := by
    have hbV : Below w1.heap.size w1 V2 := by rw [hV2]; exact ((Below.refl _ _).alloc (Nat.le_refl _) _).alloc (by simp) _
    exact ⟨(unhide HS1).1.later hbV, by rw [hV2]; exact ⟨by simp [go_sem], by simp [go_sem], by simp [go_sem], by simp [go_sem], by simp [go_sem], by simp [go_sem]⟩, by rw [hV2]; exact ⟨by simp [go_sem], by simp [go_sem], by simp [go_sem], by simp [go_sem], by simp [go_sem], by simp [go_sem]⟩, (unhide HQ).1.later hbV, (unhide HQ).2.later hbV, (unhide HS1).2.trans (hbV.mono (unhide HS1).2.size)⟩
  rw [← hV2]
  clear hV2 HS1 HQ HR HS0
  obtain ⟨g6, hg6⟩ : ∃ g6, g6 = w1.heap.size := ⟨_, rfl⟩
  obtain ⟨g7, hg7⟩ : ∃ g7, g7 = w1.heap.size + 1 := ⟨_, rfl⟩
  rw [← hg7, ← hg6] at HP2 ⊢
  clear hg6 hg7
  have p0 := (unhide HP2).f.c0; have p1 := (unhide HP2).f.c1; have p2 := (unhide HP2).f.c2; have q0 := (unhide HP2).g.c0; have q1 := (unhide HP2).g.c1; have q2 := (unhide HP2).g.c2
  go_upto_region 6 with (go_at_call 112; go_must (refine (unhide H110 _ _ _ (unhide HP2).qg (unhide HP2).qf).mono ?_; rintro e w3 ⟨rfl, hb3⟩; have HP3 := hide ((unhide HP2).later hb3); clear hb3 p0 p1 p2 q0 q1 q2; have p0 := (unhide HP3).f.c0; have p1 := (unhide HP3).f.c1; have p2 := (unhide HP3).f.c2; have q0 := (unhide HP3).g.c0; have q1 := (unhide HP3).g.c1; have q2 := (unhide HP3).g.c2))
  go_upto_region 7 with (first | (go_at_call_of 99 (Value.agg #[Value.bool b1, Value.slice a1 l1 c1, Value.slice a2 l2 c2]); go_must (refine (unhide H97x _ _ (unhide HP3).qf).mono ?_; rintro e w4 ⟨rfl, hb4⟩; have HP4 := hide ((unhide HP3).later hb4); clear hb4 p0 p1 p2 q0 q1 q2; have p0 := (unhide HP4).f.c0; have p1 := (unhide HP4).f.c1; have p2 := (unhide HP4).f.c2; have q0 := (unhide HP4).g.c0; have q1 := (unhide HP4).g.c1; have q2 := (unhide HP4).g.c2)) | (go_at_call_of 99 (Value.agg #[Value.bool b2, Value.slice a3 l3 c3, Value.slice a4 l4 c4]); go_must (refine (unhide H97y _ _ (unhide HP4).qg).mono ?_; rintro e w5 ⟨rfl, hb5⟩; have HP5 := hide ((unhide HP4).later hb5); clear hb5 p0 p1 p2 q0 q1 q2; have p0 := (unhide HP5).f.c0; have p1 := (unhide HP5).f.c1; have p2 := (unhide HP5).f.c2; have q0 := (unhide HP5).g.c0; have q1 := (unhide HP5).g.c1; have q2 := (unhide HP5).g.c2)))
  have r0 := (unhide HP5).r.c0
  go_wp2_with (go_at_call 21; go_must (refine (unhide H19 _ (unhide HP5).below).mono ?_; rintro e w6 ⟨rfl, hb6⟩; have HP6 := hide ((unhide HP5).later hb6); clear hb6 p0 p1 p2 q0 q1 q2; have p0 := (unhide HP6).f.c0; have p1 := (unhide HP6).f.c1; have p2 := (unhide HP6).f.c2; have q0 := (unhide HP6).g.c0; have q1 := (unhide HP6).g.c1; have q2 := (unhide HP6).g.c2; clear r0; have r0 := (unhide HP6).r.c0; have r1 := (unhide HP6).r.c1; have rf0 := (unhide HP6).r.f0; have rf1 := (unhide HP6).r.f1))
  have hS := ((unhide HP6).r).store (.string ⟨#[48]⟩) (.string ⟨#[49]⟩)
  have hb : Below w.heap.size w (store2 w6 (w.heap.size + 1 + 1) (.string ⟨#[48]⟩) (.string ⟨#[49]⟩)) := below_store2 ((unhide HP6).below) (by omega) _ _
  have v0 := hS.c0; have v1 := hS.c1
  exact bodyPost_ret (v := .tuple #[.agg #[.string ⟨#[48]⟩, .string ⟨#[49]⟩], .int .i64 0]) (w := store2 w6 (w.heap.size + 1 + 1) (.string ⟨#[48]⟩) (.string ⟨#[49]⟩)) (by simp [results, Tryz.results55, go_sem, v0, v1]) rfl ⟨rfl, hb⟩

set_option maxRecDepth 100000 in
set_option maxHeartbeats 1000000 in
theorem simple_pos (n1 d1 n2 d2 : ByteArray) (x y : Rat) (w : World) (h1 : IsR n1 d1 x) (h2 : IsR n2 d2 y) (htab : Tab w) (hc : ¬ Cub.cmpQ y x < 0) (hs1 : ¬ Cub.cmpQ x 0 ≤ 0) (hx0 : decide (x < 0) = false) (z : Rat) (h116 : ∀ W u v, QOf W u x 67 → QOf W v y 67 → Calls Tryz.prog 118 #[u, v] W fun e w' => ∃ v', e = .returned v' ∧ QOf w' v' z 67 ∧ Below W.heap.size W w') : Ans 55 #[.agg #[.string n1, .string d1], .agg #[.string n2, .string d2]] w (numT z) (denT z) (errT z) := by
  unfold Ans
  obtain ⟨V, hV⟩ : ∃ V, V = ((w.alloc (.cells #[.string n1, .string d1] 23)).alloc (.cells #[.string n2, .string d2] 23)).alloc (.cells #[.string ⟨#[]⟩, .string ⟨#[]⟩] 23) := ⟨_, rfl⟩
  have HS0 : Hid (T2 V w.heap.size (.string n1) (.string d1) ∧ T2 V (w.heap.size + 1) (.string n2) (.string d2) ∧ T2 V (w.heap.size + 1 + 1) (.string ⟨#[]⟩) (.string ⟨#[]⟩) ∧ Below w.heap.size w V) := by
    rw [hV]
    exact ⟨⟨by simp [go_sem], by simp [go_sem], by simp [go_sem], by simp [go_sem]⟩, ⟨by simp [go_sem], by simp [go_sem], by simp [go_sem], by simp [go_sem]⟩, ⟨by simp [go_sem], by simp [go_sem], by simp [go_sem], by simp [go_sem]⟩, (((Below.refl _ _).alloc (Nat.le_refl _) _).alloc (by simp) _).alloc (by simp; omega) _⟩
  have HV := hide hV
  have HR := hide (fun W => readTwo_ok n1 d1 n2 d2 x y W h1 h2)
  obtain ⟨kc, hkc⟩ : ∃ kc, kc = Cub.cmpQ y x := ⟨_, rfl⟩
  obtain ⟨k1, hk1⟩ : ∃ k1, k1 = Cub.cmpQ x 0 := ⟨_, rfl⟩
  obtain ⟨k2, hk2⟩ : ∃ k2, k2 = Cub.cmpQ y 0 := ⟨_, rfl⟩
  have H110 : Hid (∀ W u v, QOf W u y 67 → QOf W v x 67 → Calls Tryz.prog 112 #[u, v] W fun r w' => r = .returned (.int .i64 kc) ∧ Below W.heap.size W w') := fun W u v h1 h2 => by rw [hkc]; exact qcmp u v y x 67 W h1 h2 (by decide)
  have H97x : Hid (∀ W u, QOf W u x 67 → Calls Tryz.prog 99 #[u] W fun r w' => r = .returned (.int .i64 k1) ∧ Below W.heap.size W w') := fun W u h1 => by rw [hk1]; exact qsign u x 67 W h1
  have H97y : Hid (∀ W u, QOf W u y 67 → Calls Tryz.prog 99 #[u] W fun r w' => r = .returned (.int .i64 k2) ∧ Below W.heap.size W w') := fun W u h1 => by rw [hk2]; exact qsign u y 67 W h1
  rw [← hkc] at hc
  rw [← hk1] at hs1
  have H116 := hide h116
  have HTB := hide htab
  have HX := hide hx0
  clear hx0
  obtain ⟨nz, hnz⟩ : ∃ nz, nz = numT z := ⟨_, rfl⟩
  obtain ⟨dz, hdz⟩ : ∃ dz, dz = denT z := ⟨_, rfl⟩
  obtain ⟨ez, hez⟩ : ∃ ez, ez = errT z := ⟨_, rfl⟩
  have H72 : Hid (∀ W v, QOf W v z 67 → Tab W → Calls Tryz.prog 74 #[v] W fun r w' => r = .returned (.tuple #[.agg #[.string nz, .string dz], .int .i64 ez]) ∧ Below W.heap.size W w') := fun W v hv ht => by rw [hnz, hdz, hez]; exact qtell v z 67 W hv (by decide) ht
  rw [← hnz, ← hdz, ← hez]
  clear h116 htab hnz hdz hez
  clear hkc hk1 hk2 h1 h2
  go_enter Tryz.func55, Tryz.ntmps55
  go_upto_region 1 with fail
  rw [← unhide HV]
  clear hV HV
  have t0 := (unhide HS0).1.c0; have t1 := (unhide HS0).1.c1; have t2 := (unhide HS0).2.1.c0; have t3 := (unhide HS0).2.1.c1
  go_upto_region 2 with (go_at_call 98; go_must (refine (unhide HR _).mono ?_; rintro e w1 ⟨uf, ug, rfl, hqf, hqg, hb1⟩; have HS1 : Hid (T2 w1 (w.heap.size + 1 + 1) (.string ⟨#[]⟩) (.string ⟨#[]⟩) ∧ Below w.heap.size w w1) := ⟨(unhide HS0).2.2.1.later hb1, (unhide HS0).2.2.2.trans (hb1.mono (unhide HS0).2.2.2.size)⟩; clear hb1 t0 t1 t2 t3; obtain ⟨a1, l1, c1, a2, l2, c2, rfl⟩ := hqf.formS; obtain ⟨a3, l3, c3, a4, l4, c4, rfl⟩ := hqg.formS; have HQ := hide (And.intro hqf hqg); clear hqf hqg))
  obtain ⟨b1, hb1⟩ : ∃ b1, b1 = decide (x < 0) := ⟨_, rfl⟩
  obtain ⟨b2, hb2⟩ : ∃ b2, b2 = decide (y < 0) := ⟨_, rfl⟩
  rw [← hb1, ← hb2] at HQ
  simp only [← hb1, ← hb2]
  have hx1 := hb1.trans (unhide HX)
  clear hb1 hb2
  subst hx1
  obtain ⟨V2, hV2⟩ : ∃ V2, V2 = (w1.alloc (.cells #[.bool false, .slice a1 l1 c1, .slice a2 l2 c2] 74)).alloc (.cells #[.bool b2, .slice a3 l3 c3, .slice a4 l4 c4] 74) := ⟨_, rfl⟩
  have HP2 : Hid (PB w V2 w1.heap.size (w1.heap.size + 1) false (.slice a1 l1 c1) (.slice a2 l2 c2) b2 (.slice a3 l3 c3) (.slice a4 l4 c4) x y) := by
    have hbV : Below w1.heap.size w1 V2 := by rw [hV2]; exact ((Below.refl _ _).alloc (Nat.le_refl _) _).alloc (by simp) _
    exact ⟨(unhide HS1).1.later hbV, by rw [hV2]; exact ⟨by simp [go_sem], by simp [go_sem], by simp [go_sem], by simp [go_sem], by simp [go_sem], by simp [go_sem]⟩, by rw [hV2]; exact ⟨by simp [go_sem], by simp [go_sem], by simp [go_sem], by simp [go_sem], by simp [go_sem], by simp [go_sem]⟩, (unhide HQ).1.later hbV, (unhide HQ).2.later hbV, (unhide HS1).2.trans (hbV.mono (unhide HS1).2.size)⟩
  rw [← hV2]
  clear hV2 HS1 HQ HR HS0
  obtain ⟨g6, hg6⟩ : ∃ g6, g6 = w1.heap.size := ⟨_, rfl⟩
  obtain ⟨g7, hg7⟩ : ∃ g7, g7 = w1.heap.size + 1 := ⟨_, rfl⟩
  rw [← hg7, ← hg6] at HP2 ⊢
  clear hg6 hg7
  have p0 := (unhide HP2).f.c0; have p1 := (unhide HP2).f.c1; have p2 := (unhide HP2).f.c2; have q0 := (unhide HP2).g.c0; have q1 := (unhide HP2).g.c1; have q2 := (unhide HP2).g.c2
  go_upto_region 6 with (go_at_call 112; go_must (refine (unhide H110 _ _ _ (unhide HP2).qg (unhide HP2).qf).mono ?_; rintro e w3 ⟨rfl, hb3⟩; have HP3 := hide ((unhide HP2).later hb3); clear hb3 p0 p1 p2 q0 q1 q2; have p0 := (unhide HP3).f.c0; have p1 := (unhide HP3).f.c1; have p2 := (unhide HP3).f.c2; have q0 := (unhide HP3).g.c0; have q1 := (unhide HP3).g.c1; have q2 := (unhide HP3).g.c2))
  go_upto_region 8 with (go_at_call_of 99 (Value.agg #[Value.bool false, Value.slice a1 l1 c1, Value.slice a2 l2 c2]); go_must (refine (unhide H97x _ _ (unhide HP3).qf).mono ?_; rintro e w4 ⟨rfl, hb4⟩; have HP4 := hide ((unhide HP3).later hb4); clear hb4 p0 p1 p2 q0 q1 q2; have p0 := (unhide HP4).f.c0; have p1 := (unhide HP4).f.c1; have p2 := (unhide HP4).f.c2; have q0 := (unhide HP4).g.c0; have q1 := (unhide HP4).g.c1; have q2 := (unhide HP4).g.c2))
  go_upto_region 10 with fail
  go_wp2_with (first
    | (go_at_call 118; go_must (refine (unhide H116 _ _ _ (unhide HP4).qf (unhide HP4).qg).mono ?_; rintro e w5 ⟨vz, rfl, hz, hb5⟩; have HZ := hide hz; clear hz; have HP5 := hide ((unhide HP4).later hb5); clear hb5 p0 p1 p2 q0 q1 q2; have p0 := (unhide HP5).f.c0; have p1 := (unhide HP5).f.c1; have p2 := (unhide HP5).f.c2; have q0 := (unhide HP5).g.c0; have q1 := (unhide HP5).g.c1; have q2 := (unhide HP5).g.c2))
    | (go_at_call 74; go_must (refine (unhide H72 _ _ (unhide HZ) ((unhide HTB).later (unhide HP5).below)).mono ?_; rintro e w6 ⟨rfl, hb6⟩; have HP6 := hide ((unhide HP5).later hb6); clear hb6 p0 p1 p2 q0 q1 q2; have p0 := (unhide HP6).f.c0; have p1 := (unhide HP6).f.c1; have p2 := (unhide HP6).f.c2; have q0 := (unhide HP6).g.c0; have q1 := (unhide HP6).g.c1; have q2 := (unhide HP6).g.c2; have r0 := (unhide HP6).r.c0; have r1 := (unhide HP6).r.c1; have rf0 := (unhide HP6).r.f0; have rf1 := (unhide HP6).r.f1)))
  have hS := ((unhide HP6).r).store (.string nz) (.string dz)
  have hb : Below w.heap.size w (store2 w6 (w.heap.size + 1 + 1) (.string nz) (.string dz)) := below_store2 ((unhide HP6).below) (by omega) _ _
  have v0 := hS.c0; have v1 := hS.c1
  exact bodyPost_ret (v := .tuple #[.agg #[.string nz, .string dz], .int .i64 ez]) (w := store2 w6 (w.heap.size + 1 + 1) (.string nz) (.string dz)) (by simp [results, Tryz.results55, go_sem, v0, v1]) rfl ⟨rfl, hb⟩

set_option maxRecDepth 100000 in
set_option maxHeartbeats 1000000 in
theorem simple_neg (n1 d1 n2 d2 : ByteArray) (x y : Rat) (w : World) (h1 : IsR n1 d1 x) (h2 : IsR n2 d2 y) (htab : Tab w) (hc : ¬ Cub.cmpQ y x < 0) (hs1 : Cub.cmpQ x 0 ≤ 0) (hs2 : ¬ 0 ≤ Cub.cmpQ y 0) (hx0 : decide (x < 0) = true) (z : Rat) (h116 : ∀ W u v, QOf W u (-y) 67 → QOf W v (-x) 67 → Calls Tryz.prog 118 #[u, v] W fun e w' => ∃ v', e = .returned v' ∧ QOf w' v' z 67 ∧ Below W.heap.size W w') : Ans 55 #[.agg #[.string n1, .string d1], .agg #[.string n2, .string d2]] w (numT (-z)) (denT (-z)) (errT (-z)) := by
  unfold Ans
  obtain ⟨V, hV⟩ : ∃ V, V = ((w.alloc (.cells #[.string n1, .string d1] 23)).alloc (.cells #[.string n2, .string d2] 23)).alloc (.cells #[.string ⟨#[]⟩, .string ⟨#[]⟩] 23) := ⟨_, rfl⟩
  have HS0 : Hid (T2 V w.heap.size (.string n1) (.string d1) ∧ T2 V (w.heap.size + 1) (.string n2) (.string d2) ∧ T2 V (w.heap.size + 1 + 1) (.string ⟨#[]⟩) (.string ⟨#[]⟩) ∧ Below w.heap.size w V) := by
    rw [hV]
    exact ⟨⟨by simp [go_sem], by simp [go_sem], by simp [go_sem], by simp [go_sem]⟩, ⟨by simp [go_sem], by simp [go_sem], by simp [go_sem], by simp [go_sem]⟩, ⟨by simp [go_sem], by simp [go_sem], by simp [go_sem], by simp [go_sem]⟩, (((Below.refl _ _).alloc (Nat.le_refl _) _).alloc (by simp) _).alloc (by simp; omega) _⟩
  have HV := hide hV
  have HR := hide (fun W => readTwo_ok n1 d1 n2 d2 x y W h1 h2)
  obtain ⟨kc, hkc⟩ : ∃ kc, kc = Cub.cmpQ y x := ⟨_, rfl⟩
  obtain ⟨k1, hk1⟩ : ∃ k1, k1 = Cub.cmpQ x 0 := ⟨_, rfl⟩
  obtain ⟨k2, hk2⟩ : ∃ k2, k2 = Cub.cmpQ y 0 := ⟨_, rfl⟩
  have H110 : Hid (∀ W u v, QOf W u y 67 → QOf W v x 67 → Calls Tryz.prog 112 #[u, v] W fun r w' => r = .returned (.int .i64 kc) ∧ Below W.heap.size W w') := fun W u v h1 h2 => by rw [hkc]; exact qcmp u v y x 67 W h1 h2 (by decide)
  have H97x : Hid (∀ W u, QOf W u x 67 → Calls Tryz.prog 99 #[u] W fun r w' => r = .returned (.int .i64 k1) ∧ Below W.heap.size W w') := fun W u h1 => by rw [hk1]; exact qsign u x 67 W h1
  have H97y : Hid (∀ W u, QOf W u y 67 → Calls Tryz.prog 99 #[u] W fun r w' => r = .returned (.int .i64 k2) ∧ Below W.heap.size W w') := fun W u h1 => by rw [hk2]; exact qsign u y 67 W h1
  rw [← hkc] at hc
  rw [← hk1] at hs1
  rw [← hk2] at hs2
  have H116 := hide h116
  have HTB := hide htab
  have HX := hide hx0
  clear hx0
  obtain ⟨nz, hnz⟩ : ∃ nz, nz = numT (-z) := ⟨_, rfl⟩
  obtain ⟨dz, hdz⟩ : ∃ dz, dz = denT (-z) := ⟨_, rfl⟩
  obtain ⟨ez, hez⟩ : ∃ ez, ez = errT (-z) := ⟨_, rfl⟩
  have H72 : Hid (∀ W v, QOf W v (-z) 67 → Tab W → Calls Tryz.prog 74 #[v] W fun r w' => r = .returned (.tuple #[.agg #[.string nz, .string dz], .int .i64 ez]) ∧ Below W.heap.size W w') := fun W v hv ht => by rw [hnz, hdz, hez]; exact qtell v (-z) 67 W hv (by decide) ht
  rw [← hnz, ← hdz, ← hez]
  clear h116 htab hnz hdz hez
  clear hkc hk1 hk2 h1 h2
  go_enter Tryz.func55, Tryz.ntmps55
  go_upto_region 1 with fail
  rw [← unhide HV]
  clear hV HV
  have t0 := (unhide HS0).1.c0; have t1 := (unhide HS0).1.c1; have t2 := (unhide HS0).2.1.c0; have t3 := (unhide HS0).2.1.c1
  go_upto_region 2 with (go_at_call 98; go_must (refine (unhide HR _).mono ?_; rintro e w1 ⟨uf, ug, rfl, hqf, hqg, hb1⟩; have HS1 : Hid (T2 w1 (w.heap.size + 1 + 1) (.string ⟨#[]⟩) (.string ⟨#[]⟩) ∧ Below w.heap.size w w1) := ⟨(unhide HS0).2.2.1.later hb1, (unhide HS0).2.2.2.trans (hb1.mono (unhide HS0).2.2.2.size)⟩; clear hb1 t0 t1 t2 t3; obtain ⟨a1, l1, c1, a2, l2, c2, rfl⟩ := hqf.formS; obtain ⟨a3, l3, c3, a4, l4, c4, rfl⟩ := hqg.formS; have HQ := hide (And.intro hqf hqg); clear hqf hqg))
  obtain ⟨b1, hb1⟩ : ∃ b1, b1 = decide (x < 0) := ⟨_, rfl⟩
  obtain ⟨b2, hb2⟩ : ∃ b2, b2 = decide (y < 0) := ⟨_, rfl⟩
  rw [← hb1, ← hb2] at HQ
  simp only [← hb1, ← hb2]
  have hx1 := hb1.trans (unhide HX)
  clear hb1 hb2
  subst hx1
  obtain ⟨V2, hV2⟩ : ∃ V2, V2 = (w1.alloc (.cells #[.bool true, .slice a1 l1 c1, .slice a2 l2 c2] 74)).alloc (.cells #[.bool b2, .slice a3 l3 c3, .slice a4 l4 c4] 74) := ⟨_, rfl⟩
  have HP2 : Hid (PB w V2 w1.heap.size (w1.heap.size + 1) true (.slice a1 l1 c1) (.slice a2 l2 c2) b2 (.slice a3 l3 c3) (.slice a4 l4 c4) x y) := by
    have hbV : Below w1.heap.size w1 V2 := by rw [hV2]; exact ((Below.refl _ _).alloc (Nat.le_refl _) _).alloc (by simp) _
    exact ⟨(unhide HS1).1.later hbV, by rw [hV2]; exact ⟨by simp [go_sem], by simp [go_sem], by simp [go_sem], by simp [go_sem], by simp [go_sem], by simp [go_sem]⟩, by rw [hV2]; exact ⟨by simp [go_sem], by simp [go_sem], by simp [go_sem], by simp [go_sem], by simp [go_sem], by simp [go_sem]⟩, (unhide HQ).1.later hbV, (unhide HQ).2.later hbV, (unhide HS1).2.trans (hbV.mono (unhide HS1).2.size)⟩
  rw [← hV2]
  clear hV2 HS1 HQ HR HS0
  obtain ⟨g6, hg6⟩ : ∃ g6, g6 = w1.heap.size := ⟨_, rfl⟩
  obtain ⟨g7, hg7⟩ : ∃ g7, g7 = w1.heap.size + 1 := ⟨_, rfl⟩
  rw [← hg7, ← hg6] at HP2 ⊢
  clear hg6 hg7
  have p0 := (unhide HP2).f.c0; have p1 := (unhide HP2).f.c1; have p2 := (unhide HP2).f.c2; have q0 := (unhide HP2).g.c0; have q1 := (unhide HP2).g.c1; have q2 := (unhide HP2).g.c2
  go_upto_region 6 with (go_at_call 112; go_must (refine (unhide H110 _ _ _ (unhide HP2).qg (unhide HP2).qf).mono ?_; rintro e w3 ⟨rfl, hb3⟩; have HP3 := hide ((unhide HP2).later hb3); clear hb3 p0 p1 p2 q0 q1 q2; have p0 := (unhide HP3).f.c0; have p1 := (unhide HP3).f.c1; have p2 := (unhide HP3).f.c2; have q0 := (unhide HP3).g.c0; have q1 := (unhide HP3).g.c1; have q2 := (unhide HP3).g.c2))
  go_upto_region 8 with (first | (go_at_call_of 99 (Value.agg #[Value.bool true, Value.slice a1 l1 c1, Value.slice a2 l2 c2]); go_must (refine (unhide H97x _ _ (unhide HP3).qf).mono ?_; rintro e w4 ⟨rfl, hb4⟩; have HP4 := hide ((unhide HP3).later hb4); clear hb4 p0 p1 p2 q0 q1 q2; have p0 := (unhide HP4).f.c0; have p1 := (unhide HP4).f.c1; have p2 := (unhide HP4).f.c2; have q0 := (unhide HP4).g.c0; have q1 := (unhide HP4).g.c1; have q2 := (unhide HP4).g.c2)) | (go_at_call_of 99 (Value.agg #[Value.bool b2, Value.slice a3 l3 c3, Value.slice a4 l4 c4]); go_must (refine (unhide H97y _ _ (unhide HP4).qg).mono ?_; rintro e w5 ⟨rfl, hb5⟩; have HP5 := hide ((unhide HP4).later hb5); clear hb5 p0 p1 p2 q0 q1 q2; have p0 := (unhide HP5).f.c0; have p1 := (unhide HP5).f.c1; have p2 := (unhide HP5).f.c2; have q0 := (unhide HP5).g.c0; have q1 := (unhide HP5).g.c1; have q2 := (unhide HP5).g.c2)))
  go_upto_region 9 with fail
  have HB0 : Hid (Below w5.heap.size w5 w5.drew) := (Below.refl _ _).drew
  have HN0 : Hid (w5.drew.cell? ⟨g7, 0, none⟩ = some (.bool b2) ∧ w5.drew.cell? ⟨g7, 1, none⟩ = some (.slice a3 l3 c3) ∧ w5.drew.cell? ⟨g7, 2, none⟩ = some (.slice a4 l4 c4) ∧ w5.drew.cell? ⟨g6, 0, none⟩ = some (.bool true) ∧ w5.drew.cell? ⟨g6, 1, none⟩ = some (.slice a1 l1 c1) ∧ w5.drew.cell? ⟨g6, 2, none⟩ = some (.slice a2 l2 c2)) := ⟨((unhide HP5).later (unhide HB0)).g.c0, ((unhide HP5).later (unhide HB0)).g.c1, ((unhide HP5).later (unhide HB0)).g.c2, ((unhide HP5).later (unhide HB0)).f.c0, ((unhide HP5).later (unhide HB0)).f.c1, ((unhide HP5).later (unhide HB0)).f.c2⟩
  refine region_reads 9 (fun W => W.cell? ⟨g7, 0, none⟩ = some (.bool b2) ∧ W.cell? ⟨g7, 1, none⟩ = some (.slice a3 l3 c3) ∧ W.cell? ⟨g7, 2, none⟩ = some (.slice a4 l4 c4) ∧ W.cell? ⟨g6, 0, none⟩ = some (.bool true) ∧ W.cell? ⟨g6, 1, none⟩ = some (.slice a1 l1 c1) ∧ W.cell? ⟨g6, 2, none⟩ = some (.slice a2 l2 c2)) (fun _ => True) 11 rfl (by kernel_rfl) ?_
  refine wpR_take (i := 0) (oi := _) (v := .agg #[.bool b2, .slice a3 l3 c3, .slice a4 l4 c4]) rfl (by kernel_rfl) (by kernel_rfl) (by kernel_rfl) (by kernel_rfl) (fun _ _ _ h => h) (Or.inl ⟨by rfl, ?_⟩) ⟨unhide HN0, trivial⟩ ?_
  · intro W hW
    go_split_ands
    go_simp
  refine wpR_take (i := 2) (oi := _) (v := .agg #[.bool true, .slice a1 l1 c1, .slice a2 l2 c2]) rfl (by kernel_rfl) (by kernel_rfl) (by kernel_rfl) (by kernel_rfl) (fun _ _ _ h => h) (Or.inl ⟨by rfl, ?_⟩) ⟨unhide HN0, trivial⟩ ?_
  · intro W hW
    go_split_ands
    go_simp
  refine wpR_op (i := 1) (o := _) (by kernel_rfl) rfl rfl (fun K hK => ?_)
  go_simp
  refine (qneg _ y 67 _ ((unhide HP5).later (unhide HB0)).qg).mono ?_
  rintro e wa ⟨va, rfl, hva, hba⟩
  have HBa := hide ((unhide HB0).trans (hba.mono (unhide HB0).size)); have HVa := hide hva; clear hva; clear hba; have HNa : Hid (wa.cell? ⟨g7, 0, none⟩ = some (.bool b2) ∧ wa.cell? ⟨g7, 1, none⟩ = some (.slice a3 l3 c3) ∧ wa.cell? ⟨g7, 2, none⟩ = some (.slice a4 l4 c4) ∧ wa.cell? ⟨g6, 0, none⟩ = some (.bool true) ∧ wa.cell? ⟨g6, 1, none⟩ = some (.slice a1 l1 c1) ∧ wa.cell? ⟨g6, 2, none⟩ = some (.slice a2 l2 c2)) := ⟨((unhide HP5).later (unhide HBa)).g.c0, ((unhide HP5).later (unhide HBa)).g.c1, ((unhide HP5).later (unhide HBa)).g.c2, ((unhide HP5).later (unhide HBa)).f.c0, ((unhide HP5).later (unhide HBa)).f.c1, ((unhide HP5).later (unhide HBa)).f.c2⟩
  refine hK _ _ ⟨unhide HNa, trivial⟩ ?_
  clear hK K
  refine wpR_op (i := 3) (o := _) (by kernel_rfl) rfl rfl (fun K hK => ?_)
  go_simp
  refine (qneg _ x 67 _ ((unhide HP5).later (unhide HBa)).qf).mono ?_
  rintro e wb ⟨vb, rfl, hvb, hbb⟩
  have HBb := hide ((unhide HBa).trans (hbb.mono (unhide HBa).size)); have HVb := hide hvb; have HVa2 := hide ((unhide HVa).later hbb); clear hvb; clear hbb; have HNb : Hid (wb.cell? ⟨g7, 0, none⟩ = some (.bool b2) ∧ wb.cell? ⟨g7, 1, none⟩ = some (.slice a3 l3 c3) ∧ wb.cell? ⟨g7, 2, none⟩ = some (.slice a4 l4 c4) ∧ wb.cell? ⟨g6, 0, none⟩ = some (.bool true) ∧ wb.cell? ⟨g6, 1, none⟩ = some (.slice a1 l1 c1) ∧ wb.cell? ⟨g6, 2, none⟩ = some (.slice a2 l2 c2)) := ⟨((unhide HP5).later (unhide HBb)).g.c0, ((unhide HP5).later (unhide HBb)).g.c1, ((unhide HP5).later (unhide HBb)).g.c2, ((unhide HP5).later (unhide HBb)).f.c0, ((unhide HP5).later (unhide HBb)).f.c1, ((unhide HP5).later (unhide HBb)).f.c2⟩
  refine hK _ _ ⟨unhide HNb, trivial⟩ ?_
  clear hK K
  refine wpR_op (i := 4) (o := _) (by kernel_rfl) rfl rfl (fun K hK => ?_)
  go_simp
  refine (unhide H116 _ _ _ (unhide HVa2) (unhide HVb)).mono ?_
  rintro e wc ⟨vc, rfl, hvc, hbc⟩
  have HBc := hide ((unhide HBb).trans (hbc.mono (unhide HBb).size)); have HVc := hide hvc; clear hvc; clear hbc; have HNc : Hid (wc.cell? ⟨g7, 0, none⟩ = some (.bool b2) ∧ wc.cell? ⟨g7, 1, none⟩ = some (.slice a3 l3 c3) ∧ wc.cell? ⟨g7, 2, none⟩ = some (.slice a4 l4 c4) ∧ wc.cell? ⟨g6, 0, none⟩ = some (.bool true) ∧ wc.cell? ⟨g6, 1, none⟩ = some (.slice a1 l1 c1) ∧ wc.cell? ⟨g6, 2, none⟩ = some (.slice a2 l2 c2)) := ⟨((unhide HP5).later (unhide HBc)).g.c0, ((unhide HP5).later (unhide HBc)).g.c1, ((unhide HP5).later (unhide HBc)).g.c2, ((unhide HP5).later (unhide HBc)).f.c0, ((unhide HP5).later (unhide HBc)).f.c1, ((unhide HP5).later (unhide HBc)).f.c2⟩
  refine hK _ _ ⟨unhide HNc, trivial⟩ ?_
  clear hK K
  refine wpR_op (i := 5) (o := _) (by kernel_rfl) rfl rfl (fun K hK => ?_)
  go_simp
  refine (qneg _ z 67 _ (unhide HVc)).mono ?_
  rintro e wd ⟨vd, rfl, hvd, hbd⟩
  have HBd := hide ((unhide HBc).trans (hbd.mono (unhide HBc).size)); have HVd := hide hvd; clear hvd; clear hbd; have HNd : Hid (wd.cell? ⟨g7, 0, none⟩ = some (.bool b2) ∧ wd.cell? ⟨g7, 1, none⟩ = some (.slice a3 l3 c3) ∧ wd.cell? ⟨g7, 2, none⟩ = some (.slice a4 l4 c4) ∧ wd.cell? ⟨g6, 0, none⟩ = some (.bool true) ∧ wd.cell? ⟨g6, 1, none⟩ = some (.slice a1 l1 c1) ∧ wd.cell? ⟨g6, 2, none⟩ = some (.slice a2 l2 c2)) := ⟨((unhide HP5).later (unhide HBd)).g.c0, ((unhide HP5).later (unhide HBd)).g.c1, ((unhide HP5).later (unhide HBd)).g.c2, ((unhide HP5).later (unhide HBd)).f.c0, ((unhide HP5).later (unhide HBd)).f.c1, ((unhide HP5).later (unhide HBd)).f.c2⟩
  refine hK _ _ ⟨unhide HNd, trivial⟩ ?_
  clear hK K
  refine wpR_op (i := 6) (o := _) (by kernel_rfl) rfl rfl (fun K hK => ?_)
  go_simp
  refine (unhide H72 _ _ (unhide HVd) ((unhide HTB).later ((unhide HP5).later (unhide HBd)).below)).mono ?_
  rintro e we ⟨rfl, hbe⟩
  have HBe := hide ((unhide HBd).trans (hbe.mono (unhide HBd).size)); skip; clear hbe; have HNe : Hid (we.cell? ⟨g7, 0, none⟩ = some (.bool b2) ∧ we.cell? ⟨g7, 1, none⟩ = some (.slice a3 l3 c3) ∧ we.cell? ⟨g7, 2, none⟩ = some (.slice a4 l4 c4) ∧ we.cell? ⟨g6, 0, none⟩ = some (.bool true) ∧ we.cell? ⟨g6, 1, none⟩ = some (.slice a1 l1 c1) ∧ we.cell? ⟨g6, 2, none⟩ = some (.slice a2 l2 c2)) := ⟨((unhide HP5).later (unhide HBe)).g.c0, ((unhide HP5).later (unhide HBe)).g.c1, ((unhide HP5).later (unhide HBe)).g.c2, ((unhide HP5).later (unhide HBe)).f.c0, ((unhide HP5).later (unhide HBe)).f.c1, ((unhide HP5).later (unhide HBe)).f.c2⟩
  refine hK _ _ ⟨unhide HNe, trivial⟩ ?_
  clear hK K
  refine wpR_take7 (i := 7) (oi := _) (v := .agg #[.string nz, .string dz]) rfl (by kernel_rfl) (by kernel_rfl) (by kernel_rfl) (by kernel_rfl) (fun _ _ _ h => h) (Or.inl ⟨by rfl, ?_⟩) ⟨unhide HNe, trivial⟩ ?_
  · intro W hW
    go_split_ands
    go_simp
  refine wpR_take7 (i := 8) (oi := _) (v := .int .i64 ez) rfl (by kernel_rfl) (by kernel_rfl) (by kernel_rfl) (by kernel_rfl) (fun _ _ _ h => h) (Or.inl ⟨by rfl, ?_⟩) ⟨unhide HNe, trivial⟩ ?_
  · intro W hW
    go_split_ands
    go_simp
  have HPe := hide ((unhide HP5).later (unhide HBe))
  have r0 := (unhide HPe).r.c0; have r1 := (unhide HPe).r.c1; have rf0 := (unhide HPe).r.f0; have rf1 := (unhide HPe).r.f1
  refine wpR_late (i := 9) (o := _) (by kernel_rfl) rfl rfl (by kernel_rfl) (fun K hK => ?_)
  go_simp
  refine hK _ _ trivial ?_
  clear hK K
  refine wpR_late (i := 10) (o := _) (by kernel_rfl) rfl rfl (by kernel_rfl) (fun K hK => ?_)
  go_simp
  refine hK _ _ trivial ?_
  clear hK K
  refine wpR_done (by kernel_rfl) ?_
  go_wp2_with fail
  have hS := ((unhide HPe).r).store (.string nz) (.string dz)
  have hb : Below w.heap.size w (store2 we (w.heap.size + 1 + 1) (.string nz) (.string dz)) := below_store2 ((unhide HPe).below) (by omega) _ _
  have v0 := hS.c0; have v1 := hS.c1
  exact bodyPost_ret (v := .tuple #[.agg #[.string nz, .string dz], .int .i64 ez]) (w := store2 we (w.heap.size + 1 + 1) (.string nz) (.string dz)) (by simp [results, Tryz.results55, go_sem, v0, v1]) rfl ⟨rfl, hb⟩

end Go.Proofs.YtndhinoomlofgaaGreatDoor

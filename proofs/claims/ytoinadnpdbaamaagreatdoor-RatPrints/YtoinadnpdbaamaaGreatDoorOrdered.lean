/- The walk of RatOrdered. -/
import Derived.Test.YtoinadnpdbaamaaGreatDoorAwake
import Derived.Test.YtoinadnpdbaamaaGreatDoorRefR
namespace Go.Proofs.YtoinadnpdbaamaaGreatDoor
open Go.RowKit

/-- Three numbers in their boxes, and more of them. -/
structure L3 (w W : World) (n1 d1 n2 d2 n3 d3 : ByteArray) (L : List (Nat × ByteArray × ByteArray)) : Prop where
  a : T2 W w.heap.size (.string n1) (.string d1)
  b : T2 W (w.heap.size + 1) (.string n2) (.string d2)
  c : T2 W (w.heap.size + 1 + 1) (.string n3) (.string d3)
  bx : ∀ p ∈ L, T2 W p.1 (.string p.2.1) (.string p.2.2)
  below : Below w.heap.size w W
theorem L3.later {w W V : World} {n1 d1 n2 d2 n3 d3 : ByteArray} {L : List (Nat × ByteArray × ByteArray)} (s : L3 w W n1 d1 n2 d2 n3 d3 L) (hb : Below W.heap.size W V) : L3 w V n1 d1 n2 d2 n3 d3 L :=
  ⟨s.a.later hb, s.b.later hb, s.c.later hb, fun p hp => (s.bx p hp).later hb, s.below.trans (hb.mono s.below.size)⟩
theorem L3.first (w : World) (n1 d1 n2 d2 n3 d3 : ByteArray) : L3 w (((w.alloc (.cells #[.string n1, .string d1] 23)).alloc (.cells #[.string n2, .string d2] 23)).alloc (.cells #[.string n3, .string d3] 23)) n1 d1 n2 d2 n3 d3 [] :=
  ⟨⟨by simp [go_sem], by simp [go_sem], by simp [go_sem], by simp [go_sem]⟩, ⟨by simp [go_sem], by simp [go_sem], by simp [go_sem], by simp [go_sem]⟩, ⟨by simp [go_sem], by simp [go_sem], by simp [go_sem], by simp [go_sem]⟩, (fun _ h => by cases h),
    (((Below.refl _ _).alloc (Nat.le_refl _) _).alloc (by simp) _).alloc (by simp; omega) _⟩
theorem L3.push {w W : World} {n1 d1 n2 d2 n3 d3 : ByteArray} {L : List (Nat × ByteArray × ByteArray)} (s : L3 w W n1 d1 n2 d2 n3 d3 L) (x y : ByteArray) : L3 w (W.alloc (.cells #[.string x, .string y] 23)) n1 d1 n2 d2 n3 d3 ((W.heap.size, x, y) :: L) := by
  have t := s.later ((Below.refl W.heap.size W).alloc (Nat.le_refl _) (.cells #[.string x, .string y] 23))
  refine ⟨t.a, t.b, t.c, ?_, t.below⟩
  intro p hp
  rcases List.mem_cons.1 hp with rfl | hp
  · exact ⟨by simp [go_sem], by simp [go_sem], by simp [go_sem], by simp [go_sem]⟩
  · exact t.bx p hp
theorem cmpQ_anti (x y : Rat) : Cub.cmpQ x y = -Cub.cmpQ y x := by
  unfold Cub.cmpQ
  by_cases h1 : x < y
  · have h2 : ¬ y < x := by grind
    rw [if_pos h1, if_neg h2, if_pos h1]
  · by_cases h2 : y < x
    · rw [if_neg h1, if_pos h2, if_pos h2]; rfl
    · rw [if_neg h1, if_neg h2, if_neg h2, if_neg h1]; rfl
theorem cmpQ_range (x y : Rat) : -1 ≤ Cub.cmpQ x y ∧ Cub.cmpQ x y ≤ 1 := by
  unfold Cub.cmpQ; split <;> (try split) <;> omega
theorem cmpQ_eq (x y : Rat) : Cub.cmpQ x y = 0 ↔ x = y := by
  unfold Cub.cmpQ
  constructor
  · intro h
    by_cases h1 : x < y
    · rw [if_pos h1] at h; omega
    · rw [if_neg h1] at h
      by_cases h2 : y < x
      · rw [if_pos h2] at h; omega
      · grind
  · rintro rfl
    have : ¬ x < x := by grind
    rw [if_neg this, if_neg this]
theorem cmpQ_le (x y : Rat) : Cub.cmpQ x y ≤ 0 ↔ x ≤ y := by
  unfold Cub.cmpQ
  by_cases h1 : x < y
  · rw [if_pos h1]; constructor
    · intro _; grind
    · intro _; omega
  · rw [if_neg h1]
    by_cases h2 : y < x
    · rw [if_pos h2]; constructor
      · intro h; omega
      · intro h; grind
    · rw [if_neg h2]; constructor
      · intro _; grind
      · intro _; omega
theorem cmpQ_trans (x y z : Rat) (h1 : Cub.cmpQ x y ≤ 0) (h2 : Cub.cmpQ y z ≤ 0) : Cub.cmpQ x z ≤ 0 := by
  rw [cmpQ_le] at *; grind
theorem cmpQ_add (x y z : Rat) : Cub.cmpQ (x + z) (y + z) = Cub.cmpQ x y := by
  unfold Cub.cmpQ
  have h1 : x + z < y + z ↔ x < y := by grind
  have h2 : y + z < x + z ↔ y < x := by grind
  simp only [h1, h2]

set_option maxRecDepth 100000 in
set_option maxHeartbeats 4000000 in
theorem ordered_any (n1 d1 n2 d2 n3 d3 : ByteArray) (w : World) (htab : Tab w) (x y z : Rat) (hx : IsR n1 d1 x) (hy : IsR n2 d2 y) (hz : IsR n3 d3 z) :
    Calls Tryz.prog 12 #[.agg #[.string n1, .string d1], .agg #[.string n2, .string d2], .agg #[.string n3, .string d3]] w fun r w' => r = .returned (.bool true) ∧ Below w.heap.size w w' := by
  obtain ⟨V, hV⟩ : ∃ V, V = (((w.alloc (.cells #[.string n1, .string d1] 23)).alloc (.cells #[.string n2, .string d2] 23)).alloc (.cells #[.string n3, .string d3] 23)) := ⟨_, rfl⟩
  have HS : Hid (L3 w V n1 d1 n2 d2 n3 d3 []) := by rw [hV]; exact L3.first _ _ _ _ _ _ _
  have HV := hide hV
  have HTW := hide htab
  have yes : ∀ (n d : ByteArray) (q : Rat), IsR n d q → ∀ W, Calls Tryz.prog 18 #[.agg #[.string n, .string d]] W fun r w' => r = .returned (.bool true) ∧ Below W.heap.size W w' := fun n d q hq W => by
    obtain ⟨ok, hok, hc⟩ := refR_any n d W (by have := hq.size.1; unfold maxLen; omega) (by have := hq.size.2; unfold maxLen; omega)
    have : ok = true := hok.2 ((right_isR n d).2 ⟨q, hq⟩)
    rw [this] at hc; exact hc
  have HRA := hide (yes n1 d1 x hx); have HRB := hide (yes n2 d2 y hy); have HRC := hide (yes n3 d3 z hz)
  obtain ⟨X, hX⟩ : ∃ X, X = Cub.cmpQ x y := ⟨_, rfl⟩
  obtain ⟨Y, hY⟩ : ∃ Y, Y = Cub.cmpQ y x := ⟨_, rfl⟩
  obtain ⟨Z, hZ⟩ : ∃ Z, Z = Cub.cmpQ y z := ⟨_, rfl⟩
  obtain ⟨T, hT⟩ : ∃ T, T = Cub.cmpQ x z := ⟨_, rfl⟩
  have HCab : Hid (∀ W, Calls Tryz.prog 46 #[.agg #[.string n1, .string d1], .agg #[.string n2, .string d2]] W fun r w' => r = .returned (.tuple #[.int .i64 X, .int .i64 0]) ∧ Below W.heap.size W w') := fun W => by rw [hX]; exact rcmp_ok n1 d1 n2 d2 x y W hx hy
  have HCba : Hid (∀ W, Calls Tryz.prog 46 #[.agg #[.string n2, .string d2], .agg #[.string n1, .string d1]] W fun r w' => r = .returned (.tuple #[.int .i64 Y, .int .i64 0]) ∧ Below W.heap.size W w') := fun W => by rw [hY]; exact rcmp_ok n2 d2 n1 d1 y x W hy hx
  have HCbc : Hid (∀ W, Calls Tryz.prog 46 #[.agg #[.string n2, .string d2], .agg #[.string n3, .string d3]] W fun r w' => r = .returned (.tuple #[.int .i64 Z, .int .i64 0]) ∧ Below W.heap.size W w') := fun W => by rw [hZ]; exact rcmp_ok n2 d2 n3 d3 y z W hy hz
  have HCac : Hid (∀ W, Calls Tryz.prog 46 #[.agg #[.string n1, .string d1], .agg #[.string n3, .string d3]] W fun r w' => r = .returned (.tuple #[.int .i64 T, .int .i64 0]) ∧ Below W.heap.size W w') := fun W => by rw [hT]; exact rcmp_ok n1 d1 n3 d3 x z W hx hz
  have HF : Hid (X = -Y ∧ -1 ≤ X ∧ X ≤ 1 ∧ (X = 0 → n1 = n2 ∧ d1 = d2) ∧ (X ≠ 0 → ¬ (n1 = n2 ∧ d1 = d2)) ∧ (X ≤ 0 → Z ≤ 0 → T ≤ 0)) := by
    rw [hX, hY, hZ, hT]
    refine ⟨cmpQ_anti x y, (cmpQ_range x y).1, (cmpQ_range x y).2, fun h0 => ?_, fun h0 he => h0 ?_, cmpQ_trans x y z⟩
    · have e := (cmpQ_eq x y).1 h0
      subst e
      exact ⟨hx.2.1.trans hy.2.1.symm, hx.2.2.trans hy.2.2.symm⟩
    · obtain ⟨rfl, rfl⟩ := he
      rw [cmpQ_eq]; exact isR_unique hx hy
  have HXX := hide hX
  clear hX hY hZ hT
  have HXR := hide hx; have HYR := hide hy; have HZR := hide hz
  clear yes hx hy hz htab
  go_enter Tryz.func12, Tryz.ntmps12
  go_upto_region 1 with fail
  rw [← unhide HV]
  clear hV HV
  have a0 := (unhide HS).a.c0; have a1 := (unhide HS).a.c1; have b0 := (unhide HS).b.c0; have b1 := (unhide HS).b.c1; have e0 := (unhide HS).c.c0; have e1 := (unhide HS).c.c1
  go_upto_region 3 with (first
    | (go_at_call_of 18 (Value.agg #[Value.string n1, Value.string d1]); go_must (refine (unhide HRA _).mono ?_; rintro e w1 ⟨rfl, hb1⟩; have HS1 := hide ((unhide HS).later hb1); clear hb1 a0 a1 b0 b1 e0 e1; have a0 := (unhide HS1).a.c0; have a1 := (unhide HS1).a.c1; have b0 := (unhide HS1).b.c0; have b1 := (unhide HS1).b.c1; have e0 := (unhide HS1).c.c0; have e1 := (unhide HS1).c.c1))
    | (go_at_call_of 18 (Value.agg #[Value.string n2, Value.string d2]); go_must (refine (unhide HRB _).mono ?_; rintro e w2 ⟨rfl, hb1⟩; have HS2 := hide ((unhide HS1).later hb1); clear hb1 a0 a1 b0 b1 e0 e1; have a0 := (unhide HS2).a.c0; have a1 := (unhide HS2).a.c1; have b0 := (unhide HS2).b.c0; have b1 := (unhide HS2).b.c1; have e0 := (unhide HS2).c.c0; have e1 := (unhide HS2).c.c1))
    | (go_at_call_of 18 (Value.agg #[Value.string n3, Value.string d3]); go_must (refine (unhide HRC _).mono ?_; rintro e w3 ⟨rfl, hb1⟩; have HS3 := hide ((unhide HS2).later hb1); clear hb1 a0 a1 b0 b1 e0 e1; have a0 := (unhide HS3).a.c0; have a1 := (unhide HS3).a.c1; have b0 := (unhide HS3).b.c0; have b1 := (unhide HS3).b.c1; have e0 := (unhide HS3).c.c0; have e1 := (unhide HS3).c.c1)))
  go_upto_region 4 with (go_at_call 46; go_must (refine (unhide HCab _).mono ?_; rintro e w4 ⟨rfl, hb1⟩; have HS4 := hide ((unhide HS3).later hb1); clear hb1 a0 a1 b0 b1 e0 e1; have a0 := (unhide HS4).a.c0; have a1 := (unhide HS4).a.c1; have b0 := (unhide HS4).b.c0; have b1 := (unhide HS4).b.c1; have e0 := (unhide HS4).c.c0; have e1 := (unhide HS4).c.c1))
  go_upto_region 5 with (go_at_call 46; go_must (refine (unhide HCba _).mono ?_; rintro e w5 ⟨rfl, hb1⟩; have HS5 := hide ((unhide HS4).later hb1); clear hb1 a0 a1 b0 b1 e0 e1; have a0 := (unhide HS5).a.c0; have a1 := (unhide HS5).a.c1; have b0 := (unhide HS5).b.c0; have b1 := (unhide HS5).b.c1; have e0 := (unhide HS5).c.c0; have e1 := (unhide HS5).c.c1))
  clear HS HS1 HS2 HS3 HS4 HRA HRB HRC HCab HCba
  obtain ⟨f1, f2, f3, f4, f5, f6⟩ := unhide HF
  have HADD : Hid (∀ W, Below w.heap.size w W → Ans 28 #[.agg #[.string n1, .string d1], .agg #[.string n3, .string d3]] W (numT (x + z)) (denT (x + z)) (errT (x + z))) := fun W hb => radd_ok n1 d1 n3 d3 x z W (unhide HXR) (unhide HZR) ((unhide HTW).later hb)
  have HADE : Hid (∀ W, Below w.heap.size w W → Ans 28 #[.agg #[.string n2, .string d2], .agg #[.string n3, .string d3]] W (numT (y + z)) (denT (y + z)) (errT (y + z))) := fun W hb => radd_ok n2 d2 n3 d3 y z W (unhide HYR) (unhide HZR) ((unhide HTW).later hb)
  have HAW : Hid (∀ W, Below w.heap.size w W → Calls Tryz.prog 21 #[] W fun r w' => r = .returned (.bool true) ∧ Below W.heap.size W w') := fun W hb => awake_any W ((unhide HTW).later hb)
  have HEND : Hid (∀ W, Small (x + z) → Small (y + z) → Calls Tryz.prog 46 #[.agg #[.string (numT (x + z)), .string (denT (x + z))], .agg #[.string (numT (y + z)), .string (denT (y + z))]] W fun r w' => r = .returned (.tuple #[.int .i64 X, .int .i64 0]) ∧ Below W.heap.size W w') := fun W s1 s2 => by
    have := rcmp_ok _ _ _ _ (x + z) (y + z) W (numT_of s1) (numT_of s2)
    rwa [cmpQ_add, ← unhide HXX] at this
  have HER : Hid ((errT (x + z) = 0 ∧ Small (x + z) ∨ errT (x + z) = 7) ∧ (errT (y + z) = 0 ∧ Small (y + z) ∨ errT (y + z) = 7)) := by
    unfold errT
    constructor
    · by_cases h : Small (x + z)
      · left; rw [if_pos h]; exact ⟨rfl, h⟩
      · right; rw [if_neg h]
    · by_cases h : Small (y + z)
      · left; rw [if_pos h]; exact ⟨rfl, h⟩
      · right; rw [if_neg h]
  unfold Ans at HADD HADE
  clear HF HXX HXR HYR HZR HTW
  generalize numT (x + z) = pn at *
  generalize denT (x + z) = pd at *
  generalize errT (x + z) = pe at *
  generalize numT (y + z) = qn at *
  generalize denT (y + z) = qd at *
  generalize errT (y + z) = qe at *
  have hcase : (Y = 0 ∧ n1.toList = n2.toList ∧ d1.toList = d2.toList) ∨ (¬ Y = 0 ∧ ¬ n1.toList = n2.toList) ∨ (¬ Y = 0 ∧ n1.toList = n2.toList ∧ ¬ d1.toList = d2.toList) := by
    by_cases h0 : X = 0
    · obtain ⟨rfl, rfl⟩ := f4 h0
      exact Or.inl ⟨by omega, rfl, rfl⟩
    · right
      have hn := f5 h0
      by_cases hn1 : n1.toList = n2.toList
      · right
        refine ⟨by omega, hn1, fun hd => hn ⟨?_, ?_⟩⟩
        · exact bytes_ext (by rw [← Lib.toList_data, ← Lib.toList_data]; exact hn1)
        · exact bytes_ext (by rw [← Lib.toList_data, ← Lib.toList_data]; exact hd)
      · left; exact ⟨by omega, hn1⟩
  clear f4 f5
  have f7 : ¬ (X ≤ 0 ∧ Z ≤ 0 ∧ 0 < T) := fun h => by have := f6 h.1 h.2.1; omega
  clear f6
  have hc2 : (¬ X ≤ 0) ∨ (X ≤ 0 ∧ ¬ Z ≤ 0) ∨ (X ≤ 0 ∧ Z ≤ 0 ∧ ¬ 0 < T) := by omega
  clear f7
  subst f1
  have H2 := hide hc2
  have HE2 := hide (unhide HER)
  clear hc2 HER
  have hk : ¬ Y = 0 → (-Y == 0) = false := fun h => by rw [beq_eq_false_iff_ne]; omega
  have hk' : ¬ Y = 0 → (Y == 0) = false := fun h => by rw [beq_eq_false_iff_ne]; omega
  rcases hcase with ⟨k1, k2, k3⟩ | ⟨k1, k2⟩ | ⟨k1, k2, k3⟩
  all_goals
    (first | (have k6 := hk k1; have k7 := hk' k1) | skip)
    clear hk hk'
    go_upto_region 7 with fail
    try clear k3
    clear k2
    go_upto_region 8 with (go_at_call 46; go_must (refine (unhide HCbc _).mono ?_; rintro e w6 ⟨rfl, hb1⟩; have HS6 := hide ((unhide HS5).later hb1); clear hb1 a0 a1 b0 b1 e0 e1; have a0 := (unhide HS6).a.c0; have a1 := (unhide HS6).a.c1; have b0 := (unhide HS6).b.c0; have b1 := (unhide HS6).b.c1; have e0 := (unhide HS6).c.c0; have e1 := (unhide HS6).c.c1))
    go_upto_region 9 with (go_at_call 46; go_must (refine (unhide HCac _).mono ?_; rintro e w7 ⟨rfl, hb1⟩; have HS7 := hide ((unhide HS6).later hb1); clear hb1 a0 a1 b0 b1 e0 e1; have a0 := (unhide HS7).a.c0; have a1 := (unhide HS7).a.c1; have b0 := (unhide HS7).b.c0; have b1 := (unhide HS7).b.c1; have e0 := (unhide HS7).c.c0; have e1 := (unhide HS7).c.c1))
    clear HS5 HS6
    have HS7' := HS7
    rcases unhide H2 with g1 | ⟨g1, g2⟩ | ⟨g1, g2, g3⟩
    all_goals
      first
      | (exfalso; omega)
      | (go_upto_region 11 with fail
         go_upto_region 12 with (go_at_call 28; go_must (refine (unhide HADD _ (unhide HS7).below).mono ?_; rintro e w8 ⟨rfl, hb1⟩; have HS8 := hide (((unhide HS7).later hb1)); clear hb1 a0 a1 b0 b1 e0 e1))
         obtain ⟨V9, hV9⟩ : ∃ V9, V9 = w8.alloc (.cells #[.string pn, .string pd] 23) := ⟨_, rfl⟩
         have HS9 : Hid (L3 w V9 n1 d1 n2 d2 n3 d3 [(w8.heap.size, pn, pd)]) := by rw [hV9]; exact (unhide HS8).push _ _
         rw [← hV9]
         clear hV9 HS7 HS7' HS8
         generalize w8.heap.size = gp at *
         have b0 := (unhide HS9).b.c0; have b1 := (unhide HS9).b.c1; have e0 := (unhide HS9).c.c0; have e1 := (unhide HS9).c.c1
         go_upto_region 13 with (go_at_call 28; go_must (refine (unhide HADE _ (unhide HS9).below).mono ?_; rintro e wq ⟨rfl, hb1⟩; have HSQ := hide ((unhide HS9).later hb1); clear hb1 b0 b1 e0 e1))
         obtain ⟨VA, hVA⟩ : ∃ VA, VA = wq.alloc (.cells #[.string qn, .string qd] 23) := ⟨_, rfl⟩
         have HSA : Hid (L3 w VA n1 d1 n2 d2 n3 d3 [(wq.heap.size, qn, qd), (gp, pn, pd)]) := by rw [hVA]; exact (unhide HSQ).push _ _
         rw [← hVA]
         clear hVA HS9 HSQ
         generalize wq.heap.size = gq at *
         have p0 := ((unhide HSA).bx (gp, pn, pd) (by simp)).c0; have p1 := ((unhide HSA).bx (gp, pn, pd) (by simp)).c1; have q0 := ((unhide HSA).bx (gq, qn, qd) (by simp)).c0; have q1 := ((unhide HSA).bx (gq, qn, qd) (by simp)).c1
         dsimp only at p0 p1 q0 q1
         obtain ⟨h1, h2⟩ := unhide HE2
         rcases h1 with ⟨k4, s1⟩ | k4
         · rcases h2 with ⟨k5, s2⟩ | k5
           · have HEN := hide (fun W => unhide HEND W s1 s2)
             clear s1 s2
             go_wp2_with (first
               | (go_at_call 46; go_must (refine (unhide HEN _).mono ?_; rintro e wr ⟨rfl, hb1⟩; have HSR := hide ((unhide HSA).below.trans (hb1.mono (unhide HSA).below.size)); clear hb1 p0 p1 q0 q1))
               | (go_at_call 21; go_must (refine (unhide HAW _ (unhide HSR)).mono ?_; rintro e wz ⟨rfl, hbz⟩; have HZZ := hide ((unhide HSR).trans (hbz.mono (unhide HSR).size)); clear hbz)))
             go_ret
             exact ⟨rfl, unhide HZZ⟩
           · clear s1
             go_wp2_with (go_at_call 21; go_must (refine (unhide HAW _ (unhide HSA).below).mono ?_; rintro e wz ⟨rfl, hbz⟩; have HZZ := hide ((unhide HSA).below.trans (hbz.mono (unhide HSA).below.size)); clear hbz))
             go_ret
             exact ⟨rfl, unhide HZZ⟩
         · clear h2
           go_wp2_with (go_at_call 21; go_must (refine (unhide HAW _ (unhide HSA).below).mono ?_; rintro e wz ⟨rfl, hbz⟩; have HZZ := hide ((unhide HSA).below.trans (hbz.mono (unhide HSA).below.size)); clear hbz))
           go_ret
           exact ⟨rfl, unhide HZZ⟩)
end Go.Proofs.YtoinadnpdbaamaaGreatDoor

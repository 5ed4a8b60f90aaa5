/- The walk of RatPowers; the law whole. -/
import Derived.Test.YtoinadnpdbaamaaGreatDoorRPow
import Derived.Test.YtoinadnpdbaamaaGreatDoorFieldM
namespace Go.Proofs.YtoinadnpdbaamaaGreatDoor
open Go.RowKit

/-- A number in its box, and more of them. -/
structure P1 (w W : World) (n1 d1 : ByteArray) (L : List (Nat × ByteArray × ByteArray)) : Prop where
  a : T2 W w.heap.size (.string n1) (.string d1)
  bx : ∀ p ∈ L, T2 W p.1 (.string p.2.1) (.string p.2.2)
  below : Below w.heap.size w W
theorem P1.later {w W V : World} {n1 d1 : ByteArray} {L : List (Nat × ByteArray × ByteArray)} (s : P1 w W n1 d1 L) (hb : Below W.heap.size W V) : P1 w V n1 d1 L :=
  ⟨s.a.later hb, fun p hp => (s.bx p hp).later hb, s.below.trans (hb.mono s.below.size)⟩
theorem P1.first (w : World) (n1 d1 : ByteArray) : P1 w (w.alloc (.cells #[.string n1, .string d1] 23)) n1 d1 [] :=
  ⟨⟨by simp [go_sem], by simp [go_sem], by simp [go_sem], by simp [go_sem]⟩, (fun _ h => by cases h), (Below.refl _ _).alloc (Nat.le_refl _) _⟩
theorem P1.push {w W : World} {n1 d1 : ByteArray} {L : List (Nat × ByteArray × ByteArray)} (s : P1 w W n1 d1 L) (x y : ByteArray) : P1 w (W.alloc (.cells #[.string x, .string y] 23)) n1 d1 ((W.heap.size, x, y) :: L) := by
  have t := s.later ((Below.refl W.heap.size W).alloc (Nat.le_refl _) (.cells #[.string x, .string y] 23))
  refine ⟨t.a, ?_, t.below⟩
  intro p hp
  rcases List.mem_cons.1 hp with rfl | hp
  · exact ⟨by simp [go_sem], by simp [go_sem], by simp [go_sem], by simp [go_sem]⟩
  · exact t.bx p hp

set_option maxRecDepth 100000 in
set_option maxHeartbeats 8000000 in
theorem powers_walk (n1 d1 xn xd yn yd zn zd : ByteArray) (xe ye ze : Int) (m n : Int) (w : World) (r1 : RB n1 d1 true) (hnz : (n1.toList == [48]) = false)
    (hm1 : -63 ≤ m.tmod 64) (hm2 : m.tmod 64 ≤ 63) (hn1 : -63 ≤ n.tmod 64) (hn2 : n.tmod 64 ≤ 63)
    (c1 : ∀ W, Below w.heap.size w W → Calls Tryz.prog 40 #[.agg #[.string n1, .string d1], .int .i64 (m.tmod 64)] W fun r w' => r = .returned (.tuple #[.agg #[.string xn, .string xd], .int .i64 xe]) ∧ Below W.heap.size W w')
    (c2 : ∀ W, Below w.heap.size w W → Calls Tryz.prog 40 #[.agg #[.string n1, .string d1], .int .i64 (n.tmod 64)] W fun r w' => r = .returned (.tuple #[.agg #[.string yn, .string yd], .int .i64 ye]) ∧ Below W.heap.size W w')
    (c3 : ∀ W, Below w.heap.size w W → Calls Tryz.prog 40 #[.agg #[.string n1, .string d1], .int .i64 (m.tmod 64 + n.tmod 64)] W fun r w' => r = .returned (.tuple #[.agg #[.string zn, .string zd], .int .i64 ze]) ∧ Below W.heap.size W w')
    (c4 : xe = 0 → ye = 0 → ze = 0 → ∀ W, Below w.heap.size w W → Calls Tryz.prog 32 #[.agg #[.string xn, .string xd], .agg #[.string yn, .string yd]] W fun r w' => r = .returned (.tuple #[.agg #[.string zn, .string zd], .int .i64 0]) ∧ Below W.heap.size W w')
    (he : xe = 7 ∨ (xe = 0 ∧ ye = 7) ∨ (xe = 0 ∧ ye = 0 ∧ ze = 7) ∨ (xe = 0 ∧ ye = 0 ∧ ze = 0))
    (haw : ∀ W, Below w.heap.size w W → Calls Tryz.prog 21 #[] W fun r w' => r = .returned (.bool true) ∧ Below W.heap.size W w') :
    Calls Tryz.prog 13 #[.agg #[.string n1, .string d1], .int .i64 m, .int .i64 n] w fun r w' => r = .returned (.bool true) ∧ Below w.heap.size w w' := by
  obtain ⟨V, hV⟩ : ∃ V, V = w.alloc (.cells #[.string n1, .string d1] 23) := ⟨_, rfl⟩
  have HS : Hid (P1 w V n1 d1 []) := by rw [hV]; exact P1.first _ _ _
  have HV := hide hV
  have HR1 := hide r1
  have HAW := hide haw
  have HC1 := hide c1; have HC2 := hide c2; have HC3 := hide c3; have HC4 := hide c4
  clear r1 haw c1 c2 c3 c4
  go_enter Tryz.func13, Tryz.ntmps13
  go_upto_region 2 with fail
  generalize m.tmod 64 = M at *
  generalize n.tmod 64 = N at *
  rw [← unhide HV]
  clear hV HV
  have a0 := (unhide HS).a.c0; have a1 := (unhide HS).a.c1
  go_upto_region 4 with (go_at_call 18; go_must (refine (unhide HR1 _).mono ?_; rintro e w1 ⟨rfl, hb1⟩; have HS1 := hide ((unhide HS).later hb1); clear hb1 a0 a1; have a0 := (unhide HS1).a.c0; have a1 := (unhide HS1).a.c1))
  clear HS
  go_upto_region 5 with (go_at_call 40; go_must (refine (unhide HC1 _ (unhide HS1).below).mono ?_; rintro e w2 ⟨rfl, hb1⟩; have HT1 := hide ((unhide HS1).later hb1); clear hb1 a0 a1 ))
  obtain ⟨V1, hV1⟩ : ∃ V1, V1 = w2.alloc (.cells #[.string xn, .string xd] 23) := ⟨_, rfl⟩
  have HS2 : Hid (P1 w V1 n1 d1 ((w2.heap.size, xn, xd) :: [])) := by rw [hV1]; exact (unhide HT1).push _ _
  rw [← hV1]
  clear hV1 HS1 HT1
  generalize w2.heap.size = gkx at *
  have a0 := (unhide HS2).a.c0; have a1 := (unhide HS2).a.c1
  go_upto_region 6 with (go_at_call 40; go_must (refine (unhide HC2 _ (unhide HS2).below).mono ?_; rintro e w3 ⟨rfl, hb1⟩; have HT2 := hide ((unhide HS2).later hb1); clear hb1 a0 a1 ))
  obtain ⟨V2, hV2⟩ : ∃ V2, V2 = w3.alloc (.cells #[.string yn, .string yd] 23) := ⟨_, rfl⟩
  have HS3 : Hid (P1 w V2 n1 d1 ((w3.heap.size, yn, yd) :: [(gkx, xn, xd)])) := by rw [hV2]; exact (unhide HT2).push _ _
  rw [← hV2]
  clear hV2 HS2 HT2
  generalize w3.heap.size = gky at *
  have a0 := (unhide HS3).a.c0; have a1 := (unhide HS3).a.c1
  go_upto_region 7 with (go_at_call 40; go_must (refine (unhide HC3 _ (unhide HS3).below).mono ?_; rintro e w4 ⟨rfl, hb1⟩; have HT3 := hide ((unhide HS3).later hb1); clear hb1 a0 a1 ))
  obtain ⟨V3, hV3⟩ : ∃ V3, V3 = w4.alloc (.cells #[.string zn, .string zd] 23) := ⟨_, rfl⟩
  have HS4 : Hid (P1 w V3 n1 d1 ((w4.heap.size, zn, zd) :: [(gky, yn, yd), (gkx, xn, xd)])) := by rw [hV3]; exact (unhide HT3).push _ _
  rw [← hV3]
  clear hV3 HS3 HT3
  generalize w4.heap.size = gkz at *
  have a0 := (unhide HS4).a.c0; have a1 := (unhide HS4).a.c1
  have kz0 := ((unhide HS4).bx (gkz, zn, zd) (by simp)).c0; have kz1 := ((unhide HS4).bx (gkz, zn, zd) (by simp)).c1
  dsimp only at kz0 kz1
  have ky0 := ((unhide HS4).bx (gky, yn, yd) (by simp)).c0; have ky1 := ((unhide HS4).bx (gky, yn, yd) (by simp)).c1
  dsimp only at ky0 ky1
  have kx0 := ((unhide HS4).bx (gkx, xn, xd) (by simp)).c0; have kx1 := ((unhide HS4).bx (gkx, xn, xd) (by simp)).c1
  dsimp only at kx0 kx1
  rcases he with rfl | ⟨rfl, rfl⟩ | ⟨rfl, rfl, rfl⟩ | ⟨rfl, rfl, rfl⟩
  · skip
    go_wp2_with (go_at_call 21; go_must (refine (unhide HAW _ (unhide HS4).below).mono ?_; rintro e wz ⟨rfl, hbz⟩; have HZZ := hide ((unhide HS4).below.trans (hbz.mono (unhide HS4).below.size)); clear hbz))
    go_ret
    exact ⟨rfl, unhide HZZ⟩
  · skip
    go_wp2_with (go_at_call 21; go_must (refine (unhide HAW _ (unhide HS4).below).mono ?_; rintro e wz ⟨rfl, hbz⟩; have HZZ := hide ((unhide HS4).below.trans (hbz.mono (unhide HS4).below.size)); clear hbz))
    go_ret
    exact ⟨rfl, unhide HZZ⟩
  · skip
    go_wp2_with (go_at_call 21; go_must (refine (unhide HAW _ (unhide HS4).below).mono ?_; rintro e wz ⟨rfl, hbz⟩; have HZZ := hide ((unhide HS4).below.trans (hbz.mono (unhide HS4).below.size)); clear hbz))
    go_ret
    exact ⟨rfl, unhide HZZ⟩
  · have H4 := hide (unhide HC4 rfl rfl rfl)
    go_upto_region 9 with fail
    go_upto_region 10 with (go_at_call 32; go_must (refine (unhide H4 _ (unhide HS4).below).mono ?_; rintro e w5 ⟨rfl, hb1⟩; have HT4 := hide ((unhide HS4).later hb1); clear hb1 a0 a1 kx0 kx1 ky0 ky1 kz0 kz1))
    obtain ⟨V4, hV4⟩ : ∃ V4, V4 = w5.alloc (.cells #[.string zn, .string zd] 23) := ⟨_, rfl⟩
    have HS5 : Hid (P1 w V4 n1 d1 ((w5.heap.size, zn, zd) :: [(gkz, zn, zd), (gky, yn, yd), (gkx, xn, xd)])) := by rw [hV4]; exact (unhide HT4).push _ _
    rw [← hV4]
    clear hV4 HS4 HT4
    generalize w5.heap.size = gkq at *
    have a0 := (unhide HS5).a.c0; have a1 := (unhide HS5).a.c1
    have kq0 := ((unhide HS5).bx (gkq, zn, zd) (by simp)).c0; have kq1 := ((unhide HS5).bx (gkq, zn, zd) (by simp)).c1
    dsimp only at kq0 kq1
    have kz0 := ((unhide HS5).bx (gkz, zn, zd) (by simp)).c0; have kz1 := ((unhide HS5).bx (gkz, zn, zd) (by simp)).c1
    dsimp only at kz0 kz1
    go_wp2_with (go_at_call 21; go_must (refine (unhide HAW _ (unhide HS5).below).mono ?_; rintro e wz ⟨rfl, hbz⟩; have HZZ := hide ((unhide HS5).below.trans (hbz.mono (unhide HS5).below.size)); clear hbz))
    go_ret
    exact ⟨rfl, unhide HZZ⟩

set_option maxRecDepth 100000 in
set_option maxHeartbeats 2000000 in
theorem powers_no (n1 d1 : ByteArray) (ok : Bool) (m n : Int) (w : World) (r1 : RB n1 d1 ok) (h : ok = false ∨ (ok = true ∧ (n1.toList == [48]) = true))
    (haw : ∀ W, Below w.heap.size w W → Calls Tryz.prog 21 #[] W fun r w' => r = .returned (.bool true) ∧ Below W.heap.size W w') :
    Calls Tryz.prog 13 #[.agg #[.string n1, .string d1], .int .i64 m, .int .i64 n] w fun r w' => r = .returned (.bool true) ∧ Below w.heap.size w w' := by
  obtain ⟨V, hV⟩ : ∃ V, V = w.alloc (.cells #[.string n1, .string d1] 23) := ⟨_, rfl⟩
  have HS : Hid (P1 w V n1 d1 []) := by rw [hV]; exact P1.first _ _ _
  have HV := hide hV
  have HR1 := hide r1
  have HAW := hide haw
  clear r1 haw
  go_enter Tryz.func13, Tryz.ntmps13
  go_upto_region 2 with fail
  generalize m.tmod 64 = M at *
  generalize n.tmod 64 = N at *
  rw [← unhide HV]
  clear hV HV
  have a0 := (unhide HS).a.c0; have a1 := (unhide HS).a.c1
  rcases h with rfl | ⟨rfl, h0⟩
  all_goals
    go_wp2_with (first
      | (go_at_call 18; go_must (refine (unhide HR1 _).mono ?_; rintro e w1 ⟨rfl, hb1⟩; have HS1 := hide ((unhide HS).later hb1); clear hb1 a0 a1; have a0 := (unhide HS1).a.c0; have a1 := (unhide HS1).a.c1))
      | (go_at_call 21; go_must (refine (unhide HAW _ (unhide HS1).below).mono ?_; rintro e wz ⟨rfl, hbz⟩; have HZZ := hide ((unhide HS1).below.trans (hbz.mono (unhide HS1).below.size)); clear hbz)))
    go_ret
    exact ⟨rfl, unhide HZZ⟩
theorem tmod_range (m : Int) : -63 ≤ m.tmod 64 ∧ m.tmod 64 ≤ 63 := by
  have h1 := Int.tmod_lt_of_pos m (by decide : (0 : Int) < 64)
  have h2 := Int.lt_tmod_of_pos m (by decide : (0 : Int) < 64)
  omega
theorem law_powers (n1 d1 : ByteArray) (m n : Int) (w : World) (htab : Tab w) (s1 : n1.size ≤ maxLen) (s2 : d1.size ≤ maxLen) :
    Calls Tryz.prog 13 #[.agg #[.string n1, .string d1], .int .i64 m, .int .i64 n] w fun r w' => r = .returned (.bool true) ∧ Below w.heap.size w w' := by
  have haw : ∀ W, Below w.heap.size w W → Calls Tryz.prog 21 #[] W fun r w' => r = .returned (.bool true) ∧ Below W.heap.size W w' := fun W hb => awake_any W (htab.later hb)
  by_cases h : RightT n1 d1
  · obtain ⟨x, hx⟩ := (right_isR _ _).1 h
    by_cases hz : (n1.toList == [48]) = true
    · exact powers_no n1 d1 true m n w (rb_yes s1 s2 h) (Or.inr ⟨rfl, hz⟩) haw
    · have hz' : (n1.toList == [48]) = false := by simpa using hz
      have hx0 : x ≠ 0 := fun h0 => by
        have := (num_zero hx.1).2 h0
        rw [← hx.2.1] at this
        exact hz this
      obtain ⟨a1, a2⟩ := tmod_range m
      obtain ⟨b1, b2⟩ := tmod_range n
      have T := fun W (hb : Below w.heap.size w W) => htab.later hb
      refine powers_walk n1 d1 _ _ _ _ _ _ _ _ _ m n w (rb_yes s1 s2 h) hz' a1 a2 b1 b2
        (fun W hb => rpow_ok n1 d1 x (m.tmod 64) W hx (by omega) (by omega) hx0 (T W hb))
        (fun W hb => rpow_ok n1 d1 x (n.tmod 64) W hx (by omega) (by omega) hx0 (T W hb))
        (fun W hb => rpow_ok n1 d1 x (m.tmod 64 + n.tmod 64) W hx (by omega) (by omega) hx0 (T W hb)) ?_ ?_ haw
      · intro e1 e2 e3 W hb
        have := rmul_ok _ _ _ _ (Cub.pw x (m.tmod 64)) (Cub.pw x (n.tmod 64)) W (numT_of (small_of e1)) (numT_of (small_of e2)) (T W hb)
        rwa [Cub.pw_add x hx0, e3] at this
      · have E : ∀ q : Rat, errT q = 0 ∨ errT q = 7 := fun q => by
          by_cases hs : Small q
          · exact Or.inl (errT_pos hs)
          · exact Or.inr (errT_neg hs)
        rcases E (Cub.pw x (m.tmod 64)) with h1 | h1
        · rcases E (Cub.pw x (n.tmod 64)) with h2 | h2
          · rcases E (Cub.pw x (m.tmod 64 + n.tmod 64)) with h3 | h3
            · exact Or.inr (Or.inr (Or.inr ⟨h1, h2, h3⟩))
            · exact Or.inr (Or.inr (Or.inl ⟨h1, h2, h3⟩))
          · exact Or.inr (Or.inl ⟨h1, h2⟩)
        · exact Or.inl h1
  · exact powers_no n1 d1 false m n w (rb_no s1 s2 h) (Or.inl rfl) haw
end Go.Proofs.YtoinadnpdbaamaaGreatDoor

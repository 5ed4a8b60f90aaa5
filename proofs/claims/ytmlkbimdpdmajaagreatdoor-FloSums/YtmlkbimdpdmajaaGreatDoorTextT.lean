/- flo: Text (22) at 0.1: none of the words is its text. -/
import Derived.Test.YtmlkbimdpdmajaaGreatDoorWords
import Derived.Test.YtmlkbimdpdmajaaGreatDoorNearest2
import Derived.Test.YtmlkbimdpdmajaaGreatDoorNearTo
namespace Go.Proofs.YtmlkbimdpdmajaaGreatDoor
open Go.RowKit Go.Maps Go.ChangeMaps Go.WideMaps
attribute [local go_sem] run_bits run_from
set_option maxRecDepth 100000 in
theorem signbit_tenth (w : World) : Calls Tryz.prog 36 #[.float .f64 4591870180066957722] w fun e w' => e = .returned (.bool false) ∧ w' = w := by
  go_enter Tryz.func36, Tryz.ntmps36
  go_wp2
  go_ret
  exact ⟨rfl, rfl⟩
theorem keyOf_string_inv {P : Program} {k : TypeId} (hk : P.underlying k = some .string) {key : Value} {kl : Lit} (h : keyOf P k key = some kl) : ∃ s, key = .string s := by
  cases key <;> simp [keyOf, hk, mapKey] at h
  exact ⟨_, rfl⟩
theorem order_word (b : Nat) (h : b = 9221120237041090561 ∨ b = 9218868437227405312 ∨ b = 18442240474082181120) (w : World) : Calls Tryz.prog 17 #[.float .f64 4591870180066957722, .float .f64 b] w fun e w' => ∃ q : Int, q ≠ 0 ∧ e = .returned (.int .i64 q) ∧ w' = w := by
  have hb : b < 18446744073709551616 ∧ Cub.cmpN (rk 4591870180066957722) (rk b) ≠ 0 := by
    rcases h with rfl | rfl | rfl <;> decide +kernel
  refine (order_any 4591870180066957722 b (by decide) hb.1 w).mono ?_
  rintro e w' ⟨rfl, hw⟩
  exact ⟨_, hb.2, rfl, hw⟩
theorem word_left {kl : Lit} {v : Value} {y : DataW Unit × List MemPlace} (h1 : Maps.has (wD 3) kl = true) (h2 : wR v = some y) (h3 : ∀ zd, (wD 3).atKey kl zd = y.1) : ∃ b : Nat, v = .float .f64 b ∧ (b = 9221120237041090561 ∨ b = 9218868437227405312 ∨ b = 18442240474082181120) := by
  obtain ⟨d, ps⟩ := y
  have e := h3 (.map [])
  have hd : d = .lit (.int .i64 9221120237041090561) ∨ d = .lit (.int .i64 9218868437227405312) ∨ d = .lit (.int .i64 18442240474082181120) := by
    rcases wD_at kl (.map []) h1 with h | h | h
    · exact Or.inl (e.symm.trans h)
    · exact Or.inr (Or.inl (e.symm.trans h))
    · exact Or.inr (Or.inr (e.symm.trans h))
  clear e h3 h1
  rcases hd with rfl | rfl | rfl
  · obtain ⟨b, rfl, hb⟩ := wR_inv h2
    exact ⟨b, rfl, Or.inl (by omega)⟩
  · obtain ⟨b, rfl, hb⟩ := wR_inv h2
    exact ⟨b, rfl, Or.inr (Or.inl (by omega))⟩
  · obtain ⟨b, rfl, hb⟩ := wR_inv h2
    exact ⟨b, rfl, Or.inr (Or.inr (by omega))⟩
set_option maxRecDepth 100000 in
set_option maxHeartbeats 2000000 in
theorem text_tenth (w : World) (htab : Tab w) : Calls Tryz.prog 22 #[.float .f64 4591870180066957722] w fun r w' => r = .returned (.string ⟨#[48, 46, 49]⟩) ∧ Below w.heap.size w w' := by
  have HTAB := hide htab
  clear htab
  obtain ⟨g, hg⟩ : ∃ g, g = w.heap.size := ⟨_, rfl⟩
  have HG0 : Hid (g = w.heap.size) := hg
  clear hg
  have HW : Hid (Calls Tryz.prog 33 #[] w fun r w' => r = .returned (.map (some g)) ∧ w'.ownsMap Tryz.prog 9 wR g 3 (wD 3) ∧ Below w.heap.size w w') := by rw [unhide HG0]; exact words_any w
  have HS : Hid (∀ W, Below w.heap.size w W → Calls Tryz.prog 35 #[.float .f64 4591870180066957722] W fun e w' => e = .returned (.tuple #[.string ⟨#[49]⟩, .int .i64 0]) ∧ Below W.heap.size W w') := fun W hW => shortest_hi W ((unhide HTAB).later hW)
  go_enter Tryz.func22, Tryz.ntmps22
  go_wp2_with (first
    | (go_at_call 33; go_must (refine (unhide HW).mono ?_; rintro e w1 ⟨rfl, hown, hb⟩; have HO := hide hown; have HB := hide hb; clear hown hb))
    | (at_range; refine wpList_range_own _ rfl _ 60 rfl 9 25 (string_keyed Tryz.underlying9) underM wR g 3 (wD 3) rfl (unhide HO) ?_; intro w3 hrg hgr hsz; go_frame))
  have HRG : Hid (w3.ranges Tryz.prog 9 wR g w1.heap.size 3 (wD 3) (Maps.has (wD 3)) (Maps.size (wD 3))) := hrg
  have HB3 : Hid (Below w.heap.size w w3 ∧ w1.heap.size < w3.heap.size) := ⟨(unhide HB).grown hgr (unhide HB).size (fun j hj => by cases hj), by omega⟩
  clear hrg hgr hsz
  go_loopw [3, 4] (fun _ _ wr => ∃ (left : Lit → Bool) (cnt : Nat), Hid (wr.ranges Tryz.prog 9 wR g w1.heap.size 3 (wD 3) left cnt) ∧ Hid (∀ kl, left kl = true → Maps.has (wD 3) kl = true) ∧ Hid (Below w.heap.size w wr)) (fun _ _ wr => wr.rangeLeft g w1.heap.size)
  case atStart => exact ⟨_, _, HRG, fun _ h => h, (unhide HB3).1⟩
  case round =>
    obtain ⟨left, cnt, HG, HL, HBr⟩ := hrel
    go_wp2_with (at_next; go_loud (refine wpList_next_ranges _ rfl _ rfl 9 (string_keyed Tryz.underlying9) wR (fun x : ByteArray => .string x) (fun v : Value => v) (fun key kl h => keyOf_string_inv Tryz.underlying9 h) (fun v y _ => ⟨v, rfl⟩) g w1.heap.size 3 (wD 3) left cnt rfl (unhide HG) ?_ ?_))
    · intro _ hl0
      clear hl0 HL HG
      go_wp2_with (first
        | (go_at_call 35; go_must (refine (unhide HS _ (unhide HBr)).mono ?_; rintro e w5 ⟨rfl, hb⟩; have HB5 := hide ((unhide HBr).trans (hb.mono (unhide HBr).size)); clear hb))
        | (go_at_call 34; go_must (refine (laid_one _).mono ?_; rintro e w6 ⟨rfl, hw6⟩; have hw7 := hw6.symm; subst hw7; clear hw6))
        | (go_at_call 36; go_must (refine (signbit_tenth _).mono ?_; rintro e w6 ⟨rfl, hw6⟩; have hw7 := hw6.symm; subst hw7; clear hw6)))
      go_ret
      exact ⟨rfl, unhide HB5⟩
    · intro x v kl d ps w4 cnt4 hkx hlx hv hat hrg4 hlt hg4 hs4 hen
      obtain ⟨b, rfl, hb3⟩ := word_left (y := (d, ps)) ((unhide HL) kl hlx) hv hat
      have HB4 : Hid (Below w.heap.size w w4) := (unhide HBr).grown hg4 (unhide HBr).size (fun j hj => by cases hj; exact (unhide HB).size)
      have HORD : Hid (∀ W, Calls Tryz.prog 17 #[.float .f64 4591870180066957722, .float .f64 b] W fun e w' => ∃ q : Int, q ≠ 0 ∧ e = .returned (.int .i64 q) ∧ w' = W) := order_word b hb3
      have HG4 := hide hrg4
      have HLT : Hid (cnt4 < cnt) := hlt
      have HL1 : Hid (∀ z, (left z && !z.sameKey kl) = true → Maps.has (wD 3) z = true) := fun z h => (unhide HL) z (by simp at h; exact h.1)
      clear hrg4 hlt hkx hlx hv hat hg4 hs4 hb3
      go_wp2_with (go_at_call 17; go_must (refine (unhide HORD _).mono ?_; rintro e w6 ⟨q, hq, rfl, hw6⟩; have hw7 := hw6.symm; subst hw7; clear hw6))
      go_roundw
      case rel => exact ⟨_, _, HG4, HL1, HB4⟩
      case measure => rw [(unhide HG4).left_eq, (unhide HG).left_eq]; exact unhide HLT
/-- The law's known answers. -/
theorem known_ok (w : World) (htab : Tab w) : Calls Tryz.prog 14 #[] w fun r w' => r = .returned (.bool true) ∧ Below w.heap.size w w' := by
  have HN : Hid (Calls Tryz.prog 21 #[.agg #[.string ⟨#[49]⟩, .string ⟨#[49, 48]⟩]] w fun e w' => e = .returned (.tuple #[.float .f64 4591870180066957722, .int .i64 0]) ∧ Below w.heap.size w w') := near_tenth w htab
  have HT : Hid (∀ W, Below w.heap.size w W → Calls Tryz.prog 22 #[.float .f64 4591870180066957722] W fun r w' => r = .returned (.string ⟨#[48, 46, 49]⟩) ∧ Below W.heap.size W w') := fun W hW => text_tenth W (htab.later hW)
  have HO : Hid (∀ W, Calls Tryz.prog 17 #[.float .f64 4607182418800017408, .float .f64 4611686018427387904] W fun e w' => e = .returned (.int .i64 (-1)) ∧ w' = W) := fun W => by
    have h : Cub.cmpN (rk 4607182418800017408) (rk 4611686018427387904) = -1 := by decide +kernel
    rw [← h]
    exact order_any _ _ (by decide) (by decide) W
  clear htab
  go_enter Tryz.func14, Tryz.ntmps14
  go_wp2_with (first
    | (go_at_call 21; go_must (refine (unhide HN).mono ?_; rintro e w1 ⟨rfl, hb⟩; have HB := hide hb; clear hb))
    | (go_at_call 22; go_must (refine (unhide HT _ (unhide HB)).mono ?_; rintro e w2 ⟨rfl, hb⟩; have HB2 := hide ((unhide HB).trans (hb.mono (unhide HB).size)); clear hb))
    | (go_at_call 17; go_must (refine (unhide HO _).mono ?_; rintro e w6 ⟨rfl, hw6⟩; have hw7 := hw6.symm; subst hw7; clear hw6)))
  go_ret
  exact ⟨rfl, unhide HB2⟩
end Go.Proofs.YtmlkbimdpdmajaaGreatDoor

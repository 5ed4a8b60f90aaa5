/- The document's own Power. -/
import Derived.Test.YtlodfcdckeiafaaDoorListRef
namespace Go.Proofs.YtlodfcdckeiafaaDoor
open Go.RowKit

/-- How far Power has come: what is there times what is still to come is the power; nothing on the way is M or above. -/
def PowInv (P M out a q : Nat) : Prop := out * a ^ q = P ∧ out < M ∧ (0 < q → a < M) ∧ (out = 0 → a = 0)
theorem PowInv.start (m n M : Nat) (h : m ^ n < M) (h1 : 1 < M) : PowInv (m ^ n) M 1 m n := by
  refine ⟨Nat.one_mul _, h1, fun hn => ?_, fun h => by omega⟩
  by_cases h0 : m = 0
  · omega
  · have : m ^ 1 ≤ m ^ n := Nat.pow_le_pow_right (by omega) hn
    rw [Nat.pow_one] at this; omega
theorem PowInv.last {P M out a : Nat} (h : PowInv P M out a 0) : out = P := by
  have := h.1; rw [Nat.pow_zero, Nat.mul_one] at this; exact this
theorem sq_pow (a q : Nat) : (a * a) ^ (q / 2) * a ^ (q % 2) = a ^ q := by
  rw [← Nat.pow_two, ← Nat.pow_mul, ← Nat.pow_add]
  congr 1; omega
theorem PowInv.outLt {P M out a q : Nat} (h : PowInv P M out a q) (hP : P < M) (hq : 0 < q) : out * a < M := by
  by_cases h0 : a = 0
  · subst h0; have := h.2.1; omega
  · have h1 : a ^ 1 ≤ a ^ q := Nat.pow_le_pow_right (by omega) hq
    rw [Nat.pow_one] at h1
    have h2 : out * a ≤ out * a ^ q := Nat.mul_le_mul_left _ h1
    have := h.1; omega
theorem PowInv.sqLt {P M out a q : Nat} (h : PowInv P M out a q) (hP : P < M) (hq : 2 ≤ q) : a * a < M := by
  by_cases h0 : a = 0
  · subst h0; have := h.2.1; omega
  · have h1 : a ^ 2 ≤ a ^ q := Nat.pow_le_pow_right (by omega) hq
    rw [Nat.pow_two] at h1
    have h2 : 0 < out := Nat.pos_of_ne_zero fun e => h0 (h.2.2.2 e)
    have h3 : a ^ q ≤ out * a ^ q := Nat.le_mul_of_pos_left _ h2
    have := h.1; omega
theorem PowInv.odd {P M out a q : Nat} (h : PowInv P M out a q) (hP : P < M) (hq : q % 2 = 1) : PowInv P M (out * a) (a * a) (q / 2) := by
  refine ⟨?_, h.outLt hP (by omega), fun h2 => h.sqLt hP (by omega), fun e => ?_⟩
  · rw [← h.1, ← sq_pow a q, hq, Nat.pow_one, Nat.mul_assoc, Nat.mul_comm a]
  · rcases Nat.mul_eq_zero.1 e with e | e
    · rw [h.2.2.2 e]
    · rw [e]
theorem PowInv.even {P M out a q : Nat} (h : PowInv P M out a q) (hP : P < M) (hq : q % 2 = 0) (h0 : 0 < q) : PowInv P M out (a * a) (q / 2) := by
  refine ⟨?_, h.2.1, fun h2 => h.sqLt hP (by omega), fun e => ?_⟩
  · rw [← h.1, ← sq_pow a q, hq, Nat.pow_zero, Nat.mul_one]
  · rw [h.2.2.2 e]
/-- The last square is not taken. -/
theorem PowInv.any {P M out a q b : Nat} (h : PowInv P M out a q) (hq : q = 0) (hb : out = 0 → b = 0) : PowInv P M out b q := by
  subst hq
  exact ⟨h.1, h.2.1, fun h => by omega, hb⟩

theorem timesNN (m n r K : Nat) (w : World) (hK : 1 ≤ K) (hK2 : K ≤ 100000) (hm : m < 10 ^ K) (hn : n < 10 ^ K) (hr : r = m * n) :
    Calls Tryd.prog 55 #[.string (nb m), .string (nb n)] w fun e w' => e = .returned (.string (nb r)) ∧ Below w.heap.size w w' := by
  subst hr
  have h := refTimesS_any (nb m) (nb n) w (Nat.le_trans (nb_size m K hK hm) hK2) (Nat.le_trans (nb_size n K hK hn) hK2) (nb_digs m) (nb_digs n)
  rw [nb_val, nb_val] at h
  exact h

set_option maxRecDepth 100000 in
set_option maxHeartbeats 800000 in
theorem refPower_any (m n K : Nat) (w : World) (hn : n ≤ 9223372036854775807) (hK : 1 ≤ K) (hK2 : K ≤ 100000) (hP : m ^ n < 10 ^ K) :
    Calls Tryd.prog 64 #[.string (nb m), .int .i64 (n : Int)] w fun e w' => e = .returned (.string (nb (m ^ n))) ∧ Below w.heap.size w w' := by
  have HS := hide (PowInv.start m n (10 ^ K) hP (one600 K (by omega)))
  have HP := hide hP
  clear hP
  go_enter Tryd.func64, Tryd.ntmps64
  go_wp2
  go_loopw [0, 1, 5] (fun a t o wr => ∃ (av q ov : Nat), a = .string (nb av) ∧ t = .int .i64 (q : Int) ∧ o = .string (nb ov) ∧ q ≤ 9223372036854775807 ∧ Hid (PowInv (m ^ n) (10 ^ K) ov av q) ∧ Below w.heap.size w wr) (fun _ t _ _ => (intOf t).toNat)
  case atStart => exact ⟨m, n, 1, rfl, rfl, by rw [nb_one], hn, HS, Below.refl _ _⟩
  case round =>
    obtain ⟨av, q, ov, rfl, rfl, rfl, hq, HI, hbl⟩ := hrel
    by_cases h0 : 0 < q
    · have H1 := hide (fun W => timesNN ov av (ov * av) K W hK hK2 (unhide HI).2.1 ((unhide HI).2.2.1 h0) rfl)
      have H2 := hide (fun W => timesNN av av (av * av) K W hK hK2 ((unhide HI).2.2.1 h0) ((unhide HI).2.2.1 h0) rfl)
      have HO := hide (fun h => (unhide HI).odd (unhide HP) h)
      have HE := hide (fun h => (unhide HI).even (unhide HP) h h0)
      generalize hA : nb av = A at *
      generalize hO : nb ov = O at *
      generalize hAA : nb (av * av) = AA at *
      generalize hOA : nb (ov * av) = OA at *
      have HEQ := hide (And.intro (And.intro hA hO) (And.intro hAA hOA))
      clear hA hO hAA hOA
      by_cases h1 : q % 2 = 1
      · by_cases h2 : 2 ≤ q
        · go_wp2_with (first
            | (go_at_call_of 55 O; refine (unhide H1 _).mono ?_; rintro e w2 ⟨rfl, hc2⟩; have hb2 := hbl.trans (hc2.mono hbl.size); clear hc2)
            | (go_at_call_of 55 A; refine (unhide H2 _).mono ?_; rintro e w3 ⟨rfl, hc3⟩; have hb3 := hb2.trans (hc3.mono hb2.size); clear hc3))
          go_roundw
          case rel => exact ⟨av * av, q / 2, ov * av, by rw [(unhide HEQ).2.1], by go_num, by rw [(unhide HEQ).2.2], by omega, unhide HO h1, hb3⟩
          case measure => simp [intOf]; omega
        · have hq1 : q = 1 := by omega
          subst hq1
          have HI1 : Hid (PowInv (m ^ n) (10 ^ K) (ov * av) av 0) := (unhide HO (by decide)).any (by decide) (fun e => by
            rcases Nat.mul_eq_zero.1 e with e | e
            · exact (unhide HI).2.2.2 e
            · exact e)
          go_wp2_with (go_at_call_of 55 O; refine (unhide H1 _).mono ?_; rintro e w2 ⟨rfl, hc2⟩; have hb2 := hbl.trans (hc2.mono hbl.size); clear hc2)
          go_roundw
          case rel => exact ⟨av, 0, ov * av, by rw [(unhide HEQ).1.1], by go_num, by rw [(unhide HEQ).2.2], by omega, HI1, hb2⟩
          case measure => simp [intOf]
      · have h2 : 2 ≤ q := by omega
        have h3 : q % 2 = 0 := by omega
        go_wp2_with (go_at_call_of 55 A; refine (unhide H2 _).mono ?_; rintro e w2 ⟨rfl, hc2⟩; have hb2 := hbl.trans (hc2.mono hbl.size); clear hc2)
        go_roundw
        case rel => exact ⟨av * av, q / 2, ov, by rw [(unhide HEQ).2.1], by go_num, by rw [(unhide HEQ).1.2], by omega, unhide HE h3, hb2⟩
        case measure => simp [intOf]; omega
    · have hq0 : q = 0 := by omega
      subst hq0
      have HL := hide (unhide HI).last
      go_wp2
      go_ret
      exact ⟨by rw [unhide HL]; rfl, hbl⟩
end Go.Proofs.YtlodfcdckeiafaaDoor

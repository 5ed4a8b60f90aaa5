/- prefix.All. -/
import Derived.Test.YtpoapffbpgnkpaaGreatDoorRefBig
import Derived.Test.YtpoapffbpgnkpaaGreatDoorCmpMath
import Derived.Test.YtpoapffbpgnkpaaGreatDoorLit2
import Derived.Test.YtpoapffbpgnkpaaGreatDoorRefRows
import Derived.OwnWalk
import Derived.Laws.AppendOwn
import Derived.Laws.EntriesVeiled
import Derived.Deep.Cut
namespace Go.Proofs.YtpoapffbpgnkpaaGreatDoor
open Go.RowKit

/-- How far Power has come: what is there times what is still to come is the power; nothing on the way is M or above. -/
def PowInv (P M out a q : Nat) : Prop := out * a ^ q = P ∧ out < M ∧ (0 < q → a < M) ∧ (out = 0 → a = 0)
theorem PowInv.start (m n M : Nat) (h : m ^ n < M) (h1 : 1 < M) : PowInv (m ^ n) M 1 m n := by
  refine ⟨Nat.one_mul _, h1, fun hn => ?_, fun h => by omega⟩
  by_cases h0 : m = 0
  · omega
  · have : m ^ 1 ≤ m ^ n := Nat.pow_le_pow_right (by omega) hn
    rw [Nat.pow_one] at this; omega
theorem PowInv.last {P M out a : Nat} (h : PowInv P M out a 0) : out = P := by
  have := h.1; rw [Nat.pow_zero, Nat.mul_one] at this; exact this
theorem sq_pow (a q : Nat) : (a * a) ^ (q / 2) * a ^ (q % 2) = a ^ q := by
  rw [← Nat.pow_two, ← Nat.pow_mul, ← Nat.pow_add]
  congr 1; omega
theorem PowInv.outLt {P M out a q : Nat} (h : PowInv P M out a q) (hP : P < M) (hq : 0 < q) : out * a < M := by
  by_cases h0 : a = 0
  · subst h0; have := h.2.1; omega
  · have h1 : a ^ 1 ≤ a ^ q := Nat.pow_le_pow_right (by omega) hq
    rw [Nat.pow_one] at h1
    have h2 : out * a ≤ out * a ^ q := Nat.mul_le_mul_left _ h1
    have := h.1; omega
theorem PowInv.sqLt {P M out a q : Nat} (h : PowInv P M out a q) (hP : P < M) (hq : 2 ≤ q) : a * a < M := by
  by_cases h0 : a = 0
  · subst h0; have := h.2.1; omega
  · have h1 : a ^ 2 ≤ a ^ q := Nat.pow_le_pow_right (by omega) hq
    rw [Nat.pow_two] at h1
    have h2 : 0 < out := Nat.pos_of_ne_zero fun e => h0 (h.2.2.2 e)
    have h3 : a ^ q ≤ out * a ^ q := Nat.le_mul_of_pos_left _ h2
    have := h.1; omega
theorem PowInv.odd {P M out a q : Nat} (h : PowInv P M out a q) (hP : P < M) (hq : q % 2 = 1) : PowInv P M (out * a) (a * a) (q / 2) := by
  refine ⟨?_, h.outLt hP (by omega), fun h2 => h.sqLt hP (by omega), fun e => ?_⟩
  · rw [← h.1, ← sq_pow a q, hq, Nat.pow_one, Nat.mul_assoc, Nat.mul_comm a]
  · rcases Nat.mul_eq_zero.1 e with e | e
    · rw [h.2.2.2 e]
    · rw [e]
theorem PowInv.even {P M out a q : Nat} (h : PowInv P M out a q) (hP : P < M) (hq : q % 2 = 0) (h0 : 0 < q) : PowInv P M out (a * a) (q / 2) := by
  refine ⟨?_, h.2.1, fun h2 => h.sqLt hP (by omega), fun e => ?_⟩
  · rw [← h.1, ← sq_pow a q, hq, Nat.pow_zero, Nat.mul_one]
  · rw [h.2.2.2 e]
/-- The last square is not taken. -/
theorem PowInv.any {P M out a q b : Nat} (h : PowInv P M out a q) (hq : q = 0) (hb : out = 0 → b = 0) : PowInv P M out b q := by
  subst hq
  exact ⟨h.1, h.2.1, fun h => by omega, hb⟩

theorem tx_one : tx 1 = ⟨#[49]⟩ := by rw [← tx_tb 1 (lit_tb ⟨#[49]⟩ 1 (by decide) (by decide)).2]; exact (lit_tb ⟨#[49]⟩ 1 (by decide) (by decide)).1.symm
theorem timesNN (m n r K : Nat) (w : World) (hK : 1 ≤ K) (hK2 : K ≤ 100000) (hm : m < 10 ^ K) (hn : n < 10 ^ K) (hr : r = m * n) :
    Calls Tryz.prog 88 #[.string (tx m), .string (tx n)] w fun e w' => e = .returned (.string (tx r)) ∧ Below w.heap.size w w' := by
  subst hr
  have h := refTimesS_any (tx m) (tx n) w (Nat.le_trans (tx_size hK hm) hK2) (Nat.le_trans (tx_size hK hn) hK2) (tx_nat m).1 (tx_nat n).1
  rw [show Cub.dval (tx m).data.toList = m from tx_val m, show Cub.dval (tx n).data.toList = n from tx_val n] at h
  exact h

set_option maxRecDepth 100000 in
set_option maxHeartbeats 800000 in
theorem refPower_any (m n K : Nat) (w : World) (hn : n ≤ 9223372036854775807) (hK : 1 ≤ K) (hK2 : K ≤ 100000) (hP : m ^ n < 10 ^ K) :
    Calls Tryz.prog 72 #[.string (tx m), .int .i64 (n : Int)] w fun e w' => e = .returned (.string (tx (m ^ n))) ∧ Below w.heap.size w w' := by
  have HS := hide (PowInv.start m n (10 ^ K) hP (Nat.one_lt_pow (by omega) (by decide)))
  have HP := hide hP
  clear hP
  go_enter Tryz.func72, Tryz.ntmps72
  go_wp2
  go_loopw [0, 1, 5] (fun a t o wr => ∃ (av q ov : Nat), a = .string (tx av) ∧ t = .int .i64 (q : Int) ∧ o = .string (tx ov) ∧ q ≤ 9223372036854775807 ∧ Hid (PowInv (m ^ n) (10 ^ K) ov av q) ∧ Below w.heap.size w wr) (fun _ t _ _ => (intOf t).toNat)
  case atStart => exact ⟨m, n, 1, rfl, rfl, by rw [tx_one], hn, HS, Below.refl _ _⟩
  case round =>
    obtain ⟨av, q, ov, rfl, rfl, rfl, hq, HI, hbl⟩ := hrel
    by_cases h0 : 0 < q
    · have H1 := hide (fun W => timesNN ov av (ov * av) K W hK hK2 (unhide HI).2.1 ((unhide HI).2.2.1 h0) rfl)
      have H2 := hide (fun W => timesNN av av (av * av) K W hK hK2 ((unhide HI).2.2.1 h0) ((unhide HI).2.2.1 h0) rfl)
      have HO := hide (fun h => (unhide HI).odd (unhide HP) h)
      have HE := hide (fun h => (unhide HI).even (unhide HP) h h0)
      generalize hA : tx av = A at *
      generalize hO : tx ov = O at *
      generalize hAA : tx (av * av) = AA at *
      generalize hOA : tx (ov * av) = OA at *
      have HEQ := hide (And.intro (And.intro hA hO) (And.intro hAA hOA))
      clear hA hO hAA hOA
      by_cases h1 : q % 2 = 1
      · by_cases h2 : 2 ≤ q
        · go_wp2_with (first
            | (go_at_call_of 88 O; refine (unhide H1 _).mono ?_; rintro e w2 ⟨rfl, hc2⟩; have hb2 := hbl.trans (hc2.mono hbl.size); clear hc2)
            | (go_at_call_of 88 A; refine (unhide H2 _).mono ?_; rintro e w3 ⟨rfl, hc3⟩; have hb3 := hb2.trans (hc3.mono hb2.size); clear hc3))
          go_roundw
          case rel => exact ⟨av * av, q / 2, ov * av, by rw [(unhide HEQ).2.1], by go_num, by rw [(unhide HEQ).2.2], by omega, unhide HO h1, hb3⟩
          case measure => simp [intOf]; omega
        · have hq1 : q = 1 := by omega
          subst hq1
          have HI1 : Hid (PowInv (m ^ n) (10 ^ K) (ov * av) av 0) := (unhide HO (by decide)).any (by decide) (fun e => by
            rcases Nat.mul_eq_zero.1 e with e | e
            · exact (unhide HI).2.2.2 e
            · exact e)
          go_wp2_with (go_at_call_of 88 O; refine (unhide H1 _).mono ?_; rintro e w2 ⟨rfl, hc2⟩; have hb2 := hbl.trans (hc2.mono hbl.size); clear hc2)
          go_roundw
          case rel => exact ⟨av, 0, ov * av, by rw [(unhide HEQ).1.1], by go_num, by rw [(unhide HEQ).2.2], by omega, HI1, hb2⟩
          case measure => simp [intOf]
      · have h2 : 2 ≤ q := by omega
        have h3 : q % 2 = 0 := by omega
        go_wp2_with (go_at_call_of 88 A; refine (unhide H2 _).mono ?_; rintro e w2 ⟨rfl, hc2⟩; have hb2 := hbl.trans (hc2.mono hbl.size); clear hc2)
        go_roundw
        case rel => exact ⟨av * av, q / 2, ov, by rw [(unhide HEQ).2.1], by go_num, by rw [(unhide HEQ).1.2], by omega, unhide HE h3, hb2⟩
        case measure => simp [intOf]; omega
    · have hq0 : q = 0 := by omega
      subst hq0
      have HL := hide (unhide HI).last
      go_wp2
      go_ret
      exact ⟨by rw [unhide HL]; rfl, hbl⟩
end Go.Proofs.YtpoapffbpgnkpaaGreatDoor

namespace Go.Proofs.YtpoapffbpgnkpaaGreatDoor
open Go.RowKit
theorem pw_of (N n : Nat) (B F : ByteArray) (E : Int) (hB : tx N = B) (hF : tx (N ^ n) = F) (hE : E = (n : Int)) (hn : n ≤ 30) (hP : N ^ n < 10 ^ 40) (W : World) : Calls Tryz.prog 72 #[.string B, .int .i64 E] W fun e w' => e = .returned (.string F) ∧ Below W.heap.size W w' := by
  subst hB; subst hF; subst hE
  exact refPower_any N n 40 W (by omega) (by decide) (by decide) hP
theorem ref_up : ∀ k, k < 12 → ∀ W, Calls Tryz.prog 72 #[.string ⟨#[49, 48]⟩, .int .i64 (tbl k).ex] W fun e w' => e = .returned (.string (tbl k).fn) ∧ Below W.heap.size W w'
  | 0, _ => pw_of 10 1 ⟨#[49, 48]⟩ _ _ (by decide +kernel) (by decide +kernel) rfl (by decide) (by decide)
  | 1, _ => pw_of 10 2 ⟨#[49, 48]⟩ _ _ (by decide +kernel) (by decide +kernel) rfl (by decide) (by decide)
  | 2, _ => pw_of 10 3 ⟨#[49, 48]⟩ _ _ (by decide +kernel) (by decide +kernel) rfl (by decide) (by decide)
  | 3, _ => pw_of 10 6 ⟨#[49, 48]⟩ _ _ (by decide +kernel) (by decide +kernel) rfl (by decide) (by decide)
  | 4, _ => pw_of 10 9 ⟨#[49, 48]⟩ _ _ (by decide +kernel) (by decide +kernel) rfl (by decide) (by decide)
  | 5, _ => pw_of 10 12 ⟨#[49, 48]⟩ _ _ (by decide +kernel) (by decide +kernel) rfl (by decide) (by decide)
  | 6, _ => pw_of 10 15 ⟨#[49, 48]⟩ _ _ (by decide +kernel) (by decide +kernel) rfl (by decide) (by decide)
  | 7, _ => pw_of 10 18 ⟨#[49, 48]⟩ _ _ (by decide +kernel) (by decide +kernel) rfl (by decide) (by decide)
  | 8, _ => pw_of 10 21 ⟨#[49, 48]⟩ _ _ (by decide +kernel) (by decide +kernel) rfl (by decide) (by decide)
  | 9, _ => pw_of 10 24 ⟨#[49, 48]⟩ _ _ (by decide +kernel) (by decide +kernel) rfl (by decide) (by decide)
  | 10, _ => pw_of 10 27 ⟨#[49, 48]⟩ _ _ (by decide +kernel) (by decide +kernel) rfl (by decide) (by decide)
  | 11, _ => pw_of 10 30 ⟨#[49, 48]⟩ _ _ (by decide +kernel) (by decide +kernel) rfl (by decide) (by decide)
  | n + 12, h => absurd h (by omega)
theorem ref_down : ∀ k, k < 12 → ∀ W, Calls Tryz.prog 72 #[.string ⟨#[49, 48]⟩, .int .i64 (-(tbl (12 + k)).ex)] W fun e w' => e = .returned (.string (tbl (12 + k)).fd) ∧ Below W.heap.size W w'
  | 0, _ => pw_of 10 1 ⟨#[49, 48]⟩ _ _ (by decide +kernel) (by decide +kernel) rfl (by decide) (by decide)
  | 1, _ => pw_of 10 2 ⟨#[49, 48]⟩ _ _ (by decide +kernel) (by decide +kernel) rfl (by decide) (by decide)
  | 2, _ => pw_of 10 3 ⟨#[49, 48]⟩ _ _ (by decide +kernel) (by decide +kernel) rfl (by decide) (by decide)
  | 3, _ => pw_of 10 6 ⟨#[49, 48]⟩ _ _ (by decide +kernel) (by decide +kernel) rfl (by decide) (by decide)
  | 4, _ => pw_of 10 9 ⟨#[49, 48]⟩ _ _ (by decide +kernel) (by decide +kernel) rfl (by decide) (by decide)
  | 5, _ => pw_of 10 12 ⟨#[49, 48]⟩ _ _ (by decide +kernel) (by decide +kernel) rfl (by decide) (by decide)
  | 6, _ => pw_of 10 15 ⟨#[49, 48]⟩ _ _ (by decide +kernel) (by decide +kernel) rfl (by decide) (by decide)
  | 7, _ => pw_of 10 18 ⟨#[49, 48]⟩ _ _ (by decide +kernel) (by decide +kernel) rfl (by decide) (by decide)
  | 8, _ => pw_of 10 21 ⟨#[49, 48]⟩ _ _ (by decide +kernel) (by decide +kernel) rfl (by decide) (by decide)
  | 9, _ => pw_of 10 24 ⟨#[49, 48]⟩ _ _ (by decide +kernel) (by decide +kernel) rfl (by decide) (by decide)
  | 10, _ => pw_of 10 27 ⟨#[49, 48]⟩ _ _ (by decide +kernel) (by decide +kernel) rfl (by decide) (by decide)
  | 11, _ => pw_of 10 30 ⟨#[49, 48]⟩ _ _ (by decide +kernel) (by decide +kernel) rfl (by decide) (by decide)
  | n + 12, h => absurd h (by omega)
theorem ref_bin : ∀ k, k < 8 → ∀ W, Calls Tryz.prog 72 #[.string ⟨#[49, 48, 50, 52]⟩, .int .i64 (tbl (24 + k)).ex] W fun e w' => e = .returned (.string (tbl (24 + k)).fn) ∧ Below W.heap.size W w'
  | 0, _ => pw_of 1024 1 ⟨#[49, 48, 50, 52]⟩ _ _ (by decide +kernel) (by decide +kernel) rfl (by decide) (by decide)
  | 1, _ => pw_of 1024 2 ⟨#[49, 48, 50, 52]⟩ _ _ (by decide +kernel) (by decide +kernel) rfl (by decide) (by decide)
  | 2, _ => pw_of 1024 3 ⟨#[49, 48, 50, 52]⟩ _ _ (by decide +kernel) (by decide +kernel) rfl (by decide) (by decide)
  | 3, _ => pw_of 1024 4 ⟨#[49, 48, 50, 52]⟩ _ _ (by decide +kernel) (by decide +kernel) rfl (by decide) (by decide)
  | 4, _ => pw_of 1024 5 ⟨#[49, 48, 50, 52]⟩ _ _ (by decide +kernel) (by decide +kernel) rfl (by decide) (by decide)
  | 5, _ => pw_of 1024 6 ⟨#[49, 48, 50, 52]⟩ _ _ (by decide +kernel) (by decide +kernel) rfl (by decide) (by decide)
  | 6, _ => pw_of 1024 7 ⟨#[49, 48, 50, 52]⟩ _ _ (by decide +kernel) (by decide +kernel) rfl (by decide) (by decide)
  | 7, _ => pw_of 1024 8 ⟨#[49, 48, 50, 52]⟩ _ _ (by decide +kernel) (by decide +kernel) rfl (by decide) (by decide)
  | n + 8, h => absurd h (by omega)
def rangeB (a n : Nat) (p : Nat → Bool) : Bool := (List.range n).all (fun i => p (a + i))
theorem rangeB_spec {a n : Nat} {p : Nat → Bool} (h : rangeB a n p = true) (k : Nat) (h1 : a ≤ k) (h2 : k < a + n) : p k = true := by
  have := List.all_eq_true.1 h (k - a) (by simp; omega)
  simpa [show a + (k - a) = k from by omega] using this
theorem up_facts (k : Nat) (h : k < 12) : (tbl k).fd = ⟨#[49]⟩ ∧ (tbl k).bi = false ∧ 0 < (tbl k).ex ∧ (tbl k).ex ≤ 30 := by
  have := rangeB_spec (a := 0) (n := 12) (p := fun k => decide ((tbl k).fd = ⟨#[49]⟩ ∧ (tbl k).bi = false ∧ 0 < (tbl k).ex ∧ (tbl k).ex ≤ 30)) (by decide +kernel) k (by omega) (by omega)
  exact of_decide_eq_true this
theorem down_facts (k : Nat) (h1 : 12 ≤ k) (h : k < 24) : (tbl k).fn = ⟨#[49]⟩ ∧ (tbl k).bi = false ∧ (tbl k).ex < 0 ∧ -30 ≤ (tbl k).ex := by
  have := rangeB_spec (a := 12) (n := 12) (p := fun k => decide ((tbl k).fn = ⟨#[49]⟩ ∧ (tbl k).bi = false ∧ (tbl k).ex < 0 ∧ -30 ≤ (tbl k).ex)) (by decide +kernel) k (by omega) (by omega)
  exact of_decide_eq_true this
theorem bin_facts (k : Nat) (h1 : 24 ≤ k) (h : k < 32) : (tbl k).fd = ⟨#[49]⟩ ∧ (tbl k).bi = true ∧ 0 < (tbl k).ex ∧ (tbl k).ex ≤ 30 := by
  have := rangeB_spec (a := 24) (n := 8) (p := fun k => decide ((tbl k).fd = ⟨#[49]⟩ ∧ (tbl k).bi = true ∧ 0 < (tbl k).ex ∧ (tbl k).ex ≤ 30)) (by decide +kernel) k (by omega) (by omega)
  exact of_decide_eq_true this
theorem down_at (k : Nat) (h1 : 12 ≤ k) (h : k < 24) (W : World) : Calls Tryz.prog 72 #[.string ⟨#[49, 48]⟩, .int .i64 (-(tbl k).ex)] W fun e w' => e = .returned (.string (tbl k).fd) ∧ Below W.heap.size W w' := by
  have := ref_down (k - 12) (by omega) W
  rw [show 12 + (k - 12) = k from by omega] at this
  exact this
theorem bin_at (k : Nat) (h1 : 24 ≤ k) (h : k < 32) (W : World) : Calls Tryz.prog 72 #[.string ⟨#[49, 48, 50, 52]⟩, .int .i64 (tbl k).ex] W fun e w' => e = .returned (.string (tbl k).fn) ∧ Below W.heap.size W w' := by
  have := ref_bin (k - 24) (by omega) W
  rw [show 24 + (k - 24) = k from by omega] at this
  exact this
end Go.Proofs.YtpoapffbpgnkpaaGreatDoor

namespace Go.Proofs.YtpoapffbpgnkpaaGreatDoor
open Go.RowKit
def rowsArr : Array Value := #[.string ⟨#[100, 101, 99, 97]⟩, .string ⟨#[100, 97]⟩, .func (.func 40) #[] #[], .string ⟨#[104, 101, 99, 116, 111]⟩, .string ⟨#[104]⟩, .func (.func 41) #[] #[], .string ⟨#[107, 105, 108, 111]⟩, .string ⟨#[107]⟩, .func (.func 42) #[] #[], .string ⟨#[109, 101, 103, 97]⟩, .string ⟨#[77]⟩, .func (.func 43) #[] #[], .string ⟨#[103, 105, 103, 97]⟩, .string ⟨#[71]⟩, .func (.func 44) #[] #[], .string ⟨#[116, 101, 114, 97]⟩, .string ⟨#[84]⟩, .func (.func 45) #[] #[], .string ⟨#[112, 101, 116, 97]⟩, .string ⟨#[80]⟩, .func (.func 46) #[] #[], .string ⟨#[101, 120, 97]⟩, .string ⟨#[69]⟩, .func (.func 47) #[] #[], .string ⟨#[122, 101, 116, 116, 97]⟩, .string ⟨#[90]⟩, .func (.func 48) #[] #[], .string ⟨#[121, 111, 116, 116, 97]⟩, .string ⟨#[89]⟩, .func (.func 49) #[] #[], .string ⟨#[114, 111, 110, 110, 97]⟩, .string ⟨#[82]⟩, .func (.func 50) #[] #[], .string ⟨#[113, 117, 101, 116, 116, 97]⟩, .string ⟨#[81]⟩, .func (.func 51) #[] #[], .string ⟨#[100, 101, 99, 105]⟩, .string ⟨#[100]⟩, .func (.func 52) #[] #[], .string ⟨#[99, 101, 110, 116, 105]⟩, .string ⟨#[99]⟩, .func (.func 53) #[] #[], .string ⟨#[109, 105, 108, 108, 105]⟩, .string ⟨#[109]⟩, .func (.func 54) #[] #[], .string ⟨#[109, 105, 99, 114, 111]⟩, .string ⟨#[206, 188]⟩, .func (.func 55) #[] #[], .string ⟨#[110, 97, 110, 111]⟩, .string ⟨#[110]⟩, .func (.func 56) #[] #[], .string ⟨#[112, 105, 99, 111]⟩, .string ⟨#[112]⟩, .func (.func 57) #[] #[], .string ⟨#[102, 101, 109, 116, 111]⟩, .string ⟨#[102]⟩, .func (.func 58) #[] #[], .string ⟨#[97, 116, 116, 111]⟩, .string ⟨#[97]⟩, .func (.func 59) #[] #[], .string ⟨#[122, 101, 112, 116, 111]⟩, .string ⟨#[122]⟩, .func (.func 60) #[] #[], .string ⟨#[121, 111, 99, 116, 111]⟩, .string ⟨#[121]⟩, .func (.func 61) #[] #[], .string ⟨#[114, 111, 110, 116, 111]⟩, .string ⟨#[114]⟩, .func (.func 62) #[] #[], .string ⟨#[113, 117, 101, 99, 116, 111]⟩, .string ⟨#[113]⟩, .func (.func 63) #[] #[], .string ⟨#[107, 105, 98, 105]⟩, .string ⟨#[75, 105]⟩, .func (.func 64) #[] #[], .string ⟨#[109, 101, 98, 105]⟩, .string ⟨#[77, 105]⟩, .func (.func 65) #[] #[], .string ⟨#[103, 105, 98, 105]⟩, .string ⟨#[71, 105]⟩, .func (.func 66) #[] #[], .string ⟨#[116, 101, 98, 105]⟩, .string ⟨#[84, 105]⟩, .func (.func 67) #[] #[], .string ⟨#[112, 101, 98, 105]⟩, .string ⟨#[80, 105]⟩, .func (.func 68) #[] #[], .string ⟨#[101, 120, 98, 105]⟩, .string ⟨#[69, 105]⟩, .func (.func 69) #[] #[], .string ⟨#[122, 101, 98, 105]⟩, .string ⟨#[90, 105]⟩, .func (.func 70) #[] #[], .string ⟨#[121, 111, 98, 105]⟩, .string ⟨#[89, 105]⟩, .func (.func 71) #[] #[]]
set_option maxRecDepth 100000 in
set_option maxHeartbeats 4000000 in
theorem rows_any (w : World) : Calls Tryz.prog 17 #[] w fun r w' => r = .returned (.slice (some ⟨w.heap.size, 0, none⟩) 32 32) ∧ w' = w.alloc (.cells rowsArr 51) := by
  go_enter Tryz.func17, Tryz.ntmps17
  go_wp2
  go_ret
  exact ⟨rfl, rfl⟩
theorem rows_cell : ∀ k, k < 32 → rowsArr[3 * k]? = some (.string (tbl k).nm) ∧ rowsArr[3 * k + 1]? = some (.string (tbl k).sy) ∧ rowsArr[3 * k + 2]? = some (.func (.func (tbl k).f) #[] #[])
  | 0, _ => ⟨rfl, rfl, rfl⟩
  | 1, _ => ⟨rfl, rfl, rfl⟩
  | 2, _ => ⟨rfl, rfl, rfl⟩
  | 3, _ => ⟨rfl, rfl, rfl⟩
  | 4, _ => ⟨rfl, rfl, rfl⟩
  | 5, _ => ⟨rfl, rfl, rfl⟩
  | 6, _ => ⟨rfl, rfl, rfl⟩
  | 7, _ => ⟨rfl, rfl, rfl⟩
  | 8, _ => ⟨rfl, rfl, rfl⟩
  | 9, _ => ⟨rfl, rfl, rfl⟩
  | 10, _ => ⟨rfl, rfl, rfl⟩
  | 11, _ => ⟨rfl, rfl, rfl⟩
  | 12, _ => ⟨rfl, rfl, rfl⟩
  | 13, _ => ⟨rfl, rfl, rfl⟩
  | 14, _ => ⟨rfl, rfl, rfl⟩
  | 15, _ => ⟨rfl, rfl, rfl⟩
  | 16, _ => ⟨rfl, rfl, rfl⟩
  | 17, _ => ⟨rfl, rfl, rfl⟩
  | 18, _ => ⟨rfl, rfl, rfl⟩
  | 19, _ => ⟨rfl, rfl, rfl⟩
  | 20, _ => ⟨rfl, rfl, rfl⟩
  | 21, _ => ⟨rfl, rfl, rfl⟩
  | 22, _ => ⟨rfl, rfl, rfl⟩
  | 23, _ => ⟨rfl, rfl, rfl⟩
  | 24, _ => ⟨rfl, rfl, rfl⟩
  | 25, _ => ⟨rfl, rfl, rfl⟩
  | 26, _ => ⟨rfl, rfl, rfl⟩
  | 27, _ => ⟨rfl, rfl, rfl⟩
  | 28, _ => ⟨rfl, rfl, rfl⟩
  | 29, _ => ⟨rfl, rfl, rfl⟩
  | 30, _ => ⟨rfl, rfl, rfl⟩
  | 31, _ => ⟨rfl, rfl, rfl⟩
  | n + 32, h => absurd h (by omega)
end Go.Proofs.YtpoapffbpgnkpaaGreatDoor

namespace Go.Proofs.YtpoapffbpgnkpaaGreatDoor
open Go.RowKit

theorem info28 : (Tryz.prog.info? 30).map (fun i => (i.zero, i.size, i.bytes)) = some (some (.agg #[.string ⟨#[]⟩, .string ⟨#[]⟩, .string ⟨#[]⟩, .string ⟨#[]⟩, .bool false]), 5, 72) := by kernel_rfl
theorem under22 : Tryz.prog.underlying 55 = some (.slice 30) := by kernel_rfl
/-- The five cells of a prefix. -/
def cellsP (k : Nat) : List Value := [.string (tbl k).nm, .string (tbl k).sy, .string (tbl k).fn, .string (tbl k).fd, .bool (tbl k).bi]
def allL (n : Nat) : List Value := (List.range n).flatMap cellsP
theorem allL_succ (n : Nat) : allL (n + 1) = allL n ++ cellsP n := by
  unfold allL
  rw [List.range_succ, List.flatMap_append]
  simp
theorem news5 (W : World) (a b c d e : Value) : ∀ j u, [a, b, c, d, e][j]? = some u → (W.alloc (.cells #[a, b, c, d, e] 30)).cell? ((⟨W.heap.size, 0, none⟩ : Addr).add j) = some u := by
  intro j u hu
  rcases j with _ | _ | _ | _ | _ | j <;> simp at hu
  all_goals (subst hu; simp [Addr.add, go_sem])
theorem one5 (a b c d : ByteArray) (e : Bool) : ∀ u ∈ [Value.string a, .string b, .string c, .string d, .bool e], u.oneCell' = true := by
  intro u hu
  simp only [List.mem_cons, List.not_mem_nil, or_false] at hu
  rcases hu with rfl | rfl | rfl | rfl | rfl <;> rfl
theorem own_later {w w' : World} {base e s n : Nat} {v : Value} {xs : List Value} (h : w.ownsRow base e s v n xs) (hb : Below w.heap.size w w') : w'.ownsRow base e s v n xs := by
  obtain ⟨hx, h2⟩ := h
  refine ⟨hx, ?_⟩
  rcases h2 with h2 | ⟨g, cap, cur, ee, hbs, hg, r⟩
  · exact Or.inl h2
  · exact Or.inr ⟨g, cap, cur, ee, hbs, (hb.block g (Array.getElem?_eq_some_iff.1 hg).1).trans hg, r⟩
theorem rows_at (W W' : World) (hb : Below (W.heap.size + 1) (W.alloc (.cells rowsArr 51)) W') (k : Nat) (hk : k < 32) : W'.cell? ⟨W.heap.size, k * 3, none⟩ = some (.string (tbl k).nm) ∧ W'.cell? ⟨W.heap.size, k * 3 + 1, none⟩ = some (.string (tbl k).sy) ∧ W'.cell? ⟨W.heap.size, k * 3 + 2, none⟩ = some (.func (.func (tbl k).f) #[] #[]) := by
  obtain ⟨h0, h1, h2⟩ := rows_cell k hk
  rw [Nat.mul_comm] at h0 h1 h2
  have e : ∀ i u, rowsArr[i]? = some u → W'.cell? ⟨W.heap.size, i, none⟩ = some u := fun i u hu => by
    rw [hb.cell (p := ⟨W.heap.size, i, none⟩) (by show W.heap.size < W.heap.size + 1; omega)]
    simp only [World.cell?, heap_alloc_new]
    simpa using hu
  exact ⟨e _ _ h0, e _ _ h1, e _ _ h2⟩

set_option maxRecDepth 100000 in
set_option maxHeartbeats 4000000 in
theorem all_any (w : World) (htab : Tab w) : Calls Tryz.prog 23 #[] w fun r w' => ∃ v, r = .returned v ∧ w'.ownsRow (w.heap.size + 1) 30 5 v 32 (allL 32) ∧ Below w.heap.size w w' := by
  obtain ⟨W1, hW1⟩ : ∃ W1, W1 = w.alloc (.cells rowsArr 51) := ⟨_, rfl⟩
  have HRO : Hid (Calls Tryz.prog 17 #[] w fun r w' => r = .returned (.slice (some ⟨w.heap.size, 0, none⟩) 32 32) ∧ w' = W1) := by rw [hW1]; exact rows_any w
  have HW1 := hide hW1
  have hzz : W1.heap.size = w.heap.size + 1 := by rw [hW1]; simp
  have HZ := hide hzz
  clear hzz
  have HB1 : Hid (Below w.heap.size w W1) := by rw [hW1]; exact (Below.refl _ _).alloc (Nat.le_refl _) _
  have HTW := hide htab
  obtain ⟨i0, hi, hz0, hz1, hz2⟩ := info_parts info28
  clear htab hW1
  go_enter Tryz.func23, Tryz.ntmps23
  go_upto_region 3 with (go_at_call 17; go_must (refine (unhide HRO).mono ?_; rintro e w1 ⟨rfl, rfl⟩))
  go_loopw [1, 6] (fun s1 s6 wr => ∃ (k : Nat) (v : Value), k ≤ 32 ∧ v = s1 ∧ s6 = .int .i64 (k : Int) ∧ Hid (wr.ownsRow (w.heap.size + 1) 30 5 v k (allL k)) ∧ Hid (Below (w.heap.size + 1) w1 wr)) (fun _ s6 _ => 32 - (intOf s6).toNat)
  case atStart => exact ⟨0, _, by omega, rfl, rfl, World.ownsRow_nil _ _ _ _, Below.refl _ _⟩
  case round =>
    obtain ⟨k, v, hk, rfl, rfl, HO, HB⟩ := hrel
    have HBW : Hid (Below w.heap.size w wr) := (unhide HB1).trans ((unhide HB).mono (by omega))
    have HSZ : Hid (w.heap.size + 1 ≤ wr.heap.size) := by have h1 := (unhide HB).size; have h2 := unhide HZ; show _ ≤ _; omega
    by_cases hk32 : k < 32
    · have hkI : (k : Int) < 32 := by omega
      have hk0 : (0 : Int) ≤ (k : Int) := by omega
      obtain ⟨c0, c1, c2⟩ := rows_at w wr (by have h := unhide HB; rw [unhide HW1] at h; exact h) k hk32
      have HT := hide (fun W (ht : Tab W) => told_any k hk32 W ht)
      unfold rowV RowV preV at HT
      have HN := hide (allL_succ k)
      unfold cellsP at HN
      generalize (tbl k).nm = nm at *
      generalize (tbl k).sy = sy at *
      generalize (tbl k).f = f at *
      generalize (tbl k).fn = fn at *
      generalize (tbl k).fd = fd at *
      generalize (tbl k).bi = bi at *
      go_upto_region 5 with fail
      obtain ⟨V2, hV2⟩ : ∃ V2, V2 = wr.alloc (.cells #[.string nm, .string sy, .func (.func f) #[] #[]] 51) := ⟨_, rfl⟩
      have hb2 : Below wr.heap.size wr V2 := by rw [hV2]; exact (Below.refl _ _).alloc (Nat.le_refl _) _
      have HP2 : Hid (FBox V2 wr.heap.size (.string nm) (.string sy) (.func (.func f) #[] #[])) := by rw [hV2]; exact ⟨by simp [go_sem], by simp [go_sem], by simp [go_sem], by simp [go_sem], by simp [go_sem], by simp [go_sem]⟩
      have HO2 : Hid (V2.ownsRow (w.heap.size + 1) 30 5 v k (allL k)) := own_later (unhide HO) hb2
      have HB2 : Hid (Below (w.heap.size + 1) w1 V2) := (unhide HB).trans (hb2.mono (unhide HSZ))
      have HW2 : Hid (Below w.heap.size w V2) := (unhide HBW).trans (hb2.mono (unhide HBW).size)
      rw [← hV2]
      clear hV2 hb2 c0 c1 c2 HO HB HBW
      generalize wr.heap.size = g3 at *
      have t0 := (unhide HP2).c0; have t1 := (unhide HP2).c1; have t2 := (unhide HP2).c2
      go_wp2_with (first
        | (go_at_call 18; go_must (refine (unhide HT _ ((unhide HTW).later (unhide HW2))).mono ?_; rintro e wt ⟨rfl, hbt⟩; have HO3 : Hid (wt.ownsRow (w.heap.size + 1) 30 5 v k (allL k)) := own_later (unhide HO2) hbt; have HB3 : Hid (Below (w.heap.size + 1) w1 wt) := (unhide HB2).trans (hbt.mono (by have h1 := (unhide HB2).size; have h2 := unhide HZ; omega)); clear hbt t0 t1 t2))
        | (at_builtin; refine wpList_append_own _ rfl _ _ 55 rfl (w.heap.size + 1) 30 i0 (.agg #[.string ⟨#[]⟩, .string ⟨#[]⟩, .string ⟨#[]⟩, .string ⟨#[]⟩, .bool false]) 5 72 under22 hi hz0 hz1 hz2 rfl (by decide) _ k (allL k) rfl (own_later (unhide HO3) ((Below.refl _ _).alloc (Nat.le_refl _) _)) ⟨wt.heap.size, 0, none⟩ 1 1 [.string nm, .string sy, .string fn, .string fd, .bool bi] rfl rfl (news5 _ _ _ _ _ _) (one5 _ _ _ _ _) (by unfold maxLen; omega) (by omega) (by have h1 := (unhide HB3).size; have h2 := unhide HZ; simp; omega) ?_; intro v2 wa hown hgrow hnil; have HOW := hide hown; have HB4 : Hid (Below (w.heap.size + 1) w1 wa) := ((unhide HB3).alloc (by have h1 := (unhide HB3).size; have h2 := unhide HZ; omega) _).grown hgrow (by have h1 := (unhide HB3).size; have h2 := unhide HZ; simp; omega) (fun j hj => ((unhide HO3).lt j hj).1); clear hown hgrow hnil))
      go_roundw
      case rel =>
        refine ⟨k + 1, v2, by omega, rfl, by go_num, ?_, HB4⟩
        have h := unhide HOW
        rw [← unhide HN] at h
        exact h
      case measure => simp [intOf]; omega
    · have hkI : ¬ (k : Int) < 32 := by omega
      have HK : Hid (k = 32) := by show k = 32; omega
      go_wp2_with fail
      go_ret
      refine ⟨v, rfl, ?_, unhide HBW⟩
      have h := unhide HO
      rw [unhide HK] at h
      exact h
end Go.Proofs.YtpoapffbpgnkpaaGreatDoor

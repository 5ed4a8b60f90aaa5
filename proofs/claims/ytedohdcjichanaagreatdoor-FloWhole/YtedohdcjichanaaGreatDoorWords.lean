/- flo: NaN (48), Inf (49), words (33): a map that is made at each call. -/
import Derived.Test.YtedohdcjichanaaGreatDoorIntRows
import Derived.Laws.Cover2
import Derived.Laws.AppendOwnNone
import Derived.Maps.OwnSet
import Derived.Maps.RangeWalk
import Derived.Laws.EntriesVeiled
import Derived.Deep.Cut
namespace Go.Proofs.YtedohdcjichanaaGreatDoor
theorem frac_is : Ieee.double.fractionBits = 52 := by decide +kernel
/-- The rung of a whole number. -/
def encM (m : Nat) : Nat := (m.log2 + 1022) * 4503599627370496 + m * 2 ^ (52 - m.log2)
theorem log2_shift (m k : Nat) (hm : m ≠ 0) : (m <<< k).log2 = m.log2 + k := by
  rw [Nat.shiftLeft_eq]
  rw [Nat.log2_eq_iff (by have := Nat.two_pow_pos k; exact Nat.mul_ne_zero hm (by omega))]
  have h1 := Nat.log2_self_le hm
  have h2 := @Nat.lt_log2_self m
  constructor
  · rw [Nat.pow_add]; exact Nat.mul_le_mul_right _ h1
  · rw [show m.log2 + k + 1 = (m.log2 + 1) + k by omega, Nat.pow_add]
    exact Nat.mul_lt_mul_of_pos_right h2 (Nat.two_pow_pos k)
theorem cut_none (neg : Bool) (n : Nat) : Ieee.Toward.even.cut neg n 0 = n := by
  unfold Ieee.Toward.cut
  simp [Nat.mod_one]
theorem cut_exact (neg : Bool) (q d : Nat) (hq : q ≠ 0) : Ieee.Toward.even.cut neg (q * 2 ^ d) d = q := by
  unfold Ieee.Toward.cut
  have hl : (q * 2 ^ d).log2 = q.log2 + d := by rw [← Nat.shiftLeft_eq]; exact log2_shift q d hq
  rw [hl, Nat.min_eq_left (by omega), Nat.one_shiftLeft]
  have hp := Nat.two_pow_pos d
  have h1 : q * 2 ^ d / 2 ^ d = q := Nat.mul_div_cancel _ hp
  have h2 : q * 2 ^ d % 2 ^ d = 0 := Nat.mul_mod_left _ _
  have h3 : ¬ 2 ^ d < 2 * 0 := by omega
  have h4 : (2 ^ d == 2 * 0) = false := by rw [beq_eq_false_iff_ne]; omega
  show q * 2 ^ d / 2 ^ d + (decide (2 ^ d < 2 * (q * 2 ^ d % 2 ^ d)) || 2 ^ d == 2 * (q * 2 ^ d % 2 ^ d) && q * 2 ^ d / 2 ^ d % 2 == 1).toNat = q
  rw [h1, h2, h4, decide_eq_false h3]
  rfl
theorem nearest_whole (neg : Bool) (m k : Nat) (hm : m ≠ 0) (hb : m < 9007199254740992) : Ieee.double.nearest neg (m <<< k) (-(k : Int)) = Ieee.double.word neg (encM m) := by
  have hl : m.log2 ≤ 52 := by
    have := (Nat.log2_lt hm (k := 53)).2 hb
    omega
  have hn : m <<< k ≠ 0 := by rw [Nat.shiftLeft_eq]; exact Nat.mul_ne_zero hm (by have := Nat.two_pow_pos k; omega)
  unfold Ieee.Format.nearest
  rw [if_neg hn, log2_shift m k hm, frac_is, least_is, inf_is, binade_is]
  have hlast : max (-(k : Int) + ((m.log2 + k : Nat) : Int) - ((52 : Nat) : Int)) (-1074) = (m.log2 : Int) - 52 := by omega
  simp only [hlast]
  have hkept : Ieee.Toward.even.cut neg (m <<< k <<< (-(k : Int) - ((m.log2 : Int) - 52)).toNat) ((m.log2 : Int) - 52 - -(k : Int)).toNat = m * 2 ^ (52 - m.log2) := by
    by_cases h : k ≤ 52 - m.log2
    · have e1 : (-(k : Int) - ((m.log2 : Int) - 52)).toNat = 52 - m.log2 - k := by omega
      have e2 : ((m.log2 : Int) - 52 - -(k : Int)).toNat = 0 := by omega
      rw [e1, e2, cut_none, Nat.shiftLeft_eq, Nat.shiftLeft_eq, Nat.mul_assoc, ← Nat.pow_add]
      congr 2
      omega
    · have e1 : (-(k : Int) - ((m.log2 : Int) - 52)).toNat = 0 := by omega
      have e2 : ((m.log2 : Int) - 52 - -(k : Int)).toNat = k - (52 - m.log2) := by omega
      have e3 : m <<< k = m * 2 ^ (52 - m.log2) * 2 ^ (k - (52 - m.log2)) := by
        rw [Nat.shiftLeft_eq, Nat.mul_assoc, ← Nat.pow_add]
        congr 2
        omega
      rw [e1, e2, Nat.shiftLeft_zero, e3, cut_exact neg _ _ (Nat.mul_ne_zero hm (by have := Nat.two_pow_pos (52 - m.log2); omega))]
  rw [hkept]
  have hs : m * 2 ^ (52 - m.log2) < 9007199254740992 := by
    have h2 := @Nat.lt_log2_self m
    have : m * 2 ^ (52 - m.log2) < 2 ^ (m.log2 + 1) * 2 ^ (52 - m.log2) := Nat.mul_lt_mul_of_pos_right h2 (Nat.two_pow_pos _)
    rw [← Nat.pow_add, show m.log2 + 1 + (52 - m.log2) = 53 by omega] at this
    exact this
  have e : ((m.log2 : Int) - 52 - -1074).toNat = m.log2 + 1022 := by omega
  rw [e]
  congr 1
  unfold encM
  omega
theorem encM_low (m : Nat) (hm : m ≠ 0) (hb : m < 9007199254740992) : 4503599627370496 ≤ m * 2 ^ (52 - m.log2) ∧ m * 2 ^ (52 - m.log2) < 9007199254740992 := by
  have hl : m.log2 ≤ 52 := by
    have := (Nat.log2_lt hm (k := 53)).2 hb
    omega
  have h1 := Nat.log2_self_le hm
  have h2 := @Nat.lt_log2_self m
  constructor
  · have : 2 ^ m.log2 * 2 ^ (52 - m.log2) ≤ m * 2 ^ (52 - m.log2) := Nat.mul_le_mul_right _ h1
    rw [← Nat.pow_add, show m.log2 + (52 - m.log2) = 52 by omega] at this
    exact this
  · have : m * 2 ^ (52 - m.log2) < 2 ^ (m.log2 + 1) * 2 ^ (52 - m.log2) := Nat.mul_lt_mul_of_pos_right h2 (Nat.two_pow_pos _)
    rw [← Nat.pow_add, show m.log2 + 1 + (52 - m.log2) = 53 by omega] at this
    exact this
/-- A word between the rungs of the normal numbers is read so. -/
theorem read_core (S B I : Nat) (hS : Ieee.double.signWeight = S) (hB : Ieee.double.binade = B) (hI : Ieee.double.infRung = I) (neg : Bool) (r : Nat) (h1 : r < S) (h2 : ¬ r < B) (h3 : r < I) (q : Nat) (L : Int) (h4 : B + r % B = q) (h5 : -1074 + ((r / B - 1 : Nat) : Int) = L) : Ieee.double.read (Ieee.double.word neg r) = .number neg q L := by
  subst h4 h5
  have hS0 : 0 < S := by omega
  have e1 : Ieee.double.word neg r % S = r := by
    unfold Ieee.Format.word
    rw [hS]
    cases neg
    · exact Nat.mod_eq_of_lt h1
    · show (S + r) % S = _
      rw [Nat.add_mod_left]; exact Nat.mod_eq_of_lt h1
  have e2 : (Ieee.double.word neg r / S % 2 == 1) = neg := by
    unfold Ieee.Format.word
    rw [hS]
    cases neg
    · show (r / S % 2 == 1) = false
      rw [Nat.div_eq_of_lt h1]; rfl
    · show ((S + r) / S % 2 == 1) = true
      rw [Nat.add_div_left _ hS0, Nat.div_eq_of_lt h1]; rfl
  unfold Ieee.Format.read
  simp only [hS, hB, hI, least_is]
  rw [e1, e2, if_neg h2, if_pos h3]
theorem rung_bounds (l q : Nat) (hl : l ≤ 52) (h1 : 4503599627370496 ≤ q) (h2 : q < 9007199254740992) : (l + 1022) * 4503599627370496 + q < 9223372036854775808 ∧ ¬ (l + 1022) * 4503599627370496 + q < 4503599627370496 ∧ (l + 1022) * 4503599627370496 + q < 9218868437227405312 ∧ 4503599627370496 + ((l + 1022) * 4503599627370496 + q) % 4503599627370496 = q ∧ -1074 + ((((l + 1022) * 4503599627370496 + q) / 4503599627370496 - 1 : Nat) : Int) = (l : Int) - 52 := by omega
theorem read_rung (neg : Bool) (l q : Nat) (hl : l ≤ 52) (h1 : 4503599627370496 ≤ q) (h2 : q < 9007199254740992) : Ieee.double.read (Ieee.double.word neg ((l + 1022) * 4503599627370496 + q)) = .number neg q ((l : Int) - 52) := by
  obtain ⟨a1, a2, a3, a4, a5⟩ := rung_bounds l q hl h1 h2
  exact read_core _ _ _ sign_lt binade_is inf_is neg _ a1 a2 a3 _ _ a4 a5
/-- The word of a whole number. -/
def enc (n : Int) : Nat := floatOfInt .f64 n
theorem enc_near (n : Int) : enc n = Ieee.double.nearest (decide (n < 0)) n.natAbs 0 := by
  unfold enc floatOfInt
  rfl
theorem enc_zero : enc 0 = 0 := by decide +kernel
theorem enc_word (n : Int) (hn : n ≠ 0) (hb : n.natAbs < 9007199254740992) : enc n = Ieee.double.word (decide (n < 0)) (encM n.natAbs) := by
  rw [enc_near]
  have h := nearest_whole (decide (n < 0)) n.natAbs 0 (by omega) hb
  rw [Nat.shiftLeft_zero] at h
  exact h
/-- How a whole number is read. -/
theorem enc_read (n : Int) (hb : n.natAbs < 9007199254740992) : ∃ k : Nat, k ≤ 1074 ∧ Ieee.double.read (enc n) = .number (decide (n < 0)) (n.natAbs * 2 ^ k) (-(k : Int)) := by
  by_cases hn : n = 0
  · subst hn
    have hz : ∀ j, (0 : Int).natAbs * 2 ^ j = 0 := fun j => Nat.zero_mul _
    have h0 : Ieee.double.read 0 = .number false 0 (-1074) := by decide +kernel
    obtain ⟨K, hK⟩ : ∃ K : Nat, K = 1074 := ⟨_, rfl⟩
    refine ⟨K, by omega, ?_⟩
    rw [hz, enc_zero, h0, hK]
    rfl
  · have hl : n.natAbs.log2 ≤ 52 := by
      have := (Nat.log2_lt (show n.natAbs ≠ 0 by omega) (k := 53)).2 hb
      omega
    obtain ⟨h1, h2⟩ := encM_low n.natAbs (by omega) hb
    refine ⟨52 - n.natAbs.log2, by omega, ?_⟩
    rw [enc_word n hn hb]
    unfold encM
    rw [read_rung _ _ _ hl h1 h2]
    congr 1
    omega
theorem signed_up (n : Int) (k up : Nat) : Ieee.signed (decide (n < 0)) (n.natAbs * 2 ^ k) up = n * ((2 : Int) ^ (k + up)) := by
  unfold Ieee.signed
  rw [Nat.shiftLeft_eq, Nat.mul_assoc, ← Nat.pow_add]
  by_cases h : n < 0
  · rw [decide_eq_true h]
    have : (n.natAbs : Int) = -n := by omega
    show -((n.natAbs * 2 ^ (k + up) : Nat) : Int) = _
    rw [Int.natCast_mul, this, Int.natCast_pow]
    show -(-n * (2 : Int) ^ (k + up)) = _
    rw [Int.neg_mul, Int.neg_neg]
  · rw [decide_eq_false h]
    have : (n.natAbs : Int) = n := by omega
    show ((n.natAbs * 2 ^ (k + up) : Nat) : Int) = _
    rw [Int.natCast_mul, this, Int.natCast_pow]
    rfl
theorem signed_down (n : Int) (k up : Nat) : Ieee.signed (!decide (n < 0)) (n.natAbs * 2 ^ k) up = -(n * ((2 : Int) ^ (k + up))) := by
  rw [← signed_up n k up]
  unfold Ieee.signed
  cases decide (n < 0) <;> simp
theorem write_whole (n : Int) (k : Nat) (s : Bool) (hs : n = 0 → s = false) (hb : n.natAbs < 9007199254740992) : Ieee.double.write (.number (if n * ((2 : Int) ^ k) = 0 then s else decide (n * ((2 : Int) ^ k) < 0)) (n * ((2 : Int) ^ k)).natAbs (-(k : Int))) = enc n := by
  have hp : (0 : Int) < (2 : Int) ^ k := Int.pow_pos (by decide)
  by_cases hn : n = 0
  · subst hn
    rw [Int.zero_mul, if_pos rfl, hs rfl, enc_zero]
    show Ieee.double.nearest false (0 : Int).natAbs _ = 0
    unfold Ieee.Format.nearest
    rw [Int.natAbs_zero, if_pos rfl]
    rfl
  · have h1 : n * (2 : Int) ^ k ≠ 0 := Int.mul_ne_zero hn (by omega)
    have h2 : decide (n * (2 : Int) ^ k < 0) = decide (n < 0) := by
      by_cases h : n < 0
      · rw [decide_eq_true h, decide_eq_true (Int.mul_neg_of_neg_of_pos h hp)]
      · rw [decide_eq_false h, decide_eq_false]
        have : 0 ≤ n * (2 : Int) ^ k := Int.mul_nonneg (by omega) (by omega)
        omega
    rw [if_neg h1, h2, enc_word n hn hb]
    show Ieee.double.nearest (decide (n < 0)) (n * (2 : Int) ^ k).natAbs (-(k : Int)) = _
    rw [Int.natAbs_mul, show ((2 : Int) ^ k).natAbs = 2 ^ k by rw [Int.natAbs_pow]; rfl, ← Nat.shiftLeft_eq]
    exact nearest_whole _ _ _ (by omega) hb
theorem add_whole (a b : Int) (ha : a.natAbs < 9007199254740992) (hb : b.natAbs < 9007199254740992) (hab : (a + b).natAbs < 9007199254740992) : Ieee.double.add (enc a) (enc b) = some (enc (a + b)) := by
  obtain ⟨k, hk, e1⟩ := enc_read a ha
  obtain ⟨j, hj, e2⟩ := enc_read b hb
  unfold Ieee.Format.add
  rw [e1, e2]
  simp only [Ieee.Datum.sum, Option.map_some]
  obtain ⟨m, hm⟩ : ∃ m : Nat, min (-(k : Int)) (-(j : Int)) = -(m : Int) := ⟨max k j, by omega⟩
  have h1 : k + (-(k : Int) - min (-(k : Int)) (-(j : Int))).toNat = m := by omega
  have h2 : j + (-(j : Int) - min (-(k : Int)) (-(j : Int))).toNat = m := by omega
  rw [signed_up, signed_up, h1, h2, hm, ← Int.add_mul]
  exact congrArg some (write_whole (a + b) m _ (fun h => by
    by_cases h0 : a < 0
    · rw [decide_eq_false (show ¬ b < 0 by omega), Bool.and_false]
    · rw [decide_eq_false h0, Bool.false_and]) hab)
theorem sub_whole (a b : Int) (ha : a.natAbs < 9007199254740992) (hb : b.natAbs < 9007199254740992) (hab : (a - b).natAbs < 9007199254740992) : Ieee.double.sub (enc a) (enc b) = some (enc (a - b)) := by
  obtain ⟨k, hk, e1⟩ := enc_read a ha
  obtain ⟨j, hj, e2⟩ := enc_read b hb
  unfold Ieee.Format.sub
  rw [e1, e2]
  simp only [Ieee.Datum.opposite, Ieee.Datum.sum, Option.map_some]
  obtain ⟨m, hm⟩ : ∃ m : Nat, min (-(k : Int)) (-(j : Int)) = -(m : Int) := ⟨max k j, by omega⟩
  have h1 : k + (-(k : Int) - min (-(k : Int)) (-(j : Int))).toNat = m := by omega
  have h2 : j + (-(j : Int) - min (-(k : Int)) (-(j : Int))).toNat = m := by omega
  rw [signed_up, signed_down, h1, h2, hm, ← Int.sub_eq_add_neg, ← Int.sub_mul]
  exact congrArg some (write_whole (a - b) m _ (fun h => by
    by_cases h0 : a < 0
    · rw [decide_eq_true (show b < 0 by omega)]; cases decide (a < 0) <;> rfl
    · rw [decide_eq_false h0, Bool.false_and]) hab)
theorem enc_num (n : Int) (hb : n.natAbs < 9007199254740992) : nanB (enc n) = false := by
  obtain ⟨k, _, e⟩ := enc_read n hb
  cases h : nanB (enc n) with
  | false => rfl
  | true =>
    obtain ⟨s, p, e2⟩ := read_nan (enc n) h
    rw [e] at e2; cases e2
theorem nm_enc (n : Int) (hb : n.natAbs < 9007199254740992) : nm (enc n) = enc n := nm_num (enc_num n hb)
theorem opN_add (a b : Int) (ha : a.natAbs < 9007199254740992) (hb : b.natAbs < 9007199254740992) (hab : (a + b).natAbs < 9007199254740992) : opN .add (enc a) (enc b) = enc (a + b) := by
  unfold opN
  have e : floatBits .add .f64 (enc a) (enc b) = some (enc (a + b)) := add_whole a b ha hb hab
  rw [e]
  exact nm_enc _ hab
theorem opN_sub (a b : Int) (ha : a.natAbs < 9007199254740992) (hb : b.natAbs < 9007199254740992) (hab : (a - b).natAbs < 9007199254740992) : opN .sub (enc a) (enc b) = enc (a - b) := by
  unfold opN
  have e : floatBits .sub .f64 (enc a) (enc b) = some (enc (a - b)) := sub_whole a b ha hb hab
  rw [e]
  exact nm_enc _ hab
/-- What is read as the number is it. -/
theorem nm_is (r : Nat) (n : Int) (hb : n.natAbs < 9007199254740992) (h : nm r = enc n) : r = enc n := by
  cases hr : nanB r with
  | false => rwa [nm_num hr] at h
  | true =>
    have h1 := enc_num n hb
    unfold nm at h
    rw [if_pos hr] at h
    rw [← h] at h1
    exact absurd h1 (by decide +kernel)
end Go.Proofs.YtedohdcjichanaaGreatDoor

namespace Go.Proofs.YtedohdcjichanaaGreatDoor
open Go.RowKit
attribute [local go_sem] run_add run_sub run_mul
def sumN (l : List Nat) : Nat := l.foldl (fun s x => opN .add s (nm x)) 0
theorem sumN_take (l : List Nat) (k : Nat) (h : k < l.length) : sumN (l.take (k + 1)) = opN .add (sumN (l.take k)) (nm l[k]) := by
  unfold sumN
  rw [List.take_succ_eq_append_getElem h, List.foldl_append]
  rfl
theorem nm_zero : nm 0 = 0 := by decide +kernel
set_option maxRecDepth 100000 in
set_option maxHeartbeats 1000000 in
theorem sum_any (v : Value) (l : List Nat) (w : World) (h : RowF w v l) : Calls Tryz.prog 9 #[v] w fun e w' => ∃ r : Nat, e = .returned (.float .f64 r) ∧ nm r = sumN l ∧ r < 18446744073709551616 ∧ Below w.heap.size w w' := by
  obtain ⟨a, cap, rfl, hc, hm, hn, hr⟩ := h
  have HR := hide hr
  obtain ⟨n, hl⟩ : ∃ n, n = l.length := ⟨_, rfl⟩
  rw [← hl] at hc ⊢
  have HL := hide hl
  clear hr hl hn
  go_enter Tryz.func9, Tryz.ntmps9
  go_wp2
  go_loopw [3, 5, 8] (fun s3 _ s8 wr => ∃ k r : Nat, k ≤ n ∧ s8 = .int .i64 (k : Int) ∧ s3 = .float .f64 r ∧ Hid (nm r = sumN (l.take k)) ∧ Hid (r < 18446744073709551616) ∧ Hid (Below w.heap.size w wr)) (fun _ _ s8 _ => n - (intOf s8).toNat)
  case atStart => exact ⟨0, 0, Nat.zero_le _, rfl, rfl, nm_zero, by show _ < _; decide, Below.refl _ _⟩
  case round =>
    obtain ⟨k, r, hk, rfl, rfl, HT, HB, HW⟩ := hrel
    by_cases hkn : k < n
    · have hkl : k < l.length := by have := unhide HL; omega
      obtain ⟨b, o, rfl, hb, hcell⟩ := unhide HR k hkl
      obtain ⟨x, hx⟩ : ∃ x, x = l[k] := ⟨_, rfl⟩
      have c1 : wr.cell? ⟨b, o + k, none⟩ = some (.float .f64 x) := by rw [(unhide HW).cell (p := ⟨b, o + k, none⟩) hb, hcell, hx]
      have hkI : (k : Int) < (n : Int) := by omega
      have HT2 : Hid (∀ W, nm (vA .add r x W) = sumN (l.take (k + 1))) := fun W => by rw [nm_add, unhide HT, sumN_take l k hkl, hx]
      clear hcell hx hkl HT
      go_wp2_with fail
      go_roundw
      case rel => exact ⟨k + 1, _, by omega, by go_num, rfl, unhide HT2 _, vA_lt _ _ _ _, below_wA _ _ _ (unhide HW)⟩
      case measure => simp [intOf]; omega
    · have hkI : ¬ (k : Int) < (n : Int) := by omega
      have HT2 : Hid (nm r = sumN l) := by
        have e := unhide HT
        rw [List.take_of_length_le (by have := unhide HL; omega)] at e
        exact e
      clear HT
      go_wp2_with fail
      go_ret
      exact ⟨r, rfl, unhide HT2, unhide HB, unhide HW⟩
end Go.Proofs.YtedohdcjichanaaGreatDoor

namespace Go.Proofs.YtedohdcjichanaaGreatDoor
open Go.RowKit
attribute [local go_sem] run_add run_sub run_mul
/-- The first's size is not below the second's. -/
def geB (s x : Nat) : Bool := FloatKind.f64.format.order (s % 9223372036854775808) (x % 9223372036854775808) == some Ordering.gt || FloatKind.f64.format.order (s % 9223372036854775808) (x % 9223372036854775808) == some Ordering.eq
theorem nan_mod {b : Nat} (h : nanB b = true) : nanB (b % 9223372036854775808) = true := by unfold nanB at h ⊢; rw [Nat.mod_mod]; exact h
theorem geB_nm (s x : Nat) : geB s x = geB (nm s) (nm x) := by
  cases hs : nanB s
  · cases hx : nanB x
    · rw [nm_num hs, nm_num hx]
    · rw [nm_nan hx]
      unfold geB
      rw [order_nan_r _ _ (nan_mod hx), order_nan_r _ _ (nan_mod qnan_nan)]
  · rw [nm_nan hs]
    unfold geB
    rw [order_nan_l _ _ (nan_mod hs), order_nan_l _ _ (nan_mod qnan_nan)]
def stepK (p : Nat × Nat) (x : Nat) : Nat × Nat :=
  (opN .add p.1 x, if geB p.1 x then opN .add p.2 (opN .add (opN .sub p.1 (opN .add p.1 x)) x) else opN .add p.2 (opN .add (opN .sub x (opN .add p.1 x)) p.1))
def pairK (l : List Nat) : Nat × Nat := l.foldl (fun p x => stepK p (nm x)) (0, 0)
def keptN (l : List Nat) : Nat := opN .add (pairK l).1 (pairK l).2
theorem pairK_take (l : List Nat) (k : Nat) (h : k < l.length) : pairK (l.take (k + 1)) = stepK (pairK (l.take k)) (nm l[k]) := by
  unfold pairK
  rw [List.take_succ_eq_append_getElem h, List.foldl_append]
  rfl
theorem step_ge (r c x : Nat) (p : Nat × Nat) (h1 : nm r = p.1) (h2 : nm c = p.2) (hg : geB r x = true) (W0 W1 W2 W3 : World) : nm (vA .add r x W0) = (stepK p (nm x)).1 ∧ nm (vA .add c (vA .add (vA .sub r (vA .add r x W0) W1) x W2) W3) = (stepK p (nm x)).2 := by
  have hg2 : geB p.1 (nm x) = true := by rw [← h1, ← geB_nm]; exact hg
  refine ⟨by rw [nm_add, h1]; rfl, ?_⟩
  rw [nm_add, nm_add, nm_sub, nm_add, h1, h2]
  unfold stepK
  rw [if_pos hg2]
theorem step_lt (r c x : Nat) (p : Nat × Nat) (h1 : nm r = p.1) (h2 : nm c = p.2) (hg : geB r x = false) (W0 W1 W2 W3 : World) : nm (vA .add r x W0) = (stepK p (nm x)).1 ∧ nm (vA .add c (vA .add (vA .sub x (vA .add r x W0) W1) r W2) W3) = (stepK p (nm x)).2 := by
  have hg2 : geB p.1 (nm x) = false := by rw [← h1, ← geB_nm]; exact hg
  refine ⟨by rw [nm_add, h1]; rfl, ?_⟩
  rw [nm_add, nm_add, nm_sub, nm_add, h1, h2]
  unfold stepK
  rw [if_neg (by rw [hg2]; decide)]
set_option maxRecDepth 100000 in
set_option maxHeartbeats 1000000 in
theorem kept_any (v : Value) (l : List Nat) (w : World) (h : RowF w v l) (hlt : ∀ x ∈ l, x < 18446744073709551616) : Calls Tryz.prog 11 #[v] w fun e w' => ∃ r : Nat, e = .returned (.float .f64 r) ∧ nm r = keptN l ∧ r < 18446744073709551616 ∧ Below w.heap.size w w' := by
  obtain ⟨a, cap, rfl, hc, hm, hn, hr⟩ := h
  have HR := hide hr
  have HLT := hide hlt
  obtain ⟨n, hl⟩ : ∃ n, n = l.length := ⟨_, rfl⟩
  rw [← hl] at hc ⊢
  have HL := hide hl
  clear hr hl hn hlt
  go_enter Tryz.func11, Tryz.ntmps11
  go_wp2
  go_loopw [3, 4, 6, 7, 10] (fun s3 s4 _ _ s10 wr => ∃ k r c : Nat, k ≤ n ∧ s10 = .int .i64 (k : Int) ∧ s3 = .float .f64 r ∧ s4 = .float .f64 c ∧ Hid (nm r = (pairK (l.take k)).1 ∧ nm c = (pairK (l.take k)).2) ∧ Hid (r < 18446744073709551616) ∧ Hid (Below w.heap.size w wr)) (fun _ _ _ _ s10 _ => n - (intOf s10).toNat)
  case atStart => exact ⟨0, 0, 0, Nat.zero_le _, rfl, rfl, rfl, ⟨nm_zero, nm_zero⟩, by show _ < _; decide, Below.refl _ _⟩
  case round =>
    obtain ⟨k, r, c, hk, rfl, rfl, rfl, HT, HB, HW⟩ := hrel
    by_cases hkn : k < n
    · have hkl : k < l.length := by have := unhide HL; omega
      obtain ⟨b, o, rfl, hb, hcell⟩ := unhide HR k hkl
      obtain ⟨x, hx⟩ : ∃ x, x = l[k] := ⟨_, rfl⟩
      have HX : Hid (x < 18446744073709551616) := by rw [hx]; exact unhide HLT _ (List.getElem_mem hkl)
      have c1 : wr.cell? ⟨b, o + k, none⟩ = some (.float .f64 x) := by rw [(unhide HW).cell (p := ⟨b, o + k, none⟩) hb, hcell, hx]
      have hkI : (k : Int) < (n : Int) := by omega
      cases hg : geB r x
      · skip
        have HT2 : Hid (∀ W0 W1 W2 W3, _) := step_lt r c x _ (unhide HT).1 (unhide HT).2 hg
        have HPT : Hid (pairK (l.take (k + 1)) = stepK (pairK (l.take k)) (nm x)) := by show _ = _; rw [pairK_take l k hkl, hx]
        unfold geB at hg
        clear hcell hx hkl HT
        go_wp2_with (first
          | (go_at_call 20; with_reducible refine (abs_any r (unhide HB) _).mono ?_; rintro e wq ⟨rfl, hw⟩; have hw2 := hw.symm; subst hw2; clear hw)
          | (go_at_call 20; with_reducible refine (abs_any x (unhide HX) _).mono ?_; rintro e wq ⟨rfl, hw⟩; have hw2 := hw.symm; subst hw2; clear hw))
        go_roundw
        case rel => exact ⟨k + 1, _, _, by omega, by go_num, rfl, rfl, by rw [unhide HPT]; exact unhide HT2 _ _ _ _, vA_lt _ _ _ _, below_wA _ _ _ (below_wA _ _ _ (below_wA _ _ _ (below_wA _ _ _ (unhide HW))))⟩
        case measure => simp [intOf]; omega
      · skip
        have HT2 : Hid (∀ W0 W1 W2 W3, _) := step_ge r c x _ (unhide HT).1 (unhide HT).2 hg
        have HPT : Hid (pairK (l.take (k + 1)) = stepK (pairK (l.take k)) (nm x)) := by show _ = _; rw [pairK_take l k hkl, hx]
        unfold geB at hg
        clear hcell hx hkl HT
        go_wp2_with (first
          | (go_at_call 20; with_reducible refine (abs_any r (unhide HB) _).mono ?_; rintro e wq ⟨rfl, hw⟩; have hw2 := hw.symm; subst hw2; clear hw)
          | (go_at_call 20; with_reducible refine (abs_any x (unhide HX) _).mono ?_; rintro e wq ⟨rfl, hw⟩; have hw2 := hw.symm; subst hw2; clear hw))
        go_roundw
        case rel => exact ⟨k + 1, _, _, by omega, by go_num, rfl, rfl, by rw [unhide HPT]; exact unhide HT2 _ _ _ _, vA_lt _ _ _ _, below_wA _ _ _ (below_wA _ _ _ (below_wA _ _ _ (below_wA _ _ _ (unhide HW))))⟩
        case measure => simp [intOf]; omega
    · have hkI : ¬ (k : Int) < (n : Int) := by omega
      have HT2 : Hid (∀ W, nm (vA .add r c W) = keptN l) := fun W => by
        have e := unhide HT
        rw [List.take_of_length_le (by have := unhide HL; omega)] at e
        rw [nm_add, e.1, e.2]
        rfl
      clear HT
      go_wp2_with fail
      go_ret
      exact ⟨_, rfl, unhide HT2 _, vA_lt _ _ _ _, below_wA _ _ _ (unhide HW)⟩
end Go.Proofs.YtedohdcjichanaaGreatDoor

namespace Go.Proofs.YtedohdcjichanaaGreatDoor
/-- Whole numbers of this size. -/
def Small (ns : List Int) : Prop := ∀ n ∈ ns, n.natAbs < 1099511627776
theorem small_tail {n : Int} {ns : List Int} (h : Small (n :: ns)) : n.natAbs < 1099511627776 ∧ Small ns := ⟨h n (by simp), fun m hm => h m (by simp [hm])⟩
theorem small_cons {n : Int} {ns : List Int} (h1 : n.natAbs < 1099511627776) (h : Small ns) : Small (n :: ns) := fun m hm => by
  rcases List.mem_cons.1 hm with rfl | hm
  · exact h1
  · exact h m hm
theorem small_snoc {n : Int} {ns : List Int} (h1 : n.natAbs < 1099511627776) (h : Small ns) : Small (ns ++ [n]) := fun m hm => by
  rcases List.mem_append.1 hm with hm | hm
  · exact h m hm
  · rw [List.mem_singleton.1 hm]; exact h1
theorem sum_bound : ∀ ns : List Int, Small ns → ns.sum.natAbs ≤ ns.length * 1099511627776
  | [], _ => by simp
  | n :: ns, h => by
    obtain ⟨h1, h2⟩ := small_tail h
    have := sum_bound ns h2
    rw [List.sum_cons, List.length_cons, Nat.succ_mul]
    omega
theorem fold_add : ∀ (ns : List Int) (A : Int), Small ns → A.natAbs + ns.length * 1099511627776 < 9007199254740992 → (ns.map enc).foldl (fun s x => opN .add s (nm x)) (enc A) = enc (A + ns.sum)
  | [], A, _, _ => by simp
  | n :: ns, A, h, hb => by
    obtain ⟨h1, h2⟩ := small_tail h
    rw [List.length_cons, Nat.succ_mul] at hb
    rw [List.map_cons, List.foldl_cons, nm_enc n (by omega), opN_add A n (by omega) (by omega) (by omega), fold_add ns (A + n) h2 (by omega), List.sum_cons, Int.add_assoc]
theorem sumN_enc (ns : List Int) (h : Small ns) (hl : ns.length ≤ 4096) : sumN (ns.map enc) = enc ns.sum := by
  unfold sumN
  have e := fold_add ns 0 h (by show 0 + _ < _; omega)
  rw [enc_zero, Int.zero_add] at e
  exact e
theorem step_enc (A n : Int) (hA : A.natAbs < 4503599627370496) (hn : n.natAbs < 1099511627776) : stepK (enc A, enc 0) (enc n) = (enc (A + n), enc 0) := by
  have e1 := opN_add A n (by omega) (by omega) (by omega)
  have e2 := opN_sub A (A + n) (by omega) (by omega) (by omega)
  have e3 := opN_sub n (A + n) (by omega) (by omega) (by omega)
  have e4 := opN_add (A - (A + n)) n (by omega) (by omega) (by omega)
  have e5 := opN_add (n - (A + n)) A (by omega) (by omega) (by omega)
  have z1 : A - (A + n) + n = 0 := by omega
  have z2 : n - (A + n) + A = 0 := by omega
  have e6 := opN_add 0 0 (by decide) (by decide) (by decide)
  rw [z1] at e4
  rw [z2] at e5
  unfold stepK
  simp only [e1, e2, e3, e4, e5, e6, ite_self]
  rfl
theorem fold_kept : ∀ (ns : List Int) (A : Int), Small ns → A.natAbs + ns.length * 1099511627776 ≤ 4503599627370496 → (ns.map enc).foldl (fun p x => stepK p (nm x)) (enc A, enc 0) = (enc (A + ns.sum), enc 0)
  | [], A, _, _ => by simp
  | n :: ns, A, h, hb => by
    obtain ⟨h1, h2⟩ := small_tail h
    rw [List.length_cons, Nat.succ_mul] at hb
    rw [List.map_cons, List.foldl_cons, nm_enc n (by omega), step_enc A n (by omega) h1, fold_kept ns (A + n) h2 (by omega), List.sum_cons, Int.add_assoc]
theorem keptN_enc (ns : List Int) (h : Small ns) (hl : ns.length ≤ 4096) : keptN (ns.map enc) = enc ns.sum := by
  have hs := sum_bound ns h
  have e := fold_kept ns 0 h (by show 0 + _ ≤ _; omega)
  rw [enc_zero, Int.zero_add] at e
  have e2 := opN_add ns.sum 0 (by omega) (by decide) (by omega)
  rw [Int.add_zero, enc_zero] at e2
  unfold keptN pairK
  rw [e]
  exact e2
/-- A whole number is what it is. -/
theorem enc_self (n : Int) (hb : n.natAbs < 9007199254740992) : (FloatKind.f64.format.order (enc n) (enc n) == some Ordering.eq) = true := by
  rw [order_self, enc_num n hb]; rfl
theorem sum_snoc (ns : List Int) (n : Int) : (ns ++ [n]).sum = ns.sum + n := by simp
theorem tmod_small (x : Int) : (x.tmod 1099511627776).natAbs < 1099511627776 := by
  rw [Int.natAbs_tmod]
  exact Nat.mod_lt _ (by decide)
end Go.Proofs.YtedohdcjichanaaGreatDoor

namespace Go.Proofs.YtedohdcjichanaaGreatDoor
open Go.RowKit

theorem Tryz.info25x : (Tryz.prog.info? 25).map (fun i => (i.zero, i.size, i.bytes)) = some (some (.float .f64 0), 1, 8) := by kernel_rfl
theorem Tryz.underlying22x : Tryz.prog.underlying 22 = some (.slice 25) := by kernel_rfl

def InMem (w : World) (a : Option Addr) (l : List Nat) : Prop := ∀ i (h : i < l.length), ∃ b o, a = some ⟨b, o, none⟩ ∧ w.cell? ⟨b, o + i, none⟩ = some (.float .f64 l[i])
theorem info_parts {P : Program} {t : TypeId} {z : Option Value} {s b : Nat} (h : (P.info? t).map (fun i => (i.zero, i.size, i.bytes)) = some (z, s, b)) : ∃ i, P.info? t = some i ∧ i.zero = z ∧ i.size = s ∧ i.bytes = b := by
  cases e : P.info? t with
  | none => rw [e] at h; cases h
  | some i =>
    rw [e] at h
    simp only [Option.map_some, Option.some.injEq, Prod.mk.injEq] at h
    exact ⟨i, rfl, h.1, h.2.1, h.2.2⟩
/-- What the list is, and the mark behind it. -/
def Lent (w : World) (base : Nat) (v : Value) (n : Nat) (ss : List Nat) : Prop := ∃ g cap, v = .slice (some ⟨g, 0, none⟩) n cap ∧ n + 1 ≤ cap ∧ cap ≤ 9223372036854775807 ∧ base ≤ g ∧ InMem w (some ⟨g, 0, none⟩) ss ∧ w.cell? ⟨g, n, none⟩ = some (.float .f64 4661473004444712960)

end Go.Proofs.YtedohdcjichanaaGreatDoor

namespace Go.Proofs.YtedohdcjichanaaGreatDoor
open Go.RowKit Go.Maps Go.ChangeMaps Go.WideMaps
attribute [local go_sem] run_bits run_from
set_option maxRecDepth 100000 in
theorem nan_any (w : World) : Calls Tryz.prog 48 #[] w fun e w' => e = .returned (.float .f64 9221120237041090561) ∧ w' = w := by
  go_enter Tryz.func48, Tryz.ntmps48
  go_wp2
  go_ret
  exact ⟨by simp, rfl⟩
set_option maxRecDepth 100000 in
theorem inf_pos (w : World) : Calls Tryz.prog 49 #[.int .i64 1] w fun e w' => e = .returned (.float .f64 9218868437227405312) ∧ w' = w := by
  go_enter Tryz.func49, Tryz.ntmps49
  go_wp2
  go_ret
  exact ⟨by simp, rfl⟩
set_option maxRecDepth 100000 in
theorem inf_neg (w : World) : Calls Tryz.prog 49 #[.int .i64 (-1)] w fun e w' => e = .returned (.float .f64 18442240474082181120) ∧ w' = w := by
  go_enter Tryz.func49, Tryz.ntmps49
  go_wp2
  go_ret
  exact ⟨by simp, rfl⟩
/-- A float reads by its bits. -/
def wR : Value → Option (DataW Unit × List MemPlace)
  | .float .f64 b => some (.lit (.int .i64 (b : Int)), [])
  | _ => none
def wD0 : DataW Unit := .map []
def wD1 : DataW Unit := wD0.put (.string [78, 97, 78]) (.lit (.int .i64 9221120237041090561))
def wD2 : DataW Unit := wD1.put (.string [43, 73, 110, 102]) (.lit (.int .i64 9218868437227405312))
def wD3 : DataW Unit := wD2.put (.string [45, 73, 110, 102]) (.lit (.int .i64 18442240474082181120))
def wD : Nat → DataW Unit
  | 0 => wD0
  | 1 => wD1
  | 2 => wD2
  | _ => wD3
theorem underM : Tryz.prog.underlying 60 = some (.map 9 25) := by kernel_rfl
theorem key_of (s : ByteArray) (h : s.size ≤ 20) : keyOf Tryz.prog 9 (.string s) = some (.string s.data.toList) := keyOf_string_mk Tryz.underlying9 (by unfold maxLen; omega)
set_option maxRecDepth 100000 in
set_option maxHeartbeats 2000000 in
theorem words_any (w : World) : Calls Tryz.prog 33 #[] w fun r w' => r = .returned (.map (some w.heap.size)) ∧ w'.ownsMap Tryz.prog 9 wR w.heap.size 3 (wD 3) ∧ Below w.heap.size w w' := by
  have hmm := @run_makeMap Tryz.prog
  obtain ⟨W1, hW1⟩ : ∃ W1, W1 = w.alloc (.map #[] 0) := ⟨_, rfl⟩
  have HO : Hid (W1.ownsMap Tryz.prog 9 wR w.heap.size 0 (wD 0)) := by rw [hW1]; exact World.ownsMap_made w Tryz.prog 9 wR
  have HB : Hid (Below w.heap.size w W1 ∧ w.heap.size + 1 ≤ W1.heap.size) := by rw [hW1]; exact ⟨(Below.refl _ _).alloc (Nat.le_refl _) _, by simp⟩
  go_enter Tryz.func33, Tryz.ntmps33
  go_wp2_with (go_at_call 48; go_must (refine (nan_any _).mono ?_; rintro e ww ⟨rfl, hw⟩; have hw2 := hw.symm; subst hw2; clear hw))
  rw [← hW1]
  clear hW1
  obtain ⟨wu0, hrun, r1, r2⟩ := (unhide HO).update (string_keyed Tryz.underlying9) underM (by unfold maxLen; omega) (key_of ⟨#[78, 97, 78]⟩ (by decide)) (show wR (.float .f64 9221120237041090561) = some (.lit (.int .i64 9221120237041090561), []) from rfl)
  rw [hrun]
  clear hrun HO
  have HO : Hid (wu0.ownsMap Tryz.prog 9 wR w.heap.size 1 (wD 1)) := r1
  replace HB : Hid (Below w.heap.size w wu0 ∧ w.heap.size + 1 ≤ wu0.heap.size) := ⟨(unhide HB).1.grown r2 (by have h := (unhide HB).2; omega) (fun j hj => by cases hj; exact Nat.le_refl _), Nat.le_trans (unhide HB).2 r2.size⟩
  clear r1 r2
  go_wp2_with (go_at_call 49; go_must (refine (inf_pos _).mono ?_; rintro e ww ⟨rfl, hw⟩; have hw2 := hw.symm; subst hw2; clear hw))
  obtain ⟨wu1, hrun, r1, r2⟩ := (unhide HO).update (string_keyed Tryz.underlying9) underM (by unfold maxLen; omega) (key_of ⟨#[43, 73, 110, 102]⟩ (by decide)) (show wR (.float .f64 9218868437227405312) = some (.lit (.int .i64 9218868437227405312), []) from rfl)
  rw [hrun]
  clear hrun HO
  have HO : Hid (wu1.ownsMap Tryz.prog 9 wR w.heap.size 2 (wD 2)) := r1
  replace HB : Hid (Below w.heap.size w wu1 ∧ w.heap.size + 1 ≤ wu1.heap.size) := ⟨(unhide HB).1.grown r2 (by have h := (unhide HB).2; omega) (fun j hj => by cases hj; exact Nat.le_refl _), Nat.le_trans (unhide HB).2 r2.size⟩
  clear r1 r2
  go_wp2_with (go_at_call 49; go_must (refine (inf_neg _).mono ?_; rintro e ww ⟨rfl, hw⟩; have hw2 := hw.symm; subst hw2; clear hw))
  obtain ⟨wu2, hrun, r1, r2⟩ := (unhide HO).update (string_keyed Tryz.underlying9) underM (by unfold maxLen; omega) (key_of ⟨#[45, 73, 110, 102]⟩ (by decide)) (show wR (.float .f64 18442240474082181120) = some (.lit (.int .i64 18442240474082181120), []) from rfl)
  rw [hrun]
  clear hrun HO
  have HO : Hid (wu2.ownsMap Tryz.prog 9 wR w.heap.size 3 (wD 3)) := r1
  replace HB : Hid (Below w.heap.size w wu2 ∧ w.heap.size + 1 ≤ wu2.heap.size) := ⟨(unhide HB).1.grown r2 (by have h := (unhide HB).2; omega) (fun j hj => by cases hj; exact Nat.le_refl _), Nat.le_trans (unhide HB).2 r2.size⟩
  clear r1 r2
  go_wp2_with fail
  go_ret
  exact ⟨rfl, unhide HO, (unhide HB).1⟩
theorem wD_at : ∀ kl zd, Maps.has (wD 3) kl = true → (wD 3).atKey kl zd = .lit (.int .i64 9221120237041090561) ∨ (wD 3).atKey kl zd = .lit (.int .i64 9218868437227405312) ∨ (wD 3).atKey kl zd = .lit (.int .i64 18442240474082181120) := by
  intro kl zd h
  by_cases e2 : kl = .string [45, 73, 110, 102]
  · subst e2; right; right; kernel_rfl
  · rw [show wD 3 = (wD 2).put (.string [45, 73, 110, 102]) (.lit (.int .i64 18442240474082181120)) from rfl, Maps.has_put_other e2] at h
    by_cases e1 : kl = .string [43, 73, 110, 102]
    · subst e1; right; left; kernel_rfl
    · rw [show wD 2 = (wD 1).put (.string [43, 73, 110, 102]) (.lit (.int .i64 9218868437227405312)) from rfl, Maps.has_put_other e1] at h
      by_cases e0 : kl = .string [78, 97, 78]
      · subst e0; left; kernel_rfl
      · rw [show wD 1 = (wD 0).put (.string [78, 97, 78]) (.lit (.int .i64 9221120237041090561)) from rfl, Maps.has_put_other e0] at h
        exact absurd h (by simp [wD, wD0, Maps.has])
theorem wR_inv {v : Value} {p : Int} {ps : List MemPlace} (h : wR v = some (.lit (.int .i64 p), ps)) : ∃ b : Nat, v = .float .f64 b ∧ (b : Int) = p := by
  unfold wR at h
  split at h
  · cases h; exact ⟨_, rfl, rfl⟩
  · cases h
end Go.Proofs.YtedohdcjichanaaGreatDoor

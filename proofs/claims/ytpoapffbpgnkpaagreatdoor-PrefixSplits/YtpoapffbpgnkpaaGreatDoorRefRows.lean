/- The document's rows, as they are made. -/
import Derived.Test.YtpoapffbpgnkpaaGreatDoorToldA
import Derived.Test.YtpoapffbpgnkpaaGreatDoorToldB
import Derived.Test.YtpoapffbpgnkpaaGreatDoorToldC
import Derived.Test.YtpoapffbpgnkpaaGreatDoorToldD
namespace Go.Proofs.YtpoapffbpgnkpaaGreatDoor
open Go.RowKit
structure Pre where
  nm : ByteArray
  sy : ByteArray
  f : Nat
  fn : ByteArray
  fd : ByteArray
  bi : Bool
  ex : Int
def tbl : Nat → Pre
  | 0 => ⟨⟨#[100, 101, 99, 97]⟩, ⟨#[100, 97]⟩, 40, ⟨#[49, 48]⟩, ⟨#[49]⟩, false, 1⟩
  | 1 => ⟨⟨#[104, 101, 99, 116, 111]⟩, ⟨#[104]⟩, 41, ⟨#[49, 48, 48]⟩, ⟨#[49]⟩, false, 2⟩
  | 2 => ⟨⟨#[107, 105, 108, 111]⟩, ⟨#[107]⟩, 42, ⟨#[49, 48, 48, 48]⟩, ⟨#[49]⟩, false, 3⟩
  | 3 => ⟨⟨#[109, 101, 103, 97]⟩, ⟨#[77]⟩, 43, ⟨#[49, 48, 48, 48, 48, 48, 48]⟩, ⟨#[49]⟩, false, 6⟩
  | 4 => ⟨⟨#[103, 105, 103, 97]⟩, ⟨#[71]⟩, 44, ⟨#[49, 48, 48, 48, 48, 48, 48, 48, 48, 48]⟩, ⟨#[49]⟩, false, 9⟩
  | 5 => ⟨⟨#[116, 101, 114, 97]⟩, ⟨#[84]⟩, 45, ⟨#[49, 48, 48, 48, 48, 48, 48, 48, 48, 48, 48, 48, 48]⟩, ⟨#[49]⟩, false, 12⟩
  | 6 => ⟨⟨#[112, 101, 116, 97]⟩, ⟨#[80]⟩, 46, ⟨#[49, 48, 48, 48, 48, 48, 48, 48, 48, 48, 48, 48, 48, 48, 48, 48]⟩, ⟨#[49]⟩, false, 15⟩
  | 7 => ⟨⟨#[101, 120, 97]⟩, ⟨#[69]⟩, 47, ⟨#[49, 48, 48, 48, 48, 48, 48, 48, 48, 48, 48, 48, 48, 48, 48, 48, 48, 48, 48]⟩, ⟨#[49]⟩, false, 18⟩
  | 8 => ⟨⟨#[122, 101, 116, 116, 97]⟩, ⟨#[90]⟩, 48, ⟨#[49, 48, 48, 48, 48, 48, 48, 48, 48, 48, 48, 48, 48, 48, 48, 48, 48, 48, 48, 48, 48, 48]⟩, ⟨#[49]⟩, false, 21⟩
  | 9 => ⟨⟨#[121, 111, 116, 116, 97]⟩, ⟨#[89]⟩, 49, ⟨#[49, 48, 48, 48, 48, 48, 48, 48, 48, 48, 48, 48, 48, 48, 48, 48, 48, 48, 48, 48, 48, 48, 48, 48, 48]⟩, ⟨#[49]⟩, false, 24⟩
  | 10 => ⟨⟨#[114, 111, 110, 110, 97]⟩, ⟨#[82]⟩, 50, ⟨#[49, 48, 48, 48, 48, 48, 48, 48, 48, 48, 48, 48, 48, 48, 48, 48, 48, 48, 48, 48, 48, 48, 48, 48, 48, 48, 48, 48]⟩, ⟨#[49]⟩, false, 27⟩
  | 11 => ⟨⟨#[113, 117, 101, 116, 116, 97]⟩, ⟨#[81]⟩, 51, ⟨#[49, 48, 48, 48, 48, 48, 48, 48, 48, 48, 48, 48, 48, 48, 48, 48, 48, 48, 48, 48, 48, 48, 48, 48, 48, 48, 48, 48, 48, 48, 48]⟩, ⟨#[49]⟩, false, 30⟩
  | 12 => ⟨⟨#[100, 101, 99, 105]⟩, ⟨#[100]⟩, 52, ⟨#[49]⟩, ⟨#[49, 48]⟩, false, (-1)⟩
  | 13 => ⟨⟨#[99, 101, 110, 116, 105]⟩, ⟨#[99]⟩, 53, ⟨#[49]⟩, ⟨#[49, 48, 48]⟩, false, (-2)⟩
  | 14 => ⟨⟨#[109, 105, 108, 108, 105]⟩, ⟨#[109]⟩, 54, ⟨#[49]⟩, ⟨#[49, 48, 48, 48]⟩, false, (-3)⟩
  | 15 => ⟨⟨#[109, 105, 99, 114, 111]⟩, ⟨#[206, 188]⟩, 55, ⟨#[49]⟩, ⟨#[49, 48, 48, 48, 48, 48, 48]⟩, false, (-6)⟩
  | 16 => ⟨⟨#[110, 97, 110, 111]⟩, ⟨#[110]⟩, 56, ⟨#[49]⟩, ⟨#[49, 48, 48, 48, 48, 48, 48, 48, 48, 48]⟩, false, (-9)⟩
  | 17 => ⟨⟨#[112, 105, 99, 111]⟩, ⟨#[112]⟩, 57, ⟨#[49]⟩, ⟨#[49, 48, 48, 48, 48, 48, 48, 48, 48, 48, 48, 48, 48]⟩, false, (-12)⟩
  | 18 => ⟨⟨#[102, 101, 109, 116, 111]⟩, ⟨#[102]⟩, 58, ⟨#[49]⟩, ⟨#[49, 48, 48, 48, 48, 48, 48, 48, 48, 48, 48, 48, 48, 48, 48, 48]⟩, false, (-15)⟩
  | 19 => ⟨⟨#[97, 116, 116, 111]⟩, ⟨#[97]⟩, 59, ⟨#[49]⟩, ⟨#[49, 48, 48, 48, 48, 48, 48, 48, 48, 48, 48, 48, 48, 48, 48, 48, 48, 48, 48]⟩, false, (-18)⟩
  | 20 => ⟨⟨#[122, 101, 112, 116, 111]⟩, ⟨#[122]⟩, 60, ⟨#[49]⟩, ⟨#[49, 48, 48, 48, 48, 48, 48, 48, 48, 48, 48, 48, 48, 48, 48, 48, 48, 48, 48, 48, 48, 48]⟩, false, (-21)⟩
  | 21 => ⟨⟨#[121, 111, 99, 116, 111]⟩, ⟨#[121]⟩, 61, ⟨#[49]⟩, ⟨#[49, 48, 48, 48, 48, 48, 48, 48, 48, 48, 48, 48, 48, 48, 48, 48, 48, 48, 48, 48, 48, 48, 48, 48, 48]⟩, false, (-24)⟩
  | 22 => ⟨⟨#[114, 111, 110, 116, 111]⟩, ⟨#[114]⟩, 62, ⟨#[49]⟩, ⟨#[49, 48, 48, 48, 48, 48, 48, 48, 48, 48, 48, 48, 48, 48, 48, 48, 48, 48, 48, 48, 48, 48, 48, 48, 48, 48, 48, 48]⟩, false, (-27)⟩
  | 23 => ⟨⟨#[113, 117, 101, 99, 116, 111]⟩, ⟨#[113]⟩, 63, ⟨#[49]⟩, ⟨#[49, 48, 48, 48, 48, 48, 48, 48, 48, 48, 48, 48, 48, 48, 48, 48, 48, 48, 48, 48, 48, 48, 48, 48, 48, 48, 48, 48, 48, 48, 48]⟩, false, (-30)⟩
  | 24 => ⟨⟨#[107, 105, 98, 105]⟩, ⟨#[75, 105]⟩, 64, ⟨#[49, 48, 50, 52]⟩, ⟨#[49]⟩, true, 1⟩
  | 25 => ⟨⟨#[109, 101, 98, 105]⟩, ⟨#[77, 105]⟩, 65, ⟨#[49, 48, 52, 56, 53, 55, 54]⟩, ⟨#[49]⟩, true, 2⟩
  | 26 => ⟨⟨#[103, 105, 98, 105]⟩, ⟨#[71, 105]⟩, 66, ⟨#[49, 48, 55, 51, 55, 52, 49, 56, 50, 52]⟩, ⟨#[49]⟩, true, 3⟩
  | 27 => ⟨⟨#[116, 101, 98, 105]⟩, ⟨#[84, 105]⟩, 67, ⟨#[49, 48, 57, 57, 53, 49, 49, 54, 50, 55, 55, 55, 54]⟩, ⟨#[49]⟩, true, 4⟩
  | 28 => ⟨⟨#[112, 101, 98, 105]⟩, ⟨#[80, 105]⟩, 68, ⟨#[49, 49, 50, 53, 56, 57, 57, 57, 48, 54, 56, 52, 50, 54, 50, 52]⟩, ⟨#[49]⟩, true, 5⟩
  | 29 => ⟨⟨#[101, 120, 98, 105]⟩, ⟨#[69, 105]⟩, 69, ⟨#[49, 49, 53, 50, 57, 50, 49, 53, 48, 52, 54, 48, 54, 56, 52, 54, 57, 55, 54]⟩, ⟨#[49]⟩, true, 6⟩
  | 30 => ⟨⟨#[122, 101, 98, 105]⟩, ⟨#[90, 105]⟩, 70, ⟨#[49, 49, 56, 48, 53, 57, 49, 54, 50, 48, 55, 49, 55, 52, 49, 49, 51, 48, 51, 52, 50, 52]⟩, ⟨#[49]⟩, true, 7⟩
  | 31 => ⟨⟨#[121, 111, 98, 105]⟩, ⟨#[89, 105]⟩, 71, ⟨#[49, 50, 48, 56, 57, 50, 53, 56, 49, 57, 54, 49, 52, 54, 50, 57, 49, 55, 52, 55, 48, 54, 49, 55, 54]⟩, ⟨#[49]⟩, true, 8⟩
  | _ => ⟨⟨#[]⟩, ⟨#[]⟩, 0, ⟨#[]⟩, ⟨#[]⟩, false, 0⟩
def rowV (k : Nat) : Value := RowV (tbl k).nm (tbl k).sy (tbl k).f
def preV (k : Nat) : Value := .agg #[.string (tbl k).nm, .string (tbl k).sy, .string (tbl k).fn, .string (tbl k).fd, .bool (tbl k).bi]
theorem le600 (e : Nat) (h : e = 600) : 10 ^ 40 ≤ 10 ^ e := Nat.pow_le_pow_right (by decide) (by omega)
theorem deca_row (w : World) (ht : Tab w) : Calls Tryz.prog 18 #[rowV 0] w fun r w' => r = .returned (preV 0) ∧ Below w.heap.size w w' := by
  have h := fac_pos 10 1 1 rfl (Nat.lt_of_lt_of_le (by decide : 10 ^ 1 < 10 ^ 40) (le600 600 rfl))
  exact deca_told _ _ ⟨#[49, 48]⟩ ⟨#[49]⟩ w (fun W hb => factor_any 10 1 ⟨#[49, 48]⟩ ⟨#[49]⟩ W (ht.later hb) (by decide) (by decide) (by decide) (by decide) ⟨h.1.trans (by decide +kernel), h.2.1.trans (by decide +kernel), h.2.2⟩)
theorem hecto_row (w : World) (ht : Tab w) : Calls Tryz.prog 18 #[rowV 1] w fun r w' => r = .returned (preV 1) ∧ Below w.heap.size w w' := by
  have h := fac_pos 10 2 2 rfl (Nat.lt_of_lt_of_le (by decide : 10 ^ 2 < 10 ^ 40) (le600 600 rfl))
  exact hecto_told _ _ ⟨#[49, 48, 48]⟩ ⟨#[49]⟩ w (fun W hb => factor_any 10 2 ⟨#[49, 48, 48]⟩ ⟨#[49]⟩ W (ht.later hb) (by decide) (by decide) (by decide) (by decide) ⟨h.1.trans (by decide +kernel), h.2.1.trans (by decide +kernel), h.2.2⟩)
theorem kilo_row (w : World) (ht : Tab w) : Calls Tryz.prog 18 #[rowV 2] w fun r w' => r = .returned (preV 2) ∧ Below w.heap.size w w' := by
  have h := fac_pos 10 3 3 rfl (Nat.lt_of_lt_of_le (by decide : 10 ^ 3 < 10 ^ 40) (le600 600 rfl))
  exact kilo_told _ _ ⟨#[49, 48, 48, 48]⟩ ⟨#[49]⟩ w (fun W hb => factor_any 10 3 ⟨#[49, 48, 48, 48]⟩ ⟨#[49]⟩ W (ht.later hb) (by decide) (by decide) (by decide) (by decide) ⟨h.1.trans (by decide +kernel), h.2.1.trans (by decide +kernel), h.2.2⟩)
theorem mega_row (w : World) (ht : Tab w) : Calls Tryz.prog 18 #[rowV 3] w fun r w' => r = .returned (preV 3) ∧ Below w.heap.size w w' := by
  have h := fac_pos 10 6 6 rfl (Nat.lt_of_lt_of_le (by decide : 10 ^ 6 < 10 ^ 40) (le600 600 rfl))
  exact mega_told _ _ ⟨#[49, 48, 48, 48, 48, 48, 48]⟩ ⟨#[49]⟩ w (fun W hb => factor_any 10 6 ⟨#[49, 48, 48, 48, 48, 48, 48]⟩ ⟨#[49]⟩ W (ht.later hb) (by decide) (by decide) (by decide) (by decide) ⟨h.1.trans (by decide +kernel), h.2.1.trans (by decide +kernel), h.2.2⟩)
theorem giga_row (w : World) (ht : Tab w) : Calls Tryz.prog 18 #[rowV 4] w fun r w' => r = .returned (preV 4) ∧ Below w.heap.size w w' := by
  have h := fac_pos 10 9 9 rfl (Nat.lt_of_lt_of_le (by decide : 10 ^ 9 < 10 ^ 40) (le600 600 rfl))
  exact giga_told _ _ ⟨#[49, 48, 48, 48, 48, 48, 48, 48, 48, 48]⟩ ⟨#[49]⟩ w (fun W hb => factor_any 10 9 ⟨#[49, 48, 48, 48, 48, 48, 48, 48, 48, 48]⟩ ⟨#[49]⟩ W (ht.later hb) (by decide) (by decide) (by decide) (by decide) ⟨h.1.trans (by decide +kernel), h.2.1.trans (by decide +kernel), h.2.2⟩)
theorem tera_row (w : World) (ht : Tab w) : Calls Tryz.prog 18 #[rowV 5] w fun r w' => r = .returned (preV 5) ∧ Below w.heap.size w w' := by
  have h := fac_pos 10 12 12 rfl (Nat.lt_of_lt_of_le (by decide : 10 ^ 12 < 10 ^ 40) (le600 600 rfl))
  exact tera_told _ _ ⟨#[49, 48, 48, 48, 48, 48, 48, 48, 48, 48, 48, 48, 48]⟩ ⟨#[49]⟩ w (fun W hb => factor_any 10 12 ⟨#[49, 48, 48, 48, 48, 48, 48, 48, 48, 48, 48, 48, 48]⟩ ⟨#[49]⟩ W (ht.later hb) (by decide) (by decide) (by decide) (by decide) ⟨h.1.trans (by decide +kernel), h.2.1.trans (by decide +kernel), h.2.2⟩)
theorem peta_row (w : World) (ht : Tab w) : Calls Tryz.prog 18 #[rowV 6] w fun r w' => r = .returned (preV 6) ∧ Below w.heap.size w w' := by
  have h := fac_pos 10 15 15 rfl (Nat.lt_of_lt_of_le (by decide : 10 ^ 15 < 10 ^ 40) (le600 600 rfl))
  exact peta_told _ _ ⟨#[49, 48, 48, 48, 48, 48, 48, 48, 48, 48, 48, 48, 48, 48, 48, 48]⟩ ⟨#[49]⟩ w (fun W hb => factor_any 10 15 ⟨#[49, 48, 48, 48, 48, 48, 48, 48, 48, 48, 48, 48, 48, 48, 48, 48]⟩ ⟨#[49]⟩ W (ht.later hb) (by decide) (by decide) (by decide) (by decide) ⟨h.1.trans (by decide +kernel), h.2.1.trans (by decide +kernel), h.2.2⟩)
theorem exa_row (w : World) (ht : Tab w) : Calls Tryz.prog 18 #[rowV 7] w fun r w' => r = .returned (preV 7) ∧ Below w.heap.size w w' := by
  have h := fac_pos 10 18 18 rfl (Nat.lt_of_lt_of_le (by decide : 10 ^ 18 < 10 ^ 40) (le600 600 rfl))
  exact exa_told _ _ ⟨#[49, 48, 48, 48, 48, 48, 48, 48, 48, 48, 48, 48, 48, 48, 48, 48, 48, 48, 48]⟩ ⟨#[49]⟩ w (fun W hb => factor_any 10 18 ⟨#[49, 48, 48, 48, 48, 48, 48, 48, 48, 48, 48, 48, 48, 48, 48, 48, 48, 48, 48]⟩ ⟨#[49]⟩ W (ht.later hb) (by decide) (by decide) (by decide) (by decide) ⟨h.1.trans (by decide +kernel), h.2.1.trans (by decide +kernel), h.2.2⟩)
theorem zetta_row (w : World) (ht : Tab w) : Calls Tryz.prog 18 #[rowV 8] w fun r w' => r = .returned (preV 8) ∧ Below w.heap.size w w' := by
  have h := fac_pos 10 21 21 rfl (Nat.lt_of_lt_of_le (by decide : 10 ^ 21 < 10 ^ 40) (le600 600 rfl))
  exact zetta_told _ _ ⟨#[49, 48, 48, 48, 48, 48, 48, 48, 48, 48, 48, 48, 48, 48, 48, 48, 48, 48, 48, 48, 48, 48]⟩ ⟨#[49]⟩ w (fun W hb => factor_any 10 21 ⟨#[49, 48, 48, 48, 48, 48, 48, 48, 48, 48, 48, 48, 48, 48, 48, 48, 48, 48, 48, 48, 48, 48]⟩ ⟨#[49]⟩ W (ht.later hb) (by decide) (by decide) (by decide) (by decide) ⟨h.1.trans (by decide +kernel), h.2.1.trans (by decide +kernel), h.2.2⟩)
theorem yotta_row (w : World) (ht : Tab w) : Calls Tryz.prog 18 #[rowV 9] w fun r w' => r = .returned (preV 9) ∧ Below w.heap.size w w' := by
  have h := fac_pos 10 24 24 rfl (Nat.lt_of_lt_of_le (by decide : 10 ^ 24 < 10 ^ 40) (le600 600 rfl))
  exact yotta_told _ _ ⟨#[49, 48, 48, 48, 48, 48, 48, 48, 48, 48, 48, 48, 48, 48, 48, 48, 48, 48, 48, 48, 48, 48, 48, 48, 48]⟩ ⟨#[49]⟩ w (fun W hb => factor_any 10 24 ⟨#[49, 48, 48, 48, 48, 48, 48, 48, 48, 48, 48, 48, 48, 48, 48, 48, 48, 48, 48, 48, 48, 48, 48, 48, 48]⟩ ⟨#[49]⟩ W (ht.later hb) (by decide) (by decide) (by decide) (by decide) ⟨h.1.trans (by decide +kernel), h.2.1.trans (by decide +kernel), h.2.2⟩)
theorem ronna_row (w : World) (ht : Tab w) : Calls Tryz.prog 18 #[rowV 10] w fun r w' => r = .returned (preV 10) ∧ Below w.heap.size w w' := by
  have h := fac_pos 10 27 27 rfl (Nat.lt_of_lt_of_le (by decide : 10 ^ 27 < 10 ^ 40) (le600 600 rfl))
  exact ronna_told _ _ ⟨#[49, 48, 48, 48, 48, 48, 48, 48, 48, 48, 48, 48, 48, 48, 48, 48, 48, 48, 48, 48, 48, 48, 48, 48, 48, 48, 48, 48]⟩ ⟨#[49]⟩ w (fun W hb => factor_any 10 27 ⟨#[49, 48, 48, 48, 48, 48, 48, 48, 48, 48, 48, 48, 48, 48, 48, 48, 48, 48, 48, 48, 48, 48, 48, 48, 48, 48, 48, 48]⟩ ⟨#[49]⟩ W (ht.later hb) (by decide) (by decide) (by decide) (by decide) ⟨h.1.trans (by decide +kernel), h.2.1.trans (by decide +kernel), h.2.2⟩)
theorem quetta_row (w : World) (ht : Tab w) : Calls Tryz.prog 18 #[rowV 11] w fun r w' => r = .returned (preV 11) ∧ Below w.heap.size w w' := by
  have h := fac_pos 10 30 30 rfl (Nat.lt_of_lt_of_le (by decide : 10 ^ 30 < 10 ^ 40) (le600 600 rfl))
  exact quetta_told _ _ ⟨#[49, 48, 48, 48, 48, 48, 48, 48, 48, 48, 48, 48, 48, 48, 48, 48, 48, 48, 48, 48, 48, 48, 48, 48, 48, 48, 48, 48, 48, 48, 48]⟩ ⟨#[49]⟩ w (fun W hb => factor_any 10 30 ⟨#[49, 48, 48, 48, 48, 48, 48, 48, 48, 48, 48, 48, 48, 48, 48, 48, 48, 48, 48, 48, 48, 48, 48, 48, 48, 48, 48, 48, 48, 48, 48]⟩ ⟨#[49]⟩ W (ht.later hb) (by decide) (by decide) (by decide) (by decide) ⟨h.1.trans (by decide +kernel), h.2.1.trans (by decide +kernel), h.2.2⟩)
theorem deci_row (w : World) (ht : Tab w) : Calls Tryz.prog 18 #[rowV 12] w fun r w' => r = .returned (preV 12) ∧ Below w.heap.size w w' := by
  have h := fac_neg 10 1 (-1) (by decide) (by decide) rfl (Nat.lt_of_lt_of_le (by decide : 10 ^ 1 < 10 ^ 40) (le600 600 rfl))
  exact deci_told _ _ ⟨#[49]⟩ ⟨#[49, 48]⟩ w (fun W hb => factor_any 10 (-1) ⟨#[49]⟩ ⟨#[49, 48]⟩ W (ht.later hb) (by decide) (by decide) (by decide) (by decide) ⟨h.1.trans (by decide +kernel), h.2.1.trans (by decide +kernel), h.2.2⟩)
theorem centi_row (w : World) (ht : Tab w) : Calls Tryz.prog 18 #[rowV 13] w fun r w' => r = .returned (preV 13) ∧ Below w.heap.size w w' := by
  have h := fac_neg 10 2 (-2) (by decide) (by decide) rfl (Nat.lt_of_lt_of_le (by decide : 10 ^ 2 < 10 ^ 40) (le600 600 rfl))
  exact centi_told _ _ ⟨#[49]⟩ ⟨#[49, 48, 48]⟩ w (fun W hb => factor_any 10 (-2) ⟨#[49]⟩ ⟨#[49, 48, 48]⟩ W (ht.later hb) (by decide) (by decide) (by decide) (by decide) ⟨h.1.trans (by decide +kernel), h.2.1.trans (by decide +kernel), h.2.2⟩)
theorem milli_row (w : World) (ht : Tab w) : Calls Tryz.prog 18 #[rowV 14] w fun r w' => r = .returned (preV 14) ∧ Below w.heap.size w w' := by
  have h := fac_neg 10 3 (-3) (by decide) (by decide) rfl (Nat.lt_of_lt_of_le (by decide : 10 ^ 3 < 10 ^ 40) (le600 600 rfl))
  exact milli_told _ _ ⟨#[49]⟩ ⟨#[49, 48, 48, 48]⟩ w (fun W hb => factor_any 10 (-3) ⟨#[49]⟩ ⟨#[49, 48, 48, 48]⟩ W (ht.later hb) (by decide) (by decide) (by decide) (by decide) ⟨h.1.trans (by decide +kernel), h.2.1.trans (by decide +kernel), h.2.2⟩)
theorem micro_row (w : World) (ht : Tab w) : Calls Tryz.prog 18 #[rowV 15] w fun r w' => r = .returned (preV 15) ∧ Below w.heap.size w w' := by
  have h := fac_neg 10 6 (-6) (by decide) (by decide) rfl (Nat.lt_of_lt_of_le (by decide : 10 ^ 6 < 10 ^ 40) (le600 600 rfl))
  exact micro_told _ _ ⟨#[49]⟩ ⟨#[49, 48, 48, 48, 48, 48, 48]⟩ w (fun W hb => factor_any 10 (-6) ⟨#[49]⟩ ⟨#[49, 48, 48, 48, 48, 48, 48]⟩ W (ht.later hb) (by decide) (by decide) (by decide) (by decide) ⟨h.1.trans (by decide +kernel), h.2.1.trans (by decide +kernel), h.2.2⟩)
theorem nano_row (w : World) (ht : Tab w) : Calls Tryz.prog 18 #[rowV 16] w fun r w' => r = .returned (preV 16) ∧ Below w.heap.size w w' := by
  have h := fac_neg 10 9 (-9) (by decide) (by decide) rfl (Nat.lt_of_lt_of_le (by decide : 10 ^ 9 < 10 ^ 40) (le600 600 rfl))
  exact nano_told _ _ ⟨#[49]⟩ ⟨#[49, 48, 48, 48, 48, 48, 48, 48, 48, 48]⟩ w (fun W hb => factor_any 10 (-9) ⟨#[49]⟩ ⟨#[49, 48, 48, 48, 48, 48, 48, 48, 48, 48]⟩ W (ht.later hb) (by decide) (by decide) (by decide) (by decide) ⟨h.1.trans (by decide +kernel), h.2.1.trans (by decide +kernel), h.2.2⟩)
theorem pico_row (w : World) (ht : Tab w) : Calls Tryz.prog 18 #[rowV 17] w fun r w' => r = .returned (preV 17) ∧ Below w.heap.size w w' := by
  have h := fac_neg 10 12 (-12) (by decide) (by decide) rfl (Nat.lt_of_lt_of_le (by decide : 10 ^ 12 < 10 ^ 40) (le600 600 rfl))
  exact pico_told _ _ ⟨#[49]⟩ ⟨#[49, 48, 48, 48, 48, 48, 48, 48, 48, 48, 48, 48, 48]⟩ w (fun W hb => factor_any 10 (-12) ⟨#[49]⟩ ⟨#[49, 48, 48, 48, 48, 48, 48, 48, 48, 48, 48, 48, 48]⟩ W (ht.later hb) (by decide) (by decide) (by decide) (by decide) ⟨h.1.trans (by decide +kernel), h.2.1.trans (by decide +kernel), h.2.2⟩)
theorem femto_row (w : World) (ht : Tab w) : Calls Tryz.prog 18 #[rowV 18] w fun r w' => r = .returned (preV 18) ∧ Below w.heap.size w w' := by
  have h := fac_neg 10 15 (-15) (by decide) (by decide) rfl (Nat.lt_of_lt_of_le (by decide : 10 ^ 15 < 10 ^ 40) (le600 600 rfl))
  exact femto_told _ _ ⟨#[49]⟩ ⟨#[49, 48, 48, 48, 48, 48, 48, 48, 48, 48, 48, 48, 48, 48, 48, 48]⟩ w (fun W hb => factor_any 10 (-15) ⟨#[49]⟩ ⟨#[49, 48, 48, 48, 48, 48, 48, 48, 48, 48, 48, 48, 48, 48, 48, 48]⟩ W (ht.later hb) (by decide) (by decide) (by decide) (by decide) ⟨h.1.trans (by decide +kernel), h.2.1.trans (by decide +kernel), h.2.2⟩)
theorem atto_row (w : World) (ht : Tab w) : Calls Tryz.prog 18 #[rowV 19] w fun r w' => r = .returned (preV 19) ∧ Below w.heap.size w w' := by
  have h := fac_neg 10 18 (-18) (by decide) (by decide) rfl (Nat.lt_of_lt_of_le (by decide : 10 ^ 18 < 10 ^ 40) (le600 600 rfl))
  exact atto_told _ _ ⟨#[49]⟩ ⟨#[49, 48, 48, 48, 48, 48, 48, 48, 48, 48, 48, 48, 48, 48, 48, 48, 48, 48, 48]⟩ w (fun W hb => factor_any 10 (-18) ⟨#[49]⟩ ⟨#[49, 48, 48, 48, 48, 48, 48, 48, 48, 48, 48, 48, 48, 48, 48, 48, 48, 48, 48]⟩ W (ht.later hb) (by decide) (by decide) (by decide) (by decide) ⟨h.1.trans (by decide +kernel), h.2.1.trans (by decide +kernel), h.2.2⟩)
theorem zepto_row (w : World) (ht : Tab w) : Calls Tryz.prog 18 #[rowV 20] w fun r w' => r = .returned (preV 20) ∧ Below w.heap.size w w' := by
  have h := fac_neg 10 21 (-21) (by decide) (by decide) rfl (Nat.lt_of_lt_of_le (by decide : 10 ^ 21 < 10 ^ 40) (le600 600 rfl))
  exact zepto_told _ _ ⟨#[49]⟩ ⟨#[49, 48, 48, 48, 48, 48, 48, 48, 48, 48, 48, 48, 48, 48, 48, 48, 48, 48, 48, 48, 48, 48]⟩ w (fun W hb => factor_any 10 (-21) ⟨#[49]⟩ ⟨#[49, 48, 48, 48, 48, 48, 48, 48, 48, 48, 48, 48, 48, 48, 48, 48, 48, 48, 48, 48, 48, 48]⟩ W (ht.later hb) (by decide) (by decide) (by decide) (by decide) ⟨h.1.trans (by decide +kernel), h.2.1.trans (by decide +kernel), h.2.2⟩)
theorem yocto_row (w : World) (ht : Tab w) : Calls Tryz.prog 18 #[rowV 21] w fun r w' => r = .returned (preV 21) ∧ Below w.heap.size w w' := by
  have h := fac_neg 10 24 (-24) (by decide) (by decide) rfl (Nat.lt_of_lt_of_le (by decide : 10 ^ 24 < 10 ^ 40) (le600 600 rfl))
  exact yocto_told _ _ ⟨#[49]⟩ ⟨#[49, 48, 48, 48, 48, 48, 48, 48, 48, 48, 48, 48, 48, 48, 48, 48, 48, 48, 48, 48, 48, 48, 48, 48, 48]⟩ w (fun W hb => factor_any 10 (-24) ⟨#[49]⟩ ⟨#[49, 48, 48, 48, 48, 48, 48, 48, 48, 48, 48, 48, 48, 48, 48, 48, 48, 48, 48, 48, 48, 48, 48, 48, 48]⟩ W (ht.later hb) (by decide) (by decide) (by decide) (by decide) ⟨h.1.trans (by decide +kernel), h.2.1.trans (by decide +kernel), h.2.2⟩)
theorem ronto_row (w : World) (ht : Tab w) : Calls Tryz.prog 18 #[rowV 22] w fun r w' => r = .returned (preV 22) ∧ Below w.heap.size w w' := by
  have h := fac_neg 10 27 (-27) (by decide) (by decide) rfl (Nat.lt_of_lt_of_le (by decide : 10 ^ 27 < 10 ^ 40) (le600 600 rfl))
  exact ronto_told _ _ ⟨#[49]⟩ ⟨#[49, 48, 48, 48, 48, 48, 48, 48, 48, 48, 48, 48, 48, 48, 48, 48, 48, 48, 48, 48, 48, 48, 48, 48, 48, 48, 48, 48]⟩ w (fun W hb => factor_any 10 (-27) ⟨#[49]⟩ ⟨#[49, 48, 48, 48, 48, 48, 48, 48, 48, 48, 48, 48, 48, 48, 48, 48, 48, 48, 48, 48, 48, 48, 48, 48, 48, 48, 48, 48]⟩ W (ht.later hb) (by decide) (by decide) (by decide) (by decide) ⟨h.1.trans (by decide +kernel), h.2.1.trans (by decide +kernel), h.2.2⟩)
theorem quecto_row (w : World) (ht : Tab w) : Calls Tryz.prog 18 #[rowV 23] w fun r w' => r = .returned (preV 23) ∧ Below w.heap.size w w' := by
  have h := fac_neg 10 30 (-30) (by decide) (by decide) rfl (Nat.lt_of_lt_of_le (by decide : 10 ^ 30 < 10 ^ 40) (le600 600 rfl))
  exact quecto_told _ _ ⟨#[49]⟩ ⟨#[49, 48, 48, 48, 48, 48, 48, 48, 48, 48, 48, 48, 48, 48, 48, 48, 48, 48, 48, 48, 48, 48, 48, 48, 48, 48, 48, 48, 48, 48, 48]⟩ w (fun W hb => factor_any 10 (-30) ⟨#[49]⟩ ⟨#[49, 48, 48, 48, 48, 48, 48, 48, 48, 48, 48, 48, 48, 48, 48, 48, 48, 48, 48, 48, 48, 48, 48, 48, 48, 48, 48, 48, 48, 48, 48]⟩ W (ht.later hb) (by decide) (by decide) (by decide) (by decide) ⟨h.1.trans (by decide +kernel), h.2.1.trans (by decide +kernel), h.2.2⟩)
theorem kibi_row (w : World) (ht : Tab w) : Calls Tryz.prog 18 #[rowV 24] w fun r w' => r = .returned (preV 24) ∧ Below w.heap.size w w' := by
  have h := fac_pos 1024 1 1 rfl (Nat.lt_of_lt_of_le (by decide : 1024 ^ 1 < 10 ^ 40) (le600 600 rfl))
  exact kibi_told _ _ ⟨#[49, 48, 50, 52]⟩ ⟨#[49]⟩ w (fun W hb => factor_any 1024 1 ⟨#[49, 48, 50, 52]⟩ ⟨#[49]⟩ W (ht.later hb) (by decide) (by decide) (by decide) (by decide) ⟨h.1.trans (by decide +kernel), h.2.1.trans (by decide +kernel), h.2.2⟩)
theorem mebi_row (w : World) (ht : Tab w) : Calls Tryz.prog 18 #[rowV 25] w fun r w' => r = .returned (preV 25) ∧ Below w.heap.size w w' := by
  have h := fac_pos 1024 2 2 rfl (Nat.lt_of_lt_of_le (by decide : 1024 ^ 2 < 10 ^ 40) (le600 600 rfl))
  exact mebi_told _ _ ⟨#[49, 48, 52, 56, 53, 55, 54]⟩ ⟨#[49]⟩ w (fun W hb => factor_any 1024 2 ⟨#[49, 48, 52, 56, 53, 55, 54]⟩ ⟨#[49]⟩ W (ht.later hb) (by decide) (by decide) (by decide) (by decide) ⟨h.1.trans (by decide +kernel), h.2.1.trans (by decide +kernel), h.2.2⟩)
theorem gibi_row (w : World) (ht : Tab w) : Calls Tryz.prog 18 #[rowV 26] w fun r w' => r = .returned (preV 26) ∧ Below w.heap.size w w' := by
  have h := fac_pos 1024 3 3 rfl (Nat.lt_of_lt_of_le (by decide : 1024 ^ 3 < 10 ^ 40) (le600 600 rfl))
  exact gibi_told _ _ ⟨#[49, 48, 55, 51, 55, 52, 49, 56, 50, 52]⟩ ⟨#[49]⟩ w (fun W hb => factor_any 1024 3 ⟨#[49, 48, 55, 51, 55, 52, 49, 56, 50, 52]⟩ ⟨#[49]⟩ W (ht.later hb) (by decide) (by decide) (by decide) (by decide) ⟨h.1.trans (by decide +kernel), h.2.1.trans (by decide +kernel), h.2.2⟩)
theorem tebi_row (w : World) (ht : Tab w) : Calls Tryz.prog 18 #[rowV 27] w fun r w' => r = .returned (preV 27) ∧ Below w.heap.size w w' := by
  have h := fac_pos 1024 4 4 rfl (Nat.lt_of_lt_of_le (by decide : 1024 ^ 4 < 10 ^ 40) (le600 600 rfl))
  exact tebi_told _ _ ⟨#[49, 48, 57, 57, 53, 49, 49, 54, 50, 55, 55, 55, 54]⟩ ⟨#[49]⟩ w (fun W hb => factor_any 1024 4 ⟨#[49, 48, 57, 57, 53, 49, 49, 54, 50, 55, 55, 55, 54]⟩ ⟨#[49]⟩ W (ht.later hb) (by decide) (by decide) (by decide) (by decide) ⟨h.1.trans (by decide +kernel), h.2.1.trans (by decide +kernel), h.2.2⟩)
theorem pebi_row (w : World) (ht : Tab w) : Calls Tryz.prog 18 #[rowV 28] w fun r w' => r = .returned (preV 28) ∧ Below w.heap.size w w' := by
  have h := fac_pos 1024 5 5 rfl (Nat.lt_of_lt_of_le (by decide : 1024 ^ 5 < 10 ^ 40) (le600 600 rfl))
  exact pebi_told _ _ ⟨#[49, 49, 50, 53, 56, 57, 57, 57, 48, 54, 56, 52, 50, 54, 50, 52]⟩ ⟨#[49]⟩ w (fun W hb => factor_any 1024 5 ⟨#[49, 49, 50, 53, 56, 57, 57, 57, 48, 54, 56, 52, 50, 54, 50, 52]⟩ ⟨#[49]⟩ W (ht.later hb) (by decide) (by decide) (by decide) (by decide) ⟨h.1.trans (by decide +kernel), h.2.1.trans (by decide +kernel), h.2.2⟩)
theorem exbi_row (w : World) (ht : Tab w) : Calls Tryz.prog 18 #[rowV 29] w fun r w' => r = .returned (preV 29) ∧ Below w.heap.size w w' := by
  have h := fac_pos 1024 6 6 rfl (Nat.lt_of_lt_of_le (by decide : 1024 ^ 6 < 10 ^ 40) (le600 600 rfl))
  exact exbi_told _ _ ⟨#[49, 49, 53, 50, 57, 50, 49, 53, 48, 52, 54, 48, 54, 56, 52, 54, 57, 55, 54]⟩ ⟨#[49]⟩ w (fun W hb => factor_any 1024 6 ⟨#[49, 49, 53, 50, 57, 50, 49, 53, 48, 52, 54, 48, 54, 56, 52, 54, 57, 55, 54]⟩ ⟨#[49]⟩ W (ht.later hb) (by decide) (by decide) (by decide) (by decide) ⟨h.1.trans (by decide +kernel), h.2.1.trans (by decide +kernel), h.2.2⟩)
theorem zebi_row (w : World) (ht : Tab w) : Calls Tryz.prog 18 #[rowV 30] w fun r w' => r = .returned (preV 30) ∧ Below w.heap.size w w' := by
  have h := fac_pos 1024 7 7 rfl (Nat.lt_of_lt_of_le (by decide : 1024 ^ 7 < 10 ^ 40) (le600 600 rfl))
  exact zebi_told _ _ ⟨#[49, 49, 56, 48, 53, 57, 49, 54, 50, 48, 55, 49, 55, 52, 49, 49, 51, 48, 51, 52, 50, 52]⟩ ⟨#[49]⟩ w (fun W hb => factor_any 1024 7 ⟨#[49, 49, 56, 48, 53, 57, 49, 54, 50, 48, 55, 49, 55, 52, 49, 49, 51, 48, 51, 52, 50, 52]⟩ ⟨#[49]⟩ W (ht.later hb) (by decide) (by decide) (by decide) (by decide) ⟨h.1.trans (by decide +kernel), h.2.1.trans (by decide +kernel), h.2.2⟩)
theorem yobi_row (w : World) (ht : Tab w) : Calls Tryz.prog 18 #[rowV 31] w fun r w' => r = .returned (preV 31) ∧ Below w.heap.size w w' := by
  have h := fac_pos 1024 8 8 rfl (Nat.lt_of_lt_of_le (by decide : 1024 ^ 8 < 10 ^ 40) (le600 600 rfl))
  exact yobi_told _ _ ⟨#[49, 50, 48, 56, 57, 50, 53, 56, 49, 57, 54, 49, 52, 54, 50, 57, 49, 55, 52, 55, 48, 54, 49, 55, 54]⟩ ⟨#[49]⟩ w (fun W hb => factor_any 1024 8 ⟨#[49, 50, 48, 56, 57, 50, 53, 56, 49, 57, 54, 49, 52, 54, 50, 57, 49, 55, 52, 55, 48, 54, 49, 55, 54]⟩ ⟨#[49]⟩ W (ht.later hb) (by decide) (by decide) (by decide) (by decide) ⟨h.1.trans (by decide +kernel), h.2.1.trans (by decide +kernel), h.2.2⟩)
theorem told_any : ∀ k, k < 32 → ∀ w, Tab w → Calls Tryz.prog 18 #[rowV k] w fun r w' => r = .returned (preV k) ∧ Below w.heap.size w w'
  | 0, _ => deca_row
  | 1, _ => hecto_row
  | 2, _ => kilo_row
  | 3, _ => mega_row
  | 4, _ => giga_row
  | 5, _ => tera_row
  | 6, _ => peta_row
  | 7, _ => exa_row
  | 8, _ => zetta_row
  | 9, _ => yotta_row
  | 10, _ => ronna_row
  | 11, _ => quetta_row
  | 12, _ => deci_row
  | 13, _ => centi_row
  | 14, _ => milli_row
  | 15, _ => micro_row
  | 16, _ => nano_row
  | 17, _ => pico_row
  | 18, _ => femto_row
  | 19, _ => atto_row
  | 20, _ => zepto_row
  | 21, _ => yocto_row
  | 22, _ => ronto_row
  | 23, _ => quecto_row
  | 24, _ => kibi_row
  | 25, _ => mebi_row
  | 26, _ => gibi_row
  | 27, _ => tebi_row
  | 28, _ => pebi_row
  | 29, _ => exbi_row
  | 30, _ => zebi_row
  | 31, _ => yobi_row
  | n + 32, h => absurd h (by omega)
end Go.Proofs.YtpoapffbpgnkpaaGreatDoor

namespace Go.Proofs.YtpoapffbpgnkpaaGreatDoor
open Go.RowKit
def refRowsArr : Array Value := #[.string ⟨#[100, 101, 99, 97]⟩, .string ⟨#[100, 97]⟩, .int .i64 1, .string ⟨#[104, 101, 99, 116, 111]⟩, .string ⟨#[104]⟩, .int .i64 2, .string ⟨#[107, 105, 108, 111]⟩, .string ⟨#[107]⟩, .int .i64 3, .string ⟨#[109, 101, 103, 97]⟩, .string ⟨#[77]⟩, .int .i64 6, .string ⟨#[103, 105, 103, 97]⟩, .string ⟨#[71]⟩, .int .i64 9, .string ⟨#[116, 101, 114, 97]⟩, .string ⟨#[84]⟩, .int .i64 12, .string ⟨#[112, 101, 116, 97]⟩, .string ⟨#[80]⟩, .int .i64 15, .string ⟨#[101, 120, 97]⟩, .string ⟨#[69]⟩, .int .i64 18, .string ⟨#[122, 101, 116, 116, 97]⟩, .string ⟨#[90]⟩, .int .i64 21, .string ⟨#[121, 111, 116, 116, 97]⟩, .string ⟨#[89]⟩, .int .i64 24, .string ⟨#[114, 111, 110, 110, 97]⟩, .string ⟨#[82]⟩, .int .i64 27, .string ⟨#[113, 117, 101, 116, 116, 97]⟩, .string ⟨#[81]⟩, .int .i64 30, .string ⟨#[100, 101, 99, 105]⟩, .string ⟨#[100]⟩, .int .i64 (-1), .string ⟨#[99, 101, 110, 116, 105]⟩, .string ⟨#[99]⟩, .int .i64 (-2), .string ⟨#[109, 105, 108, 108, 105]⟩, .string ⟨#[109]⟩, .int .i64 (-3), .string ⟨#[109, 105, 99, 114, 111]⟩, .string ⟨#[206, 188]⟩, .int .i64 (-6), .string ⟨#[110, 97, 110, 111]⟩, .string ⟨#[110]⟩, .int .i64 (-9), .string ⟨#[112, 105, 99, 111]⟩, .string ⟨#[112]⟩, .int .i64 (-12), .string ⟨#[102, 101, 109, 116, 111]⟩, .string ⟨#[102]⟩, .int .i64 (-15), .string ⟨#[97, 116, 116, 111]⟩, .string ⟨#[97]⟩, .int .i64 (-18), .string ⟨#[122, 101, 112, 116, 111]⟩, .string ⟨#[122]⟩, .int .i64 (-21), .string ⟨#[121, 111, 99, 116, 111]⟩, .string ⟨#[121]⟩, .int .i64 (-24), .string ⟨#[114, 111, 110, 116, 111]⟩, .string ⟨#[114]⟩, .int .i64 (-27), .string ⟨#[113, 117, 101, 99, 116, 111]⟩, .string ⟨#[113]⟩, .int .i64 (-30), .string ⟨#[107, 105, 98, 105]⟩, .string ⟨#[75, 105]⟩, .int .i64 1, .string ⟨#[109, 101, 98, 105]⟩, .string ⟨#[77, 105]⟩, .int .i64 2, .string ⟨#[103, 105, 98, 105]⟩, .string ⟨#[71, 105]⟩, .int .i64 3, .string ⟨#[116, 101, 98, 105]⟩, .string ⟨#[84, 105]⟩, .int .i64 4, .string ⟨#[112, 101, 98, 105]⟩, .string ⟨#[80, 105]⟩, .int .i64 5, .string ⟨#[101, 120, 98, 105]⟩, .string ⟨#[69, 105]⟩, .int .i64 6, .string ⟨#[122, 101, 98, 105]⟩, .string ⟨#[90, 105]⟩, .int .i64 7, .string ⟨#[121, 111, 98, 105]⟩, .string ⟨#[89, 105]⟩, .int .i64 8]
set_option maxRecDepth 100000 in
set_option maxHeartbeats 4000000 in
theorem refRows_any (w : World) : Calls Tryz.prog 32 #[] w fun r w' => r = .returned (.slice (some ⟨w.heap.size, 0, none⟩) 32 32) ∧ w' = w.alloc (.cells refRowsArr 72) := by
  go_enter Tryz.func32, Tryz.ntmps32
  go_wp2
  go_ret
  exact ⟨rfl, rfl⟩
theorem refRows_cell : ∀ k, k < 32 → refRowsArr[3 * k]? = some (.string (tbl k).nm) ∧ refRowsArr[3 * k + 1]? = some (.string (tbl k).sy) ∧ refRowsArr[3 * k + 2]? = some (.int .i64 (tbl k).ex)
  | 0, _ => ⟨rfl, rfl, rfl⟩
  | 1, _ => ⟨rfl, rfl, rfl⟩
  | 2, _ => ⟨rfl, rfl, rfl⟩
  | 3, _ => ⟨rfl, rfl, rfl⟩
  | 4, _ => ⟨rfl, rfl, rfl⟩
  | 5, _ => ⟨rfl, rfl, rfl⟩
  | 6, _ => ⟨rfl, rfl, rfl⟩
  | 7, _ => ⟨rfl, rfl, rfl⟩
  | 8, _ => ⟨rfl, rfl, rfl⟩
  | 9, _ => ⟨rfl, rfl, rfl⟩
  | 10, _ => ⟨rfl, rfl, rfl⟩
  | 11, _ => ⟨rfl, rfl, rfl⟩
  | 12, _ => ⟨rfl, rfl, rfl⟩
  | 13, _ => ⟨rfl, rfl, rfl⟩
  | 14, _ => ⟨rfl, rfl, rfl⟩
  | 15, _ => ⟨rfl, rfl, rfl⟩
  | 16, _ => ⟨rfl, rfl, rfl⟩
  | 17, _ => ⟨rfl, rfl, rfl⟩
  | 18, _ => ⟨rfl, rfl, rfl⟩
  | 19, _ => ⟨rfl, rfl, rfl⟩
  | 20, _ => ⟨rfl, rfl, rfl⟩
  | 21, _ => ⟨rfl, rfl, rfl⟩
  | 22, _ => ⟨rfl, rfl, rfl⟩
  | 23, _ => ⟨rfl, rfl, rfl⟩
  | 24, _ => ⟨rfl, rfl, rfl⟩
  | 25, _ => ⟨rfl, rfl, rfl⟩
  | 26, _ => ⟨rfl, rfl, rfl⟩
  | 27, _ => ⟨rfl, rfl, rfl⟩
  | 28, _ => ⟨rfl, rfl, rfl⟩
  | 29, _ => ⟨rfl, rfl, rfl⟩
  | 30, _ => ⟨rfl, rfl, rfl⟩
  | 31, _ => ⟨rfl, rfl, rfl⟩
  | n + 32, h => absurd h (by omega)
end Go.Proofs.YtpoapffbpgnkpaaGreatDoor

/- flo: what a float's + and - and times give, as a function of the bits, no number read as one; rows of floats in memory. -/
import Derived.Test.YtijifpbpjinmhaaGreatDoorU5
import Derived.Test.YtijifpbpjinmhaaGreatDoorRoom
import Derived.Maps.OwnSet
import Derived.Maps.RangeWalk
import Derived.Laws.EntriesVeiled
import Derived.Deep.Cut
import Derived.Test.YtijifpbpjinmhaaGreatDoorSt2
import Derived.Test.YtijifpbpjinmhaaGreatDoorOrd
import Derived.Laws.FloatArith
import Derived.Sort.OwnSorted
import Derived.Laws.AppendOwnNone
import Derived.WalkSmall
import Derived.BigQuiet
import Derived.Lib.SmallJoins
import Derived.OwnWalk
set_option maxHeartbeats 8000000
set_option maxRecDepth 100000
namespace Go.Proofs.YtijifpbpjinmhaaGreatDoor
open Go.RowKit
/-- What becomes of a rounded significand. -/
def packB (sg : Nat) (x : Int) (m : Nat) : Value :=
  let y := if m = 9007199254740992 then x + 1 else x
  let k := if m = 9007199254740992 then 4503599627370496 else m
  if 971 < y then .tuple #[.int .u64 0, .bool false] else if k < 4503599627370496 then .tuple #[.int .u64 ((sg ||| k : Nat) : Int), .bool true] else .tuple #[.int .u64 (((sg ||| ((y + 1075).toNat * 4503599627370496)) ||| (k - 4503599627370496) : Nat) : Int), .bool true]
def rndB (q r b : Nat) : Nat := if b < r + r ∨ (r + r = b ∧ q % 2 = 1) then q + 1 else q
/-- What near answers, from the exponent on. -/
def nearB (sg A B : Nat) (x : Int) : Value := if 971 < x then .tuple #[.int .u64 0, .bool false] else packB sg x (rndB (scA A x / scB B x) (scA A x % scB B x) (scB B x))
theorem quot_lt (A B : Nat) (x : Int) (hB : 0 < B) (h : scA A (x + 53) < scB B (x + 53)) : scA A x / scB B x < 9007199254740992 := by
  have hb : 0 < scB B x := Nat.mul_pos hB (Nat.two_pow_pos _)
  rw [Nat.div_lt_iff_lt_mul hb]
  obtain ⟨T, hT⟩ : ∃ T, T = 2 ^ 53 := ⟨_, rfl⟩
  have hT2 : T = 9007199254740992 := by rw [hT]
  rw [← hT2, hT]
  clear hT2 hT hb
  unfold scA scB at *
  by_cases h1 : 0 ≤ x
  · obtain ⟨n, rfl⟩ : ∃ n : Nat, x = (n : Int) := ⟨x.toNat, by omega⟩
    rw [show (-((n : Int) + 53)).toNat = 0 by omega, show ((n : Int) + 53).toNat = 53 + n by omega, Nat.pow_add] at h
    rw [show (-(n : Int)).toNat = 0 by omega, show ((n : Int)).toNat = n by omega]
    have e : 2 ^ 53 * (B * 2 ^ n) = B * (2 ^ 53 * 2 ^ n) := by rw [← Nat.mul_assoc, Nat.mul_comm (2 ^ 53) B, Nat.mul_assoc]
    rw [e]; exact h
  · by_cases h2 : x ≤ -53
    · obtain ⟨n, rfl⟩ : ∃ n : Nat, x = -((n : Int) + 53) := ⟨(-x - 53).toNat, by omega⟩
      rw [show (-(-((n : Int) + 53) + 53)).toNat = n by omega, show (-((n : Int) + 53) + 53).toNat = 0 by omega, Nat.pow_zero, Nat.mul_one] at h
      rw [show (-(-((n : Int) + 53))).toNat = n + 53 by omega, show (-((n : Int) + 53)).toNat = 0 by omega, Nat.pow_zero, Nat.mul_one, Nat.pow_add, ← Nat.mul_assoc, Nat.mul_comm _ (2 ^ 53)]
      exact Nat.mul_lt_mul_of_pos_left h (Nat.two_pow_pos 53)
    · obtain ⟨n, hn, hn2⟩ : ∃ n : Nat, x = -(n : Int) ∧ n ≤ 53 := ⟨(-x).toNat, by omega, by omega⟩
      obtain ⟨k, hk⟩ : ∃ k : Nat, n + k = 53 := ⟨53 - n, by omega⟩
      subst hn
      rw [show (-(-(n : Int) + 53)).toNat = 0 by omega, show (-(n : Int) + 53).toNat = k by omega, Nat.pow_zero, Nat.mul_one] at h
      rw [show (-(-(n : Int))).toNat = n by omega, show (-(n : Int)).toNat = 0 by omega, Nat.pow_zero, Nat.mul_one, ← hk, Nat.pow_add]
      have := Nat.mul_lt_mul_of_pos_right h (Nat.two_pow_pos n)
      have e : 2 ^ n * 2 ^ k * B = B * 2 ^ k * 2 ^ n := by rw [Nat.mul_comm (2 ^ n) (2 ^ k), Nat.mul_comm, ← Nat.mul_assoc]
      rw [e]; exact this
theorem sz_one (A B : Nat) (x y : Int) (h1 : SzInv A B x x) (h2 : SzInv A B y y) : x = y := by
  rcases Int.lt_trichotomy x y with h | h | h
  · exact absurd h1.hi (h2.lo x h1.l1 h)
  · exact h
  · exact absurd h2.hi (h1.lo y h2.l1 h)
theorem tx_ne (A : Nat) (h : 0 < A) : ((tx A).toList == [48]) = false := by
  rw [show ([48] : List UInt8) = (⟨#[48]⟩ : ByteArray).toList by decide +kernel, toList_same _ _ (tx_nat A) ((Cub.natB_iff _).1 (by decide +kernel))]
  refine decide_eq_false (fun e => ?_)
  have h1 : Cub.dval (tx A).data.toList = A := tx_val A
  have h2 : Cub.dval (⟨#[48]⟩ : ByteArray).data.toList = 0 := by decide
  omega
theorem pack1 (sg t : Nat) (SG : Int) (h : SG = (sg : Int)) (hs : sg < 18446744073709551616) (h1 : (1 : Int) ≤ (t : Int)) (h2 : (t : Int) ≤ 2045) :
    packB sg ((t : Int) - 1075) 9007199254740992 = .tuple #[.int .u64 (bits BinOp.or IntKind.u64 (bits BinOp.or IntKind.u64 SG (((t : Int) - 1075 + 1 + 1075) * 4503599627370496)) 0), .bool true] := by
  have e1 : ((t : Int) - 1075 + 1 + 1075) * 4503599627370496 = (((t + 1) * 4503599627370496 : Nat) : Int) := by omega
  have i1 := u64_or_nat sg ((t + 1) * 4503599627370496) hs (by omega)
  have i2 := u64_or_nat (sg ||| (t + 1) * 4503599627370496) 0 (Nat.or_lt_two_pow (n := 64) hs (by omega)) (by decide)
  rw [h, e1, i1, show (0 : Int) = ((0 : Nat) : Int) from rfl, i2]
  have e2 : ((t : Int) - 1075 + 1 + 1075).toNat = t + 1 := by omega
  unfold packB
  simp only [if_true, e2]
  rw [if_neg (by omega), if_neg (by decide)]
theorem pack2 (sg t m : Nat) (SG X : Int) (h : SG = (sg : Int)) (hs : sg < 18446744073709551616) (h2 : (t : Int) ≤ 2046) (hX : X = (m : Int)) (hm : m < 4503599627370496) :
    packB sg ((t : Int) - 1075) m = .tuple #[.int .u64 (bits BinOp.or IntKind.u64 SG X), .bool true] := by
  have i1 := u64_or_nat sg m hs (by omega)
  rw [h, hX, i1]
  have hne : m ≠ 9007199254740992 := by omega
  unfold packB
  simp only [if_neg hne]
  rw [if_neg (by omega), if_pos hm]
theorem pack3 (sg t m : Nat) (SG X : Int) (h : SG = (sg : Int)) (hs : sg < 18446744073709551616) (h1 : (1 : Int) ≤ (t : Int)) (h2 : (t : Int) ≤ 2046) (hX : X = (m : Int) - 4503599627370496) (hm : ¬ m < 4503599627370496) (hm2 : m < 9007199254740992) :
    packB sg ((t : Int) - 1075) m = .tuple #[.int .u64 (bits BinOp.or IntKind.u64 (bits BinOp.or IntKind.u64 SG ((t : Int) * 4503599627370496)) X), .bool true] := by
  have e1 : (t : Int) * 4503599627370496 = ((t * 4503599627370496 : Nat) : Int) := by omega
  have eX : X = ((m - 4503599627370496 : Nat) : Int) := by omega
  have i1 := u64_or_nat sg (t * 4503599627370496) hs (by omega)
  have i2 := u64_or_nat (sg ||| t * 4503599627370496) (m - 4503599627370496) (Nat.or_lt_two_pow (n := 64) hs (by omega)) (by omega)
  rw [h, e1, eX, i1, i2]
  have e2 : ((t : Int) - 1075 + 1075).toNat = t := by omega
  have hne : m ≠ 9007199254740992 := by omega
  unfold packB
  simp only [if_neg hne, e2]
  rw [if_neg (by omega), if_neg hm]
theorem pack0 (sg : Nat) : packB sg 971 9007199254740992 = .tuple #[.int .u64 0, .bool false] := by
  unfold packB
  simp only [if_true]
  rw [if_pos (by omega)]
theorem near_core (s : Bool) (sa sb ta tb' tq tr ts : ByteArray) (x c : Int) (q sg : Nat) (res : Value) (w : World) (hsg : sg = if s then 9223372036854775808 else 0)
    (h0 : (sa.toList == [48]) = false) (hx1 : -1074 ≤ x) (hx2 : x ≤ 5000) (hq : q < 9007199254740992)
    (H81 : ∀ W : World, Calls Tryz.prog 81 #[.agg #[.bool s, .string sa, .string sb]] W fun r w' => r = .returned (.int .i64 x) ∧ Below W.heap.size W w')
    (H82 : ¬ 971 < x → ∀ W : World, Calls Tryz.prog 82 #[.agg #[.bool s, .string sa, .string sb], .int .i64 x] W fun r w' => r = .returned (.tuple #[.string ta, .string tb']) ∧ Below W.heap.size W w')
    (H83 : ¬ 971 < x → ∀ W : World, Calls Tryz.prog 83 #[.string ta, .string tb'] W fun r w' => r = .returned (.tuple #[.string tq, .string tr]) ∧ Below W.heap.size W w')
    (H53 : ∀ W : World, Calls Tryz.prog 53 #[.string tq] W fun r w' => r = .returned (.int .u64 (q : Nat)) ∧ w' = W)
    (H84 : ¬ 971 < x → ∀ W : World, Calls Tryz.prog 84 #[.string tr, .string tr] W fun r w' => r = .returned (.string ts) ∧ Below W.heap.size W w')
    (H69 : ∀ W : World, Calls Tryz.prog 69 #[.string ts, .string tb'] W fun r w' => r = .returned (.int .i64 c) ∧ w' = W)
    (m : Nat) (hm : (c = 1 ∧ m = q + 1) ∨ (c = 0 ∧ q % 2 = 1 ∧ m = q + 1) ∨ (c = 0 ∧ q % 2 = 0 ∧ m = q) ∨ (c = -1 ∧ m = q))
    (hres : res = if 971 < x then .tuple #[.int .u64 0, .bool false] else packB sg x m) :
    Calls Tryz.prog 34 #[.agg #[.bool s, .string sa, .string sb]] w fun r w' => r = .returned res ∧ Below w.heap.size w w' := by
  obtain ⟨V, hV⟩ : ∃ V, V = w.alloc (.cells #[.bool s, .string sa, .string sb] 56) := ⟨_, rfl⟩
  have HX : Hid (FBox V w.heap.size (.bool s) (.string sa) (.string sb)) := by rw [hV]; exact ⟨by simp [go_sem], by simp [go_sem], by simp [go_sem], by simp [go_sem], by simp [go_sem], by simp [go_sem]⟩
  have HB : Hid (Below w.heap.size w V) := by rw [hV]; exact (Below.refl _ _).alloc (Nat.le_refl _) _
  have HV := hide hV
  have G81 := hide H81; have G82 := hide H82; have G83 := hide H83; have G53 := hide H53; have G84 := hide H84; have G69 := hide H69
  have HRES := hide hres
  have HSG := hide hsg
  have HM := hide hm
  clear hV H81 H82 H83 H53 H84 H69 hres hsg hm
  by_cases hbig : 971 < x
  · cases s
    all_goals
      go_enter Tryz.func34, Tryz.ntmps34
      go_upto_region 1 with fail
      rw [← unhide HV]
      clear HV
      have c0 := (unhide HX).c0; have c1 := (unhide HX).c1; have c2 := (unhide HX).c2
      go_wp2_with (go_at_call 81; refine (unhide G81 _).mono ?_; rintro e w1 ⟨rfl, hb⟩; have HB1 : Hid (Below w.heap.size w w1) := (unhide HB).trans (hb.mono (Nat.le_of_lt (unhide HX).lt)); clear hb)
      exact bodyPost_ret (v := .tuple #[.int .u64 0, .bool false]) (by simp [results, Tryz.results34, go_sem]) rfl ⟨by rw [unhide HRES, if_pos hbig], unhide HB1⟩
  · have G82' := hide (unhide G82 hbig); have G83' := hide (unhide G83 hbig); have G84' := hide (unhide G84 hbig)
    clear G82 G83 G84
    have hle : x ≤ 971 := by omega
    have HX0 := hide hx1
    have HQ := hide hq
    clear hx2 hx1 hq
    cases s
    all_goals
      go_enter Tryz.func34, Tryz.ntmps34
      go_upto_region 1 with fail
      rw [← unhide HV]
      clear HV
      have c0 := (unhide HX).c0; have c1 := (unhide HX).c1; have c2 := (unhide HX).c2
      go_upto_region 7 with (go_at_call 81; refine (unhide G81 _).mono ?_; rintro e w1 ⟨rfl, hb⟩; have HB1 : Hid (Below w.heap.size w w1) := (unhide HB).trans (hb.mono (Nat.le_of_lt (unhide HX).lt)); have HX1 := hide ((unhide HX).later hb); clear hb HB HX c0 c1 c2; have c0 := (unhide HX1).c0; have c1 := (unhide HX1).c1; have c2 := (unhide HX1).c2)
      clear h0
      go_upto_region 9 with fail
      go_upto_region 10 with (go_at_call 82; refine (unhide G82' _).mono ?_; rintro e w2 ⟨rfl, hb⟩; have HB2 : Hid (Below w.heap.size w w2) := (unhide HB1).trans (hb.mono (unhide HB1).size); clear hb c0 c1 c2)
      go_upto_region 11 with (go_at_call 83; refine (unhide G83' _).mono ?_; rintro e w3 ⟨rfl, hb⟩; have HB3 : Hid (Below w.heap.size w w3) := (unhide HB2).trans (hb.mono (unhide HB2).size); clear hb)
      go_upto_region 12 with (go_at_call 53; refine (unhide G53 _).mono ?_; rintro e w4 ⟨rfl, hw⟩; obtain rfl : w3 = w4 := hw.symm)
      go_upto_region 13 with (first
        | (go_at_call 84; refine (unhide G84' _).mono ?_; rintro e w5 ⟨rfl, hb⟩; have HB5 : Hid (Below w.heap.size w w5) := (unhide HB3).trans (hb.mono (unhide HB3).size); clear hb)
        | (go_at_call 69; refine (unhide G69 _).mono ?_; rintro e w6 ⟨rfl, hw⟩; obtain rfl : w5 = w6 := hw.symm))
      have hx1 := unhide HX0
      obtain ⟨t, hxt, ht1, ht2⟩ : ∃ t : Nat, x = (t : Int) - 1075 ∧ (1 : Int) ≤ (t : Int) ∧ (t : Int) ≤ 2046 := ⟨(x + 1075).toNat, by omega, by omega, by omega⟩
      subst hxt
      clear hx1 hle hbig
      have hsg := unhide HSG
      simp at hsg
      subst hsg
      rcases unhide HM with ⟨rfl, rfl⟩ | ⟨rfl, h2, rfl⟩ | ⟨rfl, h2, hmq⟩ | ⟨rfl, hmq⟩
      · clear HM
        have hw1 : IntKind.u64.wrap ((q : Int) + 1) = (q : Int) + 1 := by have := unhide HQ; rw [IntKind.wrap_u64]; omega
        by_cases hf : q + 1 = 9007199254740992
        · obtain rfl : q = 9007199254740991 := by omega
          by_cases hy : t = 2046
          · subst hy
            go_wp2_with fail
            exact bodyPost_ret (v := .tuple #[.int .u64 0, .bool false]) (by simp [results, Tryz.results34, go_sem]) rfl ⟨by rw [unhide HRES, if_neg (by omega)]; exact (congrArg Ending.returned (pack0 _)).symm, unhide HB5⟩
          · have ht3 : (t : Int) ≤ 2045 := by omega
            go_wp2_with fail
            first
            | exact bodyPost_ret (v := .tuple #[.int .u64 (bits BinOp.or IntKind.u64 (bits BinOp.or IntKind.u64 0 (((t : Int) - 1075 + 1 + 1075) * 4503599627370496)) 0), .bool true]) (by simp [results, Tryz.results34, go_sem]) rfl ⟨by rw [unhide HRES, if_neg (by omega)]; exact (congrArg Ending.returned (pack1 0 t 0 rfl (by decide) ht1 ht3)).symm, unhide HB5⟩
            | exact bodyPost_ret (v := .tuple #[.int .u64 (bits BinOp.or IntKind.u64 (bits BinOp.or IntKind.u64 9223372036854775808 (((t : Int) - 1075 + 1 + 1075) * 4503599627370496)) 0), .bool true]) (by simp [results, Tryz.results34, go_sem]) rfl ⟨by rw [unhide HRES, if_neg (by omega)]; exact (congrArg Ending.returned (pack1 9223372036854775808 t 9223372036854775808 rfl (by decide) ht1 ht3)).symm, unhide HB5⟩
        · have hne : ((q : Int) + 1 == 9007199254740992) = false := by rw [beq_eq_false_iff_ne]; omega
          have HF := hide hf
          clear hf
          go_upto_region 20 with fail
          by_cases hs : (q : Int) + 1 < 4503599627370496
          · go_wp2_with fail
            first
            | exact bodyPost_ret (v := .tuple #[.int .u64 (bits BinOp.or IntKind.u64 0 ((q : Int) + 1)), .bool true]) (by simp [results, Tryz.results34, go_sem]) rfl ⟨by rw [unhide HRES, if_neg (by omega)]; exact (congrArg Ending.returned (pack2 0 t (q + 1) 0 _ rfl (by decide) ht2 (by omega) (by omega))).symm, unhide HB5⟩
            | exact bodyPost_ret (v := .tuple #[.int .u64 (bits BinOp.or IntKind.u64 9223372036854775808 ((q : Int) + 1)), .bool true]) (by simp [results, Tryz.results34, go_sem]) rfl ⟨by rw [unhide HRES, if_neg (by omega)]; exact (congrArg Ending.returned (pack2 9223372036854775808 t (q + 1) 9223372036854775808 _ rfl (by decide) ht2 (by omega) (by omega))).symm, unhide HB5⟩
          · have hw2 : IntKind.u64.wrap ((q : Int) + 1 - 4503599627370496) = (q : Int) + 1 - 4503599627370496 := by have := unhide HQ; rw [IntKind.wrap_u64]; omega
            go_wp2_with fail
            first
            | exact bodyPost_ret (v := .tuple #[.int .u64 (bits BinOp.or IntKind.u64 (bits BinOp.or IntKind.u64 0 ((t : Int) * 4503599627370496)) ((q : Int) + 1 - 4503599627370496)), .bool true]) (by simp [results, Tryz.results34, go_sem]) rfl ⟨by rw [unhide HRES, if_neg (by omega)]; exact (congrArg Ending.returned (pack3 0 t (q + 1) 0 _ rfl (by decide) ht1 ht2 (by omega) (by omega) (by have := unhide HQ; have := unhide HF; omega))).symm, unhide HB5⟩
            | exact bodyPost_ret (v := .tuple #[.int .u64 (bits BinOp.or IntKind.u64 (bits BinOp.or IntKind.u64 9223372036854775808 ((t : Int) * 4503599627370496)) ((q : Int) + 1 - 4503599627370496)), .bool true]) (by simp [results, Tryz.results34, go_sem]) rfl ⟨by rw [unhide HRES, if_neg (by omega)]; exact (congrArg Ending.returned (pack3 9223372036854775808 t (q + 1) 9223372036854775808 _ rfl (by decide) ht1 ht2 (by omega) (by omega) (by have := unhide HQ; have := unhide HF; omega))).symm, unhide HB5⟩
      · have hpar : ((q : Int) % 2 == 1) = true := by rw [beq_iff_eq]; omega
        clear HM h2
        have hw1 : IntKind.u64.wrap ((q : Int) + 1) = (q : Int) + 1 := by have := unhide HQ; rw [IntKind.wrap_u64]; omega
        by_cases hf : q + 1 = 9007199254740992
        · obtain rfl : q = 9007199254740991 := by omega
          by_cases hy : t = 2046
          · subst hy
            go_wp2_with fail
            exact bodyPost_ret (v := .tuple #[.int .u64 0, .bool false]) (by simp [results, Tryz.results34, go_sem]) rfl ⟨by rw [unhide HRES, if_neg (by omega)]; exact (congrArg Ending.returned (pack0 _)).symm, unhide HB5⟩
          · have ht3 : (t : Int) ≤ 2045 := by omega
            go_wp2_with fail
            first
            | exact bodyPost_ret (v := .tuple #[.int .u64 (bits BinOp.or IntKind.u64 (bits BinOp.or IntKind.u64 0 (((t : Int) - 1075 + 1 + 1075) * 4503599627370496)) 0), .bool true]) (by simp [results, Tryz.results34, go_sem]) rfl ⟨by rw [unhide HRES, if_neg (by omega)]; exact (congrArg Ending.returned (pack1 0 t 0 rfl (by decide) ht1 ht3)).symm, unhide HB5⟩
            | exact bodyPost_ret (v := .tuple #[.int .u64 (bits BinOp.or IntKind.u64 (bits BinOp.or IntKind.u64 9223372036854775808 (((t : Int) - 1075 + 1 + 1075) * 4503599627370496)) 0), .bool true]) (by simp [results, Tryz.results34, go_sem]) rfl ⟨by rw [unhide HRES, if_neg (by omega)]; exact (congrArg Ending.returned (pack1 9223372036854775808 t 9223372036854775808 rfl (by decide) ht1 ht3)).symm, unhide HB5⟩
        · have hne : ((q : Int) + 1 == 9007199254740992) = false := by rw [beq_eq_false_iff_ne]; omega
          have HF := hide hf
          clear hf
          go_upto_region 20 with fail
          by_cases hs : (q : Int) + 1 < 4503599627370496
          · go_wp2_with fail
            first
            | exact bodyPost_ret (v := .tuple #[.int .u64 (bits BinOp.or IntKind.u64 0 ((q : Int) + 1)), .bool true]) (by simp [results, Tryz.results34, go_sem]) rfl ⟨by rw [unhide HRES, if_neg (by omega)]; exact (congrArg Ending.returned (pack2 0 t (q + 1) 0 _ rfl (by decide) ht2 (by omega) (by omega))).symm, unhide HB5⟩
            | exact bodyPost_ret (v := .tuple #[.int .u64 (bits BinOp.or IntKind.u64 9223372036854775808 ((q : Int) + 1)), .bool true]) (by simp [results, Tryz.results34, go_sem]) rfl ⟨by rw [unhide HRES, if_neg (by omega)]; exact (congrArg Ending.returned (pack2 9223372036854775808 t (q + 1) 9223372036854775808 _ rfl (by decide) ht2 (by omega) (by omega))).symm, unhide HB5⟩
          · have hw2 : IntKind.u64.wrap ((q : Int) + 1 - 4503599627370496) = (q : Int) + 1 - 4503599627370496 := by have := unhide HQ; rw [IntKind.wrap_u64]; omega
            go_wp2_with fail
            first
            | exact bodyPost_ret (v := .tuple #[.int .u64 (bits BinOp.or IntKind.u64 (bits BinOp.or IntKind.u64 0 ((t : Int) * 4503599627370496)) ((q : Int) + 1 - 4503599627370496)), .bool true]) (by simp [results, Tryz.results34, go_sem]) rfl ⟨by rw [unhide HRES, if_neg (by omega)]; exact (congrArg Ending.returned (pack3 0 t (q + 1) 0 _ rfl (by decide) ht1 ht2 (by omega) (by omega) (by have := unhide HQ; have := unhide HF; omega))).symm, unhide HB5⟩
            | exact bodyPost_ret (v := .tuple #[.int .u64 (bits BinOp.or IntKind.u64 (bits BinOp.or IntKind.u64 9223372036854775808 ((t : Int) * 4503599627370496)) ((q : Int) + 1 - 4503599627370496)), .bool true]) (by simp [results, Tryz.results34, go_sem]) rfl ⟨by rw [unhide HRES, if_neg (by omega)]; exact (congrArg Ending.returned (pack3 9223372036854775808 t (q + 1) 9223372036854775808 _ rfl (by decide) ht1 ht2 (by omega) (by omega) (by have := unhide HQ; have := unhide HF; omega))).symm, unhide HB5⟩
      · replace hmq := hmq.symm
        subst hmq
        have hpar : ((q : Int) % 2 == 1) = false := by rw [beq_eq_false_iff_ne]; omega
        clear HM h2
        have hne : ((q : Int) == 9007199254740992) = false := by have := unhide HQ; rw [beq_eq_false_iff_ne]; omega
        go_upto_region 20 with fail
        by_cases hs : (q : Int) < 4503599627370496
        · go_wp2_with fail
          first
          | exact bodyPost_ret (v := .tuple #[.int .u64 (bits BinOp.or IntKind.u64 0 (q : Int)), .bool true]) (by simp [results, Tryz.results34, go_sem]) rfl ⟨by rw [unhide HRES, if_neg (by omega)]; exact (congrArg Ending.returned (pack2 0 t q 0 _ rfl (by decide) ht2 (by omega) (by omega))).symm, unhide HB5⟩
          | exact bodyPost_ret (v := .tuple #[.int .u64 (bits BinOp.or IntKind.u64 9223372036854775808 (q : Int)), .bool true]) (by simp [results, Tryz.results34, go_sem]) rfl ⟨by rw [unhide HRES, if_neg (by omega)]; exact (congrArg Ending.returned (pack2 9223372036854775808 t q 9223372036854775808 _ rfl (by decide) ht2 (by omega) (by omega))).symm, unhide HB5⟩
        · have hw2 : IntKind.u64.wrap ((q : Int) - 4503599627370496) = (q : Int) - 4503599627370496 := by have := unhide HQ; rw [IntKind.wrap_u64]; omega
          go_wp2_with fail
          first
          | exact bodyPost_ret (v := .tuple #[.int .u64 (bits BinOp.or IntKind.u64 (bits BinOp.or IntKind.u64 0 ((t : Int) * 4503599627370496)) ((q : Int) - 4503599627370496)), .bool true]) (by simp [results, Tryz.results34, go_sem]) rfl ⟨by rw [unhide HRES, if_neg (by omega)]; exact (congrArg Ending.returned (pack3 0 t q 0 _ rfl (by decide) ht1 ht2 (by omega) (by omega) (by have := unhide HQ; omega))).symm, unhide HB5⟩
          | exact bodyPost_ret (v := .tuple #[.int .u64 (bits BinOp.or IntKind.u64 (bits BinOp.or IntKind.u64 9223372036854775808 ((t : Int) * 4503599627370496)) ((q : Int) - 4503599627370496)), .bool true]) (by simp [results, Tryz.results34, go_sem]) rfl ⟨by rw [unhide HRES, if_neg (by omega)]; exact (congrArg Ending.returned (pack3 9223372036854775808 t q 9223372036854775808 _ rfl (by decide) ht1 ht2 (by omega) (by omega) (by have := unhide HQ; omega))).symm, unhide HB5⟩
      · replace hmq := hmq.symm
        subst hmq
        clear HM
        have hne : ((q : Int) == 9007199254740992) = false := by have := unhide HQ; rw [beq_eq_false_iff_ne]; omega
        go_upto_region 20 with fail
        by_cases hs : (q : Int) < 4503599627370496
        · go_wp2_with fail
          first
          | exact bodyPost_ret (v := .tuple #[.int .u64 (bits BinOp.or IntKind.u64 0 (q : Int)), .bool true]) (by simp [results, Tryz.results34, go_sem]) rfl ⟨by rw [unhide HRES, if_neg (by omega)]; exact (congrArg Ending.returned (pack2 0 t q 0 _ rfl (by decide) ht2 (by omega) (by omega))).symm, unhide HB5⟩
          | exact bodyPost_ret (v := .tuple #[.int .u64 (bits BinOp.or IntKind.u64 9223372036854775808 (q : Int)), .bool true]) (by simp [results, Tryz.results34, go_sem]) rfl ⟨by rw [unhide HRES, if_neg (by omega)]; exact (congrArg Ending.returned (pack2 9223372036854775808 t q 9223372036854775808 _ rfl (by decide) ht2 (by omega) (by omega))).symm, unhide HB5⟩
        · have hw2 : IntKind.u64.wrap ((q : Int) - 4503599627370496) = (q : Int) - 4503599627370496 := by have := unhide HQ; rw [IntKind.wrap_u64]; omega
          go_wp2_with fail
          first
          | exact bodyPost_ret (v := .tuple #[.int .u64 (bits BinOp.or IntKind.u64 (bits BinOp.or IntKind.u64 0 ((t : Int) * 4503599627370496)) ((q : Int) - 4503599627370496)), .bool true]) (by simp [results, Tryz.results34, go_sem]) rfl ⟨by rw [unhide HRES, if_neg (by omega)]; exact (congrArg Ending.returned (pack3 0 t q 0 _ rfl (by decide) ht1 ht2 (by omega) (by omega) (by have := unhide HQ; omega))).symm, unhide HB5⟩
          | exact bodyPost_ret (v := .tuple #[.int .u64 (bits BinOp.or IntKind.u64 (bits BinOp.or IntKind.u64 9223372036854775808 ((t : Int) * 4503599627370496)) ((q : Int) - 4503599627370496)), .bool true]) (by simp [results, Tryz.results34, go_sem]) rfl ⟨by rw [unhide HRES, if_neg (by omega)]; exact (congrArg Ending.returned (pack3 9223372036854775808 t q 9223372036854775808 _ rfl (by decide) ht1 ht2 (by omega) (by omega) (by have := unhide HQ; omega))).symm, unhide HB5⟩
end Go.Proofs.YtijifpbpjinmhaaGreatDoor
namespace Go.Proofs.YtijifpbpjinmhaaGreatDoor
open Go.RowKit Go.Maps Go.ChangeMaps Go.WideMaps
attribute [local go_sem] run_bits run_from
theorem nan_any (w : World) : Calls Tryz.prog 49 #[] w fun e w' => e = .returned (.float .f64 9221120237041090561) ∧ w' = w := by
  go_enter Tryz.func49, Tryz.ntmps49
  go_wp2
  go_ret
  exact ⟨by simp, rfl⟩
theorem inf_pos (w : World) : Calls Tryz.prog 50 #[.int .i64 1] w fun e w' => e = .returned (.float .f64 9218868437227405312) ∧ w' = w := by
  go_enter Tryz.func50, Tryz.ntmps50
  go_wp2
  go_ret
  exact ⟨by simp, rfl⟩
theorem inf_neg (w : World) : Calls Tryz.prog 50 #[.int .i64 (-1)] w fun e w' => e = .returned (.float .f64 18442240474082181120) ∧ w' = w := by
  go_enter Tryz.func50, Tryz.ntmps50
  go_wp2
  go_ret
  exact ⟨by simp, rfl⟩
/-- A float reads by its bits. -/
def wR : Value → Option (DataW Unit × List MemPlace)
  | .float .f64 b => some (.lit (.int .i64 (b : Int)), [])
  | _ => none
def wD0 : DataW Unit := .map []
def wD1 : DataW Unit := wD0.put (.string [78, 97, 78]) (.lit (.int .i64 9221120237041090561))
def wD2 : DataW Unit := wD1.put (.string [43, 73, 110, 102]) (.lit (.int .i64 9218868437227405312))
def wD3 : DataW Unit := wD2.put (.string [45, 73, 110, 102]) (.lit (.int .i64 18442240474082181120))
def wD : Nat → DataW Unit
  | 0 => wD0
  | 1 => wD1
  | 2 => wD2
  | _ => wD3
theorem underM : Tryz.prog.underlying 70 = some (.map 9 24) := by kernel_rfl
theorem key_of (s : ByteArray) (h : s.size ≤ 20) : keyOf Tryz.prog 9 (.string s) = some (.string s.data.toList) := keyOf_string_mk Tryz.underlying9 (by unfold maxLen; omega)
theorem words_any (w : World) : Calls Tryz.prog 43 #[] w fun r w' => r = .returned (.map (some w.heap.size)) ∧ w'.ownsMap Tryz.prog 9 wR w.heap.size 3 (wD 3) ∧ Below w.heap.size w w' := by
  have hmm := @run_makeMap Tryz.prog
  obtain ⟨W1, hW1⟩ : ∃ W1, W1 = w.alloc (.map #[] 0) := ⟨_, rfl⟩
  have HO : Hid (W1.ownsMap Tryz.prog 9 wR w.heap.size 0 (wD 0)) := by rw [hW1]; exact World.ownsMap_made w Tryz.prog 9 wR
  have HB : Hid (Below w.heap.size w W1 ∧ w.heap.size + 1 ≤ W1.heap.size) := by rw [hW1]; exact ⟨(Below.refl _ _).alloc (Nat.le_refl _) _, by simp⟩
  go_enter Tryz.func43, Tryz.ntmps43
  go_wp2_with (go_at_call 49; go_must (refine (nan_any _).mono ?_; rintro e ww ⟨rfl, hw⟩; have hw2 := hw.symm; subst hw2; clear hw))
  rw [← hW1]
  clear hW1
  obtain ⟨wu0, hrun, r1, r2⟩ := (unhide HO).update (string_keyed Tryz.underlying9) underM (by unfold maxLen; omega) (key_of ⟨#[78, 97, 78]⟩ (by decide)) (show wR (.float .f64 9221120237041090561) = some (.lit (.int .i64 9221120237041090561), []) from rfl)
  rw [hrun]
  clear hrun HO
  have HO : Hid (wu0.ownsMap Tryz.prog 9 wR w.heap.size 1 (wD 1)) := r1
  replace HB : Hid (Below w.heap.size w wu0 ∧ w.heap.size + 1 ≤ wu0.heap.size) := ⟨(unhide HB).1.grown r2 (by have h := (unhide HB).2; omega) (fun j hj => by cases hj; exact Nat.le_refl _), Nat.le_trans (unhide HB).2 r2.size⟩
  clear r1 r2
  go_wp2_with (go_at_call 50; go_must (refine (inf_pos _).mono ?_; rintro e ww ⟨rfl, hw⟩; have hw2 := hw.symm; subst hw2; clear hw))
  obtain ⟨wu1, hrun, r1, r2⟩ := (unhide HO).update (string_keyed Tryz.underlying9) underM (by unfold maxLen; omega) (key_of ⟨#[43, 73, 110, 102]⟩ (by decide)) (show wR (.float .f64 9218868437227405312) = some (.lit (.int .i64 9218868437227405312), []) from rfl)
  rw [hrun]
  clear hrun HO
  have HO : Hid (wu1.ownsMap Tryz.prog 9 wR w.heap.size 2 (wD 2)) := r1
  replace HB : Hid (Below w.heap.size w wu1 ∧ w.heap.size + 1 ≤ wu1.heap.size) := ⟨(unhide HB).1.grown r2 (by have h := (unhide HB).2; omega) (fun j hj => by cases hj; exact Nat.le_refl _), Nat.le_trans (unhide HB).2 r2.size⟩
  clear r1 r2
  go_wp2_with (go_at_call 50; go_must (refine (inf_neg _).mono ?_; rintro e ww ⟨rfl, hw⟩; have hw2 := hw.symm; subst hw2; clear hw))
  obtain ⟨wu2, hrun, r1, r2⟩ := (unhide HO).update (string_keyed Tryz.underlying9) underM (by unfold maxLen; omega) (key_of ⟨#[45, 73, 110, 102]⟩ (by decide)) (show wR (.float .f64 18442240474082181120) = some (.lit (.int .i64 18442240474082181120), []) from rfl)
  rw [hrun]
  clear hrun HO
  have HO : Hid (wu2.ownsMap Tryz.prog 9 wR w.heap.size 3 (wD 3)) := r1
  replace HB : Hid (Below w.heap.size w wu2 ∧ w.heap.size + 1 ≤ wu2.heap.size) := ⟨(unhide HB).1.grown r2 (by have h := (unhide HB).2; omega) (fun j hj => by cases hj; exact Nat.le_refl _), Nat.le_trans (unhide HB).2 r2.size⟩
  clear r1 r2
  go_wp2_with fail
  go_ret
  exact ⟨rfl, unhide HO, (unhide HB).1⟩
theorem wD_at : ∀ kl zd, Maps.has (wD 3) kl = true → (wD 3).atKey kl zd = .lit (.int .i64 9221120237041090561) ∨ (wD 3).atKey kl zd = .lit (.int .i64 9218868437227405312) ∨ (wD 3).atKey kl zd = .lit (.int .i64 18442240474082181120) := by
  intro kl zd h
  by_cases e2 : kl = .string [45, 73, 110, 102]
  · subst e2; right; right; kernel_rfl
  · rw [show wD 3 = (wD 2).put (.string [45, 73, 110, 102]) (.lit (.int .i64 18442240474082181120)) from rfl, Maps.has_put_other e2] at h
    by_cases e1 : kl = .string [43, 73, 110, 102]
    · subst e1; right; left; kernel_rfl
    · rw [show wD 2 = (wD 1).put (.string [43, 73, 110, 102]) (.lit (.int .i64 9218868437227405312)) from rfl, Maps.has_put_other e1] at h
      by_cases e0 : kl = .string [78, 97, 78]
      · subst e0; left; kernel_rfl
      · rw [show wD 1 = (wD 0).put (.string [78, 97, 78]) (.lit (.int .i64 9221120237041090561)) from rfl, Maps.has_put_other e0] at h
        exact absurd h (by simp [wD, wD0, Maps.has])
theorem wR_inv {v : Value} {p : Int} {ps : List MemPlace} (h : wR v = some (.lit (.int .i64 p), ps)) : ∃ b : Nat, v = .float .f64 b ∧ (b : Int) = p := by
  unfold wR at h
  split at h
  · cases h; exact ⟨_, rfl, rfl⟩
  · cases h
end Go.Proofs.YtijifpbpjinmhaaGreatDoor
namespace Go.Proofs.YtijifpbpjinmhaaGreatDoor
open Go.RowKit
attribute [local go_sem] run_bits run_from
def xpB (b : Nat) : Nat := b / 4503599627370496 % 2048
def mtB (b : Nat) : Nat := b % 4503599627370496
def mvB (b : Nat) : Nat := if xpB b = 0 then mtB b else mtB b + 4503599627370496
def evB (b : Nat) : Int := if xpB b = 0 then -1074 else (xpB b : Int) - 1075
theorem and_2047 (b : Nat) (hb : b < 18446744073709551616) : bits BinOp.and IntKind.u64 ((b : Int) / 4503599627370496) 2047 = ((xpB b : Nat) : Int) := by
  have h := u64_and_nat (b / 4503599627370496) 2047 (by omega) (by decide)
  rw [Nat.and_two_pow_sub_one_eq_mod _ 11] at h
  refine Eq.trans ?_ h
  congr 1
theorem cut_any (b : Nat) (hb : b < 18446744073709551616) : CutAns b (mvB b) (evB b) := by
  intro w
  have hx := and_2047 b hb
  have hm : ((b : Int) % 4503599627370496) = ((mtB b : Nat) : Int) := by unfold mtB; omega
  have hx1 : xpB b < 2048 := Nat.mod_lt _ (by decide)
  have hm1 : mtB b < 4503599627370496 := Nat.mod_lt _ (by decide)
  unfold mvB evB
  generalize xpB b = x at *
  generalize mtB b = m at *
  by_cases h0 : x = 0
  · subst h0
    rw [if_pos rfl, if_pos rfl]
    go_enter Tryz.func66, Tryz.ntmps66
    go_wp2
    exact bodyPost_ret (v := .tuple #[.int .u64 (m : Int), .int .i64 (-1074)]) (by simp [results, Tryz.results66, go_sem]; exact hm) rfl ⟨rfl, rfl⟩
  · rw [if_neg h0, if_neg h0]
    have hxI : (x : Int) ≤ 2047 := by omega
    have hx0 : (0 : Int) ≤ (x : Int) := by omega
    have hxn : ((x : Int) == 0) = false := by rw [beq_eq_false_iff_ne]; omega
    have hmI : (m : Int) < 4503599627370496 := by omega
    have hm0 : (0 : Int) ≤ (m : Int) := by omega
    go_enter Tryz.func66, Tryz.ntmps66
    go_wp2
    exact bodyPost_ret (v := .tuple #[.int .u64 ((m + 4503599627370496 : Nat) : Int), .int .i64 ((x : Int) - 1075)]) (by simp [results, Tryz.results66, go_sem]; omega) rfl ⟨rfl, rfl⟩
end Go.Proofs.YtijifpbpjinmhaaGreatDoor
namespace Go.Proofs.YtijifpbpjinmhaaGreatDoor
open Go.RowKit
/-- The bits, all that are no number read as one. -/
def nm (b : Nat) : Nat := if nanB b then 9221120237041090561 else b
end Go.Proofs.YtijifpbpjinmhaaGreatDoor

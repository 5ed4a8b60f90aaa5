/- bits.Len, laid. -/
import Derived.Test.YtijifpbpjinmhaaGreatDoorU5
import Derived.Test.YtijifpbpjinmhaaGreatDoorCmpMath
import Derived.Test.YtijifpbpjinmhaaGreatDoorRefDivMath
import Derived.Deep.QuietTactic
import Derived.BigQuiet
import Derived.Shelf.Small.Bits
import Derived.Shelf.Small.Wraps
import Derived.Shelf.Strconv.Itoa0
import Derived.Shelf.Strconv.Itoa1
import Derived.Shelf.LaysM
import Derived.Shelf.Strconv.Itoa2
import Derived.Shelf.Strconv.AppendUint10
import Derived.Shelf.Strconv.AppendInt10
import Derived.Shelf.Strings.Prefix
import Derived.Ground.Names2Prog
import Derived.Shelf.Slices.SearchI
import Derived.Test.YtijifpbpjinmhaaGreatDoorProg
set_option maxHeartbeats 8000000
set_option maxRecDepth 100000
namespace Go.Proofs.YtijifpbpjinmhaaGreatDoor
open Go.RowKit
/-- What becomes of a rounded significand. -/
def packB (sg : Nat) (x : Int) (m : Nat) : Value :=
  let y := if m = 9007199254740992 then x + 1 else x
  let k := if m = 9007199254740992 then 4503599627370496 else m
  if 971 < y then .tuple #[.int .u64 0, .bool false] else if k < 4503599627370496 then .tuple #[.int .u64 ((sg ||| k : Nat) : Int), .bool true] else .tuple #[.int .u64 (((sg ||| ((y + 1075).toNat * 4503599627370496)) ||| (k - 4503599627370496) : Nat) : Int), .bool true]
def rndB (q r b : Nat) : Nat := if b < r + r ∨ (r + r = b ∧ q % 2 = 1) then q + 1 else q
/-- What near answers, from the exponent on. -/
def nearB (sg A B : Nat) (x : Int) : Value := if 971 < x then .tuple #[.int .u64 0, .bool false] else packB sg x (rndB (scA A x / scB B x) (scA A x % scB B x) (scB B x))
theorem quot_lt (A B : Nat) (x : Int) (hB : 0 < B) (h : scA A (x + 53) < scB B (x + 53)) : scA A x / scB B x < 9007199254740992 := by
  have hb : 0 < scB B x := Nat.mul_pos hB (Nat.two_pow_pos _)
  rw [Nat.div_lt_iff_lt_mul hb]
  obtain ⟨T, hT⟩ : ∃ T, T = 2 ^ 53 := ⟨_, rfl⟩
  have hT2 : T = 9007199254740992 := by rw [hT]
  rw [← hT2, hT]
  clear hT2 hT hb
  unfold scA scB at *
  by_cases h1 : 0 ≤ x
  · obtain ⟨n, rfl⟩ : ∃ n : Nat, x = (n : Int) := ⟨x.toNat, by omega⟩
    rw [show (-((n : Int) + 53)).toNat = 0 by omega, show ((n : Int) + 53).toNat = 53 + n by omega, Nat.pow_add] at h
    rw [show (-(n : Int)).toNat = 0 by omega, show ((n : Int)).toNat = n by omega]
    have e : 2 ^ 53 * (B * 2 ^ n) = B * (2 ^ 53 * 2 ^ n) := by rw [← Nat.mul_assoc, Nat.mul_comm (2 ^ 53) B, Nat.mul_assoc]
    rw [e]; exact h
  · by_cases h2 : x ≤ -53
    · obtain ⟨n, rfl⟩ : ∃ n : Nat, x = -((n : Int) + 53) := ⟨(-x - 53).toNat, by omega⟩
      rw [show (-(-((n : Int) + 53) + 53)).toNat = n by omega, show (-((n : Int) + 53) + 53).toNat = 0 by omega, Nat.pow_zero, Nat.mul_one] at h
      rw [show (-(-((n : Int) + 53))).toNat = n + 53 by omega, show (-((n : Int) + 53)).toNat = 0 by omega, Nat.pow_zero, Nat.mul_one, Nat.pow_add, ← Nat.mul_assoc, Nat.mul_comm _ (2 ^ 53)]
      exact Nat.mul_lt_mul_of_pos_left h (Nat.two_pow_pos 53)
    · obtain ⟨n, hn, hn2⟩ : ∃ n : Nat, x = -(n : Int) ∧ n ≤ 53 := ⟨(-x).toNat, by omega, by omega⟩
      obtain ⟨k, hk⟩ : ∃ k : Nat, n + k = 53 := ⟨53 - n, by omega⟩
      subst hn
      rw [show (-(-(n : Int) + 53)).toNat = 0 by omega, show (-(n : Int) + 53).toNat = k by omega, Nat.pow_zero, Nat.mul_one] at h
      rw [show (-(-(n : Int))).toNat = n by omega, show (-(n : Int)).toNat = 0 by omega, Nat.pow_zero, Nat.mul_one, ← hk, Nat.pow_add]
      have := Nat.mul_lt_mul_of_pos_right h (Nat.two_pow_pos n)
      have e : 2 ^ n * 2 ^ k * B = B * 2 ^ k * 2 ^ n := by rw [Nat.mul_comm (2 ^ n) (2 ^ k), Nat.mul_comm, ← Nat.mul_assoc]
      rw [e]; exact this
theorem sz_one (A B : Nat) (x y : Int) (h1 : SzInv A B x x) (h2 : SzInv A B y y) : x = y := by
  rcases Int.lt_trichotomy x y with h | h | h
  · exact absurd h1.hi (h2.lo x h1.l1 h)
  · exact h
  · exact absurd h2.hi (h1.lo y h2.l1 h)
theorem tx_ne (A : Nat) (h : 0 < A) : ((tx A).toList == [48]) = false := by
  rw [show ([48] : List UInt8) = (⟨#[48]⟩ : ByteArray).toList by decide +kernel, toList_same _ _ (tx_nat A) ((Cub.natB_iff _).1 (by decide +kernel))]
  refine decide_eq_false (fun e => ?_)
  have h1 : Cub.dval (tx A).data.toList = A := tx_val A
  have h2 : Cub.dval (⟨#[48]⟩ : ByteArray).data.toList = 0 := by decide
  omega
theorem pack1 (sg t : Nat) (SG : Int) (h : SG = (sg : Int)) (hs : sg < 18446744073709551616) (h1 : (1 : Int) ≤ (t : Int)) (h2 : (t : Int) ≤ 2045) :
    packB sg ((t : Int) - 1075) 9007199254740992 = .tuple #[.int .u64 (bits BinOp.or IntKind.u64 (bits BinOp.or IntKind.u64 SG (((t : Int) - 1075 + 1 + 1075) * 4503599627370496)) 0), .bool true] := by
  have e1 : ((t : Int) - 1075 + 1 + 1075) * 4503599627370496 = (((t + 1) * 4503599627370496 : Nat) : Int) := by omega
  have i1 := u64_or_nat sg ((t + 1) * 4503599627370496) hs (by omega)
  have i2 := u64_or_nat (sg ||| (t + 1) * 4503599627370496) 0 (Nat.or_lt_two_pow (n := 64) hs (by omega)) (by decide)
  rw [h, e1, i1, show (0 : Int) = ((0 : Nat) : Int) from rfl, i2]
  have e2 : ((t : Int) - 1075 + 1 + 1075).toNat = t + 1 := by omega
  unfold packB
  simp only [if_true, e2]
  rw [if_neg (by omega), if_neg (by decide)]
theorem pack2 (sg t m : Nat) (SG X : Int) (h : SG = (sg : Int)) (hs : sg < 18446744073709551616) (h2 : (t : Int) ≤ 2046) (hX : X = (m : Int)) (hm : m < 4503599627370496) :
    packB sg ((t : Int) - 1075) m = .tuple #[.int .u64 (bits BinOp.or IntKind.u64 SG X), .bool true] := by
  have i1 := u64_or_nat sg m hs (by omega)
  rw [h, hX, i1]
  have hne : m ≠ 9007199254740992 := by omega
  unfold packB
  simp only [if_neg hne]
  rw [if_neg (by omega), if_pos hm]
theorem pack3 (sg t m : Nat) (SG X : Int) (h : SG = (sg : Int)) (hs : sg < 18446744073709551616) (h1 : (1 : Int) ≤ (t : Int)) (h2 : (t : Int) ≤ 2046) (hX : X = (m : Int) - 4503599627370496) (hm : ¬ m < 4503599627370496) (hm2 : m < 9007199254740992) :
    packB sg ((t : Int) - 1075) m = .tuple #[.int .u64 (bits BinOp.or IntKind.u64 (bits BinOp.or IntKind.u64 SG ((t : Int) * 4503599627370496)) X), .bool true] := by
  have e1 : (t : Int) * 4503599627370496 = ((t * 4503599627370496 : Nat) : Int) := by omega
  have eX : X = ((m - 4503599627370496 : Nat) : Int) := by omega
  have i1 := u64_or_nat sg (t * 4503599627370496) hs (by omega)
  have i2 := u64_or_nat (sg ||| t * 4503599627370496) (m - 4503599627370496) (Nat.or_lt_two_pow (n := 64) hs (by omega)) (by omega)
  rw [h, e1, eX, i1, i2]
  have e2 : ((t : Int) - 1075 + 1075).toNat = t := by omega
  have hne : m ≠ 9007199254740992 := by omega
  unfold packB
  simp only [if_neg hne, e2]
  rw [if_neg (by omega), if_neg hm]
theorem pack0 (sg : Nat) : packB sg 971 9007199254740992 = .tuple #[.int .u64 0, .bool false] := by
  unfold packB
  simp only [if_true]
  rw [if_pos (by omega)]
theorem near_core (s : Bool) (sa sb ta tb' tq tr ts : ByteArray) (x c : Int) (q sg : Nat) (res : Value) (w : World) (hsg : sg = if s then 9223372036854775808 else 0)
    (h0 : (sa.toList == [48]) = false) (hx1 : -1074 ≤ x) (hx2 : x ≤ 5000) (hq : q < 9007199254740992)
    (H81 : ∀ W : World, Calls Tryz.prog 81 #[.agg #[.bool s, .string sa, .string sb]] W fun r w' => r = .returned (.int .i64 x) ∧ Below W.heap.size W w')
    (H82 : ¬ 971 < x → ∀ W : World, Calls Tryz.prog 82 #[.agg #[.bool s, .string sa, .string sb], .int .i64 x] W fun r w' => r = .returned (.tuple #[.string ta, .string tb']) ∧ Below W.heap.size W w')
    (H83 : ¬ 971 < x → ∀ W : World, Calls Tryz.prog 83 #[.string ta, .string tb'] W fun r w' => r = .returned (.tuple #[.string tq, .string tr]) ∧ Below W.heap.size W w')
    (H53 : ∀ W : World, Calls Tryz.prog 53 #[.string tq] W fun r w' => r = .returned (.int .u64 (q : Nat)) ∧ w' = W)
    (H84 : ¬ 971 < x → ∀ W : World, Calls Tryz.prog 84 #[.string tr, .string tr] W fun r w' => r = .returned (.string ts) ∧ Below W.heap.size W w')
    (H69 : ∀ W : World, Calls Tryz.prog 69 #[.string ts, .string tb'] W fun r w' => r = .returned (.int .i64 c) ∧ w' = W)
    (m : Nat) (hm : (c = 1 ∧ m = q + 1) ∨ (c = 0 ∧ q % 2 = 1 ∧ m = q + 1) ∨ (c = 0 ∧ q % 2 = 0 ∧ m = q) ∨ (c = -1 ∧ m = q))
    (hres : res = if 971 < x then .tuple #[.int .u64 0, .bool false] else packB sg x m) :
    Calls Tryz.prog 34 #[.agg #[.bool s, .string sa, .string sb]] w fun r w' => r = .returned res ∧ Below w.heap.size w w' := by
  obtain ⟨V, hV⟩ : ∃ V, V = w.alloc (.cells #[.bool s, .string sa, .string sb] 56) := ⟨_, rfl⟩
  have HX : Hid (FBox V w.heap.size (.bool s) (.string sa) (.string sb)) := by rw [hV]; exact ⟨by simp [go_sem], by simp [go_sem], by simp [go_sem], by simp [go_sem], by simp [go_sem], by simp [go_sem]⟩
  have HB : Hid (Below w.heap.size w V) := by rw [hV]; exact (Below.refl _ _).alloc (Nat.le_refl _) _
  have HV := hide hV
  have G81 := hide H81; have G82 := hide H82; have G83 := hide H83; have G53 := hide H53; have G84 := hide H84; have G69 := hide H69
  have HRES := hide hres
  have HSG := hide hsg
  have HM := hide hm
  clear hV H81 H82 H83 H53 H84 H69 hres hsg hm
  by_cases hbig : 971 < x
  · cases s
    all_goals
      go_enter Tryz.func34, Tryz.ntmps34
      go_upto_region 1 with fail
      rw [← unhide HV]
      clear HV
      have c0 := (unhide HX).c0; have c1 := (unhide HX).c1; have c2 := (unhide HX).c2
      go_wp2_with (go_at_call 81; refine (unhide G81 _).mono ?_; rintro e w1 ⟨rfl, hb⟩; have HB1 : Hid (Below w.heap.size w w1) := (unhide HB).trans (hb.mono (Nat.le_of_lt (unhide HX).lt)); clear hb)
      exact bodyPost_ret (v := .tuple #[.int .u64 0, .bool false]) (by simp [results, Tryz.results34, go_sem]) rfl ⟨by rw [unhide HRES, if_pos hbig], unhide HB1⟩
  · have G82' := hide (unhide G82 hbig); have G83' := hide (unhide G83 hbig); have G84' := hide (unhide G84 hbig)
    clear G82 G83 G84
    have hle : x ≤ 971 := by omega
    have HX0 := hide hx1
    have HQ := hide hq
    clear hx2 hx1 hq
    cases s
    all_goals
      go_enter Tryz.func34, Tryz.ntmps34
      go_upto_region 1 with fail
      rw [← unhide HV]
      clear HV
      have c0 := (unhide HX).c0; have c1 := (unhide HX).c1; have c2 := (unhide HX).c2
      go_upto_region 7 with (go_at_call 81; refine (unhide G81 _).mono ?_; rintro e w1 ⟨rfl, hb⟩; have HB1 : Hid (Below w.heap.size w w1) := (unhide HB).trans (hb.mono (Nat.le_of_lt (unhide HX).lt)); have HX1 := hide ((unhide HX).later hb); clear hb HB HX c0 c1 c2; have c0 := (unhide HX1).c0; have c1 := (unhide HX1).c1; have c2 := (unhide HX1).c2)
      clear h0
      go_upto_region 9 with fail
      go_upto_region 10 with (go_at_call 82; refine (unhide G82' _).mono ?_; rintro e w2 ⟨rfl, hb⟩; have HB2 : Hid (Below w.heap.size w w2) := (unhide HB1).trans (hb.mono (unhide HB1).size); clear hb c0 c1 c2)
      go_upto_region 11 with (go_at_call 83; refine (unhide G83' _).mono ?_; rintro e w3 ⟨rfl, hb⟩; have HB3 : Hid (Below w.heap.size w w3) := (unhide HB2).trans (hb.mono (unhide HB2).size); clear hb)
      go_upto_region 12 with (go_at_call 53; refine (unhide G53 _).mono ?_; rintro e w4 ⟨rfl, hw⟩; obtain rfl : w3 = w4 := hw.symm)
      go_upto_region 13 with (first
        | (go_at_call 84; refine (unhide G84' _).mono ?_; rintro e w5 ⟨rfl, hb⟩; have HB5 : Hid (Below w.heap.size w w5) := (unhide HB3).trans (hb.mono (unhide HB3).size); clear hb)
        | (go_at_call 69; refine (unhide G69 _).mono ?_; rintro e w6 ⟨rfl, hw⟩; obtain rfl : w5 = w6 := hw.symm))
      have hx1 := unhide HX0
      obtain ⟨t, hxt, ht1, ht2⟩ : ∃ t : Nat, x = (t : Int) - 1075 ∧ (1 : Int) ≤ (t : Int) ∧ (t : Int) ≤ 2046 := ⟨(x + 1075).toNat, by omega, by omega, by omega⟩
      subst hxt
      clear hx1 hle hbig
      have hsg := unhide HSG
      simp at hsg
      subst hsg
      rcases unhide HM with ⟨rfl, rfl⟩ | ⟨rfl, h2, rfl⟩ | ⟨rfl, h2, hmq⟩ | ⟨rfl, hmq⟩
      · clear HM
        have hw1 : IntKind.u64.wrap ((q : Int) + 1) = (q : Int) + 1 := by have := unhide HQ; rw [IntKind.wrap_u64]; omega
        by_cases hf : q + 1 = 9007199254740992
        · obtain rfl : q = 9007199254740991 := by omega
          by_cases hy : t = 2046
          · subst hy
            go_wp2_with fail
            exact bodyPost_ret (v := .tuple #[.int .u64 0, .bool false]) (by simp [results, Tryz.results34, go_sem]) rfl ⟨by rw [unhide HRES, if_neg (by omega)]; exact (congrArg Ending.returned (pack0 _)).symm, unhide HB5⟩
          · have ht3 : (t : Int) ≤ 2045 := by omega
            go_wp2_with fail
            first
            | exact bodyPost_ret (v := .tuple #[.int .u64 (bits BinOp.or IntKind.u64 (bits BinOp.or IntKind.u64 0 (((t : Int) - 1075 + 1 + 1075) * 4503599627370496)) 0), .bool true]) (by simp [results, Tryz.results34, go_sem]) rfl ⟨by rw [unhide HRES, if_neg (by omega)]; exact (congrArg Ending.returned (pack1 0 t 0 rfl (by decide) ht1 ht3)).symm, unhide HB5⟩
            | exact bodyPost_ret (v := .tuple #[.int .u64 (bits BinOp.or IntKind.u64 (bits BinOp.or IntKind.u64 9223372036854775808 (((t : Int) - 1075 + 1 + 1075) * 4503599627370496)) 0), .bool true]) (by simp [results, Tryz.results34, go_sem]) rfl ⟨by rw [unhide HRES, if_neg (by omega)]; exact (congrArg Ending.returned (pack1 9223372036854775808 t 9223372036854775808 rfl (by decide) ht1 ht3)).symm, unhide HB5⟩
        · have hne : ((q : Int) + 1 == 9007199254740992) = false := by rw [beq_eq_false_iff_ne]; omega
          have HF := hide hf
          clear hf
          go_upto_region 20 with fail
          by_cases hs : (q : Int) + 1 < 4503599627370496
          · go_wp2_with fail
            first
            | exact bodyPost_ret (v := .tuple #[.int .u64 (bits BinOp.or IntKind.u64 0 ((q : Int) + 1)), .bool true]) (by simp [results, Tryz.results34, go_sem]) rfl ⟨by rw [unhide HRES, if_neg (by omega)]; exact (congrArg Ending.returned (pack2 0 t (q + 1) 0 _ rfl (by decide) ht2 (by omega) (by omega))).symm, unhide HB5⟩
            | exact bodyPost_ret (v := .tuple #[.int .u64 (bits BinOp.or IntKind.u64 9223372036854775808 ((q : Int) + 1)), .bool true]) (by simp [results, Tryz.results34, go_sem]) rfl ⟨by rw [unhide HRES, if_neg (by omega)]; exact (congrArg Ending.returned (pack2 9223372036854775808 t (q + 1) 9223372036854775808 _ rfl (by decide) ht2 (by omega) (by omega))).symm, unhide HB5⟩
          · have hw2 : IntKind.u64.wrap ((q : Int) + 1 - 4503599627370496) = (q : Int) + 1 - 4503599627370496 := by have := unhide HQ; rw [IntKind.wrap_u64]; omega
            go_wp2_with fail
            first
            | exact bodyPost_ret (v := .tuple #[.int .u64 (bits BinOp.or IntKind.u64 (bits BinOp.or IntKind.u64 0 ((t : Int) * 4503599627370496)) ((q : Int) + 1 - 4503599627370496)), .bool true]) (by simp [results, Tryz.results34, go_sem]) rfl ⟨by rw [unhide HRES, if_neg (by omega)]; exact (congrArg Ending.returned (pack3 0 t (q + 1) 0 _ rfl (by decide) ht1 ht2 (by omega) (by omega) (by have := unhide HQ; have := unhide HF; omega))).symm, unhide HB5⟩
            | exact bodyPost_ret (v := .tuple #[.int .u64 (bits BinOp.or IntKind.u64 (bits BinOp.or IntKind.u64 9223372036854775808 ((t : Int) * 4503599627370496)) ((q : Int) + 1 - 4503599627370496)), .bool true]) (by simp [results, Tryz.results34, go_sem]) rfl ⟨by rw [unhide HRES, if_neg (by omega)]; exact (congrArg Ending.returned (pack3 9223372036854775808 t (q + 1) 9223372036854775808 _ rfl (by decide) ht1 ht2 (by omega) (by omega) (by have := unhide HQ; have := unhide HF; omega))).symm, unhide HB5⟩
      · have hpar : ((q : Int) % 2 == 1) = true := by rw [beq_iff_eq]; omega
        clear HM h2
        have hw1 : IntKind.u64.wrap ((q : Int) + 1) = (q : Int) + 1 := by have := unhide HQ; rw [IntKind.wrap_u64]; omega
        by_cases hf : q + 1 = 9007199254740992
        · obtain rfl : q = 9007199254740991 := by omega
          by_cases hy : t = 2046
          · subst hy
            go_wp2_with fail
            exact bodyPost_ret (v := .tuple #[.int .u64 0, .bool false]) (by simp [results, Tryz.results34, go_sem]) rfl ⟨by rw [unhide HRES, if_neg (by omega)]; exact (congrArg Ending.returned (pack0 _)).symm, unhide HB5⟩
          · have ht3 : (t : Int) ≤ 2045 := by omega
            go_wp2_with fail
            first
            | exact bodyPost_ret (v := .tuple #[.int .u64 (bits BinOp.or IntKind.u64 (bits BinOp.or IntKind.u64 0 (((t : Int) - 1075 + 1 + 1075) * 4503599627370496)) 0), .bool true]) (by simp [results, Tryz.results34, go_sem]) rfl ⟨by rw [unhide HRES, if_neg (by omega)]; exact (congrArg Ending.returned (pack1 0 t 0 rfl (by decide) ht1 ht3)).symm, unhide HB5⟩
            | exact bodyPost_ret (v := .tuple #[.int .u64 (bits BinOp.or IntKind.u64 (bits BinOp.or IntKind.u64 9223372036854775808 (((t : Int) - 1075 + 1 + 1075) * 4503599627370496)) 0), .bool true]) (by simp [results, Tryz.results34, go_sem]) rfl ⟨by rw [unhide HRES, if_neg (by omega)]; exact (congrArg Ending.returned (pack1 9223372036854775808 t 9223372036854775808 rfl (by decide) ht1 ht3)).symm, unhide HB5⟩
        · have hne : ((q : Int) + 1 == 9007199254740992) = false := by rw [beq_eq_false_iff_ne]; omega
          have HF := hide hf
          clear hf
          go_upto_region 20 with fail
          by_cases hs : (q : Int) + 1 < 4503599627370496
          · go_wp2_with fail
            first
            | exact bodyPost_ret (v := .tuple #[.int .u64 (bits BinOp.or IntKind.u64 0 ((q : Int) + 1)), .bool true]) (by simp [results, Tryz.results34, go_sem]) rfl ⟨by rw [unhide HRES, if_neg (by omega)]; exact (congrArg Ending.returned (pack2 0 t (q + 1) 0 _ rfl (by decide) ht2 (by omega) (by omega))).symm, unhide HB5⟩
            | exact bodyPost_ret (v := .tuple #[.int .u64 (bits BinOp.or IntKind.u64 9223372036854775808 ((q : Int) + 1)), .bool true]) (by simp [results, Tryz.results34, go_sem]) rfl ⟨by rw [unhide HRES, if_neg (by omega)]; exact (congrArg Ending.returned (pack2 9223372036854775808 t (q + 1) 9223372036854775808 _ rfl (by decide) ht2 (by omega) (by omega))).symm, unhide HB5⟩
          · have hw2 : IntKind.u64.wrap ((q : Int) + 1 - 4503599627370496) = (q : Int) + 1 - 4503599627370496 := by have := unhide HQ; rw [IntKind.wrap_u64]; omega
            go_wp2_with fail
            first
            | exact bodyPost_ret (v := .tuple #[.int .u64 (bits BinOp.or IntKind.u64 (bits BinOp.or IntKind.u64 0 ((t : Int) * 4503599627370496)) ((q : Int) + 1 - 4503599627370496)), .bool true]) (by simp [results, Tryz.results34, go_sem]) rfl ⟨by rw [unhide HRES, if_neg (by omega)]; exact (congrArg Ending.returned (pack3 0 t (q + 1) 0 _ rfl (by decide) ht1 ht2 (by omega) (by omega) (by have := unhide HQ; have := unhide HF; omega))).symm, unhide HB5⟩
            | exact bodyPost_ret (v := .tuple #[.int .u64 (bits BinOp.or IntKind.u64 (bits BinOp.or IntKind.u64 9223372036854775808 ((t : Int) * 4503599627370496)) ((q : Int) + 1 - 4503599627370496)), .bool true]) (by simp [results, Tryz.results34, go_sem]) rfl ⟨by rw [unhide HRES, if_neg (by omega)]; exact (congrArg Ending.returned (pack3 9223372036854775808 t (q + 1) 9223372036854775808 _ rfl (by decide) ht1 ht2 (by omega) (by omega) (by have := unhide HQ; have := unhide HF; omega))).symm, unhide HB5⟩
      · replace hmq := hmq.symm
        subst hmq
        have hpar : ((q : Int) % 2 == 1) = false := by rw [beq_eq_false_iff_ne]; omega
        clear HM h2
        have hne : ((q : Int) == 9007199254740992) = false := by have := unhide HQ; rw [beq_eq_false_iff_ne]; omega
        go_upto_region 20 with fail
        by_cases hs : (q : Int) < 4503599627370496
        · go_wp2_with fail
          first
          | exact bodyPost_ret (v := .tuple #[.int .u64 (bits BinOp.or IntKind.u64 0 (q : Int)), .bool true]) (by simp [results, Tryz.results34, go_sem]) rfl ⟨by rw [unhide HRES, if_neg (by omega)]; exact (congrArg Ending.returned (pack2 0 t q 0 _ rfl (by decide) ht2 (by omega) (by omega))).symm, unhide HB5⟩
          | exact bodyPost_ret (v := .tuple #[.int .u64 (bits BinOp.or IntKind.u64 9223372036854775808 (q : Int)), .bool true]) (by simp [results, Tryz.results34, go_sem]) rfl ⟨by rw [unhide HRES, if_neg (by omega)]; exact (congrArg Ending.returned (pack2 9223372036854775808 t q 9223372036854775808 _ rfl (by decide) ht2 (by omega) (by omega))).symm, unhide HB5⟩
        · have hw2 : IntKind.u64.wrap ((q : Int) - 4503599627370496) = (q : Int) - 4503599627370496 := by have := unhide HQ; rw [IntKind.wrap_u64]; omega
          go_wp2_with fail
          first
          | exact bodyPost_ret (v := .tuple #[.int .u64 (bits BinOp.or IntKind.u64 (bits BinOp.or IntKind.u64 0 ((t : Int) * 4503599627370496)) ((q : Int) - 4503599627370496)), .bool true]) (by simp [results, Tryz.results34, go_sem]) rfl ⟨by rw [unhide HRES, if_neg (by omega)]; exact (congrArg Ending.returned (pack3 0 t q 0 _ rfl (by decide) ht1 ht2 (by omega) (by omega) (by have := unhide HQ; omega))).symm, unhide HB5⟩
          | exact bodyPost_ret (v := .tuple #[.int .u64 (bits BinOp.or IntKind.u64 (bits BinOp.or IntKind.u64 9223372036854775808 ((t : Int) * 4503599627370496)) ((q : Int) - 4503599627370496)), .bool true]) (by simp [results, Tryz.results34, go_sem]) rfl ⟨by rw [unhide HRES, if_neg (by omega)]; exact (congrArg Ending.returned (pack3 9223372036854775808 t q 9223372036854775808 _ rfl (by decide) ht1 ht2 (by omega) (by omega) (by have := unhide HQ; omega))).symm, unhide HB5⟩
      · replace hmq := hmq.symm
        subst hmq
        clear HM
        have hne : ((q : Int) == 9007199254740992) = false := by have := unhide HQ; rw [beq_eq_false_iff_ne]; omega
        go_upto_region 20 with fail
        by_cases hs : (q : Int) < 4503599627370496
        · go_wp2_with fail
          first
          | exact bodyPost_ret (v := .tuple #[.int .u64 (bits BinOp.or IntKind.u64 0 (q : Int)), .bool true]) (by simp [results, Tryz.results34, go_sem]) rfl ⟨by rw [unhide HRES, if_neg (by omega)]; exact (congrArg Ending.returned (pack2 0 t q 0 _ rfl (by decide) ht2 (by omega) (by omega))).symm, unhide HB5⟩
          | exact bodyPost_ret (v := .tuple #[.int .u64 (bits BinOp.or IntKind.u64 9223372036854775808 (q : Int)), .bool true]) (by simp [results, Tryz.results34, go_sem]) rfl ⟨by rw [unhide HRES, if_neg (by omega)]; exact (congrArg Ending.returned (pack2 9223372036854775808 t q 9223372036854775808 _ rfl (by decide) ht2 (by omega) (by omega))).symm, unhide HB5⟩
        · have hw2 : IntKind.u64.wrap ((q : Int) - 4503599627370496) = (q : Int) - 4503599627370496 := by have := unhide HQ; rw [IntKind.wrap_u64]; omega
          go_wp2_with fail
          first
          | exact bodyPost_ret (v := .tuple #[.int .u64 (bits BinOp.or IntKind.u64 (bits BinOp.or IntKind.u64 0 ((t : Int) * 4503599627370496)) ((q : Int) - 4503599627370496)), .bool true]) (by simp [results, Tryz.results34, go_sem]) rfl ⟨by rw [unhide HRES, if_neg (by omega)]; exact (congrArg Ending.returned (pack3 0 t q 0 _ rfl (by decide) ht1 ht2 (by omega) (by omega) (by have := unhide HQ; omega))).symm, unhide HB5⟩
          | exact bodyPost_ret (v := .tuple #[.int .u64 (bits BinOp.or IntKind.u64 (bits BinOp.or IntKind.u64 9223372036854775808 ((t : Int) * 4503599627370496)) ((q : Int) - 4503599627370496)), .bool true]) (by simp [results, Tryz.results34, go_sem]) rfl ⟨by rw [unhide HRES, if_neg (by omega)]; exact (congrArg Ending.returned (pack3 9223372036854775808 t q 9223372036854775808 _ rfl (by decide) ht1 ht2 (by omega) (by omega) (by have := unhide HQ; omega))).symm, unhide HB5⟩
/-- What stands of the product that is filled, and of the three boxes. -/
structure OutU (w wr : World) (a b : Value) (N : Nat) (O : List Nat) : Prop where
  own : Own wr (w.heap.size + 1 + 1 + 1) O
  len : O.length = N
  box : Boxes3 w wr a b (.slice none 0 0)
theorem OutU.set {w wr : World} {a b : Value} {N : Nat} {O : List Nat} (h : OutU w wr a b N O) (p x : Nat) (z : Int) (hz : z = (x : Int)) : OutU w (wr.setCell ⟨w.heap.size + 1 + 1 + 1, p, none⟩ (.int .u64 z)) a b N (O.set p x) := by
  subst hz
  exact ⟨h.own.set p x, by rw [List.length_set]; exact h.len, h.box.on ((Below.refl (w.heap.size + 3) wr).setCell (p := ⟨w.heap.size + 1 + 1 + 1, p, none⟩) (show w.heap.size + 3 ≤ w.heap.size + 1 + 1 + 1 by omega) _)⟩
theorem mul_any (x y : Value) (m n k : Nat) (w : World) (hx : IsBig w x m) (hy : IsBig w y n) (hk : k ≤ 1000000) (hm : m < 1000000000 ^ k) (hn : n < 1000000000 ^ k) :
    Calls Tryz.prog 99 #[x, y] w fun e w' => ∃ v, e = .returned v ∧ IsBig w' v (m * n) ∧ Below w.heap.size w w' := by
  obtain ⟨ap, lp, cp, rfl, hlp, hrp, hnp, rfl⟩ := hx.form
  obtain ⟨aq, lq, cq, rfl, hlq, hrq, hnq, rfl⟩ := hy.form
  have h1 := Cub.len_le hnp hm
  have h2 := Cub.len_le hnq hn
  have HP : Hid (Cub.limbs 1000000000 lp ∧ Cells w ap lp) := ⟨hnp.1, hrp.cells.2.2.2⟩
  have HQ : Hid (Cub.limbs 1000000000 lq ∧ Cells w aq lq) := ⟨hnq.1, hrq.cells.2.2.2⟩
  obtain ⟨np, hnp'⟩ : ∃ np, np = lp.length := ⟨_, rfl⟩
  obtain ⟨nq, hnq'⟩ : ∃ nq, nq = lq.length := ⟨_, rfl⟩
  rw [← hnp'] at h1 ⊢
  rw [← hnq'] at h2 ⊢
  have HNP := hide hnp'
  have HNQ := hide hnq'
  clear hx hy hm hn hlp hlq hrp hrq hnp hnq hnp' hnq'
  obtain ⟨i0, hi, hz0, hz1, hz2⟩ := info_parts Tryz.info41
  go_enter Tryz.func99, Tryz.ntmps99
  go_wp2_with (first
    | (at_make; go_must (refine wpList_make_full _ rfl _ _ 49 rfl (w.heap.size + 3) 41 i0 (.int .u64 0) 1 Tryz.underlying49 hi hz0 hz1 .i64 .i64 _ _ (np + nq) rfl rfl (by omega) (by omega) (by rw [hz2]; omega) (by unfold maxLen; omega) (by simp) ?_; intro w4 hown4 hgrow4; rw [u64s_made] at hown4; have hO4 : Own w4 (w.heap.size + 1 + 1 + 1) (List.replicate (np + nq) 0) := (by have := Own.of_row hown4; simpa using this); have hB4 := boxes3 ((Below.refl (w.heap.size + 3) _).grown hgrow4 (by simp) (fun k hk => by cases hk)); have bp4 := hB4.c1; have HO4 : Hid (OutU w w4 (.slice ap np cp) (.slice aq nq cq) (np + nq) (List.replicate (np + nq) 0)) := ⟨hO4, List.length_replicate .., hB4⟩; clear hown4 hgrow4 hO4 hB4)))
  go_loopw [22] (fun t wr => ∃ (i : Nat) (O : List Nat), t = .int .i64 (i : Int) ∧ i ≤ np ∧ Hid (OutU w wr (.slice ap np cp) (.slice aq nq cq) (np + nq) O) ∧ Hid (Cub.limbs 1000000000 O ∧ Cub.lval 1000000000 O = Cub.lval 1000000000 (lp.take i) * Cub.lval 1000000000 lq)) (fun t _ => np - (intOf t).toNat)
  case atStart => exact ⟨0, _, rfl, by omega, HO4, ⟨Cub.limbs_zeros _ _ (by decide), by rw [Cub.lval_zeros]; simp [Cub.lval]⟩⟩
  case round =>
    obtain ⟨i, O, rfl, hi', HO, HV⟩ := hrel
    clear bp4
    have bq := (unhide HO).box.c2
    by_cases hin : i < np
    · have hil : i < lp.length := by have := unhide HNP; omega
      obtain ⟨xv, hxv⟩ : ∃ xv, xv = lp[i] := ⟨_, rfl⟩
      have hxB : xv < 1000000000 := by rw [hxv]; exact (unhide HP).1 _ (List.getElem_mem hil)
      have HXV : Hid (lp.getD i 0 = xv) := by rw [hxv, List.getD_eq_getElem?_getD, List.getElem?_eq_getElem hil]; exact rfl
      obtain ⟨b1, o1, rfl, hcx⟩ := (unhide HP).2 wr (unhide HO).box.below i hil
      rw [← hxv] at hcx
      clear hxv
      by_cases hx0 : xv = 0
      · subst hx0
        have HVn : Hid (Cub.limbs 1000000000 O ∧ Cub.lval 1000000000 O = Cub.lval 1000000000 (lp.take (i + 1)) * Cub.lval 1000000000 lq) := by
          refine ⟨(unhide HV).1, ?_⟩
          rw [← Cub.val_outer, unhide HXV, (unhide HV).2]; simp
        go_wp2
        go_roundw
        case rel => exact ⟨i + 1, O, by go_num, by omega, HO, HVn⟩
        case measure => simp [intOf]; omega
      · have hxz : ((xv : Int) == 0) = false := by rw [beq_eq_false_iff_ne]; omega
        have HA0 : Hid (Cub.Acc 1000000000 O 0 (i + 0) (Cub.lval 1000000000 (lp.take i) * Cub.lval 1000000000 lq + 1000000000 ^ i * (xv * Cub.lval 1000000000 (lq.take 0)))) := by
          refine ⟨(unhide HV).1, ?_⟩
          rw [(unhide HV).2]; simp [Cub.lval]
        have HZ0 : Hid (∀ p (hp : p < O.length), i + nq ≤ p → O[p] = 0) := fun p hp hip => by
          apply Cub.get_zero (B := 1000000000) (p := p) _ hp
          rw [(unhide HV).2]
          rcases Cub.mul_lt 1000000000 lp lq (unhide HP).1 (unhide HQ).1 i with h | h
          · refine Nat.lt_of_lt_of_le h (Nat.pow_le_pow_right (by decide) ?_)
            have := unhide HNQ; omega
          · omega
        generalize hV0 : Cub.lval 1000000000 (lp.take i) * Cub.lval 1000000000 lq = V0 at *
        have HV0 := hide hV0
        clear hV0 hx0
        go_wp2
        go_loopw [8, 32] (fun c t wq => ∃ (k j : Nat) (P : List Nat), c = .int .u64 (k : Int) ∧ t = .int .i64 (j : Int) ∧ j ≤ nq ∧ k < 1000000000 ∧ Hid (OutU w wq (.slice (some ⟨b1, o1, none⟩) np cp) (.slice aq nq cq) (np + nq) P) ∧ Hid (∀ p (hp : p < P.length), i + nq ≤ p → P[p] = 0) ∧ Hid (Cub.Acc 1000000000 P k (i + j) (V0 + 1000000000 ^ i * (xv * Cub.lval 1000000000 (lq.take j))))) (fun _ t _ => nq - (intOf t).toNat)
        case atStart => exact ⟨0, 0, O, rfl, rfl, by omega, by omega, HO, HZ0, HA0⟩
        case round =>
          clear bq hcx
          obtain ⟨k, j, P, rfl, rfl, hj, hk, HP', HZ, HA⟩ := hrel
          have bq := (unhide HP').box.c2
          by_cases hjn : j < nq
          · have hpl : i + j < P.length := by rw [(unhide HP').len]; omega
            have hjl : j < lq.length := by have := unhide HNQ; omega
            obtain ⟨ov, hov⟩ : ∃ ov, ov = P[i + j] := ⟨_, rfl⟩
            have hoB : ov < 1000000000 := by rw [hov]; exact (unhide HA).lim _ (List.getElem_mem hpl)
            have hco := (unhide HP').own.cell (i + j) hpl
            rw [← hov] at hco
            have hfo := (unhide HP').own.frozen (i + j)
            obtain ⟨yv, hyv⟩ : ∃ yv, yv = lq[j] := ⟨_, rfl⟩
            have hyB : yv < 1000000000 := by rw [hyv]; exact (unhide HQ).1 _ (List.getElem_mem hjl)
            obtain ⟨b2, o2, rfl, hcy⟩ := (unhide HQ).2 wr (unhide HP').box.below j hjl
            rw [← hyv] at hcy
            have HYV : Hid (lq.getD j 0 = yv) := by rw [hyv, List.getD_eq_getElem?_getD, List.getElem?_eq_getElem hjl]; exact rfl
            obtain ⟨m, hm⟩ : ∃ m, m = xv * yv := ⟨_, rfl⟩
            have hmB : m ≤ 999999998000000001 := by rw [hm]; exact Nat.mul_le_mul (show xv ≤ 999999999 by omega) (show yv ≤ 999999999 by omega)
            have hmul : (xv : Int) * (yv : Int) = (m : Int) := by rw [hm]; simp
            have HA' : Hid (Cub.Acc 1000000000 (P.set (i + j) ((k + ov + m) % 1000000000)) ((k + ov + m) / 1000000000) (i + (j + 1)) (V0 + 1000000000 ^ i * (xv * Cub.lval 1000000000 (lq.take (j + 1))))) := by
              have h := (unhide HA).step (by decide) hpl (xv * lq.getD j 0)
              rw [Cub.val_inner, unhide HYV, ← hm, ← hov] at h
              exact h
            have hk' : (k + ov + m) / 1000000000 < 1000000000 := by rw [hm]; exact Cub.carry_lt 1000000000 k ov xv yv hk hoB hxB hyB
            have HZ' : Hid (∀ p (hp : p < (P.set (i + j) ((k + ov + m) % 1000000000)).length), i + nq ≤ p → (P.set (i + j) ((k + ov + m) % 1000000000))[p] = 0) := fun p hp hip => by
              rw [List.getElem_set_ne (by omega)]; exact unhide HZ p (by rw [List.length_set] at hp; exact hp) hip
            have HPn : Hid (OutU w (wr.setCell ⟨w.heap.size + 1 + 1 + 1, i + j, none⟩ (.int .u64 (((k : Int) + ((ov : Int) + (m : Int))) % 1000000000))) (.slice (some ⟨b1, o1, none⟩) np cp) (.slice (some ⟨b2, o2, none⟩) nq cq) (np + nq) (P.set (i + j) ((k + ov + m) % 1000000000))) := (unhide HP').set (i + j) ((k + ov + m) % 1000000000) _ (by omega)
            clear hov hyv hjl hm hpl HA HZ
            go_wp2
            go_roundw
            case rel => exact ⟨(k + ov + m) / 1000000000, j + 1, P.set (i + j) ((k + ov + m) % 1000000000), by go_num, by go_num, by omega, hk', HPn, HZ', HA'⟩
            case measure => simp [intOf]; omega
          · have hje : j = nq := by omega
            subst hje
            have hpl : i + j < P.length := by rw [(unhide HP').len]; omega
            have hz := unhide HZ (i + j) hpl (Nat.le_refl _)
            have hco := (unhide HP').own.cell (i + j) hpl
            rw [hz] at hco
            have hfo := (unhide HP').own.frozen (i + j)
            have HVn : Hid (Cub.limbs 1000000000 (P.set (i + j) k) ∧ Cub.lval 1000000000 (P.set (i + j) k) = Cub.lval 1000000000 (lp.take (i + 1)) * Cub.lval 1000000000 lq) := by
              have h := (unhide HA).val
              rw [List.take_of_length_le (by have := unhide HNQ; omega), ← unhide HV0, ← unhide HXV, Cub.val_outer] at h
              refine ⟨Cub.limbs_set (unhide HA).lim _ _ hk, ?_⟩
              have e := Cub.lval_set 1000000000 P (i + j) k hpl
              rw [hz] at e
              omega
            have HPn : Hid (OutU w (wr.setCell ⟨w.heap.size + 1 + 1 + 1, i + j, none⟩ (.int .u64 (k : Int))) (.slice (some ⟨b1, o1, none⟩) np cp) (.slice aq j cq) (np + j) (P.set (i + j) k)) := (unhide HP').set (i + j) k _ rfl
            clear hpl hz HA HZ
            go_wp2
            go_roundw
            case rel => exact ⟨i + 1, P.set (i + j) k, by go_num, by omega, HPn, HVn⟩
            case measure => simp [intOf]; omega
    · obtain ⟨t1, t2, _⟩ := Cub.lval_trim 1000000000 _ O rfl
      have HF : Hid (Cub.normal 1000000000 (Cub.trimN O) ∧ Cub.lval 1000000000 (Cub.trimN O) = Cub.lval 1000000000 lp * Cub.lval 1000000000 lq) := by
        refine ⟨t2 (unhide HV).1, ?_⟩
        rw [t1, (unhide HV).2, List.take_of_length_le (by have := unhide HNP; omega)]
      have hsz := (unhide HO).box.size
      have br := (unhide HO).box.c3
      have fr := (unhide HO).box.f3
      clear t1 t2
      go_wp2_with (go_at_call 78; refine (trim_any _ O _ ((unhide HO).own.row (np + nq) (np + nq) (unhide HO).len.symm (Nat.le_refl _) (by unfold maxLen; omega))).mono ?_; rintro e w6 ⟨v', rfl, hrow6, hb6⟩; obtain ⟨a6, cap6, rfl, hcap6⟩ := hrow6.form; obtain ⟨hc6, hf6⟩ := box_later hb6 (g := w.heap.size + 1 + 1) (by omega) br fr)
      refine bodyPost_ret (v := .agg #[.slice a6 (Cub.trimN O).length cap6]) (by simp [results, Tryz.results99, go_sem, hc6]) rfl ⟨_, rfl, ?_, ?_⟩
      · exact ⟨_, _, rfl, hrow6.box _ hc6 (no_int _ _ _), (unhide HF).1, (unhide HF).2⟩
      · exact ((unhide HO).box.below.trans (hb6.mono (by omega))).setCell (p := ⟨w.heap.size + 1 + 1, 0, none⟩) (show w.heap.size ≤ w.heap.size + 1 + 1 by omega) _
end Go.Proofs.YtijifpbpjinmhaaGreatDoor
namespace Go.Proofs
open Go.Shelf
def Tryz.lays125_ren : Go.Shelf.Ren := ⟨fun | 125 => 171 | 128 => 203 | 129 => 204 | n => n, fun | 46 => 109 | 3 => 3 | 51 => 205 | 53 => 41 | 4 => 4 | 5 => 5 | 9 => 9 | n => n, fun | n => n⟩
theorem Tryz.lays125 : Go.Proofs.Lays.n125 Tryz.prog Tryz.lays125_ren := {
  mixed := by kernel_rfl
  f125 := Tryz.func171.trans (congrArg some (by kernel_rfl))
  f128 := Tryz.func203.trans (congrArg some (by kernel_rfl))
  f129 := Tryz.func204.trans (congrArg some (by kernel_rfl))
  t3 := Tryz.underlying3
  a3 := Tryz.isAgg3
  z3 := Tryz.sizeOf3
  v3 := Tryz.zeroValue3
  t4 := Tryz.underlying4
  a4 := Tryz.isAgg4
  z4 := Tryz.sizeOf4
  v4 := Tryz.zeroValue4
  t5 := Tryz.underlying5
  a5 := Tryz.isAgg5
  z5 := Tryz.sizeOf5
  v5 := Tryz.zeroValue5
  t9 := Tryz.underlying9
  a9 := Tryz.isAgg9
  z9 := Tryz.sizeOf9
  v9 := Tryz.zeroValue9
  t46 := Tryz.underlying109
  a46 := Tryz.isAgg109
  z46 := Tryz.sizeOf109
  v46 := Tryz.zeroValue109
  t51 := Tryz.underlying205
  a51 := Tryz.isAgg205
  z51 := Tryz.sizeOf205
  v51 := Tryz.zeroValue205
  t53 := Tryz.underlying41
  a53 := Tryz.isAgg41
  z53 := Tryz.sizeOf41
  v53 := Tryz.zeroValue41 }
theorem Tryz.bits_Len (x : Int) (w : World) (h0 : 0 ≤ x) (h1 : x ≤ 18446744073709551615) :
    Calls Tryz.prog 171 #[.int .u64 x] w fun e w' => e = .returned (.int .i64 (Lib.bitLen x.toNat)) ∧ w' = w := Any.bits_Len Tryz.lays125 x w h0 h1
end Go.Proofs

/- Blocks that a call owns; Bigs that stand beside them; sizes (two Bigs). -/
import Derived.Test.YtijifpbpjinmhaaGreatDoorScaled
import Derived.Test.YtijifpbpjinmhaaGreatDoorTell
import Derived.Test.YtijifpbpjinmhaaGreatDoorParseP
import Derived.Shelf.Small.Bits
import Derived.Shelf.Small.Wraps
import Derived.Shelf.Strconv.Itoa0
import Derived.Shelf.Strconv.Itoa1
import Derived.Shelf.LaysM
import Derived.Shelf.Strconv.Itoa2
import Derived.Shelf.Strconv.AppendUint10
import Derived.Shelf.Strconv.AppendInt10
import Derived.Shelf.Strings.Prefix
import Derived.Ground.Names2Prog
import Derived.Shelf.Slices.SearchI
import Derived.Test.YtijifpbpjinmhaaGreatDoorProg
import Derived.Test.YtijifpbpjinmhaaGreatDoorGcdMath
import Derived.Test.YtijifpbpjinmhaaGreatDoorBigOf
import Derived.Test.YtijifpbpjinmhaaGreatDoorText
import Derived.Laws.Bits128
import Derived.OrdersHeld
import Derived.Deep.RegionHeld3
import Derived.Test.YtijifpbpjinmhaaGreatDoorGcdMath2
import Derived.Laws.Tables
import Derived.Laws.CopyOwn
import Derived.Laws.ResultCell
import Derived.Deep.Cut
import Derived.Deep.QuietTactic
import Derived.WalkMore
import Derived.LoopN
set_option maxHeartbeats 800000
set_option maxRecDepth 100000
namespace Go.Proofs.YtijifpbpjinmhaaGreatDoor
open Go.RowKit
theorem ratioQ (b : Bool) (m n : Nat) (W : World) (y z : Value) (hm : m < 1000000000 ^ 67) (hn : n < 1000000000 ^ 67) (h0 : 0 < n) (hy : IsBig W y m) (hz : IsBig W z n) :
    Calls Tryz.prog 89 #[.bool b, y, z] W fun e w' => ∃ v', e = .returned v' ∧ QOf w' v' (Cub.valQ b m n) 67 ∧ Below W.heap.size W w' := by
  refine (ratio_any b y z m n 67 W hy hz hm hn h0 (divAns 67 (by decide)) (gcdAns 67 (by decide))).mono ?_
  rintro e w' ⟨v', rfl, hf, hb⟩
  obtain ⟨l1, l2⟩ := Cub.ratio_low (b := b) (n := m) h0
  exact ⟨v', rfl, ⟨_, _, _, hf, l1, l2, Nat.lt_of_le_of_lt (Nat.div_le_self _ _) hm, Nat.lt_of_le_of_lt (Nat.div_le_self _ _) hn⟩, hb⟩
theorem bigTx (n : Nat) (W : World) (h : (tx n).size ≤ 100000) : Calls Tryz.prog 32 #[.string (tx n)] W fun e w' => ∃ v, e = .returned v ∧ IsBig w' v n ∧ Below W.heap.size W w' := by
  have := bigText_any (tx n) W (by omega) (tx_nat n).1
  have e : Cub.dval (tx n).data.toList = n := tx_val n
  rwa [e] at this
theorem tx_lt (n : Nat) : n < 10 ^ (tx n).size := by
  have := Cub.dval_lt (tx_nat n).1
  rw [list_len] at this
  have e : Cub.dval (tx n).data.toList = n := tx_val n
  rwa [e] at this
theorem sc_lt {n j : Nat} (E : Nat) (h : n ≠ 0 → (tx n).size + j ≤ E) : n * 10 ^ j < 10 ^ E := by
  by_cases h0 : n = 0
  · subst h0; rw [Nat.zero_mul]; exact Nat.pow_pos (by decide)
  · refine Nat.lt_of_lt_of_le (Nat.mul_lt_mul_of_pos_right (tx_lt n) (Nat.pow_pos (by decide))) ?_
    rw [← Nat.pow_add]
    exact Nat.pow_le_pow_right (by decide) (h h0)
/-- A decimal's exponent. -/
def decK (d : Bool) (x u : ByteArray) : Int := (if d then -(dv x : Int) else (dv x : Int)) - (u.size : Int)
def decOk (d : Bool) (t u x : ByteArray) : Bool := decide (dv x ≤ 4096) && !farQ (dv (t ++ u)) (decK d x u)
noncomputable def decN (b d : Bool) (t u x : ByteArray) : ByteArray := if decOk d t u x then numT (scQ b (dv (t ++ u)) (decK d x u)) else ⟨#[]⟩
noncomputable def decD (b d : Bool) (t u x : ByteArray) : ByteArray := if decOk d t u x then denT (scQ b (dv (t ++ u)) (decK d x u)) else ⟨#[]⟩
noncomputable def decE (b d : Bool) (t u x : ByteArray) : Int := if decOk d t u x then errT (scQ b (dv (t ++ u)) (decK d x u)) else 7
theorem far_prog {n : Nat} {k : Int} (h : (tx n).size ≤ 600) : farQ n k = (decide (k ≤ -600) || (decide (0 ≤ k) && !(decide (n = 0)) && decide (600 < ((tx n).size : Int) + k))) := by
  have h1 : ¬ 10 ^ 600 ≤ n := fun hh => by have := (tx_long n 600 (by decide)).2 hh; omega
  unfold farQ
  rw [decide_eq_false h1, Bool.false_or]
  by_cases hk : 0 < k
  · rw [decide_eq_true hk, decide_eq_true (show 0 ≤ k by omega)]
    by_cases h0 : n = 0 <;> simp [h0]
  · rw [decide_eq_false hk]
    by_cases hk0 : 0 ≤ k
    · rw [decide_eq_false (show ¬ 600 < ((tx n).size : Int) + k by omega)]; simp
    · rw [decide_eq_false hk0]; simp
theorem far_long {n : Nat} {k : Int} (h : 10 ^ 600 ≤ n) : farQ n k = true := by
  unfold farQ
  rw [decide_eq_true h, Bool.true_or, Bool.true_or]
theorem nat_tx (t : ByteArray) (h : Dg t) : natT t = tx (dv t) := by
  rcases Nat.eq_zero_or_pos t.size with h0 | h0
  · obtain ⟨h1, h2, _⟩ := natT_nil h0; rw [h1, h2]
  · exact natT_tx h h0
theorem rdec_any (b d : Bool) (t u x : ByteArray) (w : World) (htab : Tab w) (ht : Dg t ∧ 0 < t.size ∧ t.size ≤ 65536) (hu : Dg u ∧ u.size ≤ 65536) (hx : Dg x ∧ x.size ≤ 65536) :
    Calls Tryz.prog 140 #[partsV b t u x d ⟨#[]⟩ 0] w fun r w' => r = .returned (.tuple #[.agg #[.string (decN b d t u x), .string (decD b d t u x)], .int .i64 (decE b d t u x), .int .i64 0]) ∧ Below w.heap.size w w' := by
  have hn1 := fun W => naturalT_any (t ++ u) W
  have hn2 := fun W => naturalT_any x W
  rw [nat_tx _ (dg_append ht.1 hu.1)] at hn1
  rw [nat_tx _ hx.1] at hn2
  have hX := tx_long (dv x) 4 (by decide)
  have hN := tx_long (dv (t ++ u)) 600 (by decide)
  unfold decN decD decE
  by_cases hl : 600 < (tx (dv (t ++ u))).size ∨ 4 < (tx (dv x)).size
  · have hok : decOk d t u x = false := by
      unfold decOk
      rcases hl with hl | hl
      · have : farQ (dv (t ++ u)) (decK d x u) = true := far_long (hN.1 hl)
        rw [this]; simp
      · rw [decide_eq_false (show ¬ dv x ≤ 4096 by have := hX.1 hl; omega), Bool.false_and]
    rw [hok]
    exact decimal_long b d t u x _ _ w ht.2.2 hu.2 hn1 hn2 hl
  · have l1 : (tx (dv (t ++ u))).size ≤ 600 := by omega
    have l2 : (tx (dv x)).size ≤ 4 := by omega
    have hX4 : dv x < 10000 := by
      rcases Nat.lt_or_ge (dv x) 10000 with h | h
      · exact h
      · have := hX.2 h; omega
    by_cases h3 : dv x ≤ 4096
    · have hf := far_prog (k := decK d x u) l1
      have hok : decOk d t u x = !farQ (dv (t ++ u)) (decK d x u) := by unfold decOk; rw [decide_eq_true h3, Bool.true_and]
      rw [hok]
      have hm0 : ((tx (dv (t ++ u))).toList == [48]) = decide (dv (t ++ u) = 0) := by
        rw [Bool.eq_iff_iff, beq_iff_eq, decide_eq_true_iff]; exact tx_is0 _
      have p6 := pow600
      obtain ⟨E, hE⟩ : ∃ E : Nat, E = 600 := ⟨_, rfl⟩
      rw [← hE] at p6
      have hKb : -70000 ≤ decK d x u ∧ decK d x u ≤ 70000 := by unfold decK; split <;> omega
      have hN6 : dv (t ++ u) < 10 ^ E := Nat.lt_of_lt_of_le (tx_lt _) (Nat.pow_le_pow_right (by decide) (by omega))
      have h1k : 1 < 1000000000 ^ 67 := Nat.one_lt_pow (by omega) (by omega)
      refine decimal_walk b d t u x _ _ (dv x) (decK d x u) w ht.2.2 hu.2 hX4 hn1 hn2 (fun W => atoi_any _ hX4 W) l1 l2 h3 _ (farQ (dv (t ++ u)) (decK d x u)) hm0 rfl hf (fun w v => QOf w v (scQ b (dv (t ++ u)) (decK d x u)) 67) (dv (t ++ u)) _ _ _ htab ?_ ?_ ?_ ?_ ?_ ?_ ?_
      · intro h; rw [h]; exact ⟨rfl, rfl, rfl⟩
      · intro _ W; exact bigTx _ W (by omega)
      · intro h hk W y hy
        obtain ⟨j, hj⟩ : ∃ j : Nat, decK d x u = -(j : Int) := ⟨(-decK d x u).toNat, by omega⟩
        have := shift_any y 1 j 67 W hy (by decide) h1k (by omega)
        rw [show -decK d x u = (j : Int) by omega, Int.toNat_natCast]
        rwa [Nat.one_mul] at this
      · intro h hk W y hy
        obtain ⟨j, hj⟩ : ∃ j : Nat, decK d x u = (j : Int) := ⟨(decK d x u).toNat, by omega⟩
        rw [hj, Int.toNat_natCast]
        exact shift_any y _ j 67 W hy (by decide) (Nat.lt_of_lt_of_le hN6 p6) (by omega)
      · intro h hk W y z hy hz
        obtain ⟨j, hj⟩ : ∃ j : Nat, decK d x u = -(j : Int) := ⟨(-decK d x u).toNat, by omega⟩
        have hj6 : j < E := by have := (far_no h).2; omega
        have e1 : (decK d x u).toNat = 0 := by omega
        have e2 : (-decK d x u).toNat = j := by omega
        unfold scQ
        rw [e1, e2, Nat.pow_zero, Nat.mul_one]
        rw [e2] at hz
        exact ratioQ b _ _ W y z (Nat.lt_of_lt_of_le hN6 p6) (Nat.lt_of_lt_of_le (pow_lt_pow10 hj6) p6) (Nat.pow_pos (by decide)) hy hz
      · intro h hk W y z hy hz
        obtain ⟨j, hj⟩ : ∃ j : Nat, decK d x u = (j : Int) := ⟨(decK d x u).toNat, by omega⟩
        have e1 : (decK d x u).toNat = j := by omega
        have e2 : (-decK d x u).toNat = 0 := by omega
        unfold scQ
        rw [e1, e2, Nat.pow_zero]
        rw [e1] at hy
        refine ratioQ b _ _ W y z (Nat.lt_of_lt_of_le (sc_lt E fun h0 => ?_) p6) h1k (by decide) hy hz
        rw [hf, Bool.or_eq_false_iff, decide_eq_true hk, decide_eq_false h0] at h
        have := of_decide_eq_false (by simpa using h.2 : decide (600 < ((tx (dv (t ++ u))).size : Int) + decK d x u) = false)
        omega
      · intro h W v hv ht'
        rw [h]
        exact qtell v _ 67 W hv (by decide) ht'
    · have hok : decOk d t u x = false := by unfold decOk; rw [decide_eq_false h3, Bool.false_and]
      rw [hok]
      exact decimal_exp b d t u x _ _ (dv x) w ht.2.2 hu.2 hX4 hn1 hn2 (fun W => atoi_any _ hX4 W) l1 l2 (by omega)
end Go.Proofs.YtijifpbpjinmhaaGreatDoor
namespace Go.Proofs
open Go.Shelf
def Tryz.lays125_ren : Go.Shelf.Ren := ⟨fun | 125 => 171 | 128 => 203 | 129 => 204 | n => n, fun | 46 => 109 | 3 => 3 | 51 => 205 | 53 => 41 | 4 => 4 | 5 => 5 | 9 => 9 | n => n, fun | n => n⟩
theorem Tryz.lays125 : Go.Proofs.Lays.n125 Tryz.prog Tryz.lays125_ren := {
  mixed := by kernel_rfl
  f125 := Tryz.func171.trans (congrArg some (by kernel_rfl))
  f128 := Tryz.func203.trans (congrArg some (by kernel_rfl))
  f129 := Tryz.func204.trans (congrArg some (by kernel_rfl))
  t3 := Tryz.underlying3
  a3 := Tryz.isAgg3
  z3 := Tryz.sizeOf3
  v3 := Tryz.zeroValue3
  t4 := Tryz.underlying4
  a4 := Tryz.isAgg4
  z4 := Tryz.sizeOf4
  v4 := Tryz.zeroValue4
  t5 := Tryz.underlying5
  a5 := Tryz.isAgg5
  z5 := Tryz.sizeOf5
  v5 := Tryz.zeroValue5
  t9 := Tryz.underlying9
  a9 := Tryz.isAgg9
  z9 := Tryz.sizeOf9
  v9 := Tryz.zeroValue9
  t46 := Tryz.underlying109
  a46 := Tryz.isAgg109
  z46 := Tryz.sizeOf109
  v46 := Tryz.zeroValue109
  t51 := Tryz.underlying205
  a51 := Tryz.isAgg205
  z51 := Tryz.sizeOf205
  v51 := Tryz.zeroValue205
  t53 := Tryz.underlying41
  a53 := Tryz.isAgg41
  z53 := Tryz.sizeOf41
  v53 := Tryz.zeroValue41 }
theorem Tryz.bits_Len (x : Int) (w : World) (h0 : 0 ≤ x) (h1 : x ≤ 18446744073709551615) :
    Calls Tryz.prog 171 #[.int .u64 x] w fun e w' => e = .returned (.int .i64 (Lib.bitLen x.toNat)) ∧ w' = w := Any.bits_Len Tryz.lays125 x w h0 h1
end Go.Proofs
namespace Go.Proofs.YtijifpbpjinmhaaGreatDoor
open Go.RowKit
theorem mulB (x y : Value) (m n r k : Nat) (w : World) (hx : IsBig w x m) (hy : IsBig w y n) (hk : k ≤ 1000000) (hm : m < 1000000000 ^ k) (hn : n < 1000000000 ^ k) (hr : r = m * n) :
    Calls Tryz.prog 99 #[x, y] w fun e w' => ∃ a l c, e = .returned (.agg #[.slice a l c]) ∧ IsBig w' (.agg #[.slice a l c]) r ∧ Below w.heap.size w w' := by
  subst hr
  refine (mul_any x y m n k w hx hy hk hm hn).mono ?_
  rintro e w' ⟨v, rfl, hv, hb⟩
  obtain ⟨a, n, c, rfl⟩ := hv.shape
  exact ⟨a, n, c, rfl, hv, hb⟩
theorem powLt (m n q M : Nat) (h : q ≤ n) (hM : m ^ n < M) (h1 : 1 < M) : m ^ q < M := by
  by_cases h0 : m = 0
  · subst h0
    cases q with
    | zero => simpa using h1
    | succ q => rw [Nat.zero_pow (by omega)]; omega
  · exact Nat.lt_of_le_of_lt (Nat.pow_le_pow_right (by omega) h) hM
theorem half_step (n i : Nat) : n / 2 ^ i = 2 * (n / 2 ^ (i + 1)) + (n / 2 ^ i) % 2 := by
  rw [Nat.pow_succ, ← Nat.div_div_eq_div_mul]; omega
theorem pow_even (m n i : Nat) (h : (n / 2 ^ i) % 2 = 0) : m ^ (n / 2 ^ i) = m ^ (n / 2 ^ (i + 1)) * m ^ (n / 2 ^ (i + 1)) := by
  rw [← Nat.pow_add]; congr 1; have := half_step n i; omega
theorem pow_odd (m n i : Nat) (h : (n / 2 ^ i) % 2 = 1) : m ^ (n / 2 ^ i) = m ^ (n / 2 ^ (i + 1)) * m ^ (n / 2 ^ (i + 1)) * m := by
  rw [← Nat.pow_add, ← Nat.pow_succ]; congr 1; have := half_step n i; omega
theorem bitLen_ok (n : Nat) (hn : n ≤ 9223372036854775807) : Lib.bitLen n ≤ 64 ∧ n / 2 ^ Lib.bitLen n = 0 := by
  by_cases h0 : n = 0
  · subst h0
    exact ⟨by decide, by simp⟩
  · obtain ⟨h1, h2, h3⟩ := Lib.bitLenAux_bounds 64 n (by omega) h0
    have e : Lib.bitLen n = Lib.bitLenAux 64 n := rfl
    rw [e]
    refine ⟨?_, Nat.div_eq_of_lt (by simpa using h3)⟩
    apply Decidable.byContradiction
    intro hc
    have h4 : 2 ^ 64 ≤ 2 ^ (Lib.bitLenAux 64 n - 1) := Nat.pow_le_pow_right (by decide) (by omega)
    omega
theorem and_one' (x : Int) : bits .and .i64 x 1 = x % 2 := by
  have h1 : (BitVec.ofInt 64 1).toNat = 2 ^ 1 - 1 := by decide
  have key : (BitVec.ofInt 64 x &&& BitVec.ofInt 64 1).toNat = (x % ((2 ^ 64 : Nat) : Int)).toNat % 2 ^ 1 := by
    rw [BitVec.toNat_and, BitVec.toNat_ofInt, h1, Nat.and_two_pow_sub_one_eq_mod]
  show IntKind.i64.wrap ((BitVec.ofInt 64 x &&& BitVec.ofInt 64 1).toNat : Nat) = x % 2
  rw [key, IntKind.wrap_i64]
  omega
theorem and_one (n j : Nat) : bits BinOp.and IntKind.i64 ((n : Int) / 2 ^ j) 1 = (((n / 2 ^ j) % 2 : Nat) : Int) := by
  rw [and_one']
  push_cast
  rfl
theorem bigPow_any (x : Value) (m n k : Nat) (w : World) (hx : IsBig w x m) (hn : n ≤ 9223372036854775807) (hk1 : 1 ≤ k) (hk : k ≤ 1000000) (hP : m ^ n < 1000000000 ^ k) (hm : m < 1000000000 ^ k) :
    Calls Tryz.prog 123 #[x, .int .i64 (n : Int)] w fun e w' => ∃ a l c, e = .returned (.agg #[.slice a l c]) ∧ IsBig w' (.agg #[.slice a l c]) (m ^ n) ∧ Below w.heap.size w w' := by
  obtain ⟨xa, xn, xc, rfl⟩ := hx.shape
  have HX := hide hx
  have HP := hide hP
  have HM := hide hm
  have H92 := hide (fun W => Tryz.bits_Len (n : Int) W (by omega) (by omega))
  clear hx hP hm
  obtain ⟨hL, hL0⟩ := bitLen_ok n hn
  have e9 : ((n : Int)).toNat = n := by simp
  rw [e9] at H92
  clear e9
  generalize Lib.bitLen n = L at *
  have HL0 := hide hL0
  clear hL0
  go_enter Tryz.func123, Tryz.ntmps123
  go_wp2_with (first
    | (go_at_call 73; refine (bigOf_any 1 _ (by decide)).mono ?_; rintro e w2 ⟨ba, bn, bc, rfl, hbig, hb2⟩; have HBIG := hide hbig; clear hbig)
    | (go_at_call 171; refine (unhide H92 _).mono ?_; rintro e w' ⟨rfl, rfl⟩))
  have hs2 : w.heap.size + 2 ≤ w2.heap.size := by have := hb2.size; simpa using this
  have hc0 : w2.cell? ⟨w.heap.size, 0, none⟩ = some (.slice xa xn xc) := by rw [hb2.cell (p := ⟨w.heap.size, 0, none⟩) (by simp; omega)]; simp
  have hc1 : w2.cell? ⟨w.heap.size + 1, 0, none⟩ = some (.slice none 0 0) := by rw [hb2.cell (p := ⟨w.heap.size + 1, 0, none⟩) (by simp)]; simp
  have hf1 : w2.frozen? ⟨w.heap.size + 1, 0, none⟩ = false := by rw [hb2.frozen (p := ⟨w.heap.size + 1, 0, none⟩) (by simp)]; simp
  have hbw : Below w.heap.size w w2 := (((Below.refl _ _).alloc (Nat.le_refl _) _).alloc (by simp) _).trans (hb2.mono (by simp; omega))
  have HX2 := hide ((unhide HX).later hbw)
  go_loopw [6] (fun t wr => ∃ (i : Nat) (pa : Option Addr) (pn pc : Nat), i ≤ 64 ∧ t = .int .i64 ((i : Int) - 1) ∧ wr.cell? ⟨w2.heap.size, 0, none⟩ = some (.slice pa pn pc) ∧ wr.frozen? ⟨w2.heap.size, 0, none⟩ = false ∧ Hid (IsBig wr (.agg #[.slice pa pn pc]) (m ^ (n / 2 ^ i))) ∧ Below w2.heap.size w2 wr) (fun t _ => (intOf t + 1).toNat)
  case atStart => exact ⟨L, ba, bn, bc, hL, by go_num, World.cell?_alloc_at _ _ _ _ rfl, World.frozen?_alloc_at _ _ _ _ rfl, by rw [unhide HL0]; exact (unhide HBIG).later ((Below.refl _ _).alloc (Nat.le_refl _) _), (Below.refl _ _).alloc (Nat.le_refl _) _⟩
  case round =>
    obtain ⟨i, pa, pn, pc, hi, rfl, hcell, hfr, HB, hbl⟩ := hrel
    by_cases h0 : 0 < i
    · obtain ⟨j, rfl⟩ : ∃ j, i = j + 1 := ⟨i - 1, by omega⟩
      have e6 : ((j + 1 : Nat) : Int) - 1 = (j : Int) := by omega
      rw [e6]
      clear e6
      have h1 : 1 < 1000000000 ^ k := Nat.one_lt_pow (by omega) (by decide)
      have hst := half_step n j
      have hdl : n / 2 ^ j ≤ n := Nat.div_le_self _ _
      have B1 := powLt m n (n / 2 ^ (j + 1)) _ (by omega) (unhide HP) h1
      have B2 : m ^ (n / 2 ^ (j + 1)) * m ^ (n / 2 ^ (j + 1)) < 1000000000 ^ k := by rw [← Nat.pow_add]; exact powLt m n _ _ (by omega) (unhide HP) h1
      have HE := hide (pow_even m n j)
      have HO := hide (pow_odd m n j)
      generalize m ^ (n / 2 ^ (j + 1)) = Q at *
      have H1 := hide (fun W v (hv : IsBig W v Q) => mulB v v Q Q (Q * Q) k W hv hv hk B1 B1 rfl)
      have H2 := hide (fun W v x (hv : IsBig W v (Q * Q)) (hx : IsBig W x m) => mulB v x (Q * Q) m (Q * Q * m) k W hv hx hk B2 (unhide HM) rfl)
      clear B1 B2 h1 hst hdl
      have hg : w2.heap.size < wr.heap.size := World.block_lt_of_cell? _ _ hcell
      have hc0r := (hbl.cell (p := ⟨w.heap.size, 0, none⟩) (by simp; omega)).trans hc0
      have hand := and_one n j
      by_cases hbit : (n / 2 ^ j) % 2 = 1
      · rw [hbit] at hand
        rw [← unhide HO hbit] at H2
        go_wp2_with (first
          | (go_at_call_of 99 (Value.agg #[Value.slice pa pn pc]); refine (unhide H1 _ _ (unhide HB)).mono ?_; rintro e w3 ⟨ya, yn, yc, rfl, hy, hb3⟩; have HY := hide (hy.box (.slice ya yn yc) (box_later hb3 hg hcell hfr).1 (no_int _ _ _)); clear hy; obtain ⟨hcell3, hfr3⟩ := box_later hb3 hg hcell hfr; have hcell4 := World.cell?_setCell_same w3 ⟨w2.heap.size, 0, none⟩ (.slice ya yn yc) hcell3; have hfr4 : (w3.setCell ⟨w2.heap.size, 0, none⟩ (.slice ya yn yc)).frozen? ⟨w2.heap.size, 0, none⟩ = false := by rw [World.frozen?_setCell]; exact hfr3
             have hb4 : Below w2.heap.size w2 (w3.setCell ⟨w2.heap.size, 0, none⟩ (.slice ya yn yc)) := (hbl.trans (hb3.mono hbl.size)).setCell (Nat.le_refl _) _
             have hc04 := (hb4.cell (p := ⟨w.heap.size, 0, none⟩) (by simp; omega)).trans hc0)
          | (go_at_call_of 99 (Value.agg #[Value.slice xa xn xc]); refine (unhide H2 _ _ _ (unhide HY) ((unhide HX2).later hb4)).mono ?_; rintro e w5 ⟨za, zn, zc, rfl, hz, hb5⟩; obtain ⟨hcell5, hfr5⟩ := box_later hb5 (World.block_lt_of_cell? _ _ hcell4) hcell4 hfr4; have HZ := hide (hz.box (.slice za zn zc) hcell5 (no_int _ _ _)); clear hz))
        go_roundw
        case rel => exact ⟨j, za, zn, zc, by omega, by go_num, World.cell?_setCell_same _ _ _ hcell5, by rw [World.frozen?_setCell]; exact hfr5, HZ, (hb4.trans (hb5.mono hb4.size)).setCell (Nat.le_refl _) _⟩
        case measure => simp [intOf]
      · have hbit0 : (n / 2 ^ j) % 2 = 0 := by omega
        rw [hbit0] at hand
        rw [← unhide HE hbit0] at H1
        go_wp2_with (first
          | (go_at_call_of 99 (Value.agg #[Value.slice pa pn pc]); refine (unhide H1 _ _ (unhide HB)).mono ?_; rintro e w3 ⟨ya, yn, yc, rfl, hy, hb3⟩; have HY := hide (hy.box (.slice ya yn yc) (box_later hb3 hg hcell hfr).1 (no_int _ _ _)); clear hy; obtain ⟨hcell3, hfr3⟩ := box_later hb3 hg hcell hfr))
        go_roundw
        case rel => exact ⟨j, ya, yn, yc, by omega, by go_num, World.cell?_setCell_same _ _ _ hcell3, by rw [World.frozen?_setCell]; exact hfr3, HY, (hbl.trans (hb3.mono hbl.size)).setCell (Nat.le_refl _) _⟩
        case measure => simp [intOf]
    · have hi0 : i = 0 := by omega
      subst hi0
      have HB' : Hid (IsBig wr (.agg #[.slice pa pn pc]) (m ^ n)) := by have := unhide HB; rw [Nat.pow_zero, Nat.div_one] at this; exact this
      have hc1r := (hbl.cell (p := ⟨w.heap.size + 1, 0, none⟩) (by simp; omega)).trans hc1
      have hf1r := (hbl.frozen (p := ⟨w.heap.size + 1, 0, none⟩) (by simp; omega)).trans hf1
      go_wp2
      refine bodyPost_ret (v := .agg #[.slice pa pn pc]) (by simp [results, Tryz.results123, go_sem, hc1r]) rfl ⟨_, _, _, rfl, ?_, ?_⟩
      · exact (unhide HB').box _ hc1r (no_int _ _ _)
      · exact (hbw.trans (hbl.mono (by omega))).setCell (by simp) _
end Go.Proofs.YtijifpbpjinmhaaGreatDoor
namespace Go.Proofs.YtijifpbpjinmhaaGreatDoor
section
variable {P : Program} {ops : Array Oper} {Q : Exit → Act → World → Prop} {md : Region.Mode} {S S7 : World → Prop} {k : Nat}
/-- What stands once these have come. -/
def Inv (k : Nat) (S S7 : World → Prop) (l : Array Bool) (w : World) : Prop := (l.getD k false = false → S w) ∧ S7 w
/-- Whatever order: what stands does so behind each operation. -/
def wpR (P : Program) (md : Region.Mode) (ops : Array Oper) (Q : Exit → Act → World → Prop) (k : Nat) (S S7 : World → Prop) : Nat → Array Bool → Act → World → Prop
  | 0, l, a, w => Region.ready md ops l = [] ∧ Q .normal a w
  | n + 1, l, a, w => (Region.ready md ops l = [] → Q .normal a w) ∧ ∀ j ∈ Region.ready md ops l, wpOp P ops Q j (fun a' w' => Inv k S S7 (l.setIfInBounds j true) w' ∧ wpR P md ops Q k S S7 n (l.setIfInBounds j true) a' w') a w
theorem wpR_any : ∀ (n : Nat) (l : Array Bool) (a : Act) (w : World), wpR P md ops Q k S S7 n l a w → wpAny P md ops Q n l a w
  | 0, _, _, _, h => h
  | n + 1, _, _, _, h => ⟨h.1, fun j hj => wpOp_mono (fun a' w' h' => wpR_any n _ a' w' h'.2) (h.2 j hj)⟩
/-- What has come, came behind all that it waits for. -/
def Closed (md : Region.Mode) (ops : Array Oper) (l : Array Bool) : Prop := ∀ (j : Nat) (o : Oper), ops[j]? = some o → l.getD j false = true → ∀ e ∈ o.after, Region.binds md e = true → l.getD e.on false = true
theorem Closed.step {l : Array Bool} {j : Nat} (h : Closed md ops l) (hj : j ∈ Region.ready md ops l) : Closed md ops (l.setIfInBounds j true) := by
  obtain ⟨_, o, ho, hall⟩ := mem_ready.1 hj
  intro q oq hq hl e he hb
  rcases Decidable.em (j = q) with rfl | hne
  · obtain rfl : o = oq := Option.some.inj (ho.symm.trans hq)
    exact getD_set_true (hall e he hb)
  · rw [getD_set_ne false hne] at hl
    exact getD_set_true (h q oq hq hl e he hb)
def closedB (md : Region.Mode) (ops : Array Oper) (l : Array Bool) : Bool :=
  (List.range ops.size).all fun j => !l.getD j false || match ops[j]? with
    | some o => o.after.all fun e => !Region.binds md e || l.getD e.on false
    | none => true
theorem closed_of {l : Array Bool} (h : closedB md ops l = true) : Closed md ops l := by
  intro j o ho hl e he hb
  unfold closedB at h
  have h1 := List.all_eq_true.1 h j (List.mem_range.2 (Array.getElem?_eq_some_iff.1 ho).1)
  simp only [ho, hl, Bool.not_true, Bool.false_or] at h1
  have h2 := Array.all_eq_true_iff_forall_mem.1 h1 e he
  simpa [hb] using h2
/-- Does operation k wait for this one? -/
def waits (md : Region.Mode) (ops : Array Oper) (k i : Nat) : Bool := match ops[k]? with
  | some o => o.after.any fun e => Region.binds md e && e.on == i
  | none => true
theorem unlisted {l : Array Bool} {i : Nat} {b : Bool} (h : l.getD i true = false) (h1 : l.getD i b = true) : False := by
  rcases Nat.lt_or_ge i l.size with h2 | h2
  · simp [h2] at h h1; rw [h] at h1; cases h1
  · simp [Array.getElem?_eq_none h2] at h
theorem not_yet {i : Nat} {l : Array Bool} (hc : Closed md ops l) (hz : l.size = ops.size) (hw : waits md ops k i = true) (hi : l.getD i true = false) : l.getD k false = false := by
  cases hl : l.getD k false with
  | false => rfl
  | true =>
    exfalso
    unfold waits at hw
    cases ho : ops[k]? with
    | none =>
      have : ops.size ≤ k := Array.getElem?_eq_none_iff.1 ho
      have h2 : l[k]? = none := Array.getElem?_eq_none (by omega)
      simp [h2] at hl
    | some o =>
      simp only [ho] at hw
      obtain ⟨e, he, h2⟩ := Array.any_eq_true'.1 hw
      simp only [Bool.and_eq_true, beq_iff_eq] at h2
      have h3 := hc k o ho hl e he h2.1
      rw [h2.2] at h3
      exact unlisted hi h3
theorem Inv.set {l : Array Bool} {w : World} {i : Nat} (h : Inv k S S7 l w) (hne : i ≠ k) : Inv k S S7 (l.setIfInBounds i true) w := ⟨fun h0 => h.1 (by rwa [getD_set_ne false hne] at h0), h.2⟩
theorem wpR_first {i : Nat} {oi : Oper} {v : Value} {T : World → Prop} (hi : ops[i]? = some oi) (hs : Region.noSelect ops = true) (hik : i ≠ k)
    (hT : ∀ (l : Array Bool) (w : World), Closed md ops l → l.size = ops.size → l.getD i true = false → Inv k S S7 l w → T w)
    (hQ : ∀ c a w, Q (.panic c) (a.put oi.dst v) w → Q (.panic c) a w) (n : Nat) :
    ∀ (l : Array Bool) (a : Act) (w : World), Closed md ops l → l.size = ops.size → (∀ j oj, ops[j]? = some oj → j ≠ i → l.getD j true = false → (∀ e ∈ oj.after, Region.binds md e = true → e.on ≠ i) → oi.apart ops oj = true) →
      i ∈ Region.ready md ops l → YieldsIf P ops T oi v a → Inv k S S7 l w → wpR P md ops Q k S S7 n (l.setIfInBounds i true) (a.put oi.dst v) w → wpR P md ops Q k S S7 (n + 1) l a w := by
  have hsel := Region.noSelect_spec hs
  induction n with
  | zero =>
    intro l a w hc hz _ hr hy hS H
    refine ⟨fun h => absurd hr (by rw [h]; simp), fun j hj => ?_⟩
    rcases Decidable.em (j = i) with rfl | hne
    · exact hy.wpOp hi (hT l w hc hz (mem_ready.1 hr).1 hS) ⟨hS.set hik, H⟩
    · have := ready_mono hj hne
      rw [H.1] at this
      exact absurd this (by simp)
  | succ n ih =>
    intro l a w hc hz hfree hr hy hS H
    refine ⟨fun h => absurd hr (by rw [h]; simp), fun j hj => ?_⟩
    have hiu := (mem_ready.1 hr).1
    rcases Decidable.em (j = i) with rfl | hne
    · exact hy.wpOp hi (hT l w hc hz hiu hS) ⟨hS.set hik, H⟩
    · obtain ⟨hju, oj, hoj, hall⟩ := mem_ready.1 hj
      have hno : ∀ e ∈ oj.after, Region.binds md e = true → e.on ≠ i := fun e he hb heq => by
        have h1 := hall e he hb
        rw [heq] at h1
        exact unlisted hiu h1
      have h2 := wpOp_putIf hoj (hfree j oj hoj hne hju hno) (fun cs b => hsel i oi cs b hi) (fun cs b => hsel j oj cs b hoj) hQ hy (H.2 j (ready_mono hj hne))
      refine wpOp_mono (fun a' w' q => ?_) h2
      obtain ⟨q1, q2, q3⟩ := q
      rw [Array.setIfInBounds_comm _ _ (Ne.symm hne)] at q2 q3
      have hI : Inv k S S7 (l.setIfInBounds j true) w' := ⟨fun h0 => q2.1 (by rwa [getD_set_ne false hik]), q2.2⟩
      refine ⟨hI, ih (l.setIfInBounds j true) a' w' (hc.step hj) (by rw [Array.size_setIfInBounds]; exact hz) (fun q oq hq hqi hun hn => hfree q oq hq hqi ?_ hn) (ready_mono hr (Ne.symm hne)) q1 hI q3⟩
      rcases Decidable.em (j = q) with rfl | hjq
      · exact hju
      · rwa [getD_set_ne true hjq] at hun
/-- A read that store k waits for. -/
theorem wpR_take {i : Nat} {oi : Oper} {v : Value} {n : Nat} {l : Array Bool} {a : Act} {w : World} (hi : ops[i]? = some oi)
    (hs : Region.noSelect ops = true) (hw : (waits md ops k i && closedB md ops l && (l.size == ops.size) && (i != k)) = true) (hf : Region.free md ops l i = true) (hr : (Region.ready md ops l).contains i = true)
    (hQ : ∀ c a w, Q (.panic c) (a.put oi.dst v) w → Q (.panic c) a w) (hy : YieldsIf P ops S oi v a) (hS : S w ∧ S7 w)
    (h : wpR P md ops Q k S S7 n (l.setIfInBounds i true) (a.put oi.dst v) w) : wpR P md ops Q k S S7 (n + 1) l a w := by
  simp only [Bool.and_eq_true, beq_iff_eq, bne_iff_ne, ne_eq] at hw
  obtain ⟨⟨⟨w1, w2⟩, w3⟩, w4⟩ := hw
  exact wpR_first hi hs w4 (fun l' w' hc hz hu hI => hI.1 (not_yet hc hz w1 hu)) hQ n l a w (closed_of w2) w3 (Region.free_spec hi hf) (by simpa using hr) hy ⟨fun _ => hS.1, hS.2⟩ h
/-- A read that nothing disturbs. -/
theorem wpR_take7 {i : Nat} {oi : Oper} {v : Value} {n : Nat} {l : Array Bool} {a : Act} {w : World} (hi : ops[i]? = some oi)
    (hs : Region.noSelect ops = true) (hw : (closedB md ops l && (l.size == ops.size) && (i != k)) = true) (hf : Region.free md ops l i = true) (hr : (Region.ready md ops l).contains i = true)
    (hQ : ∀ c a w, Q (.panic c) (a.put oi.dst v) w → Q (.panic c) a w) (hy : YieldsIf P ops S7 oi v a) (hS : S w ∧ S7 w)
    (h : wpR P md ops Q k S S7 n (l.setIfInBounds i true) (a.put oi.dst v) w) : wpR P md ops Q k S S7 (n + 1) l a w := by
  simp only [Bool.and_eq_true, beq_iff_eq, bne_iff_ne, ne_eq] at hw
  obtain ⟨⟨w2, w3⟩, w4⟩ := hw
  exact wpR_first hi hs w4 (fun l' w' hc hz hu hI => hI.2) hQ n l a w (closed_of w2) w3 (Region.free_spec hi hf) (by simpa using hr) hy ⟨fun _ => hS.1, hS.2⟩ h
theorem wpR_op {i : Nat} {o : Oper} {n : Nat} {l : Array Bool} {a : Act} {w : World} (hr : Region.ready md ops l = [i]) (ho : ops[i]? = some o) (hg : o.guard = none)
    (h : ∀ K : Act → World → Prop, (∀ a' w', S w' ∧ S7 w' → wpR P md ops Q k S S7 n (l.setIfInBounds i true) a' w' → K a' w') → Oper.wp P o a w K Q) : wpR P md ops Q k S S7 (n + 1) l a w := by
  refine ⟨fun h0 => absurd h0 (by rw [hr]; simp), fun j hj => ?_⟩
  rw [hr] at hj
  obtain rfl := List.mem_singleton.1 hj
  unfold wpOp
  simp only [ho]
  have hw : Region.wanted o (yielded ops a.tmps) = true := by simp [Region.wanted, hg]
  rw [if_pos hw]
  exact Or.inl (h _ fun a' w' h1 h2 => ⟨⟨fun _ => h1.1, h1.2⟩, h2⟩)
/-- Store k, or one behind it. -/
theorem wpR_late {i : Nat} {o : Oper} {n : Nat} {l : Array Bool} {a : Act} {w : World} (hr : Region.ready md ops l = [i]) (ho : ops[i]? = some o) (hg : o.guard = none) (hl : (l.setIfInBounds i true).getD k false = true)
    (h : ∀ K : Act → World → Prop, (∀ a' w', S7 w' → wpR P md ops Q k S S7 n (l.setIfInBounds i true) a' w' → K a' w') → Oper.wp P o a w K Q) : wpR P md ops Q k S S7 (n + 1) l a w := by
  refine ⟨fun h0 => absurd h0 (by rw [hr]; simp), fun j hj => ?_⟩
  rw [hr] at hj
  obtain rfl := List.mem_singleton.1 hj
  unfold wpOp
  simp only [ho]
  have hw : Region.wanted o (yielded ops a.tmps) = true := by simp [Region.wanted, hg]
  rw [if_pos hw]
  exact Or.inl (h _ fun a' w' h1 h2 => ⟨⟨fun h0 => (by rw [hl] at h0; cases h0), h1⟩, h2⟩)
theorem wpR_done {n : Nat} {l : Array Bool} {a : Act} {w : World} (hr : Region.ready md ops l = []) (h : Q .normal a w) : wpR P md ops Q k S S7 n l a w := by
  cases n with
  | zero => exact ⟨hr, h⟩
  | succ n => exact ⟨fun _ => h, by rw [hr]; simp⟩
theorem region_reads {id : Nat} {a : Act} {w : World} (k : Nat) (S S7 : World → Prop) (n : Nat) (hn : ops.size = n) (hm : P.follows .mixedOrders = true)
    (h : wpR P .any ops Q k S S7 n (Array.replicate n false) a w.drew) : (Code.region id ops true).wp P Q a w := by
  subst hn
  exact wp_region_any hm (wpR_any _ _ _ _ h)
end
section
variable {P : Program} {ops : Array Oper} {Q : Exit → Act → World → Prop} {md : Region.Mode} {S S7 : World → Prop} {k : Nat}
/-- One of those that may come. -/
theorem wpR_some {n : Nat} {l : Array Bool} {a : Act} {w : World} (rs : List Nat) (hr : Region.ready md ops l = rs) (hne : rs ≠ [])
    (h : ∀ i ∈ rs, ∃ o, ops[i]? = some o ∧ o.guard = none ∧ ∀ K : Act → World → Prop, (∀ a' w', S w' ∧ S7 w' → wpR P md ops Q k S S7 n (l.setIfInBounds i true) a' w' → K a' w') → Oper.wp P o a w K Q) : wpR P md ops Q k S S7 (n + 1) l a w := by
  refine ⟨fun h0 => absurd (hr.symm.trans h0) hne, fun j hj => ?_⟩
  rw [hr] at hj
  obtain ⟨o, ho, hg, hs⟩ := h j hj
  unfold wpOp
  simp only [ho]
  have hw : Region.wanted o (yielded ops a.tmps) = true := by simp [Region.wanted, hg]
  rw [if_pos hw]
  exact Or.inl (hs _ fun a' w' h1 h2 => ⟨⟨fun _ => h1.1, h1.2⟩, h2⟩)
theorem wpR_two {i j n : Nat} {oi oj : Oper} {l : Array Bool} {a : Act} {w : World} (hr : Region.ready md ops l = [i, j]) (hi : ops[i]? = some oi) (gi : oi.guard = none) (hj : ops[j]? = some oj) (gj : oj.guard = none)
    (si : ∀ K : Act → World → Prop, (∀ a' w', S w' ∧ S7 w' → wpR P md ops Q k S S7 n (l.setIfInBounds i true) a' w' → K a' w') → Oper.wp P oi a w K Q)
    (sj : ∀ K : Act → World → Prop, (∀ a' w', S w' ∧ S7 w' → wpR P md ops Q k S S7 n (l.setIfInBounds j true) a' w' → K a' w') → Oper.wp P oj a w K Q) : wpR P md ops Q k S S7 (n + 1) l a w := by
  refine wpR_some [i, j] hr (by simp) fun q hq => ?_
  rcases List.mem_cons.1 hq with rfl | hq
  · exact ⟨oi, hi, gi, si⟩
  · obtain rfl := List.mem_singleton.1 hq
    exact ⟨oj, hj, gj, sj⟩
end
end Go.Proofs.YtijifpbpjinmhaaGreatDoor
namespace Go.Proofs.YtijifpbpjinmhaaGreatDoor
open Go.RowKit
structure UB (W : World) (g : Nat) (vs : Array Value) : Prop where
  lt : g < W.heap.size
  c : ∀ i v, vs[i]? = some v → W.cell? ⟨g, i, none⟩ = some v
  f : ∀ i v, vs[i]? = some v → W.frozen? ⟨g, i, none⟩ = false
/-- A block that holds just these cells. -/
def OwnU (W : World) (g ty : Nat) (vs : Array Value) : Prop := W.heap[g]? = some (.cells vs ty (0, 0))
theorem OwnU.lt {W : World} {g ty : Nat} {vs : Array Value} (h : OwnU W g ty vs) : g < W.heap.size := (Array.getElem?_eq_some_iff.1 h).1
theorem OwnU.ub {W : World} {g ty : Nat} {vs : Array Value} (h : OwnU W g ty vs) : UB W g vs := by
  have hl := h.lt
  unfold OwnU at h
  exact ⟨hl, fun i v e => by simp [World.cell?, h, e], fun i v e => by simp [World.frozen?, h]⟩
theorem OwnU.alloc {W : World} {g ty : Nat} {vs : Array Value} (h : OwnU W g ty vs) (o : Obj) : OwnU (W.alloc o) g ty vs := (Below.heap_alloc W o g h.lt).trans h
theorem OwnU.later {W V : World} {g ty : Nat} {vs : Array Value} (h : OwnU W g ty vs) (hb : Below W.heap.size W V) : OwnU V g ty vs := (hb.block g h.lt).trans h
theorem OwnU.new (W : World) (vs : Array Value) (ty : Nat) : OwnU (W.alloc (.cells vs ty)) W.heap.size ty vs := heap_alloc_new W _
theorem OwnU.setRow {W : World} {g ty : Nat} {vs : Array Value} (h : OwnU W g ty vs) (us : Array Value) : OwnU (W.setRow g us) g ty us := setRow_heap W g _ _ ty (0, 0) h
theorem OwnU.other {W : World} {g k ty : Nat} {vs : Array Value} (h : OwnU W g ty vs) (hk : g ≠ k) (us : Array Value) : OwnU (W.setRow k us) g ty vs := (setRow_other W k g us hk).trans h
theorem OwnU.set1 {W : World} {g ty : Nat} {v : Value} (h : OwnU W g ty #[v]) (u : Value) : W.setCell ⟨g, 0, none⟩ u = W.setRow g #[u] := setCell_eq_setRow W g 0 _ _ _ u h
theorem storeT {ops : Array Oper} {rest : List Oper} {o : Oper} {a : Act} {w : World} {Q : Exit → Act → World → Prop} (ty sz : Nat) (hinfo : (Tryz.prog.info? ty).map (·.size) = some sz) (hgd : o.guard = none) (x y : Operand) (ho : o.op = .store ty x y)
    (g : Nat) (vs us : Array Value) (hv : vs.size = sz) (hu : us.size = sz) (hx : a.eval x = .pointer (some ⟨g, 0, none⟩)) (hy : a.eval y = .agg us) (hg : OwnU w g ty vs) (h1 : us.all (·.oneCell') = true)
    (h : wpList Tryz.prog ops Q rest (a.put o.dst undef) (w.setRow g us)) : wpList Tryz.prog ops Q (o :: rest) a w :=
  wpList_store_row hgd ty x y ho g us hx hy ty _ hg (by rw [hinfo, hu]) (by rw [hv, hu]) h1 h
theorem results_cell1 {fn : Func} {p : Tmp} {ty : TypeId} (h : fn.results = #[.cell p ty]) (tmps : Array Value) (P : Program) (w : World) :
    (results fn tmps).run P w = ((asAddr (tmps.getD p undef)).run P w).andThen fun a w' => (loadVar ty a).run P w' := by
  simp [results, h, go_sem]
theorem albel (W : World) (o : Obj) : Below W.heap.size W (W.alloc o) := (Below.refl _ _).alloc (Nat.le_refl _) _
theorem Row.setRow {w : World} {v : Value} {l : List Nat} (h : Row w v l) {g ty : Nat} {vs : Array Value} (ho : OwnU w g ty vs) (hn : ∀ (i : Nat) x, vs[i]? = some x → ∀ k n, x ≠ .int k n) (us : Array Value) : Row (w.setRow g us) v l := by
  obtain ⟨a, cap, rfl, hc, hm, hr⟩ := h
  refine ⟨a, cap, rfl, hc, hm, fun h0 => ?_⟩
  obtain ⟨b, o, rfl, hlt, hcell⟩ := hr h0
  have hb : b ≠ g := by
    rintro rfl
    have h1 := hcell 0 (List.length_pos_iff.2 h0)
    unfold OwnU at ho
    simp only [World.cell?, ho] at h1
    exact hn _ _ h1 _ _ rfl
  exact ⟨b, o, rfl, by simpa using hlt, fun i hi => by rw [cell_setRow_other _ _ _ _ hb]; exact hcell i hi⟩
theorem IsBig.setRow {w : World} {v : Value} {m : Nat} (h : IsBig w v m) {g ty : Nat} {vs : Array Value} (ho : OwnU w g ty vs) (hn : ∀ (i : Nat) x, vs[i]? = some x → ∀ k n, x ≠ .int k n) (us : Array Value) : IsBig (w.setRow g us) v m := by
  obtain ⟨s, l, rfl, hr, hl, hv⟩ := h
  exact ⟨s, l, rfl, hr.setRow ho hn us, hl, hv⟩
theorem nints1 (s : Value) (hs : ∀ k n, s ≠ .int k n) : ∀ (i : Nat) x, (#[s] : Array Value)[i]? = some x → ∀ k n, x ≠ .int k n
  | 0, _, h => by cases h; exact hs
  | i + 1, _, h => by simp at h
theorem nints2 (s t : Value) (hs : ∀ k n, s ≠ .int k n) (ht : ∀ k n, t ≠ .int k n) : ∀ (i : Nat) x, (#[s, t] : Array Value)[i]? = some x → ∀ k n, x ≠ .int k n
  | 0, _, h => by cases h; exact hs
  | 1, _, h => by cases h; exact ht
  | i + 2, _, h => by simp at h
/-- A size holds a numerator and a denominator. -/
def IsSz (w : World) (v : Value) (p q : Nat) : Prop := ∃ a1 l1 c1 a2 l2 c2, v = .agg #[.slice a1 l1 c1, .slice a2 l2 c2] ∧ IsBig w (.agg #[.slice a1 l1 c1]) p ∧ IsBig w (.agg #[.slice a2 l2 c2]) q
theorem IsSz.mk {w : World} {a1 a2 : Option Addr} {l1 c1 l2 c2 p q : Nat} (h1 : IsBig w (.agg #[.slice a1 l1 c1]) p) (h2 : IsBig w (.agg #[.slice a2 l2 c2]) q) : IsSz w (.agg #[.slice a1 l1 c1, .slice a2 l2 c2]) p q := ⟨_, _, _, _, _, _, rfl, h1, h2⟩
section
variable {P : Program} {ops : Array Oper} {Q : Exit → Act → World → Prop} {md : Region.Mode} {S S7 : World → Prop} {k : Nat}
theorem wpR_three {i j m n : Nat} {oi oj om : Oper} {l : Array Bool} {a : Act} {w : World} (hr : Region.ready md ops l = [i, j, m]) (hi : ops[i]? = some oi) (gi : oi.guard = none) (hj : ops[j]? = some oj) (gj : oj.guard = none) (hm : ops[m]? = some om) (gm : om.guard = none)
    (si : ∀ K : Act → World → Prop, (∀ a' w', S w' ∧ S7 w' → wpR P md ops Q k S S7 n (l.setIfInBounds i true) a' w' → K a' w') → Oper.wp P oi a w K Q)
    (sj : ∀ K : Act → World → Prop, (∀ a' w', S w' ∧ S7 w' → wpR P md ops Q k S S7 n (l.setIfInBounds j true) a' w' → K a' w') → Oper.wp P oj a w K Q)
    (sm : ∀ K : Act → World → Prop, (∀ a' w', S w' ∧ S7 w' → wpR P md ops Q k S S7 n (l.setIfInBounds m true) a' w' → K a' w') → Oper.wp P om a w K Q) : wpR P md ops Q k S S7 (n + 1) l a w := by
  refine wpR_some [i, j, m] hr (by simp) fun q hq => ?_
  rcases List.mem_cons.1 hq with rfl | hq
  · exact ⟨oi, hi, gi, si⟩
  · rcases List.mem_cons.1 hq with rfl | hq
    · exact ⟨oj, hj, gj, sj⟩
    · obtain rfl := List.mem_singleton.1 hq
      exact ⟨om, hm, gm, sm⟩
end
end Go.Proofs.YtijifpbpjinmhaaGreatDoor

/- rat.cutParts of the text of chapter 2's example. -/
import Derived.Test.YtifalmdoligblaaGreatDoorTimes
import Derived.Test.YtifalmdoligblaaGreatDoorDivMod
import Derived.Test.YtifalmdoligblaaGreatDoorLong2
import Derived.Test.YtifalmdoligblaaGreatDoorWhole
import Derived.Deep.RegionHeld3
import Derived.Test.YtifalmdoligblaaGreatDoorOne
namespace Go.Proofs.YtifalmdoligblaaGreatDoor
open Go.RowKit

theorem divAns (k : Nat) (hk : k ≤ 100000) : DivAns k := fun W x y m n hx hy hm hn =>
  divMod_core x y m n k W hx hy (by omega) hm hn (fun h1 h2 => long_any m n k (by omega) hm h1 h2)
theorem divOK (k : Nat) (hk : k ≤ 100000) : DivOK k := divAns k hk
theorem gcdAns (k : Nat) (hk : k ≤ 100000) : GcdAns k := fun W x y m n hx hy hm hn => gcd_any x y m n k W hx hy hk hm hn (divOK k hk)
/-- A Frac that holds a number in its one form, its parts below 1000000000 ^ k. -/
def QOf (w : World) (v : Value) (x : Rat) (k : Nat) : Prop := ∃ b n d, IsFrac w v b n d ∧ Cub.Low b n d ∧ Cub.valQ b n d = x ∧ n < 1000000000 ^ k ∧ d < 1000000000 ^ k
theorem QOf.later {w w' : World} {v : Value} {x : Rat} {k : Nat} (h : QOf w v x k) (hb : Below w.heap.size w w') : QOf w' v x k := by
  obtain ⟨b, n, d, h1, h2⟩ := h
  exact ⟨b, n, d, h1.later hb, h2⟩
theorem QOf.mono {w : World} {v : Value} {x : Rat} {k j : Nat} (h : QOf w v x k) (hk : k ≤ j) : QOf w v x j := by
  obtain ⟨b, n, d, h1, h2, h3, h4, h5⟩ := h
  have : (1000000000 : Nat) ^ k ≤ 1000000000 ^ j := Nat.pow_le_pow_right (by decide) hk
  exact ⟨b, n, d, h1, h2, h3, by omega, by omega⟩
theorem QOf.form {w : World} {v : Value} {x : Rat} {k : Nat} (h : QOf w v x k) : ∃ b a1 l1 c1 a2 l2 c2, v = .agg #[.bool b, .slice a1 l1 c1, .slice a2 l2 c2] := by
  obtain ⟨b, n, d, h1, _⟩ := h
  obtain ⟨a1, l1, c1, a2, l2, c2, rfl, _, _⟩ := h1.form
  exact ⟨b, a1, l1, c1, a2, l2, c2, rfl⟩

theorem qcmp (x y : Value) (p q : Rat) (k : Nat) (w : World) (hx : QOf w x p k) (hy : QOf w y q k) (hk : k ≤ 100000) :
    Calls Tryz.prog 110 #[x, y] w fun r w' => r = .returned (.int .i64 (Cub.cmpQ p q)) ∧ Below w.heap.size w w' := by
  obtain ⟨b, n, d, h1, h2, rfl, h4, h5⟩ := hx
  obtain ⟨c, m, e, i1, i2, rfl, i4, i5⟩ := hy
  exact fcmp_any x y b c n d m e k w h1 i1 h2 i2 (by omega) h4 h5 i4 i5
end Go.Proofs.YtifalmdoligblaaGreatDoor

namespace Go.Proofs.YtifalmdoligblaaGreatDoor
open Go.RowKit

theorem QOf.stored {W : World} {g : Nat} {b b' : Bool} {a1 a2 : Option Addr} {l1 c1 l2 c2 : Nat} (h : FBox W g (.bool b) (.slice a1 l1 c1) (.slice a2 l2 c2)) {a3 a4 : Option Addr} {l3 c3 l4 c4 : Nat} {x : Rat} {k : Nat}
    (hv : QOf W (.agg #[.bool b', .slice a3 l3 c3, .slice a4 l4 c4]) x k) : QOf (store3 W g (.bool b') (.slice a3 l3 c3) (.slice a4 l4 c4)) (.agg #[.bool b', .slice a3 l3 c3, .slice a4 l4 c4]) x k := by
  obtain ⟨b0, n, d, ⟨s, t, e, h1, h1'⟩, h2⟩ := hv
  exact ⟨b0, n, d, ⟨s, t, e, h.big _ _ _ h1, h.big _ _ _ h1'⟩, h2⟩

end Go.Proofs.YtifalmdoligblaaGreatDoor

namespace Go.Proofs.YtifalmdoligblaaGreatDoor
open Go.RowKit

/-- Does a - stand ahead? What stands behind it. -/
def isNeg (s : ByteArray) : Bool := s.data.toList.head? == some 45
def digT (s : ByteArray) : ByteArray := if isNeg s then ⟨s.data.toList.tail.toArray⟩ else s
/-- The text of a size with its sign. -/
def sT (b : Bool) (n : Nat) : ByteArray := if b then ⟨#[45]⟩ ++ tb n else tb n
theorem hasPre (l : List UInt8) : Lib.hasPrefix l [45] = (l.head? == some 45) := by
  cases l with
  | nil => rfl
  | cons a t =>
    simp [Lib.hasPrefix, List.isPrefixOf]
    rw [Bool.eq_iff_iff]
    simp
    exact eq_comm
theorem trimPre (l : List UInt8) : Lib.trimPrefix l [45] = if (l.head? == some 45) = true then l.tail else l := by
  unfold Lib.trimPrefix
  rw [hasPre]
  split <;> cases l <;> simp_all
theorem digT_list (s : ByteArray) : (digT s).data.toList = if isNeg s = true then s.data.toList.tail else s.data.toList := by
  unfold digT; split <;> rfl
theorem bytes_ext {s t : ByteArray} (h : s.data.toList = t.data.toList) : s = t := by
  apply ByteArray.ext; exact Array.ext' h
theorem cut_digT (s : ByteArray) : (⟨(Lib.trimPrefix s.data.toList [45]).toArray⟩ : ByteArray) = digT s := by
  apply bytes_ext
  rw [digT_list, mk_list, trimPre]
  rfl
theorem cutSign_any (s : ByteArray) (w : World) :
    Calls Tryz.prog 68 #[.string s] w fun e w' => e = .returned (.tuple #[.bool (isNeg s), .string (digT s)]) ∧ w' = w := by
  have H := hide (Tryz.strings_CutPrefix s ⟨#[45]⟩ w)
  have e1 : Lib.hasPrefix s.data.toList (⟨#[45]⟩ : ByteArray).data.toList = isNeg s := hasPre _
  have e2 : (⟨(Lib.trimPrefix s.data.toList (⟨#[45]⟩ : ByteArray).data.toList).toArray⟩ : ByteArray) = digT s := cut_digT s
  rw [e1, e2] at H
  clear e1 e2
  generalize isNeg s = b at *
  generalize digT s = t at *
  go_enter Tryz.func68, Tryz.ntmps68
  go_wp2_with (go_at_call 126; go_must (refine (unhide H).mono ?_; rintro e w1 ⟨rfl, rfl⟩))
  exact bodyPost_ret (v := .tuple #[.bool b, .string t]) (by simp [results, Tryz.results68, go_sem]) rfl ⟨rfl, rfl⟩
theorem signed_any (b : Bool) (s : ByteArray) (w : World) (hs : s.size ≤ 1000000) :
    Calls Tryz.prog 78 #[.bool b, .string s] w fun e w' => e = .returned (.string (if b then ⟨#[45]⟩ ++ s else s)) ∧ w' = w := by
  cases b with
  | true =>
    have hl : (⟨#[45]⟩ : ByteArray).size = 1 := rfl
    go_enter Tryz.func78, Tryz.ntmps78
    go_wp2
    go_ret
    exact ⟨rfl, rfl⟩
  | false =>
    go_enter Tryz.func78, Tryz.ntmps78
    go_wp2
    go_ret
    exact ⟨rfl, rfl⟩
theorem tb_digs (n : Nat) (h : n < 10 ^ 600) : Cub.digs (tb n).data.toList ∧ (tb n).size ≤ 600 := right_digs (tb_right n h).1
theorem neg_tb (n : Nat) (h : n < 10 ^ 600) : isNeg (tb n) = false := by
  have hd := (tb_digs n h).1
  unfold isNeg
  cases e : (tb n).data.toList with
  | nil => rfl
  | cons a t =>
    rw [e] at hd
    have := hd a (by simp)
    simp only [List.head?_cons]
    rw [show (some a == some (45 : UInt8)) = (a == 45) from rfl]
    rw [beq_eq_false_iff_ne]
    intro e45
    subst e45
    revert this
    decide
theorem sT_list (b : Bool) (n : Nat) : (sT b n).data.toList = if b = true then 45 :: (tb n).data.toList else (tb n).data.toList := by
  cases b
  · rfl
  · simp [sT]
theorem neg_sT (b : Bool) (n : Nat) (h : n < 10 ^ 600) : isNeg (sT b n) = b := by
  cases b
  · exact neg_tb n h
  · unfold isNeg; rw [sT_list]; rfl
theorem dig_sT (b : Bool) (n : Nat) (h : n < 10 ^ 600) : digT (sT b n) = tb n := by
  apply bytes_ext
  rw [digT_list, neg_sT b n h, sT_list]
  cases b <;> rfl
theorem sT_of (s : ByteArray) (n : Nat) (h : digT s = tb n) : s = sT (isNeg s) n := by
  apply bytes_ext
  rw [sT_list, ← h, digT_list]
  by_cases hn : isNeg s = true
  · rw [if_pos hn, if_pos hn]
    unfold isNeg at hn
    cases e : s.data.toList with
    | nil => rw [e] at hn; simp at hn
    | cons a t => rw [e] at hn; simp at hn; rw [hn]; rfl
  · rw [if_neg hn, if_neg hn]
theorem sT_size (b : Bool) (n : Nat) (h : n < 10 ^ 600) : (sT b n).size ≤ 601 := by
  have h1 := (tb_digs n h).2
  have h2 := list_len (sT b n)
  have h3 := list_len (tb n)
  rw [sT_list] at h2
  cases b
  · simp at h2; omega
  · simp at h2; omega
/-- A right number: its two texts. -/
structure RT (num den : ByteArray) (b : Bool) (n d : Nat) : Prop where
  num : num = sT b n
  den : den = tb d
  hn : n < 10 ^ 600
  hd : d < 10 ^ 600
  low : Cub.Low b n d
def RightT (num den : ByteArray) : Prop := ∃ b n d, RT num den b n d
/-- When two texts are a right number. -/
theorem right_iff (num den : ByteArray) : RightT num den ↔ Cub.rightB (digT num).data.toList = true ∧ Cub.rightB den.data.toList = true ∧ ¬ (isNeg num = true ∧ val (digT num) = 0) ∧ val den ≠ 0 ∧ Nat.gcd (val (digT num)) (val den) = 1 := by
  constructor
  · rintro ⟨b, n, d, rfl, rfl, hn, hd, hl⟩
    rw [dig_sT b n hn, neg_sT b n hn]
    have v1 : val (tb n) = n := (tb_right n hn).2
    have v2 : val (tb d) = d := (tb_right d hd).2
    rw [v1, v2]
    exact ⟨(tb_right n hn).1, (tb_right d hd).1, fun h => hl.sign h.1 h.2, by have := hl.pos; omega, hl.cop⟩
  · rintro ⟨h1, h2, h3, h4, h5⟩
    obtain ⟨n, hn, e1⟩ := tb_of h1
    obtain ⟨d, hd, e2⟩ := tb_of h2
    have v1 : val (tb n) = n := (tb_right n hn).2
    have v2 : val (tb d) = d := (tb_right d hd).2
    rw [e1, v1] at h3 h5
    rw [e2, v2] at h4 h5
    exact ⟨isNeg num, n, d, sT_of num n e1, e2, hn, hd, ⟨by omega, h5, fun hb h0 => h3 ⟨hb, h0⟩⟩⟩
theorem tb_eq48 (n : Nat) (h : n < 10 ^ 600) : ((tb n).toList == [48]) = (n == 0) := by
  by_cases h0 : n = 0
  · subst h0; rw [Lib.toList_data, tb_list 0 h, dec_zero]; rfl
  · rw [beq_eq_false_iff_ne.2 h0, beq_eq_false_iff_ne]
    intro e
    rw [Lib.toList_data] at e
    have : val (tb n) = 0 := zero_val e
    rw [show val (tb n) = n from (tb_right n h).2] at this
    exact h0 this
end Go.Proofs.YtifalmdoligblaaGreatDoor

namespace Go.Proofs.YtifalmdoligblaaGreatDoor
open Go.RowKit

theorem hasAt_in (s bytes : ByteArray) (k : Nat) (w : World) (hk : k < s.size) :
    Calls Tryz.prog 133 #[.string s, .int .i64 (k : Int), .string bytes] w fun e w' => e = .returned (.bool (decide (0 ≤ Lib.indexByte bytes.data.toList s[k]))) ∧ w' = w := by
  have H := hide (Tryz.strings_IndexByte bytes (s[k].toNat : Int) w)
  have e : ((s[k].toNat : Int).toNat.toUInt8) = s[k] := by simp
  rw [e] at H
  have hk' : (k : Int) < (s.size : Int) := by omega
  generalize (Lib.indexByte bytes.data.toList s[k]) = I at *
  clear e
  go_enter Tryz.func133, Tryz.ntmps133
  go_wp2_with (go_at_call 170; go_must (refine (unhide H).mono ?_; rintro e w1 ⟨rfl, rfl⟩))
  go_ret
  exact ⟨by simp, rfl⟩
theorem hasAt_out (s bytes : ByteArray) (k : Nat) (w : World) (hk : s.size ≤ k) :
    Calls Tryz.prog 133 #[.string s, .int .i64 (k : Int), .string bytes] w fun e w' => e = .returned (.bool false) ∧ w' = w := by
  have hk' : ¬ (k : Int) < (s.size : Int) := by omega
  go_enter Tryz.func133, Tryz.ntmps133
  go_wp2
  go_ret
  exact ⟨rfl, rfl⟩
/-- Where the digits from k on end. -/
def DEnd (s : ByteArray) (k e : Nat) : Prop := k ≤ e ∧ e ≤ s.size ∧ (∀ j (hj : j < s.size), k ≤ j → j < e → 48 ≤ s[j].toNat ∧ s[j].toNat ≤ 57) ∧ (∀ h : e < s.size, ¬ (48 ≤ s[e].toNat ∧ s[e].toNat ≤ 57))
theorem DEnd.det {s : ByteArray} {k e e' : Nat} (h : DEnd s k e) (h' : DEnd s k e') : e = e' := by
  obtain ⟨h1, h2, h3, h4⟩ := h
  obtain ⟨i1, i2, i3, i4⟩ := h'
  rcases Nat.lt_trichotomy e e' with hlt | rfl | hlt
  · exact absurd (i3 e (by omega) h1 hlt) (h4 (by omega))
  · rfl
  · exact absurd (h3 e' (by omega) i1 hlt) (i4 (by omega))
theorem cutDigits_any (s : ByteArray) (k : Nat) (w : World) (hk : k ≤ s.size) (hm : s.size ≤ 9223372036854775806) :
    Calls Tryz.prog 134 #[.string s, .int .i64 (k : Int)] w fun r w' => ∃ e, DEnd s k e ∧ r = .returned (.tuple #[.string (s.extract k e), .int .i64 (e : Int)]) ∧ w' = w := by
  go_enter Tryz.func134, Tryz.ntmps134
  go_wp2
  go_loop [6] (fun t => ∃ e : Nat, t = .int .i64 (e : Int) ∧ k ≤ e ∧ e ≤ s.size ∧ Hid (∀ j (hj : j < s.size), k ≤ j → j < e → 48 ≤ s[j].toNat ∧ s[j].toNat ≤ 57)) (fun t => s.size - (intOf t).toNat)
  case atStart => exact ⟨k, rfl, by omega, hk, fun j hj h1 h2 => by omega⟩
  case round =>
    obtain ⟨e, rfl, h1, h2, H3⟩ := hrel
    by_cases hlt : e < s.size
    · have hlt' : (e : Int) < (s.size : Int) := by omega
      by_cases hd : 48 ≤ s[e].toNat ∧ s[e].toNat ≤ 57
      · have d1 : (48 : Int) ≤ (s[e].toNat : Int) := by omega
        have d2 : (s[e].toNat : Int) ≤ 57 := by omega
        have HN : Hid (∀ j (hj : j < s.size), k ≤ j → j < e + 1 → 48 ≤ s[j].toNat ∧ s[j].toNat ≤ 57) := fun j hj i1 i2 => by
          rcases Nat.lt_or_ge j e with h | h
          · exact unhide H3 j hj i1 h
          · have : j = e := by omega
            subst this; exact hd
        clear hd
        go_wp2
        refine ⟨⟨e + 1, by simp, by omega, by omega, HN⟩, ?_⟩
        simp [intOf]; omega
      · have HE : Hid (DEnd s k e) := ⟨h1, h2, unhide H3, fun _ => hd⟩
        have hd' : (48 : Int) ≤ (s[e].toNat : Int) → ¬ (s[e].toNat : Int) ≤ 57 := fun a b => hd ⟨by omega, by omega⟩
        have h1' : (k : Int) ≤ (e : Int) := by omega
        have h2' : (e : Int) ≤ (s.size : Int) := by omega
        by_cases hd1 : (48 : Int) ≤ (s[e].toNat : Int)
        · have hd2 := hd' hd1
          clear hd hd'
          go_wp2
          exact bodyPost_ret (v := .tuple #[.string (s.extract k e), .int .i64 (e : Int)]) (by simp [results, Tryz.results134, go_sem]) rfl ⟨e, unhide HE, rfl, rfl⟩
        · clear hd hd'
          go_wp2
          exact bodyPost_ret (v := .tuple #[.string (s.extract k e), .int .i64 (e : Int)]) (by simp [results, Tryz.results134, go_sem]) rfl ⟨e, unhide HE, rfl, rfl⟩
    · have HE : Hid (DEnd s k e) := ⟨h1, h2, unhide H3, fun h => absurd h hlt⟩
      have hlt' : ¬ (e : Int) < (s.size : Int) := by omega
      have h1' : (k : Int) ≤ (e : Int) := by omega
      have h2' : (e : Int) ≤ (s.size : Int) := by omega
      go_wp2
      exact bodyPost_ret (v := .tuple #[.string (s.extract k e), .int .i64 (e : Int)]) (by simp [results, Tryz.results134, go_sem]) rfl ⟨e, unhide HE, rfl, rfl⟩
/-- Digits without noughts ahead. -/
def natT (s : ByteArray) : ByteArray := if (Lib.trimLeftB s.data.toList 48).isEmpty then ⟨#[48]⟩ else ⟨(Lib.trimLeftB s.data.toList 48).toArray⟩
theorem naturalT_any (s : ByteArray) (w : World) : Calls Tryz.prog 136 #[.string s] w fun r w' => r = .returned (.string (natT s)) ∧ w' = w := by
  have H := hide (Tryz.strings_TrimLeft_one s 48 (by decide) w)
  obtain ⟨t, ht⟩ : ∃ t : ByteArray, t = ⟨(Lib.trimLeftB s.data.toList 48).toArray⟩ := ⟨_, rfl⟩
  have hl : t.toList = Lib.trimLeftB s.data.toList 48 := by rw [Lib.toList_data, ht]
  have HN : Hid (natT s = if t.toList.isEmpty then ⟨#[48]⟩ else t) := by show _ = _; unfold natT; rw [hl, ← ht]
  rw [← ht] at H
  clear ht hl
  rw [unhide HN]
  clear HN
  by_cases he : t.toList.isEmpty = true
  · rw [if_pos he]
    go_enter Tryz.func136, Tryz.ntmps136
    go_wp2_with (go_at_call 171; go_must (refine (unhide H).mono ?_; rintro e w1 ⟨rfl, rfl⟩))
    go_ret
    exact ⟨rfl, rfl⟩
  · rw [if_neg he]
    have he' : t.toList.isEmpty = false := by simpa using he
    clear he
    go_enter Tryz.func136, Tryz.ntmps136
    go_wp2_with (go_at_call 171; go_must (refine (unhide H).mono ?_; rintro e w1 ⟨rfl, rfl⟩))
    go_ret
    exact ⟨rfl, rfl⟩
end Go.Proofs.YtifalmdoligblaaGreatDoor

namespace Go.Proofs.YtifalmdoligblaaGreatDoor
open Go.RowKit

def exS : ByteArray := ⟨#[45, 49, 46, 50, 53, 48, 101, 45, 49]⟩
theorem has_S (k : Nat) (bytes : ByteArray) (res : Bool) (hk : k < exS.size) (h : decide (0 ≤ Lib.indexByte bytes.data.toList exS[k]) = res) (W : World) :
    Calls Tryz.prog 133 #[.string exS, .int .i64 (k : Int), .string bytes] W fun e w' => e = .returned (.bool res) ∧ w' = W := by
  rw [← h]; exact hasAt_in exS bytes k W hk
theorem cut_S (k e : Nat) (t : ByteArray) (h : DEnd exS k e) (ht : exS.extract k e = t) (W : World) :
    Calls Tryz.prog 134 #[.string exS, .int .i64 (k : Int)] W fun r w' => r = .returned (.tuple #[.string t, .int .i64 (e : Int)]) ∧ w' = W := by
  refine (cutDigits_any exS k W (Nat.le_trans h.1 h.2.1) (by decide)).mono ?_
  rintro r w' ⟨e', h', rfl, rfl⟩
  obtain rfl := h.det h'
  rw [ht]
  exact ⟨rfl, rfl⟩
theorem dend_S (k e : Nat) (hk : k ≤ e) (he : e ≤ exS.size) (h1 : ∀ j : Fin exS.size, k ≤ j.val → j.val < e → 48 ≤ exS[j].toNat ∧ exS[j].toNat ≤ 57) (h2 : ∀ h : e < exS.size, ¬ (48 ≤ exS[e].toNat ∧ exS[e].toNat ≤ 57)) : DEnd exS k e :=
  ⟨hk, he, fun j hj a b => h1 ⟨j, hj⟩ a b, h2⟩
theorem dend1 : DEnd exS 1 2 := dend_S 1 2 (by decide) (by decide) (by decide) (by decide)
theorem dend3 : DEnd exS 3 6 := dend_S 3 6 (by decide) (by decide) (by decide) (by decide)
theorem dend8 : DEnd exS 8 9 := dend_S 8 9 (by decide) (by decide) (by decide) (by decide)

theorem ended_out (b b' : Bool) (p1 p2 p3 p5 s : ByteArray) (p6 : Int) (k : Int) (w : World) (hk : ¬ k < (s.size : Int)) :
    Calls Tryz.prog 135 #[.agg #[.bool b, .string p1, .string p2, .string p3, .bool b', .string p5, .int .i64 p6], .string s, .int .i64 k] w fun r w' => r = .returned (.tuple #[.agg #[.bool b, .string p1, .string p2, .string p3, .bool b', .string p5, .int .i64 p6], .int .i64 (-1)]) ∧ Below w.heap.size w w' := by
  go_enter Tryz.func135, Tryz.ntmps135
  go_wp2
  refine bodyPost_ret (v := .tuple #[.agg #[.bool b, .string p1, .string p2, .string p3, .bool b', .string p5, .int .i64 p6], .int .i64 (-1)]) (by simp [results, Tryz.results135, go_sem]) rfl ⟨rfl, ?_⟩
  exact ((Below.refl _ _).alloc (Nat.le_refl _) _).alloc (by simp) _

set_option maxRecDepth 100000 in
set_option maxHeartbeats 2000000 in
theorem cutParts_S (w : World) : Calls Tryz.prog 80 #[.string exS] w fun r w' => r = .returned (.tuple #[.agg #[.bool true, .string ⟨#[49]⟩, .string ⟨#[50, 53, 48]⟩, .string ⟨#[49]⟩, .bool true, .string ⟨#[]⟩, .int .i64 0], .int .i64 (-1)]) ∧ Below w.heap.size w w' := by
  obtain ⟨hasB, h133, f0, f2, f3, f6, f7, f8⟩ : ∃ hasB : Int → ByteArray → Bool, (∀ W (k : Int) (bytes : ByteArray), 0 ≤ k → k < 9 → Calls Tryz.prog 133 #[.string exS, .int .i64 k, .string bytes] W fun e w' => e = .returned (.bool (hasB k bytes)) ∧ w' = W) ∧ hasB 0 ⟨#[45]⟩ = true ∧ hasB 2 ⟨#[47]⟩ = false ∧ hasB 2 ⟨#[46]⟩ = true ∧ hasB 6 ⟨#[101, 69]⟩ = true ∧ hasB 7 ⟨#[45]⟩ = true ∧ hasB 7 ⟨#[43, 45]⟩ = true := by
    refine ⟨fun k bytes => decide (0 ≤ Lib.indexByte bytes.data.toList (exS.data.toList.getD k.toNat 0)), ?_, by decide, by decide, by decide, by decide, by decide, by decide⟩
    intro W k bytes h0 h9
    obtain ⟨m, rfl⟩ : ∃ m : Nat, k = (m : Int) := ⟨k.toNat, by omega⟩
    have hm : m < exS.size := by show m < 9; omega
    refine has_S m bytes _ hm ?_ W
    have : exS.data.toList.getD m 0 = exS[m] := by
      rw [List.getD_eq_getElem?_getD, List.getElem?_eq_getElem (by rw [list_len]; exact hm)]; rfl
    exact congrArg (fun c => decide (0 ≤ Lib.indexByte bytes.data.toList c)) this.symm
  obtain ⟨cutT, cutE, h134, g1, g2, g3, g4, g5, g6⟩ : ∃ (cutT : Int → ByteArray) (cutE : Int → Int), (∀ W (k : Int), k = 1 ∨ k = 3 ∨ k = 8 → Calls Tryz.prog 134 #[.string exS, .int .i64 k] W fun r w' => r = .returned (.tuple #[.string (cutT k), .int .i64 (cutE k)]) ∧ w' = W) ∧ cutT 1 = ⟨#[49]⟩ ∧ cutE 1 = 2 ∧ cutT 3 = ⟨#[50, 53, 48]⟩ ∧ cutE 3 = 6 ∧ cutT 8 = ⟨#[49]⟩ ∧ cutE 8 = 9 := by
    refine ⟨fun k => if k = 3 then ⟨#[50, 53, 48]⟩ else ⟨#[49]⟩, fun k => if k = 1 then 2 else if k = 3 then 6 else 9, ?_, rfl, rfl, rfl, rfl, rfl, rfl⟩
    rintro W k (rfl | rfl | rfl)
    · exact cut_S 1 2 ⟨#[49]⟩ dend1 (bytes_ext (by rfl)) W
    · exact cut_S 3 6 ⟨#[50, 53, 48]⟩ dend3 (bytes_ext (by rfl)) W
    · exact cut_S 8 9 ⟨#[49]⟩ dend8 (bytes_ext (by rfl)) W
  have H133 := hide h133
  have H134 := hide h134
  clear h133 h134
  have hsz : exS.size = 9 := rfl
  have e1 : (⟨#[49]⟩ : ByteArray).toList.isEmpty = false := by rw [Lib.toList_data]; rfl
  have e2 : (⟨#[50, 53, 48]⟩ : ByteArray).toList.isEmpty = false := by rw [Lib.toList_data]; rfl
  generalize exS = s at *
  have hsz' : (s.size : Int) = 9 := by omega
  generalize (⟨#[49]⟩ : ByteArray) = t1 at *
  generalize (⟨#[50, 53, 48]⟩ : ByteArray) = t2 at *
  go_enter Tryz.func80, Tryz.ntmps80
  go_wp2_with (first
    | (go_at_call 133; go_must (refine (unhide H133 _ _ _ (by omega) (by omega)).mono ?_; rintro e w1 ⟨rfl, rfl⟩; first | rw [f0] | rw [f2] | rw [f3] | rw [f6] | rw [f7] | rw [f8]))
    | (go_at_call 134; go_must (refine (unhide H134 _ _ (by decide)).mono ?_; rintro e w1 ⟨rfl, rfl⟩; first | rw [g1, g2] | rw [g3, g4] | rw [g5, g6]))
    | (go_at_call 135; go_must (refine (ended_out _ _ _ _ _ _ _ _ _ _ (by omega)).mono ?_; rintro e w1 ⟨rfl, hb1⟩; have c0 : w1.cell? ⟨w.heap.size, 0, none⟩ = some (.bool false) := (hb1.cell (p := ⟨w.heap.size, 0, none⟩) (by simp; omega)).trans (by simp [go_sem]); have c1 : w1.cell? ⟨w.heap.size, 1, none⟩ = some (.string ⟨#[]⟩) := (hb1.cell (p := ⟨w.heap.size, 1, none⟩) (by simp; omega)).trans (by simp [go_sem]); have c2 : w1.cell? ⟨w.heap.size, 2, none⟩ = some (.string ⟨#[]⟩) := (hb1.cell (p := ⟨w.heap.size, 2, none⟩) (by simp; omega)).trans (by simp [go_sem]); have c3 : w1.cell? ⟨w.heap.size, 3, none⟩ = some (.string ⟨#[]⟩) := (hb1.cell (p := ⟨w.heap.size, 3, none⟩) (by simp; omega)).trans (by simp [go_sem]); have c4 : w1.cell? ⟨w.heap.size, 4, none⟩ = some (.bool false) := (hb1.cell (p := ⟨w.heap.size, 4, none⟩) (by simp; omega)).trans (by simp [go_sem]); have c5 : w1.cell? ⟨w.heap.size, 5, none⟩ = some (.string ⟨#[]⟩) := (hb1.cell (p := ⟨w.heap.size, 5, none⟩) (by simp; omega)).trans (by simp [go_sem]); have c6 : w1.cell? ⟨w.heap.size, 6, none⟩ = some (.int .i64 0) := (hb1.cell (p := ⟨w.heap.size, 6, none⟩) (by simp; omega)).trans (by simp [go_sem]); have k0 : w1.frozen? ⟨w.heap.size, 0, none⟩ = false := (hb1.frozen (p := ⟨w.heap.size, 0, none⟩) (by simp; omega)).trans (by simp [go_sem]); have k1 : w1.frozen? ⟨w.heap.size, 1, none⟩ = false := (hb1.frozen (p := ⟨w.heap.size, 1, none⟩) (by simp; omega)).trans (by simp [go_sem]); have k2 : w1.frozen? ⟨w.heap.size, 2, none⟩ = false := (hb1.frozen (p := ⟨w.heap.size, 2, none⟩) (by simp; omega)).trans (by simp [go_sem]); have k3 : w1.frozen? ⟨w.heap.size, 3, none⟩ = false := (hb1.frozen (p := ⟨w.heap.size, 3, none⟩) (by simp; omega)).trans (by simp [go_sem]); have k4 : w1.frozen? ⟨w.heap.size, 4, none⟩ = false := (hb1.frozen (p := ⟨w.heap.size, 4, none⟩) (by simp; omega)).trans (by simp [go_sem]); have k5 : w1.frozen? ⟨w.heap.size, 5, none⟩ = false := (hb1.frozen (p := ⟨w.heap.size, 5, none⟩) (by simp; omega)).trans (by simp [go_sem]); have k6 : w1.frozen? ⟨w.heap.size, 6, none⟩ = false := (hb1.frozen (p := ⟨w.heap.size, 6, none⟩) (by simp; omega)).trans (by simp [go_sem]); have HB1 := hide (Below.trans (((Below.refl w.heap.size w).alloc (Nat.le_refl _) _).alloc (by simp) _) (hb1.mono (by simp; omega))); clear hb1)))
  refine bodyPost_ret (v := .tuple #[.agg #[.bool true, .string t1, .string t2, .string t1, .bool true, .string ⟨#[]⟩, .int .i64 0], .int .i64 (-1)]) (by simp [results, Tryz.results80, go_sem, c0, c1, c2, c3, c4, c5, c6]) rfl ⟨rfl, ?_⟩
  exact ((((((((unhide HB1).setCell (p := ⟨w.heap.size, 0, none⟩) (Nat.le_refl _) _).setCell (p := ⟨w.heap.size, 1, none⟩) (Nat.le_refl _) _).setCell (p := ⟨w.heap.size, 2, none⟩) (Nat.le_refl _) _).setCell (p := ⟨w.heap.size, 3, none⟩) (Nat.le_refl _) _).setCell (p := ⟨w.heap.size, 4, none⟩) (Nat.le_refl _) _).setCell (p := ⟨w.heap.size, 5, none⟩) (Nat.le_refl _) _).setCell (p := ⟨w.heap.size, 6, none⟩) (Nat.le_refl _) _)
end Go.Proofs.YtifalmdoligblaaGreatDoor

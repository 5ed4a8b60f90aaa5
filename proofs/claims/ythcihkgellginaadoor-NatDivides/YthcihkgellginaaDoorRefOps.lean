/- The document's own Add, Sub and Mul. -/
import Derived.Test.YthcihkgellginaaDoorRefTimes
import Derived.Test.YthcihkgellginaaDoorRefLists
import Derived.Test.YthcihkgellginaaDoorInt
namespace Go.Proofs.YthcihkgellginaaDoor
open Go.RowKit

/-- What two texts come to: the answer of a sum, a product. -/
def ansText (op : Nat → Nat → Nat) (s t : ByteArray) : List UInt8 := if (Cub.rightB s.data.toList && Cub.rightB t.data.toList) = true then toldText (op (Cub.dval s.data.toList) (Cub.dval t.data.toList)) else []
def ansErr (op : Nat → Nat → Nat) (s t : ByteArray) : Int := if (Cub.rightB s.data.toList && Cub.rightB t.data.toList) = true then toldErr (op (Cub.dval s.data.toList) (Cub.dval t.data.toList)) else 3
/-- And of a difference. -/
def subText (s t : ByteArray) : List UInt8 := if (Cub.rightB s.data.toList && Cub.rightB t.data.toList) = true then (if Cub.dval s.data.toList < Cub.dval t.data.toList then [] else Lib.decDigits (Cub.dval s.data.toList - Cub.dval t.data.toList)) else []
def subErr (s t : ByteArray) : Int := if (Cub.rightB s.data.toList && Cub.rightB t.data.toList) = true then (if Cub.dval s.data.toList < Cub.dval t.data.toList then 9 else 0) else 3

set_option maxRecDepth 100000 in
set_option maxHeartbeats 400000 in
theorem refTimesS_any (s t : ByteArray) (w : World) (hs : s.size ≤ 100000) (ht : t.size ≤ 100000) (hds : Cub.digs s.data.toList) (hdt : Cub.digs t.data.toList) :
    Calls Tryd.prog 55 #[.string s, .string t] w fun e w' => e = .returned (.string ⟨(Lib.decDigits (Cub.dval s.data.toList * Cub.dval t.data.toList)).toArray⟩) ∧ Below w.heap.size w w' := by
  have HDS := hide hds
  have HDT := hide hdt
  clear hds hdt
  go_enter Tryd.func55, Tryd.ntmps55
  go_wp2_with (first
    | (go_at_call_of 75 s; refine (refLimbs_any s _ (by omega) (unhide HDS)).mono ?_; rintro e w1 ⟨vx, lx, rfl, hox, hnx, hvx, hb1⟩; have HX := hide (And.intro hnx (And.intro hvx hox)); have hbx : lx.length ≤ 100000 := (by have := Cub.len_le4 (unhide HDS) hnx hvx; rw [list_len] at this; omega); clear hnx hvx hox)
    | (go_at_call_of 75 t; refine (refLimbs_any t _ (by omega) (unhide HDT)).mono ?_; rintro e w2 ⟨vy, ly, rfl, hoy, hny, hvy, hb2⟩; have HY := hide (And.intro hny (And.intro hvy hoy)); have hby : ly.length ≤ 100000 := (by have := Cub.len_le4 (unhide HDT) hny hvy; rw [list_len] at this; omega); clear hny hvy hoy)
    | (go_at_call 81; refine (refTimes_any vx vy _ _ lx ly _ ((unhide HX).2.2.later hb2) (unhide HY).2.2 (unhide HX).1.1 (unhide HY).1.1 (by omega) (by omega)).mono ?_; rintro e w3 ⟨vz, lz, rfl, hoz, hnz, hvz, hlz, hb3⟩; have HZ := hide (And.intro hnz (And.intro hvz hoz)); clear hnz hvz hoz)
    | (go_at_call 76; refine (refText_any _ _ _ _ (unhide HZ).2.2 (unhide HZ).1 (by omega)).mono ?_; rintro e w4 ⟨rfl, hb4⟩))
  go_ret
  have hb12 := hb1.trans (hb2.mono hb1.size)
  have hb13 := hb12.trans (hb3.mono hb12.size)
  exact ⟨by rw [← (unhide HX).2.1, ← (unhide HY).2.1, ← (unhide HZ).2.1]; rfl, hb13.trans (hb4.mono hb13.size)⟩

theorem sum_digits {s t : ByteArray} (hs : Cub.rightB s.data.toList = true) (ht : Cub.rightB t.data.toList = true) : Lib.nDigits (Cub.dval s.data.toList + Cub.dval t.data.toList) ≤ 9000000000 ∧ Lib.nDigits (Cub.dval s.data.toList * Cub.dval t.data.toList) ≤ 9000000000 := by
  obtain ⟨h1, h2⟩ := (Cub.rightB_iff _).1 hs
  obtain ⟨h3, h4⟩ := (Cub.rightB_iff _).1 ht
  have d1 := Cub.dval_lt h1.1
  have d2 := Cub.dval_lt h3.1
  generalize s.data.toList.length = a at *
  generalize t.data.toList.length = b at *
  have p1 : 0 < 10 ^ a := Nat.pow_pos (by decide)
  have p2 : 0 < 10 ^ b := Nat.pow_pos (by decide)
  have e : 10 ^ (a + b + 1) = 10 ^ a * 10 ^ b * 10 := by rw [Nat.pow_succ, Nat.pow_add]
  have q1 : 10 ^ a * 1 ≤ 10 ^ a * 10 ^ b := Nat.mul_le_mul_left _ p2
  have q2 : 1 * 10 ^ b ≤ 10 ^ a * 10 ^ b := Nat.mul_le_mul_right _ p1
  have m1 : Cub.dval s.data.toList * Cub.dval t.data.toList < 10 ^ a * 10 ^ b := Nat.mul_lt_mul'' d1 d2
  have l1 := (Cub.dec_len_lt (Cub.dval s.data.toList + Cub.dval t.data.toList) (a + b + 1) (by omega)).2 (by omega)
  have l2 := (Cub.dec_len_lt (Cub.dval s.data.toList * Cub.dval t.data.toList) (a + b + 1) (by omega)).2 (by omega)
  rw [Lib.decDigits_length] at l1 l2
  omega

set_option maxRecDepth 100000 in
set_option maxHeartbeats 400000 in
theorem refAdd_any (s t : ByteArray) (w : World) (hs : s.size ≤ maxLen) (ht : t.size ≤ maxLen) :
    Calls Tryd.prog 18 #[.string s, .string t] w fun e w' => e = .returned (.tuple #[.string ⟨(ansText Nat.add s t).toArray⟩, .int .i64 (ansErr Nat.add s t)]) ∧ Below w.heap.size w w' := by
  have R := hide (fun W => right2_any s t W hs ht)
  unfold ansText ansErr
  cases hb : (Cub.rightB s.data.toList && Cub.rightB t.data.toList) with
  | false =>
    simp only [Bool.false_eq_true, if_false]
    rw [hb] at R
    clear hb
    go_enter Tryd.func18, Tryd.ntmps18
    go_wp2_with (go_at_call 46; refine (unhide R _).mono ?_; rintro e w2 ⟨rfl, rfl⟩)
    go_ret2
    exact ⟨rfl, (Below.refl _ _).alloc (Nat.le_refl _) _⟩
  | true =>
    simp only [if_true]
    rw [hb] at R
    rw [Bool.and_eq_true] at hb
    obtain ⟨d1, l1⟩ := right_digs hb.1
    obtain ⟨d2, l2⟩ := right_digs hb.2
    have HM := hide (fun W => refPlus_any s t W (by omega) (by omega) d1 d2)
    have HS := hide (fun W => small_any (Nat.add (Cub.dval s.data.toList) (Cub.dval t.data.toList)) W (sum_digits hb.1 hb.2).1)
    have HM' : Hid (∀ W, Calls Tryd.prog 48 #[.string s, .string t] W fun e w' => e = .returned (.string ⟨(Lib.decDigits (Nat.add (Cub.dval s.data.toList) (Cub.dval t.data.toList))).toArray⟩) ∧ Below W.heap.size W w') := unhide HM
    clear hb d1 d2 HM
    generalize Nat.add (Cub.dval s.data.toList) (Cub.dval t.data.toList) = n at *
    go_enter Tryd.func18, Tryd.ntmps18
    go_wp2_with (first
      | (go_at_call 46; refine (unhide R _).mono ?_; rintro e w2 ⟨rfl, rfl⟩)
      | (go_at_call 48; refine (unhide HM' _).mono ?_; rintro e w3 ⟨rfl, hb3⟩)
      | (go_at_call 47; refine (unhide HS _).mono ?_; rintro e w4 ⟨rfl, rfl⟩))
    go_ret2
    exact ⟨rfl, ((Below.refl _ _).alloc (Nat.le_refl _) _).trans (hb3.mono (by simp))⟩

set_option maxRecDepth 100000 in
set_option maxHeartbeats 400000 in
theorem refMul_any (s t : ByteArray) (w : World) (hs : s.size ≤ maxLen) (ht : t.size ≤ maxLen) :
    Calls Tryd.prog 22 #[.string s, .string t] w fun e w' => e = .returned (.tuple #[.string ⟨(ansText Nat.mul s t).toArray⟩, .int .i64 (ansErr Nat.mul s t)]) ∧ Below w.heap.size w w' := by
  have R := hide (fun W => right2_any s t W hs ht)
  unfold ansText ansErr
  cases hb : (Cub.rightB s.data.toList && Cub.rightB t.data.toList) with
  | false =>
    simp only [Bool.false_eq_true, if_false]
    rw [hb] at R
    clear hb
    go_enter Tryd.func22, Tryd.ntmps22
    go_wp2_with (go_at_call 46; refine (unhide R _).mono ?_; rintro e w2 ⟨rfl, rfl⟩)
    go_ret2
    exact ⟨rfl, (Below.refl _ _).alloc (Nat.le_refl _) _⟩
  | true =>
    simp only [if_true]
    rw [hb] at R
    rw [Bool.and_eq_true] at hb
    obtain ⟨d1, l1⟩ := right_digs hb.1
    obtain ⟨d2, l2⟩ := right_digs hb.2
    have HM := hide (fun W => refTimesS_any s t W (by omega) (by omega) d1 d2)
    have HS := hide (fun W => small_any (Nat.mul (Cub.dval s.data.toList) (Cub.dval t.data.toList)) W (sum_digits hb.1 hb.2).2)
    have HM' : Hid (∀ W, Calls Tryd.prog 55 #[.string s, .string t] W fun e w' => e = .returned (.string ⟨(Lib.decDigits (Nat.mul (Cub.dval s.data.toList) (Cub.dval t.data.toList))).toArray⟩) ∧ Below W.heap.size W w') := unhide HM
    clear hb d1 d2 HM
    generalize Nat.mul (Cub.dval s.data.toList) (Cub.dval t.data.toList) = n at *
    go_enter Tryd.func22, Tryd.ntmps22
    go_wp2_with (first
      | (go_at_call 46; refine (unhide R _).mono ?_; rintro e w2 ⟨rfl, rfl⟩)
      | (go_at_call 55; refine (unhide HM' _).mono ?_; rintro e w3 ⟨rfl, hb3⟩)
      | (go_at_call 47; refine (unhide HS _).mono ?_; rintro e w4 ⟨rfl, rfl⟩))
    go_ret2
    exact ⟨rfl, ((Below.refl _ _).alloc (Nat.le_refl _) _).trans (hb3.mono (by simp))⟩


set_option maxRecDepth 100000 in
set_option maxHeartbeats 400000 in
theorem refSub_any (s t : ByteArray) (w : World) (hs : s.size ≤ maxLen) (ht : t.size ≤ maxLen) :
    Calls Tryd.prog 20 #[.string s, .string t] w fun e w' => e = .returned (.tuple #[.string ⟨(subText s t).toArray⟩, .int .i64 (subErr s t)]) ∧ Below w.heap.size w w' := by
  have R := hide (fun W => right2_any s t W hs ht)
  unfold subText subErr
  cases hb : (Cub.rightB s.data.toList && Cub.rightB t.data.toList) with
  | false =>
    simp only [Bool.false_eq_true, if_false]
    rw [hb] at R
    clear hb
    go_enter Tryd.func20, Tryd.ntmps20
    go_wp2_with (go_at_call 46; refine (unhide R _).mono ?_; rintro e w2 ⟨rfl, rfl⟩)
    go_ret2
    exact ⟨rfl, (Below.refl _ _).alloc (Nat.le_refl _) _⟩
  | true =>
    simp only [if_true]
    rw [hb] at R
    rw [Bool.and_eq_true] at hb
    obtain ⟨d1, l1⟩ := right_digs hb.1
    obtain ⟨d2, l2⟩ := right_digs hb.2
    have n1 := ((Cub.rightB_iff _).1 hb.1).1
    have n2 := ((Cub.rightB_iff _).1 hb.2).1
    have C24 := hide (fun W => compare_any s t W n1 n2)
    by_cases hlt : Cub.dval s.data.toList < Cub.dval t.data.toList
    · rw [if_pos hlt, if_pos hlt]
      rw [show Cub.cmpN (Cub.dval s.data.toList) (Cub.dval t.data.toList) = -1 from if_pos hlt] at C24
      clear hb d1 d2 n1 n2 hlt
      go_enter Tryd.func20, Tryd.ntmps20
      go_wp2_with (first
        | (go_at_call 46; refine (unhide R _).mono ?_; rintro e w2 ⟨rfl, rfl⟩)
        | (go_at_call 24; refine (unhide C24 _).mono ?_; rintro e w3 ⟨rfl, rfl⟩))
      go_ret2
      exact ⟨rfl, (Below.refl _ _).alloc (Nat.le_refl _) _⟩
    · rw [if_neg hlt, if_neg hlt]
      have HM := hide (fun W => refMinus_any s t W (by omega) (by omega) d1 d2 (by omega))
      have hc0 : 0 ≤ Cub.cmpN (Cub.dval s.data.toList) (Cub.dval t.data.toList) := by unfold Cub.cmpN; rw [if_neg hlt]; split <;> omega
      generalize Cub.cmpN (Cub.dval s.data.toList) (Cub.dval t.data.toList) = c at *
      generalize Lib.decDigits (Cub.dval s.data.toList - Cub.dval t.data.toList) = T at *
      clear hb d1 d2 n1 n2 hlt
      go_enter Tryd.func20, Tryd.ntmps20
      go_wp2_with (first
        | (go_at_call 46; refine (unhide R _).mono ?_; rintro e w2 ⟨rfl, rfl⟩)
        | (go_at_call 24; refine (unhide C24 _).mono ?_; rintro e w3 ⟨rfl, rfl⟩)
        | (go_at_call 53; refine (unhide HM _).mono ?_; rintro e w4 ⟨rfl, hb4⟩))
      go_ret2
      exact ⟨rfl, ((Below.refl _ _).alloc (Nat.le_refl _) _).trans (hb4.mono (by simp))⟩
end Go.Proofs.YthcihkgellginaaDoor

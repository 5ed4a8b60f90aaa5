/- nat.Mul, nat.Sub and nat.Cmp. -/
import Derived.Test.YthcihkgellginabDoorOfTwo
import Derived.Test.YthcihkgellginabDoorMul
import Derived.Test.YthcihkgellginabDoorCmp
import Derived.Test.YthcihkgellginabDoorRefOps
namespace Go.Proofs.YthcihkgellginabDoor
open Go.RowKit

theorem prod_lt (m n k : Nat) (hm : m < 1000000000 ^ k) (hn : n < 1000000000 ^ k) : m * n < 1000000000 ^ (k + k) := by
  rw [Nat.pow_add]; exact Nat.mul_lt_mul'' hm hn

set_option maxRecDepth 100000 in
set_option maxHeartbeats 400000 in
theorem ofTwo_mul (s t : ByteArray) (w : World) (hs : Cub.rightB s.data.toList = true) (ht : Cub.rightB t.data.toList = true) (htab : Tab w) :
    Calls Tryd.prog 25 #[.string s, .string t, .func (.func 46) #[] #[]] w fun e w' => e = .returned (.tuple #[.string ⟨(toldText (Nat.mul (Cub.dval s.data.toList) (Cub.dval t.data.toList))).toArray⟩, .int .i64 (toldErr (Nat.mul (Cub.dval s.data.toList) (Cub.dval t.data.toList)))]) ∧ Below w.heap.size w w' := by
  have hK : ∃ k, 67 ≤ k ∧ k ≤ 67 := ⟨67, by decide, by decide⟩
  obtain ⟨k, hk1, hk2⟩ := hK
  have b1 := dval_lt67 hs k hk1
  have b2 := dval_lt67 ht k hk1
  have HB := hide (And.intro b1 b2)
  have HS := hide (And.intro hs ht)
  have HT := hide htab
  clear b1 b2 hs ht htab
  generalize hm : Cub.dval s.data.toList = m at *
  generalize hn : Cub.dval t.data.toList = n at *
  have HM := hide (And.intro hm hn)
  clear hm hn
  go_enter Tryd.func25, Tryd.ntmps25
  go_wp2_with (first
    | (go_at_call 18; refine (readTwo_ok s t _ (unhide HS).1 (unhide HS).2).mono ?_; rintro e w2 ⟨x, y, rfl, hx, hy, hb2⟩; rw [(unhide HM).1] at hx; rw [(unhide HM).2] at hy; obtain ⟨xa, xn, xc, rfl⟩ := hx.shape; obtain ⟨ya, yn, yc, rfl⟩ := hy.shape; have HX := hide hx; have HY := hide hy; clear hx hy)
    | (go_at_call 46; refine (mul_any _ _ m n k _ ((unhide HX).later (((Below.refl _ _).alloc (Nat.le_refl _) _).alloc (by simp) _)) ((unhide HY).later (((Below.refl _ _).alloc (Nat.le_refl _) _).alloc (by simp) _)) (by omega) (unhide HB).1 (unhide HB).2).mono ?_; rintro e w4 ⟨v, rfl, hv, hb4⟩; obtain ⟨va, vn, vc, rfl⟩ := hv.shape; have hb5 : Below w.heap.size w w4 := hb2.trans (((((Below.refl _ _).alloc (Nat.le_refl _) _).alloc (by simp) _).trans (hb4.mono (by simp; omega))).mono hb2.size); have HV := hide hv; clear hv hb4)
    | (go_at_call 29; refine (tell_any _ (Nat.mul m n) (k + k) _ (unhide HV) (by omega) (prod_lt m n k (unhide HB).1 (unhide HB).2) ((unhide HT).later hb5)).mono ?_; rintro e w6 ⟨rfl, hb6⟩; have hb7 := hb5.trans (hb6.mono hb5.size)))
  go_ret2
  exact ⟨rfl, hb7⟩

set_option maxHeartbeats 400000 in
theorem ofTwo_mul_no (s t : ByteArray) (w : World) (hs : s.size ≤ maxLen) (ht : t.size ≤ maxLen) (h : (Cub.rightB s.data.toList && Cub.rightB t.data.toList) = false) :
    Calls Tryd.prog 25 #[.string s, .string t, .func (.func 46) #[] #[]] w fun e w' => e = .returned (.tuple #[.string ⟨#[]⟩, .int .i64 3]) ∧ Below w.heap.size w w' := by
  have HS := hide h
  clear h
  go_enter Tryd.func25, Tryd.ntmps25
  go_wp2_with (go_at_call 18; refine (readTwo_no s t _ hs ht (unhide HS)).mono ?_; rintro e w2 ⟨rfl, hb2⟩)
  go_ret2
  exact ⟨rfl, hb2.trans ((((Below.refl _ _).alloc (Nat.le_refl _) _).alloc (by simp) _).mono hb2.size)⟩

/-- nat.Mul, of any two texts. -/
theorem natMul_any (s t : ByteArray) (w : World) (hs : s.size ≤ maxLen) (ht : t.size ≤ maxLen) (htab : Tab w) :
    Calls Tryd.prog 28 #[.string s, .string t] w fun e w' => e = .returned (.tuple #[.string ⟨(if (Cub.rightB s.data.toList && Cub.rightB t.data.toList) = true then toldText (Nat.mul (Cub.dval s.data.toList) (Cub.dval t.data.toList)) else []).toArray⟩, .int .i64 (if (Cub.rightB s.data.toList && Cub.rightB t.data.toList) = true then toldErr (Nat.mul (Cub.dval s.data.toList) (Cub.dval t.data.toList)) else 3)]) ∧ Below w.heap.size w w' := by
  cases hb : (Cub.rightB s.data.toList && Cub.rightB t.data.toList) with
  | true =>
    rw [Bool.and_eq_true] at hb
    simp only [if_true]
    have HC := hide (ofTwo_mul s t w hb.1 hb.2 htab)
    clear hb htab
    generalize toldText (Nat.mul (Cub.dval s.data.toList) (Cub.dval t.data.toList)) = T at *
    generalize toldErr (Nat.mul (Cub.dval s.data.toList) (Cub.dval t.data.toList)) = E at *
    go_enter Tryd.func28, Tryd.ntmps28
    go_wp2_with (go_at_call 25; refine (unhide HC).mono ?_; rintro e w2 ⟨rfl, hb2⟩)
    go_ret2
    exact ⟨rfl, hb2⟩
  | false =>
    simp only [Bool.false_eq_true, if_false]
    have HC := hide (ofTwo_mul_no s t w hs ht hb)
    clear hb htab
    go_enter Tryd.func28, Tryd.ntmps28
    go_wp2_with (go_at_call 25; refine (unhide HC).mono ?_; rintro e w2 ⟨rfl, hb2⟩)
    go_ret2
    exact ⟨rfl, hb2⟩

theorem told_right {s : ByteArray} (h : Cub.rightB s.data.toList = true) (n : Nat) (hn : n ≤ Cub.dval s.data.toList) : toldText n = Lib.decDigits n ∧ toldErr n = 0 := by
  obtain ⟨h1, h2⟩ := (Cub.rightB_iff _).1 h
  have h3 := Cub.dval_lt h1.1
  have h4 : n < 10 ^ s.data.toList.length := by omega
  have h5 := Nat.lt_of_lt_of_le h4 (Nat.pow_le_pow_right (n := 10) (by decide) h2)
  exact ⟨if_pos h5, if_pos h5⟩

/-- What Cmp answers. -/
def cmpVal (s t : ByteArray) : Int := if (Cub.rightB s.data.toList && Cub.rightB t.data.toList) = true then Cub.cmpN (Cub.dval s.data.toList) (Cub.dval t.data.toList) else 0
def cmpErr (s t : ByteArray) : Int := if (Cub.rightB s.data.toList && Cub.rightB t.data.toList) = true then 0 else 3

set_option maxRecDepth 100000 in
set_option maxHeartbeats 400000 in
theorem natCmp_any (s t : ByteArray) (w : World) (hs : s.size ≤ maxLen) (ht : t.size ≤ maxLen) :
    Calls Tryd.prog 10 #[.string s, .string t] w fun e w' => e = .returned (.tuple #[.int .i64 (cmpVal s t), .int .i64 (cmpErr s t)]) ∧ Below w.heap.size w w' := by
  unfold cmpVal cmpErr
  cases hb : (Cub.rightB s.data.toList && Cub.rightB t.data.toList) with
  | false =>
    simp only [Bool.false_eq_true, if_false]
    have HS := hide hb
    clear hb
    go_enter Tryd.func10, Tryd.ntmps10
    go_wp2_with (go_at_call 18; refine (readTwo_no s t _ hs ht (unhide HS)).mono ?_; rintro e w2 ⟨rfl, hb2⟩)
    go_ret2
    exact ⟨rfl, hb2.trans ((((Below.refl _ _).alloc (Nat.le_refl _) _).alloc (by simp) _).mono hb2.size)⟩
  | true =>
    simp only [if_true]
    rw [Bool.and_eq_true] at hb
    have HS := hide hb
    clear hb
    generalize hm : Cub.dval s.data.toList = m at *
    generalize hn : Cub.dval t.data.toList = n at *
    have HM := hide (And.intro hm hn)
    clear hm hn
    have HC := hide (fun W x y h1 h2 => cmp_any x y m n W h1 h2)
    generalize Cub.cmpN m n = c at *
    go_enter Tryd.func10, Tryd.ntmps10
    go_wp2_with (first
      | (go_at_call 18; refine (readTwo_ok s t _ (unhide HS).1 (unhide HS).2).mono ?_; rintro e w2 ⟨x, y, rfl, hx, hy, hb2⟩; rw [(unhide HM).1] at hx; rw [(unhide HM).2] at hy; obtain ⟨xa, xn, xc, rfl⟩ := hx.shape; obtain ⟨ya, yn, yc, rfl⟩ := hy.shape; have HX := hide hx; have HY := hide hy; clear hx hy)
      | (go_at_call 27; refine (unhide HC _ _ _ ((unhide HX).later (((Below.refl _ _).alloc (Nat.le_refl _) _).alloc (by simp) _)) ((unhide HY).later (((Below.refl _ _).alloc (Nat.le_refl _) _).alloc (by simp) _))).mono ?_; rintro e w4 ⟨rfl, hb4⟩; have hb5 : Below w.heap.size w w4 := hb2.trans (((((Below.refl _ _).alloc (Nat.le_refl _) _).alloc (by simp) _).trans (hb4.mono (by simp; omega))).mono hb2.size)))
    go_ret2
    exact ⟨rfl, hb5⟩
end Go.Proofs.YthcihkgellginabDoor

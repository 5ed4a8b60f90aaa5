/- nat.Mul, nat.Sub and nat.Cmp. -/
import Derived.Test.YthcihkgellginaaDoorOfTwo
import Derived.Test.YthcihkgellginaaDoorMul
import Derived.Test.YthcihkgellginaaDoorCmp
import Derived.Test.YthcihkgellginaaDoorRefOps
namespace Go.Proofs.YthcihkgellginaaDoor
open Go.RowKit

theorem prod_lt (m n k : Nat) (hm : m < 1000000000 ^ k) (hn : n < 1000000000 ^ k) : m * n < 1000000000 ^ (k + k) := by
  rw [Nat.pow_add]; exact Nat.mul_lt_mul'' hm hn

set_option maxRecDepth 100000 in
set_option maxHeartbeats 400000 in
theorem ofTwo_mul (s t : ByteArray) (w : World) (hs : Cub.rightB s.data.toList = true) (ht : Cub.rightB t.data.toList = true) (htab : Tab w) :
    Calls Tryd.prog 44 #[.string s, .string t, .func (.func 54) #[] #[]] w fun e w' => e = .returned (.tuple #[.string ⟨(toldText (Nat.mul (Cub.dval s.data.toList) (Cub.dval t.data.toList))).toArray⟩, .int .i64 (toldErr (Nat.mul (Cub.dval s.data.toList) (Cub.dval t.data.toList)))]) ∧ Below w.heap.size w w' := by
  have hK : ∃ k, 67 ≤ k ∧ k ≤ 67 := ⟨67, by decide, by decide⟩
  obtain ⟨k, hk1, hk2⟩ := hK
  have b1 := dval_lt67 hs k hk1
  have b2 := dval_lt67 ht k hk1
  have HB := hide (And.intro b1 b2)
  have HS := hide (And.intro hs ht)
  have HT := hide htab
  clear b1 b2 hs ht htab
  generalize hm : Cub.dval s.data.toList = m at *
  generalize hn : Cub.dval t.data.toList = n at *
  have HM := hide (And.intro hm hn)
  clear hm hn
  go_enter Tryd.func44, Tryd.ntmps44
  go_wp2_with (first
    | (go_at_call 49; refine (readTwo_ok s t _ (unhide HS).1 (unhide HS).2).mono ?_; rintro e w2 ⟨x, y, rfl, hx, hy, hb2⟩; rw [(unhide HM).1] at hx; rw [(unhide HM).2] at hy; obtain ⟨xa, xn, xc, rfl⟩ := hx.shape; obtain ⟨ya, yn, yc, rfl⟩ := hy.shape; have HX := hide hx; have HY := hide hy; clear hx hy)
    | (go_at_call 54; refine (mul_any _ _ m n k _ ((unhide HX).later (((Below.refl _ _).alloc (Nat.le_refl _) _).alloc (by simp) _)) ((unhide HY).later (((Below.refl _ _).alloc (Nat.le_refl _) _).alloc (by simp) _)) (by omega) (unhide HB).1 (unhide HB).2).mono ?_; rintro e w4 ⟨v, rfl, hv, hb4⟩; obtain ⟨va, vn, vc, rfl⟩ := hv.shape; have hb5 : Below w.heap.size w w4 := hb2.trans (((((Below.refl _ _).alloc (Nat.le_refl _) _).alloc (by simp) _).trans (hb4.mono (by simp; omega))).mono hb2.size); have HV := hide hv; clear hv hb4)
    | (go_at_call 51; refine (tell_any _ (Nat.mul m n) (k + k) _ (unhide HV) (by omega) (prod_lt m n k (unhide HB).1 (unhide HB).2) ((unhide HT).later hb5)).mono ?_; rintro e w6 ⟨rfl, hb6⟩; have hb7 := hb5.trans (hb6.mono hb5.size)))
  go_ret2
  exact ⟨rfl, hb7⟩

set_option maxHeartbeats 400000 in
theorem ofTwo_mul_no (s t : ByteArray) (w : World) (hs : s.size ≤ maxLen) (ht : t.size ≤ maxLen) (h : (Cub.rightB s.data.toList && Cub.rightB t.data.toList) = false) :
    Calls Tryd.prog 44 #[.string s, .string t, .func (.func 54) #[] #[]] w fun e w' => e = .returned (.tuple #[.string ⟨#[]⟩, .int .i64 3]) ∧ Below w.heap.size w w' := by
  have HS := hide h
  clear h
  go_enter Tryd.func44, Tryd.ntmps44
  go_wp2_with (go_at_call 49; refine (readTwo_no s t _ hs ht (unhide HS)).mono ?_; rintro e w2 ⟨rfl, hb2⟩)
  go_ret2
  exact ⟨rfl, hb2.trans ((((Below.refl _ _).alloc (Nat.le_refl _) _).alloc (by simp) _).mono hb2.size)⟩

/-- nat.Mul, of any two texts. -/
theorem natMul_any (s t : ByteArray) (w : World) (hs : s.size ≤ maxLen) (ht : t.size ≤ maxLen) (htab : Tab w) :
    Calls Tryd.prog 21 #[.string s, .string t] w fun e w' => e = .returned (.tuple #[.string ⟨(if (Cub.rightB s.data.toList && Cub.rightB t.data.toList) = true then toldText (Nat.mul (Cub.dval s.data.toList) (Cub.dval t.data.toList)) else []).toArray⟩, .int .i64 (if (Cub.rightB s.data.toList && Cub.rightB t.data.toList) = true then toldErr (Nat.mul (Cub.dval s.data.toList) (Cub.dval t.data.toList)) else 3)]) ∧ Below w.heap.size w w' := by
  cases hb : (Cub.rightB s.data.toList && Cub.rightB t.data.toList) with
  | true =>
    rw [Bool.and_eq_true] at hb
    simp only [if_true]
    have HC := hide (ofTwo_mul s t w hb.1 hb.2 htab)
    clear hb htab
    generalize toldText (Nat.mul (Cub.dval s.data.toList) (Cub.dval t.data.toList)) = T at *
    generalize toldErr (Nat.mul (Cub.dval s.data.toList) (Cub.dval t.data.toList)) = E at *
    go_enter Tryd.func21, Tryd.ntmps21
    go_wp2_with (go_at_call 44; refine (unhide HC).mono ?_; rintro e w2 ⟨rfl, hb2⟩)
    go_ret2
    exact ⟨rfl, hb2⟩
  | false =>
    simp only [Bool.false_eq_true, if_false]
    have HC := hide (ofTwo_mul_no s t w hs ht hb)
    clear hb htab
    go_enter Tryd.func21, Tryd.ntmps21
    go_wp2_with (go_at_call 44; refine (unhide HC).mono ?_; rintro e w2 ⟨rfl, hb2⟩)
    go_ret2
    exact ⟨rfl, hb2⟩

theorem told_right {s : ByteArray} (h : Cub.rightB s.data.toList = true) (n : Nat) (hn : n ≤ Cub.dval s.data.toList) : toldText n = Lib.decDigits n ∧ toldErr n = 0 := by
  obtain ⟨h1, h2⟩ := (Cub.rightB_iff _).1 h
  have h3 := Cub.dval_lt h1.1
  have h4 : n < 10 ^ s.data.toList.length := by omega
  have h5 := Nat.lt_of_lt_of_le h4 (Nat.pow_le_pow_right (n := 10) (by decide) h2)
  exact ⟨if_pos h5, if_pos h5⟩

set_option maxRecDepth 100000 in
set_option maxHeartbeats 400000 in
theorem natSub_any (s t : ByteArray) (w : World) (hs : s.size ≤ maxLen) (ht : t.size ≤ maxLen) (htab : Tab w) :
    Calls Tryd.prog 19 #[.string s, .string t] w fun e w' => e = .returned (.tuple #[.string ⟨(subText s t).toArray⟩, .int .i64 (subErr s t)]) ∧ Below w.heap.size w w' := by
  unfold subText subErr
  cases hb : (Cub.rightB s.data.toList && Cub.rightB t.data.toList) with
  | false =>
    simp only [Bool.false_eq_true, if_false]
    have HS := hide hb
    clear hb htab
    go_enter Tryd.func19, Tryd.ntmps19
    go_wp2_with (go_at_call 49; refine (readTwo_no s t _ hs ht (unhide HS)).mono ?_; rintro e w2 ⟨rfl, hb2⟩)
    go_ret2
    exact ⟨rfl, hb2.trans ((((Below.refl _ _).alloc (Nat.le_refl _) _).alloc (by simp) _).mono hb2.size)⟩
  | true =>
    simp only [if_true]
    rw [Bool.and_eq_true] at hb
    obtain ⟨k, hk1, hk2⟩ : ∃ k, 67 ≤ k ∧ k ≤ 67 := ⟨67, by decide, by decide⟩
    have HB := hide (And.intro (dval_lt67 hb.1 k hk1) (dval_lt67 hb.2 k hk1))
    have HT := hide htab
    have HTR := hide (fun n hn => told_right hb.1 n hn)
    have HS := hide hb
    clear hb htab
    generalize hm : Cub.dval s.data.toList = m at *
    generalize hn : Cub.dval t.data.toList = n at *
    have HM := hide (And.intro hm hn)
    clear hm hn
    by_cases hlt : m < n
    · rw [if_pos hlt, if_pos hlt]
      have HC : Hid (∀ W x y, IsBig W x m → IsBig W y n → Calls Tryd.prog 50 #[x, y] W fun e w' => e = .returned (.int .i64 (-1)) ∧ Below W.heap.size W w') := fun W x y h1 h2 => by have h := cmp_any x y m n W h1 h2; rw [Cub.cmpN_lt hlt] at h; exact h
      clear hlt
      go_enter Tryd.func19, Tryd.ntmps19
      go_wp2_with (first
        | (go_at_call 49; refine (readTwo_ok s t _ (unhide HS).1 (unhide HS).2).mono ?_; rintro e w2 ⟨x, y, rfl, hx, hy, hb2⟩; rw [(unhide HM).1] at hx; rw [(unhide HM).2] at hy; obtain ⟨xa, xn, xc, rfl⟩ := hx.shape; obtain ⟨ya, yn, yc, rfl⟩ := hy.shape; have HX := hide hx; have HY := hide hy; clear hx hy)
        | (go_at_call 50; refine (unhide HC _ _ _ ((unhide HX).later (((Below.refl _ _).alloc (Nat.le_refl _) _).alloc (by simp) _)) ((unhide HY).later (((Below.refl _ _).alloc (Nat.le_refl _) _).alloc (by simp) _))).mono ?_; rintro e w4 ⟨rfl, hb4⟩; have hb5 : Below w.heap.size w w4 := hb2.trans (((((Below.refl _ _).alloc (Nat.le_refl _) _).alloc (by simp) _).trans (hb4.mono (by simp; omega))).mono hb2.size)))
      go_ret2
      exact ⟨rfl, hb5⟩
    · rw [if_neg hlt, if_neg hlt]
      have hle : n ≤ m := by omega
      obtain ⟨c, hc⟩ : ∃ c, c = Cub.cmpN m n := ⟨_, rfl⟩
      have hc0 : 0 ≤ c := by rw [hc]; unfold Cub.cmpN; rw [if_neg hlt]; split <;> omega
      have HC : Hid (∀ W x y, IsBig W x m → IsBig W y n → Calls Tryd.prog 50 #[x, y] W fun e w' => e = .returned (.int .i64 c) ∧ Below W.heap.size W w') := fun W x y h1 h2 => by have h := cmp_any x y m n W h1 h2; rw [← hc] at h; exact h
      obtain ⟨et, ee⟩ := unhide HTR (m - n) (by omega)
      have HTell : Hid (∀ W v, IsBig W v (m - n) → Tab W → Calls Tryd.prog 51 #[v] W fun e w' => e = .returned (.tuple #[.string ⟨(Lib.decDigits (m - n)).toArray⟩, .int .i64 0]) ∧ Below W.heap.size W w') := fun W v h1 h2 => by
        have h := tell_any v (m - n) k W h1 (by omega) (by have := (unhide HB).1; omega) h2
        rw [et, ee] at h; exact h
      generalize Lib.decDigits (m - n) = T at *
      clear hlt hc et ee
      go_enter Tryd.func19, Tryd.ntmps19
      go_wp2_with (first
        | (go_at_call 49; refine (readTwo_ok s t _ (unhide HS).1 (unhide HS).2).mono ?_; rintro e w2 ⟨x, y, rfl, hx, hy, hb2⟩; rw [(unhide HM).1] at hx; rw [(unhide HM).2] at hy; obtain ⟨xa, xn, xc, rfl⟩ := hx.shape; obtain ⟨ya, yn, yc, rfl⟩ := hy.shape; have HX := hide hx; have HY := hide hy; clear hx hy)
        | (go_at_call 50; refine (unhide HC _ _ _ ((unhide HX).later (((Below.refl _ _).alloc (Nat.le_refl _) _).alloc (by simp) _)) ((unhide HY).later (((Below.refl _ _).alloc (Nat.le_refl _) _).alloc (by simp) _))).mono ?_; rintro e w4 ⟨rfl, hb4⟩; have hb5 : Below w.heap.size w w4 := hb2.trans (((((Below.refl _ _).alloc (Nat.le_refl _) _).alloc (by simp) _).trans (hb4.mono (by simp; omega))).mono hb2.size); obtain ⟨hc1, hc2⟩ := And.intro (box_later hb4 (g := w2.heap.size) (x := .slice xa xn xc) (by simp; omega) (by simp [go_sem]) (by simp [go_sem])).1 (box_later hb4 (g := w2.heap.size + 1) (x := .slice ya yn yc) (by simp) (by simp [go_sem]) (by simp [go_sem])).1; have hb24 : Below w2.heap.size w2 w4 := (((Below.refl _ _).alloc (Nat.le_refl _) _).alloc (by simp) _).trans (hb4.mono (by simp; omega)); clear hb4)
        | (go_at_call 52; refine (sub_any _ _ m n k _ ((unhide HX).later hb24) ((unhide HY).later hb24) (by omega) (unhide HB).1 hle).mono ?_; rintro e w6 ⟨v, rfl, hv, hb6⟩; obtain ⟨va, vn, vc, rfl⟩ := hv.shape; have hb7 := hb5.trans (hb6.mono hb5.size); have HV := hide hv; clear hv hb6)
        | (go_at_call 51; refine (unhide HTell _ _ (unhide HV) ((unhide HT).later hb7)).mono ?_; rintro e w8 ⟨rfl, hb8⟩; have hb9 := hb7.trans (hb8.mono hb7.size)))
      go_ret2
      exact ⟨rfl, hb9⟩

/-- What Cmp answers. -/
def cmpVal (s t : ByteArray) : Int := if (Cub.rightB s.data.toList && Cub.rightB t.data.toList) = true then Cub.cmpN (Cub.dval s.data.toList) (Cub.dval t.data.toList) else 0
def cmpErr (s t : ByteArray) : Int := if (Cub.rightB s.data.toList && Cub.rightB t.data.toList) = true then 0 else 3

set_option maxRecDepth 100000 in
set_option maxHeartbeats 400000 in
theorem natCmp_any (s t : ByteArray) (w : World) (hs : s.size ≤ maxLen) (ht : t.size ≤ maxLen) :
    Calls Tryd.prog 23 #[.string s, .string t] w fun e w' => e = .returned (.tuple #[.int .i64 (cmpVal s t), .int .i64 (cmpErr s t)]) ∧ Below w.heap.size w w' := by
  unfold cmpVal cmpErr
  cases hb : (Cub.rightB s.data.toList && Cub.rightB t.data.toList) with
  | false =>
    simp only [Bool.false_eq_true, if_false]
    have HS := hide hb
    clear hb
    go_enter Tryd.func23, Tryd.ntmps23
    go_wp2_with (go_at_call 49; refine (readTwo_no s t _ hs ht (unhide HS)).mono ?_; rintro e w2 ⟨rfl, hb2⟩)
    go_ret2
    exact ⟨rfl, hb2.trans ((((Below.refl _ _).alloc (Nat.le_refl _) _).alloc (by simp) _).mono hb2.size)⟩
  | true =>
    simp only [if_true]
    rw [Bool.and_eq_true] at hb
    have HS := hide hb
    clear hb
    generalize hm : Cub.dval s.data.toList = m at *
    generalize hn : Cub.dval t.data.toList = n at *
    have HM := hide (And.intro hm hn)
    clear hm hn
    have HC := hide (fun W x y h1 h2 => cmp_any x y m n W h1 h2)
    generalize Cub.cmpN m n = c at *
    go_enter Tryd.func23, Tryd.ntmps23
    go_wp2_with (first
      | (go_at_call 49; refine (readTwo_ok s t _ (unhide HS).1 (unhide HS).2).mono ?_; rintro e w2 ⟨x, y, rfl, hx, hy, hb2⟩; rw [(unhide HM).1] at hx; rw [(unhide HM).2] at hy; obtain ⟨xa, xn, xc, rfl⟩ := hx.shape; obtain ⟨ya, yn, yc, rfl⟩ := hy.shape; have HX := hide hx; have HY := hide hy; clear hx hy)
      | (go_at_call 50; refine (unhide HC _ _ _ ((unhide HX).later (((Below.refl _ _).alloc (Nat.le_refl _) _).alloc (by simp) _)) ((unhide HY).later (((Below.refl _ _).alloc (Nat.le_refl _) _).alloc (by simp) _))).mono ?_; rintro e w4 ⟨rfl, hb4⟩; have hb5 : Below w.heap.size w w4 := hb2.trans (((((Below.refl _ _).alloc (Nat.le_refl _) _).alloc (by simp) _).trans (hb4.mono (by simp; omega))).mono hb2.size)))
    go_ret2
    exact ⟨rfl, hb5⟩
end Go.Proofs.YthcihkgellginaaDoor

/- nat.ofTwo and what it is handed: nat.Add. -/
import Derived.Test.YthcihkgellginaaDoorTell
import Derived.Test.YthcihkgellginaaDoorAdd
namespace Go.Proofs.YthcihkgellginaaDoor
open Go.RowKit

theorem dval_lt_limbs (l : List UInt8) (k : Nat) (h : Cub.digs l) (hk : l.length ≤ 9 * k) : Cub.dval l < 1000000000 ^ k := by
  have h3 := Cub.dval_lt h
  have h4 : 10 ^ l.length ≤ 10 ^ (9 * k) := Nat.pow_le_pow_right (by decide) hk
  rw [Cub.pow9] at h4
  exact Nat.lt_of_lt_of_le h3 h4
theorem dval_lt67 {s : ByteArray} (h : Cub.rightB s.data.toList = true) (k : Nat) (hk : 67 ≤ k) : Cub.dval s.data.toList < 1000000000 ^ k := by
  obtain ⟨h1, h2⟩ := (Cub.rightB_iff _).1 h
  exact dval_lt_limbs _ k h1.1 (by omega)
theorem sum_lt (m n k : Nat) (hm : m < 1000000000 ^ k) (hn : n < 1000000000 ^ k) : m + n < 1000000000 ^ (k + 1) := by
  rw [Nat.pow_succ]; omega

set_option maxRecDepth 100000 in
set_option maxHeartbeats 400000 in
theorem ofTwo_add (s t : ByteArray) (w : World) (hs : Cub.rightB s.data.toList = true) (ht : Cub.rightB t.data.toList = true) (htab : Tab w) :
    Calls Tryd.prog 44 #[.string s, .string t, .func (.func 45) #[] #[]] w fun e w' => e = .returned (.tuple #[.string ⟨(toldText (Nat.add (Cub.dval s.data.toList) (Cub.dval t.data.toList))).toArray⟩, .int .i64 (toldErr (Nat.add (Cub.dval s.data.toList) (Cub.dval t.data.toList)))]) ∧ Below w.heap.size w w' := by
  have hK : ∃ k, 67 ≤ k ∧ k ≤ 67 := ⟨67, by decide, by decide⟩
  obtain ⟨k, hk1, hk2⟩ := hK
  have b1 := dval_lt67 hs k hk1
  have b2 := dval_lt67 ht k hk1
  have HB := hide (And.intro b1 b2)
  have HS := hide (And.intro hs ht)
  have HT := hide htab
  clear b1 b2 hs ht htab
  generalize hm : Cub.dval s.data.toList = m at *
  generalize hn : Cub.dval t.data.toList = n at *
  have HM := hide (And.intro hm hn)
  clear hm hn
  go_enter Tryd.func44, Tryd.ntmps44
  go_wp2_with (first
    | (go_at_call 49; refine (readTwo_ok s t _ (unhide HS).1 (unhide HS).2).mono ?_; rintro e w2 ⟨x, y, rfl, hx, hy, hb2⟩; rw [(unhide HM).1] at hx; rw [(unhide HM).2] at hy; obtain ⟨xa, xn, xc, rfl⟩ := hx.shape; obtain ⟨ya, yn, yc, rfl⟩ := hy.shape; have HX := hide hx; have HY := hide hy; clear hx hy)
    | (go_at_call 45; refine (add_any _ _ m n k _ ((unhide HX).later (((Below.refl _ _).alloc (Nat.le_refl _) _).alloc (by simp) _)) ((unhide HY).later (((Below.refl _ _).alloc (Nat.le_refl _) _).alloc (by simp) _)) (by omega) (unhide HB).1 (unhide HB).2).mono ?_; rintro e w4 ⟨v, rfl, hv, hb4⟩; obtain ⟨va, vn, vc, rfl⟩ := hv.shape; have hb5 : Below w.heap.size w w4 := hb2.trans (((((Below.refl _ _).alloc (Nat.le_refl _) _).alloc (by simp) _).trans (hb4.mono (by simp; omega))).mono hb2.size); have HV := hide hv; clear hv hb4)
    | (go_at_call 51; refine (tell_any _ (Nat.add m n) (k + 1) _ (unhide HV) (by omega) (sum_lt m n k (unhide HB).1 (unhide HB).2) ((unhide HT).later hb5)).mono ?_; rintro e w6 ⟨rfl, hb6⟩; have hb7 := hb5.trans (hb6.mono hb5.size)))
  go_ret2
  exact ⟨rfl, hb7⟩

set_option maxHeartbeats 400000 in
theorem ofTwo_add_no (s t : ByteArray) (w : World) (hs : s.size ≤ maxLen) (ht : t.size ≤ maxLen) (h : (Cub.rightB s.data.toList && Cub.rightB t.data.toList) = false) :
    Calls Tryd.prog 44 #[.string s, .string t, .func (.func 45) #[] #[]] w fun e w' => e = .returned (.tuple #[.string ⟨#[]⟩, .int .i64 3]) ∧ Below w.heap.size w w' := by
  have HS := hide h
  clear h
  go_enter Tryd.func44, Tryd.ntmps44
  go_wp2_with (go_at_call 49; refine (readTwo_no s t _ hs ht (unhide HS)).mono ?_; rintro e w2 ⟨rfl, hb2⟩)
  go_ret2
  exact ⟨rfl, hb2.trans ((((Below.refl _ _).alloc (Nat.le_refl _) _).alloc (by simp) _).mono hb2.size)⟩

/-- nat.Add, of any two texts. -/
theorem natAdd_any (s t : ByteArray) (w : World) (hs : s.size ≤ maxLen) (ht : t.size ≤ maxLen) (htab : Tab w) :
    Calls Tryd.prog 17 #[.string s, .string t] w fun e w' => e = .returned (.tuple #[.string ⟨(if (Cub.rightB s.data.toList && Cub.rightB t.data.toList) = true then toldText (Nat.add (Cub.dval s.data.toList) (Cub.dval t.data.toList)) else []).toArray⟩, .int .i64 (if (Cub.rightB s.data.toList && Cub.rightB t.data.toList) = true then toldErr (Nat.add (Cub.dval s.data.toList) (Cub.dval t.data.toList)) else 3)]) ∧ Below w.heap.size w w' := by
  cases hb : (Cub.rightB s.data.toList && Cub.rightB t.data.toList) with
  | true =>
    rw [Bool.and_eq_true] at hb
    simp only [if_true]
    have HC := hide (ofTwo_add s t w hb.1 hb.2 htab)
    clear hb htab
    generalize toldText (Nat.add (Cub.dval s.data.toList) (Cub.dval t.data.toList)) = T at *
    generalize toldErr (Nat.add (Cub.dval s.data.toList) (Cub.dval t.data.toList)) = E at *
    go_enter Tryd.func17, Tryd.ntmps17
    go_wp2_with (go_at_call 44; refine (unhide HC).mono ?_; rintro e w2 ⟨rfl, hb2⟩)
    go_ret2
    exact ⟨rfl, hb2⟩
  | false =>
    simp only [Bool.false_eq_true, if_false]
    have HC := hide (ofTwo_add_no s t w hs ht hb)
    clear hb htab
    go_enter Tryd.func17, Tryd.ntmps17
    go_wp2_with (go_at_call 44; refine (unhide HC).mono ?_; rintro e w2 ⟨rfl, hb2⟩)
    go_ret2
    exact ⟨rfl, hb2⟩
end Go.Proofs.YthcihkgellginaaDoor

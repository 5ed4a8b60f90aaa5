/- nat.Gcd, of any two texts. -/
import Derived.Test.YthcihkgellginaaDoorGcd
import Derived.Test.YthcihkgellginaaDoorDivOps
import Derived.Test.YthcihkgellginaaDoorNatOps
namespace Go.Proofs.YthcihkgellginaaDoor
open Go.RowKit

theorem div_ok (k : Nat) (hk : k ≤ 500000) : DivOK k := fun W x y m n hx hy hm hn => divMod_any x y m n k W hx hy hk hm hn

def gcdText (s t : ByteArray) : List UInt8 := if (Cub.rightB s.data.toList && Cub.rightB t.data.toList) = true then Lib.decDigits (Nat.gcd (val s) (val t)) else []
def gcdErr (s t : ByteArray) : Int := if (Cub.rightB s.data.toList && Cub.rightB t.data.toList) = true then 0 else 3

theorem gcd_le (m n : Nat) : Nat.gcd m n ≤ m ∨ Nat.gcd m n ≤ n := by
  rcases Nat.eq_zero_or_pos m with h | h
  · subst h; rw [Nat.gcd_zero_left]; exact .inr (Nat.le_refl _)
  · exact .inl (Nat.gcd_le_left _ h)
theorem gcd_told {s t : ByteArray} (hs : Cub.rightB s.data.toList = true) (ht : Cub.rightB t.data.toList = true) : toldText (Nat.gcd (val s) (val t)) = Lib.decDigits (Nat.gcd (val s) (val t)) ∧ toldErr (Nat.gcd (val s) (val t)) = 0 := by
  rcases gcd_le (val s) (val t) with h | h
  · exact told_right hs _ h
  · exact told_right ht _ h

set_option maxRecDepth 100000 in
set_option maxHeartbeats 400000 in
theorem ofTwo_gcd (s t : ByteArray) (w : World) (hs : Cub.rightB s.data.toList = true) (ht : Cub.rightB t.data.toList = true) (htab : Tab w) :
    Calls Tryd.prog 44 #[.string s, .string t, .func (.func 60) #[] #[]] w fun e w' => e = .returned (.tuple #[.string ⟨(toldText (Nat.gcd (val s) (val t))).toArray⟩, .int .i64 (toldErr (Nat.gcd (val s) (val t)))]) ∧ Below w.heap.size w w' := by
  have hK : ∃ k, 67 ≤ k ∧ k ≤ 67 := ⟨67, by decide, by decide⟩
  obtain ⟨k, hk1, hk2⟩ := hK
  have b1 : val s < 1000000000 ^ k := dval_lt67 hs k hk1
  have b2 : val t < 1000000000 ^ k := dval_lt67 ht k hk1
  have HB := hide (And.intro b1 b2)
  have HG : Hid (Nat.gcd (val s) (val t) < 1000000000 ^ k) := by
    show _ < _
    rcases gcd_le (val s) (val t) with h | h
    · exact Nat.lt_of_le_of_lt h b1
    · exact Nat.lt_of_le_of_lt h b2
  have HD := hide (div_ok k (by omega))
  have H49 := hide (fun W => readTwo_ok s t W hs ht)
  have e1 : Cub.dval s.data.toList = val s := rfl
  have e2 : Cub.dval t.data.toList = val t := rfl
  rw [e1, e2] at H49
  have HT := hide htab
  clear b1 b2 hs ht htab e1 e2
  generalize val s = m at *
  generalize val t = n at *
  have H60 := hide (fun W x y hx hy => gcd_any x y m n k W hx hy (by omega) (unhide HB).1 (unhide HB).2 (unhide HD))
  generalize Nat.gcd m n = G at *
  go_enter Tryd.func44, Tryd.ntmps44
  go_wp2_with (first
    | (go_at_call 49; refine (unhide H49 _).mono ?_; rintro e w2 ⟨x, y, rfl, hx, hy, hb2⟩; obtain ⟨xa, xn, xc, rfl⟩ := hx.shape; obtain ⟨ya, yn, yc, rfl⟩ := hy.shape; have HX := hide hx; have HY := hide hy; clear hx hy)
    | (go_at_call 60; refine (unhide H60 _ _ _ ((unhide HX).later (((Below.refl _ _).alloc (Nat.le_refl _) _).alloc (by simp) _)) ((unhide HY).later (((Below.refl _ _).alloc (Nat.le_refl _) _).alloc (by simp) _))).mono ?_; rintro e w4 ⟨va, vn, vc, rfl, hv, hb4⟩; have hb5 : Below w.heap.size w w4 := hb2.trans (((((Below.refl _ _).alloc (Nat.le_refl _) _).alloc (by simp) _).trans (hb4.mono (by simp; omega))).mono hb2.size); have HV := hide hv; clear hv hb4)
    | (go_at_call 51; refine (tell_any _ G k _ (unhide HV) (by omega) (unhide HG) ((unhide HT).later hb5)).mono ?_; rintro e w6 ⟨rfl, hb6⟩; have hb7 := hb5.trans (hb6.mono hb5.size)))
  go_ret2
  exact ⟨rfl, hb7⟩

set_option maxHeartbeats 400000 in
theorem ofTwo_gcd_no (s t : ByteArray) (w : World) (hs : s.size ≤ maxLen) (ht : t.size ≤ maxLen) (h : (Cub.rightB s.data.toList && Cub.rightB t.data.toList) = false) :
    Calls Tryd.prog 44 #[.string s, .string t, .func (.func 60) #[] #[]] w fun e w' => e = .returned (.tuple #[.string ⟨#[]⟩, .int .i64 3]) ∧ Below w.heap.size w w' := by
  have HS := hide h
  clear h
  go_enter Tryd.func44, Tryd.ntmps44
  go_wp2_with (go_at_call 49; refine (readTwo_no s t _ hs ht (unhide HS)).mono ?_; rintro e w2 ⟨rfl, hb2⟩)
  go_ret2
  exact ⟨rfl, hb2.trans ((((Below.refl _ _).alloc (Nat.le_refl _) _).alloc (by simp) _).mono hb2.size)⟩

theorem natGcd_any (s t : ByteArray) (w : World) (hs : s.size ≤ maxLen) (ht : t.size ≤ maxLen) (htab : Tab w) :
    Calls Tryd.prog 27 #[.string s, .string t] w fun e w' => e = .returned (.tuple #[.string ⟨(gcdText s t).toArray⟩, .int .i64 (gcdErr s t)]) ∧ Below w.heap.size w w' := by
  unfold gcdText gcdErr
  cases hb : (Cub.rightB s.data.toList && Cub.rightB t.data.toList) with
  | true =>
    rw [Bool.and_eq_true] at hb
    simp only [if_true]
    have h := ofTwo_gcd s t w hb.1 hb.2 htab
    rw [(gcd_told hb.1 hb.2).1, (gcd_told hb.1 hb.2).2] at h
    have HC := hide h
    clear h hb htab
    generalize Lib.decDigits (Nat.gcd (val s) (val t)) = T at *
    go_enter Tryd.func27, Tryd.ntmps27
    go_wp2_with (go_at_call 44; refine (unhide HC).mono ?_; rintro e w2 ⟨rfl, hb2⟩)
    go_ret2
    exact ⟨rfl, hb2⟩
  | false =>
    simp only [Bool.false_eq_true, if_false]
    have HC := hide (ofTwo_gcd_no s t w hs ht hb)
    clear hb htab
    go_enter Tryd.func27, Tryd.ntmps27
    go_wp2_with (go_at_call 44; refine (unhide HC).mono ?_; rintro e w2 ⟨rfl, hb2⟩)
    go_ret2
    exact ⟨rfl, hb2⟩
end Go.Proofs.YthcihkgellginaaDoor

/- The texts of a continued fraction. -/
import Derived.Test.YtndhinoomlofgaaGreatDoorTx
import Derived.Test.YtndhinoomlofgaaGreatDoorRefLess
import Derived.Test.YtndhinoomlofgaaGreatDoorRefMinus
import Derived.Test.YtndhinoomlofgaaGreatDoorRefNew
import Derived.Test.YtndhinoomlofgaaGreatDoorBigOf
import Derived.Test.YtndhinoomlofgaaGreatDoorCardRows
import Derived.Test.YtndhinoomlofgaaGreatDoorRefText2
namespace Go.Proofs.YtndhinoomlofgaaGreatDoor
open Go.RowKit

/-- A number's text. -/
def tx (n : Nat) : ByteArray := ⟨(Lib.decDigits n).toArray⟩
theorem tx_list (n : Nat) : (tx n).data.toList = Lib.decDigits n := rfl
theorem tx_val (n : Nat) : val (tx n) = n := Cub.dval_dec n
theorem tx_nat (n : Nat) : Cub.isNat (tx n).data.toList := Cub.isNat_dec n
theorem tx_tb (n : Nat) (h : n < 10 ^ 600) : tb n = tx n := (mk_tb n h).symm
theorem tx_size {d n : Nat} (hd : 1 ≤ d) (h : n < 10 ^ d) : (tx n).size ≤ d := by
  have := (Cub.dec_len_lt n d hd).2 h
  rw [← tx_list, list_len] at this
  exact this
theorem tx_zero : ((tx 0).toList == [48]) = true := by
  rw [Lib.toList_data, tx_list, dec_zero]; rfl
theorem tx_pos (n : Nat) (h0 : 0 < n) : ((tx n).toList == [48]) = false := by
  rw [Lib.toList_data, tx_list, beq_eq_false_iff_ne]
  intro e
  rw [← dec_zero] at e
  have := Cub.dec_inj e
  omega
theorem refDivideM (d m n : Nat) (w : World) (hd1 : 1 ≤ d) (hd : d ≤ 5000) (hm : m < 10 ^ d) (hn : n < 10 ^ d) (h0 : 0 < n) :
    Calls Tryz.prog 121 #[.string (tx m), .string (tx n)] w fun e w' => e = .returned (.tuple #[.string (tx (m / n)), .string (tx (m % n))]) ∧ Below w.heap.size w w' := by
  have h := refDivideG (tx m) (tx n) w (tx_nat m) (tx_nat n) (Nat.le_trans (tx_size hd1 hm) hd) (Nat.le_trans (tx_size hd1 hn) hd) (by rw [tx_val]; exact h0)
  rw [tx_val, tx_val] at h
  exact h
theorem refPlusM (d m n : Nat) (w : World) (hd1 : 1 ≤ d) (hd : d ≤ 5000) (hm : m < 10 ^ d) (hn : n < 10 ^ d) :
    Calls Tryz.prog 122 #[.string (tx m), .string (tx n)] w fun e w' => e = .returned (.string (tx (m + n))) ∧ Below w.heap.size w w' := by
  have s1 := tx_size hd1 hm
  have s2 := tx_size hd1 hn
  have h := refPlus_any (tx m) (tx n) w (by omega) (by omega) (tx_nat m).1 (tx_nat n).1
  rw [show Cub.dval (tx m).data.toList = m from tx_val m, show Cub.dval (tx n).data.toList = n from tx_val n] at h
  exact h
theorem refMinusM (d m n : Nat) (w : World) (hd1 : 1 ≤ d) (hd : d ≤ 5000) (hm : m < 10 ^ d) (hn : n < 10 ^ d) (hle : n ≤ m) :
    Calls Tryz.prog 123 #[.string (tx m), .string (tx n)] w fun e w' => e = .returned (.string (tx (m - n))) ∧ Below w.heap.size w w' := by
  have s1 := tx_size hd1 hm
  have s2 := tx_size hd1 hn
  have e1 : Cub.dval (tx m).data.toList = m := tx_val m
  have e2 : Cub.dval (tx n).data.toList = n := tx_val n
  have h := refMinus_any (tx m) (tx n) w (by omega) (by omega) (tx_nat m).1 (tx_nat n).1 (by rw [e1, e2]; exact hle)
  rw [e1, e2] at h
  exact h

set_option maxRecDepth 100000 in
set_option maxHeartbeats 400000 in
theorem refTimesS_any (s t : ByteArray) (w : World) (hs : s.size ≤ 100000) (ht : t.size ≤ 100000) (hds : Cub.digs s.data.toList) (hdt : Cub.digs t.data.toList) :
    Calls Tryz.prog 125 #[.string s, .string t] w fun e w' => e = .returned (.string ⟨(Lib.decDigits (Cub.dval s.data.toList * Cub.dval t.data.toList)).toArray⟩) ∧ Below w.heap.size w w' := by
  have HDS := hide hds
  have HDT := hide hdt
  clear hds hdt
  go_enter Tryz.func125, Tryz.ntmps125
  go_wp2_with (first
    | (go_at_call_of 159 s; refine (refLimbs_any s _ (by omega) (unhide HDS)).mono ?_; rintro e w1 ⟨vx, lx, rfl, hox, hnx, hvx, hb1⟩; have HX := hide (And.intro hnx (And.intro hvx hox)); have hbx : lx.length ≤ 100000 := (by have := Cub.len_le4 (unhide HDS) hnx hvx; rw [list_len] at this; omega); clear hnx hvx hox)
    | (go_at_call_of 159 t; refine (refLimbs_any t _ (by omega) (unhide HDT)).mono ?_; rintro e w2 ⟨vy, ly, rfl, hoy, hny, hvy, hb2⟩; have HY := hide (And.intro hny (And.intro hvy hoy)); have hby : ly.length ≤ 100000 := (by have := Cub.len_le4 (unhide HDT) hny hvy; rw [list_len] at this; omega); clear hny hvy hoy)
    | (go_at_call 165; refine (refTimes_any vx vy _ _ lx ly _ ((unhide HX).2.2.later hb2) (unhide HY).2.2 (unhide HX).1.1 (unhide HY).1.1 (by omega) (by omega)).mono ?_; rintro e w3 ⟨vz, lz, rfl, hoz, hnz, hvz, hlz, hb3⟩; have HZ := hide (And.intro hnz (And.intro hvz hoz)); clear hnz hvz hoz)
    | (go_at_call 163; refine (refText_any _ _ _ _ (unhide HZ).2.2 (unhide HZ).1 (by omega)).mono ?_; rintro e w4 ⟨rfl, hb4⟩))
  go_ret
  have hb12 := hb1.trans (hb2.mono hb1.size)
  have hb13 := hb12.trans (hb3.mono hb12.size)
  exact ⟨by rw [← (unhide HX).2.1, ← (unhide HY).2.1, ← (unhide HZ).2.1]; rfl, hb13.trans (hb4.mono hb13.size)⟩
theorem refTimesM (d m n : Nat) (w : World) (hd1 : 1 ≤ d) (hd : d ≤ 5000) (hm : m < 10 ^ d) (hn : n < 10 ^ d) :
    Calls Tryz.prog 125 #[.string (tx m), .string (tx n)] w fun e w' => e = .returned (.string (tx (m * n))) ∧ Below w.heap.size w w' := by
  have s1 := tx_size hd1 hm
  have s2 := tx_size hd1 hn
  have h := refTimesS_any (tx m) (tx n) w (by omega) (by omega) (tx_nat m).1 (tx_nat n).1
  rw [show Cub.dval (tx m).data.toList = m from tx_val m, show Cub.dval (tx n).data.toList = n from tx_val n] at h
  exact h
/-- How far Euclid's steps have come. -/
def ComInvM (d M N m n : Nat) (a b : ByteArray) : Prop := a = tx m ∧ b = tx n ∧ m < 10 ^ d ∧ n < 10 ^ d ∧ Nat.gcd m n = Nat.gcd M N

set_option maxRecDepth 100000 in
set_option maxHeartbeats 400000 in
theorem refCommonM (d M N : Nat) (w : World) (hd1 : 1 ≤ d) (hd : d ≤ 5000) (hM : M < 10 ^ d) (hN : N < 10 ^ d) :
    Calls Tryz.prog 79 #[.string (tx M), .string (tx N)] w fun e w' => e = .returned (.string (tx (Nat.gcd M N))) ∧ Below w.heap.size w w' := by
  have HI : Hid (ComInvM d M N M N (tx M) (tx N)) := ⟨rfl, rfl, hM, hN, rfl⟩
  have HD : Hid (∀ m n (a b : ByteArray), ComInvM d M N m n a b → 0 < n → ∃ c r : ByteArray, ComInvM d M N n (m % n) b r ∧ ∀ W, Calls Tryz.prog 121 #[.string a, .string b] W fun e w' => e = .returned (.tuple #[.string c, .string r]) ∧ Below W.heap.size W w') := fun m n a b h h0 => by
    obtain ⟨rfl, rfl, hm, hn, hg⟩ := h
    refine ⟨tx (m / n), tx (m % n), ⟨rfl, rfl, hn, mod_lt' m n d hm, ?_⟩, fun W => refDivideM d m n W hd1 hd hm hn h0⟩
    rw [← hg, Nat.gcd_comm m n, Nat.gcd_rec n m, Nat.gcd_comm]
  have HZ : Hid (∀ m n (a b : ByteArray), ComInvM d M N m n a b → 0 < n → (b.toList == [48]) = false) := fun m n a b h h0 => by
    obtain ⟨rfl, rfl, hm, hn, hg⟩ := h
    exact tx_pos n h0
  have HE : Hid (∀ m (a b : ByteArray), ComInvM d M N m 0 a b → (b.toList == [48]) = true ∧ a = tx (Nat.gcd M N)) := fun m a b h => by
    obtain ⟨rfl, rfl, hm, hn, hg⟩ := h
    rw [Nat.gcd_zero_right] at hg
    exact ⟨tx_zero, by rw [← hg]⟩
  generalize tx M = a0 at *
  generalize tx N = b0 at *
  clear hM hN hd1 hd
  go_enter Tryz.func79, Tryz.ntmps79
  go_wp2
  go_loopg [0, 1] N (fun z v0 v1 wr => ∃ (m n : Nat) (a b : ByteArray), v0 = .string a ∧ v1 = .string b ∧ Hid (z = n) ∧ Hid (ComInvM d M N m n a b) ∧ Hid (Below w.heap.size w wr))
  case atStart => exact ⟨M, N, a0, b0, rfl, rfl, rfl, HI, Below.refl _ _⟩
  case round =>
    obtain ⟨m, n, a, b, rfl, rfl, HK, HC, HW⟩ := hrel
    clear HI
    rcases Nat.eq_zero_or_pos n with h0 | h0
    · subst h0
      obtain ⟨e1, e2⟩ := unhide HE m a b (unhide HC)
      have HV := hide e2
      clear e2 HE HD HZ HC
      go_wp2_with fail
      go_ret
      exact ⟨by rw [← unhide HV]; rfl, unhide HW⟩
    · have e1 := unhide HZ m n a b (unhide HC) h0
      obtain ⟨c, r, hc, hd⟩ := unhide HD m n a b (unhide HC) h0
      have HC2 := hide hc
      have HD2 := hide hd
      have HLT : Hid (m % n < n) := Nat.mod_lt _ h0
      clear hc hd HE HD HZ HC h0
      go_wp2_with (go_at_call 121; go_must (refine (unhide HD2 wr).mono ?_; rintro e w2 ⟨rfl, hb2⟩; have HW2 := hide ((unhide HW).trans (hb2.mono (unhide HW).size)); clear hb2))
      go_roundg (m % n)
      case measure => have := unhide HK; have := unhide HLT; omega
      case rel => exact ⟨n, m % n, b, r, rfl, rfl, rfl, HC2, HW2⟩

set_option maxRecDepth 100000 in
set_option maxHeartbeats 2000000 in
theorem refLowestM (d : Nat) (b : Bool) (m n : Nat) (w : World) (hd1 : 1 ≤ d) (hd : d ≤ 5000) (hm : m < 10 ^ d) (hn : n < 10 ^ d) (hn0 : n ≠ 0) :
    Calls Tryz.prog 77 #[.bool b, .string (tx m), .string (tx n)] w fun r w' => r = .returned (.agg #[.bool (b && decide (m / Nat.gcd m n ≠ 0)), .string (tx (m / Nat.gcd m n)), .string (tx (n / Nat.gcd m n))]) ∧ Below w.heap.size w w' := by
  obtain ⟨V, hV⟩ : ∃ V, V = w.alloc (.cells #[.bool false, .string ⟨#[]⟩, .string ⟨#[]⟩] 61) := ⟨_, rfl⟩
  have hbV : Below w.heap.size w V := by rw [hV]; exact (Below.refl _ _).alloc (Nat.le_refl _) _
  have HR : Hid (FBox V w.heap.size (.bool false) (.string ⟨#[]⟩) (.string ⟨#[]⟩) ∧ Below w.heap.size w V) := ⟨by rw [hV]; exact ⟨by simp [go_sem], by simp [go_sem], by simp [go_sem], by simp [go_sem], by simp [go_sem], by simp [go_sem]⟩, hbV⟩
  have HV := hide hV
  by_cases h0 : m = 0
  · subst h0
    have z : ((tx 0).toList == [48]) = true := by exact tx_zero
    have e0 : (⟨#[48]⟩ : ByteArray) = tx 0 := by rw [← tx_tb 0 (pos10 600)]; exact (lit_tb ⟨#[48]⟩ 0 (by decide) (by decide)).1
    have e1 : (⟨#[49]⟩ : ByteArray) = tx 1 := by rw [← tx_tb 1 (lit_tb ⟨#[49]⟩ 1 (by decide) (by decide)).2]; exact (lit_tb ⟨#[49]⟩ 1 (by decide) (by decide)).1
    have HE : Hid ((Value.agg #[.bool (b && decide (0 / Nat.gcd 0 n ≠ 0)), .string (tx (0 / Nat.gcd 0 n)), .string (tx (n / Nat.gcd 0 n))]) = .agg #[.bool false, .string ⟨#[48]⟩, .string ⟨#[49]⟩]) := by
      show _ = _
      rw [Nat.gcd_zero_left, Nat.zero_div, Nat.div_self (by omega), ← e0, ← e1]; simp
    rw [unhide HE]
    clear e0 e1 hbV hm hn hn0 HE hd1 hd
    generalize tx 0 = s0 at *
    generalize tx n = sn at *
    go_enter Tryz.func77, Tryz.ntmps77
    go_upto_region 1 with fail
    rw [← unhide HV]
    clear hV HV
    have r0 := (unhide HR).1.c0; have r1 := (unhide HR).1.c1; have r2 := (unhide HR).1.c2; have rf0 := (unhide HR).1.f0; have rf1 := (unhide HR).1.f1; have rf2 := (unhide HR).1.f2
    go_wp2_with fail
    have hS := (unhide HR).1.store (.bool false) (.string ⟨#[48]⟩) (.string ⟨#[49]⟩)
    have hb : Below w.heap.size w (store3 V w.heap.size (.bool false) (.string ⟨#[48]⟩) (.string ⟨#[49]⟩)) := below_store3 (unhide HR).2 (Nat.le_refl _) _ _ _
    have u0 := hS.c0; have u1 := hS.c1; have u2 := hS.c2
    exact bodyPost_ret (v := .agg #[.bool false, .string ⟨#[48]⟩, .string ⟨#[49]⟩]) (w := store3 V w.heap.size (.bool false) (.string ⟨#[48]⟩) (.string ⟨#[49]⟩)) (by simp [results, Tryz.results77, go_sem, u0, u1, u2]) rfl ⟨rfl, hb⟩
  · have z : ((tx m).toList == [48]) = false := by exact tx_pos m (by omega)
    have hg0 : 0 < Nat.gcd m n := Nat.gcd_pos_of_pos_right _ (by omega)
    have hgl : Nat.gcd m n < 10 ^ d := Nat.lt_of_le_of_lt (Nat.gcd_le_right _ (by omega)) hn
    have hq0 : m / Nat.gcd m n ≠ 0 := by
      have := Nat.div_pos (Nat.gcd_le_left n (by omega : 0 < m)) hg0
      omega
    have HCM := hide (fun W => refCommonM d m n W hd1 hd hm hn)
    have HD1 := hide (fun W => refDivideM d m (Nat.gcd m n) W hd1 hd hm hgl hg0)
    have HD2 := hide (fun W => refDivideM d n (Nat.gcd m n) W hd1 hd hn hgl hg0)
    have HE : Hid ((b && decide (m / Nat.gcd m n ≠ 0)) = b) := by show _ = _; simp [hq0]
    rw [unhide HE]
    clear hbV hm hn hn0 HE hg0 hgl hq0 h0 hd1 hd
    generalize tx (m / Nat.gcd m n) = q1 at *
    generalize tx (n / Nat.gcd m n) = q2 at *
    generalize tx (m % Nat.gcd m n) = q3 at *
    generalize tx (n % Nat.gcd m n) = q4 at *
    generalize tx (Nat.gcd m n) = sg at *
    generalize tx m = sm at *
    generalize tx n = sn at *
    go_enter Tryz.func77, Tryz.ntmps77
    go_upto_region 1 with fail
    rw [← unhide HV]
    clear hV HV
    go_upto_region 4 with (go_at_call 79; go_must (refine (unhide HCM _).mono ?_; rintro e w1 ⟨rfl, hb1⟩; have HR1 : Hid (FBox w1 w.heap.size (.bool false) (.string ⟨#[]⟩) (.string ⟨#[]⟩) ∧ Below w.heap.size w w1) := ⟨(unhide HR).1.later hb1, (unhide HR).2.trans (hb1.mono (unhide HR).2.size)⟩; clear hb1))
    go_upto_region 5 with (go_at_call 121; go_must (refine (unhide HD1 _).mono ?_; rintro e w2 ⟨rfl, hb2⟩; have HR2 : Hid (FBox w2 w.heap.size (.bool false) (.string ⟨#[]⟩) (.string ⟨#[]⟩) ∧ Below w.heap.size w w2) := ⟨(unhide HR1).1.later hb2, (unhide HR1).2.trans (hb2.mono (unhide HR1).2.size)⟩; clear hb2))
    go_upto_region 6 with (go_at_call 121; go_must (refine (unhide HD2 _).mono ?_; rintro e w3 ⟨rfl, hb3⟩; have HR3 : Hid (FBox w3 w.heap.size (.bool false) (.string ⟨#[]⟩) (.string ⟨#[]⟩) ∧ Below w.heap.size w w3) := ⟨(unhide HR2).1.later hb3, (unhide HR2).2.trans (hb3.mono (unhide HR2).2.size)⟩; clear hb3))
    have r0 := (unhide HR3).1.c0; have r1 := (unhide HR3).1.c1; have r2 := (unhide HR3).1.c2; have rf0 := (unhide HR3).1.f0; have rf1 := (unhide HR3).1.f1; have rf2 := (unhide HR3).1.f2
    go_wp2_with fail
    have hS := (unhide HR3).1.store (.bool b) (.string q1) (.string q2)
    have hb : Below w.heap.size w (store3 w3 w.heap.size (.bool b) (.string q1) (.string q2)) := below_store3 (unhide HR3).2 (Nat.le_refl _) _ _ _
    have u0 := hS.c0; have u1 := hS.c1; have u2 := hS.c2
    exact bodyPost_ret (v := .agg #[.bool b, .string q1, .string q2]) (w := store3 w3 w.heap.size (.bool b) (.string q1) (.string q2)) (by simp [results, Tryz.results77, go_sem, u0, u1, u2]) rfl ⟨rfl, hb⟩

end Go.Proofs.YtndhinoomlofgaaGreatDoor

namespace Cub
/-- The whole parts that two numbers a / b, c / d share, and the least whole number where they part. -/
inductive CF : Nat → Nat → Nat → Nat → List Nat → Prop
  | whole {a b c d : Nat} (h : a % b = 0) : CF a b c d [a / b]
  | least {a b c d : Nat} (h : a % b ≠ 0) (h2 : a / b < c / d) : CF a b c d [a / b + 1]
  | on {a b c d : Nat} {ts : List Nat} (h : a % b ≠ 0) (h2 : ¬ a / b < c / d) (r : CF d (c % d) b (a % b) ts) : CF a b c d (a / b :: ts)
/-- What a chain comes to: above and below. -/
def pr : List Nat → Nat × Nat
  | [] => (1, 0)
  | t :: ts => (t * (pr ts).1 + (pr ts).2, (pr ts).1)
theorem CF.ne {a b c d : Nat} {ts : List Nat} (h : CF a b c d ts) : ts ≠ [] := by cases h <;> simp
/-- The two are in their order. -/
structure Ord (a b c d : Nat) : Prop where
  b0 : 0 < b
  d0 : 0 < d
  le : a * d ≤ c * b
theorem Ord.div {a b c d : Nat} (h : Ord a b c d) : a / b ≤ c / d := by
  rw [Nat.le_div_iff_mul_le h.d0]
  have h1 : a / b * b ≤ a := Nat.div_mul_le_self a b
  refine Nat.le_of_mul_le_mul_right ?_ h.b0
  calc a / b * d * b = a / b * b * d := by rw [Nat.mul_assoc, Nat.mul_comm d b, ← Nat.mul_assoc]
    _ ≤ a * d := Nat.mul_le_mul_right d h1
    _ ≤ c * b := h.le
theorem Ord.on {a b c d : Nat} (h : Ord a b c d) (h1 : a % b ≠ 0) (h2 : ¬ a / b < c / d) : Ord d (c % d) b (a % b) ∧ a / b = c / d ∧ c % d < d ∧ a % b < b := by
  have e : a / b = c / d := Nat.le_antisymm h.div (Nat.le_of_not_lt h2)
  have ha := Nat.div_add_mod a b
  have hc := Nat.div_add_mod c d
  have hle := h.le
  obtain ⟨q, hq⟩ : ∃ q, q = a / b := ⟨_, rfl⟩
  obtain ⟨r, hr⟩ : ∃ r, r = a % b := ⟨_, rfl⟩
  obtain ⟨s, hs⟩ : ∃ s, s = c % d := ⟨_, rfl⟩
  rw [← hq, ← hr] at ha
  rw [← e, ← hq, ← hs] at hc
  have hle2 : r * d ≤ s * b := by
    have h3 : (b * q + r) * d ≤ (d * q + s) * b := by rw [ha, hc]; exact hle
    rw [Nat.add_mul, Nat.add_mul] at h3
    have h4 : b * q * d = d * q * b := by rw [Nat.mul_comm (d * q) b, ← Nat.mul_assoc, Nat.mul_comm (b * d) q, Nat.mul_assoc b, Nat.mul_comm q d, ← Nat.mul_assoc, Nat.mul_comm (b * d) q]
    omega
  have hr0 : 0 < r := by rw [hr]; omega
  have hs0 : 0 < s := by
    rcases Nat.eq_zero_or_pos s with h0 | h0
    · rw [h0, Nat.zero_mul] at hle2
      have := Nat.mul_pos hr0 h.d0
      omega
    · exact h0
  rw [← hr, ← hs, ← e]
  exact ⟨⟨hs0, hr0, by rw [Nat.mul_comm d r, Nat.mul_comm b s]; exact hle2⟩, rfl, by rw [hs]; exact Nat.mod_lt _ h.d0, by rw [hr]; exact Nat.mod_lt _ h.b0⟩
theorem CF.some {a b c d : Nat} (h : Ord a b c d) : ∃ ts, CF a b c d ts := by
  obtain ⟨n, hn⟩ : ∃ n, n = b + d := ⟨_, rfl⟩
  induction n using Nat.strongRecOn generalizing a b c d with
  | ind n ih =>
    by_cases h1 : a % b = 0
    · exact ⟨_, .whole h1⟩
    · by_cases h2 : a / b < c / d
      · exact ⟨_, .least h1 h2⟩
      · obtain ⟨h3, _, l1, l2⟩ := h.on h1 h2
        obtain ⟨ts, ht⟩ := ih (c % d + a % b) (by omega) h3 rfl
        exact ⟨_, .on h1 h2 ht⟩
theorem pr_gcd : ∀ ts : List Nat, Nat.gcd (pr ts).1 (pr ts).2 = 1
  | [] => by simp [pr]
  | t :: ts => by
    have ih := pr_gcd ts
    simp only [pr]
    rw [Nat.gcd_comm, Nat.gcd_mul_right_add_right, ih]
/-- All whole parts behind the first are above 0. -/
theorem CF.pos {a b c d : Nat} {ts : List Nat} (r : CF a b c d ts) : Ord a b c d → b < a → ∀ t ∈ ts, 0 < t := by
  induction r with
  | whole h =>
    rename_i a b c d
    intro o hl t ht
    rw [List.mem_singleton.1 ht]
    exact Nat.div_pos (by omega) o.b0
  | least h h2 =>
    intro o hl t ht
    rw [List.mem_singleton.1 ht]; exact Nat.succ_pos _
  | on h h2 r ih =>
    rename_i a b c d ts
    intro o hl t ht
    obtain ⟨o2, e, l1, l2⟩ := o.on h h2
    rcases List.mem_cons.1 ht with rfl | ht
    · exact Nat.div_pos (by omega) o.b0
    · exact ih o2 l1 t ht
/-- A chain worked out from the front: (above, the one ahead; below, the one ahead). -/
def uf : List Nat → Nat × Nat → Nat × Nat → (Nat × Nat) × (Nat × Nat)
  | [], p, q => (p, q)
  | c :: cs, p, q => uf cs (p.1 * c + p.2, p.1) (q.1 * c + q.2, q.1)
theorem uf_val : ∀ (ts : List Nat) (p q : Nat × Nat), (uf ts p q).1.1 = p.1 * (pr ts).1 + p.2 * (pr ts).2 ∧ (uf ts p q).2.1 = q.1 * (pr ts).1 + q.2 * (pr ts).2
  | [], p, q => by simp [uf, pr]
  | c :: cs, p, q => by
    have ih := uf_val cs (p.1 * c + p.2, p.1) (q.1 * c + q.2, q.1)
    simp only [uf, pr]
    rw [ih.1, ih.2]
    constructor <;> simp only [] <;> grind
theorem uf_snoc : ∀ (ts : List Nat) (c : Nat) (p q : Nat × Nat), uf (ts ++ [c]) p q = (((uf ts p q).1.1 * c + (uf ts p q).1.2, (uf ts p q).1.1), ((uf ts p q).2.1 * c + (uf ts p q).2.2, (uf ts p q).2.1))
  | [], _, _, _ => rfl
  | _ :: ts, c, _, _ => uf_snoc ts c _ _
/-- As unfold begins. -/
def un (ts : List Nat) : (Nat × Nat) × (Nat × Nat) := uf ts (0, 1) (1, 0)
theorem un_val (ts : List Nat) : (un ts).1.1 = (pr ts).2 ∧ (un ts).2.1 = (pr ts).1 := by
  have := uf_val ts (0, 1) (1, 0)
  unfold un
  rw [this.1, this.2]
  constructor <;> simp
theorem un_snoc (ts : List Nat) (c : Nat) : un (ts ++ [c]) = (((un ts).1.1 * c + (un ts).1.2, (un ts).1.1), ((un ts).2.1 * c + (un ts).2.2, (un ts).2.1)) := uf_snoc ts c _ _
/-- What is behind never falls, and what is above it is no greater. -/
theorem un_le (ts : List Nat) (h : ∀ t ∈ ts, 0 < t) : (un ts).1.1 ≤ (un ts).2.1 ∧ (un ts).1.2 ≤ (un ts).2.1 ∧ (un ts).2.2 ≤ (un ts).2.1 ∧ ((un ts).1.2 ≤ (un ts).2.2 ∨ ts.length ≤ 0) := by
  obtain ⟨n, hn⟩ : ∃ n, n = ts.length := ⟨_, rfl⟩
  induction n generalizing ts with
  | zero =>
    obtain rfl : ts = [] := List.length_eq_zero_iff.1 hn.symm
    simp [un, uf]
  | succ n ih =>
    obtain ⟨us, c, rfl⟩ : ∃ us c, ts = us ++ [c] := ⟨ts.dropLast, ts.getLast (by intro e; subst e; simp at hn), (List.dropLast_concat_getLast _).symm⟩
    have hc : 0 < c := h c (by simp)
    obtain ⟨i1, i2, i3, i4⟩ := ih us (fun t ht => h t (by simp [ht])) (by simp at hn; omega)
    rw [un_snoc]
    simp only []
    have m1 : (un us).1.1 * c ≤ (un us).2.1 * c := Nat.mul_le_mul_right c i1
    have m2 : (un us).2.1 ≤ (un us).2.1 * c := Nat.le_mul_of_pos_right _ hc
    refine ⟨?_, by omega, by omega, Or.inl i1⟩
    rcases i4 with i4 | i4
    · omega
    · obtain rfl : us = [] := List.length_eq_zero_iff.1 (by omega)
      simp [un, uf]
      omega
theorem un_mono (ts us : List Nat) (h : ∀ t ∈ us, 0 < t) : (un ts).2.1 ≤ (un (ts ++ us)).2.1 := by
  induction us generalizing ts with
  | nil => simp
  | cons c us ih =>
    have hc : 0 < c := h c (by simp)
    have h1 := ih (ts ++ [c]) (fun t ht => h t (by simp [ht]))
    rw [List.append_assoc, List.singleton_append] at h1
    refine Nat.le_trans ?_ h1
    rw [un_snoc]
    have m2 : (un ts).2.1 ≤ (un ts).2.1 * c := Nat.le_mul_of_pos_right _ hc
    simp only []
    omega
end Cub

namespace Cub
/-- Where the steps stand: what is left (a / b, c / d) behind the whole parts so far. -/
structure SI (E A B C D a b c d : Nat) (pre : List Nat) : Prop where
  ord : Ord a b c d
  ha : a < 10 ^ E
  hb : b < 10 ^ E
  hc : c < 10 ^ E
  hd : d < 10 ^ E
  cf : ∀ ts, CF a b c d ts → CF A B C D (pre ++ ts)
  pot : pre = [] ∨ (b < a ∧ 0 < c ∧ 4 ^ (pre.length - 1) * (a * b * (c * d)) ≤ 10 ^ (4 * E))
theorem SI.first {E A B C D : Nat} (o : Ord A B C D) (ha : A < 10 ^ E) (hb : B < 10 ^ E) (hc : C < 10 ^ E) (hd : D < 10 ^ E) : SI E A B C D A B C D [] :=
  ⟨o, ha, hb, hc, hd, fun _ h => h, Or.inl rfl⟩
theorem four (E x y z t : Nat) (h1 : x < 10 ^ E) (h2 : y < 10 ^ E) (h3 : z < 10 ^ E) (h4 : t < 10 ^ E) : x * y * (z * t) ≤ 10 ^ (4 * E) := by
  rw [show 4 * E = E + E + (E + E) by omega, Nat.pow_add, Nat.pow_add]
  exact Nat.mul_le_mul (Nat.mul_le_mul (Nat.le_of_lt h1) (Nat.le_of_lt h2)) (Nat.mul_le_mul (Nat.le_of_lt h3) (Nat.le_of_lt h4))
theorem SI.step {E A B C D a b c d : Nat} {pre : List Nat} (s : SI E A B C D a b c d pre) (h1 : a % b ≠ 0) (h2 : ¬ a / b < c / d) : SI E A B C D d (c % d) b (a % b) (pre ++ [a / b]) := by
  obtain ⟨o2, e, l1, l2⟩ := s.ord.on h1 h2
  have hd := s.hd; have hb := s.hb
  refine ⟨o2, s.hd, by omega, s.hb, by omega, fun ts h => ?_, Or.inr ⟨l1, s.ord.b0, ?_⟩⟩
  · rw [List.append_assoc]; exact s.cf _ (.on h1 h2 h)
  · rw [List.length_append, List.length_singleton, Nat.add_sub_cancel]
    rcases s.pot with h0 | ⟨p1, p2, p3⟩
    · rw [h0, List.length_nil, Nat.pow_zero, Nat.one_mul]
      exact four E _ _ _ _ s.hd (by omega) s.hb (by omega)
    · have ha := Nat.div_add_mod a b
      have hc := Nat.div_add_mod c d
      have hq : 0 < a / b := Nat.div_pos (by omega) s.ord.b0
      have hq2 : 0 < c / d := by rw [← e]; exact hq
      have k1 : b ≤ b * (a / b) := Nat.le_mul_of_pos_right _ hq
      have k2 : d ≤ d * (c / d) := Nat.le_mul_of_pos_right _ hq2
      have m1 : 2 * (a % b) ≤ a := by omega
      have m2 : 2 * (c % d) ≤ c := by omega
      obtain ⟨x, hx⟩ : ∃ x, x = a % b := ⟨_, rfl⟩
      obtain ⟨y, hy⟩ : ∃ y, y = c % d := ⟨_, rfl⟩
      rw [← hx] at m1 ⊢
      rw [← hy] at m2 ⊢
      have m3 : (2 * y) * (2 * x) ≤ c * a := Nat.mul_le_mul m2 m1
      have m4 : 4 * (d * y * (b * x)) ≤ a * b * (c * d) := by
        calc 4 * (d * y * (b * x)) = (2 * y) * (2 * x) * (d * b) := by grind
          _ ≤ c * a * (d * b) := Nat.mul_le_mul_right _ m3
          _ = a * b * (c * d) := by grind
      rcases pre with _ | ⟨t, us⟩
      · rw [List.length_nil, Nat.pow_zero, Nat.one_mul]
        have : 0 + d * y * (b * x) ≤ 4 * (d * y * (b * x)) := by omega
        simp only [List.length_nil, Nat.zero_sub, Nat.pow_zero, Nat.one_mul] at p3
        omega
      · rw [List.length_cons, Nat.add_sub_cancel] at p3
        rw [List.length_cons, Nat.pow_succ]
        calc 4 ^ us.length * 4 * (d * y * (b * x)) = 4 ^ us.length * (4 * (d * y * (b * x))) := by rw [Nat.mul_assoc]
          _ ≤ 4 ^ us.length * (a * b * (c * d)) := Nat.mul_le_mul_left _ m4
          _ ≤ _ := p3
/-- There are few steps. -/
theorem SI.len {E A B C D a b c d : Nat} {pre : List Nat} (s : SI E A B C D a b c d pre) : pre.length ≤ 8 * E + 1 := by
  rcases s.pot with h0 | ⟨p1, p2, p3⟩
  · rw [h0]; simp
  · have h1 : 0 < a * b * (c * d) := Nat.mul_pos (Nat.mul_pos (by omega) s.ord.b0) (Nat.mul_pos p2 s.ord.d0)
    have h2 : 4 ^ (pre.length - 1) ≤ 10 ^ (4 * E) := Nat.le_trans (Nat.le_mul_of_pos_right _ h1) p3
    have h3 : 10 ^ (4 * E) ≤ 4 ^ (8 * E) := by
      rw [show 8 * E = 2 * (4 * E) by omega, Nat.pow_mul 4 2]
      exact Nat.pow_le_pow_left (show 10 ≤ 4 ^ 2 by decide) _
    have h4 := Nat.le_trans h2 h3
    have h5 : pre.length - 1 ≤ 8 * E := (Nat.pow_le_pow_iff_right (by decide)).1 h4
    omega
theorem CF.small {M a b c d : Nat} {ts : List Nat} (r : CF a b c d ts) : Ord a b c d → a < M → b < M → c < M → d < M → ∀ t ∈ ts, t < M := by
  induction r with
  | whole h =>
    rename_i a b c d
    intro o ha hb hc hd t ht
    rw [List.mem_singleton.1 ht]
    exact Nat.lt_of_le_of_lt (Nat.div_le_self a b) ha
  | least h h2 =>
    rename_i a b c d
    intro o ha hb hc hd t ht
    rw [List.mem_singleton.1 ht]
    exact Nat.lt_of_le_of_lt (Nat.le_trans h2 (Nat.div_le_self c d)) hc
  | on h h2 r ih =>
    rename_i a b c d ts
    intro o ha hb hc hd t ht
    obtain ⟨o2, e, l1, l2⟩ := o.on h h2
    rcases List.mem_cons.1 ht with rfl | ht
    · exact Nat.lt_of_le_of_lt (Nat.div_le_self a b) ha
    · exact ih o2 hd (by omega) hb (by omega) t ht
theorem CF.det {a b c d : Nat} {ts us : List Nat} (r : CF a b c d ts) (r' : CF a b c d us) : ts = us := by
  induction r generalizing us with
  | whole h =>
    cases r' with
    | whole h' => rfl
    | least h' _ => exact absurd h h'
    | on h' _ _ => exact absurd h h'
  | least h h2 =>
    cases r' with
    | whole h' => exact absurd h' h
    | least h' _ => rfl
    | on h' h2' _ => exact absurd h2 h2'
  | on h h2 r ih =>
    cases r' with
    | whole h' => exact absurd h' h
    | least h' h2' => exact absurd h2' h2
    | on h' h2' q => rw [ih q]
theorem sum_val (t n d : Nat) (hd : 0 < d) : valQ false t 1 + valQ false n d = valQ false (t * d + n) d := by
  have := valQ_add (b := false) (c := false) (bb := false) (n := t) (d := 1) (k := n) (e := d) (m := t * d + n) (by decide) hd (by simp [sg])
  rw [Nat.one_mul] at this
  exact this.symm
end Cub

namespace Cub
/-- The whole parts of d / r, step by step. -/
inductive EU : Nat → Nat → List Nat → Prop
  | nil {d : Nat} : EU d 0 []
  | step {d r : Nat} {ts : List Nat} (h : r ≠ 0) (t : EU r (d % r) ts) : EU d r (d / r :: ts)
theorem EU.det {d r : Nat} {ts us : List Nat} (h : EU d r ts) (k : EU d r us) : ts = us := by
  induction h generalizing us with
  | nil => cases k with
    | nil => rfl
    | step h _ => exact absurd rfl h
  | step h t ih => cases k with
    | nil => exact absurd rfl h
    | step h' t' => rw [ih t']
theorem EU.some (d r : Nat) : ∃ ts, EU d r ts := by
  induction r using Nat.strongRecOn generalizing d with
  | ind r ih =>
    by_cases h : r = 0
    · subst h; exact ⟨[], .nil⟩
    · obtain ⟨ts, ht⟩ := ih (d % r) (Nat.mod_lt _ (by omega)) r
      exact ⟨_, .step h ht⟩
/-- Where the steps stand. -/
structure EI (D R d r : Nat) (pre : List Nat) : Prop where
  on : ∀ ts, EU d r ts → EU D R (pre ++ ts)
  lt : r < d
  le : d ≤ D
  pot : 2 ^ pre.length * (d * (r + 1)) ≤ D * (R + 1)
theorem EI.first {D R : Nat} (h : R < D) : EI D R D R [] := ⟨fun _ h => h, h, Nat.le_refl _, by simp⟩
theorem eu_pot (d r : Nat) (h : r < d) (h0 : r ≠ 0) : 2 * (r * (d % r + 1)) ≤ d * (r + 1) := by
  have h1 := Nat.div_add_mod d r
  have h2 := Nat.mod_lt d (show r > 0 by omega)
  have h3 : 0 < d / r := Nat.div_pos (by omega) (by omega)
  have h4 : r ≤ r * (d / r) := Nat.le_mul_of_pos_right _ h3
  obtain ⟨b, hb⟩ : ∃ b, b = d % r := ⟨_, rfl⟩
  rw [← hb] at h1 h2 ⊢
  have h5 : r + b ≤ d := by omega
  obtain ⟨k, rfl⟩ : ∃ k, r = b + 1 + k := ⟨r - b - 1, by omega⟩
  have h6 : (b + 1 + k + b) * (b + 1 + k + 1) ≤ d * (b + 1 + k + 1) := Nat.mul_le_mul_right _ h5
  refine Nat.le_trans ?_ h6
  have e : (b + 1 + k + b) * (b + 1 + k + 1) = 2 * ((b + 1 + k) * (b + 1)) + (k + 1) * (b + k) := by grind
  omega
theorem EI.step {D R d r : Nat} {pre : List Nat} (s : EI D R d r pre) (h : r ≠ 0) : EI D R r (d % r) (pre ++ [d / r]) := by
  refine ⟨fun ts ht => ?_, Nat.mod_lt _ (by omega), by have := s.lt; have := s.le; omega, ?_⟩
  · rw [List.append_assoc]; exact s.on _ (.step h ht)
  · rw [List.length_append, List.length_singleton, Nat.pow_succ]
    calc 2 ^ pre.length * 2 * (r * (d % r + 1)) = 2 ^ pre.length * (2 * (r * (d % r + 1))) := by rw [Nat.mul_assoc]
      _ ≤ 2 ^ pre.length * (d * (r + 1)) := Nat.mul_le_mul_left _ (eu_pot d r s.lt h)
      _ ≤ _ := s.pot
theorem EI.last {D R d : Nat} {pre : List Nat} (s : EI D R d 0 pre) : EU D R pre := by
  have := s.on [] .nil
  rwa [List.append_nil] at this
theorem EI.len {D R d r E : Nat} {pre : List Nat} (s : EI D R d r pre) (hD : D < 10 ^ E) (hR : R < D) : pre.length ≤ 8 * E := by
  have hd : 0 < d * (r + 1) := Nat.mul_pos (by have := s.lt; omega) (by omega)
  have h1 : 2 ^ pre.length ≤ D * (R + 1) := Nat.le_trans (Nat.le_mul_of_pos_right _ hd) s.pot
  have h2 : D * (R + 1) ≤ 10 ^ E * 10 ^ E := Nat.mul_le_mul (Nat.le_of_lt hD) (by omega)
  have h3 : 10 ^ E * 10 ^ E ≤ 2 ^ (8 * E) := by
    rw [← Nat.mul_pow, show 8 * E = 8 * E from rfl, Nat.pow_mul]
    exact Nat.pow_le_pow_left (by decide) _
  exact (Nat.pow_le_pow_iff_right (by decide)).1 (Nat.le_trans h1 (Nat.le_trans h2 h3))
end Cub

namespace Go.Proofs.YtndhinoomlofgaaGreatDoor
open Go.RowKit
/-- A number's text with its sign ahead. -/
def sx (b : Bool) (n : Nat) : ByteArray := if b then ⟨#[45]⟩ ++ tx n else tx n
/-- The chain's texts. -/
def chT (b : Bool) (F : Nat) (ts : List Nat) : List ByteArray := sx b F :: ts.map tx
theorem chT_snoc (b : Bool) (F : Nat) (ts : List Nat) (t : Nat) : chT b F (ts ++ [t]) = chT b F ts ++ [tx t] := by simp [chT]
theorem chT_len (b : Bool) (F : Nat) (ts : List Nat) : (chT b F ts).length = ts.length + 1 := by simp [chT]
theorem str_no (s : ByteArray) : NoInt (.string s) := fun _ _ h => by cases h
theorem alT_one (W : World) (u : Value) : (W.alloc (.cells #[u] 9)).cell? ⟨W.heap.size, 0, none⟩ = some u := by simp [go_sem]
theorem alT_below (W : World) (O : Obj) : Below W.heap.size W (W.alloc O) := (Below.refl _ _).alloc (Nat.le_refl _) _
theorem OwnT.rowS {w : World} {base : Nat} {v : Value} {l : List ByteArray} (h : OwnT w base v (strsV l)) : RowS w v l := by
  refine RowS.of_own (base := base) ?_
  have := h.row
  rw [strsV_length] at this
  exact this
theorem OwnT.one (W : World) (base : Nat) (s : ByteArray) (hb : base ≤ W.heap.size) : OwnT (W.alloc (.cells #[.string s] 9)) base (.slice (some ⟨W.heap.size, 0, none⟩) 1 1) (strsV [s]) :=
  Or.inr ⟨W.heap.size, 1, #[.string s], rfl, hb, heap_alloc_new W _, Nat.le_refl _, by simp [maxLen], rfl, rfl, fun u hu => by simp at hu; subst hu; exact str_no s⟩
theorem strsV_snoc (l : List ByteArray) (s : ByteArray) : strsV l ++ [.string s] = strsV (l ++ [s]) := by simp [strsV]
theorem floorR_lt (b : Bool) (n d : Nat) (hd : 0 < d) : floorR b n d < d := by
  have := Nat.mod_lt n hd
  unfold floorR
  split
  · rename_i h; have := h.2; omega
  · exact this
theorem tx_eq48 (n : Nat) : ((tx n).toList == [48]) = (n == 0) := by
  by_cases h : n = 0
  · subst h; rw [tx_zero]; rfl
  · rw [tx_pos _ (by omega)]; symm; simpa using h
end Go.Proofs.YtndhinoomlofgaaGreatDoor

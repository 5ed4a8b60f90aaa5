/- The document's Compare of two natural numbers' texts. -/
import Derived.Test.YtndhinoomlofgaaGreatDoorOne
import Derived.Test.YtndhinoomlofgaaGreatDoorRefLess
import Derived.Test.YtndhinoomlofgaaGreatDoorMulMath
import Derived.Test.YtndhinoomlofgaaGreatDoorRefNew
import Derived.Test.YtndhinoomlofgaaGreatDoorCmp
namespace Go.Proofs.YtndhinoomlofgaaGreatDoor
open Go.RowKit

/-- A number's text. -/
def tx (n : Nat) : ByteArray := ⟨(Lib.decDigits n).toArray⟩
theorem tx_list (n : Nat) : (tx n).data.toList = Lib.decDigits n := rfl
theorem tx_val (n : Nat) : val (tx n) = n := Cub.dval_dec n
theorem tx_nat (n : Nat) : Cub.isNat (tx n).data.toList := Cub.isNat_dec n
theorem tx_tb (n : Nat) (h : n < 10 ^ 600) : tb n = tx n := (mk_tb n h).symm
theorem tx_size {d n : Nat} (hd : 1 ≤ d) (h : n < 10 ^ d) : (tx n).size ≤ d := by
  have := (Cub.dec_len_lt n d hd).2 h
  rw [← tx_list, list_len] at this
  exact this
theorem tx_zero : ((tx 0).toList == [48]) = true := by
  rw [Lib.toList_data, tx_list, dec_zero]; rfl
theorem tx_pos (n : Nat) (h0 : 0 < n) : ((tx n).toList == [48]) = false := by
  rw [Lib.toList_data, tx_list, beq_eq_false_iff_ne]
  intro e
  rw [← dec_zero] at e
  have := Cub.dec_inj e
  omega
theorem refDivideM (d m n : Nat) (w : World) (hd1 : 1 ≤ d) (hd : d ≤ 5000) (hm : m < 10 ^ d) (hn : n < 10 ^ d) (h0 : 0 < n) :
    Calls Tryz.prog 121 #[.string (tx m), .string (tx n)] w fun e w' => e = .returned (.tuple #[.string (tx (m / n)), .string (tx (m % n))]) ∧ Below w.heap.size w w' := by
  have h := refDivideG (tx m) (tx n) w (tx_nat m) (tx_nat n) (Nat.le_trans (tx_size hd1 hm) hd) (Nat.le_trans (tx_size hd1 hn) hd) (by rw [tx_val]; exact h0)
  rw [tx_val, tx_val] at h
  exact h
theorem refPlusM (d m n : Nat) (w : World) (hd1 : 1 ≤ d) (hd : d ≤ 5000) (hm : m < 10 ^ d) (hn : n < 10 ^ d) :
    Calls Tryz.prog 122 #[.string (tx m), .string (tx n)] w fun e w' => e = .returned (.string (tx (m + n))) ∧ Below w.heap.size w w' := by
  have s1 := tx_size hd1 hm
  have s2 := tx_size hd1 hn
  have h := refPlus_any (tx m) (tx n) w (by omega) (by omega) (tx_nat m).1 (tx_nat n).1
  rw [show Cub.dval (tx m).data.toList = m from tx_val m, show Cub.dval (tx n).data.toList = n from tx_val n] at h
  exact h
theorem refMinusM (d m n : Nat) (w : World) (hd1 : 1 ≤ d) (hd : d ≤ 5000) (hm : m < 10 ^ d) (hn : n < 10 ^ d) (hle : n ≤ m) :
    Calls Tryz.prog 123 #[.string (tx m), .string (tx n)] w fun e w' => e = .returned (.string (tx (m - n))) ∧ Below w.heap.size w w' := by
  have s1 := tx_size hd1 hm
  have s2 := tx_size hd1 hn
  have e1 : Cub.dval (tx m).data.toList = m := tx_val m
  have e2 : Cub.dval (tx n).data.toList = n := tx_val n
  have h := refMinus_any (tx m) (tx n) w (by omega) (by omega) (tx_nat m).1 (tx_nat n).1 (by rw [e1, e2]; exact hle)
  rw [e1, e2] at h
  exact h

set_option maxRecDepth 100000 in
set_option maxHeartbeats 400000 in
theorem refTimesS_any (s t : ByteArray) (w : World) (hs : s.size ≤ 100000) (ht : t.size ≤ 100000) (hds : Cub.digs s.data.toList) (hdt : Cub.digs t.data.toList) :
    Calls Tryz.prog 125 #[.string s, .string t] w fun e w' => e = .returned (.string ⟨(Lib.decDigits (Cub.dval s.data.toList * Cub.dval t.data.toList)).toArray⟩) ∧ Below w.heap.size w w' := by
  have HDS := hide hds
  have HDT := hide hdt
  clear hds hdt
  go_enter Tryz.func125, Tryz.ntmps125
  go_wp2_with (first
    | (go_at_call_of 159 s; refine (refLimbs_any s _ (by omega) (unhide HDS)).mono ?_; rintro e w1 ⟨vx, lx, rfl, hox, hnx, hvx, hb1⟩; have HX := hide (And.intro hnx (And.intro hvx hox)); have hbx : lx.length ≤ 100000 := (by have := Cub.len_le4 (unhide HDS) hnx hvx; rw [list_len] at this; omega); clear hnx hvx hox)
    | (go_at_call_of 159 t; refine (refLimbs_any t _ (by omega) (unhide HDT)).mono ?_; rintro e w2 ⟨vy, ly, rfl, hoy, hny, hvy, hb2⟩; have HY := hide (And.intro hny (And.intro hvy hoy)); have hby : ly.length ≤ 100000 := (by have := Cub.len_le4 (unhide HDT) hny hvy; rw [list_len] at this; omega); clear hny hvy hoy)
    | (go_at_call 165; refine (refTimes_any vx vy _ _ lx ly _ ((unhide HX).2.2.later hb2) (unhide HY).2.2 (unhide HX).1.1 (unhide HY).1.1 (by omega) (by omega)).mono ?_; rintro e w3 ⟨vz, lz, rfl, hoz, hnz, hvz, hlz, hb3⟩; have HZ := hide (And.intro hnz (And.intro hvz hoz)); clear hnz hvz hoz)
    | (go_at_call 163; refine (refText_any _ _ _ _ (unhide HZ).2.2 (unhide HZ).1 (by omega)).mono ?_; rintro e w4 ⟨rfl, hb4⟩))
  go_ret
  have hb12 := hb1.trans (hb2.mono hb1.size)
  have hb13 := hb12.trans (hb3.mono hb12.size)
  exact ⟨by rw [← (unhide HX).2.1, ← (unhide HY).2.1, ← (unhide HZ).2.1]; rfl, hb13.trans (hb4.mono hb13.size)⟩
theorem refTimesM (d m n : Nat) (w : World) (hd1 : 1 ≤ d) (hd : d ≤ 5000) (hm : m < 10 ^ d) (hn : n < 10 ^ d) :
    Calls Tryz.prog 125 #[.string (tx m), .string (tx n)] w fun e w' => e = .returned (.string (tx (m * n))) ∧ Below w.heap.size w w' := by
  have s1 := tx_size hd1 hm
  have s2 := tx_size hd1 hn
  have h := refTimesS_any (tx m) (tx n) w (by omega) (by omega) (tx_nat m).1 (tx_nat n).1
  rw [show Cub.dval (tx m).data.toList = m from tx_val m, show Cub.dval (tx n).data.toList = n from tx_val n] at h
  exact h
/-- How far Euclid's steps have come. -/
def ComInvM (d M N m n : Nat) (a b : ByteArray) : Prop := a = tx m ∧ b = tx n ∧ m < 10 ^ d ∧ n < 10 ^ d ∧ Nat.gcd m n = Nat.gcd M N

set_option maxRecDepth 100000 in
set_option maxHeartbeats 400000 in
theorem refCommonM (d M N : Nat) (w : World) (hd1 : 1 ≤ d) (hd : d ≤ 5000) (hM : M < 10 ^ d) (hN : N < 10 ^ d) :
    Calls Tryz.prog 79 #[.string (tx M), .string (tx N)] w fun e w' => e = .returned (.string (tx (Nat.gcd M N))) ∧ Below w.heap.size w w' := by
  have HI : Hid (ComInvM d M N M N (tx M) (tx N)) := ⟨rfl, rfl, hM, hN, rfl⟩
  have HD : Hid (∀ m n (a b : ByteArray), ComInvM d M N m n a b → 0 < n → ∃ c r : ByteArray, ComInvM d M N n (m % n) b r ∧ ∀ W, Calls Tryz.prog 121 #[.string a, .string b] W fun e w' => e = .returned (.tuple #[.string c, .string r]) ∧ Below W.heap.size W w') := fun m n a b h h0 => by
    obtain ⟨rfl, rfl, hm, hn, hg⟩ := h
    refine ⟨tx (m / n), tx (m % n), ⟨rfl, rfl, hn, mod_lt' m n d hm, ?_⟩, fun W => refDivideM d m n W hd1 hd hm hn h0⟩
    rw [← hg, Nat.gcd_comm m n, Nat.gcd_rec n m, Nat.gcd_comm]
  have HZ : Hid (∀ m n (a b : ByteArray), ComInvM d M N m n a b → 0 < n → (b.toList == [48]) = false) := fun m n a b h h0 => by
    obtain ⟨rfl, rfl, hm, hn, hg⟩ := h
    exact tx_pos n h0
  have HE : Hid (∀ m (a b : ByteArray), ComInvM d M N m 0 a b → (b.toList == [48]) = true ∧ a = tx (Nat.gcd M N)) := fun m a b h => by
    obtain ⟨rfl, rfl, hm, hn, hg⟩ := h
    rw [Nat.gcd_zero_right] at hg
    exact ⟨tx_zero, by rw [← hg]⟩
  generalize tx M = a0 at *
  generalize tx N = b0 at *
  clear hM hN hd1 hd
  go_enter Tryz.func79, Tryz.ntmps79
  go_wp2
  go_loopg [0, 1] N (fun z v0 v1 wr => ∃ (m n : Nat) (a b : ByteArray), v0 = .string a ∧ v1 = .string b ∧ Hid (z = n) ∧ Hid (ComInvM d M N m n a b) ∧ Hid (Below w.heap.size w wr))
  case atStart => exact ⟨M, N, a0, b0, rfl, rfl, rfl, HI, Below.refl _ _⟩
  case round =>
    obtain ⟨m, n, a, b, rfl, rfl, HK, HC, HW⟩ := hrel
    clear HI
    rcases Nat.eq_zero_or_pos n with h0 | h0
    · subst h0
      obtain ⟨e1, e2⟩ := unhide HE m a b (unhide HC)
      have HV := hide e2
      clear e2 HE HD HZ HC
      go_wp2_with fail
      go_ret
      exact ⟨by rw [← unhide HV]; rfl, unhide HW⟩
    · have e1 := unhide HZ m n a b (unhide HC) h0
      obtain ⟨c, r, hc, hd⟩ := unhide HD m n a b (unhide HC) h0
      have HC2 := hide hc
      have HD2 := hide hd
      have HLT : Hid (m % n < n) := Nat.mod_lt _ h0
      clear hc hd HE HD HZ HC h0
      go_wp2_with (go_at_call 121; go_must (refine (unhide HD2 wr).mono ?_; rintro e w2 ⟨rfl, hb2⟩; have HW2 := hide ((unhide HW).trans (hb2.mono (unhide HW).size)); clear hb2))
      go_roundg (m % n)
      case measure => have := unhide HK; have := unhide HLT; omega
      case rel => exact ⟨n, m % n, b, r, rfl, rfl, rfl, HC2, HW2⟩

set_option maxRecDepth 100000 in
set_option maxHeartbeats 2000000 in
theorem refLowestM (d : Nat) (b : Bool) (m n : Nat) (w : World) (hd1 : 1 ≤ d) (hd : d ≤ 5000) (hm : m < 10 ^ d) (hn : n < 10 ^ d) (hn0 : n ≠ 0) :
    Calls Tryz.prog 77 #[.bool b, .string (tx m), .string (tx n)] w fun r w' => r = .returned (.agg #[.bool (b && decide (m / Nat.gcd m n ≠ 0)), .string (tx (m / Nat.gcd m n)), .string (tx (n / Nat.gcd m n))]) ∧ Below w.heap.size w w' := by
  obtain ⟨V, hV⟩ : ∃ V, V = w.alloc (.cells #[.bool false, .string ⟨#[]⟩, .string ⟨#[]⟩] 61) := ⟨_, rfl⟩
  have hbV : Below w.heap.size w V := by rw [hV]; exact (Below.refl _ _).alloc (Nat.le_refl _) _
  have HR : Hid (FBox V w.heap.size (.bool false) (.string ⟨#[]⟩) (.string ⟨#[]⟩) ∧ Below w.heap.size w V) := ⟨by rw [hV]; exact ⟨by simp [go_sem], by simp [go_sem], by simp [go_sem], by simp [go_sem], by simp [go_sem], by simp [go_sem]⟩, hbV⟩
  have HV := hide hV
  by_cases h0 : m = 0
  · subst h0
    have z : ((tx 0).toList == [48]) = true := by exact tx_zero
    have e0 : (⟨#[48]⟩ : ByteArray) = tx 0 := by rw [← tx_tb 0 (pos10 600)]; exact (lit_tb ⟨#[48]⟩ 0 (by decide) (by decide)).1
    have e1 : (⟨#[49]⟩ : ByteArray) = tx 1 := by rw [← tx_tb 1 (lit_tb ⟨#[49]⟩ 1 (by decide) (by decide)).2]; exact (lit_tb ⟨#[49]⟩ 1 (by decide) (by decide)).1
    have HE : Hid ((Value.agg #[.bool (b && decide (0 / Nat.gcd 0 n ≠ 0)), .string (tx (0 / Nat.gcd 0 n)), .string (tx (n / Nat.gcd 0 n))]) = .agg #[.bool false, .string ⟨#[48]⟩, .string ⟨#[49]⟩]) := by
      show _ = _
      rw [Nat.gcd_zero_left, Nat.zero_div, Nat.div_self (by omega), ← e0, ← e1]; simp
    rw [unhide HE]
    clear e0 e1 hbV hm hn hn0 HE hd1 hd
    generalize tx 0 = s0 at *
    generalize tx n = sn at *
    go_enter Tryz.func77, Tryz.ntmps77
    go_upto_region 1 with fail
    rw [← unhide HV]
    clear hV HV
    have r0 := (unhide HR).1.c0; have r1 := (unhide HR).1.c1; have r2 := (unhide HR).1.c2; have rf0 := (unhide HR).1.f0; have rf1 := (unhide HR).1.f1; have rf2 := (unhide HR).1.f2
    go_wp2_with fail
    have hS := (unhide HR).1.store (.bool false) (.string ⟨#[48]⟩) (.string ⟨#[49]⟩)
    have hb : Below w.heap.size w (store3 V w.heap.size (.bool false) (.string ⟨#[48]⟩) (.string ⟨#[49]⟩)) := below_store3 (unhide HR).2 (Nat.le_refl _) _ _ _
    have u0 := hS.c0; have u1 := hS.c1; have u2 := hS.c2
    exact bodyPost_ret (v := .agg #[.bool false, .string ⟨#[48]⟩, .string ⟨#[49]⟩]) (w := store3 V w.heap.size (.bool false) (.string ⟨#[48]⟩) (.string ⟨#[49]⟩)) (by simp [results, Tryz.results77, go_sem, u0, u1, u2]) rfl ⟨rfl, hb⟩
  · have z : ((tx m).toList == [48]) = false := by exact tx_pos m (by omega)
    have hg0 : 0 < Nat.gcd m n := Nat.gcd_pos_of_pos_right _ (by omega)
    have hgl : Nat.gcd m n < 10 ^ d := Nat.lt_of_le_of_lt (Nat.gcd_le_right _ (by omega)) hn
    have hq0 : m / Nat.gcd m n ≠ 0 := by
      have := Nat.div_pos (Nat.gcd_le_left n (by omega : 0 < m)) hg0
      omega
    have HCM := hide (fun W => refCommonM d m n W hd1 hd hm hn)
    have HD1 := hide (fun W => refDivideM d m (Nat.gcd m n) W hd1 hd hm hgl hg0)
    have HD2 := hide (fun W => refDivideM d n (Nat.gcd m n) W hd1 hd hn hgl hg0)
    have HE : Hid ((b && decide (m / Nat.gcd m n ≠ 0)) = b) := by show _ = _; simp [hq0]
    rw [unhide HE]
    clear hbV hm hn hn0 HE hg0 hgl hq0 h0 hd1 hd
    generalize tx (m / Nat.gcd m n) = q1 at *
    generalize tx (n / Nat.gcd m n) = q2 at *
    generalize tx (m % Nat.gcd m n) = q3 at *
    generalize tx (n % Nat.gcd m n) = q4 at *
    generalize tx (Nat.gcd m n) = sg at *
    generalize tx m = sm at *
    generalize tx n = sn at *
    go_enter Tryz.func77, Tryz.ntmps77
    go_upto_region 1 with fail
    rw [← unhide HV]
    clear hV HV
    go_upto_region 4 with (go_at_call 79; go_must (refine (unhide HCM _).mono ?_; rintro e w1 ⟨rfl, hb1⟩; have HR1 : Hid (FBox w1 w.heap.size (.bool false) (.string ⟨#[]⟩) (.string ⟨#[]⟩) ∧ Below w.heap.size w w1) := ⟨(unhide HR).1.later hb1, (unhide HR).2.trans (hb1.mono (unhide HR).2.size)⟩; clear hb1))
    go_upto_region 5 with (go_at_call 121; go_must (refine (unhide HD1 _).mono ?_; rintro e w2 ⟨rfl, hb2⟩; have HR2 : Hid (FBox w2 w.heap.size (.bool false) (.string ⟨#[]⟩) (.string ⟨#[]⟩) ∧ Below w.heap.size w w2) := ⟨(unhide HR1).1.later hb2, (unhide HR1).2.trans (hb2.mono (unhide HR1).2.size)⟩; clear hb2))
    go_upto_region 6 with (go_at_call 121; go_must (refine (unhide HD2 _).mono ?_; rintro e w3 ⟨rfl, hb3⟩; have HR3 : Hid (FBox w3 w.heap.size (.bool false) (.string ⟨#[]⟩) (.string ⟨#[]⟩) ∧ Below w.heap.size w w3) := ⟨(unhide HR2).1.later hb3, (unhide HR2).2.trans (hb3.mono (unhide HR2).2.size)⟩; clear hb3))
    have r0 := (unhide HR3).1.c0; have r1 := (unhide HR3).1.c1; have r2 := (unhide HR3).1.c2; have rf0 := (unhide HR3).1.f0; have rf1 := (unhide HR3).1.f1; have rf2 := (unhide HR3).1.f2
    go_wp2_with fail
    have hS := (unhide HR3).1.store (.bool b) (.string q1) (.string q2)
    have hb : Below w.heap.size w (store3 w3 w.heap.size (.bool b) (.string q1) (.string q2)) := below_store3 (unhide HR3).2 (Nat.le_refl _) _ _ _
    have u0 := hS.c0; have u1 := hS.c1; have u2 := hS.c2
    exact bodyPost_ret (v := .agg #[.bool b, .string q1, .string q2]) (w := store3 w3 w.heap.size (.bool b) (.string q1) (.string q2)) (by simp [results, Tryz.results77, go_sem, u0, u1, u2]) rfl ⟨rfl, hb⟩

end Go.Proofs.YtndhinoomlofgaaGreatDoor

namespace Go.Proofs.YtndhinoomlofgaaGreatDoor
open Go.RowKit

theorem toList_less (s t : ByteArray) (hs : Cub.isNat s.data.toList) (ht : Cub.isNat t.data.toList) (hl : s.size = t.size) : Op.bytesLess s.toList t.toList = decide (Cub.dval s.data.toList < Cub.dval t.data.toList) := by
  rw [Lib.toList_data, Lib.toList_data]
  exact Cub.bytesLess_dval _ _ hs.1 ht.1 (by rw [list_len, list_len]; exact hl)
theorem toList_same (s t : ByteArray) (hs : Cub.isNat s.data.toList) (ht : Cub.isNat t.data.toList) : (s.toList == t.toList) = decide (Cub.dval s.data.toList = Cub.dval t.data.toList) := by
  rw [Lib.toList_data, Lib.toList_data, Bool.eq_iff_iff, beq_iff_eq, decide_eq_true_eq]
  exact ⟨fun h => by rw [h], fun h => Cub.dval_inj hs ht h⟩

set_option maxRecDepth 100000 in
set_option maxHeartbeats 400000 in
theorem compare_any (s t : ByteArray) (w : World) (hs : Cub.isNat s.data.toList) (ht : Cub.isNat t.data.toList) :
    Calls Tryz.prog 126 #[.string s, .string t] w fun e w' => e = .returned (.int .i64 (Cub.cmpN (Cub.dval s.data.toList) (Cub.dval t.data.toList))) ∧ w' = w := by
  by_cases hl : s.size = t.size
  · have hne : ((s.size : Int) != (t.size : Int)) = false := by rw [hl]; simp
    have hless := toList_less s t hs ht hl
    have hsame := toList_same s t hs ht
    by_cases hc : Cub.dval s.data.toList < Cub.dval t.data.toList
    · have e : Cub.cmpN (Cub.dval s.data.toList) (Cub.dval t.data.toList) = -1 := if_pos hc
      rw [e]
      rw [decide_eq_true hc] at hless
      clear hsame hs ht hl e hc
      go_enter Tryz.func126, Tryz.ntmps126
      go_wp2
      go_ret
      exact ⟨rfl, rfl⟩
    · rw [decide_eq_false hc] at hless
      by_cases hc2 : Cub.dval t.data.toList < Cub.dval s.data.toList
      · have e : Cub.cmpN (Cub.dval s.data.toList) (Cub.dval t.data.toList) = 1 := by unfold Cub.cmpN; rw [if_neg hc, if_pos hc2]
        rw [e]
        rw [decide_eq_false (by omega)] at hsame
        clear hs ht hl e hc hc2
        go_enter Tryz.func126, Tryz.ntmps126
        go_wp2
        go_ret
        exact ⟨rfl, rfl⟩
      · have e : Cub.cmpN (Cub.dval s.data.toList) (Cub.dval t.data.toList) = 0 := by unfold Cub.cmpN; rw [if_neg hc, if_neg hc2]
        rw [e]
        rw [decide_eq_true (by omega)] at hsame
        clear hs ht hl e hc hc2
        go_enter Tryz.func126, Tryz.ntmps126
        go_wp2
        go_ret
        exact ⟨rfl, rfl⟩
  · have hne : ((s.size : Int) != (t.size : Int)) = true := by rw [bne_iff_ne]; omega
    by_cases hlt : s.size < t.size
    · have e : Cub.cmpN (Cub.dval s.data.toList) (Cub.dval t.data.toList) = -1 := if_pos (Cub.len_lt_dval hs ht (by rw [list_len, list_len]; exact hlt))
      rw [e]
      clear hs ht hl e
      go_enter Tryz.func126, Tryz.ntmps126
      go_wp2
      go_ret
      exact ⟨rfl, rfl⟩
    · have e0 := Cub.len_lt_dval ht hs (by rw [list_len, list_len]; omega)
      have e : Cub.cmpN (Cub.dval s.data.toList) (Cub.dval t.data.toList) = 1 := by unfold Cub.cmpN; rw [if_neg (by omega), if_pos e0]
      rw [e]
      clear hs ht hl e e0
      go_enter Tryz.func126, Tryz.ntmps126
      go_wp2
      go_ret
      exact ⟨rfl, rfl⟩
theorem refCompareM (m n : Nat) (w : World) : Calls Tryz.prog 126 #[.string (tx m), .string (tx n)] w fun e w' => e = .returned (.int .i64 (Cub.cmpN m n)) ∧ w' = w := by
  have h := compare_any (tx m) (tx n) w (tx_nat m) (tx_nat n)
  rw [show Cub.dval (tx m).data.toList = m from tx_val m, show Cub.dval (tx n).data.toList = n from tx_val n] at h
  exact h

end Go.Proofs.YtndhinoomlofgaaGreatDoor

/- A number's text, cut by the program and by the document: the same at every text. -/
import Derived.Test.YtifalmdoligblaaGreatDoorQuo
import Derived.Test.YtifalmdoligblaaGreatDoorRefFits
import Derived.Test.YtifalmdoligblaaGreatDoorRefPlus
import Derived.Test.YtifalmdoligblaaGreatDoorRefDivMath
import Derived.Test.YtifalmdoligblaaGreatDoorRefNew
import Derived.Test.YtifalmdoligblaaGreatDoorForm
namespace Go.Proofs.YtifalmdoligblaaGreatDoor
open Go.RowKit

/-- A number's text. -/
def tx (n : Nat) : ByteArray := ⟨(Lib.decDigits n).toArray⟩
theorem tx_list (n : Nat) : (tx n).data.toList = Lib.decDigits n := rfl
theorem tx_val (n : Nat) : val (tx n) = n := Cub.dval_dec n
theorem tx_nat (n : Nat) : Cub.isNat (tx n).data.toList := Cub.isNat_dec n
theorem tx_tb (n : Nat) (h : n < 10 ^ 600) : tb n = tx n := (mk_tb n h).symm
theorem tx_size {d n : Nat} (hd : 1 ≤ d) (h : n < 10 ^ d) : (tx n).size ≤ d := by
  have := (Cub.dec_len_lt n d hd).2 h
  rw [← tx_list, list_len] at this
  exact this
theorem tx_zero : ((tx 0).toList == [48]) = true := by
  rw [Lib.toList_data, tx_list, dec_zero]; rfl
theorem tx_pos (n : Nat) (h0 : 0 < n) : ((tx n).toList == [48]) = false := by
  rw [Lib.toList_data, tx_list, beq_eq_false_iff_ne]
  intro e
  rw [← dec_zero] at e
  have := Cub.dec_inj e
  omega
theorem refDivideM (d m n : Nat) (w : World) (hd1 : 1 ≤ d) (hd : d ≤ 5000) (hm : m < 10 ^ d) (hn : n < 10 ^ d) (h0 : 0 < n) :
    Calls Tryz.prog 119 #[.string (tx m), .string (tx n)] w fun e w' => e = .returned (.tuple #[.string (tx (m / n)), .string (tx (m % n))]) ∧ Below w.heap.size w w' := by
  have h := refDivideG (tx m) (tx n) w (tx_nat m) (tx_nat n) (Nat.le_trans (tx_size hd1 hm) hd) (Nat.le_trans (tx_size hd1 hn) hd) (by rw [tx_val]; exact h0)
  rw [tx_val, tx_val] at h
  exact h
theorem refPlusM (d m n : Nat) (w : World) (hd1 : 1 ≤ d) (hd : d ≤ 5000) (hm : m < 10 ^ d) (hn : n < 10 ^ d) :
    Calls Tryz.prog 120 #[.string (tx m), .string (tx n)] w fun e w' => e = .returned (.string (tx (m + n))) ∧ Below w.heap.size w w' := by
  have s1 := tx_size hd1 hm
  have s2 := tx_size hd1 hn
  have h := refPlus_any (tx m) (tx n) w (by omega) (by omega) (tx_nat m).1 (tx_nat n).1
  rw [show Cub.dval (tx m).data.toList = m from tx_val m, show Cub.dval (tx n).data.toList = n from tx_val n] at h
  exact h
theorem refMinusM (d m n : Nat) (w : World) (hd1 : 1 ≤ d) (hd : d ≤ 5000) (hm : m < 10 ^ d) (hn : n < 10 ^ d) (hle : n ≤ m) :
    Calls Tryz.prog 121 #[.string (tx m), .string (tx n)] w fun e w' => e = .returned (.string (tx (m - n))) ∧ Below w.heap.size w w' := by
  have s1 := tx_size hd1 hm
  have s2 := tx_size hd1 hn
  have e1 : Cub.dval (tx m).data.toList = m := tx_val m
  have e2 : Cub.dval (tx n).data.toList = n := tx_val n
  have h := refMinus_any (tx m) (tx n) w (by omega) (by omega) (tx_nat m).1 (tx_nat n).1 (by rw [e1, e2]; exact hle)
  rw [e1, e2] at h
  exact h

set_option maxRecDepth 100000 in
set_option maxHeartbeats 400000 in
theorem refTimesS_any (s t : ByteArray) (w : World) (hs : s.size ≤ 100000) (ht : t.size ≤ 100000) (hds : Cub.digs s.data.toList) (hdt : Cub.digs t.data.toList) :
    Calls Tryz.prog 123 #[.string s, .string t] w fun e w' => e = .returned (.string ⟨(Lib.decDigits (Cub.dval s.data.toList * Cub.dval t.data.toList)).toArray⟩) ∧ Below w.heap.size w w' := by
  have HDS := hide hds
  have HDT := hide hdt
  clear hds hdt
  go_enter Tryz.func123, Tryz.ntmps123
  go_wp2_with (first
    | (go_at_call_of 157 s; refine (refLimbs_any s _ (by omega) (unhide HDS)).mono ?_; rintro e w1 ⟨vx, lx, rfl, hox, hnx, hvx, hb1⟩; have HX := hide (And.intro hnx (And.intro hvx hox)); have hbx : lx.length ≤ 100000 := (by have := Cub.len_le4 (unhide HDS) hnx hvx; rw [list_len] at this; omega); clear hnx hvx hox)
    | (go_at_call_of 157 t; refine (refLimbs_any t _ (by omega) (unhide HDT)).mono ?_; rintro e w2 ⟨vy, ly, rfl, hoy, hny, hvy, hb2⟩; have HY := hide (And.intro hny (And.intro hvy hoy)); have hby : ly.length ≤ 100000 := (by have := Cub.len_le4 (unhide HDT) hny hvy; rw [list_len] at this; omega); clear hny hvy hoy)
    | (go_at_call 163; refine (refTimes_any vx vy _ _ lx ly _ ((unhide HX).2.2.later hb2) (unhide HY).2.2 (unhide HX).1.1 (unhide HY).1.1 (by omega) (by omega)).mono ?_; rintro e w3 ⟨vz, lz, rfl, hoz, hnz, hvz, hlz, hb3⟩; have HZ := hide (And.intro hnz (And.intro hvz hoz)); clear hnz hvz hoz)
    | (go_at_call 161; refine (refText_any _ _ _ _ (unhide HZ).2.2 (unhide HZ).1 (by omega)).mono ?_; rintro e w4 ⟨rfl, hb4⟩))
  go_ret
  have hb12 := hb1.trans (hb2.mono hb1.size)
  have hb13 := hb12.trans (hb3.mono hb12.size)
  exact ⟨by rw [← (unhide HX).2.1, ← (unhide HY).2.1, ← (unhide HZ).2.1]; rfl, hb13.trans (hb4.mono hb13.size)⟩
theorem refTimesM (d m n : Nat) (w : World) (hd1 : 1 ≤ d) (hd : d ≤ 5000) (hm : m < 10 ^ d) (hn : n < 10 ^ d) :
    Calls Tryz.prog 123 #[.string (tx m), .string (tx n)] w fun e w' => e = .returned (.string (tx (m * n))) ∧ Below w.heap.size w w' := by
  have s1 := tx_size hd1 hm
  have s2 := tx_size hd1 hn
  have h := refTimesS_any (tx m) (tx n) w (by omega) (by omega) (tx_nat m).1 (tx_nat n).1
  rw [show Cub.dval (tx m).data.toList = m from tx_val m, show Cub.dval (tx n).data.toList = n from tx_val n] at h
  exact h
/-- How far Euclid's steps have come. -/
def ComInvM (d M N m n : Nat) (a b : ByteArray) : Prop := a = tx m ∧ b = tx n ∧ m < 10 ^ d ∧ n < 10 ^ d ∧ Nat.gcd m n = Nat.gcd M N

set_option maxRecDepth 100000 in
set_option maxHeartbeats 400000 in
theorem refCommonM (d M N : Nat) (w : World) (hd1 : 1 ≤ d) (hd : d ≤ 5000) (hM : M < 10 ^ d) (hN : N < 10 ^ d) :
    Calls Tryz.prog 77 #[.string (tx M), .string (tx N)] w fun e w' => e = .returned (.string (tx (Nat.gcd M N))) ∧ Below w.heap.size w w' := by
  have HI : Hid (ComInvM d M N M N (tx M) (tx N)) := ⟨rfl, rfl, hM, hN, rfl⟩
  have HD : Hid (∀ m n (a b : ByteArray), ComInvM d M N m n a b → 0 < n → ∃ c r : ByteArray, ComInvM d M N n (m % n) b r ∧ ∀ W, Calls Tryz.prog 119 #[.string a, .string b] W fun e w' => e = .returned (.tuple #[.string c, .string r]) ∧ Below W.heap.size W w') := fun m n a b h h0 => by
    obtain ⟨rfl, rfl, hm, hn, hg⟩ := h
    refine ⟨tx (m / n), tx (m % n), ⟨rfl, rfl, hn, mod_lt' m n d hm, ?_⟩, fun W => refDivideM d m n W hd1 hd hm hn h0⟩
    rw [← hg, Nat.gcd_comm m n, Nat.gcd_rec n m, Nat.gcd_comm]
  have HZ : Hid (∀ m n (a b : ByteArray), ComInvM d M N m n a b → 0 < n → (b.toList == [48]) = false) := fun m n a b h h0 => by
    obtain ⟨rfl, rfl, hm, hn, hg⟩ := h
    exact tx_pos n h0
  have HE : Hid (∀ m (a b : ByteArray), ComInvM d M N m 0 a b → (b.toList == [48]) = true ∧ a = tx (Nat.gcd M N)) := fun m a b h => by
    obtain ⟨rfl, rfl, hm, hn, hg⟩ := h
    rw [Nat.gcd_zero_right] at hg
    exact ⟨tx_zero, by rw [← hg]⟩
  generalize tx M = a0 at *
  generalize tx N = b0 at *
  clear hM hN hd1 hd
  go_enter Tryz.func77, Tryz.ntmps77
  go_wp2
  go_loopg [0, 1] N (fun z v0 v1 wr => ∃ (m n : Nat) (a b : ByteArray), v0 = .string a ∧ v1 = .string b ∧ Hid (z = n) ∧ Hid (ComInvM d M N m n a b) ∧ Hid (Below w.heap.size w wr))
  case atStart => exact ⟨M, N, a0, b0, rfl, rfl, rfl, HI, Below.refl _ _⟩
  case round =>
    obtain ⟨m, n, a, b, rfl, rfl, HK, HC, HW⟩ := hrel
    clear HI
    rcases Nat.eq_zero_or_pos n with h0 | h0
    · subst h0
      obtain ⟨e1, e2⟩ := unhide HE m a b (unhide HC)
      have HV := hide e2
      clear e2 HE HD HZ HC
      go_wp2_with fail
      go_ret
      exact ⟨by rw [← unhide HV]; rfl, unhide HW⟩
    · have e1 := unhide HZ m n a b (unhide HC) h0
      obtain ⟨c, r, hc, hd⟩ := unhide HD m n a b (unhide HC) h0
      have HC2 := hide hc
      have HD2 := hide hd
      have HLT : Hid (m % n < n) := Nat.mod_lt _ h0
      clear hc hd HE HD HZ HC h0
      go_wp2_with (go_at_call 119; go_must (refine (unhide HD2 wr).mono ?_; rintro e w2 ⟨rfl, hb2⟩; have HW2 := hide ((unhide HW).trans (hb2.mono (unhide HW).size)); clear hb2))
      go_roundg (m % n)
      case measure => have := unhide HK; have := unhide HLT; omega
      case rel => exact ⟨n, m % n, b, r, rfl, rfl, rfl, HC2, HW2⟩

set_option maxRecDepth 100000 in
set_option maxHeartbeats 2000000 in
theorem refLowestM (d : Nat) (b : Bool) (m n : Nat) (w : World) (hd1 : 1 ≤ d) (hd : d ≤ 5000) (hm : m < 10 ^ d) (hn : n < 10 ^ d) (hn0 : n ≠ 0) :
    Calls Tryz.prog 75 #[.bool b, .string (tx m), .string (tx n)] w fun r w' => r = .returned (.agg #[.bool (b && decide (m / Nat.gcd m n ≠ 0)), .string (tx (m / Nat.gcd m n)), .string (tx (n / Nat.gcd m n))]) ∧ Below w.heap.size w w' := by
  obtain ⟨V, hV⟩ : ∃ V, V = w.alloc (.cells #[.bool false, .string ⟨#[]⟩, .string ⟨#[]⟩] 61) := ⟨_, rfl⟩
  have hbV : Below w.heap.size w V := by rw [hV]; exact (Below.refl _ _).alloc (Nat.le_refl _) _
  have HR : Hid (FBox V w.heap.size (.bool false) (.string ⟨#[]⟩) (.string ⟨#[]⟩) ∧ Below w.heap.size w V) := ⟨by rw [hV]; exact ⟨by simp [go_sem], by simp [go_sem], by simp [go_sem], by simp [go_sem], by simp [go_sem], by simp [go_sem]⟩, hbV⟩
  have HV := hide hV
  by_cases h0 : m = 0
  · subst h0
    have z : ((tx 0).toList == [48]) = true := by exact tx_zero
    have e0 : (⟨#[48]⟩ : ByteArray) = tx 0 := by rw [← tx_tb 0 (pos10 600)]; exact (lit_tb ⟨#[48]⟩ 0 (by decide) (by decide)).1
    have e1 : (⟨#[49]⟩ : ByteArray) = tx 1 := by rw [← tx_tb 1 (lit_tb ⟨#[49]⟩ 1 (by decide) (by decide)).2]; exact (lit_tb ⟨#[49]⟩ 1 (by decide) (by decide)).1
    have HE : Hid ((Value.agg #[.bool (b && decide (0 / Nat.gcd 0 n ≠ 0)), .string (tx (0 / Nat.gcd 0 n)), .string (tx (n / Nat.gcd 0 n))]) = .agg #[.bool false, .string ⟨#[48]⟩, .string ⟨#[49]⟩]) := by
      show _ = _
      rw [Nat.gcd_zero_left, Nat.zero_div, Nat.div_self (by omega), ← e0, ← e1]; simp
    rw [unhide HE]
    clear e0 e1 hbV hm hn hn0 HE hd1 hd
    generalize tx 0 = s0 at *
    generalize tx n = sn at *
    go_enter Tryz.func75, Tryz.ntmps75
    go_upto_region 1 with fail
    rw [← unhide HV]
    clear hV HV
    have r0 := (unhide HR).1.c0; have r1 := (unhide HR).1.c1; have r2 := (unhide HR).1.c2; have rf0 := (unhide HR).1.f0; have rf1 := (unhide HR).1.f1; have rf2 := (unhide HR).1.f2
    go_wp2_with fail
    have hS := (unhide HR).1.store (.bool false) (.string ⟨#[48]⟩) (.string ⟨#[49]⟩)
    have hb : Below w.heap.size w (store3 V w.heap.size (.bool false) (.string ⟨#[48]⟩) (.string ⟨#[49]⟩)) := below_store3 (unhide HR).2 (Nat.le_refl _) _ _ _
    have u0 := hS.c0; have u1 := hS.c1; have u2 := hS.c2
    exact bodyPost_ret (v := .agg #[.bool false, .string ⟨#[48]⟩, .string ⟨#[49]⟩]) (w := store3 V w.heap.size (.bool false) (.string ⟨#[48]⟩) (.string ⟨#[49]⟩)) (by simp [results, Tryz.results75, go_sem, u0, u1, u2]) rfl ⟨rfl, hb⟩
  · have z : ((tx m).toList == [48]) = false := by exact tx_pos m (by omega)
    have hg0 : 0 < Nat.gcd m n := Nat.gcd_pos_of_pos_right _ (by omega)
    have hgl : Nat.gcd m n < 10 ^ d := Nat.lt_of_le_of_lt (Nat.gcd_le_right _ (by omega)) hn
    have hq0 : m / Nat.gcd m n ≠ 0 := by
      have := Nat.div_pos (Nat.gcd_le_left n (by omega : 0 < m)) hg0
      omega
    have HCM := hide (fun W => refCommonM d m n W hd1 hd hm hn)
    have HD1 := hide (fun W => refDivideM d m (Nat.gcd m n) W hd1 hd hm hgl hg0)
    have HD2 := hide (fun W => refDivideM d n (Nat.gcd m n) W hd1 hd hn hgl hg0)
    have HE : Hid ((b && decide (m / Nat.gcd m n ≠ 0)) = b) := by show _ = _; simp [hq0]
    rw [unhide HE]
    clear hbV hm hn hn0 HE hg0 hgl hq0 h0 hd1 hd
    generalize tx (m / Nat.gcd m n) = q1 at *
    generalize tx (n / Nat.gcd m n) = q2 at *
    generalize tx (m % Nat.gcd m n) = q3 at *
    generalize tx (n % Nat.gcd m n) = q4 at *
    generalize tx (Nat.gcd m n) = sg at *
    generalize tx m = sm at *
    generalize tx n = sn at *
    go_enter Tryz.func75, Tryz.ntmps75
    go_upto_region 1 with fail
    rw [← unhide HV]
    clear hV HV
    go_upto_region 4 with (go_at_call 77; go_must (refine (unhide HCM _).mono ?_; rintro e w1 ⟨rfl, hb1⟩; have HR1 : Hid (FBox w1 w.heap.size (.bool false) (.string ⟨#[]⟩) (.string ⟨#[]⟩) ∧ Below w.heap.size w w1) := ⟨(unhide HR).1.later hb1, (unhide HR).2.trans (hb1.mono (unhide HR).2.size)⟩; clear hb1))
    go_upto_region 5 with (go_at_call 119; go_must (refine (unhide HD1 _).mono ?_; rintro e w2 ⟨rfl, hb2⟩; have HR2 : Hid (FBox w2 w.heap.size (.bool false) (.string ⟨#[]⟩) (.string ⟨#[]⟩) ∧ Below w.heap.size w w2) := ⟨(unhide HR1).1.later hb2, (unhide HR1).2.trans (hb2.mono (unhide HR1).2.size)⟩; clear hb2))
    go_upto_region 6 with (go_at_call 119; go_must (refine (unhide HD2 _).mono ?_; rintro e w3 ⟨rfl, hb3⟩; have HR3 : Hid (FBox w3 w.heap.size (.bool false) (.string ⟨#[]⟩) (.string ⟨#[]⟩) ∧ Below w.heap.size w w3) := ⟨(unhide HR2).1.later hb3, (unhide HR2).2.trans (hb3.mono (unhide HR2).2.size)⟩; clear hb3))
    have r0 := (unhide HR3).1.c0; have r1 := (unhide HR3).1.c1; have r2 := (unhide HR3).1.c2; have rf0 := (unhide HR3).1.f0; have rf1 := (unhide HR3).1.f1; have rf2 := (unhide HR3).1.f2
    go_wp2_with fail
    have hS := (unhide HR3).1.store (.bool b) (.string q1) (.string q2)
    have hb : Below w.heap.size w (store3 w3 w.heap.size (.bool b) (.string q1) (.string q2)) := below_store3 (unhide HR3).2 (Nat.le_refl _) _ _ _
    have u0 := hS.c0; have u1 := hS.c1; have u2 := hS.c2
    exact bodyPost_ret (v := .agg #[.bool b, .string q1, .string q2]) (w := store3 w3 w.heap.size (.bool b) (.string q1) (.string q2)) (by simp [results, Tryz.results75, go_sem, u0, u1, u2]) rfl ⟨rfl, hb⟩

end Go.Proofs.YtifalmdoligblaaGreatDoor

namespace Go.Proofs.YtifalmdoligblaaGreatDoor
open Go.RowKit

def Dg (t : ByteArray) : Prop := Cub.digs t.data.toList
/-- Where digits end; out of the text: 0. -/
def cE (s : ByteArray) (k : Int) : Int := if k ≤ (s.size : Int) then ((dE s k.toNat : Nat) : Int) else 0
def cT (s : ByteArray) (k : Int) : ByteArray := if k ≤ (s.size : Int) then s.extract k.toNat (dE s k.toNat) else ⟨#[]⟩
def hB (s : ByteArray) (k : Int) (b : ByteArray) : Bool := has s k.toNat b.data.toList
theorem h133_all (s : ByteArray) (W : World) (k : Int) (bytes : ByteArray) (h0 : 0 ≤ k) (_ : k ≤ 70000) : Calls Tryz.prog 133 #[.string s, .int .i64 k, .string bytes] W fun e w' => e = .returned (.bool (hB s k bytes)) ∧ w' = W := by
  have := hasAt_any s bytes k.toNat W
  rwa [Int.toNat_of_nonneg h0] at this
theorem h134_all (s : ByteArray) (hs : s.size ≤ 65536) (W : World) (k : Int) (h0 : 0 ≤ k) (h1 : k ≤ (s.size : Int)) : Calls Tryz.prog 134 #[.string s, .int .i64 k] W fun r w' => r = .returned (.tuple #[.string (cT s k), .int .i64 (cE s k)]) ∧ w' = W := by
  have := cutDigits_dE s k.toNat W (by omega) (by omega)
  rw [Int.toNat_of_nonneg h0] at this
  unfold cT cE
  rwa [if_pos h1, if_pos h1]
theorem h138_all (s : ByteArray) (hs : s.size ≤ 65536) (W : World) (k : Int) (h0 : 0 ≤ k) (h1 : k ≤ (s.size : Int)) : Calls Tryz.prog 138 #[.string s, .int .i64 k] W fun r w' => r = .returned (.int .i64 (cE s k)) ∧ w' = W := by
  have := refRun_any s k.toNat W (by omega) (by omega)
  rw [Int.toNat_of_nonneg h0] at this
  unfold cE
  rwa [if_pos h1]
/-- The same as numbers. -/
def nE (s : ByteArray) (k : Nat) : Nat := if k ≤ s.size then dE s k else 0
def nT (s : ByteArray) (k : Nat) : ByteArray := if k ≤ s.size then s.extract k (dE s k) else ⟨#[]⟩
theorem cE_nE (s : ByteArray) (k : Nat) : cE s (k : Int) = (nE s k : Int) := by
  unfold cE nE
  by_cases h : k ≤ s.size
  · rw [if_pos h, if_pos (by omega)]; rfl
  · rw [if_neg h, if_neg (by omega)]; rfl
theorem cT_nT (s : ByteArray) (k : Nat) : cT s (k : Int) = nT s k := by
  unfold cT nT
  by_cases h : k ≤ s.size
  · rw [if_pos h, if_pos (by omega)]; rfl
  · rw [if_neg h, if_neg (by omega)]
theorem nE_in (s : ByteArray) (k : Nat) (h : k ≤ s.size) : k ≤ nE s k ∧ nE s k ≤ s.size := by unfold nE; rw [if_pos h]; exact dE_ge s k h
theorem nE_le (s : ByteArray) (k : Nat) : nE s k ≤ s.size := by
  by_cases h : k ≤ s.size
  · exact (nE_in s k h).2
  · unfold nE; rw [if_neg h]; omega
theorem nT_in (s : ByteArray) (k : Nat) (h : k ≤ s.size) : nT s k = s.extract k (nE s k) := by unfold nT nE; rw [if_pos h, if_pos h]
theorem nT_size (s : ByteArray) (k : Nat) (h : k ≤ s.size) : (nT s k).size = nE s k - k := by
  rw [nT_in s k h]
  have := (nE_in s k h).2
  simp
  omega
theorem nT_dg (s : ByteArray) (k : Nat) (h : k ≤ s.size) : Dg (nT s k) := by
  intro c hc
  have hd := dE_end s _ k rfl h
  unfold nT at hc
  rw [if_pos h] at hc
  obtain ⟨j, hj, e⟩ := List.getElem_of_mem hc
  have g1 := hd.1
  have g2 := hd.2.1
  have hsz : j < (s.extract k (dE s k)).size := by rw [← list_len]; exact hj
  have hb : (s.extract k (dE s k)).size = dE s k - k := by have := hd.2.1; simp; omega
  have e2 : (s.extract k (dE s k))[j] = s[k + j]'(by omega) := by rw [ByteArray.getElem_extract]
  have e3 : (s.extract k (dE s k)).data.toList[j] = (s.extract k (dE s k))[j] := by simp [ByteArray.getElem_eq_getElem_data]
  rw [← e, e3, e2]
  exact hd.2.2.1 (k + j) (by omega) (by omega) (by omega)
theorem empty_iff (t : ByteArray) : t.toList.isEmpty = decide (t.size = 0) := by
  by_cases h : t.size = 0
  · rw [decide_eq_true h]; exact empty_of t h
  · rw [decide_eq_false h]; exact not_empty_of t (by omega)
theorem has_lt {s : ByteArray} {k : Nat} {l : List UInt8} (h : has s k l = true) : k < s.size := by
  by_cases hk : k < s.size
  · exact hk
  · rw [has_out s k l hk] at h; cases h
theorem has_sign {s : ByteArray} {k : Nat} (h : has s k [45] = true) : has s k [43, 45] = true := by
  have hk := has_lt h
  rw [has_one s k _ hk] at h
  rw [has_two s k _ _ hk]
  exact decide_eq_true (Or.inr (of_decide_eq_true h))

/-- What both make of a text: a fault's place; a fraction's two numbers; a decimal's parts. -/
inductive CutOut (s : ByteArray) : Prop
  | fault (k : Nat) (h1 : ∀ w, Calls Tryz.prog 80 #[.string s] w fun r w' => r = .returned (failV (k : Int)) ∧ Below w.heap.size w w')
      (h2 : ∀ w, Calls Tryz.prog 83 #[.string s] w fun r w' => ∃ c', IsCut c' ∧ r = .returned (.tuple #[c', .int .i64 (k : Int)]) ∧ Below w.heap.size w w')
      (hk : k ≤ s.size)
  | fraction (b : Bool) (t u : ByteArray) (k : Nat) (h1 : ∀ w, Calls Tryz.prog 80 #[.string s] w fun r w' => r = .returned (.tuple #[partsV b t ⟨#[]⟩ ⟨#[]⟩ false u (k : Int), .int .i64 (-1)]) ∧ Below w.heap.size w w')
      (h2 : ∀ w, Calls Tryz.prog 83 #[.string s] w fun r w' => r = .returned (.tuple #[cutV b (bareT t) ⟨#[]⟩ false 0 (bareT u) (k : Int), .int .i64 (-1)]) ∧ Below w.heap.size w w')
      (hk : 0 < k ∧ k ≤ s.size) (ht : Dg t ∧ 0 < t.size ∧ t.size ≤ s.size) (hu : Dg u ∧ 0 < u.size ∧ u.size ≤ s.size)
  | decimal (b d : Bool) (t u x : ByteArray) (h1 : ∀ w, Calls Tryz.prog 80 #[.string s] w fun r w' => r = .returned (.tuple #[partsV b t u x d ⟨#[]⟩ 0, .int .i64 (-1)]) ∧ Below w.heap.size w w')
      (h2 : ∀ w, Calls Tryz.prog 83 #[.string s] w fun r w' => r = .returned (.tuple #[cutV b (bareT (t ++ u)) (bareT x) d (u.size : Int) ⟨#[]⟩ 0, .int .i64 (-1)]) ∧ Below w.heap.size w w')
      (ht : Dg t ∧ 0 < t.size ∧ t.size ≤ s.size) (hu : Dg u ∧ u.size ≤ s.size) (hx : Dg x ∧ x.size ≤ s.size)

theorem dg_nil : Dg ⟨#[]⟩ := Cub.digs_nil
theorem bare_nil : bareT ⟨#[]⟩ = ⟨#[]⟩ := rfl
theorem cut_both (s : ByteArray) (hs : s.size ≤ 65536) : CutOut s := by
  obtain ⟨b0, hb0⟩ : ∃ b0, b0 = has s 0 [45] := ⟨_, rfl⟩
  obtain ⟨a, ha⟩ : ∃ a : Nat, a = if b0 then 1 else 0 := ⟨_, rfl⟩
  have hal : a ≤ s.size := by
    cases b0 with
    | true => have := has_lt hb0.symm; rw [ha]; simp; omega
    | false => rw [ha]; simp
  obtain ⟨e1, he1⟩ : ∃ e1, e1 = nE s a := ⟨_, rfl⟩
  have q1 := nE_in s a hal
  rw [← he1] at q1
  obtain ⟨sl, hsl⟩ : ∃ sl, sl = has s e1 [47] := ⟨_, rfl⟩
  obtain ⟨pt, hpt⟩ : ∃ pt, pt = has s e1 [46] := ⟨_, rfl⟩
  obtain ⟨b1, hb1⟩ : ∃ b1, b1 = e1 + 1 := ⟨_, rfl⟩
  obtain ⟨e5, he5⟩ : ∃ e5, e5 = nE s b1 := ⟨_, rfl⟩
  have hsp : sl = true ∨ pt = true → b1 ≤ s.size ∧ b1 ≤ e5 ∧ e5 ≤ s.size := by
    intro h
    have hlt : e1 < s.size := h.elim (fun h => has_lt (hsl.symm.trans h)) (fun h => has_lt (hpt.symm.trans h))
    have := nE_in s b1 (by omega)
    rw [← he5] at this
    exact ⟨by omega, this⟩
  obtain ⟨e2, he2⟩ : ∃ e2, e2 = if pt then e5 else e1 := ⟨_, rfl⟩
  have q2 : e2 ≤ s.size := by
    rw [he2]; split
    · rw [he5]; exact nE_le s b1
    · exact q1.2
  obtain ⟨ex, hex⟩ : ∃ ex, ex = has s e2 [101, 69] := ⟨_, rfl⟩
  obtain ⟨b2, hb2⟩ : ∃ b2, b2 = e2 + 1 := ⟨_, rfl⟩
  obtain ⟨dn, hdn⟩ : ∃ dn, dn = has s b2 [45] := ⟨_, rfl⟩
  obtain ⟨sg, hsg⟩ : ∃ sg, sg = has s b2 [43, 45] := ⟨_, rfl⟩
  obtain ⟨a3, ha3⟩ : ∃ a3, a3 = if sg then b2 + 1 else b2 := ⟨_, rfl⟩
  obtain ⟨e6, he6⟩ : ∃ e6, e6 = nE s a3 := ⟨_, rfl⟩
  have q3 : ex = true → b2 ≤ s.size := fun h => by have := has_lt (hex.symm.trans h); omega
  have q4 : ex = true → a3 ≤ s.size ∧ a3 ≤ e6 ∧ e6 ≤ s.size := fun h => by
    have h1 := q3 h
    have h2 : a3 ≤ s.size := by
      rw [ha3]; split
      · rename_i hg; have := has_lt (hsg.symm.trans hg); omega
      · exact h1
    have := nE_in s a3 h2
    rw [← he6] at this
    exact ⟨h2, this⟩
  obtain ⟨e3, he3⟩ : ∃ e3, e3 = if ex then e6 else e2 := ⟨_, rfl⟩
  have q5 : e3 ≤ s.size := by
    rw [he3]; split
    · rw [he6]; exact nE_le s a3
    · exact q2
  have hd : (ex && sg && dn) = (ex && dn) := by
    cases hq : dn with
    | false => simp
    | true => rw [hsg, has_sign (hdn.symm.trans hq)]; simp
  have W1 := fun (R : Value) (w : World) => cutParts_walk s (nT s a) (nT s b1) (if pt then nT s b1 else ⟨#[]⟩) (nT s a3) (if ex then nT s a3 else ⟨#[]⟩) (hB s) (cT s) (cE s) R w hs (h133_all s) (h134_all s hs) b0 (decide ((nT s a).size = 0)) sl (decide ((nT s b1).size = 0)) pt ex dn sg (decide ((nT s a3).size = 0)) a e1 e5 e2 a3 e6 e3
    hb0.symm ha hal (cT_nT s a) (by rw [cE_nE, he1]) (empty_iff _) q1.2 (by rw [hsl]; rfl) (by rw [hpt]; rfl) (fun h => by have := (hsp h).1; omega) (by have := cT_nT s b1; rw [hb1] at this ⊢; simpa using this) (by have := cE_nE s b1; rw [← he5, hb1] at this; simpa using this) (empty_iff _) (by rw [he5]; exact nE_le s b1) he2 rfl
    (by rw [hex]; rfl) (fun h => by have := q3 h; omega) (by rw [hdn, hb2]; rfl) (by rw [hsg, hb2]; rfl) (fun h => by have := has_lt (hsg.symm.trans h); omega) (by rw [ha3, hb2]) (cT_nT s a3) (by rw [cE_nE, he6]) (empty_iff _) he3 rfl
  have W2 := fun (fl : Int) (c : Value) (w : World) => form_walk s (if pt then s.extract a e1 ++ s.extract b1 e5 else s.extract a e1) (if ex then bareT (s.extract a3 e6) else ⟨#[]⟩) (cE s) fl c w hs (h138_all s hs) b0 sl pt ex sg dn (ex && sg && dn) a e1 b1 e5 e2 b2 a3 e6 e3 (if pt then (e5 : Int) - (b1 : Int) else 0)
    hb0 ha hal (by rw [cE_nE, he1]) q1.1 q1.2 hsl hpt hb1 hsp (by rw [cE_nE, he5]) he2 rfl rfl hex hb2 q3 hdn hsg ha3 q4 (by rw [cE_nE, he6]) he3 rfl rfl
  have n1 : (nT s a).size = e1 - a := by rw [nT_size s a hal, he1]
  have x1 : nT s a = s.extract a e1 := by rw [nT_in s a hal, he1]
  have nz : (decide ((nT s a).size = 0)) = decide (e1 = a) := by rw [n1]; exact decide_eq_decide.2 (by omega)
  have n5 : b1 ≤ s.size → (nT s b1).size = e5 - b1 ∧ nT s b1 = s.extract b1 e5 ∧ (decide ((nT s b1).size = 0)) = decide (e5 = b1) := fun h => by
    have h1 : (nT s b1).size = e5 - b1 := by rw [nT_size s b1 h, he5]
    have h2 := nE_in s b1 h
    rw [← he5] at h2
    exact ⟨h1, by rw [nT_in s b1 h, he5], by rw [h1]; exact decide_eq_decide.2 (by omega)⟩
  have n6 : a3 ≤ s.size → (nT s a3).size = e6 - a3 ∧ nT s a3 = s.extract a3 e6 ∧ (decide ((nT s a3).size = 0)) = decide (e6 = a3) := fun h => by
    have h1 : (nT s a3).size = e6 - a3 := by rw [nT_size s a3 h, he6]
    have h2 := nE_in s a3 h
    rw [← he6] at h2
    exact ⟨h1, by rw [nT_in s a3 h, he6], by rw [h1]; exact decide_eq_decide.2 (by omega)⟩
  have hp' : (pt && decide ((nT s b1).size = 0)) = (pt && decide (e5 = b1)) := by
    cases hq : pt with
    | false => rfl
    | true => rw [(n5 (hsp (Or.inr hq)).1).2.2]
  have hx' : (ex && decide ((nT s a3).size = 0)) = (ex && decide (e6 = a3)) := by
    cases hq : ex with
    | false => rfl
    | true => rw [(n6 (q4 hq).1).2.2]
  rw [nz, hp', hx'] at W1
  have FA : ∀ (k : Nat), k ≤ s.size → (failV (k : Int) = if decide (e1 = a) then failV e1 else if sl then (if decide ((nT s b1).size = 0) then failV e5 else if e5 < s.size then failV e5 else .tuple #[partsV b0 (nT s a) ⟨#[]⟩ ⟨#[]⟩ false (nT s b1) ((e1 : Int) + 1), .int .i64 (-1)]) else if pt && decide (e5 = b1) then failV e5 else if ex && decide (e6 = a3) then failV e6 else if e3 < s.size then failV e3 else .tuple #[partsV b0 (nT s a) (if pt then nT s b1 else ⟨#[]⟩) (if ex then nT s a3 else ⟨#[]⟩) (ex && dn) ⟨#[]⟩ 0, .int .i64 (-1)]) →
      ((k : Int) = if e1 = a then (a : Int) else if sl then (if e5 = b1 then (e5 : Int) else if e5 < s.size then (e5 : Int) else -1) else if pt && decide (e5 = b1) then (b1 : Int) else if ex && decide (e6 = a3) then (a3 : Int) else if e3 < s.size then (e3 : Int) else -1) → CutOut s := fun k hk h1 h2 =>
    .fault k (fun w => W1 _ w h1) (fun w => (W2 (k : Int) _ w h2 rfl).mono fun r w' ⟨c', k1, k2, _, k3⟩ => ⟨c', k1, k2, k3⟩) hk
  have ht : Dg (nT s a) ∧ (e1 ≠ a → 0 < (nT s a).size) ∧ (nT s a).size ≤ s.size := ⟨nT_dg s a hal, fun h => by rw [n1]; omega, by rw [n1]; omega⟩
  by_cases hz : e1 = a
  · exact FA e1 q1.2 (by rw [if_pos (decide_eq_true hz)]) (by rw [if_pos hz, hz])
  · have hz' : ¬ (decide (e1 = a) = true) := by rw [decide_eq_true_iff]; exact hz
    by_cases hl : sl = true
    · obtain ⟨y1, y2, y3⟩ := hsp (Or.inl hl)
      obtain ⟨m1, m2, m3⟩ := n5 y1
      by_cases h5 : e5 = b1
      · exact FA e5 y3 (by rw [if_neg hz', if_pos hl, m3, if_pos (decide_eq_true h5)]) (by rw [if_neg hz, if_pos hl, if_pos h5])
      · have h5' : ¬ (decide (e5 = b1) = true) := by rw [decide_eq_true_iff]; exact h5
        by_cases h6 : e5 < s.size
        · exact FA e5 y3 (by rw [if_neg hz', if_pos hl, m3, if_neg h5', if_pos h6]) (by rw [if_neg hz, if_pos hl, if_neg h5, if_pos h6])
        · refine .fraction b0 (nT s a) (nT s b1) b1 (fun w => W1 _ w ?_) (fun w => (W2 (-1) _ w ?_ rfl).mono ?_) ⟨by omega, y1⟩ ⟨ht.1, ht.2.1 hz, ht.2.2⟩ ⟨nT_dg s b1 y1, by rw [m1]; omega, by rw [m1]; omega⟩
          · rw [if_neg hz', if_pos hl, m3, if_neg h5', if_neg h6, hb1]; rfl
          · rw [if_neg hz, if_pos hl, if_neg h5, if_neg h6]
          · rintro r w' ⟨c', _, rfl, k2, k3⟩
            refine ⟨?_, k3⟩
            rw [k2 (by decide), if_pos hl, x1, m2]
    · by_cases hp : (pt && decide (e5 = b1)) = true
      · have hpp := (Bool.and_eq_true _ _).mp hp
        have h5 := of_decide_eq_true hpp.2
        exact FA e5 (hsp (Or.inr hpp.1)).2.2 (by rw [if_neg hz', if_neg hl, if_pos hp]) (by rw [if_neg hz, if_neg hl, if_pos hp, h5])
      · by_cases hx : (ex && decide (e6 = a3)) = true
        · have hxx := (Bool.and_eq_true _ _).mp hx
          have h6 := of_decide_eq_true hxx.2
          exact FA e6 (q4 hxx.1).2.2 (by rw [if_neg hz', if_neg hl, if_neg hp, if_pos hx]) (by rw [if_neg hz, if_neg hl, if_neg hp, if_pos hx, h6])
        · by_cases h3 : e3 < s.size
          · exact FA e3 q5 (by rw [if_neg hz', if_neg hl, if_neg hp, if_neg hx, if_pos h3]) (by rw [if_neg hz, if_neg hl, if_neg hp, if_neg hx, if_pos h3])
          · refine .decimal b0 (ex && dn) (nT s a) (if pt then nT s b1 else ⟨#[]⟩) (if ex then nT s a3 else ⟨#[]⟩) (fun w => W1 _ w ?_) (fun w => (W2 (-1) _ w ?_ rfl).mono ?_) ⟨ht.1, ht.2.1 hz, ht.2.2⟩ ?_ ?_
            · rw [if_neg hz', if_neg hl, if_neg hp, if_neg hx, if_neg h3]
            · rw [if_neg hz, if_neg hl, if_neg hp, if_neg hx, if_neg h3]
            · rintro r w' ⟨c', _, rfl, k2, k3⟩
              refine ⟨?_, k3⟩
              rw [k2 (by decide), if_neg hl, hd, x1]
              have v1 : (if pt then s.extract a e1 ++ s.extract b1 e5 else s.extract a e1) = s.extract a e1 ++ (if pt then nT s b1 else ⟨#[]⟩) ∧ (if pt then (e5 : Int) - (b1 : Int) else 0) = (((if pt then nT s b1 else ⟨#[]⟩) : ByteArray).size : Int) := by
                by_cases hq : pt = true
                · obtain ⟨y1, y2, y3⟩ := hsp (Or.inr hq)
                  rw [if_pos hq, if_pos hq, if_pos hq, (n5 y1).1, (n5 y1).2.1]
                  exact ⟨rfl, by omega⟩
                · rw [if_neg hq, if_neg hq, if_neg hq]
                  exact ⟨bytes_ext (by simp), rfl⟩
              have v2 : (if ex then bareT (s.extract a3 e6) else ⟨#[]⟩) = bareT (if ex then nT s a3 else ⟨#[]⟩) := by
                by_cases hq : ex = true
                · rw [if_pos hq, if_pos hq, (n6 (q4 hq).1).2.1]
                · rw [if_neg hq, if_neg hq, bare_nil]
              rw [v1.1, v1.2, v2]
            · by_cases hq : pt = true
              · obtain ⟨y1, y2, y3⟩ := hsp (Or.inr hq)
                rw [if_pos hq]
                exact ⟨nT_dg s b1 y1, by rw [(n5 y1).1]; omega⟩
              · rw [if_neg hq]; exact ⟨dg_nil, Nat.zero_le _⟩
            · by_cases hq : ex = true
              · rw [if_pos hq]
                exact ⟨nT_dg s a3 (q4 hq).1, by rw [(n6 (q4 hq).1).1]; have := (q4 hq).2.2; omega⟩
              · rw [if_neg hq]; exact ⟨dg_nil, Nat.zero_le _⟩
end Go.Proofs.YtifalmdoligblaaGreatDoor

/- (nat.Big).Pow. -/
import Derived.Test.YtoinadnpdbaamaaGreatDoorMul
import Derived.Test.YtoinadnpdbaamaaGreatDoorBigOf
import Derived.Test.YtoinadnpdbaamaaGreatDoorTb
import Derived.Test.YtoinadnpdbaamaaGreatDoorShelf
import Derived.Laws.Bits128
import Derived.Test.YtoinadnpdbaamaaGreatDoorText
import Derived.Deep.RegionWith
import Derived.Test.YtoinadnpdbaamaaGreatDoorQuo
import Derived.Test.YtoinadnpdbaamaaGreatDoorAwake
import Derived.Test.YtoinadnpdbaamaaGreatDoorFrPow
namespace Go.Proofs.YtoinadnpdbaamaaGreatDoor
open Go.RowKit

theorem mulB (x y : Value) (m n r k : Nat) (w : World) (hx : IsBig w x m) (hy : IsBig w y n) (hk : k ≤ 1000000) (hm : m < 1000000000 ^ k) (hn : n < 1000000000 ^ k) (hr : r = m * n) :
    Calls Tryz.prog 147 #[x, y] w fun e w' => ∃ a l c, e = .returned (.agg #[.slice a l c]) ∧ IsBig w' (.agg #[.slice a l c]) r ∧ Below w.heap.size w w' := by
  subst hr
  refine (mul_any x y m n k w hx hy hk hm hn).mono ?_
  rintro e w' ⟨v, rfl, hv, hb⟩
  obtain ⟨a, n, c, rfl⟩ := hv.shape
  exact ⟨a, n, c, rfl, hv, hb⟩
theorem powLt (m n q M : Nat) (h : q ≤ n) (hM : m ^ n < M) (h1 : 1 < M) : m ^ q < M := by
  by_cases h0 : m = 0
  · subst h0
    cases q with
    | zero => simpa using h1
    | succ q => rw [Nat.zero_pow (by omega)]; omega
  · exact Nat.lt_of_le_of_lt (Nat.pow_le_pow_right (by omega) h) hM
theorem half_step (n i : Nat) : n / 2 ^ i = 2 * (n / 2 ^ (i + 1)) + (n / 2 ^ i) % 2 := by
  rw [Nat.pow_succ, ← Nat.div_div_eq_div_mul]; omega
theorem pow_even (m n i : Nat) (h : (n / 2 ^ i) % 2 = 0) : m ^ (n / 2 ^ i) = m ^ (n / 2 ^ (i + 1)) * m ^ (n / 2 ^ (i + 1)) := by
  rw [← Nat.pow_add]; congr 1; have := half_step n i; omega
theorem pow_odd (m n i : Nat) (h : (n / 2 ^ i) % 2 = 1) : m ^ (n / 2 ^ i) = m ^ (n / 2 ^ (i + 1)) * m ^ (n / 2 ^ (i + 1)) * m := by
  rw [← Nat.pow_add, ← Nat.pow_succ]; congr 1; have := half_step n i; omega

theorem bitLen_ok (n : Nat) (hn : n ≤ 9223372036854775807) : Lib.bitLen n ≤ 64 ∧ n / 2 ^ Lib.bitLen n = 0 := by
  by_cases h0 : n = 0
  · subst h0
    exact ⟨by decide, by simp⟩
  · obtain ⟨h1, h2, h3⟩ := Lib.bitLenAux_bounds 64 n (by omega) h0
    have e : Lib.bitLen n = Lib.bitLenAux 64 n := rfl
    rw [e]
    refine ⟨?_, Nat.div_eq_of_lt (by simpa using h3)⟩
    apply Decidable.byContradiction
    intro hc
    have h4 : 2 ^ 64 ≤ 2 ^ (Lib.bitLenAux 64 n - 1) := Nat.pow_le_pow_right (by decide) (by omega)
    omega

theorem and_one' (x : Int) : bits .and .i64 x 1 = x % 2 := by
  have h1 : (BitVec.ofInt 64 1).toNat = 2 ^ 1 - 1 := by decide
  have key : (BitVec.ofInt 64 x &&& BitVec.ofInt 64 1).toNat = (x % ((2 ^ 64 : Nat) : Int)).toNat % 2 ^ 1 := by
    rw [BitVec.toNat_and, BitVec.toNat_ofInt, h1, Nat.and_two_pow_sub_one_eq_mod]
  show IntKind.i64.wrap ((BitVec.ofInt 64 x &&& BitVec.ofInt 64 1).toNat : Nat) = x % 2
  rw [key, IntKind.wrap_i64]
  omega
theorem and_one (n j : Nat) : bits BinOp.and IntKind.i64 ((n : Int) / 2 ^ j) 1 = (((n / 2 ^ j) % 2 : Nat) : Int) := by
  rw [and_one']
  push_cast
  rfl

set_option maxRecDepth 100000 in
set_option maxHeartbeats 800000 in
theorem bigPow_any (x : Value) (m n k : Nat) (w : World) (hx : IsBig w x m) (hn : n ≤ 9223372036854775807) (hk1 : 1 ≤ k) (hk : k ≤ 1000000) (hP : m ^ n < 1000000000 ^ k) (hm : m < 1000000000 ^ k) :
    Calls Tryz.prog 150 #[x, .int .i64 (n : Int)] w fun e w' => ∃ a l c, e = .returned (.agg #[.slice a l c]) ∧ IsBig w' (.agg #[.slice a l c]) (m ^ n) ∧ Below w.heap.size w w' := by
  obtain ⟨xa, xn, xc, rfl⟩ := hx.shape
  have HX := hide hx
  have HP := hide hP
  have HM := hide hm
  have H92 := hide (fun W => Tryz.bits_Len (n : Int) W (by omega) (by omega))
  clear hx hP hm
  obtain ⟨hL, hL0⟩ := bitLen_ok n hn
  have e9 : ((n : Int)).toNat = n := by simp
  rw [e9] at H92
  clear e9
  generalize Lib.bitLen n = L at *
  have HL0 := hide hL0
  clear hL0
  go_enter Tryz.func150, Tryz.ntmps150
  go_wp2_with (first
    | (go_at_call 112; refine (bigOf_any 1 _ (by decide)).mono ?_; rintro e w2 ⟨ba, bn, bc, rfl, hbig, hb2⟩; have HBIG := hide hbig; clear hbig)
    | (go_at_call 183; refine (unhide H92 _).mono ?_; rintro e w' ⟨rfl, rfl⟩))
  have hs2 : w.heap.size + 2 ≤ w2.heap.size := by have := hb2.size; simpa using this
  have hc0 : w2.cell? ⟨w.heap.size, 0, none⟩ = some (.slice xa xn xc) := by rw [hb2.cell (p := ⟨w.heap.size, 0, none⟩) (by simp; omega)]; simp
  have hc1 : w2.cell? ⟨w.heap.size + 1, 0, none⟩ = some (.slice none 0 0) := by rw [hb2.cell (p := ⟨w.heap.size + 1, 0, none⟩) (by simp)]; simp
  have hf1 : w2.frozen? ⟨w.heap.size + 1, 0, none⟩ = false := by rw [hb2.frozen (p := ⟨w.heap.size + 1, 0, none⟩) (by simp)]; simp
  have hbw : Below w.heap.size w w2 := (((Below.refl _ _).alloc (Nat.le_refl _) _).alloc (by simp) _).trans (hb2.mono (by simp; omega))
  have HX2 := hide ((unhide HX).later hbw)
  go_loopw [6] (fun t wr => ∃ (i : Nat) (pa : Option Addr) (pn pc : Nat), i ≤ 64 ∧ t = .int .i64 ((i : Int) - 1) ∧ wr.cell? ⟨w2.heap.size, 0, none⟩ = some (.slice pa pn pc) ∧ wr.frozen? ⟨w2.heap.size, 0, none⟩ = false ∧ Hid (IsBig wr (.agg #[.slice pa pn pc]) (m ^ (n / 2 ^ i))) ∧ Below w2.heap.size w2 wr) (fun t _ => (intOf t + 1).toNat)
  case atStart => exact ⟨L, ba, bn, bc, hL, by go_num, World.cell?_alloc_at _ _ _ _ rfl, World.frozen?_alloc_at _ _ _ _ rfl, by rw [unhide HL0]; exact (unhide HBIG).later ((Below.refl _ _).alloc (Nat.le_refl _) _), (Below.refl _ _).alloc (Nat.le_refl _) _⟩
  case round =>
    obtain ⟨i, pa, pn, pc, hi, rfl, hcell, hfr, HB, hbl⟩ := hrel
    by_cases h0 : 0 < i
    · obtain ⟨j, rfl⟩ : ∃ j, i = j + 1 := ⟨i - 1, by omega⟩
      have e6 : ((j + 1 : Nat) : Int) - 1 = (j : Int) := by omega
      rw [e6]
      clear e6
      have h1 : 1 < 1000000000 ^ k := Nat.one_lt_pow (by omega) (by decide)
      have hst := half_step n j
      have hdl : n / 2 ^ j ≤ n := Nat.div_le_self _ _
      have B1 := powLt m n (n / 2 ^ (j + 1)) _ (by omega) (unhide HP) h1
      have B2 : m ^ (n / 2 ^ (j + 1)) * m ^ (n / 2 ^ (j + 1)) < 1000000000 ^ k := by rw [← Nat.pow_add]; exact powLt m n _ _ (by omega) (unhide HP) h1
      have HE := hide (pow_even m n j)
      have HO := hide (pow_odd m n j)
      generalize m ^ (n / 2 ^ (j + 1)) = Q at *
      have H1 := hide (fun W v (hv : IsBig W v Q) => mulB v v Q Q (Q * Q) k W hv hv hk B1 B1 rfl)
      have H2 := hide (fun W v x (hv : IsBig W v (Q * Q)) (hx : IsBig W x m) => mulB v x (Q * Q) m (Q * Q * m) k W hv hx hk B2 (unhide HM) rfl)
      clear B1 B2 h1 hst hdl
      have hg : w2.heap.size < wr.heap.size := World.block_lt_of_cell? _ _ hcell
      have hc0r := (hbl.cell (p := ⟨w.heap.size, 0, none⟩) (by simp; omega)).trans hc0
      have hand := and_one n j
      by_cases hbit : (n / 2 ^ j) % 2 = 1
      · rw [hbit] at hand
        rw [← unhide HO hbit] at H2
        go_wp2_with (first
          | (go_at_call_of 147 (Value.agg #[Value.slice pa pn pc]); refine (unhide H1 _ _ (unhide HB)).mono ?_; rintro e w3 ⟨ya, yn, yc, rfl, hy, hb3⟩; have HY := hide (hy.box (.slice ya yn yc) (box_later hb3 hg hcell hfr).1 (no_int _ _ _)); clear hy; obtain ⟨hcell3, hfr3⟩ := box_later hb3 hg hcell hfr; have hcell4 := World.cell?_setCell_same w3 ⟨w2.heap.size, 0, none⟩ (.slice ya yn yc) hcell3; have hfr4 : (w3.setCell ⟨w2.heap.size, 0, none⟩ (.slice ya yn yc)).frozen? ⟨w2.heap.size, 0, none⟩ = false := by rw [World.frozen?_setCell]; exact hfr3
             have hb4 : Below w2.heap.size w2 (w3.setCell ⟨w2.heap.size, 0, none⟩ (.slice ya yn yc)) := (hbl.trans (hb3.mono hbl.size)).setCell (Nat.le_refl _) _
             have hc04 := (hb4.cell (p := ⟨w.heap.size, 0, none⟩) (by simp; omega)).trans hc0)
          | (go_at_call_of 147 (Value.agg #[Value.slice xa xn xc]); refine (unhide H2 _ _ _ (unhide HY) ((unhide HX2).later hb4)).mono ?_; rintro e w5 ⟨za, zn, zc, rfl, hz, hb5⟩; obtain ⟨hcell5, hfr5⟩ := box_later hb5 (World.block_lt_of_cell? _ _ hcell4) hcell4 hfr4; have HZ := hide (hz.box (.slice za zn zc) hcell5 (no_int _ _ _)); clear hz))
        go_roundw
        case rel => exact ⟨j, za, zn, zc, by omega, by go_num, World.cell?_setCell_same _ _ _ hcell5, by rw [World.frozen?_setCell]; exact hfr5, HZ, (hb4.trans (hb5.mono hb4.size)).setCell (Nat.le_refl _) _⟩
        case measure => simp [intOf]
      · have hbit0 : (n / 2 ^ j) % 2 = 0 := by omega
        rw [hbit0] at hand
        rw [← unhide HE hbit0] at H1
        go_wp2_with (first
          | (go_at_call_of 147 (Value.agg #[Value.slice pa pn pc]); refine (unhide H1 _ _ (unhide HB)).mono ?_; rintro e w3 ⟨ya, yn, yc, rfl, hy, hb3⟩; have HY := hide (hy.box (.slice ya yn yc) (box_later hb3 hg hcell hfr).1 (no_int _ _ _)); clear hy; obtain ⟨hcell3, hfr3⟩ := box_later hb3 hg hcell hfr))
        go_roundw
        case rel => exact ⟨j, ya, yn, yc, by omega, by go_num, World.cell?_setCell_same _ _ _ hcell3, by rw [World.frozen?_setCell]; exact hfr3, HY, (hbl.trans (hb3.mono hbl.size)).setCell (Nat.le_refl _) _⟩
        case measure => simp [intOf]
    · have hi0 : i = 0 := by omega
      subst hi0
      have HB' : Hid (IsBig wr (.agg #[.slice pa pn pc]) (m ^ n)) := by have := unhide HB; rw [Nat.pow_zero, Nat.div_one] at this; exact this
      have hc1r := (hbl.cell (p := ⟨w.heap.size + 1, 0, none⟩) (by simp; omega)).trans hc1
      have hf1r := (hbl.frozen (p := ⟨w.heap.size + 1, 0, none⟩) (by simp; omega)).trans hf1
      go_wp2
      refine bodyPost_ret (v := .agg #[.slice pa pn pc]) (by simp [results, Tryz.results150, go_sem, hc1r]) rfl ⟨_, _, _, rfl, ?_, ?_⟩
      · exact (unhide HB').box _ hc1r (no_int _ _ _)
      · exact (hbw.trans (hbl.mono (by omega))).setCell (by simp) _
end Go.Proofs.YtoinadnpdbaamaaGreatDoor

namespace Go.Proofs.YtoinadnpdbaamaaGreatDoor
open Go.RowKit

set_option maxRecDepth 100000 in
set_option maxHeartbeats 400000 in
theorem tell_any (v : Value) (n k : Nat) (w : World) (h : IsBig w v n) (hk : k ≤ 1000000) (hn : n < 1000000000 ^ k) (htab : Tab w) :
    Calls Tryz.prog 149 #[v] w fun e w' => e = .returned (.tuple #[.string ⟨(toldText n).toArray⟩, .int .i64 (toldErr n)]) ∧ Below w.heap.size w w' := by
  have H := hide h
  have HT := hide htab
  have HN := hide hn
  obtain ⟨a, l, cap, rfl, hl, hr, hnm, hv⟩ := h.form
  clear hn h htab hr hnm hv hl
  obtain ⟨len, hlen⟩ : ∃ len, len = l.length := ⟨_, rfl⟩
  rw [← hlen] at H ⊢
  clear hlen
  obtain ⟨q, hq⟩ : ∃ q, q = Lib.nDigits n := ⟨_, rfl⟩
  have hLen := fun W hW => len_any (.agg #[.slice a len cap]) n k W hW hk (unhide HN)
  rw [← hq] at hLen
  have HL := hide hLen
  clear hLen
  by_cases h6 : q ≤ 600
  · have e1 : toldText n = Lib.decDigits n := if_pos ((len600 n).1 (hq ▸ h6))
    have e2 : toldErr n = 0 := if_pos ((len600 n).1 (hq ▸ h6))
    rw [e1, e2]
    clear e1 e2 hq
    go_enter Tryz.func149, Tryz.ntmps149
    go_wp2_with (first
      | (go_at_call 87; refine (unhide HL _ ((unhide H).later ((Below.refl _ _).alloc (Nat.le_refl _) _))).mono ?_; rintro e w2 ⟨rfl, hb2⟩; obtain ⟨hcb, _⟩ := box_later hb2 (g := w.heap.size) (x := .slice a len cap) (by simp) (by simp) (by simp); have hb3 := ((Below.refl w.heap.size w).alloc (Nat.le_refl _) (.cells #[.slice a len cap] 72)).trans (hb2.mono (by simp)); clear hb2)
      | (go_at_call 90; refine (text_any _ n k _ ((unhide H).later hb3) hk (unhide HN) ((unhide HT).later hb3)).mono ?_; rintro e w4 ⟨rfl, hb4⟩; have hb5 := hb3.trans (hb4.mono hb3.size); clear hb4))
    go_ret2
    exact ⟨rfl, hb5⟩
  · have e1 : toldText n = [] := if_neg (fun hh => h6 (hq ▸ (len600 n).2 hh))
    have e2 : toldErr n = 7 := if_neg (fun hh => h6 (hq ▸ (len600 n).2 hh))
    rw [e1, e2]
    clear e1 e2 hq
    go_enter Tryz.func149, Tryz.ntmps149
    go_wp2_with (first
      | (go_at_call 87; refine (unhide HL _ ((unhide H).later ((Below.refl _ _).alloc (Nat.le_refl _) _))).mono ?_; rintro e w2 ⟨rfl, hb2⟩; have hb3 := ((Below.refl w.heap.size w).alloc (Nat.le_refl _) (.cells #[.slice a len cap] 72)).trans (hb2.mono (by simp)); clear hb2))
    go_ret2
    exact ⟨rfl, hb3⟩

end Go.Proofs.YtoinadnpdbaamaaGreatDoor

namespace Go.Proofs.YtoinadnpdbaamaaGreatDoor
open Go.RowKit

theorem right_dig2 {s : ByteArray} (h : Cub.rightB s.data.toList = true) : Cub.digs s.data.toList ∧ s.size ≤ 600 := right_digs h
theorem toldErr_pos (n : Nat) (h : n < 10 ^ 600) : toldErr n = 0 := by unfold toldErr; rw [if_pos h]
theorem toldErr_neg (n : Nat) (h : ¬ n < 10 ^ 600) : toldErr n = 7 := by unfold toldErr; rw [if_neg h]
theorem bigN (s : ByteArray) (w : World) (h : Cub.rightB s.data.toList = true) :
    Calls Tryz.prog 71 #[.string s] w fun e w' => ∃ a n c, e = .returned (.agg #[.slice a n c]) ∧ IsBig w' (.agg #[.slice a n c]) (val s) ∧ Below w.heap.size w w' := by
  refine (bigText_any s w (Nat.le_trans (right_dig2 h).2 (by decide)) (right_dig2 h).1).mono ?_
  rintro e w' ⟨v, rfl, hv, hb⟩
  obtain ⟨a, n, c, rfl⟩ := hv.shape
  exact ⟨a, n, c, rfl, hv, hb⟩
def powText (s : ByteArray) (n : Int) : List UInt8 := if Cub.rightB s.data.toList = true then (if 0 ≤ n ∧ n ≤ 4096 then toldText (val s ^ n.toNat) else []) else []
def powErr (s : ByteArray) (n : Int) : Int := if Cub.rightB s.data.toList = true then (if 0 ≤ n ∧ n ≤ 4096 then toldErr (val s ^ n.toNat) else 1) else 3

theorem pow_small {s : ByteArray} (h : Cub.rightB s.data.toList = true) (k e : Nat) (he : s.size * k < e) : val s ^ k < 10 ^ e := by
  obtain ⟨h1, h2⟩ := (Cub.rightB_iff _).1 h
  have h3 := Cub.dval_lt h1.1
  rw [list_len] at h3
  have h4 : val s ^ k ≤ (10 ^ s.size) ^ k := Nat.pow_le_pow_left (Nat.le_of_lt h3) k
  rw [← Nat.pow_mul] at h4
  exact Nat.lt_of_le_of_lt h4 (Nat.pow_lt_pow_right (by decide) he)
theorem pow_large {s : ByteArray} (h : Cub.rightB s.data.toList = true) (k e : Nat) (he : e ≤ (s.size - 1) * k) (h0 : 0 < e) : ¬ val s ^ k < 10 ^ e := by
  obtain ⟨h1, h2⟩ := (Cub.rightB_iff _).1 h
  have h5 : 2 ≤ s.data.toList.length := by
    rw [list_len]
    apply Decidable.byContradiction
    intro hc
    rw [show s.size - 1 = 0 by omega, Nat.zero_mul] at he
    omega
  have h3 := Cub.isNat_pos h1 h5
  rw [list_len] at h3
  have h4 : (10 ^ (s.size - 1)) ^ k ≤ val s ^ k := Nat.pow_le_pow_left h3 k
  rw [← Nat.pow_mul] at h4
  have h6 : 10 ^ e ≤ 10 ^ ((s.size - 1) * k) := Nat.pow_le_pow_right (by decide) he
  omega
theorem right_pos {s : ByteArray} (h : Cub.rightB s.data.toList = true) : 1 ≤ s.size ∧ s.size ≤ 600 := by
  refine ⟨?_, (right_dig2 h).2⟩
  obtain ⟨h1, h2⟩ := (Cub.rightB_iff _).1 h
  rw [← list_len]
  have := Cub.dec_ne_nil (Cub.dval s.data.toList)
  rw [Cub.dec_dval _ _ rfl h1] at this
  exact List.length_pos_iff.2 this

set_option maxRecDepth 100000 in
set_option maxHeartbeats 800000 in
theorem natPow_any (s : ByteArray) (n : Int) (w : World) (hs : s.size ≤ maxLen) (hn1 : -9223372036854775808 ≤ n) (hn2 : n ≤ 9223372036854775807) (htab : Tab w) :
    Calls Tryz.prog 102 #[.string s, .int .i64 n] w fun e w' => e = .returned (.tuple #[.string ⟨(powText s n).toArray⟩, .int .i64 (powErr s n)]) ∧ Below w.heap.size w w' := by
  have HR := hide (fun W => right_any s W hs)
  have HT := hide htab
  clear htab
  unfold powText powErr
  cases hb : Cub.rightB s.data.toList with
  | false =>
    rw [hb] at HR
    simp only [Bool.false_eq_true, if_false]
    clear hb
    go_enter Tryz.func102, Tryz.ntmps102
    go_wp2_with (go_at_call 69; refine (unhide HR _).mono ?_; rintro e w' ⟨rfl, rfl⟩)
    go_ret2
    exact ⟨rfl, Below.refl _ _⟩
  | true =>
    have HA := hide hb
    rw [hb] at HR
    simp only [if_true]
    clear hb
    by_cases hr : 0 ≤ n ∧ n ≤ 4096
    · rw [if_pos hr, if_pos hr]
      obtain ⟨k, rfl⟩ := Int.eq_ofNat_of_zero_le hr.1
      have hk : k ≤ 4096 := by omega
      rw [show ((k : Int)).toNat = k from rfl]
      obtain ⟨hp1, hp2⟩ := right_pos (unhide HA)
      obtain ⟨p, hp⟩ : ∃ p, p = (s.size - 1) * k := ⟨_, rfl⟩
      have hpm : ((s.size : Int) - 1) * (k : Int) = (p : Int) := by
        rw [hp, Int.natCast_mul, Int.natCast_sub hp1]; rfl
      have hpb : p ≤ 600 * 4096 := by rw [hp]; exact Nat.mul_le_mul (by omega) hk
      have hsk : s.size * k = p + k := by
        rw [hp, ← Nat.succ_mul]; congr 1; omega
      by_cases h6 : 600 ≤ p
      · have HL := hide (pow_large (unhide HA) k 600 (by omega) (by decide))
        clear hsk hp
        go_enter Tryz.func102, Tryz.ntmps102
        go_wp2_with (go_at_call 69; refine (unhide HR _).mono ?_; rintro e w' ⟨rfl, rfl⟩)
        go_ret2
        exact ⟨by rw [toldText_neg _ (unhide HL), toldErr_neg _ (unhide HL)]; rfl, Below.refl _ _⟩
      · have hP := Nat.lt_of_lt_of_le (pow_small (unhide HA) k 4700 (by omega)) (pow_nine 4700 523 (by decide))
        have hV := Nat.lt_of_lt_of_le (right_val (unhide HA)) (pow_nine 600 523 (by decide))
        have H62 := hide (fun W => bigN s W (unhide HA))
        have H63 := hide (fun W x (hx : IsBig W x (val s)) => bigPow_any x (val s) k 523 W hx (by omega) (by decide) (by decide) hP hV)
        have H51 := hide (fun W v (h : IsBig W v (val s ^ k)) (h2 : Tab W) => tell_any v (val s ^ k) 523 W h (by decide) hP h2)
        clear hP hV hsk hp
        generalize val s ^ k = V at *
        go_enter Tryz.func102, Tryz.ntmps102
        go_wp2_with (first
          | (go_at_call 69; refine (unhide HR _).mono ?_; rintro e w' ⟨rfl, hw⟩; subst w')
          | (go_at_call 71; refine (unhide H62 _).mono ?_; rintro e w1 ⟨xa, xn, xc, rfl, hx, hb1⟩; have HX := hide hx; clear hx)
          | (go_at_call 150; refine (unhide H63 _ _ (unhide HX)).mono ?_; rintro e w2 ⟨ya, yn, yc, rfl, hy, hc2⟩; have HY := hide hy; clear hy; have hb2 := hb1.trans (hc2.mono hb1.size))
          | (go_at_call 149; refine (unhide H51 _ _ (unhide HY) ((unhide HT).later hb2)).mono ?_; rintro e w3 ⟨rfl, hc3⟩; have hb3 := hb2.trans (hc3.mono hb2.size)))
        go_ret2
        exact ⟨rfl, hb3⟩
    · rw [if_neg hr, if_neg hr]
      by_cases h0 : n < 0
      · go_enter Tryz.func102, Tryz.ntmps102
        go_wp2_with (go_at_call 69; refine (unhide HR _).mono ?_; rintro e w' ⟨rfl, rfl⟩)
        go_ret2
        exact ⟨rfl, Below.refl _ _⟩
      · have h4 : 4096 < n := by omega
        go_enter Tryz.func102, Tryz.ntmps102
        go_wp2_with (go_at_call 69; refine (unhide HR _).mono ?_; rintro e w' ⟨rfl, rfl⟩)
        go_ret2
        exact ⟨rfl, Below.refl _ _⟩
end Go.Proofs.YtoinadnpdbaamaaGreatDoor

namespace Go.Proofs.YtoinadnpdbaamaaGreatDoor
open Go.RowKit

theorem tb_mk (n : Nat) : (⟨(toldText n).toArray⟩ : ByteArray) = tb n := rfl
/-- nat.Pow of a number's text. -/
theorem natPow_tb (N k : Nat) (w : World) (hN : N < 10 ^ 600) (hk : k ≤ 4096) (htab : Tab w) :
    Calls Tryz.prog 102 #[.string (tb N), .int .i64 (k : Int)] w fun e w' => e = .returned (.tuple #[.string (tb (N ^ k)), .int .i64 (toldErr (N ^ k))]) ∧ Below w.heap.size w w' := by
  have h := natPow_any (tb N) (k : Int) w (tb_size N hN) (by omega) (by omega) htab
  have e1 : powText (tb N) (k : Int) = toldText (N ^ k) := by
    unfold powText
    rw [if_pos (tb_right N hN).1, if_pos ⟨by omega, by omega⟩, show val (tb N) = N from (tb_right N hN).2, Int.toNat_natCast]
  have e2 : powErr (tb N) (k : Int) = toldErr (N ^ k) := by
    unfold powErr
    rw [if_pos (tb_right N hN).1, if_pos ⟨by omega, by omega⟩, show val (tb N) = N from (tb_right N hN).2, Int.toNat_natCast]
  rw [e1, e2] at h
  exact h
theorem text_tb (v : Value) (n : Nat) (w : World) (h : IsBig w v n) (hn : n < 10 ^ 600) (htab : Tab w) :
    Calls Tryz.prog 90 #[v] w fun e w' => e = .returned (.string (tb n)) ∧ Below w.heap.size w w' := by
  have := text_any v n 67 w h (by decide) (Nat.lt_of_lt_of_le hn pow600) htab
  rwa [show (⟨(Lib.decDigits n).toArray⟩ : ByteArray) = tb n from bytes_ext (by rw [tb_list n hn])] at this
theorem tell_pow {b : Bool} {N D k : Nat} (h : Cub.Low b N D) :
    ((¬ N ^ k < 10 ^ 600 ∨ ¬ D ^ k < 10 ^ 600) → numT ((Cub.valQ b N D) ^ k) = ⟨#[]⟩ ∧ denT ((Cub.valQ b N D) ^ k) = ⟨#[]⟩ ∧ errT ((Cub.valQ b N D) ^ k) = 7) ∧
    (N ^ k < 10 ^ 600 → D ^ k < 10 ^ 600 → numT ((Cub.valQ b N D) ^ k) = sT (b && decide (k % 2 = 1)) (N ^ k) ∧ denT ((Cub.valQ b N D) ^ k) = tb (D ^ k) ∧ errT ((Cub.valQ b N D) ^ k) = 0) := by
  obtain ⟨h1, h2⟩ := Cub.pow_low h k
  obtain ⟨e1, e2, e3⟩ := Cub.low_is h1
  rw [h2] at e1 e2 e3
  constructor
  · intro hn
    have : ¬ Small ((Cub.valQ b N D) ^ k) := by
      rintro ⟨s1, s2⟩
      rw [← e2] at s1
      rw [← e3] at s2
      rcases hn with hn | hn
      · exact hn s1
      · exact hn s2
    unfold numT denT errT
    rw [if_neg this, if_neg this, if_neg this]
    exact ⟨rfl, rfl, rfl⟩
  · intro s1 s2
    have : Small ((Cub.valQ b N D) ^ k) := ⟨by rw [← e2]; exact s1, by rw [← e3]; exact s2⟩
    unfold numT denT errT
    rw [if_pos this, if_pos this, if_pos this, ← e1, ← e2, ← e3]
    exact ⟨rfl, rfl, rfl⟩

set_option maxRecDepth 100000 in
set_option maxHeartbeats 4000000 in
theorem rpow_pos (n1 d1 : ByteArray) (x : Rat) (b : Bool) (N D k : Nat) (w : World) (h1 : IsR n1 d1 x) (hk : k ≤ 4096) (htab : Tab w) (hl : Cub.Low b N D) (hN : N < 10 ^ 600) (hD : D < 10 ^ 600)
    (hv : x = Cub.valQ b N D) :
    Ans 40 #[.agg #[.string n1, .string d1], .int .i64 (k : Int)] w (numT ((Cub.valQ b N D) ^ k)) (denT ((Cub.valQ b N D) ^ k)) (errT ((Cub.valQ b N D) ^ k)) := by
  unfold Ans
  obtain ⟨V, hV⟩ : ∃ V, V = (w.alloc (.cells #[.string n1, .string d1] 23)).alloc (.cells #[.string ⟨#[]⟩, .string ⟨#[]⟩] 23) := ⟨_, rfl⟩
  have HS : Hid (N1 w V (.string n1) (.string d1)) := by rw [hV]; exact N1.first _ _ _
  have HV := hide hV
  have HR := hide (qread n1 d1 x V h1)
  have HTW := hide htab
  have HL := hide hl
  have HTE := hide (tell_pow (k := k) hl)
  have HTN : Hid (∀ W v, IsBig W v N → Below w.heap.size w W → Calls Tryz.prog 90 #[v] W fun e w' => e = .returned (.string (tb N)) ∧ Below W.heap.size W w') := fun W v h hb => text_tb v N W h hN (htab.later hb)
  have HTD : Hid (∀ W v, IsBig W v D → Below w.heap.size w W → Calls Tryz.prog 90 #[v] W fun e w' => e = .returned (.string (tb D)) ∧ Below W.heap.size W w') := fun W v h hb => text_tb v D W h hD (htab.later hb)
  have HPN : Hid (∀ W, Below w.heap.size w W → Calls Tryz.prog 102 #[.string (tb N), .int .i64 (k : Int)] W fun e w' => e = .returned (.tuple #[.string (tb (N ^ k)), .int .i64 (toldErr (N ^ k))]) ∧ Below W.heap.size W w') := fun W hb => natPow_tb N k W hN hk (htab.later hb)
  have HPD : Hid (∀ W, Below w.heap.size w W → Calls Tryz.prog 102 #[.string (tb D), .int .i64 (k : Int)] W fun e w' => e = .returned (.tuple #[.string (tb (D ^ k)), .int .i64 (toldErr (D ^ k))]) ∧ Below W.heap.size W w') := fun W hb => natPow_tb D k W hD hk (htab.later hb)
  have HSG : Hid (N ^ k < 10 ^ 600 → ∀ W, Calls Tryz.prog 78 #[.bool (b && decide (k % 2 = 1)), .string (tb (N ^ k))] W fun e w' => e = .returned (.string (sT (b && decide (k % 2 = 1)) (N ^ k))) ∧ w' = W) := fun hp W => signed_any _ (tb (N ^ k)) W (by have := (tb_digs _ hp).2; omega)
  have HE1 : Hid (N ^ k < 10 ^ 600 ∧ toldErr (N ^ k) = 0 ∨ ¬ N ^ k < 10 ^ 600 ∧ toldErr (N ^ k) = 7) := by
    by_cases h : N ^ k < 10 ^ 600
    · exact Or.inl ⟨h, toldErr_pos _ h⟩
    · exact Or.inr ⟨h, toldErr_neg _ h⟩
  have HE2 : Hid (D ^ k < 10 ^ 600 ∧ toldErr (D ^ k) = 0 ∨ ¬ D ^ k < 10 ^ 600 ∧ toldErr (D ^ k) = 7) := by
    by_cases h : D ^ k < 10 ^ 600
    · exact Or.inl ⟨h, toldErr_pos _ h⟩
    · exact Or.inr ⟨h, toldErr_neg _ h⟩
  have HPAR : Hid (decide (k % 2 = 1) = ((k : Int) % 2 == 1)) := by
    show _ = _
    rw [Bool.eq_iff_iff]
    simp
    omega
  have HVQ := hide hv
  have k0 : ¬ (k : Int) < 0 := by omega
  have k1 : ¬ (4096 : Int) < (k : Int) := by omega
  have k2 : ¬ (k : Int) < -4096 := by omega
  skip
  skip
  skip
  clear h1 htab hl hN hD hv
  generalize tb N = tN at *
  generalize tb D = tD at *
  generalize hPN : tb (N ^ k) = tP at *
  generalize hPD : tb (D ^ k) = tQ at *
  generalize sT (b && decide (k % 2 = 1)) (N ^ k) = sP at *
  generalize toldErr (N ^ k) = eP at *
  generalize toldErr (D ^ k) = eQ at *
  clear hPN hPD
  go_enter Tryz.func40, Tryz.ntmps40
  go_upto_region 1 with fail
  rw [← unhide HV]
  clear hV HV
  have t0 := (unhide HS).a.c0; have t1 := (unhide HS).a.c1
  go_upto_region 2 with (go_at_call 76; go_must (refine (unhide HR).mono ?_; rintro e w1 ⟨v1, rfl, hv1, hb1⟩; obtain ⟨b1, i1, i2, i3, i4, i5, i6, rfl⟩ := hv1.form; have HS1 := hide ((unhide HS).later hb1); have HV1 := hide hv1; clear hv1 hb1 t0 t1))
  obtain ⟨V2, hV2⟩ : ∃ V2, V2 = w1.alloc (.cells #[.bool b1, .slice i1 i2 i3, .slice i4 i5 i6] 74) := ⟨_, rfl⟩
  have hb : Below w1.heap.size w1 V2 := by rw [hV2]; exact (Below.refl _ _).alloc (Nat.le_refl _) _
  have HS2 := hide ((unhide HS1).later hb); have HX := hide ((unhide HV1).later hb)
  have HP : Hid (FBox V2 w1.heap.size (.bool b1) (.slice i1 i2 i3) (.slice i4 i5 i6)) := by rw [hV2]; exact FBox.new _ _ _ _
  have hgr : w.heap.size + 1 < w1.heap.size := (unhide HS1).r.lt
  rw [← hV2]
  clear hV2 hb HS HS1 HV1 HR
  generalize w1.heap.size = g6 at *
  have t0 := (unhide HP).c0; have t1 := (unhide HP).c1; have t2 := (unhide HP).c2
  obtain ⟨U, hU⟩ : ∃ U, U = V2 := ⟨_, rfl⟩
  rw [← hU] at HX HP HS2 t0 t1 t2 ⊢
  clear hU
  rw [unhide HVQ] at HX
  have HI := hide ((unhide HX).exact (unhide HL))
  have HSS2 := HS2
  have HPP := HP
  clear t0 t1 t2
  obtain ⟨bq, hbq, hI1, hI2⟩ : ∃ bq, bq = b ∧ IsBig U (.agg #[.slice i1 i2 i3]) N ∧ IsBig U (.agg #[.slice i4 i5 i6]) D := by
    obtain ⟨s, t, e, h1, h2⟩ := unhide HI
    simp only [Value.agg.injEq, Array.mk.injEq, List.cons.injEq, Value.bool.injEq, and_true] at e
    obtain ⟨_, rfl, rfl⟩ := e
    exact ⟨b, rfl, h1, h2⟩
  have hbb : b1 = b := by
    obtain ⟨s, t, e, _, _⟩ := unhide HI
    simp only [Value.agg.injEq, Array.mk.injEq, List.cons.injEq, Value.bool.injEq, and_true] at e
    exact e.1
  subst hbb
  have HI1 := hide hI1; have HI2 := hide hI2
  clear hI1 hI2 hbq HI
  have t0 := (unhide HPP).c0; have t1 := (unhide HPP).c1; have t2 := (unhide HPP).c2
  go_upto_region 11 with (first
    | (go_at_call 90; go_must (refine (unhide HTN _ _ (unhide HI1) (unhide HSS2).below).mono ?_; rintro e w7 ⟨rfl, hb7⟩; have HS7 := hide ((unhide HSS2).later hb7); have HP7 := hide ((unhide HPP).later hb7); have HJ7 := hide ((unhide HI2).later hb7); clear hb7 t0 t1 t2))
    | (go_at_call 102; go_must (refine (unhide HPN _ (unhide HS7).below).mono ?_; rintro e w8 ⟨rfl, hb8⟩; have HS8 := hide ((unhide HS7).later hb8); have HP8 := hide ((unhide HP7).later hb8); have HJ8 := hide ((unhide HJ7).later hb8); clear hb8)))
  have r0 := (unhide HS8).r.c0; have r1 := (unhide HS8).r.c1; have rf0 := (unhide HS8).r.f0; have rf1 := (unhide HS8).r.f1
  rcases unhide HE1 with ⟨hp, rfl⟩ | ⟨hp, rfl⟩
  · have HHP := hide hp
    clear hp r0 r1 rf0 rf1
    have t0 := (unhide HP8).c0; have t1 := (unhide HP8).c1; have t2 := (unhide HP8).c2
    go_upto_region 14 with (first
      | (go_at_call 90; go_must (refine (unhide HTD _ _ (unhide HJ8) (unhide HS8).below).mono ?_; rintro e w9 ⟨rfl, hb9⟩; have HS9 := hide ((unhide HS8).later hb9); have HP9 := hide ((unhide HP8).later hb9); clear hb9 t0 t1 t2))
      | (go_at_call 102; go_must (refine (unhide HPD _ (unhide HS9).below).mono ?_; rintro e wA ⟨rfl, hbA⟩; have HSA := hide ((unhide HS9).later hbA); have HPA := hide ((unhide HP9).later hbA); clear hbA)))
    have r0 := (unhide HSA).r.c0; have r1 := (unhide HSA).r.c1; have rf0 := (unhide HSA).r.f0; have rf1 := (unhide HSA).r.f1
    rcases unhide HE2 with ⟨hq, rfl⟩ | ⟨hq, rfl⟩
    · obtain ⟨z1, z2, z3⟩ := (unhide HTE).2 (unhide HHP) hq
      have HZ := hide (And.intro z1 (And.intro z2 z3))
      have HSGW := hide (unhide HSG (unhide HHP))
      clear hq z1 z2 z3
      have hS := (unhide HSA).r.store (.string sP) (.string tQ)
      have hb : Below w.heap.size w (store2 wA (w.heap.size + 1) (.string sP) (.string tQ)) := below_store2 (unhide HSA).below (by omega) _ _
      have HU := hide hS; have HB := hide hb
      clear hS hb
      have t0 := (unhide HPA).c0
      cases b1 with
      | true =>
        rw [Bool.true_and, unhide HPAR] at HSGW
        go_wp2_with (go_at_call 78; go_must (refine (unhide HSGW _).mono ?_; rintro e wB ⟨rfl, hwB⟩; obtain rfl : wA = wB := hwB.symm))
        have u0 := (unhide HU).c0; have u1 := (unhide HU).c1
        exact bodyPost_ret (v := .tuple #[.agg #[.string sP, .string tQ], .int .i64 0]) (w := store2 wA (w.heap.size + 1) (.string sP) (.string tQ)) (by simp [results, Tryz.results40, go_sem, u0, u1]) rfl ⟨by rw [(unhide HZ).1, (unhide HZ).2.1, (unhide HZ).2.2], unhide HB⟩
      | false =>
        rw [Bool.false_and] at HSGW
        go_wp2_with (go_at_call 78; go_must (refine (unhide HSGW _).mono ?_; rintro e wB ⟨rfl, hwB⟩; obtain rfl : wA = wB := hwB.symm))
        have u0 := (unhide HU).c0; have u1 := (unhide HU).c1
        exact bodyPost_ret (v := .tuple #[.agg #[.string sP, .string tQ], .int .i64 0]) (w := store2 wA (w.heap.size + 1) (.string sP) (.string tQ)) (by simp [results, Tryz.results40, go_sem, u0, u1]) rfl ⟨by rw [(unhide HZ).1, (unhide HZ).2.1, (unhide HZ).2.2], unhide HB⟩
    · obtain ⟨z1, z2, z3⟩ := (unhide HTE).1 (Or.inr hq)
      have HZ := hide (And.intro z1 (And.intro z2 z3))
      clear hq z1 z2 z3
      go_wp2_with fail
      have hS := (unhide HSA).r.store (.string ⟨#[]⟩) (.string ⟨#[]⟩)
      have hb : Below w.heap.size w (store2 wA (w.heap.size + 1) (.string ⟨#[]⟩) (.string ⟨#[]⟩)) := below_store2 (unhide HSA).below (by omega) _ _
      have u0 := hS.c0; have u1 := hS.c1
      exact bodyPost_ret (v := .tuple #[.agg #[.string ⟨#[]⟩, .string ⟨#[]⟩], .int .i64 7]) (w := store2 wA (w.heap.size + 1) (.string ⟨#[]⟩) (.string ⟨#[]⟩)) (by simp [results, Tryz.results40, go_sem, u0, u1]) rfl ⟨by rw [(unhide HZ).1, (unhide HZ).2.1, (unhide HZ).2.2], hb⟩
  · obtain ⟨z1, z2, z3⟩ := (unhide HTE).1 (Or.inl hp)
    have HZ := hide (And.intro z1 (And.intro z2 z3))
    clear hp z1 z2 z3
    go_wp2_with fail
    have hS := (unhide HS8).r.store (.string ⟨#[]⟩) (.string ⟨#[]⟩)
    have hb : Below w.heap.size w (store2 w8 (w.heap.size + 1) (.string ⟨#[]⟩) (.string ⟨#[]⟩)) := below_store2 (unhide HS8).below (by omega) _ _
    have u0 := hS.c0; have u1 := hS.c1
    exact bodyPost_ret (v := .tuple #[.agg #[.string ⟨#[]⟩, .string ⟨#[]⟩], .int .i64 7]) (w := store2 w8 (w.heap.size + 1) (.string ⟨#[]⟩) (.string ⟨#[]⟩)) (by simp [results, Tryz.results40, go_sem, u0, u1]) rfl ⟨by rw [(unhide HZ).1, (unhide HZ).2.1, (unhide HZ).2.2], hb⟩

set_option maxRecDepth 100000 in
set_option maxHeartbeats 4000000 in
theorem rpow_neg (n1 d1 : ByteArray) (x : Rat) (b : Bool) (N D k : Nat) (w : World) (h1 : IsR n1 d1 x) (hk : k ≤ 4096) (htab : Tab w) (hl : Cub.Low b N D) (hN : N < 10 ^ 600) (hD : D < 10 ^ 600)
    (hk1 : 1 ≤ k) (hx0 : x ≠ 0) (hv : x⁻¹ = Cub.valQ b N D) :
    Ans 40 #[.agg #[.string n1, .string d1], .int .i64 (-(k : Int))] w (numT ((Cub.valQ b N D) ^ k)) (denT ((Cub.valQ b N D) ^ k)) (errT ((Cub.valQ b N D) ^ k)) := by
  unfold Ans
  obtain ⟨V, hV⟩ : ∃ V, V = (w.alloc (.cells #[.string n1, .string d1] 23)).alloc (.cells #[.string ⟨#[]⟩, .string ⟨#[]⟩] 23) := ⟨_, rfl⟩
  have HS : Hid (N1 w V (.string n1) (.string d1)) := by rw [hV]; exact N1.first _ _ _
  have HV := hide hV
  have HR := hide (qread n1 d1 x V h1)
  have HTW := hide htab
  have HL := hide hl
  have HTE := hide (tell_pow (k := k) hl)
  have HTN : Hid (∀ W v, IsBig W v N → Below w.heap.size w W → Calls Tryz.prog 90 #[v] W fun e w' => e = .returned (.string (tb N)) ∧ Below W.heap.size W w') := fun W v h hb => text_tb v N W h hN (htab.later hb)
  have HTD : Hid (∀ W v, IsBig W v D → Below w.heap.size w W → Calls Tryz.prog 90 #[v] W fun e w' => e = .returned (.string (tb D)) ∧ Below W.heap.size W w') := fun W v h hb => text_tb v D W h hD (htab.later hb)
  have HPN : Hid (∀ W, Below w.heap.size w W → Calls Tryz.prog 102 #[.string (tb N), .int .i64 (k : Int)] W fun e w' => e = .returned (.tuple #[.string (tb (N ^ k)), .int .i64 (toldErr (N ^ k))]) ∧ Below W.heap.size W w') := fun W hb => natPow_tb N k W hN hk (htab.later hb)
  have HPD : Hid (∀ W, Below w.heap.size w W → Calls Tryz.prog 102 #[.string (tb D), .int .i64 (k : Int)] W fun e w' => e = .returned (.tuple #[.string (tb (D ^ k)), .int .i64 (toldErr (D ^ k))]) ∧ Below W.heap.size W w') := fun W hb => natPow_tb D k W hD hk (htab.later hb)
  have HSG : Hid (N ^ k < 10 ^ 600 → ∀ W, Calls Tryz.prog 78 #[.bool (b && decide (k % 2 = 1)), .string (tb (N ^ k))] W fun e w' => e = .returned (.string (sT (b && decide (k % 2 = 1)) (N ^ k))) ∧ w' = W) := fun hp W => signed_any _ (tb (N ^ k)) W (by have := (tb_digs _ hp).2; omega)
  have HE1 : Hid (N ^ k < 10 ^ 600 ∧ toldErr (N ^ k) = 0 ∨ ¬ N ^ k < 10 ^ 600 ∧ toldErr (N ^ k) = 7) := by
    by_cases h : N ^ k < 10 ^ 600
    · exact Or.inl ⟨h, toldErr_pos _ h⟩
    · exact Or.inr ⟨h, toldErr_neg _ h⟩
  have HE2 : Hid (D ^ k < 10 ^ 600 ∧ toldErr (D ^ k) = 0 ∨ ¬ D ^ k < 10 ^ 600 ∧ toldErr (D ^ k) = 7) := by
    by_cases h : D ^ k < 10 ^ 600
    · exact Or.inl ⟨h, toldErr_pos _ h⟩
    · exact Or.inr ⟨h, toldErr_neg _ h⟩
  have HPAR : Hid (decide (k % 2 = 1) = ((k : Int) % 2 == 1)) := by
    show _ = _
    rw [Bool.eq_iff_iff]
    simp
    omega
  have HVQ := hide hv
  have HX0 := hide hx0
  have HSGN : Hid (∀ W v, QOf W v x 67 → ∃ sg : Int, (sg == 0) = false ∧ Calls Tryz.prog 97 #[v] W fun r w' => r = .returned (.int .i64 sg) ∧ Below W.heap.size W w') := fun W v hv => ⟨_, cmp_zero x hx0, qsign v x 67 W hv⟩
  have k0 : ¬ (k : Int) < 0 := by omega
  have k1 : ¬ (4096 : Int) < (k : Int) := by omega
  have k2 : ¬ (k : Int) < -4096 := by omega
  have k3 : -(k : Int) < 0 := by omega
  have k4 : ¬ -(k : Int) < -4096 := by omega
  have k5 : ¬ (4096 : Int) < -(k : Int) := by omega
  clear h1 htab hl hN hD hv hx0
  generalize tb N = tN at *
  generalize tb D = tD at *
  generalize hPN : tb (N ^ k) = tP at *
  generalize hPD : tb (D ^ k) = tQ at *
  generalize sT (b && decide (k % 2 = 1)) (N ^ k) = sP at *
  generalize toldErr (N ^ k) = eP at *
  generalize toldErr (D ^ k) = eQ at *
  clear hPN hPD
  go_enter Tryz.func40, Tryz.ntmps40
  go_upto_region 1 with fail
  rw [← unhide HV]
  clear hV HV
  have t0 := (unhide HS).a.c0; have t1 := (unhide HS).a.c1
  go_upto_region 2 with (go_at_call 76; go_must (refine (unhide HR).mono ?_; rintro e w1 ⟨v1, rfl, hv1, hb1⟩; obtain ⟨b1, i1, i2, i3, i4, i5, i6, rfl⟩ := hv1.form; have HS1 := hide ((unhide HS).later hb1); have HV1 := hide hv1; clear hv1 hb1 t0 t1))
  obtain ⟨V2, hV2⟩ : ∃ V2, V2 = w1.alloc (.cells #[.bool b1, .slice i1 i2 i3, .slice i4 i5 i6] 74) := ⟨_, rfl⟩
  have hb : Below w1.heap.size w1 V2 := by rw [hV2]; exact (Below.refl _ _).alloc (Nat.le_refl _) _
  have HS2 := hide ((unhide HS1).later hb); have HX := hide ((unhide HV1).later hb)
  have HP : Hid (FBox V2 w1.heap.size (.bool b1) (.slice i1 i2 i3) (.slice i4 i5 i6)) := by rw [hV2]; exact FBox.new _ _ _ _
  have hgr : w.heap.size + 1 < w1.heap.size := (unhide HS1).r.lt
  rw [← hV2]
  clear hV2 hb HS HS1 HV1 HR
  generalize w1.heap.size = g6 at *
  have t0 := (unhide HP).c0; have t1 := (unhide HP).c1; have t2 := (unhide HP).c2
  obtain ⟨sg, hsg, hq⟩ := unhide HSGN V2 _ (unhide HX)
  have HSS := hide hq
  clear hq
  go_upto_region 9 with (go_at_call 97; go_must (refine (unhide HSS).mono ?_; rintro e w3 ⟨rfl, hb3⟩; have HX3 := hide ((unhide HX).later hb3); have HS3 := hide ((unhide HS2).later hb3); have HP3 := hide ((unhide HP).later hb3); clear hb3 t0 t1 t2; have t0 := (unhide HP3).c0; have t1 := (unhide HP3).c1; have t2 := (unhide HP3).c2))
  clear HS2 HX HP
  go_upto_region 10 with (go_at_call 101; go_must (refine (qinv _ x 67 _ (unhide HX3) (unhide HX0)).mono ?_; rintro e w4 ⟨v4, rfl, hv4, hb4⟩; obtain ⟨b4, o1, o2, o3, o4, o5, o6, rfl⟩ := hv4.form; have HX4 := hide hv4; have HS4 := hide ((unhide HS3).later hb4); have HP4 := hide ((unhide HP3).later hb4); clear hv4 hb4 t0 t1 t2; have r0 := (unhide HP4).c0; have r1 := (unhide HP4).c1; have r2 := (unhide HP4).c2; have rf0 := (unhide HP4).f0; have rf1 := (unhide HP4).f1; have rf2 := (unhide HP4).f2))
  obtain ⟨V5, hV5⟩ : ∃ V5, V5 = store3 w4 g6 (.bool b4) (.slice o1 o2 o3) (.slice o4 o5 o6) := ⟨_, rfl⟩
  have hV5' : V5 = ((w4.setCell ⟨g6, 0, none⟩ (.bool b4)).setCell ⟨g6, 1, none⟩ (.slice o1 o2 o3)).setCell ⟨g6, 2, none⟩ (.slice o4 o5 o6) := hV5
  have HX5 := hide ((unhide HX4).stored (unhide HP4))
  have HP5 := hide ((unhide HP4).store (.bool b4) (.slice o1 o2 o3) (.slice o4 o5 o6))
  have HS5 : Hid (N1 w (store3 w4 g6 (.bool b4) (.slice o1 o2 o3) (.slice o4 o5 o6)) (.string n1) (.string d1)) := ⟨(unhide HS4).a.other3 (by omega) _ _ _, (unhide HS4).r.other3 (by omega) _ _ _, below_store3 (unhide HS4).below (by omega) _ _ _⟩
  rw [← hV5] at HX5 HP5 HS5
  rw [← hV5']
  clear hV5 hV5' HX3 HX4 HS3 HS4 HP3 HP4 r0 r1 r2 rf0 rf1 rf2
  obtain ⟨U, hU⟩ : ∃ U, U = V5 := ⟨_, rfl⟩
  rw [← hU] at HX5 HP5 HS5 ⊢
  clear hU
  rw [unhide HVQ] at HX5
  have HI := hide ((unhide HX5).exact (unhide HL))
  have HSS2 := HS5
  have HPP := HP5
  obtain ⟨bq, hbq, hI1, hI2⟩ : ∃ bq, bq = b ∧ IsBig U (.agg #[.slice o1 o2 o3]) N ∧ IsBig U (.agg #[.slice o4 o5 o6]) D := by
    obtain ⟨s, t, e, h1, h2⟩ := unhide HI
    simp only [Value.agg.injEq, Array.mk.injEq, List.cons.injEq, Value.bool.injEq, and_true] at e
    obtain ⟨_, rfl, rfl⟩ := e
    exact ⟨b, rfl, h1, h2⟩
  have hbb : b4 = b := by
    obtain ⟨s, t, e, _, _⟩ := unhide HI
    simp only [Value.agg.injEq, Array.mk.injEq, List.cons.injEq, Value.bool.injEq, and_true] at e
    exact e.1
  subst hbb
  have HI1 := hide hI1; have HI2 := hide hI2
  clear hI1 hI2 hbq HI
  have t0 := (unhide HPP).c0; have t1 := (unhide HPP).c1; have t2 := (unhide HPP).c2
  go_upto_region 11 with (first
    | (go_at_call 90; go_must (refine (unhide HTN _ _ (unhide HI1) (unhide HSS2).below).mono ?_; rintro e w7 ⟨rfl, hb7⟩; have HS7 := hide ((unhide HSS2).later hb7); have HP7 := hide ((unhide HPP).later hb7); have HJ7 := hide ((unhide HI2).later hb7); clear hb7 t0 t1 t2))
    | (go_at_call 102; go_must (refine (unhide HPN _ (unhide HS7).below).mono ?_; rintro e w8 ⟨rfl, hb8⟩; have HS8 := hide ((unhide HS7).later hb8); have HP8 := hide ((unhide HP7).later hb8); have HJ8 := hide ((unhide HJ7).later hb8); clear hb8)))
  have r0 := (unhide HS8).r.c0; have r1 := (unhide HS8).r.c1; have rf0 := (unhide HS8).r.f0; have rf1 := (unhide HS8).r.f1
  rcases unhide HE1 with ⟨hp, rfl⟩ | ⟨hp, rfl⟩
  · have HHP := hide hp
    clear hp r0 r1 rf0 rf1
    have t0 := (unhide HP8).c0; have t1 := (unhide HP8).c1; have t2 := (unhide HP8).c2
    go_upto_region 14 with (first
      | (go_at_call 90; go_must (refine (unhide HTD _ _ (unhide HJ8) (unhide HS8).below).mono ?_; rintro e w9 ⟨rfl, hb9⟩; have HS9 := hide ((unhide HS8).later hb9); have HP9 := hide ((unhide HP8).later hb9); clear hb9 t0 t1 t2))
      | (go_at_call 102; go_must (refine (unhide HPD _ (unhide HS9).below).mono ?_; rintro e wA ⟨rfl, hbA⟩; have HSA := hide ((unhide HS9).later hbA); have HPA := hide ((unhide HP9).later hbA); clear hbA)))
    have r0 := (unhide HSA).r.c0; have r1 := (unhide HSA).r.c1; have rf0 := (unhide HSA).r.f0; have rf1 := (unhide HSA).r.f1
    rcases unhide HE2 with ⟨hq, rfl⟩ | ⟨hq, rfl⟩
    · obtain ⟨z1, z2, z3⟩ := (unhide HTE).2 (unhide HHP) hq
      have HZ := hide (And.intro z1 (And.intro z2 z3))
      have HSGW := hide (unhide HSG (unhide HHP))
      clear hq z1 z2 z3
      have hS := (unhide HSA).r.store (.string sP) (.string tQ)
      have hb : Below w.heap.size w (store2 wA (w.heap.size + 1) (.string sP) (.string tQ)) := below_store2 (unhide HSA).below (by omega) _ _
      have HU := hide hS; have HB := hide hb
      clear hS hb
      have t0 := (unhide HPA).c0
      cases b4 with
      | true =>
        rw [Bool.true_and, unhide HPAR] at HSGW
        go_wp2_with (go_at_call 78; go_must (refine (unhide HSGW _).mono ?_; rintro e wB ⟨rfl, hwB⟩; obtain rfl : wA = wB := hwB.symm))
        have u0 := (unhide HU).c0; have u1 := (unhide HU).c1
        exact bodyPost_ret (v := .tuple #[.agg #[.string sP, .string tQ], .int .i64 0]) (w := store2 wA (w.heap.size + 1) (.string sP) (.string tQ)) (by simp [results, Tryz.results40, go_sem, u0, u1]) rfl ⟨by rw [(unhide HZ).1, (unhide HZ).2.1, (unhide HZ).2.2], unhide HB⟩
      | false =>
        rw [Bool.false_and] at HSGW
        go_wp2_with (go_at_call 78; go_must (refine (unhide HSGW _).mono ?_; rintro e wB ⟨rfl, hwB⟩; obtain rfl : wA = wB := hwB.symm))
        have u0 := (unhide HU).c0; have u1 := (unhide HU).c1
        exact bodyPost_ret (v := .tuple #[.agg #[.string sP, .string tQ], .int .i64 0]) (w := store2 wA (w.heap.size + 1) (.string sP) (.string tQ)) (by simp [results, Tryz.results40, go_sem, u0, u1]) rfl ⟨by rw [(unhide HZ).1, (unhide HZ).2.1, (unhide HZ).2.2], unhide HB⟩
    · obtain ⟨z1, z2, z3⟩ := (unhide HTE).1 (Or.inr hq)
      have HZ := hide (And.intro z1 (And.intro z2 z3))
      clear hq z1 z2 z3
      go_wp2_with fail
      have hS := (unhide HSA).r.store (.string ⟨#[]⟩) (.string ⟨#[]⟩)
      have hb : Below w.heap.size w (store2 wA (w.heap.size + 1) (.string ⟨#[]⟩) (.string ⟨#[]⟩)) := below_store2 (unhide HSA).below (by omega) _ _
      have u0 := hS.c0; have u1 := hS.c1
      exact bodyPost_ret (v := .tuple #[.agg #[.string ⟨#[]⟩, .string ⟨#[]⟩], .int .i64 7]) (w := store2 wA (w.heap.size + 1) (.string ⟨#[]⟩) (.string ⟨#[]⟩)) (by simp [results, Tryz.results40, go_sem, u0, u1]) rfl ⟨by rw [(unhide HZ).1, (unhide HZ).2.1, (unhide HZ).2.2], hb⟩
  · obtain ⟨z1, z2, z3⟩ := (unhide HTE).1 (Or.inl hp)
    have HZ := hide (And.intro z1 (And.intro z2 z3))
    clear hp z1 z2 z3
    go_wp2_with fail
    have hS := (unhide HS8).r.store (.string ⟨#[]⟩) (.string ⟨#[]⟩)
    have hb : Below w.heap.size w (store2 w8 (w.heap.size + 1) (.string ⟨#[]⟩) (.string ⟨#[]⟩)) := below_store2 (unhide HS8).below (by omega) _ _
    have u0 := hS.c0; have u1 := hS.c1
    exact bodyPost_ret (v := .tuple #[.agg #[.string ⟨#[]⟩, .string ⟨#[]⟩], .int .i64 7]) (w := store2 w8 (w.heap.size + 1) (.string ⟨#[]⟩) (.string ⟨#[]⟩)) (by simp [results, Tryz.results40, go_sem, u0, u1]) rfl ⟨by rw [(unhide HZ).1, (unhide HZ).2.1, (unhide HZ).2.2], hb⟩

/-- rat.Pow of a number to any power. -/
theorem rpow_ok (n1 d1 : ByteArray) (x : Rat) (j : Int) (w : World) (h1 : IsR n1 d1 x) (hj1 : -4096 ≤ j) (hj2 : j ≤ 4096) (hx0 : x ≠ 0) (htab : Tab w) :
    Ans 40 #[.agg #[.string n1, .string d1], .int .i64 j] w (numT (Cub.pw x j)) (denT (Cub.pw x j)) (errT (Cub.pw x j)) := by
  obtain ⟨l1, l2⟩ := Cub.low_of x
  have r := h1.rt
  unfold Cub.pw
  by_cases hj : j < 0
  · rw [if_pos hj]
    obtain ⟨k, hk⟩ : ∃ k : Nat, j = -(k : Int) := ⟨(-j).toNat, by omega⟩
    have e : (-j).toNat = k := by omega
    rw [e, hk]
    have hn : x.num.natAbs ≠ 0 := by
      intro h0
      apply hx0
      exact Rat.num_eq_zero.1 (by omega)
    obtain ⟨m1, m2⟩ := Cub.inv_low l1 hn
    rw [l2] at m2
    rw [← m2]
    exact rpow_neg n1 d1 x _ _ _ k w h1 (by omega) htab m1 r.hd r.hn (by omega) hx0 m2.symm
  · rw [if_neg hj]
    obtain ⟨k, hk⟩ : ∃ k : Nat, j = (k : Int) := ⟨j.toNat, by omega⟩
    have e : j.toNat = k := by omega
    rw [e, hk]
    have := rpow_pos n1 d1 x _ _ _ k w h1 (by omega) htab l1 r.hn r.hd l2.symm
    rwa [l2] at this
end Go.Proofs.YtoinadnpdbaamaaGreatDoor

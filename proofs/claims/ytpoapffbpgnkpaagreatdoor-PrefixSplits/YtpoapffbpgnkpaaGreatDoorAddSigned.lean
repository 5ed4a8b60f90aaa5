/- rat.addSigned: the sum of two numbers, each with its sign. -/
import Derived.Test.YtpoapffbpgnkpaaGreatDoorGcdSmall
import Derived.Test.YtpoapffbpgnkpaaGreatDoorBigOf
import Derived.Test.YtpoapffbpgnkpaaGreatDoorShelf
import Derived.Laws.Bits128
import Derived.Test.YtpoapffbpgnkpaaGreatDoorLimb5
import Derived.Deep.RegionWith
import Derived.BigQuiet
import Derived.Deep.Cut
import Derived.WalkSmall
import Derived.Test.YtpoapffbpgnkpaaGreatDoorCmpMath
namespace Go.Proofs.YtpoapffbpgnkpaaGreatDoor
open Go.RowKit

theorem mulB (x y : Value) (m n r k : Nat) (w : World) (hx : IsBig w x m) (hy : IsBig w y n) (hk : k ≤ 1000000) (hm : m < 1000000000 ^ k) (hn : n < 1000000000 ^ k) (hr : r = m * n) :
    Calls Tryz.prog 126 #[x, y] w fun e w' => ∃ a l c, e = .returned (.agg #[.slice a l c]) ∧ IsBig w' (.agg #[.slice a l c]) r ∧ Below w.heap.size w w' := by
  subst hr
  refine (mul_any x y m n k w hx hy hk hm hn).mono ?_
  rintro e w' ⟨v, rfl, hv, hb⟩
  obtain ⟨a, n, c, rfl⟩ := hv.shape
  exact ⟨a, n, c, rfl, hv, hb⟩
theorem powLt (m n q M : Nat) (h : q ≤ n) (hM : m ^ n < M) (h1 : 1 < M) : m ^ q < M := by
  by_cases h0 : m = 0
  · subst h0
    cases q with
    | zero => simpa using h1
    | succ q => rw [Nat.zero_pow (by omega)]; omega
  · exact Nat.lt_of_le_of_lt (Nat.pow_le_pow_right (by omega) h) hM
theorem half_step (n i : Nat) : n / 2 ^ i = 2 * (n / 2 ^ (i + 1)) + (n / 2 ^ i) % 2 := by
  rw [Nat.pow_succ, ← Nat.div_div_eq_div_mul]; omega
theorem pow_even (m n i : Nat) (h : (n / 2 ^ i) % 2 = 0) : m ^ (n / 2 ^ i) = m ^ (n / 2 ^ (i + 1)) * m ^ (n / 2 ^ (i + 1)) := by
  rw [← Nat.pow_add]; congr 1; have := half_step n i; omega
theorem pow_odd (m n i : Nat) (h : (n / 2 ^ i) % 2 = 1) : m ^ (n / 2 ^ i) = m ^ (n / 2 ^ (i + 1)) * m ^ (n / 2 ^ (i + 1)) * m := by
  rw [← Nat.pow_add, ← Nat.pow_succ]; congr 1; have := half_step n i; omega

theorem bitLen_ok (n : Nat) (hn : n ≤ 9223372036854775807) : Lib.bitLen n ≤ 64 ∧ n / 2 ^ Lib.bitLen n = 0 := by
  by_cases h0 : n = 0
  · subst h0
    exact ⟨by decide, by simp⟩
  · obtain ⟨h1, h2, h3⟩ := Lib.bitLenAux_bounds 64 n (by omega) h0
    have e : Lib.bitLen n = Lib.bitLenAux 64 n := rfl
    rw [e]
    refine ⟨?_, Nat.div_eq_of_lt (by simpa using h3)⟩
    apply Decidable.byContradiction
    intro hc
    have h4 : 2 ^ 64 ≤ 2 ^ (Lib.bitLenAux 64 n - 1) := Nat.pow_le_pow_right (by decide) (by omega)
    omega

theorem and_one' (x : Int) : bits .and .i64 x 1 = x % 2 := by
  have h1 : (BitVec.ofInt 64 1).toNat = 2 ^ 1 - 1 := by decide
  have key : (BitVec.ofInt 64 x &&& BitVec.ofInt 64 1).toNat = (x % ((2 ^ 64 : Nat) : Int)).toNat % 2 ^ 1 := by
    rw [BitVec.toNat_and, BitVec.toNat_ofInt, h1, Nat.and_two_pow_sub_one_eq_mod]
  show IntKind.i64.wrap ((BitVec.ofInt 64 x &&& BitVec.ofInt 64 1).toNat : Nat) = x % 2
  rw [key, IntKind.wrap_i64]
  omega
theorem and_one (n j : Nat) : bits BinOp.and IntKind.i64 ((n : Int) / 2 ^ j) 1 = (((n / 2 ^ j) % 2 : Nat) : Int) := by
  rw [and_one']
  push_cast
  rfl

set_option maxRecDepth 100000 in
set_option maxHeartbeats 800000 in
theorem bigPow_any (x : Value) (m n k : Nat) (w : World) (hx : IsBig w x m) (hn : n ≤ 9223372036854775807) (hk1 : 1 ≤ k) (hk : k ≤ 1000000) (hP : m ^ n < 1000000000 ^ k) (hm : m < 1000000000 ^ k) :
    Calls Tryz.prog 142 #[x, .int .i64 (n : Int)] w fun e w' => ∃ a l c, e = .returned (.agg #[.slice a l c]) ∧ IsBig w' (.agg #[.slice a l c]) (m ^ n) ∧ Below w.heap.size w w' := by
  obtain ⟨xa, xn, xc, rfl⟩ := hx.shape
  have HX := hide hx
  have HP := hide hP
  have HM := hide hm
  have H92 := hide (fun W => Tryz.bits_Len (n : Int) W (by omega) (by omega))
  clear hx hP hm
  obtain ⟨hL, hL0⟩ := bitLen_ok n hn
  have e9 : ((n : Int)).toNat = n := by simp
  rw [e9] at H92
  clear e9
  generalize Lib.bitLen n = L at *
  have HL0 := hide hL0
  clear hL0
  go_enter Tryz.func142, Tryz.ntmps142
  go_wp2_with (first
    | (go_at_call 133; refine (bigOf_any 1 _ (by decide)).mono ?_; rintro e w2 ⟨ba, bn, bc, rfl, hbig, hb2⟩; have HBIG := hide hbig; clear hbig)
    | (go_at_call 139; refine (unhide H92 _).mono ?_; rintro e w' ⟨rfl, rfl⟩))
  have hs2 : w.heap.size + 2 ≤ w2.heap.size := by have := hb2.size; simpa using this
  have hc0 : w2.cell? ⟨w.heap.size, 0, none⟩ = some (.slice xa xn xc) := by rw [hb2.cell (p := ⟨w.heap.size, 0, none⟩) (by simp; omega)]; simp
  have hc1 : w2.cell? ⟨w.heap.size + 1, 0, none⟩ = some (.slice none 0 0) := by rw [hb2.cell (p := ⟨w.heap.size + 1, 0, none⟩) (by simp)]; simp
  have hf1 : w2.frozen? ⟨w.heap.size + 1, 0, none⟩ = false := by rw [hb2.frozen (p := ⟨w.heap.size + 1, 0, none⟩) (by simp)]; simp
  have hbw : Below w.heap.size w w2 := (((Below.refl _ _).alloc (Nat.le_refl _) _).alloc (by simp) _).trans (hb2.mono (by simp; omega))
  have HX2 := hide ((unhide HX).later hbw)
  go_loopw [6] (fun t wr => ∃ (i : Nat) (pa : Option Addr) (pn pc : Nat), i ≤ 64 ∧ t = .int .i64 ((i : Int) - 1) ∧ wr.cell? ⟨w2.heap.size, 0, none⟩ = some (.slice pa pn pc) ∧ wr.frozen? ⟨w2.heap.size, 0, none⟩ = false ∧ Hid (IsBig wr (.agg #[.slice pa pn pc]) (m ^ (n / 2 ^ i))) ∧ Below w2.heap.size w2 wr) (fun t _ => (intOf t + 1).toNat)
  case atStart => exact ⟨L, ba, bn, bc, hL, by go_num, World.cell?_alloc_at _ _ _ _ rfl, World.frozen?_alloc_at _ _ _ _ rfl, by rw [unhide HL0]; exact (unhide HBIG).later ((Below.refl _ _).alloc (Nat.le_refl _) _), (Below.refl _ _).alloc (Nat.le_refl _) _⟩
  case round =>
    obtain ⟨i, pa, pn, pc, hi, rfl, hcell, hfr, HB, hbl⟩ := hrel
    by_cases h0 : 0 < i
    · obtain ⟨j, rfl⟩ : ∃ j, i = j + 1 := ⟨i - 1, by omega⟩
      have e6 : ((j + 1 : Nat) : Int) - 1 = (j : Int) := by omega
      rw [e6]
      clear e6
      have h1 : 1 < 1000000000 ^ k := Nat.one_lt_pow (by omega) (by decide)
      have hst := half_step n j
      have hdl : n / 2 ^ j ≤ n := Nat.div_le_self _ _
      have B1 := powLt m n (n / 2 ^ (j + 1)) _ (by omega) (unhide HP) h1
      have B2 : m ^ (n / 2 ^ (j + 1)) * m ^ (n / 2 ^ (j + 1)) < 1000000000 ^ k := by rw [← Nat.pow_add]; exact powLt m n _ _ (by omega) (unhide HP) h1
      have HE := hide (pow_even m n j)
      have HO := hide (pow_odd m n j)
      generalize m ^ (n / 2 ^ (j + 1)) = Q at *
      have H1 := hide (fun W v (hv : IsBig W v Q) => mulB v v Q Q (Q * Q) k W hv hv hk B1 B1 rfl)
      have H2 := hide (fun W v x (hv : IsBig W v (Q * Q)) (hx : IsBig W x m) => mulB v x (Q * Q) m (Q * Q * m) k W hv hx hk B2 (unhide HM) rfl)
      clear B1 B2 h1 hst hdl
      have hg : w2.heap.size < wr.heap.size := World.block_lt_of_cell? _ _ hcell
      have hc0r := (hbl.cell (p := ⟨w.heap.size, 0, none⟩) (by simp; omega)).trans hc0
      have hand := and_one n j
      by_cases hbit : (n / 2 ^ j) % 2 = 1
      · rw [hbit] at hand
        rw [← unhide HO hbit] at H2
        go_wp2_with (first
          | (go_at_call_of 126 (Value.agg #[Value.slice pa pn pc]); refine (unhide H1 _ _ (unhide HB)).mono ?_; rintro e w3 ⟨ya, yn, yc, rfl, hy, hb3⟩; have HY := hide (hy.box (.slice ya yn yc) (box_later hb3 hg hcell hfr).1 (no_int _ _ _)); clear hy; obtain ⟨hcell3, hfr3⟩ := box_later hb3 hg hcell hfr; have hcell4 := World.cell?_setCell_same w3 ⟨w2.heap.size, 0, none⟩ (.slice ya yn yc) hcell3; have hfr4 : (w3.setCell ⟨w2.heap.size, 0, none⟩ (.slice ya yn yc)).frozen? ⟨w2.heap.size, 0, none⟩ = false := by rw [World.frozen?_setCell]; exact hfr3
             have hb4 : Below w2.heap.size w2 (w3.setCell ⟨w2.heap.size, 0, none⟩ (.slice ya yn yc)) := (hbl.trans (hb3.mono hbl.size)).setCell (Nat.le_refl _) _
             have hc04 := (hb4.cell (p := ⟨w.heap.size, 0, none⟩) (by simp; omega)).trans hc0)
          | (go_at_call_of 126 (Value.agg #[Value.slice xa xn xc]); refine (unhide H2 _ _ _ (unhide HY) ((unhide HX2).later hb4)).mono ?_; rintro e w5 ⟨za, zn, zc, rfl, hz, hb5⟩; obtain ⟨hcell5, hfr5⟩ := box_later hb5 (World.block_lt_of_cell? _ _ hcell4) hcell4 hfr4; have HZ := hide (hz.box (.slice za zn zc) hcell5 (no_int _ _ _)); clear hz))
        go_roundw
        case rel => exact ⟨j, za, zn, zc, by omega, by go_num, World.cell?_setCell_same _ _ _ hcell5, by rw [World.frozen?_setCell]; exact hfr5, HZ, (hb4.trans (hb5.mono hb4.size)).setCell (Nat.le_refl _) _⟩
        case measure => simp [intOf]
      · have hbit0 : (n / 2 ^ j) % 2 = 0 := by omega
        rw [hbit0] at hand
        rw [← unhide HE hbit0] at H1
        go_wp2_with (first
          | (go_at_call_of 126 (Value.agg #[Value.slice pa pn pc]); refine (unhide H1 _ _ (unhide HB)).mono ?_; rintro e w3 ⟨ya, yn, yc, rfl, hy, hb3⟩; have HY := hide (hy.box (.slice ya yn yc) (box_later hb3 hg hcell hfr).1 (no_int _ _ _)); clear hy; obtain ⟨hcell3, hfr3⟩ := box_later hb3 hg hcell hfr))
        go_roundw
        case rel => exact ⟨j, ya, yn, yc, by omega, by go_num, World.cell?_setCell_same _ _ _ hcell3, by rw [World.frozen?_setCell]; exact hfr3, HY, (hbl.trans (hb3.mono hbl.size)).setCell (Nat.le_refl _) _⟩
        case measure => simp [intOf]
    · have hi0 : i = 0 := by omega
      subst hi0
      have HB' : Hid (IsBig wr (.agg #[.slice pa pn pc]) (m ^ n)) := by have := unhide HB; rw [Nat.pow_zero, Nat.div_one] at this; exact this
      have hc1r := (hbl.cell (p := ⟨w.heap.size + 1, 0, none⟩) (by simp; omega)).trans hc1
      have hf1r := (hbl.frozen (p := ⟨w.heap.size + 1, 0, none⟩) (by simp; omega)).trans hf1
      go_wp2
      refine bodyPost_ret (v := .agg #[.slice pa pn pc]) (by simp [results, Tryz.results142, go_sem, hc1r]) rfl ⟨_, _, _, rfl, ?_, ?_⟩
      · exact (unhide HB').box _ hc1r (no_int _ _ _)
      · exact (hbw.trans (hbl.mono (by omega))).setCell (by simp) _
end Go.Proofs.YtpoapffbpgnkpaaGreatDoor

namespace Go.Proofs.YtpoapffbpgnkpaaGreatDoor
open Go.RowKit

set_option maxRecDepth 100000 in
set_option maxHeartbeats 400000 in
theorem tell_any (v : Value) (n k : Nat) (w : World) (h : IsBig w v n) (hk : k ≤ 1000000) (hn : n < 1000000000 ^ k) (htab : Tab w) :
    Calls Tryz.prog 141 #[v] w fun e w' => e = .returned (.tuple #[.string ⟨(toldText n).toArray⟩, .int .i64 (toldErr n)]) ∧ Below w.heap.size w w' := by
  have H := hide h
  have HT := hide htab
  have HN := hide hn
  obtain ⟨a, l, cap, rfl, hl, hr, hnm, hv⟩ := h.form
  clear hn h htab hr hnm hv hl
  obtain ⟨len, hlen⟩ : ∃ len, len = l.length := ⟨_, rfl⟩
  rw [← hlen] at H ⊢
  clear hlen
  obtain ⟨q, hq⟩ : ∃ q, q = Lib.nDigits n := ⟨_, rfl⟩
  have hLen := fun W hW => len_any (.agg #[.slice a len cap]) n k W hW hk (unhide HN)
  rw [← hq] at hLen
  have HL := hide hLen
  clear hLen
  by_cases h6 : q ≤ 600
  · have e1 : toldText n = Lib.decDigits n := if_pos ((len600 n).1 (hq ▸ h6))
    have e2 : toldErr n = 0 := if_pos ((len600 n).1 (hq ▸ h6))
    rw [e1, e2]
    clear e1 e2 hq
    go_enter Tryz.func141, Tryz.ntmps141
    go_wp2_with (first
      | (go_at_call 102; refine (unhide HL _ ((unhide H).later ((Below.refl _ _).alloc (Nat.le_refl _) _))).mono ?_; rintro e w2 ⟨rfl, hb2⟩; obtain ⟨hcb, _⟩ := box_later hb2 (g := w.heap.size) (x := .slice a len cap) (by simp) (by simp) (by simp); have hb3 := ((Below.refl w.heap.size w).alloc (Nat.le_refl _) (.cells #[.slice a len cap] 81)).trans (hb2.mono (by simp)); clear hb2)
      | (go_at_call 104; refine (text_any _ n k _ ((unhide H).later hb3) hk (unhide HN) ((unhide HT).later hb3)).mono ?_; rintro e w4 ⟨rfl, hb4⟩; have hb5 := hb3.trans (hb4.mono hb3.size); clear hb4))
    go_ret2
    exact ⟨rfl, hb5⟩
  · have e1 : toldText n = [] := if_neg (fun hh => h6 (hq ▸ (len600 n).2 hh))
    have e2 : toldErr n = 7 := if_neg (fun hh => h6 (hq ▸ (len600 n).2 hh))
    rw [e1, e2]
    clear e1 e2 hq
    go_enter Tryz.func141, Tryz.ntmps141
    go_wp2_with (first
      | (go_at_call 102; refine (unhide HL _ ((unhide H).later ((Below.refl _ _).alloc (Nat.le_refl _) _))).mono ?_; rintro e w2 ⟨rfl, hb2⟩; have hb3 := ((Below.refl w.heap.size w).alloc (Nat.le_refl _) (.cells #[.slice a len cap] 81)).trans (hb2.mono (by simp)); clear hb2))
    go_ret2
    exact ⟨rfl, hb3⟩

end Go.Proofs.YtpoapffbpgnkpaaGreatDoor

namespace Go.Proofs.YtpoapffbpgnkpaaGreatDoor
open Go.RowKit

theorem right_dig2 {s : ByteArray} (h : Cub.rightB s.data.toList = true) : Cub.digs s.data.toList ∧ s.size ≤ 600 := right_digs h
theorem toldErr_pos (n : Nat) (h : n < 10 ^ 600) : toldErr n = 0 := by unfold toldErr; rw [if_pos h]
theorem toldErr_neg (n : Nat) (h : ¬ n < 10 ^ 600) : toldErr n = 7 := by unfold toldErr; rw [if_neg h]
theorem bigN (s : ByteArray) (w : World) (h : Cub.rightB s.data.toList = true) :
    Calls Tryz.prog 98 #[.string s] w fun e w' => ∃ a n c, e = .returned (.agg #[.slice a n c]) ∧ IsBig w' (.agg #[.slice a n c]) (val s) ∧ Below w.heap.size w w' := by
  refine (bigText_any s w (Nat.le_trans (right_dig2 h).2 (by decide)) (right_dig2 h).1).mono ?_
  rintro e w' ⟨v, rfl, hv, hb⟩
  obtain ⟨a, n, c, rfl⟩ := hv.shape
  exact ⟨a, n, c, rfl, hv, hb⟩
def powText (s : ByteArray) (n : Int) : List UInt8 := if Cub.rightB s.data.toList = true then (if 0 ≤ n ∧ n ≤ 4096 then toldText (val s ^ n.toNat) else []) else []
def powErr (s : ByteArray) (n : Int) : Int := if Cub.rightB s.data.toList = true then (if 0 ≤ n ∧ n ≤ 4096 then toldErr (val s ^ n.toNat) else 1) else 3

theorem pow_small {s : ByteArray} (h : Cub.rightB s.data.toList = true) (k e : Nat) (he : s.size * k < e) : val s ^ k < 10 ^ e := by
  obtain ⟨h1, h2⟩ := (Cub.rightB_iff _).1 h
  have h3 := Cub.dval_lt h1.1
  rw [list_len] at h3
  have h4 : val s ^ k ≤ (10 ^ s.size) ^ k := Nat.pow_le_pow_left (Nat.le_of_lt h3) k
  rw [← Nat.pow_mul] at h4
  exact Nat.lt_of_le_of_lt h4 (Nat.pow_lt_pow_right (by decide) he)
theorem pow_large {s : ByteArray} (h : Cub.rightB s.data.toList = true) (k e : Nat) (he : e ≤ (s.size - 1) * k) (h0 : 0 < e) : ¬ val s ^ k < 10 ^ e := by
  obtain ⟨h1, h2⟩ := (Cub.rightB_iff _).1 h
  have h5 : 2 ≤ s.data.toList.length := by
    rw [list_len]
    apply Decidable.byContradiction
    intro hc
    rw [show s.size - 1 = 0 by omega, Nat.zero_mul] at he
    omega
  have h3 := Cub.isNat_pos h1 h5
  rw [list_len] at h3
  have h4 : (10 ^ (s.size - 1)) ^ k ≤ val s ^ k := Nat.pow_le_pow_left h3 k
  rw [← Nat.pow_mul] at h4
  have h6 : 10 ^ e ≤ 10 ^ ((s.size - 1) * k) := Nat.pow_le_pow_right (by decide) he
  omega
theorem right_pos {s : ByteArray} (h : Cub.rightB s.data.toList = true) : 1 ≤ s.size ∧ s.size ≤ 600 := by
  refine ⟨?_, (right_dig2 h).2⟩
  obtain ⟨h1, h2⟩ := (Cub.rightB_iff _).1 h
  rw [← list_len]
  have := Cub.dec_ne_nil (Cub.dval s.data.toList)
  rw [Cub.dec_dval _ _ rfl h1] at this
  exact List.length_pos_iff.2 this

set_option maxRecDepth 100000 in
set_option maxHeartbeats 800000 in
theorem natPow_any (s : ByteArray) (n : Int) (w : World) (hs : s.size ≤ maxLen) (hn1 : -9223372036854775808 ≤ n) (hn2 : n ≤ 9223372036854775807) (htab : Tab w) :
    Calls Tryz.prog 112 #[.string s, .int .i64 n] w fun e w' => e = .returned (.tuple #[.string ⟨(powText s n).toArray⟩, .int .i64 (powErr s n)]) ∧ Below w.heap.size w w' := by
  have HR := hide (fun W => right_any s W hs)
  have HT := hide htab
  clear htab
  unfold powText powErr
  cases hb : Cub.rightB s.data.toList with
  | false =>
    rw [hb] at HR
    simp only [Bool.false_eq_true, if_false]
    clear hb
    go_enter Tryz.func112, Tryz.ntmps112
    go_wp2_with (go_at_call 97; refine (unhide HR _).mono ?_; rintro e w' ⟨rfl, rfl⟩)
    go_ret2
    exact ⟨rfl, Below.refl _ _⟩
  | true =>
    have HA := hide hb
    rw [hb] at HR
    simp only [if_true]
    clear hb
    by_cases hr : 0 ≤ n ∧ n ≤ 4096
    · rw [if_pos hr, if_pos hr]
      obtain ⟨k, rfl⟩ := Int.eq_ofNat_of_zero_le hr.1
      have hk : k ≤ 4096 := by omega
      rw [show ((k : Int)).toNat = k from rfl]
      obtain ⟨hp1, hp2⟩ := right_pos (unhide HA)
      obtain ⟨p, hp⟩ : ∃ p, p = (s.size - 1) * k := ⟨_, rfl⟩
      have hpm : ((s.size : Int) - 1) * (k : Int) = (p : Int) := by
        rw [hp, Int.natCast_mul, Int.natCast_sub hp1]; rfl
      have hpb : p ≤ 600 * 4096 := by rw [hp]; exact Nat.mul_le_mul (by omega) hk
      have hsk : s.size * k = p + k := by
        rw [hp, ← Nat.succ_mul]; congr 1; omega
      by_cases h6 : 600 ≤ p
      · have HL := hide (pow_large (unhide HA) k 600 (by omega) (by decide))
        clear hsk hp
        go_enter Tryz.func112, Tryz.ntmps112
        go_wp2_with (go_at_call 97; refine (unhide HR _).mono ?_; rintro e w' ⟨rfl, rfl⟩)
        go_ret2
        exact ⟨by rw [toldText_neg _ (unhide HL), toldErr_neg _ (unhide HL)]; rfl, Below.refl _ _⟩
      · have hP := Nat.lt_of_lt_of_le (pow_small (unhide HA) k 4700 (by omega)) (pow_nine 4700 523 (by decide))
        have hV := Nat.lt_of_lt_of_le (right_val (unhide HA)) (pow_nine 600 523 (by decide))
        have H62 := hide (fun W => bigN s W (unhide HA))
        have H63 := hide (fun W x (hx : IsBig W x (val s)) => bigPow_any x (val s) k 523 W hx (by omega) (by decide) (by decide) hP hV)
        have H51 := hide (fun W v (h : IsBig W v (val s ^ k)) (h2 : Tab W) => tell_any v (val s ^ k) 523 W h (by decide) hP h2)
        clear hP hV hsk hp
        generalize val s ^ k = V at *
        go_enter Tryz.func112, Tryz.ntmps112
        go_wp2_with (first
          | (go_at_call 97; refine (unhide HR _).mono ?_; rintro e w' ⟨rfl, hw⟩; subst w')
          | (go_at_call 98; refine (unhide H62 _).mono ?_; rintro e w1 ⟨xa, xn, xc, rfl, hx, hb1⟩; have HX := hide hx; clear hx)
          | (go_at_call 142; refine (unhide H63 _ _ (unhide HX)).mono ?_; rintro e w2 ⟨ya, yn, yc, rfl, hy, hc2⟩; have HY := hide hy; clear hy; have hb2 := hb1.trans (hc2.mono hb1.size))
          | (go_at_call 141; refine (unhide H51 _ _ (unhide HY) ((unhide HT).later hb2)).mono ?_; rintro e w3 ⟨rfl, hc3⟩; have hb3 := hb2.trans (hc3.mono hb2.size)))
        go_ret2
        exact ⟨rfl, hb3⟩
    · rw [if_neg hr, if_neg hr]
      by_cases h0 : n < 0
      · go_enter Tryz.func112, Tryz.ntmps112
        go_wp2_with (go_at_call 97; refine (unhide HR _).mono ?_; rintro e w' ⟨rfl, rfl⟩)
        go_ret2
        exact ⟨rfl, Below.refl _ _⟩
      · have h4 : 4096 < n := by omega
        go_enter Tryz.func112, Tryz.ntmps112
        go_wp2_with (go_at_call 97; refine (unhide HR _).mono ?_; rintro e w' ⟨rfl, rfl⟩)
        go_ret2
        exact ⟨rfl, Below.refl _ _⟩
end Go.Proofs.YtpoapffbpgnkpaaGreatDoor

namespace Go.Proofs.YtpoapffbpgnkpaaGreatDoor
open Go.RowKit

theorem one_list {l : List Nat} (hn : Cub.normal 1000000000 l) : Cub.lval 1000000000 l = 1 ↔ l = [1] := by
  constructor
  · intro h
    match l, hn, h with
    | [], _, h => simp [Cub.lval] at h
    | [x], _, h => simp [Cub.lval] at h; rw [h]
    | x :: y :: t, hn, h =>
      have := Cub.normal_ge hn (by simp)
      have h2 : (1000000000 : Nat) ^ 1 ≤ 1000000000 ^ ((x :: y :: t).length - 1) := Nat.pow_le_pow_right (by decide) (by simp)
      omega
  · rintro rfl; rfl
theorem isOne_any (v : Value) (n : Nat) (w : World) (h : IsBig w v n) :
    Calls Tryz.prog 100 #[v] w fun e w' => e = .returned (.bool (n == 1)) ∧ Below w.heap.size w w' := by
  obtain ⟨a, l, cap, rfl, hl, hr, hn, rfl⟩ := h.form
  have h1 := one_list hn
  by_cases hlen : l.length = 1
  · match l, hlen with
    | [x], _ =>
      obtain ⟨a', cap', e, _, _, hc⟩ := hr
      simp only [Value.slice.injEq] at e
      obtain ⟨rfl, _, rfl⟩ := e
      obtain ⟨b, o, rfl, hb, hcell⟩ := hc (by simp)
      have c0 := hcell 0 (by simp)
      simp only [List.getElem_cons_zero, Nat.add_zero] at c0
      have ex : (Cub.lval 1000000000 [x] == 1) = ((x : Int) == 1) := by
        simp [Cub.lval]
        rw [Bool.eq_iff_iff]; simp; omega
      have hx : x < 18446744073709551616 := by have := hn.1 x (by simp); omega
      rw [ex]
      simp only [List.length_cons, List.length_nil, Nat.zero_add] at *
      clear ex h1 hn h hcell hc
      go_enter Tryz.func100, Tryz.ntmps100
      go_wp2
      go_ret
      exact ⟨rfl, (Below.refl _ _).alloc (Nat.le_refl _) _⟩
  · have ex : (Cub.lval 1000000000 l == 1) = false := by
      rw [beq_eq_false_iff_ne]; intro e; exact hlen (by rw [h1.1 e]; rfl)
    have el : ((l.length : Int) == 1) = false := by rw [beq_eq_false_iff_ne]; omega
    rw [ex]
    clear ex h1 hn h hr
    generalize l.length = len at *
    go_enter Tryz.func100, Tryz.ntmps100
    go_wp2
    go_ret
    exact ⟨rfl, (Below.refl _ _).alloc (Nat.le_refl _) _⟩
/-- A box that the call has made holds a value. -/
structure Box (W : World) (g : Nat) (u : Value) : Prop where
  c : W.cell? ⟨g, 0, none⟩ = some u
  f : W.frozen? ⟨g, 0, none⟩ = false
theorem Box.lt {W : World} {g : Nat} {u : Value} (h : Box W g u) : g < W.heap.size := World.block_lt_of_cell? _ _ h.c
theorem Box.later {W V : World} {g : Nat} {u : Value} (h : Box W g u) (hb : Below W.heap.size W V) : Box V g u :=
  ⟨(hb.cell (p := ⟨g, 0, none⟩) h.lt).trans h.c, (hb.frozen (p := ⟨g, 0, none⟩) h.lt).trans h.f⟩
theorem Box.set {W : World} {g : Nat} {u : Value} (h : Box W g u) (x : Value) : Box (W.setCell ⟨g, 0, none⟩ x) g x :=
  ⟨World.cell?_setCell_same _ _ _ h.c, by rw [World.frozen?_setCell]; exact h.f⟩
theorem Box.other {W : World} {g k : Nat} {u : Value} (h : Box W g u) (hk : g ≠ k) (x : Value) : Box (W.setCell ⟨k, 0, none⟩ x) g u :=
  ⟨by rw [World.cell?_setCell_other _ _ _ _ (by intro e; cases e; exact hk rfl)]; exact h.c, by rw [World.frozen?_setCell]; exact h.f⟩
end Go.Proofs.YtpoapffbpgnkpaaGreatDoor

namespace Go.Proofs.YtpoapffbpgnkpaaGreatDoor
open Go.RowKit

/-- What the division and the greatest common divisor must answer. -/
def DivAns (k : Nat) : Prop := ∀ (W : World) (x y : Value) (m n : Nat), IsBig W x m → IsBig W y n → m < 1000000000 ^ k → 0 < n →
  Calls Tryz.prog 132 #[x, y] W fun e w' => ∃ a1 n1 c1 a2 n2 c2, e = .returned (.tuple #[.agg #[.slice a1 n1 c1], .agg #[.slice a2 n2 c2]]) ∧ IsBig w' (.agg #[.slice a1 n1 c1]) (m / n) ∧ IsBig w' (.agg #[.slice a2 n2 c2]) (m % n) ∧ Below W.heap.size W w'
def GcdAns (k : Nat) : Prop := ∀ (W : World) (x y : Value) (m n : Nat), IsBig W x m → IsBig W y n → m < 1000000000 ^ k → n < 1000000000 ^ k →
  Calls Tryz.prog 99 #[x, y] W fun e w' => ∃ a l c, e = .returned (.agg #[.slice a l c]) ∧ IsBig w' (.agg #[.slice a l c]) (Nat.gcd m n) ∧ Below W.heap.size W w'
/-- Two numbers in their boxes, and the boxes of the results. -/
structure LwSt (w W : World) (u v p q : Value) : Prop where
  b1 : Box W w.heap.size u
  b2 : Box W (w.heap.size + 1) v
  b3 : Box W (w.heap.size + 1 + 1) p
  b4 : Box W (w.heap.size + 1 + 1 + 1) q
  below : Below w.heap.size w W
theorem LwSt.later {w W V : World} {u v p q : Value} (s : LwSt w W u v p q) (hb : Below W.heap.size W V) : LwSt w V u v p q :=
  ⟨s.b1.later hb, s.b2.later hb, s.b3.later hb, s.b4.later hb, s.below.trans (hb.mono s.below.size)⟩
theorem LwSt.first (w : World) (u v p q : Value) : LwSt w ((((w.alloc (.cells #[u] 81)).alloc (.cells #[v] 81)).alloc (.cells #[p] 81)).alloc (.cells #[q] 81)) u v p q :=
  ⟨⟨by simp [go_sem], by simp [go_sem]⟩, ⟨by simp [go_sem], by simp [go_sem]⟩, ⟨by simp [go_sem], by simp [go_sem]⟩, ⟨by simp [go_sem], by simp [go_sem]⟩,
    ((((Below.refl _ _).alloc (Nat.le_refl _) _).alloc (by simp) _).alloc (by simp; omega) _).alloc (by simp; omega) _⟩
theorem LwSt.set3 {w W : World} {u v p q : Value} (s : LwSt w W u v p q) (x : Value) : LwSt w (W.setCell ⟨w.heap.size + 1 + 1, 0, none⟩ x) u v x q :=
  ⟨s.b1.other (by omega) x, s.b2.other (by omega) x, s.b3.set x, s.b4.other (by omega) x, s.below.setCell (by simp; omega) _⟩
theorem LwSt.set4 {w W : World} {u v p q : Value} (s : LwSt w W u v p q) (x : Value) : LwSt w (W.setCell ⟨w.heap.size + 1 + 1 + 1, 0, none⟩ x) u v p x :=
  ⟨s.b1.other (by omega) x, s.b2.other (by omega) x, s.b3.other (by omega) x, s.b4.set x, s.below.setCell (by simp; omega) _⟩
theorem LwSt.set1 {w W : World} {u v p q : Value} (s : LwSt w W u v p q) (x : Value) : LwSt w (W.setCell ⟨w.heap.size, 0, none⟩ x) x v p q :=
  ⟨s.b1.set x, s.b2.other (by omega) x, s.b3.other (by omega) x, s.b4.other (by omega) x, s.below.setCell (by simp) _⟩
theorem LwSt.set2 {w W : World} {u v p q : Value} (s : LwSt w W u v p q) (x : Value) : LwSt w (W.setCell ⟨w.heap.size + 1, 0, none⟩ x) u x p q :=
  ⟨s.b1.other (by omega) x, s.b2.set x, s.b3.other (by omega) x, s.b4.other (by omega) x, s.below.setCell (by simp) _⟩
theorem not_int (a : Option Addr) (l c : Nat) : ∀ k n, (Value.slice a l c) ≠ .int k n := fun _ _ e => by cases e

end Go.Proofs.YtpoapffbpgnkpaaGreatDoor

namespace Cub

/-- In the one form: coprime, not over 0, no sign at 0. -/
structure Low (b : Bool) (n d : Nat) : Prop where
  pos : 0 < d
  cop : Nat.gcd n d = 1
  sign : b = true → n ≠ 0
/-- A size with its sign. -/
def sg (b : Bool) (n : Nat) : Int := if b then -(n : Int) else n
def valQ (b : Bool) (n d : Nat) : Rat := ((sg b n : Int) : Rat) / ((d : Nat) : Rat)
theorem sg_abs (b : Bool) (n : Nat) : (sg b n).natAbs = n := by cases b <;> simp [sg]
theorem sg_mul (b c : Bool) (n m : Nat) : sg b n * sg c m = sg (b != c) (n * m) := by
  cases b <;> cases c <;> simp [sg, Int.mul_neg, Int.neg_mul]
theorem sg_zero (b : Bool) : sg b 0 = 0 := by cases b <;> rfl
theorem dR {d : Nat} (h : 0 < d) : ((d : Nat) : Rat) ≠ 0 := by
  have : d ≠ 0 := by omega
  exact_mod_cast this
theorem div_eq_iff {a b c d : Rat} (hb : b ≠ 0) (hd : d ≠ 0) : a / b = c / d ↔ a * d = c * b := by
  constructor
  · intro h; grind
  · intro h; grind
theorem valQ_eq {b b' : Bool} {n d n' d' : Nat} (hd : 0 < d) (hd' : 0 < d') : valQ b n d = valQ b' n' d' ↔ sg b n * (d' : Int) = sg b' n' * (d : Int) := by
  unfold valQ
  rw [div_eq_iff (dR hd) (dR hd')]
  constructor
  · intro h; exact_mod_cast h
  · intro h; exact_mod_cast h
theorem low_unique {b b' : Bool} {n d n' d' : Nat} (h : Low b n d) (h' : Low b' n' d') (e : valQ b n d = valQ b' n' d') : b = b' ∧ n = n' ∧ d = d' := by
  have e1 := (valQ_eq h.pos h'.pos).1 e
  have e2 : n * d' = n' * d := by
    have := congrArg Int.natAbs e1
    rw [Int.natAbs_mul, Int.natAbs_mul, sg_abs, sg_abs] at this
    simpa using this
  have d1 : d ∣ d' := by
    have : d ∣ n * d' := ⟨n', by rw [e2, Nat.mul_comm]⟩
    exact (Nat.Coprime.dvd_of_dvd_mul_left (Nat.Coprime.symm h.cop) this)
  have d2 : d' ∣ d := by
    have : d' ∣ n' * d := ⟨n, by rw [← e2, Nat.mul_comm]⟩
    exact (Nat.Coprime.dvd_of_dvd_mul_left (Nat.Coprime.symm h'.cop) this)
  have ed : d = d' := Nat.dvd_antisymm d1 d2
  subst ed
  have en : n = n' := Nat.eq_of_mul_eq_mul_right h.pos e2
  subst en
  refine ⟨?_, rfl, rfl⟩
  have e3 : sg b n = sg b' n := Int.eq_of_mul_eq_mul_right (by have := h.pos; omega) e1
  by_cases hn : n = 0
  · have hb : b = false := by cases b with | false => rfl | true => exact absurd hn (h.sign rfl)
    have hb' : b' = false := by cases b' with | false => rfl | true => exact absurd hn (h'.sign rfl)
    rw [hb, hb']
  · cases b <;> cases b' <;> first | rfl | (exfalso; simp [sg] at e3; omega)

end Cub

namespace Cub

theorem valQ_zero (b : Bool) (d : Nat) : valQ b 0 d = 0 := by
  unfold valQ
  rw [sg_zero, Rat.div_def]
  push_cast
  exact Rat.zero_mul _
theorem inv_low {b : Bool} {n d : Nat} (h : Low b n d) (hn : n ≠ 0) : Low b d n ∧ valQ b d n = (valQ b n d)⁻¹ := by
  refine ⟨⟨by omega, by rw [Nat.gcd_comm]; exact h.cop, fun _ => by have := h.pos; omega⟩, ?_⟩
  have x1 := dR h.pos
  have x2 : ((n : Nat) : Rat) ≠ 0 := dR (by omega)
  unfold valQ sg
  cases b <;> simp only [Bool.false_eq_true, if_true, if_false] <;> push_cast <;> grind
theorem num_below (x : Rat) : x.num < 0 ↔ x < 0 := by
  have h := Rat.num_nonneg (q := x)
  constructor
  · intro h1
    exact Rat.not_le.1 fun h2 => by have := h.2 h2; omega
  · intro h1
    have : ¬ 0 ≤ x.num := fun h2 => Rat.not_le.2 h1 (h.1 h2)
    omega
/-- The one form of a rational number. -/
theorem low_of (x : Rat) : Low (decide (x < 0)) x.num.natAbs x.den ∧ valQ (decide (x < 0)) x.num.natAbs x.den = x := by
  have hs : sg (decide (x < 0)) x.num.natAbs = x.num := by
    unfold sg
    by_cases h : x < 0
    · have : x.num < 0 := (num_below x).2 h
      simp only [h, decide_true, if_true]; omega
    · have : ¬ x.num < 0 := fun h2 => h ((num_below x).1 h2)
      simp only [h, decide_false, Bool.false_eq_true, if_false]; omega
  refine ⟨⟨x.den_pos, x.reduced, fun h => ?_⟩, ?_⟩
  · have := (num_below x).2 (of_decide_eq_true h)
    omega
  · unfold valQ
    rw [hs, ← Rat.mkRat_eq_div, Rat.mkRat_self]
/-- So one in the one form is that of its value. -/
theorem low_is {b : Bool} {n d : Nat} (h : Low b n d) : b = decide (valQ b n d < 0) ∧ n = (valQ b n d).num.natAbs ∧ d = (valQ b n d).den :=
  low_unique h (low_of _).1 (low_of _).2.symm
theorem valQ_lt {b c : Bool} {n d m e : Nat} (hd : 0 < d) (he : 0 < e) : valQ b n d < valQ c m e ↔ sg b n * (e : Int) < sg c m * (d : Int) := by
  unfold valQ
  rw [Rat.div_lt_iff (Rat.natCast_pos.2 hd), Rat.div_def, show ((sg c m : Int) : Rat) * ((e : Nat) : Rat)⁻¹ * ((d : Nat) : Rat) = ((sg c m : Int) : Rat) * ((d : Nat) : Rat) / ((e : Nat) : Rat) by rw [Rat.div_def]; grind, Rat.lt_div_iff (Rat.natCast_pos.2 he)]
  constructor
  · intro h; exact_mod_cast h
  · intro h; exact_mod_cast h
/-- -1, 0, 1. -/
def cmpQ (x y : Rat) : Int := if x < y then -1 else if y < x then 1 else 0
/-- Frac.Sign. -/
theorem sign_val {b : Bool} {n d : Nat} (h : Low b n d) : (if b then -1 else if n = 0 then (0 : Int) else 1) = cmpQ (valQ b n d) 0 := by
  have hz : (0 : Rat) = valQ false 0 1 := (valQ_zero false 1).symm
  have hd := h.pos
  have hb := h.sign
  unfold cmpQ
  rw [hz]
  simp only [valQ_lt h.pos (show 0 < 1 by omega), valQ_lt (show 0 < 1 by omega) h.pos, sg_zero]
  cases b
  · by_cases hn : n = 0
    · subst hn; simp [sg]
    · have : 0 < n := by omega
      simp [sg, hn, this]
  · have : 0 < n := by have := hb rfl; omega
    simp [sg, this]
end Cub

namespace Go.Proofs.YtpoapffbpgnkpaaGreatDoor
open Go.RowKit

/-- Two numbers in their boxes, and the box of the result. -/
structure A3St (w W : World) (u v p : Value) : Prop where
  b1 : Box W w.heap.size u
  b2 : Box W (w.heap.size + 1) v
  b3 : Box W (w.heap.size + 1 + 1) p
  below : Below w.heap.size w W
theorem A3St.later {w W V : World} {u v p : Value} (s : A3St w W u v p) (hb : Below W.heap.size W V) : A3St w V u v p :=
  ⟨s.b1.later hb, s.b2.later hb, s.b3.later hb, s.below.trans (hb.mono s.below.size)⟩
theorem A3St.first (w : World) (u v p : Value) : A3St w (((w.alloc (.cells #[u] 81)).alloc (.cells #[v] 81)).alloc (.cells #[p] 81)) u v p :=
  ⟨⟨by simp [go_sem], by simp [go_sem]⟩, ⟨by simp [go_sem], by simp [go_sem]⟩, ⟨by simp [go_sem], by simp [go_sem]⟩,
    (((Below.refl _ _).alloc (Nat.le_refl _) _).alloc (by simp) _).alloc (by simp; omega) _⟩
theorem A3St.set3 {w W : World} {u v p : Value} (s : A3St w W u v p) (x : Value) : A3St w (W.setCell ⟨w.heap.size + 1 + 1, 0, none⟩ x) u v x :=
  ⟨s.b1.other (by omega) x, s.b2.other (by omega) x, s.b3.set x, s.below.setCell (by simp; omega) _⟩

end Go.Proofs.YtpoapffbpgnkpaaGreatDoor

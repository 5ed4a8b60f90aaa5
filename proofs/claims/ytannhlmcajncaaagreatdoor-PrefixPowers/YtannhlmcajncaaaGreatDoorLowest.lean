/- rat.lowest: both divided by what they share. -/
import Derived.Test.YtannhlmcajncaaaGreatDoorNTell
import Derived.Test.YtannhlmcajncaaaGreatDoorShelf
import Derived.BigQuiet
import Derived.Deep.Cut
import Derived.WalkSmall
namespace Go.Proofs.YtannhlmcajncaaaGreatDoor
open Go.RowKit

theorem right_dig2 {s : ByteArray} (h : Cub.rightB s.data.toList = true) : Cub.digs s.data.toList ∧ s.size ≤ 600 := right_digs h
theorem toldErr_pos (n : Nat) (h : n < 10 ^ 600) : toldErr n = 0 := by unfold toldErr; rw [if_pos h]
theorem toldErr_neg (n : Nat) (h : ¬ n < 10 ^ 600) : toldErr n = 7 := by unfold toldErr; rw [if_neg h]
theorem bigN (s : ByteArray) (w : World) (h : Cub.rightB s.data.toList = true) :
    Calls Tryz.prog 70 #[.string s] w fun e w' => ∃ a n c, e = .returned (.agg #[.slice a n c]) ∧ IsBig w' (.agg #[.slice a n c]) (val s) ∧ Below w.heap.size w w' := by
  refine (bigText_any s w (Nat.le_trans (right_dig2 h).2 (by decide)) (right_dig2 h).1).mono ?_
  rintro e w' ⟨v, rfl, hv, hb⟩
  obtain ⟨a, n, c, rfl⟩ := hv.shape
  exact ⟨a, n, c, rfl, hv, hb⟩
def powText (s : ByteArray) (n : Int) : List UInt8 := if Cub.rightB s.data.toList = true then (if 0 ≤ n ∧ n ≤ 4096 then toldText (val s ^ n.toNat) else []) else []
def powErr (s : ByteArray) (n : Int) : Int := if Cub.rightB s.data.toList = true then (if 0 ≤ n ∧ n ≤ 4096 then toldErr (val s ^ n.toNat) else 1) else 3

theorem pow_small {s : ByteArray} (h : Cub.rightB s.data.toList = true) (k e : Nat) (he : s.size * k < e) : val s ^ k < 10 ^ e := by
  obtain ⟨h1, h2⟩ := (Cub.rightB_iff _).1 h
  have h3 := Cub.dval_lt h1.1
  rw [list_len] at h3
  have h4 : val s ^ k ≤ (10 ^ s.size) ^ k := Nat.pow_le_pow_left (Nat.le_of_lt h3) k
  rw [← Nat.pow_mul] at h4
  exact Nat.lt_of_le_of_lt h4 (Nat.pow_lt_pow_right (by decide) he)
theorem pow_large {s : ByteArray} (h : Cub.rightB s.data.toList = true) (k e : Nat) (he : e ≤ (s.size - 1) * k) (h0 : 0 < e) : ¬ val s ^ k < 10 ^ e := by
  obtain ⟨h1, h2⟩ := (Cub.rightB_iff _).1 h
  have h5 : 2 ≤ s.data.toList.length := by
    rw [list_len]
    apply Decidable.byContradiction
    intro hc
    rw [show s.size - 1 = 0 by omega, Nat.zero_mul] at he
    omega
  have h3 := Cub.isNat_pos h1 h5
  rw [list_len] at h3
  have h4 : (10 ^ (s.size - 1)) ^ k ≤ val s ^ k := Nat.pow_le_pow_left h3 k
  rw [← Nat.pow_mul] at h4
  have h6 : 10 ^ e ≤ 10 ^ ((s.size - 1) * k) := Nat.pow_le_pow_right (by decide) he
  omega
theorem right_pos {s : ByteArray} (h : Cub.rightB s.data.toList = true) : 1 ≤ s.size ∧ s.size ≤ 600 := by
  refine ⟨?_, (right_dig2 h).2⟩
  obtain ⟨h1, h2⟩ := (Cub.rightB_iff _).1 h
  rw [← list_len]
  have := Cub.dec_ne_nil (Cub.dval s.data.toList)
  rw [Cub.dec_dval _ _ rfl h1] at this
  exact List.length_pos_iff.2 this

set_option maxRecDepth 100000 in
set_option maxHeartbeats 800000 in
theorem natPow_any (s : ByteArray) (n : Int) (w : World) (hs : s.size ≤ maxLen) (hn1 : -9223372036854775808 ≤ n) (hn2 : n ≤ 9223372036854775807) (htab : Tab w) :
    Calls Tryz.prog 26 #[.string s, .int .i64 n] w fun e w' => e = .returned (.tuple #[.string ⟨(powText s n).toArray⟩, .int .i64 (powErr s n)]) ∧ Below w.heap.size w w' := by
  have HR := hide (fun W => right_any s W hs)
  have HT := hide htab
  clear htab
  unfold powText powErr
  cases hb : Cub.rightB s.data.toList with
  | false =>
    rw [hb] at HR
    simp only [Bool.false_eq_true, if_false]
    clear hb
    go_enter Tryz.func26, Tryz.ntmps26
    go_wp2_with (go_at_call 69; refine (unhide HR _).mono ?_; rintro e w' ⟨rfl, rfl⟩)
    go_ret2
    exact ⟨rfl, Below.refl _ _⟩
  | true =>
    have HA := hide hb
    rw [hb] at HR
    simp only [if_true]
    clear hb
    by_cases hr : 0 ≤ n ∧ n ≤ 4096
    · rw [if_pos hr, if_pos hr]
      obtain ⟨k, rfl⟩ := Int.eq_ofNat_of_zero_le hr.1
      have hk : k ≤ 4096 := by omega
      rw [show ((k : Int)).toNat = k from rfl]
      obtain ⟨hp1, hp2⟩ := right_pos (unhide HA)
      obtain ⟨p, hp⟩ : ∃ p, p = (s.size - 1) * k := ⟨_, rfl⟩
      have hpm : ((s.size : Int) - 1) * (k : Int) = (p : Int) := by
        rw [hp, Int.natCast_mul, Int.natCast_sub hp1]; rfl
      have hpb : p ≤ 600 * 4096 := by rw [hp]; exact Nat.mul_le_mul (by omega) hk
      have hsk : s.size * k = p + k := by
        rw [hp, ← Nat.succ_mul]; congr 1; omega
      by_cases h6 : 600 ≤ p
      · have HL := hide (pow_large (unhide HA) k 600 (by omega) (by decide))
        clear hsk hp
        go_enter Tryz.func26, Tryz.ntmps26
        go_wp2_with (go_at_call 69; refine (unhide HR _).mono ?_; rintro e w' ⟨rfl, rfl⟩)
        go_ret2
        exact ⟨by rw [toldText_neg _ (unhide HL), toldErr_neg _ (unhide HL)]; rfl, Below.refl _ _⟩
      · have hP := Nat.lt_of_lt_of_le (pow_small (unhide HA) k 4700 (by omega)) (pow_nine 4700 523 (by decide))
        have hV := Nat.lt_of_lt_of_le (right_val (unhide HA)) (pow_nine 600 523 (by decide))
        have H62 := hide (fun W => bigN s W (unhide HA))
        have H63 := hide (fun W x (hx : IsBig W x (val s)) => bigPow_any x (val s) k 523 W hx (by omega) (by decide) (by decide) hP hV)
        have H51 := hide (fun W v (h : IsBig W v (val s ^ k)) (h2 : Tab W) => tell_any v (val s ^ k) 523 W h (by decide) hP h2)
        clear hP hV hsk hp
        generalize val s ^ k = V at *
        go_enter Tryz.func26, Tryz.ntmps26
        go_wp2_with (first
          | (go_at_call 69; refine (unhide HR _).mono ?_; rintro e w' ⟨rfl, hw⟩; subst w')
          | (go_at_call 70; refine (unhide H62 _).mono ?_; rintro e w1 ⟨xa, xn, xc, rfl, hx, hb1⟩; have HX := hide hx; clear hx)
          | (go_at_call 75; refine (unhide H63 _ _ (unhide HX)).mono ?_; rintro e w2 ⟨ya, yn, yc, rfl, hy, hc2⟩; have HY := hide hy; clear hy; have hb2 := hb1.trans (hc2.mono hb1.size))
          | (go_at_call 74; refine (unhide H51 _ _ (unhide HY) ((unhide HT).later hb2)).mono ?_; rintro e w3 ⟨rfl, hc3⟩; have hb3 := hb2.trans (hc3.mono hb2.size)))
        go_ret2
        exact ⟨rfl, hb3⟩
    · rw [if_neg hr, if_neg hr]
      by_cases h0 : n < 0
      · go_enter Tryz.func26, Tryz.ntmps26
        go_wp2_with (go_at_call 69; refine (unhide HR _).mono ?_; rintro e w' ⟨rfl, rfl⟩)
        go_ret2
        exact ⟨rfl, Below.refl _ _⟩
      · have h4 : 4096 < n := by omega
        go_enter Tryz.func26, Tryz.ntmps26
        go_wp2_with (go_at_call 69; refine (unhide HR _).mono ?_; rintro e w' ⟨rfl, rfl⟩)
        go_ret2
        exact ⟨rfl, Below.refl _ _⟩
end Go.Proofs.YtannhlmcajncaaaGreatDoor

namespace Go.Proofs.YtannhlmcajncaaaGreatDoor
open Go.RowKit

theorem one_list {l : List Nat} (hn : Cub.normal 1000000000 l) : Cub.lval 1000000000 l = 1 ↔ l = [1] := by
  constructor
  · intro h
    match l, hn, h with
    | [], _, h => simp [Cub.lval] at h
    | [x], _, h => simp [Cub.lval] at h; rw [h]
    | x :: y :: t, hn, h =>
      have := Cub.normal_ge hn (by simp)
      have h2 : (1000000000 : Nat) ^ 1 ≤ 1000000000 ^ ((x :: y :: t).length - 1) := Nat.pow_le_pow_right (by decide) (by simp)
      omega
  · rintro rfl; rfl
theorem isOne_any (v : Value) (n : Nat) (w : World) (h : IsBig w v n) :
    Calls Tryz.prog 72 #[v] w fun e w' => e = .returned (.bool (n == 1)) ∧ Below w.heap.size w w' := by
  obtain ⟨a, l, cap, rfl, hl, hr, hn, rfl⟩ := h.form
  have h1 := one_list hn
  by_cases hlen : l.length = 1
  · match l, hlen with
    | [x], _ =>
      obtain ⟨a', cap', e, _, _, hc⟩ := hr
      simp only [Value.slice.injEq] at e
      obtain ⟨rfl, _, rfl⟩ := e
      obtain ⟨b, o, rfl, hb, hcell⟩ := hc (by simp)
      have c0 := hcell 0 (by simp)
      simp only [List.getElem_cons_zero, Nat.add_zero] at c0
      have ex : (Cub.lval 1000000000 [x] == 1) = ((x : Int) == 1) := by
        simp [Cub.lval]
        rw [Bool.eq_iff_iff]; simp; omega
      have hx : x < 18446744073709551616 := by have := hn.1 x (by simp); omega
      rw [ex]
      simp only [List.length_cons, List.length_nil, Nat.zero_add] at *
      clear ex h1 hn h hcell hc
      go_enter Tryz.func72, Tryz.ntmps72
      go_wp2
      go_ret
      exact ⟨rfl, (Below.refl _ _).alloc (Nat.le_refl _) _⟩
  · have ex : (Cub.lval 1000000000 l == 1) = false := by
      rw [beq_eq_false_iff_ne]; intro e; exact hlen (by rw [h1.1 e]; rfl)
    have el : ((l.length : Int) == 1) = false := by rw [beq_eq_false_iff_ne]; omega
    rw [ex]
    clear ex h1 hn h hr
    generalize l.length = len at *
    go_enter Tryz.func72, Tryz.ntmps72
    go_wp2
    go_ret
    exact ⟨rfl, (Below.refl _ _).alloc (Nat.le_refl _) _⟩
/-- A box that the call has made holds a value. -/
structure Box (W : World) (g : Nat) (u : Value) : Prop where
  c : W.cell? ⟨g, 0, none⟩ = some u
  f : W.frozen? ⟨g, 0, none⟩ = false
theorem Box.lt {W : World} {g : Nat} {u : Value} (h : Box W g u) : g < W.heap.size := World.block_lt_of_cell? _ _ h.c
theorem Box.later {W V : World} {g : Nat} {u : Value} (h : Box W g u) (hb : Below W.heap.size W V) : Box V g u :=
  ⟨(hb.cell (p := ⟨g, 0, none⟩) h.lt).trans h.c, (hb.frozen (p := ⟨g, 0, none⟩) h.lt).trans h.f⟩
theorem Box.set {W : World} {g : Nat} {u : Value} (h : Box W g u) (x : Value) : Box (W.setCell ⟨g, 0, none⟩ x) g x :=
  ⟨World.cell?_setCell_same _ _ _ h.c, by rw [World.frozen?_setCell]; exact h.f⟩
theorem Box.other {W : World} {g k : Nat} {u : Value} (h : Box W g u) (hk : g ≠ k) (x : Value) : Box (W.setCell ⟨k, 0, none⟩ x) g u :=
  ⟨by rw [World.cell?_setCell_other _ _ _ _ (by intro e; cases e; exact hk rfl)]; exact h.c, by rw [World.frozen?_setCell]; exact h.f⟩
end Go.Proofs.YtannhlmcajncaaaGreatDoor

namespace Go.Proofs.YtannhlmcajncaaaGreatDoor
open Go.RowKit

/-- What the division and the greatest common divisor must answer. -/
def DivAns (k : Nat) : Prop := ∀ (W : World) (x y : Value) (m n : Nat), IsBig W x m → IsBig W y n → m < 1000000000 ^ k → 0 < n →
  Calls Tryz.prog 92 #[x, y] W fun e w' => ∃ a1 n1 c1 a2 n2 c2, e = .returned (.tuple #[.agg #[.slice a1 n1 c1], .agg #[.slice a2 n2 c2]]) ∧ IsBig w' (.agg #[.slice a1 n1 c1]) (m / n) ∧ IsBig w' (.agg #[.slice a2 n2 c2]) (m % n) ∧ Below W.heap.size W w'
def GcdAns (k : Nat) : Prop := ∀ (W : World) (x y : Value) (m n : Nat), IsBig W x m → IsBig W y n → m < 1000000000 ^ k → n < 1000000000 ^ k →
  Calls Tryz.prog 71 #[x, y] W fun e w' => ∃ a l c, e = .returned (.agg #[.slice a l c]) ∧ IsBig w' (.agg #[.slice a l c]) (Nat.gcd m n) ∧ Below W.heap.size W w'
/-- Two numbers in their boxes, and the boxes of the results. -/
structure LwSt (w W : World) (u v p q : Value) : Prop where
  b1 : Box W w.heap.size u
  b2 : Box W (w.heap.size + 1) v
  b3 : Box W (w.heap.size + 1 + 1) p
  b4 : Box W (w.heap.size + 1 + 1 + 1) q
  below : Below w.heap.size w W
theorem LwSt.later {w W V : World} {u v p q : Value} (s : LwSt w W u v p q) (hb : Below W.heap.size W V) : LwSt w V u v p q :=
  ⟨s.b1.later hb, s.b2.later hb, s.b3.later hb, s.b4.later hb, s.below.trans (hb.mono s.below.size)⟩
theorem LwSt.first (w : World) (u v p q : Value) : LwSt w ((((w.alloc (.cells #[u] 58)).alloc (.cells #[v] 58)).alloc (.cells #[p] 58)).alloc (.cells #[q] 58)) u v p q :=
  ⟨⟨by simp [go_sem], by simp [go_sem]⟩, ⟨by simp [go_sem], by simp [go_sem]⟩, ⟨by simp [go_sem], by simp [go_sem]⟩, ⟨by simp [go_sem], by simp [go_sem]⟩,
    ((((Below.refl _ _).alloc (Nat.le_refl _) _).alloc (by simp) _).alloc (by simp; omega) _).alloc (by simp; omega) _⟩
theorem LwSt.set3 {w W : World} {u v p q : Value} (s : LwSt w W u v p q) (x : Value) : LwSt w (W.setCell ⟨w.heap.size + 1 + 1, 0, none⟩ x) u v x q :=
  ⟨s.b1.other (by omega) x, s.b2.other (by omega) x, s.b3.set x, s.b4.other (by omega) x, s.below.setCell (by simp; omega) _⟩
theorem LwSt.set4 {w W : World} {u v p q : Value} (s : LwSt w W u v p q) (x : Value) : LwSt w (W.setCell ⟨w.heap.size + 1 + 1 + 1, 0, none⟩ x) u v p x :=
  ⟨s.b1.other (by omega) x, s.b2.other (by omega) x, s.b3.other (by omega) x, s.b4.set x, s.below.setCell (by simp; omega) _⟩
theorem LwSt.set1 {w W : World} {u v p q : Value} (s : LwSt w W u v p q) (x : Value) : LwSt w (W.setCell ⟨w.heap.size, 0, none⟩ x) x v p q :=
  ⟨s.b1.set x, s.b2.other (by omega) x, s.b3.other (by omega) x, s.b4.other (by omega) x, s.below.setCell (by simp) _⟩
theorem LwSt.set2 {w W : World} {u v p q : Value} (s : LwSt w W u v p q) (x : Value) : LwSt w (W.setCell ⟨w.heap.size + 1, 0, none⟩ x) u x p q :=
  ⟨s.b1.other (by omega) x, s.b2.set x, s.b3.other (by omega) x, s.b4.other (by omega) x, s.below.setCell (by simp) _⟩
theorem not_int (a : Option Addr) (l c : Nat) : ∀ k n, (Value.slice a l c) ≠ .int k n := fun _ _ e => by cases e

set_option maxRecDepth 100000 in
set_option maxHeartbeats 2000000 in
theorem lowest_any (x y : Value) (m n k : Nat) (w : World) (hx : IsBig w x m) (hy : IsBig w y n) (hm : m < 1000000000 ^ k) (hn : n < 1000000000 ^ k) (h0 : 0 < n) (hD : DivAns k) (hG : GcdAns k) :
    Calls Tryz.prog 84 #[x, y] w fun e w' => ∃ a1 l1 c1 a2 l2 c2, e = .returned (.tuple #[.agg #[.slice a1 l1 c1], .agg #[.slice a2 l2 c2]]) ∧ IsBig w' (.agg #[.slice a1 l1 c1]) (m / Nat.gcd m n) ∧ IsBig w' (.agg #[.slice a2 l2 c2]) (n / Nat.gcd m n) ∧ Below w.heap.size w w' := by
  have HX := hide hx
  have HY := hide hy
  obtain ⟨ap, np, cp, rfl⟩ := hx.shape
  obtain ⟨aq, nq, cq, rfl⟩ := hy.shape
  have H51x : Hid (∀ W, IsBig W (.agg #[.slice ap np cp]) m → Calls Tryz.prog 72 #[.agg #[.slice ap np cp]] W fun e w' => e = .returned (.bool (m == 1)) ∧ Below W.heap.size W w') := fun W h => isOne_any _ m W h
  have H51y : Hid (∀ W, IsBig W (.agg #[.slice aq nq cq]) n → Calls Tryz.prog 72 #[.agg #[.slice aq nq cq]] W fun e w' => e = .returned (.bool (n == 1)) ∧ Below W.heap.size W w') := fun W h => isOne_any _ n W h
  have HD := hide hD
  have HG := hide hG
  have HM := hide hm
  have HNN := hide hn
  have H0 := hide h0
  clear hx hy hm hn h0 hD hG
  have HS0 := hide (LwSt.first w (.slice ap np cp) (.slice aq nq cq) (.slice none 0 0) (.slice none 0 0))
  go_enter Tryz.func84, Tryz.ntmps84
  by_cases h1 : m = 1
  · have hg : m / Nat.gcd m n = m ∧ n / Nat.gcd m n = n := by rw [h1]; simp
    rw [hg.1, hg.2]
    rw [show (m == 1) = true by rw [h1]; rfl] at H51x
    clear hg h1
    go_upto_region 2 with (go_at_call_of 72 (Value.agg #[Value.slice ap np cp]); go_must (refine (unhide H51x _ ((unhide HX).later (unhide HS0).below)).mono ?_; rintro e w1 ⟨rfl, hb1⟩; have HS := hide ((unhide HS0).later hb1); have HX1 := hide (((unhide HX).later (unhide HS0).below).later hb1); have HY1 := hide (((unhide HY).later (unhide HS0).below).later hb1); have b1 := (unhide HS).b1.c; have b2 := (unhide HS).b2.c; clear hb1))
    clear HS0 b1 b2
    have b1 := (unhide HS).b1.c; have b2 := (unhide HS).b2.c; have b3 := (unhide HS).b3.c; have b4 := (unhide HS).b4.c
    have f3 := (unhide HS).b3.f; have f4 := (unhide HS).b4.f
    go_region
    obtain ⟨V, hV⟩ : ∃ V, V = (((w1.setCell ⟨w.heap.size + 1 + 1, 0, none⟩ (.slice ap np cp)).setCell ⟨w.heap.size + 1 + 1 + 1, 0, none⟩ (.slice aq nq cq)).drew) := ⟨_, rfl⟩
    have HE : Hid (LwSt w V (.slice ap np cp) (.slice aq nq cq) (.slice ap np cp) (.slice aq nq cq) ∧ IsBig V (.agg #[.slice ap np cp]) m ∧ IsBig V (.agg #[.slice aq nq cq]) n) := by
      rw [hV]
      refine ⟨(((unhide HS).set3 _).set4 _).later ((Below.refl _ _).drew), ?_, ?_⟩
      · exact (((unhide HX1).box _ (unhide HS).b3.c (not_int _ _ _)).box _ ((unhide HS).set3 _).b4.c (not_int _ _ _)).later ((Below.refl _ _).drew)
      · exact (((unhide HY1).box _ (unhide HS).b3.c (not_int _ _ _)).box _ ((unhide HS).set3 _).b4.c (not_int _ _ _)).later ((Below.refl _ _).drew)
    rw [← hV]
    clear hV b1 b2 b3 b4 f3 f4
    have d3 := (unhide HE).1.b3.c; have d4 := (unhide HE).1.b4.c
    go_wp2_with fail
    exact bodyPost_ret (v := .tuple #[.agg #[.slice ap np cp], .agg #[.slice aq nq cq]]) (by simp [results, Tryz.results84, go_sem, d3, d4]) rfl ⟨_, _, _, _, _, _, rfl, (unhide HE).2.1, (unhide HE).2.2, (unhide HE).1.below⟩
  · rw [show (m == 1) = false by rw [beq_eq_false_iff_ne]; exact h1] at H51x
    by_cases h2 : n = 1
    · have hg : m / Nat.gcd m n = m ∧ n / Nat.gcd m n = n := by rw [h2]; simp
      rw [hg.1, hg.2]
      rw [show (n == 1) = true by rw [h2]; rfl] at H51y
      clear hg h1 h2
      go_upto_region 2 with (first
        | (go_at_call_of 72 (Value.agg #[Value.slice ap np cp]); go_must (refine (unhide H51x _ ((unhide HX).later (unhide HS0).below)).mono ?_; rintro e w1 ⟨rfl, hb1⟩; have HS := hide ((unhide HS0).later hb1); have HX1 := hide (((unhide HX).later (unhide HS0).below).later hb1); have HY1 := hide (((unhide HY).later (unhide HS0).below).later hb1); have b1 := (unhide HS).b1.c; have b2 := (unhide HS).b2.c; clear hb1))
        | (go_at_call_of 72 (Value.agg #[Value.slice aq nq cq]); go_must (refine (unhide H51y w1 (unhide HY1)).mono ?_; rintro e w2 ⟨rfl, hb2⟩; have HS2 := hide ((unhide HS).later hb2); have HX2 := hide ((unhide HX1).later hb2); have HY2 := hide ((unhide HY1).later hb2); clear b1 b2 hb2; have b1 := (unhide HS2).b1.c; have b2 := (unhide HS2).b2.c)))
      clear HS0 b1 b2
      have b1 := (unhide HS2).b1.c; have b2 := (unhide HS2).b2.c; have b3 := (unhide HS2).b3.c; have b4 := (unhide HS2).b4.c
      have f3 := (unhide HS2).b3.f; have f4 := (unhide HS2).b4.f
      go_region
      obtain ⟨V, hV⟩ : ∃ V, V = (((w2.setCell ⟨w.heap.size + 1 + 1, 0, none⟩ (.slice ap np cp)).setCell ⟨w.heap.size + 1 + 1 + 1, 0, none⟩ (.slice aq nq cq)).drew) := ⟨_, rfl⟩
      have HE : Hid (LwSt w V (.slice ap np cp) (.slice aq nq cq) (.slice ap np cp) (.slice aq nq cq) ∧ IsBig V (.agg #[.slice ap np cp]) m ∧ IsBig V (.agg #[.slice aq nq cq]) n) := by
        rw [hV]
        refine ⟨(((unhide HS2).set3 _).set4 _).later ((Below.refl _ _).drew), ?_, ?_⟩
        · exact (((unhide HX2).box _ (unhide HS2).b3.c (not_int _ _ _)).box _ ((unhide HS2).set3 _).b4.c (not_int _ _ _)).later ((Below.refl _ _).drew)
        · exact (((unhide HY2).box _ (unhide HS2).b3.c (not_int _ _ _)).box _ ((unhide HS2).set3 _).b4.c (not_int _ _ _)).later ((Below.refl _ _).drew)
      rw [← hV]
      clear hV b1 b2 b3 b4 f3 f4
      have d3 := (unhide HE).1.b3.c; have d4 := (unhide HE).1.b4.c
      go_wp2_with fail
      exact bodyPost_ret (v := .tuple #[.agg #[.slice ap np cp], .agg #[.slice aq nq cq]]) (by simp [results, Tryz.results84, go_sem, d3, d4]) rfl ⟨_, _, _, _, _, _, rfl, (unhide HE).2.1, (unhide HE).2.2, (unhide HE).1.below⟩
    · rw [show (n == 1) = false by rw [beq_eq_false_iff_ne]; exact h2] at H51y
      clear h1 h2
      go_upto_region 4 with (first
        | (go_at_call_of 72 (Value.agg #[Value.slice ap np cp]); go_must (refine (unhide H51x _ ((unhide HX).later (unhide HS0).below)).mono ?_; rintro e w1 ⟨rfl, hb1⟩; have HS := hide ((unhide HS0).later hb1); have HX1 := hide (((unhide HX).later (unhide HS0).below).later hb1); have HY1 := hide (((unhide HY).later (unhide HS0).below).later hb1); have b1 := (unhide HS).b1.c; have b2 := (unhide HS).b2.c; clear hb1))
        | (go_at_call_of 72 (Value.agg #[Value.slice aq nq cq]); go_must (refine (unhide H51y w1 (unhide HY1)).mono ?_; rintro e w2 ⟨rfl, hb2⟩; have HS2 := hide ((unhide HS).later hb2); have HX2 := hide ((unhide HX1).later hb2); have HY2 := hide ((unhide HY1).later hb2); clear b1 b2 hb2; have b1 := (unhide HS2).b1.c; have b2 := (unhide HS2).b2.c))
        | (go_at_call 71; go_must (refine (unhide HG w2 _ _ m n (unhide HX2) (unhide HY2) (unhide HM) (unhide HNN)).mono ?_; rintro e w3 ⟨ag, lg, cg, rfl, hg3, hb3⟩; have HS3 := hide ((unhide HS2).later hb3); have HX3 := hide ((unhide HX2).later hb3); have HY3 := hide ((unhide HY2).later hb3); have HG3 := hide hg3; clear b1 b2 hg3 hb3)))
      clear HS0
      obtain ⟨V, hV⟩ : ∃ V, V = w3.alloc (.cells #[.slice ag lg cg] 58) := ⟨_, rfl⟩
      have hbV : Below w3.heap.size w3 V := by rw [hV]; exact (Below.refl _ _).alloc (Nat.le_refl _) _
      have HS4 := hide ((unhide HS3).later hbV); have HX4 := hide ((unhide HX3).later hbV); have HY4 := hide ((unhide HY3).later hbV); have HG4 := hide ((unhide HG3).later hbV)
      have HB4 : Hid (Box V w3.heap.size (.slice ag lg cg)) := by rw [hV]; exact ⟨by simp [go_sem], by simp [go_sem]⟩
      have hlt : w.heap.size + 1 + 1 + 1 < w3.heap.size := (unhide HS3).b4.lt
      rw [← hV]
      clear hV hbV HS3 HX3 HY3 HG3 HS2 HX2 HY2 HS HX1 HY1
      generalize hgb : w3.heap.size = gb at *
      clear hgb
      have H51g : Hid (∀ W, IsBig W (.agg #[.slice ag lg cg]) (Nat.gcd m n) → Calls Tryz.prog 72 #[.agg #[.slice ag lg cg]] W fun e w' => e = .returned (.bool (Nat.gcd m n == 1)) ∧ Below W.heap.size W w') := fun W h => isOne_any _ _ W h
      have q6 := (unhide HB4).c
      by_cases h3 : Nat.gcd m n = 1
      · have HGE : Hid (m / Nat.gcd m n = m ∧ n / Nat.gcd m n = n) := ⟨by rw [h3]; simp, by rw [h3]; simp⟩
        rw [show (Nat.gcd m n == 1) = true by rw [h3]; rfl] at H51g
        clear h3
        go_upto_region 5 with (go_at_call 72; go_must (refine (unhide H51g V (unhide HG4)).mono ?_; rintro e w4 ⟨rfl, hb4⟩; have HS5 := hide ((unhide HS4).later hb4); have HX5 := hide ((unhide HX4).later hb4); have HY5 := hide ((unhide HY4).later hb4); clear hb4 q6))
        clear HS4 HX4 HY4 HG4 HB4
        have b1 := (unhide HS5).b1.c; have b2 := (unhide HS5).b2.c; have b3 := (unhide HS5).b3.c; have b4 := (unhide HS5).b4.c
        have f3 := (unhide HS5).b3.f; have f4 := (unhide HS5).b4.f
        go_region
        obtain ⟨V, hV⟩ : ∃ V, V = (((w4.setCell ⟨w.heap.size + 1 + 1, 0, none⟩ (.slice ap np cp)).setCell ⟨w.heap.size + 1 + 1 + 1, 0, none⟩ (.slice aq nq cq)).drew) := ⟨_, rfl⟩
        have HE : Hid (LwSt w V (.slice ap np cp) (.slice aq nq cq) (.slice ap np cp) (.slice aq nq cq) ∧ IsBig V (.agg #[.slice ap np cp]) m ∧ IsBig V (.agg #[.slice aq nq cq]) n) := by
          rw [hV]
          refine ⟨(((unhide HS5).set3 _).set4 _).later ((Below.refl _ _).drew), ?_, ?_⟩
          · exact (((unhide HX5).box _ (unhide HS5).b3.c (not_int _ _ _)).box _ ((unhide HS5).set3 _).b4.c (not_int _ _ _)).later ((Below.refl _ _).drew)
          · exact (((unhide HY5).box _ (unhide HS5).b3.c (not_int _ _ _)).box _ ((unhide HS5).set3 _).b4.c (not_int _ _ _)).later ((Below.refl _ _).drew)
        rw [← hV]
        clear hV b1 b2 b3 b4 f3 f4
        have d3 := (unhide HE).1.b3.c; have d4 := (unhide HE).1.b4.c
        go_wp2_with fail
        exact bodyPost_ret (v := .tuple #[.agg #[.slice ap np cp], .agg #[.slice aq nq cq]]) (by simp [results, Tryz.results84, go_sem, d3, d4]) rfl ⟨_, _, _, _, _, _, rfl, (by rw [(unhide HGE).1]; exact (unhide HE).2.1), (by rw [(unhide HGE).2]; exact (unhide HE).2.2), (unhide HE).1.below⟩
      · have HGP : Hid (0 < Nat.gcd m n) := Nat.gcd_pos_of_pos_right _ (unhide H0)
        rw [show (Nat.gcd m n == 1) = false by rw [beq_eq_false_iff_ne]; exact h3] at H51g
        clear h3
        go_upto_region 6 with (go_at_call 72; go_must (refine (unhide H51g V (unhide HG4)).mono ?_; rintro e w4 ⟨rfl, hb4⟩; have HS5 := hide ((unhide HS4).later hb4); have HX5 := hide ((unhide HX4).later hb4); have HY5 := hide ((unhide HY4).later hb4); have HG5 := hide ((unhide HG4).later hb4); have HB5 := hide ((unhide HB4).later hb4); clear hb4 q6))
        clear HS4 HX4 HY4 HG4 HB4
        have b1 := (unhide HS5).b1.c; have b2 := (unhide HS5).b2.c; have q6 := (unhide HB5).c
        go_upto_region 7 with (go_at_call 92; go_must (refine (unhide HD w4 _ _ m (Nat.gcd m n) (unhide HX5) (unhide HG5) (unhide HM) (unhide HGP)).mono ?_; rintro e w5 ⟨a1, l1, c1, a2, l2, c2, rfl, hq, hr, hb5⟩; have HS6 := hide ((unhide HS5).later hb5); have HY6 := hide ((unhide HY5).later hb5); have HG6 := hide ((unhide HG5).later hb5); have HB6 := hide ((unhide HB5).later hb5); have HQ6 := hide hq; clear hb5 hq hr b1 b2 q6; have b1 := (unhide HS6).b1.c; have f1 := (unhide HS6).b1.f))
        obtain ⟨V6, hV6⟩ : ∃ V6, V6 = w5.setCell ⟨w.heap.size, 0, none⟩ (.slice a1 l1 c1) := ⟨_, rfl⟩
        have HS7 : Hid (LwSt w V6 (.slice a1 l1 c1) (.slice aq nq cq) (.slice none 0 0) (.slice none 0 0)) := by rw [hV6]; exact (unhide HS6).set1 _
        have HY7 : Hid (IsBig V6 (.agg #[.slice aq nq cq]) n) := by rw [hV6]; exact (unhide HY6).box _ b1 (not_int _ _ _)
        have HG7 : Hid (IsBig V6 (.agg #[.slice ag lg cg]) (Nat.gcd m n)) := by rw [hV6]; exact (unhide HG6).box _ b1 (not_int _ _ _)
        have HQ7 : Hid (IsBig V6 (.agg #[.slice a1 l1 c1]) (m / Nat.gcd m n)) := by rw [hV6]; exact (unhide HQ6).box _ b1 (not_int _ _ _)
        have HB7 : Hid (Box V6 gb (.slice ag lg cg)) := by rw [hV6]; exact (unhide HB6).other (by omega) _
        rw [← hV6]
        clear hV6 HS6 HY6 HG6 HQ6 HB6 HS5 HX5 HY5 HG5 HB5 b1 f1
        have b2 := (unhide HS7).b2.c; have q6 := (unhide HB7).c
        go_upto_region 8 with (go_at_call 92; go_must (refine (unhide HD V6 _ _ n (Nat.gcd m n) (unhide HY7) (unhide HG7) (unhide HNN) (unhide HGP)).mono ?_; rintro e w7 ⟨a3, l3, c3, a4, l4, c4, rfl, hq, hr, hb7⟩; have HS8 := hide ((unhide HS7).later hb7); have HQ8 := hide ((unhide HQ7).later hb7); have HR8 := hide hq; clear hb7 hq hr b2 q6; have b2 := (unhide HS8).b2.c; have f2 := (unhide HS8).b2.f))
        obtain ⟨V8, hV8⟩ : ∃ V8, V8 = w7.setCell ⟨w.heap.size + 1, 0, none⟩ (.slice a3 l3 c3) := ⟨_, rfl⟩
        have HS9 : Hid (LwSt w V8 (.slice a1 l1 c1) (.slice a3 l3 c3) (.slice none 0 0) (.slice none 0 0)) := by rw [hV8]; exact (unhide HS8).set2 _
        have HQ9 : Hid (IsBig V8 (.agg #[.slice a1 l1 c1]) (m / Nat.gcd m n)) := by rw [hV8]; exact (unhide HQ8).box _ b2 (not_int _ _ _)
        have HR9 : Hid (IsBig V8 (.agg #[.slice a3 l3 c3]) (n / Nat.gcd m n)) := by rw [hV8]; exact (unhide HR8).box _ b2 (not_int _ _ _)
        rw [← hV8]
        clear hV8 HS8 HQ8 HR8 HS7 HY7 HG7 HQ7 HB7 b2 f2
        have b1 := (unhide HS9).b1.c; have b2 := (unhide HS9).b2.c; have b3 := (unhide HS9).b3.c; have b4 := (unhide HS9).b4.c
        have f3 := (unhide HS9).b3.f; have f4 := (unhide HS9).b4.f
        go_region
        obtain ⟨V, hV⟩ : ∃ V, V = (((V8.setCell ⟨w.heap.size + 1 + 1, 0, none⟩ (.slice a1 l1 c1)).setCell ⟨w.heap.size + 1 + 1 + 1, 0, none⟩ (.slice a3 l3 c3)).drew) := ⟨_, rfl⟩
        have HE : Hid (LwSt w V (.slice a1 l1 c1) (.slice a3 l3 c3) (.slice a1 l1 c1) (.slice a3 l3 c3) ∧ IsBig V (.agg #[.slice a1 l1 c1]) (m / Nat.gcd m n) ∧ IsBig V (.agg #[.slice a3 l3 c3]) (n / Nat.gcd m n)) := by
          rw [hV]
          refine ⟨(((unhide HS9).set3 _).set4 _).later ((Below.refl _ _).drew), ?_, ?_⟩
          · exact (((unhide HQ9).box _ (unhide HS9).b3.c (not_int _ _ _)).box _ ((unhide HS9).set3 _).b4.c (not_int _ _ _)).later ((Below.refl _ _).drew)
          · exact (((unhide HR9).box _ (unhide HS9).b3.c (not_int _ _ _)).box _ ((unhide HS9).set3 _).b4.c (not_int _ _ _)).later ((Below.refl _ _).drew)
        rw [← hV]
        clear hV b1 b2 b3 b4 f3 f4
        have d3 := (unhide HE).1.b3.c; have d4 := (unhide HE).1.b4.c
        go_wp2_with fail
        exact bodyPost_ret (v := .tuple #[.agg #[.slice a1 l1 c1], .agg #[.slice a3 l3 c3]]) (by simp [results, Tryz.results84, go_sem, d3, d4]) rfl ⟨_, _, _, _, _, _, rfl, (unhide HE).2.1, (unhide HE).2.2, (unhide HE).1.below⟩
end Go.Proofs.YtannhlmcajncaaaGreatDoor

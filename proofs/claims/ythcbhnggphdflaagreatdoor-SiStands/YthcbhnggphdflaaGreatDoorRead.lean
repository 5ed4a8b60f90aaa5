/- rat.Read. -/
import Derived.Test.YthcbhnggphdflaaGreatDoorLimb2
import Derived.Test.YthcbhnggphdflaaGreatDoorTimes
import Derived.Test.YthcbhnggphdflaaGreatDoorDivMod
import Derived.Test.YthcbhnggphdflaaGreatDoorLong2
import Derived.Test.YthcbhnggphdflaaGreatDoorMulMath
import Derived.Deep.RegionHeld3
import Derived.Test.YthcbhnggphdflaaGreatDoorLowest
namespace Go.Proofs.YthcbhnggphdflaaGreatDoor
open Go.RowKit
theorem divAns (k : Nat) (hk : k ≤ 100000) : DivAns k := fun W x y m n hx hy hm hn =>
 divMod_core x y m n k W hx hy (by omega) hm hn (fun h1 h2 => long_any m n k (by omega) hm h1 h2)
theorem divOK (k : Nat) (hk : k ≤ 100000) : DivOK k := divAns k hk
theorem gcdAns (k : Nat) (hk : k ≤ 100000) : GcdAns k := fun W x y m n hx hy hm hn => gcd_any x y m n k W hx hy hk hm hn (divOK k hk)
/-- A Frac that holds a number in its one form, its parts below 1000000000 ^ k. -/
def QOf (w : World) (v : Value) (x : Rat) (k : Nat) : Prop := ∃ b n d, IsFrac w v b n d ∧ Cub.Low b n d ∧ Cub.valQ b n d = x ∧ n < 1000000000 ^ k ∧ d < 1000000000 ^ k
theorem QOf.later {w w' : World} {v : Value} {x : Rat} {k : Nat} (h : QOf w v x k) (hb : Below w.heap.size w w') : QOf w' v x k := by
 obtain ⟨b, n, d, h1, h2⟩ := h
 exact ⟨b, n, d, h1.later hb, h2⟩
theorem QOf.mono {w : World} {v : Value} {x : Rat} {k j : Nat} (h : QOf w v x k) (hk : k ≤ j) : QOf w v x j := by
 obtain ⟨b, n, d, h1, h2, h3, h4, h5⟩ := h
 have : (1000000000 : Nat) ^ k ≤ 1000000000 ^ j := Nat.pow_le_pow_right (by decide) hk
 exact ⟨b, n, d, h1, h2, h3, by omega, by omega⟩
theorem QOf.form {w : World} {v : Value} {x : Rat} {k : Nat} (h : QOf w v x k) : ∃ b a1 l1 c1 a2 l2 c2, v = .agg #[.bool b, .slice a1 l1 c1, .slice a2 l2 c2] := by
 obtain ⟨b, n, d, h1, _⟩ := h
 obtain ⟨a1, l1, c1, a2, l2, c2, rfl, _, _⟩ := h1.form
 exact ⟨b, a1, l1, c1, a2, l2, c2, rfl⟩
theorem qsign (x : Value) (p : Rat) (k : Nat) (w : World) (hx : QOf w x p k) :
  Calls Tryz.prog 65 #[x] w fun r w' => r = .returned (I (Cub.cmpQ p 0)) ∧ Below w.heap.size w w' := by
 obtain ⟨b, n, d, h1, h2, rfl, h4, h5⟩ := hx
 rw [← signI_val h2]
 exact sign_any x b n d w h1
theorem qinv (x : Value) (p : Rat) (k : Nat) (w : World) (hx : QOf w x p k) (hp : p ≠ 0) :
  Calls Tryz.prog 96 #[x] w fun r w' => ∃ v, r = .returned v ∧ QOf w' v p⁻¹ k ∧ Below w.heap.size w w' := by
 obtain ⟨b, n, d, h1, h2, rfl, h4, h5⟩ := hx
 have hn : n ≠ 0 := by intro h; subst h; exact hp (Cub.valQ_zero _ _)
 refine (inv_any x b n d w h1).mono ?_
 rintro r w' ⟨v, rfl, j1, hb⟩
 exact ⟨v, rfl, ⟨_, _, _, j1, (Cub.inv_low h2 hn).1, (Cub.inv_low h2 hn).2, h5, h4⟩, hb⟩
/-- rat.times of a slice of two. -/
theorem qtimes (B : Nat) (b c : Bool) (a1 a2 a3 a4 : Option Addr) (l1 d1 l2 d2 l3 d3 l4 d4 : Nat) (p q : Rat) (k : Nat) (w : World)
  (c0 : w.cell? ⟨B, 0, none⟩ = some (.bool b)) (c1 : w.cell? ⟨B, 1, none⟩ = some (.slice a1 l1 d1)) (c2 : w.cell? ⟨B, 2, none⟩ = some (.slice a2 l2 d2)) (c3 : w.cell? ⟨B, 3, none⟩ = some (.bool c)) (c4 : w.cell? ⟨B, 4, none⟩ = some (.slice a3 l3 d3)) (c5 : w.cell? ⟨B, 5, none⟩ = some (.slice a4 l4 d4))
  (hx : QOf w (.agg #[.bool b, .slice a1 l1 d1, .slice a2 l2 d2]) p k) (hy : QOf w (.agg #[.bool c, .slice a3 l3 d3, .slice a4 l4 d4]) q k) (hk : k + k ≤ 100000) :
  Calls Tryz.prog 95 #[.slice (some ⟨B, 0, none⟩) 2 2] w fun r w' => ∃ v, r = .returned v ∧ QOf w' v (p * q) (k + k) ∧ Below w.heap.size w w' := by
 obtain ⟨b', n, d, ⟨s, t, e1, h1, h1'⟩, h2, rfl, h4, h5⟩ := hx
 obtain ⟨c', m, e, ⟨s', t', e2, i1, i1'⟩, i2, rfl, i4, i5⟩ := hy
 simp only [Value.agg.injEq, Array.mk.injEq, List.cons.injEq, Value.bool.injEq, and_true] at e1 e2
 obtain ⟨rfl, rfl, rfl⟩ := e1
 obtain ⟨rfl, rfl, rfl⟩ := e2
 refine (times_any B b c a1 a2 a3 a4 l1 d1 l2 d2 l3 d3 l4 d4 n d m e k w c0 c1 c2 c3 c4 c5 h1 h1' i1 i1' hk h4 h5 i4 i5 h2.pos i2.pos (divAns k (by omega)) (gcdAns k (by omega))).mono ?_
 rintro r w' ⟨v, rfl, j1, hb⟩
 obtain ⟨o1, o2⟩ := Cub.mul_low h2 i2
 have eb : (b != c && decide (n / n.gcd e * (m / m.gcd d) ≠ 0)) = (!(b == c) && !(n / n.gcd e * (m / m.gcd d) == 0)) := by
  rw [show (b != c) = !(b == c) from rfl]
  by_cases h0 : n / n.gcd e * (m / m.gcd d) = 0
  ·simp [h0]
  ·rw [show (n / n.gcd e * (m / m.gcd d) == 0) = false from by rw [beq_eq_false_iff_ne]; exact h0]; simp [h0]
 rw [eb] at o1 o2
 have z1 := Nat.div_le_self n (n.gcd e)
 have z2 := Nat.div_le_self m (m.gcd d)
 have z3 := Nat.div_le_self d (m.gcd d)
 have z4 := Nat.div_le_self e (n.gcd e)
 exact ⟨v, rfl, ⟨_, _, _, j1, o1, o2, by rw [Nat.pow_add]; exact Nat.mul_lt_mul'' (by omega) (by omega), by rw [Nat.pow_add]; exact Nat.mul_lt_mul'' (by omega) (by omega)⟩, hb⟩
end Go.Proofs.YthcbhnggphdflaaGreatDoor

namespace Go.Proofs.YthcbhnggphdflaaGreatDoor
open Go.RowKit
theorem QOf.stored {W : World} {g : Nat} {b b' : Bool} {a1 a2 : Option Addr} {l1 c1 l2 c2 : Nat} (h : FBox W g (.bool b) (.slice a1 l1 c1) (.slice a2 l2 c2)) {a3 a4 : Option Addr} {l3 c3 l4 c4 : Nat} {x : Rat} {k : Nat}
  (hv : QOf W (.agg #[.bool b', .slice a3 l3 c3, .slice a4 l4 c4]) x k) : QOf (store3 W g (.bool b') (.slice a3 l3 c3) (.slice a4 l4 c4)) (.agg #[.bool b', .slice a3 l3 c3, .slice a4 l4 c4]) x k := by
 obtain ⟨b0, n, d, ⟨s, t, e, h1, h1'⟩, h2⟩ := hv
 exact ⟨b0, n, d, ⟨s, t, e, h.big _ _ _ h1, h.big _ _ _ h1'⟩, h2⟩
end Go.Proofs.YthcbhnggphdflaaGreatDoor

namespace Go.Proofs.YthcbhnggphdflaaGreatDoor
open Go.RowKit
/-- Does a - stand ahead? What stands behind it. -/
def isNeg (s : ByteArray) : Bool := s.data.toList.head? == some 45
def digT (s : ByteArray) : ByteArray := if isNeg s then ⟨s.data.toList.tail.toArray⟩ else s
/-- The text of a size with its sign. -/
def sT (b : Bool) (n : Nat) : ByteArray := if b then ⟨#[45]⟩ ++ tb n else tb n
theorem hasPre (l : List UInt8) : Lib.hasPrefix l [45] = (l.head? == some 45) := by
 cases l with
 | nil => rfl
 | cons a t =>
  simp [Lib.hasPrefix, List.isPrefixOf]
  rw [Bool.eq_iff_iff]
  simp
  exact eq_comm
theorem trimPre (l : List UInt8) : Lib.trimPrefix l [45] = if (l.head? == some 45) = true then l.tail else l := by
 unfold Lib.trimPrefix
 rw [hasPre]
 split <;> cases l <;> simp_all
theorem digT_list (s : ByteArray) : (digT s).data.toList = if isNeg s = true then s.data.toList.tail else s.data.toList := by
 unfold digT; split <;> rfl
theorem bytes_ext {s t : ByteArray} (h : s.data.toList = t.data.toList) : s = t := by
 apply ByteArray.ext; exact Array.ext' h
theorem cut_digT (s : ByteArray) : (⟨(Lib.trimPrefix s.data.toList [45]).toArray⟩ : ByteArray) = digT s := by
 apply bytes_ext
 rw [digT_list, mk_list, trimPre]
 rfl
theorem cutSign_any (s : ByteArray) (w : World) :
  Calls Tryz.prog 122 #[.string s] w fun e w' => e = .returned (.tuple #[.bool (isNeg s), .string (digT s)]) ∧ w' = w := by
 have H := hide (Tryz.strings_CutPrefix s ⟨#[45]⟩ w)
 have e1 : Lib.hasPrefix s.data.toList (⟨#[45]⟩ : ByteArray).data.toList = isNeg s := hasPre _
 have e2 : (⟨(Lib.trimPrefix s.data.toList (⟨#[45]⟩ : ByteArray).data.toList).toArray⟩ : ByteArray) = digT s := cut_digT s
 rw [e1, e2] at H
 clear e1 e2
 generalize isNeg s = b at *
 generalize digT s = t at *
 go_enter Tryz.func122, Tryz.ntmps122
 go_wp2_with (go_at_call 169; go_must (refine (un H).mono ?_; rintro e w1 ⟨rfl, rfl⟩))
 exact bodyPost_ret (v := .tuple #[.bool b, .string t]) (by simp [results, Tryz.results122, go_sem]) rfl ⟨rfl, rfl⟩
theorem signed_any (b : Bool) (s : ByteArray) (w : World) (hs : s.size ≤ 1000000) :
  Calls Tryz.prog 86 #[.bool b, .string s] w fun e w' => e = .returned (.string (if b then ⟨#[45]⟩ ++ s else s)) ∧ w' = w := by
 cases b with
 | true =>
  have hl : (⟨#[45]⟩ : ByteArray).size = 1 := rfl
  go_enter Tryz.func86, Tryz.ntmps86
  go_wp2
  go_ret
  exact ⟨rfl, rfl⟩
 | false =>
  go_enter Tryz.func86, Tryz.ntmps86
  go_wp2
  go_ret
  exact ⟨rfl, rfl⟩
theorem tb_digs (n : Nat) (h : n < 10 ^ 600) : Cub.digs (tb n).data.toList ∧ (tb n).size ≤ 600 := right_digs (tb_right n h).1
theorem neg_tb (n : Nat) (h : n < 10 ^ 600) : isNeg (tb n) = false := by
 have hd := (tb_digs n h).1
 unfold isNeg
 cases e : (tb n).data.toList with
 | nil => rfl
 | cons a t =>
  rw [e] at hd
  have := hd a (by simp)
  simp only [List.head?_cons]
  rw [show (some a == some (45 : UInt8)) = (a == 45) from rfl]
  rw [beq_eq_false_iff_ne]
  intro e45
  subst e45
  revert this
  decide
theorem sT_list (b : Bool) (n : Nat) : (sT b n).data.toList = if b = true then 45 :: (tb n).data.toList else (tb n).data.toList := by
 cases b
 ·rfl
 ·simp [sT]
theorem neg_sT (b : Bool) (n : Nat) (h : n < 10 ^ 600) : isNeg (sT b n) = b := by
 cases b
 ·exact neg_tb n h
 ·unfold isNeg; rw [sT_list]; rfl
theorem dig_sT (b : Bool) (n : Nat) (h : n < 10 ^ 600) : digT (sT b n) = tb n := by
 apply bytes_ext
 rw [digT_list, neg_sT b n h, sT_list]
 cases b <;> rfl
theorem sT_size (b : Bool) (n : Nat) (h : n < 10 ^ 600) : (sT b n).size ≤ 601 := by
 have h1 := (tb_digs n h).2
 have h2 := list_len (sT b n)
 have h3 := list_len (tb n)
 rw [sT_list] at h2
 cases b
 ·simp at h2; omega
 ·simp at h2; omega
/-- A right number: its two texts. -/
structure RT (num den : ByteArray) (b : Bool) (n d : Nat) : Prop where
 num : num = sT b n
 den : den = tb d
 hn : n < 10 ^ 600
 hd : d < 10 ^ 600
 low : Cub.Low b n d
theorem tb_eq48 (n : Nat) (h : n < 10 ^ 600) : ((tb n).toList == [48]) = (n == 0) := by
 by_cases h0 : n = 0
 ·subst h0; rw [Lib.toList_data, tb_list 0 h, dec_zero]; rfl
 ·rw [beq_eq_false_iff_ne.2 h0, beq_eq_false_iff_ne]
  intro e
  rw [Lib.toList_data] at e
  have : val (tb n) = 0 := zero_val e
  rw [show val (tb n) = n from (tb_right n h).2] at this
  exact h0 this
end Go.Proofs.YthcbhnggphdflaaGreatDoor

namespace Go.Proofs.YthcbhnggphdflaaGreatDoor
open Go.RowKit
/-- A box of two cells. -/
structure T2 (W : World) (g : Nat) (x y : Value) : Prop where
  c0 : W.cell? ⟨g, 0, none⟩ = some x
  c1 : W.cell? ⟨g, 1, none⟩ = some y
  f0 : W.frozen? ⟨g, 0, none⟩ = false
  f1 : W.frozen? ⟨g, 1, none⟩ = false
theorem T2.lt {W : World} {g : Nat} {x y : Value} (h : T2 W g x y) : g < W.heap.size := World.block_lt_of_cell? _ _ h.c0
theorem T2.later {W V : World} {g : Nat} {x y : Value} (h : T2 W g x y) (hb : Below W.heap.size W V) : T2 V g x y :=
  ⟨(hb.cell (p := ⟨g, 0, none⟩) h.lt).trans h.c0, (hb.cell (p := ⟨g, 1, none⟩) h.lt).trans h.c1, (hb.frozen (p := ⟨g, 0, none⟩) h.lt).trans h.f0, (hb.frozen (p := ⟨g, 1, none⟩) h.lt).trans h.f1⟩
theorem T2.otherAt {W : World} {g k o : Nat} {x y : Value} (h : T2 W g x y) (hk : g ≠ k) (u : Value) : T2 (W.setCell ⟨k, o, none⟩ u) g x y :=
  ⟨by rw [World.cell?_setCell_other _ _ _ _ (by intro e; exact hk (congrArg Addr.block e).symm)]; exact h.c0, by rw [World.cell?_setCell_other _ _ _ _ (by intro e; exact hk (congrArg Addr.block e).symm)]; exact h.c1, by rw [World.frozen?_setCell]; exact h.f0, by rw [World.frozen?_setCell]; exact h.f1⟩
/-- The argument and the result's box. -/
structure RS (w W : World) (x y : Value) : Prop where
  a : T2 W w.heap.size x y
  r : FBox W (w.heap.size + 1) (.bool false) (.slice none 0 0) (.slice none 0 0)
  below : Below w.heap.size w W
theorem RS.later {w W V : World} {x y : Value} (s : RS w W x y) (hb : Below W.heap.size W V) : RS w V x y := ⟨s.a.later hb, s.r.later hb, s.below.trans (hb.mono s.below.size)⟩
theorem RS.first (w : World) (x y : Value) : RS w ((w.alloc (.cells #[x, y] 28)).alloc (.cells #[.bool false, .slice none 0 0, .slice none 0 0] 118)) x y :=
  ⟨⟨by simp [go_sem], by simp [go_sem], by simp [go_sem], by simp [go_sem]⟩, ⟨by simp [go_sem], by simp [go_sem], by simp [go_sem], by simp [go_sem], by simp [go_sem], by simp [go_sem]⟩, ((Below.refl _ _).alloc (Nat.le_refl _) _).alloc (by simp) _⟩
theorem pow600 : 10 ^ 600 ≤ 1000000000 ^ 67 := pow_nine 600 67 (by decide)
set_option maxRecDepth 100000 in
set_option maxHeartbeats 4000000 in
/-- What Read answers where both texts are numbers. -/
theorem read_ok (num den : ByteArray) (b : Bool) (n d : Nat) (w : World) (hnum : num = sT b n) (hden : den = tb d) (hn : n < 10 ^ 600) (hd : d < 10 ^ 600) (hb0 : b = true → n ≠ 0) (hd0 : d ≠ 0) (hg : Nat.gcd n d = 1) :
    Calls Tryz.prog 93 #[.agg #[.string num, .string den]] w fun r w' => ∃ v, r = .returned (.tuple #[v, .bool true]) ∧ QOf w' v (Cub.valQ b n d) 67 ∧ Below w.heap.size w w' := by
  obtain ⟨V, hV⟩ : ∃ V, V = (w.alloc (.cells #[.string num, .string den] 28)).alloc (.cells #[.bool false, .slice none 0 0, .slice none 0 0] 118) := ⟨_, rfl⟩
  have HS : Hid (RS w V (.string num) (.string den)) := by rw [hV]; exact RS.first _ _ _
  have HV := hide hV
  have HC68 : Hid (Calls Tryz.prog 122 #[.string num] V fun e w' => e = .returned (.tuple #[.bool b, .string (tb n)]) ∧ w' = V) := by
    have := cutSign_any num V
    rw [hnum, neg_sT b n hn, dig_sT b n hn] at this
    rw [hnum]; exact this
  have HR1 : Hid (Calls Tryz.prog 123 #[.string (tb n)] V fun e w' => e = .returned (.bool true) ∧ w' = V) := by
    have := right_any (tb n) V (tb_size n hn)
    rwa [(tb_right n hn).1] at this
  have HR2 : Hid (Calls Tryz.prog 123 #[.string den] V fun e w' => e = .returned (.bool true) ∧ w' = V) := by
    have := right_any (tb d) V (tb_size d hd)
    rw [(tb_right d hd).1] at this
    rw [hden]; exact this
  have z1 : b = true → ((tb n).toList == [48]) = false := fun h => by rw [tb_eq48 n hn, beq_eq_false_iff_ne]; exact hb0 h
  have z2 : (den.toList == [48]) = false := by rw [hden, tb_eq48 d hd, beq_eq_false_iff_ne]; exact hd0
  have HB1 : Hid (∀ W, Calls Tryz.prog 124 #[.string (tb n)] W fun e w' => ∃ v, e = .returned v ∧ IsBig w' v n ∧ Below W.heap.size W w') := fun W => by
    have := bigText_any (tb n) W (by have := (tb_digs n hn).2; omega) (tb_digs n hn).1
    rwa [(tb_right n hn).2] at this
  have HB2 : Hid (∀ W, Calls Tryz.prog 124 #[.string den] W fun e w' => ∃ v, e = .returned v ∧ IsBig w' v d ∧ Below W.heap.size W w') := fun W => by
    have := bigText_any (tb d) W (by have := (tb_digs d hd).2; omega) (tb_digs d hd).1
    rw [(tb_right d hd).2] at this
    rw [hden]; exact this
  have p6 := pow600
  have HLT : Hid (n < 1000000000 ^ 67 ∧ d < 1000000000 ^ 67) := ⟨Nat.lt_of_lt_of_le hn p6, Nat.lt_of_lt_of_le hd p6⟩
  have HG : Hid (∀ W x y, IsBig W x n → IsBig W y d → Calls Tryz.prog 125 #[x, y] W fun e w' => ∃ a l c, e = .returned (.agg #[.slice a l c]) ∧ IsBig w' (.agg #[.slice a l c]) (Nat.gcd n d) ∧ Below W.heap.size W w') := fun W x y h1 h2 => gcdAns 67 (by decide) W x y n d h1 h2 (un HLT).1 (un HLT).2
  have HLOW : Hid (Cub.Low b n d) := ⟨by omega, hg, hb0⟩
  rw [hg] at HG
  have H1 : Hid (∀ W x, IsBig W x 1 → Calls Tryz.prog 126 #[x] W fun e w' => e = .returned (.bool true) ∧ Below W.heap.size W w') := fun W x h => isOne_any x 1 W h
  clear p6 hn hd hb0 hd0 hg hnum hden
  generalize tb n = ds at *
  go_enter Tryz.func93, Tryz.ntmps93
  go_upto_region 1 with fail
  rw [← un HV]
  clear hV HV
  have t0 := (un HS).a.c0; have t1 := (un HS).a.c1
  have HGOAL : True := trivial
  cases b with
  | true =>
    have z3 := z1 rfl
    go_upto_region 4 with (first
      | (go_at_call 122; go_must (refine (un HC68).mono ?_; rintro e w1 ⟨rfl, hw1⟩; obtain rfl : V = w1 := hw1.symm))
      | (go_at_call_of 123 (Value.string ds); go_must (refine (un HR1).mono ?_; rintro e w1 ⟨rfl, hw1⟩; obtain rfl : V = w1 := hw1.symm))
      | (go_at_call 123; go_must (refine (un HR2).mono ?_; rintro e w1 ⟨rfl, hw1⟩; obtain rfl : V = w1 := hw1.symm)))
    have HC : Hid (∀ U, Below V.heap.size V U → U.cell? ⟨w.heap.size, 1, none⟩ = some (.string den) ∧ w.heap.size < U.heap.size ∧ w.heap.size + 1 < U.heap.size) := fun U hb => by
      have s := (un HS).later hb
      exact ⟨s.a.c1, s.a.lt, s.r.lt⟩
    have zv := (un HC V (Below.refl _ _)).2
    clear t0
    go_region_held3 (fun w' => w'.cell? ⟨w.heap.size, 1, none⟩ = some (.string den)) (first | assumption | (simp [go_sem, *]; done) | (rw [World.cell?_setCell_other _ _ _ _ (by simp; omega), World.cell?_setCell_other _ _ _ _ (by simp; omega), World.cell?_setCell_other _ _ _ _ (by simp; omega)]; assumption)) ((first
      | (go_at_call_of 124 (Value.string ds); go_must (refine (un HB1 _).mono ?_; rintro e wa ⟨va, rfl, hva, hba⟩; obtain ⟨aa, la, ca, rfl⟩ := hva.shape; have HVA := hide hva; have HCA : Hid (Below V.heap.size V wa) := (by first | exact ((Below.refl V.heap.size V).drew).trans hba | exact (((Below.refl V.heap.size V).drew).alloc (by simp) _).trans (hba.mono (by simp))); (first | (have HN : Hid (FBox wa V.heap.size (.bool false) (.slice none 0 0) (.slice none 0 0)) := (FBox.new V.drew _ _ _).later hba; have nc0 := (un HN).c0; have nc1 := (un HN).c1; have nc2 := (un HN).c2; have nf0 := (un HN).f0; have nf1 := (un HN).f1; have nf2 := (un HN).f2) | skip); clear hva hba t1; obtain ⟨t1, za⟩ := un HC wa (un HCA)))
      | (go_at_call 124; go_must (refine (un HB2 _).mono ?_; rintro e wb ⟨vb, rfl, hvb, hbb⟩; obtain ⟨ab, lb, cb, rfl⟩ := hvb.shape; have HVB := hide hvb; have Htrue : Hid (Below wa.heap.size wa wb) := (by first | exact hbb | exact ((Below.refl _ _).alloc (Nat.le_refl _) _).trans (hbb.mono (by simp))); have HVA' := hide ((un HVA).later (un Htrue)); have HCB := hide ((un HCA).trans ((un Htrue).mono (un HCA).size)); (first | (have HN2 := hide ((un HN).later hbb); clear HN; have HN := HN2; clear HN2; clear nc0 nc1 nc2 nf0 nf1 nf2; have nc0 := (un HN).c0; have nc1 := (un HN).c1; have nc2 := (un HN).c2; have nf0 := (un HN).f0; have nf1 := (un HN).f1; have nf2 := (un HN).f2) | (have HN := hide ((FBox.new _ _ _ _).later hbb); have nc0 := (un HN).c0; have nc1 := (un HN).c1; have nc2 := (un HN).c2; have nf0 := (un HN).f0; have nf1 := (un HN).f1; have nf2 := (un HN).f2) | skip); clear hvb hbb t1; obtain ⟨t1, zb⟩ := un HC wb (un HCB)))))
    all_goals
      first
      | (obtain ⟨V4, hV4⟩ : ∃ V4, V4 = wb.alloc (.cells #[.bool true, .slice aa la ca, .slice ab lb cb] 118) := ⟨_, rfl⟩
         rw [← hV4]
         have hb : Below wb.heap.size wb V4 := by rw [hV4]; exact (Below.refl _ _).alloc (Nat.le_refl _) _
         have HS4 : Hid (RS w V4 (.string num) (.string den)) := ((un HS).later (un HCB)).later hb
         have HF4 : Hid (FBox V4 wb.heap.size (.bool true) (.slice aa la ca) (.slice ab lb cb)) := by rw [hV4]; exact FBox.new _ _ _ _
         have HN4 := hide ((un HVA').later hb)
         have HD4 := hide ((un HVB).later hb)
         have hgr : w.heap.size + 1 < wb.heap.size := zb.2
         clear hV4 hb zv za zb t1 HVA HVA' HVB HCA HCB Htrue HS HC
         generalize wb.heap.size = g6 at *)
      | (obtain ⟨V4, hV4⟩ : ∃ V4, V4 = ((wb.setCell ⟨V.heap.size, 0, none⟩ (.bool true)).setCell ⟨V.heap.size, 1, none⟩ (.slice aa la ca)).setCell ⟨V.heap.size, 2, none⟩ (.slice ab lb cb) := ⟨_, rfl⟩
         rw [← hV4]
         have hgr : w.heap.size + 1 < V.heap.size := zv.2
         have HF4 : Hid (FBox V4 V.heap.size (.bool true) (.slice aa la ca) (.slice ab lb cb)) := by rw [hV4]; exact (un HN).store _ _ _
         have HN4 : Hid (IsBig V4 (.agg #[.slice aa la ca]) n) := by rw [hV4]; exact (un HN).big _ _ _ (un HVA')
         have HD4 : Hid (IsBig V4 (.agg #[.slice ab lb cb]) d) := by rw [hV4]; exact (un HN).big _ _ _ (un HVB)
         have HS4 : Hid (RS w V4 (.string num) (.string den)) := by
           rw [hV4]
           have s := (un HS).later (un HCB)
           exact ⟨((s.a.otherAt (by omega) _).otherAt (by omega) _).otherAt (by omega) _, ((s.r.otherAt (by omega) _).otherAt (by omega) _).otherAt (by omega) _, below_store3 s.below (by omega) _ _ _⟩
         clear hV4 zv za zb t1 HVA HVA' HVB HCA HCB Htrue HS HC HN nc0 nc1 nc2 nf0 nf1 nf2
         generalize V.heap.size = g6 at *)
      | (obtain ⟨V4, hV4⟩ : ∃ V4, V4 = ((wb.setCell ⟨wa.heap.size, 0, none⟩ (.bool true)).setCell ⟨wa.heap.size, 1, none⟩ (.slice aa la ca)).setCell ⟨wa.heap.size, 2, none⟩ (.slice ab lb cb) := ⟨_, rfl⟩
         rw [← hV4]
         have hgr : w.heap.size + 1 < wa.heap.size := za.2
         have HF4 : Hid (FBox V4 wa.heap.size (.bool true) (.slice aa la ca) (.slice ab lb cb)) := by rw [hV4]; exact (un HN).store _ _ _
         have HN4 : Hid (IsBig V4 (.agg #[.slice aa la ca]) n) := by rw [hV4]; exact (un HN).big _ _ _ (un HVA')
         have HD4 : Hid (IsBig V4 (.agg #[.slice ab lb cb]) d) := by rw [hV4]; exact (un HN).big _ _ _ (un HVB)
         have HS4 : Hid (RS w V4 (.string num) (.string den)) := by
           rw [hV4]
           have s := (un HS).later (un HCB)
           exact ⟨((s.a.otherAt (by omega) _).otherAt (by omega) _).otherAt (by omega) _, ((s.r.otherAt (by omega) _).otherAt (by omega) _).otherAt (by omega) _, below_store3 s.below (by omega) _ _ _⟩
         clear hV4 zv za zb t1 HVA HVA' HVB HCA HCB Htrue HS HC HN nc0 nc1 nc2 nf0 nf1 nf2
         generalize wa.heap.size = g6 at *)
      have t0 := (un HF4).c0; have t1 := (un HF4).c1; have t2 := (un HF4).c2
      go_wp2_with (first
        | (go_at_call 125; go_must (refine (un HG _ _ _ (un HN4) (un HD4)).mono ?_; rintro e w5 ⟨ag, lg, cg, rfl, hv5, hb5⟩; have HG5 := hide hv5; have HB5 := hide hb5; clear hv5 hb5))
        | (go_at_call 126; go_must (refine (un H1 _ _ (un HG5)).mono ?_; rintro e w6 ⟨rfl, hb6⟩; have HB6 := hide ((un HB5).trans (hb6.mono (un HB5).size)); clear hb6 t0 t1 t2; have HS6 := hide ((un HS4).later (un HB6)); have HF6 := hide ((un HF4).later (un HB6)); have t0 := (un HF6).c0; have t1 := (un HF6).c1; have t2 := (un HF6).c2; have r0 := (un HS6).r.c0; have r1 := (un HS6).r.c1; have r2 := (un HS6).r.c2; have rf0 := (un HS6).r.f0; have rf1 := (un HS6).r.f1; have rf2 := (un HS6).r.f2)))
      have hS := (un HS6).r.store (.bool true) (.slice aa la ca) (.slice ab lb cb)
      have hb : Below w.heap.size w (store3 w6 (w.heap.size + 1) (.bool true) (.slice aa la ca) (.slice ab lb cb)) := below_store3 (un HS6).below (by omega) _ _ _
      have u0 := hS.c0; have u1 := hS.c1; have u2 := hS.c2
      exact bodyPost_ret (v := .tuple #[.agg #[.bool true, .slice aa la ca, .slice ab lb cb], .bool true]) (w := store3 w6 (w.heap.size + 1) (.bool true) (.slice aa la ca) (.slice ab lb cb)) (by simp [results, Tryz.results93, go_sem, u0, u1, u2]) rfl ⟨_, rfl, ⟨_, n, d, ⟨_, _, rfl, (un HS6).r.big _ _ _ ((un HN4).later (un HB6)), (un HS6).r.big _ _ _ ((un HD4).later (un HB6))⟩, un HLOW, rfl, (un HLT).1, (un HLT).2⟩, hb⟩
  | false =>
    clear z1
    go_upto_region 4 with (first
      | (go_at_call 122; go_must (refine (un HC68).mono ?_; rintro e w1 ⟨rfl, hw1⟩; obtain rfl : V = w1 := hw1.symm))
      | (go_at_call_of 123 (Value.string ds); go_must (refine (un HR1).mono ?_; rintro e w1 ⟨rfl, hw1⟩; obtain rfl : V = w1 := hw1.symm))
      | (go_at_call 123; go_must (refine (un HR2).mono ?_; rintro e w1 ⟨rfl, hw1⟩; obtain rfl : V = w1 := hw1.symm)))
    have HC : Hid (∀ U, Below V.heap.size V U → U.cell? ⟨w.heap.size, 1, none⟩ = some (.string den) ∧ w.heap.size < U.heap.size ∧ w.heap.size + 1 < U.heap.size) := fun U hb => by
      have s := (un HS).later hb
      exact ⟨s.a.c1, s.a.lt, s.r.lt⟩
    have zv := (un HC V (Below.refl _ _)).2
    clear t0
    go_region_held3 (fun w' => w'.cell? ⟨w.heap.size, 1, none⟩ = some (.string den)) (first | assumption | (simp [go_sem, *]; done) | (rw [World.cell?_setCell_other _ _ _ _ (by simp; omega), World.cell?_setCell_other _ _ _ _ (by simp; omega), World.cell?_setCell_other _ _ _ _ (by simp; omega)]; assumption)) ((first
      | (go_at_call_of 124 (Value.string ds); go_must (refine (un HB1 _).mono ?_; rintro e wa ⟨va, rfl, hva, hba⟩; obtain ⟨aa, la, ca, rfl⟩ := hva.shape; have HVA := hide hva; have HCA : Hid (Below V.heap.size V wa) := (by first | exact ((Below.refl V.heap.size V).drew).trans hba | exact (((Below.refl V.heap.size V).drew).alloc (by simp) _).trans (hba.mono (by simp))); (first | (have HN : Hid (FBox wa V.heap.size (.bool false) (.slice none 0 0) (.slice none 0 0)) := (FBox.new V.drew _ _ _).later hba; have nc0 := (un HN).c0; have nc1 := (un HN).c1; have nc2 := (un HN).c2; have nf0 := (un HN).f0; have nf1 := (un HN).f1; have nf2 := (un HN).f2) | skip); clear hva hba t1; obtain ⟨t1, za⟩ := un HC wa (un HCA)))
      | (go_at_call 124; go_must (refine (un HB2 _).mono ?_; rintro e wb ⟨vb, rfl, hvb, hbb⟩; obtain ⟨ab, lb, cb, rfl⟩ := hvb.shape; have HVB := hide hvb; have Hfalse : Hid (Below wa.heap.size wa wb) := (by first | exact hbb | exact ((Below.refl _ _).alloc (Nat.le_refl _) _).trans (hbb.mono (by simp))); have HVA' := hide ((un HVA).later (un Hfalse)); have HCB := hide ((un HCA).trans ((un Hfalse).mono (un HCA).size)); (first | (have HN2 := hide ((un HN).later hbb); clear HN; have HN := HN2; clear HN2; clear nc0 nc1 nc2 nf0 nf1 nf2; have nc0 := (un HN).c0; have nc1 := (un HN).c1; have nc2 := (un HN).c2; have nf0 := (un HN).f0; have nf1 := (un HN).f1; have nf2 := (un HN).f2) | (have HN := hide ((FBox.new _ _ _ _).later hbb); have nc0 := (un HN).c0; have nc1 := (un HN).c1; have nc2 := (un HN).c2; have nf0 := (un HN).f0; have nf1 := (un HN).f1; have nf2 := (un HN).f2) | skip); clear hvb hbb t1; obtain ⟨t1, zb⟩ := un HC wb (un HCB)))))
    all_goals
      first
      | (obtain ⟨V4, hV4⟩ : ∃ V4, V4 = wb.alloc (.cells #[.bool false, .slice aa la ca, .slice ab lb cb] 118) := ⟨_, rfl⟩
         rw [← hV4]
         have hb : Below wb.heap.size wb V4 := by rw [hV4]; exact (Below.refl _ _).alloc (Nat.le_refl _) _
         have HS4 : Hid (RS w V4 (.string num) (.string den)) := ((un HS).later (un HCB)).later hb
         have HF4 : Hid (FBox V4 wb.heap.size (.bool false) (.slice aa la ca) (.slice ab lb cb)) := by rw [hV4]; exact FBox.new _ _ _ _
         have HN4 := hide ((un HVA').later hb)
         have HD4 := hide ((un HVB).later hb)
         have hgr : w.heap.size + 1 < wb.heap.size := zb.2
         clear hV4 hb zv za zb t1 HVA HVA' HVB HCA HCB Hfalse HS HC
         generalize wb.heap.size = g6 at *)
      | (obtain ⟨V4, hV4⟩ : ∃ V4, V4 = ((wb.setCell ⟨V.heap.size, 0, none⟩ (.bool false)).setCell ⟨V.heap.size, 1, none⟩ (.slice aa la ca)).setCell ⟨V.heap.size, 2, none⟩ (.slice ab lb cb) := ⟨_, rfl⟩
         rw [← hV4]
         have hgr : w.heap.size + 1 < V.heap.size := zv.2
         have HF4 : Hid (FBox V4 V.heap.size (.bool false) (.slice aa la ca) (.slice ab lb cb)) := by rw [hV4]; exact (un HN).store _ _ _
         have HN4 : Hid (IsBig V4 (.agg #[.slice aa la ca]) n) := by rw [hV4]; exact (un HN).big _ _ _ (un HVA')
         have HD4 : Hid (IsBig V4 (.agg #[.slice ab lb cb]) d) := by rw [hV4]; exact (un HN).big _ _ _ (un HVB)
         have HS4 : Hid (RS w V4 (.string num) (.string den)) := by
           rw [hV4]
           have s := (un HS).later (un HCB)
           exact ⟨((s.a.otherAt (by omega) _).otherAt (by omega) _).otherAt (by omega) _, ((s.r.otherAt (by omega) _).otherAt (by omega) _).otherAt (by omega) _, below_store3 s.below (by omega) _ _ _⟩
         clear hV4 zv za zb t1 HVA HVA' HVB HCA HCB Hfalse HS HC HN nc0 nc1 nc2 nf0 nf1 nf2
         generalize V.heap.size = g6 at *)
      | (obtain ⟨V4, hV4⟩ : ∃ V4, V4 = ((wb.setCell ⟨wa.heap.size, 0, none⟩ (.bool false)).setCell ⟨wa.heap.size, 1, none⟩ (.slice aa la ca)).setCell ⟨wa.heap.size, 2, none⟩ (.slice ab lb cb) := ⟨_, rfl⟩
         rw [← hV4]
         have hgr : w.heap.size + 1 < wa.heap.size := za.2
         have HF4 : Hid (FBox V4 wa.heap.size (.bool false) (.slice aa la ca) (.slice ab lb cb)) := by rw [hV4]; exact (un HN).store _ _ _
         have HN4 : Hid (IsBig V4 (.agg #[.slice aa la ca]) n) := by rw [hV4]; exact (un HN).big _ _ _ (un HVA')
         have HD4 : Hid (IsBig V4 (.agg #[.slice ab lb cb]) d) := by rw [hV4]; exact (un HN).big _ _ _ (un HVB)
         have HS4 : Hid (RS w V4 (.string num) (.string den)) := by
           rw [hV4]
           have s := (un HS).later (un HCB)
           exact ⟨((s.a.otherAt (by omega) _).otherAt (by omega) _).otherAt (by omega) _, ((s.r.otherAt (by omega) _).otherAt (by omega) _).otherAt (by omega) _, below_store3 s.below (by omega) _ _ _⟩
         clear hV4 zv za zb t1 HVA HVA' HVB HCA HCB Hfalse HS HC HN nc0 nc1 nc2 nf0 nf1 nf2
         generalize wa.heap.size = g6 at *)
      have t0 := (un HF4).c0; have t1 := (un HF4).c1; have t2 := (un HF4).c2
      go_wp2_with (first
        | (go_at_call 125; go_must (refine (un HG _ _ _ (un HN4) (un HD4)).mono ?_; rintro e w5 ⟨ag, lg, cg, rfl, hv5, hb5⟩; have HG5 := hide hv5; have HB5 := hide hb5; clear hv5 hb5))
        | (go_at_call 126; go_must (refine (un H1 _ _ (un HG5)).mono ?_; rintro e w6 ⟨rfl, hb6⟩; have HB6 := hide ((un HB5).trans (hb6.mono (un HB5).size)); clear hb6 t0 t1 t2; have HS6 := hide ((un HS4).later (un HB6)); have HF6 := hide ((un HF4).later (un HB6)); have t0 := (un HF6).c0; have t1 := (un HF6).c1; have t2 := (un HF6).c2; have r0 := (un HS6).r.c0; have r1 := (un HS6).r.c1; have r2 := (un HS6).r.c2; have rf0 := (un HS6).r.f0; have rf1 := (un HS6).r.f1; have rf2 := (un HS6).r.f2)))
      have hS := (un HS6).r.store (.bool false) (.slice aa la ca) (.slice ab lb cb)
      have hb : Below w.heap.size w (store3 w6 (w.heap.size + 1) (.bool false) (.slice aa la ca) (.slice ab lb cb)) := below_store3 (un HS6).below (by omega) _ _ _
      have u0 := hS.c0; have u1 := hS.c1; have u2 := hS.c2
      exact bodyPost_ret (v := .tuple #[.agg #[.bool false, .slice aa la ca, .slice ab lb cb], .bool true]) (w := store3 w6 (w.heap.size + 1) (.bool false) (.slice aa la ca) (.slice ab lb cb)) (by simp [results, Tryz.results93, go_sem, u0, u1, u2]) rfl ⟨_, rfl, ⟨_, n, d, ⟨_, _, rfl, (un HS6).r.big _ _ _ ((un HN4).later (un HB6)), (un HS6).r.big _ _ _ ((un HD4).later (un HB6))⟩, un HLOW, rfl, (un HLT).1, (un HLT).2⟩, hb⟩
end Go.Proofs.YthcbhnggphdflaaGreatDoor

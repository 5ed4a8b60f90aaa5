/- (Big).first: the first digits. -/
import Derived.Test.YtijifpbpjinmhaaGreatDoorOne
import Derived.BigQuiet
import Derived.Deep.Cut
import Derived.WalkSmall
import Derived.Test.YtijifpbpjinmhaaGreatDoorMulMath
import Derived.Test.YtijifpbpjinmhaaGreatDoorGcdSmall
import Derived.Deep.RegionHeld3
import Derived.Laws.IdiomCopy
import Derived.OwnWalk
import Derived.WalkMore
import Derived.LoopN
set_option maxHeartbeats 2000000
set_option maxRecDepth 100000
namespace Go.Proofs.YtijifpbpjinmhaaGreatDoor
open Go.RowKit
/-- What the division and the greatest common divisor must answer. -/
def DivAns (k : Nat) : Prop := ∀ (W : World) (x y : Value) (m n : Nat), IsBig W x m → IsBig W y n → m < 1000000000 ^ k → 0 < n →
  Calls Tryz.prog 161 #[x, y] W fun e w' => ∃ a1 n1 c1 a2 n2 c2, e = .returned (.tuple #[.agg #[.slice a1 n1 c1], .agg #[.slice a2 n2 c2]]) ∧ IsBig w' (.agg #[.slice a1 n1 c1]) (m / n) ∧ IsBig w' (.agg #[.slice a2 n2 c2]) (m % n) ∧ Below W.heap.size W w'
def GcdAns (k : Nat) : Prop := ∀ (W : World) (x y : Value) (m n : Nat), IsBig W x m → IsBig W y n → m < 1000000000 ^ k → n < 1000000000 ^ k →
  Calls Tryz.prog 120 #[x, y] W fun e w' => ∃ a l c, e = .returned (.agg #[.slice a l c]) ∧ IsBig w' (.agg #[.slice a l c]) (Nat.gcd m n) ∧ Below W.heap.size W w'
/-- Two numbers in their boxes, and the boxes of the results. -/
structure LwSt (w W : World) (u v p q : Value) : Prop where
  b1 : Box W w.heap.size u
  b2 : Box W (w.heap.size + 1) v
  b3 : Box W (w.heap.size + 1 + 1) p
  b4 : Box W (w.heap.size + 1 + 1 + 1) q
  below : Below w.heap.size w W
theorem LwSt.later {w W V : World} {u v p q : Value} (s : LwSt w W u v p q) (hb : Below W.heap.size W V) : LwSt w V u v p q :=
  ⟨s.b1.later hb, s.b2.later hb, s.b3.later hb, s.b4.later hb, s.below.trans (hb.mono s.below.size)⟩
theorem LwSt.first (w : World) (u v p q : Value) : LwSt w ((((w.alloc (.cells #[u] 51)).alloc (.cells #[v] 51)).alloc (.cells #[p] 51)).alloc (.cells #[q] 51)) u v p q :=
  ⟨⟨by simp [go_sem], by simp [go_sem]⟩, ⟨by simp [go_sem], by simp [go_sem]⟩, ⟨by simp [go_sem], by simp [go_sem]⟩, ⟨by simp [go_sem], by simp [go_sem]⟩,
    ((((Below.refl _ _).alloc (Nat.le_refl _) _).alloc (by simp) _).alloc (by simp; omega) _).alloc (by simp; omega) _⟩
theorem LwSt.set3 {w W : World} {u v p q : Value} (s : LwSt w W u v p q) (x : Value) : LwSt w (W.setCell ⟨w.heap.size + 1 + 1, 0, none⟩ x) u v x q :=
  ⟨s.b1.other (by omega) x, s.b2.other (by omega) x, s.b3.set x, s.b4.other (by omega) x, s.below.setCell (by simp; omega) _⟩
theorem LwSt.set4 {w W : World} {u v p q : Value} (s : LwSt w W u v p q) (x : Value) : LwSt w (W.setCell ⟨w.heap.size + 1 + 1 + 1, 0, none⟩ x) u v p x :=
  ⟨s.b1.other (by omega) x, s.b2.other (by omega) x, s.b3.other (by omega) x, s.b4.set x, s.below.setCell (by simp; omega) _⟩
theorem LwSt.set1 {w W : World} {u v p q : Value} (s : LwSt w W u v p q) (x : Value) : LwSt w (W.setCell ⟨w.heap.size, 0, none⟩ x) x v p q :=
  ⟨s.b1.set x, s.b2.other (by omega) x, s.b3.other (by omega) x, s.b4.other (by omega) x, s.below.setCell (by simp) _⟩
theorem LwSt.set2 {w W : World} {u v p q : Value} (s : LwSt w W u v p q) (x : Value) : LwSt w (W.setCell ⟨w.heap.size + 1, 0, none⟩ x) u x p q :=
  ⟨s.b1.other (by omega) x, s.b2.set x, s.b3.other (by omega) x, s.b4.other (by omega) x, s.below.setCell (by simp) _⟩
theorem not_int (a : Option Addr) (l c : Nat) : ∀ k n, (Value.slice a l c) ≠ .int k n := fun _ _ e => by cases e
theorem lowest_any (x y : Value) (m n k : Nat) (w : World) (hx : IsBig w x m) (hy : IsBig w y n) (hm : m < 1000000000 ^ k) (hn : n < 1000000000 ^ k) (h0 : 0 < n) (hD : DivAns k) (hG : GcdAns k) :
    Calls Tryz.prog 135 #[x, y] w fun e w' => ∃ a1 l1 c1 a2 l2 c2, e = .returned (.tuple #[.agg #[.slice a1 l1 c1], .agg #[.slice a2 l2 c2]]) ∧ IsBig w' (.agg #[.slice a1 l1 c1]) (m / Nat.gcd m n) ∧ IsBig w' (.agg #[.slice a2 l2 c2]) (n / Nat.gcd m n) ∧ Below w.heap.size w w' := by
  have HX := hide hx
  have HY := hide hy
  obtain ⟨ap, np, cp, rfl⟩ := hx.shape
  obtain ⟨aq, nq, cq, rfl⟩ := hy.shape
  have H51x : Hid (∀ W, IsBig W (.agg #[.slice ap np cp]) m → Calls Tryz.prog 121 #[.agg #[.slice ap np cp]] W fun e w' => e = .returned (.bool (m == 1)) ∧ Below W.heap.size W w') := fun W h => isOne_any _ m W h
  have H51y : Hid (∀ W, IsBig W (.agg #[.slice aq nq cq]) n → Calls Tryz.prog 121 #[.agg #[.slice aq nq cq]] W fun e w' => e = .returned (.bool (n == 1)) ∧ Below W.heap.size W w') := fun W h => isOne_any _ n W h
  have HD := hide hD
  have HG := hide hG
  have HM := hide hm
  have HNN := hide hn
  have H0 := hide h0
  clear hx hy hm hn h0 hD hG
  have HS0 := hide (LwSt.first w (.slice ap np cp) (.slice aq nq cq) (.slice none 0 0) (.slice none 0 0))
  go_enter Tryz.func135, Tryz.ntmps135
  by_cases h1 : m = 1
  · have hg : m / Nat.gcd m n = m ∧ n / Nat.gcd m n = n := by rw [h1]; simp
    rw [hg.1, hg.2]
    rw [show (m == 1) = true by rw [h1]; rfl] at H51x
    clear hg h1
    go_upto_region 2 with (go_at_call_of 121 (Value.agg #[Value.slice ap np cp]); go_must (refine (unhide H51x _ ((unhide HX).later (unhide HS0).below)).mono ?_; rintro e w1 ⟨rfl, hb1⟩; have HS := hide ((unhide HS0).later hb1); have HX1 := hide (((unhide HX).later (unhide HS0).below).later hb1); have HY1 := hide (((unhide HY).later (unhide HS0).below).later hb1); have b1 := (unhide HS).b1.c; have b2 := (unhide HS).b2.c; clear hb1))
    clear HS0 b1 b2
    have b1 := (unhide HS).b1.c; have b2 := (unhide HS).b2.c; have b3 := (unhide HS).b3.c; have b4 := (unhide HS).b4.c
    have f3 := (unhide HS).b3.f; have f4 := (unhide HS).b4.f
    go_region
    obtain ⟨V, hV⟩ : ∃ V, V = (((w1.setCell ⟨w.heap.size + 1 + 1, 0, none⟩ (.slice ap np cp)).setCell ⟨w.heap.size + 1 + 1 + 1, 0, none⟩ (.slice aq nq cq)).drew) := ⟨_, rfl⟩
    have HE : Hid (LwSt w V (.slice ap np cp) (.slice aq nq cq) (.slice ap np cp) (.slice aq nq cq) ∧ IsBig V (.agg #[.slice ap np cp]) m ∧ IsBig V (.agg #[.slice aq nq cq]) n) := by
      rw [hV]
      refine ⟨(((unhide HS).set3 _).set4 _).later ((Below.refl _ _).drew), ?_, ?_⟩
      · exact (((unhide HX1).box _ (unhide HS).b3.c (not_int _ _ _)).box _ ((unhide HS).set3 _).b4.c (not_int _ _ _)).later ((Below.refl _ _).drew)
      · exact (((unhide HY1).box _ (unhide HS).b3.c (not_int _ _ _)).box _ ((unhide HS).set3 _).b4.c (not_int _ _ _)).later ((Below.refl _ _).drew)
    rw [← hV]
    clear hV b1 b2 b3 b4 f3 f4
    have d3 := (unhide HE).1.b3.c; have d4 := (unhide HE).1.b4.c
    go_wp2_with fail
    exact bodyPost_ret (v := .tuple #[.agg #[.slice ap np cp], .agg #[.slice aq nq cq]]) (by simp [results, Tryz.results135, go_sem, d3, d4]) rfl ⟨_, _, _, _, _, _, rfl, (unhide HE).2.1, (unhide HE).2.2, (unhide HE).1.below⟩
  · rw [show (m == 1) = false by rw [beq_eq_false_iff_ne]; exact h1] at H51x
    by_cases h2 : n = 1
    · have hg : m / Nat.gcd m n = m ∧ n / Nat.gcd m n = n := by rw [h2]; simp
      rw [hg.1, hg.2]
      rw [show (n == 1) = true by rw [h2]; rfl] at H51y
      clear hg h1 h2
      go_upto_region 2 with (first
        | (go_at_call_of 121 (Value.agg #[Value.slice ap np cp]); go_must (refine (unhide H51x _ ((unhide HX).later (unhide HS0).below)).mono ?_; rintro e w1 ⟨rfl, hb1⟩; have HS := hide ((unhide HS0).later hb1); have HX1 := hide (((unhide HX).later (unhide HS0).below).later hb1); have HY1 := hide (((unhide HY).later (unhide HS0).below).later hb1); have b1 := (unhide HS).b1.c; have b2 := (unhide HS).b2.c; clear hb1))
        | (go_at_call_of 121 (Value.agg #[Value.slice aq nq cq]); go_must (refine (unhide H51y w1 (unhide HY1)).mono ?_; rintro e w2 ⟨rfl, hb2⟩; have HS2 := hide ((unhide HS).later hb2); have HX2 := hide ((unhide HX1).later hb2); have HY2 := hide ((unhide HY1).later hb2); clear b1 b2 hb2; have b1 := (unhide HS2).b1.c; have b2 := (unhide HS2).b2.c)))
      clear HS0 b1 b2
      have b1 := (unhide HS2).b1.c; have b2 := (unhide HS2).b2.c; have b3 := (unhide HS2).b3.c; have b4 := (unhide HS2).b4.c
      have f3 := (unhide HS2).b3.f; have f4 := (unhide HS2).b4.f
      go_region
      obtain ⟨V, hV⟩ : ∃ V, V = (((w2.setCell ⟨w.heap.size + 1 + 1, 0, none⟩ (.slice ap np cp)).setCell ⟨w.heap.size + 1 + 1 + 1, 0, none⟩ (.slice aq nq cq)).drew) := ⟨_, rfl⟩
      have HE : Hid (LwSt w V (.slice ap np cp) (.slice aq nq cq) (.slice ap np cp) (.slice aq nq cq) ∧ IsBig V (.agg #[.slice ap np cp]) m ∧ IsBig V (.agg #[.slice aq nq cq]) n) := by
        rw [hV]
        refine ⟨(((unhide HS2).set3 _).set4 _).later ((Below.refl _ _).drew), ?_, ?_⟩
        · exact (((unhide HX2).box _ (unhide HS2).b3.c (not_int _ _ _)).box _ ((unhide HS2).set3 _).b4.c (not_int _ _ _)).later ((Below.refl _ _).drew)
        · exact (((unhide HY2).box _ (unhide HS2).b3.c (not_int _ _ _)).box _ ((unhide HS2).set3 _).b4.c (not_int _ _ _)).later ((Below.refl _ _).drew)
      rw [← hV]
      clear hV b1 b2 b3 b4 f3 f4
      have d3 := (unhide HE).1.b3.c; have d4 := (unhide HE).1.b4.c
      go_wp2_with fail
      exact bodyPost_ret (v := .tuple #[.agg #[.slice ap np cp], .agg #[.slice aq nq cq]]) (by simp [results, Tryz.results135, go_sem, d3, d4]) rfl ⟨_, _, _, _, _, _, rfl, (unhide HE).2.1, (unhide HE).2.2, (unhide HE).1.below⟩
    · rw [show (n == 1) = false by rw [beq_eq_false_iff_ne]; exact h2] at H51y
      clear h1 h2
      go_upto_region 4 with (first
        | (go_at_call_of 121 (Value.agg #[Value.slice ap np cp]); go_must (refine (unhide H51x _ ((unhide HX).later (unhide HS0).below)).mono ?_; rintro e w1 ⟨rfl, hb1⟩; have HS := hide ((unhide HS0).later hb1); have HX1 := hide (((unhide HX).later (unhide HS0).below).later hb1); have HY1 := hide (((unhide HY).later (unhide HS0).below).later hb1); have b1 := (unhide HS).b1.c; have b2 := (unhide HS).b2.c; clear hb1))
        | (go_at_call_of 121 (Value.agg #[Value.slice aq nq cq]); go_must (refine (unhide H51y w1 (unhide HY1)).mono ?_; rintro e w2 ⟨rfl, hb2⟩; have HS2 := hide ((unhide HS).later hb2); have HX2 := hide ((unhide HX1).later hb2); have HY2 := hide ((unhide HY1).later hb2); clear b1 b2 hb2; have b1 := (unhide HS2).b1.c; have b2 := (unhide HS2).b2.c))
        | (go_at_call 120; go_must (refine (unhide HG w2 _ _ m n (unhide HX2) (unhide HY2) (unhide HM) (unhide HNN)).mono ?_; rintro e w3 ⟨ag, lg, cg, rfl, hg3, hb3⟩; have HS3 := hide ((unhide HS2).later hb3); have HX3 := hide ((unhide HX2).later hb3); have HY3 := hide ((unhide HY2).later hb3); have HG3 := hide hg3; clear b1 b2 hg3 hb3)))
      clear HS0
      obtain ⟨V, hV⟩ : ∃ V, V = w3.alloc (.cells #[.slice ag lg cg] 51) := ⟨_, rfl⟩
      have hbV : Below w3.heap.size w3 V := by rw [hV]; exact (Below.refl _ _).alloc (Nat.le_refl _) _
      have HS4 := hide ((unhide HS3).later hbV); have HX4 := hide ((unhide HX3).later hbV); have HY4 := hide ((unhide HY3).later hbV); have HG4 := hide ((unhide HG3).later hbV)
      have HB4 : Hid (Box V w3.heap.size (.slice ag lg cg)) := by rw [hV]; exact ⟨by simp [go_sem], by simp [go_sem]⟩
      have hlt : w.heap.size + 1 + 1 + 1 < w3.heap.size := (unhide HS3).b4.lt
      rw [← hV]
      clear hV hbV HS3 HX3 HY3 HG3 HS2 HX2 HY2 HS HX1 HY1
      generalize hgb : w3.heap.size = gb at *
      clear hgb
      have H51g : Hid (∀ W, IsBig W (.agg #[.slice ag lg cg]) (Nat.gcd m n) → Calls Tryz.prog 121 #[.agg #[.slice ag lg cg]] W fun e w' => e = .returned (.bool (Nat.gcd m n == 1)) ∧ Below W.heap.size W w') := fun W h => isOne_any _ _ W h
      have q6 := (unhide HB4).c
      by_cases h3 : Nat.gcd m n = 1
      · have HGE : Hid (m / Nat.gcd m n = m ∧ n / Nat.gcd m n = n) := ⟨by rw [h3]; simp, by rw [h3]; simp⟩
        rw [show (Nat.gcd m n == 1) = true by rw [h3]; rfl] at H51g
        clear h3
        go_upto_region 5 with (go_at_call 121; go_must (refine (unhide H51g V (unhide HG4)).mono ?_; rintro e w4 ⟨rfl, hb4⟩; have HS5 := hide ((unhide HS4).later hb4); have HX5 := hide ((unhide HX4).later hb4); have HY5 := hide ((unhide HY4).later hb4); clear hb4 q6))
        clear HS4 HX4 HY4 HG4 HB4
        have b1 := (unhide HS5).b1.c; have b2 := (unhide HS5).b2.c; have b3 := (unhide HS5).b3.c; have b4 := (unhide HS5).b4.c
        have f3 := (unhide HS5).b3.f; have f4 := (unhide HS5).b4.f
        go_region
        obtain ⟨V, hV⟩ : ∃ V, V = (((w4.setCell ⟨w.heap.size + 1 + 1, 0, none⟩ (.slice ap np cp)).setCell ⟨w.heap.size + 1 + 1 + 1, 0, none⟩ (.slice aq nq cq)).drew) := ⟨_, rfl⟩
        have HE : Hid (LwSt w V (.slice ap np cp) (.slice aq nq cq) (.slice ap np cp) (.slice aq nq cq) ∧ IsBig V (.agg #[.slice ap np cp]) m ∧ IsBig V (.agg #[.slice aq nq cq]) n) := by
          rw [hV]
          refine ⟨(((unhide HS5).set3 _).set4 _).later ((Below.refl _ _).drew), ?_, ?_⟩
          · exact (((unhide HX5).box _ (unhide HS5).b3.c (not_int _ _ _)).box _ ((unhide HS5).set3 _).b4.c (not_int _ _ _)).later ((Below.refl _ _).drew)
          · exact (((unhide HY5).box _ (unhide HS5).b3.c (not_int _ _ _)).box _ ((unhide HS5).set3 _).b4.c (not_int _ _ _)).later ((Below.refl _ _).drew)
        rw [← hV]
        clear hV b1 b2 b3 b4 f3 f4
        have d3 := (unhide HE).1.b3.c; have d4 := (unhide HE).1.b4.c
        go_wp2_with fail
        exact bodyPost_ret (v := .tuple #[.agg #[.slice ap np cp], .agg #[.slice aq nq cq]]) (by simp [results, Tryz.results135, go_sem, d3, d4]) rfl ⟨_, _, _, _, _, _, rfl, (by rw [(unhide HGE).1]; exact (unhide HE).2.1), (by rw [(unhide HGE).2]; exact (unhide HE).2.2), (unhide HE).1.below⟩
      · have HGP : Hid (0 < Nat.gcd m n) := Nat.gcd_pos_of_pos_right _ (unhide H0)
        rw [show (Nat.gcd m n == 1) = false by rw [beq_eq_false_iff_ne]; exact h3] at H51g
        clear h3
        go_upto_region 6 with (go_at_call 121; go_must (refine (unhide H51g V (unhide HG4)).mono ?_; rintro e w4 ⟨rfl, hb4⟩; have HS5 := hide ((unhide HS4).later hb4); have HX5 := hide ((unhide HX4).later hb4); have HY5 := hide ((unhide HY4).later hb4); have HG5 := hide ((unhide HG4).later hb4); have HB5 := hide ((unhide HB4).later hb4); clear hb4 q6))
        clear HS4 HX4 HY4 HG4 HB4
        have b1 := (unhide HS5).b1.c; have b2 := (unhide HS5).b2.c; have q6 := (unhide HB5).c
        go_upto_region 7 with (go_at_call 161; go_must (refine (unhide HD w4 _ _ m (Nat.gcd m n) (unhide HX5) (unhide HG5) (unhide HM) (unhide HGP)).mono ?_; rintro e w5 ⟨a1, l1, c1, a2, l2, c2, rfl, hq, hr, hb5⟩; have HS6 := hide ((unhide HS5).later hb5); have HY6 := hide ((unhide HY5).later hb5); have HG6 := hide ((unhide HG5).later hb5); have HB6 := hide ((unhide HB5).later hb5); have HQ6 := hide hq; clear hb5 hq hr b1 b2 q6; have b1 := (unhide HS6).b1.c; have f1 := (unhide HS6).b1.f))
        obtain ⟨V6, hV6⟩ : ∃ V6, V6 = w5.setCell ⟨w.heap.size, 0, none⟩ (.slice a1 l1 c1) := ⟨_, rfl⟩
        have HS7 : Hid (LwSt w V6 (.slice a1 l1 c1) (.slice aq nq cq) (.slice none 0 0) (.slice none 0 0)) := by rw [hV6]; exact (unhide HS6).set1 _
        have HY7 : Hid (IsBig V6 (.agg #[.slice aq nq cq]) n) := by rw [hV6]; exact (unhide HY6).box _ b1 (not_int _ _ _)
        have HG7 : Hid (IsBig V6 (.agg #[.slice ag lg cg]) (Nat.gcd m n)) := by rw [hV6]; exact (unhide HG6).box _ b1 (not_int _ _ _)
        have HQ7 : Hid (IsBig V6 (.agg #[.slice a1 l1 c1]) (m / Nat.gcd m n)) := by rw [hV6]; exact (unhide HQ6).box _ b1 (not_int _ _ _)
        have HB7 : Hid (Box V6 gb (.slice ag lg cg)) := by rw [hV6]; exact (unhide HB6).other (by omega) _
        rw [← hV6]
        clear hV6 HS6 HY6 HG6 HQ6 HB6 HS5 HX5 HY5 HG5 HB5 b1 f1
        have b2 := (unhide HS7).b2.c; have q6 := (unhide HB7).c
        go_upto_region 8 with (go_at_call 161; go_must (refine (unhide HD V6 _ _ n (Nat.gcd m n) (unhide HY7) (unhide HG7) (unhide HNN) (unhide HGP)).mono ?_; rintro e w7 ⟨a3, l3, c3, a4, l4, c4, rfl, hq, hr, hb7⟩; have HS8 := hide ((unhide HS7).later hb7); have HQ8 := hide ((unhide HQ7).later hb7); have HR8 := hide hq; clear hb7 hq hr b2 q6; have b2 := (unhide HS8).b2.c; have f2 := (unhide HS8).b2.f))
        obtain ⟨V8, hV8⟩ : ∃ V8, V8 = w7.setCell ⟨w.heap.size + 1, 0, none⟩ (.slice a3 l3 c3) := ⟨_, rfl⟩
        have HS9 : Hid (LwSt w V8 (.slice a1 l1 c1) (.slice a3 l3 c3) (.slice none 0 0) (.slice none 0 0)) := by rw [hV8]; exact (unhide HS8).set2 _
        have HQ9 : Hid (IsBig V8 (.agg #[.slice a1 l1 c1]) (m / Nat.gcd m n)) := by rw [hV8]; exact (unhide HQ8).box _ b2 (not_int _ _ _)
        have HR9 : Hid (IsBig V8 (.agg #[.slice a3 l3 c3]) (n / Nat.gcd m n)) := by rw [hV8]; exact (unhide HR8).box _ b2 (not_int _ _ _)
        rw [← hV8]
        clear hV8 HS8 HQ8 HR8 HS7 HY7 HG7 HQ7 HB7 b2 f2
        have b1 := (unhide HS9).b1.c; have b2 := (unhide HS9).b2.c; have b3 := (unhide HS9).b3.c; have b4 := (unhide HS9).b4.c
        have f3 := (unhide HS9).b3.f; have f4 := (unhide HS9).b4.f
        go_region
        obtain ⟨V, hV⟩ : ∃ V, V = (((V8.setCell ⟨w.heap.size + 1 + 1, 0, none⟩ (.slice a1 l1 c1)).setCell ⟨w.heap.size + 1 + 1 + 1, 0, none⟩ (.slice a3 l3 c3)).drew) := ⟨_, rfl⟩
        have HE : Hid (LwSt w V (.slice a1 l1 c1) (.slice a3 l3 c3) (.slice a1 l1 c1) (.slice a3 l3 c3) ∧ IsBig V (.agg #[.slice a1 l1 c1]) (m / Nat.gcd m n) ∧ IsBig V (.agg #[.slice a3 l3 c3]) (n / Nat.gcd m n)) := by
          rw [hV]
          refine ⟨(((unhide HS9).set3 _).set4 _).later ((Below.refl _ _).drew), ?_, ?_⟩
          · exact (((unhide HQ9).box _ (unhide HS9).b3.c (not_int _ _ _)).box _ ((unhide HS9).set3 _).b4.c (not_int _ _ _)).later ((Below.refl _ _).drew)
          · exact (((unhide HR9).box _ (unhide HS9).b3.c (not_int _ _ _)).box _ ((unhide HS9).set3 _).b4.c (not_int _ _ _)).later ((Below.refl _ _).drew)
        rw [← hV]
        clear hV b1 b2 b3 b4 f3 f4
        have d3 := (unhide HE).1.b3.c; have d4 := (unhide HE).1.b4.c
        go_wp2_with fail
        exact bodyPost_ret (v := .tuple #[.agg #[.slice a1 l1 c1], .agg #[.slice a3 l3 c3]]) (by simp [results, Tryz.results135, go_sem, d3, d4]) rfl ⟨_, _, _, _, _, _, rfl, (unhide HE).2.1, (unhide HE).2.2, (unhide HE).1.below⟩
end Go.Proofs.YtijifpbpjinmhaaGreatDoor
namespace Cub
/-- In the one form: coprime, not over 0, no sign at 0. -/
structure Low (b : Bool) (n d : Nat) : Prop where
  pos : 0 < d
  cop : Nat.gcd n d = 1
  sign : b = true → n ≠ 0
/-- A size with its sign. -/
def sg (b : Bool) (n : Nat) : Int := if b then -(n : Int) else n
def valQ (b : Bool) (n d : Nat) : Rat := ((sg b n : Int) : Rat) / ((d : Nat) : Rat)
theorem sg_abs (b : Bool) (n : Nat) : (sg b n).natAbs = n := by cases b <;> simp [sg]
theorem sg_mulNat (b : Bool) (n m : Nat) : sg b n * (m : Int) = sg b (n * m) := by cases b <;> simp [sg, Int.neg_mul]
theorem sg_zero (b : Bool) : sg b 0 = 0 := by cases b <;> rfl
theorem dR {d : Nat} (h : 0 < d) : ((d : Nat) : Rat) ≠ 0 := by
  have : d ≠ 0 := by omega
  exact_mod_cast this
theorem div_eq_iff {a b c d : Rat} (hb : b ≠ 0) (hd : d ≠ 0) : a / b = c / d ↔ a * d = c * b := by
  constructor
  · intro h; grind
  · intro h; grind
theorem valQ_eq {b b' : Bool} {n d n' d' : Nat} (hd : 0 < d) (hd' : 0 < d') : valQ b n d = valQ b' n' d' ↔ sg b n * (d' : Int) = sg b' n' * (d : Int) := by
  unfold valQ
  rw [div_eq_iff (dR hd) (dR hd')]
  constructor
  · intro h; exact_mod_cast h
  · intro h; exact_mod_cast h
theorem low_unique {b b' : Bool} {n d n' d' : Nat} (h : Low b n d) (h' : Low b' n' d') (e : valQ b n d = valQ b' n' d') : b = b' ∧ n = n' ∧ d = d' := by
  have e1 := (valQ_eq h.pos h'.pos).1 e
  have e2 : n * d' = n' * d := by
    have := congrArg Int.natAbs e1
    rw [Int.natAbs_mul, Int.natAbs_mul, sg_abs, sg_abs] at this
    simpa using this
  have d1 : d ∣ d' := by
    have : d ∣ n * d' := ⟨n', by rw [e2, Nat.mul_comm]⟩
    exact (Nat.Coprime.dvd_of_dvd_mul_left (Nat.Coprime.symm h.cop) this)
  have d2 : d' ∣ d := by
    have : d' ∣ n' * d := ⟨n, by rw [← e2, Nat.mul_comm]⟩
    exact (Nat.Coprime.dvd_of_dvd_mul_left (Nat.Coprime.symm h'.cop) this)
  have ed : d = d' := Nat.dvd_antisymm d1 d2
  subst ed
  have en : n = n' := Nat.eq_of_mul_eq_mul_right h.pos e2
  subst en
  refine ⟨?_, rfl, rfl⟩
  have e3 : sg b n = sg b' n := Int.eq_of_mul_eq_mul_right (by have := h.pos; omega) e1
  by_cases hn : n = 0
  · have hb : b = false := by cases b with | false => rfl | true => exact absurd hn (h.sign rfl)
    have hb' : b' = false := by cases b' with | false => rfl | true => exact absurd hn (h'.sign rfl)
    rw [hb, hb']
  · cases b <;> cases b' <;> first | rfl | (exfalso; simp [sg] at e3; omega)
/-- Both divided by what they share. -/
theorem lowest_cop {n d : Nat} (hd : 0 < d) : Nat.gcd (n / Nat.gcd n d) (d / Nat.gcd n d) = 1 ∧ 0 < d / Nat.gcd n d ∧ n / Nat.gcd n d * d = n * (d / Nat.gcd n d) := by
  have hg : 0 < Nat.gcd n d := Nat.gcd_pos_of_pos_right _ hd
  obtain ⟨a, ha⟩ := Nat.gcd_dvd_left n d
  obtain ⟨c, hc⟩ := Nat.gcd_dvd_right n d
  have h1 : n / Nat.gcd n d = a := by rw [Nat.div_eq_of_eq_mul_right hg ha]
  have h2 : d / Nat.gcd n d = c := by rw [Nat.div_eq_of_eq_mul_right hg hc]
  refine ⟨Nat.coprime_div_gcd_div_gcd hg, ?_, ?_⟩
  · rw [h2]
    rcases Nat.eq_zero_or_pos c with h | h
    · rw [h] at hc; omega
    · exact h
  · rw [h1, h2]
    generalize Nat.gcd n d = g at *
    rw [ha, hc]
    grind
/-- rat.Ratio. -/
theorem ratio_low {b : Bool} {n d : Nat} (hd : 0 < d) : Low (b && decide (n / Nat.gcd n d ≠ 0)) (n / Nat.gcd n d) (d / Nat.gcd n d) ∧ valQ (b && decide (n / Nat.gcd n d ≠ 0)) (n / Nat.gcd n d) (d / Nat.gcd n d) = valQ b n d := by
  obtain ⟨h1, h2, h3⟩ := lowest_cop (n := n) hd
  refine ⟨⟨h2, h1, fun h => by rw [Bool.and_eq_true, decide_eq_true_iff] at h; exact h.2⟩, ?_⟩
  rw [valQ_eq h2 hd]
  generalize n / Nat.gcd n d = a at *
  generalize d / Nat.gcd n d = c at *
  rw [sg_mulNat, sg_mulNat, h3]
  by_cases ha : a = 0
  · subst ha
    simp only [Nat.zero_mul] at h3
    rw [← h3, sg_zero, sg_zero]
  · simp [ha]
theorem num_below (x : Rat) : x.num < 0 ↔ x < 0 := by
  have h := Rat.num_nonneg (q := x)
  constructor
  · intro h1
    exact Rat.not_le.1 fun h2 => by have := h.2 h2; omega
  · intro h1
    have : ¬ 0 ≤ x.num := fun h2 => Rat.not_le.2 h1 (h.1 h2)
    omega
/-- The one form of a rational number. -/
theorem low_of (x : Rat) : Low (decide (x < 0)) x.num.natAbs x.den ∧ valQ (decide (x < 0)) x.num.natAbs x.den = x := by
  have hs : sg (decide (x < 0)) x.num.natAbs = x.num := by
    unfold sg
    by_cases h : x < 0
    · have : x.num < 0 := (num_below x).2 h
      simp only [h, decide_true, if_true]; omega
    · have : ¬ x.num < 0 := fun h2 => h ((num_below x).1 h2)
      simp only [h, decide_false, Bool.false_eq_true, if_false]; omega
  refine ⟨⟨x.den_pos, x.reduced, fun h => ?_⟩, ?_⟩
  · have := (num_below x).2 (of_decide_eq_true h)
    omega
  · unfold valQ
    rw [hs, ← Rat.mkRat_eq_div, Rat.mkRat_self]
/-- So one in the one form is that of its value. -/
theorem low_is {b : Bool} {n d : Nat} (h : Low b n d) : b = decide (valQ b n d < 0) ∧ n = (valQ b n d).num.natAbs ∧ d = (valQ b n d).den :=
  low_unique h (low_of _).1 (low_of _).2.symm
end Cub
namespace Go.Proofs.YtijifpbpjinmhaaGreatDoor
open Go.RowKit
/-- A Frac holds a sign and two numbers (its cells lie flat). -/
def IsFrac (w : World) (v : Value) (b : Bool) (n d : Nat) : Prop := ∃ s t, v = .agg #[.bool b, s, t] ∧ IsBig w (.agg #[s]) n ∧ IsBig w (.agg #[t]) d
theorem IsFrac.form {w : World} {v : Value} {b : Bool} {n d : Nat} (h : IsFrac w v b n d) : ∃ a1 l1 c1 a2 l2 c2, v = .agg #[.bool b, .slice a1 l1 c1, .slice a2 l2 c2] ∧ IsBig w (.agg #[.slice a1 l1 c1]) n ∧ IsBig w (.agg #[.slice a2 l2 c2]) d := by
  obtain ⟨s, t, rfl, h1, h2⟩ := h
  obtain ⟨a1, l1, c1, e1⟩ := h1.shape
  obtain ⟨a2, l2, c2, e2⟩ := h2.shape
  simp only [Value.agg.injEq, Array.mk.injEq, List.cons.injEq, and_true] at e1 e2
  subst e1 e2
  exact ⟨a1, l1, c1, a2, l2, c2, rfl, h1, h2⟩
/-- A Frac's box: three cells. -/
structure FBox (W : World) (g : Nat) (x y z : Value) : Prop where
  c0 : W.cell? ⟨g, 0, none⟩ = some x
  c1 : W.cell? ⟨g, 1, none⟩ = some y
  c2 : W.cell? ⟨g, 2, none⟩ = some z
  f0 : W.frozen? ⟨g, 0, none⟩ = false
  f1 : W.frozen? ⟨g, 1, none⟩ = false
  f2 : W.frozen? ⟨g, 2, none⟩ = false
theorem FBox.lt {W : World} {g : Nat} {x y z : Value} (h : FBox W g x y z) : g < W.heap.size := World.block_lt_of_cell? _ _ h.c0
theorem FBox.later {W V : World} {g : Nat} {x y z : Value} (h : FBox W g x y z) (hb : Below W.heap.size W V) : FBox V g x y z :=
  ⟨(hb.cell (p := ⟨g, 0, none⟩) h.lt).trans h.c0, (hb.cell (p := ⟨g, 1, none⟩) h.lt).trans h.c1, (hb.cell (p := ⟨g, 2, none⟩) h.lt).trans h.c2,
    (hb.frozen (p := ⟨g, 0, none⟩) h.lt).trans h.f0, (hb.frozen (p := ⟨g, 1, none⟩) h.lt).trans h.f1, (hb.frozen (p := ⟨g, 2, none⟩) h.lt).trans h.f2⟩
/-- A whole Frac stored into its box. -/
def store3 (W : World) (g : Nat) (x y z : Value) : World := ((W.setCell ⟨g, 0, none⟩ x).setCell ⟨g, 1, none⟩ y).setCell ⟨g, 2, none⟩ z
theorem FBox.store {W : World} {g : Nat} {x y z : Value} (h : FBox W g x y z) (x' y' z' : Value) : FBox (store3 W g x' y' z') g x' y' z' := by
  have a1 : (W.setCell ⟨g, 0, none⟩ x').cell? ⟨g, 1, none⟩ = some y := by rw [World.cell?_setCell_other _ _ _ _ (by simp)]; exact h.c1
  have a2 : ((W.setCell ⟨g, 0, none⟩ x').setCell ⟨g, 1, none⟩ y').cell? ⟨g, 2, none⟩ = some z := by rw [World.cell?_setCell_other _ _ _ _ (by simp), World.cell?_setCell_other _ _ _ _ (by simp)]; exact h.c2
  unfold store3
  refine ⟨?_, ?_, World.cell?_setCell_same _ _ _ a2, ?_, ?_, ?_⟩
  · rw [World.cell?_setCell_other _ _ _ _ (by simp), World.cell?_setCell_other _ _ _ _ (by simp)]; exact World.cell?_setCell_same _ _ _ h.c0
  · rw [World.cell?_setCell_other _ _ _ _ (by simp)]; exact World.cell?_setCell_same _ _ _ a1
  · rw [World.frozen?_setCell, World.frozen?_setCell, World.frozen?_setCell]; exact h.f0
  · rw [World.frozen?_setCell, World.frozen?_setCell, World.frozen?_setCell]; exact h.f1
  · rw [World.frozen?_setCell, World.frozen?_setCell, World.frozen?_setCell]; exact h.f2
theorem FBox.big {W : World} {g : Nat} {b : Bool} {a1 a2 : Option Addr} {l1 c1 l2 c2 : Nat} (h : FBox W g (.bool b) (.slice a1 l1 c1) (.slice a2 l2 c2)) (x' y' z' : Value) {v : Value} {n : Nat} (hv : IsBig W v n) : IsBig (store3 W g x' y' z') v n := by
  have e1 : (W.setCell ⟨g, 0, none⟩ x').cell? ⟨g, 1, none⟩ = some (.slice a1 l1 c1) := by rw [World.cell?_setCell_other _ _ _ _ (by simp)]; exact h.c1
  have e2 : ((W.setCell ⟨g, 0, none⟩ x').setCell ⟨g, 1, none⟩ y').cell? ⟨g, 2, none⟩ = some (.slice a2 l2 c2) := by rw [World.cell?_setCell_other _ _ _ _ (by simp), World.cell?_setCell_other _ _ _ _ (by simp)]; exact h.c2
  exact ((hv.box _ h.c0 (fun _ _ e => by cases e)).box _ e1 (not_int _ _ _)).box _ e2 (not_int _ _ _)
theorem below_store3 {B g : Nat} {w W : World} (h : Below B w W) (hg : B ≤ g) (x y z : Value) : Below B w (store3 W g x y z) :=
  ((h.setCell (p := ⟨g, 0, none⟩) hg x).setCell (p := ⟨g, 1, none⟩) hg y).setCell (p := ⟨g, 2, none⟩) hg z
theorem FBox.other {W : World} {g k : Nat} {x y z : Value} (h : FBox W g x y z) (hk : g ≠ k) (u : Value) : FBox (W.setCell ⟨k, 0, none⟩ u) g x y z :=
  ⟨by rw [World.cell?_setCell_other _ _ _ _ (by intro e; cases e; exact hk rfl)]; exact h.c0, by rw [World.cell?_setCell_other _ _ _ _ (by intro e; cases e)]; exact h.c1, by rw [World.cell?_setCell_other _ _ _ _ (by intro e; cases e)]; exact h.c2,
    by rw [World.frozen?_setCell]; exact h.f0, by rw [World.frozen?_setCell]; exact h.f1, by rw [World.frozen?_setCell]; exact h.f2⟩
/-- Two numbers in their boxes, and a Frac's box. -/
structure RSt (w W : World) (u v : Value) : Prop where
  b1 : Box W w.heap.size u
  b2 : Box W (w.heap.size + 1) v
  b3 : FBox W (w.heap.size + 1 + 1) (.bool false) (.slice none 0 0) (.slice none 0 0)
  below : Below w.heap.size w W
theorem RSt.later {w W V : World} {u v : Value} (s : RSt w W u v) (hb : Below W.heap.size W V) : RSt w V u v :=
  ⟨s.b1.later hb, s.b2.later hb, s.b3.later hb, s.below.trans (hb.mono s.below.size)⟩
theorem RSt.first (w : World) (u v : Value) : RSt w (((w.alloc (.cells #[u] 51)).alloc (.cells #[v] 51)).alloc (.cells #[.bool false, .slice none 0 0, .slice none 0 0] 98)) u v :=
  ⟨⟨by simp [go_sem], by simp [go_sem]⟩, ⟨by simp [go_sem], by simp [go_sem]⟩, ⟨by simp [go_sem], by simp [go_sem], by simp [go_sem], by simp [go_sem], by simp [go_sem], by simp [go_sem]⟩,
    (((Below.refl _ _).alloc (Nat.le_refl _) _).alloc (by simp) _).alloc (by simp; omega) _⟩
theorem RSt.both {w W : World} {u v : Value} (s : RSt w W u v) (x y : Value) : RSt w ((W.setCell ⟨w.heap.size, 0, none⟩ x).setCell ⟨w.heap.size + 1, 0, none⟩ y) x y :=
  ⟨(s.b1.set x).other (by omega) y, (s.b2.other (by omega) x).set y, (s.b3.other (by omega) x).other (by omega) y, (s.below.setCell (by simp) _).setCell (by simp) _⟩
theorem FBox.otherAt {W : World} {g k o : Nat} {x y z : Value} (h : FBox W g x y z) (hk : g ≠ k) (u : Value) : FBox (W.setCell ⟨k, o, none⟩ u) g x y z :=
  ⟨by rw [World.cell?_setCell_other _ _ _ _ (by intro e; exact hk (congrArg Addr.block e).symm)]; exact h.c0, by rw [World.cell?_setCell_other _ _ _ _ (by intro e; exact hk (congrArg Addr.block e).symm)]; exact h.c1, by rw [World.cell?_setCell_other _ _ _ _ (by intro e; exact hk (congrArg Addr.block e).symm)]; exact h.c2,
    by rw [World.frozen?_setCell]; exact h.f0, by rw [World.frozen?_setCell]; exact h.f1, by rw [World.frozen?_setCell]; exact h.f2⟩
theorem FBox.new (W : World) (x y z : Value) : FBox (W.alloc (.cells #[x, y, z] 98)) W.heap.size x y z :=
  ⟨by simp [go_sem], by simp [go_sem], by simp [go_sem], by simp [go_sem], by simp [go_sem], by simp [go_sem]⟩
theorem first_any (ap : Option Addr) (l : List Nat) (cap t up x2 x1 x0 h e f : Nat) (w : World) (hr : Row w (.slice ap l.length cap) l) (e2 : l.getD (t + 2) 0 = x2) (e1 : l.getD (t + 1) 0 = x1) (e0 : l.getD t 0 = x0) (ht : t ≤ 1000000)
    (b2 : x2 < 1000000000) (b1 : x1 < 1000000000) (b0 : x0 < 1000000000) (hh : h = x2 * 1000000000 + x1) (hu : 1 ≤ up) (hu2 : up ≤ 1000000000) (he : e = 1000000000 / up) (hf : f = h * up + x0 / e) (hb : h * up < 1000000000000000000) :
    Calls Tryz.prog 201 #[.agg #[.slice ap l.length cap], .int .i64 ((t + 2 : Nat) : Int), .int .u64 (up : Int)] w fun e w' => e = .returned (.int .u64 (f : Int)) ∧ Below w.heap.size w w' := by
  have HX2 : Hid (∀ W : World, Below w.heap.size w W → Calls Tryz.prog 224 #[.agg #[.slice ap l.length cap], .int .i64 ((t + 2 : Nat) : Int)] W fun e w' => e = .returned (.int .u64 (x2 : Int)) ∧ Below W.heap.size W w') := fun W hW => by
    have := limb_any ap l cap (t + 2) W (hr.later hW); rw [e2] at this; exact this
  have HX1 : Hid (∀ W : World, Below w.heap.size w W → Calls Tryz.prog 224 #[.agg #[.slice ap l.length cap], .int .i64 ((t : Int) + 2 - 1)] W fun e w' => e = .returned (.int .u64 (x1 : Int)) ∧ Below W.heap.size W w') := fun W hW => by
    have := limb_any ap l cap (t + 1) W (hr.later hW); rw [e1, show ((t + 1 : Nat) : Int) = (t : Int) + 2 - 1 by omega] at this; exact this
  have HX0 : Hid (∀ W : World, Below w.heap.size w W → Calls Tryz.prog 224 #[.agg #[.slice ap l.length cap], .int .i64 (t : Int)] W fun e w' => e = .returned (.int .u64 (x0 : Int)) ∧ Below W.heap.size W w') := fun W hW => by
    have := limb_any ap l cap t W (hr.later hW); rw [e0] at this; exact this
  generalize l.length = n at *
  clear e2 e1 e0 hr
  have HHI : Hid ((x2 : Int) * 1000000000 + (x1 : Int) = (h : Int)) := by show _ = _; omega
  have hB : h < 1000000000000000000 := by omega
  have hup0 : ¬ up = 0 := by omega
  have he1 : 1 ≤ e := by rw [he]; exact (Nat.le_div_iff_mul_le (by omega)).2 (by omega)
  have he2 : e ≤ 1000000000 := by rw [he]; exact Nat.div_le_self _ _
  have he0 : ¬ e = 0 := by omega
  have hE : (1000000000 : Int) / (up : Int) = (e : Int) := by rw [he]; exact (Int.natCast_ediv 1000000000 up).symm
  have hxe : x0 / e ≤ x0 := Nat.div_le_self _ _
  have HF : Hid (IntKind.u64.wrap ((h : Int) * (up : Int) + IntKind.u64.wrap ((x0 : Int) / (e : Int))) = (f : Int)) := by
    show _ = _
    rw [← Int.natCast_ediv, ← Int.natCast_mul, IntKind.wrap_u64, IntKind.wrap_u64]
    generalize x0 / e = q at *
    generalize h * up = g at *
    omega
  clear he hf
  go_enter Tryz.func201, Tryz.ntmps201
  go_upto_region 1 with fail
  obtain ⟨W, hW⟩ : ∃ W, W = w.alloc (.cells #[.slice ap n cap] 51) := ⟨_, rfl⟩
  have HW : Hid (Below w.heap.size w W) := by rw [hW]; exact (Below.refl _ _).alloc (Nat.le_refl _) _
  have hsz : W.heap.size = w.heap.size + 1 := by rw [hW]; simp
  have hc : ∀ x : Later W, x.world.cell? ⟨w.heap.size, 0, none⟩ = some (.slice ap n cap) := fun x => by
    rw [x.below.cell (p := ⟨w.heap.size, 0, none⟩) (by rw [hsz]; exact Nat.lt_succ_self _), hW]; simp [go_sem]
  rw [← hW]
  clear hW hh
  refine quiet_later (by kernel_rfl) (by kernel_rfl) ?_
  iterate 4 (go_big_quiet_step ((rename_i xx; refine (unhide HX2 _ ((unhide HW).trans (xx.below.mono (unhide HW).size))).mono ?_; rintro e w9 ⟨rfl, hb9⟩; have hz := xx.below.trans (hb9.mono xx.below.size); first | exact ⟨rfl, ⟨w9, hz⟩, rfl⟩ | exact ⟨rfl, hz⟩ | exact ⟨rfl, w9, hz, rfl⟩)))
  repeat (go_big_quiet_step ((rename_i xx; refine (unhide HX1 _ ((unhide HW).trans (xx.below.mono (unhide HW).size))).mono ?_; rintro e w9 ⟨rfl, hb9⟩; have hz := xx.below.trans (hb9.mono xx.below.size); first | exact ⟨rfl, ⟨w9, hz⟩, rfl⟩ | exact ⟨rfl, hz⟩ | exact ⟨rfl, w9, hz, rfl⟩)))
  refine wpQuiet_nil ?_
  intro _ hw'
  obtain ⟨xz, hw''⟩ := hw'
  subst hw''
  rw [unhide HHI]
  obtain ⟨W2, hW2⟩ : ∃ W2, W2 = xz.world := ⟨_, rfl⟩
  have HW2 : Hid (Below W.heap.size W W2) := by rw [hW2]; exact xz.below
  have hc2 : ∀ x : Later W2, x.world.cell? ⟨w.heap.size, 0, none⟩ = some (.slice ap n cap) := fun x =>
    hc ⟨x.world, (unhide HW2).trans (x.below.mono (unhide HW2).size)⟩
  rw [← hW2]
  clear hW2 hc
  go_upto_region 2 with fail
  refine quiet_later (by kernel_rfl) (by kernel_rfl) ?_
  repeat (go_big_quiet_step ((rename_i xx; refine (unhide HX0 _ ((unhide HW).trans (((unhide HW2).trans (xx.below.mono (unhide HW2).size)).mono (unhide HW).size))).mono ?_; rintro e w9 ⟨rfl, hb9⟩; have hz := xx.below.trans (hb9.mono xx.below.size); first | exact ⟨rfl, ⟨w9, hz⟩, rfl⟩ | exact ⟨rfl, hz⟩ | exact ⟨rfl, w9, hz, rfl⟩)))
  refine wpQuiet_nil ?_
  intro _ hw'
  obtain ⟨xy, hw''⟩ := hw'
  subst hw''
  rw [unhide HF]
  go_wp2_with fail
  go_ret
  exact ⟨rfl, (unhide HW).trans (((unhide HW2).trans (xy.below.mono (unhide HW2).size)).mono (unhide HW).size)⟩
end Go.Proofs.YtijifpbpjinmhaaGreatDoor

/- rat.addSigned: the sum of two numbers, each with its sign. -/
import Derived.Test.YtoinadnpdbaamaaGreatDoorLowest
import Derived.Test.YtoinadnpdbaamaaGreatDoorAdd
import Derived.Test.YtoinadnpdbaamaaGreatDoorSub
import Derived.Test.YtoinadnpdbaamaaGreatDoorCmp
import Derived.Test.YtoinadnpdbaamaaGreatDoorPlain
import Derived.Deep.RegionHeld3
import Derived.Test.YtoinadnpdbaamaaGreatDoorBigOf
namespace Go.Proofs.YtoinadnpdbaamaaGreatDoor
open Go.RowKit

/-- Two numbers in their boxes, and the box of the result. -/
structure A3St (w W : World) (u v p : Value) : Prop where
  b1 : Box W w.heap.size u
  b2 : Box W (w.heap.size + 1) v
  b3 : Box W (w.heap.size + 1 + 1) p
  below : Below w.heap.size w W
theorem A3St.later {w W V : World} {u v p : Value} (s : A3St w W u v p) (hb : Below W.heap.size W V) : A3St w V u v p :=
  ⟨s.b1.later hb, s.b2.later hb, s.b3.later hb, s.below.trans (hb.mono s.below.size)⟩
theorem A3St.first (w : World) (u v p : Value) : A3St w (((w.alloc (.cells #[u] 72)).alloc (.cells #[v] 72)).alloc (.cells #[p] 72)) u v p :=
  ⟨⟨by simp [go_sem], by simp [go_sem]⟩, ⟨by simp [go_sem], by simp [go_sem]⟩, ⟨by simp [go_sem], by simp [go_sem]⟩,
    (((Below.refl _ _).alloc (Nat.le_refl _) _).alloc (by simp) _).alloc (by simp; omega) _⟩
theorem A3St.set3 {w W : World} {u v p : Value} (s : A3St w W u v p) (x : Value) : A3St w (W.setCell ⟨w.heap.size + 1 + 1, 0, none⟩ x) u v x :=
  ⟨s.b1.other (by omega) x, s.b2.other (by omega) x, s.b3.set x, s.below.setCell (by simp; omega) _⟩

set_option maxRecDepth 100000 in
set_option maxHeartbeats 2000000 in
theorem addSigned_any (b c : Bool) (x y : Value) (m n k : Nat) (w : World) (hx : IsBig w x m) (hy : IsBig w y n) (hk : k ≤ 1000000) (hm : m < 1000000000 ^ k) (hn : n < 1000000000 ^ k) :
    Calls Tryz.prog 146 #[.bool b, x, .bool c, y] w fun e w' => ∃ a l d, e = .returned (.tuple #[.bool (Cub.addSg b m c n).1, .agg #[.slice a l d]]) ∧ IsBig w' (.agg #[.slice a l d]) (Cub.addSg b m c n).2 ∧ Below w.heap.size w w' := by
  have HX := hide hx
  have HY := hide hy
  obtain ⟨ap, np, cp, rfl⟩ := hx.shape
  obtain ⟨aq, nq, cq, rfl⟩ := hy.shape
  have HADD := hide (fun W (h1 : IsBig W (.agg #[.slice ap np cp]) m) (h2 : IsBig W (.agg #[.slice aq nq cq]) n) => add_any _ _ m n k W h1 h2 hk hm hn)
  have HSUB1 := hide (fun W (h1 : IsBig W (.agg #[.slice ap np cp]) m) (h2 : IsBig W (.agg #[.slice aq nq cq]) n) (h : n ≤ m) => sub_any _ _ m n k W h1 h2 hk hm h)
  have HSUB2 := hide (fun W (h1 : IsBig W (.agg #[.slice ap np cp]) m) (h2 : IsBig W (.agg #[.slice aq nq cq]) n) (h : m ≤ n) => sub_any _ _ n m k W h2 h1 hk hn h)
  have HCMP := hide (fun W (h1 : IsBig W (.agg #[.slice ap np cp]) m) (h2 : IsBig W (.agg #[.slice aq nq cq]) n) => cmp_any _ _ m n W h1 h2)
  have HS0 := hide (A3St.first w (.slice ap np cp) (.slice aq nq cq) (.slice none 0 0))
  have HX0 := hide ((unhide HX).later (unhide HS0).below)
  have HY0 := hide ((unhide HY).later (unhide HS0).below)
  clear hx hy hk hm hn HX HY
  by_cases hbc : b = c
  · have HV : Hid (Cub.addSg b m c n = (b, m + n)) := if_pos hbc
    have e : (b == c) = true := by rw [hbc]; simp
    rw [unhide HV]
    clear HV
    subst hbc
    go_enter Tryz.func146, Tryz.ntmps146
    go_wp2_with (go_at_call 140; go_must (refine (unhide HADD _ (unhide HX0) (unhide HY0)).mono ?_; rintro e w1 ⟨v1, rfl, hv1, hb1⟩; obtain ⟨a1, l1, c1, rfl⟩ := hv1.shape; have HS1 := hide ((unhide HS0).later hb1); have HV1 := hide hv1; clear hv1 hb1; have b3 := (unhide HS1).b3.c; have f3 := (unhide HS1).b3.f))
    refine bodyPost_ret (v := .tuple #[.bool b, .agg #[.slice a1 l1 c1]]) (by simp [results, Tryz.results146, go_sem, b3]) rfl ⟨_, _, _, rfl, ?_, ?_⟩
    · exact (unhide HV1).box _ b3 (not_int _ _ _)
    · exact ((unhide HS1).set3 _).below
  · have hbn : (b == c) = false := by simpa using hbc
    by_cases hlt : m < n
    · have HV : Hid (Cub.addSg b m c n = (c, n - m)) := by show _ = _; unfold Cub.addSg; rw [if_neg hbc, if_pos hlt]
      rw [unhide HV]
      have hcm : Cub.cmpN m n = -1 := if_pos hlt
      rw [hcm] at HCMP
      have HLE : Hid (m ≤ n) := by show m ≤ n; omega
      clear HV hlt hbc hcm
      go_enter Tryz.func146, Tryz.ntmps146
      go_wp2_with (first
        | (go_at_call 141; go_must (refine (unhide HCMP _ (unhide HX0) (unhide HY0)).mono ?_; rintro e w0 ⟨rfl, hb0⟩; have HS' := hide ((unhide HS0).later hb0); have HX' := hide ((unhide HX0).later hb0); have HY' := hide ((unhide HY0).later hb0); clear hb0; have b1 := (unhide HS').b1.c; have b2 := (unhide HS').b2.c))
        | (go_at_call 153; go_must (refine (unhide HSUB2 w0 (unhide HX') (unhide HY') (unhide HLE)).mono ?_; rintro e w1 ⟨v1, rfl, hv1, hb1⟩; obtain ⟨a1, l1, c1, rfl⟩ := hv1.shape; have HS1 := hide ((unhide HS').later hb1); have HV1 := hide hv1; clear hv1 hb1; have b3 := (unhide HS1).b3.c; have f3 := (unhide HS1).b3.f)))
      refine bodyPost_ret (v := .tuple #[.bool c, .agg #[.slice a1 l1 c1]]) (by simp [results, Tryz.results146, go_sem, b3]) rfl ⟨_, _, _, rfl, ?_, ?_⟩
      · exact (unhide HV1).box _ b3 (not_int _ _ _)
      · exact ((unhide HS1).set3 _).below
    · have HV : Hid (Cub.addSg b m c n = (b, m - n)) := by show _ = _; unfold Cub.addSg; rw [if_neg hbc, if_neg hlt]
      rw [unhide HV]
      have HLE : Hid (n ≤ m) := by show n ≤ m; omega
      obtain ⟨z, hz⟩ : ∃ z, z = Cub.cmpN m n := ⟨_, rfl⟩
      have hz0 : ¬ z < 0 := by rw [hz]; unfold Cub.cmpN; rw [if_neg hlt]; split <;> omega
      rw [← hz] at HCMP
      clear HV hlt hbc hz
      go_enter Tryz.func146, Tryz.ntmps146
      go_wp2_with (first
        | (go_at_call 141; go_must (refine (unhide HCMP _ (unhide HX0) (unhide HY0)).mono ?_; rintro e w0 ⟨rfl, hb0⟩; have HS' := hide ((unhide HS0).later hb0); have HX' := hide ((unhide HX0).later hb0); have HY' := hide ((unhide HY0).later hb0); clear hb0; have b1 := (unhide HS').b1.c; have b2 := (unhide HS').b2.c))
        | (go_at_call 153; go_must (refine (unhide HSUB1 w0 (unhide HX') (unhide HY') (unhide HLE)).mono ?_; rintro e w1 ⟨v1, rfl, hv1, hb1⟩; obtain ⟨a1, l1, c1, rfl⟩ := hv1.shape; have HS1 := hide ((unhide HS').later hb1); have HV1 := hide hv1; clear hv1 hb1; have b3 := (unhide HS1).b3.c; have f3 := (unhide HS1).b3.f)))
      refine bodyPost_ret (v := .tuple #[.bool b, .agg #[.slice a1 l1 c1]]) (by simp [results, Tryz.results146, go_sem, b3]) rfl ⟨_, _, _, rfl, ?_, ?_⟩
      · exact (unhide HV1).box _ b3 (not_int _ _ _)
      · exact ((unhide HS1).set3 _).below
end Go.Proofs.YtoinadnpdbaamaaGreatDoor

namespace Go.Proofs.YtoinadnpdbaamaaGreatDoor
open Go.RowKit

/-- A Frac holds a sign and two numbers (its cells lie flat). -/
def IsFrac (w : World) (v : Value) (b : Bool) (n d : Nat) : Prop := ∃ s t, v = .agg #[.bool b, s, t] ∧ IsBig w (.agg #[s]) n ∧ IsBig w (.agg #[t]) d
theorem IsFrac.later {w w' : World} {v : Value} {b : Bool} {n d : Nat} (h : IsFrac w v b n d) (hb : Below w.heap.size w w') : IsFrac w' v b n d := by
  obtain ⟨s, t, rfl, h1, h2⟩ := h
  exact ⟨s, t, rfl, h1.later hb, h2.later hb⟩
theorem IsFrac.form {w : World} {v : Value} {b : Bool} {n d : Nat} (h : IsFrac w v b n d) : ∃ a1 l1 c1 a2 l2 c2, v = .agg #[.bool b, .slice a1 l1 c1, .slice a2 l2 c2] ∧ IsBig w (.agg #[.slice a1 l1 c1]) n ∧ IsBig w (.agg #[.slice a2 l2 c2]) d := by
  obtain ⟨s, t, rfl, h1, h2⟩ := h
  obtain ⟨a1, l1, c1, e1⟩ := h1.shape
  obtain ⟨a2, l2, c2, e2⟩ := h2.shape
  simp only [Value.agg.injEq, Array.mk.injEq, List.cons.injEq, and_true] at e1 e2
  subst e1 e2
  exact ⟨a1, l1, c1, a2, l2, c2, rfl, h1, h2⟩
theorem inv_any (v : Value) (b : Bool) (n d : Nat) (w : World) (h : IsFrac w v b n d) :
    Calls Tryz.prog 101 #[v] w fun e w' => ∃ v', e = .returned v' ∧ IsFrac w' v' b d n ∧ Below w.heap.size w w' := by
  obtain ⟨a1, l1, c1, a2, l2, c2, rfl, h1, h2⟩ := h.form
  have H1 := hide h1
  have H2 := hide h2
  clear h h1 h2
  go_enter Tryz.func101, Tryz.ntmps101
  go_wp2
  have hb : Below w.heap.size w ((w.alloc (.cells #[.bool b, .slice a1 l1 c1, .slice a2 l2 c2] 74)).alloc (.cells #[.bool b, .slice a2 l2 c2, .slice a1 l1 c1] 74)) := ((Below.refl _ _).alloc (Nat.le_refl _) _).alloc (by simp) _
  exact bodyPost_ret (v := .agg #[.bool b, .slice a2 l2 c2, .slice a1 l1 c1]) (by simp [results, Tryz.results101, go_sem]) rfl ⟨_, rfl, ⟨_, _, rfl, (unhide H2).later hb, (unhide H1).later hb⟩, hb⟩
/-- Frac.Sign, as an answer. -/
def signI (b : Bool) (n : Nat) : Int := if b then -1 else if n = 0 then 0 else 1
theorem sign_any (v : Value) (b : Bool) (n d : Nat) (w : World) (h : IsFrac w v b n d) :
    Calls Tryz.prog 97 #[v] w fun e w' => e = .returned (.int .i64 (signI b n)) ∧ Below w.heap.size w w' := by
  obtain ⟨a1, l1, c1, a2, l2, c2, rfl, h1, h2⟩ := h.form
  have hb : Below w.heap.size w (w.alloc (.cells #[.bool b, .slice a1 l1 c1, .slice a2 l2 c2] 74)) := (Below.refl _ _).alloc (Nat.le_refl _) _
  have H37 := hide (isZero_any _ n _ (h1.later hb))
  have HB := hide hb
  clear h h1 h2 hb
  cases b with
  | true =>
    go_enter Tryz.func97, Tryz.ntmps97
    go_wp2
    go_ret
    exact ⟨rfl, unhide HB⟩
  | false =>
    by_cases hn : n = 0
    · subst hn
      go_enter Tryz.func97, Tryz.ntmps97
      go_wp2_with (go_at_call 88; go_must (refine (unhide H37).mono ?_; rintro e w1 ⟨rfl, hb1⟩; have HB1 := hide ((unhide HB).trans (hb1.mono (unhide HB).size)); clear hb1))
      go_ret
      exact ⟨rfl, unhide HB1⟩
    · have e : (n == 0) = false := by rw [beq_eq_false_iff_ne]; exact hn
      have HE : Hid (signI false n = 1) := by show _ = _; simp [signI, hn]
      rw [e] at H37
      rw [unhide HE]
      clear e hn HE
      go_enter Tryz.func97, Tryz.ntmps97
      go_wp2_with (go_at_call 88; go_must (refine (unhide H37).mono ?_; rintro e w1 ⟨rfl, hb1⟩; have HB1 := hide ((unhide HB).trans (hb1.mono (unhide HB).size)); clear hb1))
      go_ret
      exact ⟨rfl, unhide HB1⟩
end Go.Proofs.YtoinadnpdbaamaaGreatDoor

namespace Go.Proofs.YtoinadnpdbaamaaGreatDoor
open Go.RowKit

set_option maxRecDepth 100000 in
set_option maxHeartbeats 2000000 in
theorem neg_any (v : Value) (b : Bool) (n d : Nat) (w : World) (h : IsFrac w v b n d) :
    Calls Tryz.prog 100 #[v] w fun e w' => ∃ v', e = .returned v' ∧ IsFrac w' v' (!b && decide (n ≠ 0)) n d ∧ Below w.heap.size w w' := by
  obtain ⟨a1, l1, c1, a2, l2, c2, rfl, h1, h2⟩ := h.form
  have H1 := hide h1
  have H2 := hide h2
  clear h h1 h2
  have HB : Hid (Below w.heap.size w ((w.alloc (.cells #[.bool b, .slice a1 l1 c1, .slice a2 l2 c2] 74)).alloc (.cells #[.bool false, .slice none 0 0, .slice none 0 0] 74))) := ((Below.refl _ _).alloc (Nat.le_refl _) _).alloc (by simp) _
  have H37 := hide (fun W (hb : Below w.heap.size w W) => isZero_any _ n W ((unhide H1).later hb))
  go_enter Tryz.func100, Tryz.ntmps100
  go_upto_region 1 with fail
  obtain ⟨V, hV⟩ : ∃ V, V = ((w.alloc (.cells #[.bool b, .slice a1 l1 c1, .slice a2 l2 c2] 74)).alloc (.cells #[.bool false, .slice none 0 0, .slice none 0 0] 74)) := ⟨_, rfl⟩
  have p0 : V.cell? ⟨w.heap.size, 0, none⟩ = some (.bool b) := by rw [hV]; simp [go_sem]
  have p1 : V.cell? ⟨w.heap.size, 1, none⟩ = some (.slice a1 l1 c1) := by rw [hV]; simp [go_sem]
  have p2 : V.cell? ⟨w.heap.size, 2, none⟩ = some (.slice a2 l2 c2) := by rw [hV]; simp [go_sem]
  have q0 : V.cell? ⟨w.heap.size + 1, 0, none⟩ = some (.bool false) := by rw [hV]; simp [go_sem]
  have q1 : V.cell? ⟨w.heap.size + 1, 1, none⟩ = some (.slice none 0 0) := by rw [hV]; simp [go_sem]
  have q2 : V.cell? ⟨w.heap.size + 1, 2, none⟩ = some (.slice none 0 0) := by rw [hV]; simp [go_sem]
  have g0 : V.frozen? ⟨w.heap.size + 1, 0, none⟩ = false := by rw [hV]; simp [go_sem]
  have g1 : V.frozen? ⟨w.heap.size + 1, 1, none⟩ = false := by rw [hV]; simp [go_sem]
  have g2 : V.frozen? ⟨w.heap.size + 1, 2, none⟩ = false := by rw [hV]; simp [go_sem]
  rw [← hV] at HB ⊢
  clear hV
  cases b with
  | true =>
    go_region
    obtain ⟨U, hU⟩ : ∃ U, U = (((V.setCell ⟨w.heap.size + 1, 0, none⟩ (.bool false)).setCell ⟨w.heap.size + 1, 1, none⟩ (.slice a1 l1 c1)).setCell ⟨w.heap.size + 1, 2, none⟩ (.slice a2 l2 c2)).drew := ⟨_, rfl⟩
    have hbU : Below w.heap.size w U := by
      rw [hU]
      have h3 := (((unhide HB).setCell (p := ⟨w.heap.size + 1, 0, none⟩) (by simp) (.bool false)).setCell (p := ⟨w.heap.size + 1, 1, none⟩) (by simp) (.slice a1 l1 c1)).setCell (p := ⟨w.heap.size + 1, 2, none⟩) (by simp) (.slice a2 l2 c2)
      exact h3.trans (((Below.refl _ _).drew).mono h3.size)
    have r0 : U.cell? ⟨w.heap.size + 1, 0, none⟩ = some (.bool false) := by rw [hU]; simp [go_sem, *]
    have r1 : U.cell? ⟨w.heap.size + 1, 1, none⟩ = some (.slice a1 l1 c1) := by rw [hU]; simp [go_sem, *]
    have r2 : U.cell? ⟨w.heap.size + 1, 2, none⟩ = some (.slice a2 l2 c2) := by rw [hU]; simp [go_sem, *]
    have HU := hide hbU
    rw [← hU]
    clear hU hbU q0 q1 q2 g0 g1 g2 p0 p1 p2
    go_wp2_with fail
    exact bodyPost_ret (v := .agg #[.bool false, .slice a1 l1 c1, .slice a2 l2 c2]) (by simp [results, Tryz.results100, go_sem, r0, r1, r2]) rfl ⟨_, rfl, ⟨_, _, rfl, (unhide H1).later (unhide HU), (unhide H2).later (unhide HU)⟩, unhide HU⟩
  | false =>
    have hsV := (unhide HB).size
    have hlt : w.heap.size + 1 < V.heap.size := World.block_lt_of_cell? _ _ q0
    have HF : Hid (∀ W, Below V.heap.size V W → W.cell? ⟨w.heap.size, 0, none⟩ = some (.bool false) ∧ W.cell? ⟨w.heap.size, 1, none⟩ = some (.slice a1 l1 c1) ∧ W.cell? ⟨w.heap.size, 2, none⟩ = some (.slice a2 l2 c2) ∧ W.cell? ⟨w.heap.size + 1, 0, none⟩ = some (.bool false) ∧ W.cell? ⟨w.heap.size + 1, 1, none⟩ = some (.slice none 0 0) ∧ W.cell? ⟨w.heap.size + 1, 2, none⟩ = some (.slice none 0 0) ∧ W.frozen? ⟨w.heap.size + 1, 0, none⟩ = false ∧ W.frozen? ⟨w.heap.size + 1, 1, none⟩ = false ∧ W.frozen? ⟨w.heap.size + 1, 2, none⟩ = false) := fun W hb =>
      ⟨(hb.cell (p := ⟨w.heap.size, 0, none⟩) (show w.heap.size < V.heap.size by omega)).trans p0, (hb.cell (p := ⟨w.heap.size, 1, none⟩) (show w.heap.size < V.heap.size by omega)).trans p1, (hb.cell (p := ⟨w.heap.size, 2, none⟩) (show w.heap.size < V.heap.size by omega)).trans p2,
        (hb.cell (p := ⟨w.heap.size + 1, 0, none⟩) hlt).trans q0, (hb.cell (p := ⟨w.heap.size + 1, 1, none⟩) hlt).trans q1, (hb.cell (p := ⟨w.heap.size + 1, 2, none⟩) hlt).trans q2,
        (hb.frozen (p := ⟨w.heap.size + 1, 0, none⟩) hlt).trans g0, (hb.frozen (p := ⟨w.heap.size + 1, 1, none⟩) hlt).trans g1, (hb.frozen (p := ⟨w.heap.size + 1, 2, none⟩) hlt).trans g2⟩
    clear q0 q1 q2 g0 g1 g2 hlt
    go_region_held3 (fun w' => w'.cell? ⟨w.heap.size, 0, none⟩ = some (.bool false) ∧ w'.cell? ⟨w.heap.size, 1, none⟩ = some (.slice a1 l1 c1) ∧ w'.cell? ⟨w.heap.size, 2, none⟩ = some (.slice a2 l2 c2)) (first | assumption | (refine ⟨?_, ?_, ?_⟩ <;> first | assumption | (simp [go_sem, *]; done)) | (simp [go_sem, *]; done)) ((go_at_call 88; go_must (refine (unhide H37 _ ((unhide HB).trans (((Below.refl _ _).drew).mono hsV))).mono ?_; rintro e w3 ⟨rfl, hb3⟩; have HB3 := hide ((((Below.refl V.heap.size V).drew)).trans hb3); obtain ⟨t0, t1, t2, q0, q1, q2, g0, g1, g2⟩ := unhide HF w3 (unhide HB3); clear hb3)))
    have HB4 := hide ((unhide HB).trans ((unhide HB3).mono hsV))
    obtain ⟨U, hU⟩ : ∃ U, U = (((w3.setCell ⟨w.heap.size + 1, 0, none⟩ (.bool (!n == 0))).setCell ⟨w.heap.size + 1, 1, none⟩ (.slice a1 l1 c1)).setCell ⟨w.heap.size + 1, 2, none⟩ (.slice a2 l2 c2)) := ⟨_, rfl⟩
    have hbU : Below w.heap.size w U := by
      rw [hU]
      exact (((unhide HB4).setCell (p := ⟨w.heap.size + 1, 0, none⟩) (by simp) (.bool (!n == 0))).setCell (p := ⟨w.heap.size + 1, 1, none⟩) (by simp) (.slice a1 l1 c1)).setCell (p := ⟨w.heap.size + 1, 2, none⟩) (by simp) (.slice a2 l2 c2)
    have r0 : U.cell? ⟨w.heap.size + 1, 0, none⟩ = some (.bool (!n == 0)) := by rw [hU]; simp [go_sem, *]
    have r1 : U.cell? ⟨w.heap.size + 1, 1, none⟩ = some (.slice a1 l1 c1) := by rw [hU]; simp [go_sem, *]
    have r2 : U.cell? ⟨w.heap.size + 1, 2, none⟩ = some (.slice a2 l2 c2) := by rw [hU]; simp [go_sem, *]
    have HU := hide hbU
    have HE : Hid ((!n == 0) = (!false && decide (n ≠ 0))) := by show _ = _; by_cases h0 : n = 0 <;> simp [h0]
    rw [← hU]
    clear hU hbU q0 q1 q2 g0 g1 g2 p0 p1 p2 t0 t1 t2
    go_wp2_with fail
    exact bodyPost_ret (v := .agg #[.bool (!n == 0), .slice a1 l1 c1, .slice a2 l2 c2]) (by simp [results, Tryz.results100, go_sem, r0, r1, r2]) rfl ⟨_, rfl, (by rw [← unhide HE]; exact ⟨_, _, rfl, (unhide H1).later (unhide HU), (unhide H2).later (unhide HU)⟩), unhide HU⟩
end Go.Proofs.YtoinadnpdbaamaaGreatDoor

namespace Go.Proofs.YtoinadnpdbaamaaGreatDoor
open Go.RowKit

/-- A Frac's box: three cells. -/
structure FBox (W : World) (g : Nat) (x y z : Value) : Prop where
  c0 : W.cell? ⟨g, 0, none⟩ = some x
  c1 : W.cell? ⟨g, 1, none⟩ = some y
  c2 : W.cell? ⟨g, 2, none⟩ = some z
  f0 : W.frozen? ⟨g, 0, none⟩ = false
  f1 : W.frozen? ⟨g, 1, none⟩ = false
  f2 : W.frozen? ⟨g, 2, none⟩ = false
theorem FBox.lt {W : World} {g : Nat} {x y z : Value} (h : FBox W g x y z) : g < W.heap.size := World.block_lt_of_cell? _ _ h.c0
theorem FBox.later {W V : World} {g : Nat} {x y z : Value} (h : FBox W g x y z) (hb : Below W.heap.size W V) : FBox V g x y z :=
  ⟨(hb.cell (p := ⟨g, 0, none⟩) h.lt).trans h.c0, (hb.cell (p := ⟨g, 1, none⟩) h.lt).trans h.c1, (hb.cell (p := ⟨g, 2, none⟩) h.lt).trans h.c2,
    (hb.frozen (p := ⟨g, 0, none⟩) h.lt).trans h.f0, (hb.frozen (p := ⟨g, 1, none⟩) h.lt).trans h.f1, (hb.frozen (p := ⟨g, 2, none⟩) h.lt).trans h.f2⟩
/-- A whole Frac stored into its box. -/
def store3 (W : World) (g : Nat) (x y z : Value) : World := ((W.setCell ⟨g, 0, none⟩ x).setCell ⟨g, 1, none⟩ y).setCell ⟨g, 2, none⟩ z
theorem FBox.store {W : World} {g : Nat} {x y z : Value} (h : FBox W g x y z) (x' y' z' : Value) : FBox (store3 W g x' y' z') g x' y' z' := by
  have a1 : (W.setCell ⟨g, 0, none⟩ x').cell? ⟨g, 1, none⟩ = some y := by rw [World.cell?_setCell_other _ _ _ _ (by simp)]; exact h.c1
  have a2 : ((W.setCell ⟨g, 0, none⟩ x').setCell ⟨g, 1, none⟩ y').cell? ⟨g, 2, none⟩ = some z := by rw [World.cell?_setCell_other _ _ _ _ (by simp), World.cell?_setCell_other _ _ _ _ (by simp)]; exact h.c2
  unfold store3
  refine ⟨?_, ?_, World.cell?_setCell_same _ _ _ a2, ?_, ?_, ?_⟩
  · rw [World.cell?_setCell_other _ _ _ _ (by simp), World.cell?_setCell_other _ _ _ _ (by simp)]; exact World.cell?_setCell_same _ _ _ h.c0
  · rw [World.cell?_setCell_other _ _ _ _ (by simp)]; exact World.cell?_setCell_same _ _ _ a1
  · rw [World.frozen?_setCell, World.frozen?_setCell, World.frozen?_setCell]; exact h.f0
  · rw [World.frozen?_setCell, World.frozen?_setCell, World.frozen?_setCell]; exact h.f1
  · rw [World.frozen?_setCell, World.frozen?_setCell, World.frozen?_setCell]; exact h.f2
theorem FBox.big {W : World} {g : Nat} {b : Bool} {a1 a2 : Option Addr} {l1 c1 l2 c2 : Nat} (h : FBox W g (.bool b) (.slice a1 l1 c1) (.slice a2 l2 c2)) (x' y' z' : Value) {v : Value} {n : Nat} (hv : IsBig W v n) : IsBig (store3 W g x' y' z') v n := by
  have e1 : (W.setCell ⟨g, 0, none⟩ x').cell? ⟨g, 1, none⟩ = some (.slice a1 l1 c1) := by rw [World.cell?_setCell_other _ _ _ _ (by simp)]; exact h.c1
  have e2 : ((W.setCell ⟨g, 0, none⟩ x').setCell ⟨g, 1, none⟩ y').cell? ⟨g, 2, none⟩ = some (.slice a2 l2 c2) := by rw [World.cell?_setCell_other _ _ _ _ (by simp), World.cell?_setCell_other _ _ _ _ (by simp)]; exact h.c2
  exact ((hv.box _ h.c0 (fun _ _ e => by cases e)).box _ e1 (not_int _ _ _)).box _ e2 (not_int _ _ _)
theorem below_store3 {B g : Nat} {w W : World} (h : Below B w W) (hg : B ≤ g) (x y z : Value) : Below B w (store3 W g x y z) :=
  ((h.setCell (p := ⟨g, 0, none⟩) hg x).setCell (p := ⟨g, 1, none⟩) hg y).setCell (p := ⟨g, 2, none⟩) hg z

set_option maxRecDepth 100000 in
theorem whole_any (u : Nat) (w : World) (hu : u < 18446744073709551616) :
    Calls Tryz.prog 148 #[.int .u64 (u : Int)] w fun e w' => ∃ v', e = .returned v' ∧ IsFrac w' v' false u 1 ∧ Below w.heap.size w w' := by
  have HB0 : Hid (Below w.heap.size w (w.alloc (.cells #[.bool false, .slice none 0 0, .slice none 0 0] 74))) := (Below.refl _ _).alloc (Nat.le_refl _) _
  have H1 := hide (bigOf_any u (w.alloc (.cells #[.bool false, .slice none 0 0, .slice none 0 0] 74)) hu)
  have H2 := hide (fun W => bigOf_any 1 W (by omega))
  have HC : Hid (∀ W, Below (w.heap.size + 1) (w.alloc (.cells #[.bool false, .slice none 0 0, .slice none 0 0] 74)) W → W.cell? ⟨w.heap.size, 0, none⟩ = some (.bool false) ∧ W.cell? ⟨w.heap.size, 1, none⟩ = some (.slice none 0 0) ∧ W.cell? ⟨w.heap.size, 2, none⟩ = some (.slice none 0 0) ∧ W.frozen? ⟨w.heap.size, 0, none⟩ = false ∧ W.frozen? ⟨w.heap.size, 1, none⟩ = false ∧ W.frozen? ⟨w.heap.size, 2, none⟩ = false) := fun W hb => by
    refine ⟨?_, ?_, ?_, ?_, ?_, ?_⟩
    · rw [hb.cell (p := ⟨w.heap.size, 0, none⟩) (show w.heap.size < w.heap.size + 1 by omega)]; simp [go_sem]
    · rw [hb.cell (p := ⟨w.heap.size, 1, none⟩) (show w.heap.size < w.heap.size + 1 by omega)]; simp [go_sem]
    · rw [hb.cell (p := ⟨w.heap.size, 2, none⟩) (show w.heap.size < w.heap.size + 1 by omega)]; simp [go_sem]
    · rw [hb.frozen (p := ⟨w.heap.size, 0, none⟩) (show w.heap.size < w.heap.size + 1 by omega)]; simp [go_sem]
    · rw [hb.frozen (p := ⟨w.heap.size, 1, none⟩) (show w.heap.size < w.heap.size + 1 by omega)]; simp [go_sem]
    · rw [hb.frozen (p := ⟨w.heap.size, 2, none⟩) (show w.heap.size < w.heap.size + 1 by omega)]; simp [go_sem]
  clear hu
  go_enter Tryz.func148, Tryz.ntmps148
  go_wp2_with (first
    | (go_at_call_of 112 (Value.int .u64 (u : Int)); go_must (refine (unhide H1).mono ?_; rintro e w1 ⟨a1, l1, c1, rfl, hv1, hb1⟩; have HV1 := hide hv1; have HB1 := hide hb1; have hs1 := hb1.size; clear hv1 hb1))
    | (go_at_call 112; go_must (refine (unhide H2 w1).mono ?_; rintro e w2 ⟨a2, l2, c2, rfl, hv2, hb2⟩; have HV2 := hide hv2; have HV1' := hide ((unhide HV1).later hb2); have HB2 := hide ((unhide HB1).trans (hb2.mono hs1)); have h1 : w.heap.size + 1 ≤ (w.alloc (.cells #[.bool false, .slice none 0 0, .slice none 0 0] 74)).heap.size := (by simp); obtain ⟨q0, q1, q2, g0, g1, g2⟩ := unhide HC w2 ((unhide HB2).mono h1); clear hv2 hb2)))
  have hF : FBox w2 w.heap.size (.bool false) (.slice none 0 0) (.slice none 0 0) := ⟨q0, q1, q2, g0, g1, g2⟩
  have hS := hF.store (.bool false) (.slice a1 l1 c1) (.slice a2 l2 c2)
  have hb : Below w.heap.size w (store3 w2 w.heap.size (.bool false) (.slice a1 l1 c1) (.slice a2 l2 c2)) := below_store3 ((unhide HB0).trans ((unhide HB2).mono (by simp))) (Nat.le_refl _) _ _ _
  have r0 := hS.c0; have r1 := hS.c1; have r2 := hS.c2
  exact bodyPost_ret (v := .agg #[.bool false, .slice a1 l1 c1, .slice a2 l2 c2]) (w := store3 w2 w.heap.size (.bool false) (.slice a1 l1 c1) (.slice a2 l2 c2)) (by simp [results, Tryz.results148, go_sem, r0, r1, r2]) rfl ⟨_, rfl, ⟨_, _, rfl, hF.big _ _ _ (unhide HV1'), hF.big _ _ _ (unhide HV2)⟩, hb⟩
end Go.Proofs.YtoinadnpdbaamaaGreatDoor

namespace Go.Proofs.YtoinadnpdbaamaaGreatDoor
open Go.RowKit

theorem FBox.other {W : World} {g k : Nat} {x y z : Value} (h : FBox W g x y z) (hk : g ≠ k) (u : Value) : FBox (W.setCell ⟨k, 0, none⟩ u) g x y z :=
  ⟨by rw [World.cell?_setCell_other _ _ _ _ (by intro e; cases e; exact hk rfl)]; exact h.c0, by rw [World.cell?_setCell_other _ _ _ _ (by intro e; cases e)]; exact h.c1, by rw [World.cell?_setCell_other _ _ _ _ (by intro e; cases e)]; exact h.c2,
    by rw [World.frozen?_setCell]; exact h.f0, by rw [World.frozen?_setCell]; exact h.f1, by rw [World.frozen?_setCell]; exact h.f2⟩
/-- Two numbers in their boxes, and a Frac's box. -/
structure RSt (w W : World) (u v : Value) : Prop where
  b1 : Box W w.heap.size u
  b2 : Box W (w.heap.size + 1) v
  b3 : FBox W (w.heap.size + 1 + 1) (.bool false) (.slice none 0 0) (.slice none 0 0)
  below : Below w.heap.size w W
theorem RSt.later {w W V : World} {u v : Value} (s : RSt w W u v) (hb : Below W.heap.size W V) : RSt w V u v :=
  ⟨s.b1.later hb, s.b2.later hb, s.b3.later hb, s.below.trans (hb.mono s.below.size)⟩
theorem RSt.first (w : World) (u v : Value) : RSt w (((w.alloc (.cells #[u] 72)).alloc (.cells #[v] 72)).alloc (.cells #[.bool false, .slice none 0 0, .slice none 0 0] 74)) u v :=
  ⟨⟨by simp [go_sem], by simp [go_sem]⟩, ⟨by simp [go_sem], by simp [go_sem]⟩, ⟨by simp [go_sem], by simp [go_sem], by simp [go_sem], by simp [go_sem], by simp [go_sem], by simp [go_sem]⟩,
    (((Below.refl _ _).alloc (Nat.le_refl _) _).alloc (by simp) _).alloc (by simp; omega) _⟩
theorem RSt.both {w W : World} {u v : Value} (s : RSt w W u v) (x y : Value) : RSt w ((W.setCell ⟨w.heap.size, 0, none⟩ x).setCell ⟨w.heap.size + 1, 0, none⟩ y) x y :=
  ⟨(s.b1.set x).other (by omega) y, (s.b2.other (by omega) x).set y, (s.b3.other (by omega) x).other (by omega) y, (s.below.setCell (by simp) _).setCell (by simp) _⟩

set_option maxRecDepth 100000 in
set_option maxHeartbeats 2000000 in
theorem ratio_any (b : Bool) (x y : Value) (m n k : Nat) (w : World) (hx : IsBig w x m) (hy : IsBig w y n) (hm : m < 1000000000 ^ k) (hn : n < 1000000000 ^ k) (h0 : 0 < n) (hD : DivAns k) (hG : GcdAns k) :
    Calls Tryz.prog 70 #[.bool b, x, y] w fun e w' => ∃ v', e = .returned v' ∧ IsFrac w' v' (b && decide (m / Nat.gcd m n ≠ 0)) (m / Nat.gcd m n) (n / Nat.gcd m n) ∧ Below w.heap.size w w' := by
  have HX := hide hx
  have HY := hide hy
  obtain ⟨ap, np, cp, rfl⟩ := hx.shape
  obtain ⟨aq, nq, cq, rfl⟩ := hy.shape
  have HS0 := hide (RSt.first w (.slice ap np cp) (.slice aq nq cq))
  have H44 := hide (lowest_any _ _ m n k _ (hx.later (unhide HS0).below) (hy.later (unhide HS0).below) hm hn h0 hD hG)
  clear hx hy hm hn h0 hD hG HX HY
  generalize m / Nat.gcd m n = M at *
  generalize n / Nat.gcd m n = N at *
  go_enter Tryz.func70, Tryz.ntmps70
  go_upto_region 2 with (go_at_call 127; go_must (refine (unhide H44).mono ?_; rintro e w1 ⟨a1, l1, c1, a2, l2, c2, rfl, hv1, hv2, hb1⟩; have HS1 := hide ((unhide HS0).later hb1); have HV1 := hide hv1; have HV2 := hide hv2; clear hv1 hv2 hb1; have b1 := (unhide HS1).b1.c; have b2 := (unhide HS1).b2.c; have f1 := (unhide HS1).b1.f; have f2 := (unhide HS1).b2.f))
  obtain ⟨V, hV⟩ : ∃ V, V = ((w1.setCell ⟨w.heap.size, 0, none⟩ (.slice a1 l1 c1)).setCell ⟨w.heap.size + 1, 0, none⟩ (.slice a2 l2 c2)) := ⟨_, rfl⟩
  have HS : Hid (RSt w V (.slice a1 l1 c1) (.slice a2 l2 c2)) := by rw [hV]; exact (unhide HS1).both _ _
  have HW1 : Hid (IsBig V (.agg #[.slice a1 l1 c1]) M) := by rw [hV]; exact ((unhide HV1).box _ b1 (not_int _ _ _)).box _ ((unhide HS1).b2.other (by omega) _).c (not_int _ _ _)
  have HW2 : Hid (IsBig V (.agg #[.slice a2 l2 c2]) N) := by rw [hV]; exact ((unhide HV2).box _ b1 (not_int _ _ _)).box _ ((unhide HS1).b2.other (by omega) _).c (not_int _ _ _)
  rw [← hV]
  clear hV HS0 H44 HS1 HV1 HV2 b1 b2 f1 f2
  have b1 := (unhide HS).b1.c; have b2 := (unhide HS).b2.c
  have q0 := (unhide HS).b3.c0; have q1 := (unhide HS).b3.c1; have q2 := (unhide HS).b3.c2; have g0 := (unhide HS).b3.f0; have g1 := (unhide HS).b3.f1; have g2 := (unhide HS).b3.f2
  cases b with
  | false =>
    go_region
    obtain ⟨U, hU⟩ : ∃ U, U = (store3 V (w.heap.size + 1 + 1) (.bool false) (.slice a1 l1 c1) (.slice a2 l2 c2)).drew := ⟨_, rfl⟩
    have hb3 : Below w.heap.size w (store3 V (w.heap.size + 1 + 1) (.bool false) (.slice a1 l1 c1) (.slice a2 l2 c2)) := below_store3 (unhide HS).below (by omega) _ _ _
    have HU : Hid (FBox U (w.heap.size + 1 + 1) (.bool false) (.slice a1 l1 c1) (.slice a2 l2 c2) ∧ IsBig U (.agg #[.slice a1 l1 c1]) M ∧ IsBig U (.agg #[.slice a2 l2 c2]) N ∧ Below w.heap.size w U) := by
      rw [hU]
      exact ⟨((unhide HS).b3.store _ _ _).later ((Below.refl _ _).drew), ((unhide HS).b3.big _ _ _ (unhide HW1)).later ((Below.refl _ _).drew), ((unhide HS).b3.big _ _ _ (unhide HW2)).later ((Below.refl _ _).drew), hb3.trans (((Below.refl _ _).drew).mono hb3.size)⟩
    have hU' : U = (((V.setCell ⟨w.heap.size + 1 + 1, 0, none⟩ (.bool false)).setCell ⟨w.heap.size + 1 + 1, 1, none⟩ (.slice a1 l1 c1)).setCell ⟨w.heap.size + 1 + 1, 2, none⟩ (.slice a2 l2 c2)).drew := hU
    have HE : Hid (false = (false && decide (M ≠ 0))) := by show _ = _; by_cases h0 : M = 0 <;> simp [h0]
    rw [← hU']
    clear hU hU' hb3 q0 q1 q2 g0 g1 g2 b1 b2 
    have r0 := (unhide HU).1.c0; have r1 := (unhide HU).1.c1; have r2 := (unhide HU).1.c2
    go_wp2_with fail
    exact bodyPost_ret (v := .agg #[.bool false, .slice a1 l1 c1, .slice a2 l2 c2]) (by simp [results, Tryz.results70, go_sem, r0, r1, r2]) rfl ⟨_, rfl, (by rw [← unhide HE]; exact ⟨_, _, rfl, (unhide HU).2.1, (unhide HU).2.2.1⟩), (unhide HU).2.2.2⟩
  | true =>
    have HF : Hid (∀ W, Below V.heap.size V W → RSt w W (.slice a1 l1 c1) (.slice a2 l2 c2)) := fun W hb => (unhide HS).later hb
    have H37 := hide (fun W (hb : Below V.heap.size V W) => isZero_any _ M W ((unhide HW1).later hb))
    clear q0 q1 q2 g0 g1 g2
    go_region_held3 (fun w' => w'.cell? ⟨w.heap.size, 0, none⟩ = some (.slice a1 l1 c1) ∧ w'.cell? ⟨w.heap.size + 1, 0, none⟩ = some (.slice a2 l2 c2)) (first | assumption | (refine ⟨?_, ?_⟩ <;> first | assumption | (simp [go_sem, *]; done)) | (simp [go_sem, *]; done)) ((go_at_call 88; go_must (refine (unhide H37 _ ((Below.refl _ _).drew)).mono ?_; rintro e w3 ⟨rfl, hb3⟩; have HB3 := hide ((((Below.refl V.heap.size V).drew)).trans hb3); have HS3 := hide (unhide HF w3 (unhide HB3)); have t1 := (unhide HS3).b1.c; have t2 := (unhide HS3).b2.c; have q0 := (unhide HS3).b3.c0; have q1 := (unhide HS3).b3.c1; have q2 := (unhide HS3).b3.c2; have g0 := (unhide HS3).b3.f0; have g1 := (unhide HS3).b3.f1; have g2 := (unhide HS3).b3.f2; clear hb3)))
    obtain ⟨U, hU⟩ : ∃ U, U = (store3 w3 (w.heap.size + 1 + 1) (.bool (!M == 0)) (.slice a1 l1 c1) (.slice a2 l2 c2)) := ⟨_, rfl⟩
    have hb3 : Below w.heap.size w (store3 w3 (w.heap.size + 1 + 1) (.bool (!M == 0)) (.slice a1 l1 c1) (.slice a2 l2 c2)) := below_store3 (unhide HS3).below (by omega) _ _ _
    have HU : Hid (FBox U (w.heap.size + 1 + 1) (.bool (!M == 0)) (.slice a1 l1 c1) (.slice a2 l2 c2) ∧ IsBig U (.agg #[.slice a1 l1 c1]) M ∧ IsBig U (.agg #[.slice a2 l2 c2]) N ∧ Below w.heap.size w U) := by
      rw [hU]
      exact ⟨((unhide HS3).b3.store _ _ _), ((unhide HS3).b3.big _ _ _ ((unhide HW1).later (unhide HB3))), ((unhide HS3).b3.big _ _ _ ((unhide HW2).later (unhide HB3))), hb3⟩
    have hU' : U = (((w3.setCell ⟨w.heap.size + 1 + 1, 0, none⟩ (.bool (!M == 0))).setCell ⟨w.heap.size + 1 + 1, 1, none⟩ (.slice a1 l1 c1)).setCell ⟨w.heap.size + 1 + 1, 2, none⟩ (.slice a2 l2 c2)) := hU
    have HE : Hid ((!M == 0) = (true && decide (M ≠ 0))) := by show _ = _; by_cases h0 : M = 0 <;> simp [h0]
    rw [← hU']
    clear hU hU' hb3 q0 q1 q2 g0 g1 g2 b1 b2 t1 t2
    have r0 := (unhide HU).1.c0; have r1 := (unhide HU).1.c1; have r2 := (unhide HU).1.c2
    go_wp2_with fail
    exact bodyPost_ret (v := .agg #[.bool (!M == 0), .slice a1 l1 c1, .slice a2 l2 c2]) (by simp [results, Tryz.results70, go_sem, r0, r1, r2]) rfl ⟨_, rfl, (by rw [← unhide HE]; exact ⟨_, _, rfl, (unhide HU).2.1, (unhide HU).2.2.1⟩), (unhide HU).2.2.2⟩
end Go.Proofs.YtoinadnpdbaamaaGreatDoor

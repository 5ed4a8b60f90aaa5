/- (Big).DivMod, the long division set apart. -/
import Derived.Test.YtoinadnpdbaamaaGreatDoorDivShort
import Derived.Test.YtoinadnpdbaamaaGreatDoorCmp
import Derived.Deep.Cut
namespace Go.Proofs.YtoinadnpdbaamaaGreatDoor
open Go.RowKit

/-- What the long division must answer. -/
def LongOK (m n : Nat) : Prop := ∀ (W : World) (x y : Value), IsBig W x m → IsBig W y n →
  Calls Tryz.prog 156 #[x, y] W fun e w' => ∃ a1 n1 c1 a2 n2 c2, e = .returned (.tuple #[.agg #[.slice a1 n1 c1], .agg #[.slice a2 n2 c2]]) ∧ IsBig w' (.agg #[.slice a1 n1 c1]) (m / n) ∧ IsBig w' (.agg #[.slice a2 n2 c2]) (m % n) ∧ Below W.heap.size W w'

/-- Two boxes, and two for results, kept. -/
structure Res4 (w w4 : World) (a b : Value) : Prop where
  c0 : w4.cell? ⟨w.heap.size, 0, none⟩ = some a
  c1 : w4.cell? ⟨w.heap.size + 1, 0, none⟩ = some b
  c2 : w4.cell? ⟨w.heap.size + 1 + 1, 0, none⟩ = some (.slice none 0 0)
  f2 : w4.frozen? ⟨w.heap.size + 1 + 1, 0, none⟩ = false
  c3 : w4.cell? ⟨w.heap.size + 1 + 1 + 1, 0, none⟩ = some (.slice none 0 0)
  f3 : w4.frozen? ⟨w.heap.size + 1 + 1 + 1, 0, none⟩ = false
  below : Below w.heap.size w w4
  size : w.heap.size + 4 ≤ w4.heap.size
theorem res4 {w w4 : World} {a b : Value} (hb : Below (w.heap.size + 4) ((((w.alloc (.cells #[a] 72)).alloc (.cells #[b] 72)).alloc (.cells #[.slice none 0 0] 72)).alloc (.cells #[.slice none 0 0] 72)) w4) : Res4 w w4 a b := by
  refine ⟨?_, ?_, ?_, ?_, ?_, ?_, ?_, ?_⟩
  · rw [hb.cell (p := ⟨w.heap.size, 0, none⟩) (show w.heap.size < w.heap.size + 4 by omega)]; simp [go_sem]
  · rw [hb.cell (p := ⟨w.heap.size + 1, 0, none⟩) (show w.heap.size + 1 < w.heap.size + 4 by omega)]; simp [go_sem]
  · rw [hb.cell (p := ⟨w.heap.size + 1 + 1, 0, none⟩) (show w.heap.size + 1 + 1 < w.heap.size + 4 by omega)]; simp [go_sem]
  · rw [hb.frozen (p := ⟨w.heap.size + 1 + 1, 0, none⟩) (show w.heap.size + 1 + 1 < w.heap.size + 4 by omega)]; simp [go_sem]
  · rw [hb.cell (p := ⟨w.heap.size + 1 + 1 + 1, 0, none⟩) (show w.heap.size + 1 + 1 + 1 < w.heap.size + 4 by omega)]; simp [go_sem]
  · rw [hb.frozen (p := ⟨w.heap.size + 1 + 1 + 1, 0, none⟩) (show w.heap.size + 1 + 1 + 1 < w.heap.size + 4 by omega)]; simp [go_sem]
  · exact (((((Below.refl _ _).alloc (Nat.le_refl _) _).alloc (by simp) _).alloc (by simp; omega) _).alloc (by simp; omega) _).trans (hb.mono (by omega))
  · have := hb.size; simp at this; omega
theorem Res4.on {w w4 w5 : World} {a b : Value} (h : Res4 w w4 a b) (hb : Below (w.heap.size + 4) w4 w5) : Res4 w w5 a b :=
  ⟨(hb.cell (p := ⟨w.heap.size, 0, none⟩) (show w.heap.size < w.heap.size + 4 by omega)).trans h.c0, (hb.cell (p := ⟨w.heap.size + 1, 0, none⟩) (show w.heap.size + 1 < w.heap.size + 4 by omega)).trans h.c1,
    (hb.cell (p := ⟨w.heap.size + 1 + 1, 0, none⟩) (show w.heap.size + 1 + 1 < w.heap.size + 4 by omega)).trans h.c2, (hb.frozen (p := ⟨w.heap.size + 1 + 1, 0, none⟩) (show w.heap.size + 1 + 1 < w.heap.size + 4 by omega)).trans h.f2,
    (hb.cell (p := ⟨w.heap.size + 1 + 1 + 1, 0, none⟩) (show w.heap.size + 1 + 1 + 1 < w.heap.size + 4 by omega)).trans h.c3, (hb.frozen (p := ⟨w.heap.size + 1 + 1 + 1, 0, none⟩) (show w.heap.size + 1 + 1 + 1 < w.heap.size + 4 by omega)).trans h.f3,
    h.below.trans (hb.mono (by omega)), by have := hb.size; have := h.size; omega⟩
theorem Res4.done {w w4 : World} {a b u v : Value} (h : Res4 w w4 a b) (n m : Nat) (hn : IsBig w4 (.agg #[u]) n) (hm : IsBig w4 (.agg #[v]) m) :
    IsBig ((w4.setCell ⟨w.heap.size + 1 + 1, 0, none⟩ u).setCell ⟨w.heap.size + 1 + 1 + 1, 0, none⟩ v) (.agg #[u]) n ∧ IsBig ((w4.setCell ⟨w.heap.size + 1 + 1, 0, none⟩ u).setCell ⟨w.heap.size + 1 + 1 + 1, 0, none⟩ v) (.agg #[v]) m ∧ Below w.heap.size w ((w4.setCell ⟨w.heap.size + 1 + 1, 0, none⟩ u).setCell ⟨w.heap.size + 1 + 1 + 1, 0, none⟩ v) := by
  have hc : (w4.setCell ⟨w.heap.size + 1 + 1, 0, none⟩ u).cell? ⟨w.heap.size + 1 + 1 + 1, 0, none⟩ = some (.slice none 0 0) := by
    rw [World.cell?_setCell_other _ _ _ _ (by simp)]; exact h.c3
  exact ⟨(hn.box _ h.c2 (no_int _ _ _)).box _ hc (no_int _ _ _), (hm.box _ h.c2 (no_int _ _ _)).box _ hc (no_int _ _ _), (h.below.setCell (by simp; omega) _).setCell (by simp; omega) _⟩

theorem one_limb {l : List Nat} {n : Nat} (h : Cub.normal 1000000000 l) (hv : Cub.lval 1000000000 l = n) (h1 : l.length = 1) : ∃ y, l = [y] ∧ y = n ∧ 0 < n ∧ n < 1000000000 := by
  obtain ⟨y, rfl⟩ := List.length_eq_one_iff.1 h1
  have e : y = n := by rw [← hv]; simp [Cub.lval]
  subst e
  refine ⟨y, rfl, rfl, ?_, h.1 y (by simp)⟩
  have := h.2
  simp at this
  omega

set_option maxRecDepth 100000 in
set_option maxHeartbeats 1000000 in
theorem divMod_core (x y : Value) (m n k : Nat) (w : World) (hx : IsBig w x m) (hy : IsBig w y n) (hk : k ≤ 1000000) (hm : m < 1000000000 ^ k) (hn : 0 < n) (hL : 1000000000 ≤ n → n ≤ m → LongOK m n) :
    Calls Tryz.prog 118 #[x, y] w fun e w' => ∃ a1 n1 c1 a2 n2 c2, e = .returned (.tuple #[.agg #[.slice a1 n1 c1], .agg #[.slice a2 n2 c2]]) ∧ IsBig w' (.agg #[.slice a1 n1 c1]) (m / n) ∧ IsBig w' (.agg #[.slice a2 n2 c2]) (m % n) ∧ Below w.heap.size w w' := by
  have HX := hide hx
  have HY := hide hy
  obtain ⟨ap, lp, cp, rfl, hlp, hrp, hnp, hvp⟩ := hx.form
  obtain ⟨aq, lq, cq, rfl, hlq, hrq, hnq, hvq⟩ := hy.form
  have H50 := hide (fun W hx hy => cmp_any (.agg #[.slice ap lp.length cp]) (.agg #[.slice aq lq.length cq]) m n W hx hy)
  have h1 : lp.length ≤ k := Cub.len_le hnp (by rw [hvp]; exact hm)
  have HP : Hid (Cells w aq lq) := hrq.cells.2.2.2
  have HM := hide hm
  by_cases hlt : m < n
  · have e1 : m / n = 0 := Nat.div_eq_of_lt hlt
    have e2 : m % n = m := Nat.mod_eq_of_lt hlt
    rw [e1, e2]
    rw [Cub.cmpN_lt hlt] at H50
    generalize lp.length = np at *
    generalize lq.length = nq at *
    clear hx hy hm hlp hlq hrp hrq hnp hnq hvp hvq e1 e2 hL h1 HP
    go_enter Tryz.func118, Tryz.ntmps118
    go_upto_region 2 with (go_at_call 141; go_must (refine (unhide H50 _ ((unhide HX).later (((((Below.refl _ _).alloc (Nat.le_refl _) _).alloc (by simp) _).alloc (by simp; omega) _).alloc (by simp; omega) _)) ((unhide HY).later (((((Below.refl _ _).alloc (Nat.le_refl _) _).alloc (by simp) _).alloc (by simp; omega) _).alloc (by simp; omega) _))).mono ?_; rintro e w2 ⟨rfl, hb2⟩; have HB2 := hide (res4 (hb2.mono (by simp))); have b0 := (unhide HB2).c0; have b2 := (unhide HB2).c2; have f2 := (unhide HB2).f2; have b3 := (unhide HB2).c3; have f3 := (unhide HB2).f3; clear hb2))
    go_region
    all_goals (
      obtain ⟨r1, r2, r3⟩ := (unhide HB2).done (u := .slice none 0 0) (v := .slice ap np cp) 0 m (IsBig.zero _) ((unhide HX).later (unhide HB2).below)
      go_wp2
      exact bodyPost_ret (v := .tuple #[.agg #[.slice none 0 0], .agg #[.slice ap np cp]]) (by simp [results, Tryz.results118, go_sem, b2, b3]) rfl ⟨_, _, _, _, _, _, rfl, r1.later ((Below.refl _ _).drew), r2.later ((Below.refl _ _).drew), r3.trans ((Below.refl _ _).drew)⟩)
  · have H50' : Hid (∃ c : Int, (c < 0) = False ∧ ∀ W, IsBig W (.agg #[.slice ap lp.length cp]) m → IsBig W (.agg #[.slice aq lq.length cq]) n → Calls Tryz.prog 141 #[.agg #[.slice ap lp.length cp], .agg #[.slice aq lq.length cq]] W fun e w' => e = .returned (.int .i64 c) ∧ Below W.heap.size W w') := by
      refine ⟨Cub.cmpN m n, ?_, unhide H50⟩
      unfold Cub.cmpN
      rw [if_neg hlt]
      split <;> simp
    obtain ⟨c, hc, h50⟩ := unhide H50'
    have H50c := hide h50
    clear h50 H50 H50'
    by_cases hone : lq.length = 1
    · obtain ⟨yv, hl, hyn, hn0, hnB⟩ := one_limb hnq hvq hone
      have HC1 : Hid (∀ W, Below w.heap.size w W → ∃ b o, aq = some ⟨b, o, none⟩ ∧ W.cell? ⟨b, o, none⟩ = some (.int .u64 (n : Int))) := fun W hW => by
        obtain ⟨b, o, e, hcell⟩ := unhide HP W hW 0 (by omega)
        refine ⟨b, o, e, ?_⟩
        rw [Nat.add_zero] at hcell
        rw [hcell]
        subst hl
        rw [← hyn]; rfl
      have H82 := hide (fun W x (hx : IsBig W x m) => divShort_any x m n k W hx hk (unhide HM) hn0 hnB)
      rw [hone] at HY H50c ⊢
      generalize lp.length = np at *
      clear hx hy hm hlp hlq hrp hrq hnp hnq hvp hvq hL h1 HP hl hyn hone
      go_enter Tryz.func118, Tryz.ntmps118
      go_upto_region 4 with (go_at_call 141; go_must (refine (unhide H50c _ ((unhide HX).later (((((Below.refl _ _).alloc (Nat.le_refl _) _).alloc (by simp) _).alloc (by simp; omega) _).alloc (by simp; omega) _)) ((unhide HY).later (((((Below.refl _ _).alloc (Nat.le_refl _) _).alloc (by simp) _).alloc (by simp; omega) _).alloc (by simp; omega) _))).mono ?_; rintro e w2 ⟨rfl, hb2⟩; have HB2 := hide (res4 (hb2.mono (by simp))); have b0 := (unhide HB2).c0; have b1 := (unhide HB2).c1; clear hb2))
      obtain ⟨bq, oq, rfl, hcq⟩ := unhide HC1 w2 (unhide HB2).below
      go_region_with (go_at_call 155; refine (unhide H82 _ _ (((unhide HX).later (unhide HB2).below).later ((Below.refl _ _).drew))).mono ?_; rintro e w3 ⟨a1, n1, c1, a2, n2, c2, rfl, hr1, hr2, hb3⟩; have hb3' : Below w2.heap.size w2 w3 := (Below.refl _ _).drew.trans hb3; have HB3 := hide ((unhide HB2).on (hb3'.mono (unhide HB2).size)); have HR := hide (And.intro hr1 hr2); clear hr1 hr2 hb3 hb3'; have b2 := (unhide HB3).c2; have f2 := (unhide HB3).f2; have b3 := (unhide HB3).c3; have f3 := (unhide HB3).f3)
      all_goals (
        obtain ⟨r1, r2, r3⟩ := (unhide HB3).done _ _ (unhide HR).1 (unhide HR).2
        go_wp2
        exact bodyPost_ret (v := .tuple #[.agg #[.slice a1 n1 c1], .agg #[.slice a2 n2 c2]]) (by simp [results, Tryz.results118, go_sem, b2, b3]) rfl ⟨_, _, _, _, _, _, rfl, r1, r2, r3⟩)
    · have hnB : 1000000000 ≤ n := by
        apply Decidable.byContradiction
        intro hc2
        have h2 : lq.length ≤ 1 := Cub.len_le hnq (by rw [hvq, Nat.pow_one]; omega)
        have h3 : lq = [] := List.length_eq_zero_iff.1 (by omega)
        rw [h3] at hvq
        have : Cub.lval 1000000000 [] = 0 := rfl
        omega
      have H83 := hide (hL hnB (by omega))
      have hone' : ((lq.length : Int) == 1) = false := by rw [beq_eq_false_iff_ne]; omega
      generalize lp.length = np at *
      generalize lq.length = nq at *
      clear hx hy hm hlp hrp hrq hnp hnq hvp hvq hL h1 HP hone
      go_enter Tryz.func118, Tryz.ntmps118
      go_wp2_with (first
        | (go_at_call 141; go_must (refine (unhide H50c _ ((unhide HX).later (((((Below.refl _ _).alloc (Nat.le_refl _) _).alloc (by simp) _).alloc (by simp; omega) _).alloc (by simp; omega) _)) ((unhide HY).later (((((Below.refl _ _).alloc (Nat.le_refl _) _).alloc (by simp) _).alloc (by simp; omega) _).alloc (by simp; omega) _))).mono ?_; rintro e w2 ⟨rfl, hb2⟩; have HB2 := hide (res4 (hb2.mono (by simp))); have b0 := (unhide HB2).c0; have b1 := (unhide HB2).c1; clear hb2))
        | (go_at_call 156; go_must (refine (unhide H83 _ _ _ ((unhide HX).later (unhide HB2).below) ((unhide HY).later (unhide HB2).below)).mono ?_; rintro e w3 ⟨a1, n1, c1, a2, n2, c2, rfl, hr1, hr2, hb3⟩; have HB3 := hide ((unhide HB2).on (hb3.mono (unhide HB2).size)); have HR := hide (And.intro hr1 hr2); clear hr1 hr2 hb3; have b2 := (unhide HB3).c2; have f2 := (unhide HB3).f2; have b3 := (unhide HB3).c3; have f3 := (unhide HB3).f3)))
      obtain ⟨r1, r2, r3⟩ := (unhide HB3).done _ _ (unhide HR).1 (unhide HR).2
      exact bodyPost_ret (v := .tuple #[.agg #[.slice a1 n1 c1], .agg #[.slice a2 n2 c2]]) (by simp [results, Tryz.results118, go_sem, b2, b3]) rfl ⟨_, _, _, _, _, _, rfl, r1, r2, r3⟩
end Go.Proofs.YtoinadnpdbaamaaGreatDoor

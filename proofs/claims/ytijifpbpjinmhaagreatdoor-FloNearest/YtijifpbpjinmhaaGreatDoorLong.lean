/- nat.divideLong. -/
import Derived.Test.YtijifpbpjinmhaaGreatDoorOne
import Derived.Test.YtijifpbpjinmhaaGreatDoorGcdSmall
import Derived.Deep.Cut
import Derived.Deep.QuietTactic
import Derived.BigQuiet
import Derived.Test.YtijifpbpjinmhaaGreatDoorMulMath
import Derived.Deep.RegionHeld3
set_option maxHeartbeats 1000000
set_option maxRecDepth 100000
namespace Go.Proofs.YtijifpbpjinmhaaGreatDoor
open Go.RowKit
/-- What the long division must answer. -/
def LongOK (m n : Nat) : Prop := ∀ (W : World) (x y : Value), IsBig W x m → IsBig W y n →
  Calls Tryz.prog 198 #[x, y] W fun e w' => ∃ a1 n1 c1 a2 n2 c2, e = .returned (.tuple #[.agg #[.slice a1 n1 c1], .agg #[.slice a2 n2 c2]]) ∧ IsBig w' (.agg #[.slice a1 n1 c1]) (m / n) ∧ IsBig w' (.agg #[.slice a2 n2 c2]) (m % n) ∧ Below W.heap.size W w'
/-- Two boxes, and two for results, kept. -/
structure Res4 (w w4 : World) (a b : Value) : Prop where
  c0 : w4.cell? ⟨w.heap.size, 0, none⟩ = some a
  c1 : w4.cell? ⟨w.heap.size + 1, 0, none⟩ = some b
  c2 : w4.cell? ⟨w.heap.size + 1 + 1, 0, none⟩ = some (.slice none 0 0)
  f2 : w4.frozen? ⟨w.heap.size + 1 + 1, 0, none⟩ = false
  c3 : w4.cell? ⟨w.heap.size + 1 + 1 + 1, 0, none⟩ = some (.slice none 0 0)
  f3 : w4.frozen? ⟨w.heap.size + 1 + 1 + 1, 0, none⟩ = false
  below : Below w.heap.size w w4
  size : w.heap.size + 4 ≤ w4.heap.size
theorem res4 {w w4 : World} {a b : Value} (hb : Below (w.heap.size + 4) ((((w.alloc (.cells #[a] 51)).alloc (.cells #[b] 51)).alloc (.cells #[.slice none 0 0] 51)).alloc (.cells #[.slice none 0 0] 51)) w4) : Res4 w w4 a b := by
  refine ⟨?_, ?_, ?_, ?_, ?_, ?_, ?_, ?_⟩
  · rw [hb.cell (p := ⟨w.heap.size, 0, none⟩) (show w.heap.size < w.heap.size + 4 by omega)]; simp [go_sem]
  · rw [hb.cell (p := ⟨w.heap.size + 1, 0, none⟩) (show w.heap.size + 1 < w.heap.size + 4 by omega)]; simp [go_sem]
  · rw [hb.cell (p := ⟨w.heap.size + 1 + 1, 0, none⟩) (show w.heap.size + 1 + 1 < w.heap.size + 4 by omega)]; simp [go_sem]
  · rw [hb.frozen (p := ⟨w.heap.size + 1 + 1, 0, none⟩) (show w.heap.size + 1 + 1 < w.heap.size + 4 by omega)]; simp [go_sem]
  · rw [hb.cell (p := ⟨w.heap.size + 1 + 1 + 1, 0, none⟩) (show w.heap.size + 1 + 1 + 1 < w.heap.size + 4 by omega)]; simp [go_sem]
  · rw [hb.frozen (p := ⟨w.heap.size + 1 + 1 + 1, 0, none⟩) (show w.heap.size + 1 + 1 + 1 < w.heap.size + 4 by omega)]; simp [go_sem]
  · exact (((((Below.refl _ _).alloc (Nat.le_refl _) _).alloc (by simp) _).alloc (by simp; omega) _).alloc (by simp; omega) _).trans (hb.mono (by omega))
  · have := hb.size; simp at this; omega
theorem Res4.on {w w4 w5 : World} {a b : Value} (h : Res4 w w4 a b) (hb : Below (w.heap.size + 4) w4 w5) : Res4 w w5 a b :=
  ⟨(hb.cell (p := ⟨w.heap.size, 0, none⟩) (show w.heap.size < w.heap.size + 4 by omega)).trans h.c0, (hb.cell (p := ⟨w.heap.size + 1, 0, none⟩) (show w.heap.size + 1 < w.heap.size + 4 by omega)).trans h.c1,
    (hb.cell (p := ⟨w.heap.size + 1 + 1, 0, none⟩) (show w.heap.size + 1 + 1 < w.heap.size + 4 by omega)).trans h.c2, (hb.frozen (p := ⟨w.heap.size + 1 + 1, 0, none⟩) (show w.heap.size + 1 + 1 < w.heap.size + 4 by omega)).trans h.f2,
    (hb.cell (p := ⟨w.heap.size + 1 + 1 + 1, 0, none⟩) (show w.heap.size + 1 + 1 + 1 < w.heap.size + 4 by omega)).trans h.c3, (hb.frozen (p := ⟨w.heap.size + 1 + 1 + 1, 0, none⟩) (show w.heap.size + 1 + 1 + 1 < w.heap.size + 4 by omega)).trans h.f3,
    h.below.trans (hb.mono (by omega)), by have := hb.size; have := h.size; omega⟩
theorem Res4.done {w w4 : World} {a b u v : Value} (h : Res4 w w4 a b) (n m : Nat) (hn : IsBig w4 (.agg #[u]) n) (hm : IsBig w4 (.agg #[v]) m) :
    IsBig ((w4.setCell ⟨w.heap.size + 1 + 1, 0, none⟩ u).setCell ⟨w.heap.size + 1 + 1 + 1, 0, none⟩ v) (.agg #[u]) n ∧ IsBig ((w4.setCell ⟨w.heap.size + 1 + 1, 0, none⟩ u).setCell ⟨w.heap.size + 1 + 1 + 1, 0, none⟩ v) (.agg #[v]) m ∧ Below w.heap.size w ((w4.setCell ⟨w.heap.size + 1 + 1, 0, none⟩ u).setCell ⟨w.heap.size + 1 + 1 + 1, 0, none⟩ v) := by
  have hc : (w4.setCell ⟨w.heap.size + 1 + 1, 0, none⟩ u).cell? ⟨w.heap.size + 1 + 1 + 1, 0, none⟩ = some (.slice none 0 0) := by
    rw [World.cell?_setCell_other _ _ _ _ (by simp)]; exact h.c3
  exact ⟨(hn.box _ h.c2 (no_int _ _ _)).box _ hc (no_int _ _ _), (hm.box _ h.c2 (no_int _ _ _)).box _ hc (no_int _ _ _), (h.below.setCell (by simp; omega) _).setCell (by simp; omega) _⟩
theorem one_limb {l : List Nat} {n : Nat} (h : Cub.normal 1000000000 l) (hv : Cub.lval 1000000000 l = n) (h1 : l.length = 1) : ∃ y, l = [y] ∧ y = n ∧ 0 < n ∧ n < 1000000000 := by
  obtain ⟨y, rfl⟩ := List.length_eq_one_iff.1 h1
  have e : y = n := by rw [← hv]; simp [Cub.lval]
  subst e
  refine ⟨y, rfl, rfl, ?_, h.1 y (by simp)⟩
  have := h.2
  simp at this
  omega
theorem divMod_core (x y : Value) (m n k : Nat) (w : World) (hx : IsBig w x m) (hy : IsBig w y n) (hk : k ≤ 1000000) (hm : m < 1000000000 ^ k) (hn : 0 < n) (hL : 1000000000 ≤ n → n ≤ m → LongOK m n) :
    Calls Tryz.prog 161 #[x, y] w fun e w' => ∃ a1 n1 c1 a2 n2 c2, e = .returned (.tuple #[.agg #[.slice a1 n1 c1], .agg #[.slice a2 n2 c2]]) ∧ IsBig w' (.agg #[.slice a1 n1 c1]) (m / n) ∧ IsBig w' (.agg #[.slice a2 n2 c2]) (m % n) ∧ Below w.heap.size w w' := by
  have HX := hide hx
  have HY := hide hy
  obtain ⟨ap, lp, cp, rfl, hlp, hrp, hnp, hvp⟩ := hx.form
  obtain ⟨aq, lq, cq, rfl, hlq, hrq, hnq, hvq⟩ := hy.form
  have H50 := hide (fun W hx hy => cmp_any (.agg #[.slice ap lp.length cp]) (.agg #[.slice aq lq.length cq]) m n W hx hy)
  have h1 : lp.length ≤ k := Cub.len_le hnp (by rw [hvp]; exact hm)
  have HP : Hid (Cells w aq lq) := hrq.cells.2.2.2
  have HM := hide hm
  by_cases hlt : m < n
  · have e1 : m / n = 0 := Nat.div_eq_of_lt hlt
    have e2 : m % n = m := Nat.mod_eq_of_lt hlt
    rw [e1, e2]
    rw [Cub.cmpN_lt hlt] at H50
    generalize lp.length = np at *
    generalize lq.length = nq at *
    clear hx hy hm hlp hlq hrp hrq hnp hnq hvp hvq e1 e2 hL h1 HP
    go_enter Tryz.func161, Tryz.ntmps161
    go_upto_region 2 with (go_at_call 124; go_must (refine (unhide H50 _ ((unhide HX).later (((((Below.refl _ _).alloc (Nat.le_refl _) _).alloc (by simp) _).alloc (by simp; omega) _).alloc (by simp; omega) _)) ((unhide HY).later (((((Below.refl _ _).alloc (Nat.le_refl _) _).alloc (by simp) _).alloc (by simp; omega) _).alloc (by simp; omega) _))).mono ?_; rintro e w2 ⟨rfl, hb2⟩; have HB2 := hide (res4 (hb2.mono (by simp))); have b0 := (unhide HB2).c0; have b2 := (unhide HB2).c2; have f2 := (unhide HB2).f2; have b3 := (unhide HB2).c3; have f3 := (unhide HB2).f3; clear hb2))
    go_region
    all_goals (
      obtain ⟨r1, r2, r3⟩ := (unhide HB2).done (u := .slice none 0 0) (v := .slice ap np cp) 0 m (IsBig.zero _) ((unhide HX).later (unhide HB2).below)
      go_wp2
      exact bodyPost_ret (v := .tuple #[.agg #[.slice none 0 0], .agg #[.slice ap np cp]]) (by simp [results, Tryz.results161, go_sem, b2, b3]) rfl ⟨_, _, _, _, _, _, rfl, r1.later ((Below.refl _ _).drew), r2.later ((Below.refl _ _).drew), r3.trans ((Below.refl _ _).drew)⟩)
  · have H50' : Hid (∃ c : Int, (c < 0) = False ∧ ∀ W, IsBig W (.agg #[.slice ap lp.length cp]) m → IsBig W (.agg #[.slice aq lq.length cq]) n → Calls Tryz.prog 124 #[.agg #[.slice ap lp.length cp], .agg #[.slice aq lq.length cq]] W fun e w' => e = .returned (.int .i64 c) ∧ Below W.heap.size W w') := by
      refine ⟨Cub.cmpN m n, ?_, unhide H50⟩
      unfold Cub.cmpN
      rw [if_neg hlt]
      split <;> simp
    obtain ⟨c, hc, h50⟩ := unhide H50'
    have H50c := hide h50
    clear h50 H50 H50'
    by_cases hone : lq.length = 1
    · obtain ⟨yv, hl, hyn, hn0, hnB⟩ := one_limb hnq hvq hone
      have HC1 : Hid (∀ W, Below w.heap.size w W → ∃ b o, aq = some ⟨b, o, none⟩ ∧ W.cell? ⟨b, o, none⟩ = some (.int .u64 (n : Int))) := fun W hW => by
        obtain ⟨b, o, e, hcell⟩ := unhide HP W hW 0 (by omega)
        refine ⟨b, o, e, ?_⟩
        rw [Nat.add_zero] at hcell
        rw [hcell]
        subst hl
        rw [← hyn]; rfl
      have H82 := hide (fun W x (hx : IsBig W x m) => divShort_any x m n k W hx hk (unhide HM) hn0 hnB)
      rw [hone] at HY H50c ⊢
      generalize lp.length = np at *
      clear hx hy hm hlp hlq hrp hrq hnp hnq hvp hvq hL h1 HP hl hyn hone
      go_enter Tryz.func161, Tryz.ntmps161
      go_upto_region 4 with (go_at_call 124; go_must (refine (unhide H50c _ ((unhide HX).later (((((Below.refl _ _).alloc (Nat.le_refl _) _).alloc (by simp) _).alloc (by simp; omega) _).alloc (by simp; omega) _)) ((unhide HY).later (((((Below.refl _ _).alloc (Nat.le_refl _) _).alloc (by simp) _).alloc (by simp; omega) _).alloc (by simp; omega) _))).mono ?_; rintro e w2 ⟨rfl, hb2⟩; have HB2 := hide (res4 (hb2.mono (by simp))); have b0 := (unhide HB2).c0; have b1 := (unhide HB2).c1; clear hb2))
      obtain ⟨bq, oq, rfl, hcq⟩ := unhide HC1 w2 (unhide HB2).below
      go_region_with (go_at_call 197; refine (unhide H82 _ _ (((unhide HX).later (unhide HB2).below).later ((Below.refl _ _).drew))).mono ?_; rintro e w3 ⟨a1, n1, c1, a2, n2, c2, rfl, hr1, hr2, hb3⟩; have hb3' : Below w2.heap.size w2 w3 := (Below.refl _ _).drew.trans hb3; have HB3 := hide ((unhide HB2).on (hb3'.mono (unhide HB2).size)); have HR := hide (And.intro hr1 hr2); clear hr1 hr2 hb3 hb3'; have b2 := (unhide HB3).c2; have f2 := (unhide HB3).f2; have b3 := (unhide HB3).c3; have f3 := (unhide HB3).f3)
      all_goals (
        obtain ⟨r1, r2, r3⟩ := (unhide HB3).done _ _ (unhide HR).1 (unhide HR).2
        go_wp2
        exact bodyPost_ret (v := .tuple #[.agg #[.slice a1 n1 c1], .agg #[.slice a2 n2 c2]]) (by simp [results, Tryz.results161, go_sem, b2, b3]) rfl ⟨_, _, _, _, _, _, rfl, r1, r2, r3⟩)
    · have hnB : 1000000000 ≤ n := by
        apply Decidable.byContradiction
        intro hc2
        have h2 : lq.length ≤ 1 := Cub.len_le hnq (by rw [hvq, Nat.pow_one]; omega)
        have h3 : lq = [] := List.length_eq_zero_iff.1 (by omega)
        rw [h3] at hvq
        have : Cub.lval 1000000000 [] = 0 := rfl
        omega
      have H83 := hide (hL hnB (by omega))
      have hone' : ((lq.length : Int) == 1) = false := by rw [beq_eq_false_iff_ne]; omega
      generalize lp.length = np at *
      generalize lq.length = nq at *
      clear hx hy hm hlp hrp hrq hnp hnq hvp hvq hL h1 HP hone
      go_enter Tryz.func161, Tryz.ntmps161
      go_wp2_with (first
        | (go_at_call 124; go_must (refine (unhide H50c _ ((unhide HX).later (((((Below.refl _ _).alloc (Nat.le_refl _) _).alloc (by simp) _).alloc (by simp; omega) _).alloc (by simp; omega) _)) ((unhide HY).later (((((Below.refl _ _).alloc (Nat.le_refl _) _).alloc (by simp) _).alloc (by simp; omega) _).alloc (by simp; omega) _))).mono ?_; rintro e w2 ⟨rfl, hb2⟩; have HB2 := hide (res4 (hb2.mono (by simp))); have b0 := (unhide HB2).c0; have b1 := (unhide HB2).c1; clear hb2))
        | (go_at_call 198; go_must (refine (unhide H83 _ _ _ ((unhide HX).later (unhide HB2).below) ((unhide HY).later (unhide HB2).below)).mono ?_; rintro e w3 ⟨a1, n1, c1, a2, n2, c2, rfl, hr1, hr2, hb3⟩; have HB3 := hide ((unhide HB2).on (hb3.mono (unhide HB2).size)); have HR := hide (And.intro hr1 hr2); clear hr1 hr2 hb3; have b2 := (unhide HB3).c2; have f2 := (unhide HB3).f2; have b3 := (unhide HB3).c3; have f3 := (unhide HB3).f3)))
      obtain ⟨r1, r2, r3⟩ := (unhide HB3).done _ _ (unhide HR).1 (unhide HR).2
      exact bodyPost_ret (v := .tuple #[.agg #[.slice a1 n1 c1], .agg #[.slice a2 n2 c2]]) (by simp [results, Tryz.results161, go_sem, b2, b3]) rfl ⟨_, _, _, _, _, _, rfl, r1, r2, r3⟩
end Go.Proofs.YtijifpbpjinmhaaGreatDoor
namespace Cub
/-- How far the guess has come: d is not too few; r is what is left of the head. -/
structure GuessInv (h w0 y1 y2 d r : Nat) : Prop where
  lt : d < 1000000000
  sum : r + d * y1 = h
  few : ∀ q, q < 1000000000 → q * y1 ≤ h → q * (y1 * 1000000000 + y2) ≤ h * 1000000000 + w0 → q ≤ d
theorem GuessInv.start (h w0 y1 y2 : Nat) (hy : 0 < y1) : GuessInv h w0 y1 y2 (min (h / y1) 999999999) (h - min (h / y1) 999999999 * y1) := by
  have h1 : min (h / y1) 999999999 * y1 ≤ h := Nat.le_trans (Nat.mul_le_mul_right _ (Nat.min_le_left _ _)) (Nat.div_mul_le_self h y1)
  refine ⟨by omega, by omega, fun q hq hqh _ => ?_⟩
  have h2 : q ≤ h / y1 := (Nat.le_div_iff_mul_le hy).2 hqh
  omega
theorem GuessInv.step {h w0 y1 y2 d r : Nat} (i : GuessInv h w0 y1 y2 d r) (hgt : r * 1000000000 + w0 < d * y2) : 1 ≤ d ∧ GuessInv h w0 y1 y2 (d - 1) (r + y1) := by
  have hd : 1 ≤ d := by
    rcases Nat.eq_zero_or_pos d with e | e
    · subst e; omega
    · exact e
  obtain ⟨e, rfl⟩ : ∃ e, d = e + 1 := ⟨d - 1, by omega⟩
  have h1 := i.sum
  have h2 := i.lt
  refine ⟨hd, by omega, ?_, fun q hq hqh hqm => ?_⟩
  · rw [Nat.add_sub_cancel]
    rw [Nat.add_mul, Nat.one_mul] at h1
    omega
  · have h3 := i.few q hq hqh hqm
    rcases Nat.lt_or_ge e q with h4 | h4
    · have h5 : q = e + 1 := by omega
      subst h5
      rw [Nat.mul_add, ← Nat.mul_assoc] at hqm
      have h6 := congrArg (· * 1000000000) h1
      simp only [Nat.add_mul (_ : Nat) _ 1000000000] at h6
      omega
    · omega
end Cub
namespace Go.Proofs.YtijifpbpjinmhaaGreatDoor
open Go.RowKit
theorem guess_min (h y d : Nat) (hB : h < 1000000000000000000) (hd : d = min (h / y) 999999999) :
    (if 999999999 < IntKind.u64.wrap ((h : Int) / (y : Int)) then (999999999 : Int) else IntKind.u64.wrap ((h : Int) / (y : Int))) = (d : Int) := by
  have h1 := Nat.div_le_self h y
  have e : (h : Int) / (y : Int) = ((h / y : Nat) : Int) := (Int.natCast_ediv h y).symm
  rw [e]
  generalize h / y = q at *
  have w1 : IntKind.u64.wrap (q : Int) = (q : Int) := by rw [IntKind.wrap_u64]; omega
  rw [w1, hd]
  split <;> omega
theorem guess_min' (h y d : Nat) (hB : h < 1000000000000000000) (hd : d = min (h / y) 999999999) :
    min (IntKind.u64.wrap ((h : Int) / (y : Int))) 999999999 = (d : Int) := by
  have h1 := guess_min h y d hB hd
  rw [← h1]
  split <;> omega
theorem guess_any (gw ow n cw : Nat) (ab : Option Addr) (cb w0 w1 w2 y1 y2 : Nat) (gb ob : Nat) (w : World) (hn : 2 ≤ n) (hn2 : n ≤ 10000000) (hcw : n + 1 ≤ cw)
    (hab : ab = some ⟨gb, ob, none⟩) (h2 : w.cell? ⟨gw, ow + n, none⟩ = some (.int .u64 (w2 : Int))) (h1 : w.cell? ⟨gw, ow + (n - 1), none⟩ = some (.int .u64 (w1 : Int))) (h0 : w.cell? ⟨gw, ow + (n - 2), none⟩ = some (.int .u64 (w0 : Int)))
    (k1 : w.cell? ⟨gb, ob + (n - 1), none⟩ = some (.int .u64 (y1 : Int))) (k2 : w.cell? ⟨gb, ob + (n - 2), none⟩ = some (.int .u64 (y2 : Int)))
    (l0 : w0 < 1000000000) (l1 : w1 < 1000000000) (l2 : w2 < 1000000000) (m1 : y1 < 1000000000) (m2 : y2 < 1000000000) (hy : 0 < y1) :
    Calls Tryz.prog 223 #[.slice (some ⟨gw, ow, none⟩) (n + 1) cw, .slice ab n cb] w fun e w' => ∃ d : Nat, e = .returned (.int .u64 (d : Int)) ∧ d < 1000000000 ∧ (∀ q, q < 1000000000 → q * y1 ≤ w2 * 1000000000 + w1 → q * (y1 * 1000000000 + y2) ≤ (w2 * 1000000000 + w1) * 1000000000 + w0 → q ≤ d) ∧ Below w.heap.size w w' := by
  subst hab
  obtain ⟨p, rfl⟩ : ∃ p, n = p + 2 := ⟨n - 2, by omega⟩
  rw [show p + 2 - 1 = p + 1 by omega] at h1 k1
  rw [show p + 2 - 2 = p by omega] at h0 k2
  obtain ⟨h, hh⟩ : ∃ h, h = w2 * 1000000000 + w1 := ⟨_, rfl⟩
  have hB : h < 1000000000000000000 := by omega
  have hhI : (w2 : Int) * 1000000000 + (w1 : Int) = (h : Int) := by omega
  have HG := hide (Cub.GuessInv.start h w0 y1 y2 hy)
  rw [← hh]
  have HHI := hide hhI
  clear hh hhI
  go_enter Tryz.func223, Tryz.ntmps223
  go_wp2
  have j1 : (p : Int) + 2 < (p : Int) + 2 + 1 := by omega
  have j2 : (p : Int) + 1 < (p : Int) + 2 + 1 := by omega
  have j3 : (p : Int) < (p : Int) + 2 + 1 := by omega
  have j4 : (p : Int) + 1 < (p : Int) + 2 := by omega
  have j5 : (p : Int) < (p : Int) + 2 := by omega
  go_quiet (fail)
  rw [unhide HHI]
  have hy0 : ¬ y1 = 0 := by omega
  go_upto_region 4 with fail
  obtain ⟨d0, hd0⟩ : ∃ d0, d0 = min (h / y1) 999999999 := ⟨_, rfl⟩
  first | rw [guess_min h y1 d0 hB hd0] | rw [guess_min' h y1 d0 hB hd0]
  rw [← hd0] at HG
  obtain ⟨m0, hm0⟩ : ∃ m0, m0 = d0 * y1 := ⟨_, rfl⟩
  have hmI : (d0 : Int) * (y1 : Int) = (m0 : Int) := by rw [hm0]; simp
  have hmh : m0 ≤ h := by have := (unhide HG).sum; rw [← hm0] at this; omega
  rw [← hm0] at HG
  clear hd0 hm0
  go_wp2
  go_loopw [7, 8] (fun a b wr => ∃ d r : Nat, a = .int .u64 (d : Int) ∧ b = .int .u64 (r : Int) ∧ r ≤ h ∧ Hid (Cub.GuessInv h w0 y1 y2 d r) ∧ Below w.heap.size w wr) (fun a _ _ => (intOf a).toNat)
  case atStart => exact ⟨d0, h - m0, rfl, by go_num, by omega, HG, below_drewN (Below.refl _ _) _⟩
  case round =>
    obtain ⟨d, r, rfl, rfl, hr, HI, hbl⟩ := hrel
    have h0' := (hbl.cell (p := ⟨gw, ow + p, none⟩) (World.block_lt_of_cell? _ _ h0)).trans h0
    have k1' := (hbl.cell (p := ⟨gb, ob + (p + 1), none⟩) (World.block_lt_of_cell? _ _ k1)).trans k1
    have k2' := (hbl.cell (p := ⟨gb, ob + p, none⟩) (World.block_lt_of_cell? _ _ k2)).trans k2
    clear hmI hmh HG
    have hdl := (unhide HI).lt
    obtain ⟨dy, hdy⟩ : ∃ dy, dy = d * y2 := ⟨_, rfl⟩
    have hdyI : (d : Int) * (y2 : Int) = (dy : Int) := by rw [hdy]; simp
    have hdyB : dy ≤ 999999999 * 999999999 := by rw [hdy]; exact Nat.mul_le_mul (by omega) (by omega)
    by_cases hrB : r < 1000000000
    · have hrd : decide ((r : Int) < 1000000000) = true := by rw [decide_eq_true_eq]; omega
      by_cases hgt : r * 1000000000 + w0 < dy
      · obtain ⟨hd1, hI'⟩ := (unhide HI).step (by rw [← hdy]; exact hgt)
        have HI' := hide hI'
        have hs := hI'.sum
        have hgI : decide ((r : Int) * 1000000000 + (w0 : Int) < (dy : Int)) = true := by rw [decide_eq_true_eq]; omega
        clear hI' hdy
        have hr2 : r + y1 ≤ h := by omega
        clear hs
        go_upto_region 5 with fail
        go_quiet (fail)
        go_wp2
        go_roundw
        case rel => exact ⟨d - 1, r + y1, by go_num, by go_num, hr2, HI', below_drewN hbl _⟩
        case measure => simp [intOf]; omega
      · have hgI : decide ((r : Int) * 1000000000 + (w0 : Int) < (dy : Int)) = false := by rw [decide_eq_false_iff_not]; omega
        clear hdy
        go_upto_region 5 with fail
        go_quiet (fail)
        go_wp2
        go_ret
        exact ⟨d, rfl, hdl, (unhide HI).few, below_drewN hbl _⟩
    · have hrd : decide ((r : Int) < 1000000000) = false := by rw [decide_eq_false_iff_not]; omega
      clear hdy
      go_upto_region 5 with fail
      go_quiet (fail)
      go_wp2
      go_ret
      exact ⟨d, rfl, hdl, (unhide HI).few, below_drewN hbl _⟩
end Go.Proofs.YtijifpbpjinmhaaGreatDoor
namespace Cub
theorem lval_cut (B : Nat) (l : List Nat) (k : Nat) (hk : k ≤ l.length) : lval B l = lval B (l.take k) + B ^ k * lval B (l.drop k) := by
  have e := lval_append B (l.take k) (l.drop k)
  rw [List.take_append_drop, List.length_take, Nat.min_eq_left hk] at e
  exact e
/-- Where the number is small the limbs above are noughts. -/
theorem drop_none {B : Nat} {l : List Nat} {k : Nat} (hk : k ≤ l.length) (h : lval B l < B ^ k) : lval B (l.drop k) = 0 ∧ lval B (l.take k) = lval B l := by
  have e := lval_cut B l k hk
  have h0 : lval B (l.drop k) = 0 := by
    rcases Nat.eq_zero_or_pos (lval B (l.drop k)) with h1 | h1
    · exact h1
    · have : B ^ k * 1 ≤ B ^ k * lval B (l.drop k) := Nat.mul_le_mul_left _ h1
      omega
  rw [h0, Nat.mul_zero] at e
  exact ⟨h0, by omega⟩
theorem limbs_take {B : Nat} {l : List Nat} (h : limbs B l) (k : Nat) : limbs B (l.take k) := fun x hx => h x (List.mem_of_mem_take hx)
theorem limbs_drop {B : Nat} {l : List Nat} (h : limbs B l) (k : Nat) : limbs B (l.drop k) := fun x hx => h x (List.mem_of_mem_drop hx)
/-- How far the division has come: from place j on the digits are found. -/
structure LongInv (M Y nr nd : Nat) (R D : List Nat) (j : Nat) : Prop where
  lenR : R.length = nr
  lenD : D.length = nd
  limR : limbs 1000000000 R
  limD : limbs 1000000000 D
  low : ∀ k, k < j → D.getD k 0 = 0
  sum : lval 1000000000 R + Y * lval 1000000000 D = M
  lt : lval 1000000000 R < Y * 1000000000 ^ j
/-- The window at a place: its number, and the digit that belongs there. -/
theorem LongInv.window {M Y nr nd nc : Nat} {R D : List Nat} {t : Nat} (h : LongInv M Y nr nd R D (t + 1)) (hY : Y < 1000000000 ^ nc) (hy : 0 < Y) (ht : t + nc + 1 ≤ nr) :
    lval 1000000000 ((R.drop t).take (nc + 1)) = lval 1000000000 (R.drop t) ∧ lval 1000000000 ((R.drop t).take (nc + 1)) / Y < 1000000000 ∧ lval 1000000000 (R.drop (t + nc + 1)) = 0 := by
  have hl : R.length = nr := h.lenR
  have e := lval_cut 1000000000 R t (by omega)
  have h1 := h.lt
  have hW : lval 1000000000 (R.drop t) < Y * 1000000000 := by
    apply Decidable.byContradiction
    intro hc
    have h2 : 1000000000 ^ t * (Y * 1000000000) ≤ 1000000000 ^ t * lval 1000000000 (R.drop t) := Nat.mul_le_mul_left _ (by omega)
    have h3 : 1000000000 ^ t * (Y * 1000000000) = Y * 1000000000 ^ (t + 1) := by rw [Nat.pow_succ, Nat.mul_left_comm]
    omega
  have hW2 : lval 1000000000 (R.drop t) < 1000000000 ^ (nc + 1) := by
    rw [Nat.pow_succ]
    exact Nat.lt_of_lt_of_le hW (Nat.mul_le_mul_right _ (Nat.le_of_lt hY))
  obtain ⟨d1, d2⟩ := drop_none (by rw [List.length_drop]; omega) hW2
  refine ⟨d2, ?_, ?_⟩
  · rw [d2, Nat.div_lt_iff_lt_mul hy, Nat.mul_comm]; exact hW
  · rw [List.drop_drop] at d1; rw [Nat.add_assoc]; exact d1
/-- One digit more. -/
theorem LongInv.step {M Y nr nd nc : Nat} {R D F : List Nat} {t q : Nat} (h : LongInv M Y nr nd R D (t + 1)) (hY : Y < 1000000000 ^ nc) (hy : 0 < Y) (ht : t + nc + 1 ≤ nr) (htd : t < nd)
    (hF : F.length = nc + 1) (hlF : limbs 1000000000 F) (hv : lval 1000000000 F + q * Y = lval 1000000000 ((R.drop t).take (nc + 1))) (hq : q = lval 1000000000 ((R.drop t).take (nc + 1)) / Y) :
    LongInv M Y nr nd (R.take t ++ (F ++ R.drop (t + nc + 1))) (D.set t q) t := by
  obtain ⟨w1, w2, w3⟩ := h.window hY hy ht
  have hl : R.length = nr := h.lenR
  have hqB : q < 1000000000 := by rw [hq]; exact w2
  have hFY : lval 1000000000 F < Y := by
    have h1 := Nat.div_add_mod (lval 1000000000 ((R.drop t).take (nc + 1))) Y
    have h2 := Nat.mod_lt (lval 1000000000 ((R.drop t).take (nc + 1))) hy
    rw [← hq, Nat.mul_comm] at h1
    omega
  have eR := lval_cut 1000000000 R t (by omega)
  have eN : lval 1000000000 (R.take t ++ (F ++ R.drop (t + nc + 1))) = lval 1000000000 (R.take t) + 1000000000 ^ t * lval 1000000000 F := by
    rw [lval_append, lval_append, w3, Nat.mul_zero, Nat.add_zero, List.length_take, Nat.min_eq_left (by omega)]
  have eD := lval_set 1000000000 D t q (by rw [h.lenD]; exact htd)
  have hD0 : D[t]'(by rw [h.lenD]; exact htd) = 0 := by
    have := h.low t (by omega)
    rw [List.getD_eq_getElem?_getD, List.getElem?_eq_getElem (by rw [h.lenD]; exact htd)] at this
    simpa using this
  rw [hD0, Nat.mul_zero, Nat.add_zero] at eD
  refine ⟨?_, by rw [List.length_set]; exact h.lenD, limbs_append.2 ⟨limbs_take h.limR _, limbs_append.2 ⟨hlF, limbs_drop h.limR _⟩⟩, limbs_set h.limD _ _ hqB, fun k hk => ?_, ?_, ?_⟩
  · simp [List.length_take, List.length_drop]; omega
  · have := h.low k (by omega)
    rw [List.getD_eq_getElem?_getD] at this ⊢
    rw [List.getElem?_set_ne (by omega)]; exact this
  · have hs := h.sum
    rw [eN, eD, ← hs, eR, ← w1, ← hv, Nat.mul_add, Nat.mul_add]
    have m1 : Y * (1000000000 ^ t * q) = 1000000000 ^ t * (q * Y) := by rw [Nat.mul_left_comm, Nat.mul_comm Y q]
    omega
  · rw [eN]
    have h1 : lval 1000000000 (R.take t) < 1000000000 ^ t := by
      have := lval_lt (limbs_take h.limR t)
      rwa [List.length_take, Nat.min_eq_left (by omega)] at this
    have h2 : 1000000000 ^ t * (lval 1000000000 F + 1) ≤ 1000000000 ^ t * Y := Nat.mul_le_mul_left _ hFY
    rw [Nat.mul_add, Nat.mul_one] at h2
    rw [Nat.mul_comm Y]
    omega
theorem LongInv.last {M Y nr nd : Nat} {R D : List Nat} (h : LongInv M Y nr nd R D 0) (_hy : 0 < Y) : lval 1000000000 D = M / Y ∧ lval 1000000000 R = M % Y := by
  have h1 := h.sum
  have h2 := h.lt
  rw [Nat.pow_zero, Nat.mul_one] at h2
  rw [← h1]
  refine ⟨?_, ?_⟩
  · rw [Nat.add_mul_div_left _ _ (by omega), Nat.div_eq_of_lt h2, Nat.zero_add]
  · rw [Nat.add_mul_mod_self_left, Nat.mod_eq_of_lt h2]
/-- The first guess is not too few. -/
theorem guess_bound {nc : Nat} {W Y : List Nat} {q : Nat} (hn : 2 ≤ nc) (hW : W.length = nc + 1) (hY : Y.length = nc) (hlW : limbs 1000000000 W) (_hlY : limbs 1000000000 Y) (hq : q * lval 1000000000 Y ≤ lval 1000000000 W) :
    q * Y.getD (nc - 1) 0 ≤ W.getD nc 0 * 1000000000 + W.getD (nc - 1) 0 ∧
    q * (Y.getD (nc - 1) 0 * 1000000000 + Y.getD (nc - 2) 0) ≤ (W.getD nc 0 * 1000000000 + W.getD (nc - 1) 0) * 1000000000 + W.getD (nc - 2) 0 := by
  obtain ⟨p, rfl⟩ : ∃ p, nc = p + 2 := ⟨nc - 2, by omega⟩
  rw [show p + 2 - 1 = p + 1 by omega, show p + 2 - 2 = p by omega]
  have cut2 (l : List Nat) (k : Nat) (hk : l.length = p + k) : lval 1000000000 l = lval 1000000000 (l.take p) + 1000000000 ^ p * lval 1000000000 (l.drop p) := lval_cut 1000000000 l p (by omega)
  have dW : lval 1000000000 (W.drop p) = W.getD p 0 + 1000000000 * (W.getD (p + 1) 0 + 1000000000 * W.getD (p + 2) 0) := by
    rw [List.drop_eq_getElem_cons (show p < W.length by omega), List.drop_eq_getElem_cons (show p + 1 < W.length by omega), List.drop_eq_getElem_cons (show p + 1 + 1 < W.length by omega), List.drop_of_length_le (by omega)]
    simp [lval, List.getD, show p < W.length by omega, show p + 1 < W.length by omega, show p + 2 < W.length by omega]
  have dY : lval 1000000000 (Y.drop p) = Y.getD p 0 + 1000000000 * Y.getD (p + 1) 0 := by
    rw [List.drop_eq_getElem_cons (show p < Y.length by omega), List.drop_eq_getElem_cons (show p + 1 < Y.length by omega), List.drop_of_length_le (by omega)]
    simp [lval, List.getD, show p < Y.length by omega, show p + 1 < Y.length by omega]
  have cW := cut2 W 3 hW
  have cY := cut2 Y 2 hY
  have tW : lval 1000000000 (W.take p) < 1000000000 ^ p := by
    have := lval_lt (limbs_take hlW p)
    rwa [List.length_take, Nat.min_eq_left (by omega)] at this
  have ha0 : W.getD p 0 < 1000000000 := by
    rw [List.getD_eq_getElem?_getD, List.getElem?_eq_getElem (show p < W.length by omega)]
    exact hlW _ (List.getElem_mem _)
  generalize W.getD p 0 = a0 at *
  generalize W.getD (p + 1) 0 = a1 at *
  generalize W.getD (p + 2) 0 = a2 at *
  generalize Y.getD p 0 = b0 at *
  generalize Y.getD (p + 1) 0 = b1 at *
  have key : q * (b0 + 1000000000 * b1) ≤ a0 + 1000000000 * (a1 + 1000000000 * a2) := by
    apply Decidable.byContradiction
    intro hc
    have h1 : 1000000000 ^ p * (a0 + 1000000000 * (a1 + 1000000000 * a2) + 1) ≤ 1000000000 ^ p * (q * (b0 + 1000000000 * b1)) := Nat.mul_le_mul_left _ (by omega)
    have h2 : 1000000000 ^ p * (q * (b0 + 1000000000 * b1)) ≤ q * lval 1000000000 Y := by
      rw [cY, dY, Nat.mul_left_comm]
      exact Nat.mul_le_mul_left _ (Nat.le_add_left _ _)
    rw [dW] at cW
    rw [Nat.mul_add (1000000000 ^ p) _ 1] at h1
    omega
  have e1 : q * (b0 + 1000000000 * b1) = q * b0 + 1000000000 * (q * b1) := by rw [Nat.mul_add, Nat.mul_left_comm]
  have e2 : q * (b1 * 1000000000 + b0) = q * b0 + 1000000000 * (q * b1) := by rw [← e1]; congr 1; omega
  rw [e2]
  rw [e1] at key
  generalize q * b1 = u at *
  generalize q * b0 = v at *
  exact ⟨by omega, by omega⟩
end Cub
namespace Go
open Go.RowKit in
theorem wpList_copy_far {P : Program} {w : World} {ops : Array Oper} {rest : List Oper} {o : Oper} {a : Act} {Q : Exit → Act → World → Prop} (hgd : o.guard = none) (d s : Operand) (dT sT : TypeId)
    (ho : o.op = .call { callee := .builtin .copy, args := #[d, s], argTypes := #[dT, sT] }) (elem : TypeId) (hu : P.underlying dT = some (.slice elem)) (hsz : (P.info? elem).map (·.size) = some 1)
    (dp sp : Option Addr) (dLen dCap sLen sCap : Nat) (hd : a.eval d = .slice dp dLen dCap) (hs : a.eval s = .slice sp sLen sCap)
    (g off : Nat) (cur : List Value) (t : TypeId) (hg : w.heap[g]? = some (.cells cur.toArray t (0, 0))) (cs : List Value) (hn : cs.length = Nat.min sLen dLen)
    (hpos : 0 < cs.length → dp = some ⟨g, off, none⟩ ∧ ∃ ad, sp = some ad ∧ ∀ j v, cs[j]? = some v → w.cell? (ad.add j) = some v)
    (hfit : off + cs.length ≤ cur.length) (h1 : ∀ v ∈ cs, v.oneCell' = true)
    (h : ∀ w', Hid (w'.heap[g]? = some (.cells (splice cur off cs).toArray t (0, 0))) → Hid (Below g w w' ∧ ∀ k, k ≠ g → w'.heap[k]? = w.heap[k]?) → wpList P ops Q rest (a.put o.dst (goInt cs.length)) w') :
    wpList P ops Q (o :: rest) a w := by
  by_cases h0 : cs.length = 0
  · obtain rfl : cs = [] := List.eq_nil_of_length_eq_zero h0
    refine wpList_copy_nothing hgd d s dT sT ho elem hu hsz dp sp dLen dCap sLen sCap hd hs (by simpa using hn.symm) ?_
    exact h w (show _ = _ by simpa [splice] using hg) ⟨Below.refl _ _, fun _ _ => rfl⟩
  · obtain ⟨rfl, ad, rfl, hsrc⟩ := hpos (by omega)
    refine wpList_copy_own hgd d s dT sT ho elem hu hsz g off dLen dCap ad sLen sCap hd hs cur.toArray t hg cs hn hsrc (by simpa using hfit) h1 ?_
    exact h _ (show _ = _ by simpa [splice] using setRow_heap w g _ _ t _ hg) ⟨below_setRow (Below.refl _ _) (Nat.le_refl _) _, fun k hk => setRow_other w g k _ hk⟩
end Go
namespace Go.Proofs.YtijifpbpjinmhaaGreatDoor
open Go.RowKit
theorem Own.setOther {w : World} {g : Nat} {l : List Nat} {p : Addr} {v : Value} (h : Own w g l) (hne : p.block ≠ g) : Own (w.setCell p v) g l := by
  unfold Own at h ⊢
  simp only [World.setCell, Array.getElem?_modify, h]
  simp [hne]
/-- What stands in the long division: blocks below that of the rest as they were, the rest, the digits, the window. -/
structure LongSt (w2 wr : World) (gd gn : Nat) (R D N : List Nat) : Prop where
  old : Below w2.heap.size w2 wr
  rest : Own wr w2.heap.size R
  digs : Own wr gd D
  win : Own wr gn N
theorem LongSt.later {w2 wr wr' : World} {gd gn : Nat} {R D N : List Nat} (h : LongSt w2 wr gd gn R D N) (hb : Below wr.heap.size wr wr') : LongSt w2 wr' gd gn R D N :=
  ⟨h.old.trans (hb.mono h.old.size), h.rest.later hb h.rest.lt, h.digs.later hb h.digs.lt, h.win.later hb h.win.lt⟩
theorem LongSt.window {w2 wr wr' : World} {gd gn : Nat} {R D N N' : List Nat} (h : LongSt w2 wr gd gn R D N) (h1 : w2.heap.size < gn) (h2 : gd < gn) (hb : Below gn wr wr') (hN : Own wr' gn N') : LongSt w2 wr' gd gn R D N' :=
  ⟨h.old.trans (hb.mono (by omega)), h.rest.below hb h1, h.digs.below hb h2, hN⟩
theorem LongSt.fill {w2 wr wr' : World} {gd gn : Nat} {R R' D N : List Nat} (h : LongSt w2 wr gd gn R D N) (h1 : w2.heap.size ≠ gn) (h2 : gd ≠ w2.heap.size) (hb : Below w2.heap.size wr wr' ∧ ∀ k, k ≠ w2.heap.size → wr'.heap[k]? = wr.heap[k]?) (hR : Own wr' w2.heap.size R') : LongSt w2 wr' gd gn R' D N :=
  ⟨h.old.trans hb.1, hR, (hb.2 gd h2).trans h.digs, (hb.2 gn (fun e => h1 e.symm)).trans h.win⟩
theorem LongSt.digit {w2 wr : World} {gd gn : Nat} {R D N : List Nat} (h : LongSt w2 wr gd gn R D N) (h1 : w2.heap.size < gd) (h2 : gd ≠ gn) (t q : Nat) (z : Int) (hz : z = (q : Int)) : LongSt w2 (wr.setCell ⟨gd, t, none⟩ (.int .u64 z)) gd gn R (D.set t q) N := by
  subst hz
  exact ⟨h.old.setCell (by simp; omega) _, h.rest.setOther (by simp; omega), h.digs.set t q, h.win.setOther (by simp; omega)⟩
theorem long_scale (n top nq : Nat) (l : List Nat) (hl : Cub.normal 1000000000 l) (hv : Cub.lval 1000000000 l = n) (hq : l.length = nq + 1) (ht : top = l.getD nq 0) :
    0 < top ∧ top < 1000000000 ∧ 0 < 1000000000 / (top + 1) ∧ 1000000000 / (top + 1) < 1000000000 ∧ n * (1000000000 / (top + 1)) < 1000000000 ^ (nq + 1) ∧ 1000000000 ^ nq ≤ n * (1000000000 / (top + 1)) := by
  obtain ⟨t, x, rfl⟩ := Cub.split_last (show l ≠ [] by intro e; rw [e] at hq; simp at hq)
  obtain ⟨h1, h2, h3⟩ := Cub.normal_last hl
  have hlen : t.length = nq := by simpa using hq
  have hx : top = x := by rw [ht, ← hlen]; simp [List.getD]
  subst hx
  have hs : 0 < 1000000000 / (top + 1) := Nat.div_pos (by omega) (by omega)
  have hs2 : 1000000000 / (top + 1) * (top + 1) ≤ 1000000000 := Nat.div_mul_le_self _ _
  have hs3 : 1000000000 / (top + 1) < 1000000000 := Nat.div_lt_self (by decide) (by omega)
  have hn : n = Cub.lval 1000000000 t + 1000000000 ^ nq * top := by rw [← hv, Cub.lval_snoc, hlen]
  have htl := Cub.lval_lt h1
  rw [hlen] at htl
  generalize 1000000000 / (top + 1) = s at *
  refine ⟨h2, h3, hs, hs3, ?_, ?_⟩
  · have h4 : n + 1 ≤ 1000000000 ^ nq * (top + 1) := by rw [Nat.mul_add, Nat.mul_one]; omega
    have h5 : (n + 1) * s ≤ 1000000000 ^ nq * (top + 1) * s := Nat.mul_le_mul_right _ h4
    have h6 : 1000000000 ^ nq * (top + 1) * s ≤ 1000000000 ^ nq * 1000000000 := by
      rw [Nat.mul_assoc, Nat.mul_comm (top + 1)]
      exact Nat.mul_le_mul_left _ hs2
    rw [Nat.add_mul, Nat.one_mul] at h5
    rw [Nat.pow_succ]
    omega
  · have h4 : 1000000000 ^ nq * 1 ≤ 1000000000 ^ nq * top := Nat.mul_le_mul_left _ h2
    have h5 : n * 1 ≤ n * s := Nat.mul_le_mul_left _ hs
    omega
theorem len_between {l : List Nat} {n k : Nat} (h : Cub.normal 1000000000 l) (hv : Cub.lval 1000000000 l = n) (h1 : 1000000000 ^ k ≤ n) (h2 : n < 1000000000 ^ (k + 1)) : l.length = k + 1 := by
  have a := Cub.len_le h (by rw [hv]; exact h2)
  apply Decidable.byContradiction
  intro hc
  have b := Cub.lval_lt h.1
  have c : 1000000000 ^ l.length ≤ 1000000000 ^ k := Nat.pow_le_pow_right (by decide) (by omega)
  omega
theorem IsBig.at {w : World} {a : Option Addr} {n c : Nat} {v : Nat} (h : IsBig w (.agg #[.slice a n c]) v) : ∃ l, n = l.length ∧ l.length ≤ c ∧ c ≤ 9223372036854775807 ∧ Cub.normal 1000000000 l ∧ Cub.lval 1000000000 l = v ∧ Cells w a l := by
  obtain ⟨s, l, e, hr, hn, hv⟩ := h
  simp only [Value.agg.injEq, Array.mk.injEq, List.cons.injEq, and_true] at e
  subst e
  obtain ⟨h1, h2, h3, h4⟩ := hr.cells
  exact ⟨l, h1, by omega, h3, hn, hv, h4⟩
end Go.Proofs.YtijifpbpjinmhaaGreatDoor

/- The document's fits: how often a number goes into another from a place on. -/
import Derived.Test.YthcihkgellginaaDoorRefLess
namespace Cub
/-- The search: low goes, high + 1 does not (or is too great). -/
structure FitInv (X V low high : Nat) : Prop where
  le : low ≤ high
  top : high ≤ 9999
  lo : V * low ≤ X
  hi : high < 9999 → X < V * (high + 1)
theorem FitInv.start (X V : Nat) : FitInv X V 0 9999 := ⟨by omega, by omega, by simp, fun h => by omega⟩
theorem FitInv.down {X V low high q : Nat} (h : FitInv X V low high) (h1 : low < q) (h2 : q ≤ high) (hlt : X < V * q) : FitInv X V low (q - 1) :=
  ⟨by omega, by have := h.top; omega, h.lo, fun _ => by rw [show q - 1 + 1 = q by omega]; exact hlt⟩
theorem FitInv.up {X V low high q : Nat} (h : FitInv X V low high) (h2 : q ≤ high) (hge : ¬ X < V * q) : FitInv X V q high :=
  ⟨h2, h.top, by omega, h.hi⟩
theorem FitInv.done {X V q : Nat} (h : FitInv X V q q) (h9 : X / V ≤ 9999) (hV : 0 < V) : q = X / V := by
  have h1 : q ≤ X / V := (Nat.le_div_iff_mul_le hV).2 (by rw [Nat.mul_comm]; exact h.lo)
  rcases Nat.lt_or_ge q 9999 with hq | hq
  · have h2 := h.hi hq
    have h3 : X / V < q + 1 := (Nat.div_lt_iff_lt_mul hV).2 (by rw [Nat.mul_comm]; exact h2)
    omega
  · omega
end Cub
namespace Go.Proofs.YthcihkgellginaaDoor
open Go.RowKit

theorem OwnI.one (w : World) (q : Nat) : OwnI (w.alloc (.cells #[.int .i64 (q : Int)] 3)) w.heap.size (.slice (some ⟨w.heap.size, 0, none⟩) 1 1) [q] := by
  refine ⟨rfl, Or.inr ⟨w.heap.size, 1, #[.int .i64 (q : Int)], rfl, Nat.le_refl _, heap_alloc_new w _, Nat.le_refl _, by unfold maxLen; omega, rfl, rfl⟩⟩

set_option maxRecDepth 100000 in
set_option maxHeartbeats 1000000 in
theorem refFits_any (vx vy : Value) (bx by' : Nat) (X Y : List Nat) (up Q : Nat) (w : World) (hx : OwnI w bx vx X) (hy : OwnI w by' vy Y) (hlx : Cub.limbs 10000 X) (hny : Cub.normal 10000 Y) (hl : X.length ≤ 1000000) (hly : Y.length ≤ 100000) (hup : up < X.length)
    (h9 : Cub.lval 10000 (X.drop up) / Cub.lval 10000 Y ≤ 9999) (hV : 0 < Cub.lval 10000 Y) (hQ : Q = Cub.lval 10000 (X.drop up) / Cub.lval 10000 Y) :
    Calls Tryd.prog 86 #[vx, vy, .int .i64 (up : Int)] w fun e w' => e = .returned (.int .i64 (Q : Int)) ∧ Below w.heap.size w w' := by
  obtain ⟨ax, cx, rfl, hcx, hmx, hcells⟩ := hx.open
  obtain ⟨gx, rfl, hc0⟩ := hcells w (Below.refl _ _) 0 (by omega)
  clear hcells hc0
  have HR : Hid (RowI w (.slice (some ⟨gx, up, none⟩) (X.length - up) (cx - up)) (X.drop up)) := (RowI.of_own hx).drop up hup
  obtain ⟨t1, t2, _⟩ := Cub.lval_trim 10000 _ (X.drop up) rfl
  have HT : Hid (Cub.normal 10000 (Cub.trimN (X.drop up)) ∧ Cub.lval 10000 (Cub.trimN (X.drop up)) = Cub.lval 10000 (X.drop up)) := ⟨t2 (Cub.limbs_drop4 hlx up), t1⟩
  have HY := hide hy
  have HF : Hid (∀ q, Cub.FitInv (Cub.lval 10000 (X.drop up)) (Cub.lval 10000 Y) q q → q = Q) := fun q h => by rw [hQ]; exact h.done h9 hV
  have H81 : Hid (∀ (q : Nat) (W : World), q < 10000 → OwnI W by' vy Y → Calls Tryd.prog 81 #[vy, .slice (some ⟨W.heap.size, 0, none⟩) 1 1] (W.alloc (.cells #[.int .i64 (q : Int)] 3)) fun e w' => ∃ v l, e = .returned v ∧ RowI w' v l ∧ Cub.normal 10000 l ∧ Cub.lval 10000 l = Cub.lval 10000 Y * q ∧ Below W.heap.size W w') := fun q W hq hW => by
    refine (refTimes_any vy _ by' W.heap.size Y [q] _ (hW.later ((Below.refl _ _).alloc (Nat.le_refl _) _)) (OwnI.one W q) hny.1 (fun z hz => by rw [List.mem_singleton] at hz; omega) (by omega) (by simp)).mono ?_
    rintro e w' ⟨v, l, he, ho, hn, hv, _, hb⟩
    exact ⟨v, l, he, RowI.of_own ho, hn, by rw [hv]; simp [Cub.lval], ((Below.refl _ _).alloc (Nat.le_refl _) _).trans (hb.mono (by simp))⟩
  generalize Cub.lval 10000 (X.drop up) = XU at *
  generalize Cub.lval 10000 Y = V at *
  generalize X.length = n at *
  clear hx hy hlx hny hly h9 hV hQ t1 t2
  go_enter Tryd.func86, Tryd.ntmps86
  go_wp2
  go_loopw [7, 8] (fun a b wr => ∃ low high : Nat, a = .int .i64 (low : Int) ∧ b = .int .i64 (high : Int) ∧ low ≤ high ∧ high ≤ 9999 ∧ Hid (Cub.FitInv XU V low high) ∧ Hid (Below w.heap.size w wr)) (fun a b _ => (intOf b - intOf a).toNat)
  case atStart => exact ⟨0, 9999, rfl, rfl, by omega, by omega, Cub.FitInv.start XU V, Below.refl _ _⟩
  case round =>
    obtain ⟨low, high, rfl, rfl, hle, htop, HI, HW⟩ := hrel
    by_cases hlt : low < high
    · obtain ⟨q, hq⟩ : ∃ q, q = (low + high + 1) / 2 := ⟨_, rfl⟩
      have hq' : ((low : Int) + (high : Int) + 1) / 2 = (q : Int) := by omega
      have hq1 : low < q := by omega
      have hq2 : q ≤ high := by omega
      have HWW := hide ((unhide HY).later (unhide HW))
      have H81q := hide (unhide H81 q wr (by omega) (unhide HWW))
      clear hq
      by_cases hc : XU < V * q
      all_goals go_wp2_with (first
        | (go_at_call 81; go_must (refine (unhide H81q).mono ?_; rintro e w2 ⟨vp, lp, rfl, hrp, hnp, hvp, hb2⟩; have HP := hide (And.intro hrp (And.intro hnp hvp)); have HW2 := hide ((unhide HW).trans (hb2.mono (unhide HW).size)); clear hrp hnp hvp hb2))
        | (go_at_call 77; go_must (refine (refTrimRow_any _ (X.drop up) w2 ((unhide HR).later (unhide HW2))).mono ?_; rintro e w3 ⟨vt, rfl, hrt, hw3⟩; rw [hw3]; clear hw3; have H85 := hide (refLess_any vt vp (Cub.trimN (X.drop up)) lp w2 hrt (unhide HP).1 (unhide HT).1 (unhide HP).2.1); rw [(unhide HT).2, (unhide HP).2.2] at H85; clear hrt))
        | (go_at_call 85; go_must (refine (unhide H85).mono ?_; rintro e w4 ⟨rfl, hb4⟩; have HW4 := hide ((unhide HW2).trans (hb4.mono (unhide HW2).size)); clear hb4)))
      · go_roundw
        case rel => exact ⟨low, q - 1, rfl, by go_num, by omega, by omega, (unhide HI).down hq1 hq2 hc, HW4⟩
        case measure => simp [intOf]; omega
      · go_roundw
        case rel => exact ⟨q, high, rfl, rfl, by omega, by omega, (unhide HI).up hq2 hc, HW4⟩
        case measure => simp [intOf]; omega
    · have hie : low = high := by omega
      subst hie
      have HV := hide (unhide HF low (unhide HI))
      clear HF
      go_wp2
      go_ret
      exact ⟨by rw [← unhide HV]; rfl, unhide HW⟩
end Go.Proofs.YthcihkgellginaaDoor

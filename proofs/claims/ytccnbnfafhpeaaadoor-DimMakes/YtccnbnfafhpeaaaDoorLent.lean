/- The law's lent and kept: dimensions in memory, lent and held against what they were. -/
import Derived.Test.YtccnbnfafhpeaaaDoorMem
import Derived.Test.YtccnbnfafhpeaaaDoorPrint
import Derived.Laws.AppendOwnNone
import Derived.Deep.Cut
namespace Go.Proofs.YtccnbnfafhpeaaaDoor
open Go.RowKit

/-- A slice's dimensions, if it has any. -/
def InD (w : World) (a : Option Addr) (n : Nat) (X : Nat → Nat → Int) : Prop := 0 < n → ∃ b o, a = some ⟨b, o, none⟩ ∧ Dims w b o n X
theorem InD.later {w w' : World} {a : Option Addr} {n : Nat} {X : Nat → Nat → Int} (h : InD w a n X) (hb : Below w.heap.size w w') : InD w' a n X := fun hn => by
  obtain ⟨b, o, e, hd⟩ := h hn
  exact ⟨b, o, e, hd.later hb⟩
/-- All exponents, one behind the other. -/
def rowCells (X : Nat → Nat → Int) (n : Nat) : List Value := (List.range (n * 8)).map fun q => Value.int .i64 (X (q / 8) (q % 8))
theorem rowCells_len (X : Nat → Nat → Int) (n : Nat) : (rowCells X n).length = n * 8 := by simp [rowCells]
theorem rowCells_get (X : Nat → Nat → Int) (n i j : Nat) (hi : i < n) (hj : j < 8) : (rowCells X n)[i * 8 + j]? = some (.int .i64 (X i j)) := by
  unfold rowCells
  rw [List.getElem?_map, List.getElem?_range (by omega)]
  simp only [Option.map_some]
  rw [show (i * 8 + j) / 8 = i by omega, show (i * 8 + j) % 8 = j by omega]
theorem rowCells_one (X : Nat → Nat → Int) (n : Nat) : ∀ u ∈ rowCells X n, u.oneCell' = true := by
  intro u hu
  unfold rowCells at hu
  obtain ⟨q, _, rfl⟩ := List.mem_map.1 hu
  rfl
theorem inD_news {w : World} {ad : Addr} {n : Nat} {X : Nat → Nat → Int} (h : InD w (some ad) n X) : ∀ j u, (rowCells X n)[j]? = some u → w.cell? (ad.add j) = some u := by
  intro j u hu
  have hj : j < n * 8 := by have := (List.getElem?_eq_some_iff.1 hu).1; rw [rowCells_len] at this; exact this
  obtain ⟨b, o, e, hd⟩ := h (by omega)
  cases e
  have hq : (rowCells X n)[j / 8 * 8 + j % 8]? = some (.int .i64 (X (j / 8) (j % 8))) := rowCells_get X n (j / 8) (j % 8) (by omega) (by omega)
  rw [show j / 8 * 8 + j % 8 = j by omega] at hq
  rw [hq, Option.some.injEq] at hu
  subst hu
  have hc := hd.2 (j / 8) (by omega) (j % 8) (by omega)
  rw [show o + j / 8 * 8 + j % 8 = o + j by omega] at hc
  rw [← hc]
  simp only [Addr.add]
  split
  · rename_i hj0; subst hj0; rfl
  · rfl
def markL : List Value := [.int .i64 0, .int .i64 0, .int .i64 0, .int .i64 0, .int .i64 0, .int .i64 0, .int .i64 0, .int .i64 4321]
theorem markL_one : ∀ u ∈ markL, u.oneCell' = true := by
  intro u hu
  simp only [markL, List.mem_cons, List.not_mem_nil, or_false] at hu
  rcases hu with rfl | rfl | rfl | rfl | rfl | rfl | rfl | rfl <;> rfl
/-- What was lent: the dimensions, and the mark behind them. -/
def LentD (w : World) (v : Value) (n : Nat) (X : Nat → Nat → Int) : Prop := ∃ g cap, v = .slice (some ⟨g, 0, none⟩) n cap ∧ n + 1 ≤ cap ∧ cap ≤ 9223372036854775807 ∧ Dims w g 0 n X ∧ ∀ j u, markL[j]? = some u → w.cell? ⟨g, n * 8 + j, none⟩ = some u
theorem lent_of {w : World} {base : Nat} {v : Value} {n : Nat} {X : Nat → Nat → Int} (h : w.ownsRow base 24 8 v (n + 1) (rowCells X n ++ markL)) :
    ∃ g cap, v = .slice (some ⟨g, 0, none⟩) (n + 1) cap ∧ n + 1 ≤ cap ∧ cap ≤ 9223372036854775807 ∧ Dims w g 0 n X ∧ ∀ j u, markL[j]? = some u → w.cell? ⟨g, n * 8 + j, none⟩ = some u := by
  obtain ⟨hx, h2⟩ := h
  rcases h2 with ⟨e, h0⟩ | ⟨g, cap, cur, rfl, hb, hg, hcap, hmax, hsz, htk⟩
  · omega
  · have hcell : ∀ q u, (rowCells X n ++ markL)[q]? = some u → w.cell? ⟨g, q, none⟩ = some u := by
      intro q u hu
      rw [← htk, List.getElem?_take] at hu
      split at hu
      · simp [World.cell?, hg]; simpa using hu
      · cases hu
    refine ⟨g, cap, rfl, hcap, hmax, ⟨(Array.getElem?_eq_some_iff.1 hg).1, fun i hi j hj => ?_⟩, fun j u hu => ?_⟩
    · rw [Nat.zero_add]
      refine hcell _ _ ?_
      rw [List.getElem?_append_left (by rw [rowCells_len]; omega)]
      exact rowCells_get X n i j hi hj
    · refine hcell _ _ ?_
      rw [List.getElem?_append_right (by rw [rowCells_len]; omega), rowCells_len, show n * 8 + j - n * 8 = j by omega]
      exact hu
theorem Tryd.info24x : (Tryd.prog.info? 24).map (fun i => (i.zero, i.size, i.bytes)) = some (some (.agg #[.int .i64 0, .int .i64 0, .int .i64 0, .int .i64 0, .int .i64 0, .int .i64 0, .int .i64 0, .int .i64 0]), 8, 64) := by kernel_rfl
theorem cell_mark_new (w : World) : ∀ j u, markL[j]? = some u → (w.alloc (.cells #[.int .i64 0, .int .i64 0, .int .i64 0, .int .i64 0, .int .i64 0, .int .i64 0, .int .i64 0, .int .i64 4321] 24)).cell? ((⟨w.heap.size, 0, none⟩ : Addr).add j) = some u := by
  intro j u hu
  rw [Go.WideShapes.add_plain, Nat.zero_add]
  have h : (w.alloc (.cells #[.int .i64 0, .int .i64 0, .int .i64 0, .int .i64 0, .int .i64 0, .int .i64 0, .int .i64 0, .int .i64 4321] 24)).heap[w.heap.size]? = _ := heap_alloc_new w _
  simp only [World.cell?, h]
  simpa [markL] using hu

set_option maxRecDepth 100000 in
set_option maxHeartbeats 800000 in
theorem lent_any (a : Option Addr) (n cap : Nat) (X : Nat → Nat → Int) (w : World) (hmax : n ≤ 2199023255500) (hnil : a = none → n = 0 ∧ cap = 0) (hc : InD w a n X) :
    Calls Tryd.prog 9 #[.slice a n cap] w fun e w' => ∃ v, e = .returned v ∧ LentD w' v n X ∧ Below w.heap.size w w' := by
  obtain ⟨i0, hi, hz0, hz1, hz2⟩ := info_parts Tryd.info24x
  cases a with
  | none =>
    obtain ⟨rfl, rfl⟩ := hnil rfl
    clear hc hnil
    go_enter Tryd.func9, Tryd.ntmps9
    go_wp2_with (first
      | (at_builtin; refine wpList_append_own_none rfl _ _ 22 rfl w.heap.size 24 i0 8 Tryd.underlying22 hi _ 0 [] rfl (World.ownsRow_nil _ _ _ _) rfl ?_)
      | (at_builtin; go_must (refine wpList_append_own _ rfl _ _ 22 rfl w.heap.size 24 i0 _ 8 64 Tryd.underlying22 hi hz0 hz1 hz2 rfl (by decide) _ 0 [] rfl (World.ownsRow_nil _ _ _ _) ⟨w.heap.size, 0, none⟩ 1 1 markL rfl rfl (cell_mark_new _) markL_one (by unfold maxLen; omega) (by omega) (by simp) ?_; intro v' w1 hown hgrow hnil; obtain ⟨g, cap2, rfl, hg1, hg2, hd, hmk⟩ := lent_of (X := X) (n := 0) hown)))
    go_ret
    exact ⟨_, rfl, ⟨g, cap2, rfl, hg1, hg2, hd, hmk⟩, ((Below.refl _ _).alloc (Nat.le_refl _) _).grown hgrow (by simp) (fun k hk => by cases hk)⟩
  | some ad =>
    have HNew := hide (inD_news hc)
    clear hc hnil
    go_enter Tryd.func9, Tryd.ntmps9
    go_wp2_with (first
      | (at_builtin; refine wpList_append_own _ rfl _ _ 22 rfl w.heap.size 24 i0 _ 8 64 Tryd.underlying22 hi hz0 hz1 hz2 rfl (by decide) (.slice none 0 0) 0 [] rfl (World.ownsRow_nil _ _ _ _) ad n cap (rowCells X n) rfl (rowCells_len X n) (unhide HNew) (rowCells_one X n) (by unfold maxLen; omega) (by omega) (Nat.le_refl _) ?_; intro v1 w1 hown1 hgrow1 hnil1; simp only [Nat.zero_add, List.nil_append] at hown1; have hb1 : Below w.heap.size w w1 := (Below.refl _ _).grown hgrow1 (Nat.le_refl _) (fun k hk => by cases hk); clear hnil1 hgrow1)
      | (at_builtin; go_must (refine wpList_append_own _ rfl _ _ 22 rfl w.heap.size 24 i0 _ 8 64 Tryd.underlying22 hi hz0 hz1 hz2 rfl (by decide) _ n (rowCells X n) rfl (hown1.alloc _) ⟨w1.heap.size, 0, none⟩ 1 1 markL rfl rfl (cell_mark_new _) markL_one (by unfold maxLen; omega) (by omega) (by have := hb1.size; simp at this ⊢; omega) ?_; intro v' w2 hown hgrow hnil; have hb2 := (hb1.alloc hb1.size _).grown hgrow (by have := hb1.size; simp at this ⊢; omega) (fun j hj => (hown1.lt j hj).1); obtain ⟨g, cap2, rfl, hg1, hg2, hd, hmk⟩ := lent_of hown; clear hnil hgrow)))
    go_ret
    exact ⟨_, rfl, ⟨g, cap2, rfl, hg1, hg2, hd, hmk⟩, hb2⟩
end Go.Proofs.YtccnbnfafhpeaaaDoor

/- A copy of elements of several cells. -/
import Derived.Test.YtlbfpjamfmghlaaDoorMulMath
import Derived.Test.YtlbfpjamfmghlaaDoorGcdSmall
import Derived.Test.YtlbfpjamfmghlaaDoorCmp
import Derived.Laws.IdiomCopy
namespace Go.Proofs.YtlbfpjamfmghlaaDoor
open Go.RowKit

/-- Two Fracs in their boxes. -/
structure F2 (w W : World) (x0 x1 x2 y0 y1 y2 : Value) : Prop where
  x : FBox W w.heap.size x0 x1 x2
  y : FBox W (w.heap.size + 1) y0 y1 y2
  below : Below w.heap.size w W
theorem F2.later {w W V : World} {x0 x1 x2 y0 y1 y2 : Value} (s : F2 w W x0 x1 x2 y0 y1 y2) (hb : Below W.heap.size W V) : F2 w V x0 x1 x2 y0 y1 y2 :=
  ⟨s.x.later hb, s.y.later hb, s.below.trans (hb.mono s.below.size)⟩
theorem F2.first (w : World) (x0 x1 x2 y0 y1 y2 : Value) : F2 w ((w.alloc (.cells #[x0, x1, x2] 63)).alloc (.cells #[y0, y1, y2] 63)) x0 x1 x2 y0 y1 y2 :=
  ⟨⟨by simp [go_sem], by simp [go_sem], by simp [go_sem], by simp [go_sem], by simp [go_sem], by simp [go_sem]⟩, ⟨by simp [go_sem], by simp [go_sem], by simp [go_sem], by simp [go_sem], by simp [go_sem], by simp [go_sem]⟩,
    ((Below.refl _ _).alloc (Nat.le_refl _) _).alloc (by simp) _⟩
theorem signI_val {b : Bool} {n d : Nat} (h : Cub.Low b n d) : signI b n = Cub.cmpQ (Cub.valQ b n d) 0 := Cub.sign_val h

end Go.Proofs.YtlbfpjamfmghlaaDoor

namespace Go.Proofs.YtlbfpjamfmghlaaDoor
open Go.RowKit

theorem Box.new (W : World) (v : Value) : Box (W.alloc (.cells #[v] 61)) W.heap.size v := ⟨by simp [go_sem], by simp [go_sem]⟩
/-- Two Fracs, a Frac's box for the result, and boxes of one cell besides. -/
structure AS (w W : World) (x0 x1 x2 y0 y1 y2 : Value) (L : List (Nat × Value)) : Prop where
  x : FBox W w.heap.size x0 x1 x2
  y : FBox W (w.heap.size + 1) y0 y1 y2
  r : FBox W (w.heap.size + 1 + 1) (.bool false) (.slice none 0 0) (.slice none 0 0)
  bx : ∀ p ∈ L, Box W p.1 p.2
  gt : ∀ p ∈ L, w.heap.size + 1 + 1 < p.1
  below : Below w.heap.size w W
theorem AS.later {w W V : World} {x0 x1 x2 y0 y1 y2 : Value} {L : List (Nat × Value)} (s : AS w W x0 x1 x2 y0 y1 y2 L) (hb : Below W.heap.size W V) : AS w V x0 x1 x2 y0 y1 y2 L :=
  ⟨s.x.later hb, s.y.later hb, s.r.later hb, fun p hp => (s.bx p hp).later hb, s.gt, s.below.trans (hb.mono s.below.size)⟩
theorem AS.first (w : World) (x0 x1 x2 y0 y1 y2 : Value) : AS w (((w.alloc (.cells #[x0, x1, x2] 63)).alloc (.cells #[y0, y1, y2] 63)).alloc (.cells #[.bool false, .slice none 0 0, .slice none 0 0] 63)) x0 x1 x2 y0 y1 y2 [] :=
  ⟨⟨by simp [go_sem], by simp [go_sem], by simp [go_sem], by simp [go_sem], by simp [go_sem], by simp [go_sem]⟩, ⟨by simp [go_sem], by simp [go_sem], by simp [go_sem], by simp [go_sem], by simp [go_sem], by simp [go_sem]⟩,
    ⟨by simp [go_sem], by simp [go_sem], by simp [go_sem], by simp [go_sem], by simp [go_sem], by simp [go_sem]⟩, (fun _ h => by cases h), (fun _ h => by cases h),
    (((Below.refl _ _).alloc (Nat.le_refl _) _).alloc (by simp) _).alloc (by simp; omega) _⟩
theorem AS.add {w W : World} {x0 x1 x2 y0 y1 y2 v : Value} {g : Nat} {L : List (Nat × Value)} (s : AS w W x0 x1 x2 y0 y1 y2 L) (hb : Box W g v) (hg : w.heap.size + 1 + 1 < g) : AS w W x0 x1 x2 y0 y1 y2 ((g, v) :: L) := by
  refine ⟨s.x, s.y, s.r, ?_, ?_, s.below⟩
  · intro p hp
    rcases List.mem_cons.1 hp with rfl | hp
    · exact hb
    · exact s.bx p hp
  · intro p hp
    rcases List.mem_cons.1 hp with rfl | hp
    · exact hg
    · exact s.gt p hp
theorem AS.set {w W : World} {x0 x1 x2 y0 y1 y2 v : Value} {g : Nat} {L : List (Nat × Value)} (s : AS w W x0 x1 x2 y0 y1 y2 ((g, v) :: L)) (h : ∀ p ∈ L, p.1 ≠ g) (u : Value) : AS w (W.setCell ⟨g, 0, none⟩ u) x0 x1 x2 y0 y1 y2 ((g, u) :: L) := by
  have hg : w.heap.size + 1 + 1 < g := s.gt (g, v) (by simp)
  refine ⟨s.x.other (by omega) u, s.y.other (by omega) u, s.r.other (by omega) u, ?_, ?_, s.below.setCell (by show w.heap.size ≤ g; omega) _⟩
  · intro p hp
    rcases List.mem_cons.1 hp with rfl | hp
    · exact (s.bx (g, v) (by simp)).set u
    · exact (s.bx p (by simp [hp])).other (h p hp) u
  · intro p hp
    rcases List.mem_cons.1 hp with rfl | hp
    · exact hg
    · exact s.gt p (by simp [hp])

end Go.Proofs.YtlbfpjamfmghlaaDoor

namespace Go.Proofs.YtlbfpjamfmghlaaDoor
open Go.RowKit

theorem run_copy_size {P : Program} (w : World) (dT sT ty elem : TypeId) (b o dLen dCap : Nat) (a : Addr) (sLen sCap S : Nat) (cs : List Value)
    (hu : P.underlying dT = some (.slice elem)) (hs : (P.info? elem).map (·.size) = some S) (hn : cs.length = Nat.min sLen dLen * S)
    (hsrc : ∀ j v, cs[j]? = some v → w.cell? (a.add j) = some v) (hc : ∀ j, j < cs.length → (w.cell? ⟨b, o + j, none⟩).isSome = true) (hf : ∀ j, j < cs.length → w.frozen? ⟨b, o + j, none⟩ = false) (h1 : ∀ v ∈ cs, v.oneCell' = true) :
    (Builtin.copy_ #[dT, sT] ty #[.slice (some ⟨b, o, none⟩) dLen dCap, .slice (some a) sLen sCap]).run P w = .ok (goInt (Nat.min sLen dLen)) (w.setCells b o cs) := by
  have hl := run_loadCells_list (P := P) w a cs hsrc
  have hst := run_storeCells_cells (P := P) b o cs 0 w (by simpa using hc) (by simpa using hf) h1
  cases hq : P.info? elem with
  | none => simp [hq] at hs
  | some i =>
    have hi : i.size = S := by simpa [hq] using hs
    simp [Builtin.copy_, run_underlying hu, Builtin.lenOf, Builtin.firstCells, sizeOf, typeInfo, hq, hi, ← hn, hl, hst]
theorem Tryd.elem111 : Tryd.prog.underlying 83 = some (.slice 63) := by kernel_rfl
theorem Tryd.size63 : (Tryd.prog.info? 63).map (·.size) = some 3 := by kernel_rfl
/-- Two Fracs of a slice copied into a new one. -/
theorem copy_two (B : Nat) (b c : Bool) (a1 a2 a3 a4 : Option Addr) (l1 d1 l2 d2 l3 d3 l4 d4 : Nat) (w : World)
    (c0 : w.cell? ⟨B, 0, none⟩ = some (.bool b)) (c1 : w.cell? ⟨B, 1, none⟩ = some (.slice a1 l1 d1)) (c2 : w.cell? ⟨B, 2, none⟩ = some (.slice a2 l2 d2)) (c3 : w.cell? ⟨B, 3, none⟩ = some (.bool c)) (c4 : w.cell? ⟨B, 4, none⟩ = some (.slice a3 l3 d3)) (c5 : w.cell? ⟨B, 5, none⟩ = some (.slice a4 l4 d4)) :
    (Builtin.copy_ #[83, 83] 3 #[.slice (some ⟨w.heap.size, 0, none⟩) 2 2, .slice (some ⟨B, 0, none⟩) 2 2]).run Tryd.prog (w.alloc (.cells #[.bool false, .slice none 0 0, .slice none 0 0, .bool false, .slice none 0 0, .slice none 0 0] 63)) =
      .ok (.int .i64 2) (w.alloc (.cells #[.bool b, .slice a1 l1 d1, .slice a2 l2 d2, .bool c, .slice a3 l3 d3, .slice a4 l4 d4] 63)) := by
  have hB : B < w.heap.size := World.block_lt_of_cell? _ _ c0
  have hne : ∀ k, (w.alloc (.cells #[.bool false, .slice none 0 0, .slice none 0 0, .bool false, .slice none 0 0, .slice none 0 0] 63)).cell? ⟨B, k, none⟩ = w.cell? ⟨B, k, none⟩ := fun k =>
    ((Below.refl w.heap.size w).alloc (Nat.le_refl _) _).cell (p := ⟨B, k, none⟩) hB
  have := run_copy_size (P := Tryd.prog) (w.alloc (.cells #[.bool false, .slice none 0 0, .slice none 0 0, .bool false, .slice none 0 0, .slice none 0 0] 63)) 83 83 3 63 w.heap.size 0 2 2 ⟨B, 0, none⟩ 2 2 3 [.bool b, .slice a1 l1 d1, .slice a2 l2 d2, .bool c, .slice a3 l3 d3, .slice a4 l4 d4] Tryd.elem111 Tryd.size63 rfl
    (by
      intro j v hv
      have hj : j < 6 := by have := (List.getElem?_eq_some_iff.1 hv).1; simpa using this
      have e : (⟨B, 0, none⟩ : Addr).add j = ⟨B, j, none⟩ := by unfold Addr.add; split <;> simp_all
      rw [e, hne]
      match j, hj with
      | 0, _ => rw [c0]; exact hv
      | 1, _ => rw [c1]; exact hv
      | 2, _ => rw [c2]; exact hv
      | 3, _ => rw [c3]; exact hv
      | 4, _ => rw [c4]; exact hv
      | 5, _ => rw [c5]; exact hv)
    (by
      intro j hj
      have hj : j < 6 := by simpa using hj
      match j, hj with
      | 0, _ => simp [go_sem]
      | 1, _ => simp [go_sem]
      | 2, _ => simp [go_sem]
      | 3, _ => simp [go_sem]
      | 4, _ => simp [go_sem]
      | 5, _ => simp [go_sem])
    (by intro j hj; simp [go_sem])
    (by intro v hv; simp at hv; rcases hv with rfl | rfl | rfl | rfl | rfl | rfl <;> rfl)
  rw [this]
  simp [World.setCells, go_sem, goInt]
end Go.Proofs.YtlbfpjamfmghlaaDoor

/- A copy of elements of several cells. -/
import Derived.Test.YtimihoonnglniaaGreatDoorFAdd
import Derived.Laws.IdiomCopy
namespace Go.Proofs.YtimihoonnglniaaGreatDoor
open Go.RowKit

theorem run_copy_size {P : Program} (w : World) (dT sT ty elem : TypeId) (b o dLen dCap : Nat) (a : Addr) (sLen sCap S : Nat) (cs : List Value)
    (hu : P.underlying dT = some (.slice elem)) (hs : (P.info? elem).map (·.size) = some S) (hn : cs.length = Nat.min sLen dLen * S)
    (hsrc : ∀ j v, cs[j]? = some v → w.cell? (a.add j) = some v) (hc : ∀ j, j < cs.length → (w.cell? ⟨b, o + j, none⟩).isSome = true) (hf : ∀ j, j < cs.length → w.frozen? ⟨b, o + j, none⟩ = false) (h1 : ∀ v ∈ cs, v.oneCell' = true) :
    (Builtin.copy_ #[dT, sT] ty #[.slice (some ⟨b, o, none⟩) dLen dCap, .slice (some a) sLen sCap]).run P w = .ok (goInt (Nat.min sLen dLen)) (w.setCells b o cs) := by
  have hl := run_loadCells_list (P := P) w a cs hsrc
  have hst := run_storeCells_cells (P := P) b o cs 0 w (by simpa using hc) (by simpa using hf) h1
  cases hq : P.info? elem with
  | none => simp [hq] at hs
  | some i =>
    have hi : i.size = S := by simpa [hq] using hs
    simp [Builtin.copy_, run_underlying hu, Builtin.lenOf, Builtin.firstCells, sizeOf, typeInfo, hq, hi, ← hn, hl, hst]
theorem Tryz.elem111 : Tryz.prog.underlying 125 = some (.slice 45) := by kernel_rfl
theorem Tryz.size45 : (Tryz.prog.info? 45).map (·.size) = some 3 := by kernel_rfl
/-- Two Fracs of a slice copied into a new one. -/
theorem copy_two (B : Nat) (b c : Bool) (a1 a2 a3 a4 : Option Addr) (l1 d1 l2 d2 l3 d3 l4 d4 : Nat) (w : World)
    (c0 : w.cell? ⟨B, 0, none⟩ = some (.bool b)) (c1 : w.cell? ⟨B, 1, none⟩ = some (.slice a1 l1 d1)) (c2 : w.cell? ⟨B, 2, none⟩ = some (.slice a2 l2 d2)) (c3 : w.cell? ⟨B, 3, none⟩ = some (.bool c)) (c4 : w.cell? ⟨B, 4, none⟩ = some (.slice a3 l3 d3)) (c5 : w.cell? ⟨B, 5, none⟩ = some (.slice a4 l4 d4)) :
    (Builtin.copy_ #[125, 125] 3 #[.slice (some ⟨w.heap.size, 0, none⟩) 2 2, .slice (some ⟨B, 0, none⟩) 2 2]).run Tryz.prog (w.alloc (.cells #[.bool false, .slice none 0 0, .slice none 0 0, .bool false, .slice none 0 0, .slice none 0 0] 45)) =
      .ok (.int .i64 2) (w.alloc (.cells #[.bool b, .slice a1 l1 d1, .slice a2 l2 d2, .bool c, .slice a3 l3 d3, .slice a4 l4 d4] 45)) := by
  have hB : B < w.heap.size := World.block_lt_of_cell? _ _ c0
  have hne : ∀ k, (w.alloc (.cells #[.bool false, .slice none 0 0, .slice none 0 0, .bool false, .slice none 0 0, .slice none 0 0] 45)).cell? ⟨B, k, none⟩ = w.cell? ⟨B, k, none⟩ := fun k =>
    ((Below.refl w.heap.size w).alloc (Nat.le_refl _) _).cell (p := ⟨B, k, none⟩) hB
  have := run_copy_size (P := Tryz.prog) (w.alloc (.cells #[.bool false, .slice none 0 0, .slice none 0 0, .bool false, .slice none 0 0, .slice none 0 0] 45)) 125 125 3 45 w.heap.size 0 2 2 ⟨B, 0, none⟩ 2 2 3 [.bool b, .slice a1 l1 d1, .slice a2 l2 d2, .bool c, .slice a3 l3 d3, .slice a4 l4 d4] Tryz.elem111 Tryz.size45 rfl
    (by
      intro j v hv
      have hj : j < 6 := by have := (List.getElem?_eq_some_iff.1 hv).1; simpa using this
      have e : (⟨B, 0, none⟩ : Addr).add j = ⟨B, j, none⟩ := by unfold Addr.add; split <;> simp_all
      rw [e, hne]
      match j, hj with
      | 0, _ => rw [c0]; exact hv
      | 1, _ => rw [c1]; exact hv
      | 2, _ => rw [c2]; exact hv
      | 3, _ => rw [c3]; exact hv
      | 4, _ => rw [c4]; exact hv
      | 5, _ => rw [c5]; exact hv)
    (by
      intro j hj
      have hj : j < 6 := by simpa using hj
      match j, hj with
      | 0, _ => simp [go_sem]
      | 1, _ => simp [go_sem]
      | 2, _ => simp [go_sem]
      | 3, _ => simp [go_sem]
      | 4, _ => simp [go_sem]
      | 5, _ => simp [go_sem])
    (by intro j hj; simp [go_sem])
    (by intro v hv; simp at hv; rcases hv with rfl | rfl | rfl | rfl | rfl | rfl <;> rfl)
  rw [this]
  simp [World.setCells, go_sem, goInt]
end Go.Proofs.YtimihoonnglniaaGreatDoor

/- (*strings.Builder).copyCheck and WriteRune, as this program has them. -/
import Derived.Test.YtiooiacebgojiabDoorRight
import Derived.Test.YtiooiacebgojiabDoorShelf2
import Derived.Shelf.Strings.BuilderRune
import Derived.Deep.Cut
namespace Go.Proofs.YtiooiacebgojiabDoor
open Go.RowKit

set_option maxRecDepth 100000 in
theorem copyCheck_used (b : Nat) (w : World) (h0 : w.cell? ⟨b, 0, none⟩ = some (.pointer (some ⟨b, 0, none⟩))) : Calls Tryd.prog 40 #[.pointer (some ⟨b, 0, none⟩)] w fun e w' => e = .returned (.tuple #[]) ∧ w' = w := by
  obtain ⟨j, hj, _⟩ := Option.map_eq_some_iff.1 Tryd.Builder_Extra_169.toX72.sizeBuilder
  have hj' : Tryd.prog.info? 54 = some j := hj
  have hT : Tryd.prog.underlying 51 = some (.pointer 54) := by kernel_rfl
  go_enter Tryd.func40, Tryd.ntmps40
  go_wp2
  rw [Lib.run_neq_ptr_same w _ hT hj']
  go_wp2
  go_end0
  exact ⟨rfl, rfl⟩
set_option maxRecDepth 100000 in
set_option maxHeartbeats 1000000 in
theorem copyCheck_fresh (b : Nat) (w : World) (h0 : w.cell? ⟨b, 0, none⟩ = some (.pointer none)) (hf : w.frozen? ⟨b, 0, none⟩ = false) (hsh : w.shape? b = some (54, 2)) : Calls Tryd.prog 40 #[.pointer (some ⟨b, 0, none⟩)] w fun e w' => e = .returned (.tuple #[]) ∧ w' = w.setCell ⟨b, 0, none⟩ (.pointer (some ⟨b, 0, none⟩)) := by
  obtain ⟨j, hj, hjs⟩ := Option.map_eq_some_iff.1 Tryd.Builder_Extra_169.toX72.sizeBuilder
  have hj' : Tryd.prog.info? 54 = some j := hj
  have hT : Tryd.prog.underlying 51 = some (.pointer 54) := by kernel_rfl
  have hU : Tryd.prog.underlying 82 = some .unsafePointer := by kernel_rfl
  go_enter Tryd.func40, Tryd.ntmps40
  go_wp2
  rw [Lib.run_to_unsafe w ⟨b, 0, none⟩ hT hU hj' (by rw [hjs]; decide) hsh (Nat.zero_lt_succ 1)]
  simp only [Result.andThen]
  rw [Oper.upon_value]
  go_wp2
  rw [run_callFunc_extern Tryd.func49 (by kernel_rfl) (by kernel_rfl) (by kernel_rfl) (e := Extern.AbiNoEscape.same) (by kernel_rfl)]
  rw [Lib.run_noEscape]
  simp only [Result.andThen]
  rw [Oper.upon_value]
  go_wp2
  rw [Lib.run_from_unsafe w ⟨b, 0, none⟩ hU hT hj' hsh Tryd.Builder_Extra_169.toX72.liesBuilder]
  simp only [Result.andThen]
  rw [Oper.upon_value]
  go_wp2
  go_end0
  exact ⟨rfl, rfl⟩
/-- copyCheck, at any builder. -/
theorem copyCheck_any (B b : Nat) (bs : List Value) (w : World) (h : Lib.IsBuilderF 54 5 B b bs w) : Calls Tryd.prog 40 #[.pointer (some ⟨b, 0, none⟩)] w fun e w' => e = .returned (.tuple #[]) ∧ Lib.BuilderAtF 54 5 B b (.pointer (some ⟨b, 0, none⟩)) bs w' ∧ Below B w w' ∧ Lib.OthersKept 5 (some b) w w' := by
  rcases h with h | h
  · refine (copyCheck_fresh b w h.cell0 h.frozen0 h.shape).mono ?_
    rintro e w' ⟨rfl, rfl⟩
    exact ⟨rfl, h.used _, (Below.refl _ _).setCell h.1 _, (Lib.OthersKept.refl 5 (some b) w).setCell ⟨b, 0, none⟩ rfl _⟩
  · refine (copyCheck_used b w h.cell0).mono ?_
    rintro e w' ⟨rfl, rfl⟩
    exact ⟨rfl, h, Below.refl _ _, Lib.OthersKept.refl _ _ _⟩

set_option maxRecDepth 100000 in
set_option maxHeartbeats 1000000 in
theorem writeRune_any (B b : Nat) (bs : List Value) (r : Int) (hr0 : -2147483648 ≤ r) (hr1 : r ≤ 2147483647) (w : World) (h : Lib.IsBuilderF 54 5 B b bs w) (hlen : bs.length + 4 ≤ 140737488355328) (hBw : B ≤ w.heap.size) :
    Calls Tryd.prog 25 #[.pointer (some ⟨b, 0, none⟩), .int .i32 r] w fun e w' => (∃ n, e = .returned (.tuple #[.int .i64 n, .nilIface])) ∧ Lib.BuilderAtF 54 5 B b (.pointer (some ⟨b, 0, none⟩)) (bs ++ Lib.runeCells r) w' ∧ Below B w w' ∧ Lib.OthersKept 5 (some b) w w' := by
  have HC := hide (copyCheck_any B b bs w h)
  have hk4 := Lib.runeCells_le r
  clear h
  go_enter Tryd.func25, Tryd.ntmps25
  go_upto_region 2 with (go_at_call 40; refine (unhide HC).mono ?_; rintro e w1 ⟨rfl, h1, hb1, hk1⟩)
  have hB := h1.1
  obtain ⟨_, v, hbk, hown, hne⟩ := h1
  obtain ⟨ao, cap, rfl⟩ : ∃ ao cap, v = .slice ao bs.length cap := by
    rcases hown.2 with ⟨hv, h0⟩ | ⟨g, cap, cur, fz, hv, _⟩
    · exact ⟨none, 0, by rw [hv, h0]⟩
    · exact ⟨_, _, hv⟩
  have c0 : w1.cell? ⟨b, 0, none⟩ = some (.pointer (some ⟨b, 0, none⟩)) := by rw [Lib.cell_of_heap hbk]; rfl
  have c1 : w1.cell? ⟨b, 1, none⟩ = some (.slice ao bs.length cap) := by rw [Lib.cell_of_heap hbk]; rfl
  have HA := hide (Tryd.utf8_AppendRune_row B _ bs.length bs r hr0 hr1 w1 hown hlen (by have := hb1.size; omega))
  have hlt : b < w1.heap.size := (Array.getElem?_eq_some_iff.1 hbk).1
  have HK := hide hbk
  have HO := hide hown
  have HN := hide hne
  clear hbk hown hne
  go_upto_region 4 with (go_at_call 41; refine (unhide HA).mono ?_; rintro e w2 ⟨v', rfl, hown', o, hgrow⟩; have hb2 : w2.heap[b]? = some (.cells #[.pointer (some ⟨b, 0, none⟩), .slice ao bs.length cap] 54 (0, 0)) := (by rw [hgrow.block b (by simp; omega) (fun e => unhide HN e.symm), Lib.alloc_old w1 _ b hlt]; exact unhide HK); have d0 : w2.cell? ⟨b, 0, none⟩ = some (.pointer (some ⟨b, 0, none⟩)) := (by rw [Lib.cell_of_heap hb2]; rfl); have d1 : w2.cell? ⟨b, 1, none⟩ = some (.slice ao bs.length cap) := (by rw [Lib.cell_of_heap hb2]; rfl); have df : w2.frozen? ⟨b, 1, none⟩ = false := (by simp [World.frozen?, hb2]); have HB2 := hide hb2; have HG := hide hgrow; obtain ⟨ao2, cap2, rfl⟩ : ∃ ao cap, v' = .slice ao (bs.length + (Lib.runeCells r).length) cap := (by rcases hown'.2 with ⟨hv, h0⟩ | ⟨g, cap, cur, fz, hv, _⟩; exact ⟨none, 0, by rw [hv, h0]⟩; exact ⟨_, _, hv⟩); have HO2 := hide hown'; clear hb2 hown' hgrow)
  obtain ⟨W3, hW3⟩ : ∃ W3, W3 = w2.setCell ⟨b, 1, none⟩ (.slice ao2 (bs.length + (Lib.runeCells r).length) cap2) := ⟨_, rfl⟩
  rw [← hW3]
  have hb3 : W3.heap[b]? = some (.cells #[.pointer (some ⟨b, 0, none⟩), .slice ao2 (bs.length + (Lib.runeCells r).length) cap2] 54 (0, 0)) := by rw [hW3]; simp [World.setCell, Array.getElem?_modify, unhide HB2]
  have d1' : W3.cell? ⟨b, 1, none⟩ = some (.slice ao2 (bs.length + (Lib.runeCells r).length) cap2) := by rw [Lib.cell_of_heap hb3]; rfl
  have HB3 := hide hb3
  have HW3 := hide hW3
  clear hb3 hW3
  go_wp2
  go_ret2
  refine ⟨⟨_, rfl⟩, ?_, ?_, ?_⟩
  · rw [unhide HW3]
    exact Lib.BuilderAtF.put (T := 54) (e := 5) hB (unhide HB2) (bs' := bs ++ Lib.runeCells r) (by simpa using unhide HO2) (by decide)
  · rw [unhide HW3]
    exact ((hb1.alloc (by have := hb1.size; omega) _).grown (unhide HG) (by have := hb1.size; simp; omega) (fun k hk => ((unhide HO).lt k hk).1)).setCell (p := ⟨b, 1, none⟩) hB _
  · rw [unhide HW3]
    exact ((hk1.alloc _).grown (unhide HG) (Lib.ownsRowF_kind ((unhide HO).alloc _))).setCell ⟨b, 1, none⟩ rfl _
end Go.Proofs.YtiooiacebgojiabDoor

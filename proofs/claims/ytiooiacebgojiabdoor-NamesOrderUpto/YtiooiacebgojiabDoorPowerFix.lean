/- names.Power at the document's own example. -/
import Derived.Test.YtiooiacebgojiabDoorLowered
import Derived.Laws.RangeAny
namespace Go.Proofs.YtiooiacebgojiabDoor
open Go.RowKit

def powS : ByteArray := ⟨#[226, 129, 187, 194, 185, 194, 178, 120]⟩
set_option maxRecDepth 100000 in
theorem runeLen_185 (w : World) : Calls Tryd.prog 29 #[.int .i32 185] w fun e w' => e = .returned (.int .i64 2) ∧ w' = w := by
  go_enter Tryd.func29, Tryd.ntmps29
  go_wp2
  go_ret
  exact ⟨rfl, rfl⟩
set_option maxRecDepth 100000 in
theorem runeLen_178 (w : World) : Calls Tryd.prog 29 #[.int .i32 178] w fun e w' => e = .returned (.int .i64 2) ∧ w' = w := by
  go_enter Tryd.func29, Tryd.ntmps29
  go_wp2
  go_ret
  exact ⟨rfl, rfl⟩
theorem pow_next (w : World) (p r n : Nat) (hp : p < powS.size) (h : Utf8.decode powS p = (r, n)) (ty : TypeId) : (Instr.next (.pointer (some ⟨w.heap.size, 0, none⟩)) true ty).run Tryd.prog (w.iter ⟨#[226, 129, 187, 194, 185, 194, 178, 120]⟩ p) = .ok (.tuple #[.bool true, .int .i64 p, .int .i32 (r : Int)]) (w.iter ⟨#[226, 129, 187, 194, 185, 194, 178, 120]⟩ (p + n)) := by
  have hh := run_next_any (P := Tryd.prog) w powS p ty hp
  rw [h] at hh
  exact hh
set_option maxRecDepth 100000 in
set_option maxHeartbeats 1000000 in
theorem power_fix (w : World) : Calls Tryd.prog 13 #[.string ⟨#[226, 129, 187, 194, 185, 194, 178, 120]⟩, .int .i64 0] w fun e w' => e = .returned (.tuple #[.int .i64 (-12), .int .i64 7, .int .i64 0]) ∧ Below w.heap.size w w' := by
  have n0 : ∀ ty, (Instr.next (.pointer (some ⟨w.heap.size, 0, none⟩)) true ty).run Tryd.prog (w.iter ⟨#[226, 129, 187, 194, 185, 194, 178, 120]⟩ 0) = .ok (.tuple #[.bool true, .int .i64 0, .int .i32 8315]) (w.iter ⟨#[226, 129, 187, 194, 185, 194, 178, 120]⟩ 3) := fun ty => pow_next w 0 8315 3 (by decide) (by decide +kernel) ty
  have n1 : ∀ ty, (Instr.next (.pointer (some ⟨w.heap.size, 0, none⟩)) true ty).run Tryd.prog (w.iter ⟨#[226, 129, 187, 194, 185, 194, 178, 120]⟩ 3) = .ok (.tuple #[.bool true, .int .i64 3, .int .i32 185]) (w.iter ⟨#[226, 129, 187, 194, 185, 194, 178, 120]⟩ 5) := fun ty => pow_next w 3 185 2 (by decide) (by decide +kernel) ty
  have n2 : ∀ ty, (Instr.next (.pointer (some ⟨w.heap.size, 0, none⟩)) true ty).run Tryd.prog (w.iter ⟨#[226, 129, 187, 194, 185, 194, 178, 120]⟩ 5) = .ok (.tuple #[.bool true, .int .i64 5, .int .i32 178]) (w.iter ⟨#[226, 129, 187, 194, 185, 194, 178, 120]⟩ 7) := fun ty => pow_next w 5 178 2 (by decide) (by decide +kernel) ty
  have n3 : ∀ ty, (Instr.next (.pointer (some ⟨w.heap.size, 0, none⟩)) true ty).run Tryd.prog (w.iter ⟨#[226, 129, 187, 194, 185, 194, 178, 120]⟩ 7) = .ok (.tuple #[.bool true, .int .i64 7, .int .i32 120]) (w.iter ⟨#[226, 129, 187, 194, 185, 194, 178, 120]⟩ 8) := fun ty => pow_next w 7 120 1 (by decide) (by decide +kernel) ty
  have hx : (⟨#[226, 129, 187, 194, 185, 194, 178, 120]⟩ : ByteArray).extract 0 8 = ⟨#[226, 129, 187, 194, 185, 194, 178, 120]⟩ := by decide +kernel
  have hl : (⟨#[226, 129, 187, 194, 185, 194, 178, 120]⟩ : ByteArray).size = 8 := by decide
  have L1 := hide lowered_1
  have L2 := hide lowered_2
  have L3 := hide (fun w => lowered_no 120 w (by decide))
  have R1 := hide runeLen_185
  have R2 := hide runeLen_178
  go_enter Tryd.func13, Tryd.ntmps13
  go_wp2
  refine wp_loop_rounds 5 ?_
  repeat any_goals (rw [rounds_succ]; go_wp2_with (first
    | (go_at_call_of 28 (Value.int .i32 185); refine (unhide L1 _).mono ?_; rintro e w' ⟨rfl, rfl⟩)
    | (go_at_call_of 28 (Value.int .i32 178); refine (unhide L2 _).mono ?_; rintro e w' ⟨rfl, rfl⟩)
    | (go_at_call_of 28 (Value.int .i32 120); refine (unhide L3 _).mono ?_; rintro e w' ⟨rfl, rfl⟩)
    | (go_at_call_of 29 (Value.int .i32 185); refine (unhide R1 _).mono ?_; rintro e w' ⟨rfl, rfl⟩)
    | (go_at_call_of 29 (Value.int .i32 178); refine (unhide R2 _).mono ?_; rintro e w' ⟨rfl, rfl⟩)))
  exact bodyPost_ret (v := .tuple #[.int .i64 (-12), .int .i64 7, .int .i64 0]) (by simp [results, Tryd.results13]) rfl ⟨rfl, (Below.refl _ _).alloc (Nat.le_refl _) _⟩
end Go.Proofs.YtiooiacebgojiabDoor

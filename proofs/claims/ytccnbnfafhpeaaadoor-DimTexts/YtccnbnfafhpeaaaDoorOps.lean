/- dim.Quo, Pow, Root; the law's small. -/
import Derived.Test.YtccnbnfafhpeaaaDoorRight
import Derived.Handy
import Derived.Deep.RegionWith
namespace Go.Proofs.YtccnbnfafhpeaaaDoor
open Go.RowKit

section
variable (a0 a1 a2 a3 a4 a5 a6 a7 b0 b1 b2 b3 b4 b5 b6 b7 : Int)
def quoOk (ra rb : Bool) (l : List Int) : Bool := ra && rb && rightB l
def quoErr (ra rb : Bool) (l : List Int) : Int := if (ra && rb) = true then errOf (rightB l) 51 else 1

set_option maxRecDepth 100000 in
set_option maxHeartbeats 2000000 in
theorem quo_any (w : World) : Calls Tryd.prog 15 #[.agg #[.int .i64 a0, .int .i64 a1, .int .i64 a2, .int .i64 a3, .int .i64 a4, .int .i64 a5, .int .i64 a6, .int .i64 a7], .agg #[.int .i64 b0, .int .i64 b1, .int .i64 b2, .int .i64 b3, .int .i64 b4, .int .i64 b5, .int .i64 b6, .int .i64 b7]] w fun e w' => e = .returned (.tuple #[.agg #[.int .i64 (sel (quoOk (rightB [a0, a1, a2, a3, a4, a5, a6, a7]) (rightB [b0, b1, b2, b3, b4, b5, b6, b7]) [wrap64 (a0 - b0), wrap64 (a1 - b1), wrap64 (a2 - b2), wrap64 (a3 - b3), wrap64 (a4 - b4), wrap64 (a5 - b5), wrap64 (a6 - b6), wrap64 (a7 - b7)]) (wrap64 (a0 - b0))), .int .i64 (sel (quoOk (rightB [a0, a1, a2, a3, a4, a5, a6, a7]) (rightB [b0, b1, b2, b3, b4, b5, b6, b7]) [wrap64 (a0 - b0), wrap64 (a1 - b1), wrap64 (a2 - b2), wrap64 (a3 - b3), wrap64 (a4 - b4), wrap64 (a5 - b5), wrap64 (a6 - b6), wrap64 (a7 - b7)]) (wrap64 (a1 - b1))), .int .i64 (sel (quoOk (rightB [a0, a1, a2, a3, a4, a5, a6, a7]) (rightB [b0, b1, b2, b3, b4, b5, b6, b7]) [wrap64 (a0 - b0), wrap64 (a1 - b1), wrap64 (a2 - b2), wrap64 (a3 - b3), wrap64 (a4 - b4), wrap64 (a5 - b5), wrap64 (a6 - b6), wrap64 (a7 - b7)]) (wrap64 (a2 - b2))), .int .i64 (sel (quoOk (rightB [a0, a1, a2, a3, a4, a5, a6, a7]) (rightB [b0, b1, b2, b3, b4, b5, b6, b7]) [wrap64 (a0 - b0), wrap64 (a1 - b1), wrap64 (a2 - b2), wrap64 (a3 - b3), wrap64 (a4 - b4), wrap64 (a5 - b5), wrap64 (a6 - b6), wrap64 (a7 - b7)]) (wrap64 (a3 - b3))), .int .i64 (sel (quoOk (rightB [a0, a1, a2, a3, a4, a5, a6, a7]) (rightB [b0, b1, b2, b3, b4, b5, b6, b7]) [wrap64 (a0 - b0), wrap64 (a1 - b1), wrap64 (a2 - b2), wrap64 (a3 - b3), wrap64 (a4 - b4), wrap64 (a5 - b5), wrap64 (a6 - b6), wrap64 (a7 - b7)]) (wrap64 (a4 - b4))), .int .i64 (sel (quoOk (rightB [a0, a1, a2, a3, a4, a5, a6, a7]) (rightB [b0, b1, b2, b3, b4, b5, b6, b7]) [wrap64 (a0 - b0), wrap64 (a1 - b1), wrap64 (a2 - b2), wrap64 (a3 - b3), wrap64 (a4 - b4), wrap64 (a5 - b5), wrap64 (a6 - b6), wrap64 (a7 - b7)]) (wrap64 (a5 - b5))), .int .i64 (sel (quoOk (rightB [a0, a1, a2, a3, a4, a5, a6, a7]) (rightB [b0, b1, b2, b3, b4, b5, b6, b7]) [wrap64 (a0 - b0), wrap64 (a1 - b1), wrap64 (a2 - b2), wrap64 (a3 - b3), wrap64 (a4 - b4), wrap64 (a5 - b5), wrap64 (a6 - b6), wrap64 (a7 - b7)]) (wrap64 (a6 - b6))), .int .i64 (sel (quoOk (rightB [a0, a1, a2, a3, a4, a5, a6, a7]) (rightB [b0, b1, b2, b3, b4, b5, b6, b7]) [wrap64 (a0 - b0), wrap64 (a1 - b1), wrap64 (a2 - b2), wrap64 (a3 - b3), wrap64 (a4 - b4), wrap64 (a5 - b5), wrap64 (a6 - b6), wrap64 (a7 - b7)]) (wrap64 (a7 - b7)))], .int .i64 (quoErr (rightB [a0, a1, a2, a3, a4, a5, a6, a7]) (rightB [b0, b1, b2, b3, b4, b5, b6, b7]) [wrap64 (a0 - b0), wrap64 (a1 - b1), wrap64 (a2 - b2), wrap64 (a3 - b3), wrap64 (a4 - b4), wrap64 (a5 - b5), wrap64 (a6 - b6), wrap64 (a7 - b7)])]) ∧ Below w.heap.size w w' := by
  have HA := hide (right_any a0 a1 a2 a3 a4 a5 a6 a7)
  have HB := hide (right_any b0 b1 b2 b3 b4 b5 b6 b7)
  have HT := hide (told_any (wrap64 (a0 - b0)) (wrap64 (a1 - b1)) (wrap64 (a2 - b2)) (wrap64 (a3 - b3)) (wrap64 (a4 - b4)) (wrap64 (a5 - b5)) (wrap64 (a6 - b6)) (wrap64 (a7 - b7)))
  unfold quoOk quoErr
  generalize rightB [a0, a1, a2, a3, a4, a5, a6, a7] = ra at *
  generalize rightB [b0, b1, b2, b3, b4, b5, b6, b7] = rb at *
  generalize rightB [wrap64 (a0 - b0), wrap64 (a1 - b1), wrap64 (a2 - b2), wrap64 (a3 - b3), wrap64 (a4 - b4), wrap64 (a5 - b5), wrap64 (a6 - b6), wrap64 (a7 - b7)] = rq at *
  cases ra with
  | false =>
    simp only [Bool.false_and, sel_false, Bool.false_eq_true, if_false]
    go_enter Tryd.func15, Tryd.ntmps15
    go_wp2_with (first
      | (go_at_call_of 13 (Value.agg #[Value.int IntKind.i64 a0, Value.int IntKind.i64 a1, Value.int IntKind.i64 a2, Value.int IntKind.i64 a3, Value.int IntKind.i64 a4, Value.int IntKind.i64 a5, Value.int IntKind.i64 a6, Value.int IntKind.i64 a7]); refine (unhide HA _).mono ?_; rintro e w' ⟨rfl, rfl⟩))
    exact bodyPost_ret (v := .tuple #[.agg #[.int .i64 0, .int .i64 0, .int .i64 0, .int .i64 0, .int .i64 0, .int .i64 0, .int .i64 0, .int .i64 0], .int .i64 1]) (by simp [results, Tryd.results15, go_sem]) rfl ⟨rfl, ((((Below.refl _ _).alloc (Nat.le_refl _) _).alloc (by simp) _).alloc (by simp; omega) _).alloc (by simp; omega) _⟩
  | true =>
    cases rb with
    | false =>
      simp only [Bool.and_false, Bool.false_and, sel_false, Bool.false_eq_true, if_false]
      go_enter Tryd.func15, Tryd.ntmps15
      go_wp2_with (first
        | (go_at_call_of 13 (Value.agg #[Value.int IntKind.i64 a0, Value.int IntKind.i64 a1, Value.int IntKind.i64 a2, Value.int IntKind.i64 a3, Value.int IntKind.i64 a4, Value.int IntKind.i64 a5, Value.int IntKind.i64 a6, Value.int IntKind.i64 a7]); refine (unhide HA _).mono ?_; rintro e w' ⟨rfl, rfl⟩)
        | (go_at_call_of 13 (Value.agg #[Value.int IntKind.i64 b0, Value.int IntKind.i64 b1, Value.int IntKind.i64 b2, Value.int IntKind.i64 b3, Value.int IntKind.i64 b4, Value.int IntKind.i64 b5, Value.int IntKind.i64 b6, Value.int IntKind.i64 b7]); refine (unhide HB _).mono ?_; rintro e w' ⟨rfl, rfl⟩))
      exact bodyPost_ret (v := .tuple #[.agg #[.int .i64 0, .int .i64 0, .int .i64 0, .int .i64 0, .int .i64 0, .int .i64 0, .int .i64 0, .int .i64 0], .int .i64 1]) (by simp [results, Tryd.results15, go_sem]) rfl ⟨rfl, (((((Below.refl _ _).alloc (Nat.le_refl _) _).alloc (by simp) _).alloc (by simp; omega) _).alloc (by simp; omega) _).alloc (by simp; omega) _⟩
    | true =>
      simp only [Bool.and_self, Bool.true_and, if_true]
      have i0 := idx0 b0 b1 b2 b3 b4 b5 b6 b7
      have i1 := idx1 b0 b1 b2 b3 b4 b5 b6 b7
      have i2 := idx2 b0 b1 b2 b3 b4 b5 b6 b7
      have i3 := idx3 b0 b1 b2 b3 b4 b5 b6 b7
      have i4 := idx4 b0 b1 b2 b3 b4 b5 b6 b7
      have i5 := idx5 b0 b1 b2 b3 b4 b5 b6 b7
      have i6 := idx6 b0 b1 b2 b3 b4 b5 b6 b7
      have i7 := idx7 b0 b1 b2 b3 b4 b5 b6 b7
      go_enter Tryd.func15, Tryd.ntmps15
      go_wp2_with (first
        | (go_at_call_of 13 (Value.agg #[Value.int IntKind.i64 a0, Value.int IntKind.i64 a1, Value.int IntKind.i64 a2, Value.int IntKind.i64 a3, Value.int IntKind.i64 a4, Value.int IntKind.i64 a5, Value.int IntKind.i64 a6, Value.int IntKind.i64 a7]); refine (unhide HA _).mono ?_; rintro e w' ⟨rfl, rfl⟩)
        | (go_at_call_of 13 (Value.agg #[Value.int IntKind.i64 b0, Value.int IntKind.i64 b1, Value.int IntKind.i64 b2, Value.int IntKind.i64 b3, Value.int IntKind.i64 b4, Value.int IntKind.i64 b5, Value.int IntKind.i64 b6, Value.int IntKind.i64 b7]); refine (unhide HB _).mono ?_; rintro e w' ⟨rfl, rfl⟩))
      refine wp_loop_rounds 9 ?_
      repeat any_goals (rw [rounds_succ]; go_wp2_with (go_at_call 39; refine (unhide HT _).mono ?_; rintro e w' ⟨rfl, rfl⟩))
      exact bodyPost_ret (v := .tuple #[.agg #[.int .i64 (sel rq (wrap64 (a0 - b0))), .int .i64 (sel rq (wrap64 (a1 - b1))), .int .i64 (sel rq (wrap64 (a2 - b2))), .int .i64 (sel rq (wrap64 (a3 - b3))), .int .i64 (sel rq (wrap64 (a4 - b4))), .int .i64 (sel rq (wrap64 (a5 - b5))), .int .i64 (sel rq (wrap64 (a6 - b6))), .int .i64 (sel rq (wrap64 (a7 - b7)))], .int .i64 (errOf rq 51)]) (by simp [results, Tryd.results15, go_sem]) rfl ⟨rfl, by repeat (first | exact Below.refl _ _ | (refine Below.alloc ?_ (by simp <;> omega) _))⟩
end
end Go.Proofs.YtccnbnfafhpeaaaDoor

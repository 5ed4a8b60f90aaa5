/- Two dimensions held against one another. -/
import Derived.Test.YtccnbnfafhpeaaaDoorRight
import Derived.ChangeKeysEq
namespace Go.Proofs.YtccnbnfafhpeaaaDoor
open Go.RowKit

/-- All exponents are the same. -/
def eqB (l m : List Int) : Bool := decide (l = m)
theorem eqB_self (l : List Int) : eqB l l = true := by simp [eqB]
theorem cells3 : Tryd.prog.cellsOf 3 = 1 := by kernel_rfl
theorem info3 : ∃ i, Tryd.prog.info? 3 = some i := Option.isSome_iff_exists.1 (by kernel_rfl)
section
variable (x0 x1 x2 x3 x4 x5 x6 x7 y0 y1 y2 y3 y4 y5 y6 y7 : Int)
theorem eqIn24 (w : World) : (Op.equalIn 10000 24 (.agg #[.int .i64 x0, .int .i64 x1, .int .i64 x2, .int .i64 x3, .int .i64 x4, .int .i64 x5, .int .i64 x6, .int .i64 x7]) (.agg #[.int .i64 y0, .int .i64 y1, .int .i64 y2, .int .i64 y3, .int .i64 y4, .int .i64 y5, .int .i64 y6, .int .i64 y7])).run Tryd.prog w = .ok (eqB [x0, x1, x2, x3, x4, x5, x6, x7] [y0, y1, y2, y3, y4, y5, y6, y7]) w := by
  obtain ⟨inf, hinf⟩ := info3
  rw [show (10000 : Nat) = 9999 + 1 from rfl, run_equalIn_array w 9999 _ _ Tryd.underlying24 hinf, cells3, show List.range 8 = [0, 1, 2, 3, 4, 5, 6, 7] from rfl]
  have p0 : ∀ w : World, (part 3 #[.int .i64 x0, .int .i64 x1, .int .i64 x2, .int .i64 x3, .int .i64 x4, .int .i64 x5, .int .i64 x6, .int .i64 x7] (0 * 1)).run Tryd.prog w = .ok (.int .i64 x0) w := fun _ => by kernel_rfl
  have p1 : ∀ w : World, (part 3 #[.int .i64 x0, .int .i64 x1, .int .i64 x2, .int .i64 x3, .int .i64 x4, .int .i64 x5, .int .i64 x6, .int .i64 x7] (1 * 1)).run Tryd.prog w = .ok (.int .i64 x1) w := fun _ => by kernel_rfl
  have p2 : ∀ w : World, (part 3 #[.int .i64 x0, .int .i64 x1, .int .i64 x2, .int .i64 x3, .int .i64 x4, .int .i64 x5, .int .i64 x6, .int .i64 x7] (2 * 1)).run Tryd.prog w = .ok (.int .i64 x2) w := fun _ => by kernel_rfl
  have p3 : ∀ w : World, (part 3 #[.int .i64 x0, .int .i64 x1, .int .i64 x2, .int .i64 x3, .int .i64 x4, .int .i64 x5, .int .i64 x6, .int .i64 x7] (3 * 1)).run Tryd.prog w = .ok (.int .i64 x3) w := fun _ => by kernel_rfl
  have p4 : ∀ w : World, (part 3 #[.int .i64 x0, .int .i64 x1, .int .i64 x2, .int .i64 x3, .int .i64 x4, .int .i64 x5, .int .i64 x6, .int .i64 x7] (4 * 1)).run Tryd.prog w = .ok (.int .i64 x4) w := fun _ => by kernel_rfl
  have p5 : ∀ w : World, (part 3 #[.int .i64 x0, .int .i64 x1, .int .i64 x2, .int .i64 x3, .int .i64 x4, .int .i64 x5, .int .i64 x6, .int .i64 x7] (5 * 1)).run Tryd.prog w = .ok (.int .i64 x5) w := fun _ => by kernel_rfl
  have p6 : ∀ w : World, (part 3 #[.int .i64 x0, .int .i64 x1, .int .i64 x2, .int .i64 x3, .int .i64 x4, .int .i64 x5, .int .i64 x6, .int .i64 x7] (6 * 1)).run Tryd.prog w = .ok (.int .i64 x6) w := fun _ => by kernel_rfl
  have p7 : ∀ w : World, (part 3 #[.int .i64 x0, .int .i64 x1, .int .i64 x2, .int .i64 x3, .int .i64 x4, .int .i64 x5, .int .i64 x6, .int .i64 x7] (7 * 1)).run Tryd.prog w = .ok (.int .i64 x7) w := fun _ => by kernel_rfl
  have q0 : ∀ w : World, (part 3 #[.int .i64 y0, .int .i64 y1, .int .i64 y2, .int .i64 y3, .int .i64 y4, .int .i64 y5, .int .i64 y6, .int .i64 y7] (0 * 1)).run Tryd.prog w = .ok (.int .i64 y0) w := fun _ => by kernel_rfl
  have q1 : ∀ w : World, (part 3 #[.int .i64 y0, .int .i64 y1, .int .i64 y2, .int .i64 y3, .int .i64 y4, .int .i64 y5, .int .i64 y6, .int .i64 y7] (1 * 1)).run Tryd.prog w = .ok (.int .i64 y1) w := fun _ => by kernel_rfl
  have q2 : ∀ w : World, (part 3 #[.int .i64 y0, .int .i64 y1, .int .i64 y2, .int .i64 y3, .int .i64 y4, .int .i64 y5, .int .i64 y6, .int .i64 y7] (2 * 1)).run Tryd.prog w = .ok (.int .i64 y2) w := fun _ => by kernel_rfl
  have q3 : ∀ w : World, (part 3 #[.int .i64 y0, .int .i64 y1, .int .i64 y2, .int .i64 y3, .int .i64 y4, .int .i64 y5, .int .i64 y6, .int .i64 y7] (3 * 1)).run Tryd.prog w = .ok (.int .i64 y3) w := fun _ => by kernel_rfl
  have q4 : ∀ w : World, (part 3 #[.int .i64 y0, .int .i64 y1, .int .i64 y2, .int .i64 y3, .int .i64 y4, .int .i64 y5, .int .i64 y6, .int .i64 y7] (4 * 1)).run Tryd.prog w = .ok (.int .i64 y4) w := fun _ => by kernel_rfl
  have q5 : ∀ w : World, (part 3 #[.int .i64 y0, .int .i64 y1, .int .i64 y2, .int .i64 y3, .int .i64 y4, .int .i64 y5, .int .i64 y6, .int .i64 y7] (5 * 1)).run Tryd.prog w = .ok (.int .i64 y5) w := fun _ => by kernel_rfl
  have q6 : ∀ w : World, (part 3 #[.int .i64 y0, .int .i64 y1, .int .i64 y2, .int .i64 y3, .int .i64 y4, .int .i64 y5, .int .i64 y6, .int .i64 y7] (6 * 1)).run Tryd.prog w = .ok (.int .i64 y6) w := fun _ => by kernel_rfl
  have q7 : ∀ w : World, (part 3 #[.int .i64 y0, .int .i64 y1, .int .i64 y2, .int .i64 y3, .int .i64 y4, .int .i64 y5, .int .i64 y6, .int .i64 y7] (7 * 1)).run Tryd.prog w = .ok (.int .i64 y7) w := fun _ => by kernel_rfl
  have e := fun w a b => run_equalIn_int (P := Tryd.prog) w 9998 3 .i64 .i64 a b Tryd.underlying3
  simp only [Op.eqItems, Sem.run_bind, p0, p1, p2, p3, p4, p5, p6, p7, q0, q1, q2, q3, q4, q5, q6, q7, Result.andThen_ok, e, Sem.run_ite, Sem.run_pure]
  unfold eqB
  by_cases h0 : x0 = y0
  rotate_left
  · simp [h0]
  by_cases h1 : x1 = y1
  rotate_left
  · simp [h1, h0]
  by_cases h2 : x2 = y2
  rotate_left
  · simp [h2, h0, h1]
  by_cases h3 : x3 = y3
  rotate_left
  · simp [h3, h0, h1, h2]
  by_cases h4 : x4 = y4
  rotate_left
  · simp [h4, h0, h1, h2, h3]
  by_cases h5 : x5 = y5
  rotate_left
  · simp [h5, h0, h1, h2, h3, h4]
  by_cases h6 : x6 = y6
  rotate_left
  · simp [h6, h0, h1, h2, h3, h4, h5]
  by_cases h7 : x7 = y7
  rotate_left
  · simp [h7, h0, h1, h2, h3, h4, h5, h6]
  simp [h0, h1, h2, h3, h4, h5, h6, h7]
end
end Go.Proofs.YtccnbnfafhpeaaaDoor

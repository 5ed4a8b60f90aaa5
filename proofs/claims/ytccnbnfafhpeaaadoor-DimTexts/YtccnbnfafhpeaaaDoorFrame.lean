/- What the rows' lists of variables give, one world that meets them, and how a dimension that comes in is opened. -/
import Derived.Test.YtccnbnfafhpeaaaDoorCards
import Derived.Test.YtccnbnfafhpeaaaDoorTie
import Derived.Test.YtccnbnfafhpeaaaDoorTerm
import Derived.WalkKit
import Derived.ProofKit
import Derived.OpenShut
import Derived.Deep.DeepHandedRow
import Derived.Lib.LaidTab
import Derived.LaidSub
import Derived.LaidLaws
import Derived.SizedLaws
import Derived.Carry
namespace Go.Proofs.YtccnbnfafhpeaaaDoor
open Go.ChangeShapes Go.WideShapes Go.ChangeAt Go.RowKit

theorem own : ownKnob Tryd.prog.godebug = none := by kernel_rfl
theorem gPow : Tryd.prog.globalNamed "internal/strconv.uint64pow10" = some 3 := by kernel_rfl
theorem gPowType : (Tryd.prog.globals[3]?).map (·.type) = some 133 := by kernel_rfl
theorem cells133 : Tryd.prog.cellsOf 133 = 20 := by kernel_rfl
theorem cells120 : Tryd.prog.cellsOf 120 = 1 := by kernel_rfl
theorem laidOut : laidOutB Tryd.prog = true := by kernel_rfl
theorem cellsOf3 : Tryd.prog.cellsOf 3 = 1 := by kernel_rfl
theorem cellsOf24 : Tryd.prog.cellsOf 24 = 8 := by kernel_rfl

theorem tab_of {W : World} {l : List (String × DataW Unit)} (h : laidMet Tryd.prog l W) (e : l.filter (fun x => x.1 == "internal/strconv.uint64pow10") = [("internal/strconv.uint64pow10", Rows.laid_internal_strconv_uint64pow10)]) : Tab W := by
  have h1 := laidMet.filter (fun x => x.1 == "internal/strconv.uint64pow10") h
  rw [e] at h1
  exact Lib.tabIs_of_head (rest := []) gPow gPowType Tryd.underlying133 Tryd.underlying120 cells120 cells133 h1

/-- A table's cells, off its datum. -/
def cellsOfData : DataW Unit → Array Value
  | .agg l => (l.map fun | .lit (.int k n) => Value.int k n | _ => .nilIface).toArray
  | _ => #[]
def putAt (h : Array Obj) (g : Nat) (c : Array Value) : Array Obj := h.modify g fun
  | .cells _ t frozen => .cells c t frozen
  | o => o
/-- A world for the witness: the settled one, the variables holding what their initialisers lay. -/
noncomputable def laidWorld (os : Os) : World :=
  let w0 := World.holding Tryd.prog os ⟨#[], #[], []⟩
  { w0 with heap := putAt (putAt (putAt w0.heap 3 (cellsOfData Rows.laid_internal_strconv_uint64pow10)) 4 (cellsOfData Rows.laid_math_bits_deBruijn32tab)) 5 (cellsOfData Rows.laid_math_bits_deBruijn64tab) }

theorem eight_ints (l : List Value) (hl : l.length = 8) (hc : ∀ i, i < 8 → ∃ n : Int, l[i]? = some (.int .i64 n)) : ∃ x0 x1 x2 x3 x4 x5 x6 x7 : Int, l = [.int .i64 x0, .int .i64 x1, .int .i64 x2, .int .i64 x3, .int .i64 x4, .int .i64 x5, .int .i64 x6, .int .i64 x7] := by
  match l, hl, hc with
  | [a0, a1, a2, a3, a4, a5, a6, a7], _, hc =>
    obtain ⟨x0, h0⟩ := hc 0 (by omega)
    obtain ⟨x1, h1⟩ := hc 1 (by omega)
    obtain ⟨x2, h2⟩ := hc 2 (by omega)
    obtain ⟨x3, h3⟩ := hc 3 (by omega)
    obtain ⟨x4, h4⟩ := hc 4 (by omega)
    obtain ⟨x5, h5⟩ := hc 5 (by omega)
    obtain ⟨x6, h6⟩ := hc 6 (by omega)
    obtain ⟨x7, h7⟩ := hc 7 (by omega)
    simp at h0 h1 h2 h3 h4 h5 h6 h7
    subst h0 h1 h2 h3 h4 h5 h6 h7
    exact ⟨x0, x1, x2, x3, x4, x5, x6, x7, rfl⟩
set_option maxRecDepth 100000 in
/-- A dimension that comes in: eight numbers. -/
theorem open_dim {H : Type} {enc : TypeId × Value → H} {w : World} {r : Reach} {b0 base : Nat} {spare : Nat → Bool} {held : Bool} {v : Value} {d : DataW H} {p : List MemPlace}
    (hv : Value.okWide Tryd.prog w r b0 24 v) (h : DataW.Trod enc Tryd.prog w base spare held 24 v d p) :
    ∃ x0 x1 x2 x3 x4 x5 x6 x7 : Int, v = .agg #[.int .i64 x0, .int .i64 x1, .int .i64 x2, .int .i64 x3, .int .i64 x4, .int .i64 x5, .int .i64 x6, .int .i64 x7] := by
  obtain ⟨cs, rfl, hsz⟩ : ∃ cs, v = .agg cs ∧ cs.size = 8 := by
    simp only [Value.okWide, Tryd.underlying24] at hv
    obtain ⟨cs, h1, h2, _⟩ := hv
    exact ⟨cs, h1, h2.trans cellsOf24⟩
  obtain ⟨fuel, hf⟩ := h
  obtain ⟨xs, m, _, _, hl, hxl, hx⟩ := DataW.trod_array Tryd.underlying24 hf
  have hc : ∀ i, i < 8 → ∃ n : Int, cs.toList[i]? = some (.int .i64 n) := by
    intro i hi
    have h1 := hx i hi
    rw [cellsOf3, Nat.mul_one, List.getElem?_eq_getElem (by omega)] at h1
    obtain ⟨n, hn, _, _⟩ := DataW.trod_int Tryd.underlying3 h1
    refine ⟨n, ?_⟩
    have h2 : (List.take 1 (List.drop i cs.toList))[0]? = some (.int .i64 n) := by
      have h3 : List.take 1 (List.drop i (Value.agg cs).cells.toList) = [.int .i64 n] := hn
      rw [show (Value.agg cs).cells = cs from rfl] at h3
      rw [h3]; rfl
    rw [List.getElem?_take, List.getElem?_drop] at h2
    simpa using h2
  obtain ⟨x0, x1, x2, x3, x4, x5, x6, x7, he⟩ := eight_ints cs.toList (by simpa using hsz) hc
  exact ⟨x0, x1, x2, x3, x4, x5, x6, x7, congrArg Value.agg (Array.ext' he)⟩
end Go.Proofs.YtccnbnfafhpeaaaDoor

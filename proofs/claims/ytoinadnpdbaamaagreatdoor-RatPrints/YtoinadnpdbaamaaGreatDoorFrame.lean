/- What the rows' lists of variables give, one world that meets them, and how a number that comes in is opened. -/
import Derived.Test.YtoinadnpdbaamaaGreatDoorCards
import Derived.Test.YtoinadnpdbaamaaGreatDoorTie
import Derived.Test.YtoinadnpdbaamaaGreatDoorText
import Derived.WalkKit
import Derived.ProofKit
import Derived.OpenShut
import Derived.ChangeSame
import Derived.Deep.DeepHandedRow
import Derived.Lib.LaidTab
import Derived.LaidSub
import Derived.LaidLaws
import Derived.Carry
namespace Go.Proofs.YtoinadnpdbaamaaGreatDoor
open Go.ChangeShapes Go.WideShapes Go.ChangeAt Go.RowKit

theorem own : ownKnob Tryz.prog.godebug = none := by kernel_rfl
theorem laidOut : laidOutB Tryz.prog = true := by kernel_rfl
theorem gPow : Tryz.prog.globalNamed "internal/strconv.uint64pow10" = some 0 := by kernel_rfl
theorem gPowType : (Tryz.prog.globals[0]?).map (·.type) = some 215 := by kernel_rfl
theorem cells215 : Tryz.prog.cellsOf 215 = 20 := by kernel_rfl
theorem cells59 : Tryz.prog.cellsOf 59 = 1 := by kernel_rfl
theorem cells23 : Tryz.prog.cellsOf 23 = 2 := by kernel_rfl
theorem cells9 : Tryz.prog.cellsOf 9 = 1 := by kernel_rfl

theorem tab_of {W : World} {l : List (String × DataW Unit)} (h : laidMet Tryz.prog l W) (e : l.filter (fun x => x.1 == "internal/strconv.uint64pow10") = [("internal/strconv.uint64pow10", Rows.laid_internal_strconv_uint64pow10)]) : Tab W := by
  have h1 := laidMet.filter (fun x => x.1 == "internal/strconv.uint64pow10") h
  rw [e] at h1
  exact Lib.tabIs_of_head (rest := []) gPow gPowType Tryz.underlying215 Tryz.underlying59 cells59 cells215 h1

set_option maxRecDepth 100000 in
/-- A number that comes in: two texts. -/
theorem open_rat {H : Type} {enc : TypeId × Value → H} {w : World} {r : Reach} {b0 base : Nat} {spare : Nat → Bool} {held : Bool} {v : Value} {d : DataW H} {p : List MemPlace}
    (hv : Value.okWide Tryz.prog w r b0 23 v) (h : DataW.Trod enc Tryz.prog w base spare held 23 v d p) :
    ∃ s t : ByteArray, v = .agg #[.string s, .string t] ∧ s.size ≤ maxLen ∧ t.size ≤ maxLen := by
  obtain ⟨cs, rfl, hsz⟩ : ∃ cs, v = .agg cs ∧ cs.size = 2 := by
    simp only [Value.okWide, Tryz.underlying23] at hv
    obtain ⟨cs, h1, h2, _⟩ := hv
    exact ⟨cs, h1, h2.trans cells23⟩
  obtain ⟨fuel, hf⟩ := h
  obtain ⟨_, _, _, _, _, g0, g1⟩ := trod_struct2 Tryz.underlying23 hf
  obtain ⟨s, e0, _, hs⟩ := DataW.trod_string Tryz.underlying9 g0
  obtain ⟨t, e1, _, ht⟩ := DataW.trod_string Tryz.underlying9 g1
  refine ⟨s, t, ?_, hs, ht⟩
  obtain ⟨l⟩ := cs
  match l, hsz with
  | [x, y], _ =>
    have k0 : [x] = [.string s] := by rw [← e0]; show [x] = List.take (Tryz.prog.cellsOf 9) (List.drop 0 [x, y]); rw [cells9]; rfl
    have k1 : [y] = [.string t] := by rw [← e1]; show [y] = List.take (Tryz.prog.cellsOf 9) (List.drop 1 [x, y]); rw [cells9]; rfl
    simp only [List.cons.injEq, and_true] at k0 k1
    rw [k0, k1]

/-- A table's cells, off its datum. -/
def cellsOf1 : DataW Unit → List Value
  | .lit (.int k n) => [Value.int k n]
  | .agg l => l.map fun | .lit (.int k n) => Value.int k n | _ => .nilIface
  | _ => []
def cellsOfData : DataW Unit → Array Value
  | .agg l => (l.flatMap cellsOf1).toArray
  | _ => #[]
def synS : ByteArray := ⟨#[105, 110, 118, 97, 108, 105, 100, 32, 115, 121, 110, 116, 97, 120]⟩
def rngS : ByteArray := ⟨#[118, 97, 108, 117, 101, 32, 111, 117, 116, 32, 111, 102, 32, 114, 97, 110, 103, 101]⟩
noncomputable def low : Nat := (World.holding Tryz.prog default ⟨#[], #[], []⟩).heap.size
def putAt (h : Array Obj) (g : Nat) (c : Array Value) : Array Obj := h.modify g fun
  | .cells _ t frozen => .cells c t frozen
  | o => o
/-- A world for the witness: the settled one, the variables holding what their initialisers lay. -/
noncomputable def laidWorld (os : Os) : World :=
  let w0 := World.holding Tryz.prog os ⟨#[.cells #[.string synS] 233, .cells #[.string rngS] 233], #[], []⟩
  { w0 with heap := putAt (putAt (putAt (putAt (putAt (putAt (putAt w0.heap 1 #[.iface 231 (.pointer (some ⟨low, 0, none⟩))]) 2 #[.iface 231 (.pointer (some ⟨low + 1, 0, none⟩))]) 0 (cellsOfData Rows.laid_internal_strconv_uint64pow10)) 4 (cellsOfData Rows.laid_math_bits_deBruijn32tab)) 5 (cellsOfData Rows.laid_math_bits_deBruijn64tab)) 6 (cellsOfData Rows.laid_unicode_utf8_first)) 7 (cellsOfData Rows.laid_unicode_utf8_acceptRanges) }
end Go.Proofs.YtoinadnpdbaamaaGreatDoor

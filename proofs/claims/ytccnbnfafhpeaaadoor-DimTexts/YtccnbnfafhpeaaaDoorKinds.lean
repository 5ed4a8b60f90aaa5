/- The table of kinds, as dim.kinds and the document's own make it. -/
import Derived.Test.YtccnbnfafhpeaaaDoorMem
import Derived.Great.BuildSlice
namespace Go.Proofs.YtccnbnfafhpeaaaDoor
open Go.RowKit

/-- The kinds: a name's bytes, eight exponents. -/
def kindTab : List (List UInt8 × List Int) := [
  ([110, 117, 109, 98, 101, 114], [0, 0, 0, 0, 0, 0, 0, 0]),
  ([108, 101, 110, 103, 116, 104], [1, 0, 0, 0, 0, 0, 0, 0]),
  ([109, 97, 115, 115], [0, 1, 0, 0, 0, 0, 0, 0]),
  ([116, 105, 109, 101], [0, 0, 1, 0, 0, 0, 0, 0]),
  ([99, 117, 114, 114, 101, 110, 116], [0, 0, 0, 1, 0, 0, 0, 0]),
  ([116, 101, 109, 112, 101, 114, 97, 116, 117, 114, 101], [0, 0, 0, 0, 1, 0, 0, 0]),
  ([97, 109, 111, 117, 110, 116], [0, 0, 0, 0, 0, 1, 0, 0]),
  ([108, 105, 103, 104, 116], [0, 0, 0, 0, 0, 0, 1, 0]),
  ([105, 110, 102, 111, 114, 109, 97, 116, 105, 111, 110], [0, 0, 0, 0, 0, 0, 0, 1]),
  ([118, 111, 108, 117, 109, 101], [3, 0, 0, 0, 0, 0, 0, 0]),
  ([115, 112, 101, 101, 100], [1, 0, (-1), 0, 0, 0, 0, 0]),
  ([102, 111, 114, 99, 101], [1, 1, (-2), 0, 0, 0, 0, 0]),
  ([101, 110, 101, 114, 103, 121], [2, 1, (-2), 0, 0, 0, 0, 0]),
  ([100, 101, 110, 115, 105, 116, 121], [(-3), 1, 0, 0, 0, 0, 0, 0]),
  ([97, 99, 116, 105, 111, 110], [2, 1, (-1), 0, 0, 0, 0, 0]),
  ([99, 104, 97, 114, 103, 101], [0, 0, 1, 1, 0, 0, 0, 0]),
  ([118, 111, 108, 116, 97, 103, 101], [2, 1, (-3), (-1), 0, 0, 0, 0]),
  ([114, 101, 115, 105, 115, 116, 97, 110, 99, 101], [2, 1, (-3), (-2), 0, 0, 0, 0]),
  ([99, 111, 110, 100, 117, 99, 116, 97, 110, 99, 101], [(-2), (-1), 3, 2, 0, 0, 0, 0]),
  ([99, 97, 112, 97, 99, 105, 116, 97, 110, 99, 101], [(-2), (-1), 4, 2, 0, 0, 0, 0]),
  ([105, 110, 100, 117, 99, 116, 97, 110, 99, 101], [2, 1, (-2), (-2), 0, 0, 0, 0]),
  ([102, 108, 117, 120], [2, 1, (-2), (-1), 0, 0, 0, 0]),
  ([102, 105, 101, 108, 100], [0, 1, (-2), (-1), 0, 0, 0, 0]),
  ([97, 114, 101, 97], [2, 0, 0, 0, 0, 0, 0, 0]),
  ([102, 114, 101, 113, 117, 101, 110, 99, 121], [0, 0, (-1), 0, 0, 0, 0, 0]),
  ([97, 99, 99, 101, 108, 101, 114, 97, 116, 105, 111, 110], [1, 0, (-2), 0, 0, 0, 0, 0]),
  ([112, 114, 101, 115, 115, 117, 114, 101], [(-1), 1, (-2), 0, 0, 0, 0, 0]),
  ([112, 111, 119, 101, 114], [2, 1, (-3), 0, 0, 0, 0, 0]),
  ([109, 111, 109, 101, 110, 116, 117, 109], [1, 1, (-1), 0, 0, 0, 0, 0]),
  ([101, 110, 116, 114, 111, 112, 121], [2, 1, (-2), 0, (-1), 0, 0, 0])]
/-- As cells. -/
def kcells : Array Value := (kindTab.flatMap fun x => Value.string ⟨x.1.toArray⟩ :: x.2.map fun z => Value.int .i64 z).toArray
/-- A slice literal of a table's rows. -/
theorem buildRows {ops : Array Oper} {rest : List Oper} {o : Oper} {a : Act} {w : World} {Q : Exit → Act → World → Prop} (hg : o.guard = none) (t e : TypeId) (parts : Array (Nat × Operand)) (ho : o.op = .buildSlice t 30 parts)
    (z : Value) (cells : Array Value) (d : Option Tmp) (hd : o.dst = d)
    (hu : Tryd.prog.underlying t = some (.slice e)) (hsz : (Tryd.prog.info? e).map (·.size) = some 9) (hz : (Tryd.prog.info? e).bind (·.zero) = some z)
    (hf : Instr.fill (fun i => some (i * 9, 9)) ((Array.range (30 * 9)).map (z.cells[· % z.cells.size]!)) (parts.map fun (i, x) => (i, a.eval x)).toList = some cells)
    (h : wpList Tryd.prog ops Q rest (a.put d (.slice (some ⟨w.heap.size, 0, none⟩) 30 30)) (w.alloc (.cells cells e))) : wpList Tryd.prog ops Q (o :: rest) a w := by
  subst hd
  cases hie : Tryd.prog.info? e with
  | none => simp [hie] at hsz
  | some ie =>
    simp only [hie, Option.map_some, Option.some.injEq, Option.bind_some] at hsz hz
    refine wpList_buildSlice hg t e 30 parts ho cells ie z hu hie hz (by rw [hsz]; decide) (by rw [hsz]; decide) ?_ h
    rw [hsz]
    exact hf
def zeroKind : Value := .agg #[.string ⟨#[]⟩, .int .i64 0, .int .i64 0, .int .i64 0, .int .i64 0, .int .i64 0, .int .i64 0, .int .i64 0, .int .i64 0]

set_option maxRecDepth 100000 in
set_option maxHeartbeats 4000000 in
theorem kinds_any (w : World) : Calls Tryd.prog 47 #[] w fun e w' => e = .returned (.slice (some ⟨w.heap.size, 0, none⟩) 30 30) ∧ w' = w.alloc (.cells kcells 68) := by
  go_enter Tryd.func47, Tryd.ntmps47
  go_wp2_with (first
    | (refine wpList_buildTo rfl 24 _ rfl (some 1) rfl #[.int .i64 0, .int .i64 0, .int .i64 0, .int .i64 0, .int .i64 0, .int .i64 0, .int .i64 0, .int .i64 0] (by kernel_rfl) ?_)
    | (refine wpList_buildTo rfl 68 _ rfl (some 2) rfl #[.string ⟨#[110, 117, 109, 98, 101, 114]⟩, .int .i64 0, .int .i64 0, .int .i64 0, .int .i64 0, .int .i64 0, .int .i64 0, .int .i64 0, .int .i64 0] (by kernel_rfl) ?_)
    | (refine wpList_buildTo rfl 24 _ rfl (some 3) rfl #[.int .i64 1, .int .i64 0, .int .i64 0, .int .i64 0, .int .i64 0, .int .i64 0, .int .i64 0, .int .i64 0] (by kernel_rfl) ?_)
    | (refine wpList_buildTo rfl 68 _ rfl (some 4) rfl #[.string ⟨#[108, 101, 110, 103, 116, 104]⟩, .int .i64 1, .int .i64 0, .int .i64 0, .int .i64 0, .int .i64 0, .int .i64 0, .int .i64 0, .int .i64 0] (by kernel_rfl) ?_)
    | (refine wpList_buildTo rfl 24 _ rfl (some 5) rfl #[.int .i64 0, .int .i64 1, .int .i64 0, .int .i64 0, .int .i64 0, .int .i64 0, .int .i64 0, .int .i64 0] (by kernel_rfl) ?_)
    | (refine wpList_buildTo rfl 68 _ rfl (some 6) rfl #[.string ⟨#[109, 97, 115, 115]⟩, .int .i64 0, .int .i64 1, .int .i64 0, .int .i64 0, .int .i64 0, .int .i64 0, .int .i64 0, .int .i64 0] (by kernel_rfl) ?_)
    | (refine wpList_buildTo rfl 24 _ rfl (some 7) rfl #[.int .i64 0, .int .i64 0, .int .i64 1, .int .i64 0, .int .i64 0, .int .i64 0, .int .i64 0, .int .i64 0] (by kernel_rfl) ?_)
    | (refine wpList_buildTo rfl 68 _ rfl (some 8) rfl #[.string ⟨#[116, 105, 109, 101]⟩, .int .i64 0, .int .i64 0, .int .i64 1, .int .i64 0, .int .i64 0, .int .i64 0, .int .i64 0, .int .i64 0] (by kernel_rfl) ?_)
    | (refine wpList_buildTo rfl 24 _ rfl (some 9) rfl #[.int .i64 0, .int .i64 0, .int .i64 0, .int .i64 1, .int .i64 0, .int .i64 0, .int .i64 0, .int .i64 0] (by kernel_rfl) ?_)
    | (refine wpList_buildTo rfl 68 _ rfl (some 10) rfl #[.string ⟨#[99, 117, 114, 114, 101, 110, 116]⟩, .int .i64 0, .int .i64 0, .int .i64 0, .int .i64 1, .int .i64 0, .int .i64 0, .int .i64 0, .int .i64 0] (by kernel_rfl) ?_)
    | (refine wpList_buildTo rfl 24 _ rfl (some 11) rfl #[.int .i64 0, .int .i64 0, .int .i64 0, .int .i64 0, .int .i64 1, .int .i64 0, .int .i64 0, .int .i64 0] (by kernel_rfl) ?_)
    | (refine wpList_buildTo rfl 68 _ rfl (some 12) rfl #[.string ⟨#[116, 101, 109, 112, 101, 114, 97, 116, 117, 114, 101]⟩, .int .i64 0, .int .i64 0, .int .i64 0, .int .i64 0, .int .i64 1, .int .i64 0, .int .i64 0, .int .i64 0] (by kernel_rfl) ?_)
    | (refine wpList_buildTo rfl 24 _ rfl (some 13) rfl #[.int .i64 0, .int .i64 0, .int .i64 0, .int .i64 0, .int .i64 0, .int .i64 1, .int .i64 0, .int .i64 0] (by kernel_rfl) ?_)
    | (refine wpList_buildTo rfl 68 _ rfl (some 14) rfl #[.string ⟨#[97, 109, 111, 117, 110, 116]⟩, .int .i64 0, .int .i64 0, .int .i64 0, .int .i64 0, .int .i64 0, .int .i64 1, .int .i64 0, .int .i64 0] (by kernel_rfl) ?_)
    | (refine wpList_buildTo rfl 24 _ rfl (some 15) rfl #[.int .i64 0, .int .i64 0, .int .i64 0, .int .i64 0, .int .i64 0, .int .i64 0, .int .i64 1, .int .i64 0] (by kernel_rfl) ?_)
    | (refine wpList_buildTo rfl 68 _ rfl (some 16) rfl #[.string ⟨#[108, 105, 103, 104, 116]⟩, .int .i64 0, .int .i64 0, .int .i64 0, .int .i64 0, .int .i64 0, .int .i64 0, .int .i64 1, .int .i64 0] (by kernel_rfl) ?_)
    | (refine wpList_buildTo rfl 24 _ rfl (some 17) rfl #[.int .i64 0, .int .i64 0, .int .i64 0, .int .i64 0, .int .i64 0, .int .i64 0, .int .i64 0, .int .i64 1] (by kernel_rfl) ?_)
    | (refine wpList_buildTo rfl 68 _ rfl (some 18) rfl #[.string ⟨#[105, 110, 102, 111, 114, 109, 97, 116, 105, 111, 110]⟩, .int .i64 0, .int .i64 0, .int .i64 0, .int .i64 0, .int .i64 0, .int .i64 0, .int .i64 0, .int .i64 1] (by kernel_rfl) ?_)
    | (refine wpList_buildTo rfl 24 _ rfl (some 19) rfl #[.int .i64 3, .int .i64 0, .int .i64 0, .int .i64 0, .int .i64 0, .int .i64 0, .int .i64 0, .int .i64 0] (by kernel_rfl) ?_)
    | (refine wpList_buildTo rfl 68 _ rfl (some 20) rfl #[.string ⟨#[118, 111, 108, 117, 109, 101]⟩, .int .i64 3, .int .i64 0, .int .i64 0, .int .i64 0, .int .i64 0, .int .i64 0, .int .i64 0, .int .i64 0] (by kernel_rfl) ?_)
    | (refine wpList_buildTo rfl 24 _ rfl (some 21) rfl #[.int .i64 1, .int .i64 0, .int .i64 (-1), .int .i64 0, .int .i64 0, .int .i64 0, .int .i64 0, .int .i64 0] (by kernel_rfl) ?_)
    | (refine wpList_buildTo rfl 68 _ rfl (some 22) rfl #[.string ⟨#[115, 112, 101, 101, 100]⟩, .int .i64 1, .int .i64 0, .int .i64 (-1), .int .i64 0, .int .i64 0, .int .i64 0, .int .i64 0, .int .i64 0] (by kernel_rfl) ?_)
    | (refine wpList_buildTo rfl 24 _ rfl (some 23) rfl #[.int .i64 1, .int .i64 1, .int .i64 (-2), .int .i64 0, .int .i64 0, .int .i64 0, .int .i64 0, .int .i64 0] (by kernel_rfl) ?_)
    | (refine wpList_buildTo rfl 68 _ rfl (some 24) rfl #[.string ⟨#[102, 111, 114, 99, 101]⟩, .int .i64 1, .int .i64 1, .int .i64 (-2), .int .i64 0, .int .i64 0, .int .i64 0, .int .i64 0, .int .i64 0] (by kernel_rfl) ?_)
    | (refine wpList_buildTo rfl 24 _ rfl (some 25) rfl #[.int .i64 2, .int .i64 1, .int .i64 (-2), .int .i64 0, .int .i64 0, .int .i64 0, .int .i64 0, .int .i64 0] (by kernel_rfl) ?_)
    | (refine wpList_buildTo rfl 68 _ rfl (some 26) rfl #[.string ⟨#[101, 110, 101, 114, 103, 121]⟩, .int .i64 2, .int .i64 1, .int .i64 (-2), .int .i64 0, .int .i64 0, .int .i64 0, .int .i64 0, .int .i64 0] (by kernel_rfl) ?_)
    | (refine wpList_buildTo rfl 24 _ rfl (some 27) rfl #[.int .i64 (-3), .int .i64 1, .int .i64 0, .int .i64 0, .int .i64 0, .int .i64 0, .int .i64 0, .int .i64 0] (by kernel_rfl) ?_)
    | (refine wpList_buildTo rfl 68 _ rfl (some 28) rfl #[.string ⟨#[100, 101, 110, 115, 105, 116, 121]⟩, .int .i64 (-3), .int .i64 1, .int .i64 0, .int .i64 0, .int .i64 0, .int .i64 0, .int .i64 0, .int .i64 0] (by kernel_rfl) ?_)
    | (refine wpList_buildTo rfl 24 _ rfl (some 29) rfl #[.int .i64 2, .int .i64 1, .int .i64 (-1), .int .i64 0, .int .i64 0, .int .i64 0, .int .i64 0, .int .i64 0] (by kernel_rfl) ?_)
    | (refine wpList_buildTo rfl 68 _ rfl (some 30) rfl #[.string ⟨#[97, 99, 116, 105, 111, 110]⟩, .int .i64 2, .int .i64 1, .int .i64 (-1), .int .i64 0, .int .i64 0, .int .i64 0, .int .i64 0, .int .i64 0] (by kernel_rfl) ?_)
    | (refine wpList_buildTo rfl 24 _ rfl (some 31) rfl #[.int .i64 0, .int .i64 0, .int .i64 1, .int .i64 1, .int .i64 0, .int .i64 0, .int .i64 0, .int .i64 0] (by kernel_rfl) ?_)
    | (refine wpList_buildTo rfl 68 _ rfl (some 32) rfl #[.string ⟨#[99, 104, 97, 114, 103, 101]⟩, .int .i64 0, .int .i64 0, .int .i64 1, .int .i64 1, .int .i64 0, .int .i64 0, .int .i64 0, .int .i64 0] (by kernel_rfl) ?_)
    | (refine wpList_buildTo rfl 24 _ rfl (some 33) rfl #[.int .i64 2, .int .i64 1, .int .i64 (-3), .int .i64 (-1), .int .i64 0, .int .i64 0, .int .i64 0, .int .i64 0] (by kernel_rfl) ?_)
    | (refine wpList_buildTo rfl 68 _ rfl (some 34) rfl #[.string ⟨#[118, 111, 108, 116, 97, 103, 101]⟩, .int .i64 2, .int .i64 1, .int .i64 (-3), .int .i64 (-1), .int .i64 0, .int .i64 0, .int .i64 0, .int .i64 0] (by kernel_rfl) ?_)
    | (refine wpList_buildTo rfl 24 _ rfl (some 35) rfl #[.int .i64 2, .int .i64 1, .int .i64 (-3), .int .i64 (-2), .int .i64 0, .int .i64 0, .int .i64 0, .int .i64 0] (by kernel_rfl) ?_)
    | (refine wpList_buildTo rfl 68 _ rfl (some 36) rfl #[.string ⟨#[114, 101, 115, 105, 115, 116, 97, 110, 99, 101]⟩, .int .i64 2, .int .i64 1, .int .i64 (-3), .int .i64 (-2), .int .i64 0, .int .i64 0, .int .i64 0, .int .i64 0] (by kernel_rfl) ?_)
    | (refine wpList_buildTo rfl 24 _ rfl (some 37) rfl #[.int .i64 (-2), .int .i64 (-1), .int .i64 3, .int .i64 2, .int .i64 0, .int .i64 0, .int .i64 0, .int .i64 0] (by kernel_rfl) ?_)
    | (refine wpList_buildTo rfl 68 _ rfl (some 38) rfl #[.string ⟨#[99, 111, 110, 100, 117, 99, 116, 97, 110, 99, 101]⟩, .int .i64 (-2), .int .i64 (-1), .int .i64 3, .int .i64 2, .int .i64 0, .int .i64 0, .int .i64 0, .int .i64 0] (by kernel_rfl) ?_)
    | (refine wpList_buildTo rfl 24 _ rfl (some 39) rfl #[.int .i64 (-2), .int .i64 (-1), .int .i64 4, .int .i64 2, .int .i64 0, .int .i64 0, .int .i64 0, .int .i64 0] (by kernel_rfl) ?_)
    | (refine wpList_buildTo rfl 68 _ rfl (some 40) rfl #[.string ⟨#[99, 97, 112, 97, 99, 105, 116, 97, 110, 99, 101]⟩, .int .i64 (-2), .int .i64 (-1), .int .i64 4, .int .i64 2, .int .i64 0, .int .i64 0, .int .i64 0, .int .i64 0] (by kernel_rfl) ?_)
    | (refine wpList_buildTo rfl 24 _ rfl (some 41) rfl #[.int .i64 2, .int .i64 1, .int .i64 (-2), .int .i64 (-2), .int .i64 0, .int .i64 0, .int .i64 0, .int .i64 0] (by kernel_rfl) ?_)
    | (refine wpList_buildTo rfl 68 _ rfl (some 42) rfl #[.string ⟨#[105, 110, 100, 117, 99, 116, 97, 110, 99, 101]⟩, .int .i64 2, .int .i64 1, .int .i64 (-2), .int .i64 (-2), .int .i64 0, .int .i64 0, .int .i64 0, .int .i64 0] (by kernel_rfl) ?_)
    | (refine wpList_buildTo rfl 24 _ rfl (some 43) rfl #[.int .i64 2, .int .i64 1, .int .i64 (-2), .int .i64 (-1), .int .i64 0, .int .i64 0, .int .i64 0, .int .i64 0] (by kernel_rfl) ?_)
    | (refine wpList_buildTo rfl 68 _ rfl (some 44) rfl #[.string ⟨#[102, 108, 117, 120]⟩, .int .i64 2, .int .i64 1, .int .i64 (-2), .int .i64 (-1), .int .i64 0, .int .i64 0, .int .i64 0, .int .i64 0] (by kernel_rfl) ?_)
    | (refine wpList_buildTo rfl 24 _ rfl (some 45) rfl #[.int .i64 0, .int .i64 1, .int .i64 (-2), .int .i64 (-1), .int .i64 0, .int .i64 0, .int .i64 0, .int .i64 0] (by kernel_rfl) ?_)
    | (refine wpList_buildTo rfl 68 _ rfl (some 46) rfl #[.string ⟨#[102, 105, 101, 108, 100]⟩, .int .i64 0, .int .i64 1, .int .i64 (-2), .int .i64 (-1), .int .i64 0, .int .i64 0, .int .i64 0, .int .i64 0] (by kernel_rfl) ?_)
    | (refine wpList_buildTo rfl 24 _ rfl (some 47) rfl #[.int .i64 2, .int .i64 0, .int .i64 0, .int .i64 0, .int .i64 0, .int .i64 0, .int .i64 0, .int .i64 0] (by kernel_rfl) ?_)
    | (refine wpList_buildTo rfl 68 _ rfl (some 48) rfl #[.string ⟨#[97, 114, 101, 97]⟩, .int .i64 2, .int .i64 0, .int .i64 0, .int .i64 0, .int .i64 0, .int .i64 0, .int .i64 0, .int .i64 0] (by kernel_rfl) ?_)
    | (refine wpList_buildTo rfl 24 _ rfl (some 49) rfl #[.int .i64 0, .int .i64 0, .int .i64 (-1), .int .i64 0, .int .i64 0, .int .i64 0, .int .i64 0, .int .i64 0] (by kernel_rfl) ?_)
    | (refine wpList_buildTo rfl 68 _ rfl (some 50) rfl #[.string ⟨#[102, 114, 101, 113, 117, 101, 110, 99, 121]⟩, .int .i64 0, .int .i64 0, .int .i64 (-1), .int .i64 0, .int .i64 0, .int .i64 0, .int .i64 0, .int .i64 0] (by kernel_rfl) ?_)
    | (refine wpList_buildTo rfl 24 _ rfl (some 51) rfl #[.int .i64 1, .int .i64 0, .int .i64 (-2), .int .i64 0, .int .i64 0, .int .i64 0, .int .i64 0, .int .i64 0] (by kernel_rfl) ?_)
    | (refine wpList_buildTo rfl 68 _ rfl (some 52) rfl #[.string ⟨#[97, 99, 99, 101, 108, 101, 114, 97, 116, 105, 111, 110]⟩, .int .i64 1, .int .i64 0, .int .i64 (-2), .int .i64 0, .int .i64 0, .int .i64 0, .int .i64 0, .int .i64 0] (by kernel_rfl) ?_)
    | (refine wpList_buildTo rfl 24 _ rfl (some 53) rfl #[.int .i64 (-1), .int .i64 1, .int .i64 (-2), .int .i64 0, .int .i64 0, .int .i64 0, .int .i64 0, .int .i64 0] (by kernel_rfl) ?_)
    | (refine wpList_buildTo rfl 68 _ rfl (some 54) rfl #[.string ⟨#[112, 114, 101, 115, 115, 117, 114, 101]⟩, .int .i64 (-1), .int .i64 1, .int .i64 (-2), .int .i64 0, .int .i64 0, .int .i64 0, .int .i64 0, .int .i64 0] (by kernel_rfl) ?_)
    | (refine wpList_buildTo rfl 24 _ rfl (some 55) rfl #[.int .i64 2, .int .i64 1, .int .i64 (-3), .int .i64 0, .int .i64 0, .int .i64 0, .int .i64 0, .int .i64 0] (by kernel_rfl) ?_)
    | (refine wpList_buildTo rfl 68 _ rfl (some 56) rfl #[.string ⟨#[112, 111, 119, 101, 114]⟩, .int .i64 2, .int .i64 1, .int .i64 (-3), .int .i64 0, .int .i64 0, .int .i64 0, .int .i64 0, .int .i64 0] (by kernel_rfl) ?_)
    | (refine wpList_buildTo rfl 24 _ rfl (some 57) rfl #[.int .i64 1, .int .i64 1, .int .i64 (-1), .int .i64 0, .int .i64 0, .int .i64 0, .int .i64 0, .int .i64 0] (by kernel_rfl) ?_)
    | (refine wpList_buildTo rfl 68 _ rfl (some 58) rfl #[.string ⟨#[109, 111, 109, 101, 110, 116, 117, 109]⟩, .int .i64 1, .int .i64 1, .int .i64 (-1), .int .i64 0, .int .i64 0, .int .i64 0, .int .i64 0, .int .i64 0] (by kernel_rfl) ?_)
    | (refine wpList_buildTo rfl 24 _ rfl (some 59) rfl #[.int .i64 2, .int .i64 1, .int .i64 (-2), .int .i64 0, .int .i64 (-1), .int .i64 0, .int .i64 0, .int .i64 0] (by kernel_rfl) ?_)
    | (refine wpList_buildTo rfl 68 _ rfl (some 60) rfl #[.string ⟨#[101, 110, 116, 114, 111, 112, 121]⟩, .int .i64 2, .int .i64 1, .int .i64 (-2), .int .i64 0, .int .i64 (-1), .int .i64 0, .int .i64 0, .int .i64 0] (by kernel_rfl) ?_)
    | (refine buildRows rfl 65 68 _ rfl zeroKind kcells (some 61) rfl Tryd.underlying65 (by kernel_rfl) (by kernel_rfl) (by kernel_rfl) ?_))
  go_ret
  exact ⟨rfl, rfl⟩

end Go.Proofs.YtccnbnfafhpeaaaDoor

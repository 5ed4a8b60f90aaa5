/- A list of texts that is handed in is no longer than the form's own reach. -/
import Derived.Test.YtiooiacebgojiaaDoorCardRows
namespace Go.Proofs.YtiooiacebgojiaaDoor
open Go.ChangeShapes Go.WideShapes Go.ChangeAt Go.RowKit

theorem bytesOf9 : Tryd.prog.bytesOf 9 = 16 := by kernel_rfl
theorem row_len {H : Type} {enc : TypeId × Value → H} {W : World} {v : Value} {d : DataW H} {p : List MemPlace} {ss : List ByteArray} (hr : RowS W v ss) (h : DataW.Trod enc Tryd.prog W 0 (fun _ => true) true 37 v d p)
    {ts : List TypeId} {ds : List (DataW H)} {j : Nat} (hz : (DataW.weightsEach Tryd.prog ts ds).all (· ≤ reachBytes) = true) (ht : ts[j]? = some 37) (hd : ds[j]? = some d) : ss.length ≤ 8796093022208 := by
  obtain ⟨a0, cap, rfl, hc, hm, hn, _⟩ := hr
  obtain ⟨fuel, hf⟩ := h
  rcases open_strings under37 Tryd.underlying9 cellsOf9 hf with ⟨hcs, hx⟩ | ⟨a, len', cap', xs, hcs, _, hl, hm', hz', hx, hcell, hws⟩
  · simp [Value.cells] at hcs
    have : ss.length = 0 := by rw [hcs.2.1]; rfl
    omega
  · simp [Value.cells] at hcs
    obtain ⟨rfl, rfl, rfl⟩ := hcs
    simp only [Prod.mk.injEq] at hx
    obtain ⟨rfl, rfl⟩ := hx
    simp only [if_true] at hz'
    have := sized_slice hz ht hd under37
    rw [bytesOf9] at this
    simp only [strs, List.length_map, List.length_take, List.length_drop, reachBytes] at this
    omega
end Go.Proofs.YtiooiacebgojiaaDoor

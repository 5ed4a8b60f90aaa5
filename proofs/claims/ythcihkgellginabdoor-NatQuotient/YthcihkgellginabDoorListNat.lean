/- nat.Sum and nat.Prod of a list of texts. -/
import Derived.Test.YthcihkgellginabDoorListRef
import Derived.Test.YthcihkgellginabDoorMul
import Derived.Test.YthcihkgellginabDoorLen
import Derived.Deep.Cut
namespace Go.Proofs.YthcihkgellginabDoor
open Go.RowKit

theorem bigN (s : ByteArray) (w : World) (h : Cub.rightB s.data.toList = true) :
    Calls Tryd.prog 30 #[.string s] w fun e w' => ∃ a n c, e = .returned (.agg #[.slice a n c]) ∧ IsBig w' (.agg #[.slice a n c]) (val s) ∧ Below w.heap.size w w' := by
  refine (bigText_any s w (Nat.le_trans (right_dig2 h).2 (by decide)) (right_dig2 h).1).mono ?_
  rintro e w' ⟨v, rfl, hv, hb⟩
  obtain ⟨a, n, c, rfl⟩ := hv.shape
  exact ⟨a, n, c, rfl, hv, hb⟩
theorem addB (x y : Value) (m n r k : Nat) (w : World) (hx : IsBig w x m) (hy : IsBig w y n) (hk : k ≤ 1000000) (hm : m < 1000000000 ^ k) (hn : n < 1000000000 ^ k) (hr : r = m + n) :
    Calls Tryd.prog 38 #[x, y] w fun e w' => ∃ a l c, e = .returned (.agg #[.slice a l c]) ∧ IsBig w' (.agg #[.slice a l c]) r ∧ Below w.heap.size w w' := by
  subst hr
  refine (add_any x y m n k w hx hy hk hm hn).mono ?_
  rintro e w' ⟨v, rfl, hv, hb⟩
  obtain ⟨a, n, c, rfl⟩ := hv.shape
  exact ⟨a, n, c, rfl, hv, hb⟩

end Go.Proofs.YthcihkgellginabDoor

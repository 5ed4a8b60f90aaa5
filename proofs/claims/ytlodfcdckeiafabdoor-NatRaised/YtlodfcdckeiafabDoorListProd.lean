/- nat.Prod of a list of texts. -/
import Derived.Test.YtlodfcdckeiafabDoorListNat
import Derived.Test.YtlodfcdckeiafabDoorBigOf
namespace Go.Proofs.YtlodfcdckeiafabDoor
open Go.RowKit

theorem mulB (x y : Value) (m n r k : Nat) (w : World) (hx : IsBig w x m) (hy : IsBig w y n) (hk : k ≤ 1000000) (hm : m < 1000000000 ^ k) (hn : n < 1000000000 ^ k) (hr : r = m * n) :
    Calls Tryd.prog 46 #[x, y] w fun e w' => ∃ a l c, e = .returned (.agg #[.slice a l c]) ∧ IsBig w' (.agg #[.slice a l c]) r ∧ Below w.heap.size w w' := by
  subst hr
  refine (mul_any x y m n k w hx hy hk hm hn).mono ?_
  rintro e w' ⟨v, rfl, hv, hb⟩
  obtain ⟨a, n, c, rfl⟩ := hv.shape
  exact ⟨a, n, c, rfl, hv, hb⟩

end Go.Proofs.YtlodfcdckeiafabDoor

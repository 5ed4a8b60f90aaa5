/- The document's Simple. -/
import Derived.Test.YtndhinoomlofgaaGreatDoorRefCmp
import Derived.Test.YtndhinoomlofgaaGreatDoorTxs
import Derived.Test.YtndhinoomlofgaaGreatDoorReads
import Derived.Test.YtndhinoomlofgaaGreatDoorSimple
import Derived.Test.YtndhinoomlofgaaGreatDoorOrdA
import Derived.Deep.RegionHeld3
import Derived.Deep.Cut
namespace Go.Proofs.YtndhinoomlofgaaGreatDoor
open Go.RowKit
/-- Both numbers as the document holds them. -/
structure QB (w W : World) (g6 g7 : Nat) (ab : Bool) (an ad : ByteArray) (bb : Bool) (bn bd : ByteArray) : Prop where
  r : T2 W (w.heap.size + 1 + 1) (.string ⟨#[]⟩) (.string ⟨#[]⟩)
  f : FBox W g6 (.bool ab) (.string an) (.string ad)
  g : FBox W g7 (.bool bb) (.string bn) (.string bd)
  below : Below w.heap.size w W
theorem QB.later {w W V : World} {g6 g7 : Nat} {ab bb : Bool} {an ad bn bd : ByteArray} (s : QB w W g6 g7 ab an ad bb bn bd) (hb : Below W.heap.size W V) : QB w V g6 g7 ab an ad bb bn bd := ⟨s.r.later hb, s.f.later hb, s.g.later hb, s.below.trans (hb.mono s.below.size)⟩
structure A3 (w W : World) (n1 d1 n2 d2 : ByteArray) : Prop where
  a : T2 W w.heap.size (.string n1) (.string d1)
  b : T2 W (w.heap.size + 1) (.string n2) (.string d2)
  r : T2 W (w.heap.size + 1 + 1) (.string ⟨#[]⟩) (.string ⟨#[]⟩)
  below : Below w.heap.size w W
theorem A3.later {w W V : World} {n1 d1 n2 d2 : ByteArray} (s : A3 w W n1 d1 n2 d2) (hb : Below W.heap.size W V) : A3 w V n1 d1 n2 d2 := ⟨s.a.later hb, s.b.later hb, s.r.later hb, s.below.trans (hb.mono s.below.size)⟩
section
variable {P : Program} {ops : Array Oper} {Q : Exit → Act → World → Prop} {md : Region.Mode} {S S7 : World → Prop} {k : Nat}
end
theorem A3.st {w W : World} {n1 d1 n2 d2 : ByteArray} {g : Nat} (s : A3 w W n1 d1 n2 d2) (l : w.heap.size + 1 + 1 < g) (x y z : Value) : A3 w (store3 W g x y z) n1 d1 n2 d2 :=
  ⟨((s.a.otherAt (by omega) _).otherAt (by omega) _).otherAt (by omega) _, ((s.b.otherAt (by omega) _).otherAt (by omega) _).otherAt (by omega) _, ((s.r.otherAt (by omega) _).otherAt (by omega) _).otherAt (by omega) _, below_store3 s.below (by omega) _ _ _⟩
end Go.Proofs.YtndhinoomlofgaaGreatDoor

/- The document's own SameTexts and KeptTexts. -/
import Derived.Test.YtkekkneafnkjoaaDoorLent
import Derived.Deep.Cut
namespace Go.Proofs.YtkekkneafnkjoaaDoor
open Go.RowKit

set_option maxRecDepth 100000 in
set_option maxHeartbeats 800000 in
theorem same_any (a b : Option Addr) (n ca cb : Nat) (ss : List ByteArray) (w : World) (hn : n = ss.length) (hmax : n ≤ 9223372036854775807) (ha : InMem w a ss) (hb : InMem w b ss) :
    Calls Tryd.prog 70 #[.slice a n ca, .slice b n cb] w fun e w' => e = .returned (.bool true) ∧ Below w.heap.size w w' := by
  have HN := hide hn
  have HA := hide ha
  have HB := hide hb
  clear hn ha hb
  go_enter Tryd.func70, Tryd.ntmps70
  go_wp2
  go_loopw [5] (fun t wr => ∃ k : Nat, k ≤ n ∧ t = .int .i64 (k : Int) ∧ Below w.heap.size w wr) (fun t _ => n - (intOf t).toNat)
  case atStart => exact ⟨0, Nat.zero_le _, rfl, Below.refl _ _⟩
  case round =>
    obtain ⟨k, hk, rfl, hbl⟩ := hrel
    by_cases hkn : k < n
    · have hkl : k < ss.length := by have := unhide HN; omega
      obtain ⟨b1, o1, rfl, hx⟩ := ((unhide HA).later hbl) k hkl
      obtain ⟨b2, o2, rfl, hy⟩ := ((unhide HB).later hbl) k hkl
      generalize ss[k] = s at *
      go_upto_region 6 with fail
      go_region
      all_goals go_wp2
      all_goals (go_roundw; (case rel => exact ⟨k + 1, by omega, by go_num, hbl.drew⟩); (case measure => simp [intOf]; omega))
    · go_wp2
      go_ret
      exact ⟨rfl, hbl⟩

set_option maxRecDepth 100000 in
set_option maxHeartbeats 800000 in
theorem kept_any (v : Value) (base : Nat) (a : Option Addr) (n cap : Nat) (ss : List ByteArray) (w : World) (hn : n = ss.length) (hmax : n ≤ 8796093022207) (hv : Lent w base v n ss) (ha : InMem w a ss) :
    Calls Tryd.prog 38 #[v, .slice a n cap] w fun e w' => e = .returned (.bool true) ∧ Below w.heap.size w w' := by
  obtain ⟨g, cap2, rfl, h1, h2, h3, hin, hmk⟩ := hv
  have H70 := hide (same_any (some ⟨g, 0, none⟩) a n cap2 cap ss w hn (by omega) hin ha)
  have hlt : g < w.heap.size := World.block_lt_of_cell? _ _ hmk
  have HM := hide (fun (w2 : World) (hb : Below w.heap.size w w2) => (hb.cell (p := ⟨g, n, none⟩) hlt).trans hmk)
  clear hn hin ha hmk
  go_enter Tryd.func38, Tryd.ntmps38
  go_wp2_with (go_at_call 70; refine (unhide H70).mono ?_; rintro e w2 ⟨rfl, hb2⟩; have hm2 := unhide HM w2 hb2; unfold mark at hm2)
  go_ret
  exact ⟨rfl, hb2⟩
end Go.Proofs.YtkekkneafnkjoaaDoor

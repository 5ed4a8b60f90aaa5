/- The walk of NamesNear: it answers true. -/
import Derived.Test.YtiooiacebgojiaaDoorRefNear
namespace Go.Proofs.YtiooiacebgojiaaDoor
open Go.RowKit

set_option maxRecDepth 100000 in
set_option maxHeartbeats 1000000 in
theorem near_law (s : ByteArray) (v : Value) (ss : List ByteArray) (m : Int) (w : World) (hr : RowS w v ss) (hmax : ss.length ≤ 8796093022208) (hT : Lib.Utf8Tabs 0 1 w) :
    Calls Tryd.prog 8 #[.string s, v, .int .i64 m] w fun e w' => e = .returned (.bool true) ∧ Below w.heap.size w w' := by
  have H27 := hide (near_any s v ss m w hr hmax hT)
  have H28 : Hid (∀ W, Below w.heap.size w W → Calls Tryd.prog 28 #[.string s, v, .int .i64 m] W fun e w' => ∃ v' us, e = .returned v' ∧ RowS w' v' us ∧ us.Perm (dGo s ss m ss.length).2 ∧ Asc us ∧ Below W.heap.size W w') := fun W hb =>
    refNear_any s v ss m W (hr.later hb) hmax (tabs_later hT hb)
  have HAW := hide (fun W hb => awake_any W (tabs_later hT hb))
  have HREL := hide (near_rel s ss m ss.length (Nat.le_refl _))
  clear hr hmax hT
  go_enter Tryd.func8, Tryd.ntmps8
  go_wp2_with (first
    | (go_at_call 27; go_must (refine (unhide H27).mono ?_; rintro e w1 ⟨v1, us, rfl, hr1, hm1, hn1, ha1, hb1⟩; have HR1 := hide hr1; have HM1 := hide hm1; have HN1 := hide (And.intro hn1 ha1); have HB1 := hide hb1; have hs1 := hb1.size; clear hr1 hm1 hn1 ha1 hb1 H27))
    | (go_at_call 28; go_must (refine (unhide H28 w1 (unhide HB1)).mono ?_; rintro e w2 ⟨v2, ts, rfl, hr2, hp2, ha2, hb2⟩; have hts : us = ts := asc_same (unhide HN1).2 ha2 (unhide HN1).1 (hp2.nodup_iff.2 (unhide HREL).2.2.1) (fun x => (unhide HM1 x).trans (((unhide HREL).2.1 x).trans hp2.mem_iff.symm)); have HB2 := hide ((unhide HB1).trans (hb2.mono hs1)); have H23 := hide (texts_same v1 v2 us w2 ((unhide HR1).later hb2) (by rw [hts]; exact hr2)); have hs2 := (unhide HB2).size; clear hts hr2 hp2 ha2 hb2 H28))
    | (go_at_call 23; go_must (refine (unhide H23).mono ?_; rintro e w3 ⟨rfl, hb3⟩; have HB3 := hide ((unhide HB2).trans (hb3.mono hs2)); clear hb3 H23))
    | (go_at_call 15; go_must (refine (unhide HAW w3 (unhide HB3)).mono ?_; rintro e w4 ⟨rfl, hb4⟩; have HB4 := hide ((unhide HB3).trans (hb4.mono (unhide HB3).size)); clear hb4)))
  go_ret
  exact ⟨rfl, unhide HB4⟩
end Go.Proofs.YtiooiacebgojiaaDoor

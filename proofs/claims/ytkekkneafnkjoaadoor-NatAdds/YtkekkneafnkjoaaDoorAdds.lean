/- The walk of NatAdds: it answers true, whatever it is handed. -/
import Derived.Test.YtkekkneafnkjoaaDoorNatOps
import Derived.Test.YtkekkneafnkjoaaDoorKnown
namespace Go.Proofs.YtkekkneafnkjoaaDoor
open Go.RowKit

set_option maxRecDepth 100000 in
set_option maxHeartbeats 2000000 in
theorem natAdds_walk (s t : ByteArray) (w : World) (hs : s.size ≤ maxLen) (ht : t.size ≤ maxLen) (htab : Tab w) :
    Calls Tryd.prog 4 #[.string s, .string t] w fun e w' => e = .returned (.bool true) ∧ Below w.heap.size w w' := by
  have C17 : Hid (∀ W, Tab W → Calls Tryd.prog 17 #[.string s, .string t] W fun e w' => e = .returned (.tuple #[.string ⟨(ansText Nat.add s t).toArray⟩, .int .i64 (ansErr Nat.add s t)]) ∧ Below W.heap.size W w') := fun W h => natAdd_any s t W hs ht h
  have C18 := hide (fun W => refAdd_any s t W hs ht)
  have C19 := hide (fun W h => natSub_any s t W hs ht h)
  have C20 := hide (fun W => refSub_any s t W hs ht)
  have C21 : Hid (∀ W, Tab W → Calls Tryd.prog 21 #[.string s, .string t] W fun e w' => e = .returned (.tuple #[.string ⟨(ansText Nat.mul s t).toArray⟩, .int .i64 (ansErr Nat.mul s t)]) ∧ Below W.heap.size W w') := fun W h => natMul_any s t W hs ht h
  have C22 := hide (fun W => refMul_any s t W hs ht)
  have C23 := hide (fun W => natCmp_any s t W hs ht)
  have C12s := hide (fun W => refRight_any s W hs)
  have C12t := hide (fun W => refRight_any t W ht)
  have HT := hide htab
  clear hs ht htab
  generalize ansText Nat.add s t = A1 at *
  generalize ansErr Nat.add s t = E1 at *
  generalize subText s t = A2 at *
  generalize subErr s t = E2 at *
  generalize ansText Nat.mul s t = A3 at *
  generalize ansErr Nat.mul s t = E3 at *
  cases h1 : Cub.rightB s.data.toList with
  | false =>
    unfold cmpVal cmpErr at C23
    simp only [h1, Bool.false_and, Bool.false_eq_true, if_false] at C23 C12s
    clear h1
    go_enter Tryd.func4, Tryd.ntmps4
    go_wp2_with (first
      | (go_at_call 17; refine (unhide C17 _ (unhide HT)).mono ?_; rintro e w1 ⟨rfl, hb1⟩)
      | (go_at_call 18; refine (unhide C18 _).mono ?_; rintro e w2 ⟨rfl, hc2⟩; have hb2 := hb1.trans (hc2.mono hb1.size); clear hc2)
      | (go_at_call 19; refine (unhide C19 _ ((unhide HT).later hb2)).mono ?_; rintro e w3 ⟨rfl, hc3⟩; have hb3 := hb2.trans (hc3.mono hb2.size); clear hc3)
      | (go_at_call 20; refine (unhide C20 _).mono ?_; rintro e w4 ⟨rfl, hc4⟩; have hb4 := hb3.trans (hc4.mono hb3.size); clear hc4)
      | (go_at_call 21; refine (unhide C21 _ ((unhide HT).later hb4)).mono ?_; rintro e w5 ⟨rfl, hc5⟩; have hb5 := hb4.trans (hc5.mono hb4.size); clear hc5)
      | (go_at_call 22; refine (unhide C22 _).mono ?_; rintro e w6 ⟨rfl, hc6⟩; have hb6 := hb5.trans (hc6.mono hb5.size); clear hc6)
      | (go_at_call 23; refine (unhide C23 _).mono ?_; rintro e w7 ⟨rfl, hc7⟩; have hb7 := hb6.trans (hc7.mono hb6.size); clear hc7)
      | (go_at_call_of 12 s; refine (unhide C12s _).mono ?_; rintro e w' ⟨rfl, rfl⟩)
      | (go_at_call_of 12 t; refine (unhide C12t _).mono ?_; rintro e w' ⟨rfl, rfl⟩)
      | (go_at_call 16; refine (known_any _ ((unhide HT).later hb7)).mono ?_; rintro e w9 ⟨rfl, hc9⟩; have hb9 := hb7.trans (hc9.mono hb7.size); clear hc9))
    all_goals go_ret
    all_goals exact ⟨rfl, hb9⟩
  | true =>
    cases h2 : Cub.rightB t.data.toList with
    | false =>
      unfold cmpVal cmpErr at C23
      simp only [h1, h2, Bool.and_false, Bool.false_eq_true, if_false] at C23 C12s C12t
      clear h1 h2
      go_enter Tryd.func4, Tryd.ntmps4
      go_wp2_with (first
        | (go_at_call 17; refine (unhide C17 _ (unhide HT)).mono ?_; rintro e w1 ⟨rfl, hb1⟩)
        | (go_at_call 18; refine (unhide C18 _).mono ?_; rintro e w2 ⟨rfl, hc2⟩; have hb2 := hb1.trans (hc2.mono hb1.size); clear hc2)
        | (go_at_call 19; refine (unhide C19 _ ((unhide HT).later hb2)).mono ?_; rintro e w3 ⟨rfl, hc3⟩; have hb3 := hb2.trans (hc3.mono hb2.size); clear hc3)
        | (go_at_call 20; refine (unhide C20 _).mono ?_; rintro e w4 ⟨rfl, hc4⟩; have hb4 := hb3.trans (hc4.mono hb3.size); clear hc4)
        | (go_at_call 21; refine (unhide C21 _ ((unhide HT).later hb4)).mono ?_; rintro e w5 ⟨rfl, hc5⟩; have hb5 := hb4.trans (hc5.mono hb4.size); clear hc5)
        | (go_at_call 22; refine (unhide C22 _).mono ?_; rintro e w6 ⟨rfl, hc6⟩; have hb6 := hb5.trans (hc6.mono hb5.size); clear hc6)
        | (go_at_call 23; refine (unhide C23 _).mono ?_; rintro e w7 ⟨rfl, hc7⟩; have hb7 := hb6.trans (hc7.mono hb6.size); clear hc7)
        | (go_at_call_of 12 s; refine (unhide C12s _).mono ?_; rintro e w' ⟨rfl, rfl⟩)
        | (go_at_call_of 12 t; refine (unhide C12t _).mono ?_; rintro e w' ⟨rfl, rfl⟩)
        | (go_at_call 16; refine (known_any _ ((unhide HT).later hb7)).mono ?_; rintro e w9 ⟨rfl, hc9⟩; have hb9 := hb7.trans (hc9.mono hb7.size); clear hc9))
      all_goals go_ret
      all_goals exact ⟨rfl, hb9⟩
    | true =>
      have C24 := hide (fun W => compare_any s t W ((Cub.rightB_iff _).1 h1).1 ((Cub.rightB_iff _).1 h2).1)
      unfold cmpVal cmpErr at C23
      simp only [h1, h2, Bool.and_self, if_true] at C23 C12s C12t
      clear h1 h2
      generalize Cub.cmpN (Cub.dval s.data.toList) (Cub.dval t.data.toList) = c at *
      go_enter Tryd.func4, Tryd.ntmps4
      go_wp2_with (first
        | (go_at_call 17; refine (unhide C17 _ (unhide HT)).mono ?_; rintro e w1 ⟨rfl, hb1⟩)
        | (go_at_call 18; refine (unhide C18 _).mono ?_; rintro e w2 ⟨rfl, hc2⟩; have hb2 := hb1.trans (hc2.mono hb1.size); clear hc2)
        | (go_at_call 19; refine (unhide C19 _ ((unhide HT).later hb2)).mono ?_; rintro e w3 ⟨rfl, hc3⟩; have hb3 := hb2.trans (hc3.mono hb2.size); clear hc3)
        | (go_at_call 20; refine (unhide C20 _).mono ?_; rintro e w4 ⟨rfl, hc4⟩; have hb4 := hb3.trans (hc4.mono hb3.size); clear hc4)
        | (go_at_call 21; refine (unhide C21 _ ((unhide HT).later hb4)).mono ?_; rintro e w5 ⟨rfl, hc5⟩; have hb5 := hb4.trans (hc5.mono hb4.size); clear hc5)
        | (go_at_call 22; refine (unhide C22 _).mono ?_; rintro e w6 ⟨rfl, hc6⟩; have hb6 := hb5.trans (hc6.mono hb5.size); clear hc6)
        | (go_at_call 23; refine (unhide C23 _).mono ?_; rintro e w7 ⟨rfl, hc7⟩; have hb7 := hb6.trans (hc7.mono hb6.size); clear hc7)
        | (go_at_call_of 12 s; refine (unhide C12s _).mono ?_; rintro e w' ⟨rfl, rfl⟩)
        | (go_at_call_of 12 t; refine (unhide C12t _).mono ?_; rintro e w' ⟨rfl, rfl⟩)
        | (go_at_call 24; refine (unhide C24 _).mono ?_; rintro e w' ⟨rfl, rfl⟩)
        | (go_at_call 16; refine (known_any _ ((unhide HT).later hb7)).mono ?_; rintro e w9 ⟨rfl, hc9⟩; have hb9 := hb7.trans (hc9.mono hb7.size); clear hc9))
      all_goals go_ret
      all_goals exact ⟨rfl, hb9⟩
end Go.Proofs.YtkekkneafnkjoaaDoor

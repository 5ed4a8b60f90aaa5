/- The document's Fold, Right and Cut; names.Right and names.Cut. -/
import Derived.Test.YtiooiacebgojiaaDoorTold
import Derived.Test.YtiooiacebgojiaaDoorFold
import Derived.BigQuiet
namespace Go.Proofs.YtiooiacebgojiaaDoor
open Go.RowKit

def FoldOut (s : ByteArray) (e : Ending) : Prop := ∃ out q, e = .returned (foldV s out q) ∧ Lg s 0 0 [] out q
theorem foldV_rune (s : ByteArray) (out : List UInt8) (q : Nat) (h : s.size = 0 ∨ q < s.size) : foldV s out q = .tuple #[.string ⟨#[]⟩, .int .i64 60, .int .i64 (q : Nat)] := if_pos h
theorem foldV_size (s : ByteArray) (out : List UInt8) (q : Nat) (h : ¬ (s.size = 0 ∨ q < s.size)) (h2 : 40 < out.length) : foldV s out q = .tuple #[.string ⟨#[]⟩, .int .i64 4, .int .i64 0] := (if_neg h).trans (if_pos h2)
theorem foldV_name (s : ByteArray) (out : List UInt8) (q : Nat) (h : ¬ (s.size = 0 ∨ q < s.size)) (h2 : ¬ 40 < out.length) (h3 : out = [105, 110]) : foldV s out q = .tuple #[.string ⟨#[]⟩, .int .i64 201, .int .i64 0] := ((if_neg h).trans (if_neg h2)).trans (if_pos h3)
theorem foldV_ok (s : ByteArray) (out : List UInt8) (q : Nat) (h : ¬ (s.size = 0 ∨ q < s.size)) (h2 : ¬ 40 < out.length) (h3 : ¬ out = [105, 110]) : foldV s out q = .tuple #[.string ⟨out.toArray⟩, .int .i64 0, .int .i64 0] := ((if_neg h).trans (if_neg h2)).trans (if_neg h3)

set_option maxRecDepth 100000 in
set_option maxHeartbeats 1000000 in
theorem refFold_any (s : ByteArray) (w : World) (hs : s.size ≤ 1000000000000) (hT : Lib.Utf8Tabs 0 1 w) :
    Calls Tryd.prog 10 #[.string s] w fun e w' => FoldOut s e ∧ Below w.heap.size w w' := by
  have HR := hide (refRunes_any s w hs hT)
  clear hT
  go_enter Tryd.func10, Tryd.ntmps10
  go_upto_region 2 with (go_at_call 30; refine (unhide HR).mono ?_; rintro e w1 ⟨v, rfl, hown, hb1⟩)
  have HB1 := hide hb1
  have hsz1 : w.heap.size ≤ w1.heap.size := hb1.size
  have HSH := hide (runes_shape hown)
  clear hown hb1 HR
  rcases unhide HSH with ⟨hs0, va, vc, rfl⟩ | ⟨hs0, g, cap, rfl, hin⟩
  · have HW := hide (word_nil s hs0 va vc w1)
    clear HSH
    go_upto_region 3 with (go_at_call 31; refine (unhide HW).mono ?_; rintro e w2 ⟨hwo, hb2⟩; obtain ⟨k, q, rfl, hwd⟩ := hwo)
    have HB2 := hide ((unhide HB1).trans (hb2.mono hsz1))
    have hk0 : k = 0 := by have := hwd.le; rw [places_end s 0 (by omega)] at this; simpa using this
    have hq0 : q = 0 := by have := hwd.qle; omega
    subst hk0 hq0
    have HLG := hide hwd.lg
    have HV := hide (foldV_rune s (toldL s ((places s 0).take 0)) 0 (.inl hs0))
    clear hb2 HW hwd
    go_wp2_with fail
    exact bodyPost_ret (res3t Tryd.results10 _ _) rfl ⟨⟨_, _, by rw [unhide HV]; rfl, unhide HLG⟩, unhide HB2⟩
  · have HW := hide (word_any s hs0 hs g cap w1 hin)
    have HIN := hide hin
    have hnle : (places s 0).length ≤ s.size := by have := places_len s 0; omega
    have hn0 : 0 < (places s 0).length := by rw [places_step s 0 hs0]; simp
    clear HSH hin
    go_upto_region 3 with (go_at_call 31; refine (unhide HW).mono ?_; rintro e w2 ⟨hwo, hb2⟩; obtain ⟨k, q, rfl, hwd⟩ := hwo)
    have HB2 := hide ((unhide HB1).trans (hb2.mono hsz1))
    have hsz2 : w.heap.size ≤ w2.heap.size := (unhide HB2).size
    have HIN2 := hide ((unhide HIN).later hb2)
    have HLG := hide hwd.lg
    have hkle := hwd.le
    by_cases hq : q < s.size
    · obtain ⟨hi, he, _⟩ := places_cons hwd.drop hq
      have hget : (places s 0)[k]? = some q := by rw [List.getElem?_eq_getElem hi, he]
      obtain ⟨d0, d1, d2, d3, d4⟩ := (unhide HIN2).five hget
      have HV := hide (foldV_rune s (toldL s ((places s 0).take k)) q (.inr hq))
      clear hb2 HW hwd he hget d0 d1 d2 d4 HIN
      generalize (places s 0).length = n at *
      go_upto_region 4 with fail
      go_quiet (fail)
      go_wp2_with fail
      exact bodyPost_ret (res3t Tryd.results10 _ _) rfl ⟨⟨_, _, by rw [unhide HV]; rfl, unhide HLG⟩, below_drewN (unhide HB2) _⟩
    · have hkn : (places s 0).length ≤ k := places_nil hwd.drop hq
      obtain rfl : k = (places s 0).length := by omega
      have HT := hide (told_any s hs g cap _ (Nat.le_refl _) w2 (unhide HIN2))
      obtain ⟨out, hout⟩ : ∃ out, out = toldL s ((places s 0).take (places s 0).length) := ⟨_, rfl⟩
      rw [← hout] at HT HLG
      have hos : (⟨out.toArray⟩ : ByteArray).size = out.length := by simp [ByteArray.size]
      have hot : (out == [105, 110]) = decide (out = [105, 110]) := by rw [Bool.eq_iff_iff, beq_iff_eq, decide_eq_true_iff]
      have hn : ¬ (s.size = 0 ∨ q < s.size) := by omega
      have HN := hide hn
      clear hb2 HW hwd hout hkn hn HIN HIN2
      generalize (places s 0).length = n at *
      have en : ((n : Int) == 0) = false := by rw [beq_eq_false_iff_ne]; omega
      by_cases h2 : 40 < out.length
      · have HV := hide (foldV_size s out q (unhide HN) h2)
        clear hot
        go_wp2_with (go_at_call 32; refine (unhide HT).mono ?_; rintro e w3 ⟨rfl, hb3⟩)
        exact bodyPost_ret (res3t Tryd.results10 _ _) rfl ⟨⟨_, _, by rw [unhide HV]; rfl, unhide HLG⟩, (unhide HB2).trans (hb3.mono hsz2)⟩
      · by_cases h3 : out = [105, 110]
        · have HV := hide (foldV_name s out q (unhide HN) h2 h3)
          rw [show decide (out = [105, 110]) = true by simp [h3]] at hot
          clear h3
          go_wp2_with (go_at_call 32; refine (unhide HT).mono ?_; rintro e w3 ⟨rfl, hb3⟩)
          exact bodyPost_ret (res3t Tryd.results10 _ _) rfl ⟨⟨_, _, by rw [unhide HV]; rfl, unhide HLG⟩, (unhide HB2).trans (hb3.mono hsz2)⟩
        · have HV := hide (foldV_ok s out q (unhide HN) h2 h3)
          rw [show decide (out = [105, 110]) = false by simp [h3]] at hot
          clear h3
          go_wp2_with (go_at_call 32; refine (unhide HT).mono ?_; rintro e w3 ⟨rfl, hb3⟩)
          exact bodyPost_ret (res3t Tryd.results10 _ _) rfl ⟨⟨_, _, by rw [unhide HV]; rfl, unhide HLG⟩, (unhide HB2).trans (hb3.mono hsz2)⟩
end Go.Proofs.YtiooiacebgojiaaDoor

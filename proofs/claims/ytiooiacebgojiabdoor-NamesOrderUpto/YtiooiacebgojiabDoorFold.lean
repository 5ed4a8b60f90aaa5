/- names.Fold, at every text; at the document's own example. -/
import Derived.Test.YtiooiacebgojiabDoorLongest
namespace Go.Proofs.YtiooiacebgojiabDoor
open Go.RowKit

theorem res3t {fn : Func} {a b c : Tmp} (h : fn.results = #[.tmp a, .tmp b, .tmp c]) (tmps : Array Value) (w : World) : (results fn tmps).run Tryd.prog w = .ok (.tuple #[tmps.getD a undef, tmps.getD b undef, tmps.getD c undef]) w := by
  simp [results, h]
/-- What Fold answers, where the longest word is out and ends at q. -/
def foldV (s : ByteArray) (out : List UInt8) (q : Nat) : Value :=
  if s.size = 0 ∨ q < s.size then .tuple #[.string ⟨#[]⟩, .int .i64 60, .int .i64 (q : Nat)]
  else if 40 < out.length then .tuple #[.string ⟨#[]⟩, .int .i64 4, .int .i64 0]
  else if out = [105, 110] then .tuple #[.string ⟨#[]⟩, .int .i64 201, .int .i64 0]
  else .tuple #[.string ⟨out.toArray⟩, .int .i64 0, .int .i64 0]
theorem empty_size (s : ByteArray) : s.toList.isEmpty = decide (s.size = 0) := by
  rw [ByteArray.toList_eq]
  have hl : s.data.toList.length = s.size := by simp
  rw [← hl]
  cases s.data.toList <;> simp

set_option maxRecDepth 100000 in
set_option maxHeartbeats 1000000 in
theorem fold_any (s : ByteArray) (w : World) (hs : s.size ≤ 1000000000000) :
    Calls Tryd.prog 7 #[.string s] w fun e w' => (∃ out q, e = .returned (foldV s out q) ∧ Lg s 0 0 [] out q) ∧ Below w.heap.size w w' := by
  have HL := hide (longest_any s w hs)
  have hse := empty_size s
  go_enter Tryd.func7, Tryd.ntmps7
  go_upto_region 2 with (go_at_call 19; refine (unhide HL).mono ?_; rintro e w1 ⟨⟨out, q, rfl, hlg⟩, hb1⟩)
  have HG := hide hlg
  have HB := hide hb1
  have hos : (⟨out.toArray⟩ : ByteArray).size = out.length := by simp [ByteArray.size]
  have hot : (out == [105, 110]) = decide (out = [105, 110]) := by rw [Bool.eq_iff_iff, beq_iff_eq, decide_eq_true_iff]
  clear hlg hb1 HL
  by_cases h0 : s.size = 0
  · have HV : Hid (foldV s out q = .tuple #[.string ⟨#[]⟩, .int .i64 60, .int .i64 (q : Nat)]) := if_pos (.inl h0)
    rw [show decide (s.size = 0) = true by simp [h0]] at hse
    clear h0 hot
    go_wp2
    exact bodyPost_ret (res3t Tryd.results7 _ _) rfl ⟨⟨out, q, by rw [unhide HV]; rfl, unhide HG⟩, unhide HB⟩
  · rw [show decide (s.size = 0) = false by simp [h0]] at hse
    by_cases h1 : q < s.size
    · have HV : Hid (foldV s out q = .tuple #[.string ⟨#[]⟩, .int .i64 60, .int .i64 (q : Nat)]) := if_pos (.inr h1)
      clear h0 hot
      go_wp2
      exact bodyPost_ret (res3t Tryd.results7 _ _) rfl ⟨⟨out, q, by rw [unhide HV]; rfl, unhide HG⟩, unhide HB⟩
    · have hn : ¬ (s.size = 0 ∨ q < s.size) := by omega
      by_cases h2 : 40 < out.length
      · have HV : Hid (foldV s out q = .tuple #[.string ⟨#[]⟩, .int .i64 4, .int .i64 0]) := (if_neg hn).trans (if_pos h2)
        clear h0 hot hn
        go_wp2
        exact bodyPost_ret (res3t Tryd.results7 _ _) rfl ⟨⟨out, q, by rw [unhide HV]; rfl, unhide HG⟩, unhide HB⟩
      · by_cases h3 : out = [105, 110]
        · have HV : Hid (foldV s out q = .tuple #[.string ⟨#[]⟩, .int .i64 201, .int .i64 0]) := ((if_neg hn).trans (if_neg h2)).trans (if_pos h3)
          rw [show decide (out = [105, 110]) = true by simp [h3]] at hot
          clear h0 hn h3
          go_wp2
          exact bodyPost_ret (res3t Tryd.results7 _ _) rfl ⟨⟨out, q, by rw [unhide HV]; rfl, unhide HG⟩, unhide HB⟩
        · have HV : Hid (foldV s out q = .tuple #[.string ⟨out.toArray⟩, .int .i64 0, .int .i64 0]) := ((if_neg hn).trans (if_neg h2)).trans (if_neg h3)
          rw [show decide (out = [105, 110]) = false by simp [h3]] at hot
          clear h0 hn h3
          go_wp2
          exact bodyPost_ret (res3t Tryd.results7 _ _) rfl ⟨⟨out, q, by rw [unhide HV]; rfl, unhide HG⟩, unhide HB⟩
/-- The document's example: the micro sign and m. -/
def micro : ByteArray := ⟨#[194, 181, 109]⟩
theorem lg_micro (out : List UInt8) (q : Nat) (h : Lg micro 0 0 [] out q) : out = [206, 188, 109] ∧ q = 3 := by
  have d0 : Utf8.decode micro 0 = (181, 2) := by decide +kernel
  have d2 : Utf8.decode micro 2 = (109, 1) := by decide +kernel
  cases h with
  | stop _ _ _ _ hc => rw [d0] at hc; exact absurd hc (by decide)
  | done _ _ _ hn => exact absurd hn (by decide)
  | step _ _ _ _ _ _ hc h1 =>
    rw [d0] at h1
    have h1' : Lg micro 2 181 [206, 188] out q := h1
    cases h1' with
    | stop _ _ _ _ hc2 => rw [d2] at hc2; exact absurd hc2 (by decide)
    | done _ _ _ hn => exact absurd hn (by decide)
    | step _ _ _ _ _ _ hc2 h2 =>
      rw [d2] at h2
      have h2' : Lg micro 3 181 [206, 188, 109] out q := h2
      cases h2' with
      | stop _ _ _ hp _ => exact absurd hp (by decide)
      | done _ _ _ _ => exact ⟨rfl, rfl⟩
      | step _ _ _ _ _ hp _ _ => exact absurd hp (by decide)
theorem fold_fix (w : World) : Calls Tryd.prog 7 #[.string ⟨#[194, 181, 109]⟩] w fun e w' => e = .returned (.tuple #[.string ⟨#[206, 188, 109]⟩, .int .i64 0, .int .i64 0]) ∧ Below w.heap.size w w' := by
  refine (fold_any micro w (by decide)).mono ?_
  rintro e w' ⟨⟨out, q, rfl, hl⟩, hb⟩
  obtain ⟨rfl, rfl⟩ := lg_micro out q hl
  exact ⟨rfl, hb⟩
end Go.Proofs.YtiooiacebgojiabDoor

/- names.Cut and names.Right at every text. -/
import Derived.Test.YtiooiacebgojiabDoorWordText
import Derived.Test.YtiooiacebgojiabDoorFold
namespace Go.Proofs.YtiooiacebgojiabDoor
open Go.RowKit

theorem Lg.det {s : ByteArray} {p : Nat} {f : Int} {acc o1 : List UInt8} {q1 : Nat} (h1 : Lg s p f acc o1 q1) : ∀ {o2 : List UInt8} {q2 : Nat}, Lg s p f acc o2 q2 → o1 = o2 ∧ q1 = q2 := by
  induction h1 with
  | stop p f acc hp hc =>
    intro o2 q2 h2
    cases h2 with
    | stop _ _ _ _ _ => exact ⟨rfl, rfl⟩
    | done _ _ _ hn => exact absurd hp hn
    | step _ _ _ _ _ _ hc' => rw [hc] at hc'; cases hc'
  | done p f acc hn =>
    intro o2 q2 h2
    cases h2 with
    | stop _ _ _ hp _ => exact absurd hp hn
    | done _ _ _ _ => exact ⟨rfl, rfl⟩
    | step _ _ _ _ _ hp => exact absurd hp hn
  | step p f acc out q hp hc _ ih =>
    intro o2 q2 h2
    cases h2 with
    | stop _ _ _ _ hc' => rw [hc] at hc'; cases hc'
    | done _ _ _ hn => exact absurd hp hn
    | step _ _ _ _ _ _ _ h => exact ih h

theorem text_eqb (a b : ByteArray) : (a.toList == b.toList) = decide (a = b) := by
  rw [Bool.eq_iff_iff, beq_iff_eq, decide_eq_true_iff, ByteArray.toList_eq, ByteArray.toList_eq]
  constructor
  · intro h
    have e2 : a.data = b.data := Array.toList_inj.1 h
    cases a; cases b; simpa using e2
  · rintro rfl; rfl
theorem right_of (s t : ByteArray) (x y : Int) (w : World) (h : Calls Tryd.prog 7 #[.string s] w fun e w' => e = .returned (.tuple #[.string t, .int .i64 x, .int .i64 y]) ∧ Below w.heap.size w w') : Calls Tryd.prog 8 #[.string s] w fun e w' => e = .returned (.bool (x == 0 && decide (t = s))) ∧ Below w.heap.size w w' := by
  have HF := hide h
  have hq := text_eqb t s
  clear h
  cases hx : (x == 0)
  · go_enter Tryd.func8, Tryd.ntmps8
    go_wp2_with (go_at_call 7; refine (unhide HF).mono ?_; rintro e w1 ⟨rfl, hb1⟩)
    go_ret
    exact ⟨rfl, hb1⟩
  · generalize decide (t = s) = d at *
    go_enter Tryd.func8, Tryd.ntmps8
    go_wp2_with (go_at_call 7; refine (unhide HF).mono ?_; rintro e w1 ⟨rfl, hb1⟩)
    go_ret
    exact ⟨rfl, hb1⟩
def cutV (out : List UInt8) (q : Nat) : Value := if q = 0 then .tuple #[.string ⟨#[]⟩, .int .i64 0, .int .i64 60] else .tuple #[.string ⟨out.toArray⟩, .int .i64 (q : Nat), .int .i64 0]
theorem cutV_no (out : List UInt8) : cutV out 0 = .tuple #[.string ⟨#[]⟩, .int .i64 0, .int .i64 60] := rfl
theorem cutV_ok (out : List UInt8) (q : Nat) (h : q ≠ 0) : cutV out q = .tuple #[.string ⟨out.toArray⟩, .int .i64 (q : Nat), .int .i64 0] := if_neg h
def CutOut (s : ByteArray) (e : Ending) : Prop := ∃ out q, e = .returned (cutV out q) ∧ Lg s 0 0 [] out q

set_option maxRecDepth 100000 in
set_option maxHeartbeats 1000000 in
theorem cut_at (s0 s : ByteArray) (at0 : Nat) (hat : at0 ≤ s0.size) (hx : s0.extract at0 s0.size = s) (w : World) (hmax : s0.size ≤ 1000000000000) :
    Calls Tryd.prog 9 #[.string s0, .int .i64 (at0 : Int)] w fun e w' => CutOut s e ∧ Below w.heap.size w w' := by
  have hss : s.size ≤ s0.size := by
    rw [← hx]
    have : (s0.extract at0 s0.size).size ≤ s0.size := by simp
    exact this
  have HL := hide (longest_any s w (by omega))
  go_enter Tryd.func9, Tryd.ntmps9
  go_upto_region 4 with (go_at_call 19; refine (unhide HL).mono ?_; rintro e w1 ⟨⟨out, q, rfl, hlg⟩, hb1⟩)
  have HG := hide hlg
  have HB := hide hb1
  clear hlg hb1 HL
  by_cases h0 : q = 0
  · subst h0
    have HV := hide (cutV_no out)
    go_wp2_with fail
    exact bodyPost_ret (res3t Tryd.results9 _ _) rfl ⟨⟨out, 0, by rw [unhide HV]; rfl, unhide HG⟩, unhide HB⟩
  · have HV := hide (cutV_ok out q h0)
    have e0 : ((q : Int) == 0) = false := by rw [beq_eq_false_iff_ne]; omega
    clear h0
    go_wp2_with fail
    exact bodyPost_ret (res3t Tryd.results9 _ _) rfl ⟨⟨out, q, by rw [unhide HV]; rfl, unhide HG⟩, unhide HB⟩
theorem cut_out (s : ByteArray) (a : Int) (h : a < 0 ∨ (s.size : Int) < a) (w : World) : Calls Tryd.prog 9 #[.string s, .int .i64 a] w fun e w' => e = .returned (.tuple #[.string ⟨#[]⟩, .int .i64 0, .int .i64 1]) ∧ w' = w := by
  by_cases h0 : a < 0
  · go_enter Tryd.func9, Tryd.ntmps9
    go_wp2
    exact bodyPost_ret (res3t Tryd.results9 _ _) rfl ⟨rfl, rfl⟩
  · have h1 : (s.size : Int) < a := by omega
    clear h
    go_enter Tryd.func9, Tryd.ntmps9
    go_wp2
    exact bodyPost_ret (res3t Tryd.results9 _ _) rfl ⟨rfl, rfl⟩
end Go.Proofs.YtiooiacebgojiabDoor

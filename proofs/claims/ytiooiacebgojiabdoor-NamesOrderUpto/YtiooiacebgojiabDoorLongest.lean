/- names.longest: the longest word at a text's beginning. -/
import Derived.Test.YtiooiacebgojiabDoorClass4
import Derived.Test.YtiooiacebgojiabDoorWrite
import Derived.Laws.RangeAny
import Derived.Lib.RuneCount
import Derived.Lib.OthersKept
namespace Go.Proofs.YtiooiacebgojiabDoor
open Go.RowKit

/-- May the word go on with that rune? -/
def contB (p : Nat) (f r : Int) : Bool := if p = 0 then (classOf r == 1 || classOf r == 4) else goesB f r
def firstOf (p : Nat) (f r : Int) : Int := if p = 0 then r else f
/-- From place p on, with that first rune and that much read, the word is out and ends at q. -/
inductive Lg (s : ByteArray) : Nat → Int → List UInt8 → List UInt8 → Nat → Prop
  | stop (p : Nat) (f : Int) (acc : List UInt8) : p < s.size → contB p f (Utf8.decode s p).1 = false → Lg s p f acc acc p
  | done (p : Nat) (f : Int) (acc : List UInt8) : ¬ p < s.size → Lg s p f acc acc s.size
  | step (p : Nat) (f : Int) (acc out : List UInt8) (q : Nat) : p < s.size → contB p f (Utf8.decode s p).1 = true → Lg s (p + (Utf8.decode s p).2) (firstOf p f (Utf8.decode s p).1) (acc ++ Lib.encodeRune (foldR (Utf8.decode s p).1)) out q → Lg s p f acc out q
theorem foldR_range (r : Int) (h0 : 0 ≤ r) (h1 : r ≤ 2147483647) : -2147483648 ≤ foldR r ∧ foldR r ≤ 2147483647 := by
  unfold foldR
  repeat' split
  all_goals omega
theorem byteCells_app (a b : List UInt8) : Lib.byteCells (a ++ b) = Lib.byteCells a ++ Lib.byteCells b := by simp [Lib.byteCells]
theorem byteCells_len (a : List UInt8) : (Lib.byteCells a).length = a.length := by simp [Lib.byteCells]

set_option maxRecDepth 100000 in
set_option maxHeartbeats 1000000 in
theorem longest_any (s : ByteArray) (w : World) (hs : s.size ≤ 1000000000000) :
    Calls Tryd.prog 19 #[.string s] w fun e w' => (∃ out q, e = .returned (.tuple #[.string ⟨out.toArray⟩, .int .i64 (q : Nat)]) ∧ Lg s 0 0 [] out q) ∧ Below w.heap.size w w' := by
  go_enter Tryd.func19, Tryd.ntmps19
  go_upto_region 4 with fail
  go_loopw [5] (fun f wr => ∃ (p : Nat) (fr : Int) (acc : List UInt8), f = .int .i32 fr ∧ acc.length ≤ 4 * p ∧ Hid (wr.heap[w.heap.size + 1]? = some (.stringIter s p)) ∧ Hid (Lib.IsBuilderF 54 5 w.heap.size w.heap.size (Lib.byteCells acc) wr) ∧ Hid (Below w.heap.size w wr) ∧ Hid (∀ out q, Lg s p fr acc out q → Lg s 0 0 [] out q)) (fun _ wr => s.size - wr.iterPos (w.heap.size + 1))
  case atStart =>
    refine ⟨0, 0, [], rfl, by simp, ?_, ?_, ((Below.refl _ _).alloc (Nat.le_refl _) _).alloc (by simp) _, fun _ _ h => h⟩
    · show _ = _
      rw [show w.heap.size + 1 = (w.alloc (.cells #[.pointer none, .slice none 0 0] 54)).heap.size by simp]
      exact World.iter_heap _ _ _
    · refine .inl ⟨Nat.le_refl _, .slice none 0 0, ?_, World.ownsRowF_nil _ _ _ _, by simp [Value.ownBlock]⟩
      exact (Below.heap_alloc _ _ _ (by simp)).trans (heap_alloc_new w _)
  case round =>
    obtain ⟨p, fr, acc, rfl, hacc, HI, HBU, HB, HL⟩ := hrel
    have hB0 : w.heap.size ≤ wr.heap.size := (unhide HB).size
    by_cases hlt : p < s.size
    · obtain ⟨r, p2, hr, hp2⟩ : ∃ (r : Int) (p2 : Nat), ((Utf8.decode s p).1 : Int) = r ∧ p + (Utf8.decode s p).2 = p2 := ⟨_, _, rfl, rfl⟩
      have hw := Lib.decode_width_pos s p hlt
      have hpp : p < p2 := by omega
      have hr01 : 0 ≤ r ∧ r ≤ 2147483647 := by have := decode_le s p; omega
      obtain ⟨W2, hW2⟩ : ∃ W2, W2 = wr.iterAt (w.heap.size + 1) s p2 := ⟨_, rfl⟩
      have hnx : ∀ ty, (Instr.next (.pointer (some ⟨w.heap.size + 1, 0, none⟩)) true ty).run Tryd.prog wr = .ok (.tuple #[.bool true, .int .i64 p, .int .i32 r]) W2 := fun ty => by
        rw [hW2, ← hp2, ← hr]
        exact Lib.run_next_any_at wr _ s p ty (unhide HI) hlt
      have HI2 : Hid (W2.heap[w.heap.size + 1]? = some (.stringIter s p2)) := by show W2.heap[_]? = _; rw [hW2]; exact Lib.iterAt_heap _ _ _ _ _ (unhide HI)
      have HBU2 : Hid (Lib.IsBuilderF 54 5 w.heap.size w.heap.size (Lib.byteCells acc) W2) := by show Lib.IsBuilderF _ _ _ _ _ W2; rw [hW2]; exact (unhide HBU).iterAt (unhide HI) _
      have HB2 : Hid (Below w.heap.size w W2) := by show Below _ _ W2; rw [hW2]; exact Lib.below_iterAt (unhide HB) (by omega) _ _
      have HM : Hid (wr.iterPos (w.heap.size + 1) = p) := iterPos_of (unhide HI)
      have HBG := hide (begins_any r W2)
      have HGO := hide (fun f => goesOn_any f r W2)
      have HFO := hide (folded_any r W2)
      have hfr := foldR_range r hr01.1 hr01.2
      have HWR := hide (writeRune_any w.heap.size w.heap.size (Lib.byteCells acc) (foldR r) hfr.1 hfr.2 W2 (unhide HBU2) (by rw [byteCells_len]; omega) (unhide HB2).size)
      have HSG := hide (Tryd.Builder_String_any_k w.heap.size w.heap.size acc W2 (unhide HBU2) (unhide HB2).size)
      have hacc2 : (acc ++ Lib.encodeRune (foldR r)).length ≤ 4 * p2 := by
        have h1 := (Lib.runeCells_le (foldR r)).2
        rw [Lib.runeCells_length] at h1
        rw [List.length_append]; omega
      cases hc : contB p fr r with
      | false =>
        have HST : Hid (Lg s 0 0 [] acc p) := unhide HL acc p (.stop p fr acc hlt (by rw [hr]; exact hc))
        clear hW2 HI HBU HB HL hr hp2 hw
        by_cases hp0 : p = 0
        · subst hp0
          have hcc : (classOf r == 1 || classOf r == 4) = false := hc
          rw [hcc] at HBG
          clear hc hcc
          go_wp2_with (first
            | (go_at_call 37; refine (unhide HBG).mono ?_; rintro e w3 ⟨rfl, rfl⟩)
            | (go_at_call 27; refine (unhide HSG).mono ?_; rintro e w3 ⟨rfl, _, hb3, _⟩))
          go_ret2
          exact ⟨⟨acc, 0, rfl, unhide HST⟩, (unhide HB2).trans hb3⟩
        · have hcc : goesB fr r = false := by unfold contB at hc; rw [if_neg hp0] at hc; exact hc
          have HG2 := hide (unhide HGO fr)
          rw [hcc] at HG2
          have hpz : ((p : Int) == 0) = false := by rw [beq_eq_false_iff_ne]; omega
          have hpp0 : 0 < p := by omega
          clear hc hcc hp0
          go_wp2_with (first
            | (go_at_call 38; refine (unhide HG2).mono ?_; rintro e w3 ⟨rfl, rfl⟩)
            | (go_at_call 27; refine (unhide HSG).mono ?_; rintro e w3 ⟨rfl, _, hb3, _⟩))
          go_ret2
          exact ⟨⟨acc, p, rfl, unhide HST⟩, (unhide HB2).trans hb3⟩
      | true =>
        obtain ⟨FR, hFR⟩ : ∃ FR, FR = firstOf p fr r := ⟨_, rfl⟩
        have HST : Hid (∀ out q, Lg s p2 FR (acc ++ Lib.encodeRune (foldR r)) out q → Lg s 0 0 [] out q) := fun out q h => unhide HL out q (.step p fr acc out q hlt (by rw [hr]; exact hc) (by rw [hr, hp2, ← hFR]; exact h))
        clear hW2 HI HBU HB HL hr hp2 hw
        by_cases hp0 : p = 0
        · subst hp0
          have hcc : (classOf r == 1 || classOf r == 4) = true := hc
          rw [hcc] at HBG
          obtain rfl : FR = r := hFR
          clear hc hcc
          go_wp2_with (first
            | (go_at_call 37; refine (unhide HBG).mono ?_; rintro e w3 ⟨rfl, rfl⟩)
            | (go_at_call 20; refine (unhide HFO).mono ?_; rintro e w3 ⟨rfl, rfl⟩)
            | (go_at_call 25; refine (unhide HWR).mono ?_; rintro e w4 ⟨⟨n4, rfl⟩, hbu4, hb4, hk4⟩))
          have HI4 : Hid (w4.heap[w.heap.size + 1]? = some (.stringIter s p2)) := hk4.iter (unhide HI2) (by omega)
          have HBU4 : Hid (Lib.IsBuilderF 54 5 w.heap.size w.heap.size (Lib.byteCells (acc ++ Lib.encodeRune (foldR FR))) w4) := .inr (by rw [byteCells_app, Lib.byteCells_encodeRune]; exact hbu4)
          have HB4 : Hid (Below w.heap.size w w4) := (unhide HB2).trans hb4
          clear hbu4 hb4 hk4
          go_roundw
          case rel => exact ⟨p2, FR, acc ++ Lib.encodeRune (foldR FR), rfl, hacc2, HI4, HBU4, HB4, HST⟩
          case measure => rw [unhide HM, iterPos_of (unhide HI4)]; omega
        · have hcc : goesB fr r = true := by unfold contB at hc; rw [if_neg hp0] at hc; exact hc
          have HG2 := hide (unhide HGO fr)
          rw [hcc] at HG2
          obtain rfl : FR = fr := by rw [hFR]; unfold firstOf; rw [if_neg hp0]
          have hpz : ((p : Int) == 0) = false := by rw [beq_eq_false_iff_ne]; omega
          have hpp0 : 0 < p := by omega
          clear hc hcc hp0 hFR
          go_wp2_with (first
            | (go_at_call 38; refine (unhide HG2).mono ?_; rintro e w3 ⟨rfl, rfl⟩)
            | (go_at_call 20; refine (unhide HFO).mono ?_; rintro e w3 ⟨rfl, rfl⟩)
            | (go_at_call 25; refine (unhide HWR).mono ?_; rintro e w4 ⟨⟨n4, rfl⟩, hbu4, hb4, hk4⟩))
          have HI4 : Hid (w4.heap[w.heap.size + 1]? = some (.stringIter s p2)) := hk4.iter (unhide HI2) (by omega)
          have HBU4 : Hid (Lib.IsBuilderF 54 5 w.heap.size w.heap.size (Lib.byteCells (acc ++ Lib.encodeRune (foldR r))) w4) := .inr (by rw [byteCells_app, Lib.byteCells_encodeRune]; exact hbu4)
          have HB4 : Hid (Below w.heap.size w w4) := (unhide HB2).trans hb4
          clear hbu4 hb4 hk4
          go_roundw
          case rel => exact ⟨p2, FR, acc ++ Lib.encodeRune (foldR r), rfl, hacc2, HI4, HBU4, HB4, HST⟩
          case measure => rw [unhide HM, iterPos_of (unhide HI4)]; omega
    · have hnx : ∀ ty, (Instr.next (.pointer (some ⟨w.heap.size + 1, 0, none⟩)) true ty).run Tryd.prog wr = .ok (.tuple #[.bool false]) wr := fun ty => Lib.run_next_end_at wr _ s _ ty (unhide HI) hlt
      have HST : Hid (Lg s 0 0 [] acc s.size) := unhide HL acc s.size (.done p fr acc hlt)
      have HSG := hide (Tryd.Builder_String_any_k w.heap.size w.heap.size acc wr (unhide HBU) hB0)
      clear HI HBU HL
      go_wp2_with (go_at_call 27; refine (unhide HSG).mono ?_; rintro e w3 ⟨rfl, _, hb3, _⟩)
      go_ret2
      exact ⟨⟨acc, s.size, rfl, unhide HST⟩, (unhide HB).trans hb3⟩
end Go.Proofs.YtiooiacebgojiabDoor

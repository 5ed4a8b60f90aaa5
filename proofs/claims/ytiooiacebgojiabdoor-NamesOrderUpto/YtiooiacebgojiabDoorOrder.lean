/- names.runeOrder: how the runes of two texts stand to one another. -/
import Derived.Test.YtiooiacebgojiabDoorText
import Derived.Test.YtiooiacebgojiabDoorFold
import Derived.Test.YtiooiacebgojiabDoorShelf2
import Derived.WalkSmall
import Derived.BigQuiet
import Derived.Deep.Cut
import Derived.Deep.CutRange
namespace Go.Proofs.YtiooiacebgojiabDoor
open Go.RowKit

def cmpI (x y : Int) : Int := if x < y then -1 else if y < x then 1 else 0
theorem isNaN_r (x : Int) (w : World) : Calls Tryd.prog 73 #[.int .i32 x] w fun e w' => e = .returned (.bool false) ∧ w' = w := by
  go_enter Tryd.func73, Tryd.ntmps73
  go_wp2
  go_ret
  exact ⟨rfl, rfl⟩
theorem isNaN_i (x : Int) (w : World) : Calls Tryd.prog 74 #[.int .i64 x] w fun e w' => e = .returned (.bool false) ∧ w' = w := by
  go_enter Tryd.func74, Tryd.ntmps74
  go_wp2
  go_ret
  exact ⟨rfl, rfl⟩
theorem cmp_r (x y : Int) (w : World) : Calls Tryd.prog 61 #[.int .i32 x, .int .i32 y] w fun e w' => e = .returned (.int .i64 (cmpI x y)) ∧ w' = w := by
  have HN := hide isNaN_r
  by_cases h1 : x < y
  · have HV : Hid (cmpI x y = -1) := if_pos h1
    go_enter Tryd.func61, Tryd.ntmps61
    go_wp2_with (go_at_call 73; refine (unhide HN _ w).mono ?_; rintro e w1 ⟨rfl, h⟩; rw [h]; clear h)
    go_ret
    exact ⟨by rw [unhide HV]; rfl, rfl⟩
  · by_cases h2 : y < x
    · have HV : Hid (cmpI x y = 1) := by show _ = _; unfold cmpI; rw [if_neg h1, if_pos h2]
      go_enter Tryd.func61, Tryd.ntmps61
      go_wp2_with (go_at_call 73; refine (unhide HN _ w).mono ?_; rintro e w1 ⟨rfl, h⟩; rw [h]; clear h)
      go_ret
      exact ⟨by rw [unhide HV]; rfl, rfl⟩
    · have HV : Hid (cmpI x y = 0) := by show _ = _; unfold cmpI; rw [if_neg h1, if_neg h2]
      go_enter Tryd.func61, Tryd.ntmps61
      go_wp2_with (go_at_call 73; refine (unhide HN _ w).mono ?_; rintro e w1 ⟨rfl, h⟩; rw [h]; clear h)
      go_ret
      exact ⟨by rw [unhide HV]; rfl, rfl⟩
theorem cmp_i (x y : Int) (w : World) : Calls Tryd.prog 62 #[.int .i64 x, .int .i64 y] w fun e w' => e = .returned (.int .i64 (cmpI x y)) ∧ w' = w := by
  have HN := hide isNaN_i
  by_cases h1 : x < y
  · have HV : Hid (cmpI x y = -1) := if_pos h1
    go_enter Tryd.func62, Tryd.ntmps62
    go_wp2_with (go_at_call 74; refine (unhide HN _ w).mono ?_; rintro e w1 ⟨rfl, h⟩; rw [h]; clear h)
    go_ret
    exact ⟨by rw [unhide HV]; rfl, rfl⟩
  · by_cases h2 : y < x
    · have HV : Hid (cmpI x y = 1) := by show _ = _; unfold cmpI; rw [if_neg h1, if_pos h2]
      go_enter Tryd.func62, Tryd.ntmps62
      go_wp2_with (go_at_call 74; refine (unhide HN _ w).mono ?_; rintro e w1 ⟨rfl, h⟩; rw [h]; clear h)
      go_ret
      exact ⟨by rw [unhide HV]; rfl, rfl⟩
    · have HV : Hid (cmpI x y = 0) := by show _ = _; unfold cmpI; rw [if_neg h1, if_neg h2]
      go_enter Tryd.func62, Tryd.ntmps62
      go_wp2_with (go_at_call 74; refine (unhide HN _ w).mono ?_; rintro e w1 ⟨rfl, h⟩; rw [h]; clear h)
      go_ret
      exact ⟨by rw [unhide HV]; rfl, rfl⟩
/-- From these two places on, the runes stand so to one another. -/
inductive Ro (s t : ByteArray) : Nat → Nat → Int → Prop
  | ended (p q : Nat) : ¬ (p < s.size ∧ q < t.size) → Ro s t p q (cmpI ((s.size - p : Nat) : Int) ((t.size - q : Nat) : Int))
  | differ (p q : Nat) : p < s.size → q < t.size → ¬ (Utf8.decode s p).1 = (Utf8.decode t q).1 → Ro s t p q (cmpI ((Utf8.decode s p).1 : Nat) ((Utf8.decode t q).1 : Nat))
  | step (p q : Nat) (x : Int) : p < s.size → q < t.size → (Utf8.decode s p).1 = (Utf8.decode t q).1 → Ro s t (p + (Utf8.decode s p).2) (q + (Utf8.decode t q).2) x → Ro s t p q x
theorem tail_list (s : ByteArray) (k : Nat) : (s.extract k s.size).data.toList = s.data.toList.drop k := by
  have hl : s.data.toList.length = s.size := by simp
  simp only [ByteArray.extract, ByteArray.copySlice]
  simp
  exact List.take_of_length_le (by rw [List.length_drop, hl]; exact Nat.le_refl _)
theorem tail_size (s : ByteArray) (k : Nat) : (s.extract k s.size).size = s.size - k := by
  rw [← toL, tail_list, List.length_drop, toL]
theorem tail_tail (s : ByteArray) (k n : Nat) : (s.extract k s.size).extract n (s.extract k s.size).size = s.extract (k + n) s.size := by
  apply ByteArray.ext
  apply Array.toList_inj.1
  rw [tail_list, tail_list, tail_list, List.drop_drop]
def RoOut (s t : ByteArray) (e : Ending) : Prop := ∃ x, e = .returned (.int .i64 x) ∧ Ro s t 0 0 x

set_option maxRecDepth 100000 in
set_option maxHeartbeats 1000000 in
theorem runeOrder_any (s t : ByteArray) (w : World) (hs : s.size ≤ 1000000000000000) (ht : t.size ≤ 1000000000000000) (hT : Lib.Utf8Tabs 0 1 w) :
    Calls Tryd.prog 45 #[.string s, .string t] w fun e w' => RoOut s t e ∧ Below w.heap.size w w' := by
  have HT := hide hT
  have H79 := hide cmp_r
  have H80 := hide cmp_i
  clear hT
  go_enter Tryd.func45, Tryd.ntmps45
  go_upto_region 1 with fail
  go_loopw [0, 1] (fun v0 v1 wr => ∃ (p q : Nat) (a b : ByteArray), v0 = .string a ∧ v1 = .string b ∧ p ≤ s.size ∧ q ≤ t.size ∧ Hid (a = s.extract p s.size) ∧ Hid (b = t.extract q t.size) ∧ Hid (∀ x, Ro s t p q x → Ro s t 0 0 x) ∧ Hid (Below w.heap.size w wr)) (fun v0 _ _ => match v0 with | .string a => a.size | _ => 0)
  case atStart =>
    refine ⟨0, 0, s, t, rfl, rfl, by omega, by omega, ?_, ?_, fun _ h => h, Below.refl _ _⟩
    · show _ = _; apply ByteArray.ext; simp
    · show _ = _; apply ByteArray.ext; simp
  case round =>
    obtain ⟨p, q, a, b, rfl, rfl, hp, hq, HA, HB, HL, HBW⟩ := hrel
    have hB0 : w.heap.size ≤ wr.heap.size := (unhide HBW).size
    have hsa : a.size = s.size - p := by rw [unhide HA, tail_size]
    have hsb : b.size = t.size - q := by rw [unhide HB, tail_size]
    have hea := empty_size a
    have heb := empty_size b
    by_cases h1 : p < s.size
    · have ea : decide (a.size = 0) = false := by rw [decide_eq_false_iff_not]; omega
      rw [ea] at hea
      by_cases h2 : q < t.size
      · have eb : decide (b.size = 0) = false := by rw [decide_eq_false_iff_not]; omega
        rw [eb] at heb
        obtain ⟨r, n, hrn⟩ : ∃ r n : Nat, Utf8.decode s p = (r, n) := ⟨_, _, rfl⟩
        obtain ⟨r', n', hrn'⟩ : ∃ r' n' : Nat, Utf8.decode t q = (r', n') := ⟨_, _, rfl⟩
        have HD1 : Hid (∀ W, Lib.Utf8Tabs 0 1 W → Calls Tryd.prog 35 #[.string a] W fun e w' => e = .returned (.tuple #[.int .i32 (r : Int), .int .i64 (n : Int)]) ∧ Below W.heap.size W w') := fun W hW => by
          have h := Tryd.utf8_DecodeRuneInString (s.extract p s.size) W hW
          rw [decode_tail s p h1, hrn, ← unhide HA] at h
          exact h
        have HD2 : Hid (∀ W, Lib.Utf8Tabs 0 1 W → Calls Tryd.prog 35 #[.string b] W fun e w' => e = .returned (.tuple #[.int .i32 (r' : Int), .int .i64 (n' : Int)]) ∧ Below W.heap.size W w') := fun W hW => by
          have h := Tryd.utf8_DecodeRuneInString (t.extract q t.size) W hW
          rw [decode_tail t q h2, hrn', ← unhide HB] at h
          exact h
        have hn0 : 0 < n := by have := Lib.decode_width_pos s p h1; rw [hrn] at this; exact this
        have hnl : p + n ≤ s.size := by have := width_le s p h1; rw [hrn] at this; exact this
        have hnl' : q + n' ≤ t.size := by have := width_le t q h2; rw [hrn'] at this; exact this
        have hna : n ≤ a.size := by omega
        have hnb : n' ≤ b.size := by omega
        have HTW := hide (tabs_later (unhide HT) (unhide HBW))
        by_cases hr : r = r'
        · subst hr
          have HL2 : Hid (∀ x, Ro s t (p + n) (q + n') x → Ro s t 0 0 x) := fun x h => unhide HL x (.step p q x h1 h2 (by rw [hrn, hrn']) (by rw [hrn, hrn']; exact h))
          have HA2 : Hid (a.extract n a.size = s.extract (p + n) s.size) := by show _ = _; rw [unhide HA, tail_tail]
          have HB2 : Hid (b.extract n' b.size = t.extract (q + n') t.size) := by show _ = _; rw [unhide HB, tail_tail]
          have hsz2 : (a.extract n a.size).size = a.size - n := tail_size a n
          clear HL hrn hrn' HA HB ea eb hsa hsb
          generalize ha2 : a.extract n a.size = a2 at *
          generalize hb2 : b.extract n' b.size = b2 at *
          go_upto_region 6 with (first
            | (go_at_call_of 35 (Value.string a); refine (unhide HD1 wr (unhide HTW)).mono ?_; rintro e w1 ⟨rfl, hb1⟩; have HB1 := hide ((unhide HBW).trans (hb1.mono hB0)); have HT1 := hide (tabs_later (unhide HTW) hb1); clear HD1 hb1)
            | (go_at_call_of 35 (Value.string b); refine (unhide HD2 w1 (unhide HT1)).mono ?_; rintro e w2 ⟨rfl, hb2'⟩; have HB2' := hide ((unhide HB1).trans (hb2'.mono (unhide HB1).size)); clear HD2 hb2'))
          go_quiet (fail)
          go_wp2_with fail
          go_roundw
          case rel => exact ⟨p + n, q + n', a2, b2, rfl, rfl, hnl, hnl', HA2, HB2, HL2, below_drewN (unhide HB2') _⟩
          case measure => show a2.size < a.size; omega
        · have HRO : Hid (Ro s t 0 0 (cmpI (r : Int) (r' : Int))) := unhide HL _ (by have h := Ro.differ (s := s) (t := t) p q h1 h2 (by rw [hrn, hrn']; exact hr); rw [hrn, hrn'] at h; exact h)
          have er : ((r : Int) == (r' : Int)) = false := by rw [beq_eq_false_iff_ne]; omega
          clear HL hrn hrn' HA HB ea eb hr hsa hsb
          go_wp2_with (first
            | (go_at_call_of 35 (Value.string a); refine (unhide HD1 wr (unhide HTW)).mono ?_; rintro e w1 ⟨rfl, hb1⟩; have HB1 := hide ((unhide HBW).trans (hb1.mono hB0)); have HT1 := hide (tabs_later (unhide HTW) hb1); clear HD1 hb1)
            | (go_at_call_of 35 (Value.string b); refine (unhide HD2 w1 (unhide HT1)).mono ?_; rintro e w2 ⟨rfl, hb2'⟩; have HB2' := hide ((unhide HB1).trans (hb2'.mono (unhide HB1).size)); clear HD2 hb2')
            | (go_at_call 61; refine (unhide H79 _ _ w2).mono ?_; rintro e w3 ⟨rfl, h⟩; rw [h]; clear h))
          go_ret
          exact ⟨⟨_, rfl, unhide HRO⟩, unhide HB2'⟩
      · have eb : decide (b.size = 0) = true := by rw [decide_eq_true_iff]; omega
        rw [eb] at heb
        have HRO : Hid (Ro s t 0 0 (cmpI (a.size : Int) (b.size : Int))) := unhide HL _ (by rw [hsa, hsb]; exact .ended p q (by omega))
        clear HL hsa hsb
        go_wp2_with (go_at_call 62; refine (unhide H80 _ _ wr).mono ?_; rintro e w1 ⟨rfl, h⟩; rw [h]; clear h)
        go_ret
        exact ⟨⟨_, rfl, unhide HRO⟩, unhide HBW⟩
    · have ea : decide (a.size = 0) = true := by rw [decide_eq_true_iff]; omega
      rw [ea] at hea
      have HRO : Hid (Ro s t 0 0 (cmpI (a.size : Int) (b.size : Int))) := unhide HL _ (by rw [hsa, hsb]; exact .ended p q (by omega))
      clear HL hsa hsb
      go_wp2_with (go_at_call 62; refine (unhide H80 _ _ wr).mono ?_; rintro e w1 ⟨rfl, h⟩; rw [h]; clear h)
      go_ret
      exact ⟨⟨_, rfl, unhide HRO⟩, unhide HBW⟩
end Go.Proofs.YtiooiacebgojiabDoor

/- names.Power at every text and place. -/
import Derived.Test.YtiooiacebgojiaaDoorLow
import Derived.Test.YtiooiacebgojiaaDoorText
import Derived.Test.YtiooiacebgojiaaDoorFold
import Derived.Laws.RangeAny
import Derived.WalkSmall
import Derived.Deep.Cut
import Derived.Deep.CutRange
namespace Go.Proofs.YtiooiacebgojiaaDoor
open Go.RowKit

/-- From place p on, with that number, that size and that sign so far, the exponent comes out so. -/
inductive Pw (s : ByteArray) : Nat → Nat → Nat → Bool → Nat → Nat → Bool → Prop
  | done (p a z : Nat) (b : Bool) : ¬ p < s.size → Pw s p a z b a z b
  | sign (p a z : Nat) (b : Bool) (a' z' : Nat) (b' : Bool) : p < s.size → p = 0 → ((Utf8.decode s p).1 = 8314 ∨ (Utf8.decode s p).1 = 8315) → Pw s (p + (Utf8.decode s p).2) a z (decide ((Utf8.decode s p).1 = 8315)) a' z' b' → Pw s p a z b a' z' b'
  | stop (p a z : Nat) (b : Bool) : p < s.size → ¬ (p = 0 ∧ ((Utf8.decode s p).1 = 8314 ∨ (Utf8.decode s p).1 = 8315)) → ¬ figOf (Utf8.decode s p).1 < 10 → Pw s p a z b a z b
  | step (p a z : Nat) (b : Bool) (a' z' : Nat) (b' : Bool) : p < s.size → ¬ (p = 0 ∧ ((Utf8.decode s p).1 = 8314 ∨ (Utf8.decode s p).1 = 8315)) → figOf (Utf8.decode s p).1 < 10 → Pw s (p + (Utf8.decode s p).2) (min (a * 10 + figOf (Utf8.decode s p).1) 100) (p + figLen (Utf8.decode s p).1) b a' z' b' → Pw s p a z b a' z' b'
def powV (a z : Nat) (b : Bool) : Value := if z = 0 then .tuple #[.int .i64 0, .int .i64 0, .int .i64 3] else if 99 < a then .tuple #[.int .i64 0, .int .i64 0, .int .i64 51] else .tuple #[.int .i64 (if b then -(a : Int) else (a : Int)), .int .i64 (z : Int), .int .i64 0]

theorem fig_width (s : ByteArray) (p : Nat) (h : p < s.size) (hf : figOf (Utf8.decode s p).1 < 10) : (Utf8.decode s p).2 = figLen (Utf8.decode s p).1 := by
  have hw := width_le s p h
  have hb := bytes_at s p h
  obtain ⟨r, hr⟩ : ∃ r : Nat, r = (Utf8.decode s p).1 := ⟨_, rfl⟩
  have hrr : (r : Int) = 8304 ∨ (r : Int) = 185 ∨ (r : Int) = 178 ∨ (r : Int) = 179 ∨ (r : Int) = 8308 ∨ (r : Int) = 8309 ∨ (r : Int) = 8310 ∨ (r : Int) = 8311 ∨ (r : Int) = 8312 ∨ (r : Int) = 8313 := by
    rw [← hr] at hf
    unfold figOf at hf
    repeat' (split at hf; · simp_all)
    omega
  have hc : codeAt s p = (r : Int) := by
    unfold codeAt brokenAt
    rw [← hr, if_neg]
    simp
    omega
  rw [hc] at hb
  have hl := congrArg List.length hb
  rw [List.length_take, List.length_drop, toL, Nat.min_eq_left (by omega)] at hl
  rw [← hl, ← hr]
  rcases hrr with e | e | e | e | e | e | e | e | e | e <;> rw [e] <;> decide
theorem powV_zero (a : Nat) (b : Bool) : powV a 0 b = .tuple #[.int .i64 0, .int .i64 0, .int .i64 3] := rfl
theorem powV_big (a z : Nat) (b : Bool) (hz : z ≠ 0) (h : 99 < a) : powV a z b = .tuple #[.int .i64 0, .int .i64 0, .int .i64 51] := by unfold powV; rw [if_neg hz, if_pos h]
theorem powV_neg (a z : Nat) (hz : z ≠ 0) (h : ¬ 99 < a) : powV a z true = .tuple #[.int .i64 (-(a : Int)), .int .i64 (z : Int), .int .i64 0] := by unfold powV; rw [if_neg hz, if_neg h]; rfl
theorem powV_pos (a z : Nat) (hz : z ≠ 0) (h : ¬ 99 < a) : powV a z false = .tuple #[.int .i64 (a : Int), .int .i64 (z : Int), .int .i64 0] := by unfold powV; rw [if_neg hz, if_neg h]; rfl
set_option maxRecDepth 100000 in
set_option maxHeartbeats 1000000 in
theorem power_at (s0 s : ByteArray) (at0 : Nat) (hat : at0 ≤ s0.size) (hx : s0.extract at0 s0.size = s) (w : World) (hmax : s0.size ≤ 9223372036854775807) :
    Calls Tryd.prog 18 #[.string s0, .int .i64 (at0 : Int)] w fun e w' => (∃ a z b, e = .returned (powV a z b) ∧ Pw s 0 0 0 false a z b) ∧ Below w.heap.size w w' := by
  have hss : s.size ≤ s0.size := by
    rw [← hx]
    have : (s0.extract at0 s0.size).size ≤ s0.size := by simp
    exact this
  go_enter Tryd.func18, Tryd.ntmps18
  go_upto_region 5 with fail
  generalize hq1 : decide ((at0 : Int) < 0) = q1
  generalize hq2 : decide (s0.size < at0) = q2
  generalize hq3 : (q1 || q2) = q3
  generalize hA : (at0 : Int) = A0
  clear hq1 hq2 hq3 hA hx
  go_loopw [7, 8, 9] (fun v7 v8 v9 wr => ∃ (p a z : Nat) (b : Bool), v7 = .int .i64 (a : Int) ∧ v8 = .int .i64 (z : Int) ∧ v9 = .bool b ∧ a ≤ 100 ∧ p ≤ s.size ∧ z ≤ s.size ∧ Hid (wr.heap[w.heap.size]? = some (.stringIter s p)) ∧ Hid (∀ a' z' b', Pw s p a z b a' z' b' → Pw s 0 0 0 false a' z' b') ∧ Hid (Below w.heap.size w wr)) (fun _ _ _ wr => s.size - wr.iterPos w.heap.size)
  case atStart =>
    exact ⟨0, 0, 0, false, rfl, rfl, rfl, by omega, by omega, by omega, World.iter_heap _ _ _, fun _ _ _ h => h, (Below.refl _ _).alloc (Nat.le_refl _) _⟩
  case round =>
    obtain ⟨p, a, z, b, rfl, rfl, rfl, ha100, hps, hzs, HI, HL, HB⟩ := hrel
    have hB0 : w.heap.size ≤ wr.heap.size := (unhide HB).size
    have HM : Hid (wr.iterPos w.heap.size = p) := iterPos_of (unhide HI)
    by_cases hlt : p < s.size
    · obtain ⟨r, n, hrn⟩ : ∃ (r n : Nat), Utf8.decode s p = (r, n) := ⟨_, _, rfl⟩
      have hw := Lib.decode_width_pos s p hlt
      have hwl := width_le s p hlt
      have hfw := fig_width s p hlt
      rw [hrn] at hw hwl hfw
      have hr1 : (r : Int) ≤ 2147483647 := by have := decode_le s p; rw [hrn] at this; omega
      obtain ⟨W2, hW2⟩ : ∃ W2, W2 = wr.iterAt w.heap.size s (p + n) := ⟨_, rfl⟩
      have hnx : ∀ ty, (Instr.next (.pointer (some ⟨w.heap.size, 0, none⟩)) true ty).run Tryd.prog wr = .ok (.tuple #[.bool true, .int .i64 p, .int .i32 (r : Int)]) W2 := fun ty => by
        have h := Lib.run_next_any_at (P := Tryd.prog) wr _ s p ty (unhide HI) hlt
        rw [hrn] at h
        rw [hW2]
        exact h
      have HI2 : Hid (W2.heap[w.heap.size]? = some (.stringIter s (p + n))) := by show W2.heap[_]? = _; rw [hW2]; exact Lib.iterAt_heap _ _ _ _ _ (unhide HI)
      have HB2 : Hid (Below w.heap.size w W2) := by show Below _ _ W2; rw [hW2]; exact Lib.below_iterAt (unhide HB) (by omega) _ _
      have HLO := hide (lowered_any r W2)
      have HRL := hide (Tryd.utf8_RuneLen r W2)
      clear hW2 HI HB
      by_cases hsg : p = 0 ∧ (r = 8314 ∨ r = 8315)
      · have HL2 : Hid (∀ a' z' b', Pw s (p + n) a z (decide (r = 8315)) a' z' b' → Pw s 0 0 0 false a' z' b') := fun a' z' b' h => unhide HL a' z' b' (.sign p a z b a' z' b' hlt hsg.1 (by rw [hrn]; exact hsg.2) (by rw [hrn]; exact h))
        obtain ⟨rfl, hs2⟩ := hsg
        clear HL
        rcases hs2 with rfl | rfl
        all_goals
          go_wp2
          go_roundw
          case rel => exact ⟨0 + n, a, z, _, rfl, rfl, rfl, ha100, hwl, hzs, HI2, HL2, HB2⟩
          case measure => rw [unhide HM, iterPos_of (unhide HI2)]; omega
      · have e1 : p = 0 → ((r : Int) == 8314) = false ∧ ((r : Int) == 8315) = false := fun h => by rw [beq_eq_false_iff_ne, beq_eq_false_iff_ne]; omega
        by_cases hp0 : p = 0
        · obtain ⟨e2, e3⟩ := e1 hp0
          have e4 : ((p : Int) == 0) = true := by rw [beq_iff_eq]; omega
          clear e1 hp0
          by_cases hf : figOf r < 10
          · rw [if_pos hf] at HLO
            have hnf := hfw hf
            have hrl := fig_len r hf
            rw [hrl] at HRL
            have hfl : figOf r < 10 := hf
            have HL2 : Hid (∀ a' z' b', Pw s (p + n) (min (a * 10 + figOf r) 100) (p + figLen r) b a' z' b' → Pw s 0 0 0 false a' z' b') := fun a' z' b' h => unhide HL a' z' b' (.step p a z b a' z' b' hlt (by rw [hrn]; exact hsg) (by rw [hrn]; exact hf) (by rw [hrn]; exact h))
            clear HL hfw hsg hrl
            generalize figOf r = g at *
            generalize figLen r = l at *
            go_wp2_with (first
              | (go_at_call 38; refine (unhide HLO).mono ?_; rintro e w3 ⟨rfl, h3⟩; rw [h3]; clear h3)
              | (go_at_call 39; refine (unhide HRL).mono ?_; rintro e w3 ⟨rfl, h3⟩; rw [h3]; clear h3))
            all_goals go_roundw
            case rel => exact ⟨p + n, min (a * 10 + g) 100, p + l, b, by go_num, by go_num, rfl, by omega, hwl, by omega, HI2, HL2, HB2⟩
            case measure => rw [unhide HM, iterPos_of (unhide HI2)]; omega
          · rw [if_neg hf] at HLO
            have HPW : Hid (Pw s 0 0 0 false a z b) := unhide HL a z b (.stop p a z b hlt (by rw [hrn]; exact hsg) (by rw [hrn]; exact hf))
            clear HL hfw hsg HRL
            by_cases hz : z = 0
            · subst hz
              have HV := hide (powV_zero a b)
              go_wp2_with (go_at_call 38; refine (unhide HLO).mono ?_; rintro e w3 ⟨rfl, h3⟩; rw [h3]; clear h3)
              exact bodyPost_ret (res3t Tryd.results18 _ _) rfl ⟨⟨a, 0, b, by rw [unhide HV]; rfl, unhide HPW⟩, unhide HB2⟩
            · have hz0 : ((z : Int) == 0) = false := by rw [beq_eq_false_iff_ne]; omega
              by_cases ha : 99 < a
              · have HV := hide (powV_big a z b hz ha)
                clear hz
                go_wp2_with (go_at_call 38; refine (unhide HLO).mono ?_; rintro e w3 ⟨rfl, h3⟩; rw [h3]; clear h3)
                exact bodyPost_ret (res3t Tryd.results18 _ _) rfl ⟨⟨a, z, b, by rw [unhide HV]; rfl, unhide HPW⟩, unhide HB2⟩
              · cases b
                · have HV := hide (powV_pos a z hz ha)
                  clear hz
                  go_wp2_with (go_at_call 38; refine (unhide HLO).mono ?_; rintro e w3 ⟨rfl, h3⟩; rw [h3]; clear h3)
                  exact bodyPost_ret (res3t Tryd.results18 _ _) rfl ⟨⟨a, z, false, by rw [unhide HV]; rfl, unhide HPW⟩, unhide HB2⟩
                · have HV := hide (powV_neg a z hz ha)
                  clear hz
                  go_wp2_with (go_at_call 38; refine (unhide HLO).mono ?_; rintro e w3 ⟨rfl, h3⟩; rw [h3]; clear h3)
                  exact bodyPost_ret (res3t Tryd.results18 _ _) rfl ⟨⟨a, z, true, by rw [unhide HV]; rfl, unhide HPW⟩, unhide HB2⟩
        · have e4 : ((p : Int) == 0) = false := by rw [beq_eq_false_iff_ne]; omega
          clear e1 hp0
          by_cases hf : figOf r < 10
          · rw [if_pos hf] at HLO
            have hnf := hfw hf
            have hrl := fig_len r hf
            rw [hrl] at HRL
            have hfl : figOf r < 10 := hf
            have HL2 : Hid (∀ a' z' b', Pw s (p + n) (min (a * 10 + figOf r) 100) (p + figLen r) b a' z' b' → Pw s 0 0 0 false a' z' b') := fun a' z' b' h => unhide HL a' z' b' (.step p a z b a' z' b' hlt (by rw [hrn]; exact hsg) (by rw [hrn]; exact hf) (by rw [hrn]; exact h))
            clear HL hfw hsg hrl
            generalize figOf r = g at *
            generalize figLen r = l at *
            go_wp2_with (first
              | (go_at_call 38; refine (unhide HLO).mono ?_; rintro e w3 ⟨rfl, h3⟩; rw [h3]; clear h3)
              | (go_at_call 39; refine (unhide HRL).mono ?_; rintro e w3 ⟨rfl, h3⟩; rw [h3]; clear h3))
            all_goals go_roundw
            case rel => exact ⟨p + n, min (a * 10 + g) 100, p + l, b, by go_num, by go_num, rfl, by omega, hwl, by omega, HI2, HL2, HB2⟩
            case measure => rw [unhide HM, iterPos_of (unhide HI2)]; omega
          · rw [if_neg hf] at HLO
            have HPW : Hid (Pw s 0 0 0 false a z b) := unhide HL a z b (.stop p a z b hlt (by rw [hrn]; exact hsg) (by rw [hrn]; exact hf))
            clear HL hfw hsg HRL
            by_cases hz : z = 0
            · subst hz
              have HV := hide (powV_zero a b)
              go_wp2_with (go_at_call 38; refine (unhide HLO).mono ?_; rintro e w3 ⟨rfl, h3⟩; rw [h3]; clear h3)
              exact bodyPost_ret (res3t Tryd.results18 _ _) rfl ⟨⟨a, 0, b, by rw [unhide HV]; rfl, unhide HPW⟩, unhide HB2⟩
            · have hz0 : ((z : Int) == 0) = false := by rw [beq_eq_false_iff_ne]; omega
              by_cases ha : 99 < a
              · have HV := hide (powV_big a z b hz ha)
                clear hz
                go_wp2_with (go_at_call 38; refine (unhide HLO).mono ?_; rintro e w3 ⟨rfl, h3⟩; rw [h3]; clear h3)
                exact bodyPost_ret (res3t Tryd.results18 _ _) rfl ⟨⟨a, z, b, by rw [unhide HV]; rfl, unhide HPW⟩, unhide HB2⟩
              · cases b
                · have HV := hide (powV_pos a z hz ha)
                  clear hz
                  go_wp2_with (go_at_call 38; refine (unhide HLO).mono ?_; rintro e w3 ⟨rfl, h3⟩; rw [h3]; clear h3)
                  exact bodyPost_ret (res3t Tryd.results18 _ _) rfl ⟨⟨a, z, false, by rw [unhide HV]; rfl, unhide HPW⟩, unhide HB2⟩
                · have HV := hide (powV_neg a z hz ha)
                  clear hz
                  go_wp2_with (go_at_call 38; refine (unhide HLO).mono ?_; rintro e w3 ⟨rfl, h3⟩; rw [h3]; clear h3)
                  exact bodyPost_ret (res3t Tryd.results18 _ _) rfl ⟨⟨a, z, true, by rw [unhide HV]; rfl, unhide HPW⟩, unhide HB2⟩
    · have hnx : ∀ ty, (Instr.next (.pointer (some ⟨w.heap.size, 0, none⟩)) true ty).run Tryd.prog wr = .ok (.tuple #[.bool false]) wr := fun ty => Lib.run_next_end_at wr _ s _ ty (unhide HI) hlt
      have HPW : Hid (Pw s 0 0 0 false a z b) := unhide HL a z b (.done p a z b hlt)
      clear HL HI HM
      by_cases hz : z = 0
      · subst hz
        have HV := hide (powV_zero a b)
        go_wp2
        exact bodyPost_ret (res3t Tryd.results18 _ _) rfl ⟨⟨a, 0, b, by rw [unhide HV]; rfl, unhide HPW⟩, unhide HB⟩
      · have hz0 : ((z : Int) == 0) = false := by rw [beq_eq_false_iff_ne]; omega
        by_cases ha : 99 < a
        · have HV := hide (powV_big a z b hz ha)
          clear hz
          go_wp2
          exact bodyPost_ret (res3t Tryd.results18 _ _) rfl ⟨⟨a, z, b, by rw [unhide HV]; rfl, unhide HPW⟩, unhide HB⟩
        · cases b
          · have HV := hide (powV_pos a z hz ha)
            clear hz
            go_wp2
            exact bodyPost_ret (res3t Tryd.results18 _ _) rfl ⟨⟨a, z, false, by rw [unhide HV]; rfl, unhide HPW⟩, unhide HB⟩
          · have HV := hide (powV_neg a z hz ha)
            clear hz
            go_wp2
            exact bodyPost_ret (res3t Tryd.results18 _ _) rfl ⟨⟨a, z, true, by rw [unhide HV]; rfl, unhide HPW⟩, unhide HB⟩
/-- Outside of the text. -/
theorem power_out (s : ByteArray) (a : Int) (h : a < 0 ∨ (s.size : Int) < a) (w : World) : Calls Tryd.prog 18 #[.string s, .int .i64 a] w fun e w' => e = .returned (.tuple #[.int .i64 0, .int .i64 0, .int .i64 1]) ∧ w' = w := by
  by_cases h0 : a < 0
  · go_enter Tryd.func18, Tryd.ntmps18
    go_wp2
    exact bodyPost_ret (res3t Tryd.results18 _ _) rfl ⟨rfl, rfl⟩
  · have h1 : (s.size : Int) < a := by omega
    clear h
    go_enter Tryd.func18, Tryd.ntmps18
    go_wp2
    exact bodyPost_ret (res3t Tryd.results18 _ _) rfl ⟨rfl, rfl⟩
end Go.Proofs.YtiooiacebgojiaaDoor

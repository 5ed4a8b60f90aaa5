/- names.order, with what it leaves behind said to the block: what the sort asks of it. -/
import Derived.Test.YtiooiacebgojiabDoorGrow
import Derived.Test.YtiooiacebgojiabDoorOrder2
namespace Go.Proofs.YtiooiacebgojiabDoor
open Go.RowKit Go.Lib Go.Sort

set_option maxHeartbeats 1000000 in
set_option maxRecDepth 1000000 in
theorem decode_grw (s : ByteArray) (w : World) (hT : Lib.Utf8Tabs 0 1 w) :
    Calls Tryd.prog 35 #[.string s] w fun e w' => e = .returned (.tuple #[.int .i32 (Lib.decodeGo s).1, .int .i64 (Lib.decodeGo s).2]) ∧ Grw w w' := by
  have HS := hide (decodeSlow_grw s w hT)
  obtain ⟨R, hR⟩ : ∃ R, (Lib.decodeGo s).1 = R := ⟨_, rfl⟩
  obtain ⟨K, hK⟩ : ∃ K, (Lib.decodeGo s).2 = K := ⟨_, rfl⟩
  rw [hR, hK] at HS ⊢
  clear hT
  by_cases h0 : s.size = 0
  · have hne : s.toList.isEmpty = true := by
      rw [Lib.toList_data]
      have : s.data.toList = [] := List.eq_nil_of_length_eq_zero (by rw [← Lib.size_eq]; exact h0)
      rw [this]; rfl
    clear h0 hR hK
    go_enter Tryd.func35, Tryd.ntmps35
    go_wp2_with (go_at_call 47; refine (unhide HS).mono ?_; rintro e w' ⟨rfl, hb⟩)
    go_ret2
    exact ⟨rfl, hb⟩
  · have hne : s.toList.isEmpty = false := by
      rw [Lib.toList_data]
      cases h : s.data.toList with
      | nil => exact absurd (by rw [Lib.size_eq, h]; rfl) h0
      | cons _ _ => rfl
    have hz0 : (0 : Int) < (s.size : Int) := by omega
    obtain ⟨x0, hx0⟩ : ∃ x0, s.get! 0 = x0 := ⟨_, rfl⟩
    have b0 : 0 < s.size := by omega
    have hs0 : s[0]'b0 = x0 := by rw [← hx0]; exact (Utf8W.get!_of_lt s 0 b0).symm
    by_cases ha : x0.toNat < 128
    · have haz : (x0.toNat : Int) < 128 := by omega
      have hd : Lib.decodeGo s = (x0.toNat, 1) := by
        simp only [Lib.decodeGo, h0, if_false]
        rw [Lib.decode_at, hx0]
        simp [decodeN, ha]
      rw [hd] at hR hK
      subst hR; subst hK
      clear HS h0
      go_enter Tryd.func35, Tryd.ntmps35
      go_wp2
      go_ret2
      exact ⟨rfl, Grw.refl _⟩
    · have haz : ¬ ((x0.toNat : Int) < 128) := by omega
      clear hR hK h0
      go_enter Tryd.func35, Tryd.ntmps35
      go_wp2_with (go_at_call 47; refine (unhide HS).mono ?_; rintro e w' ⟨rfl, hb⟩)
      go_ret2
      exact ⟨rfl, hb⟩

set_option maxRecDepth 100000 in
set_option maxHeartbeats 1000000 in
theorem runeOrder_grw (s t : ByteArray) (w : World) (hs : s.size ≤ 1000000000000000) (ht : t.size ≤ 1000000000000000) (hT : Lib.Utf8Tabs 0 1 w) :
    Calls Tryd.prog 45 #[.string s, .string t] w fun e w' => RoOut s t e ∧ Grw w w' := by
  have HT := hide hT
  have H79 := hide cmp_r
  have H80 := hide cmp_i
  clear hT
  go_enter Tryd.func45, Tryd.ntmps45
  go_upto_region 1 with fail
  go_loopw [0, 1] (fun v0 v1 wr => ∃ (p q : Nat) (a b : ByteArray), v0 = .string a ∧ v1 = .string b ∧ p ≤ s.size ∧ q ≤ t.size ∧ Hid (a = s.extract p s.size) ∧ Hid (b = t.extract q t.size) ∧ Hid (∀ x, Ro s t p q x → Ro s t 0 0 x) ∧ Hid (Grw w wr)) (fun v0 _ _ => match v0 with | .string a => a.size | _ => 0)
  case atStart =>
    refine ⟨0, 0, s, t, rfl, rfl, by omega, by omega, ?_, ?_, fun _ h => h, Grw.refl _⟩
    · show _ = _; apply ByteArray.ext; simp
    · show _ = _; apply ByteArray.ext; simp
  case round =>
    obtain ⟨p, q, a, b, rfl, rfl, hp, hq, HA, HB, HL, HBW⟩ := hrel
    have hsa : a.size = s.size - p := by rw [unhide HA, tail_size]
    have hsb : b.size = t.size - q := by rw [unhide HB, tail_size]
    have hea := empty_size a
    have heb := empty_size b
    by_cases h1 : p < s.size
    · have ea : decide (a.size = 0) = false := by rw [decide_eq_false_iff_not]; omega
      rw [ea] at hea
      by_cases h2 : q < t.size
      · have eb : decide (b.size = 0) = false := by rw [decide_eq_false_iff_not]; omega
        rw [eb] at heb
        obtain ⟨r, n, hrn⟩ : ∃ r n : Nat, Utf8.decode s p = (r, n) := ⟨_, _, rfl⟩
        obtain ⟨r', n', hrn'⟩ : ∃ r' n' : Nat, Utf8.decode t q = (r', n') := ⟨_, _, rfl⟩
        have HD1 : Hid (∀ W, Lib.Utf8Tabs 0 1 W → Calls Tryd.prog 35 #[.string a] W fun e w' => e = .returned (.tuple #[.int .i32 (r : Int), .int .i64 (n : Int)]) ∧ Grw W w') := fun W hW => by
          have h := decode_grw (s.extract p s.size) W hW
          rw [decode_tail s p h1, hrn, ← unhide HA] at h
          exact h
        have HD2 : Hid (∀ W, Lib.Utf8Tabs 0 1 W → Calls Tryd.prog 35 #[.string b] W fun e w' => e = .returned (.tuple #[.int .i32 (r' : Int), .int .i64 (n' : Int)]) ∧ Grw W w') := fun W hW => by
          have h := decode_grw (t.extract q t.size) W hW
          rw [decode_tail t q h2, hrn', ← unhide HB] at h
          exact h
        have hn0 : 0 < n := by have := Lib.decode_width_pos s p h1; rw [hrn] at this; exact this
        have hnl : p + n ≤ s.size := by have := width_le s p h1; rw [hrn] at this; exact this
        have hnl' : q + n' ≤ t.size := by have := width_le t q h2; rw [hrn'] at this; exact this
        have hna : n ≤ a.size := by omega
        have hnb : n' ≤ b.size := by omega
        have HTW := hide (tabs_later (unhide HT) (unhide HBW).below)
        by_cases hr : r = r'
        · subst hr
          have HL2 : Hid (∀ x, Ro s t (p + n) (q + n') x → Ro s t 0 0 x) := fun x h => unhide HL x (.step p q x h1 h2 (by rw [hrn, hrn']) (by rw [hrn, hrn']; exact h))
          have HA2 : Hid (a.extract n a.size = s.extract (p + n) s.size) := by show _ = _; rw [unhide HA, tail_tail]
          have HB2 : Hid (b.extract n' b.size = t.extract (q + n') t.size) := by show _ = _; rw [unhide HB, tail_tail]
          have hsz2 : (a.extract n a.size).size = a.size - n := tail_size a n
          clear HL hrn hrn' HA HB ea eb hsa hsb
          generalize ha2 : a.extract n a.size = a2 at *
          generalize hb2 : b.extract n' b.size = b2 at *
          go_upto_region 6 with (first
            | (go_at_call_of 35 (Value.string a); refine (unhide HD1 wr (unhide HTW)).mono ?_; rintro e w1 ⟨rfl, hb1⟩; have HB1 := hide ((unhide HBW).trans hb1); have HT1 := hide (tabs_later (unhide HTW) hb1.below); clear HD1 hb1)
            | (go_at_call_of 35 (Value.string b); refine (unhide HD2 w1 (unhide HT1)).mono ?_; rintro e w2 ⟨rfl, hb2'⟩; have HB2' := hide ((unhide HB1).trans hb2'); clear HD2 hb2'))
          go_quiet (fail)
          go_wp2_with fail
          go_roundw
          case rel => exact ⟨p + n, q + n', a2, b2, rfl, rfl, hnl, hnl', HA2, HB2, HL2, (unhide HB2').drewN _⟩
          case measure => show a2.size < a.size; omega
        · have HRO : Hid (Ro s t 0 0 (cmpI (r : Int) (r' : Int))) := unhide HL _ (by have h := Ro.differ (s := s) (t := t) p q h1 h2 (by rw [hrn, hrn']; exact hr); rw [hrn, hrn'] at h; exact h)
          have er : ((r : Int) == (r' : Int)) = false := by rw [beq_eq_false_iff_ne]; omega
          clear HL hrn hrn' HA HB ea eb hr hsa hsb
          go_wp2_with (first
            | (go_at_call_of 35 (Value.string a); refine (unhide HD1 wr (unhide HTW)).mono ?_; rintro e w1 ⟨rfl, hb1⟩; have HB1 := hide ((unhide HBW).trans hb1); have HT1 := hide (tabs_later (unhide HTW) hb1.below); clear HD1 hb1)
            | (go_at_call_of 35 (Value.string b); refine (unhide HD2 w1 (unhide HT1)).mono ?_; rintro e w2 ⟨rfl, hb2'⟩; have HB2' := hide ((unhide HB1).trans hb2'); clear HD2 hb2')
            | (go_at_call 61; refine (unhide H79 _ _ w2).mono ?_; rintro e w3 ⟨rfl, h⟩; rw [h]; clear h))
          go_ret
          exact ⟨⟨_, rfl, unhide HRO⟩, unhide HB2'⟩
      · have eb : decide (b.size = 0) = true := by rw [decide_eq_true_iff]; omega
        rw [eb] at heb
        have HRO : Hid (Ro s t 0 0 (cmpI (a.size : Int) (b.size : Int))) := unhide HL _ (by rw [hsa, hsb]; exact .ended p q (by omega))
        clear HL hsa hsb
        go_wp2_with (go_at_call 62; refine (unhide H80 _ _ wr).mono ?_; rintro e w1 ⟨rfl, h⟩; rw [h]; clear h)
        go_ret
        exact ⟨⟨_, rfl, unhide HRO⟩, unhide HBW⟩
    · have ea : decide (a.size = 0) = true := by rw [decide_eq_true_iff]; omega
      rw [ea] at hea
      have HRO : Hid (Ro s t 0 0 (cmpI (a.size : Int) (b.size : Int))) := unhide HL _ (by rw [hsa, hsb]; exact .ended p q (by omega))
      clear HL hsa hsb
      go_wp2_with (go_at_call 62; refine (unhide H80 _ _ wr).mono ?_; rintro e w1 ⟨rfl, h⟩; rw [h]; clear h)
      go_ret
      exact ⟨⟨_, rfl, unhide HRO⟩, unhide HBW⟩

set_option maxRecDepth 100000 in
set_option maxHeartbeats 1000000 in
theorem order_grw (a b : ByteArray) (w : World) (ha : a.size ≤ 1000000000000000) (hb : b.size ≤ 1000000000000000) (hT : Lib.Utf8Tabs 0 1 w) :
    Calls Tryd.prog 32 #[.string a, .string b] w fun e w' => e = .returned (.int .i64 (ordC a b)) ∧ Grw w w' := by
  have HR := hide (runeOrder_grw a b w ha hb hT)
  have HC := hide (Tryd.strings_Compare a b)
  have HO := hide (fun x (h : Ro a b 0 0 x) => ordC_or a b h)
  clear hT
  generalize Lib.compareBytes a.data.toList b.data.toList = c at *
  go_enter Tryd.func32, Tryd.ntmps32
  go_wp2_with (first
    | (go_at_call 45; refine (unhide HR).mono ?_; rintro e w1 ⟨hro, hb1⟩; obtain ⟨x, rfl, hx⟩ := hro; have HB1 := hide hb1; have HV := hide (unhide HO x hx); clear hb1 hx)
    | (go_at_call 46; refine (unhide HC w1).mono ?_; rintro e w2 ⟨rfl, h⟩; rw [h]; clear h; have HOR := hide (cmpOr_any w1.heap.size x c (w1.alloc (.cells #[.int .i64 x, .int .i64 c] 3)) (by simp) (by simp)))
    | (go_at_call 44; refine (unhide HOR).mono ?_; rintro e w3 ⟨rfl, h⟩; rw [h]; clear h))
  go_ret
  exact ⟨by rw [← unhide HV]; rfl, (unhide HB1).alloc _⟩
end Go.Proofs.YtiooiacebgojiabDoor

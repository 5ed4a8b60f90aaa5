/- The document's Ahead: does one text stand ahead of another one? -/
import Derived.Test.YtiooiacebgojiabDoorOrder
import Derived.Test.YtiooiacebgojiabDoorRunesIn
import Derived.Test.YtiooiacebgojiabDoorRefRunes
import Derived.BigQuiet
namespace Go.Proofs.YtiooiacebgojiabDoor
open Go.RowKit

theorem runes_shape3 {w : World} {B : Nat} {v : Value} {s : ByteArray} (h : w.ownsRow B 67 5 v (places s 0).length (runeRow s (places s 0))) : ∃ pa ca, v = .slice pa (places s 0).length ca ∧ (0 < (places s 0).length → ∃ g, pa = some ⟨g, 0, none⟩ ∧ RunesIn w g s) := by
  rcases runes_shape h with ⟨h0, a, c, rfl⟩ | ⟨_, g, cap, rfl, hin⟩
  · have e : (places s 0).length = 0 := by rw [places_end s 0 (by omega)]; rfl
    rw [e]
    exact ⟨a, c, rfl, fun h => absurd h (by omega)⟩
  · exact ⟨_, _, rfl, fun _ => ⟨g, rfl, hin⟩⟩
/-- What Ahead answers, where the runes stand so to one another. -/
def aheadB (a b : ByteArray) (x : Int) : Bool := decide (x < 0) || (decide (x = 0) && Op.bytesLess a.toList b.toList)
def AhOut (a b : ByteArray) (e : Ending) : Prop := ∃ x, e = .returned (.bool (aheadB a b x)) ∧ Ro a b 0 0 x
theorem cmpI_lt (x y : Int) (h : x < y) : cmpI x y = -1 := if_pos h
theorem cmpI_gt (x y : Int) (h : y < x) : cmpI x y = 1 := by unfold cmpI; rw [if_neg (by omega), if_pos h]
theorem cmpI_eq (x : Int) : cmpI x x = 0 := by unfold cmpI; rw [if_neg (by omega), if_neg (by omega)]

set_option maxRecDepth 100000 in
set_option maxHeartbeats 1000000 in
theorem refAhead_any (a b : ByteArray) (w : World) (ha : a.size ≤ 1000000000000) (hb : b.size ≤ 1000000000000) (hT : Lib.Utf8Tabs 0 1 w) :
    Calls Tryd.prog 16 #[.string a, .string b] w fun e w' => AhOut a b e ∧ Below w.heap.size w w' := by
  have HT := hide hT
  have HR := hide (refRunes_any a w ha hT)
  have HR2 := hide (fun W (h : Lib.Utf8Tabs 0 1 W) => refRunes_any b W hb h)
  have hnle : (places a 0).length ≤ a.size := by have := places_len a 0; omega
  have hmle : (places b 0).length ≤ b.size := by have := places_len b 0; omega
  have HSA := hide (fun (W : World) (B : Nat) v (h : W.ownsRow B 67 5 v (places a 0).length (runeRow a (places a 0))) => runes_shape3 h)
  have HSB := hide (fun (W : World) (B : Nat) v (h : W.ownsRow B 67 5 v (places b 0).length (runeRow b (places b 0))) => runes_shape3 h)
  obtain ⟨n, hn⟩ : ∃ n, n = (places a 0).length := ⟨_, rfl⟩
  obtain ⟨m, hm⟩ : ∃ m, m = (places b 0).length := ⟨_, rfl⟩
  rw [← hn] at hnle HR HSA
  rw [← hm] at hmle HR2 HSB
  have HN := hide hn
  have HM := hide hm
  clear hn hm hT
  go_enter Tryd.func16, Tryd.ntmps16
  go_upto_region 3 with (first
    | (go_at_call_of 18 (Value.string a); refine (unhide HR).mono ?_; rintro e w1 ⟨v1, rfl, ho1, hb1⟩; obtain ⟨pa, cpa, rfl, hA1⟩ := unhide HSA _ _ _ ho1; have HA1 := hide hA1; have HB1 := hide hb1; have HT1 := hide (tabs_later (unhide HT) hb1); clear HR hb1 ho1 hA1)
    | (go_at_call_of 18 (Value.string b); refine (unhide HR2 w1 (unhide HT1)).mono ?_; rintro e w2 ⟨v2, rfl, ho2, hb2⟩; obtain ⟨pb, cpb, rfl, hA2⟩ := unhide HSB _ _ _ ho2; have HA2 := hide hA2; have HB2 := hide ((unhide HB1).trans (hb2.mono (unhide HB1).size)); have HA1' : Hid (0 < n → ∃ g, pa = some ⟨g, 0, none⟩ ∧ RunesIn w2 g a) := (fun h => by obtain ⟨g, e, hr⟩ := unhide HA1 h; exact ⟨g, e, hr.later hb2⟩); clear HR2 hb2 ho2 hA2 HA1))
  go_loopw [7] (fun v7 wr => ∃ (i p q : Nat), v7 = .int .i64 (i : Int) ∧ i ≤ n ∧ i ≤ m ∧ p ≤ a.size ∧ q ≤ b.size ∧ Hid ((places a 0).drop i = places a p) ∧ Hid ((places b 0).drop i = places b q) ∧ Hid (∀ x, Ro a b p q x → Ro a b 0 0 x) ∧ Hid (Below w2.heap.size w2 wr)) (fun v7 _ => n - (intOf v7).toNat)
  case atStart => exact ⟨0, 0, 0, rfl, by omega, by omega, by omega, by omega, rfl, rfl, fun _ h => h, Below.refl _ _⟩
  case round =>
    obtain ⟨i, p, q, rfl, hin, him, hp, hq, HDA, HDB, HL, HB⟩ := hrel
    have HBW := hide ((unhide HB2).trans ((unhide HB).mono (unhide HB2).size))
    by_cases h1 : p < a.size
    · obtain ⟨hil, hip, hdr⟩ := places_cons (unhide HDA) h1
      have hin2 : i < n := by rw [unhide HN]; exact hil
      have hga : (places a 0)[i]? = some p := by rw [List.getElem?_eq_getElem hil, hip]
      by_cases h2 : q < b.size
      · obtain ⟨hjl, hjq, hdr2⟩ := places_cons (unhide HDB) h2
        have him2 : i < m := by rw [unhide HM]; exact hjl
        have hgb : (places b 0)[i]? = some q := by rw [List.getElem?_eq_getElem hjl, hjq]
        obtain ⟨gA, rfl, hinA⟩ := unhide HA1' (by omega)
        obtain ⟨gB, rfl, hinB⟩ := unhide HA2 (by omega)
        obtain ⟨cA, -, -, -, -⟩ := (hinA.later (unhide HB)).five hga
        obtain ⟨cB, -, -, -, -⟩ := (hinB.later (unhide HB)).five hgb
        have hw1 := width_le a p h1
        have hw2 := width_le b q h2
        obtain ⟨r, nw, hrn⟩ : ∃ r nw : Nat, Utf8.decode a p = (r, nw) := ⟨_, _, rfl⟩
        obtain ⟨r', nw', hrn'⟩ : ∃ r' nw' : Nat, Utf8.decode b q = (r', nw') := ⟨_, _, rfl⟩
        rw [hrn] at cA hdr hw1
        rw [hrn'] at cB hdr2 hw2
        have HDA2 := hide hdr
        have HDB2 := hide hdr2
        have z0 : (0 : Int) ≤ (i : Int) := by omega
        have z1 : (i : Int) < (n : Int) := by omega
        have z2 : (i : Int) < (m : Int) := by omega
        by_cases hr : r = r'
        · subst hr
          have HL2 : Hid (∀ x, Ro a b (p + nw) (q + nw') x → Ro a b 0 0 x) := fun x h => unhide HL x (.step p q x h1 h2 (by rw [hrn, hrn']) (by rw [hrn, hrn']; exact h))
          clear HL hrn hrn' hinA hinB hga hgb hil hjl hip hjq hdr hdr2 HDA HDB
          go_upto_region 5 with fail
          go_quiet (fail)
          go_wp2_with fail
          go_roundw
          case rel => exact ⟨i + 1, p + nw, q + nw', by go_num, by omega, by omega, hw1, hw2, HDA2, HDB2, HL2, below_drewN (unhide HB) _⟩
          case measure => simp [intOf]; omega
        · have HRO : Hid (Ro a b 0 0 (cmpI (r : Int) (r' : Int))) := unhide HL _ (by have h := Ro.differ (s := a) (t := b) p q h1 h2 (by rw [hrn, hrn']; exact hr); rw [hrn, hrn'] at h; exact h)
          have er : ((r : Int) == (r' : Int)) = false := by rw [beq_eq_false_iff_ne]; omega
          have HV : Hid (aheadB a b (cmpI (r : Int) (r' : Int)) = decide ((r : Int) < (r' : Int))) := by
            show _ = _
            unfold aheadB
            by_cases hlt : (r : Int) < (r' : Int)
            · rw [cmpI_lt _ _ hlt]; simp [hlt]
            · rw [cmpI_gt _ _ (by omega)]; simp; omega
          clear HL hrn hrn' hinA hinB hga hgb hil hjl hip hjq hdr hdr2 HDA HDB hr
          go_upto_region 5 with fail
          go_quiet (fail)
          go_upto_region 6 with fail
          go_quiet (fail)
          go_wp2_with fail
          go_ret
          refine ⟨⟨_, ?_, unhide HRO⟩, below_drewN (unhide HBW) _⟩
          rw [unhide HV]
          first | rfl | (simp; done)
      · have hmi : m ≤ i := by rw [unhide HM]; exact places_nil (unhide HDB) h2
        have HRO : Hid (Ro a b 0 0 1) := unhide HL _ (by have h := Ro.ended (s := a) (t := b) p q (by omega); rw [cmpI_gt _ _ (by omega)] at h; exact h)
        have en : ((n : Int) == (m : Int)) = false := by rw [beq_eq_false_iff_ne]; omega
        have HV : Hid (aheadB a b 1 = false) := rfl
        have ln : decide ((n : Int) < (m : Int)) = false := by rw [decide_eq_false_iff_not]; omega
        have ln2 : decide (n < m) = false := by rw [decide_eq_false_iff_not]; omega
        clear HL hdr hil hip hga HDA HDB
        go_wp2_with fail
        go_ret
        exact ⟨⟨_, by rw [unhide HV]; first | rfl | (simp; omega), unhide HRO⟩, unhide HBW⟩
    · have hni : n ≤ i := by rw [unhide HN]; exact places_nil (unhide HDA) h1
      by_cases h2 : q < b.size
      · obtain ⟨hjl, hjq, hdr2⟩ := places_cons (unhide HDB) h2
        have him2 : i < m := by rw [unhide HM]; exact hjl
        have HRO : Hid (Ro a b 0 0 (-1)) := unhide HL _ (by have h := Ro.ended (s := a) (t := b) p q (by omega); rw [cmpI_lt _ _ (by omega)] at h; exact h)
        have en : ((n : Int) == (m : Int)) = false := by rw [beq_eq_false_iff_ne]; omega
        have HV : Hid (aheadB a b (-1) = true) := rfl
        have ln : decide ((n : Int) < (m : Int)) = true := by rw [decide_eq_true_iff]; omega
        have ln2 : decide (n < m) = true := by rw [decide_eq_true_iff]; omega
        clear HL hdr2 hjl hjq HDA HDB
        go_wp2_with fail
        go_ret
        exact ⟨⟨_, by rw [unhide HV]; first | rfl | (simp; omega), unhide HRO⟩, unhide HBW⟩
      · have hmi : m ≤ i := by rw [unhide HM]; exact places_nil (unhide HDB) h2
        obtain rfl : n = m := by omega
        have HRO : Hid (Ro a b 0 0 0) := unhide HL _ (by have h := Ro.ended (s := a) (t := b) p q (by omega); rw [show a.size - p = b.size - q by omega, cmpI_eq] at h; exact h)
        have HV : Hid (aheadB a b 0 = Op.bytesLess a.toList b.toList) := by show _ = _; unfold aheadB; simp
        clear HL HDA HDB
        go_wp2_with fail
        go_ret
        exact ⟨⟨_, by rw [unhide HV]; rfl, unhide HRO⟩, unhide HBW⟩
end Go.Proofs.YtiooiacebgojiabDoor

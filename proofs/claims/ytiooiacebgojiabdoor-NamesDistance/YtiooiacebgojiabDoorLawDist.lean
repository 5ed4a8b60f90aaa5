/- NamesDistance: true, whatever the input. -/
import Derived.Test.YtiooiacebgojiabDoorAwake
import Derived.Test.YtiooiacebgojiabDoorMeasure
import Derived.Test.YtiooiacebgojiabDoorSnoc
import Derived.Test.YtiooiacebgojiabDoorRefRunes
import Derived.Laws.Runes
namespace Go.Proofs.YtiooiacebgojiabDoor
open Go.RowKit

theorem farN_symm (a b : ByteArray) : farN b a = farN a b := dF_symm _ _ _ _ _ (Nat.le_refl _)
theorem farN_lo (a b : ByteArray) : 0 ≤ farN a b := dF_lo _ _ _ _ _ (Nat.le_refl _)
theorem farN_max (a b : ByteArray) : farN a b ≤ max ((places a 0).length : Int) (places b 0).length := by
  have h := dF_max (fun i => (codes a).getD i 0) (fun i => (codes b).getD i 0) _ (codes a).length (codes b).length (Nat.le_refl _)
  rw [show (places a 0).length = (codes a).length by simp [codes], show (places b 0).length = (codes b).length by simp [codes]]
  exact h
theorem farN_diff (a b : ByteArray) : ((places a 0).length : Int) - (places b 0).length ≤ farN a b ∧ ((places b 0).length : Int) - (places a 0).length ≤ farN a b := by
  have h := dF_diff (fun i => (codes a).getD i 0) (fun i => (codes b).getD i 0) _ (codes a).length (codes b).length (Nat.le_refl _)
  rw [show (places a 0).length = (codes a).length by simp [codes], show (places b 0).length = (codes b).length by simp [codes]]
  exact h
theorem farN_zero (a b : ByteArray) : farN a b = 0 ↔ a = b := by
  constructor
  · intro h
    obtain ⟨hl, hk⟩ := dF_zero _ _ _ _ _ (Nat.le_refl _) h
    apply codes_inj
    refine List.ext_getElem hl fun i h1 h2 => ?_
    have := hk i h1
    simpa [List.getD_eq_getElem?_getD, h1, h2] using this
  · rintro rfl
    exact dF_same _ _ _ (fun _ _ => rfl)
theorem farN_push (a b : ByteArray) (c : UInt8) (hc : c.toNat < 128) : farN a (b.push c) ≤ farN a b + 1 ∧ farN a b ≤ farN a (b.push c) + 1 := by
  unfold farN
  rw [codes_push b c hc]
  have e : dF (fun i => (codes a).getD i 0) (fun i => (codes b).getD i 0) (codes a).length (codes b).length = dF (fun i => (codes a).getD i 0) (fun i => (codes b ++ [((c.toNat : Nat) : Int)]).getD i 0) (codes a).length (codes b).length := by
    refine dF_congr _ _ _ _ _ _ (Nat.le_refl _) fun x hx => ?_
    simp [List.getD_eq_getElem?_getD, List.getElem?_append_left hx]
  rw [e, List.length_append]
  exact ⟨dF_more _ _ _ _, dF_less _ _ _ _⟩
theorem farN_le (a b : ByteArray) (ha : a.size ≤ 41) (hb : b.size ≤ 41) : farN a b ≤ 41 := by
  have h := farN_max a b
  have h1 := places_len a 0
  have h2 := places_len b 0
  omega

theorem enc_letter (R : Nat) (h0 : 97 ≤ R) (h1 : R ≤ 122) : Utf8.encode (R : Int) = ⟨#[UInt8.ofNat R]⟩ := by
  obtain ⟨k, rfl⟩ : ∃ k, R = 97 + k := ⟨R - 97, by omega⟩
  have hk : k < 26 := by omega
  clear h0 h1
  revert k
  decide +kernel
theorem cat_letter (b : ByteArray) (R : Nat) (h0 : 97 ≤ R) (h1 : R ≤ 122) : b ++ Utf8.encode (R : Int) = b.push (UInt8.ofNat R) := by
  rw [enc_letter R h0 h1]
  apply ByteArray.ext
  simp [ByteArray.push]
theorem letterR (r : Int) : ∃ R : Nat, wrap32 (97 + (wrap32 (r.tmod 26 + 26)).tmod 26) = (R : Int) ∧ 97 ≤ R ∧ R ≤ 122 := by
  have a1 : r.tmod 26 < 26 := Int.tmod_lt_of_pos r (by decide)
  have a2 : -26 < r.tmod 26 := Int.lt_tmod_of_pos r (by decide)
  generalize r.tmod 26 = z at a1 a2 ⊢
  rw [w32_in (z + 26) (by omega) (by omega), Int.tmod_eq_emod_of_nonneg (by omega), w32_in _ (by omega) (by omega)]
  exact ⟨(97 + (z + 26) % 26).toNat, by omega, by omega, by omega⟩
set_option maxRecDepth 100000 in
set_option maxHeartbeats 1000000 in
theorem dist_big (a b : ByteArray) (r : Int) (w : World) (hT : Lib.Utf8Tabs 0 1 w) (hbig : 40 < a.size ∨ 40 < b.size) :
    Calls Tryd.prog 6 #[.string a, .string b, .int .i32 r] w fun e w' => e = .returned (.bool true) ∧ Below w.heap.size w w' := by
  have HT := hide hT
  have F1 := hide (fun w h => far_any a b w h)
  have F2 := hide (fun w h => far_any b a w h)
  rw [show farV a b = .tuple #[.int .i64 0, .int .i64 4] from if_pos hbig] at F1
  rw [show farV b a = .tuple #[.int .i64 0, .int .i64 4] from if_pos hbig.symm] at F2
  have HA := hide awake_any
  clear hT
  go_enter Tryd.func6, Tryd.ntmps6
  go_upto_region 2 with (go_at_call 17; refine (unhide F1 w (unhide HT)).mono ?_; rintro e w1 ⟨rfl, hb1⟩; have HB1 := hide hb1; have HT1 := hide (tabs_later (unhide HT) hb1); clear F1 hb1)
  go_upto_region 3 with (go_at_call 17; refine (unhide F2 w1 (unhide HT1)).mono ?_; rintro e w2 ⟨rfl, hb2⟩; have HB2 := hide ((unhide HB1).trans (hb2.mono (unhide HB1).size)); have HT2 := hide (tabs_later (unhide HT1) hb2); clear F2 hb2)
  by_cases h1 : 40 < a.size
  · go_wp2_with (go_at_call 10; refine (unhide HA w2 (unhide HT2)).mono ?_; rintro e w3 ⟨rfl, hb3⟩)
    go_ret
    exact ⟨rfl, (unhide HB2).trans (hb3.mono (unhide HB2).size)⟩
  · have h2 : 40 < b.size := by omega
    have d1 : decide ((40 : Int) < (a.size : Int)) = false := by rw [decide_eq_false_iff_not]; omega
    have d2 : decide ((40 : Int) < (b.size : Int)) = true := by rw [decide_eq_true_iff]; omega
    clear hbig
    go_wp2_with (go_at_call 10; refine (unhide HA w2 (unhide HT2)).mono ?_; rintro e w3 ⟨rfl, hb3⟩)
    go_ret
    exact ⟨rfl, (unhide HB2).trans (hb3.mono (unhide HB2).size)⟩

set_option maxRecDepth 100000 in
set_option maxHeartbeats 1000000 in
theorem dist_small (a b : ByteArray) (r : Int) (hr0 : -2147483648 ≤ r) (hr1 : r ≤ 2147483647) (w : World) (hT : Lib.Utf8Tabs 0 1 w) (ha : a.size ≤ 40) (hb : b.size ≤ 40) :
    Calls Tryd.prog 6 #[.string a, .string b, .int .i32 r] w fun e w' => e = .returned (.bool true) ∧ Below w.heap.size w w' := by
  have HT := hide hT
  obtain ⟨N, hN⟩ : ∃ N, N = farN a b := ⟨_, rfl⟩
  have F1 := hide (fun w h => far_any a b w h)
  have F2 := hide (fun w h => far_any b a w h)
  rw [show farV a b = .tuple #[.int .i64 N, .int .i64 0] by unfold farV; rw [if_neg (by omega), hN]] at F1
  rw [show farV b a = .tuple #[.int .i64 N, .int .i64 0] by unfold farV; rw [if_neg (by omega), farN_symm, hN]] at F2
  have R1 := hide (fun w h => refRunes_any a w (by omega) h)
  have R2 := hide (fun w h => refRunes_any b w (by omega) h)
  have hx := places_len a 0
  have hy := places_len b 0
  have hmx := farN_max a b
  have hdf := farN_diff a b
  have hz := farN_zero a b
  have hlo := farN_lo a b
  have HP : Hid (∀ c : UInt8, c.toNat < 128 → farN a (b.push c) ≤ N + 1 ∧ N ≤ farN a (b.push c) + 1) := fun c hc => by rw [hN]; exact farN_push a b c hc
  rw [← hN] at hmx hdf hz hlo
  obtain ⟨X, hX⟩ : ∃ X, X = (places a 0).length := ⟨_, rfl⟩
  obtain ⟨Y, hY⟩ : ∃ Y, Y = (places b 0).length := ⟨_, rfl⟩
  rw [← hX] at hmx hdf hx R1
  rw [← hY] at hmx hdf hy R2
  have HA := hide awake_any
  have HF3 := hide (fun c w h => far_any a (b.push c) w h)
  have HZ := hide hz
  have HN := hide hN
  clear hT hN hX hY hz
  go_enter Tryd.func6, Tryd.ntmps6
  go_upto_region 2 with (go_at_call 17; refine (unhide F1 w (unhide HT)).mono ?_; rintro e w1 ⟨rfl, hb1⟩; have HB1 := hide hb1; have HT1 := hide (tabs_later (unhide HT) hb1); clear F1 hb1)
  go_upto_region 3 with (go_at_call 17; refine (unhide F2 w1 (unhide HT1)).mono ?_; rintro e w2 ⟨rfl, hb2⟩; have HB2 := hide ((unhide HB1).trans (hb2.mono (unhide HB1).size)); have HT2 := hide (tabs_later (unhide HT1) hb2); clear F2 hb2)
  go_upto_region 7 with fail
  go_upto_region 8 with (first
    | (go_at_call_of 18 (Value.string a); refine (unhide R1 w2 (unhide HT2)).mono ?_; rintro e w3 ⟨v3, rfl, hr3, hb3⟩; obtain ⟨p3, c3, rfl⟩ : ∃ p c, v3 = .slice p X c := (by rcases hr3.2 with ⟨h, h0⟩ | ⟨g, cap, cur, h, _⟩; exact ⟨none, 0, by rw [h, h0]⟩; exact ⟨_, _, h⟩); have HB3 := hide ((unhide HB2).trans (hb3.mono (unhide HB2).size)); have HT3 := hide (tabs_later (unhide HT2) hb3); clear R1 hb3 hr3)
    | (go_at_call_of 18 (Value.string b); refine (unhide R2 w3 (unhide HT3)).mono ?_; rintro e w4 ⟨v4, rfl, hr4, hb4⟩; obtain ⟨p4, c4, rfl⟩ : ∃ p c, v4 = .slice p Y c := (by rcases hr4.2 with ⟨h, h0⟩ | ⟨g, cap, cur, h, _⟩; exact ⟨none, 0, by rw [h, h0]⟩; exact ⟨_, _, h⟩); have HB4 := hide ((unhide HB3).trans (hb4.mono (unhide HB3).size)); have HT4 := hide (tabs_later (unhide HT3) hb4); clear R2 hb4 hr4))
  have g1 : decide (max (X : Int) Y < N) = false := by rw [decide_eq_false_iff_not]; omega
  have g2 : decide (N < (X : Int) - Y) = false := by rw [decide_eq_false_iff_not]; omega
  have g3 : decide (N < (Y : Int) - X) = false := by rw [decide_eq_false_iff_not]; omega
  go_cut [79] from 53 (fun s79 wx => s79 = .bool false ∧ wx = w4)
  case first =>
    by_cases hab : a = b
    · have hn0 : N = 0 := (unhide HZ).2 hab
      have q1 : (N == 0) = true := by rw [hn0]; rfl
      have q2 : (a.toList == b.toList) = true := by rw [hab]; simp
      clear hab hn0
      go_wp2_with fail
      go_meet
      exact ⟨rfl, rfl⟩
    · have hn0 : (N == 0) = false := by rw [beq_eq_false_iff_ne]; exact fun h => hab ((unhide HZ).1 h)
      have q2 : (a.toList == b.toList) = false := by
        rw [beq_eq_false_iff_ne]
        intro h
        rw [ByteArray.toList_eq, ByteArray.toList_eq] at h
        have e2 : a.data = b.data := Array.toList_inj.1 h
        exact hab (by cases a; cases b; simpa using e2)
      go_wp2_with fail
      go_meet
      exact ⟨rfl, rfl⟩
  case rest =>
    obtain ⟨rfl, rfl⟩ := hcut
    go_upto_region 10 with fail
    go_cut [2, 85] from 53 (fun s2 s85 wx => s2 = .int .i32 r ∧ s85 = .bool (decide (r < 97) || decide (122 < r)) ∧ wx = wc)
    case first =>
      cases d1 : decide (r < 97)
      all_goals go_wp2_with fail
      all_goals go_meet
      all_goals exact ⟨rfl, by rw [d1]; rfl, rfl⟩
    case rest =>
      obtain ⟨rfl, rfl, rfl⟩ := hcut
      go_upto_if 85 with fail
      go_cut [2] from 53 (fun s2 wx => (∃ R : Nat, s2 = .int .i32 (R : Int) ∧ 97 ≤ R ∧ R ≤ 122) ∧ wx = wc)
      case first =>
        cases d1 : (decide (r < 97) || decide (122 < r))
        · have hr : 97 ≤ r ∧ r ≤ 122 := by simp at d1; omega
          go_wp2_with fail
          go_meet
          exact ⟨⟨r.toNat, by rw [Int.toNat_of_nonneg (by omega)], by omega, by omega⟩, rfl⟩
        · go_wp2_with fail
          go_meet
          obtain ⟨R, hR, h0, h1⟩ := letterR r
          exact ⟨⟨R, by rw [← hR], h0, h1⟩, rfl⟩
      case rest =>
        obtain ⟨⟨R, rfl, hR0, hR1⟩, rfl⟩ := hcut
        have HCAT : Hid (b ++ Utf8.encode (R : Int) = b.push (UInt8.ofNat R)) := cat_letter b R hR0 hR1
        have hE1 : (Utf8.encode (R : Int)).size = 1 := by rw [enc_letter R hR0 hR1]; rfl
        generalize (R : Int) = RI at HCAT hE1 ⊢
        have hc128 : (UInt8.ofNat R).toNat < 128 := by
          rw [UInt8.toNat_ofNat']; omega
        obtain ⟨M, hM⟩ : ∃ M, M = farN a (b.push (UInt8.ofNat R)) := ⟨_, rfl⟩
        have hp := unhide HP _ hc128
        have hlo2 := farN_lo a (b.push (UInt8.ofNat R))
        have F3 := hide (unhide HF3 (UInt8.ofNat R) wc (unhide HT4))
        rw [← unhide HCAT] at F3
        have hsz : (b.push (UInt8.ofNat R)).size = b.size + 1 := push_size _ _
        rw [← hM] at hp hlo2
        by_cases h40 : b.size = 40
        · have hv : farV a (b.push (UInt8.ofNat R)) = .tuple #[.int .i64 0, .int .i64 4] := if_pos (.inr (by omega))
          rw [unhide HCAT] at F3
          rw [hv, ← unhide HCAT] at F3
          have e40 : ((b.size : Int) == 40) = true := by rw [beq_iff_eq]; omega
          clear hv hsz hM hp hlo2 hc128 HCAT HP HF3
          go_upto_region 13 with (go_at_call 17; refine (unhide F3).mono ?_; rintro e w5 ⟨rfl, hb5⟩; have HB5 := hide ((unhide HB4).trans (hb5.mono (unhide HB4).size)); have HT5 := hide (tabs_later (unhide HT4) hb5); clear F3 hb5)
          go_wp2_with (go_at_call 10; refine (unhide HA w5 (unhide HT5)).mono ?_; rintro e w6 ⟨rfl, hb6⟩)
          go_ret
          exact ⟨rfl, (unhide HB5).trans (hb6.mono (unhide HB5).size)⟩
        · have hv : farV a (b.push (UInt8.ofNat R)) = .tuple #[.int .i64 M, .int .i64 0] := by unfold farV; rw [if_neg (by omega), hM]
          rw [unhide HCAT] at F3
          rw [hv, ← unhide HCAT] at F3
          have hNb : N ≤ 40 := by omega
          have f1 : decide (M - N ≤ 1) = true := by rw [decide_eq_true_iff]; omega
          have f2 : decide (N - M ≤ 1) = true := by rw [decide_eq_true_iff]; omega
          clear hv hsz hM hc128 HCAT HP HF3
          go_upto_region 13 with (go_at_call 17; refine (unhide F3).mono ?_; rintro e w5 ⟨rfl, hb5⟩; have HB5 := hide ((unhide HB4).trans (hb5.mono (unhide HB4).size)); have HT5 := hide (tabs_later (unhide HT4) hb5); clear F3 hb5)
          go_wp2_with (go_at_call 10; refine (unhide HA w5 (unhide HT5)).mono ?_; rintro e w6 ⟨rfl, hb6⟩)
          go_ret
          exact ⟨rfl, (unhide HB5).trans (hb6.mono (unhide HB5).size)⟩
theorem dist_any (a b : ByteArray) (r : Int) (hr0 : -2147483648 ≤ r) (hr1 : r ≤ 2147483647) (w : World) (hT : Lib.Utf8Tabs 0 1 w) :
    Calls Tryd.prog 6 #[.string a, .string b, .int .i32 r] w fun e w' => e = .returned (.bool true) ∧ Below w.heap.size w w' := by
  by_cases h : 40 < a.size ∨ 40 < b.size
  · exact dist_big a b r w hT h
  · exact dist_small a b r hr0 hr1 w hT (by omega) (by omega)
end Go.Proofs.YtiooiacebgojiabDoor

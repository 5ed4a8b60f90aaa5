/- FloDots (4): true, whatever the two rows of floats. -/
import Derived.Test.YtmlkbimdpdmajaaGreatDoorKeptL
namespace Go.Proofs.YtmlkbimdpdmajaaGreatDoor
open Go.RowKit
attribute [local go_sem] run_add run_mul
def dotN (x y : List Nat) : Nat := (x.zip y).foldl (fun s p => opN .add s (opN .mul (nm p.1) (nm p.2))) 0
def dotV (x y : List Nat) : Nat := if x.length ≠ y.length then 0 else if 65536 < x.length then 0 else dotN x y
def dotE (x y : List Nat) : Int := if x.length ≠ y.length then 1 else if 65536 < x.length then 4 else 0
theorem dotN_take (x y : List Nat) (k : Nat) (hx : k < x.length) (hy : k < y.length) : dotN (x.take (k + 1)) (y.take (k + 1)) = opN .add (dotN (x.take k) (y.take k)) (opN .mul (nm x[k]) (nm y[k])) := by
  unfold dotN
  rw [List.take_succ_eq_append_getElem hx, List.take_succ_eq_append_getElem hy, List.zip_append (by rw [List.length_take, List.length_take]; omega), List.foldl_append]
  rfl
set_option maxRecDepth 100000 in
set_option maxHeartbeats 1000000 in
theorem dot_any (va vb : Value) (x y : List Nat) (w : World) (hx : RowF w va x) (hy : RowF w vb y) : Calls Tryz.prog 15 #[va, vb] w fun e w' => ∃ r : Nat, e = .returned (.tuple #[.float .f64 r, .int .i64 (dotE x y)]) ∧ nm r = dotV x y ∧ Below w.heap.size w w' := by
  obtain ⟨a, ca, rfl, hca, hma, _, hra⟩ := hx
  obtain ⟨b, cb, rfl, hcb, hmb, _, hrb⟩ := hy
  have HRA := hide hra
  have HRB := hide hrb
  clear hra hrb
  by_cases h1 : x.length = y.length
  · by_cases h2 : 65536 < x.length
    · have HE : Hid (dotE x y = 4 ∧ dotV x y = 0) := by
        show _ ∧ _
        unfold dotE dotV
        rw [if_neg (by omega), if_pos h2, if_neg (by omega), if_pos h2]
        exact ⟨rfl, rfl⟩
      rw [(unhide HE).1]
      rw [← h1] at hcb ⊢
      have h2I : (65536 : Int) < (x.length : Int) := by omega
      clear HRA HRB h2 h1
      generalize x.length = n at *
      go_enter Tryz.func15, Tryz.ntmps15
      go_wp2_with fail
      exact bodyPost_ret (v := .tuple #[.float .f64 0, .int .i64 4]) (by simp [results, Tryz.results15, go_sem]) rfl ⟨0, rfl, by rw [(unhide HE).2]; exact nm_zero, Below.refl _ _⟩
    · have HE : Hid (dotE x y = 0 ∧ dotV x y = dotN x y) := by
        show _ ∧ _
        unfold dotE dotV
        rw [if_neg (by omega), if_neg h2, if_neg (by omega), if_neg h2]
        exact ⟨rfl, rfl⟩
      rw [(unhide HE).1]
      rw [← h1] at hcb ⊢
      obtain ⟨n, hn⟩ : ∃ n, n = x.length := ⟨_, rfl⟩
      have HN : Hid (n = x.length ∧ n = y.length) := ⟨hn, hn.trans h1⟩
      rw [← hn] at hca hcb h2 ⊢
      have h2I : ¬ (65536 : Int) < (n : Int) := by omega
      clear h1 hn h2
      go_enter Tryz.func15, Tryz.ntmps15
      go_wp2_with fail
      go_loopw [6, 7, 8, 19] (fun s6 _ _ s19 wr => ∃ k r : Nat, k ≤ n ∧ s19 = .int .i64 (k : Int) ∧ s6 = .float .f64 r ∧ Hid (nm r = dotN (x.take k) (y.take k)) ∧ Hid (Below w.heap.size w wr)) (fun _ _ _ s19 _ => n - (intOf s19).toNat)
      case atStart => exact ⟨0, 0, Nat.zero_le _, rfl, rfl, nm_zero, Below.refl _ _⟩
      case round =>
        obtain ⟨k, r, hk, rfl, rfl, HT, HW⟩ := hrel
        by_cases hkn : k < n
        · have hkx : k < x.length := by have := (unhide HN).1; omega
          have hky : k < y.length := by have := (unhide HN).2; omega
          obtain ⟨b1, o1, rfl, hb1, hc1⟩ := unhide HRA k hkx
          obtain ⟨b2, o2, rfl, hb2, hc2⟩ := unhide HRB k hky
          obtain ⟨p, hp⟩ : ∃ p, p = x[k] := ⟨_, rfl⟩
          obtain ⟨q, hq⟩ : ∃ q, q = y[k] := ⟨_, rfl⟩
          have c1 : wr.cell? ⟨b1, o1 + k, none⟩ = some (.float .f64 p) := by rw [(unhide HW).cell (p := ⟨b1, o1 + k, none⟩) hb1, hc1, hp]
          have c2 : wr.cell? ⟨b2, o2 + k, none⟩ = some (.float .f64 q) := by rw [(unhide HW).cell (p := ⟨b2, o2 + k, none⟩) hb2, hc2, hq]
          have hkI : (k : Int) < (n : Int) := by omega
          have HT2 : Hid (∀ W1 W2, nm (vA .add r (vA .mul p q W1) W2) = dotN (x.take (k + 1)) (y.take (k + 1))) := fun W1 W2 => by rw [nm_add, nm_mul, unhide HT, dotN_take x y k hkx hky, hp, hq]
          clear hc1 hc2 hp hq hkx hky HT
          go_wp2_with fail
          go_roundw
          case rel => exact ⟨k + 1, _, by omega, by go_num, rfl, unhide HT2 _ _, below_wA _ _ _ (below_wA _ _ _ (unhide HW))⟩
          case measure => simp [intOf]; omega
        · have hkI : ¬ (k : Int) < (n : Int) := by omega
          have HT2 : Hid (nm r = dotV x y) := by
            have e := unhide HT
            rw [List.take_of_length_le (by have := (unhide HN).1; omega), List.take_of_length_le (by have := (unhide HN).2; omega)] at e
            rw [(unhide HE).2]
            exact e
          clear HT
          go_wp2_with fail
          exact bodyPost_ret (v := .tuple #[.float .f64 r, .int .i64 0]) (by simp [results, Tryz.results15, go_sem]) rfl ⟨r, rfl, unhide HT2, unhide HW⟩
  · have HE : Hid (dotE x y = 1 ∧ dotV x y = 0) := by
      show _ ∧ _
      unfold dotE dotV
      rw [if_pos h1, if_pos h1]
      exact ⟨rfl, rfl⟩
    rw [(unhide HE).1]
    have h1I : ¬ (x.length : Int) = (y.length : Int) := by omega
    clear HRA HRB h1
    generalize x.length = n at *
    generalize y.length = m at *
    go_enter Tryz.func15, Tryz.ntmps15
    go_wp2_with fail
    exact bodyPost_ret (v := .tuple #[.float .f64 0, .int .i64 1]) (by simp [results, Tryz.results15, go_sem]) rfl ⟨0, rfl, by rw [(unhide HE).2]; exact nm_zero, Below.refl _ _⟩
set_option maxRecDepth 100000 in
set_option maxHeartbeats 1000000 in
theorem dotr_any (va vb : Value) (x y : List Nat) (w : World) (hx : RowF w va x) (hy : RowF w vb y) : Calls Tryz.prog 16 #[va, vb] w fun e w' => ∃ r : Nat, e = .returned (.tuple #[.float .f64 r, .int .i64 (dotE x y)]) ∧ nm r = dotV x y ∧ Below w.heap.size w w' := by
  obtain ⟨a, ca, rfl, hca, hma, _, hra⟩ := hx
  obtain ⟨b, cb, rfl, hcb, hmb, _, hrb⟩ := hy
  have HRA := hide hra
  have HRB := hide hrb
  clear hra hrb
  by_cases h1 : x.length = y.length
  · by_cases h2 : 65536 < x.length
    · have HE : Hid (dotE x y = 4 ∧ dotV x y = 0) := by
        show _ ∧ _
        unfold dotE dotV
        rw [if_neg (by omega), if_pos h2, if_neg (by omega), if_pos h2]
        exact ⟨rfl, rfl⟩
      rw [(unhide HE).1]
      rw [← h1] at hcb ⊢
      have h2I : (65536 : Int) < (x.length : Int) := by omega
      clear HRA HRB h2 h1
      generalize x.length = n at *
      go_enter Tryz.func16, Tryz.ntmps16
      go_wp2_with fail
      exact bodyPost_ret (v := .tuple #[.float .f64 0, .int .i64 4]) (by simp [results, Tryz.results16, go_sem]) rfl ⟨0, rfl, by rw [(unhide HE).2]; exact nm_zero, Below.refl _ _⟩
    · have HE : Hid (dotE x y = 0 ∧ dotV x y = dotN x y) := by
        show _ ∧ _
        unfold dotE dotV
        rw [if_neg (by omega), if_neg h2, if_neg (by omega), if_neg h2]
        exact ⟨rfl, rfl⟩
      rw [(unhide HE).1]
      rw [← h1] at hcb ⊢
      obtain ⟨n, hn⟩ : ∃ n, n = x.length := ⟨_, rfl⟩
      have HN : Hid (n = x.length ∧ n = y.length) := ⟨hn, hn.trans h1⟩
      rw [← hn] at hca hcb h2 ⊢
      have h2I : ¬ (65536 : Int) < (n : Int) := by omega
      clear h1 hn h2
      go_enter Tryz.func16, Tryz.ntmps16
      go_wp2_with fail
      go_loopw [6, 7, 8] (fun s6 s7 _ wr => ∃ k r : Nat, k ≤ n ∧ s7 = .int .i64 (k : Int) ∧ s6 = .float .f64 r ∧ Hid (nm r = dotN (x.take k) (y.take k)) ∧ Hid (Below w.heap.size w wr)) (fun _ s7 _ _ => n - (intOf s7).toNat)
      case atStart => exact ⟨0, 0, Nat.zero_le _, rfl, rfl, nm_zero, Below.refl _ _⟩
      case round =>
        obtain ⟨k, r, hk, rfl, rfl, HT, HW⟩ := hrel
        by_cases hkn : k < n
        · have hkx : k < x.length := by have := (unhide HN).1; omega
          have hky : k < y.length := by have := (unhide HN).2; omega
          obtain ⟨b1, o1, rfl, hb1, hc1⟩ := unhide HRA k hkx
          obtain ⟨b2, o2, rfl, hb2, hc2⟩ := unhide HRB k hky
          obtain ⟨p, hp⟩ : ∃ p, p = x[k] := ⟨_, rfl⟩
          obtain ⟨q, hq⟩ : ∃ q, q = y[k] := ⟨_, rfl⟩
          have c1 : wr.cell? ⟨b1, o1 + k, none⟩ = some (.float .f64 p) := by rw [(unhide HW).cell (p := ⟨b1, o1 + k, none⟩) hb1, hc1, hp]
          have c2 : wr.cell? ⟨b2, o2 + k, none⟩ = some (.float .f64 q) := by rw [(unhide HW).cell (p := ⟨b2, o2 + k, none⟩) hb2, hc2, hq]
          have hkI : (k : Int) < (n : Int) := by omega
          have HT2 : Hid (∀ W1 W2, nm (vA .add r (vA .mul p q W1) W2) = dotN (x.take (k + 1)) (y.take (k + 1))) := fun W1 W2 => by rw [nm_add, nm_mul, unhide HT, dotN_take x y k hkx hky, hp, hq]
          clear hc1 hc2 hp hq hkx hky HT
          go_upto_region 9 with fail
          go_region
          all_goals go_wp2
          all_goals (go_roundw; (case rel => exact ⟨k + 1, _, by omega, by go_num, rfl, unhide HT2 _ _, below_wA _ _ _ (below_wA _ _ _ (unhide HW).drew)⟩); (case measure => simp [intOf]; omega))
        · have hkI : ¬ (k : Int) < (n : Int) := by omega
          have HT2 : Hid (nm r = dotV x y) := by
            have e := unhide HT
            rw [List.take_of_length_le (by have := (unhide HN).1; omega), List.take_of_length_le (by have := (unhide HN).2; omega)] at e
            rw [(unhide HE).2]
            exact e
          clear HT
          go_wp2_with fail
          exact bodyPost_ret (v := .tuple #[.float .f64 r, .int .i64 0]) (by simp [results, Tryz.results16, go_sem]) rfl ⟨r, rfl, unhide HT2, unhide HW⟩
  · have HE : Hid (dotE x y = 1 ∧ dotV x y = 0) := by
      show _ ∧ _
      unfold dotE dotV
      rw [if_pos h1, if_pos h1]
      exact ⟨rfl, rfl⟩
    rw [(unhide HE).1]
    have h1I : ¬ (x.length : Int) = (y.length : Int) := by omega
    clear HRA HRB h1
    generalize x.length = n at *
    generalize y.length = m at *
    go_enter Tryz.func16, Tryz.ntmps16
    go_wp2_with fail
    exact bodyPost_ret (v := .tuple #[.float .f64 0, .int .i64 1]) (by simp [results, Tryz.results16, go_sem]) rfl ⟨0, rfl, by rw [(unhide HE).2]; exact nm_zero, Below.refl _ _⟩
end Go.Proofs.YtmlkbimdpdmajaaGreatDoor

namespace Go.Proofs.YtmlkbimdpdmajaaGreatDoor
open Go.RowKit
theorem Lent.mono {w : World} {base base' n : Nat} {v : Value} {l : List Nat} (h : Lent w base v n l) (hb : base' ≤ base) : Lent w base' v n l := by
  obtain ⟨g, cap, rfl, h1, h2, h3, hin, hm⟩ := h
  exact ⟨g, cap, rfl, h1, h2, by omega, hin, hm⟩
theorem RowF.inMem {w : World} {a : Option Addr} {n cap : Nat} {l : List Nat} (h : RowF w (.slice a n cap) l) : InMem w a l := fun i hi => by
  obtain ⟨a', cap', e, _, _, _, hr⟩ := h
  cases e
  obtain ⟨b, o, e, _, hc⟩ := hr i hi
  exact ⟨b, o, e, hc⟩
set_option maxRecDepth 100000 in
set_option maxHeartbeats 2000000 in
theorem law_dots (va vb : Value) (x y : List Nat) (w : World) (hx : RowF w va x) (hy : RowF w vb y) (hlx : x.length ≤ 17592186044415) (hly : y.length ≤ 17592186044415) (htab : Tab w) : Calls Tryz.prog 4 #[va, vb] w fun r w' => r = .returned (.bool true) ∧ Below w.heap.size w w' := by
  obtain ⟨a, ca, rfl, hca, hma, hna, hra⟩ := id hx
  obtain ⟨b, cb, rfl, hcb, hmb, hnb, hrb⟩ := id hy
  have H7 : Hid (∀ W, Below w.heap.size w W → Calls Tryz.prog 7 #[.slice a x.length ca] W fun e w' => ∃ v, e = .returned v ∧ Lent w' W.heap.size v x.length x ∧ Below W.heap.size W w') := fun W hb => lent_any a x.length ca x W rfl hlx hna (hx.later hb).inMem
  have HB0 : Hid (Below w.heap.size w w) := Below.refl _ _
  have H7b : Hid (∀ W, Below w.heap.size w W → Calls Tryz.prog 7 #[.slice b y.length cb] W fun e w' => ∃ v, e = .returned v ∧ Lent w' W.heap.size v y.length y ∧ Below W.heap.size W w') := fun W hb => lent_any b y.length cb y W rfl hly hnb (hy.later hb).inMem
  have H15 : Hid (∀ W g c2 g' c3, Lent W w.heap.size (.slice (some ⟨g, 0, none⟩) x.length c2) x.length x → Lent W w.heap.size (.slice (some ⟨g', 0, none⟩) y.length c3) y.length y → Calls Tryz.prog 15 #[.slice (some ⟨g, 0, none⟩) x.length c2, .slice (some ⟨g', 0, none⟩) y.length c3] W fun e w' => ∃ r : Nat, e = .returned (.tuple #[.float .f64 r, .int .i64 (dotE x y)]) ∧ nm r = dotV x y ∧ Below W.heap.size W w') := fun W g c2 g' c3 h1 h2 => dot_any _ _ x y W (h1.row rfl) (h2.row rfl)
  have H16 : Hid (∀ W, Below w.heap.size w W → Calls Tryz.prog 16 #[.slice a x.length ca, .slice b y.length cb] W fun e w' => ∃ r : Nat, e = .returned (.tuple #[.float .f64 r, .int .i64 (dotE x y)]) ∧ nm r = dotV x y ∧ Below W.heap.size W w') := fun W hb => dotr_any _ _ x y W (hx.later hb) (hy.later hb)
  have H13 : Hid (∀ W g c2, Lent W w.heap.size (.slice (some ⟨g, 0, none⟩) x.length c2) x.length x → Below w.heap.size w W → Calls Tryz.prog 13 #[.slice (some ⟨g, 0, none⟩) x.length c2, .slice a x.length ca] W fun e w' => e = .returned (.bool true) ∧ Below W.heap.size W w') := fun W g c2 hl hb => keptl_any _ w.heap.size a x.length ca x W rfl hlx hl (hx.later hb).inMem
  have H13b : Hid (∀ W g c2, Lent W w.heap.size (.slice (some ⟨g, 0, none⟩) y.length c2) y.length y → Below w.heap.size w W → Calls Tryz.prog 13 #[.slice (some ⟨g, 0, none⟩) y.length c2, .slice b y.length cb] W fun e w' => e = .returned (.bool true) ∧ Below W.heap.size W w') := fun W g c2 hl hb => keptl_any _ w.heap.size b y.length cb y W rfl hly hl (hy.later hb).inMem
  have H14 : Hid (∀ W, Below w.heap.size w W → Calls Tryz.prog 14 #[] W fun r w' => r = .returned (.bool true) ∧ Below W.heap.size W w') := fun W hb => known_ok W (htab.later hb)
  have H8 : Hid (∀ p q W, nm p = nm q → Calls Tryz.prog 8 #[.float .f64 p, .float .f64 q] W fun e w' => e = .returned (.bool true) ∧ w' = W) := fun p q W e => by
    have h := same_any p q W
    rw [same_nm, decide_eq_true e] at h
    exact h
  clear hra hrb hx hy hlx hly htab hna hnb hca hcb
  generalize dotE x y = er at *
  generalize dotV x y = vr at *
  generalize hLx : x.length = n at *
  generalize hLy : y.length = m at *
  clear hLx hLy
  have hee : (er == er) = true := by simp
  go_enter Tryz.func4, Tryz.ntmps4
  go_wp2_with (first
    | (go_at_call 7; (with_reducible refine (unhide H7 _ (unhide HB0)).mono ?_); rintro e w1 ⟨v7, rfl, hl7, hb1⟩; obtain ⟨g, c2, rfl, hh⟩ := id hl7; have HL1 := hide hl7; have HB1 := hide hb1; clear hl7 hb1 hh)
    | (go_at_call 7; (with_reducible refine (unhide H7b _ (unhide HB1)).mono ?_); rintro e w2 ⟨v8, rfl, hl8, hb2⟩; obtain ⟨g', c3, rfl, hh⟩ := id hl8; have HM2 := hide (hl8.mono (unhide HB1).size); have HL2 := hide ((unhide HL1).later hb2); have HB2 := hide ((unhide HB1).trans (hb2.mono (unhide HB1).size)); clear hb2; clear hl8 hh)
    | (go_at_call 15; refine (unhide H15 _ _ _ _ _ (unhide HL2) (unhide HM2)).mono ?_; rintro e w3 ⟨r1, rfl, hn1, hb3⟩; have HN1 := hide hn1; have HL3 := hide ((unhide HL2).later hb3); have HM3 := hide ((unhide HM2).later hb3); have HB3 := hide ((unhide HB2).trans (hb3.mono (unhide HB2).size)); clear hb3; clear hn1)
    | (go_at_call 16; refine (unhide H16 _ (unhide HB3)).mono ?_; rintro e w4 ⟨r2, rfl, hn2, hb4⟩; have HN2 := hide ((unhide HN1).trans hn2.symm); have HL4 := hide ((unhide HL3).later hb4); have HM4 := hide ((unhide HM3).later hb4); have HB4 := hide ((unhide HB3).trans (hb4.mono (unhide HB3).size)); clear hb4; clear hn2)
    | (go_at_call 8; (with_reducible refine (unhide H8 r1 r2 _ (unhide HN2)).mono ?_); rintro e wq ⟨rfl, hw⟩; have hw2 := hw.symm; subst hw2; clear hw)
    | (go_at_call 13; (with_reducible refine (unhide H13 _ _ _ (unhide HL4) (unhide HB4)).mono ?_); rintro e w5 ⟨rfl, hb5⟩; have HM5 := hide ((unhide HM4).later hb5); have HB5 := hide ((unhide HB4).trans (hb5.mono (unhide HB4).size)); clear hb5)
    | (go_at_call 13; (with_reducible refine (unhide H13b _ _ _ (unhide HM5) (unhide HB5)).mono ?_); rintro e w6 ⟨rfl, hb6⟩; have HB6 := hide ((unhide HB5).trans (hb6.mono (unhide HB5).size)); clear hb6)
    | (go_at_call 14; refine (unhide H14 _ (unhide HB6)).mono ?_; rintro e w7 ⟨rfl, hb7⟩; have HB7 := hide ((unhide HB6).trans (hb7.mono (unhide HB6).size)); clear hb7))
  go_ret
  exact ⟨rfl, unhide HB7⟩
end Go.Proofs.YtmlkbimdpdmajaaGreatDoor

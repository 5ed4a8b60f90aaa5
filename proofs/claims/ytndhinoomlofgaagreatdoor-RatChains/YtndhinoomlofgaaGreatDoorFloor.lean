/- Frac.floor. -/
import Derived.Test.YtndhinoomlofgaaGreatDoorChainT
import Derived.Test.YtndhinoomlofgaaGreatDoorOrdA
import Derived.Deep.Cut
import Derived.Deep.LoopGhost
import Derived.Test.YtndhinoomlofgaaGreatDoorPoint
import Derived.Deep.RegionHeld3
namespace Go.Proofs.YtndhinoomlofgaaGreatDoor
open Go.RowKit

set_option maxRecDepth 100000 in
set_option maxHeartbeats 4000000 in
theorem refChain_walk (num den : ByteArray) (b : Bool) (n d F R : Nat) (ts : List Nat) (w : World) (hF : F = floorN b n d) (hR : R = floorR b n d) (hd0 : 0 < d) (bn : n < 10 ^ 600) (bd : d < 10 ^ 600)
    (h18 : ∀ W, Calls Tryz.prog 20 #[.agg #[.string num, .string den]] W fun r w' => r = .returned (.bool true) ∧ Below W.heap.size W w')
    (h64 : ∀ W, Calls Tryz.prog 64 #[.agg #[.string num, .string den]] W fun r w' => r = .returned (.agg #[.bool b, .string (tx n), .string (tx d)]) ∧ Below W.heap.size W w')
    (hts : Cub.EU d R ts) :
    Calls Tryz.prog 58 #[.agg #[.string num, .string den]] w fun e w' => ∃ v, e = .returned (.tuple #[v, .int .i64 0]) ∧ RowS w' v (chT b F ts) ∧ Below w.heap.size w w' := by
  obtain ⟨V, hV⟩ : ∃ V, V = w.alloc (.cells #[.string num, .string den] 23) := ⟨_, rfl⟩
  have HS0 : Hid (T2 V w.heap.size (.string num) (.string den) ∧ Below w.heap.size w V) := by rw [hV]; exact ⟨⟨by simp [go_sem], by simp [go_sem], by simp [go_sem], by simp [go_sem]⟩, alT_below _ _⟩
  have HV := hide hV
  obtain ⟨E, hE⟩ : ∃ E : Nat, E = 600 := ⟨_, rfl⟩
  rw [← hE] at bn bd
  have HB := hide (And.intro bn bd)
  have HDV : Hid (∀ W m n, m < 10 ^ E → n < 10 ^ E → 0 < n → Calls Tryz.prog 121 #[.string (tx m), .string (tx n)] W fun e w' => e = .returned (.tuple #[.string (tx (m / n)), .string (tx (m % n))]) ∧ Below W.heap.size W w') := fun W m n h1 h2 h3 => by
    refine refDivideM E m n W ?_ ?_ h1 h2 h3 <;> omega
  have HPL : Hid (∀ W m n, m < 10 ^ E → n < 10 ^ E → Calls Tryz.prog 122 #[.string (tx m), .string (tx n)] W fun e w' => e = .returned (.string (tx (m + n))) ∧ Below W.heap.size W w') := fun W m n h1 h2 => by
    refine refPlusM E m n W ?_ ?_ h1 h2 <;> omega
  have HMI : Hid (∀ W m n, m < 10 ^ E → n ≤ m → Calls Tryz.prog 123 #[.string (tx m), .string (tx n)] W fun e w' => e = .returned (.string (tx (m - n))) ∧ Below W.heap.size W w') := fun W m n h1 h2 => by
    refine refMinusM E m n W ?_ ?_ h1 (Nat.lt_of_le_of_lt h2 h1) h2 <;> omega
  have HSZ : Hid (∀ m, m < 10 ^ E → (tx m).size ≤ 1000000) := fun m hm => by
    have := (Cub.dec_len_lt m E (by omega)).2 hm
    rw [← list_len]; show (Lib.decDigits m).length ≤ 1000000; omega
  have HSZ1 : Hid (∀ m, m ≤ n → (tx (m + 1)).size ≤ 1000000) := fun m hm => by
    have := (Cub.dec_len_lt (m + 1) (E + 1) (by omega)).2 (by rw [Nat.pow_succ]; omega)
    rw [← list_len]; show (Lib.decDigits (m + 1)).length ≤ 1000000; omega
  have HRD : Hid (R < d) := by rw [hR]; exact floorR_lt _ _ _ hd0
  have HI0 : Hid (Cub.EI d R d R []) := Cub.EI.first (unhide HRD)
  have HFR := hide (And.intro hF hR)
  clear hF hR
  have H18 := hide h18; have H64 := hide h64
  have HTS := hide hts
  have HD0 := hide hd0
  have HE := hide hE
  clear h18 h64 hts hd0 bn bd hE
  go_enter Tryz.func58, Tryz.ntmps58
  go_upto_region 1 with fail
  rw [← unhide HV]
  clear hV HV
  have t0 := (unhide HS0).1.c0; have t1 := (unhide HS0).1.c1
  go_upto_region 3 with (go_at_call 20; go_must (refine (unhide H18 _).mono ?_; rintro e w1 ⟨rfl, hb1⟩; have HS1 : Hid (T2 w1 w.heap.size (.string num) (.string den) ∧ Below w.heap.size w w1) := ⟨(unhide HS0).1.later hb1, (unhide HS0).2.trans (hb1.mono (unhide HS0).2.size)⟩; clear hb1 t0 t1; have t0 := (unhide HS1).1.c0; have t1 := (unhide HS1).1.c1))
  go_upto_region 4 with (go_at_call 64; go_must (refine (unhide H64 _).mono ?_; rintro e w2 ⟨rfl, hb1⟩; have HS2 : Hid (Below w.heap.size w w2) := (unhide HS1).2.trans (hb1.mono (unhide HS1).2.size); clear hb1 t0 t1))
  obtain ⟨V3, hV3⟩ : ∃ V3, V3 = w2.alloc (.cells #[.bool b, .string (tx n), .string (tx d)] 61) := ⟨_, rfl⟩
  have HS3 : Hid (FBox V3 w2.heap.size (.bool b) (.string (tx n)) (.string (tx d)) ∧ Below w.heap.size w V3) := by
    rw [hV3]; exact ⟨⟨by simp [go_sem], by simp [go_sem], by simp [go_sem], by simp [go_sem], by simp [go_sem], by simp [go_sem]⟩, (unhide HS2).trans ((alT_below _ _).mono (unhide HS2).size)⟩
  rw [← hV3]
  clear hV3 HS0 HS1 HS2
  generalize w2.heap.size = gf at *
  have t1 := (unhide HS3).1.c1; have t2 := (unhide HS3).1.c2
  go_quiet (fail)
  have HS4 : Hid (FBox (V3.drewN nq) gf (.bool b) (.string (tx n)) (.string (tx d)) ∧ Below w.heap.size w (V3.drewN nq)) := ⟨(unhide HS3).1.later (below_drewN (Below.refl _ _) _), below_drewN (unhide HS3).2 _⟩
  clear t1 t2 HS3
  generalize V3.drewN nq = V4 at *
  go_upto_region 6 with (go_at_call 121; go_must (refine (unhide HDV _ _ _ (unhide HB).1 (unhide HB).2 (unhide HD0)).mono ?_; rintro e w5 ⟨rfl, hb5⟩; have HS5 : Hid (FBox w5 gf (.bool b) (.string (tx n)) (.string (tx d)) ∧ Below w.heap.size w w5) := ⟨(unhide HS4).1.later hb5, (unhide HS4).2.trans (hb5.mono (unhide HS4).2.size)⟩; clear hb5))
  clear HS4
  have t0 := (unhide HS5).1.c0
  have HW5 : Hid (Below w.heap.size w w5) := (unhide HS5).2
  cases b with
  | false =>
    obtain ⟨hF, hR⟩ := unhide HFR
    have hF' : F = n / d := by rw [hF]; unfold floorN; rw [if_neg (by simp)]
    have hR' : R = n % d := by rw [hR]; unfold floorR; rw [if_neg (by simp)]
    rw [← hF', ← hR']
    clear HFR hF hR hF' hR' HS5 HPL HMI H18 H64
    go_upto_region 12 with fail
    obtain ⟨U, hU⟩ : ∃ U, U = w5.alloc (.cells #[.string (sx false F)] 9) := ⟨_, rfl⟩
    have HO0 : Hid (OwnT U w.heap.size (.slice (some ⟨w5.heap.size, 0, none⟩) 1 1) (strsV (chT false F [])) ∧ Below w.heap.size w U) := by
      rw [hU]; exact ⟨OwnT.one _ _ _ (unhide HW5).size, (unhide HW5).trans ((alT_below _ _).mono (unhide HW5).size)⟩
    have hsx : (tx F : ByteArray) = sx false F := rfl
    rw [hsx, ← hU]
    clear hU hsx
    go_loopg [5, 6, 7, 8, 9] R (fun z s5 s6 s7 s8 s9 wr => ∃ (dd rr : Nat) (pre : List Nat) (v : Value) (q nm : ByteArray), s5 = .string nm ∧ s6 = .string (tx dd) ∧ s7 = .string q ∧ s8 = .string (tx rr) ∧ v = s9 ∧ Hid (z = rr) ∧ Hid (Cub.EI d R dd rr pre) ∧ Hid (OwnT wr w.heap.size v (strsV (chT false F pre)) ∧ Below w.heap.size w wr))
    case atStart => exact ⟨d, R, [], _, _, _, rfl, rfl, rfl, rfl, rfl, rfl, HI0, HO0⟩
    case round =>
      clear HO0 HI0
      obtain ⟨dd, rr, pre, v, q, nm, rfl, rfl, rfl, rfl, rfl, HZ, HI, HO⟩ := hrel
      by_cases hr0 : rr = 0
      · have e48 : ((tx rr).toList == [48]) = true := by rw [tx_eq48, hr0]; rfl
        have HEU : Hid (Cub.EU d R pre) := by have h := unhide HI; rw [hr0] at h; exact h.last
        clear hr0
        go_wp2_with fail
        refine bodyPost_ret (v := .tuple #[v, .int .i64 0]) (by simp [results, Tryz.results58, go_sem]) rfl ⟨v, rfl, ?_, (unhide HO).2⟩
        rw [(unhide HTS).det (unhide HEU)]
        exact (unhide HO).1.rowS
      · have e48 : ((tx rr).toList == [48]) = false := by rw [tx_eq48]; simpa using hr0
        have HDD : Hid (dd < 10 ^ E ∧ rr < 10 ^ E ∧ 0 < rr) := by
          have h1 := (unhide HI).le; have h2 := (unhide HI).lt; have h3 := (unhide HB).2
          exact ⟨Nat.lt_of_le_of_lt h1 h3, Nat.lt_trans h2 (Nat.lt_of_le_of_lt h1 h3), by omega⟩
        have HI2 := hide ((unhide HI).step hr0)
        have HLN : Hid ((strsV (chT false F pre)).length ≤ 1000000) := by
          have h1 := (unhide HI).len (unhide HB).2 (unhide HRD); have h2 := unhide HE
          show _ ≤ _
          rw [strsV_length, chT_len]; omega
        go_wp2_with (first
          | (go_at_call 121; go_must (refine (unhide HDV _ _ _ (unhide HDD).1 (unhide HDD).2.1 (unhide HDD).2.2).mono ?_; rintro e wt ⟨rfl, hbt⟩; have HO2 : Hid (OwnT wt w.heap.size v (strsV (chT false F pre)) ∧ Below w.heap.size w wt) := ⟨(unhide HO).1.later hbt, (unhide HO).2.trans (hbt.mono (unhide HO).2.size)⟩; clear hbt e48))
          | (at_builtin; go_must (refine wpList_appendT rfl _ _ rfl w.heap.size _ (strsV (chT false F pre)) rfl ((unhide HO2).1.later (alT_below _ _)) ⟨wt.heap.size, 0, none⟩ 1 (.string (tx (dd / rr))) rfl (alT_one _ _) rfl (str_no _) (unhide HLN) (by have := (unhide HO2).2.size; simp; omega) rfl ?_; intro v2 wa hap; have HAP := hide hap; clear hap)))
        have HO3 : Hid (OwnT wa w.heap.size v2 (strsV (chT false F (pre ++ [dd / rr]))) ∧ Below w.heap.size w wa) := by
          have ho := (unhide HO2).1.later (alT_below wt (.cells #[.string (tx (dd / rr))] 9))
          have hb := (unhide HO2).2.trans ((alT_below wt (.cells #[.string (tx (dd / rr))] 9)).mono (unhide HO2).2.size)
          refine ⟨?_, (unhide HAP).below ho hb (Nat.le_refl _) hb.size⟩
          rw [chT_snoc, ← strsV_snoc]; exact (unhide HAP).own
        clear HAP HO HO2
        go_roundg (dd % rr)
        case measure => have h1 := unhide HZ; have h2 := Nat.mod_lt dd (unhide HDD).2.2; omega
        case rel => exact ⟨rr, dd % rr, pre ++ [dd / rr], v2, _, _, rfl, rfl, rfl, rfl, rfl, rfl, HI2, HO3⟩
  | true =>
    by_cases hz : n % d = 0
    · obtain ⟨hF, hR⟩ := unhide HFR
      have hF' : F = n / d := by rw [hF]; unfold floorN; rw [if_neg (by simp [hz])]
      have hR' : R = n % d := by rw [hR]; unfold floorR; rw [if_neg (by simp [hz])]
      have e48 : ((tx R).toList == [48]) = true := by rw [tx_eq48, hR', hz]; rfl
      have hsz : (tx F).size ≤ 1000000 := by rw [hF']; exact unhide HSZ _ (Nat.lt_of_le_of_lt (Nat.div_le_self _ _) (unhide HB).1)
      have h45 : (⟨#[45]⟩ : ByteArray).size = 1 := rfl
      rw [← hF', ← hR']
      clear HFR hF hR hF' hR' HS5 HPL HMI H18 H64 hz
      go_upto_region 11 with fail
      clear e48 hsz h45 t0
      go_upto_region 12 with fail
      obtain ⟨U, hU⟩ : ∃ U, U = w5.alloc (.cells #[.string (sx true F)] 9) := ⟨_, rfl⟩
      have HO0 : Hid (OwnT U w.heap.size (.slice (some ⟨w5.heap.size, 0, none⟩) 1 1) (strsV (chT true F [])) ∧ Below w.heap.size w U) := by
        rw [hU]; exact ⟨OwnT.one _ _ _ (unhide HW5).size, (unhide HW5).trans ((alT_below _ _).mono (unhide HW5).size)⟩
      have hsx : (⟨#[45]⟩ ++ tx F : ByteArray) = sx true F := rfl
      rw [hsx, ← hU]
      clear hU hsx
      go_loopg [5, 6, 7, 8, 9] R (fun z s5 s6 s7 s8 s9 wr => ∃ (dd rr : Nat) (pre : List Nat) (v : Value) (q nm : ByteArray), s5 = .string nm ∧ s6 = .string (tx dd) ∧ s7 = .string q ∧ s8 = .string (tx rr) ∧ v = s9 ∧ Hid (z = rr) ∧ Hid (Cub.EI d R dd rr pre) ∧ Hid (OwnT wr w.heap.size v (strsV (chT true F pre)) ∧ Below w.heap.size w wr))
      case atStart => exact ⟨d, R, [], _, _, _, rfl, rfl, rfl, rfl, rfl, rfl, HI0, HO0⟩
      case round =>
        clear HO0 HI0
        obtain ⟨dd, rr, pre, v, q, nm, rfl, rfl, rfl, rfl, rfl, HZ, HI, HO⟩ := hrel
        by_cases hr0 : rr = 0
        · have e48 : ((tx rr).toList == [48]) = true := by rw [tx_eq48, hr0]; rfl
          have HEU : Hid (Cub.EU d R pre) := by have h := unhide HI; rw [hr0] at h; exact h.last
          clear hr0
          go_wp2_with fail
          refine bodyPost_ret (v := .tuple #[v, .int .i64 0]) (by simp [results, Tryz.results58, go_sem]) rfl ⟨v, rfl, ?_, (unhide HO).2⟩
          rw [(unhide HTS).det (unhide HEU)]
          exact (unhide HO).1.rowS
        · have e48 : ((tx rr).toList == [48]) = false := by rw [tx_eq48]; simpa using hr0
          have HDD : Hid (dd < 10 ^ E ∧ rr < 10 ^ E ∧ 0 < rr) := by
            have h1 := (unhide HI).le; have h2 := (unhide HI).lt; have h3 := (unhide HB).2
            exact ⟨Nat.lt_of_le_of_lt h1 h3, Nat.lt_trans h2 (Nat.lt_of_le_of_lt h1 h3), by omega⟩
          have HI2 := hide ((unhide HI).step hr0)
          have HLN : Hid ((strsV (chT true F pre)).length ≤ 1000000) := by
            have h1 := (unhide HI).len (unhide HB).2 (unhide HRD); have h2 := unhide HE
            show _ ≤ _
            rw [strsV_length, chT_len]; omega
          go_wp2_with (first
            | (go_at_call 121; go_must (refine (unhide HDV _ _ _ (unhide HDD).1 (unhide HDD).2.1 (unhide HDD).2.2).mono ?_; rintro e wt ⟨rfl, hbt⟩; have HO2 : Hid (OwnT wt w.heap.size v (strsV (chT true F pre)) ∧ Below w.heap.size w wt) := ⟨(unhide HO).1.later hbt, (unhide HO).2.trans (hbt.mono (unhide HO).2.size)⟩; clear hbt e48))
            | (at_builtin; go_must (refine wpList_appendT rfl _ _ rfl w.heap.size _ (strsV (chT true F pre)) rfl ((unhide HO2).1.later (alT_below _ _)) ⟨wt.heap.size, 0, none⟩ 1 (.string (tx (dd / rr))) rfl (alT_one _ _) rfl (str_no _) (unhide HLN) (by have := (unhide HO2).2.size; simp; omega) rfl ?_; intro v2 wa hap; have HAP := hide hap; clear hap)))
          have HO3 : Hid (OwnT wa w.heap.size v2 (strsV (chT true F (pre ++ [dd / rr]))) ∧ Below w.heap.size w wa) := by
            have ho := (unhide HO2).1.later (alT_below wt (.cells #[.string (tx (dd / rr))] 9))
            have hb := (unhide HO2).2.trans ((alT_below wt (.cells #[.string (tx (dd / rr))] 9)).mono (unhide HO2).2.size)
            refine ⟨?_, (unhide HAP).below ho hb (Nat.le_refl _) hb.size⟩
            rw [chT_snoc, ← strsV_snoc]; exact (unhide HAP).own
          clear HAP HO HO2
          go_roundg (dd % rr)
          case measure => have h1 := unhide HZ; have h2 := Nat.mod_lt dd (unhide HDD).2.2; omega
          case rel => exact ⟨rr, dd % rr, pre ++ [dd / rr], v2, _, _, rfl, rfl, rfl, rfl, rfl, rfl, HI2, HO3⟩
    · obtain ⟨hF, hR⟩ := unhide HFR
      have hF' : F = n / d + 1 := by rw [hF]; unfold floorN; rw [if_pos ⟨rfl, hz⟩]
      have hR' : R = d - n % d := by rw [hR]; unfold floorR; rw [if_pos ⟨rfl, hz⟩]
      have e48 : ((tx (n % d)).toList == [48]) = false := by rw [tx_eq48]; simpa using hz
      have hsz : (tx F).size ≤ 1000000 := by rw [hF']; exact unhide HSZ1 _ (Nat.div_le_self _ _)
      have h45 : (⟨#[45]⟩ : ByteArray).size = 1 := rfl
      have HPQ : Hid (∀ W, Calls Tryz.prog 122 #[.string (tx (n / d)), .string ⟨#[49]⟩] W fun e w' => e = .returned (.string (tx F)) ∧ Below W.heap.size W w') := fun W => by
        rw [hF', show (⟨#[49]⟩ : ByteArray) = tx 1 from by decide +kernel]
        exact unhide HPL W _ _ (Nat.lt_of_le_of_lt (Nat.div_le_self _ _) (unhide HB).1) (Nat.one_lt_pow (by have := unhide HE; omega) (by decide))
      have HMQ : Hid (∀ W, Calls Tryz.prog 123 #[.string (tx d), .string (tx (n % d))] W fun e w' => e = .returned (.string (tx R)) ∧ Below W.heap.size W w') := fun W => by
        rw [hR']; exact unhide HMI W _ _ (unhide HB).2 (Nat.le_of_lt (Nat.mod_lt _ (unhide HD0)))
      clear HFR hF hR hF' hR' HS5 HPL HMI H18 H64 hz
      generalize n / d = Q at *
      generalize n % d = S at *
      go_upto_region 11 with (first
        | (go_at_call 122; go_must (refine (unhide HPQ _).mono ?_; rintro e w6 ⟨rfl, hb6⟩; have HW6 := hide ((unhide HW5).trans (hb6.mono (unhide HW5).size)); clear hb6))
        | (go_at_call 123; go_must (refine (unhide HMQ _).mono ?_; rintro e w7 ⟨rfl, hb7⟩; have HW7 := hide ((unhide HW6).trans (hb7.mono (unhide HW6).size)); clear hb7)))
      clear e48 hsz h45 t0 HPQ HMQ
      go_upto_region 12 with fail
      obtain ⟨U, hU⟩ : ∃ U, U = w7.alloc (.cells #[.string (sx true F)] 9) := ⟨_, rfl⟩
      have HO0 : Hid (OwnT U w.heap.size (.slice (some ⟨w7.heap.size, 0, none⟩) 1 1) (strsV (chT true F [])) ∧ Below w.heap.size w U) := by
        rw [hU]; exact ⟨OwnT.one _ _ _ (unhide HW7).size, (unhide HW7).trans ((alT_below _ _).mono (unhide HW7).size)⟩
      have hsx : (⟨#[45]⟩ ++ tx F : ByteArray) = sx true F := rfl
      rw [hsx, ← hU]
      clear hU hsx
      go_loopg [5, 6, 7, 8, 9] R (fun z s5 s6 s7 s8 s9 wr => ∃ (dd rr : Nat) (pre : List Nat) (v : Value) (q nm : ByteArray), s5 = .string nm ∧ s6 = .string (tx dd) ∧ s7 = .string q ∧ s8 = .string (tx rr) ∧ v = s9 ∧ Hid (z = rr) ∧ Hid (Cub.EI d R dd rr pre) ∧ Hid (OwnT wr w.heap.size v (strsV (chT true F pre)) ∧ Below w.heap.size w wr))
      case atStart => exact ⟨d, R, [], _, _, _, rfl, rfl, rfl, rfl, rfl, rfl, HI0, HO0⟩
      case round =>
        clear HO0 HI0
        obtain ⟨dd, rr, pre, v, q, nm, rfl, rfl, rfl, rfl, rfl, HZ, HI, HO⟩ := hrel
        by_cases hr0 : rr = 0
        · have e48 : ((tx rr).toList == [48]) = true := by rw [tx_eq48, hr0]; rfl
          have HEU : Hid (Cub.EU d R pre) := by have h := unhide HI; rw [hr0] at h; exact h.last
          clear hr0
          go_wp2_with fail
          refine bodyPost_ret (v := .tuple #[v, .int .i64 0]) (by simp [results, Tryz.results58, go_sem]) rfl ⟨v, rfl, ?_, (unhide HO).2⟩
          rw [(unhide HTS).det (unhide HEU)]
          exact (unhide HO).1.rowS
        · have e48 : ((tx rr).toList == [48]) = false := by rw [tx_eq48]; simpa using hr0
          have HDD : Hid (dd < 10 ^ E ∧ rr < 10 ^ E ∧ 0 < rr) := by
            have h1 := (unhide HI).le; have h2 := (unhide HI).lt; have h3 := (unhide HB).2
            exact ⟨Nat.lt_of_le_of_lt h1 h3, Nat.lt_trans h2 (Nat.lt_of_le_of_lt h1 h3), by omega⟩
          have HI2 := hide ((unhide HI).step hr0)
          have HLN : Hid ((strsV (chT true F pre)).length ≤ 1000000) := by
            have h1 := (unhide HI).len (unhide HB).2 (unhide HRD); have h2 := unhide HE
            show _ ≤ _
            rw [strsV_length, chT_len]; omega
          go_wp2_with (first
            | (go_at_call 121; go_must (refine (unhide HDV _ _ _ (unhide HDD).1 (unhide HDD).2.1 (unhide HDD).2.2).mono ?_; rintro e wt ⟨rfl, hbt⟩; have HO2 : Hid (OwnT wt w.heap.size v (strsV (chT true F pre)) ∧ Below w.heap.size w wt) := ⟨(unhide HO).1.later hbt, (unhide HO).2.trans (hbt.mono (unhide HO).2.size)⟩; clear hbt e48))
            | (at_builtin; go_must (refine wpList_appendT rfl _ _ rfl w.heap.size _ (strsV (chT true F pre)) rfl ((unhide HO2).1.later (alT_below _ _)) ⟨wt.heap.size, 0, none⟩ 1 (.string (tx (dd / rr))) rfl (alT_one _ _) rfl (str_no _) (unhide HLN) (by have := (unhide HO2).2.size; simp; omega) rfl ?_; intro v2 wa hap; have HAP := hide hap; clear hap)))
          have HO3 : Hid (OwnT wa w.heap.size v2 (strsV (chT true F (pre ++ [dd / rr]))) ∧ Below w.heap.size w wa) := by
            have ho := (unhide HO2).1.later (alT_below wt (.cells #[.string (tx (dd / rr))] 9))
            have hb := (unhide HO2).2.trans ((alT_below wt (.cells #[.string (tx (dd / rr))] 9)).mono (unhide HO2).2.size)
            refine ⟨?_, (unhide HAP).below ho hb (Nat.le_refl _) hb.size⟩
            rw [chT_snoc, ← strsV_snoc]; exact (unhide HAP).own
          clear HAP HO HO2
          go_roundg (dd % rr)
          case measure => have h1 := unhide HZ; have h2 := Nat.mod_lt dd (unhide HDD).2.2; omega
          case rel => exact ⟨rr, dd % rr, pre ++ [dd / rr], v2, _, _, rfl, rfl, rfl, rfl, rfl, rfl, HI2, HO3⟩

end Go.Proofs.YtndhinoomlofgaaGreatDoor

namespace Go.Proofs.YtndhinoomlofgaaGreatDoor
open Go.RowKit

/-- A Frac and the boxes of two numbers. -/
structure FB (w W : World) (x y z s r : Value) : Prop where
  a : FBox W w.heap.size x y z
  s : Box W (w.heap.size + 1) s
  r : Box W (w.heap.size + 1 + 1) r
  below : Below w.heap.size w W
theorem FB.later {w W V : World} {x y z s r : Value} (h : FB w W x y z s r) (hb : Below W.heap.size W V) : FB w V x y z s r :=
  ⟨h.a.later hb, h.s.later hb, h.r.later hb, h.below.trans (hb.mono h.below.size)⟩
theorem FB.first (w : World) (x y z : Value) : FB w (((w.alloc (.cells #[x, y, z] 74)).alloc (.cells #[.slice none 0 0] 72)).alloc (.cells #[.slice none 0 0] 72)) x y z (.slice none 0 0) (.slice none 0 0) :=
  ⟨⟨by simp [go_sem], by simp [go_sem], by simp [go_sem], by simp [go_sem], by simp [go_sem], by simp [go_sem]⟩, ⟨by simp [go_sem], by simp [go_sem]⟩, ⟨by simp [go_sem], by simp [go_sem]⟩, (((Below.refl _ _).alloc (Nat.le_refl _) _).alloc (by simp) _).alloc (by simp; omega) _⟩
theorem FB.both {w W : World} {x y z s r : Value} (h : FB w W x y z s r) (u v : Value) : FB w ((W.setCell ⟨w.heap.size + 1, 0, none⟩ u).setCell ⟨w.heap.size + 1 + 1, 0, none⟩ v) x y z u v :=
  ⟨(h.a.otherAt (by omega) u).otherAt (by omega) v, (h.s.set u).other (by omega) v, (h.r.other (by omega) u).set v, (h.below.setCell (p := ⟨w.heap.size + 1, 0, none⟩) (by show w.heap.size ≤ w.heap.size + 1; omega) u).setCell (p := ⟨w.heap.size + 1 + 1, 0, none⟩) (by show w.heap.size ≤ w.heap.size + 1 + 1; omega) v⟩
theorem FB.big {w W : World} {x y z v : Value} {a1 a2 : Option Addr} {l1 c1 l2 c2 n : Nat} (h : FB w W x y z (.slice a1 l1 c1) (.slice a2 l2 c2)) (u u' : Value) (hv : IsBig W v n) : IsBig ((W.setCell ⟨w.heap.size + 1, 0, none⟩ u).setCell ⟨w.heap.size + 1 + 1, 0, none⟩ u') v n :=
  (hv.box u h.s.c (not_int _ _ _)).box u' (h.r.other (by omega) u).c (not_int _ _ _)

set_option maxRecDepth 100000 in
set_option maxHeartbeats 4000000 in
theorem floor_any (v : Value) (b : Bool) (n d k : Nat) (w : World) (h : IsFrac w v b n d) (hk : k + 1 ≤ 100000) (hn : n < 1000000000 ^ k) (hd : d < 1000000000 ^ k) (hd0 : 0 < d) :
    Calls Tryz.prog 113 #[v] w fun e w' => ∃ a l c a' l' c', e = .returned (.tuple #[.agg #[.slice a l c], .agg #[.slice a' l' c']]) ∧ IsBig w' (.agg #[.slice a l c]) (floorN b n d) ∧ IsBig w' (.agg #[.slice a' l' c']) (floorR b n d) ∧ Below w.heap.size w w' := by
  obtain ⟨a1, l1, c1, a2, l2, c2, rfl, h1, h2⟩ := h.form
  obtain ⟨V, hV⟩ : ∃ V, V = (((w.alloc (.cells #[.bool b, .slice a1 l1 c1, .slice a2 l2 c2] 74)).alloc (.cells #[.slice none 0 0] 72)).alloc (.cells #[.slice none 0 0] 72)) := ⟨_, rfl⟩
  have HS : Hid (FB w V (.bool b) (.slice a1 l1 c1) (.slice a2 l2 c2) (.slice none 0 0) (.slice none 0 0)) := by rw [hV]; exact FB.first _ _ _ _
  have HV := hide hV
  have HX := hide (h1.later (unhide HS).below)
  have HY := hide (h2.later (unhide HS).below)
  have hq : n / d < 1000000000 ^ k := Nat.lt_of_le_of_lt (Nat.div_le_self _ _) hn
  have hr : n % d ≤ d := Nat.le_of_lt (Nat.mod_lt _ hd0)
  have h1k : 1 < 1000000000 ^ k := by
    rcases Nat.eq_zero_or_pos k with h0 | h0
    · subst h0; simp at hd; omega
    · have : (1000000000 : Nat) ^ 1 ≤ 1000000000 ^ k := Nat.pow_le_pow_right (by decide) h0
      omega
  have HDM : Hid (∀ W x y, IsBig W x n → IsBig W y d → Calls Tryz.prog 120 #[x, y] W fun e w' => ∃ a1 n1 c1 a2 n2 c2, e = .returned (.tuple #[.agg #[.slice a1 n1 c1], .agg #[.slice a2 n2 c2]]) ∧ IsBig w' (.agg #[.slice a1 n1 c1]) (n / d) ∧ IsBig w' (.agg #[.slice a2 n2 c2]) (n % d) ∧ Below W.heap.size W w') := fun W x y h1 h2 => divAns k (by omega) W x y n d h1 h2 hn hd0
  unfold floorN floorR
  generalize n / d = Q at *
  generalize n % d = R at *
  have HBO : Hid (∀ W, Calls Tryz.prog 114 #[.int .u64 1] W fun e w' => ∃ a l c, e = .returned (.agg #[.slice a l c]) ∧ IsBig w' (.agg #[.slice a l c]) 1 ∧ Below W.heap.size W w') := fun W => bigOf_any 1 W (by decide)
  have HA1 : Hid (∀ W x y, IsBig W x Q → IsBig W y 1 → Calls Tryz.prog 142 #[x, y] W fun e w' => ∃ v, e = .returned v ∧ IsBig w' v (Q + 1) ∧ Below W.heap.size W w') := fun W x y h1 h2 => add_any x y Q 1 k W h1 h2 (by omega) hq h1k
  have HSB : Hid (∀ W x y, IsBig W x d → IsBig W y R → Calls Tryz.prog 155 #[x, y] W fun e w' => ∃ v, e = .returned v ∧ IsBig w' v (d - R) ∧ Below W.heap.size W w') := fun W x y h1 h2 => sub_any x y d R k W h1 h2 (by omega) hd hr
  obtain ⟨F, hF⟩ : ∃ F, F = (if b = true ∧ R ≠ 0 then Q + 1 else Q) := ⟨_, rfl⟩
  obtain ⟨G, hG⟩ : ∃ G, G = (if b = true ∧ R ≠ 0 then d - R else R) := ⟨_, rfl⟩
  rw [← hF, ← hG]
  have HFG := hide (And.intro hF hG)
  clear h h1 h2 hk hn hd hd0 hq hr h1k hF hG
  go_enter Tryz.func113, Tryz.ntmps113
  go_upto_region 1 with fail
  rw [← unhide HV]
  clear hV HV
  have t0 := (unhide HS).a.c0; have t1 := (unhide HS).a.c1; have t2 := (unhide HS).a.c2
  go_upto_region 2 with (go_at_call 120; go_must (refine (unhide HDM _ _ _ (unhide HX) (unhide HY)).mono ?_; rintro e w1 ⟨a7, l7, c7, a8, l8, c8, rfl, hq4, hr4, hb4⟩; have HS1 := hide ((unhide HS).later hb4); have HY1 := hide ((unhide HY).later hb4); have HQ1 := hide hq4; have HR1 := hide hr4; clear hq4 hr4 hb4 t0 t1 t2; have k1 := (unhide HS1).s.c; have k2 := (unhide HS1).s.f; have k3 := (unhide HS1).r.c; have k4 := (unhide HS1).r.f))
  obtain ⟨V2, hV2⟩ : ∃ V2, V2 = (w1.setCell ⟨w.heap.size + 1, 0, none⟩ (.slice a7 l7 c7)).setCell ⟨w.heap.size + 1 + 1, 0, none⟩ (.slice a8 l8 c8) := ⟨_, rfl⟩
  have HS2 : Hid (FB w V2 (.bool b) (.slice a1 l1 c1) (.slice a2 l2 c2) (.slice a7 l7 c7) (.slice a8 l8 c8)) := by rw [hV2]; exact (unhide HS1).both _ _
  have HY2 : Hid (IsBig V2 (.agg #[.slice a2 l2 c2]) d) := by rw [hV2]; exact (unhide HS1).big _ _ (unhide HY1)
  have HQ2 : Hid (IsBig V2 (.agg #[.slice a7 l7 c7]) Q) := by rw [hV2]; exact (unhide HS1).big _ _ (unhide HQ1)
  have HR2 : Hid (IsBig V2 (.agg #[.slice a8 l8 c8]) R) := by rw [hV2]; exact (unhide HS1).big _ _ (unhide HR1)
  rw [← hV2]
  clear hV2 HS HS1 HX HY HY1 HQ1 HR1 HDM k1 k2 k3 k4
  obtain ⟨up, hup⟩ : ∃ up : Bool, up = (b && !(R == 0)) := ⟨_, rfl⟩
  have HUP := hide hup
  have HCU : Hid ((b = true ∧ R ≠ 0) ↔ up = true) := by rw [hup]; show _ ↔ _; simp
  clear hup
  go_cut [18] from 12 (fun s18 wx => s18 = .bool up ∧ Hid (Below V2.heap.size V2 wx))
  case first =>
    have t0 := (unhide HS2).a.c0; have k3 := (unhide HS2).r.c
    cases b with
    | false =>
      have E : Hid (up = false) := unhide HUP
      go_wp2_with fail
      go_meet
      exact ⟨by rw [unhide E], Below.refl _ _⟩
    | true =>
      have E : Hid (up = !(R == 0)) := by show _ = _; rw [unhide HUP]; simp
      go_wp2_with (go_at_call 90; go_must (refine (isZero_any _ _ _ (unhide HR2)).mono ?_; rintro e wo ⟨rfl, hbo⟩; have HBO2 := hide hbo; clear hbo t0 k3))
      go_meet
      exact ⟨by rw [unhide E], unhide HBO2⟩
  case rest =>
    obtain ⟨rfl, HBC⟩ := hcut
    have HS3 := hide ((unhide HS2).later (unhide HBC)); have HQ3 := hide ((unhide HQ2).later (unhide HBC)); have HR3 := hide ((unhide HR2).later (unhide HBC)); have HY3 := hide ((unhide HY2).later (unhide HBC))
    clear HS2 HQ2 HR2 HY2 HBC HUP
    cases up with
    | true =>
      have hc := (unhide HCU).2 rfl
      have HFG2 : Hid (Q + 1 = F ∧ d - R = G) := ⟨by rw [(unhide HFG).1, if_pos hc], by rw [(unhide HFG).2, if_pos hc]⟩
      clear hc HCU HFG
      go_upto_region 3 with fail
      have HC : Hid (∀ U, Below wc.heap.size wc U → (U.cell? ⟨w.heap.size + 1, 0, none⟩ = some (.slice a7 l7 c7) ∧ U.cell? ⟨w.heap.size + 1 + 1, 0, none⟩ = some (.slice a8 l8 c8) ∧ U.cell? ⟨w.heap.size, 2, none⟩ = some (.slice a2 l2 c2)) ∧ (U.frozen? ⟨w.heap.size + 1, 0, none⟩ = false ∧ U.frozen? ⟨w.heap.size + 1 + 1, 0, none⟩ = false)) := fun U hb => by
        have s := (unhide HS3).later hb
        exact ⟨⟨s.s.c, s.r.c, s.a.c2⟩, s.s.f, s.r.f⟩
      obtain ⟨⟨u1, u2, u3⟩, _⟩ := unhide HC wc (Below.refl _ _)
      have n1 : w.heap.size + 1 ≠ w.heap.size := by omega
      have n2 : w.heap.size + 1 + 1 ≠ w.heap.size := by omega
      have n3 : w.heap.size + 1 + 1 ≠ w.heap.size + 1 := by omega
      go_region_with ((first
        | (go_at_call 114; go_must (refine (unhide HBO _).mono ?_; rintro e wd ⟨ac, lc, cc, rfl, hvc, hbc⟩; have HVC := hide hvc; have HCC := hide (((Below.refl wc.heap.size wc).drew).trans hbc); clear hvc hbc u1 u2 u3; obtain ⟨⟨u1, u2, u3⟩, _⟩ := unhide HC wd (unhide HCC)))
        | (go_at_call 142; go_must (refine (unhide HA1 _ _ _ ((unhide HQ3).later (unhide HCC)) (unhide HVC)).mono ?_; rintro e we ⟨vd, rfl, hvd, hbd⟩; obtain ⟨ad, ld, cd, rfl⟩ := hvd.shape; have HVD := hide hvd; have HCD := hide ((unhide HCC).trans (hbd.mono (unhide HCC).size)); clear hvd hbd u1 u2 u3; obtain ⟨⟨u1, u2, u3⟩, _⟩ := unhide HC we (unhide HCD)))
        | (go_at_call 155; go_must (refine (unhide HSB _ _ _ ((unhide HY3).later (unhide HCD)) ((unhide HR3).later (unhide HCD))).mono ?_; rintro e wf ⟨ve, rfl, hve, hbe⟩; obtain ⟨ae, le, ce, rfl⟩ := hve.shape; have HVE := hide hve; have HVD2 := hide ((unhide HVD).later hbe); have HCE := hide ((unhide HCD).trans (hbe.mono (unhide HCD).size)); clear hve hbe u1 u2 u3; obtain ⟨⟨u1, u2, u3⟩, f1, f2⟩ := unhide HC wf (unhide HCE)))))
      all_goals
        have hS := (unhide HS3).later (unhide HCE)
        have HE : Hid (FB w ((wf.setCell ⟨w.heap.size + 1, 0, none⟩ (.slice ad ld cd)).setCell ⟨w.heap.size + 1 + 1, 0, none⟩ (.slice ae le ce)) (.bool b) (.slice a1 l1 c1) (.slice a2 l2 c2) (.slice ad ld cd) (.slice ae le ce)) := hS.both _ _
        have HF1 := hide (hS.big (.slice ad ld cd) (.slice ae le ce) (unhide HVD2)); have HF2 := hide (hS.big (.slice ad ld cd) (.slice ae le ce) (unhide HVE))
        clear hS u1 u2 u3 f1 f2
        obtain ⟨V9, hV9⟩ : ∃ V9, V9 = (wf.setCell ⟨w.heap.size + 1, 0, none⟩ (.slice ad ld cd)).setCell ⟨w.heap.size + 1 + 1, 0, none⟩ (.slice ae le ce) := ⟨_, rfl⟩
        rw [← hV9] at HE HF1 HF2 ⊢
        clear hV9
        have s0 := (unhide HE).s.c; have s1 := (unhide HE).r.c
        go_wp2_with fail
        exact bodyPost_ret (v := .tuple #[.agg #[.slice ad ld cd], .agg #[.slice ae le ce]]) (by simp [results, Tryz.results113, go_sem, s0, s1]) rfl ⟨_, _, _, _, _, _, rfl, by rw [← (unhide HFG2).1]; exact unhide HF1, by rw [← (unhide HFG2).2]; exact unhide HF2, (unhide HE).below⟩
    | false =>
      have hc : ¬ (b = true ∧ R ≠ 0) := fun e => absurd ((unhide HCU).1 e) (by decide)
      have HFG2 : Hid (Q = F ∧ R = G) := ⟨by rw [(unhide HFG).1, if_neg hc], by rw [(unhide HFG).2, if_neg hc]⟩
      clear hc HCU HFG
      go_upto_region 4 with fail
      have k1 := (unhide HS3).s.c; have k2 := (unhide HS3).s.f; have k3 := (unhide HS3).r.c; have k4 := (unhide HS3).r.f
      have n3 : ¬ w.heap.size + 1 = w.heap.size + 1 + 1 := by omega
      have n4 : ¬ w.heap.size + 1 + 1 = w.heap.size + 1 := by omega
      go_region
      have hS := ((unhide HS3).both (.slice a7 l7 c7) (.slice a8 l8 c8)).later ((Below.refl _ _).drew)
      have HE := hide hS
      have HF1 := hide (((unhide HS3).big (.slice a7 l7 c7) (.slice a8 l8 c8) (unhide HQ3)).later ((Below.refl _ _).drew)); have HF2 := hide (((unhide HS3).big (.slice a7 l7 c7) (.slice a8 l8 c8) (unhide HR3)).later ((Below.refl _ _).drew))
      clear hS k1 k2 k3 k4
      obtain ⟨V9, hV9⟩ : ∃ V9, V9 = ((wc.setCell ⟨w.heap.size + 1, 0, none⟩ (.slice a7 l7 c7)).setCell ⟨w.heap.size + 1 + 1, 0, none⟩ (.slice a8 l8 c8)).drew := ⟨_, rfl⟩
      rw [← hV9] at HE HF1 HF2 ⊢
      clear hV9
      have s0 := (unhide HE).s.c; have s1 := (unhide HE).r.c
      go_wp2_with fail
      exact bodyPost_ret (v := .tuple #[.agg #[.slice a7 l7 c7], .agg #[.slice a8 l8 c8]]) (by simp [results, Tryz.results113, go_sem, s0, s1]) rfl ⟨_, _, _, _, _, _, rfl, by rw [← (unhide HFG2).1]; exact unhide HF1, by rw [← (unhide HFG2).2]; exact unhide HF2, (unhide HE).below⟩
end Go.Proofs.YtndhinoomlofgaaGreatDoor

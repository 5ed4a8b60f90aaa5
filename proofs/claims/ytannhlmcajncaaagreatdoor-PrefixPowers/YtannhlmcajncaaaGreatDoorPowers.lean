/- PrefixPowers answers true. -/
import Derived.Test.YtannhlmcajncaaaGreatDoorPowMath
namespace Go.Proofs.YtannhlmcajncaaaGreatDoor
open Go.RowKit
theorem find_name (k : Nat) (hk : k < 32) (W : World) (ht : Tab W) : Calls Tryz.prog 10 #[.string (tbl k).nm] W fun r w' => r = .returned (.tuple #[.agg #[.string (tbl k).nm, .string (tbl k).sy, .string (tbl k).fn, .string (tbl k).fd, .bool (tbl k).bi], .bool true]) ∧ Below W.heap.size W w' := by
  have h := find_at (tbl k).nm (name_first k hk).2.2 (k : Int) (name_first k hk).1 W ht
  unfold ansV at h
  rw [if_pos (by omega)] at h
  exact h
theorem find_sym (k : Nat) (hk : k < 32) (W : World) (ht : Tab W) : Calls Tryz.prog 10 #[.string (tbl k).sy] W fun r w' => r = .returned (.tuple #[.agg #[.string (tbl k).nm, .string (tbl k).sy, .string (tbl k).fn, .string (tbl k).fd, .bool (tbl k).bi], .bool true]) ∧ Below W.heap.size W w' := by
  have h := find_at (tbl k).sy (sy_small k hk) (k : Int) (name_first k hk).2.1 W ht
  unfold ansV at h
  rw [if_pos (by omega)] at h
  exact h
theorem Five.f5 {W : World} {g k : Nat} (h : Five W g k) : F5 W g k (.string (tbl k).nm) (.string (tbl k).sy) (.string (tbl k).fn) (.string (tbl k).fd) (.bool (tbl k).bi) := ⟨h.c0, h.c1, h.c2, h.c3, h.c4⟩
theorem T5.new (W : World) (a b c d e : Value) : T5 (W.alloc (.cells #[a, b, c, d, e] 28)) W.heap.size a b c d e := T5.past (Below.refl _ _)
set_option maxRecDepth 100000 in
set_option maxHeartbeats 8000000 in
theorem powers_any (w : World) (htab : Tab w) : Calls Tryz.prog 4 #[] w fun r w' => r = .returned (.bool true) ∧ Below w.heap.size w w' := by
  have HTW := hide htab
  clear htab
  go_enter Tryz.func4, Tryz.ntmps4
  go_wp2_with (first
    | (go_at_call 6; go_must (refine (all_any _ (unhide HTW)).mono ?_; rintro e wa ⟨va, rfl, hoa, hba⟩; obtain ⟨ga, ca, rfl, hga0, hga1, hfa, hza⟩ := own_five hoa; have HBA := hide hba; have HFA := hide hfa; have HGA := hide hga1; clear hba hfa hza hga0 hga1 hoa))
    | (go_at_call 9; go_must (refine (known_any _ ((unhide HTW).later (unhide HBA))).mono ?_; rintro e wb ⟨rfl, hbb⟩; have HBB := hide hbb; clear hbb))
    | fail)
  have HBW : Hid (Below w.heap.size w wb) := (unhide HBA).trans ((unhide HBB).mono (unhide HBA).size)
  have HFB : Hid (∀ k, k < 32 → Five wb ga k) := fun k hk => (unhide HFA k hk).later (unhide HBB) (unhide HGA)
  have HGB : Hid (ga < wb.heap.size) := Nat.lt_of_lt_of_le (unhide HGA) (unhide HBB).size
  have HUP : Hid (∀ W, Below wb.heap.size wb W → Tab W ∧ Below w.heap.size w W ∧ ∀ k, k < 32 → Five W ga k) := fun W h => ⟨(unhide HTW).later ((unhide HBW).trans (h.mono (unhide HBW).size)), (unhide HBW).trans (h.mono (unhide HBW).size), fun k hk => (unhide HFB k hk).later h (unhide HGB)⟩
  clear HBA HFA HGA HBB HFB HBW HTW
  go_loopw [2] (fun s2 wr => ∃ (k : Nat), k ≤ 32 ∧ s2 = .int .i64 (k : Int) ∧ Hid (Below wb.heap.size wb wr)) (fun s2 _ => 32 - (intOf s2).toNat)
  case atStart => exact ⟨0, by omega, rfl, Below.refl _ _⟩
  case round =>
    obtain ⟨k, hk, rfl, HB⟩ := hrel
    have HSZ : Hid (ga < wr.heap.size) := Nat.lt_of_lt_of_le (unhide HGB) (unhide HB).size
    by_cases hk32 : k < 32
    · have hkI : (k : Int) < 32 := by omega
      have hk0 : (0 : Int) ≤ (k : Int) := by omega
      have HF5 := hide ((unhide HUP wr (unhide HB)).2.2 k hk32).f5
      have HN := hide (fun W (h : Below wr.heap.size wr W) => find_name k hk32 W (unhide HUP W ((unhide HB).trans (h.mono (unhide HB).size))).1)
      have HS := hide (fun W (h : Below wr.heap.size wr W) => find_sym k hk32 W (unhide HUP W ((unhide HB).trans (h.mono (unhide HB).size))).1)
      generalize (tbl k).nm = nm at *
      generalize (tbl k).sy = sy at *
      generalize (tbl k).fn = fn at *
      generalize (tbl k).fd = fd at *
      generalize (tbl k).bi = bi at *
      have c0 := (unhide HF5).c0; have c1 := (unhide HF5).c1
      go_upto_region 8 with (go_at_call 10; go_must (refine (unhide HN _ (Below.refl _ _)).mono ?_; rintro e wt ⟨rfl, hbt⟩; have HBT := hide hbt; clear hbt))
      obtain ⟨V, hV⟩ : ∃ V, V = wt.alloc (.cells #[.string nm, .string sy, .string fn, .string fd, .bool bi] 28) := ⟨_, rfl⟩
      have HT1 : Hid (T5 V wt.heap.size (.string nm) (.string sy) (.string fn) (.string fd) (.bool bi)) := by rw [hV]; exact T5.new _ _ _ _ _ _
      have HBV : Hid (Below wr.heap.size wr V) := by rw [hV]; exact (unhide HBT).alloc (unhide HBT).size _
      have HFV := hide ((unhide HF5).later (unhide HBV) (unhide HSZ))
      rw [← hV]
      clear hV c0 c1
      generalize wt.heap.size = g1 at *
      have c1 := (unhide HFV).c1
      go_upto_region 9 with (go_at_call 10; go_must (refine (unhide HS _ (unhide HBV)).mono ?_; rintro e wu ⟨rfl, hbu⟩; have HBU := hide hbu; clear hbu))
      obtain ⟨U, hU⟩ : ∃ U, U = wu.alloc (.cells #[.string nm, .string sy, .string fn, .string fd, .bool bi] 28) := ⟨_, rfl⟩
      have HT2 : Hid (T5 U wu.heap.size (.string nm) (.string sy) (.string fn) (.string fd) (.bool bi)) := by rw [hU]; exact T5.new _ _ _ _ _ _
      have HVU : Hid (Below V.heap.size V U) := by rw [hU]; exact (unhide HBU).alloc (unhide HBU).size _
      have HT1U := hide ((unhide HT1).later (unhide HVU))
      have HBX : Hid (Below wr.heap.size wr U) := (unhide HBV).trans ((unhide HVU).mono (unhide HBV).size)
      have HFU := hide ((unhide HF5).later (unhide HBX) (unhide HSZ))
      rw [← hU]
      clear hU c1
      generalize wu.heap.size = g2 at *
      have a0 := (unhide HT1U).c0; have a1 := (unhide HT1U).c1; have a2 := (unhide HT1U).c2; have a3 := (unhide HT1U).c3; have a4 := (unhide HT1U).c4
      have b0 := (unhide HT2).c0; have b1 := (unhide HT2).c1; have b2 := (unhide HT2).c2; have b3 := (unhide HT2).c3; have b4 := (unhide HT2).c4
      have c0 := (unhide HFU).c0; have c1 := (unhide HFU).c1; have c2 := (unhide HFU).c2; have c3 := (unhide HFU).c3; have c4 := (unhide HFU).c4
      go_region_held3 (fun w' => w'.cell? ⟨g1, 0, none⟩ = some (.string nm) ∧ w'.cell? ⟨g1, 1, none⟩ = some (.string sy) ∧ w'.cell? ⟨g1, 2, none⟩ = some (.string fn) ∧ w'.cell? ⟨g1, 3, none⟩ = some (.string fd) ∧ w'.cell? ⟨g1, 4, none⟩ = some (.bool bi) ∧ w'.cell? ⟨g2, 0, none⟩ = some (.string nm) ∧ w'.cell? ⟨g2, 1, none⟩ = some (.string sy) ∧ w'.cell? ⟨g2, 2, none⟩ = some (.string fn) ∧ w'.cell? ⟨g2, 3, none⟩ = some (.string fd) ∧ w'.cell? ⟨g2, 4, none⟩ = some (.bool bi) ∧ w'.cell? ⟨ga, k * 5, none⟩ = some (.string nm) ∧ w'.cell? ⟨ga, k * 5 + 1, none⟩ = some (.string sy) ∧ w'.cell? ⟨ga, k * 5 + 2, none⟩ = some (.string fn) ∧ w'.cell? ⟨ga, k * 5 + 3, none⟩ = some (.string fd) ∧ w'.cell? ⟨ga, k * 5 + 4, none⟩ = some (.bool bi)) (first | assumption | (simp [go_sem, *]; done)) (fail)
      go_wp2_with fail
      go_roundw
      case rel => exact ⟨k + 1, by omega, by go_num, ((unhide HB).trans ((unhide HBX).mono (unhide HB).size)).drew⟩
      case measure => simp [intOf]; omega
    · have hkI : ¬ (k : Int) < 32 := by omega
      go_wp2_with fail
      obtain ⟨W1, hW1⟩ : ∃ W1, W1 = wr.alloc (.cells #[.string ⟨#[49]⟩, .string ⟨#[49]⟩] 26) := ⟨_, rfl⟩
      have HO7 : Hid (T2 W1 wr.heap.size (.string ⟨#[49]⟩) (.string ⟨#[49]⟩)) := by rw [hW1]; exact T2.past (Below.refl _ _)
      have HB1 : Hid (Below wb.heap.size wb W1) := by rw [hW1]; exact (unhide HB).alloc (unhide HB).size _
      rw [← hW1]
      clear hW1 HB HSZ
      generalize wr.heap.size = g7 at *
      go_loopw [8] (fun s8 wr => ∃ (k : Nat), k ≤ 12 ∧ s8 = .int .i64 (k : Int) ∧ Hid (Below W1.heap.size W1 wr)) (fun s8 _ => 12 - (intOf s8).toNat)
      case atStart => exact ⟨0, by omega, rfl, Below.refl _ _⟩
      case round =>
        obtain ⟨i, hi, rfl, HB⟩ := hrel
        have HBQ : Hid (Below wb.heap.size wb wr) := (unhide HB1).trans ((unhide HB).mono (unhide HB1).size)
        have HSZ : Hid (ga < wr.heap.size) := Nat.lt_of_lt_of_le (unhide HGB) (unhide HBQ).size
        have HOQ := hide ((unhide HO7).later (unhide HB))
        by_cases hi12 : i < 12
        · have hiI : (i : Int) < 12 := by omega
          have hi0 : (0 : Int) ≤ (i : Int) := by omega
          have hi32 : (i : Int) < 32 := by omega
          have hiJ : (12 : Int) + (i : Int) < 32 := by omega
          have hiK : (0 : Int) ≤ (12 : Int) + (i : Int) := by omega
          have hiW : IntKind.i64.wrap ((12 : Int) + (i : Int)) = (12 : Int) + (i : Int) := IntWalk.i64_in _ ⟨by omega, by omega⟩
          have hiN : ((12 : Int) + (i : Int)).toNat = 12 + i := by omega
          have HFA := hide ((unhide HUP wr (unhide HBQ)).2.2 i (by omega)).f5
          have HFC := hide ((unhide HUP wr (unhide HBQ)).2.2 (12 + i) (by omega)).f5
          have HM := hide (fun W (h : Below wr.heap.size wr W) => mul_at i hi12 W (unhide HUP W ((unhide HBQ).trans (h.mono (unhide HBQ).size))).1)
          unfold Ans at HM
          have HQ : Hid (∀ W, Below wr.heap.size wr W → W.cell? ⟨ga, i * 5 + 2, none⟩ = some (.string (tbl i).fn) ∧ W.cell? ⟨ga, i * 5 + 3, none⟩ = some (.string (tbl i).fd) ∧ W.cell? ⟨ga, (12 + i) * 5 + 2, none⟩ = some (.string (tbl (12 + i)).fn) ∧ W.cell? ⟨ga, (12 + i) * 5 + 3, none⟩ = some (.string (tbl (12 + i)).fd)) := fun W h => ⟨((unhide HFA).later h (unhide HSZ)).c2, ((unhide HFA).later h (unhide HSZ)).c3, ((unhide HFC).later h (unhide HSZ)).c2, ((unhide HFC).later h (unhide HSZ)).c3⟩
          clear HFA HFC
          generalize (tbl i).fn = fn at *
          generalize (tbl i).fd = fd at *
          generalize (tbl (12 + i)).fn = fm at *
          generalize (tbl (12 + i)).fd = fe at *
          obtain ⟨c0, c1, c2, c3⟩ := unhide HQ wr (Below.refl _ _)
          have hgl := unhide HSZ
          go_upto_region 15 with fail
          go_region_held3 (fun w' => w'.cell? ⟨ga, i * 5 + 2, none⟩ = some (.string fn) ∧ w'.cell? ⟨ga, i * 5 + 3, none⟩ = some (.string fd) ∧ w'.cell? ⟨ga, (12 + i) * 5 + 2, none⟩ = some (.string fm) ∧ w'.cell? ⟨ga, (12 + i) * 5 + 3, none⟩ = some (.string fe)) (first | assumption | exact unhide HQ _ (Below.refl _ _).drew | exact unhide HQ _ ((Below.refl _ _).alloc (Nat.le_refl _) _).drew | exact unhide HQ _ (unhide HCT) | exact unhide HQ _ ((unhide HCT).alloc (unhide HCT).size _) | exact unhide HQ _ ((unhide HCT).setCell (p := ⟨wr.heap.size, 0, none⟩) (Nat.le_refl _) _) | exact unhide HQ _ (((unhide HCT).setCell (p := ⟨wr.heap.size, 0, none⟩) (Nat.le_refl _) _).setCell (p := ⟨wr.heap.size, 1, none⟩) (Nat.le_refl _) _)) ((first
            | (go_at_call 11; go_must (refine (unhide HM _ (by first | exact (Below.refl _ _).drew | exact ((Below.refl _ _).alloc (Nat.le_refl _) _).drew)).mono ?_; rintro e wt ⟨rfl, hb⟩; have HCT : Hid (Below wr.heap.size wr wt) := (by first | exact (Below.refl wr.heap.size wr).drew.trans (hb.mono (Below.refl wr.heap.size wr).drew.size) | exact bel_alD hb); (first | (have HZT : Hid (T2 wt wr.heap.size (.string ⟨#[]⟩) (.string ⟨#[]⟩)) := (by first | exact T2.past hb | exact T2.pastD hb); have u0 := (unhide HZT).c0; have u1 := (unhide HZT).c1; have uf0 := (unhide HZT).f0; have uf1 := (unhide HZT).f1) | skip); clear hb c0 c1 c2 c3; obtain ⟨c0, c1, c2, c3⟩ := unhide HQ wt (unhide HCT); have hglt := Nat.lt_of_lt_of_le (unhide HSZ) (unhide HCT).size))))
          all_goals
            first
            | (obtain ⟨X, hX⟩ : ∃ X, X = wt.heap.size := ⟨_, rfl⟩
               obtain ⟨U, hU⟩ : ∃ U, U = wt.alloc (.cells #[.string ⟨#[49]⟩, .string ⟨#[49]⟩] 26) := ⟨_, rfl⟩
               have HF : Hid (T2 U X (.string ⟨#[49]⟩) (.string ⟨#[49]⟩) ∧ T2 U g7 (.string ⟨#[49]⟩) (.string ⟨#[49]⟩) ∧ Below W1.heap.size W1 U) := by
                 rw [hU, hX]
                 have hw : Below W1.heap.size W1 wt := (unhide HB).trans ((unhide HCT).mono (unhide HB).size)
                 exact ⟨T2.past (Below.refl _ _), ((unhide HOQ).later (unhide HCT)).later ((Below.refl _ _).alloc (Nat.le_refl _) _), hw.alloc hw.size _⟩
               rw [← hU, ← hX]
               clear hU hX)
            | (obtain ⟨X, hX⟩ : ∃ X, X = wr.heap.size := ⟨_, rfl⟩
               obtain ⟨U, hU⟩ : ∃ U, U = (wt.setCell { block := wr.heap.size, off := 0 } (.string ⟨#[49]⟩)).setCell { block := wr.heap.size, off := 1 } (.string ⟨#[49]⟩) := ⟨_, rfl⟩
               have HF : Hid (T2 U X (.string ⟨#[49]⟩) (.string ⟨#[49]⟩) ∧ T2 U g7 (.string ⟨#[49]⟩) (.string ⟨#[49]⟩) ∧ Below W1.heap.size W1 U) := by
                 rw [hU, hX]
                 have hw : Below W1.heap.size W1 wt := (unhide HB).trans ((unhide HCT).mono (unhide HB).size)
                 have hg : g7 < wr.heap.size := (unhide HOQ).lt
                 exact ⟨(unhide HZT).store _ _, ((unhide HOQ).later (unhide HCT)).otherP wr.heap.size (by omega) _ _, below_store2 hw (unhide HB).size _ _⟩
               rw [← hU, ← hX]
               clear hU hX)
          all_goals
            have x0 := (unhide HF).1.c0; have x1 := (unhide HF).1.c1
            have r0 := (unhide HF).2.1.c0; have r1 := (unhide HF).2.1.c1
            go_wp2_with fail
            go_roundw
            case rel => exact ⟨i + 1, by omega, by go_num, (unhide HF).2.2⟩
            case measure => simp [intOf]; omega
        · have hiI : ¬ (i : Int) < 12 := by omega
          go_wp2_with fail
          go_loopw [11] (fun s11 wr => ∃ (i : Nat), 2 ≤ i ∧ i ≤ 12 ∧ s11 = .int .i64 (i : Int) ∧ Hid (Below wb.heap.size wb wr)) (fun s11 _ => 12 - (intOf s11).toNat)
          case atStart => exact ⟨2, by omega, by omega, rfl, HBQ⟩
          case round =>
            clear HBQ
            obtain ⟨i, hlo, hi, rfl, HBQ⟩ := hrel
            have HSZ : Hid (ga < wr.heap.size) := Nat.lt_of_lt_of_le (unhide HGB) (unhide HBQ).size
            by_cases hi12 : i < 12
            · have hiI : (i : Int) < 12 := by omega
              have hi32 : (i : Int) < 32 := by omega
              have hi0 : (0 : Int) ≤ (i : Int) := by omega
              have hiW : IntKind.i64.wrap ((i : Int) - 1) = (i : Int) - 1 := IntWalk.i64_in _ ⟨by omega, by omega⟩
              have HFI := hide ((unhide HUP wr (unhide HBQ)).2.2 i (by omega)).f5
              have HF2 := hide ((unhide HUP wr (unhide HBQ)).2.2 2 (by omega)).f5
              have HPW : Hid (∀ W, Below wr.heap.size wr W → Calls Tryz.prog 12 #[.agg #[.string (tbl 2).fn, .string (tbl 2).fd], .int .i64 ((i : Int) - 1)] W fun r w' => r = .returned (.tuple #[.agg #[.string (tbl i).fn, .string (tbl i).fd], .int .i64 0]) ∧ Below W.heap.size W w') := fun W h => by
                have hp := pow_ten (i - 2) (by omega) W (unhide HUP W ((unhide HBQ).trans (h.mono (unhide HBQ).size))).1
                rw [show 2 + (i - 2) = i from by omega, show (((i - 2 : Nat) : Int) + 1) = (i : Int) - 1 from by omega] at hp
                exact hp
              skip
              skip
              skip
              have c0 : wr.cell? ⟨ga, 12, none⟩ = some (.string (tbl 2).fn) := (unhide HF2).c2
              have c1 : wr.cell? ⟨ga, 13, none⟩ = some (.string (tbl 2).fd) := (unhide HF2).c3
              clear HF2
              generalize (tbl 2).fn = bn at *
              generalize (tbl 2).fd = bd at *
              generalize (tbl i).nm = nm at *
              generalize (tbl i).sy = sy at *
              generalize (tbl i).fn = fn at *
              generalize (tbl i).fd = fd at *
              generalize (tbl i).bi = bi at *
              go_upto_region 22 with (go_at_call 12; go_must (refine (unhide HPW _ (Below.refl _ _)).mono ?_; rintro e wt ⟨rfl, hbt⟩; have HBT := hide hbt; clear hbt))
              obtain ⟨U, hU⟩ : ∃ U, U = wt.alloc (.cells #[.string fn, .string fd] 26) := ⟨_, rfl⟩
              have HTU : Hid (T2 U wt.heap.size (.string fn) (.string fd)) := by rw [hU]; exact T2.past (Below.refl _ _)
              have HBU : Hid (Below wr.heap.size wr U) := by rw [hU]; exact (unhide HBT).alloc (unhide HBT).size _
              have HFU := hide ((unhide HFI).later (unhide HBU) (unhide HSZ))
              have HBN : Hid (Below wb.heap.size wb U) := (unhide HBQ).trans ((unhide HBU).mono (unhide HBQ).size)
              rw [← hU]
              clear hU c0 c1
              generalize wt.heap.size = g9 at *
              have x0 := (unhide HTU).c0; have x1 := (unhide HTU).c1
              have y2 := (unhide HFU).c2; have y3 := (unhide HFU).c3; have y4 := (unhide HFU).c4
              go_region_held3 (fun w' => w'.cell? ⟨g9, 0, none⟩ = some (.string fn) ∧ w'.cell? ⟨g9, 1, none⟩ = some (.string fd) ∧ w'.cell? ⟨ga, i * 5 + 2, none⟩ = some (.string fn) ∧ w'.cell? ⟨ga, i * 5 + 3, none⟩ = some (.string fd) ∧ w'.cell? ⟨ga, i * 5 + 4, none⟩ = some (.bool bi)) (first | assumption | (simp [go_sem, *]; done)) (fail)
              go_wp2_with fail
              go_roundw
              case rel => exact ⟨i + 1, by omega, by omega, by go_num, (unhide HBN).drew⟩
              case measure => simp [intOf]; omega
            · have hiI : ¬ (i : Int) < 12 := by omega
              go_wp2_with fail
              go_loopw [14] (fun s11 wr => ∃ (i : Nat), 24 ≤ i ∧ i ≤ 32 ∧ s11 = .int .i64 (i : Int) ∧ Hid (Below wb.heap.size wb wr)) (fun s11 _ => 32 - (intOf s11).toNat)
              case atStart => exact ⟨24, by omega, by omega, rfl, HBQ⟩
              case round =>
                clear HBQ
                obtain ⟨i, hlo, hi, rfl, HBQ⟩ := hrel
                have HSZ : Hid (ga < wr.heap.size) := Nat.lt_of_lt_of_le (unhide HGB) (unhide HBQ).size
                by_cases hi12 : i < 32
                · have hiI : (i : Int) < 32 := by omega
                  have hi32 : (i : Int) < 32 := by omega
                  have hi0 : (0 : Int) ≤ (i : Int) := by omega
                  have hiW : IntKind.i64.wrap ((i : Int) - 23) = (i : Int) - 23 := IntWalk.i64_in _ ⟨by omega, by omega⟩
                  have HFI := hide ((unhide HUP wr (unhide HBQ)).2.2 i (by omega)).f5
                  have HF2 := hide ((unhide HUP wr (unhide HBQ)).2.2 24 (by omega)).f5
                  have HPW : Hid (∀ W, Below wr.heap.size wr W → Calls Tryz.prog 12 #[.agg #[.string (tbl 24).fn, .string (tbl 24).fd], .int .i64 ((i : Int) - 23)] W fun r w' => r = .returned (.tuple #[.agg #[.string (tbl i).fn, .string (tbl i).fd], .int .i64 0]) ∧ Below W.heap.size W w') := fun W h => by
                    have hp := pow_two (i - 24) (by omega) W (unhide HUP W ((unhide HBQ).trans (h.mono (unhide HBQ).size))).1
                    rw [show 24 + (i - 24) = i from by omega, show (((i - 24 : Nat) : Int) + 1) = (i : Int) - 23 from by omega] at hp
                    exact hp
                  have hbin : (tbl i).bi = true := (bin_facts i (by omega) (by omega)).2.1
                  rw [hbin] at HFI
                  clear hbin
                  have c0 : wr.cell? ⟨ga, 122, none⟩ = some (.string (tbl 24).fn) := (unhide HF2).c2
                  have c1 : wr.cell? ⟨ga, 123, none⟩ = some (.string (tbl 24).fd) := (unhide HF2).c3
                  clear HF2
                  generalize (tbl 24).fn = bn at *
                  generalize (tbl 24).fd = bd at *
                  generalize (tbl i).nm = nm at *
                  generalize (tbl i).sy = sy at *
                  generalize (tbl i).fn = fn at *
                  generalize (tbl i).fd = fd at *
                  skip
                  go_upto_region 28 with (go_at_call 12; go_must (refine (unhide HPW _ (Below.refl _ _)).mono ?_; rintro e wt ⟨rfl, hbt⟩; have HBT := hide hbt; clear hbt))
                  obtain ⟨U, hU⟩ : ∃ U, U = wt.alloc (.cells #[.string fn, .string fd] 26) := ⟨_, rfl⟩
                  have HTU : Hid (T2 U wt.heap.size (.string fn) (.string fd)) := by rw [hU]; exact T2.past (Below.refl _ _)
                  have HBU : Hid (Below wr.heap.size wr U) := by rw [hU]; exact (unhide HBT).alloc (unhide HBT).size _
                  have HFU := hide ((unhide HFI).later (unhide HBU) (unhide HSZ))
                  have HBN : Hid (Below wb.heap.size wb U) := (unhide HBQ).trans ((unhide HBU).mono (unhide HBQ).size)
                  rw [← hU]
                  clear hU c0 c1
                  generalize wt.heap.size = g9 at *
                  have x0 := (unhide HTU).c0; have x1 := (unhide HTU).c1
                  have y2 := (unhide HFU).c2; have y3 := (unhide HFU).c3; have y4 := (unhide HFU).c4
                  go_region_held3 (fun w' => w'.cell? ⟨g9, 0, none⟩ = some (.string fn) ∧ w'.cell? ⟨g9, 1, none⟩ = some (.string fd) ∧ w'.cell? ⟨ga, i * 5 + 2, none⟩ = some (.string fn) ∧ w'.cell? ⟨ga, i * 5 + 3, none⟩ = some (.string fd) ∧ w'.cell? ⟨ga, i * 5 + 4, none⟩ = some (.bool true)) (first | assumption | (simp [go_sem, *]; done)) (fail)
                  go_wp2_with fail
                  go_roundw
                  case rel => exact ⟨i + 1, by omega, by omega, by go_num, (unhide HBN).drew⟩
                  case measure => simp [intOf]; omega
                · have hiI : ¬ (i : Int) < 32 := by omega
                  go_wp2_with fail
                  go_ret
                  exact ⟨rfl, (unhide HUP wr (unhide HBQ)).2.1⟩
end Go.Proofs.YtannhlmcajncaaaGreatDoor

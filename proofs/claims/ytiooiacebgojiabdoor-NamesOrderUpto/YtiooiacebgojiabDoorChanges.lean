/- names.changes: the table, filled. -/
import Derived.Test.YtiooiacebgojiabDoorChangesPre
import Derived.BigQuiet
import Derived.BigRegion
import Derived.Deep.Cut
import Derived.Deep.CutRange
namespace Go.Proofs.YtiooiacebgojiabDoor
open Go.RowKit

theorem belowN {B : Nat} {a w : World} (h : Below B a w) (n : Nat) : Below B a (w.drewN n) := h.trans ⟨rfl, rfl, rfl, Nat.le_refl _, fun _ _ => rfl⟩
theorem Upto.set {F D : Nat → Nat → Int} {m i j : Nat} (h : Upto F D m i j) (x : Int) (hx : x = D i j) : Upto (setF F i j x) D m i (j + 1) := by
  intro p q hq hh
  unfold setF
  by_cases e : p = i ∧ q = j
  · rw [if_pos e, hx, e.1, e.2]
  · rw [if_neg e]
    exact h p q hq (by omega)
theorem Dist.edge {a b : Nat → Int} {n m : Nat} {D : Nat → Nat → Int} (h : Dist a b n m D) (i j : Nat) (hi : i ≤ n) (hj : j ≤ m) (h0 : i = 0 ∨ j = 0) : ((i + j : Nat) : Int) = D i j := by
  rw [h.step i j hi hj]; unfold stepF; rw [if_pos h0]
set_option maxRecDepth 100000 in
set_option maxHeartbeats 1000000 in
theorem changes_any (va vb : Value) (n m : Nat) (a b : Nat → Int) (D : Nat → Nat → Int) (w : World) (ha : Runes w va n a) (hb : Runes w vb m b) (hD : Dist a b n m D) :
    Calls Tryd.prog 33 #[va, vb] w fun e w' => e = .returned (.int .i64 (D n m)) ∧ Below w.heap.size w w' := by
  obtain ⟨pa, ca, rfl, hn40, HA⟩ := ha
  obtain ⟨pb, cb, rfl, hm40, HBb⟩ := hb
  have HA' := hide HA
  have HB' := hide HBb
  have HD := hide hD
  clear HA HBb hD
  go_enter Tryd.func33, Tryd.ntmps33
  go_upto_region 3 with (first
    | (refine wpList_buildTo rfl 80 _ rfl (some 9) rfl zeros1681 (by kernel_rfl) ?_)
    | (refine wpList_store_row rfl 80 (.tmp 5) (.tmp 9) rfl w.heap.size zeros1681 rfl rfl 80 _ (heap_alloc_new w _) info1681 size1681 all1681 ?_))
  obtain ⟨W1, hW1⟩ : ∃ W1, W1 = (w.alloc (.cells Tryd.zeroCells80 80)).setRow w.heap.size zeros1681 := ⟨_, rfl⟩
  rw [← hW1]
  have HT1 : Hid (OwnTab W1 w.heap.size fun _ _ => 0) := by show OwnTab W1 _ _; rw [hW1]; exact OwnTab.first w
  have HB1 : Hid (Below w.heap.size w W1) := by show Below _ _ W1; rw [hW1]; exact below_setRow ((Below.refl _ _).alloc (Nat.le_refl _) _) (Nat.le_refl _) _
  clear hW1
  generalize hzz : Value.agg zeros1681 = ZZ
  clear hzz
  go_loopw [13] (fun v wr => OutI D n m w v wr) (fun v _ => n + 1 - (intOf v).toNat)
  case atStart =>
    exact outI_mk 0 _ rfl (by omega) HT1 (fun x y _ h => by omega) HB1
  case round =>
    obtain ⟨i, F, rfl, hi, HT, HU, HB⟩ := hrel
    by_cases hlt : i < n + 1
    · by_cases h0 : i = 0
      · subst h0
        go_upto_region 6 with fail
        generalize hd14 : decide (((0 : Nat) : Int) < (n : Int) + 1) = d14
        clear hd14
        go_loopw [19] (fun v wr => InI D 0 m w v wr) (fun v _ => m + 1 - (intOf v).toNat)
        case atStart => exact inI_mk 0 F rfl (by omega) HT HU HB
        case round =>
          clear HT HU HB
          obtain ⟨j, F, rfl, hj, HT, HU, HB⟩ := hrel
          by_cases hlj : j < m + 1
          · have hfr := (unhide HT).frozen
            have hcl := (unhide HT).cell 0 j (by omega) (by omega)
            rw [show 0 * 41 + j = j by omega] at hcl
            have HT2 : Hid (OwnTab (wr.setCell ⟨w.heap.size, j, none⟩ (.int .i64 (j : Int))) w.heap.size (setF F 0 j (j : Int))) := by
              have h := (unhide HT).set 0 j (by omega) (by omega) ((j : Nat) : Int)
              rw [show 0 * 41 + j = j by omega] at h
              exact h
            have HU2 : Hid (Upto (setF F 0 j (j : Int)) D m 0 (j + 1)) := (unhide HU).set _ (by rw [← (unhide HD).edge 0 j (by omega) (by omega) (.inl rfl)]; simp)
            clear HT HU
            go_wp2
            go_roundw
            case rel => exact inI_mk (j + 1) _ (by go_num) (by omega) HT2 HU2 ((unhide HB).setCell (Nat.le_refl _) _)
            case measure => simp [intOf]; omega
          obtain rfl : j = m + 1 := by omega
          have HU2 : Hid (Upto F D m (0 + 1) 0) := fun x y hy h => unhide HU x y hy (by omega)
          go_wp2
          go_roundw
          case rel => exact outI_mk (0 + 1) F (by go_num) (by omega) HT HU2 HB
          case measure => simp [intOf]
      · obtain ⟨i, rfl⟩ : ∃ i', i = i' + 1 := ⟨i - 1, by omega⟩
        clear h0
        go_upto_region 6 with fail
        simp only [Int.natCast_add, Int.natCast_one]
        generalize hd14 : decide (i < n) = d14
        clear hd14
        go_loopw [19] (fun v wr => InI D (i + 1) m w v wr) (fun v _ => m + 1 - (intOf v).toNat)
        case atStart => exact inI_mk 0 F rfl (by omega) HT HU HB
        case round =>
          clear HT HU HB
          obtain ⟨j, F, rfl, hj, HT, HU, HB⟩ := hrel
          by_cases hlj : j < m + 1
          · by_cases hj0 : j = 0
            · subst hj0
              have hfr := (unhide HT).frozen
              have hcl := (unhide HT).cell (i + 1) 0 (by omega) (by omega)
              rw [show (i + 1) * 41 + 0 = (i + 1) * 41 by omega] at hcl
              have i0 : (((i : Int) + 1) == 0) = false := by rw [beq_eq_false_iff_ne]; omega
              have HT2 : Hid (OwnTab (wr.setCell ⟨w.heap.size, (i + 1) * 41, none⟩ (.int .i64 ((i : Int) + 1))) w.heap.size (setF F (i + 1) 0 ((i : Int) + 1))) := (unhide HT).set (i + 1) 0 (by omega) (by omega) ((i : Int) + 1)
              have HU2 : Hid (Upto (setF F (i + 1) 0 ((i : Int) + 1)) D m (i + 1) (0 + 1)) := (unhide HU).set _ (by rw [← (unhide HD).edge (i + 1) 0 (by omega) (by omega) (.inr rfl)]; simp)
              clear HT HU
              go_wp2
              go_roundw
              case rel => exact inI_mk (0 + 1) _ (by go_num) (by omega) HT2 HU2 ((unhide HB).setCell (Nat.le_refl _) _)
              case measure => simp [intOf]
            · obtain ⟨j, rfl⟩ : ∃ j', j = j' + 1 := ⟨j - 1, by omega⟩
              have hfr := (unhide HT).frozen
              have c11 := (unhide HT).cell i j (by omega) (by omega)
              have c01 := (unhide HT).cell i (j + 1) (by omega) (by omega)
              have c10 := (unhide HT).cell (i + 1) j (by omega) (by omega)
              have c00 := (unhide HT).cell (i + 1) (j + 1) (by omega) (by omega)
              obtain ⟨ga, oa, rfl, hga, hca⟩ := unhide HA' (by omega)
              obtain ⟨gb, ob, rfl, hgb, hcb⟩ := unhide HB' (by omega)
              have ka := ((unhide HB).cell (p := ⟨ga, oa + i, none⟩) hga).trans (hca i (by omega))
              have kb := ((unhide HB).cell (p := ⟨gb, ob + j, none⟩) hgb).trans (hcb j (by omega))
              clear hca hcb
              have i0 : (((i : Int) + 1) == 0) = false := by rw [beq_eq_false_iff_ne]; omega
              have j0 : (((j : Int) + 1) == 0) = false := by rw [beq_eq_false_iff_ne]; omega
              have bF : ∀ x y, y ≤ m → (x < i + 1 ∨ (x = i + 1 ∧ y < j + 1)) → 0 ≤ F x y ∧ F x y ≤ 100 := fun x y hy hh => by
                rw [unhide HU x y hy hh]; exact ⟨(unhide HD).lo x y, (unhide HD).hi x y (by omega) (by omega)⟩
              have b11 := bF i j (by omega) (by omega)
              have b01 := bF i (j + 1) (by omega) (by omega)
              have b10 := bF (i + 1) j (by omega) (by omega)
              clear bF
              obtain ⟨O, hO⟩ : ∃ O : Int, O = (if a i = b j then F i j else F i j + 1) := ⟨_, rfl⟩
              have hOb : 0 ≤ O ∧ O ≤ 101 := by rw [hO]; split <;> omega
              have HO := hide hO
              clear hO
              go_upto_region 11 with fail
              go_cut [8, 19, 52] from 20 to 125 (fun s8 s19 s52 wx => s8 = .int .i64 (F i j) ∧ s19 = .int .i64 ((j : Int) + 1) ∧ s52 = .bool (a i != b j) ∧ wx = wr.drew)
              case first =>
                go_region
                all_goals (go_wp2_with fail; go_meet)
                case rel => exact ⟨rfl, rfl, rfl, rfl⟩
              case rest =>
                obtain ⟨rfl, rfl, rfl, rfl⟩ := hcut
                go_upto_if 52 with fail
                go_cut [8, 19] from 20 to 125 (fun s8 s19 wx => s8 = .int .i64 O ∧ s19 = .int .i64 ((j : Int) + 1) ∧ wx = wr.drew)
                case first =>
                  cases hab : (a i != b j)
                  · have hOe : Hid (F i j = O) := by show _ = _; rw [unhide HO, if_pos (by simpa using hab)]
                    go_wp2_with fail
                    go_meet
                    case rel => exact ⟨by rw [unhide hOe], rfl, rfl⟩
                  · have hOe : Hid (F i j + 1 = O) := by show _ = _; rw [unhide HO, if_neg (by simpa using hab)]
                    go_wp2_with fail
                    go_meet
                    case rel => exact ⟨by rw [unhide hOe], rfl, rfl⟩
                case rest =>
                  obtain ⟨rfl, rfl, rfl⟩ := hcut
                  have HR : Hid (∀ x, x = min (min (F i (j + 1) + 1) (F (i + 1) j + 1)) O → Hid (OwnTab (wr.setCell ⟨w.heap.size, (i + 1) * 41 + (j + 1), none⟩ (.int .i64 x)).drew.drew w.heap.size (setF F (i + 1) (j + 1) (min (min (F i (j + 1) + 1) (F (i + 1) j + 1)) O))) ∧ Hid (Below w.heap.size w (wr.setCell ⟨w.heap.size, (i + 1) * 41 + (j + 1), none⟩ (.int .i64 x)).drew.drew)) := fun x hx => by
                    rw [← hx]
                    exact ⟨((unhide HT).set (i + 1) (j + 1) (by omega) (by omega) x).drew.drew, ((unhide HB).setCell (Nat.le_refl _) _).drew.drew⟩
                  go_upto_region 13 with fail
                  go_cut [19] from 20 to 125 (fun s19 wx => s19 = .int .i64 ((j : Int) + 1) ∧ Hid (OwnTab wx w.heap.size (setF F (i + 1) (j + 1) (min (min (F i (j + 1) + 1) (F (i + 1) j + 1)) O))) ∧ Hid (Below w.heap.size w wx))
                  case first =>
                    go_region
                    all_goals (go_wp2_with fail)
                    all_goals (go_meet; exact ⟨rfl, unhide HR _ (by omega)⟩)
                  case rest =>
                    obtain ⟨rfl, HT1, HB1⟩ := hcut
                    obtain ⟨M, hM⟩ : ∃ M : Int, M = min (min (F i (j + 1) + 1) (F (i + 1) j + 1)) O := ⟨_, rfl⟩
                    rw [← hM] at HT1
                    have hMb : 0 ≤ M ∧ M ≤ 101 := by omega
                    have HM := hide hM
                    clear HR HT HB c11 c01 c10 c00 hfr ka kb b11 b01 b10 hOb hM
                    have hfr := (unhide HT1).frozen
                    have c00 := (unhide HT1).cell (i + 1) (j + 1) (by omega) (by omega)
                    have s00 : setF F (i + 1) (j + 1) M (i + 1) (j + 1) = M := if_pos ⟨rfl, rfl⟩
                    rw [s00] at c00
                    have HE : Hid (∀ (k : Nat) (x : Int), x = D (i + 1) (j + 1) → Hid (OwnTab ((wc.drewN k).setCell ⟨w.heap.size, (i + 1) * 41 + (j + 1), none⟩ (.int .i64 x)) w.heap.size (setF (setF F (i + 1) (j + 1) M) (i + 1) (j + 1) x)) ∧ Hid (Upto (setF (setF F (i + 1) (j + 1) M) (i + 1) (j + 1) x) D m (i + 1) (j + 1 + 1)) ∧ Hid (Below w.heap.size w ((wc.drewN k).setCell ⟨w.heap.size, (i + 1) * 41 + (j + 1), none⟩ (.int .i64 x)))) := fun k x hx => by
                      refine ⟨OwnTab.set (w := wc.drewN k) (unhide HT1) (i + 1) (j + 1) (by omega) (by omega) x, ?_, (belowN (unhide HB1) k).setCell (Nat.le_refl _) _⟩
                      intro p q hq hh
                      unfold setF
                      by_cases e : p = i + 1 ∧ q = j + 1
                      · rw [if_pos e, hx, e.1, e.2]
                      · rw [if_neg e, if_neg e]
                        exact unhide HU p q hq (by omega)
                    have HK : Hid (M = D (i + 1) (j + 1) → Upto (setF F (i + 1) (j + 1) M) D m (i + 1) (j + 1 + 1)) := fun hx => (unhide HU).set _ hx
                    have HQ : Hid (D (i + 1) (j + 1) = if 1 < i + 1 ∧ 1 < j + 1 ∧ a i = b (j - 1) ∧ a (i - 1) = b j then min M (F (i - 1) (j - 1) + 1) else M) := by
                      show _ = _
                      rw [(unhide HD).step (i + 1) (j + 1) (by omega) (by omega), unhide HM, unhide HO]
                      unfold stepF
                      rw [if_neg (by omega)]
                      simp only [Nat.add_sub_cancel, show i + 1 - 2 = i - 1 by omega, show j + 1 - 2 = j - 1 by omega]
                      rw [unhide HU i j (by omega) (by omega), unhide HU i (j + 1) (by omega) (by omega), unhide HU (i + 1) j (by omega) (by omega), unhide HU (i - 1) (j - 1) (by omega) (by omega)]
                    clear HM HO
                    by_cases hi1 : i = 0
                    · have HX : Hid (M = D (i + 1) (j + 1)) := by show _ = _; have h := unhide HQ; rw [if_neg (by omega)] at h; exact h.symm
                      have HT3 := unhide HK (unhide HX)
                      have g1 : decide ((1 : Int) < (i : Int) + 1) = false := by simp; omega
                      have g2 : decide ((0 : Int) < (i : Int)) = false := by simp; omega
                      have g3 : decide (0 < i) = false := by simp; omega
                      clear hi1
                      go_upto_region 14 with fail
                      go_quiet (fail)
                      go_wp2_with fail
                      go_roundw
                      case rel => exact inI_mk (j + 1 + 1) _ (by go_num) (by omega) (unhide HT1) HT3 (belowN (unhide HB1) _)
                      case measure => simp [intOf]; omega
                    · have g1 : decide ((1 : Int) < (i : Int) + 1) = true := by simp; omega
                      have g2 : decide ((0 : Int) < (i : Int)) = true := by simp; omega
                      have g3 : decide (0 < i) = true := by simp; omega
                      by_cases hj1 : j = 0
                      · have HX : Hid (M = D (i + 1) (j + 1)) := by show _ = _; have h := unhide HQ; rw [if_neg (by omega)] at h; exact h.symm
                        have HT3 := unhide HK (unhide HX)
                        have g4 : decide ((1 : Int) < (j : Int) + 1) = false := by simp; omega
                        have g5 : decide ((0 : Int) < (j : Int)) = false := by simp; omega
                        have g6 : decide (0 < j) = false := by simp; omega
                        clear hj1
                        go_upto_region 14 with fail
                        go_quiet (fail)
                        go_wp2_with fail
                        go_roundw
                        case rel => exact inI_mk (j + 1 + 1) _ (by go_num) (by omega) (unhide HT1) HT3 (belowN (unhide HB1) _)
                        case measure => simp [intOf]; omega
                      · have g4 : decide ((1 : Int) < (j : Int) + 1) = true := by simp; omega
                        have g5 : decide ((0 : Int) < (j : Int)) = true := by simp; omega
                        have g6 : decide (0 < j) = true := by simp; omega
                        have ei : (i : Int) + 1 - 2 = ((i - 1 : Nat) : Int) := by omega
                        have ej : (j : Int) + 1 - 2 = ((j - 1 : Nat) : Int) := by omega
                        obtain ⟨i2, hi2⟩ : ∃ i2, i2 = i - 1 := ⟨_, rfl⟩
                        obtain ⟨j2, hj2⟩ : ∃ j2, j2 = j - 1 := ⟨_, rfl⟩
                        have li : i2 < i := by omega
                        have lj : j2 < j := by omega
                        obtain ⟨ga', oa', hpa, hga', hca⟩ := unhide HA' (by omega)
                        obtain ⟨gb', ob', hpb, hgb', hcb⟩ := unhide HB' (by omega)
                        obtain ⟨rfl, rfl⟩ : ga = ga' ∧ oa = oa' := by simpa using hpa
                        obtain ⟨rfl, rfl⟩ : gb = gb' ∧ ob = ob' := by simpa using hpb
                        have ka1 := ((unhide HB1).cell (p := ⟨ga, oa + i, none⟩) hga).trans (hca i (by omega))
                        have kb1 := ((unhide HB1).cell (p := ⟨gb, ob + j, none⟩) hgb).trans (hcb j (by omega))
                        have ka0 := ((unhide HB1).cell (p := ⟨ga, oa + i2, none⟩) hga).trans (hca i2 (by omega))
                        have kb0 := ((unhide HB1).cell (p := ⟨gb, ob + j2, none⟩) hgb).trans (hcb j2 (by omega))
                        have c22 := (unhide HT1).cell i2 j2 (by omega) (by omega)
                        rw [show setF F (i + 1) (j + 1) M i2 j2 = F i2 j2 from if_neg (by omega)] at c22
                        have b22 : 0 ≤ F i2 j2 ∧ F i2 j2 ≤ 100 := by
                          rw [unhide HU i2 j2 (by omega) (by omega)]; exact ⟨(unhide HD).lo i2 j2, (unhide HD).hi i2 j2 (by omega) (by omega)⟩
                        rw [← hi2] at ei
                        rw [← hj2] at ej
                        clear hca hcb hpa hpb hga' hgb' HU
                        have HQ' : Hid (D (i + 1) (j + 1) = if a i = b j2 ∧ a i2 = b j then min M (F i2 j2 + 1) else M) := by
                          show _ = _
                          rw [unhide HQ, ← hi2, ← hj2]
                          by_cases hc : a i = b j2 ∧ a i2 = b j
                          · rw [if_pos hc, if_pos ⟨by omega, by omega, hc⟩]
                          · rw [if_neg hc, if_neg (fun h => hc h.2.2)]
                        clear HQ hi1 hj1 hi2 hj2
                        cases q1 : (a i == b j2)
                        · have HX : Hid (M = D (i + 1) (j + 1)) := by show _ = _; have h := unhide HQ'; rw [if_neg (fun hc => by simp [hc.1] at q1)] at h; exact h.symm
                          have HT3 := unhide HK (unhide HX)
                          go_upto_region 14 with fail
                          go_quiet (fail)
                          go_wp2_with fail
                          go_roundw
                          case rel => exact inI_mk (j + 1 + 1) _ (by go_num) (by omega) (unhide HT1) HT3 (belowN (unhide HB1) _)
                          case measure => simp [intOf]; omega
                        · cases q2 : (a i2 == b j)
                          · have HX : Hid (M = D (i + 1) (j + 1)) := by show _ = _; have h := unhide HQ'; rw [if_neg (fun hc => by simp [hc.2] at q2)] at h; exact h.symm
                            have HT3 := unhide HK (unhide HX)
                            go_upto_region 14 with fail
                            go_quiet (fail)
                            go_wp2_with fail
                            go_roundw
                            case rel => exact inI_mk (j + 1 + 1) _ (by go_num) (by omega) (unhide HT1) HT3 (belowN (unhide HB1) _)
                            case measure => simp [intOf]; omega
                          · have HX : Hid (D (i + 1) (j + 1) = min M (F i2 j2 + 1)) := by show _ = _; have h := unhide HQ'; rw [if_pos ⟨by simpa using q1, by simpa using q2⟩] at h; exact h
                            clear HK HQ'
                            go_upto_region 14 with fail
                            go_quiet (fail)
                            go_upto_region 15 with fail
                            go_region
                            go_wp2_with fail
                            refine ⟨?_, by simp [intOf]; omega⟩
                            obtain ⟨h1, h2, h3⟩ := unhide HE _ _ (unhide HX).symm
                            exact inI_mk (j + 1 + 1) _ (by go_num) (by omega) h1 h2 h3
          obtain rfl : j = m + 1 := by omega
          have HU2 : Hid (Upto F D m (i + 1 + 1) 0) := fun x y hy h => unhide HU x y hy (by omega)
          go_wp2
          go_roundw
          case rel => exact outI_mk (i + 1 + 1) F (by go_num) (by omega) HT HU2 HB
          case measure => simp [intOf]; omega
    · obtain rfl : i = n + 1 := by omega
      have hc := (unhide HT).cell n m (by omega) (by omega)
      rw [unhide HU n m (Nat.le_refl _) (.inl (by omega))] at hc
      go_wp2
      go_ret
      exact ⟨rfl, unhide HB⟩
end Go.Proofs.YtiooiacebgojiabDoor

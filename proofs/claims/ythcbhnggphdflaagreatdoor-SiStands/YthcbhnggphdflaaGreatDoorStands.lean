/- The document's Same (9); SiStands (3). -/
import Derived.Test.YthcbhnggphdflaaGreatDoorSiAll
import Derived.Test.YthcbhnggphdflaaGreatDoorEqU
import Derived.BigQuiet
namespace Go.Proofs.YthcbhnggphdflaaGreatDoor
open Go.RowKit
theorem flat_all : flatU (usS 29) 29 = uAllS.toList := by kernel_rfl
theorem flat_at {W : World} {base g cap : Nat} (h : W.ownsRow base 30 15 (.slice (some ⟨g, 0, none⟩) 29 cap) 29 (flatU (usS 29) 29)) (k : Nat) (hk : k < 29) : UR W g k := fun i v e => by
  have hi : i < 15 := (Array.getElem?_eq_some_iff.1 e).1
  rw [h.cellAt (k * 15 + i) (by omega), flat_all]
  simpa using uAllS_row k hk i v e
theorem neqU (nm sy fn fd on od : ByteArray) (d0 d1 d2 d3 d4 d5 d6 d7 tk : Int) (w : World) : (binOp .neq 30 (.agg #[.string nm, .string sy, .int .i64 d0, .int .i64 d1, .int .i64 d2, .int .i64 d3, .int .i64 d4, .int .i64 d5, .int .i64 d6, .int .i64 d7, .string fn, .string fd, .string on, .string od, .int .i64 tk]) (.agg #[.string nm, .string sy, .int .i64 d0, .int .i64 d1, .int .i64 d2, .int .i64 d3, .int .i64 d4, .int .i64 d5, .int .i64 d6, .int .i64 d7, .string fn, .string fd, .string on, .string od, .int .i64 tk])).run Tryz.prog w = .ok (.bool false) w := by
  rw [run_neq_struct, eqU]
  rfl
set_option maxRecDepth 100000 in
set_option maxHeartbeats 4000000 in
theorem same_any (w : World) (g1 c1 g2 c2 : Nat) (hg1 : g1 < w.heap.size) (hg2 : g2 < w.heap.size) (h1 : ∀ k, k < 29 → UR w g1 k) (h2 : ∀ k, k < 29 → UR w g2 k) :
    Calls Tryz.prog 9 #[.slice (some ⟨g1, 0, none⟩) 29 c1, .slice (some ⟨g2, 0, none⟩) 29 c2] w fun r w' => r = .returned (.bool true) ∧ Below w.heap.size w w' := by
  have H1 := hide h1; have H2 := hide h2
  clear h1 h2
  go_enter Tryz.func9, Tryz.ntmps9
  go_wp2_with fail
  go_loopw [5] (fun s3 wr => ∃ (k : Nat), k ≤ 29 ∧ s3 = .int .i64 (k : Int) ∧ Hid (Below w.heap.size w wr)) (fun s3 _ => 29 - (intOf s3).toNat)
  case atStart => exact ⟨0, by omega, rfl, Below.refl _ _⟩
  case round =>
    obtain ⟨k, hk, rfl, HB⟩ := hrel
    by_cases hk8 : k < 29
    · have hkI : (k : Int) < 29 := by omega
      have hk0 : (0 : Int) ≤ (k : Int) := by omega
      have F1 := (un H1 k hk8).later (un HB) hg1
      have F2 := (un H2 k hk8).later (un HB) hg2
      have a0 : wr.cell? ⟨g1, k * 15, none⟩ = some (.string (sut k).nm) := F1 0 _ rfl
      have a1 : wr.cell? ⟨g1, k * 15 + 1, none⟩ = some (.string (sut k).sy) := F1 1 _ rfl
      have a2 : wr.cell? ⟨g1, k * 15 + 2, none⟩ = some (.int .i64 (sut k).e0) := F1 2 _ rfl
      have a3 : wr.cell? ⟨g1, k * 15 + 3, none⟩ = some (.int .i64 (sut k).e1) := F1 3 _ rfl
      have a4 : wr.cell? ⟨g1, k * 15 + 4, none⟩ = some (.int .i64 (sut k).e2) := F1 4 _ rfl
      have a5 : wr.cell? ⟨g1, k * 15 + 5, none⟩ = some (.int .i64 (sut k).e3) := F1 5 _ rfl
      have a6 : wr.cell? ⟨g1, k * 15 + 6, none⟩ = some (.int .i64 (sut k).e4) := F1 6 _ rfl
      have a7 : wr.cell? ⟨g1, k * 15 + 7, none⟩ = some (.int .i64 (sut k).e5) := F1 7 _ rfl
      have a8 : wr.cell? ⟨g1, k * 15 + 8, none⟩ = some (.int .i64 (sut k).e6) := F1 8 _ rfl
      have a9 : wr.cell? ⟨g1, k * 15 + 9, none⟩ = some (.int .i64 (sut k).e7) := F1 9 _ rfl
      have a10 : wr.cell? ⟨g1, k * 15 + 10, none⟩ = some (.string (sfn k)) := F1 10 _ rfl
      have a11 : wr.cell? ⟨g1, k * 15 + 11, none⟩ = some (.string (sfd k)) := F1 11 _ rfl
      have a12 : wr.cell? ⟨g1, k * 15 + 12, none⟩ = some (.string ⟨#[48]⟩) := F1 12 _ rfl
      have a13 : wr.cell? ⟨g1, k * 15 + 13, none⟩ = some (.string ⟨#[49]⟩) := F1 13 _ rfl
      have a14 : wr.cell? ⟨g1, k * 15 + 14, none⟩ = some (.int .i64 (sut k).tk) := F1 14 _ rfl
      have b0 : wr.cell? ⟨g2, k * 15, none⟩ = some (.string (sut k).nm) := F2 0 _ rfl
      have b1 : wr.cell? ⟨g2, k * 15 + 1, none⟩ = some (.string (sut k).sy) := F2 1 _ rfl
      have b2 : wr.cell? ⟨g2, k * 15 + 2, none⟩ = some (.int .i64 (sut k).e0) := F2 2 _ rfl
      have b3 : wr.cell? ⟨g2, k * 15 + 3, none⟩ = some (.int .i64 (sut k).e1) := F2 3 _ rfl
      have b4 : wr.cell? ⟨g2, k * 15 + 4, none⟩ = some (.int .i64 (sut k).e2) := F2 4 _ rfl
      have b5 : wr.cell? ⟨g2, k * 15 + 5, none⟩ = some (.int .i64 (sut k).e3) := F2 5 _ rfl
      have b6 : wr.cell? ⟨g2, k * 15 + 6, none⟩ = some (.int .i64 (sut k).e4) := F2 6 _ rfl
      have b7 : wr.cell? ⟨g2, k * 15 + 7, none⟩ = some (.int .i64 (sut k).e5) := F2 7 _ rfl
      have b8 : wr.cell? ⟨g2, k * 15 + 8, none⟩ = some (.int .i64 (sut k).e6) := F2 8 _ rfl
      have b9 : wr.cell? ⟨g2, k * 15 + 9, none⟩ = some (.int .i64 (sut k).e7) := F2 9 _ rfl
      have b10 : wr.cell? ⟨g2, k * 15 + 10, none⟩ = some (.string (sfn k)) := F2 10 _ rfl
      have b11 : wr.cell? ⟨g2, k * 15 + 11, none⟩ = some (.string (sfd k)) := F2 11 _ rfl
      have b12 : wr.cell? ⟨g2, k * 15 + 12, none⟩ = some (.string ⟨#[48]⟩) := F2 12 _ rfl
      have b13 : wr.cell? ⟨g2, k * 15 + 13, none⟩ = some (.string ⟨#[49]⟩) := F2 13 _ rfl
      have b14 : wr.cell? ⟨g2, k * 15 + 14, none⟩ = some (.int .i64 (sut k).tk) := F2 14 _ rfl
      clear F1 F2
      have hne := neqU (sut k).nm (sut k).sy (sfn k) (sfd k) ⟨#[48]⟩ ⟨#[49]⟩ (sut k).e0 (sut k).e1 (sut k).e2 (sut k).e3 (sut k).e4 (sut k).e5 (sut k).e6 (sut k).e7 (sut k).tk
      generalize (sut k).nm = nm at *
      generalize (sut k).sy = sy at *
      generalize sfn k = fn at *
      generalize sfd k = fd at *
      generalize (sut k).e0 = d0 at *
      generalize (sut k).e1 = d1 at *
      generalize (sut k).e2 = d2 at *
      generalize (sut k).e3 = d3 at *
      generalize (sut k).e4 = d4 at *
      generalize (sut k).e5 = d5 at *
      generalize (sut k).e6 = d6 at *
      generalize (sut k).e7 = d7 at *
      generalize (sut k).tk = tk at *
      go_wp2_with fail
      go_quiet (fail)
      go_wp2_with fail
      go_roundw
      case rel => exact ⟨k + 1, by omega, by go_num, below_drewN (un HB) _⟩
      case measure => simp [intOf]; omega
    · have hkI : ¬ (k : Int) < 29 := by omega
      go_wp2_with fail
      go_ret
      exact ⟨rfl, un HB⟩
theorem own_units {W : World} {base : Nat} {v : Value} (h : W.ownsRow base 30 15 v 29 (flatU (usS 29) 29)) : ∃ g cap, v = .slice (some ⟨g, 0, none⟩) 29 cap ∧ base ≤ g ∧ g < W.heap.size ∧ (∀ k, k < 29 → UR W g k) ∧ (∀ o, W.frozen? ⟨g, o, none⟩ = false) := by
  obtain ⟨g, cap, rfl⟩ := Joins.ownsRow_form h (by decide)
  have hl := h.lt g rfl
  refine ⟨g, cap, rfl, hl.1, hl.2, fun k hk => flat_at h k hk, ?_⟩
  intro o
  obtain ⟨_, h2⟩ := h
  rcases h2 with ⟨h2, _⟩ | ⟨g', cap', cur, e, _, hg, _⟩
  · cases h2
  · cases e
    simp [World.frozen?, hg]
/-- The second cell of each of them, in a block that may be written. -/
structure Spoils (W : World) (g : Nat) : Prop where
  c : ∀ k, k < 29 → ∃ u, W.cell? ⟨g, k * 15 + 1, none⟩ = some u
  f : ∀ o, W.frozen? ⟨g, o, none⟩ = false
theorem Spoils.set {W : World} {g : Nat} (h : Spoils W g) (k : Nat) (hk : k < 29) (u : Value) : Spoils (W.setCell ⟨g, k * 15 + 1, none⟩ u) g := by
  refine ⟨fun j hj => ?_, fun o => by rw [World.frozen?_setCell]; exact h.f o⟩
  by_cases e : j = k
  · subst e
    obtain ⟨x, hx⟩ := h.c j hj
    exact ⟨u, World.cell?_setCell_same _ _ _ hx⟩
  · obtain ⟨x, hx⟩ := h.c j hj
    exact ⟨x, by rw [World.cell?_setCell_other _ _ _ _ (by intro e2; simp only [Addr.mk.injEq] at e2; omega)]; exact hx⟩
theorem Spoils.later {W V : World} {g : Nat} (h : Spoils W g) (hg : g < W.heap.size) (hb : Below W.heap.size W V) : Spoils V g :=
  ⟨fun k hk => by obtain ⟨u, hu⟩ := h.c k hk; exact ⟨u, (hb.cell (p := ⟨g, k * 15 + 1, none⟩) hg).trans hu⟩, fun o => (hb.frozen (p := ⟨g, o, none⟩) hg).trans (h.f o)⟩
set_option maxRecDepth 100000 in
set_option maxHeartbeats 4000000 in
theorem stands_any (w : World) (htab : Tab w) : Calls Tryz.prog 3 #[] w fun r w' => r = .returned (.bool true) ∧ Below w.heap.size w w' := by
  have HTW := hide htab
  clear htab
  go_enter Tryz.func3, Tryz.ntmps3
  go_wp2_with (first
    | (go_at_call 8; go_must (refine (siUnits _ (un HTW)).mono ?_; rintro e wa ⟨va, rfl, hoa, hba⟩; obtain ⟨gwa, cwa, rfl, hga0, hga1, hfa, hza⟩ := own_units hoa; have HBA := hide hba; have HFA := hide hfa; have HZA := hide hza; have HGA := hide (And.intro hga0 hga1); clear hba hfa hza hga0 hga1 hoa))
    | (go_at_call 10; go_must (refine (refUnitsS _).mono ?_; rintro e wb ⟨wz, rfl, hob, hbz⟩; have HBB : Hid (Below wa.heap.size wa wb) := (by rw [hob]; exact hbz.alloc hbz.size _); have HFB : Hid (∀ k, k < 29 → UR wb wz.heap.size k) := (fun k hk => by rw [hob]; exact uAllS_at wz k hk); have HGB : Hid (wz.heap.size < wb.heap.size) := (by show _ < _; rw [hob]; simp); clear hob hbz; generalize wz.heap.size = gwb at *))
    | (go_at_call 9; go_must (refine (same_any _ gwa cwa gwb 29 (Nat.lt_of_lt_of_le (un HGA).2 (un HBB).size) (un HGB) (fun k hk => (un HFA k hk).later (un HBB) (un HGA).2) (un HFB)).mono ?_; rintro e wc ⟨rfl, hbc⟩; have HBC := hide hbc; clear hbc)))
  have HW : Hid (Below wa.heap.size wa wc) := (un HBB).trans ((un HBC).mono (un HBB).size)
  have HWC : Hid (Below w.heap.size w wc) := (un HBA).trans ((un HW).mono (un HBA).size)
  have HS : Hid (Spoils wc gwa) := (Spoils.mk (fun k hk => ⟨_, un HFA k hk 1 _ rfl⟩) (un HZA)).later (un HGA).2 (un HW)
  have HGG : Hid (w.heap.size ≤ gwa) := (un HGA).1
  clear HFA HFB HGB HBB HBC HZA HGA HBA HW
  go_loopw [10] (fun s2 wr => ∃ (k : Nat), k ≤ 29 ∧ s2 = .int .i64 (k : Int) ∧ Hid (Spoils wr gwa) ∧ Hid (Below w.heap.size w wr)) (fun s2 _ => 29 - (intOf s2).toNat)
  case atStart => exact ⟨0, by omega, rfl, HS, HWC⟩
  case round =>
    obtain ⟨k, hk, rfl, HSP, HB⟩ := hrel
    by_cases hk8 : k < 29
    · have hkI : (k : Int) < 29 := by omega
      have hk0 : (0 : Int) ≤ (k : Int) := by omega
      obtain ⟨u, hu⟩ := (un HSP).c k hk8
      have hf := (un HSP).f (k * 15 + 1)
      go_wp2_with fail
      go_roundw
      case rel => exact ⟨k + 1, by omega, by go_num, (un HSP).set k hk8 _, (un HB).setCell (p := ⟨gwa, k * 15 + 1, none⟩) (un HGG) _⟩
      case measure => simp [intOf]; omega
    · have hkI : ¬ (k : Int) < 29 := by omega
      go_wp2_with (first
    | (go_at_call 8; go_must (refine (siUnits _ ((un HTW).later (un HB))).mono ?_; rintro e wd ⟨va, rfl, hoa, hba⟩; obtain ⟨gwd, cwd, rfl, hga0, hga1, hfa, hza⟩ := own_units hoa; have HBA := hide hba; have HFA := hide hfa; have HZA := hide hza; have HGA := hide (And.intro hga0 hga1); clear hba hfa hza hga0 hga1 hoa))
    | (go_at_call 10; go_must (refine (refUnitsS _).mono ?_; rintro e we ⟨wz, rfl, hob, hbz⟩; have HBB : Hid (Below wd.heap.size wd we) := (by rw [hob]; exact hbz.alloc hbz.size _); have HFB : Hid (∀ k, k < 29 → UR we wz.heap.size k) := (fun k hk => by rw [hob]; exact uAllS_at wz k hk); have HGB : Hid (wz.heap.size < we.heap.size) := (by show _ < _; rw [hob]; simp); clear hob hbz; generalize wz.heap.size = gwe at *))
    | (go_at_call 9; go_must (refine (same_any _ gwd cwd gwe 29 (Nat.lt_of_lt_of_le (un HGA).2 (un HBB).size) (un HGB) (fun k hk => (un HFA k hk).later (un HBB) (un HGA).2) (un HFB)).mono ?_; rintro e wf ⟨rfl, hbc⟩; have HBC := hide hbc; clear hbc)))
      go_ret
      have h1 : Below wr.heap.size wr wf := (un HBA).trans (((un HBB).trans ((un HBC).mono (un HBB).size)).mono (un HBA).size)
      exact ⟨rfl, (un HB).trans (h1.mono (un HB).size)⟩
end Go.Proofs.YthcbhnggphdflaaGreatDoor

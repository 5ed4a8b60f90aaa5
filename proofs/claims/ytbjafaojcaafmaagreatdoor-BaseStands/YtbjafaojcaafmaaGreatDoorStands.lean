/- BaseStands answers true. -/
import Derived.Test.YtbjafaojcaafmaaGreatDoorEqU
import Derived.BigQuiet
namespace Go.Proofs.YtbjafaojcaafmaaGreatDoor
open Go.RowKit
def uAll : Array Value := #[.string ⟨#[98, 105, 116]⟩, .string ⟨#[98]⟩, .int .i64 0, .int .i64 0, .int .i64 0, .int .i64 0, .int .i64 0, .int .i64 0, .int .i64 0, .int .i64 1, .string ⟨#[49]⟩, .string ⟨#[49]⟩, .string ⟨#[48]⟩, .string ⟨#[49]⟩, .int .i64 3, .string ⟨#[109, 111, 108, 101]⟩, .string ⟨#[109, 111, 108]⟩, .int .i64 0, .int .i64 0, .int .i64 0, .int .i64 0, .int .i64 0, .int .i64 1, .int .i64 0, .int .i64 0, .string ⟨#[49]⟩, .string ⟨#[49]⟩, .string ⟨#[48]⟩, .string ⟨#[49]⟩, .int .i64 1, .string ⟨#[115, 101, 99, 111, 110, 100]⟩, .string ⟨#[115]⟩, .int .i64 0, .int .i64 0, .int .i64 1, .int .i64 0, .int .i64 0, .int .i64 0, .int .i64 0, .int .i64 0, .string ⟨#[49]⟩, .string ⟨#[49]⟩, .string ⟨#[48]⟩, .string ⟨#[49]⟩, .int .i64 1, .string ⟨#[97, 109, 112, 101, 114, 101]⟩, .string ⟨#[65]⟩, .int .i64 0, .int .i64 0, .int .i64 0, .int .i64 1, .int .i64 0, .int .i64 0, .int .i64 0, .int .i64 0, .string ⟨#[49]⟩, .string ⟨#[49]⟩, .string ⟨#[48]⟩, .string ⟨#[49]⟩, .int .i64 1, .string ⟨#[109, 101, 116, 114, 101]⟩, .string ⟨#[109]⟩, .int .i64 1, .int .i64 0, .int .i64 0, .int .i64 0, .int .i64 0, .int .i64 0, .int .i64 0, .int .i64 0, .string ⟨#[49]⟩, .string ⟨#[49]⟩, .string ⟨#[48]⟩, .string ⟨#[49]⟩, .int .i64 1, .string ⟨#[103, 114, 97, 109]⟩, .string ⟨#[103]⟩, .int .i64 0, .int .i64 1, .int .i64 0, .int .i64 0, .int .i64 0, .int .i64 0, .int .i64 0, .int .i64 0, .string ⟨#[49]⟩, .string ⟨#[49, 48, 48, 48]⟩, .string ⟨#[48]⟩, .string ⟨#[49]⟩, .int .i64 1, .string ⟨#[99, 97, 110, 100, 101, 108, 97]⟩, .string ⟨#[99, 100]⟩, .int .i64 0, .int .i64 0, .int .i64 0, .int .i64 0, .int .i64 0, .int .i64 0, .int .i64 1, .int .i64 0, .string ⟨#[49]⟩, .string ⟨#[49]⟩, .string ⟨#[48]⟩, .string ⟨#[49]⟩, .int .i64 1, .string ⟨#[107, 101, 108, 118, 105, 110]⟩, .string ⟨#[75]⟩, .int .i64 0, .int .i64 0, .int .i64 0, .int .i64 0, .int .i64 1, .int .i64 0, .int .i64 0, .int .i64 0, .string ⟨#[49]⟩, .string ⟨#[49]⟩, .string ⟨#[48]⟩, .string ⟨#[49]⟩, .int .i64 1]
set_option maxRecDepth 100000 in
set_option maxHeartbeats 8000000 in
theorem refUnits (w : World) : Calls Tryz.prog 7 #[] w fun r w' => ∃ W, r = .returned (.slice (some ⟨W.heap.size, 0, none⟩) 8 8) ∧ w' = W.alloc (.cells uAll 30) ∧ Below w.heap.size w W := by
  go_enter Tryz.func7, Tryz.ntmps7
  go_wp2
  go_ret
  have e : ((w.alloc (.cells #[.string ⟨#[49]⟩, .string ⟨#[49]⟩] 28)).alloc (.cells #[.string ⟨#[48]⟩, .string ⟨#[49]⟩] 28)).heap.size = w.heap.size + 1 + 1 := by simp
  exact ⟨(w.alloc (.cells #[.string ⟨#[49]⟩, .string ⟨#[49]⟩] 28)).alloc (.cells #[.string ⟨#[48]⟩, .string ⟨#[49]⟩] 28), by rw [e]; rfl, rfl, ((Below.refl _ _).alloc (Nat.le_refl _) _).alloc (by simp) _⟩
def UR (W : World) (g k : Nat) : Prop := ∀ i v, (uOf (sct k))[i]? = some v → W.cell? ⟨g, k * 15 + i, none⟩ = some v
theorem UR.later {W V : World} {B g k : Nat} (h : UR W g k) (hb : Below B W V) (hg : g < B) : UR V g k := fun i v e => (hb.cell (p := ⟨g, k * 15 + i, none⟩) hg).trans (h i v e)
set_option maxRecDepth 100000 in
theorem uAll_row : ∀ k, k < 8 → ∀ i v, (uOf (sct k))[i]? = some v → uAll[k * 15 + i]? = some v := by
  intro k hk i v e
  have hi : i < 15 := (Array.getElem?_eq_some_iff.1 e).1
  rw [← e]
  rcases (by omega : k = 0 ∨ k = 1 ∨ k = 2 ∨ k = 3 ∨ k = 4 ∨ k = 5 ∨ k = 6 ∨ k = 7) with rfl | rfl | rfl | rfl | rfl | rfl | rfl | rfl <;> rcases (by omega : i = 0 ∨ i = 1 ∨ i = 2 ∨ i = 3 ∨ i = 4 ∨ i = 5 ∨ i = 6 ∨ i = 7 ∨ i = 8 ∨ i = 9 ∨ i = 10 ∨ i = 11 ∨ i = 12 ∨ i = 13 ∨ i = 14) with rfl | rfl | rfl | rfl | rfl | rfl | rfl | rfl | rfl | rfl | rfl | rfl | rfl | rfl | rfl <;> rfl
theorem uAll_at {W : World} {g : Nat} (h : OwnU W g 30 uAll) (k : Nat) (hk : k < 8) : UR W g k := fun i v e => h.ub.c _ _ (uAll_row k hk i v e)
theorem flat_all : flatU (usL 8) 8 = uAll.toList := by rfl
theorem flat_at {W : World} {base g cap : Nat} (h : W.ownsRow base 30 15 (.slice (some ⟨g, 0, none⟩) 8 cap) 8 (flatU (usL 8) 8)) (k : Nat) (hk : k < 8) : UR W g k := fun i v e => by
  have hi : i < 15 := (Array.getElem?_eq_some_iff.1 e).1
  rw [h.cellAt (k * 15 + i) (by omega), flat_all]
  simpa using uAll_row k hk i v e
theorem neqU (nm sy fn fd on od : ByteArray) (d0 d1 d2 d3 d4 d5 d6 d7 tk : Int) (w : World) : (binOp .neq 30 (.agg #[.string nm, .string sy, .int .i64 d0, .int .i64 d1, .int .i64 d2, .int .i64 d3, .int .i64 d4, .int .i64 d5, .int .i64 d6, .int .i64 d7, .string fn, .string fd, .string on, .string od, .int .i64 tk]) (.agg #[.string nm, .string sy, .int .i64 d0, .int .i64 d1, .int .i64 d2, .int .i64 d3, .int .i64 d4, .int .i64 d5, .int .i64 d6, .int .i64 d7, .string fn, .string fd, .string on, .string od, .int .i64 tk])).run Tryz.prog w = .ok (.bool false) w := by
  rw [run_neq_struct, eqU]
  rfl
set_option maxRecDepth 100000 in
set_option maxHeartbeats 4000000 in
theorem same_any (w : World) (g1 c1 g2 c2 : Nat) (hg1 : g1 < w.heap.size) (hg2 : g2 < w.heap.size) (h1 : ∀ k, k < 8 → UR w g1 k) (h2 : ∀ k, k < 8 → UR w g2 k) :
    Calls Tryz.prog 6 #[.slice (some ⟨g1, 0, none⟩) 8 c1, .slice (some ⟨g2, 0, none⟩) 8 c2] w fun r w' => r = .returned (.bool true) ∧ Below w.heap.size w w' := by
  have H1 := hide h1; have H2 := hide h2
  clear h1 h2
  go_enter Tryz.func6, Tryz.ntmps6
  go_wp2_with fail
  go_loopw [5] (fun s3 wr => ∃ (k : Nat), k ≤ 8 ∧ s3 = .int .i64 (k : Int) ∧ Hid (Below w.heap.size w wr)) (fun s3 _ => 8 - (intOf s3).toNat)
  case atStart => exact ⟨0, by omega, rfl, Below.refl _ _⟩
  case round =>
    obtain ⟨k, hk, rfl, HB⟩ := hrel
    by_cases hk8 : k < 8
    · have hkI : (k : Int) < 8 := by omega
      have hk0 : (0 : Int) ≤ (k : Int) := by omega
      have F1 := (unhide H1 k hk8).later (unhide HB) hg1
      have F2 := (unhide H2 k hk8).later (unhide HB) hg2
      have a0 : wr.cell? ⟨g1, k * 15, none⟩ = some (.string (sct k).nm) := F1 0 _ rfl
      have a1 : wr.cell? ⟨g1, k * 15 + 1, none⟩ = some (.string (sct k).sy) := F1 1 _ rfl
      have a2 : wr.cell? ⟨g1, k * 15 + 2, none⟩ = some (.int .i64 (sct k).d0) := F1 2 _ rfl
      have a3 : wr.cell? ⟨g1, k * 15 + 3, none⟩ = some (.int .i64 (sct k).d1) := F1 3 _ rfl
      have a4 : wr.cell? ⟨g1, k * 15 + 4, none⟩ = some (.int .i64 (sct k).d2) := F1 4 _ rfl
      have a5 : wr.cell? ⟨g1, k * 15 + 5, none⟩ = some (.int .i64 (sct k).d3) := F1 5 _ rfl
      have a6 : wr.cell? ⟨g1, k * 15 + 6, none⟩ = some (.int .i64 (sct k).d4) := F1 6 _ rfl
      have a7 : wr.cell? ⟨g1, k * 15 + 7, none⟩ = some (.int .i64 (sct k).d5) := F1 7 _ rfl
      have a8 : wr.cell? ⟨g1, k * 15 + 8, none⟩ = some (.int .i64 (sct k).d6) := F1 8 _ rfl
      have a9 : wr.cell? ⟨g1, k * 15 + 9, none⟩ = some (.int .i64 (sct k).d7) := F1 9 _ rfl
      have a10 : wr.cell? ⟨g1, k * 15 + 10, none⟩ = some (.string (sct k).fn) := F1 10 _ rfl
      have a11 : wr.cell? ⟨g1, k * 15 + 11, none⟩ = some (.string (sct k).fd) := F1 11 _ rfl
      have a12 : wr.cell? ⟨g1, k * 15 + 12, none⟩ = some (.string ⟨#[48]⟩) := F1 12 _ rfl
      have a13 : wr.cell? ⟨g1, k * 15 + 13, none⟩ = some (.string ⟨#[49]⟩) := F1 13 _ rfl
      have a14 : wr.cell? ⟨g1, k * 15 + 14, none⟩ = some (.int .i64 (sct k).tk) := F1 14 _ rfl
      have b0 : wr.cell? ⟨g2, k * 15, none⟩ = some (.string (sct k).nm) := F2 0 _ rfl
      have b1 : wr.cell? ⟨g2, k * 15 + 1, none⟩ = some (.string (sct k).sy) := F2 1 _ rfl
      have b2 : wr.cell? ⟨g2, k * 15 + 2, none⟩ = some (.int .i64 (sct k).d0) := F2 2 _ rfl
      have b3 : wr.cell? ⟨g2, k * 15 + 3, none⟩ = some (.int .i64 (sct k).d1) := F2 3 _ rfl
      have b4 : wr.cell? ⟨g2, k * 15 + 4, none⟩ = some (.int .i64 (sct k).d2) := F2 4 _ rfl
      have b5 : wr.cell? ⟨g2, k * 15 + 5, none⟩ = some (.int .i64 (sct k).d3) := F2 5 _ rfl
      have b6 : wr.cell? ⟨g2, k * 15 + 6, none⟩ = some (.int .i64 (sct k).d4) := F2 6 _ rfl
      have b7 : wr.cell? ⟨g2, k * 15 + 7, none⟩ = some (.int .i64 (sct k).d5) := F2 7 _ rfl
      have b8 : wr.cell? ⟨g2, k * 15 + 8, none⟩ = some (.int .i64 (sct k).d6) := F2 8 _ rfl
      have b9 : wr.cell? ⟨g2, k * 15 + 9, none⟩ = some (.int .i64 (sct k).d7) := F2 9 _ rfl
      have b10 : wr.cell? ⟨g2, k * 15 + 10, none⟩ = some (.string (sct k).fn) := F2 10 _ rfl
      have b11 : wr.cell? ⟨g2, k * 15 + 11, none⟩ = some (.string (sct k).fd) := F2 11 _ rfl
      have b12 : wr.cell? ⟨g2, k * 15 + 12, none⟩ = some (.string ⟨#[48]⟩) := F2 12 _ rfl
      have b13 : wr.cell? ⟨g2, k * 15 + 13, none⟩ = some (.string ⟨#[49]⟩) := F2 13 _ rfl
      have b14 : wr.cell? ⟨g2, k * 15 + 14, none⟩ = some (.int .i64 (sct k).tk) := F2 14 _ rfl
      clear F1 F2
      have hne := neqU (sct k).nm (sct k).sy (sct k).fn (sct k).fd ⟨#[48]⟩ ⟨#[49]⟩ (sct k).d0 (sct k).d1 (sct k).d2 (sct k).d3 (sct k).d4 (sct k).d5 (sct k).d6 (sct k).d7 (sct k).tk
      generalize (sct k).nm = nm at *
      generalize (sct k).sy = sy at *
      generalize (sct k).fn = fn at *
      generalize (sct k).fd = fd at *
      generalize (sct k).d0 = d0 at *
      generalize (sct k).d1 = d1 at *
      generalize (sct k).d2 = d2 at *
      generalize (sct k).d3 = d3 at *
      generalize (sct k).d4 = d4 at *
      generalize (sct k).d5 = d5 at *
      generalize (sct k).d6 = d6 at *
      generalize (sct k).d7 = d7 at *
      generalize (sct k).tk = tk at *
      go_wp2_with fail
      go_quiet (fail)
      go_wp2_with fail
      go_roundw
      case rel => exact ⟨k + 1, by omega, by go_num, below_drewN (unhide HB) _⟩
      case measure => simp [intOf]; omega
    · have hkI : ¬ (k : Int) < 8 := by omega
      go_wp2_with fail
      go_ret
      exact ⟨rfl, unhide HB⟩
end Go.Proofs.YtbjafaojcaafmaaGreatDoor

namespace Go.Proofs.YtbjafaojcaafmaaGreatDoor
open Go.RowKit
theorem own_units {W : World} {base : Nat} {v : Value} (h : W.ownsRow base 30 15 v 8 (flatU (usL 8) 8)) : ∃ g cap, v = .slice (some ⟨g, 0, none⟩) 8 cap ∧ base ≤ g ∧ g < W.heap.size ∧ (∀ k, k < 8 → UR W g k) ∧ (∀ o, W.frozen? ⟨g, o, none⟩ = false) := by
  obtain ⟨g, cap, rfl⟩ := Joins.ownsRow_form h (by decide)
  have hl := h.lt g rfl
  refine ⟨g, cap, rfl, hl.1, hl.2, fun k hk => flat_at h k hk, ?_⟩
  intro o
  obtain ⟨_, h2⟩ := h
  rcases h2 with ⟨h2, _⟩ | ⟨g', cap', cur, e, _, hg, _⟩
  · cases h2
  · cases e
    simp [World.frozen?, hg]
/-- The first cell of each of the eight, in a block that may be written. -/
structure Spoils (W : World) (g : Nat) : Prop where
  c : ∀ k, k < 8 → ∃ u, W.cell? ⟨g, k * 15, none⟩ = some u
  f : ∀ o, W.frozen? ⟨g, o, none⟩ = false
theorem Spoils.set {W : World} {g : Nat} (h : Spoils W g) (k : Nat) (hk : k < 8) (u : Value) : Spoils (W.setCell ⟨g, k * 15, none⟩ u) g := by
  refine ⟨fun j hj => ?_, fun o => by rw [World.frozen?_setCell]; exact h.f o⟩
  by_cases e : j = k
  · subst e
    obtain ⟨x, hx⟩ := h.c j hj
    exact ⟨u, World.cell?_setCell_same _ _ _ hx⟩
  · obtain ⟨x, hx⟩ := h.c j hj
    exact ⟨x, by rw [World.cell?_setCell_other _ _ _ _ (by intro e2; simp only [Addr.mk.injEq] at e2; omega)]; exact hx⟩
theorem Spoils.later {W V : World} {g : Nat} (h : Spoils W g) (hg : g < W.heap.size) (hb : Below W.heap.size W V) : Spoils V g :=
  ⟨fun k hk => by obtain ⟨u, hu⟩ := h.c k hk; exact ⟨u, (hb.cell (p := ⟨g, k * 15, none⟩) hg).trans hu⟩, fun o => (hb.frozen (p := ⟨g, o, none⟩) hg).trans (h.f o)⟩
set_option maxRecDepth 100000 in
set_option maxHeartbeats 4000000 in
theorem stands_any (w : World) (htab : Tab w) : Calls Tryz.prog 3 #[] w fun r w' => r = .returned (.bool true) ∧ Below w.heap.size w w' := by
  have HTW := hide htab
  clear htab
  go_enter Tryz.func3, Tryz.ntmps3
  go_wp2_with (first
    | (go_at_call 5; go_must (refine (baseUnits _ (unhide HTW)).mono ?_; rintro e wa ⟨va, rfl, hoa, hba⟩; obtain ⟨gwa, cwa, rfl, hga0, hga1, hfa, hza⟩ := own_units hoa; have HBA := hide hba; have HFA := hide hfa; have HZA := hide hza; have HGA := hide (And.intro hga0 hga1); clear hba hfa hza hga0 hga1 hoa))
    | (go_at_call 7; go_must (refine (refUnits _).mono ?_; rintro e wb ⟨wz, rfl, hob, hbz⟩; have HBB : Hid (Below wa.heap.size wa wb) := (by rw [hob]; exact hbz.alloc hbz.size _); have HFB : Hid (∀ k, k < 8 → UR wb wz.heap.size k) := (fun k hk => uAll_at (by rw [hob]; exact OwnU.new _ _ _) k hk); have HGB : Hid (wz.heap.size < wb.heap.size) := (by show _ < _; rw [hob]; simp); clear hob hbz; generalize wz.heap.size = gwb at *))
    | (go_at_call 6; go_must (refine (same_any _ gwa cwa gwb 8 (Nat.lt_of_lt_of_le (unhide HGA).2 (unhide HBB).size) (unhide HGB) (fun k hk => (unhide HFA k hk).later (unhide HBB) (unhide HGA).2) (unhide HFB)).mono ?_; rintro e wc ⟨rfl, hbc⟩; have HBC := hide hbc; clear hbc)))
  have HW : Hid (Below wa.heap.size wa wc) := (unhide HBB).trans ((unhide HBC).mono (unhide HBB).size)
  have HWC : Hid (Below w.heap.size w wc) := (unhide HBA).trans ((unhide HW).mono (unhide HBA).size)
  have HS : Hid (Spoils wc gwa) := (Spoils.mk (fun k hk => ⟨_, unhide HFA k hk 0 _ rfl⟩) (unhide HZA)).later (unhide HGA).2 (unhide HW)
  have HGG : Hid (w.heap.size ≤ gwa) := (unhide HGA).1
  clear HFA HFB HGB HBB HBC HZA HGA HBA HW
  go_loopw [2] (fun s2 wr => ∃ (k : Nat), k ≤ 8 ∧ s2 = .int .i64 (k : Int) ∧ Hid (Spoils wr gwa) ∧ Hid (Below w.heap.size w wr)) (fun s2 _ => 8 - (intOf s2).toNat)
  case atStart => exact ⟨0, by omega, rfl, HS, HWC⟩
  case round =>
    obtain ⟨k, hk, rfl, HSP, HB⟩ := hrel
    by_cases hk8 : k < 8
    · have hkI : (k : Int) < 8 := by omega
      have hk0 : (0 : Int) ≤ (k : Int) := by omega
      obtain ⟨u, hu⟩ := (unhide HSP).c k hk8
      have hf := (unhide HSP).f (k * 15)
      go_wp2_with fail
      go_roundw
      case rel => exact ⟨k + 1, by omega, by go_num, (unhide HSP).set k hk8 _, (unhide HB).setCell (p := ⟨gwa, k * 15, none⟩) (unhide HGG) _⟩
      case measure => simp [intOf]; omega
    · have hkI : ¬ (k : Int) < 8 := by omega
      go_wp2_with (first
    | (go_at_call 5; go_must (refine (baseUnits _ ((unhide HTW).later (unhide HB))).mono ?_; rintro e wd ⟨va, rfl, hoa, hba⟩; obtain ⟨gwd, cwd, rfl, hga0, hga1, hfa, hza⟩ := own_units hoa; have HBA := hide hba; have HFA := hide hfa; have HZA := hide hza; have HGA := hide (And.intro hga0 hga1); clear hba hfa hza hga0 hga1 hoa))
    | (go_at_call 7; go_must (refine (refUnits _).mono ?_; rintro e we ⟨wz, rfl, hob, hbz⟩; have HBB : Hid (Below wd.heap.size wd we) := (by rw [hob]; exact hbz.alloc hbz.size _); have HFB : Hid (∀ k, k < 8 → UR we wz.heap.size k) := (fun k hk => uAll_at (by rw [hob]; exact OwnU.new _ _ _) k hk); have HGB : Hid (wz.heap.size < we.heap.size) := (by show _ < _; rw [hob]; simp); clear hob hbz; generalize wz.heap.size = gwe at *))
    | (go_at_call 6; go_must (refine (same_any _ gwd cwd gwe 8 (Nat.lt_of_lt_of_le (unhide HGA).2 (unhide HBB).size) (unhide HGB) (fun k hk => (unhide HFA k hk).later (unhide HBB) (unhide HGA).2) (unhide HFB)).mono ?_; rintro e wf ⟨rfl, hbc⟩; have HBC := hide hbc; clear hbc)))
      go_ret
      have h1 : Below wr.heap.size wr wf := (unhide HBA).trans (((unhide HBB).trans ((unhide HBC).mono (unhide HBB).size)).mono (unhide HBA).size)
      exact ⟨rfl, (unhide HB).trans (h1.mono (unhide HB).size)⟩
end Go.Proofs.YtbjafaojcaafmaaGreatDoor

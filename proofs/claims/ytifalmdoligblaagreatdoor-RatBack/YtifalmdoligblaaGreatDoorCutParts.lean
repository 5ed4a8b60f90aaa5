/- rat.cutParts, whole. -/
import Derived.Test.YtifalmdoligblaaGreatDoorScan
import Derived.Test.YtifalmdoligblaaGreatDoorParse1
import Derived.Deep.Cut
namespace Go.Proofs.YtifalmdoligblaaGreatDoor
open Go.RowKit

def partsV (neg : Bool) (ahead behind exp : ByteArray) (down : Bool) (under : ByteArray) (denAt : Int) : Value := .agg #[.bool neg, .string ahead, .string behind, .string exp, .bool down, .string under, .int .i64 denAt]
def failV (k : Int) : Value := .tuple #[partsV false ⟨#[]⟩ ⟨#[]⟩ ⟨#[]⟩ false ⟨#[]⟩ 0, .int .i64 k]
theorem ended_in (b b' : Bool) (p1 p2 p3 p5 s : ByteArray) (p6 : Int) (k : Int) (w : World) (hk : k < (s.size : Int)) :
    Calls Tryz.prog 135 #[.agg #[.bool b, .string p1, .string p2, .string p3, .bool b', .string p5, .int .i64 p6], .string s, .int .i64 k] w fun r w' => r = .returned (.tuple #[.agg #[.bool false, .string ⟨#[]⟩, .string ⟨#[]⟩, .string ⟨#[]⟩, .bool false, .string ⟨#[]⟩, .int .i64 0], .int .i64 k]) ∧ Below w.heap.size w w' := by
  go_enter Tryz.func135, Tryz.ntmps135
  go_wp2
  refine bodyPost_ret (v := failV k) (by simp [results, Tryz.results135, go_sem, failV, partsV]) rfl ⟨rfl, ?_⟩
  exact ((Below.refl _ _).alloc (Nat.le_refl _) _).alloc (by simp) _

set_option maxRecDepth 100000 in
set_option maxHeartbeats 4000000 in
theorem cutParts_walk (s t1 t5 t2 t6 t3 : ByteArray) (hb : Int → ByteArray → Bool) (ct : Int → ByteArray) (ce : Int → Int) (R : Value) (w : World) (hs : s.size ≤ 65536)
    (h133 : ∀ W (k : Int) (bytes : ByteArray), 0 ≤ k → k ≤ 70000 → Calls Tryz.prog 133 #[.string s, .int .i64 k, .string bytes] W fun e w' => e = .returned (.bool (hb k bytes)) ∧ w' = W)
    (h134 : ∀ W (k : Int), 0 ≤ k → k ≤ (s.size : Int) → Calls Tryz.prog 134 #[.string s, .int .i64 k] W fun r w' => r = .returned (.tuple #[.string (ct k), .int .i64 (ce k)]) ∧ w' = W)
    (b0 z1 sl z5 pt ex dn sg z6 : Bool) (a e1 e5 e2 a3 e6 e3 : Nat)
    (f0 : hb 0 ⟨#[45]⟩ = b0) (ha : a = if b0 then 1 else 0) (has : a ≤ s.size)
    (g1 : ct (a : Int) = t1) (g2 : ce (a : Int) = (e1 : Int)) (m1 : t1.toList.isEmpty = z1) (he1 : e1 ≤ s.size)
    (f1 : hb (e1 : Int) ⟨#[47]⟩ = sl) (f2 : hb (e1 : Int) ⟨#[46]⟩ = pt) (hsp : sl = true ∨ pt = true → e1 + 1 ≤ s.size)
    (g3 : ct ((e1 : Int) + 1) = t5) (g4 : ce ((e1 : Int) + 1) = (e5 : Int)) (m5 : t5.toList.isEmpty = z5) (he5 : e5 ≤ s.size)
    (he2 : e2 = if pt then e5 else e1) (ht2 : t2 = if pt then t5 else ⟨#[]⟩)
    (f3 : hb (e2 : Int) ⟨#[101, 69]⟩ = ex) (hex : ex = true → e2 + 1 ≤ s.size)
    (f4 : hb ((e2 : Int) + 1) ⟨#[45]⟩ = dn) (f5 : hb ((e2 : Int) + 1) ⟨#[43, 45]⟩ = sg) (hsg : sg = true → e2 + 2 ≤ s.size) (ha3 : a3 = if sg then e2 + 2 else e2 + 1)
    (g5 : ct (a3 : Int) = t6) (g6 : ce (a3 : Int) = (e6 : Int)) (m6 : t6.toList.isEmpty = z6)
    (he3 : e3 = if ex then e6 else e2) (ht3 : t3 = if ex then t6 else ⟨#[]⟩)
    (hR : R = if z1 then failV e1 else if sl then (if z5 then failV e5 else if e5 < s.size then failV e5 else .tuple #[partsV b0 t1 ⟨#[]⟩ ⟨#[]⟩ false t5 ((e1 : Int) + 1), .int .i64 (-1)]) else if pt && z5 then failV e5 else if ex && z6 then failV e6 else if e3 < s.size then failV e3 else .tuple #[partsV b0 t1 t2 t3 (ex && dn) ⟨#[]⟩ 0, .int .i64 (-1)]) :
    Calls Tryz.prog 80 #[.string s] w fun r w' => r = .returned R ∧ Below w.heap.size w w' := by
  have H133 := hide h133
  have H134 := hide h134
  have HV := hide hR
  have HA := hide ha
  have HE2 := hide (And.intro he2 ht2)
  have HE3 := hide (And.intro he3 ht3)
  have HA3 := hide ha3
  clear h133 h134 hR ha he2 ht2 he3 ht3 ha3
  go_enter Tryz.func80, Tryz.ntmps80
  go_upto_if 12 with (go_at_call 133; go_must (refine (unhide H133 _ _ _ (by omega) (by omega)).mono ?_; rintro e w1 ⟨rfl, hw1⟩; rw [hw1, f0]; clear hw1))
  go_cut [5] from 6 (fun s5 wx => s5 = .int .i64 (a : Int) ∧ wx = ((w.alloc (.cells #[.bool false, .string ⟨#[]⟩, .string ⟨#[]⟩, .string ⟨#[]⟩, .bool false, .string ⟨#[]⟩, .int .i64 0] 86)).alloc (.cells #[.bool b0, .string ⟨#[]⟩, .string ⟨#[]⟩, .string ⟨#[]⟩, .bool false, .string ⟨#[]⟩, .int .i64 0] 86)))
  case first =>
    cases b0 with
    | true =>
      have ha1 : a = 1 := unhide HA
      go_wp2_with fail
      go_meet
      exact ⟨by rw [ha1]; rfl, rfl⟩
    | false =>
      have ha1 : a = 0 := unhide HA
      go_wp2_with fail
      go_meet
      exact ⟨by rw [ha1]; rfl, rfl⟩
  case rest =>
    obtain ⟨rfl, rfl⟩ := hcut
    clear HA f0
    cases z1 with
    | true =>
      have HF : Hid (R = failV e1) := by show _ = _; rw [unhide HV]; rfl
      go_wp2_with (go_at_call 134; go_must (refine (unhide H134 _ _ (by omega) (by omega)).mono ?_; rintro e w1 ⟨rfl, hw1⟩; rw [hw1, g1, g2]; clear hw1))
      exact bodyPost_ret (v := failV e1) (by simp [results, Tryz.results80, go_sem, failV, partsV]) rfl ⟨by rw [unhide HF], ((Below.refl _ _).alloc (Nat.le_refl _) _).alloc (by simp) _⟩
    | false =>
      go_upto_if 29 with (first
        | (go_at_call 134; go_must (refine (unhide H134 _ _ (by omega) (by omega)).mono ?_; rintro e w1 ⟨rfl, hw1⟩; rw [hw1, g1, g2]; clear hw1))
        | (go_at_call 133; go_must (refine (unhide H133 _ _ _ (by omega) (by omega)).mono ?_; rintro e w1 ⟨rfl, hw1⟩; rw [hw1, f1]; clear hw1)))
      cases sl with
      | true =>
        have hsp1 : e1 + 1 ≤ s.size := hsp (Or.inl rfl)
        cases z5 with
        | true =>
          have HF : Hid (R = failV e5) := by show _ = _; rw [unhide HV]; rfl
          go_wp2_with (go_at_call 134; go_must (refine (unhide H134 _ _ (by omega) (by omega)).mono ?_; rintro e w1 ⟨rfl, hw1⟩; rw [hw1, g3, g4]; clear hw1))
          exact bodyPost_ret (v := failV e5) (by simp [results, Tryz.results80, go_sem, failV, partsV]) rfl ⟨by rw [unhide HF], ((Below.refl _ _).alloc (Nat.le_refl _) _).alloc (by simp) _⟩
        | false =>
          by_cases h5 : e5 < s.size
          · have HF : Hid (R = failV e5) := by show _ = _; rw [unhide HV]; simp [h5]
            go_wp2_with (first
              | (go_at_call 134; go_must (refine (unhide H134 _ _ (by omega) (by omega)).mono ?_; rintro e w1 ⟨rfl, hw1⟩; rw [hw1, g3, g4]; clear hw1))
              | (go_at_call 135; go_must (refine (ended_in _ _ _ _ _ _ _ _ _ _ (by omega)).mono ?_; rintro e w1 ⟨rfl, hb1⟩; have c0 : w1.cell? ⟨w.heap.size, 0, none⟩ = some (.bool false) := (hb1.cell (p := ⟨w.heap.size, 0, none⟩) (by simp; omega)).trans (by simp [go_sem]); have c1 : w1.cell? ⟨w.heap.size, 1, none⟩ = some (.string ⟨#[]⟩) := (hb1.cell (p := ⟨w.heap.size, 1, none⟩) (by simp; omega)).trans (by simp [go_sem]); have c2 : w1.cell? ⟨w.heap.size, 2, none⟩ = some (.string ⟨#[]⟩) := (hb1.cell (p := ⟨w.heap.size, 2, none⟩) (by simp; omega)).trans (by simp [go_sem]); have c3 : w1.cell? ⟨w.heap.size, 3, none⟩ = some (.string ⟨#[]⟩) := (hb1.cell (p := ⟨w.heap.size, 3, none⟩) (by simp; omega)).trans (by simp [go_sem]); have c4 : w1.cell? ⟨w.heap.size, 4, none⟩ = some (.bool false) := (hb1.cell (p := ⟨w.heap.size, 4, none⟩) (by simp; omega)).trans (by simp [go_sem]); have c5 : w1.cell? ⟨w.heap.size, 5, none⟩ = some (.string ⟨#[]⟩) := (hb1.cell (p := ⟨w.heap.size, 5, none⟩) (by simp; omega)).trans (by simp [go_sem]); have c6 : w1.cell? ⟨w.heap.size, 6, none⟩ = some (.int .i64 0) := (hb1.cell (p := ⟨w.heap.size, 6, none⟩) (by simp; omega)).trans (by simp [go_sem]); have k0 : w1.frozen? ⟨w.heap.size, 0, none⟩ = false := (hb1.frozen (p := ⟨w.heap.size, 0, none⟩) (by simp; omega)).trans (by simp [go_sem]); have k1 : w1.frozen? ⟨w.heap.size, 1, none⟩ = false := (hb1.frozen (p := ⟨w.heap.size, 1, none⟩) (by simp; omega)).trans (by simp [go_sem]); have k2 : w1.frozen? ⟨w.heap.size, 2, none⟩ = false := (hb1.frozen (p := ⟨w.heap.size, 2, none⟩) (by simp; omega)).trans (by simp [go_sem]); have k3 : w1.frozen? ⟨w.heap.size, 3, none⟩ = false := (hb1.frozen (p := ⟨w.heap.size, 3, none⟩) (by simp; omega)).trans (by simp [go_sem]); have k4 : w1.frozen? ⟨w.heap.size, 4, none⟩ = false := (hb1.frozen (p := ⟨w.heap.size, 4, none⟩) (by simp; omega)).trans (by simp [go_sem]); have k5 : w1.frozen? ⟨w.heap.size, 5, none⟩ = false := (hb1.frozen (p := ⟨w.heap.size, 5, none⟩) (by simp; omega)).trans (by simp [go_sem]); have k6 : w1.frozen? ⟨w.heap.size, 6, none⟩ = false := (hb1.frozen (p := ⟨w.heap.size, 6, none⟩) (by simp; omega)).trans (by simp [go_sem]); have HB1 := hide (Below.trans (((Below.refl w.heap.size w).alloc (Nat.le_refl _) _).alloc (by simp) _) (hb1.mono (by simp; omega))); clear hb1)))
            exact bodyPost_ret (v := failV e5) (by simp [results, Tryz.results80, go_sem, failV, partsV, c0, c1, c2, c3, c4, c5, c6]) rfl ⟨by rw [unhide HF], (((((((unhide HB1).setCell (p := ⟨w.heap.size, 0, none⟩) (Nat.le_refl _) _).setCell (p := ⟨w.heap.size, 1, none⟩) (Nat.le_refl _) _).setCell (p := ⟨w.heap.size, 2, none⟩) (Nat.le_refl _) _).setCell (p := ⟨w.heap.size, 3, none⟩) (Nat.le_refl _) _).setCell (p := ⟨w.heap.size, 4, none⟩) (Nat.le_refl _) _).setCell (p := ⟨w.heap.size, 5, none⟩) (Nat.le_refl _) _).setCell (p := ⟨w.heap.size, 6, none⟩) (Nat.le_refl _) _⟩
          · have HF : Hid (R = .tuple #[partsV b0 t1 ⟨#[]⟩ ⟨#[]⟩ false t5 ((e1 : Int) + 1), .int .i64 (-1)]) := by show _ = _; rw [unhide HV]; simp [h5]
            go_wp2_with (first
              | (go_at_call 134; go_must (refine (unhide H134 _ _ (by omega) (by omega)).mono ?_; rintro e w1 ⟨rfl, hw1⟩; rw [hw1, g3, g4]; clear hw1))
              | (go_at_call 135; go_must (refine (ended_out _ _ _ _ _ _ _ _ _ _ (by omega)).mono ?_; rintro e w1 ⟨rfl, hb1⟩; have c0 : w1.cell? ⟨w.heap.size, 0, none⟩ = some (.bool false) := (hb1.cell (p := ⟨w.heap.size, 0, none⟩) (by simp; omega)).trans (by simp [go_sem]); have c1 : w1.cell? ⟨w.heap.size, 1, none⟩ = some (.string ⟨#[]⟩) := (hb1.cell (p := ⟨w.heap.size, 1, none⟩) (by simp; omega)).trans (by simp [go_sem]); have c2 : w1.cell? ⟨w.heap.size, 2, none⟩ = some (.string ⟨#[]⟩) := (hb1.cell (p := ⟨w.heap.size, 2, none⟩) (by simp; omega)).trans (by simp [go_sem]); have c3 : w1.cell? ⟨w.heap.size, 3, none⟩ = some (.string ⟨#[]⟩) := (hb1.cell (p := ⟨w.heap.size, 3, none⟩) (by simp; omega)).trans (by simp [go_sem]); have c4 : w1.cell? ⟨w.heap.size, 4, none⟩ = some (.bool false) := (hb1.cell (p := ⟨w.heap.size, 4, none⟩) (by simp; omega)).trans (by simp [go_sem]); have c5 : w1.cell? ⟨w.heap.size, 5, none⟩ = some (.string ⟨#[]⟩) := (hb1.cell (p := ⟨w.heap.size, 5, none⟩) (by simp; omega)).trans (by simp [go_sem]); have c6 : w1.cell? ⟨w.heap.size, 6, none⟩ = some (.int .i64 0) := (hb1.cell (p := ⟨w.heap.size, 6, none⟩) (by simp; omega)).trans (by simp [go_sem]); have k0 : w1.frozen? ⟨w.heap.size, 0, none⟩ = false := (hb1.frozen (p := ⟨w.heap.size, 0, none⟩) (by simp; omega)).trans (by simp [go_sem]); have k1 : w1.frozen? ⟨w.heap.size, 1, none⟩ = false := (hb1.frozen (p := ⟨w.heap.size, 1, none⟩) (by simp; omega)).trans (by simp [go_sem]); have k2 : w1.frozen? ⟨w.heap.size, 2, none⟩ = false := (hb1.frozen (p := ⟨w.heap.size, 2, none⟩) (by simp; omega)).trans (by simp [go_sem]); have k3 : w1.frozen? ⟨w.heap.size, 3, none⟩ = false := (hb1.frozen (p := ⟨w.heap.size, 3, none⟩) (by simp; omega)).trans (by simp [go_sem]); have k4 : w1.frozen? ⟨w.heap.size, 4, none⟩ = false := (hb1.frozen (p := ⟨w.heap.size, 4, none⟩) (by simp; omega)).trans (by simp [go_sem]); have k5 : w1.frozen? ⟨w.heap.size, 5, none⟩ = false := (hb1.frozen (p := ⟨w.heap.size, 5, none⟩) (by simp; omega)).trans (by simp [go_sem]); have k6 : w1.frozen? ⟨w.heap.size, 6, none⟩ = false := (hb1.frozen (p := ⟨w.heap.size, 6, none⟩) (by simp; omega)).trans (by simp [go_sem]); have HB1 := hide (Below.trans (((Below.refl w.heap.size w).alloc (Nat.le_refl _) _).alloc (by simp) _) (hb1.mono (by simp; omega))); clear hb1)))
            exact bodyPost_ret (v := .tuple #[partsV b0 t1 ⟨#[]⟩ ⟨#[]⟩ false t5 ((e1 : Int) + 1), .int .i64 (-1)]) (by simp [results, Tryz.results80, go_sem, partsV, c0, c1, c2, c3, c4, c5, c6]) rfl ⟨by rw [unhide HF], (((((((unhide HB1).setCell (p := ⟨w.heap.size, 0, none⟩) (Nat.le_refl _) _).setCell (p := ⟨w.heap.size, 1, none⟩) (Nat.le_refl _) _).setCell (p := ⟨w.heap.size, 2, none⟩) (Nat.le_refl _) _).setCell (p := ⟨w.heap.size, 3, none⟩) (Nat.le_refl _) _).setCell (p := ⟨w.heap.size, 4, none⟩) (Nat.le_refl _) _).setCell (p := ⟨w.heap.size, 5, none⟩) (Nat.le_refl _) _).setCell (p := ⟨w.heap.size, 6, none⟩) (Nat.le_refl _) _⟩
      | false =>
        go_upto_if 54 with (go_at_call 133; go_must (refine (unhide H133 _ _ _ (by omega) (by omega)).mono ?_; rintro e w1 ⟨rfl, hw1⟩; rw [hw1, f2]; clear hw1))
        go_cut [5] from 6 (fun s5 wx => s5 = .int .i64 (e2 : Int) ∧ (pt && z5) = false ∧ wx = ((w.alloc (.cells #[.bool false, .string ⟨#[]⟩, .string ⟨#[]⟩, .string ⟨#[]⟩, .bool false, .string ⟨#[]⟩, .int .i64 0] 86)).alloc (.cells #[.bool b0, .string t1, .string t2, .string ⟨#[]⟩, .bool false, .string ⟨#[]⟩, .int .i64 0] 86)))
        case first =>
          cases pt with
          | false =>
            have h2 : e2 = e1 ∧ t2 = ⟨#[]⟩ := unhide HE2
            go_wp2_with fail
            go_meet
            exact ⟨by rw [h2.1], rfl, by rw [h2.2]⟩
          | true =>
            have hsp1 : e1 + 1 ≤ s.size := hsp (Or.inr rfl)
            have h2 : e2 = e5 ∧ t2 = t5 := unhide HE2
            cases z5 with
            | true =>
              have HF : Hid (R = failV e5) := by show _ = _; rw [unhide HV]; rfl
              clear h2
              go_wp2_with (go_at_call 134; go_must (refine (unhide H134 _ _ (by omega) (by omega)).mono ?_; rintro e w1 ⟨rfl, hw1⟩; rw [hw1, g3, g4]; clear hw1))
              exact bodyPost_ret (v := failV e5) (by simp [results, Tryz.results80, go_sem, failV, partsV]) rfl ⟨by rw [unhide HF], ((Below.refl _ _).alloc (Nat.le_refl _) _).alloc (by simp) _⟩
            | false =>
              have h21 := hide h2.1; have h22 := hide h2.2
              clear h2
              go_wp2_with (go_at_call 134; go_must (refine (unhide H134 _ _ (by omega) (by omega)).mono ?_; rintro e w1 ⟨rfl, hw1⟩; rw [hw1, g3, g4]; clear hw1))
              go_meet
              exact ⟨by rw [unhide h21], rfl, by rw [unhide h22]⟩
        case rest =>
          obtain ⟨rfl, hpz, rfl⟩ := hcut
          have HPZ := hide hpz
          clear hpz
          have he2s : e2 ≤ s.size := by have := unhide HE2; cases pt <;> simp at this <;> omega
          go_upto_if 70 with (go_at_call 133; go_must (refine (unhide H133 _ _ _ (by omega) (by omega)).mono ?_; rintro e w1 ⟨rfl, hw1⟩; rw [hw1, f3]; clear hw1))
          go_cut [5] from 6 (fun s5 wx => s5 = .int .i64 (e3 : Int) ∧ (ex && z6) = false ∧ wx = ((w.alloc (.cells #[.bool false, .string ⟨#[]⟩, .string ⟨#[]⟩, .string ⟨#[]⟩, .bool false, .string ⟨#[]⟩, .int .i64 0] 86)).alloc (.cells #[.bool b0, .string t1, .string t2, .string t3, .bool (ex && dn), .string ⟨#[]⟩, .int .i64 0] 86)))
          case first =>
            cases ex with
            | false =>
              have h3 : e3 = e2 ∧ t3 = ⟨#[]⟩ := unhide HE3
              go_wp2_with fail
              go_meet
              exact ⟨by rw [h3.1], rfl, by rw [h3.2]; rfl⟩
            | true =>
              have hex1 : e2 + 1 ≤ s.size := hex rfl
              have h3 : e3 = e6 ∧ t3 = t6 := unhide HE3
              have h31 := hide h3.1; have h32 := hide h3.2
              clear h3
              cases sg with
              | false =>
                have ha31 : a3 = e2 + 1 := unhide HA3
                rw [ha31] at g5 g6
                rw [show ((e2 + 1 : Nat) : Int) = (e2 : Int) + 1 by omega] at g5 g6
                cases z6 with
                | true =>
                  have HF : Hid (R = failV e6) := by show _ = _; rw [unhide HV, unhide HPZ]; rfl
                  go_wp2_with (first
                    | (go_at_call 133; go_must (refine (unhide H133 _ _ _ (by omega) (by omega)).mono ?_; rintro e w1 ⟨rfl, hw1⟩; rw [hw1]; first | rw [f4] | rw [f5]; clear hw1))
                    | (go_at_call 134; go_must (refine (unhide H134 _ _ (by omega) (by omega)).mono ?_; rintro e w1 ⟨rfl, hw1⟩; rw [hw1, g5, g6]; clear hw1)))
                  exact bodyPost_ret (v := failV e6) (by simp [results, Tryz.results80, go_sem, failV, partsV]) rfl ⟨by rw [unhide HF], ((Below.refl _ _).alloc (Nat.le_refl _) _).alloc (by simp) _⟩
                | false =>
                  go_wp2_with (first
                    | (go_at_call 133; go_must (refine (unhide H133 _ _ _ (by omega) (by omega)).mono ?_; rintro e w1 ⟨rfl, hw1⟩; rw [hw1]; first | rw [f4] | rw [f5]; clear hw1))
                    | (go_at_call 134; go_must (refine (unhide H134 _ _ (by omega) (by omega)).mono ?_; rintro e w1 ⟨rfl, hw1⟩; rw [hw1, g5, g6]; clear hw1)))
                  go_meet
                  exact ⟨by rw [unhide h31], rfl, by rw [unhide h32]; rfl⟩
              | true =>
                have hsg1 : e2 + 2 ≤ s.size := hsg rfl
                have ha31 : a3 = e2 + 2 := unhide HA3
                rw [ha31] at g5 g6
                rw [show ((e2 + 2 : Nat) : Int) = (e2 : Int) + 1 + 1 by omega] at g5 g6
                cases z6 with
                | true =>
                  have HF : Hid (R = failV e6) := by show _ = _; rw [unhide HV, unhide HPZ]; rfl
                  go_wp2_with (first
                    | (go_at_call 133; go_must (refine (unhide H133 _ _ _ (by omega) (by omega)).mono ?_; rintro e w1 ⟨rfl, hw1⟩; rw [hw1]; first | rw [f4] | rw [f5]; clear hw1))
                    | (go_at_call 134; go_must (refine (unhide H134 _ _ (by omega) (by omega)).mono ?_; rintro e w1 ⟨rfl, hw1⟩; rw [hw1, g5, g6]; clear hw1)))
                  exact bodyPost_ret (v := failV e6) (by simp [results, Tryz.results80, go_sem, failV, partsV]) rfl ⟨by rw [unhide HF], ((Below.refl _ _).alloc (Nat.le_refl _) _).alloc (by simp) _⟩
                | false =>
                  go_wp2_with (first
                    | (go_at_call 133; go_must (refine (unhide H133 _ _ _ (by omega) (by omega)).mono ?_; rintro e w1 ⟨rfl, hw1⟩; rw [hw1]; first | rw [f4] | rw [f5]; clear hw1))
                    | (go_at_call 134; go_must (refine (unhide H134 _ _ (by omega) (by omega)).mono ?_; rintro e w1 ⟨rfl, hw1⟩; rw [hw1, g5, g6]; clear hw1)))
                  go_meet
                  exact ⟨by rw [unhide h31], rfl, by rw [unhide h32]; rfl⟩
          case rest =>
            obtain ⟨rfl, hez, rfl⟩ := hcut
            have HEZ := hide hez
            clear hez
            by_cases h3 : e3 < s.size
            · have HF : Hid (R = failV e3) := by show _ = _; rw [unhide HV, unhide HPZ, unhide HEZ]; simp [h3]
              go_wp2_with (go_at_call 135; go_must (refine (ended_in _ _ _ _ _ _ _ _ _ _ (by omega)).mono ?_; rintro e w1 ⟨rfl, hb1⟩; have c0 : w1.cell? ⟨w.heap.size, 0, none⟩ = some (.bool false) := (hb1.cell (p := ⟨w.heap.size, 0, none⟩) (by simp; omega)).trans (by simp [go_sem]); have c1 : w1.cell? ⟨w.heap.size, 1, none⟩ = some (.string ⟨#[]⟩) := (hb1.cell (p := ⟨w.heap.size, 1, none⟩) (by simp; omega)).trans (by simp [go_sem]); have c2 : w1.cell? ⟨w.heap.size, 2, none⟩ = some (.string ⟨#[]⟩) := (hb1.cell (p := ⟨w.heap.size, 2, none⟩) (by simp; omega)).trans (by simp [go_sem]); have c3 : w1.cell? ⟨w.heap.size, 3, none⟩ = some (.string ⟨#[]⟩) := (hb1.cell (p := ⟨w.heap.size, 3, none⟩) (by simp; omega)).trans (by simp [go_sem]); have c4 : w1.cell? ⟨w.heap.size, 4, none⟩ = some (.bool false) := (hb1.cell (p := ⟨w.heap.size, 4, none⟩) (by simp; omega)).trans (by simp [go_sem]); have c5 : w1.cell? ⟨w.heap.size, 5, none⟩ = some (.string ⟨#[]⟩) := (hb1.cell (p := ⟨w.heap.size, 5, none⟩) (by simp; omega)).trans (by simp [go_sem]); have c6 : w1.cell? ⟨w.heap.size, 6, none⟩ = some (.int .i64 0) := (hb1.cell (p := ⟨w.heap.size, 6, none⟩) (by simp; omega)).trans (by simp [go_sem]); have k0 : w1.frozen? ⟨w.heap.size, 0, none⟩ = false := (hb1.frozen (p := ⟨w.heap.size, 0, none⟩) (by simp; omega)).trans (by simp [go_sem]); have k1 : w1.frozen? ⟨w.heap.size, 1, none⟩ = false := (hb1.frozen (p := ⟨w.heap.size, 1, none⟩) (by simp; omega)).trans (by simp [go_sem]); have k2 : w1.frozen? ⟨w.heap.size, 2, none⟩ = false := (hb1.frozen (p := ⟨w.heap.size, 2, none⟩) (by simp; omega)).trans (by simp [go_sem]); have k3 : w1.frozen? ⟨w.heap.size, 3, none⟩ = false := (hb1.frozen (p := ⟨w.heap.size, 3, none⟩) (by simp; omega)).trans (by simp [go_sem]); have k4 : w1.frozen? ⟨w.heap.size, 4, none⟩ = false := (hb1.frozen (p := ⟨w.heap.size, 4, none⟩) (by simp; omega)).trans (by simp [go_sem]); have k5 : w1.frozen? ⟨w.heap.size, 5, none⟩ = false := (hb1.frozen (p := ⟨w.heap.size, 5, none⟩) (by simp; omega)).trans (by simp [go_sem]); have k6 : w1.frozen? ⟨w.heap.size, 6, none⟩ = false := (hb1.frozen (p := ⟨w.heap.size, 6, none⟩) (by simp; omega)).trans (by simp [go_sem]); have HB1 := hide (Below.trans (((Below.refl w.heap.size w).alloc (Nat.le_refl _) _).alloc (by simp) _) (hb1.mono (by simp; omega))); clear hb1))
              exact bodyPost_ret (v := failV e3) (by simp [results, Tryz.results80, go_sem, failV, partsV, c0, c1, c2, c3, c4, c5, c6]) rfl ⟨by rw [unhide HF], (((((((unhide HB1).setCell (p := ⟨w.heap.size, 0, none⟩) (Nat.le_refl _) _).setCell (p := ⟨w.heap.size, 1, none⟩) (Nat.le_refl _) _).setCell (p := ⟨w.heap.size, 2, none⟩) (Nat.le_refl _) _).setCell (p := ⟨w.heap.size, 3, none⟩) (Nat.le_refl _) _).setCell (p := ⟨w.heap.size, 4, none⟩) (Nat.le_refl _) _).setCell (p := ⟨w.heap.size, 5, none⟩) (Nat.le_refl _) _).setCell (p := ⟨w.heap.size, 6, none⟩) (Nat.le_refl _) _⟩
            · have HF : Hid (R = .tuple #[partsV b0 t1 t2 t3 (ex && dn) ⟨#[]⟩ 0, .int .i64 (-1)]) := by show _ = _; rw [unhide HV, unhide HPZ, unhide HEZ]; simp [h3]
              go_wp2_with (go_at_call 135; go_must (refine (ended_out _ _ _ _ _ _ _ _ _ _ (by omega)).mono ?_; rintro e w1 ⟨rfl, hb1⟩; have c0 : w1.cell? ⟨w.heap.size, 0, none⟩ = some (.bool false) := (hb1.cell (p := ⟨w.heap.size, 0, none⟩) (by simp; omega)).trans (by simp [go_sem]); have c1 : w1.cell? ⟨w.heap.size, 1, none⟩ = some (.string ⟨#[]⟩) := (hb1.cell (p := ⟨w.heap.size, 1, none⟩) (by simp; omega)).trans (by simp [go_sem]); have c2 : w1.cell? ⟨w.heap.size, 2, none⟩ = some (.string ⟨#[]⟩) := (hb1.cell (p := ⟨w.heap.size, 2, none⟩) (by simp; omega)).trans (by simp [go_sem]); have c3 : w1.cell? ⟨w.heap.size, 3, none⟩ = some (.string ⟨#[]⟩) := (hb1.cell (p := ⟨w.heap.size, 3, none⟩) (by simp; omega)).trans (by simp [go_sem]); have c4 : w1.cell? ⟨w.heap.size, 4, none⟩ = some (.bool false) := (hb1.cell (p := ⟨w.heap.size, 4, none⟩) (by simp; omega)).trans (by simp [go_sem]); have c5 : w1.cell? ⟨w.heap.size, 5, none⟩ = some (.string ⟨#[]⟩) := (hb1.cell (p := ⟨w.heap.size, 5, none⟩) (by simp; omega)).trans (by simp [go_sem]); have c6 : w1.cell? ⟨w.heap.size, 6, none⟩ = some (.int .i64 0) := (hb1.cell (p := ⟨w.heap.size, 6, none⟩) (by simp; omega)).trans (by simp [go_sem]); have k0 : w1.frozen? ⟨w.heap.size, 0, none⟩ = false := (hb1.frozen (p := ⟨w.heap.size, 0, none⟩) (by simp; omega)).trans (by simp [go_sem]); have k1 : w1.frozen? ⟨w.heap.size, 1, none⟩ = false := (hb1.frozen (p := ⟨w.heap.size, 1, none⟩) (by simp; omega)).trans (by simp [go_sem]); have k2 : w1.frozen? ⟨w.heap.size, 2, none⟩ = false := (hb1.frozen (p := ⟨w.heap.size, 2, none⟩) (by simp; omega)).trans (by simp [go_sem]); have k3 : w1.frozen? ⟨w.heap.size, 3, none⟩ = false := (hb1.frozen (p := ⟨w.heap.size, 3, none⟩) (by simp; omega)).trans (by simp [go_sem]); have k4 : w1.frozen? ⟨w.heap.size, 4, none⟩ = false := (hb1.frozen (p := ⟨w.heap.size, 4, none⟩) (by simp; omega)).trans (by simp [go_sem]); have k5 : w1.frozen? ⟨w.heap.size, 5, none⟩ = false := (hb1.frozen (p := ⟨w.heap.size, 5, none⟩) (by simp; omega)).trans (by simp [go_sem]); have k6 : w1.frozen? ⟨w.heap.size, 6, none⟩ = false := (hb1.frozen (p := ⟨w.heap.size, 6, none⟩) (by simp; omega)).trans (by simp [go_sem]); have HB1 := hide (Below.trans (((Below.refl w.heap.size w).alloc (Nat.le_refl _) _).alloc (by simp) _) (hb1.mono (by simp; omega))); clear hb1))
              exact bodyPost_ret (v := .tuple #[partsV b0 t1 t2 t3 (ex && dn) ⟨#[]⟩ 0, .int .i64 (-1)]) (by simp [results, Tryz.results80, go_sem, partsV, c0, c1, c2, c3, c4, c5, c6]) rfl ⟨by rw [unhide HF], (((((((unhide HB1).setCell (p := ⟨w.heap.size, 0, none⟩) (Nat.le_refl _) _).setCell (p := ⟨w.heap.size, 1, none⟩) (Nat.le_refl _) _).setCell (p := ⟨w.heap.size, 2, none⟩) (Nat.le_refl _) _).setCell (p := ⟨w.heap.size, 3, none⟩) (Nat.le_refl _) _).setCell (p := ⟨w.heap.size, 4, none⟩) (Nat.le_refl _) _).setCell (p := ⟨w.heap.size, 5, none⟩) (Nat.le_refl _) _).setCell (p := ⟨w.heap.size, 6, none⟩) (Nat.le_refl _) _⟩
end Go.Proofs.YtifalmdoligblaaGreatDoor

/- A unit of temperature: its factor and its offset. -/
import Derived.Test.YtimihoonnglniaaGreatDoorLit
import Derived.Test.YtimihoonnglniaaGreatDoorScale
namespace Go.Proofs.YtimihoonnglniaaGreatDoor
open Go.RowKit
theorem one_lt (E : Nat) (h : E = 600) : (1 : Nat) < 10 ^ E := Nat.one_lt_pow (by omega) (by decide)
theorem pow20_600 (E : Nat) (h : E = 600) : 10 ^ 20 ≤ 10 ^ E := Nat.pow_le_pow_right (by decide) (by omega)
theorem small_of {x : Rat} (h1 : x.num.natAbs < 10 ^ 20) (h2 : x.den < 10 ^ 20) : Small x := ⟨Nat.lt_of_lt_of_le h1 (pow20_600 600 rfl), Nat.lt_of_lt_of_le h2 (pow20_600 600 rfl)⟩
theorem isR_whole (N : Nat) (hN : N < 9223372036854775808) : IsR (sT false N) ⟨#[49]⟩ (Cub.valQ false N 1) := by
  have hs : N < 10 ^ 600 := u64_600 N (by omega)
  have hl : Cub.Low false N 1 := ⟨by decide, Nat.gcd_one_right _, fun h => by cases h⟩
  obtain ⟨e1, e2, e3⟩ := Cub.low_is hl
  have hsm : Small (Cub.valQ false N 1) := ⟨by rw [← e2]; exact hs, by rw [← e3]; exact one_lt 600 rfl⟩
  refine ⟨hsm, ?_, ?_⟩
  · unfold numT; rw [if_pos hsm, ← e1, ← e2]
  · unfold denT; rw [if_pos hsm, ← e3]; exact (lit_tb ⟨#[49]⟩ 1 (by decide) (by decide)).1
theorem told_any (N D : Nat) (q : Rat) (w : World) (hN : N < 9223372036854775808) (hD : D < 9223372036854775808) (hD0 : Cub.valQ false D 1 ≠ 0) (hq : Cub.valQ false N 1 * (Cub.valQ false D 1)⁻¹ = q) (hs : Small q) (htab : Tab w) :
    Calls Tryz.prog 92 #[.agg #[.int .i64 (N : Int), .int .i64 (D : Int)]] w fun r w' => r = .returned (.agg #[.string (numT q), .string (denT q)]) ∧ Below w.heap.size w w' := by
  refine told_walk (N : Int) (D : Int) (sT false N) ⟨#[49]⟩ (sT false D) ⟨#[49]⟩ (numT q) (denT q) w (fun W hb => ratOf_pos N W hN (htab.later hb)) (fun W hb => ratOf_pos D W hD (htab.later hb)) (fun W hb => ?_)
  have h := rquo_ok (sT false N) ⟨#[49]⟩ (sT false D) ⟨#[49]⟩ _ _ W (isR_whole N hN) (isR_whole D hD) hD0 (htab.later hb)
  unfold Ans at h
  rw [hq, show errT q = 0 from by unfold errT; rw [if_pos hs]] at h
  exact h

set_option maxRecDepth 100000 in
set_option maxHeartbeats 4000000 in
theorem frac_any (N D : Nat) (q : Rat) (w : World) (hN : N < 9223372036854775808) (hD : D < 9223372036854775808) (hD0 : Cub.valQ false D 1 ≠ 0) (hq : Cub.valQ false N 1 * (Cub.valQ false D 1)⁻¹ = q) (hs : Small q) (htab : Tab w) :
    Calls Tryz.prog 66 #[.agg #[.int .i64 (N : Int), .int .i64 (D : Int)]] w fun r w' => ∃ v, r = .returned v ∧ QOf w' v q 67 ∧ Below w.heap.size w w' := by
  obtain ⟨V, hV⟩ : ∃ V, V = (w.alloc (.cells #[.int .i64 (N : Int), .int .i64 (D : Int)] 96)).alloc (.cells #[.bool false, .slice none 0 0, .slice none 0 0] 45) := ⟨_, rfl⟩
  have HA : Hid (T2 V w.heap.size (.int .i64 (N : Int)) (.int .i64 (D : Int))) := by rw [hV]; exact ⟨by simp [go_sem], by simp [go_sem], by simp [go_sem], by simp [go_sem]⟩
  have HR : Hid (FBox V (w.heap.size + 1) (.bool false) (.slice none 0 0) (.slice none 0 0)) := by rw [hV]; exact ⟨by simp [go_sem], by simp [go_sem], by simp [go_sem], by simp [go_sem], by simp [go_sem], by simp [go_sem]⟩
  have HB : Hid (Below w.heap.size w V) := by rw [hV]; exact ((Below.refl _ _).alloc (Nat.le_refl _) _).alloc (by simp) _
  have HV := hide hV
  have HT := hide (fun W hb => told_any N D q W hN hD hD0 hq hs (htab.later hb))
  have HRD := hide (fun W => qread (numT q) (denT q) q W (numT_of hs))
  clear hV htab hs hq hD0 hN hD
  generalize numT q = nt at *
  generalize denT q = dt at *
  go_enter Tryz.func66, Tryz.ntmps66
  go_upto_region 1 with fail
  rw [← unhide HV]
  clear HV
  have t0 := (unhide HA).c0; have t1 := (unhide HA).c1
  go_upto_region 2 with (first
    | (go_at_call 92; go_must (refine (unhide HT _ (unhide HB)).mono ?_; rintro e w1 ⟨rfl, hb1⟩; have HB1 := hide hb1; clear hb1 t0 t1))
    | (go_at_call 40; go_must (refine (unhide HRD _).mono ?_; rintro e w2 ⟨v2, rfl, hv2, hb2⟩; obtain ⟨b1, i1, i2, i3, i4, i5, i6, rfl⟩ := hv2.form; have HV2 := hide hv2; have HB2 : Hid (Below V.heap.size V w2) := (unhide HB1).trans (hb2.mono (unhide HB1).size); clear hv2 hb2)))
  obtain ⟨U, hU⟩ : ∃ U, U = w2.alloc (.cells #[.bool b1, .slice i1 i2 i3, .slice i4 i5 i6] 45) := ⟨_, rfl⟩
  have HBU2 : Hid (Below w2.heap.size w2 U) := by rw [hU]; exact (Below.refl _ _).alloc (Nat.le_refl _) _
  have HX : Hid (FBox U w2.heap.size (.bool b1) (.slice i1 i2 i3) (.slice i4 i5 i6)) := by rw [hU]; exact ⟨by simp [go_sem], by simp [go_sem], by simp [go_sem], by simp [go_sem], by simp [go_sem], by simp [go_sem]⟩
  rw [← hU]
  clear hU
  have HBU : Hid (Below V.heap.size V U) := (unhide HB2).trans ((unhide HBU2).mono (unhide HB2).size)
  have HRU := hide ((unhide HR).later (unhide HBU))
  have HVU := hide ((unhide HV2).later (unhide HBU2))
  have HBW : Hid (Below w.heap.size w U) := (unhide HB).trans ((unhide HBU).mono (unhide HB).size)
  generalize w2.heap.size = g2 at *
  have x0 := (unhide HX).c0; have x1 := (unhide HX).c1; have x2 := (unhide HX).c2
  have r0 := (unhide HRU).c0; have r1 := (unhide HRU).c1; have r2 := (unhide HRU).c2; have rf0 := (unhide HRU).f0; have rf1 := (unhide HRU).f1; have rf2 := (unhide HRU).f2
  go_wp2_with fail
  have hS := (unhide HRU).store (.bool b1) (.slice i1 i2 i3) (.slice i4 i5 i6)
  have u0 := hS.c0; have u1 := hS.c1; have u2 := hS.c2
  exact bodyPost_ret (v := .agg #[.bool b1, .slice i1 i2 i3, .slice i4 i5 i6]) (w := store3 U (w.heap.size + 1) (.bool b1) (.slice i1 i2 i3) (.slice i4 i5 i6)) (by simp [results, Tryz.results66, go_sem, u0, u1, u2]) rfl ⟨_, rfl, (unhide HVU).stored (unhide HRU), below_store3 (unhide HBW) (by omega) _ _ _⟩

/-- Six cells of a unit. -/
structure T6 (W : World) (g : Nat) (a b c d e f : Value) : Prop where
  c0 : W.cell? ⟨g, 0, none⟩ = some a
  c1 : W.cell? ⟨g, 1, none⟩ = some b
  c2 : W.cell? ⟨g, 2, none⟩ = some c
  c3 : W.cell? ⟨g, 3, none⟩ = some d
  c4 : W.cell? ⟨g, 4, none⟩ = some e
  c5 : W.cell? ⟨g, 5, none⟩ = some f
  f0 : W.frozen? ⟨g, 0, none⟩ = false
  f1 : W.frozen? ⟨g, 1, none⟩ = false
  f2 : W.frozen? ⟨g, 2, none⟩ = false
  f3 : W.frozen? ⟨g, 3, none⟩ = false
  f4 : W.frozen? ⟨g, 4, none⟩ = false
  f5 : W.frozen? ⟨g, 5, none⟩ = false
theorem T6.lt {W : World} {g : Nat} {a b c d e f : Value} (h : T6 W g a b c d e f) : g < W.heap.size := World.block_lt_of_cell? _ _ h.c0
theorem T6.later {W V : World} {g : Nat} {a b c d e f : Value} (h : T6 W g a b c d e f) (hb : Below W.heap.size W V) : T6 V g a b c d e f :=
  ⟨(hb.cell (p := ⟨g, 0, none⟩) h.lt).trans h.c0, (hb.cell (p := ⟨g, 1, none⟩) h.lt).trans h.c1, (hb.cell (p := ⟨g, 2, none⟩) h.lt).trans h.c2, (hb.cell (p := ⟨g, 3, none⟩) h.lt).trans h.c3, (hb.cell (p := ⟨g, 4, none⟩) h.lt).trans h.c4, (hb.cell (p := ⟨g, 5, none⟩) h.lt).trans h.c5, (hb.frozen (p := ⟨g, 0, none⟩) h.lt).trans h.f0, (hb.frozen (p := ⟨g, 1, none⟩) h.lt).trans h.f1, (hb.frozen (p := ⟨g, 2, none⟩) h.lt).trans h.f2, (hb.frozen (p := ⟨g, 3, none⟩) h.lt).trans h.f3, (hb.frozen (p := ⟨g, 4, none⟩) h.lt).trans h.f4, (hb.frozen (p := ⟨g, 5, none⟩) h.lt).trans h.f5⟩

set_option maxRecDepth 100000 in
set_option maxHeartbeats 4000000 in
theorem steps_any (ux z : Value) (p x : Rat) (k : Nat) (w : World) (b c d : Bool) (a1 a2 a3 a4 a5 a6 : Option Addr) (l1 c1 l2 c2 l3 c3 l4 c4 l5 c5 l6 c6 : Nat) (hux : ux = .agg #[.bool b, .slice a1 l1 c1, .slice a2 l2 c2]) (hzz : z = .agg #[.bool d, .slice a5 l5 c5, .slice a6 l6 c6]) (hx : QOf w ux p k) (hz : QOf w z x k) (hk : k + k ≤ 100000) :
    Calls Tryz.prog 27 #[.agg #[.bool b, .slice a1 l1 c1, .slice a2 l2 c2, .bool c, .slice a3 l3 c3, .slice a4 l4 c4], z] w fun r w' => ∃ v, r = .returned v ∧ QOf w' v (x * p) (k + k) ∧ Below w.heap.size w w' := by
  subst hux hzz
  obtain ⟨V, hV⟩ : ∃ V, V = ((w.alloc (.cells #[.bool b, .slice a1 l1 c1, .slice a2 l2 c2, .bool c, .slice a3 l3 c3, .slice a4 l4 c4] 47)).alloc (.cells #[.bool d, .slice a5 l5 c5, .slice a6 l6 c6] 45)).alloc (.cells #[.bool false, .slice none 0 0, .slice none 0 0] 45) := ⟨_, rfl⟩
  have HU : Hid (T6 V w.heap.size (.bool b) (.slice a1 l1 c1) (.slice a2 l2 c2) (.bool c) (.slice a3 l3 c3) (.slice a4 l4 c4)) := by rw [hV]; exact ⟨by simp [go_sem], by simp [go_sem], by simp [go_sem], by simp [go_sem], by simp [go_sem], by simp [go_sem], by simp [go_sem], by simp [go_sem], by simp [go_sem], by simp [go_sem], by simp [go_sem], by simp [go_sem]⟩
  have HN : Hid (FBox V (w.heap.size + 1) (.bool d) (.slice a5 l5 c5) (.slice a6 l6 c6)) := by rw [hV]; exact ⟨by simp [go_sem], by simp [go_sem], by simp [go_sem], by simp [go_sem], by simp [go_sem], by simp [go_sem]⟩
  have HR : Hid (FBox V (w.heap.size + 2) (.bool false) (.slice none 0 0) (.slice none 0 0)) := by rw [hV]; exact ⟨by simp [go_sem], by simp [go_sem], by simp [go_sem], by simp [go_sem], by simp [go_sem], by simp [go_sem]⟩
  have HB : Hid (Below w.heap.size w V) := by rw [hV]; exact (((Below.refl _ _).alloc (Nat.le_refl _) _).alloc (by simp) _).alloc (by simp; omega) _
  have HV := hide hV
  have HQ := hide (qmul _ _ x p k V (hz.later (unhide HB)) (hx.later (unhide HB)) (by omega))
  clear hV hx hz
  go_enter Tryz.func27, Tryz.ntmps27
  go_upto_region 1 with fail
  rw [← unhide HV]
  clear HV
  have t0 := (unhide HU).c0; have t1 := (unhide HU).c1; have t2 := (unhide HU).c2; have s0 := (unhide HN).c0; have s1 := (unhide HN).c1; have s2 := (unhide HN).c2
  go_wp2_with (go_at_call 50; go_must (refine (unhide HQ).mono ?_; rintro e w1 ⟨v1, rfl, hv1, hb1⟩; obtain ⟨b1, i1, i2, i3, i4, i5, i6, rfl⟩ := hv1.form; have HV1 := hide hv1; have HR1 := hide ((unhide HR).later hb1); have HBW : Hid (Below w.heap.size w w1) := (unhide HB).trans (hb1.mono (unhide HB).size); clear hv1 hb1 t0 t1 t2 s0 s1 s2; have r0 := (unhide HR1).c0; have r1 := (unhide HR1).c1; have r2 := (unhide HR1).c2; have rf0 := (unhide HR1).f0; have rf1 := (unhide HR1).f1; have rf2 := (unhide HR1).f2))
  have hS := (unhide HR1).store (.bool b1) (.slice i1 i2 i3) (.slice i4 i5 i6)
  have u0 := hS.c0; have u1 := hS.c1; have u2 := hS.c2
  exact bodyPost_ret (v := .agg #[.bool b1, .slice i1 i2 i3, .slice i4 i5 i6]) (w := store3 w1 (w.heap.size + 2) (.bool b1) (.slice i1 i2 i3) (.slice i4 i5 i6)) (by simp [results, Tryz.results27, go_sem, u0, u1, u2]) rfl ⟨_, rfl, (unhide HV1).stored (unhide HR1), below_store3 (unhide HBW) (by omega) _ _ _⟩

set_option maxRecDepth 100000 in
set_option maxHeartbeats 4000000 in
theorem count_any (ux z : Value) (p x : Rat) (k : Nat) (w : World) (b c d : Bool) (a1 a2 a3 a4 a5 a6 : Option Addr) (l1 c1 l2 c2 l3 c3 l4 c4 l5 c5 l6 c6 : Nat) (hux : ux = .agg #[.bool b, .slice a1 l1 c1, .slice a2 l2 c2]) (hzz : z = .agg #[.bool d, .slice a5 l5 c5, .slice a6 l6 c6]) (hx : QOf w ux p k) (hz : QOf w z x k) (hk : k + k ≤ 100000) (hp0 : p ≠ 0) :
    Calls Tryz.prog 28 #[.agg #[.bool b, .slice a1 l1 c1, .slice a2 l2 c2, .bool c, .slice a3 l3 c3, .slice a4 l4 c4], z] w fun r w' => ∃ v, r = .returned v ∧ QOf w' v (x * p⁻¹) (k + k) ∧ Below w.heap.size w w' := by
  subst hux hzz
  obtain ⟨V, hV⟩ : ∃ V, V = ((w.alloc (.cells #[.bool b, .slice a1 l1 c1, .slice a2 l2 c2, .bool c, .slice a3 l3 c3, .slice a4 l4 c4] 47)).alloc (.cells #[.bool d, .slice a5 l5 c5, .slice a6 l6 c6] 45)).alloc (.cells #[.bool false, .slice none 0 0, .slice none 0 0] 45) := ⟨_, rfl⟩
  have HU : Hid (T6 V w.heap.size (.bool b) (.slice a1 l1 c1) (.slice a2 l2 c2) (.bool c) (.slice a3 l3 c3) (.slice a4 l4 c4)) := by rw [hV]; exact ⟨by simp [go_sem], by simp [go_sem], by simp [go_sem], by simp [go_sem], by simp [go_sem], by simp [go_sem], by simp [go_sem], by simp [go_sem], by simp [go_sem], by simp [go_sem], by simp [go_sem], by simp [go_sem]⟩
  have HN : Hid (FBox V (w.heap.size + 1) (.bool d) (.slice a5 l5 c5) (.slice a6 l6 c6)) := by rw [hV]; exact ⟨by simp [go_sem], by simp [go_sem], by simp [go_sem], by simp [go_sem], by simp [go_sem], by simp [go_sem]⟩
  have HR : Hid (FBox V (w.heap.size + 2) (.bool false) (.slice none 0 0) (.slice none 0 0)) := by rw [hV]; exact ⟨by simp [go_sem], by simp [go_sem], by simp [go_sem], by simp [go_sem], by simp [go_sem], by simp [go_sem]⟩
  have HB : Hid (Below w.heap.size w V) := by rw [hV]; exact (((Below.refl _ _).alloc (Nat.le_refl _) _).alloc (by simp) _).alloc (by simp; omega) _
  have HV := hide hV
  have HQ := hide (qquo _ _ x p k V (hz.later (unhide HB)) (hx.later (unhide HB)) (by omega) hp0)
  clear hV hx hz
  go_enter Tryz.func28, Tryz.ntmps28
  go_upto_region 1 with fail
  rw [← unhide HV]
  clear HV
  have t0 := (unhide HU).c0; have t1 := (unhide HU).c1; have t2 := (unhide HU).c2; have s0 := (unhide HN).c0; have s1 := (unhide HN).c1; have s2 := (unhide HN).c2
  go_wp2_with (go_at_call 51; go_must (refine (unhide HQ).mono ?_; rintro e w1 ⟨v1, rfl, hv1, hb1⟩; obtain ⟨b1, i1, i2, i3, i4, i5, i6, rfl⟩ := hv1.form; have HV1 := hide hv1; have HR1 := hide ((unhide HR).later hb1); have HBW : Hid (Below w.heap.size w w1) := (unhide HB).trans (hb1.mono (unhide HB).size); clear hv1 hb1 t0 t1 t2 s0 s1 s2; have r0 := (unhide HR1).c0; have r1 := (unhide HR1).c1; have r2 := (unhide HR1).c2; have rf0 := (unhide HR1).f0; have rf1 := (unhide HR1).f1; have rf2 := (unhide HR1).f2))
  have hS := (unhide HR1).store (.bool b1) (.slice i1 i2 i3) (.slice i4 i5 i6)
  have u0 := hS.c0; have u1 := hS.c1; have u2 := hS.c2
  exact bodyPost_ret (v := .agg #[.bool b1, .slice i1 i2 i3, .slice i4 i5 i6]) (w := store3 w1 (w.heap.size + 2) (.bool b1) (.slice i1 i2 i3) (.slice i4 i5 i6)) (by simp [results, Tryz.results28, go_sem, u0, u1, u2]) rfl ⟨_, rfl, (unhide HV1).stored (unhide HR1), below_store3 (unhide HBW) (by omega) _ _ _⟩

set_option maxRecDepth 100000 in
set_option maxHeartbeats 4000000 in
theorem kelvins_any (ux uy z : Value) (p q x : Rat) (k : Nat) (w : World) (b c d : Bool) (a1 a2 a3 a4 a5 a6 : Option Addr) (l1 c1 l2 c2 l3 c3 l4 c4 l5 c5 l6 c6 : Nat) (hux : ux = .agg #[.bool b, .slice a1 l1 c1, .slice a2 l2 c2]) (huy : uy = .agg #[.bool c, .slice a3 l3 c3, .slice a4 l4 c4]) (hzz : z = .agg #[.bool d, .slice a5 l5 c5, .slice a6 l6 c6]) (hx : QOf w ux p k) (hy : QOf w uy q k) (hz : QOf w z x k) (hk : 10 * k ≤ 100000) :
    Calls Tryz.prog 20 #[.agg #[.bool b, .slice a1 l1 c1, .slice a2 l2 c2, .bool c, .slice a3 l3 c3, .slice a4 l4 c4], z] w fun r w' => ∃ v, r = .returned v ∧ QOf w' v (x * p + q) (k + k + (k + k) + (k + k)) ∧ Below w.heap.size w w' := by
  subst hux huy hzz
  obtain ⟨V, hV⟩ : ∃ V, V = ((w.alloc (.cells #[.bool b, .slice a1 l1 c1, .slice a2 l2 c2, .bool c, .slice a3 l3 c3, .slice a4 l4 c4] 47)).alloc (.cells #[.bool d, .slice a5 l5 c5, .slice a6 l6 c6] 45)).alloc (.cells #[.bool false, .slice none 0 0, .slice none 0 0] 45) := ⟨_, rfl⟩
  have HU : Hid (T6 V w.heap.size (.bool b) (.slice a1 l1 c1) (.slice a2 l2 c2) (.bool c) (.slice a3 l3 c3) (.slice a4 l4 c4)) := by rw [hV]; exact ⟨by simp [go_sem], by simp [go_sem], by simp [go_sem], by simp [go_sem], by simp [go_sem], by simp [go_sem], by simp [go_sem], by simp [go_sem], by simp [go_sem], by simp [go_sem], by simp [go_sem], by simp [go_sem]⟩
  have HN : Hid (FBox V (w.heap.size + 1) (.bool d) (.slice a5 l5 c5) (.slice a6 l6 c6)) := by rw [hV]; exact ⟨by simp [go_sem], by simp [go_sem], by simp [go_sem], by simp [go_sem], by simp [go_sem], by simp [go_sem]⟩
  have HR : Hid (FBox V (w.heap.size + 2) (.bool false) (.slice none 0 0) (.slice none 0 0)) := by rw [hV]; exact ⟨by simp [go_sem], by simp [go_sem], by simp [go_sem], by simp [go_sem], by simp [go_sem], by simp [go_sem]⟩
  have HB : Hid (Below w.heap.size w V) := by rw [hV]; exact (((Below.refl _ _).alloc (Nat.le_refl _) _).alloc (by simp) _).alloc (by simp; omega) _
  have HV := hide hV
  have HX := hide hx; have HY := hide hy; have HZ := hide hz
  clear hV hx hy hz
  go_enter Tryz.func20, Tryz.ntmps20
  go_upto_region 1 with fail
  rw [← unhide HV]
  clear HV
  have HS : Hid (∀ W, Below V.heap.size V W → W.cell? ⟨w.heap.size, 0, none⟩ = some (.bool b) ∧ W.cell? ⟨w.heap.size, 1, none⟩ = some (.slice a1 l1 c1) ∧ W.cell? ⟨w.heap.size, 2, none⟩ = some (.slice a2 l2 c2) ∧ W.cell? ⟨w.heap.size, 3, none⟩ = some (.bool c) ∧ W.cell? ⟨w.heap.size, 4, none⟩ = some (.slice a3 l3 c3) ∧ W.cell? ⟨w.heap.size, 5, none⟩ = some (.slice a4 l4 c4) ∧ W.cell? ⟨w.heap.size + 1, 0, none⟩ = some (.bool d) ∧ W.cell? ⟨w.heap.size + 1, 1, none⟩ = some (.slice a5 l5 c5) ∧ W.cell? ⟨w.heap.size + 1, 2, none⟩ = some (.slice a6 l6 c6)) := fun W hb => by
    have h1 := (unhide HU).later hb; have h2 := (unhide HN).later hb
    exact ⟨h1.c0, h1.c1, h1.c2, h1.c3, h1.c4, h1.c5, h2.c0, h2.c1, h2.c2⟩
  have HS0 := hide (unhide HS V.drew ((Below.refl _ _).drew))
  have HD : Hid (Below w.heap.size w V.drew) := (unhide HB).trans ((Below.refl _ _).drew.mono (unhide HB).size)
  refine region_reads 6 (fun W => W.cell? ⟨w.heap.size, 0, none⟩ = some (.bool b) ∧ W.cell? ⟨w.heap.size, 1, none⟩ = some (.slice a1 l1 c1) ∧ W.cell? ⟨w.heap.size, 2, none⟩ = some (.slice a2 l2 c2) ∧ W.cell? ⟨w.heap.size, 3, none⟩ = some (.bool c) ∧ W.cell? ⟨w.heap.size, 4, none⟩ = some (.slice a3 l3 c3) ∧ W.cell? ⟨w.heap.size, 5, none⟩ = some (.slice a4 l4 c4) ∧ W.cell? ⟨w.heap.size + 1, 0, none⟩ = some (.bool d) ∧ W.cell? ⟨w.heap.size + 1, 1, none⟩ = some (.slice a5 l5 c5) ∧ W.cell? ⟨w.heap.size + 1, 2, none⟩ = some (.slice a6 l6 c6)) (fun _ => True) 7 rfl (by kernel_rfl) ?_
  refine wpR_take (i := 0) (oi := _) (v := .agg #[.bool b, .slice a1 l1 c1, .slice a2 l2 c2, .bool c, .slice a3 l3 c3, .slice a4 l4 c4]) rfl (by kernel_rfl) (by kernel_rfl) (by kernel_rfl) (by kernel_rfl) (fun _ _ _ h => h) (Or.inl ⟨by rfl, ?_⟩) ⟨unhide HS0, trivial⟩ ?_
  · intro W hW
    go_split_ands
    go_simp
  refine wpR_take (i := 1) (oi := _) (v := .agg #[.bool d, .slice a5 l5 c5, .slice a6 l6 c6]) rfl (by kernel_rfl) (by kernel_rfl) (by kernel_rfl) (by kernel_rfl) (fun _ _ _ h => h) (Or.inl ⟨by rfl, ?_⟩) ⟨unhide HS0, trivial⟩ ?_
  · intro W hW
    go_split_ands
    go_simp
  refine wpR_take (i := 3) (oi := _) (v := .pointer (some ⟨w.heap.size, 3, none⟩)) rfl (by kernel_rfl) (by kernel_rfl) (by kernel_rfl) (by kernel_rfl) (fun _ _ _ h => h) (Or.inl ⟨by rfl, ?_⟩) ⟨unhide HS0, trivial⟩ ?_
  · intro W hW
    go_split_ands
    go_simp
  refine wpR_take (i := 4) (oi := _) (v := .agg #[.bool c, .slice a3 l3 c3, .slice a4 l4 c4]) rfl (by kernel_rfl) (by kernel_rfl) (by kernel_rfl) (by kernel_rfl) (fun _ _ _ h => h) (Or.inl ⟨by rfl, ?_⟩) ⟨unhide HS0, trivial⟩ ?_
  · intro W hW
    go_split_ands
    go_simp
  refine wpR_op (i := 2) (o := _) (by kernel_rfl) rfl rfl (fun K hK => ?_)
  go_simp
  refine (steps_any _ _ p x k _ b c d a1 a2 a3 a4 a5 a6 l1 c1 l2 c2 l3 c3 l4 c4 l5 c5 l6 c6 rfl rfl ((unhide HX).later (unhide HD)) ((unhide HZ).later (unhide HD)) (by omega)).mono ?_
  rintro e wa ⟨va, rfl, hva, hba⟩
  obtain ⟨b7, j1, j2, j3, j4, j5, j6, rfl⟩ := hva.form
  have HBA : Hid (Below V.heap.size V wa) := (Below.refl _ _).drew.trans (hba.mono (Below.refl V.heap.size V).drew.size)
  have HSA := hide (unhide HS wa (unhide HBA))
  have HVA := hide hva
  have HBWA : Hid (Below w.heap.size w wa) := (unhide HB).trans ((unhide HBA).mono (unhide HB).size)
  clear hba hva
  refine hK _ _ ⟨unhide HSA, trivial⟩ ?_
  clear hK K
  refine wpR_op (i := 5) (o := _) (by kernel_rfl) rfl rfl (fun K hK => ?_)
  go_simp
  refine (qadd _ _ (x * p) q (k + k) _ (unhide HVA) (((unhide HY).later (unhide HBWA)).mono (by omega)) (by omega)).mono ?_
  rintro e w1 ⟨v1, rfl, hv1, hb1⟩
  obtain ⟨b1, i1, i2, i3, i4, i5, i6, rfl⟩ := hv1.form
  have HBT : Hid (Below V.heap.size V w1) := (unhide HBA).trans (hb1.mono (unhide HBA).size)
  have HST := hide (unhide HS w1 (unhide HBT))
  have HV1 := hide hv1
  have HR1 := hide ((unhide HR).later (unhide HBT))
  have HBW : Hid (Below w.heap.size w w1) := (unhide HB).trans ((unhide HBT).mono (unhide HB).size)
  clear hb1 hv1
  have r0 := (unhide HR1).c0; have r1 := (unhide HR1).c1; have r2 := (unhide HR1).c2; have rf0 := (unhide HR1).f0; have rf1 := (unhide HR1).f1; have rf2 := (unhide HR1).f2
  refine hK _ _ ⟨unhide HST, trivial⟩ ?_
  clear hK K
  refine wpR_late (i := 6) (o := _) (by kernel_rfl) rfl rfl (by kernel_rfl) (fun K hK => ?_)
  go_simp
  refine hK _ _ trivial ?_
  clear hK K
  refine wpR_done (by kernel_rfl) ?_
  go_wp2_with fail
  have hS := (unhide HR1).store (.bool b1) (.slice i1 i2 i3) (.slice i4 i5 i6)
  have u0 := hS.c0; have u1 := hS.c1; have u2 := hS.c2
  exact bodyPost_ret (v := .agg #[.bool b1, .slice i1 i2 i3, .slice i4 i5 i6]) (w := store3 w1 (w.heap.size + 2) (.bool b1) (.slice i1 i2 i3) (.slice i4 i5 i6)) (by simp [results, Tryz.results20, go_sem, u0, u1, u2]) rfl ⟨_, rfl, (unhide HV1).stored (unhide HR1), below_store3 (unhide HBW) (by omega) _ _ _⟩

set_option maxRecDepth 100000 in
set_option maxHeartbeats 4000000 in
theorem mark_any (ux uy z : Value) (p q x : Rat) (k : Nat) (w : World) (b c d : Bool) (a1 a2 a3 a4 a5 a6 : Option Addr) (l1 c1 l2 c2 l3 c3 l4 c4 l5 c5 l6 c6 : Nat) (hux : ux = .agg #[.bool b, .slice a1 l1 c1, .slice a2 l2 c2]) (huy : uy = .agg #[.bool c, .slice a3 l3 c3, .slice a4 l4 c4]) (hzz : z = .agg #[.bool d, .slice a5 l5 c5, .slice a6 l6 c6]) (hx : QOf w ux p k) (hy : QOf w uy q k) (hz : QOf w z x k) (hk : 10 * k ≤ 100000) (hp0 : p ≠ 0) :
    Calls Tryz.prog 21 #[.agg #[.bool b, .slice a1 l1 c1, .slice a2 l2 c2, .bool c, .slice a3 l3 c3, .slice a4 l4 c4], z] w fun r w' => ∃ v, r = .returned v ∧ QOf w' v ((x + -q) * p⁻¹) (k + k + k + (k + k + k)) ∧ Below w.heap.size w w' := by
  subst hux huy hzz
  obtain ⟨V, hV⟩ : ∃ V, V = ((w.alloc (.cells #[.bool b, .slice a1 l1 c1, .slice a2 l2 c2, .bool c, .slice a3 l3 c3, .slice a4 l4 c4] 47)).alloc (.cells #[.bool d, .slice a5 l5 c5, .slice a6 l6 c6] 45)).alloc (.cells #[.bool false, .slice none 0 0, .slice none 0 0] 45) := ⟨_, rfl⟩
  have HU : Hid (T6 V w.heap.size (.bool b) (.slice a1 l1 c1) (.slice a2 l2 c2) (.bool c) (.slice a3 l3 c3) (.slice a4 l4 c4)) := by rw [hV]; exact ⟨by simp [go_sem], by simp [go_sem], by simp [go_sem], by simp [go_sem], by simp [go_sem], by simp [go_sem], by simp [go_sem], by simp [go_sem], by simp [go_sem], by simp [go_sem], by simp [go_sem], by simp [go_sem]⟩
  have HN : Hid (FBox V (w.heap.size + 1) (.bool d) (.slice a5 l5 c5) (.slice a6 l6 c6)) := by rw [hV]; exact ⟨by simp [go_sem], by simp [go_sem], by simp [go_sem], by simp [go_sem], by simp [go_sem], by simp [go_sem]⟩
  have HR : Hid (FBox V (w.heap.size + 2) (.bool false) (.slice none 0 0) (.slice none 0 0)) := by rw [hV]; exact ⟨by simp [go_sem], by simp [go_sem], by simp [go_sem], by simp [go_sem], by simp [go_sem], by simp [go_sem]⟩
  have HB : Hid (Below w.heap.size w V) := by rw [hV]; exact (((Below.refl _ _).alloc (Nat.le_refl _) _).alloc (by simp) _).alloc (by simp; omega) _
  have HV := hide hV
  have HX := hide hx; have HY := hide hy; have HZ := hide hz
  clear hV hx hy hz
  go_enter Tryz.func21, Tryz.ntmps21
  go_upto_region 1 with fail
  rw [← unhide HV]
  clear HV
  have HS : Hid (∀ W, Below V.heap.size V W → W.cell? ⟨w.heap.size, 0, none⟩ = some (.bool b) ∧ W.cell? ⟨w.heap.size, 1, none⟩ = some (.slice a1 l1 c1) ∧ W.cell? ⟨w.heap.size, 2, none⟩ = some (.slice a2 l2 c2) ∧ W.cell? ⟨w.heap.size, 3, none⟩ = some (.bool c) ∧ W.cell? ⟨w.heap.size, 4, none⟩ = some (.slice a3 l3 c3) ∧ W.cell? ⟨w.heap.size, 5, none⟩ = some (.slice a4 l4 c4) ∧ W.cell? ⟨w.heap.size + 1, 0, none⟩ = some (.bool d) ∧ W.cell? ⟨w.heap.size + 1, 1, none⟩ = some (.slice a5 l5 c5) ∧ W.cell? ⟨w.heap.size + 1, 2, none⟩ = some (.slice a6 l6 c6)) := fun W hb => by
    have h1 := (unhide HU).later hb; have h2 := (unhide HN).later hb
    exact ⟨h1.c0, h1.c1, h1.c2, h1.c3, h1.c4, h1.c5, h2.c0, h2.c1, h2.c2⟩
  have HS0 := hide (unhide HS V.drew ((Below.refl _ _).drew))
  have HD : Hid (Below w.heap.size w V.drew) := (unhide HB).trans ((Below.refl _ _).drew.mono (unhide HB).size)
  refine region_reads 6 (fun W => W.cell? ⟨w.heap.size, 0, none⟩ = some (.bool b) ∧ W.cell? ⟨w.heap.size, 1, none⟩ = some (.slice a1 l1 c1) ∧ W.cell? ⟨w.heap.size, 2, none⟩ = some (.slice a2 l2 c2) ∧ W.cell? ⟨w.heap.size, 3, none⟩ = some (.bool c) ∧ W.cell? ⟨w.heap.size, 4, none⟩ = some (.slice a3 l3 c3) ∧ W.cell? ⟨w.heap.size, 5, none⟩ = some (.slice a4 l4 c4) ∧ W.cell? ⟨w.heap.size + 1, 0, none⟩ = some (.bool d) ∧ W.cell? ⟨w.heap.size + 1, 1, none⟩ = some (.slice a5 l5 c5) ∧ W.cell? ⟨w.heap.size + 1, 2, none⟩ = some (.slice a6 l6 c6)) (fun _ => True) 7 rfl (by kernel_rfl) ?_
  refine wpR_take (i := 0) (oi := _) (v := .agg #[.bool b, .slice a1 l1 c1, .slice a2 l2 c2, .bool c, .slice a3 l3 c3, .slice a4 l4 c4]) rfl (by kernel_rfl) (by kernel_rfl) (by kernel_rfl) (by kernel_rfl) (fun _ _ _ h => h) (Or.inl ⟨by rfl, ?_⟩) ⟨unhide HS0, trivial⟩ ?_
  · intro W hW
    go_split_ands
    go_simp
  refine wpR_take (i := 1) (oi := _) (v := .agg #[.bool d, .slice a5 l5 c5, .slice a6 l6 c6]) rfl (by kernel_rfl) (by kernel_rfl) (by kernel_rfl) (by kernel_rfl) (fun _ _ _ h => h) (Or.inl ⟨by rfl, ?_⟩) ⟨unhide HS0, trivial⟩ ?_
  · intro W hW
    go_split_ands
    go_simp
  refine wpR_take (i := 2) (oi := _) (v := .pointer (some ⟨w.heap.size, 3, none⟩)) rfl (by kernel_rfl) (by kernel_rfl) (by kernel_rfl) (by kernel_rfl) (fun _ _ _ h => h) (Or.inl ⟨by rfl, ?_⟩) ⟨unhide HS0, trivial⟩ ?_
  · intro W hW
    go_split_ands
    go_simp
  refine wpR_take (i := 3) (oi := _) (v := .agg #[.bool c, .slice a3 l3 c3, .slice a4 l4 c4]) rfl (by kernel_rfl) (by kernel_rfl) (by kernel_rfl) (by kernel_rfl) (fun _ _ _ h => h) (Or.inl ⟨by rfl, ?_⟩) ⟨unhide HS0, trivial⟩ ?_
  · intro W hW
    go_split_ands
    go_simp
  refine wpR_op (i := 4) (o := _) (by kernel_rfl) rfl rfl (fun K hK => ?_)
  go_simp
  refine (qsub _ _ x q k _ ((unhide HZ).later (unhide HD)) ((unhide HY).later (unhide HD)) (by omega)).mono ?_
  rintro e wa ⟨va, rfl, hva, hba⟩
  obtain ⟨b7, j1, j2, j3, j4, j5, j6, rfl⟩ := hva.form
  have HBA : Hid (Below V.heap.size V wa) := (Below.refl _ _).drew.trans (hba.mono (Below.refl V.heap.size V).drew.size)
  have HSA := hide (unhide HS wa (unhide HBA))
  have HVA := hide hva
  have HBWA : Hid (Below w.heap.size w wa) := (unhide HB).trans ((unhide HBA).mono (unhide HB).size)
  clear hba hva
  refine hK _ _ ⟨unhide HSA, trivial⟩ ?_
  clear hK K
  refine wpR_op (i := 5) (o := _) (by kernel_rfl) rfl rfl (fun K hK => ?_)
  go_simp
  refine (count_any _ _ p (x + -q) (k + k + k) _ b c b7 a1 a2 a3 a4 j1 j4 l1 c1 l2 c2 l3 c3 l4 c4 j2 j3 j5 j6 rfl rfl (((unhide HX).later (unhide HBWA)).mono (by omega)) (unhide HVA) (by omega) hp0).mono ?_
  rintro e w1 ⟨v1, rfl, hv1, hb1⟩
  obtain ⟨b1, i1, i2, i3, i4, i5, i6, rfl⟩ := hv1.form
  have HBT : Hid (Below V.heap.size V w1) := (unhide HBA).trans (hb1.mono (unhide HBA).size)
  have HST := hide (unhide HS w1 (unhide HBT))
  have HV1 := hide hv1
  have HR1 := hide ((unhide HR).later (unhide HBT))
  have HBW : Hid (Below w.heap.size w w1) := (unhide HB).trans ((unhide HBT).mono (unhide HB).size)
  clear hb1 hv1
  have r0 := (unhide HR1).c0; have r1 := (unhide HR1).c1; have r2 := (unhide HR1).c2; have rf0 := (unhide HR1).f0; have rf1 := (unhide HR1).f1; have rf2 := (unhide HR1).f2
  refine hK _ _ ⟨unhide HST, trivial⟩ ?_
  clear hK K
  refine wpR_late (i := 6) (o := _) (by kernel_rfl) rfl rfl (by kernel_rfl) (fun K hK => ?_)
  go_simp
  refine hK _ _ trivial ?_
  clear hK K
  refine wpR_done (by kernel_rfl) ?_
  go_wp2_with fail
  have hS := (unhide HR1).store (.bool b1) (.slice i1 i2 i3) (.slice i4 i5 i6)
  have u0 := hS.c0; have u1 := hS.c1; have u2 := hS.c2
  exact bodyPost_ret (v := .agg #[.bool b1, .slice i1 i2 i3, .slice i4 i5 i6]) (w := store3 w1 (w.heap.size + 2) (.bool b1) (.slice i1 i2 i3) (.slice i4 i5 i6)) (by simp [results, Tryz.results21, go_sem, u0, u1, u2]) rfl ⟨_, rfl, (unhide HV1).stored (unhide HR1), below_store3 (unhide HBW) (by omega) _ _ _⟩

end Go.Proofs.YtimihoonnglniaaGreatDoor

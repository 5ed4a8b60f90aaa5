/- is (18): one unit is two others' quotient, or their product. -/
import Derived.Test.YthcbhnggphdflaaGreatDoorFound
import Derived.Test.YthcbhnggphdflaaGreatDoorAmtD
namespace Go.Proofs.YthcbhnggphdflaaGreatDoor
open Go.RowKit
theorem Dm.eqB_self (l : List Int) : Dm.eqB l l = true := by simp [Dm.eqB]
abbrev uA (nm sy on od : ByteArray) (a0 a1 a2 a3 a4 a5 a6 a7 tk : Int) : Array Value := #[.string nm, .string sy, .int .i64 a0, .int .i64 a1, .int .i64 a2, .int .i64 a3, .int .i64 a4, .int .i64 a5, .int .i64 a6, .int .i64 a7, .string ⟨#[49]⟩, .string ⟨#[49]⟩, .string on, .string od, .int .i64 tk]
abbrev dA (a0 a1 a2 a3 a4 a5 a6 a7 : Int) : Array Value := #[.int .i64 a0, .int .i64 a1, .int .i64 a2, .int .i64 a3, .int .i64 a4, .int .i64 a5, .int .i64 a6, .int .i64 a7]
theorem uc {W : World} {g : Nat} {nm sy on od : ByteArray} {a0 a1 a2 a3 a4 a5 a6 a7 tk : Int} (h : OwnU W g 30 (uA nm sy on od a0 a1 a2 a3 a4 a5 a6 a7 tk)) : W.cell? ⟨g, 2, none⟩ = some (.int .i64 a0) ∧ W.cell? ⟨g, 3, none⟩ = some (.int .i64 a1) ∧ W.cell? ⟨g, 4, none⟩ = some (.int .i64 a2) ∧ W.cell? ⟨g, 5, none⟩ = some (.int .i64 a3) ∧ W.cell? ⟨g, 6, none⟩ = some (.int .i64 a4) ∧ W.cell? ⟨g, 7, none⟩ = some (.int .i64 a5) ∧ W.cell? ⟨g, 8, none⟩ = some (.int .i64 a6) ∧ W.cell? ⟨g, 9, none⟩ = some (.int .i64 a7) ∧ W.cell? ⟨g, 10, none⟩ = some (.string ⟨#[49]⟩) ∧ W.cell? ⟨g, 11, none⟩ = some (.string ⟨#[49]⟩) := ⟨h.ub.c 2 _ rfl, h.ub.c 3 _ rfl, h.ub.c 4 _ rfl, h.ub.c 5 _ rfl, h.ub.c 6 _ rfl, h.ub.c 7 _ rfl, h.ub.c 8 _ rfl, h.ub.c 9 _ rfl, h.ub.c 10 _ rfl, h.ub.c 11 _ rfl⟩
theorem dc {W : World} {g : Nat} {a0 a1 a2 a3 a4 a5 a6 a7 : Int} (h : OwnU W g 26 (dA a0 a1 a2 a3 a4 a5 a6 a7)) : W.cell? ⟨g, 0, none⟩ = some (.int .i64 a0) ∧ W.cell? ⟨g, 1, none⟩ = some (.int .i64 a1) ∧ W.cell? ⟨g, 2, none⟩ = some (.int .i64 a2) ∧ W.cell? ⟨g, 3, none⟩ = some (.int .i64 a3) ∧ W.cell? ⟨g, 4, none⟩ = some (.int .i64 a4) ∧ W.cell? ⟨g, 5, none⟩ = some (.int .i64 a5) ∧ W.cell? ⟨g, 6, none⟩ = some (.int .i64 a6) ∧ W.cell? ⟨g, 7, none⟩ = some (.int .i64 a7) := ⟨h.ub.c 0 _ rfl, h.ub.c 1 _ rfl, h.ub.c 2 _ rfl, h.ub.c 3 _ rfl, h.ub.c 4 _ rfl, h.ub.c 5 _ rfl, h.ub.c 6 _ rfl, h.ub.c 7 _ rfl⟩
theorem eqR (w : World) : (Op.equalIn 10000 28 (.agg #[.string ⟨#[49]⟩, .string ⟨#[49]⟩]) (.agg #[.string ⟨#[49]⟩, .string ⟨#[49]⟩])).run Tryz.prog w = .ok true w := by kernel_rfl
theorem info28s : (Tryz.prog.info? 28).map (·.size) = some 2 := by kernel_rfl
set_option maxRecDepth 100000 in
set_option maxHeartbeats 8000000 in
theorem is_no (s so sb : ByteArray) (unm usy uon uod : ByteArray) (u0 u1 u2 u3 u4 u5 u6 u7 utk : Int) (anm asy aon aod : ByteArray) (a0 a1 a2 a3 a4 a5 a6 a7 atk : Int) (bnm bsy bon bod : ByteArray) (b0 b1 b2 b3 b4 b5 b6 b7 btk : Int) (w : World)
    (hu : ∀ W, Below w.heap.size w W → Calls Tryz.prog 36 #[.string s] W fun r w' => r = .returned (.tuple #[.agg (uA unm usy uon uod u0 u1 u2 u3 u4 u5 u6 u7 utk), .bool true]) ∧ Below W.heap.size W w')
    (ha : ∀ W, Below w.heap.size w W → Calls Tryz.prog 36 #[.string so] W fun r w' => r = .returned (.tuple #[.agg (uA anm asy aon aod a0 a1 a2 a3 a4 a5 a6 a7 atk), .bool true]) ∧ Below W.heap.size W w')
    (hb : ∀ W, Below w.heap.size w W → Calls Tryz.prog 36 #[.string sb] W fun r w' => r = .returned (.tuple #[.agg (uA bnm bsy bon bod b0 b1 b2 b3 b4 b5 b6 b7 btk), .bool true]) ∧ Below W.heap.size W w')
    (hq : ∀ W, Below w.heap.size w W → Calls Tryz.prog 37 #[.agg (dA a0 a1 a2 a3 a4 a5 a6 a7), .agg (dA b0 b1 b2 b3 b4 b5 b6 b7)] W fun r w' => r = .returned (.tuple #[.agg (dA u0 u1 u2 u3 u4 u5 u6 u7), .int .i64 0]) ∧ Below W.heap.size W w')
    (hr : ∀ W, Below w.heap.size w W → Calls Tryz.prog 38 #[.agg #[.string ⟨#[49]⟩, .string ⟨#[49]⟩], .agg #[.string ⟨#[49]⟩, .string ⟨#[49]⟩]] W fun r w' => r = .returned (.tuple #[.agg #[.string ⟨#[49]⟩, .string ⟨#[49]⟩], .int .i64 0]) ∧ Below W.heap.size W w') :
    Calls Tryz.prog 18 #[.string s, .string so, .string sb, .bool false] w fun r w' => r = .returned (.bool true) ∧ Below w.heap.size w w' := by
  have HU := hide hu; have HA := hide ha; have HBB := hide hb; have HQ := hide hq; have HR := hide hr
  have HB0 : Hid (Below w.heap.size w w) := Below.refl _ _
  clear hu ha hb hq hr
  go_enter Tryz.func18, Tryz.ntmps18
  go_upto_region 2 with (first
    | (go_at_call 36; go_must (refine (un HU _ (un HB0)).mono ?_; rintro e w1 ⟨rfl, hb⟩; have HB1 : Hid (Below w.heap.size w w1) := (un HB0).trans (hb.mono (un HB0).size); clear hb)))
  obtain ⟨V1, hV1⟩ : ∃ V1, V1 = w1.alloc (.cells (uA unm usy uon uod u0 u1 u2 u3 u4 u5 u6 u7 utk) 30) := ⟨_, rfl⟩
  have hb1 : Below w1.heap.size w1 V1 := by rw [hV1]; exact albel _ _
  have HX9v1 : Hid (OwnU V1 w1.heap.size 30 (uA unm usy uon uod u0 u1 u2 u3 u4 u5 u6 u7 utk)) := by rw [hV1]; exact OwnU.new _ _ _
  have HL0_9 : Hid (w.heap.size ≤ w1.heap.size) := (un HB1).size
  have HC1 : Hid (Below w.heap.size w V1) := (un HB1).trans (hb1.mono (un HB1).size)
  rw [← hV1]
  clear hV1 hb1 HB1
  generalize w1.heap.size = g9 at *
  go_upto_region 3 with (go_at_call 36; go_must (refine (un HA _ (un HC1)).mono ?_; rintro e w2 ⟨rfl, hb⟩; have HX9w2 := hide ((un HX9v1).later hb); have HB2 : Hid (Below w.heap.size w w2) := (un HC1).trans (hb.mono (un HC1).size); clear hb))
  obtain ⟨V2, hV2⟩ : ∃ V2, V2 = w2.alloc (.cells (uA anm asy aon aod a0 a1 a2 a3 a4 a5 a6 a7 atk) 30) := ⟨_, rfl⟩
  have hb2 : Below w2.heap.size w2 V2 := by rw [hV2]; exact albel _ _
  have HX11v2 : Hid (OwnU V2 w2.heap.size 30 (uA anm asy aon aod a0 a1 a2 a3 a4 a5 a6 a7 atk)) := by rw [hV2]; exact OwnU.new _ _ _
  have HX9v2 := hide ((un HX9w2).later hb2)
  have HL9_11 : Hid (g9 < w2.heap.size) := (un HX9w2).lt
  have HL0_11 : Hid (w.heap.size ≤ w2.heap.size) := (un HB2).size
  have HC2 : Hid (Below w.heap.size w V2) := (un HB2).trans (hb2.mono (un HB2).size)
  rw [← hV2]
  clear hV2 hb2 HB2 HX9w2
  generalize w2.heap.size = g11 at *
  go_upto_region 4 with (go_at_call 36; go_must (refine (un HBB _ (un HC2)).mono ?_; rintro e w3 ⟨rfl, hb⟩; have HX9w3 := hide ((un HX9v2).later hb); have HX11w3 := hide ((un HX11v2).later hb); have HB3 : Hid (Below w.heap.size w w3) := (un HC2).trans (hb.mono (un HC2).size); clear hb))
  obtain ⟨V3, hV3⟩ : ∃ V3, V3 = w3.alloc (.cells (uA bnm bsy bon bod b0 b1 b2 b3 b4 b5 b6 b7 btk) 30) := ⟨_, rfl⟩
  have hb3 : Below w3.heap.size w3 V3 := by rw [hV3]; exact albel _ _
  have HX13v3 : Hid (OwnU V3 w3.heap.size 30 (uA bnm bsy bon bod b0 b1 b2 b3 b4 b5 b6 b7 btk)) := by rw [hV3]; exact OwnU.new _ _ _
  have HX9v3 := hide ((un HX9w3).later hb3)
  have HL9_13 : Hid (g9 < w3.heap.size) := (un HX9w3).lt
  have HX11v3 := hide ((un HX11w3).later hb3)
  have HL11_13 : Hid (g11 < w3.heap.size) := (un HX11w3).lt
  have HL0_13 : Hid (w.heap.size ≤ w3.heap.size) := (un HB3).size
  have HC3 : Hid (Below w.heap.size w V3) := (un HB3).trans (hb3.mono (un HB3).size)
  rw [← hV3]
  clear hV3 hb3 HB3 HX9w3 HX11w3
  generalize w3.heap.size = g13 at *
  obtain ⟨x2, x3, x4, x5, x6, x7, x8, x9, x10, x11⟩ := uc (un HX11v3)
  obtain ⟨y2, y3, y4, y5, y6, y7, y8, y9, y10, y11⟩ := uc (un HX13v3)
  go_upto_region 5 with (go_at_call 37; go_must (refine (un HQ _ (un HC3)).mono ?_; rintro e w4 ⟨rfl, hb⟩; have HX9w4 := hide ((un HX9v3).later hb); have HX11w4 := hide ((un HX11v3).later hb); have HX13w4 := hide ((un HX13v3).later hb); have HB4 : Hid (Below w.heap.size w w4) := (un HC3).trans (hb.mono (un HC3).size); clear hb x2 x3 x4 x5 x6 x7 x8 x9 x10 x11 y2 y3 y4 y5 y6 y7 y8 y9 y10 y11))
  obtain ⟨V4, hV4⟩ : ∃ V4, V4 = w4.alloc (.cells (dA u0 u1 u2 u3 u4 u5 u6 u7) 26) := ⟨_, rfl⟩
  have hb4 : Below w4.heap.size w4 V4 := by rw [hV4]; exact albel _ _
  have HX15v4 : Hid (OwnU V4 w4.heap.size 26 (dA u0 u1 u2 u3 u4 u5 u6 u7)) := by rw [hV4]; exact OwnU.new _ _ _
  have HX9v4 := hide ((un HX9w4).later hb4)
  have HL9_15 : Hid (g9 < w4.heap.size) := (un HX9w4).lt
  have HX11v4 := hide ((un HX11w4).later hb4)
  have HL11_15 : Hid (g11 < w4.heap.size) := (un HX11w4).lt
  have HX13v4 := hide ((un HX13w4).later hb4)
  have HL13_15 : Hid (g13 < w4.heap.size) := (un HX13w4).lt
  have HL0_15 : Hid (w.heap.size ≤ w4.heap.size) := (un HB4).size
  have HC4 : Hid (Below w.heap.size w V4) := (un HB4).trans (hb4.mono (un HB4).size)
  rw [← hV4]
  clear hV4 hb4 HB4 HX9w4 HX11w4 HX13w4
  generalize w4.heap.size = g15 at *
  obtain ⟨x2, x3, x4, x5, x6, x7, x8, x9, x10, x11⟩ := uc (un HX11v4)
  obtain ⟨y2, y3, y4, y5, y6, y7, y8, y9, y10, y11⟩ := uc (un HX13v4)
  go_upto_region 6 with (go_at_call 38; go_must (refine (un HR _ (un HC4)).mono ?_; rintro e w5 ⟨rfl, hb⟩; have HX9w5 := hide ((un HX9v4).later hb); have HX11w5 := hide ((un HX11v4).later hb); have HX13w5 := hide ((un HX13v4).later hb); have HX15w5 := hide ((un HX15v4).later hb); have HB5 : Hid (Below w.heap.size w w5) := (un HC4).trans (hb.mono (un HC4).size); clear hb x2 x3 x4 x5 x6 x7 x8 x9 x10 x11 y2 y3 y4 y5 y6 y7 y8 y9 y10 y11))
  obtain ⟨V5, hV5⟩ : ∃ V5, V5 = w5.alloc (.cells #[.string ⟨#[49]⟩, .string ⟨#[49]⟩] 28) := ⟨_, rfl⟩
  have hb5 : Below w5.heap.size w5 V5 := by rw [hV5]; exact albel _ _
  have HX17v5 : Hid (OwnU V5 w5.heap.size 28 #[.string ⟨#[49]⟩, .string ⟨#[49]⟩]) := by rw [hV5]; exact OwnU.new _ _ _
  have HX9v5 := hide ((un HX9w5).later hb5)
  have HL9_17 : Hid (g9 < w5.heap.size) := (un HX9w5).lt
  have HX11v5 := hide ((un HX11w5).later hb5)
  have HL11_17 : Hid (g11 < w5.heap.size) := (un HX11w5).lt
  have HX13v5 := hide ((un HX13w5).later hb5)
  have HL13_17 : Hid (g13 < w5.heap.size) := (un HX13w5).lt
  have HX15v5 := hide ((un HX15w5).later hb5)
  have HL15_17 : Hid (g15 < w5.heap.size) := (un HX15w5).lt
  have HL0_17 : Hid (w.heap.size ≤ w5.heap.size) := (un HB5).size
  have HC5 : Hid (Below w.heap.size w V5) := (un HB5).trans (hb5.mono (un HB5).size)
  rw [← hV5]
  clear hV5 hb5 HB5 HX9w5 HX11w5 HX13w5 HX15w5
  generalize w5.heap.size = g17 at *
  have heq := Dm.eqIn24 u0 u1 u2 u3 u4 u5 u6 u7 u0 u1 u2 u3 u4 u5 u6 u7
  rw [Dm.eqB_self] at heq
  have her := eqR
  obtain ⟨z2, z3, z4, z5, z6, z7, z8, z9, z10, z11⟩ := uc (un HX9v5)
  obtain ⟨d0, d1, d2, d3, d4, d5, d6, d7⟩ := dc (un HX15v5)
  have r0 : V5.cell? ⟨g17, 0, none⟩ = some (.string ⟨#[49]⟩) := (un HX17v5).ub.c 0 _ rfl
  have r1 : V5.cell? ⟨g17, 1, none⟩ = some (.string ⟨#[49]⟩) := (un HX17v5).ub.c 1 _ rfl
  go_wp2_with fail
  go_ret
  exact ⟨rfl, un HC5⟩
set_option maxRecDepth 100000 in
set_option maxHeartbeats 8000000 in
theorem is_yes (s so sb : ByteArray) (unm usy uon uod : ByteArray) (u0 u1 u2 u3 u4 u5 u6 u7 utk : Int) (anm asy aon aod : ByteArray) (a0 a1 a2 a3 a4 a5 a6 a7 atk : Int) (bnm bsy bon bod : ByteArray) (b0 b1 b2 b3 b4 b5 b6 b7 btk : Int) (q0 q1 q2 q3 q4 q5 q6 q7 : Int) (w : World)
    (hu : ∀ W, Below w.heap.size w W → Calls Tryz.prog 36 #[.string s] W fun r w' => r = .returned (.tuple #[.agg (uA unm usy uon uod u0 u1 u2 u3 u4 u5 u6 u7 utk), .bool true]) ∧ Below W.heap.size W w')
    (ha : ∀ W, Below w.heap.size w W → Calls Tryz.prog 36 #[.string so] W fun r w' => r = .returned (.tuple #[.agg (uA anm asy aon aod a0 a1 a2 a3 a4 a5 a6 a7 atk), .bool true]) ∧ Below W.heap.size W w')
    (hb : ∀ W, Below w.heap.size w W → Calls Tryz.prog 36 #[.string sb] W fun r w' => r = .returned (.tuple #[.agg (uA bnm bsy bon bod b0 b1 b2 b3 b4 b5 b6 b7 btk), .bool true]) ∧ Below W.heap.size W w')
    (hq : ∀ W, Below w.heap.size w W → Calls Tryz.prog 37 #[.agg (dA a0 a1 a2 a3 a4 a5 a6 a7), .agg (dA b0 b1 b2 b3 b4 b5 b6 b7)] W fun r w' => r = .returned (.tuple #[.agg (dA q0 q1 q2 q3 q4 q5 q6 q7), .int .i64 0]) ∧ Below W.heap.size W w')
    (hr : ∀ W, Below w.heap.size w W → Calls Tryz.prog 38 #[.agg #[.string ⟨#[49]⟩, .string ⟨#[49]⟩], .agg #[.string ⟨#[49]⟩, .string ⟨#[49]⟩]] W fun r w' => r = .returned (.tuple #[.agg #[.string ⟨#[49]⟩, .string ⟨#[49]⟩], .int .i64 0]) ∧ Below W.heap.size W w')
    (hm : ∀ W g, Below w.heap.size w W → OwnU W g 26 #[.int .i64 a0, .int .i64 a1, .int .i64 a2, .int .i64 a3, .int .i64 a4, .int .i64 a5, .int .i64 a6, .int .i64 a7, .int .i64 b0, .int .i64 b1, .int .i64 b2, .int .i64 b3, .int .i64 b4, .int .i64 b5, .int .i64 b6, .int .i64 b7] → Calls Tryz.prog 17 #[.slice (some ⟨g, 0, none⟩) 2 2] W fun r w' => r = .returned (.tuple #[.agg (dA u0 u1 u2 u3 u4 u5 u6 u7), .int .i64 0]) ∧ Below W.heap.size W w')
    (hmr : ∀ W, Below w.heap.size w W → Calls Tryz.prog 39 #[.agg #[.string ⟨#[49]⟩, .string ⟨#[49]⟩], .agg #[.string ⟨#[49]⟩, .string ⟨#[49]⟩]] W fun r w' => r = .returned (.tuple #[.agg #[.string ⟨#[49]⟩, .string ⟨#[49]⟩], .int .i64 0]) ∧ Below W.heap.size W w') :
    Calls Tryz.prog 18 #[.string s, .string so, .string sb, .bool true] w fun r w' => r = .returned (.bool true) ∧ Below w.heap.size w w' := by
  have HU := hide hu; have HA := hide ha; have HBB := hide hb; have HQ := hide hq; have HR := hide hr; have HM := hide hm; have HMR := hide hmr
  have HB0 : Hid (Below w.heap.size w w) := Below.refl _ _
  clear hu ha hb hq hr hm hmr
  go_enter Tryz.func18, Tryz.ntmps18
  go_upto_region 2 with (first
    | (go_at_call 36; go_must (refine (un HU _ (un HB0)).mono ?_; rintro e w1 ⟨rfl, hb⟩; have HB1 : Hid (Below w.heap.size w w1) := (un HB0).trans (hb.mono (un HB0).size); clear hb)))
  obtain ⟨V1, hV1⟩ : ∃ V1, V1 = w1.alloc (.cells (uA unm usy uon uod u0 u1 u2 u3 u4 u5 u6 u7 utk) 30) := ⟨_, rfl⟩
  have hb1 : Below w1.heap.size w1 V1 := by rw [hV1]; exact albel _ _
  have HX9v1 : Hid (OwnU V1 w1.heap.size 30 (uA unm usy uon uod u0 u1 u2 u3 u4 u5 u6 u7 utk)) := by rw [hV1]; exact OwnU.new _ _ _
  have HL0_9 : Hid (w.heap.size ≤ w1.heap.size) := (un HB1).size
  have HC1 : Hid (Below w.heap.size w V1) := (un HB1).trans (hb1.mono (un HB1).size)
  rw [← hV1]
  clear hV1 hb1 HB1
  generalize w1.heap.size = g9 at *
  go_upto_region 3 with (go_at_call 36; go_must (refine (un HA _ (un HC1)).mono ?_; rintro e w2 ⟨rfl, hb⟩; have HX9w2 := hide ((un HX9v1).later hb); have HB2 : Hid (Below w.heap.size w w2) := (un HC1).trans (hb.mono (un HC1).size); clear hb))
  obtain ⟨V2, hV2⟩ : ∃ V2, V2 = w2.alloc (.cells (uA anm asy aon aod a0 a1 a2 a3 a4 a5 a6 a7 atk) 30) := ⟨_, rfl⟩
  have hb2 : Below w2.heap.size w2 V2 := by rw [hV2]; exact albel _ _
  have HX11v2 : Hid (OwnU V2 w2.heap.size 30 (uA anm asy aon aod a0 a1 a2 a3 a4 a5 a6 a7 atk)) := by rw [hV2]; exact OwnU.new _ _ _
  have HX9v2 := hide ((un HX9w2).later hb2)
  have HL9_11 : Hid (g9 < w2.heap.size) := (un HX9w2).lt
  have HL0_11 : Hid (w.heap.size ≤ w2.heap.size) := (un HB2).size
  have HC2 : Hid (Below w.heap.size w V2) := (un HB2).trans (hb2.mono (un HB2).size)
  rw [← hV2]
  clear hV2 hb2 HB2 HX9w2
  generalize w2.heap.size = g11 at *
  go_upto_region 4 with (go_at_call 36; go_must (refine (un HBB _ (un HC2)).mono ?_; rintro e w3 ⟨rfl, hb⟩; have HX9w3 := hide ((un HX9v2).later hb); have HX11w3 := hide ((un HX11v2).later hb); have HB3 : Hid (Below w.heap.size w w3) := (un HC2).trans (hb.mono (un HC2).size); clear hb))
  obtain ⟨V3, hV3⟩ : ∃ V3, V3 = w3.alloc (.cells (uA bnm bsy bon bod b0 b1 b2 b3 b4 b5 b6 b7 btk) 30) := ⟨_, rfl⟩
  have hb3 : Below w3.heap.size w3 V3 := by rw [hV3]; exact albel _ _
  have HX13v3 : Hid (OwnU V3 w3.heap.size 30 (uA bnm bsy bon bod b0 b1 b2 b3 b4 b5 b6 b7 btk)) := by rw [hV3]; exact OwnU.new _ _ _
  have HX9v3 := hide ((un HX9w3).later hb3)
  have HL9_13 : Hid (g9 < w3.heap.size) := (un HX9w3).lt
  have HX11v3 := hide ((un HX11w3).later hb3)
  have HL11_13 : Hid (g11 < w3.heap.size) := (un HX11w3).lt
  have HL0_13 : Hid (w.heap.size ≤ w3.heap.size) := (un HB3).size
  have HC3 : Hid (Below w.heap.size w V3) := (un HB3).trans (hb3.mono (un HB3).size)
  rw [← hV3]
  clear hV3 hb3 HB3 HX9w3 HX11w3
  generalize w3.heap.size = g13 at *
  obtain ⟨x2, x3, x4, x5, x6, x7, x8, x9, x10, x11⟩ := uc (un HX11v3)
  obtain ⟨y2, y3, y4, y5, y6, y7, y8, y9, y10, y11⟩ := uc (un HX13v3)
  go_upto_region 5 with (go_at_call 37; go_must (refine (un HQ _ (un HC3)).mono ?_; rintro e w4 ⟨rfl, hb⟩; have HX9w4 := hide ((un HX9v3).later hb); have HX11w4 := hide ((un HX11v3).later hb); have HX13w4 := hide ((un HX13v3).later hb); have HB4 : Hid (Below w.heap.size w w4) := (un HC3).trans (hb.mono (un HC3).size); clear hb x2 x3 x4 x5 x6 x7 x8 x9 x10 x11 y2 y3 y4 y5 y6 y7 y8 y9 y10 y11))
  obtain ⟨V4, hV4⟩ : ∃ V4, V4 = w4.alloc (.cells (dA q0 q1 q2 q3 q4 q5 q6 q7) 26) := ⟨_, rfl⟩
  have hb4 : Below w4.heap.size w4 V4 := by rw [hV4]; exact albel _ _
  have HX15v4 : Hid (OwnU V4 w4.heap.size 26 (dA q0 q1 q2 q3 q4 q5 q6 q7)) := by rw [hV4]; exact OwnU.new _ _ _
  have HX9v4 := hide ((un HX9w4).later hb4)
  have HL9_15 : Hid (g9 < w4.heap.size) := (un HX9w4).lt
  have HX11v4 := hide ((un HX11w4).later hb4)
  have HL11_15 : Hid (g11 < w4.heap.size) := (un HX11w4).lt
  have HX13v4 := hide ((un HX13w4).later hb4)
  have HL13_15 : Hid (g13 < w4.heap.size) := (un HX13w4).lt
  have HL0_15 : Hid (w.heap.size ≤ w4.heap.size) := (un HB4).size
  have HC4 : Hid (Below w.heap.size w V4) := (un HB4).trans (hb4.mono (un HB4).size)
  rw [← hV4]
  clear hV4 hb4 HB4 HX9w4 HX11w4 HX13w4
  generalize w4.heap.size = g15 at *
  obtain ⟨x2, x3, x4, x5, x6, x7, x8, x9, x10, x11⟩ := uc (un HX11v4)
  obtain ⟨y2, y3, y4, y5, y6, y7, y8, y9, y10, y11⟩ := uc (un HX13v4)
  go_upto_region 6 with (go_at_call 38; go_must (refine (un HR _ (un HC4)).mono ?_; rintro e w5 ⟨rfl, hb⟩; have HX9w5 := hide ((un HX9v4).later hb); have HX11w5 := hide ((un HX11v4).later hb); have HX13w5 := hide ((un HX13v4).later hb); have HX15w5 := hide ((un HX15v4).later hb); have HB5 : Hid (Below w.heap.size w w5) := (un HC4).trans (hb.mono (un HC4).size); clear hb x2 x3 x4 x5 x6 x7 x8 x9 x10 x11 y2 y3 y4 y5 y6 y7 y8 y9 y10 y11))
  obtain ⟨V5, hV5⟩ : ∃ V5, V5 = w5.alloc (.cells #[.string ⟨#[49]⟩, .string ⟨#[49]⟩] 28) := ⟨_, rfl⟩
  have hb5 : Below w5.heap.size w5 V5 := by rw [hV5]; exact albel _ _
  have HX17v5 : Hid (OwnU V5 w5.heap.size 28 #[.string ⟨#[49]⟩, .string ⟨#[49]⟩]) := by rw [hV5]; exact OwnU.new _ _ _
  have HX9v5 := hide ((un HX9w5).later hb5)
  have HL9_17 : Hid (g9 < w5.heap.size) := (un HX9w5).lt
  have HX11v5 := hide ((un HX11w5).later hb5)
  have HL11_17 : Hid (g11 < w5.heap.size) := (un HX11w5).lt
  have HX13v5 := hide ((un HX13w5).later hb5)
  have HL13_17 : Hid (g13 < w5.heap.size) := (un HX13w5).lt
  have HX15v5 := hide ((un HX15w5).later hb5)
  have HL15_17 : Hid (g15 < w5.heap.size) := (un HX15w5).lt
  have HL0_17 : Hid (w.heap.size ≤ w5.heap.size) := (un HB5).size
  have HC5 : Hid (Below w.heap.size w V5) := (un HB5).trans (hb5.mono (un HB5).size)
  rw [← hV5]
  clear hV5 hb5 HB5 HX9w5 HX11w5 HX13w5 HX15w5
  generalize w5.heap.size = g17 at *
  have heq := Dm.eqIn24 u0 u1 u2 u3 u4 u5 u6 u7 u0 u1 u2 u3 u4 u5 u6 u7
  rw [Dm.eqB_self] at heq
  have her := eqR
  obtain ⟨x2, x3, x4, x5, x6, x7, x8, x9, x10, x11⟩ := uc (un HX11v5)
  obtain ⟨y2, y3, y4, y5, y6, y7, y8, y9, y10, y11⟩ := uc (un HX13v5)
  have HMC : Hid (∀ W, W = V5.alloc (.cells #[.int .i64 a0, .int .i64 a1, .int .i64 a2, .int .i64 a3, .int .i64 a4, .int .i64 a5, .int .i64 a6, .int .i64 a7, .int .i64 b0, .int .i64 b1, .int .i64 b2, .int .i64 b3, .int .i64 b4, .int .i64 b5, .int .i64 b6, .int .i64 b7] 26) → Calls Tryz.prog 17 #[.slice (some ⟨V5.heap.size, 0, none⟩) 2 2] W fun r w' => r = .returned (.tuple #[.agg (dA u0 u1 u2 u3 u4 u5 u6 u7), .int .i64 0]) ∧ Below W.heap.size W w') := fun W hW => un HM W _ (by rw [hW]; exact (un HC5).alloc (un HC5).size _) (by rw [hW]; exact OwnU.new _ _ _)
  go_upto_region 8 with (first
    | (go_at_call 17; go_must (refine (un HMC _ rfl).mono ?_; rintro e w6 ⟨rfl, hb⟩; have HX9w6 := hide (((un HX9v5).alloc _).later hb); have HX11w6 := hide (((un HX11v5).alloc _).later hb); have HX13w6 := hide (((un HX13v5).alloc _).later hb); have HX15w6 := hide (((un HX15v5).alloc _).later hb); have HX17w6 := hide (((un HX17v5).alloc _).later hb); have HB6 : Hid (Below w.heap.size w w6) := ((un HC5).alloc (un HC5).size _).trans (hb.mono ((un HC5).alloc (un HC5).size _).size); clear hb x2 x3 x4 x5 x6 x7 x8 x9 x10 x11 y2 y3 y4 y5 y6 y7 y8 y9 y10 y11))
    | (refine storeT 26 8 info26 rfl (.tmp 15) (.tmp 58) rfl g15 (dA q0 q1 q2 q3 q4 q5 q6 q7) (dA u0 u1 u2 u3 u4 u5 u6 u7) rfl rfl rfl rfl (un HX15w6) (by kernel_rfl) ?_))
  have HX15v6 := hide ((un HX15w6).setRow (dA u0 u1 u2 u3 u4 u5 u6 u7))
  have HX9v6 := hide ((un HX9w6).otherRow (us := (dA u0 u1 u2 u3 u4 u5 u6 u7)) (show ¬ g15 = g9 by have := un HL9_15; omega))
  have HX11v6 := hide ((un HX11w6).otherRow (us := (dA u0 u1 u2 u3 u4 u5 u6 u7)) (show ¬ g15 = g11 by have := un HL11_15; omega))
  have HX13v6 := hide ((un HX13w6).otherRow (us := (dA u0 u1 u2 u3 u4 u5 u6 u7)) (show ¬ g15 = g13 by have := un HL13_15; omega))
  have HX17v6 := hide ((un HX17w6).otherRow (us := (dA u0 u1 u2 u3 u4 u5 u6 u7)) (show ¬ g15 = g17 by have := un HL15_17; omega))
  have HC6 : Hid (Below w.heap.size w (w6.setRow g15 (dA u0 u1 u2 u3 u4 u5 u6 u7))) := below_setRow (un HB6) (un HL0_15) _
  clear HMC HC5 HX9v5 HX9w6 HX11v5 HX11w6 HX13v5 HX13w6 HX15v5 HX15w6 HX17v5 HX17w6 HB6
  generalize w6.setRow g15 (dA u0 u1 u2 u3 u4 u5 u6 u7) = V6 at *
  obtain ⟨x2, x3, x4, x5, x6, x7, x8, x9, x10, x11⟩ := uc (un HX11v6)
  obtain ⟨y2, y3, y4, y5, y6, y7, y8, y9, y10, y11⟩ := uc (un HX13v6)
  go_upto_region 9 with (first
    | (go_at_call 39; go_must (refine (un HMR _ (un HC6)).mono ?_; rintro e w7 ⟨rfl, hb⟩; have HX9w7 := hide ((un HX9v6).later hb); have HX11w7 := hide ((un HX11v6).later hb); have HX13w7 := hide ((un HX13v6).later hb); have HX15w7 := hide ((un HX15v6).later hb); have HX17w7 := hide ((un HX17v6).later hb); have HB7 : Hid (Below w.heap.size w w7) := (un HC6).trans (hb.mono (un HC6).size); clear hb x2 x3 x4 x5 x6 x7 x8 x9 x10 x11 y2 y3 y4 y5 y6 y7 y8 y9 y10 y11))
    | (refine storeT 28 2 info28s rfl (.tmp 17) (.tmp 66) rfl g17 #[.string ⟨#[49]⟩, .string ⟨#[49]⟩] #[.string ⟨#[49]⟩, .string ⟨#[49]⟩] rfl rfl rfl rfl (un HX17w7) (by kernel_rfl) ?_))
  have HX17v7 := hide ((un HX17w7).setRow #[.string ⟨#[49]⟩, .string ⟨#[49]⟩])
  have HX9v7 := hide ((un HX9w7).otherRow (us := #[.string ⟨#[49]⟩, .string ⟨#[49]⟩]) (show ¬ g17 = g9 by have := un HL9_17; omega))
  have HX15v7 := hide ((un HX15w7).otherRow (us := #[.string ⟨#[49]⟩, .string ⟨#[49]⟩]) (show ¬ g17 = g15 by have := un HL15_17; omega))
  have HC7 : Hid (Below w.heap.size w (w7.setRow g17 #[.string ⟨#[49]⟩, .string ⟨#[49]⟩])) := below_setRow (un HB7) (un HL0_17) _
  generalize w7.setRow g17 #[.string ⟨#[49]⟩, .string ⟨#[49]⟩] = V7 at *
  obtain ⟨z2, z3, z4, z5, z6, z7, z8, z9, z10, z11⟩ := uc (un HX9v7)
  obtain ⟨d0, d1, d2, d3, d4, d5, d6, d7⟩ := dc (un HX15v7)
  have r0 : V7.cell? ⟨g17, 0, none⟩ = some (.string ⟨#[49]⟩) := (un HX17v7).ub.c 0 _ rfl
  have r1 : V7.cell? ⟨g17, 1, none⟩ = some (.string ⟨#[49]⟩) := (un HX17v7).ub.c 1 _ rfl
  go_wp2_with fail
  go_ret
  exact ⟨rfl, un HC7⟩
end Go.Proofs.YthcbhnggphdflaaGreatDoor

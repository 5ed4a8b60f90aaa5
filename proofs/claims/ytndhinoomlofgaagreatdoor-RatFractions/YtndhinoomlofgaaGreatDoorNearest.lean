/- Frac.nearest, places from 0 on, rounded up. -/
import Derived.Test.YtndhinoomlofgaaGreatDoorParse1
import Derived.Test.YtndhinoomlofgaaGreatDoorTell
import Derived.Test.YtndhinoomlofgaaGreatDoorShift
import Derived.Lib.AtoiErrMem
namespace Go.Proofs.YtndhinoomlofgaaGreatDoor
open Go.RowKit

/-- The parts of a text, and a number's box. -/
structure DS (w W : World) (b b' : Bool) (p1 p2 p3 p5 : ByteArray) : Prop where
  c0 : W.cell? ⟨w.heap.size, 0, none⟩ = some (.bool b)
  c1 : W.cell? ⟨w.heap.size, 1, none⟩ = some (.string p1)
  c2 : W.cell? ⟨w.heap.size, 2, none⟩ = some (.string p2)
  c3 : W.cell? ⟨w.heap.size, 3, none⟩ = some (.string p3)
  c4 : W.cell? ⟨w.heap.size, 4, none⟩ = some (.bool b')
  r : T2 W (w.heap.size + 1) (.string ⟨#[]⟩) (.string ⟨#[]⟩)
  below : Below w.heap.size w W
theorem DS.later {w W V : World} {b b' : Bool} {p1 p2 p3 p5 : ByteArray} (s : DS w W b b' p1 p2 p3 p5) (hb : Below W.heap.size W V) : DS w V b b' p1 p2 p3 p5 := by
  have hl : w.heap.size < W.heap.size := World.block_lt_of_cell? _ _ s.c0
  exact ⟨(hb.cell (p := ⟨w.heap.size, 0, none⟩) hl).trans s.c0, (hb.cell (p := ⟨w.heap.size, 1, none⟩) hl).trans s.c1, (hb.cell (p := ⟨w.heap.size, 2, none⟩) hl).trans s.c2, (hb.cell (p := ⟨w.heap.size, 3, none⟩) hl).trans s.c3, (hb.cell (p := ⟨w.heap.size, 4, none⟩) hl).trans s.c4, s.r.later hb, s.below.trans (hb.mono s.below.size)⟩
theorem DS.first (w : World) (b b' : Bool) (p1 p2 p3 p5 : ByteArray) : DS w ((w.alloc (.cells #[.bool b, .string p1, .string p2, .string p3, .bool b', .string p5, .int .i64 0] 86)).alloc (.cells #[.string ⟨#[]⟩, .string ⟨#[]⟩] 23)) b b' p1 p2 p3 p5 :=
  ⟨by simp [go_sem], by simp [go_sem], by simp [go_sem], by simp [go_sem], by simp [go_sem], ⟨by simp [go_sem], by simp [go_sem], by simp [go_sem], by simp [go_sem]⟩, ((Below.refl _ _).alloc (Nat.le_refl _) _).alloc (by simp) _⟩
theorem DS.other {w W : World} {b b' : Bool} {p1 p2 p3 p5 : ByteArray} (s : DS w W b b' p1 p2 p3 p5) (g : Nat) (hg : w.heap.size + 1 < g) (u : Value) : DS w (W.setCell ⟨g, 0, none⟩ u) b b' p1 p2 p3 p5 := by
  have k : ∀ i, (W.setCell ⟨g, 0, none⟩ u).cell? ⟨w.heap.size, i, none⟩ = W.cell? ⟨w.heap.size, i, none⟩ := fun i => World.cell?_setCell_other _ _ _ _ (by intro e; have := congrArg Addr.block e; simp at this; omega)
  exact ⟨(k 0).trans s.c0, (k 1).trans s.c1, (k 2).trans s.c2, (k 3).trans s.c3, (k 4).trans s.c4, s.r.otherAt (by omega) u, s.below.setCell (p := ⟨g, 0, none⟩) (by show w.heap.size ≤ g; omega) _⟩
theorem pow_lt_ten (n e : Nat) (he : 1 ≤ e) (hn : n < 10) : n < 10 ^ e := Nat.lt_of_lt_of_le (by omega : n < 10 ^ 1) (Nat.pow_le_pow_right (by decide) he)

set_option maxRecDepth 100000 in
set_option maxHeartbeats 4000000 in
theorem decimal_S (w : World) (htab : Tab w) : Calls Tryz.prog 84 #[.agg #[.bool true, .string ⟨#[49]⟩, .string ⟨#[50, 53, 48]⟩, .string ⟨#[49]⟩, .bool true, .string ⟨#[]⟩, .int .i64 0]] w fun r w' => r = .returned (.tuple #[.agg #[.string (sT true 1), .string (tb 8)], .int .i64 0, .int .i64 0]) ∧ Below w.heap.size w w' := by
  obtain ⟨V, hV⟩ : ∃ V, V = (w.alloc (.cells #[.bool true, .string ⟨#[49]⟩, .string ⟨#[50, 53, 48]⟩, .string ⟨#[49]⟩, .bool true, .string ⟨#[]⟩, .int .i64 0] 86)).alloc (.cells #[.string ⟨#[]⟩, .string ⟨#[]⟩] 23) := ⟨_, rfl⟩
  have HS : Hid (DS w V true true ⟨#[49]⟩ ⟨#[50, 53, 48]⟩ ⟨#[49]⟩ ⟨#[]⟩) := by rw [hV]; exact DS.first _ _ _ _ _ _ _
  have HV := hide hV
  have HTW := hide htab
  have HN1 : Hid (∀ W, Calls Tryz.prog 138 #[.string (⟨#[49]⟩ ++ ⟨#[50, 53, 48]⟩)] W fun r w' => r = .returned (.string ⟨#[49, 50, 53, 48]⟩) ∧ w' = W) := fun W => by
    have := naturalT_any (⟨#[49]⟩ ++ ⟨#[50, 53, 48]⟩) W
    rwa [show natT (⟨#[49]⟩ ++ ⟨#[50, 53, 48]⟩) = ⟨#[49, 50, 53, 48]⟩ from bytes_ext (by rfl)] at this
  have HN2 : Hid (∀ W, Calls Tryz.prog 138 #[.string ⟨#[49]⟩] W fun r w' => r = .returned (.string ⟨#[49]⟩) ∧ w' = W) := fun W => by
    have := naturalT_any ⟨#[49]⟩ W
    rwa [show natT ⟨#[49]⟩ = ⟨#[49]⟩ from bytes_ext (by rfl)] at this
  have HAT : Hid (∀ W, Calls Tryz.prog 139 #[.string ⟨#[49]⟩] W fun e w' => e = .returned (.tuple #[.int .i64 1, .nilIface]) ∧ Below W.heap.size W w') := fun W => by
    refine (Tryz.strconv_Atoi ⟨#[49]⟩ 1 (by decide) (by decide) W).mono ?_
    rintro e w' ⟨rfl, t, rfl⟩
    exact ⟨rfl, Lib.bytesWorld_below W 5 t⟩
  have HBT : Hid (∀ W, Calls Tryz.prog 73 #[.string ⟨#[49, 50, 53, 48]⟩] W fun e w' => ∃ v, e = .returned v ∧ IsBig w' v 1250 ∧ Below W.heap.size W w') := fun W =>
    bigText_any ⟨#[49, 50, 53, 48]⟩ W (by decide) (by intro c hc; simp at hc; rcases hc with rfl | rfl | rfl | rfl <;> decide)
  have HBO : Hid (∀ W, Calls Tryz.prog 114 #[.int .u64 1] W fun e w' => ∃ a l c, e = .returned (.agg #[.slice a l c]) ∧ IsBig w' (.agg #[.slice a l c]) 1 ∧ Below W.heap.size W w') := fun W => bigOf_any 1 W (by decide)
  have HSH : Hid (∀ W x, IsBig W x 1 → Calls Tryz.prog 116 #[x, .int .i64 4] W fun e w' => ∃ a l c, e = .returned (.agg #[.slice a l c]) ∧ IsBig w' (.agg #[.slice a l c]) 10000 ∧ Below W.heap.size W w') := fun W x h => shift_any x 1 4 1 W h (by decide) (by decide) (by decide)
  have HRA : Hid (∀ W x y, IsBig W x 1250 → IsBig W y 10000 → Calls Tryz.prog 72 #[.bool true, x, y] W fun e w' => ∃ v', e = .returned v' ∧ IsFrac w' v' true 1 8 ∧ Below W.heap.size W w') := fun W x y h1 h2 =>
    ratio_any true x y 1250 10000 1 W h1 h2 (by decide) (by decide) (by decide) (divAns 1 (by decide)) (gcdAns 1 (by decide))
  have HTE : Hid (∀ W v, IsFrac W v true 1 8 → Tab W → Calls Tryz.prog 74 #[v] W fun r w' => r = .returned (.tuple #[.agg #[.string (sT true 1), .string (tb 8)], .int .i64 0]) ∧ Below W.heap.size W w') := fun W v h ht =>
    tell_ok v true 1 8 1 W h (by decide) (by decide) (by decide) (pow_lt_ten 1 600 (by decide) (by decide)) (pow_lt_ten 8 600 (by decide) (by decide)) ht
  clear htab
  have z1 : (⟨#[49]⟩ : ByteArray).size = 1 := rfl
  have z2 : (⟨#[50, 53, 48]⟩ : ByteArray).size = 3 := rfl
  have z3 : (⟨#[49, 50, 53, 48]⟩ : ByteArray).size = 4 := rfl
  generalize sT true 1 = rn at *
  generalize tb 8 = rd at *
  generalize (⟨#[49]⟩ : ByteArray) = t1 at *
  generalize (⟨#[50, 53, 48]⟩ : ByteArray) = t2 at *
  generalize (⟨#[49, 50, 53, 48]⟩ : ByteArray) = t3 at *
  go_enter Tryz.func84, Tryz.ntmps84
  go_upto_region 1 with fail
  rw [← unhide HV]
  clear hV HV
  have q0 := (unhide HS).c0; have q1 := (unhide HS).c1; have q2 := (unhide HS).c2; have q3 := (unhide HS).c3; have q4 := (unhide HS).c4
  go_upto_region 5 with (first
    | (go_at_call_of 138 (Value.string t1); go_must (refine (unhide HN2 _).mono ?_; rintro e w1 ⟨rfl, hw1⟩; obtain rfl : V = w1 := hw1.symm))
    | (go_at_call 138; go_must (refine (unhide HN1 _).mono ?_; rintro e w1 ⟨rfl, hw1⟩; obtain rfl : V = w1 := hw1.symm)))
  go_upto_region 13 with (go_at_call 139; go_must (refine (unhide HAT _).mono ?_; rintro e w1 ⟨rfl, hb1⟩; have HS1 := hide ((unhide HS).later hb1); clear hb1 q0 q1 q2 q3 q4; have q0 := (unhide HS1).c0; have q1 := (unhide HS1).c1; have q2 := (unhide HS1).c2; have q3 := (unhide HS1).c3; have q4 := (unhide HS1).c4))
  go_upto_region 14 with (first
    | (go_at_call 73; go_must (refine (unhide HBT _).mono ?_; rintro e w2 ⟨v2, rfl, hv2, hb2⟩; obtain ⟨a2, l2, c2, rfl⟩ := hv2.shape; have HS2 := hide ((unhide HS1).later hb2); have HX2 := hide hv2; clear hv2 hb2 q0 q1 q2 q3 q4))
    | (go_at_call 114; go_must (refine (unhide HBO _).mono ?_; rintro e w3 ⟨a3, l3, c3, rfl, hv3, hb3⟩; have HS3 := hide ((unhide HS2).later hb3); have HX3 := hide ((unhide HX2).later hb3); have HY3 := hide hv3; clear hv3 hb3)))
  obtain ⟨V4, hV4⟩ : ∃ V4, V4 = (w3.alloc (.cells #[.slice a2 l2 c2] 72)).alloc (.cells #[.slice a3 l3 c3] 72) := ⟨_, rfl⟩
  have hb : Below w3.heap.size w3 V4 := by rw [hV4]; exact ((Below.refl _ _).alloc (Nat.le_refl _) _).alloc (by simp) _
  have HS4 := hide ((unhide HS3).later hb); have HX4 := hide ((unhide HX3).later hb); have HY4 := hide ((unhide HY3).later hb)
  have HBX : Hid (Box V4 w3.heap.size (.slice a2 l2 c2)) := by rw [hV4]; exact (Box.new _ _).later ((Below.refl _ _).alloc (Nat.le_refl _) _)
  have HBY : Hid (Box V4 (w3.heap.size + 1) (.slice a3 l3 c3)) := by
    rw [hV4]
    have := Box.new (w3.alloc (.cells #[.slice a2 l2 c2] 72)) (.slice a3 l3 c3)
    rwa [show (w3.alloc (.cells #[.slice a2 l2 c2] 72)).heap.size = w3.heap.size + 1 by simp] at this
  have hg9 : w.heap.size + 1 < w3.heap.size := (unhide HS3).r.lt
  rw [← hV4]
  clear hV4 hb HS HS1 HS2 HS3 HX2 HX3 HY3
  generalize w3.heap.size = g9 at *
  have q0 := (unhide HS4).c0
  have u1 := (unhide HBY).c
  go_upto_region 17 with (go_at_call 116; go_must (refine (unhide HSH _ _ (unhide HY4)).mono ?_; rintro e w5 ⟨a5, l5, c5, rfl, hv5, hb5⟩; have HS5 := hide ((unhide HS4).later hb5); have HX5 := hide ((unhide HX4).later hb5); have HY5 := hide hv5; have HBX5 := hide ((unhide HBX).later hb5); have HBY5 := hide ((unhide HBY).later hb5); clear hv5 hb5 u1 q0; have u1 := (unhide HBY5).c; have u2 := (unhide HBY5).f))
  obtain ⟨V6, hV6⟩ : ∃ V6, V6 = w5.setCell ⟨g9 + 1, 0, none⟩ (.slice a5 l5 c5) := ⟨_, rfl⟩
  have HS6 : Hid (DS w V6 true true t1 t2 t1 ⟨#[]⟩) := by rw [hV6]; exact (unhide HS5).other (g9 + 1) (by omega) _
  have HX6 : Hid (IsBig V6 (.agg #[.slice a2 l2 c2]) 1250) := by rw [hV6]; exact (unhide HX5).box _ u1 (not_int _ _ _)
  have HY6 : Hid (IsBig V6 (.agg #[.slice a5 l5 c5]) 10000) := by rw [hV6]; exact (unhide HY5).box _ u1 (not_int _ _ _)
  have HBX6 : Hid (Box V6 g9 (.slice a2 l2 c2)) := by rw [hV6]; exact (unhide HBX5).other (by omega) _
  have HBY6 : Hid (Box V6 (g9 + 1) (.slice a5 l5 c5)) := by rw [hV6]; exact (unhide HBY5).set _
  have HT6 := hide ((unhide HTW).later (unhide HS6).below)
  rw [← hV6]
  clear hV6 HS4 HS5 HX4 HX5 HY4 HY5 HBX HBX5 HBY HBY5 u1 u2
  have q0 := (unhide HS6).c0; have u1 := (unhide HBX6).c; have u2 := (unhide HBY6).c
  go_upto_region 18 with (first
    | (go_at_call 72; go_must (refine (unhide HRA _ _ _ (unhide HX6) (unhide HY6)).mono ?_; rintro e w7 ⟨v7, rfl, hv7, hb7⟩; have HS7 := hide ((unhide HS6).later hb7); have HF7 := hide hv7; clear hv7 hb7 q0 u1 u2))
    | (go_at_call 74; go_must (refine (unhide HTE _ _ (unhide HF7) ((unhide HTW).later (unhide HS7).below)).mono ?_; rintro e w8 ⟨rfl, hb8⟩; have HS8 := hide ((unhide HS7).later hb8); clear hb8)))
  obtain ⟨V9, hV9⟩ : ∃ V9, V9 = w8.alloc (.cells #[.string rn, .string rd] 23) := ⟨_, rfl⟩
  have HS9 : Hid (DS w V9 true true t1 t2 t1 ⟨#[]⟩) := (unhide HS8).later (by rw [hV9]; exact (Below.refl _ _).alloc (Nat.le_refl _) _)
  have c0 : V9.cell? ⟨w8.heap.size, 0, none⟩ = some (.string rn) := by rw [hV9]; simp [go_sem]
  have c1 : V9.cell? ⟨w8.heap.size, 1, none⟩ = some (.string rd) := by rw [hV9]; simp [go_sem]
  rw [← hV9]
  clear hV9
  have r0 := (unhide HS9).r.c0; have r1 := (unhide HS9).r.c1; have rf0 := (unhide HS9).r.f0; have rf1 := (unhide HS9).r.f1
  go_wp2_with fail
  have hS := (unhide HS9).r.store (.string rn) (.string rd)
  have hb : Below w.heap.size w (store2 V9 (w.heap.size + 1) (.string rn) (.string rd)) := below_store2 (unhide HS9).below (by omega) _ _
  have v0 := hS.c0; have v1 := hS.c1
  exact bodyPost_ret (v := .tuple #[.agg #[.string rn, .string rd], .int .i64 0, .int .i64 0]) (w := store2 V9 (w.heap.size + 1) (.string rn) (.string rd)) (by simp [results, Tryz.results84, go_sem, v0, v1]) rfl ⟨rfl, hb⟩

set_option maxRecDepth 100000 in
set_option maxHeartbeats 2000000 in
theorem parse_S (w : World) (htab : Tab w) : Calls Tryz.prog 24 #[.string exS] w fun r w' => r = .returned (.tuple #[.agg #[.string (sT true 1), .string (tb 8)], .int .i64 0, .int .i64 0]) ∧ Below w.heap.size w w' := by
  obtain ⟨V, hV⟩ : ∃ V, V = w.alloc (.cells #[.string ⟨#[]⟩, .string ⟨#[]⟩] 23) := ⟨_, rfl⟩
  have hbV : Below w.heap.size w V := by rw [hV]; exact (Below.refl _ _).alloc (Nat.le_refl _) _
  have HR : Hid (T2 V w.heap.size (.string ⟨#[]⟩) (.string ⟨#[]⟩) ∧ Below w.heap.size w V) := ⟨by rw [hV]; exact ⟨by simp [go_sem], by simp [go_sem], by simp [go_sem], by simp [go_sem]⟩, hbV⟩
  have HV := hide hV
  have HTW := hide htab
  have H80 := hide (cutParts_S V)
  have H82 := hide (fun W (hb : Below w.heap.size w W) => decimal_S W (htab.later hb))
  have hsz : (exS.size : Int) = 9 := rfl
  clear htab hbV
  generalize sT true 1 = rn at *
  generalize tb 8 = rd at *
  generalize (⟨#[49]⟩ : ByteArray) = t1 at *
  generalize (⟨#[50, 53, 48]⟩ : ByteArray) = t2 at *
  generalize exS = s at *
  go_enter Tryz.func24, Tryz.ntmps24
  go_upto_region 3 with fail
  rw [← unhide HV]
  clear hV HV
  go_upto_region 4 with (go_at_call 82; go_must (refine (unhide H80).mono ?_; rintro e w1 ⟨rfl, hb1⟩; have HR1 : Hid (T2 w1 w.heap.size (.string ⟨#[]⟩) (.string ⟨#[]⟩) ∧ Below w.heap.size w w1) := ⟨(unhide HR).1.later hb1, (unhide HR).2.trans (hb1.mono (unhide HR).2.size)⟩; clear hb1))
  obtain ⟨V2, hV2⟩ : ∃ V2, V2 = w1.alloc (.cells #[.bool true, .string t1, .string t2, .string t1, .bool true, .string ⟨#[]⟩, .int .i64 0] 86) := ⟨_, rfl⟩
  have hb2 : Below w1.heap.size w1 V2 := by rw [hV2]; exact (Below.refl _ _).alloc (Nat.le_refl _) _
  have HR2 : Hid (T2 V2 w.heap.size (.string ⟨#[]⟩) (.string ⟨#[]⟩) ∧ Below w.heap.size w V2) := ⟨(unhide HR1).1.later hb2, (unhide HR1).2.trans (hb2.mono (unhide HR1).2.size)⟩
  have c0 : V2.cell? ⟨w1.heap.size, 0, none⟩ = some (.bool true) := by rw [hV2]; simp [go_sem]
  have c1 : V2.cell? ⟨w1.heap.size, 1, none⟩ = some (.string t1) := by rw [hV2]; simp [go_sem]
  have c2 : V2.cell? ⟨w1.heap.size, 2, none⟩ = some (.string t2) := by rw [hV2]; simp [go_sem]
  have c3 : V2.cell? ⟨w1.heap.size, 3, none⟩ = some (.string t1) := by rw [hV2]; simp [go_sem]
  have c4 : V2.cell? ⟨w1.heap.size, 4, none⟩ = some (.bool true) := by rw [hV2]; simp [go_sem]
  have c5 : V2.cell? ⟨w1.heap.size, 5, none⟩ = some (.string ⟨#[]⟩) := by rw [hV2]; simp [go_sem]
  have c6 : V2.cell? ⟨w1.heap.size, 6, none⟩ = some (.int .i64 0) := by rw [hV2]; simp [go_sem]
  rw [← hV2]
  clear hV2 hb2 HR HR1 H80
  go_wp2_with (go_at_call 84; go_must (refine (unhide H82 _ (unhide HR2).2).mono ?_; rintro e w3 ⟨rfl, hb3⟩; have HR3 : Hid (T2 w3 w.heap.size (.string ⟨#[]⟩) (.string ⟨#[]⟩) ∧ Below w.heap.size w w3) := ⟨(unhide HR2).1.later hb3, (unhide HR2).2.trans (hb3.mono (unhide HR2).2.size)⟩; clear hb3 c0 c1 c2 c3 c4 c5 c6; have r0 := (unhide HR3).1.c0; have r1 := (unhide HR3).1.c1; have rf0 := (unhide HR3).1.f0; have rf1 := (unhide HR3).1.f1))
  have hS := (unhide HR3).1.store (.string rn) (.string rd)
  have hb : Below w.heap.size w (store2 w3 w.heap.size (.string rn) (.string rd)) := below_store2 (unhide HR3).2 (Nat.le_refl _) _ _
  have v0 := hS.c0; have v1 := hS.c1
  exact bodyPost_ret (v := .tuple #[.agg #[.string rn, .string rd], .int .i64 0, .int .i64 0]) (w := store2 w3 w.heap.size (.string rn) (.string rd)) (by simp [results, Tryz.results24, go_sem, v0, v1]) rfl ⟨rfl, hb⟩
end Go.Proofs.YtndhinoomlofgaaGreatDoor

namespace Go.Proofs.YtndhinoomlofgaaGreatDoor
open Go.RowKit

/-- A Frac, the box of a number, and boxes of one cell besides. -/
structure NB (w W : World) (x y z : Value) (L : List (Nat × Value)) : Prop where
  a : FBox W w.heap.size x y z
  r : Box W (w.heap.size + 1) (.slice none 0 0)
  bx : ∀ p ∈ L, Box W p.1 p.2
  gt : ∀ p ∈ L, w.heap.size + 1 < p.1
  below : Below w.heap.size w W
theorem NB.later {w W V : World} {x y z : Value} {L : List (Nat × Value)} (s : NB w W x y z L) (hb : Below W.heap.size W V) : NB w V x y z L :=
  ⟨s.a.later hb, s.r.later hb, fun p hp => (s.bx p hp).later hb, s.gt, s.below.trans (hb.mono s.below.size)⟩
theorem NB.first (w : World) (x y z : Value) : NB w ((w.alloc (.cells #[x, y, z] 74)).alloc (.cells #[.slice none 0 0] 72)) x y z [] :=
  ⟨⟨by simp [go_sem], by simp [go_sem], by simp [go_sem], by simp [go_sem], by simp [go_sem], by simp [go_sem]⟩, ⟨by simp [go_sem], by simp [go_sem]⟩, (fun _ h => by cases h), (fun _ h => by cases h), ((Below.refl _ _).alloc (Nat.le_refl _) _).alloc (by simp) _⟩
theorem NB.push {w W : World} {x y z : Value} {L : List (Nat × Value)} (s : NB w W x y z L) (v : Value) : NB w (W.alloc (.cells #[v] 72)) x y z ((W.heap.size, v) :: L) := by
  have t := s.later ((Below.refl W.heap.size W).alloc (Nat.le_refl _) (.cells #[v] 72))
  refine ⟨t.a, t.r, ?_, ?_, t.below⟩
  · intro p hp
    rcases List.mem_cons.1 hp with rfl | hp
    · exact ⟨by simp [go_sem], by simp [go_sem]⟩
    · exact t.bx p hp
  · intro p hp
    rcases List.mem_cons.1 hp with rfl | hp
    · exact s.r.lt
    · exact t.gt p hp
theorem NB.sub {w W : World} {x y z : Value} {L M : List (Nat × Value)} (s : NB w W x y z L) (h : ∀ p ∈ M, p ∈ L) : NB w W x y z M :=
  ⟨s.a, s.r, fun p hp => s.bx p (h p hp), fun p hp => s.gt p (h p hp), s.below⟩
theorem NB.set {w W : World} {x y z v : Value} {g : Nat} {L : List (Nat × Value)} (s : NB w W x y z ((g, v) :: L)) (h : ∀ p ∈ L, p.1 ≠ g) (u : Value) : NB w (W.setCell ⟨g, 0, none⟩ u) x y z ((g, u) :: L) := by
  have hg : w.heap.size + 1 < g := s.gt (g, v) (by simp)
  refine ⟨s.a.otherAt (by omega) u, s.r.other (by omega) u, ?_, ?_, s.below.setCell (p := ⟨g, 0, none⟩) (by show w.heap.size ≤ g; omega) _⟩
  · intro p hp
    rcases List.mem_cons.1 hp with rfl | hp
    · exact (s.bx (g, v) (by simp)).set u
    · exact (s.bx p (by simp [hp])).other (h p hp) u
  · intro p hp
    rcases List.mem_cons.1 hp with rfl | hp
    · exact hg
    · exact s.gt p (by simp [hp])

set_option maxRecDepth 100000 in
set_option maxHeartbeats 4000000 in
theorem nearest_up (v : Value) (b : Bool) (n d p k : Nat) (w : World) (h : IsFrac w v b n d) (hk : k + 1 ≤ 100000) (hp : p ≤ 100000) (hn : n < 1000000000 ^ k) (hN : n * 10 ^ p < 1000000000 ^ k) (hd : d < 1000000000 ^ k) (hd0 : 0 < d) (hup : d < n * 10 ^ p % d + n * 10 ^ p % d) :
    Calls Tryz.prog 88 #[v, .int .i64 (p : Int)] w fun e w' => ∃ a l c, e = .returned (.agg #[.slice a l c]) ∧ IsBig w' (.agg #[.slice a l c]) (n * 10 ^ p / d + 1) ∧ Below w.heap.size w w' := by
  obtain ⟨a1, l1, c1, a2, l2, c2, rfl, h1, h2⟩ := h.form
  obtain ⟨V, hV⟩ : ∃ V, V = (w.alloc (.cells #[.bool b, .slice a1 l1 c1, .slice a2 l2 c2] 74)).alloc (.cells #[.slice none 0 0] 72) := ⟨_, rfl⟩
  have HS : Hid (NB w V (.bool b) (.slice a1 l1 c1) (.slice a2 l2 c2) []) := by rw [hV]; exact NB.first _ _ _ _
  have HV := hide hV
  have HX := hide (h1.later (unhide HS).below)
  have HY := hide (h2.later (unhide HS).below)
  have hp0 : ¬ (p : Int) < 0 := by omega
  have hq : n * 10 ^ p / d < 1000000000 ^ k := Nat.lt_of_le_of_lt (Nat.div_le_self _ _) hN
  have hr : n * 10 ^ p % d < 1000000000 ^ k := Nat.lt_of_le_of_lt (Nat.mod_le _ _) hN
  have h1k : 1 < 1000000000 ^ k := by
    rcases Nat.eq_zero_or_pos k with h0 | h0
    · subst h0; simp at hd; omega
    · have : (1000000000 : Nat) ^ 1 ≤ 1000000000 ^ k := Nat.pow_le_pow_right (by decide) h0
      omega
  have HSH : Hid (∀ W x, IsBig W x n → Calls Tryz.prog 116 #[x, .int .i64 (p : Int)] W fun e w' => ∃ a l c, e = .returned (.agg #[.slice a l c]) ∧ IsBig w' (.agg #[.slice a l c]) (n * 10 ^ p) ∧ Below W.heap.size W w') := fun W x h => shift_any x n p k W h (by omega) hn (by omega)
  have HDM : Hid (∀ W x y, IsBig W x (n * 10 ^ p) → IsBig W y d → Calls Tryz.prog 120 #[x, y] W fun e w' => ∃ a1 n1 c1 a2 n2 c2, e = .returned (.tuple #[.agg #[.slice a1 n1 c1], .agg #[.slice a2 n2 c2]]) ∧ IsBig w' (.agg #[.slice a1 n1 c1]) (n * 10 ^ p / d) ∧ IsBig w' (.agg #[.slice a2 n2 c2]) (n * 10 ^ p % d) ∧ Below W.heap.size W w') := fun W x y h1 h2 => divAns k (by omega) W x y _ _ h1 h2 hN hd0
  generalize n * 10 ^ p / d = Q at *
  generalize n * 10 ^ p % d = R at *
  generalize n * 10 ^ p = N at *
  have HAD : Hid (∀ W x, IsBig W x R → Calls Tryz.prog 142 #[x, x] W fun e w' => ∃ v, e = .returned v ∧ IsBig w' v (R + R) ∧ Below W.heap.size W w') := fun W x h => add_any x x R R k W h h (by omega) hr hr
  have HCM : Hid (∀ W x y, IsBig W x (R + R) → IsBig W y d → Calls Tryz.prog 143 #[x, y] W fun e w' => e = .returned (.int .i64 1) ∧ Below W.heap.size W w') := fun W x y h1 h2 => by
    have := cmp_any x y (R + R) d W h1 h2
    rwa [show Cub.cmpN (R + R) d = 1 by unfold Cub.cmpN; rw [if_neg (by omega), if_pos hup]] at this
  have HBO : Hid (∀ W, Calls Tryz.prog 114 #[.int .u64 1] W fun e w' => ∃ a l c, e = .returned (.agg #[.slice a l c]) ∧ IsBig w' (.agg #[.slice a l c]) 1 ∧ Below W.heap.size W w') := fun W => bigOf_any 1 W (by decide)
  have HA1 : Hid (∀ W x y, IsBig W x Q → IsBig W y 1 → Calls Tryz.prog 142 #[x, y] W fun e w' => ∃ v, e = .returned v ∧ IsBig w' v (Q + 1) ∧ Below W.heap.size W w') := fun W x y h1 h2 => add_any x y Q 1 k W h1 h2 (by omega) hq h1k
  clear h h1 h2 hk hp hn hN hd hd0 hup hq hr h1k
  go_enter Tryz.func88, Tryz.ntmps88
  go_upto_region 1 with fail
  rw [← unhide HV]
  clear hV HV
  have t1 := (unhide HS).a.c1; have t2 := (unhide HS).a.c2
  have zl := (unhide HS).a.lt
  have zl2 : w.heap.size < V.heap.size + 1 := by omega
  have zn1 : ¬ w.heap.size = V.heap.size := by omega
  have zn2 : ¬ w.heap.size = V.heap.size + 1 := by omega
  go_region
  all_goals
    first
    | (obtain ⟨V1, hV1⟩ : ∃ V1, V1 = ((V.alloc (.cells #[.slice a1 l1 c1] 72)).alloc (.cells #[.slice a2 l2 c2] 72)).drew := ⟨_, rfl⟩
       rw [← hV1]
       have hb : Below V.heap.size V V1 := by rw [hV1]; have h2 := ((Below.refl V.heap.size V).alloc (Nat.le_refl _) (.cells #[.slice a1 l1 c1] 72)).alloc (by simp) (.cells #[.slice a2 l2 c2] 72); exact h2.trans (((Below.refl _ _).drew).mono h2.size)
       have HS1 : Hid (NB w V1 (.bool b) (.slice a1 l1 c1) (.slice a2 l2 c2) [(V.heap.size, .slice a1 l1 c1), (V.heap.size + 1, .slice a2 l2 c2)]) := by
         rw [hV1]
         have s := ((unhide HS).push (.slice a1 l1 c1)).push (.slice a2 l2 c2)
         rw [show (V.alloc (.cells #[.slice a1 l1 c1] 72)).heap.size = V.heap.size + 1 by simp] at s
         exact (s.sub (by intro p hp; simp at hp ⊢; grind)).later ((Below.refl _ _).drew)
       have hne : V.heap.size ≠ V.heap.size + 1 := by omega
       generalize hg5 : V.heap.size = g5 at HS1 hne ⊢
       generalize hg6 : g5 + 1 = g6 at HS1 hne ⊢)
    | (obtain ⟨V1, hV1⟩ : ∃ V1, V1 = ((V.alloc (.cells #[.slice a2 l2 c2] 72)).alloc (.cells #[.slice a1 l1 c1] 72)).drew := ⟨_, rfl⟩
       rw [← hV1]
       have hb : Below V.heap.size V V1 := by rw [hV1]; have h2 := ((Below.refl V.heap.size V).alloc (Nat.le_refl _) (.cells #[.slice a2 l2 c2] 72)).alloc (by simp) (.cells #[.slice a1 l1 c1] 72); exact h2.trans (((Below.refl _ _).drew).mono h2.size)
       have HS1 : Hid (NB w V1 (.bool b) (.slice a1 l1 c1) (.slice a2 l2 c2) [(V.heap.size + 1, .slice a1 l1 c1), (V.heap.size, .slice a2 l2 c2)]) := by
         rw [hV1]
         have s := ((unhide HS).push (.slice a2 l2 c2)).push (.slice a1 l1 c1)
         rw [show (V.alloc (.cells #[.slice a2 l2 c2] 72)).heap.size = V.heap.size + 1 by simp] at s
         exact (s.sub (by intro p hp; simp at hp ⊢; grind)).later ((Below.refl _ _).drew)
       have hne : V.heap.size + 1 ≠ V.heap.size := by omega
       generalize hg6 : V.heap.size = g6 at HS1 hne ⊢
       generalize hg5 : g6 + 1 = g5 at HS1 hne ⊢)
    have HX1 := hide ((unhide HX).later hb); have HY1 := hide ((unhide HY).later hb)
    clear hV1 hb HS HX HY t1 t2 zl zl2 zn1 zn2 hg5 hg6
    have u5 := ((unhide HS1).bx (g5, .slice a1 l1 c1) (by simp)).c
    dsimp only at u5
    go_upto_region 5 with (go_at_call 116; go_must (refine (unhide HSH _ _ (unhide HX1)).mono ?_; rintro e w2 ⟨a3, l3, c3, rfl, hv2, hb2⟩; have HS2 := hide ((unhide HS1).later hb2); have HY2 := hide ((unhide HY1).later hb2); have HN2 := hide hv2; clear hv2 hb2 u5; have u5 := ((unhide HS2).bx (g5, .slice a1 l1 c1) (by simp)).c; have k5 := ((unhide HS2).bx (g5, .slice a1 l1 c1) (by simp)).f; dsimp only at u5 k5))
    obtain ⟨V3, hV3⟩ : ∃ V3, V3 = w2.setCell ⟨g5, 0, none⟩ (.slice a3 l3 c3) := ⟨_, rfl⟩
    have HS3 : Hid (NB w V3 (.bool b) (.slice a1 l1 c1) (.slice a2 l2 c2) [(g5, .slice a3 l3 c3), (g6, .slice a2 l2 c2)]) := by rw [hV3]; exact (unhide HS2).set (by intro p hp; simp at hp; subst hp; exact hne.symm) _
    have HN3 : Hid (IsBig V3 (.agg #[.slice a3 l3 c3]) N) := by rw [hV3]; exact (unhide HN2).box _ u5 (not_int _ _ _)
    have HY3 : Hid (IsBig V3 (.agg #[.slice a2 l2 c2]) d) := by rw [hV3]; exact (unhide HY2).box _ u5 (not_int _ _ _)
    rw [← hV3]
    clear hV3 HS1 HS2 HX1 HY1 HY2 HN2 u5 k5
    have u5 := ((unhide HS3).bx (g5, .slice a3 l3 c3) (by simp)).c; have u6 := ((unhide HS3).bx (g6, .slice a2 l2 c2) (by simp)).c
    dsimp only at u5 u6
    go_upto_region 6 with (go_at_call 120; go_must (refine (unhide HDM _ _ _ (unhide HN3) (unhide HY3)).mono ?_; rintro e w4 ⟨a7, l7, c7, a8, l8, c8, rfl, hq4, hr4, hb4⟩; have HS4 := hide ((unhide HS3).later hb4); have HY4 := hide ((unhide HY3).later hb4); have HQ4 := hide hq4; have HR4 := hide hr4; clear hq4 hr4 hb4 u5 u6))
    obtain ⟨V5, hV5⟩ : ∃ V5, V5 = (w4.alloc (.cells #[.slice a7 l7 c7] 72)).alloc (.cells #[.slice a8 l8 c8] 72) := ⟨_, rfl⟩
    have hb5 : Below w4.heap.size w4 V5 := by rw [hV5]; exact ((Below.refl _ _).alloc (Nat.le_refl _) _).alloc (by simp) _
    have HS5 : Hid (NB w V5 (.bool b) (.slice a1 l1 c1) (.slice a2 l2 c2) [(w4.heap.size + 1, .slice a8 l8 c8), (w4.heap.size, .slice a7 l7 c7), (g6, .slice a2 l2 c2)]) := by
      rw [hV5]
      have s := ((unhide HS4).push (.slice a7 l7 c7)).push (.slice a8 l8 c8)
      rw [show (w4.alloc (.cells #[.slice a7 l7 c7] 72)).heap.size = w4.heap.size + 1 by simp] at s
      exact s.sub (by intro p hp; simp at hp ⊢; grind)
    have HY5 := hide ((unhide HY4).later hb5); have HQ5 := hide ((unhide HQ4).later hb5); have HR5 := hide ((unhide HR4).later hb5)
    rw [← hV5]
    clear hV5 hb5 HS3 HS4 HN3 HY3 HY4 HQ4 HR4
    generalize w4.heap.size = g7 at *
    have HC : Hid (∀ U, Below V5.heap.size V5 U → (U.cell? ⟨g7 + 1, 0, none⟩ = some (.slice a8 l8 c8) ∧ U.cell? ⟨g6, 0, none⟩ = some (.slice a2 l2 c2)) ∧ U.cell? ⟨g7, 0, none⟩ = some (.slice a7 l7 c7)) := fun U hb => by
      have s := (unhide HS5).later hb
      exact ⟨⟨(s.bx (g7 + 1, .slice a8 l8 c8) (by simp)).c, (s.bx (g6, .slice a2 l2 c2) (by simp)).c⟩, (s.bx (g7, .slice a7 l7 c7) (by simp)).c⟩
    obtain ⟨⟨u8, u6⟩, _⟩ := unhide HC V5 (Below.refl _ _)
    go_region_held3 (fun w' => w'.cell? ⟨g7 + 1, 0, none⟩ = some (.slice a8 l8 c8) ∧ w'.cell? ⟨g6, 0, none⟩ = some (.slice a2 l2 c2)) (first | assumption | (refine ⟨?_, ?_⟩ <;> first | assumption | (simp [go_sem, *]; done)) | (simp [go_sem, *]; done)) ((first
      | (go_at_call 142; go_must (refine (unhide HAD _ _ ((unhide HR5).later ((Below.refl _ _).drew))).mono ?_; rintro e wa ⟨va, rfl, hva, hba⟩; obtain ⟨aa, la, ca, rfl⟩ := hva.shape; have HVA := hide hva; have HCA := hide (((Below.refl V5.heap.size V5).drew).trans hba); clear hva hba u8 u6; obtain ⟨⟨u8, u6⟩, _⟩ := unhide HC wa (unhide HCA)))
      | (go_at_call 143; go_must (refine (unhide HCM _ _ _ (unhide HVA) ((unhide HY5).later (unhide HCA))).mono ?_; rintro e wb ⟨rfl, hbb⟩; have HCB := hide ((unhide HCA).trans (hbb.mono (unhide HCA).size)); clear hbb u8 u6; obtain ⟨⟨u8, u6⟩, _⟩ := unhide HC wb (unhide HCB)))))
    have HS6 := hide ((unhide HS5).later (unhide HCB)); have HQ6 := hide ((unhide HQ5).later (unhide HCB))
    clear u8 u6 HS5 HY5 HQ5 HR5 HC HVA HCA HCB HAD HCM
    go_upto_region 8 with fail
    have HC : Hid (∀ U, Below wb.heap.size wb U → U.cell? ⟨g7, 0, none⟩ = some (.slice a7 l7 c7) ∧ U.cell? ⟨w.heap.size + 1, 0, none⟩ = some (.slice none 0 0) ∧ U.frozen? ⟨w.heap.size + 1, 0, none⟩ = false) := fun U hb => by
      have s := (unhide HS6).later hb
      exact ⟨(s.bx (g7, .slice a7 l7 c7) (by simp)).c, s.r.c, s.r.f⟩
    have hgt : w.heap.size + 1 < g7 := (unhide HS6).gt (g7, .slice a7 l7 c7) (by simp)
    have hn1 : ¬ g7 = w.heap.size + 1 := by omega
    have hn2 : ¬ w.heap.size + 1 = g7 := by omega
    obtain ⟨u7, _⟩ := unhide HC wb (Below.refl _ _)
    go_region_held3 (fun w' => w'.cell? ⟨g7, 0, none⟩ = some (.slice a7 l7 c7)) (first | assumption | (simp [go_sem, *]; done) | (rw [World.cell?_setCell_other _ _ _ _ (by simp; omega)]; assumption)) ((first
      | (go_at_call 114; go_must (refine (unhide HBO _).mono ?_; rintro e wc ⟨ac, lc, cc, rfl, hvc, hbc⟩; have HVC := hide hvc; have HCC := hide (((Below.refl wb.heap.size wb).drew).trans hbc); clear hvc hbc u7; obtain ⟨u7, _⟩ := unhide HC wc (unhide HCC)))
      | (go_at_call 142; go_must (refine (unhide HA1 _ _ _ ((unhide HQ6).later (unhide HCC)) (unhide HVC)).mono ?_; rintro e wd ⟨vd, rfl, hvd, hbd⟩; obtain ⟨ad, ld, cd, rfl⟩ := hvd.shape; have HVD := hide hvd; have HCD := hide ((unhide HCC).trans (hbd.mono (unhide HCC).size)); clear hvd hbd u7; obtain ⟨u7, r0, rf0⟩ := unhide HC wd (unhide HCD)))))
    have HS9 := hide ((unhide HS6).later (unhide HCD))
    obtain ⟨V9, hV9⟩ : ∃ V9, V9 = wd.setCell ⟨w.heap.size + 1, 0, none⟩ (.slice ad ld cd) := ⟨_, rfl⟩
    have HE : Hid (IsBig V9 (.agg #[.slice ad ld cd]) (Q + 1) ∧ Below w.heap.size w V9) := by rw [hV9]; exact ⟨(unhide HVD).box _ r0 (not_int _ _ _), (unhide HS9).below.setCell (p := ⟨w.heap.size + 1, 0, none⟩) (by simp) _⟩
    have s0 : V9.cell? ⟨w.heap.size + 1, 0, none⟩ = some (.slice ad ld cd) := by rw [hV9]; exact World.cell?_setCell_same _ _ _ r0
    rw [← hV9]
    clear hV9 u7 r0 rf0 hgt hn1 hn2
    go_wp2_with fail
    exact bodyPost_ret (v := .agg #[.slice ad ld cd]) (by simp [results, Tryz.results88, go_sem, s0]) rfl ⟨_, _, _, rfl, (unhide HE).1, (unhide HE).2⟩
end Go.Proofs.YtndhinoomlofgaaGreatDoor

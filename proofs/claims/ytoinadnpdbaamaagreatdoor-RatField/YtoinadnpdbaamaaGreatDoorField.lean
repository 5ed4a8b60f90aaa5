/- The walk of RatField. -/
import Derived.Test.YtoinadnpdbaamaaGreatDoorLawNo
namespace Go.Proofs.YtoinadnpdbaamaaGreatDoor
open Go.RowKit

/-- cubitlaw02.both where it holds. -/
theorem both_yes (s1 t1 s2 t2 : ByteArray) (e f : Int) (w : World) (h : ¬ e = 0 ∨ (e = 0 ∧ ¬ f = 0) ∨ (e = 0 ∧ f = 0 ∧ s1 = s2 ∧ t1 = t2)) :
    Calls Tryz.prog 60 #[.agg #[.string s1, .string t1], .int .i64 e, .agg #[.string s2, .string t2], .int .i64 f] w fun r w' => r = .returned (.bool true) ∧ Below w.heap.size w w' := by
  have hb : Below w.heap.size w ((w.alloc (.cells #[.string s1, .string t1] 23)).alloc (.cells #[.string s2, .string t2] 23)) := ((Below.refl _ _).alloc (Nat.le_refl _) _).alloc (by simp) _
  have HB := hide hb
  clear hb
  rcases h with h | ⟨rfl, h⟩ | ⟨rfl, rfl, rfl, rfl⟩
  · have h' : (e == 0) = false := by rw [beq_eq_false_iff_ne]; exact h
    go_enter Tryz.func60, Tryz.ntmps60
    go_wp2
    go_ret
    exact ⟨rfl, unhide HB⟩
  · have h' : (f == 0) = false := by rw [beq_eq_false_iff_ne]; exact h
    go_enter Tryz.func60, Tryz.ntmps60
    go_wp2
    go_ret
    exact ⟨rfl, unhide HB⟩
  · go_enter Tryz.func60, Tryz.ntmps60
    go_wp2
    go_ret
    exact ⟨rfl, unhide HB⟩

set_option maxRecDepth 100000 in
set_option maxHeartbeats 40000000 in
theorem field_walk (n1 d1 n2 d2 n3 d3 : ByteArray) (pn pd mn md un ud ln ld rn rd tn td vn vd wn wd zn zd gn gd : ByteArray) (pe me ue le re te ve we ze : Int) (w : World) (r1 : RB n1 d1 true) (r2 : RB n2 d2 true) (r3 : RB n3 d3 true)
    (c1 : ∀ W, Below w.heap.size w W → Calls Tryz.prog 28 #[.agg #[.string n1, .string d1], .agg #[.string n2, .string d2]] W fun r w' => r = .returned (.tuple #[.agg #[.string pn, .string pd], .int .i64 pe]) ∧ Below W.heap.size W w') (c2 : ∀ W, Below w.heap.size w W → Calls Tryz.prog 28 #[.agg #[.string n2, .string d2], .agg #[.string n1, .string d1]] W fun r w' => r = .returned (.tuple #[.agg #[.string pn, .string pd], .int .i64 pe]) ∧ Below W.heap.size W w') (c3 : ∀ W, Below w.heap.size w W → Calls Tryz.prog 32 #[.agg #[.string n1, .string d1], .agg #[.string n2, .string d2]] W fun r w' => r = .returned (.tuple #[.agg #[.string mn, .string md], .int .i64 me]) ∧ Below W.heap.size W w') (c4 : ∀ W, Below w.heap.size w W → Calls Tryz.prog 32 #[.agg #[.string n2, .string d2], .agg #[.string n1, .string d1]] W fun r w' => r = .returned (.tuple #[.agg #[.string mn, .string md], .int .i64 me]) ∧ Below W.heap.size W w') (c5 : pe = 0 → ∀ W, Below w.heap.size w W → Calls Tryz.prog 30 #[.agg #[.string pn, .string pd], .agg #[.string n2, .string d2]] W fun r w' => r = .returned (.tuple #[.agg #[.string n1, .string d1], .int .i64 0]) ∧ Below W.heap.size W w') (c6 : pe = 0 → ∀ W, Below w.heap.size w W → Calls Tryz.prog 32 #[.agg #[.string pn, .string pd], .agg #[.string n3, .string d3]] W fun r w' => r = .returned (.tuple #[.agg #[.string un, .string ud], .int .i64 ue]) ∧ Below W.heap.size W w') (c7 : ∀ W, Below w.heap.size w W → Calls Tryz.prog 32 #[.agg #[.string n1, .string d1], .agg #[.string n3, .string d3]] W fun r w' => r = .returned (.tuple #[.agg #[.string ln, .string ld], .int .i64 le]) ∧ Below W.heap.size W w') (c8 : ∀ W, Below w.heap.size w W → Calls Tryz.prog 32 #[.agg #[.string n2, .string d2], .agg #[.string n3, .string d3]] W fun r w' => r = .returned (.tuple #[.agg #[.string rn, .string rd], .int .i64 re]) ∧ Below W.heap.size W w') (c9 : ∀ W, Below w.heap.size w W → Calls Tryz.prog 28 #[.agg #[.string ln, .string ld], .agg #[.string rn, .string rd]] W fun r w' => r = .returned (.tuple #[.agg #[.string tn, .string td], .int .i64 te]) ∧ Below W.heap.size W w') (c10 : pe = 0 → ∀ W, Below w.heap.size w W → Calls Tryz.prog 28 #[.agg #[.string pn, .string pd], .agg #[.string n3, .string d3]] W fun r w' => r = .returned (.tuple #[.agg #[.string vn, .string vd], .int .i64 ve]) ∧ Below W.heap.size W w') (c11 : ∀ W, Below w.heap.size w W → Calls Tryz.prog 28 #[.agg #[.string n2, .string d2], .agg #[.string n3, .string d3]] W fun r w' => r = .returned (.tuple #[.agg #[.string wn, .string wd], .int .i64 we]) ∧ Below W.heap.size W w') (c12 : ∀ W, Below w.heap.size w W → Calls Tryz.prog 28 #[.agg #[.string n1, .string d1], .agg #[.string wn, .string wd]] W fun r w' => r = .returned (.tuple #[.agg #[.string zn, .string zd], .int .i64 ze]) ∧ Below W.heap.size W w') (c13 : me = 0 → (n2.toList == [48]) = false → ∀ W, Below w.heap.size w W → Calls Tryz.prog 34 #[.agg #[.string mn, .string md], .agg #[.string n2, .string d2]] W fun r w' => r = .returned (.tuple #[.agg #[.string n1, .string d1], .int .i64 0]) ∧ Below W.heap.size W w') (c14 : ∀ W, Below w.heap.size w W → Calls Tryz.prog 36 #[.agg #[.string n1, .string d1]] W fun r w' => r = .returned (.tuple #[.agg #[.string gn, .string gd], .int .i64 0]) ∧ Below W.heap.size W w') (c15 : ∀ W, Below w.heap.size w W → Calls Tryz.prog 28 #[.agg #[.string n1, .string d1], .agg #[.string gn, .string gd]] W fun r w' => r = .returned (.tuple #[.agg #[.string ⟨#[48]⟩, .string ⟨#[49]⟩], .int .i64 0]) ∧ Below W.heap.size W w')
    (hpe : pe = 0 ∨ ¬ pe = 0) (D1 : le = 0 → re = 0 → ¬ ue = 0 ∨ (ue = 0 ∧ ¬ te = 0) ∨ (ue = 0 ∧ te = 0 ∧ un = tn ∧ ud = td)) (D2 : we = 0 → ¬ ve = 0 ∨ (ve = 0 ∧ ¬ ze = 0) ∨ (ve = 0 ∧ ze = 0 ∧ vn = zn ∧ vd = zd))
    (haw : ∀ W, Below w.heap.size w W → Calls Tryz.prog 21 #[] W fun r w' => r = .returned (.bool true) ∧ Below W.heap.size W w') :
    Calls Tryz.prog 11 #[.agg #[.string n1, .string d1], .agg #[.string n2, .string d2], .agg #[.string n3, .string d3]] w fun r w' => r = .returned (.bool true) ∧ Below w.heap.size w w' := by
  obtain ⟨V, hV⟩ : ∃ V, V = (((w.alloc (.cells #[.string n1, .string d1] 23)).alloc (.cells #[.string n2, .string d2] 23)).alloc (.cells #[.string n3, .string d3] 23)) := ⟨_, rfl⟩
  have HS : Hid (L3 w V n1 d1 n2 d2 n3 d3 []) := by rw [hV]; exact L3.first _ _ _ _ _ _ _
  have HV := hide hV
  have HRA := hide r1; have HRB := hide r2; have HRC := hide r3
  have HC1 := hide c1
  have HC2 := hide c2
  have HC3 := hide c3
  have HC4 := hide c4
  have HC5 := hide c5
  have HC6 := hide c6
  have HC7 := hide c7
  have HC8 := hide c8
  have HC9 := hide c9
  have HC10 := hide c10
  have HC11 := hide c11
  have HC12 := hide c12
  have HC13 := hide c13
  have HC14 := hide c14
  have HC15 := hide c15
  have HAW := hide haw; have HD1 := hide D1; have HD2 := hide D2
  clear r1 r2 r3 c1 c2 c3 c4 c5 c6 c7 c8 c9 c10 c11 c12 c13 c14 c15 haw D1 D2
  go_enter Tryz.func11, Tryz.ntmps11
  go_upto_region 1 with fail
  rw [← unhide HV]
  clear hV HV
  have a0 := (unhide HS).a.c0; have a1 := (unhide HS).a.c1; have b0 := (unhide HS).b.c0; have b1 := (unhide HS).b.c1; have e0 := (unhide HS).c.c0; have e1 := (unhide HS).c.c1
  go_upto_region 3 with (first
    | (go_at_call_of 18 (Value.agg #[Value.string n1, Value.string d1]); go_must (refine (unhide HRA _).mono ?_; rintro e w1 ⟨rfl, hb1⟩; have HS1 := hide ((unhide HS).later hb1); clear hb1 a0 a1 b0 b1 e0 e1; have a0 := (unhide HS1).a.c0; have a1 := (unhide HS1).a.c1; have b0 := (unhide HS1).b.c0; have b1 := (unhide HS1).b.c1; have e0 := (unhide HS1).c.c0; have e1 := (unhide HS1).c.c1))
    | (go_at_call_of 18 (Value.agg #[Value.string n2, Value.string d2]); go_must (refine (unhide HRB _).mono ?_; rintro e w2 ⟨rfl, hb1⟩; have HS2 := hide ((unhide HS1).later hb1); clear hb1 a0 a1 b0 b1 e0 e1; have a0 := (unhide HS2).a.c0; have a1 := (unhide HS2).a.c1; have b0 := (unhide HS2).b.c0; have b1 := (unhide HS2).b.c1; have e0 := (unhide HS2).c.c0; have e1 := (unhide HS2).c.c1))
    | (go_at_call_of 18 (Value.agg #[Value.string n3, Value.string d3]); go_must (refine (unhide HRC _).mono ?_; rintro e w3 ⟨rfl, hb1⟩; have HS3 := hide ((unhide HS2).later hb1); clear hb1 a0 a1 b0 b1 e0 e1; have a0 := (unhide HS3).a.c0; have a1 := (unhide HS3).a.c1; have b0 := (unhide HS3).b.c0; have b1 := (unhide HS3).b.c1; have e0 := (unhide HS3).c.c0; have e1 := (unhide HS3).c.c1)))
  clear HS HS1 HS2 HRA HRB HRC
  go_upto_region 4 with (go_at_call 28; go_must (refine (unhide HC1 _ (unhide HS3).below).mono ?_; rintro e w3 ⟨rfl, hb1⟩; have HT3 := hide ((unhide HS3).later hb1); clear hb1 a0 a1 b0 b1 e0 e1 ))
  obtain ⟨V3, hV3⟩ : ∃ V3, V3 = w3.alloc (.cells #[.string pn, .string pd] 23) := ⟨_, rfl⟩
  have HS4 : Hid (L3 w V3 n1 d1 n2 d2 n3 d3 ((w3.heap.size, pn, pd) :: [])) := by rw [hV3]; exact (unhide HT3).push _ _
  rw [← hV3]
  clear hV3 HS3 HT3
  generalize w3.heap.size = gkx at *
  have a0 := (unhide HS4).a.c0; have a1 := (unhide HS4).a.c1; have b0 := (unhide HS4).b.c0; have b1 := (unhide HS4).b.c1; have e0 := (unhide HS4).c.c0; have e1 := (unhide HS4).c.c1
  go_upto_region 5 with (go_at_call 28; go_must (refine (unhide HC2 _ (unhide HS4).below).mono ?_; rintro e w4 ⟨rfl, hb1⟩; have HT4 := hide ((unhide HS4).later hb1); clear hb1 a0 a1 b0 b1 e0 e1 ))
  obtain ⟨V4, hV4⟩ : ∃ V4, V4 = w4.alloc (.cells #[.string pn, .string pd] 23) := ⟨_, rfl⟩
  have HS5 : Hid (L3 w V4 n1 d1 n2 d2 n3 d3 ((w4.heap.size, pn, pd) :: [(gkx, pn, pd)])) := by rw [hV4]; exact (unhide HT4).push _ _
  rw [← hV4]
  clear hV4 HS4 HT4
  generalize w4.heap.size = gky at *
  have a0 := (unhide HS5).a.c0; have a1 := (unhide HS5).a.c1; have b0 := (unhide HS5).b.c0; have b1 := (unhide HS5).b.c1; have e0 := (unhide HS5).c.c0; have e1 := (unhide HS5).c.c1
  go_upto_region 6 with (go_at_call 32; go_must (refine (unhide HC3 _ (unhide HS5).below).mono ?_; rintro e w5 ⟨rfl, hb1⟩; have HT5 := hide ((unhide HS5).later hb1); clear hb1 a0 a1 b0 b1 e0 e1 ))
  obtain ⟨V5, hV5⟩ : ∃ V5, V5 = w5.alloc (.cells #[.string mn, .string md] 23) := ⟨_, rfl⟩
  have HS6 : Hid (L3 w V5 n1 d1 n2 d2 n3 d3 ((w5.heap.size, mn, md) :: [(gky, pn, pd), (gkx, pn, pd)])) := by rw [hV5]; exact (unhide HT5).push _ _
  rw [← hV5]
  clear hV5 HS5 HT5
  generalize w5.heap.size = gkp at *
  have a0 := (unhide HS6).a.c0; have a1 := (unhide HS6).a.c1; have b0 := (unhide HS6).b.c0; have b1 := (unhide HS6).b.c1; have e0 := (unhide HS6).c.c0; have e1 := (unhide HS6).c.c1
  go_upto_region 7 with (go_at_call 32; go_must (refine (unhide HC4 _ (unhide HS6).below).mono ?_; rintro e w6 ⟨rfl, hb1⟩; have HT6 := hide ((unhide HS6).later hb1); clear hb1 a0 a1 b0 b1 e0 e1 ))
  obtain ⟨V6, hV6⟩ : ∃ V6, V6 = w6.alloc (.cells #[.string mn, .string md] 23) := ⟨_, rfl⟩
  have HS7 : Hid (L3 w V6 n1 d1 n2 d2 n3 d3 ((w6.heap.size, mn, md) :: [(gkp, mn, md), (gky, pn, pd), (gkx, pn, pd)])) := by rw [hV6]; exact (unhide HT6).push _ _
  rw [← hV6]
  clear hV6 HS6 HT6
  generalize w6.heap.size = gkq at *
  have a0 := (unhide HS7).a.c0; have a1 := (unhide HS7).a.c1; have b0 := (unhide HS7).b.c0; have b1 := (unhide HS7).b.c1; have e0 := (unhide HS7).c.c0; have e1 := (unhide HS7).c.c1
  have kq0 := ((unhide HS7).bx (gkq, mn, md) (by simp)).c0; have kq1 := ((unhide HS7).bx (gkq, mn, md) (by simp)).c1
  have kp0 := ((unhide HS7).bx (gkp, mn, md) (by simp)).c0; have kp1 := ((unhide HS7).bx (gkp, mn, md) (by simp)).c1
  have ky0 := ((unhide HS7).bx (gky, pn, pd) (by simp)).c0; have ky1 := ((unhide HS7).bx (gky, pn, pd) (by simp)).c1
  have kx0 := ((unhide HS7).bx (gkx, pn, pd) (by simp)).c0; have kx1 := ((unhide HS7).bx (gkx, pn, pd) (by simp)).c1
  dsimp only at kq0 kq1 kp0 kp1 ky0 ky1 kx0 kx1
  go_upto_region 9 with fail
  rcases hpe with hp | hp
  · have H5 := hide (unhide HC5 hp); have H6 := hide (unhide HC6 hp); have H10 := hide (unhide HC10 hp)
    go_upto_region 10 with fail
    go_upto_region 11 with (go_at_call 30; go_must (refine (unhide H5 _ (unhide HS7).below).mono ?_; rintro e w7 ⟨rfl, hb1⟩; have HT7 := hide ((unhide HS7).later hb1); clear hb1 a0 a1 b0 b1 e0 e1 kq0 kq1 kp0 kp1 ky0 ky1 kx0 kx1))
    obtain ⟨V7, hV7⟩ : ∃ V7, V7 = w7.alloc (.cells #[.string n1, .string d1] 23) := ⟨_, rfl⟩
    have HS8 : Hid (L3 w V7 n1 d1 n2 d2 n3 d3 ((w7.heap.size, n1, d1) :: [(gkq, mn, md), (gkp, mn, md), (gky, pn, pd), (gkx, pn, pd)])) := by rw [hV7]; exact (unhide HT7).push _ _
    rw [← hV7]
    clear hV7 HS7 HT7
    generalize w7.heap.size = gku at *
    have a0 := (unhide HS8).a.c0; have a1 := (unhide HS8).a.c1; have b0 := (unhide HS8).b.c0; have b1 := (unhide HS8).b.c1; have e0 := (unhide HS8).c.c0; have e1 := (unhide HS8).c.c1
    have ku0 := ((unhide HS8).bx (gku, n1, d1) (by simp)).c0; have ku1 := ((unhide HS8).bx (gku, n1, d1) (by simp)).c1
    have kx0 := ((unhide HS8).bx (gkx, pn, pd) (by simp)).c0; have kx1 := ((unhide HS8).bx (gkx, pn, pd) (by simp)).c1
    dsimp only at ku0 ku1 kx0 kx1
    go_upto_region 13 with fail
    go_upto_region 14 with (go_at_call 32; go_must (refine (unhide H6 _ (unhide HS8).below).mono ?_; rintro e w8 ⟨rfl, hb1⟩; have HT8 := hide ((unhide HS8).later hb1); clear hb1 a0 a1 b0 b1 e0 e1 ku0 ku1 kx0 kx1))
    obtain ⟨V8, hV8⟩ : ∃ V8, V8 = w8.alloc (.cells #[.string un, .string ud] 23) := ⟨_, rfl⟩
    have HS9 : Hid (L3 w V8 n1 d1 n2 d2 n3 d3 ((w8.heap.size, un, ud) :: [(gku, n1, d1), (gkq, mn, md), (gkp, mn, md), (gky, pn, pd), (gkx, pn, pd)])) := by rw [hV8]; exact (unhide HT8).push _ _
    rw [← hV8]
    clear hV8 HS8 HT8
    generalize w8.heap.size = gkh at *
    have a0 := (unhide HS9).a.c0; have a1 := (unhide HS9).a.c1; have b0 := (unhide HS9).b.c0; have b1 := (unhide HS9).b.c1; have e0 := (unhide HS9).c.c0; have e1 := (unhide HS9).c.c1
    go_upto_region 15 with (go_at_call 32; go_must (refine (unhide HC7 _ (unhide HS9).below).mono ?_; rintro e w9 ⟨rfl, hb1⟩; have HT9 := hide ((unhide HS9).later hb1); clear hb1 a0 a1 b0 b1 e0 e1 ))
    obtain ⟨V9, hV9⟩ : ∃ V9, V9 = w9.alloc (.cells #[.string ln, .string ld] 23) := ⟨_, rfl⟩
    have HS10 : Hid (L3 w V9 n1 d1 n2 d2 n3 d3 ((w9.heap.size, ln, ld) :: [(gkh, un, ud), (gku, n1, d1), (gkq, mn, md), (gkp, mn, md), (gky, pn, pd), (gkx, pn, pd)])) := by rw [hV9]; exact (unhide HT9).push _ _
    rw [← hV9]
    clear hV9 HS9 HT9
    generalize w9.heap.size = gkl at *
    have a0 := (unhide HS10).a.c0; have a1 := (unhide HS10).a.c1; have b0 := (unhide HS10).b.c0; have b1 := (unhide HS10).b.c1; have e0 := (unhide HS10).c.c0; have e1 := (unhide HS10).c.c1
    go_upto_region 16 with (go_at_call 32; go_must (refine (unhide HC8 _ (unhide HS10).below).mono ?_; rintro e w10 ⟨rfl, hb1⟩; have HT10 := hide ((unhide HS10).later hb1); clear hb1 a0 a1 b0 b1 e0 e1 ))
    obtain ⟨V10, hV10⟩ : ∃ V10, V10 = w10.alloc (.cells #[.string rn, .string rd] 23) := ⟨_, rfl⟩
    have HS11 : Hid (L3 w V10 n1 d1 n2 d2 n3 d3 ((w10.heap.size, rn, rd) :: [(gkl, ln, ld), (gkh, un, ud), (gku, n1, d1), (gkq, mn, md), (gkp, mn, md), (gky, pn, pd), (gkx, pn, pd)])) := by rw [hV10]; exact (unhide HT10).push _ _
    rw [← hV10]
    clear hV10 HS10 HT10
    generalize w10.heap.size = gkr at *
    have a0 := (unhide HS11).a.c0; have a1 := (unhide HS11).a.c1; have b0 := (unhide HS11).b.c0; have b1 := (unhide HS11).b.c1; have e0 := (unhide HS11).c.c0; have e1 := (unhide HS11).c.c1
    have kr0 := ((unhide HS11).bx (gkr, rn, rd) (by simp)).c0; have kr1 := ((unhide HS11).bx (gkr, rn, rd) (by simp)).c1
    have kl0 := ((unhide HS11).bx (gkl, ln, ld) (by simp)).c0; have kl1 := ((unhide HS11).bx (gkl, ln, ld) (by simp)).c1
    dsimp only at kr0 kr1 kl0 kl1
    go_upto_region 17 with (go_at_call 28; go_must (refine (unhide HC9 _ (unhide HS11).below).mono ?_; rintro e w11 ⟨rfl, hb1⟩; have HT11 := hide ((unhide HS11).later hb1); clear hb1 a0 a1 b0 b1 e0 e1 kr0 kr1 kl0 kl1))
    obtain ⟨V11, hV11⟩ : ∃ V11, V11 = w11.alloc (.cells #[.string tn, .string td] 23) := ⟨_, rfl⟩
    have HS12 : Hid (L3 w V11 n1 d1 n2 d2 n3 d3 ((w11.heap.size, tn, td) :: [(gkr, rn, rd), (gkl, ln, ld), (gkh, un, ud), (gku, n1, d1), (gkq, mn, md), (gkp, mn, md), (gky, pn, pd), (gkx, pn, pd)])) := by rw [hV11]; exact (unhide HT11).push _ _
    rw [← hV11]
    clear hV11 HS11 HT11
    generalize w11.heap.size = gkt at *
    have a0 := (unhide HS12).a.c0; have a1 := (unhide HS12).a.c1; have b0 := (unhide HS12).b.c0; have b1 := (unhide HS12).b.c1; have e0 := (unhide HS12).c.c0; have e1 := (unhide HS12).c.c1
    have kt0 := ((unhide HS12).bx (gkt, tn, td) (by simp)).c0; have kt1 := ((unhide HS12).bx (gkt, tn, td) (by simp)).c1
    have kh0 := ((unhide HS12).bx (gkh, un, ud) (by simp)).c0; have kh1 := ((unhide HS12).bx (gkh, un, ud) (by simp)).c1
    have kx0 := ((unhide HS12).bx (gkx, pn, pd) (by simp)).c0; have kx1 := ((unhide HS12).bx (gkx, pn, pd) (by simp)).c1
    dsimp only at kt0 kt1 kh0 kh1 kx0 kx1
    by_cases hlr : le = 0 ∧ re = 0
    · obtain ⟨hl, hr⟩ := hlr
      have HB1 := hide (unhide HD1 hl hr)
      go_upto_region 19 with (go_at_call 60; go_must (refine (both_yes un ud tn td ue te _ (unhide HB1)).mono ?_; rintro e wb1 ⟨rfl, hb1⟩; have HSb := hide ((unhide HS12).later hb1); clear hb1 a0 a1 b0 b1 e0 e1 kt0 kt1 kh0 kh1 kx0 kx1))
      have HS13 := HSb
      clear HSb HS12
      have a0 := (unhide HS13).a.c0; have a1 := (unhide HS13).a.c1; have b0 := (unhide HS13).b.c0; have b1 := (unhide HS13).b.c1; have e0 := (unhide HS13).c.c0; have e1 := (unhide HS13).c.c1
      have kx0 := ((unhide HS13).bx (gkx, pn, pd) (by simp)).c0; have kx1 := ((unhide HS13).bx (gkx, pn, pd) (by simp)).c1
      dsimp only at kx0 kx1
      go_upto_region 20 with (go_at_call 28; go_must (refine (unhide H10 _ (unhide HS13).below).mono ?_; rintro e w13 ⟨rfl, hb1⟩; have HT13 := hide ((unhide HS13).later hb1); clear hb1 a0 a1 b0 b1 e0 e1 kx0 kx1))
      obtain ⟨V13, hV13⟩ : ∃ V13, V13 = w13.alloc (.cells #[.string vn, .string vd] 23) := ⟨_, rfl⟩
      have HS14 : Hid (L3 w V13 n1 d1 n2 d2 n3 d3 ((w13.heap.size, vn, vd) :: [(gkt, tn, td), (gkr, rn, rd), (gkl, ln, ld), (gkh, un, ud), (gku, n1, d1), (gkq, mn, md), (gkp, mn, md), (gky, pn, pd), (gkx, pn, pd)])) := by rw [hV13]; exact (unhide HT13).push _ _
      rw [← hV13]
      clear hV13 HS13 HT13
      generalize w13.heap.size = gkv at *
      have a0 := (unhide HS14).a.c0; have a1 := (unhide HS14).a.c1; have b0 := (unhide HS14).b.c0; have b1 := (unhide HS14).b.c1; have e0 := (unhide HS14).c.c0; have e1 := (unhide HS14).c.c1
      go_upto_region 21 with (go_at_call 28; go_must (refine (unhide HC11 _ (unhide HS14).below).mono ?_; rintro e w14 ⟨rfl, hb1⟩; have HT14 := hide ((unhide HS14).later hb1); clear hb1 a0 a1 b0 b1 e0 e1 ))
      obtain ⟨V14, hV14⟩ : ∃ V14, V14 = w14.alloc (.cells #[.string wn, .string wd] 23) := ⟨_, rfl⟩
      have HS15 : Hid (L3 w V14 n1 d1 n2 d2 n3 d3 ((w14.heap.size, wn, wd) :: [(gkv, vn, vd), (gkt, tn, td), (gkr, rn, rd), (gkl, ln, ld), (gkh, un, ud), (gku, n1, d1), (gkq, mn, md), (gkp, mn, md), (gky, pn, pd), (gkx, pn, pd)])) := by rw [hV14]; exact (unhide HT14).push _ _
      rw [← hV14]
      clear hV14 HS14 HT14
      generalize w14.heap.size = gkw at *
      have a0 := (unhide HS15).a.c0; have a1 := (unhide HS15).a.c1; have b0 := (unhide HS15).b.c0; have b1 := (unhide HS15).b.c1; have e0 := (unhide HS15).c.c0; have e1 := (unhide HS15).c.c1
      have kw0 := ((unhide HS15).bx (gkw, wn, wd) (by simp)).c0; have kw1 := ((unhide HS15).bx (gkw, wn, wd) (by simp)).c1
      dsimp only at kw0 kw1
      go_upto_region 22 with (go_at_call 28; go_must (refine (unhide HC12 _ (unhide HS15).below).mono ?_; rintro e w15 ⟨rfl, hb1⟩; have HT15 := hide ((unhide HS15).later hb1); clear hb1 a0 a1 b0 b1 e0 e1 kw0 kw1))
      obtain ⟨V15, hV15⟩ : ∃ V15, V15 = w15.alloc (.cells #[.string zn, .string zd] 23) := ⟨_, rfl⟩
      have HS16 : Hid (L3 w V15 n1 d1 n2 d2 n3 d3 ((w15.heap.size, zn, zd) :: [(gkw, wn, wd), (gkv, vn, vd), (gkt, tn, td), (gkr, rn, rd), (gkl, ln, ld), (gkh, un, ud), (gku, n1, d1), (gkq, mn, md), (gkp, mn, md), (gky, pn, pd), (gkx, pn, pd)])) := by rw [hV15]; exact (unhide HT15).push _ _
      rw [← hV15]
      clear hV15 HS15 HT15
      generalize w15.heap.size = gkz at *
      have a0 := (unhide HS16).a.c0; have a1 := (unhide HS16).a.c1; have b0 := (unhide HS16).b.c0; have b1 := (unhide HS16).b.c1; have e0 := (unhide HS16).c.c0; have e1 := (unhide HS16).c.c1
      have kz0 := ((unhide HS16).bx (gkz, zn, zd) (by simp)).c0; have kz1 := ((unhide HS16).bx (gkz, zn, zd) (by simp)).c1
      have kv0 := ((unhide HS16).bx (gkv, vn, vd) (by simp)).c0; have kv1 := ((unhide HS16).bx (gkv, vn, vd) (by simp)).c1
      have kp0 := ((unhide HS16).bx (gkp, mn, md) (by simp)).c0; have kp1 := ((unhide HS16).bx (gkp, mn, md) (by simp)).c1
      dsimp only at kz0 kz1 kv0 kv1 kp0 kp1
      by_cases hw : we = 0
      · have HBB := unhide HD2 hw
        have HB2 := hide HBB
        clear HBB
        go_upto_region 24 with (go_at_call 60; go_must (refine (both_yes vn vd zn zd ve ze _ (unhide HB2)).mono ?_; rintro e wb2 ⟨rfl, hb1⟩; have HSc := hide ((unhide HS16).later hb1); clear hb1 a0 a1 b0 b1 e0 e1 kz0 kz1 kv0 kv1 kp0 kp1))
        have HS17 := HSc
        clear HSc HS16
        have a0 := (unhide HS17).a.c0; have a1 := (unhide HS17).a.c1; have b0 := (unhide HS17).b.c0; have b1 := (unhide HS17).b.c1; have e0 := (unhide HS17).c.c0; have e1 := (unhide HS17).c.c1
        have kp0 := ((unhide HS17).bx (gkp, mn, md) (by simp)).c0; have kp1 := ((unhide HS17).bx (gkp, mn, md) (by simp)).c1
        dsimp only at kp0 kp1
        by_cases hq : me = 0 ∧ (n2.toList == [48]) = false
        · obtain ⟨q1', q2'⟩ := hq
          have H13 := hide (unhide HC13 q1' q2')
          go_upto_region 25 with fail
          go_upto_region 26 with (go_at_call 34; go_must (refine (unhide H13 _ (unhide HS17).below).mono ?_; rintro e w17 ⟨rfl, hb1⟩; have HT17 := hide ((unhide HS17).later hb1); clear hb1 a0 a1 b0 b1 e0 e1 kp0 kp1))
          obtain ⟨V17, hV17⟩ : ∃ V17, V17 = w17.alloc (.cells #[.string n1, .string d1] 23) := ⟨_, rfl⟩
          have HS18 : Hid (L3 w V17 n1 d1 n2 d2 n3 d3 ((w17.heap.size, n1, d1) :: [(gkz, zn, zd), (gkw, wn, wd), (gkv, vn, vd), (gkt, tn, td), (gkr, rn, rd), (gkl, ln, ld), (gkh, un, ud), (gku, n1, d1), (gkq, mn, md), (gkp, mn, md), (gky, pn, pd), (gkx, pn, pd)])) := by rw [hV17]; exact (unhide HT17).push _ _
          rw [← hV17]
          clear hV17 HS17 HT17
          generalize w17.heap.size = gks at *
          have a0 := (unhide HS18).a.c0; have a1 := (unhide HS18).a.c1; have b0 := (unhide HS18).b.c0; have b1 := (unhide HS18).b.c1; have e0 := (unhide HS18).c.c0; have e1 := (unhide HS18).c.c1
          have ks0 := ((unhide HS18).bx (gks, n1, d1) (by simp)).c0; have ks1 := ((unhide HS18).bx (gks, n1, d1) (by simp)).c1
          dsimp only at ks0 ks1
          go_upto_region 28 with fail
          go_upto_region 29 with (go_at_call 36; go_must (refine (unhide HC14 _ (unhide HS18).below).mono ?_; rintro e w18 ⟨rfl, hb1⟩; have HT18 := hide ((unhide HS18).later hb1); clear hb1 a0 a1 b0 b1 e0 e1 ks0 ks1))
          obtain ⟨V18, hV18⟩ : ∃ V18, V18 = w18.alloc (.cells #[.string gn, .string gd] 23) := ⟨_, rfl⟩
          have HS19 : Hid (L3 w V18 n1 d1 n2 d2 n3 d3 ((w18.heap.size, gn, gd) :: [(gks, n1, d1), (gkz, zn, zd), (gkw, wn, wd), (gkv, vn, vd), (gkt, tn, td), (gkr, rn, rd), (gkl, ln, ld), (gkh, un, ud), (gku, n1, d1), (gkq, mn, md), (gkp, mn, md), (gky, pn, pd), (gkx, pn, pd)])) := by rw [hV18]; exact (unhide HT18).push _ _
          rw [← hV18]
          clear hV18 HS18 HT18
          generalize w18.heap.size = gkn at *
          have a0 := (unhide HS19).a.c0; have a1 := (unhide HS19).a.c1; have b0 := (unhide HS19).b.c0; have b1 := (unhide HS19).b.c1; have e0 := (unhide HS19).c.c0; have e1 := (unhide HS19).c.c1
          have kn0 := ((unhide HS19).bx (gkn, gn, gd) (by simp)).c0; have kn1 := ((unhide HS19).bx (gkn, gn, gd) (by simp)).c1
          dsimp only at kn0 kn1
          go_upto_region 30 with (go_at_call 28; go_must (refine (unhide HC15 _ (unhide HS19).below).mono ?_; rintro e w19 ⟨rfl, hb1⟩; have HT19 := hide ((unhide HS19).later hb1); clear hb1 a0 a1 b0 b1 e0 e1 kn0 kn1))
          obtain ⟨V19, hV19⟩ : ∃ V19, V19 = w19.alloc (.cells #[.string ⟨#[48]⟩, .string ⟨#[49]⟩] 23) := ⟨_, rfl⟩
          have HS20 : Hid (L3 w V19 n1 d1 n2 d2 n3 d3 ((w19.heap.size, ⟨#[48]⟩, ⟨#[49]⟩) :: [(gkn, gn, gd), (gks, n1, d1), (gkz, zn, zd), (gkw, wn, wd), (gkv, vn, vd), (gkt, tn, td), (gkr, rn, rd), (gkl, ln, ld), (gkh, un, ud), (gku, n1, d1), (gkq, mn, md), (gkp, mn, md), (gky, pn, pd), (gkx, pn, pd)])) := by rw [hV19]; exact (unhide HT19).push _ _
          rw [← hV19]
          clear hV19 HS19 HT19
          generalize w19.heap.size = gko at *
          have a0 := (unhide HS20).a.c0; have a1 := (unhide HS20).a.c1; have b0 := (unhide HS20).b.c0; have b1 := (unhide HS20).b.c1; have e0 := (unhide HS20).c.c0; have e1 := (unhide HS20).c.c1
          have ko0 := ((unhide HS20).bx (gko, ⟨#[48]⟩, ⟨#[49]⟩) (by simp)).c0; have ko1 := ((unhide HS20).bx (gko, ⟨#[48]⟩, ⟨#[49]⟩) (by simp)).c1
          dsimp only at ko0 ko1
          go_wp2_with (go_at_call 21; go_must (refine (unhide HAW _ (unhide HS20).below).mono ?_; rintro e wz ⟨rfl, hbz⟩; have HZZ := hide ((unhide HS20).below.trans (hbz.mono (unhide HS20).below.size)); clear hbz))
          go_ret
          exact ⟨rfl, unhide HZZ⟩
        · have hq' : ¬ me = 0 ∨ (me = 0 ∧ (n2.toList == [48]) = true) := by
            by_cases h0 : me = 0
            · right
              refine ⟨h0, ?_⟩
              cases hh : (n2.toList == [48]) with
              | true => rfl
              | false => exact absurd ⟨h0, hh⟩ hq
            · left; exact h0
          clear hq
          rcases hq' with h0 | ⟨h0, h1⟩
          · have h0' : (me == 0) = false := by rw [beq_eq_false_iff_ne]; exact h0
            go_upto_region 28 with fail
            go_upto_region 29 with (go_at_call 36; go_must (refine (unhide HC14 _ (unhide HS17).below).mono ?_; rintro e w17 ⟨rfl, hb1⟩; have HT17 := hide ((unhide HS17).later hb1); clear hb1 a0 a1 b0 b1 e0 e1 kp0 kp1))
            obtain ⟨V17, hV17⟩ : ∃ V17, V17 = w17.alloc (.cells #[.string gn, .string gd] 23) := ⟨_, rfl⟩
            have HS18 : Hid (L3 w V17 n1 d1 n2 d2 n3 d3 ((w17.heap.size, gn, gd) :: [(gkz, zn, zd), (gkw, wn, wd), (gkv, vn, vd), (gkt, tn, td), (gkr, rn, rd), (gkl, ln, ld), (gkh, un, ud), (gku, n1, d1), (gkq, mn, md), (gkp, mn, md), (gky, pn, pd), (gkx, pn, pd)])) := by rw [hV17]; exact (unhide HT17).push _ _
            rw [← hV17]
            clear hV17 HS17 HT17
            generalize w17.heap.size = gkn at *
            have a0 := (unhide HS18).a.c0; have a1 := (unhide HS18).a.c1; have b0 := (unhide HS18).b.c0; have b1 := (unhide HS18).b.c1; have e0 := (unhide HS18).c.c0; have e1 := (unhide HS18).c.c1
            have kn0 := ((unhide HS18).bx (gkn, gn, gd) (by simp)).c0; have kn1 := ((unhide HS18).bx (gkn, gn, gd) (by simp)).c1
            dsimp only at kn0 kn1
            go_upto_region 30 with (go_at_call 28; go_must (refine (unhide HC15 _ (unhide HS18).below).mono ?_; rintro e w18 ⟨rfl, hb1⟩; have HT18 := hide ((unhide HS18).later hb1); clear hb1 a0 a1 b0 b1 e0 e1 kn0 kn1))
            obtain ⟨V18, hV18⟩ : ∃ V18, V18 = w18.alloc (.cells #[.string ⟨#[48]⟩, .string ⟨#[49]⟩] 23) := ⟨_, rfl⟩
            have HS19 : Hid (L3 w V18 n1 d1 n2 d2 n3 d3 ((w18.heap.size, ⟨#[48]⟩, ⟨#[49]⟩) :: [(gkn, gn, gd), (gkz, zn, zd), (gkw, wn, wd), (gkv, vn, vd), (gkt, tn, td), (gkr, rn, rd), (gkl, ln, ld), (gkh, un, ud), (gku, n1, d1), (gkq, mn, md), (gkp, mn, md), (gky, pn, pd), (gkx, pn, pd)])) := by rw [hV18]; exact (unhide HT18).push _ _
            rw [← hV18]
            clear hV18 HS18 HT18
            generalize w18.heap.size = gko at *
            have a0 := (unhide HS19).a.c0; have a1 := (unhide HS19).a.c1; have b0 := (unhide HS19).b.c0; have b1 := (unhide HS19).b.c1; have e0 := (unhide HS19).c.c0; have e1 := (unhide HS19).c.c1
            have ko0 := ((unhide HS19).bx (gko, ⟨#[48]⟩, ⟨#[49]⟩) (by simp)).c0; have ko1 := ((unhide HS19).bx (gko, ⟨#[48]⟩, ⟨#[49]⟩) (by simp)).c1
            dsimp only at ko0 ko1
            go_wp2_with (go_at_call 21; go_must (refine (unhide HAW _ (unhide HS19).below).mono ?_; rintro e wz ⟨rfl, hbz⟩; have HZZ := hide ((unhide HS19).below.trans (hbz.mono (unhide HS19).below.size)); clear hbz))
            go_ret
            exact ⟨rfl, unhide HZZ⟩
          · go_upto_region 28 with fail
            go_upto_region 29 with (go_at_call 36; go_must (refine (unhide HC14 _ (unhide HS17).below).mono ?_; rintro e w17 ⟨rfl, hb1⟩; have HT17 := hide ((unhide HS17).later hb1); clear hb1 a0 a1 b0 b1 e0 e1 kp0 kp1))
            obtain ⟨V17, hV17⟩ : ∃ V17, V17 = w17.alloc (.cells #[.string gn, .string gd] 23) := ⟨_, rfl⟩
            have HS18 : Hid (L3 w V17 n1 d1 n2 d2 n3 d3 ((w17.heap.size, gn, gd) :: [(gkz, zn, zd), (gkw, wn, wd), (gkv, vn, vd), (gkt, tn, td), (gkr, rn, rd), (gkl, ln, ld), (gkh, un, ud), (gku, n1, d1), (gkq, mn, md), (gkp, mn, md), (gky, pn, pd), (gkx, pn, pd)])) := by rw [hV17]; exact (unhide HT17).push _ _
            rw [← hV17]
            clear hV17 HS17 HT17
            generalize w17.heap.size = gkn at *
            have a0 := (unhide HS18).a.c0; have a1 := (unhide HS18).a.c1; have b0 := (unhide HS18).b.c0; have b1 := (unhide HS18).b.c1; have e0 := (unhide HS18).c.c0; have e1 := (unhide HS18).c.c1
            have kn0 := ((unhide HS18).bx (gkn, gn, gd) (by simp)).c0; have kn1 := ((unhide HS18).bx (gkn, gn, gd) (by simp)).c1
            dsimp only at kn0 kn1
            go_upto_region 30 with (go_at_call 28; go_must (refine (unhide HC15 _ (unhide HS18).below).mono ?_; rintro e w18 ⟨rfl, hb1⟩; have HT18 := hide ((unhide HS18).later hb1); clear hb1 a0 a1 b0 b1 e0 e1 kn0 kn1))
            obtain ⟨V18, hV18⟩ : ∃ V18, V18 = w18.alloc (.cells #[.string ⟨#[48]⟩, .string ⟨#[49]⟩] 23) := ⟨_, rfl⟩
            have HS19 : Hid (L3 w V18 n1 d1 n2 d2 n3 d3 ((w18.heap.size, ⟨#[48]⟩, ⟨#[49]⟩) :: [(gkn, gn, gd), (gkz, zn, zd), (gkw, wn, wd), (gkv, vn, vd), (gkt, tn, td), (gkr, rn, rd), (gkl, ln, ld), (gkh, un, ud), (gku, n1, d1), (gkq, mn, md), (gkp, mn, md), (gky, pn, pd), (gkx, pn, pd)])) := by rw [hV18]; exact (unhide HT18).push _ _
            rw [← hV18]
            clear hV18 HS18 HT18
            generalize w18.heap.size = gko at *
            have a0 := (unhide HS19).a.c0; have a1 := (unhide HS19).a.c1; have b0 := (unhide HS19).b.c0; have b1 := (unhide HS19).b.c1; have e0 := (unhide HS19).c.c0; have e1 := (unhide HS19).c.c1
            have ko0 := ((unhide HS19).bx (gko, ⟨#[48]⟩, ⟨#[49]⟩) (by simp)).c0; have ko1 := ((unhide HS19).bx (gko, ⟨#[48]⟩, ⟨#[49]⟩) (by simp)).c1
            dsimp only at ko0 ko1
            go_wp2_with (go_at_call 21; go_must (refine (unhide HAW _ (unhide HS19).below).mono ?_; rintro e wz ⟨rfl, hbz⟩; have HZZ := hide ((unhide HS19).below.trans (hbz.mono (unhide HS19).below.size)); clear hbz))
            go_ret
            exact ⟨rfl, unhide HZZ⟩
      · have hw' : (we == 0) = false := by rw [beq_eq_false_iff_ne]; exact hw
        go_upto_region 24 with fail
        by_cases hq : me = 0 ∧ (n2.toList == [48]) = false
        · obtain ⟨q1', q2'⟩ := hq
          have H13 := hide (unhide HC13 q1' q2')
          go_upto_region 25 with fail
          go_upto_region 26 with (go_at_call 34; go_must (refine (unhide H13 _ (unhide HS16).below).mono ?_; rintro e w16 ⟨rfl, hb1⟩; have HT16 := hide ((unhide HS16).later hb1); clear hb1 a0 a1 b0 b1 e0 e1 kz0 kz1 kv0 kv1 kp0 kp1))
          obtain ⟨V16, hV16⟩ : ∃ V16, V16 = w16.alloc (.cells #[.string n1, .string d1] 23) := ⟨_, rfl⟩
          have HS17 : Hid (L3 w V16 n1 d1 n2 d2 n3 d3 ((w16.heap.size, n1, d1) :: [(gkz, zn, zd), (gkw, wn, wd), (gkv, vn, vd), (gkt, tn, td), (gkr, rn, rd), (gkl, ln, ld), (gkh, un, ud), (gku, n1, d1), (gkq, mn, md), (gkp, mn, md), (gky, pn, pd), (gkx, pn, pd)])) := by rw [hV16]; exact (unhide HT16).push _ _
          rw [← hV16]
          clear hV16 HS16 HT16
          generalize w16.heap.size = gks at *
          have a0 := (unhide HS17).a.c0; have a1 := (unhide HS17).a.c1; have b0 := (unhide HS17).b.c0; have b1 := (unhide HS17).b.c1; have e0 := (unhide HS17).c.c0; have e1 := (unhide HS17).c.c1
          have ks0 := ((unhide HS17).bx (gks, n1, d1) (by simp)).c0; have ks1 := ((unhide HS17).bx (gks, n1, d1) (by simp)).c1
          dsimp only at ks0 ks1
          go_upto_region 28 with fail
          go_upto_region 29 with (go_at_call 36; go_must (refine (unhide HC14 _ (unhide HS17).below).mono ?_; rintro e w17 ⟨rfl, hb1⟩; have HT17 := hide ((unhide HS17).later hb1); clear hb1 a0 a1 b0 b1 e0 e1 ks0 ks1))
          obtain ⟨V17, hV17⟩ : ∃ V17, V17 = w17.alloc (.cells #[.string gn, .string gd] 23) := ⟨_, rfl⟩
          have HS18 : Hid (L3 w V17 n1 d1 n2 d2 n3 d3 ((w17.heap.size, gn, gd) :: [(gks, n1, d1), (gkz, zn, zd), (gkw, wn, wd), (gkv, vn, vd), (gkt, tn, td), (gkr, rn, rd), (gkl, ln, ld), (gkh, un, ud), (gku, n1, d1), (gkq, mn, md), (gkp, mn, md), (gky, pn, pd), (gkx, pn, pd)])) := by rw [hV17]; exact (unhide HT17).push _ _
          rw [← hV17]
          clear hV17 HS17 HT17
          generalize w17.heap.size = gkn at *
          have a0 := (unhide HS18).a.c0; have a1 := (unhide HS18).a.c1; have b0 := (unhide HS18).b.c0; have b1 := (unhide HS18).b.c1; have e0 := (unhide HS18).c.c0; have e1 := (unhide HS18).c.c1
          have kn0 := ((unhide HS18).bx (gkn, gn, gd) (by simp)).c0; have kn1 := ((unhide HS18).bx (gkn, gn, gd) (by simp)).c1
          dsimp only at kn0 kn1
          go_upto_region 30 with (go_at_call 28; go_must (refine (unhide HC15 _ (unhide HS18).below).mono ?_; rintro e w18 ⟨rfl, hb1⟩; have HT18 := hide ((unhide HS18).later hb1); clear hb1 a0 a1 b0 b1 e0 e1 kn0 kn1))
          obtain ⟨V18, hV18⟩ : ∃ V18, V18 = w18.alloc (.cells #[.string ⟨#[48]⟩, .string ⟨#[49]⟩] 23) := ⟨_, rfl⟩
          have HS19 : Hid (L3 w V18 n1 d1 n2 d2 n3 d3 ((w18.heap.size, ⟨#[48]⟩, ⟨#[49]⟩) :: [(gkn, gn, gd), (gks, n1, d1), (gkz, zn, zd), (gkw, wn, wd), (gkv, vn, vd), (gkt, tn, td), (gkr, rn, rd), (gkl, ln, ld), (gkh, un, ud), (gku, n1, d1), (gkq, mn, md), (gkp, mn, md), (gky, pn, pd), (gkx, pn, pd)])) := by rw [hV18]; exact (unhide HT18).push _ _
          rw [← hV18]
          clear hV18 HS18 HT18
          generalize w18.heap.size = gko at *
          have a0 := (unhide HS19).a.c0; have a1 := (unhide HS19).a.c1; have b0 := (unhide HS19).b.c0; have b1 := (unhide HS19).b.c1; have e0 := (unhide HS19).c.c0; have e1 := (unhide HS19).c.c1
          have ko0 := ((unhide HS19).bx (gko, ⟨#[48]⟩, ⟨#[49]⟩) (by simp)).c0; have ko1 := ((unhide HS19).bx (gko, ⟨#[48]⟩, ⟨#[49]⟩) (by simp)).c1
          dsimp only at ko0 ko1
          go_wp2_with (go_at_call 21; go_must (refine (unhide HAW _ (unhide HS19).below).mono ?_; rintro e wz ⟨rfl, hbz⟩; have HZZ := hide ((unhide HS19).below.trans (hbz.mono (unhide HS19).below.size)); clear hbz))
          go_ret
          exact ⟨rfl, unhide HZZ⟩
        · have hq' : ¬ me = 0 ∨ (me = 0 ∧ (n2.toList == [48]) = true) := by
            by_cases h0 : me = 0
            · right
              refine ⟨h0, ?_⟩
              cases hh : (n2.toList == [48]) with
              | true => rfl
              | false => exact absurd ⟨h0, hh⟩ hq
            · left; exact h0
          clear hq
          rcases hq' with h0 | ⟨h0, h1⟩
          · have h0' : (me == 0) = false := by rw [beq_eq_false_iff_ne]; exact h0
            go_upto_region 28 with fail
            go_upto_region 29 with (go_at_call 36; go_must (refine (unhide HC14 _ (unhide HS16).below).mono ?_; rintro e w16 ⟨rfl, hb1⟩; have HT16 := hide ((unhide HS16).later hb1); clear hb1 a0 a1 b0 b1 e0 e1 kz0 kz1 kv0 kv1 kp0 kp1))
            obtain ⟨V16, hV16⟩ : ∃ V16, V16 = w16.alloc (.cells #[.string gn, .string gd] 23) := ⟨_, rfl⟩
            have HS17 : Hid (L3 w V16 n1 d1 n2 d2 n3 d3 ((w16.heap.size, gn, gd) :: [(gkz, zn, zd), (gkw, wn, wd), (gkv, vn, vd), (gkt, tn, td), (gkr, rn, rd), (gkl, ln, ld), (gkh, un, ud), (gku, n1, d1), (gkq, mn, md), (gkp, mn, md), (gky, pn, pd), (gkx, pn, pd)])) := by rw [hV16]; exact (unhide HT16).push _ _
            rw [← hV16]
            clear hV16 HS16 HT16
            generalize w16.heap.size = gkn at *
            have a0 := (unhide HS17).a.c0; have a1 := (unhide HS17).a.c1; have b0 := (unhide HS17).b.c0; have b1 := (unhide HS17).b.c1; have e0 := (unhide HS17).c.c0; have e1 := (unhide HS17).c.c1
            have kn0 := ((unhide HS17).bx (gkn, gn, gd) (by simp)).c0; have kn1 := ((unhide HS17).bx (gkn, gn, gd) (by simp)).c1
            dsimp only at kn0 kn1
            go_upto_region 30 with (go_at_call 28; go_must (refine (unhide HC15 _ (unhide HS17).below).mono ?_; rintro e w17 ⟨rfl, hb1⟩; have HT17 := hide ((unhide HS17).later hb1); clear hb1 a0 a1 b0 b1 e0 e1 kn0 kn1))
            obtain ⟨V17, hV17⟩ : ∃ V17, V17 = w17.alloc (.cells #[.string ⟨#[48]⟩, .string ⟨#[49]⟩] 23) := ⟨_, rfl⟩
            have HS18 : Hid (L3 w V17 n1 d1 n2 d2 n3 d3 ((w17.heap.size, ⟨#[48]⟩, ⟨#[49]⟩) :: [(gkn, gn, gd), (gkz, zn, zd), (gkw, wn, wd), (gkv, vn, vd), (gkt, tn, td), (gkr, rn, rd), (gkl, ln, ld), (gkh, un, ud), (gku, n1, d1), (gkq, mn, md), (gkp, mn, md), (gky, pn, pd), (gkx, pn, pd)])) := by rw [hV17]; exact (unhide HT17).push _ _
            rw [← hV17]
            clear hV17 HS17 HT17
            generalize w17.heap.size = gko at *
            have a0 := (unhide HS18).a.c0; have a1 := (unhide HS18).a.c1; have b0 := (unhide HS18).b.c0; have b1 := (unhide HS18).b.c1; have e0 := (unhide HS18).c.c0; have e1 := (unhide HS18).c.c1
            have ko0 := ((unhide HS18).bx (gko, ⟨#[48]⟩, ⟨#[49]⟩) (by simp)).c0; have ko1 := ((unhide HS18).bx (gko, ⟨#[48]⟩, ⟨#[49]⟩) (by simp)).c1
            dsimp only at ko0 ko1
            go_wp2_with (go_at_call 21; go_must (refine (unhide HAW _ (unhide HS18).below).mono ?_; rintro e wz ⟨rfl, hbz⟩; have HZZ := hide ((unhide HS18).below.trans (hbz.mono (unhide HS18).below.size)); clear hbz))
            go_ret
            exact ⟨rfl, unhide HZZ⟩
          · go_upto_region 28 with fail
            go_upto_region 29 with (go_at_call 36; go_must (refine (unhide HC14 _ (unhide HS16).below).mono ?_; rintro e w16 ⟨rfl, hb1⟩; have HT16 := hide ((unhide HS16).later hb1); clear hb1 a0 a1 b0 b1 e0 e1 kz0 kz1 kv0 kv1 kp0 kp1))
            obtain ⟨V16, hV16⟩ : ∃ V16, V16 = w16.alloc (.cells #[.string gn, .string gd] 23) := ⟨_, rfl⟩
            have HS17 : Hid (L3 w V16 n1 d1 n2 d2 n3 d3 ((w16.heap.size, gn, gd) :: [(gkz, zn, zd), (gkw, wn, wd), (gkv, vn, vd), (gkt, tn, td), (gkr, rn, rd), (gkl, ln, ld), (gkh, un, ud), (gku, n1, d1), (gkq, mn, md), (gkp, mn, md), (gky, pn, pd), (gkx, pn, pd)])) := by rw [hV16]; exact (unhide HT16).push _ _
            rw [← hV16]
            clear hV16 HS16 HT16
            generalize w16.heap.size = gkn at *
            have a0 := (unhide HS17).a.c0; have a1 := (unhide HS17).a.c1; have b0 := (unhide HS17).b.c0; have b1 := (unhide HS17).b.c1; have e0 := (unhide HS17).c.c0; have e1 := (unhide HS17).c.c1
            have kn0 := ((unhide HS17).bx (gkn, gn, gd) (by simp)).c0; have kn1 := ((unhide HS17).bx (gkn, gn, gd) (by simp)).c1
            dsimp only at kn0 kn1
            go_upto_region 30 with (go_at_call 28; go_must (refine (unhide HC15 _ (unhide HS17).below).mono ?_; rintro e w17 ⟨rfl, hb1⟩; have HT17 := hide ((unhide HS17).later hb1); clear hb1 a0 a1 b0 b1 e0 e1 kn0 kn1))
            obtain ⟨V17, hV17⟩ : ∃ V17, V17 = w17.alloc (.cells #[.string ⟨#[48]⟩, .string ⟨#[49]⟩] 23) := ⟨_, rfl⟩
            have HS18 : Hid (L3 w V17 n1 d1 n2 d2 n3 d3 ((w17.heap.size, ⟨#[48]⟩, ⟨#[49]⟩) :: [(gkn, gn, gd), (gkz, zn, zd), (gkw, wn, wd), (gkv, vn, vd), (gkt, tn, td), (gkr, rn, rd), (gkl, ln, ld), (gkh, un, ud), (gku, n1, d1), (gkq, mn, md), (gkp, mn, md), (gky, pn, pd), (gkx, pn, pd)])) := by rw [hV17]; exact (unhide HT17).push _ _
            rw [← hV17]
            clear hV17 HS17 HT17
            generalize w17.heap.size = gko at *
            have a0 := (unhide HS18).a.c0; have a1 := (unhide HS18).a.c1; have b0 := (unhide HS18).b.c0; have b1 := (unhide HS18).b.c1; have e0 := (unhide HS18).c.c0; have e1 := (unhide HS18).c.c1
            have ko0 := ((unhide HS18).bx (gko, ⟨#[48]⟩, ⟨#[49]⟩) (by simp)).c0; have ko1 := ((unhide HS18).bx (gko, ⟨#[48]⟩, ⟨#[49]⟩) (by simp)).c1
            dsimp only at ko0 ko1
            go_wp2_with (go_at_call 21; go_must (refine (unhide HAW _ (unhide HS18).below).mono ?_; rintro e wz ⟨rfl, hbz⟩; have HZZ := hide ((unhide HS18).below.trans (hbz.mono (unhide HS18).below.size)); clear hbz))
            go_ret
            exact ⟨rfl, unhide HZZ⟩
    · have hlr' : (le == 0) = false ∨ (le = 0 ∧ (re == 0) = false) := by
        by_cases h0 : le = 0
        · right; refine ⟨h0, ?_⟩; rw [beq_eq_false_iff_ne]; exact fun h => hlr ⟨h0, h⟩
        · left; rw [beq_eq_false_iff_ne]; exact h0
      clear hlr
      rcases hlr' with h0 | ⟨h0, h1⟩
      · go_upto_region 19 with fail
        go_upto_region 20 with (go_at_call 28; go_must (refine (unhide H10 _ (unhide HS12).below).mono ?_; rintro e w12 ⟨rfl, hb1⟩; have HT12 := hide ((unhide HS12).later hb1); clear hb1 a0 a1 b0 b1 e0 e1 kt0 kt1 kh0 kh1 kx0 kx1))
        obtain ⟨V12, hV12⟩ : ∃ V12, V12 = w12.alloc (.cells #[.string vn, .string vd] 23) := ⟨_, rfl⟩
        have HS13 : Hid (L3 w V12 n1 d1 n2 d2 n3 d3 ((w12.heap.size, vn, vd) :: [(gkt, tn, td), (gkr, rn, rd), (gkl, ln, ld), (gkh, un, ud), (gku, n1, d1), (gkq, mn, md), (gkp, mn, md), (gky, pn, pd), (gkx, pn, pd)])) := by rw [hV12]; exact (unhide HT12).push _ _
        rw [← hV12]
        clear hV12 HS12 HT12
        generalize w12.heap.size = gkv at *
        have a0 := (unhide HS13).a.c0; have a1 := (unhide HS13).a.c1; have b0 := (unhide HS13).b.c0; have b1 := (unhide HS13).b.c1; have e0 := (unhide HS13).c.c0; have e1 := (unhide HS13).c.c1
        go_upto_region 21 with (go_at_call 28; go_must (refine (unhide HC11 _ (unhide HS13).below).mono ?_; rintro e w13 ⟨rfl, hb1⟩; have HT13 := hide ((unhide HS13).later hb1); clear hb1 a0 a1 b0 b1 e0 e1 ))
        obtain ⟨V13, hV13⟩ : ∃ V13, V13 = w13.alloc (.cells #[.string wn, .string wd] 23) := ⟨_, rfl⟩
        have HS14 : Hid (L3 w V13 n1 d1 n2 d2 n3 d3 ((w13.heap.size, wn, wd) :: [(gkv, vn, vd), (gkt, tn, td), (gkr, rn, rd), (gkl, ln, ld), (gkh, un, ud), (gku, n1, d1), (gkq, mn, md), (gkp, mn, md), (gky, pn, pd), (gkx, pn, pd)])) := by rw [hV13]; exact (unhide HT13).push _ _
        rw [← hV13]
        clear hV13 HS13 HT13
        generalize w13.heap.size = gkw at *
        have a0 := (unhide HS14).a.c0; have a1 := (unhide HS14).a.c1; have b0 := (unhide HS14).b.c0; have b1 := (unhide HS14).b.c1; have e0 := (unhide HS14).c.c0; have e1 := (unhide HS14).c.c1
        have kw0 := ((unhide HS14).bx (gkw, wn, wd) (by simp)).c0; have kw1 := ((unhide HS14).bx (gkw, wn, wd) (by simp)).c1
        dsimp only at kw0 kw1
        go_upto_region 22 with (go_at_call 28; go_must (refine (unhide HC12 _ (unhide HS14).below).mono ?_; rintro e w14 ⟨rfl, hb1⟩; have HT14 := hide ((unhide HS14).later hb1); clear hb1 a0 a1 b0 b1 e0 e1 kw0 kw1))
        obtain ⟨V14, hV14⟩ : ∃ V14, V14 = w14.alloc (.cells #[.string zn, .string zd] 23) := ⟨_, rfl⟩
        have HS15 : Hid (L3 w V14 n1 d1 n2 d2 n3 d3 ((w14.heap.size, zn, zd) :: [(gkw, wn, wd), (gkv, vn, vd), (gkt, tn, td), (gkr, rn, rd), (gkl, ln, ld), (gkh, un, ud), (gku, n1, d1), (gkq, mn, md), (gkp, mn, md), (gky, pn, pd), (gkx, pn, pd)])) := by rw [hV14]; exact (unhide HT14).push _ _
        rw [← hV14]
        clear hV14 HS14 HT14
        generalize w14.heap.size = gkz at *
        have a0 := (unhide HS15).a.c0; have a1 := (unhide HS15).a.c1; have b0 := (unhide HS15).b.c0; have b1 := (unhide HS15).b.c1; have e0 := (unhide HS15).c.c0; have e1 := (unhide HS15).c.c1
        have kz0 := ((unhide HS15).bx (gkz, zn, zd) (by simp)).c0; have kz1 := ((unhide HS15).bx (gkz, zn, zd) (by simp)).c1
        have kv0 := ((unhide HS15).bx (gkv, vn, vd) (by simp)).c0; have kv1 := ((unhide HS15).bx (gkv, vn, vd) (by simp)).c1
        have kp0 := ((unhide HS15).bx (gkp, mn, md) (by simp)).c0; have kp1 := ((unhide HS15).bx (gkp, mn, md) (by simp)).c1
        dsimp only at kz0 kz1 kv0 kv1 kp0 kp1
        by_cases hw : we = 0
        · have HBB := unhide HD2 hw
          have HB2 := hide HBB
          clear HBB
          go_upto_region 24 with (go_at_call 60; go_must (refine (both_yes vn vd zn zd ve ze _ (unhide HB2)).mono ?_; rintro e wb2 ⟨rfl, hb1⟩; have HSc := hide ((unhide HS15).later hb1); clear hb1 a0 a1 b0 b1 e0 e1 kz0 kz1 kv0 kv1 kp0 kp1))
          have HS16 := HSc
          clear HSc HS15
          have a0 := (unhide HS16).a.c0; have a1 := (unhide HS16).a.c1; have b0 := (unhide HS16).b.c0; have b1 := (unhide HS16).b.c1; have e0 := (unhide HS16).c.c0; have e1 := (unhide HS16).c.c1
          have kp0 := ((unhide HS16).bx (gkp, mn, md) (by simp)).c0; have kp1 := ((unhide HS16).bx (gkp, mn, md) (by simp)).c1
          dsimp only at kp0 kp1
          by_cases hq : me = 0 ∧ (n2.toList == [48]) = false
          · obtain ⟨q1', q2'⟩ := hq
            have H13 := hide (unhide HC13 q1' q2')
            go_upto_region 25 with fail
            go_upto_region 26 with (go_at_call 34; go_must (refine (unhide H13 _ (unhide HS16).below).mono ?_; rintro e w16 ⟨rfl, hb1⟩; have HT16 := hide ((unhide HS16).later hb1); clear hb1 a0 a1 b0 b1 e0 e1 kp0 kp1))
            obtain ⟨V16, hV16⟩ : ∃ V16, V16 = w16.alloc (.cells #[.string n1, .string d1] 23) := ⟨_, rfl⟩
            have HS17 : Hid (L3 w V16 n1 d1 n2 d2 n3 d3 ((w16.heap.size, n1, d1) :: [(gkz, zn, zd), (gkw, wn, wd), (gkv, vn, vd), (gkt, tn, td), (gkr, rn, rd), (gkl, ln, ld), (gkh, un, ud), (gku, n1, d1), (gkq, mn, md), (gkp, mn, md), (gky, pn, pd), (gkx, pn, pd)])) := by rw [hV16]; exact (unhide HT16).push _ _
            rw [← hV16]
            clear hV16 HS16 HT16
            generalize w16.heap.size = gks at *
            have a0 := (unhide HS17).a.c0; have a1 := (unhide HS17).a.c1; have b0 := (unhide HS17).b.c0; have b1 := (unhide HS17).b.c1; have e0 := (unhide HS17).c.c0; have e1 := (unhide HS17).c.c1
            have ks0 := ((unhide HS17).bx (gks, n1, d1) (by simp)).c0; have ks1 := ((unhide HS17).bx (gks, n1, d1) (by simp)).c1
            dsimp only at ks0 ks1
            go_upto_region 28 with fail
            go_upto_region 29 with (go_at_call 36; go_must (refine (unhide HC14 _ (unhide HS17).below).mono ?_; rintro e w17 ⟨rfl, hb1⟩; have HT17 := hide ((unhide HS17).later hb1); clear hb1 a0 a1 b0 b1 e0 e1 ks0 ks1))
            obtain ⟨V17, hV17⟩ : ∃ V17, V17 = w17.alloc (.cells #[.string gn, .string gd] 23) := ⟨_, rfl⟩
            have HS18 : Hid (L3 w V17 n1 d1 n2 d2 n3 d3 ((w17.heap.size, gn, gd) :: [(gks, n1, d1), (gkz, zn, zd), (gkw, wn, wd), (gkv, vn, vd), (gkt, tn, td), (gkr, rn, rd), (gkl, ln, ld), (gkh, un, ud), (gku, n1, d1), (gkq, mn, md), (gkp, mn, md), (gky, pn, pd), (gkx, pn, pd)])) := by rw [hV17]; exact (unhide HT17).push _ _
            rw [← hV17]
            clear hV17 HS17 HT17
            generalize w17.heap.size = gkn at *
            have a0 := (unhide HS18).a.c0; have a1 := (unhide HS18).a.c1; have b0 := (unhide HS18).b.c0; have b1 := (unhide HS18).b.c1; have e0 := (unhide HS18).c.c0; have e1 := (unhide HS18).c.c1
            have kn0 := ((unhide HS18).bx (gkn, gn, gd) (by simp)).c0; have kn1 := ((unhide HS18).bx (gkn, gn, gd) (by simp)).c1
            dsimp only at kn0 kn1
            go_upto_region 30 with (go_at_call 28; go_must (refine (unhide HC15 _ (unhide HS18).below).mono ?_; rintro e w18 ⟨rfl, hb1⟩; have HT18 := hide ((unhide HS18).later hb1); clear hb1 a0 a1 b0 b1 e0 e1 kn0 kn1))
            obtain ⟨V18, hV18⟩ : ∃ V18, V18 = w18.alloc (.cells #[.string ⟨#[48]⟩, .string ⟨#[49]⟩] 23) := ⟨_, rfl⟩
            have HS19 : Hid (L3 w V18 n1 d1 n2 d2 n3 d3 ((w18.heap.size, ⟨#[48]⟩, ⟨#[49]⟩) :: [(gkn, gn, gd), (gks, n1, d1), (gkz, zn, zd), (gkw, wn, wd), (gkv, vn, vd), (gkt, tn, td), (gkr, rn, rd), (gkl, ln, ld), (gkh, un, ud), (gku, n1, d1), (gkq, mn, md), (gkp, mn, md), (gky, pn, pd), (gkx, pn, pd)])) := by rw [hV18]; exact (unhide HT18).push _ _
            rw [← hV18]
            clear hV18 HS18 HT18
            generalize w18.heap.size = gko at *
            have a0 := (unhide HS19).a.c0; have a1 := (unhide HS19).a.c1; have b0 := (unhide HS19).b.c0; have b1 := (unhide HS19).b.c1; have e0 := (unhide HS19).c.c0; have e1 := (unhide HS19).c.c1
            have ko0 := ((unhide HS19).bx (gko, ⟨#[48]⟩, ⟨#[49]⟩) (by simp)).c0; have ko1 := ((unhide HS19).bx (gko, ⟨#[48]⟩, ⟨#[49]⟩) (by simp)).c1
            dsimp only at ko0 ko1
            go_wp2_with (go_at_call 21; go_must (refine (unhide HAW _ (unhide HS19).below).mono ?_; rintro e wz ⟨rfl, hbz⟩; have HZZ := hide ((unhide HS19).below.trans (hbz.mono (unhide HS19).below.size)); clear hbz))
            go_ret
            exact ⟨rfl, unhide HZZ⟩
          · have hq' : ¬ me = 0 ∨ (me = 0 ∧ (n2.toList == [48]) = true) := by
              by_cases h0 : me = 0
              · right
                refine ⟨h0, ?_⟩
                cases hh : (n2.toList == [48]) with
                | true => rfl
                | false => exact absurd ⟨h0, hh⟩ hq
              · left; exact h0
            clear hq
            rcases hq' with h0 | ⟨h0, h1⟩
            · have h0' : (me == 0) = false := by rw [beq_eq_false_iff_ne]; exact h0
              go_upto_region 28 with fail
              go_upto_region 29 with (go_at_call 36; go_must (refine (unhide HC14 _ (unhide HS16).below).mono ?_; rintro e w16 ⟨rfl, hb1⟩; have HT16 := hide ((unhide HS16).later hb1); clear hb1 a0 a1 b0 b1 e0 e1 kp0 kp1))
              obtain ⟨V16, hV16⟩ : ∃ V16, V16 = w16.alloc (.cells #[.string gn, .string gd] 23) := ⟨_, rfl⟩
              have HS17 : Hid (L3 w V16 n1 d1 n2 d2 n3 d3 ((w16.heap.size, gn, gd) :: [(gkz, zn, zd), (gkw, wn, wd), (gkv, vn, vd), (gkt, tn, td), (gkr, rn, rd), (gkl, ln, ld), (gkh, un, ud), (gku, n1, d1), (gkq, mn, md), (gkp, mn, md), (gky, pn, pd), (gkx, pn, pd)])) := by rw [hV16]; exact (unhide HT16).push _ _
              rw [← hV16]
              clear hV16 HS16 HT16
              generalize w16.heap.size = gkn at *
              have a0 := (unhide HS17).a.c0; have a1 := (unhide HS17).a.c1; have b0 := (unhide HS17).b.c0; have b1 := (unhide HS17).b.c1; have e0 := (unhide HS17).c.c0; have e1 := (unhide HS17).c.c1
              have kn0 := ((unhide HS17).bx (gkn, gn, gd) (by simp)).c0; have kn1 := ((unhide HS17).bx (gkn, gn, gd) (by simp)).c1
              dsimp only at kn0 kn1
              go_upto_region 30 with (go_at_call 28; go_must (refine (unhide HC15 _ (unhide HS17).below).mono ?_; rintro e w17 ⟨rfl, hb1⟩; have HT17 := hide ((unhide HS17).later hb1); clear hb1 a0 a1 b0 b1 e0 e1 kn0 kn1))
              obtain ⟨V17, hV17⟩ : ∃ V17, V17 = w17.alloc (.cells #[.string ⟨#[48]⟩, .string ⟨#[49]⟩] 23) := ⟨_, rfl⟩
              have HS18 : Hid (L3 w V17 n1 d1 n2 d2 n3 d3 ((w17.heap.size, ⟨#[48]⟩, ⟨#[49]⟩) :: [(gkn, gn, gd), (gkz, zn, zd), (gkw, wn, wd), (gkv, vn, vd), (gkt, tn, td), (gkr, rn, rd), (gkl, ln, ld), (gkh, un, ud), (gku, n1, d1), (gkq, mn, md), (gkp, mn, md), (gky, pn, pd), (gkx, pn, pd)])) := by rw [hV17]; exact (unhide HT17).push _ _
              rw [← hV17]
              clear hV17 HS17 HT17
              generalize w17.heap.size = gko at *
              have a0 := (unhide HS18).a.c0; have a1 := (unhide HS18).a.c1; have b0 := (unhide HS18).b.c0; have b1 := (unhide HS18).b.c1; have e0 := (unhide HS18).c.c0; have e1 := (unhide HS18).c.c1
              have ko0 := ((unhide HS18).bx (gko, ⟨#[48]⟩, ⟨#[49]⟩) (by simp)).c0; have ko1 := ((unhide HS18).bx (gko, ⟨#[48]⟩, ⟨#[49]⟩) (by simp)).c1
              dsimp only at ko0 ko1
              go_wp2_with (go_at_call 21; go_must (refine (unhide HAW _ (unhide HS18).below).mono ?_; rintro e wz ⟨rfl, hbz⟩; have HZZ := hide ((unhide HS18).below.trans (hbz.mono (unhide HS18).below.size)); clear hbz))
              go_ret
              exact ⟨rfl, unhide HZZ⟩
            · go_upto_region 28 with fail
              go_upto_region 29 with (go_at_call 36; go_must (refine (unhide HC14 _ (unhide HS16).below).mono ?_; rintro e w16 ⟨rfl, hb1⟩; have HT16 := hide ((unhide HS16).later hb1); clear hb1 a0 a1 b0 b1 e0 e1 kp0 kp1))
              obtain ⟨V16, hV16⟩ : ∃ V16, V16 = w16.alloc (.cells #[.string gn, .string gd] 23) := ⟨_, rfl⟩
              have HS17 : Hid (L3 w V16 n1 d1 n2 d2 n3 d3 ((w16.heap.size, gn, gd) :: [(gkz, zn, zd), (gkw, wn, wd), (gkv, vn, vd), (gkt, tn, td), (gkr, rn, rd), (gkl, ln, ld), (gkh, un, ud), (gku, n1, d1), (gkq, mn, md), (gkp, mn, md), (gky, pn, pd), (gkx, pn, pd)])) := by rw [hV16]; exact (unhide HT16).push _ _
              rw [← hV16]
              clear hV16 HS16 HT16
              generalize w16.heap.size = gkn at *
              have a0 := (unhide HS17).a.c0; have a1 := (unhide HS17).a.c1; have b0 := (unhide HS17).b.c0; have b1 := (unhide HS17).b.c1; have e0 := (unhide HS17).c.c0; have e1 := (unhide HS17).c.c1
              have kn0 := ((unhide HS17).bx (gkn, gn, gd) (by simp)).c0; have kn1 := ((unhide HS17).bx (gkn, gn, gd) (by simp)).c1
              dsimp only at kn0 kn1
              go_upto_region 30 with (go_at_call 28; go_must (refine (unhide HC15 _ (unhide HS17).below).mono ?_; rintro e w17 ⟨rfl, hb1⟩; have HT17 := hide ((unhide HS17).later hb1); clear hb1 a0 a1 b0 b1 e0 e1 kn0 kn1))
              obtain ⟨V17, hV17⟩ : ∃ V17, V17 = w17.alloc (.cells #[.string ⟨#[48]⟩, .string ⟨#[49]⟩] 23) := ⟨_, rfl⟩
              have HS18 : Hid (L3 w V17 n1 d1 n2 d2 n3 d3 ((w17.heap.size, ⟨#[48]⟩, ⟨#[49]⟩) :: [(gkn, gn, gd), (gkz, zn, zd), (gkw, wn, wd), (gkv, vn, vd), (gkt, tn, td), (gkr, rn, rd), (gkl, ln, ld), (gkh, un, ud), (gku, n1, d1), (gkq, mn, md), (gkp, mn, md), (gky, pn, pd), (gkx, pn, pd)])) := by rw [hV17]; exact (unhide HT17).push _ _
              rw [← hV17]
              clear hV17 HS17 HT17
              generalize w17.heap.size = gko at *
              have a0 := (unhide HS18).a.c0; have a1 := (unhide HS18).a.c1; have b0 := (unhide HS18).b.c0; have b1 := (unhide HS18).b.c1; have e0 := (unhide HS18).c.c0; have e1 := (unhide HS18).c.c1
              have ko0 := ((unhide HS18).bx (gko, ⟨#[48]⟩, ⟨#[49]⟩) (by simp)).c0; have ko1 := ((unhide HS18).bx (gko, ⟨#[48]⟩, ⟨#[49]⟩) (by simp)).c1
              dsimp only at ko0 ko1
              go_wp2_with (go_at_call 21; go_must (refine (unhide HAW _ (unhide HS18).below).mono ?_; rintro e wz ⟨rfl, hbz⟩; have HZZ := hide ((unhide HS18).below.trans (hbz.mono (unhide HS18).below.size)); clear hbz))
              go_ret
              exact ⟨rfl, unhide HZZ⟩
        · have hw' : (we == 0) = false := by rw [beq_eq_false_iff_ne]; exact hw
          go_upto_region 24 with fail
          by_cases hq : me = 0 ∧ (n2.toList == [48]) = false
          · obtain ⟨q1', q2'⟩ := hq
            have H13 := hide (unhide HC13 q1' q2')
            go_upto_region 25 with fail
            go_upto_region 26 with (go_at_call 34; go_must (refine (unhide H13 _ (unhide HS15).below).mono ?_; rintro e w15 ⟨rfl, hb1⟩; have HT15 := hide ((unhide HS15).later hb1); clear hb1 a0 a1 b0 b1 e0 e1 kz0 kz1 kv0 kv1 kp0 kp1))
            obtain ⟨V15, hV15⟩ : ∃ V15, V15 = w15.alloc (.cells #[.string n1, .string d1] 23) := ⟨_, rfl⟩
            have HS16 : Hid (L3 w V15 n1 d1 n2 d2 n3 d3 ((w15.heap.size, n1, d1) :: [(gkz, zn, zd), (gkw, wn, wd), (gkv, vn, vd), (gkt, tn, td), (gkr, rn, rd), (gkl, ln, ld), (gkh, un, ud), (gku, n1, d1), (gkq, mn, md), (gkp, mn, md), (gky, pn, pd), (gkx, pn, pd)])) := by rw [hV15]; exact (unhide HT15).push _ _
            rw [← hV15]
            clear hV15 HS15 HT15
            generalize w15.heap.size = gks at *
            have a0 := (unhide HS16).a.c0; have a1 := (unhide HS16).a.c1; have b0 := (unhide HS16).b.c0; have b1 := (unhide HS16).b.c1; have e0 := (unhide HS16).c.c0; have e1 := (unhide HS16).c.c1
            have ks0 := ((unhide HS16).bx (gks, n1, d1) (by simp)).c0; have ks1 := ((unhide HS16).bx (gks, n1, d1) (by simp)).c1
            dsimp only at ks0 ks1
            go_upto_region 28 with fail
            go_upto_region 29 with (go_at_call 36; go_must (refine (unhide HC14 _ (unhide HS16).below).mono ?_; rintro e w16 ⟨rfl, hb1⟩; have HT16 := hide ((unhide HS16).later hb1); clear hb1 a0 a1 b0 b1 e0 e1 ks0 ks1))
            obtain ⟨V16, hV16⟩ : ∃ V16, V16 = w16.alloc (.cells #[.string gn, .string gd] 23) := ⟨_, rfl⟩
            have HS17 : Hid (L3 w V16 n1 d1 n2 d2 n3 d3 ((w16.heap.size, gn, gd) :: [(gks, n1, d1), (gkz, zn, zd), (gkw, wn, wd), (gkv, vn, vd), (gkt, tn, td), (gkr, rn, rd), (gkl, ln, ld), (gkh, un, ud), (gku, n1, d1), (gkq, mn, md), (gkp, mn, md), (gky, pn, pd), (gkx, pn, pd)])) := by rw [hV16]; exact (unhide HT16).push _ _
            rw [← hV16]
            clear hV16 HS16 HT16
            generalize w16.heap.size = gkn at *
            have a0 := (unhide HS17).a.c0; have a1 := (unhide HS17).a.c1; have b0 := (unhide HS17).b.c0; have b1 := (unhide HS17).b.c1; have e0 := (unhide HS17).c.c0; have e1 := (unhide HS17).c.c1
            have kn0 := ((unhide HS17).bx (gkn, gn, gd) (by simp)).c0; have kn1 := ((unhide HS17).bx (gkn, gn, gd) (by simp)).c1
            dsimp only at kn0 kn1
            go_upto_region 30 with (go_at_call 28; go_must (refine (unhide HC15 _ (unhide HS17).below).mono ?_; rintro e w17 ⟨rfl, hb1⟩; have HT17 := hide ((unhide HS17).later hb1); clear hb1 a0 a1 b0 b1 e0 e1 kn0 kn1))
            obtain ⟨V17, hV17⟩ : ∃ V17, V17 = w17.alloc (.cells #[.string ⟨#[48]⟩, .string ⟨#[49]⟩] 23) := ⟨_, rfl⟩
            have HS18 : Hid (L3 w V17 n1 d1 n2 d2 n3 d3 ((w17.heap.size, ⟨#[48]⟩, ⟨#[49]⟩) :: [(gkn, gn, gd), (gks, n1, d1), (gkz, zn, zd), (gkw, wn, wd), (gkv, vn, vd), (gkt, tn, td), (gkr, rn, rd), (gkl, ln, ld), (gkh, un, ud), (gku, n1, d1), (gkq, mn, md), (gkp, mn, md), (gky, pn, pd), (gkx, pn, pd)])) := by rw [hV17]; exact (unhide HT17).push _ _
            rw [← hV17]
            clear hV17 HS17 HT17
            generalize w17.heap.size = gko at *
            have a0 := (unhide HS18).a.c0; have a1 := (unhide HS18).a.c1; have b0 := (unhide HS18).b.c0; have b1 := (unhide HS18).b.c1; have e0 := (unhide HS18).c.c0; have e1 := (unhide HS18).c.c1
            have ko0 := ((unhide HS18).bx (gko, ⟨#[48]⟩, ⟨#[49]⟩) (by simp)).c0; have ko1 := ((unhide HS18).bx (gko, ⟨#[48]⟩, ⟨#[49]⟩) (by simp)).c1
            dsimp only at ko0 ko1
            go_wp2_with (go_at_call 21; go_must (refine (unhide HAW _ (unhide HS18).below).mono ?_; rintro e wz ⟨rfl, hbz⟩; have HZZ := hide ((unhide HS18).below.trans (hbz.mono (unhide HS18).below.size)); clear hbz))
            go_ret
            exact ⟨rfl, unhide HZZ⟩
          · have hq' : ¬ me = 0 ∨ (me = 0 ∧ (n2.toList == [48]) = true) := by
              by_cases h0 : me = 0
              · right
                refine ⟨h0, ?_⟩
                cases hh : (n2.toList == [48]) with
                | true => rfl
                | false => exact absurd ⟨h0, hh⟩ hq
              · left; exact h0
            clear hq
            rcases hq' with h0 | ⟨h0, h1⟩
            · have h0' : (me == 0) = false := by rw [beq_eq_false_iff_ne]; exact h0
              go_upto_region 28 with fail
              go_upto_region 29 with (go_at_call 36; go_must (refine (unhide HC14 _ (unhide HS15).below).mono ?_; rintro e w15 ⟨rfl, hb1⟩; have HT15 := hide ((unhide HS15).later hb1); clear hb1 a0 a1 b0 b1 e0 e1 kz0 kz1 kv0 kv1 kp0 kp1))
              obtain ⟨V15, hV15⟩ : ∃ V15, V15 = w15.alloc (.cells #[.string gn, .string gd] 23) := ⟨_, rfl⟩
              have HS16 : Hid (L3 w V15 n1 d1 n2 d2 n3 d3 ((w15.heap.size, gn, gd) :: [(gkz, zn, zd), (gkw, wn, wd), (gkv, vn, vd), (gkt, tn, td), (gkr, rn, rd), (gkl, ln, ld), (gkh, un, ud), (gku, n1, d1), (gkq, mn, md), (gkp, mn, md), (gky, pn, pd), (gkx, pn, pd)])) := by rw [hV15]; exact (unhide HT15).push _ _
              rw [← hV15]
              clear hV15 HS15 HT15
              generalize w15.heap.size = gkn at *
              have a0 := (unhide HS16).a.c0; have a1 := (unhide HS16).a.c1; have b0 := (unhide HS16).b.c0; have b1 := (unhide HS16).b.c1; have e0 := (unhide HS16).c.c0; have e1 := (unhide HS16).c.c1
              have kn0 := ((unhide HS16).bx (gkn, gn, gd) (by simp)).c0; have kn1 := ((unhide HS16).bx (gkn, gn, gd) (by simp)).c1
              dsimp only at kn0 kn1
              go_upto_region 30 with (go_at_call 28; go_must (refine (unhide HC15 _ (unhide HS16).below).mono ?_; rintro e w16 ⟨rfl, hb1⟩; have HT16 := hide ((unhide HS16).later hb1); clear hb1 a0 a1 b0 b1 e0 e1 kn0 kn1))
              obtain ⟨V16, hV16⟩ : ∃ V16, V16 = w16.alloc (.cells #[.string ⟨#[48]⟩, .string ⟨#[49]⟩] 23) := ⟨_, rfl⟩
              have HS17 : Hid (L3 w V16 n1 d1 n2 d2 n3 d3 ((w16.heap.size, ⟨#[48]⟩, ⟨#[49]⟩) :: [(gkn, gn, gd), (gkz, zn, zd), (gkw, wn, wd), (gkv, vn, vd), (gkt, tn, td), (gkr, rn, rd), (gkl, ln, ld), (gkh, un, ud), (gku, n1, d1), (gkq, mn, md), (gkp, mn, md), (gky, pn, pd), (gkx, pn, pd)])) := by rw [hV16]; exact (unhide HT16).push _ _
              rw [← hV16]
              clear hV16 HS16 HT16
              generalize w16.heap.size = gko at *
              have a0 := (unhide HS17).a.c0; have a1 := (unhide HS17).a.c1; have b0 := (unhide HS17).b.c0; have b1 := (unhide HS17).b.c1; have e0 := (unhide HS17).c.c0; have e1 := (unhide HS17).c.c1
              have ko0 := ((unhide HS17).bx (gko, ⟨#[48]⟩, ⟨#[49]⟩) (by simp)).c0; have ko1 := ((unhide HS17).bx (gko, ⟨#[48]⟩, ⟨#[49]⟩) (by simp)).c1
              dsimp only at ko0 ko1
              go_wp2_with (go_at_call 21; go_must (refine (unhide HAW _ (unhide HS17).below).mono ?_; rintro e wz ⟨rfl, hbz⟩; have HZZ := hide ((unhide HS17).below.trans (hbz.mono (unhide HS17).below.size)); clear hbz))
              go_ret
              exact ⟨rfl, unhide HZZ⟩
            · go_upto_region 28 with fail
              go_upto_region 29 with (go_at_call 36; go_must (refine (unhide HC14 _ (unhide HS15).below).mono ?_; rintro e w15 ⟨rfl, hb1⟩; have HT15 := hide ((unhide HS15).later hb1); clear hb1 a0 a1 b0 b1 e0 e1 kz0 kz1 kv0 kv1 kp0 kp1))
              obtain ⟨V15, hV15⟩ : ∃ V15, V15 = w15.alloc (.cells #[.string gn, .string gd] 23) := ⟨_, rfl⟩
              have HS16 : Hid (L3 w V15 n1 d1 n2 d2 n3 d3 ((w15.heap.size, gn, gd) :: [(gkz, zn, zd), (gkw, wn, wd), (gkv, vn, vd), (gkt, tn, td), (gkr, rn, rd), (gkl, ln, ld), (gkh, un, ud), (gku, n1, d1), (gkq, mn, md), (gkp, mn, md), (gky, pn, pd), (gkx, pn, pd)])) := by rw [hV15]; exact (unhide HT15).push _ _
              rw [← hV15]
              clear hV15 HS15 HT15
              generalize w15.heap.size = gkn at *
              have a0 := (unhide HS16).a.c0; have a1 := (unhide HS16).a.c1; have b0 := (unhide HS16).b.c0; have b1 := (unhide HS16).b.c1; have e0 := (unhide HS16).c.c0; have e1 := (unhide HS16).c.c1
              have kn0 := ((unhide HS16).bx (gkn, gn, gd) (by simp)).c0; have kn1 := ((unhide HS16).bx (gkn, gn, gd) (by simp)).c1
              dsimp only at kn0 kn1
              go_upto_region 30 with (go_at_call 28; go_must (refine (unhide HC15 _ (unhide HS16).below).mono ?_; rintro e w16 ⟨rfl, hb1⟩; have HT16 := hide ((unhide HS16).later hb1); clear hb1 a0 a1 b0 b1 e0 e1 kn0 kn1))
              obtain ⟨V16, hV16⟩ : ∃ V16, V16 = w16.alloc (.cells #[.string ⟨#[48]⟩, .string ⟨#[49]⟩] 23) := ⟨_, rfl⟩
              have HS17 : Hid (L3 w V16 n1 d1 n2 d2 n3 d3 ((w16.heap.size, ⟨#[48]⟩, ⟨#[49]⟩) :: [(gkn, gn, gd), (gkz, zn, zd), (gkw, wn, wd), (gkv, vn, vd), (gkt, tn, td), (gkr, rn, rd), (gkl, ln, ld), (gkh, un, ud), (gku, n1, d1), (gkq, mn, md), (gkp, mn, md), (gky, pn, pd), (gkx, pn, pd)])) := by rw [hV16]; exact (unhide HT16).push _ _
              rw [← hV16]
              clear hV16 HS16 HT16
              generalize w16.heap.size = gko at *
              have a0 := (unhide HS17).a.c0; have a1 := (unhide HS17).a.c1; have b0 := (unhide HS17).b.c0; have b1 := (unhide HS17).b.c1; have e0 := (unhide HS17).c.c0; have e1 := (unhide HS17).c.c1
              have ko0 := ((unhide HS17).bx (gko, ⟨#[48]⟩, ⟨#[49]⟩) (by simp)).c0; have ko1 := ((unhide HS17).bx (gko, ⟨#[48]⟩, ⟨#[49]⟩) (by simp)).c1
              dsimp only at ko0 ko1
              go_wp2_with (go_at_call 21; go_must (refine (unhide HAW _ (unhide HS17).below).mono ?_; rintro e wz ⟨rfl, hbz⟩; have HZZ := hide ((unhide HS17).below.trans (hbz.mono (unhide HS17).below.size)); clear hbz))
              go_ret
              exact ⟨rfl, unhide HZZ⟩
      · go_upto_region 19 with fail
        go_upto_region 20 with (go_at_call 28; go_must (refine (unhide H10 _ (unhide HS12).below).mono ?_; rintro e w12 ⟨rfl, hb1⟩; have HT12 := hide ((unhide HS12).later hb1); clear hb1 a0 a1 b0 b1 e0 e1 kt0 kt1 kh0 kh1 kx0 kx1))
        obtain ⟨V12, hV12⟩ : ∃ V12, V12 = w12.alloc (.cells #[.string vn, .string vd] 23) := ⟨_, rfl⟩
        have HS13 : Hid (L3 w V12 n1 d1 n2 d2 n3 d3 ((w12.heap.size, vn, vd) :: [(gkt, tn, td), (gkr, rn, rd), (gkl, ln, ld), (gkh, un, ud), (gku, n1, d1), (gkq, mn, md), (gkp, mn, md), (gky, pn, pd), (gkx, pn, pd)])) := by rw [hV12]; exact (unhide HT12).push _ _
        rw [← hV12]
        clear hV12 HS12 HT12
        generalize w12.heap.size = gkv at *
        have a0 := (unhide HS13).a.c0; have a1 := (unhide HS13).a.c1; have b0 := (unhide HS13).b.c0; have b1 := (unhide HS13).b.c1; have e0 := (unhide HS13).c.c0; have e1 := (unhide HS13).c.c1
        go_upto_region 21 with (go_at_call 28; go_must (refine (unhide HC11 _ (unhide HS13).below).mono ?_; rintro e w13 ⟨rfl, hb1⟩; have HT13 := hide ((unhide HS13).later hb1); clear hb1 a0 a1 b0 b1 e0 e1 ))
        obtain ⟨V13, hV13⟩ : ∃ V13, V13 = w13.alloc (.cells #[.string wn, .string wd] 23) := ⟨_, rfl⟩
        have HS14 : Hid (L3 w V13 n1 d1 n2 d2 n3 d3 ((w13.heap.size, wn, wd) :: [(gkv, vn, vd), (gkt, tn, td), (gkr, rn, rd), (gkl, ln, ld), (gkh, un, ud), (gku, n1, d1), (gkq, mn, md), (gkp, mn, md), (gky, pn, pd), (gkx, pn, pd)])) := by rw [hV13]; exact (unhide HT13).push _ _
        rw [← hV13]
        clear hV13 HS13 HT13
        generalize w13.heap.size = gkw at *
        have a0 := (unhide HS14).a.c0; have a1 := (unhide HS14).a.c1; have b0 := (unhide HS14).b.c0; have b1 := (unhide HS14).b.c1; have e0 := (unhide HS14).c.c0; have e1 := (unhide HS14).c.c1
        have kw0 := ((unhide HS14).bx (gkw, wn, wd) (by simp)).c0; have kw1 := ((unhide HS14).bx (gkw, wn, wd) (by simp)).c1
        dsimp only at kw0 kw1
        go_upto_region 22 with (go_at_call 28; go_must (refine (unhide HC12 _ (unhide HS14).below).mono ?_; rintro e w14 ⟨rfl, hb1⟩; have HT14 := hide ((unhide HS14).later hb1); clear hb1 a0 a1 b0 b1 e0 e1 kw0 kw1))
        obtain ⟨V14, hV14⟩ : ∃ V14, V14 = w14.alloc (.cells #[.string zn, .string zd] 23) := ⟨_, rfl⟩
        have HS15 : Hid (L3 w V14 n1 d1 n2 d2 n3 d3 ((w14.heap.size, zn, zd) :: [(gkw, wn, wd), (gkv, vn, vd), (gkt, tn, td), (gkr, rn, rd), (gkl, ln, ld), (gkh, un, ud), (gku, n1, d1), (gkq, mn, md), (gkp, mn, md), (gky, pn, pd), (gkx, pn, pd)])) := by rw [hV14]; exact (unhide HT14).push _ _
        rw [← hV14]
        clear hV14 HS14 HT14
        generalize w14.heap.size = gkz at *
        have a0 := (unhide HS15).a.c0; have a1 := (unhide HS15).a.c1; have b0 := (unhide HS15).b.c0; have b1 := (unhide HS15).b.c1; have e0 := (unhide HS15).c.c0; have e1 := (unhide HS15).c.c1
        have kz0 := ((unhide HS15).bx (gkz, zn, zd) (by simp)).c0; have kz1 := ((unhide HS15).bx (gkz, zn, zd) (by simp)).c1
        have kv0 := ((unhide HS15).bx (gkv, vn, vd) (by simp)).c0; have kv1 := ((unhide HS15).bx (gkv, vn, vd) (by simp)).c1
        have kp0 := ((unhide HS15).bx (gkp, mn, md) (by simp)).c0; have kp1 := ((unhide HS15).bx (gkp, mn, md) (by simp)).c1
        dsimp only at kz0 kz1 kv0 kv1 kp0 kp1
        by_cases hw : we = 0
        · have HBB := unhide HD2 hw
          have HB2 := hide HBB
          clear HBB
          go_upto_region 24 with (go_at_call 60; go_must (refine (both_yes vn vd zn zd ve ze _ (unhide HB2)).mono ?_; rintro e wb2 ⟨rfl, hb1⟩; have HSc := hide ((unhide HS15).later hb1); clear hb1 a0 a1 b0 b1 e0 e1 kz0 kz1 kv0 kv1 kp0 kp1))
          have HS16 := HSc
          clear HSc HS15
          have a0 := (unhide HS16).a.c0; have a1 := (unhide HS16).a.c1; have b0 := (unhide HS16).b.c0; have b1 := (unhide HS16).b.c1; have e0 := (unhide HS16).c.c0; have e1 := (unhide HS16).c.c1
          have kp0 := ((unhide HS16).bx (gkp, mn, md) (by simp)).c0; have kp1 := ((unhide HS16).bx (gkp, mn, md) (by simp)).c1
          dsimp only at kp0 kp1
          by_cases hq : me = 0 ∧ (n2.toList == [48]) = false
          · obtain ⟨q1', q2'⟩ := hq
            have H13 := hide (unhide HC13 q1' q2')
            go_upto_region 25 with fail
            go_upto_region 26 with (go_at_call 34; go_must (refine (unhide H13 _ (unhide HS16).below).mono ?_; rintro e w16 ⟨rfl, hb1⟩; have HT16 := hide ((unhide HS16).later hb1); clear hb1 a0 a1 b0 b1 e0 e1 kp0 kp1))
            obtain ⟨V16, hV16⟩ : ∃ V16, V16 = w16.alloc (.cells #[.string n1, .string d1] 23) := ⟨_, rfl⟩
            have HS17 : Hid (L3 w V16 n1 d1 n2 d2 n3 d3 ((w16.heap.size, n1, d1) :: [(gkz, zn, zd), (gkw, wn, wd), (gkv, vn, vd), (gkt, tn, td), (gkr, rn, rd), (gkl, ln, ld), (gkh, un, ud), (gku, n1, d1), (gkq, mn, md), (gkp, mn, md), (gky, pn, pd), (gkx, pn, pd)])) := by rw [hV16]; exact (unhide HT16).push _ _
            rw [← hV16]
            clear hV16 HS16 HT16
            generalize w16.heap.size = gks at *
            have a0 := (unhide HS17).a.c0; have a1 := (unhide HS17).a.c1; have b0 := (unhide HS17).b.c0; have b1 := (unhide HS17).b.c1; have e0 := (unhide HS17).c.c0; have e1 := (unhide HS17).c.c1
            have ks0 := ((unhide HS17).bx (gks, n1, d1) (by simp)).c0; have ks1 := ((unhide HS17).bx (gks, n1, d1) (by simp)).c1
            dsimp only at ks0 ks1
            go_upto_region 28 with fail
            go_upto_region 29 with (go_at_call 36; go_must (refine (unhide HC14 _ (unhide HS17).below).mono ?_; rintro e w17 ⟨rfl, hb1⟩; have HT17 := hide ((unhide HS17).later hb1); clear hb1 a0 a1 b0 b1 e0 e1 ks0 ks1))
            obtain ⟨V17, hV17⟩ : ∃ V17, V17 = w17.alloc (.cells #[.string gn, .string gd] 23) := ⟨_, rfl⟩
            have HS18 : Hid (L3 w V17 n1 d1 n2 d2 n3 d3 ((w17.heap.size, gn, gd) :: [(gks, n1, d1), (gkz, zn, zd), (gkw, wn, wd), (gkv, vn, vd), (gkt, tn, td), (gkr, rn, rd), (gkl, ln, ld), (gkh, un, ud), (gku, n1, d1), (gkq, mn, md), (gkp, mn, md), (gky, pn, pd), (gkx, pn, pd)])) := by rw [hV17]; exact (unhide HT17).push _ _
            rw [← hV17]
            clear hV17 HS17 HT17
            generalize w17.heap.size = gkn at *
            have a0 := (unhide HS18).a.c0; have a1 := (unhide HS18).a.c1; have b0 := (unhide HS18).b.c0; have b1 := (unhide HS18).b.c1; have e0 := (unhide HS18).c.c0; have e1 := (unhide HS18).c.c1
            have kn0 := ((unhide HS18).bx (gkn, gn, gd) (by simp)).c0; have kn1 := ((unhide HS18).bx (gkn, gn, gd) (by simp)).c1
            dsimp only at kn0 kn1
            go_upto_region 30 with (go_at_call 28; go_must (refine (unhide HC15 _ (unhide HS18).below).mono ?_; rintro e w18 ⟨rfl, hb1⟩; have HT18 := hide ((unhide HS18).later hb1); clear hb1 a0 a1 b0 b1 e0 e1 kn0 kn1))
            obtain ⟨V18, hV18⟩ : ∃ V18, V18 = w18.alloc (.cells #[.string ⟨#[48]⟩, .string ⟨#[49]⟩] 23) := ⟨_, rfl⟩
            have HS19 : Hid (L3 w V18 n1 d1 n2 d2 n3 d3 ((w18.heap.size, ⟨#[48]⟩, ⟨#[49]⟩) :: [(gkn, gn, gd), (gks, n1, d1), (gkz, zn, zd), (gkw, wn, wd), (gkv, vn, vd), (gkt, tn, td), (gkr, rn, rd), (gkl, ln, ld), (gkh, un, ud), (gku, n1, d1), (gkq, mn, md), (gkp, mn, md), (gky, pn, pd), (gkx, pn, pd)])) := by rw [hV18]; exact (unhide HT18).push _ _
            rw [← hV18]
            clear hV18 HS18 HT18
            generalize w18.heap.size = gko at *
            have a0 := (unhide HS19).a.c0; have a1 := (unhide HS19).a.c1; have b0 := (unhide HS19).b.c0; have b1 := (unhide HS19).b.c1; have e0 := (unhide HS19).c.c0; have e1 := (unhide HS19).c.c1
            have ko0 := ((unhide HS19).bx (gko, ⟨#[48]⟩, ⟨#[49]⟩) (by simp)).c0; have ko1 := ((unhide HS19).bx (gko, ⟨#[48]⟩, ⟨#[49]⟩) (by simp)).c1
            dsimp only at ko0 ko1
            go_wp2_with (go_at_call 21; go_must (refine (unhide HAW _ (unhide HS19).below).mono ?_; rintro e wz ⟨rfl, hbz⟩; have HZZ := hide ((unhide HS19).below.trans (hbz.mono (unhide HS19).below.size)); clear hbz))
            go_ret
            exact ⟨rfl, unhide HZZ⟩
          · have hq' : ¬ me = 0 ∨ (me = 0 ∧ (n2.toList == [48]) = true) := by
              by_cases h0 : me = 0
              · right
                refine ⟨h0, ?_⟩
                cases hh : (n2.toList == [48]) with
                | true => rfl
                | false => exact absurd ⟨h0, hh⟩ hq
              · left; exact h0
            clear hq
            rcases hq' with h0 | ⟨h0, h1⟩
            · have h0' : (me == 0) = false := by rw [beq_eq_false_iff_ne]; exact h0
              go_upto_region 28 with fail
              go_upto_region 29 with (go_at_call 36; go_must (refine (unhide HC14 _ (unhide HS16).below).mono ?_; rintro e w16 ⟨rfl, hb1⟩; have HT16 := hide ((unhide HS16).later hb1); clear hb1 a0 a1 b0 b1 e0 e1 kp0 kp1))
              obtain ⟨V16, hV16⟩ : ∃ V16, V16 = w16.alloc (.cells #[.string gn, .string gd] 23) := ⟨_, rfl⟩
              have HS17 : Hid (L3 w V16 n1 d1 n2 d2 n3 d3 ((w16.heap.size, gn, gd) :: [(gkz, zn, zd), (gkw, wn, wd), (gkv, vn, vd), (gkt, tn, td), (gkr, rn, rd), (gkl, ln, ld), (gkh, un, ud), (gku, n1, d1), (gkq, mn, md), (gkp, mn, md), (gky, pn, pd), (gkx, pn, pd)])) := by rw [hV16]; exact (unhide HT16).push _ _
              rw [← hV16]
              clear hV16 HS16 HT16
              generalize w16.heap.size = gkn at *
              have a0 := (unhide HS17).a.c0; have a1 := (unhide HS17).a.c1; have b0 := (unhide HS17).b.c0; have b1 := (unhide HS17).b.c1; have e0 := (unhide HS17).c.c0; have e1 := (unhide HS17).c.c1
              have kn0 := ((unhide HS17).bx (gkn, gn, gd) (by simp)).c0; have kn1 := ((unhide HS17).bx (gkn, gn, gd) (by simp)).c1
              dsimp only at kn0 kn1
              go_upto_region 30 with (go_at_call 28; go_must (refine (unhide HC15 _ (unhide HS17).below).mono ?_; rintro e w17 ⟨rfl, hb1⟩; have HT17 := hide ((unhide HS17).later hb1); clear hb1 a0 a1 b0 b1 e0 e1 kn0 kn1))
              obtain ⟨V17, hV17⟩ : ∃ V17, V17 = w17.alloc (.cells #[.string ⟨#[48]⟩, .string ⟨#[49]⟩] 23) := ⟨_, rfl⟩
              have HS18 : Hid (L3 w V17 n1 d1 n2 d2 n3 d3 ((w17.heap.size, ⟨#[48]⟩, ⟨#[49]⟩) :: [(gkn, gn, gd), (gkz, zn, zd), (gkw, wn, wd), (gkv, vn, vd), (gkt, tn, td), (gkr, rn, rd), (gkl, ln, ld), (gkh, un, ud), (gku, n1, d1), (gkq, mn, md), (gkp, mn, md), (gky, pn, pd), (gkx, pn, pd)])) := by rw [hV17]; exact (unhide HT17).push _ _
              rw [← hV17]
              clear hV17 HS17 HT17
              generalize w17.heap.size = gko at *
              have a0 := (unhide HS18).a.c0; have a1 := (unhide HS18).a.c1; have b0 := (unhide HS18).b.c0; have b1 := (unhide HS18).b.c1; have e0 := (unhide HS18).c.c0; have e1 := (unhide HS18).c.c1
              have ko0 := ((unhide HS18).bx (gko, ⟨#[48]⟩, ⟨#[49]⟩) (by simp)).c0; have ko1 := ((unhide HS18).bx (gko, ⟨#[48]⟩, ⟨#[49]⟩) (by simp)).c1
              dsimp only at ko0 ko1
              go_wp2_with (go_at_call 21; go_must (refine (unhide HAW _ (unhide HS18).below).mono ?_; rintro e wz ⟨rfl, hbz⟩; have HZZ := hide ((unhide HS18).below.trans (hbz.mono (unhide HS18).below.size)); clear hbz))
              go_ret
              exact ⟨rfl, unhide HZZ⟩
            · go_upto_region 28 with fail
              go_upto_region 29 with (go_at_call 36; go_must (refine (unhide HC14 _ (unhide HS16).below).mono ?_; rintro e w16 ⟨rfl, hb1⟩; have HT16 := hide ((unhide HS16).later hb1); clear hb1 a0 a1 b0 b1 e0 e1 kp0 kp1))
              obtain ⟨V16, hV16⟩ : ∃ V16, V16 = w16.alloc (.cells #[.string gn, .string gd] 23) := ⟨_, rfl⟩
              have HS17 : Hid (L3 w V16 n1 d1 n2 d2 n3 d3 ((w16.heap.size, gn, gd) :: [(gkz, zn, zd), (gkw, wn, wd), (gkv, vn, vd), (gkt, tn, td), (gkr, rn, rd), (gkl, ln, ld), (gkh, un, ud), (gku, n1, d1), (gkq, mn, md), (gkp, mn, md), (gky, pn, pd), (gkx, pn, pd)])) := by rw [hV16]; exact (unhide HT16).push _ _
              rw [← hV16]
              clear hV16 HS16 HT16
              generalize w16.heap.size = gkn at *
              have a0 := (unhide HS17).a.c0; have a1 := (unhide HS17).a.c1; have b0 := (unhide HS17).b.c0; have b1 := (unhide HS17).b.c1; have e0 := (unhide HS17).c.c0; have e1 := (unhide HS17).c.c1
              have kn0 := ((unhide HS17).bx (gkn, gn, gd) (by simp)).c0; have kn1 := ((unhide HS17).bx (gkn, gn, gd) (by simp)).c1
              dsimp only at kn0 kn1
              go_upto_region 30 with (go_at_call 28; go_must (refine (unhide HC15 _ (unhide HS17).below).mono ?_; rintro e w17 ⟨rfl, hb1⟩; have HT17 := hide ((unhide HS17).later hb1); clear hb1 a0 a1 b0 b1 e0 e1 kn0 kn1))
              obtain ⟨V17, hV17⟩ : ∃ V17, V17 = w17.alloc (.cells #[.string ⟨#[48]⟩, .string ⟨#[49]⟩] 23) := ⟨_, rfl⟩
              have HS18 : Hid (L3 w V17 n1 d1 n2 d2 n3 d3 ((w17.heap.size, ⟨#[48]⟩, ⟨#[49]⟩) :: [(gkn, gn, gd), (gkz, zn, zd), (gkw, wn, wd), (gkv, vn, vd), (gkt, tn, td), (gkr, rn, rd), (gkl, ln, ld), (gkh, un, ud), (gku, n1, d1), (gkq, mn, md), (gkp, mn, md), (gky, pn, pd), (gkx, pn, pd)])) := by rw [hV17]; exact (unhide HT17).push _ _
              rw [← hV17]
              clear hV17 HS17 HT17
              generalize w17.heap.size = gko at *
              have a0 := (unhide HS18).a.c0; have a1 := (unhide HS18).a.c1; have b0 := (unhide HS18).b.c0; have b1 := (unhide HS18).b.c1; have e0 := (unhide HS18).c.c0; have e1 := (unhide HS18).c.c1
              have ko0 := ((unhide HS18).bx (gko, ⟨#[48]⟩, ⟨#[49]⟩) (by simp)).c0; have ko1 := ((unhide HS18).bx (gko, ⟨#[48]⟩, ⟨#[49]⟩) (by simp)).c1
              dsimp only at ko0 ko1
              go_wp2_with (go_at_call 21; go_must (refine (unhide HAW _ (unhide HS18).below).mono ?_; rintro e wz ⟨rfl, hbz⟩; have HZZ := hide ((unhide HS18).below.trans (hbz.mono (unhide HS18).below.size)); clear hbz))
              go_ret
              exact ⟨rfl, unhide HZZ⟩
        · have hw' : (we == 0) = false := by rw [beq_eq_false_iff_ne]; exact hw
          go_upto_region 24 with fail
          by_cases hq : me = 0 ∧ (n2.toList == [48]) = false
          · obtain ⟨q1', q2'⟩ := hq
            have H13 := hide (unhide HC13 q1' q2')
            go_upto_region 25 with fail
            go_upto_region 26 with (go_at_call 34; go_must (refine (unhide H13 _ (unhide HS15).below).mono ?_; rintro e w15 ⟨rfl, hb1⟩; have HT15 := hide ((unhide HS15).later hb1); clear hb1 a0 a1 b0 b1 e0 e1 kz0 kz1 kv0 kv1 kp0 kp1))
            obtain ⟨V15, hV15⟩ : ∃ V15, V15 = w15.alloc (.cells #[.string n1, .string d1] 23) := ⟨_, rfl⟩
            have HS16 : Hid (L3 w V15 n1 d1 n2 d2 n3 d3 ((w15.heap.size, n1, d1) :: [(gkz, zn, zd), (gkw, wn, wd), (gkv, vn, vd), (gkt, tn, td), (gkr, rn, rd), (gkl, ln, ld), (gkh, un, ud), (gku, n1, d1), (gkq, mn, md), (gkp, mn, md), (gky, pn, pd), (gkx, pn, pd)])) := by rw [hV15]; exact (unhide HT15).push _ _
            rw [← hV15]
            clear hV15 HS15 HT15
            generalize w15.heap.size = gks at *
            have a0 := (unhide HS16).a.c0; have a1 := (unhide HS16).a.c1; have b0 := (unhide HS16).b.c0; have b1 := (unhide HS16).b.c1; have e0 := (unhide HS16).c.c0; have e1 := (unhide HS16).c.c1
            have ks0 := ((unhide HS16).bx (gks, n1, d1) (by simp)).c0; have ks1 := ((unhide HS16).bx (gks, n1, d1) (by simp)).c1
            dsimp only at ks0 ks1
            go_upto_region 28 with fail
            go_upto_region 29 with (go_at_call 36; go_must (refine (unhide HC14 _ (unhide HS16).below).mono ?_; rintro e w16 ⟨rfl, hb1⟩; have HT16 := hide ((unhide HS16).later hb1); clear hb1 a0 a1 b0 b1 e0 e1 ks0 ks1))
            obtain ⟨V16, hV16⟩ : ∃ V16, V16 = w16.alloc (.cells #[.string gn, .string gd] 23) := ⟨_, rfl⟩
            have HS17 : Hid (L3 w V16 n1 d1 n2 d2 n3 d3 ((w16.heap.size, gn, gd) :: [(gks, n1, d1), (gkz, zn, zd), (gkw, wn, wd), (gkv, vn, vd), (gkt, tn, td), (gkr, rn, rd), (gkl, ln, ld), (gkh, un, ud), (gku, n1, d1), (gkq, mn, md), (gkp, mn, md), (gky, pn, pd), (gkx, pn, pd)])) := by rw [hV16]; exact (unhide HT16).push _ _
            rw [← hV16]
            clear hV16 HS16 HT16
            generalize w16.heap.size = gkn at *
            have a0 := (unhide HS17).a.c0; have a1 := (unhide HS17).a.c1; have b0 := (unhide HS17).b.c0; have b1 := (unhide HS17).b.c1; have e0 := (unhide HS17).c.c0; have e1 := (unhide HS17).c.c1
            have kn0 := ((unhide HS17).bx (gkn, gn, gd) (by simp)).c0; have kn1 := ((unhide HS17).bx (gkn, gn, gd) (by simp)).c1
            dsimp only at kn0 kn1
            go_upto_region 30 with (go_at_call 28; go_must (refine (unhide HC15 _ (unhide HS17).below).mono ?_; rintro e w17 ⟨rfl, hb1⟩; have HT17 := hide ((unhide HS17).later hb1); clear hb1 a0 a1 b0 b1 e0 e1 kn0 kn1))
            obtain ⟨V17, hV17⟩ : ∃ V17, V17 = w17.alloc (.cells #[.string ⟨#[48]⟩, .string ⟨#[49]⟩] 23) := ⟨_, rfl⟩
            have HS18 : Hid (L3 w V17 n1 d1 n2 d2 n3 d3 ((w17.heap.size, ⟨#[48]⟩, ⟨#[49]⟩) :: [(gkn, gn, gd), (gks, n1, d1), (gkz, zn, zd), (gkw, wn, wd), (gkv, vn, vd), (gkt, tn, td), (gkr, rn, rd), (gkl, ln, ld), (gkh, un, ud), (gku, n1, d1), (gkq, mn, md), (gkp, mn, md), (gky, pn, pd), (gkx, pn, pd)])) := by rw [hV17]; exact (unhide HT17).push _ _
            rw [← hV17]
            clear hV17 HS17 HT17
            generalize w17.heap.size = gko at *
            have a0 := (unhide HS18).a.c0; have a1 := (unhide HS18).a.c1; have b0 := (unhide HS18).b.c0; have b1 := (unhide HS18).b.c1; have e0 := (unhide HS18).c.c0; have e1 := (unhide HS18).c.c1
            have ko0 := ((unhide HS18).bx (gko, ⟨#[48]⟩, ⟨#[49]⟩) (by simp)).c0; have ko1 := ((unhide HS18).bx (gko, ⟨#[48]⟩, ⟨#[49]⟩) (by simp)).c1
            dsimp only at ko0 ko1
            go_wp2_with (go_at_call 21; go_must (refine (unhide HAW _ (unhide HS18).below).mono ?_; rintro e wz ⟨rfl, hbz⟩; have HZZ := hide ((unhide HS18).below.trans (hbz.mono (unhide HS18).below.size)); clear hbz))
            go_ret
            exact ⟨rfl, unhide HZZ⟩
          · have hq' : ¬ me = 0 ∨ (me = 0 ∧ (n2.toList == [48]) = true) := by
              by_cases h0 : me = 0
              · right
                refine ⟨h0, ?_⟩
                cases hh : (n2.toList == [48]) with
                | true => rfl
                | false => exact absurd ⟨h0, hh⟩ hq
              · left; exact h0
            clear hq
            rcases hq' with h0 | ⟨h0, h1⟩
            · have h0' : (me == 0) = false := by rw [beq_eq_false_iff_ne]; exact h0
              go_upto_region 28 with fail
              go_upto_region 29 with (go_at_call 36; go_must (refine (unhide HC14 _ (unhide HS15).below).mono ?_; rintro e w15 ⟨rfl, hb1⟩; have HT15 := hide ((unhide HS15).later hb1); clear hb1 a0 a1 b0 b1 e0 e1 kz0 kz1 kv0 kv1 kp0 kp1))
              obtain ⟨V15, hV15⟩ : ∃ V15, V15 = w15.alloc (.cells #[.string gn, .string gd] 23) := ⟨_, rfl⟩
              have HS16 : Hid (L3 w V15 n1 d1 n2 d2 n3 d3 ((w15.heap.size, gn, gd) :: [(gkz, zn, zd), (gkw, wn, wd), (gkv, vn, vd), (gkt, tn, td), (gkr, rn, rd), (gkl, ln, ld), (gkh, un, ud), (gku, n1, d1), (gkq, mn, md), (gkp, mn, md), (gky, pn, pd), (gkx, pn, pd)])) := by rw [hV15]; exact (unhide HT15).push _ _
              rw [← hV15]
              clear hV15 HS15 HT15
              generalize w15.heap.size = gkn at *
              have a0 := (unhide HS16).a.c0; have a1 := (unhide HS16).a.c1; have b0 := (unhide HS16).b.c0; have b1 := (unhide HS16).b.c1; have e0 := (unhide HS16).c.c0; have e1 := (unhide HS16).c.c1
              have kn0 := ((unhide HS16).bx (gkn, gn, gd) (by simp)).c0; have kn1 := ((unhide HS16).bx (gkn, gn, gd) (by simp)).c1
              dsimp only at kn0 kn1
              go_upto_region 30 with (go_at_call 28; go_must (refine (unhide HC15 _ (unhide HS16).below).mono ?_; rintro e w16 ⟨rfl, hb1⟩; have HT16 := hide ((unhide HS16).later hb1); clear hb1 a0 a1 b0 b1 e0 e1 kn0 kn1))
              obtain ⟨V16, hV16⟩ : ∃ V16, V16 = w16.alloc (.cells #[.string ⟨#[48]⟩, .string ⟨#[49]⟩] 23) := ⟨_, rfl⟩
              have HS17 : Hid (L3 w V16 n1 d1 n2 d2 n3 d3 ((w16.heap.size, ⟨#[48]⟩, ⟨#[49]⟩) :: [(gkn, gn, gd), (gkz, zn, zd), (gkw, wn, wd), (gkv, vn, vd), (gkt, tn, td), (gkr, rn, rd), (gkl, ln, ld), (gkh, un, ud), (gku, n1, d1), (gkq, mn, md), (gkp, mn, md), (gky, pn, pd), (gkx, pn, pd)])) := by rw [hV16]; exact (unhide HT16).push _ _
              rw [← hV16]
              clear hV16 HS16 HT16
              generalize w16.heap.size = gko at *
              have a0 := (unhide HS17).a.c0; have a1 := (unhide HS17).a.c1; have b0 := (unhide HS17).b.c0; have b1 := (unhide HS17).b.c1; have e0 := (unhide HS17).c.c0; have e1 := (unhide HS17).c.c1
              have ko0 := ((unhide HS17).bx (gko, ⟨#[48]⟩, ⟨#[49]⟩) (by simp)).c0; have ko1 := ((unhide HS17).bx (gko, ⟨#[48]⟩, ⟨#[49]⟩) (by simp)).c1
              dsimp only at ko0 ko1
              go_wp2_with (go_at_call 21; go_must (refine (unhide HAW _ (unhide HS17).below).mono ?_; rintro e wz ⟨rfl, hbz⟩; have HZZ := hide ((unhide HS17).below.trans (hbz.mono (unhide HS17).below.size)); clear hbz))
              go_ret
              exact ⟨rfl, unhide HZZ⟩
            · go_upto_region 28 with fail
              go_upto_region 29 with (go_at_call 36; go_must (refine (unhide HC14 _ (unhide HS15).below).mono ?_; rintro e w15 ⟨rfl, hb1⟩; have HT15 := hide ((unhide HS15).later hb1); clear hb1 a0 a1 b0 b1 e0 e1 kz0 kz1 kv0 kv1 kp0 kp1))
              obtain ⟨V15, hV15⟩ : ∃ V15, V15 = w15.alloc (.cells #[.string gn, .string gd] 23) := ⟨_, rfl⟩
              have HS16 : Hid (L3 w V15 n1 d1 n2 d2 n3 d3 ((w15.heap.size, gn, gd) :: [(gkz, zn, zd), (gkw, wn, wd), (gkv, vn, vd), (gkt, tn, td), (gkr, rn, rd), (gkl, ln, ld), (gkh, un, ud), (gku, n1, d1), (gkq, mn, md), (gkp, mn, md), (gky, pn, pd), (gkx, pn, pd)])) := by rw [hV15]; exact (unhide HT15).push _ _
              rw [← hV15]
              clear hV15 HS15 HT15
              generalize w15.heap.size = gkn at *
              have a0 := (unhide HS16).a.c0; have a1 := (unhide HS16).a.c1; have b0 := (unhide HS16).b.c0; have b1 := (unhide HS16).b.c1; have e0 := (unhide HS16).c.c0; have e1 := (unhide HS16).c.c1
              have kn0 := ((unhide HS16).bx (gkn, gn, gd) (by simp)).c0; have kn1 := ((unhide HS16).bx (gkn, gn, gd) (by simp)).c1
              dsimp only at kn0 kn1
              go_upto_region 30 with (go_at_call 28; go_must (refine (unhide HC15 _ (unhide HS16).below).mono ?_; rintro e w16 ⟨rfl, hb1⟩; have HT16 := hide ((unhide HS16).later hb1); clear hb1 a0 a1 b0 b1 e0 e1 kn0 kn1))
              obtain ⟨V16, hV16⟩ : ∃ V16, V16 = w16.alloc (.cells #[.string ⟨#[48]⟩, .string ⟨#[49]⟩] 23) := ⟨_, rfl⟩
              have HS17 : Hid (L3 w V16 n1 d1 n2 d2 n3 d3 ((w16.heap.size, ⟨#[48]⟩, ⟨#[49]⟩) :: [(gkn, gn, gd), (gkz, zn, zd), (gkw, wn, wd), (gkv, vn, vd), (gkt, tn, td), (gkr, rn, rd), (gkl, ln, ld), (gkh, un, ud), (gku, n1, d1), (gkq, mn, md), (gkp, mn, md), (gky, pn, pd), (gkx, pn, pd)])) := by rw [hV16]; exact (unhide HT16).push _ _
              rw [← hV16]
              clear hV16 HS16 HT16
              generalize w16.heap.size = gko at *
              have a0 := (unhide HS17).a.c0; have a1 := (unhide HS17).a.c1; have b0 := (unhide HS17).b.c0; have b1 := (unhide HS17).b.c1; have e0 := (unhide HS17).c.c0; have e1 := (unhide HS17).c.c1
              have ko0 := ((unhide HS17).bx (gko, ⟨#[48]⟩, ⟨#[49]⟩) (by simp)).c0; have ko1 := ((unhide HS17).bx (gko, ⟨#[48]⟩, ⟨#[49]⟩) (by simp)).c1
              dsimp only at ko0 ko1
              go_wp2_with (go_at_call 21; go_must (refine (unhide HAW _ (unhide HS17).below).mono ?_; rintro e wz ⟨rfl, hbz⟩; have HZZ := hide ((unhide HS17).below.trans (hbz.mono (unhide HS17).below.size)); clear hbz))
              go_ret
              exact ⟨rfl, unhide HZZ⟩
  · have hp' : (pe == 0) = false := by rw [beq_eq_false_iff_ne]; exact hp
    go_upto_region 24 with fail
    by_cases hq : me = 0 ∧ (n2.toList == [48]) = false
    · obtain ⟨q1', q2'⟩ := hq
      have H13 := hide (unhide HC13 q1' q2')
      go_upto_region 25 with fail
      go_upto_region 26 with (go_at_call 34; go_must (refine (unhide H13 _ (unhide HS7).below).mono ?_; rintro e w7 ⟨rfl, hb1⟩; have HT7 := hide ((unhide HS7).later hb1); clear hb1 a0 a1 b0 b1 e0 e1 kq0 kq1 kp0 kp1 ky0 ky1 kx0 kx1))
      obtain ⟨V7, hV7⟩ : ∃ V7, V7 = w7.alloc (.cells #[.string n1, .string d1] 23) := ⟨_, rfl⟩
      have HS8 : Hid (L3 w V7 n1 d1 n2 d2 n3 d3 ((w7.heap.size, n1, d1) :: [(gkq, mn, md), (gkp, mn, md), (gky, pn, pd), (gkx, pn, pd)])) := by rw [hV7]; exact (unhide HT7).push _ _
      rw [← hV7]
      clear hV7 HS7 HT7
      generalize w7.heap.size = gks at *
      have a0 := (unhide HS8).a.c0; have a1 := (unhide HS8).a.c1; have b0 := (unhide HS8).b.c0; have b1 := (unhide HS8).b.c1; have e0 := (unhide HS8).c.c0; have e1 := (unhide HS8).c.c1
      have ks0 := ((unhide HS8).bx (gks, n1, d1) (by simp)).c0; have ks1 := ((unhide HS8).bx (gks, n1, d1) (by simp)).c1
      dsimp only at ks0 ks1
      go_upto_region 28 with fail
      go_upto_region 29 with (go_at_call 36; go_must (refine (unhide HC14 _ (unhide HS8).below).mono ?_; rintro e w8 ⟨rfl, hb1⟩; have HT8 := hide ((unhide HS8).later hb1); clear hb1 a0 a1 b0 b1 e0 e1 ks0 ks1))
      obtain ⟨V8, hV8⟩ : ∃ V8, V8 = w8.alloc (.cells #[.string gn, .string gd] 23) := ⟨_, rfl⟩
      have HS9 : Hid (L3 w V8 n1 d1 n2 d2 n3 d3 ((w8.heap.size, gn, gd) :: [(gks, n1, d1), (gkq, mn, md), (gkp, mn, md), (gky, pn, pd), (gkx, pn, pd)])) := by rw [hV8]; exact (unhide HT8).push _ _
      rw [← hV8]
      clear hV8 HS8 HT8
      generalize w8.heap.size = gkn at *
      have a0 := (unhide HS9).a.c0; have a1 := (unhide HS9).a.c1; have b0 := (unhide HS9).b.c0; have b1 := (unhide HS9).b.c1; have e0 := (unhide HS9).c.c0; have e1 := (unhide HS9).c.c1
      have kn0 := ((unhide HS9).bx (gkn, gn, gd) (by simp)).c0; have kn1 := ((unhide HS9).bx (gkn, gn, gd) (by simp)).c1
      dsimp only at kn0 kn1
      go_upto_region 30 with (go_at_call 28; go_must (refine (unhide HC15 _ (unhide HS9).below).mono ?_; rintro e w9 ⟨rfl, hb1⟩; have HT9 := hide ((unhide HS9).later hb1); clear hb1 a0 a1 b0 b1 e0 e1 kn0 kn1))
      obtain ⟨V9, hV9⟩ : ∃ V9, V9 = w9.alloc (.cells #[.string ⟨#[48]⟩, .string ⟨#[49]⟩] 23) := ⟨_, rfl⟩
      have HS10 : Hid (L3 w V9 n1 d1 n2 d2 n3 d3 ((w9.heap.size, ⟨#[48]⟩, ⟨#[49]⟩) :: [(gkn, gn, gd), (gks, n1, d1), (gkq, mn, md), (gkp, mn, md), (gky, pn, pd), (gkx, pn, pd)])) := by rw [hV9]; exact (unhide HT9).push _ _
      rw [← hV9]
      clear hV9 HS9 HT9
      generalize w9.heap.size = gko at *
      have a0 := (unhide HS10).a.c0; have a1 := (unhide HS10).a.c1; have b0 := (unhide HS10).b.c0; have b1 := (unhide HS10).b.c1; have e0 := (unhide HS10).c.c0; have e1 := (unhide HS10).c.c1
      have ko0 := ((unhide HS10).bx (gko, ⟨#[48]⟩, ⟨#[49]⟩) (by simp)).c0; have ko1 := ((unhide HS10).bx (gko, ⟨#[48]⟩, ⟨#[49]⟩) (by simp)).c1
      dsimp only at ko0 ko1
      go_wp2_with (go_at_call 21; go_must (refine (unhide HAW _ (unhide HS10).below).mono ?_; rintro e wz ⟨rfl, hbz⟩; have HZZ := hide ((unhide HS10).below.trans (hbz.mono (unhide HS10).below.size)); clear hbz))
      go_ret
      exact ⟨rfl, unhide HZZ⟩
    · have hq' : ¬ me = 0 ∨ (me = 0 ∧ (n2.toList == [48]) = true) := by
        by_cases h0 : me = 0
        · right
          refine ⟨h0, ?_⟩
          cases hh : (n2.toList == [48]) with
          | true => rfl
          | false => exact absurd ⟨h0, hh⟩ hq
        · left; exact h0
      clear hq
      rcases hq' with h0 | ⟨h0, h1⟩
      · have h0' : (me == 0) = false := by rw [beq_eq_false_iff_ne]; exact h0
        go_upto_region 28 with fail
        go_upto_region 29 with (go_at_call 36; go_must (refine (unhide HC14 _ (unhide HS7).below).mono ?_; rintro e w7 ⟨rfl, hb1⟩; have HT7 := hide ((unhide HS7).later hb1); clear hb1 a0 a1 b0 b1 e0 e1 kq0 kq1 kp0 kp1 ky0 ky1 kx0 kx1))
        obtain ⟨V7, hV7⟩ : ∃ V7, V7 = w7.alloc (.cells #[.string gn, .string gd] 23) := ⟨_, rfl⟩
        have HS8 : Hid (L3 w V7 n1 d1 n2 d2 n3 d3 ((w7.heap.size, gn, gd) :: [(gkq, mn, md), (gkp, mn, md), (gky, pn, pd), (gkx, pn, pd)])) := by rw [hV7]; exact (unhide HT7).push _ _
        rw [← hV7]
        clear hV7 HS7 HT7
        generalize w7.heap.size = gkn at *
        have a0 := (unhide HS8).a.c0; have a1 := (unhide HS8).a.c1; have b0 := (unhide HS8).b.c0; have b1 := (unhide HS8).b.c1; have e0 := (unhide HS8).c.c0; have e1 := (unhide HS8).c.c1
        have kn0 := ((unhide HS8).bx (gkn, gn, gd) (by simp)).c0; have kn1 := ((unhide HS8).bx (gkn, gn, gd) (by simp)).c1
        dsimp only at kn0 kn1
        go_upto_region 30 with (go_at_call 28; go_must (refine (unhide HC15 _ (unhide HS8).below).mono ?_; rintro e w8 ⟨rfl, hb1⟩; have HT8 := hide ((unhide HS8).later hb1); clear hb1 a0 a1 b0 b1 e0 e1 kn0 kn1))
        obtain ⟨V8, hV8⟩ : ∃ V8, V8 = w8.alloc (.cells #[.string ⟨#[48]⟩, .string ⟨#[49]⟩] 23) := ⟨_, rfl⟩
        have HS9 : Hid (L3 w V8 n1 d1 n2 d2 n3 d3 ((w8.heap.size, ⟨#[48]⟩, ⟨#[49]⟩) :: [(gkn, gn, gd), (gkq, mn, md), (gkp, mn, md), (gky, pn, pd), (gkx, pn, pd)])) := by rw [hV8]; exact (unhide HT8).push _ _
        rw [← hV8]
        clear hV8 HS8 HT8
        generalize w8.heap.size = gko at *
        have a0 := (unhide HS9).a.c0; have a1 := (unhide HS9).a.c1; have b0 := (unhide HS9).b.c0; have b1 := (unhide HS9).b.c1; have e0 := (unhide HS9).c.c0; have e1 := (unhide HS9).c.c1
        have ko0 := ((unhide HS9).bx (gko, ⟨#[48]⟩, ⟨#[49]⟩) (by simp)).c0; have ko1 := ((unhide HS9).bx (gko, ⟨#[48]⟩, ⟨#[49]⟩) (by simp)).c1
        dsimp only at ko0 ko1
        go_wp2_with (go_at_call 21; go_must (refine (unhide HAW _ (unhide HS9).below).mono ?_; rintro e wz ⟨rfl, hbz⟩; have HZZ := hide ((unhide HS9).below.trans (hbz.mono (unhide HS9).below.size)); clear hbz))
        go_ret
        exact ⟨rfl, unhide HZZ⟩
      · go_upto_region 28 with fail
        go_upto_region 29 with (go_at_call 36; go_must (refine (unhide HC14 _ (unhide HS7).below).mono ?_; rintro e w7 ⟨rfl, hb1⟩; have HT7 := hide ((unhide HS7).later hb1); clear hb1 a0 a1 b0 b1 e0 e1 kq0 kq1 kp0 kp1 ky0 ky1 kx0 kx1))
        obtain ⟨V7, hV7⟩ : ∃ V7, V7 = w7.alloc (.cells #[.string gn, .string gd] 23) := ⟨_, rfl⟩
        have HS8 : Hid (L3 w V7 n1 d1 n2 d2 n3 d3 ((w7.heap.size, gn, gd) :: [(gkq, mn, md), (gkp, mn, md), (gky, pn, pd), (gkx, pn, pd)])) := by rw [hV7]; exact (unhide HT7).push _ _
        rw [← hV7]
        clear hV7 HS7 HT7
        generalize w7.heap.size = gkn at *
        have a0 := (unhide HS8).a.c0; have a1 := (unhide HS8).a.c1; have b0 := (unhide HS8).b.c0; have b1 := (unhide HS8).b.c1; have e0 := (unhide HS8).c.c0; have e1 := (unhide HS8).c.c1
        have kn0 := ((unhide HS8).bx (gkn, gn, gd) (by simp)).c0; have kn1 := ((unhide HS8).bx (gkn, gn, gd) (by simp)).c1
        dsimp only at kn0 kn1
        go_upto_region 30 with (go_at_call 28; go_must (refine (unhide HC15 _ (unhide HS8).below).mono ?_; rintro e w8 ⟨rfl, hb1⟩; have HT8 := hide ((unhide HS8).later hb1); clear hb1 a0 a1 b0 b1 e0 e1 kn0 kn1))
        obtain ⟨V8, hV8⟩ : ∃ V8, V8 = w8.alloc (.cells #[.string ⟨#[48]⟩, .string ⟨#[49]⟩] 23) := ⟨_, rfl⟩
        have HS9 : Hid (L3 w V8 n1 d1 n2 d2 n3 d3 ((w8.heap.size, ⟨#[48]⟩, ⟨#[49]⟩) :: [(gkn, gn, gd), (gkq, mn, md), (gkp, mn, md), (gky, pn, pd), (gkx, pn, pd)])) := by rw [hV8]; exact (unhide HT8).push _ _
        rw [← hV8]
        clear hV8 HS8 HT8
        generalize w8.heap.size = gko at *
        have a0 := (unhide HS9).a.c0; have a1 := (unhide HS9).a.c1; have b0 := (unhide HS9).b.c0; have b1 := (unhide HS9).b.c1; have e0 := (unhide HS9).c.c0; have e1 := (unhide HS9).c.c1
        have ko0 := ((unhide HS9).bx (gko, ⟨#[48]⟩, ⟨#[49]⟩) (by simp)).c0; have ko1 := ((unhide HS9).bx (gko, ⟨#[48]⟩, ⟨#[49]⟩) (by simp)).c1
        dsimp only at ko0 ko1
        go_wp2_with (go_at_call 21; go_must (refine (unhide HAW _ (unhide HS9).below).mono ?_; rintro e wz ⟨rfl, hbz⟩; have HZZ := hide ((unhide HS9).below.trans (hbz.mono (unhide HS9).below.size)); clear hbz))
        go_ret
        exact ⟨rfl, unhide HZZ⟩
end Go.Proofs.YtoinadnpdbaamaaGreatDoor

/- RatBack: the walk. -/
import Derived.Test.YtifalmdoligblaaGreatDoorFieldM
import Derived.Test.YtifalmdoligblaaGreatDoorLast
import Derived.Deep.RegionHeld3
namespace Go.Proofs.YtifalmdoligblaaGreatDoor
open Go.RowKit

theorem FBox.newB61 (w : World) (a b c : Value) : FBox (w.alloc (.cells #[a, b, c] 61)) w.heap.size a b c := ⟨by simp [go_sem], by simp [go_sem], by simp [go_sem], by simp [go_sem], by simp [go_sem], by simp [go_sem]⟩
theorem FBox.past61 {W V : World} {a b c : Value} (hb : Below (W.alloc (.cells #[a, b, c] 61)).heap.size (W.alloc (.cells #[a, b, c] 61)) V) : FBox V W.heap.size a b c := (FBox.newB61 W a b c).later hb
theorem FBox.past61D {W V : World} {a b c : Value} (hb : Below (W.alloc (.cells #[a, b, c] 61)).drew.heap.size (W.alloc (.cells #[a, b, c] 61)).drew V) : FBox V W.heap.size a b c := ((FBox.newB61 W a b c).later (Below.refl _ _).drew).later hb
theorem bel_al {U W V : World} {O : Obj} (h : Below U.heap.size U W) (hb : Below (W.alloc O).heap.size (W.alloc O) V) : Below U.heap.size U V :=
  (h.alloc h.size O).trans (hb.mono (h.alloc h.size O).size)
theorem bel_alD {W V : World} {O : Obj} (hb : Below (W.alloc O).drew.heap.size (W.alloc O).drew V) : Below W.heap.size W V :=
  have h0 := (Below.refl W.heap.size W).alloc (Nat.le_refl _) O
  have h : Below W.heap.size W (W.alloc O).drew := h0.trans ((Below.refl _ _).drew.mono h0.size)
  h.trans (hb.mono h.size)
structure BK (w W : World) (n1 d1 yn yd zn zd : ByteArray) (g11 g12 : Nat) : Prop where
  a : T2 W w.heap.size (.string n1) (.string d1)
  y : T2 W g11 (.string yn) (.string yd)
  z : T2 W g12 (.string zn) (.string zd)
  b : Below w.heap.size w W
theorem BK.later {w W V : World} {n1 d1 yn yd zn zd : ByteArray} {g11 g12 : Nat} (h : BK w W n1 d1 yn yd zn zd g11 g12) (hb : Below W.heap.size W V) : BK w V n1 d1 yn yd zn zd g11 g12 := ⟨h.a.later hb, h.y.later hb, h.z.later hb, h.b.trans (hb.mono h.b.size)⟩
theorem BK.store {w W : World} {n1 d1 yn yd zn zd : ByteArray} {g11 g12 X : Nat} {x y z : Value} (h : BK w W n1 d1 yn yd zn zd g11 g12) (f : FBox W X x y z) (x' y' z' : Value) (h0 : w.heap.size < X) (h1 : g11 < X) (h2 : g12 < X) : BK w (store3 W X x' y' z') n1 d1 yn yd zn zd g11 g12 ∧ FBox (store3 W X x' y' z') X x' y' z' :=
  ⟨⟨((h.a.otherAt (by omega) _).otherAt (by omega) _).otherAt (by omega) _, ((h.y.otherAt (by omega) _).otherAt (by omega) _).otherAt (by omega) _, ((h.z.otherAt (by omega) _).otherAt (by omega) _).otherAt (by omega) _, below_store3 h.b (by omega) _ _ _⟩, f.store _ _ _⟩
theorem BK.set {w W : World} {n1 d1 yn yd zn zd : ByteArray} {g11 g12 X : Nat} {x y z : Value} (h : BK w W n1 d1 yn yd zn zd g11 g12) (f : FBox W X x y z) (x' : Value) (h0 : w.heap.size < X) (h1 : g11 < X) (h2 : g12 < X) : BK w (W.setCell ⟨X, 0, none⟩ x') n1 d1 yn yd zn zd g11 g12 ∧ FBox (W.setCell ⟨X, 0, none⟩ x') X x' y z :=
  ⟨⟨h.a.otherAt (by omega) _, h.y.otherAt (by omega) _, h.z.otherAt (by omega) _, h.b.setCell (p := ⟨X, 0, none⟩) (by simp; omega) _⟩, f.set0 _⟩
theorem BK.new {w W : World} {n1 d1 yn yd zn zd : ByteArray} {g11 g12 : Nat} (h : BK w W n1 d1 yn yd zn zd g11 g12) (x' y' z' : Value) : BK w (W.alloc (.cells #[x', y', z'] 61)) n1 d1 yn yd zn zd g11 g12 ∧ FBox (W.alloc (.cells #[x', y', z'] 61)) W.heap.size x' y' z' :=
  ⟨h.later ((Below.refl _ _).alloc (Nat.le_refl _) _), FBox.newB61 _ _ _ _⟩
theorem BK.lts {w W : World} {n1 d1 yn yd zn zd : ByteArray} {g11 g12 : Nat} (h : BK w W n1 d1 yn yd zn zd g11 g12) : w.heap.size < W.heap.size ∧ g11 < W.heap.size ∧ g12 < W.heap.size := ⟨h.a.lt, h.y.lt, h.z.lt⟩

set_option maxRecDepth 100000 in
set_option maxHeartbeats 4000000 in
theorem back_large (n1 d1 ps dt yn yd : ByteArray) (n : Int) (p : Nat) (de ye : Int) (w : World) (htab : Tab w) (hn : wrap64 ((IntKind.u64.wrap n).tmod 200) = (p : Int)) (h18 : RB n1 d1 true)
    (h24 : ∀ W, Calls Tryz.prog 24 #[.agg #[.string n1, .string d1]] W fun r w' => r = .returned (.tuple #[.string ps, .int .i64 0]) ∧ Below W.heap.size W w')
    (h22 : ∀ W, Below w.heap.size w W → Calls Tryz.prog 22 #[.string ps] W fun r w' => r = .returned (.tuple #[.agg #[.string n1, .string d1], .int .i64 0, .int .i64 0]) ∧ Below W.heap.size W w')
    (h26 : ∀ W, Below w.heap.size w W → Calls Tryz.prog 26 #[.agg #[.string n1, .string d1], .int .i64 (p : Int)] W fun r w' => r = .returned (.tuple #[.string dt, .int .i64 de]) ∧ Below W.heap.size W w')
    (h51 : ∀ W, Below w.heap.size w W → Calls Tryz.prog 51 #[.agg #[.string n1, .string d1], .int .i64 (p : Int)] W fun r w' => r = .returned (.tuple #[.agg #[.string yn, .string yd], .int .i64 ye]) ∧ Below W.heap.size W w') (hA : de = 7 ∨ (de = 0 ∧ ye = 7)) : Calls Tryz.prog 14 #[.agg #[.string n1, .string d1], .int .i64 n] w fun r w' => r = .returned (.bool true) ∧ Below w.heap.size w w' := by
  obtain ⟨V, hV⟩ : ∃ V, V = w.alloc (.cells #[.string n1, .string d1] 23) := ⟨_, rfl⟩
  have hbV : Below w.heap.size w V := by rw [hV]; exact (Below.refl _ _).alloc (Nat.le_refl _) _
  have HS0 : Hid (T2 V w.heap.size (.string n1) (.string d1) ∧ Below w.heap.size w V) := ⟨by rw [hV]; exact ⟨by simp [go_sem], by simp [go_sem], by simp [go_sem], by simp [go_sem]⟩, hbV⟩
  have HV := hide hV
  have HAW : Hid (∀ W, Below w.heap.size w W → Calls Tryz.prog 21 #[] W fun r w' => r = .returned (.bool true) ∧ Below W.heap.size W w') := fun W hb => awake_any W (htab.later hb)
  have H18 := hide h18; have H24 := hide h24; have H22 := hide h22; have H26 := hide h26; have H51 := hide h51
  have HN := hide hn
  clear h18 h24 h22 h26 h51 hn htab hbV
  go_enter Tryz.func14, Tryz.ntmps14
  go_upto_region 1 with fail
  rw [← unhide HV]
  clear hV HV
  have t0 := (unhide HS0).1.c0; have t1 := (unhide HS0).1.c1
  go_upto_region 3 with (go_at_call 18; go_must (refine (unhide H18 _).mono ?_; rintro e w1 ⟨rfl, hb1⟩; have HS1 : Hid (T2 w1 w.heap.size (.string n1) (.string d1) ∧ Below w.heap.size w w1) := ⟨(unhide HS0).1.later hb1, (unhide HS0).2.trans (hb1.mono (unhide HS0).2.size)⟩; clear hb1 t0 t1; have t0 := (unhide HS1).1.c0; have t1 := (unhide HS1).1.c1))
  go_upto_region 4 with (go_at_call 24; go_must (refine (unhide H24 _).mono ?_; rintro e w2 ⟨rfl, hb2⟩; have HS2 : Hid (T2 w2 w.heap.size (.string n1) (.string d1) ∧ Below w.heap.size w w2) := ⟨(unhide HS1).1.later hb2, (unhide HS1).2.trans (hb2.mono (unhide HS1).2.size)⟩; clear hb2 t0 t1; have t0 := (unhide HS2).1.c0; have t1 := (unhide HS2).1.c1))
  go_upto_region 5 with (go_at_call 22; go_must (refine (unhide H22 _ (unhide HS2).2).mono ?_; rintro e w3 ⟨rfl, hb3⟩; have HS3 : Hid (T2 w3 w.heap.size (.string n1) (.string d1) ∧ Below w.heap.size w w3) := ⟨(unhide HS2).1.later hb3, (unhide HS2).2.trans (hb3.mono (unhide HS2).2.size)⟩; clear hb3 t0 t1; have t0 := (unhide HS3).1.c0; have t1 := (unhide HS3).1.c1))
  obtain ⟨V4, hV4⟩ : ∃ V4, V4 = w3.alloc (.cells #[.string n1, .string d1] 23) := ⟨_, rfl⟩
  have hbV4 : Below w3.heap.size w3 V4 := by rw [hV4]; exact (Below.refl _ _).alloc (Nat.le_refl _) _
  have HS4 : Hid (T2 V4 w.heap.size (.string n1) (.string d1) ∧ Below w.heap.size w V4) := ⟨(unhide HS3).1.later hbV4, (unhide HS3).2.trans (hbV4.mono (unhide HS3).2.size)⟩
  have HX4 : Hid (T2 V4 w3.heap.size (.string n1) (.string d1)) := by rw [hV4]; exact ⟨by simp [go_sem], by simp [go_sem], by simp [go_sem], by simp [go_sem]⟩
  rw [← hV4]
  clear hV4 hbV4 t0 t1 
  generalize w3.heap.size = g7 at *
  have t0 := (unhide HS4).1.c0; have t1 := (unhide HS4).1.c1
  clear HS0 HS1 HS2 HS3 H18 H24
  have x0 := (unhide HX4).c0; have x1 := (unhide HX4).c1
  go_upto_region 8 with fail
  rw [unhide HN]
  clear HN x0 x1
  go_upto_region 9 with (go_at_call 26; go_must (refine (unhide H26 _ (unhide HS4).2).mono ?_; rintro e w5 ⟨rfl, hb5⟩; have HS5 : Hid (T2 w5 w.heap.size (.string n1) (.string d1) ∧ Below w.heap.size w w5) := ⟨(unhide HS4).1.later hb5, (unhide HS4).2.trans (hb5.mono (unhide HS4).2.size)⟩; clear hb5 t0 t1; have t0 := (unhide HS5).1.c0; have t1 := (unhide HS5).1.c1))
  go_upto_region 10 with (go_at_call 51; go_must (refine (unhide H51 _ (unhide HS5).2).mono ?_; rintro e w6 ⟨rfl, hb6⟩; have HS6 : Hid (T2 w6 w.heap.size (.string n1) (.string d1) ∧ Below w.heap.size w w6) := ⟨(unhide HS5).1.later hb6, (unhide HS5).2.trans (hb6.mono (unhide HS5).2.size)⟩; clear hb6 t0 t1; have t0 := (unhide HS6).1.c0; have t1 := (unhide HS6).1.c1))
  obtain ⟨V7, hV7⟩ : ∃ V7, V7 = w6.alloc (.cells #[.string yn, .string yd] 23) := ⟨_, rfl⟩
  have hbV7 : Below w6.heap.size w6 V7 := by rw [hV7]; exact (Below.refl _ _).alloc (Nat.le_refl _) _
  have HS7 : Hid (T2 V7 w.heap.size (.string n1) (.string d1) ∧ Below w.heap.size w V7) := ⟨(unhide HS6).1.later hbV7, (unhide HS6).2.trans (hbV7.mono (unhide HS6).2.size)⟩
  have HY7 : Hid (T2 V7 w6.heap.size (.string yn) (.string yd)) := by rw [hV7]; exact ⟨by simp [go_sem], by simp [go_sem], by simp [go_sem], by simp [go_sem]⟩
  rw [← hV7]
  clear hV7 hbV7 t0 t1 
  generalize w6.heap.size = g11 at *
  have t0 := (unhide HS7).1.c0; have t1 := (unhide HS7).1.c1
  clear HS4 HS5 HS6 H26 H51 HX4
  rcases hA with rfl | ⟨rfl, rfl⟩
  all_goals
    go_wp2_with (go_at_call 21; go_must (refine (unhide HAW _ (unhide HS7).2).mono ?_; rintro e w9 ⟨rfl, hb9⟩; have HE := hide ((unhide HS7).2.trans (hb9.mono (unhide HS7).2.size)); clear hb9))
    go_ret
    exact ⟨by simp, unhide HE⟩

set_option maxRecDepth 100000 in
set_option maxHeartbeats 4000000 in
theorem back_fine (n1 d1 ps dt yn yd : ByteArray) (n : Int) (p : Nat) (w : World) (htab : Tab w) (hn : wrap64 ((IntKind.u64.wrap n).tmod 200) = (p : Int)) (h18 : RB n1 d1 true)
    (h24 : ∀ W, Calls Tryz.prog 24 #[.agg #[.string n1, .string d1]] W fun r w' => r = .returned (.tuple #[.string ps, .int .i64 0]) ∧ Below W.heap.size W w')
    (h22 : ∀ W, Below w.heap.size w W → Calls Tryz.prog 22 #[.string ps] W fun r w' => r = .returned (.tuple #[.agg #[.string n1, .string d1], .int .i64 0, .int .i64 0]) ∧ Below W.heap.size W w')
    (h26 : ∀ W, Below w.heap.size w W → Calls Tryz.prog 26 #[.agg #[.string n1, .string d1], .int .i64 (p : Int)] W fun r w' => r = .returned (.tuple #[.string dt, .int .i64 0]) ∧ Below W.heap.size W w')
    (h51 : ∀ W, Below w.heap.size w W → Calls Tryz.prog 51 #[.agg #[.string n1, .string d1], .int .i64 (p : Int)] W fun r w' => r = .returned (.tuple #[.agg #[.string yn, .string yd], .int .i64 0]) ∧ Below W.heap.size W w')
    (ab bb cb ob rb eb : Bool) (an ad bn bd cn cd on od z rn rd : ByteArray) (c c2 : Int) (fn : ByteArray) (hc : c ≤ 0) (hc2 : c2 ≤ 0) (hzl : z.size ≤ 1000)
    (h22b : ∀ W, Below w.heap.size w W → Calls Tryz.prog 22 #[.string dt] W fun r w' => r = .returned (.tuple #[.agg #[.string yn, .string yd], .int .i64 0, .int .i64 0]) ∧ Below W.heap.size W w')
    (h62a : ∀ W, Calls Tryz.prog 62 #[.agg #[.string n1, .string d1]] W fun r w' => r = .returned (.agg #[.bool ab, .string an, .string ad]) ∧ Below W.heap.size W w')
    (h62b : ∀ W, Calls Tryz.prog 62 #[.agg #[.string yn, .string yd]] W fun r w' => r = .returned (.agg #[.bool bb, .string bn, .string bd]) ∧ Below W.heap.size W w')
    (h63 : ∀ W, Calls Tryz.prog 63 #[.agg #[.bool bb, .string bn, .string bd]] W fun r w' => r = .returned (.agg #[.bool cb, .string cn, .string cd]) ∧ Below W.heap.size W w')
    (h61 : ∀ W, Calls Tryz.prog 61 #[.agg #[.bool ab, .string an, .string ad], .agg #[.bool cb, .string cn, .string cd]] W fun r w' => r = .returned (.agg #[.bool ob, .string on, .string od]) ∧ Below W.heap.size W w')
    (h66 : ∀ W, Calls Tryz.prog 66 #[.int .i64 (p : Int)] W fun r w' => r = .returned (.string z) ∧ Below W.heap.size W w')
    (h65 : ∀ W, Calls Tryz.prog 65 #[.agg #[.bool false, .string on, .string od], .agg #[.bool false, .string (⟨#[50]⟩ ++ z), .string ⟨#[49]⟩]] W fun r w' => r = .returned (.agg #[.bool rb, .string rn, .string rd]) ∧ Below W.heap.size W w')
    (h67 : ∀ W, Calls Tryz.prog 67 #[.int .i64 1] W fun r w' => r = .returned (.agg #[.bool eb, .string ⟨#[49]⟩, .string ⟨#[49]⟩]) ∧ Below W.heap.size W w')
    (h64 : ∀ W, Calls Tryz.prog 64 #[.agg #[.bool rb, .string rn, .string rd], .agg #[.bool eb, .string ⟨#[49]⟩, .string ⟨#[49]⟩]] W fun r w' => r = .returned (.int .i64 c) ∧ Below W.heap.size W w')
    (h49 : ∀ W, Below w.heap.size w W → Calls Tryz.prog 49 #[.agg #[.string n1, .string d1]] W fun r w' => r = .returned (.tuple #[.agg #[.string fn, .string ⟨#[49]⟩], .int .i64 0]) ∧ Below W.heap.size W w')
    (h46 : ∀ W, Calls Tryz.prog 46 #[.agg #[.string fn, .string ⟨#[49]⟩], .agg #[.string n1, .string d1]] W fun r w' => r = .returned (.tuple #[.int .i64 c2, .int .i64 0]) ∧ Below W.heap.size W w') : Calls Tryz.prog 14 #[.agg #[.string n1, .string d1], .int .i64 n] w fun r w' => r = .returned (.bool true) ∧ Below w.heap.size w w' := by
  have H22B := hide h22b; have H62A := hide h62a; have H62B := hide h62b; have H63 := hide h63; have H61 := hide h61; have H66 := hide h66; have H65 := hide h65; have H67 := hide h67; have H64 := hide h64; have H49 := hide h49; have H46 := hide h46
  clear h22b h62a h62b h63 h61 h66 h65 h67 h64 h49 h46
  obtain ⟨V, hV⟩ : ∃ V, V = w.alloc (.cells #[.string n1, .string d1] 23) := ⟨_, rfl⟩
  have hbV : Below w.heap.size w V := by rw [hV]; exact (Below.refl _ _).alloc (Nat.le_refl _) _
  have HS0 : Hid (T2 V w.heap.size (.string n1) (.string d1) ∧ Below w.heap.size w V) := ⟨by rw [hV]; exact ⟨by simp [go_sem], by simp [go_sem], by simp [go_sem], by simp [go_sem]⟩, hbV⟩
  have HV := hide hV
  have HAW : Hid (∀ W, Below w.heap.size w W → Calls Tryz.prog 21 #[] W fun r w' => r = .returned (.bool true) ∧ Below W.heap.size W w') := fun W hb => awake_any W (htab.later hb)
  have H18 := hide h18; have H24 := hide h24; have H22 := hide h22; have H26 := hide h26; have H51 := hide h51
  have HN := hide hn
  clear h18 h24 h22 h26 h51 hn htab hbV
  go_enter Tryz.func14, Tryz.ntmps14
  go_upto_region 1 with fail
  rw [← unhide HV]
  clear hV HV
  have t0 := (unhide HS0).1.c0; have t1 := (unhide HS0).1.c1
  go_upto_region 3 with (go_at_call 18; go_must (refine (unhide H18 _).mono ?_; rintro e w1 ⟨rfl, hb1⟩; have HS1 : Hid (T2 w1 w.heap.size (.string n1) (.string d1) ∧ Below w.heap.size w w1) := ⟨(unhide HS0).1.later hb1, (unhide HS0).2.trans (hb1.mono (unhide HS0).2.size)⟩; clear hb1 t0 t1; have t0 := (unhide HS1).1.c0; have t1 := (unhide HS1).1.c1))
  go_upto_region 4 with (go_at_call 24; go_must (refine (unhide H24 _).mono ?_; rintro e w2 ⟨rfl, hb2⟩; have HS2 : Hid (T2 w2 w.heap.size (.string n1) (.string d1) ∧ Below w.heap.size w w2) := ⟨(unhide HS1).1.later hb2, (unhide HS1).2.trans (hb2.mono (unhide HS1).2.size)⟩; clear hb2 t0 t1; have t0 := (unhide HS2).1.c0; have t1 := (unhide HS2).1.c1))
  go_upto_region 5 with (go_at_call 22; go_must (refine (unhide H22 _ (unhide HS2).2).mono ?_; rintro e w3 ⟨rfl, hb3⟩; have HS3 : Hid (T2 w3 w.heap.size (.string n1) (.string d1) ∧ Below w.heap.size w w3) := ⟨(unhide HS2).1.later hb3, (unhide HS2).2.trans (hb3.mono (unhide HS2).2.size)⟩; clear hb3 t0 t1; have t0 := (unhide HS3).1.c0; have t1 := (unhide HS3).1.c1))
  obtain ⟨V4, hV4⟩ : ∃ V4, V4 = w3.alloc (.cells #[.string n1, .string d1] 23) := ⟨_, rfl⟩
  have hbV4 : Below w3.heap.size w3 V4 := by rw [hV4]; exact (Below.refl _ _).alloc (Nat.le_refl _) _
  have HS4 : Hid (T2 V4 w.heap.size (.string n1) (.string d1) ∧ Below w.heap.size w V4) := ⟨(unhide HS3).1.later hbV4, (unhide HS3).2.trans (hbV4.mono (unhide HS3).2.size)⟩
  have HX4 : Hid (T2 V4 w3.heap.size (.string n1) (.string d1)) := by rw [hV4]; exact ⟨by simp [go_sem], by simp [go_sem], by simp [go_sem], by simp [go_sem]⟩
  rw [← hV4]
  clear hV4 hbV4 t0 t1 
  generalize w3.heap.size = g7 at *
  have t0 := (unhide HS4).1.c0; have t1 := (unhide HS4).1.c1
  clear HS0 HS1 HS2 HS3 H18 H24
  have x0 := (unhide HX4).c0; have x1 := (unhide HX4).c1
  go_upto_region 8 with fail
  rw [unhide HN]
  clear HN x0 x1
  go_upto_region 9 with (go_at_call 26; go_must (refine (unhide H26 _ (unhide HS4).2).mono ?_; rintro e w5 ⟨rfl, hb5⟩; have HS5 : Hid (T2 w5 w.heap.size (.string n1) (.string d1) ∧ Below w.heap.size w w5) := ⟨(unhide HS4).1.later hb5, (unhide HS4).2.trans (hb5.mono (unhide HS4).2.size)⟩; clear hb5 t0 t1; have t0 := (unhide HS5).1.c0; have t1 := (unhide HS5).1.c1))
  go_upto_region 10 with (go_at_call 51; go_must (refine (unhide H51 _ (unhide HS5).2).mono ?_; rintro e w6 ⟨rfl, hb6⟩; have HS6 : Hid (T2 w6 w.heap.size (.string n1) (.string d1) ∧ Below w.heap.size w w6) := ⟨(unhide HS5).1.later hb6, (unhide HS5).2.trans (hb6.mono (unhide HS5).2.size)⟩; clear hb6 t0 t1; have t0 := (unhide HS6).1.c0; have t1 := (unhide HS6).1.c1))
  obtain ⟨V7, hV7⟩ : ∃ V7, V7 = w6.alloc (.cells #[.string yn, .string yd] 23) := ⟨_, rfl⟩
  have hbV7 : Below w6.heap.size w6 V7 := by rw [hV7]; exact (Below.refl _ _).alloc (Nat.le_refl _) _
  have HS7 : Hid (T2 V7 w.heap.size (.string n1) (.string d1) ∧ Below w.heap.size w V7) := ⟨(unhide HS6).1.later hbV7, (unhide HS6).2.trans (hbV7.mono (unhide HS6).2.size)⟩
  have HY7 : Hid (T2 V7 w6.heap.size (.string yn) (.string yd)) := by rw [hV7]; exact ⟨by simp [go_sem], by simp [go_sem], by simp [go_sem], by simp [go_sem]⟩
  rw [← hV7]
  clear hV7 hbV7 t0 t1 
  generalize w6.heap.size = g11 at *
  have t0 := (unhide HS7).1.c0; have t1 := (unhide HS7).1.c1
  clear HS4 HS5 HS6 H26 H51 HX4
  have y0 := (unhide HY7).c0; have y1 := (unhide HY7).c1
  go_upto_region 13 with (go_at_call 22; go_must (refine (unhide H22B _ (unhide HS7).2).mono ?_; rintro e w8 ⟨rfl, hb8⟩; have HS8 : Hid (T2 w8 w.heap.size (.string n1) (.string d1) ∧ Below w.heap.size w w8) := ⟨(unhide HS7).1.later hb8, (unhide HS7).2.trans (hb8.mono (unhide HS7).2.size)⟩; have HY8 := hide ((unhide HY7).later hb8); clear hb8 t0 t1; have t0 := (unhide HS8).1.c0; have t1 := (unhide HS8).1.c1))
  clear y0 y1 HY7
  obtain ⟨V9, hV9⟩ : ∃ V9, V9 = w8.alloc (.cells #[.string yn, .string yd] 23) := ⟨_, rfl⟩
  have hbV9 : Below w8.heap.size w8 V9 := by rw [hV9]; exact (Below.refl _ _).alloc (Nat.le_refl _) _
  have HS9 : Hid (T2 V9 w.heap.size (.string n1) (.string d1) ∧ Below w.heap.size w V9) := ⟨(unhide HS8).1.later hbV9, (unhide HS8).2.trans (hbV9.mono (unhide HS8).2.size)⟩
  have HZ9 : Hid (T2 V9 w8.heap.size (.string yn) (.string yd)) := by rw [hV9]; exact ⟨by simp [go_sem], by simp [go_sem], by simp [go_sem], by simp [go_sem]⟩
  have HY9 := hide ((unhide HY8).later hbV9)
  rw [← hV9]
  clear hV9 hbV9 t0 t1 HY8
  generalize w8.heap.size = g12 at *
  have t0 := (unhide HS9).1.c0; have t1 := (unhide HS9).1.c1
  have HK : Hid (BK w V9 n1 d1 yn yd yn yd g11 g12) := ⟨(unhide HS9).1, unhide HY9, unhide HZ9, (unhide HS9).2⟩
  clear HS7 HS8 HS9 HY9 HZ9 H22 H22B
  have y0 := (unhide HK).y.c0; have y1 := (unhide HK).y.c1; have l0 := (unhide HK).lts.1; have l1 := (unhide HK).lts.2.1
  have HC0 : Hid (Below V9.heap.size V9 V9.drew) := (Below.refl _ _).drew
  go_region_held3 (fun w' => (w'.cell? ⟨w.heap.size, 0, none⟩ = some (.string n1) ∧ w'.cell? ⟨w.heap.size, 1, none⟩ = some (.string d1)) ∧ (w'.cell? ⟨g11, 0, none⟩ = some (.string yn) ∧ w'.cell? ⟨g11, 1, none⟩ = some (.string yd))) (first | assumption | (simp [go_sem, *]; done)) ((first
    | (go_at_call_of 62 (Value.agg #[Value.string n1, Value.string d1]); go_must (refine (unhide H62A _).mono ?_; rintro e wa ⟨rfl, hba⟩; have HCa : Hid (Below V9.heap.size V9 wa) := (by first | exact (unhide HC0).trans (hba.mono (unhide HC0).size) | exact bel_al (unhide HC0) hba | exact bel_alD hba); (first | (have HZa := hide ((unhide HZ0).later hba); clear u0 u1 u2 uf0 uf1 uf2; have u0 := (unhide HZa).c0; have u1 := (unhide HZa).c1; have u2 := (unhide HZa).c2; have uf0 := (unhide HZa).f0; have uf1 := (unhide HZa).f1; have uf2 := (unhide HZa).f2) | (have HZa : Hid (FBox wa V9.heap.size (.bool false) (.string ⟨#[]⟩) (.string ⟨#[]⟩)) := (by first | exact FBox.past61 hba | exact FBox.past61D hba); have u0 := (unhide HZa).c0; have u1 := (unhide HZa).c1; have u2 := (unhide HZa).c2; have uf0 := (unhide HZa).f0; have uf1 := (unhide HZa).f1; have uf2 := (unhide HZa).f2) | skip); clear t0 t1 y0 y1; have t0 := ((unhide HK).later (unhide HCa)).a.c0; have t1 := ((unhide HK).later (unhide HCa)).a.c1; have y0 := ((unhide HK).later (unhide HCa)).y.c0; have y1 := ((unhide HK).later (unhide HCa)).y.c1; have l0a := ((unhide HK).later (unhide HCa)).lts.1; have l1a := ((unhide HK).later (unhide HCa)).lts.2.1))
    | (go_at_call_of 62 (Value.agg #[Value.string yn, Value.string yd]); go_must (refine (unhide H62B _).mono ?_; rintro e wb ⟨rfl, hbb⟩; have HCb : Hid (Below V9.heap.size V9 wb) := (by first | exact (unhide HCa).trans (hbb.mono (unhide HCa).size) | exact bel_al (unhide HCa) hbb | exact bel_alD hbb); (first | (have HZb := hide ((unhide HZa).later hbb); clear u0 u1 u2 uf0 uf1 uf2; have u0 := (unhide HZb).c0; have u1 := (unhide HZb).c1; have u2 := (unhide HZb).c2; have uf0 := (unhide HZb).f0; have uf1 := (unhide HZb).f1; have uf2 := (unhide HZb).f2) | (have HZb : Hid (FBox wb wa.heap.size (.bool false) (.string ⟨#[]⟩) (.string ⟨#[]⟩)) := (by first | exact FBox.past61 hbb | exact FBox.past61D hbb); have u0 := (unhide HZb).c0; have u1 := (unhide HZb).c1; have u2 := (unhide HZb).c2; have uf0 := (unhide HZb).f0; have uf1 := (unhide HZb).f1; have uf2 := (unhide HZb).f2) | skip); clear t0 t1 y0 y1; have t0 := ((unhide HK).later (unhide HCb)).a.c0; have t1 := ((unhide HK).later (unhide HCb)).a.c1; have y0 := ((unhide HK).later (unhide HCb)).y.c0; have y1 := ((unhide HK).later (unhide HCb)).y.c1; have l0b := ((unhide HK).later (unhide HCb)).lts.1; have l1b := ((unhide HK).later (unhide HCb)).lts.2.1))
    | (go_at_call 63; go_must (refine (unhide H63 _).mono ?_; rintro e wc ⟨rfl, hbc⟩; have HCc : Hid (Below V9.heap.size V9 wc) := (by first | exact (unhide HCb).trans (hbc.mono (unhide HCb).size) | exact bel_al (unhide HCb) hbc | exact bel_alD hbc); (first | (have HZc := hide ((unhide HZb).later hbc); clear u0 u1 u2 uf0 uf1 uf2; have u0 := (unhide HZc).c0; have u1 := (unhide HZc).c1; have u2 := (unhide HZc).c2; have uf0 := (unhide HZc).f0; have uf1 := (unhide HZc).f1; have uf2 := (unhide HZc).f2) | (have HZc : Hid (FBox wc wb.heap.size (.bool false) (.string ⟨#[]⟩) (.string ⟨#[]⟩)) := (by first | exact FBox.past61 hbc | exact FBox.past61D hbc); have u0 := (unhide HZc).c0; have u1 := (unhide HZc).c1; have u2 := (unhide HZc).c2; have uf0 := (unhide HZc).f0; have uf1 := (unhide HZc).f1; have uf2 := (unhide HZc).f2) | skip); clear t0 t1 y0 y1; have t0 := ((unhide HK).later (unhide HCc)).a.c0; have t1 := ((unhide HK).later (unhide HCc)).a.c1; have y0 := ((unhide HK).later (unhide HCc)).y.c0; have y1 := ((unhide HK).later (unhide HCc)).y.c1; have l0c := ((unhide HK).later (unhide HCc)).lts.1; have l1c := ((unhide HK).later (unhide HCc)).lts.2.1))
    | (go_at_call 61; go_must (refine (unhide H61 _).mono ?_; rintro e wd ⟨rfl, hbd⟩; have HCd : Hid (Below V9.heap.size V9 wd) := (by first | exact (unhide HCc).trans (hbd.mono (unhide HCc).size) | exact bel_al (unhide HCc) hbd | exact bel_alD hbd); (first | (have HZd := hide ((unhide HZc).later hbd); clear u0 u1 u2 uf0 uf1 uf2; have u0 := (unhide HZd).c0; have u1 := (unhide HZd).c1; have u2 := (unhide HZd).c2; have uf0 := (unhide HZd).f0; have uf1 := (unhide HZd).f1; have uf2 := (unhide HZd).f2) | (have HZd : Hid (FBox wd wc.heap.size (.bool false) (.string ⟨#[]⟩) (.string ⟨#[]⟩)) := (by first | exact FBox.past61 hbd | exact FBox.past61D hbd); have u0 := (unhide HZd).c0; have u1 := (unhide HZd).c1; have u2 := (unhide HZd).c2; have uf0 := (unhide HZd).f0; have uf1 := (unhide HZd).f1; have uf2 := (unhide HZd).f2) | skip); clear t0 t1 y0 y1; have t0 := ((unhide HK).later (unhide HCd)).a.c0; have t1 := ((unhide HK).later (unhide HCd)).a.c1; have y0 := ((unhide HK).later (unhide HCd)).y.c0; have y1 := ((unhide HK).later (unhide HCd)).y.c1; have l0d := ((unhide HK).later (unhide HCd)).lts.1; have l1d := ((unhide HK).later (unhide HCd)).lts.2.1))))
  all_goals
    first
    | (obtain ⟨X, hX⟩ : ∃ X, X = wd.heap.size := ⟨_, rfl⟩
       obtain ⟨U, hU⟩ : ∃ U, U = wd.alloc (.cells #[.bool ob, .string on, .string od] 61) := ⟨_, rfl⟩
       have HF : Hid (BK w U n1 d1 yn yd yn yd g11 g12 ∧ FBox U X (.bool ob) (.string on) (.string od)) := by rw [hU, hX]; exact ((unhide HK).later (unhide HCd)).new _ _ _
       have hx := ((unhide HK).later (unhide HCd)).lts
       rw [← hX] at hx
       rw [← hU, ← hX]
       clear hU hX)
    | (obtain ⟨X, hX⟩ : ∃ X, X = wc.heap.size := ⟨_, rfl⟩
       obtain ⟨U, hU⟩ : ∃ U, U = ((wd.setCell { block := wc.heap.size, off := 0 } (.bool ob)).setCell { block := wc.heap.size, off := 1 } (.string on)).setCell { block := wc.heap.size, off := 2 } (.string od) := ⟨_, rfl⟩
       have hx := ((unhide HK).later (unhide HCc)).lts
       have HF : Hid (BK w U n1 d1 yn yd yn yd g11 g12 ∧ FBox U X (.bool ob) (.string on) (.string od)) := by rw [hU, hX]; exact ((unhide HK).later (unhide HCd)).store (unhide HZd) _ _ _ hx.1 hx.2.1 hx.2.2
       rw [← hX] at hx
       rw [← hU, ← hX]
       clear hU hX)
    | (obtain ⟨X, hX⟩ : ∃ X, X = wb.heap.size := ⟨_, rfl⟩
       obtain ⟨U, hU⟩ : ∃ U, U = ((wd.setCell { block := wb.heap.size, off := 0 } (.bool ob)).setCell { block := wb.heap.size, off := 1 } (.string on)).setCell { block := wb.heap.size, off := 2 } (.string od) := ⟨_, rfl⟩
       have hx := ((unhide HK).later (unhide HCb)).lts
       have HF : Hid (BK w U n1 d1 yn yd yn yd g11 g12 ∧ FBox U X (.bool ob) (.string on) (.string od)) := by rw [hU, hX]; exact ((unhide HK).later (unhide HCd)).store (unhide HZd) _ _ _ hx.1 hx.2.1 hx.2.2
       rw [← hX] at hx
       rw [← hU, ← hX]
       clear hU hX)
    | (obtain ⟨X, hX⟩ : ∃ X, X = wa.heap.size := ⟨_, rfl⟩
       obtain ⟨U, hU⟩ : ∃ U, U = ((wd.setCell { block := wa.heap.size, off := 0 } (.bool ob)).setCell { block := wa.heap.size, off := 1 } (.string on)).setCell { block := wa.heap.size, off := 2 } (.string od) := ⟨_, rfl⟩
       have hx := ((unhide HK).later (unhide HCa)).lts
       have HF : Hid (BK w U n1 d1 yn yd yn yd g11 g12 ∧ FBox U X (.bool ob) (.string on) (.string od)) := by rw [hU, hX]; exact ((unhide HK).later (unhide HCd)).store (unhide HZd) _ _ _ hx.1 hx.2.1 hx.2.2
       rw [← hX] at hx
       rw [← hU, ← hX]
       clear hU hX)
    | (obtain ⟨X, hX⟩ : ∃ X, X = V9.heap.size := ⟨_, rfl⟩
       obtain ⟨U, hU⟩ : ∃ U, U = ((wd.setCell { block := V9.heap.size, off := 0 } (.bool ob)).setCell { block := V9.heap.size, off := 1 } (.string on)).setCell { block := V9.heap.size, off := 2 } (.string od) := ⟨_, rfl⟩
       have hx := (unhide HK).lts
       have HF : Hid (BK w U n1 d1 yn yd yn yd g11 g12 ∧ FBox U X (.bool ob) (.string on) (.string od)) := by rw [hU, hX]; exact ((unhide HK).later (unhide HCd)).store (unhide HZd) _ _ _ hx.1 hx.2.1 hx.2.2
       rw [← hX] at hx
       rw [← hU, ← hX]
       clear hU hX)
  all_goals
    have u0 := (unhide HF).2.c0
    have uf0 := (unhide HF).2.f0
    go_upto_region 15 with fail
    obtain ⟨U2, hU2⟩ : ∃ U2, U2 = U.setCell { block := X, off := 0 } (.bool false) := ⟨_, rfl⟩
    have HF2 : Hid (BK w U2 n1 d1 yn yd yn yd g11 g12 ∧ FBox U2 X (.bool false) (.string on) (.string od)) := by rw [hU2]; exact (unhide HF).1.set (unhide HF).2 _ hx.1 hx.2.1 hx.2.2
    rw [← hU2]
    have q0 : ∀ xz : Later U2, xz.world.cell? ⟨g11, 0, none⟩ = some (.string yn) := fun xz => ((unhide HF2).1.later xz.below).y.c0
    have q1 : ∀ xz : Later U2, xz.world.cell? ⟨g11, 1, none⟩ = some (.string yd) := fun xz => ((unhide HF2).1.later xz.below).y.c1
    have q2 : ∀ xz : Later U2, xz.world.cell? ⟨g12, 0, none⟩ = some (.string yn) := fun xz => ((unhide HF2).1.later xz.below).z.c0
    have q3 : ∀ xz : Later U2, xz.world.cell? ⟨g12, 1, none⟩ = some (.string yd) := fun xz => ((unhide HF2).1.later xz.below).z.c1
    have q4 : ∀ xz : Later U2, xz.world.cell? ⟨X, 0, none⟩ = some (.bool false) := fun xz => ((unhide HF2).2.later xz.below).c0
    have q5 : ∀ xz : Later U2, xz.world.cell? ⟨X, 1, none⟩ = some (.string on) := fun xz => ((unhide HF2).2.later xz.below).c1
    have q6 : ∀ xz : Later U2, xz.world.cell? ⟨X, 2, none⟩ = some (.string od) := fun xz => ((unhide HF2).2.later xz.below).c2
    have hz1 : (⟨#[50]⟩ : ByteArray).size = 1 := rfl
    clear hU2 HF u0 uf0 t0 t1 y0 y1 l0 l1
    refine quiet_later (by kernel_rfl) (by kernel_rfl) ?_
    repeat (go_big_quiet_step (first
      | (go_at_call 66; rename_i xx; refine (unhide H66 xx.world).mono ?_; rintro e w9 ⟨rfl, hb9⟩; have hz := xx.below.trans (hb9.mono xx.below.size); first | exact ⟨rfl, ⟨w9, hz⟩, rfl⟩ | exact ⟨rfl, hz⟩ | exact ⟨rfl, w9, hz, rfl⟩)
      | (go_at_call 65; rename_i xx; refine (unhide H65 xx.world).mono ?_; rintro e w9 ⟨rfl, hb9⟩; have hz := xx.below.trans (hb9.mono xx.below.size); first | exact ⟨rfl, ⟨w9, hz⟩, rfl⟩ | exact ⟨rfl, hz⟩ | exact ⟨rfl, w9, hz, rfl⟩)
      | (go_at_call 67; rename_i xx; refine (unhide H67 xx.world).mono ?_; rintro e w9 ⟨rfl, hb9⟩; have hz := xx.below.trans (hb9.mono xx.below.size); first | exact ⟨rfl, ⟨w9, hz⟩, rfl⟩ | exact ⟨rfl, hz⟩ | exact ⟨rfl, w9, hz, rfl⟩)
      | (go_at_call 64; rename_i xx; refine (unhide H64 xx.world).mono ?_; rintro e w9 ⟨rfl, hb9⟩; have hz := xx.below.trans (hb9.mono xx.below.size); first | exact ⟨rfl, ⟨w9, hz⟩, rfl⟩ | exact ⟨rfl, hz⟩ | exact ⟨rfl, w9, hz, rfl⟩)))
    refine wpQuiet_nil ?_
    intro _ hw'
    obtain ⟨xz, hw''⟩ := hw'
    subst hw''
    have HG := hide ((unhide HF2).1.later xz.below)
    obtain ⟨G, hG⟩ : ∃ G, G = xz.world := ⟨_, rfl⟩
    rw [← hG] at HG ⊢
    clear q0 q1 q2 q3 q4 q5 q6 hG HF2
    have hcc : ¬ (0 : Int) < c := by omega
    have a0 := (unhide HG).a.c0
    have a1 := (unhide HG).a.c1
    go_upto_region 18 with (go_at_call 49; go_must (refine (unhide H49 _ (unhide HG).b).mono ?_; rintro e w10 ⟨rfl, hb10⟩; have HG10 := hide ((unhide HG).later hb10); clear hb10 a0 a1))
    obtain ⟨V11, hV11⟩ : ∃ V11, V11 = w10.alloc (.cells #[.string fn, .string ⟨#[49]⟩] 23) := ⟨_, rfl⟩
    have hb11 : Below w10.heap.size w10 V11 := by rw [hV11]; exact (Below.refl _ _).alloc (Nat.le_refl _) _
    have HG11 := hide ((unhide HG10).later hb11)
    have HW11 : Hid (T2 V11 w10.heap.size (.string fn) (.string ⟨#[49]⟩)) := by rw [hV11]; exact ⟨by simp [go_sem], by simp [go_sem], by simp [go_sem], by simp [go_sem]⟩
    rw [← hV11]
    clear hV11 hb11 HG HG10
    generalize w10.heap.size = g16 at *
    have a0 := (unhide HG11).a.c0
    have a1 := (unhide HG11).a.c1
    have v0 := (unhide HW11).c0
    have v1 := (unhide HW11).c1
    go_upto_region 19 with (go_at_call 46; go_must (refine (unhide H46 _).mono ?_; rintro e w12 ⟨rfl, hb12⟩; have HG12 := hide ((unhide HG11).later hb12); have HW12 := hide ((unhide HW11).later hb12); clear hb12 a0 a1 v0 v1))
    have v1 := (unhide HW12).c1
    go_wp2_with (go_at_call 21; go_must (refine (unhide HAW _ (unhide HG12).b).mono ?_; rintro e w13 ⟨rfl, hb13⟩; have HE := hide ((unhide HG12).b.trans (hb13.mono (unhide HG12).b.size)); clear hb13))
    go_ret
    exact ⟨by simp, unhide HE⟩

end Go.Proofs.YtifalmdoligblaaGreatDoor

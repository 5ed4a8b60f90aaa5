/- dim.Quo, Pow, Root; the law's small. -/
import Derived.Test.YthcbhnggphdflaaGreatDoorLimb2
import Derived.Test.YthcbhnggphdflaaGreatDoorQQuo
import Derived.Test.YthcbhnggphdflaaGreatDoorLowest
import Derived.Test.YthcbhnggphdflaaGreatDoorShelf
import Derived.Test.YthcbhnggphdflaaGreatDoorProg
import Derived.WalkKit
import Derived.WalkSpells
import Derived.WalkLawsBesides
import Derived.Handy
import Derived.Deep.RegionWith
namespace Go.Proofs.YthcbhnggphdflaaGreatDoor
open Go.RowKit
/-- A number in its box, and the box of another one. -/
structure N1 (w W : World) (x y : Value) : Prop where
 a : T2 W w.heap.size x y
 r : T2 W (w.heap.size + 1) (.string ⟨#[]⟩) (.string ⟨#[]⟩)
 below : Below w.heap.size w W
theorem N1.later {w W V : World} {x y : Value} (s : N1 w W x y) (hb : Below W.heap.size W V) : N1 w V x y := ⟨s.a.later hb, s.r.later hb, s.below.trans (hb.mono s.below.size)⟩
theorem N1.first (w : World) (x y : Value) : N1 w ((w.alloc (.cells #[x, y] 28)).alloc (.cells #[.string ⟨#[]⟩, .string ⟨#[]⟩] 28)) x y :=
 ⟨⟨by simp [go_sem], by simp [go_sem], by simp [go_sem], by simp [go_sem]⟩, ⟨by simp [go_sem], by simp [go_sem], by simp [go_sem], by simp [go_sem]⟩, ((Below.refl _ _).alloc (Nat.le_refl _) _).alloc (by simp) _⟩
theorem cmp_zero (y : Rat) (h : y ≠ 0) : (Cub.cmpQ y 0 == 0) = false := by
 rw [beq_eq_false_iff_ne]
 unfold Cub.cmpQ
 split
 ·decide
 ·split
  ·decide
  ·exfalso; apply h; grind
set_option maxRecDepth 100000 in
set_option maxHeartbeats 2000000 in
theorem rquo_ok (n1 d1 n2 d2 : ByteArray) (x y : Rat) (w : World) (h1 : IsR n1 d1 x) (h2 : IsR n2 d2 y) (hy : y ≠ 0) (htab : Tab w) : Ans 38 #[.agg #[.string n1, .string d1], .agg #[.string n2, .string d2]] w (numT (x * y⁻¹)) (denT (x * y⁻¹)) (errT (x * y⁻¹)) := by
 unfold Ans
 obtain ⟨V, hV⟩ : ∃ V, V = ((w.alloc (.cells #[.string n1, .string d1] 28)).alloc (.cells #[.string n2, .string d2] 28)).alloc (.cells #[.string ⟨#[]⟩, .string ⟨#[]⟩] 28) := ⟨_, rfl⟩
 have HS : Hid (O3 w V (.string n1) (.string d1) (.string n2) (.string d2)) := by rw [hV]; exact O3.first _ _ _ _ _
 have HV := hide hV
 have HR := hide (readTwo_ok n1 d1 n2 d2 x y V h1 h2)
 have HT := hide (htab.later (un HS).below)
 have HY0 := hide hy
 have HSG : Hid (∀ W v, QOf W v y 67 → ∃ sg : Int, (sg == 0) = false ∧ Calls Tryz.prog 65 #[v] W fun r w' => r = .returned (I sg) ∧ Below W.heap.size W w') := fun W v hv => ⟨_, cmp_zero y hy, qsign v y 67 W hv⟩
 clear h1 h2 htab hy
 go_enter Tryz.func38, Tryz.ntmps38
 go_upto_region 1 with fail
 rw [← un HV]
 clear hV HV
 have t0 := (un HS).a.c0; have t1 := (un HS).a.c1; have t2 := (un HS).b.c0; have t3 := (un HS).b.c1
 go_upto_region 2 with (go_at_call 64; go_must (refine (un HR).mono ?_; rintro e w1 ⟨v1, v2, rfl, hv1, hv2, hb1⟩; obtain ⟨b1, i1, i2, i3, i4, i5, i6, rfl⟩ := hv1.form; obtain ⟨b2, j1, j2, j3, j4, j5, j6, rfl⟩ := hv2.form; have HS1 := hide ((un HS).later hb1); have HV1 := hide hv1; have HV2 := hide hv2; have HT1 := hide ((un HT).later hb1); clear hv1 hv2 hb1 t0 t1 t2 t3))
 obtain ⟨V2, hV2⟩ : ∃ V2, V2 = (w1.alloc (.cells #[.bool b1, .slice i1 i2 i3, .slice i4 i5 i6] 118)).alloc (.cells #[.bool b2, .slice j1 j2 j3, .slice j4 j5 j6] 118) := ⟨_, rfl⟩
 have hb : Below w1.heap.size w1 V2 := by rw [hV2]; exact ((Below.refl _ _).alloc (Nat.le_refl _) _).alloc (by simp) _
 have HS2 := hide ((un HS1).later hb); have HX := hide ((un HV1).later hb); have HY := hide ((un HV2).later hb); have HT2 := hide ((un HT1).later hb)
 have HP : Hid (FBox V2 w1.heap.size (.bool b1) (.slice i1 i2 i3) (.slice i4 i5 i6)) := by rw [hV2]; exact (FBox.new _ _ _ _).later ((Below.refl _ _).alloc (Nat.le_refl _) _)
 have HQ : Hid (FBox V2 (w1.heap.size + 1) (.bool b2) (.slice j1 j2 j3) (.slice j4 j5 j6)) := by
  rw [hV2]
  have := FBox.new (w1.alloc (.cells #[.bool b1, .slice i1 i2 i3, .slice i4 i5 i6] 118)) (.bool b2) (.slice j1 j2 j3) (.slice j4 j5 j6)
  rwa [show (w1.alloc (.cells #[.bool b1, .slice i1 i2 i3, .slice i4 i5 i6] 118)).heap.size = w1.heap.size + 1 by simp] at this
 rw [← hV2]
 clear hV2 hb HS HS1 HV1 HV2 HT HT1 HR
 generalize w1.heap.size = g8 at *
 have t0 := (un HP).c0; have t1 := (un HP).c1; have t2 := (un HP).c2; have t3 := (un HQ).c0; have t4 := (un HQ).c1; have t5 := (un HQ).c2
 obtain ⟨sg, hsg, hq⟩ := un HSG V2 _ (un HY)
 have HSS := hide hq
 clear hq
 go_wp2_with (first
  | (go_at_call 65; go_must (refine (un HSS).mono ?_; rintro e w3 ⟨rfl, hb3⟩; have HX3 := hide ((un HX).later hb3); have HY3 := hide ((un HY).later hb3); have HS3 := hide ((un HS2).later hb3); have HT3 := hide ((un HT2).later hb3); have HP3 := hide ((un HP).later hb3); have HQ3 := hide ((un HQ).later hb3); clear hb3 t0 t1 t2 t3 t4 t5; have t0 := (un HP3).c0; have t1 := (un HP3).c1; have t2 := (un HP3).c2; have t3 := (un HQ3).c0; have t4 := (un HQ3).c1; have t5 := (un HQ3).c2))
  | (go_at_call 66; go_must (refine (qquo _ _ x y 67 _ (un HX3) (un HY3) (by decide) (un HY0)).mono ?_; rintro e w5 ⟨v5, rfl, hv5, hb5⟩; have HV5 := hide hv5; have HS5 := hide ((un HS3).later hb5); have HT5 := hide ((un HT3).later hb5); clear hv5 hb5 t0 t1 t2 t3 t4 t5))
  | (go_at_call 67; go_must (refine (qtell _ _ (67 + 67) _ (un HV5) (by decide) (un HT5)).mono ?_; rintro e w4 ⟨rfl, hb4⟩; have HS4 := hide ((un HS5).later hb4); clear hb4; have r0 := (un HS4).r.c0; have r1 := (un HS4).r.c1; have rf0 := (un HS4).r.f0; have rf1 := (un HS4).r.f1)))
 have hS := (un HS4).r.store (.string (numT (x * y⁻¹))) (.string (denT (x * y⁻¹)))
 have hb : Below w.heap.size w (store2 w4 (w.heap.size + 1 + 1) (.string (numT (x * y⁻¹))) (.string (denT (x * y⁻¹)))) := below_store2 (un HS4).below (by omega) _ _
 have u0 := hS.c0; have u1 := hS.c1
 exact bodyPost_ret (v := .tuple #[.agg #[.string (numT (x * y⁻¹)), .string (denT (x * y⁻¹))], I (errT (x * y⁻¹))]) (w := store2 w4 (w.heap.size + 1 + 1) (.string (numT (x * y⁻¹))) (.string (denT (x * y⁻¹)))) (by simp [results, Tryz.results38, go_sem, u0, u1]) rfl ⟨rfl, hb⟩
end Go.Proofs.YthcbhnggphdflaaGreatDoor

namespace Go.Proofs.YthcbhnggphdflaaGreatDoor
open Go.RowKit Go.Sort
theorem below_grow (w : World) (k : Nat) (os : Array Obj) : Below w.heap.size w (grow (w.drewN k) os) := by
 refine ⟨rfl, rfl, rfl, ?_, fun i hi => ?_⟩
 ·simp [grow, World.drewN]
 ·simp only [grow]
  rw [Array.getElem?_append_left (by simpa [World.drewN] using hi)]; rfl
set_option maxHeartbeats 6400000 in
set_option maxRecDepth 100000 in
theorem intFormatUint_any (u : Nat) (hu64 : u < 18446744073709551616) (w : World) (htab : Tab w) :
  Calls Tryz.prog 168 #[.int .u64 u, I 10] w fun e w' => e = .returned (.string ⟨(Lib.decDigits u).toArray⟩) ∧ Below w.heap.size w w' := by
 by_cases hs : u < 100
 ·clear htab
  go_enter Tryz.func168, Tryz.ntmps168
  go_wp2_with (go_at_call 183; refine (Tryz.internal_strconv_small u hs _).mono ?_; rintro e w' ⟨rfl, rfl⟩)
  go_ret
  exact ⟨rfl, Below.refl _ _⟩
 ·have hu1 : 1 ≤ u := by omega
  have hnd20 : Lib.nDigits u ≤ 20 := by have := Lib.numDigits_eq u hu1 hu64; split at this <;> omega
  have hal : Tryz.prog.arrayLen 203 = 24 := by kernel_rfl
  have hsl : ∀ W, (Instr.sliceAt 203 (.pointer (some ⟨w.heap.size, 0, none⟩)) none (some (I (Lib.nDigits u : Int))) none).run Tryz.prog W = .ok (.slice (some ⟨w.heap.size, 0, none⟩) (Lib.nDigits u) 24) W := fun W => by
   rw [run_sliceAt_array_h W 203 ⟨w.heap.size, 0, none⟩ (by kernel_rfl) .i64 (Lib.nDigits u : Int) (by omega) (by rw [hal]; omega)]
   go_simp
  have hH0 := Lib.holds_zero0 w 203 (Lib.nDigits u) (by omega)
  have hfmt := Tryz.internal_strconv_formatBase10 w.heap.size 0 24 u (Array.replicate (Lib.nDigits u) 0) (w.alloc (.cells Lib.zeros24 203)) hH0 (by rw [Array.size_replicate]; exact Lib.lt_pow_nDigits u) hu64 (by rw [Array.size_replicate]; omega)
  rw [Array.size_replicate] at hfmt
  have HH0 := Lib.hid hH0
  have HT := hide htab
  have iu : (100 : Int) ≤ (u : Int) := by omega
  clear hH0 hal htab
  go_enter Tryz.func168, Tryz.ntmps168
  go_wp2_with (first
   | (go_at_call 184; refine (Tryz.internal_strconv_numDigits u hu1 hu64 _ (Lib.tabIs_alloc (un HT) _)).mono ?_; rintro e w' ⟨rfl, rfl⟩))
  go_at_call 185
  refine hfmt.mono ?_
  rintro e w' ⟨rfl, k, v', dk, rfl, hF⟩
  have hcv : (convert 179 9 (.slice (some ⟨w.heap.size, 0, none⟩) (Lib.nDigits u) 24)).run Tryz.prog ((putRow (fun (b : UInt8) => Value.int .u8 (b.toNat : Int)) (w.alloc (.cells Lib.zeros24 203)) w.heap.size 0 dk).drewN k) = .ok (.string ⟨(Lib.decDigits u).toArray⟩) ((putRow (fun (b : UInt8) => Value.int .u8 (b.toNat : Int)) (w.alloc (.cells Lib.zeros24 203)) w.heap.size 0 dk).drewN k) := by
   have h := run_convert_bytes_back (P := Tryz.prog) ((putRow (fun (b : UInt8) => Value.int .u8 (b.toNat : Int)) (w.alloc (.cells Lib.zeros24 203)) w.heap.size 0 dk).drewN k) 179 9 5 ⟨w.heap.size, 0, none⟩ 24 (Lib.decDigits u) Tryz.underlying179 Tryz.underlying5 Tryz.underlying9 (fun j hj => by
    rw [Lib.row_is_numeral hF j hj, Lib.add_plain, World.cell?_drewN]
    exact cell?_putRow (fun (b : UInt8) => Value.int .u8 (b.toNat : Int)) _ w.heap.size 0 _ dk HH0.out (by rw [hF.size, Array.size_replicate]) j (by rw [hF.size]; rw [Lib.decDigits_length] at hj; exact hj))
   rw [Lib.decDigits_length] at h
   exact h
  go_wp2
  go_ret
  refine ⟨rfl, ?_⟩
  obtain ⟨os', _, e⟩ := putRow_grow_new (fun (b : UInt8) => Value.int .u8 (b.toNat : Int)) w #[.cells Lib.zeros24 203] w.heap.size 0 dk (Nat.le_refl _)
  have e2 : (putRow (fun (b : UInt8) => Value.int .u8 (b.toNat : Int)) (w.alloc (.cells Lib.zeros24 203)) w.heap.size 0 dk).drewN k = grow (w.drewN k) os' := by
   rw [alloc_eq_grow, e]; rfl
  rw [e2]
  exact below_grow w k os'
theorem formatUint_any (u : Nat) (hu64 : u < 18446744073709551616) (w : World) (htab : Tab w) :
  Calls Tryz.prog 121 #[.int .u64 u, I 10] w fun e w' => e = .returned (.string ⟨(Lib.decDigits u).toArray⟩) ∧ Below w.heap.size w w' := by
 have HT := hide htab
 clear htab
 go_enter Tryz.func121, Tryz.ntmps121
 go_wp2_with (go_at_call 168; refine (intFormatUint_any u hu64 _ (un HT)).mono ?_; rintro e w' ⟨rfl, hb⟩)
 go_ret
 exact ⟨rfl, hb⟩
theorem natOf_any (u : Nat) (hu64 : u < 18446744073709551616) (w : World) (htab : Tab w) :
  Calls Tryz.prog 87 #[.int .u64 u] w fun e w' => e = .returned (.string ⟨(Lib.decDigits u).toArray⟩) ∧ Below w.heap.size w w' := by
 have HT := hide htab
 clear htab
 go_enter Tryz.func87, Tryz.ntmps87
 go_wp2_with (go_at_call 121; refine (formatUint_any u hu64 _ (un HT)).mono ?_; rintro e w' ⟨rfl, hb⟩)
 go_ret
 exact ⟨rfl, hb⟩
end Go.Proofs.YthcbhnggphdflaaGreatDoor

namespace Go.Proofs.YthcbhnggphdflaaGreatDoor
open Go.RowKit
theorem pow_grow (e : Nat) (he : 20 ≤ e) : 18446744073709551616 ≤ 10 ^ e := Nat.le_trans (by decide : 18446744073709551616 ≤ 10 ^ 20) (Nat.pow_le_pow_right (by decide) he)
theorem u64_600 (N : Nat) (h : N < 18446744073709551616) : N < 10 ^ 600 := Nat.lt_of_lt_of_le h (pow_grow 600 (by decide))
set_option maxRecDepth 100000 in
set_option maxHeartbeats 2000000 in
theorem ratOf_pos (N : Nat) (w : World) (h2 : N < 9223372036854775808) (htab : Tab w) :
  Calls Tryz.prog 52 #[I (N : Int)] w fun r w' => r = .returned (.agg #[.string (sT false N), .string ⟨#[49]⟩]) ∧ Below w.heap.size w w' := by
 obtain ⟨V, hV⟩ : ∃ V, V = w.alloc (.cells #[.string ⟨#[]⟩, .string ⟨#[]⟩] 28) := ⟨_, rfl⟩
 have hbV : Below w.heap.size w V := by rw [hV]; exact (Below.refl _ _).alloc (Nat.le_refl _) _
 have HR : Hid (T2 V w.heap.size (.string ⟨#[]⟩) (.string ⟨#[]⟩) ∧ Below w.heap.size w V) := ⟨by rw [hV]; exact ⟨by simp [go_sem], by simp [go_sem], by simp [go_sem], by simp [go_sem]⟩, hbV⟩
 have HV := hide hV
 have hN : N < 10 ^ 600 := u64_600 N (by omega)
 have HOF : Hid (Calls Tryz.prog 87 #[.int .u64 (N : Int)] V fun e w' => e = .returned (.string (tb N)) ∧ Below V.heap.size V w') := by
  have := natOf_any N (by omega) V (htab.later hbV)
  rwa [show (⟨(Lib.decDigits N).toArray⟩ : ByteArray) = tb N from bytes_ext (by rw [tb_list N hN])] at this
 have HSG : Hid (∀ W, Calls Tryz.prog 86 #[.bool false, .string (tb N)] W fun e w' => e = .returned (.string (sT false N)) ∧ w' = W) := fun W => signed_any false (tb N) W (by have := (tb_digs N hN).2; omega)
 have k0 : ¬ (N : Int) < 0 := by omega
 skip
 skip
 clear hN htab hbV
 generalize sT false N = sn at *
 generalize tb N = tn at *
 go_enter Tryz.func52, Tryz.ntmps52
 go_upto_region 4 with fail
 skip
 rw [← un HV]
 clear hV HV
 go_wp2_with (first
  | (go_at_call 87; go_must (refine (un HOF).mono ?_; rintro e W9 ⟨rfl, hb1⟩; have HR1 : Hid (T2 W9 w.heap.size (.string ⟨#[]⟩) (.string ⟨#[]⟩) ∧ Below w.heap.size w W9) := ⟨(un HR).1.later hb1, (un HR).2.trans (hb1.mono (un HR).2.size)⟩; clear hb1))
  | (go_at_call 86; go_must (refine (un HSG _).mono ?_; rintro e wB ⟨rfl, hwB⟩; obtain rfl : W9 = wB := hwB.symm; have r0 := (un HR1).1.c0; have r1 := (un HR1).1.c1; have rf0 := (un HR1).1.f0; have rf1 := (un HR1).1.f1)))
 have hS := (un HR1).1.store (.string sn) (.string ⟨#[49]⟩)
 have hb : Below w.heap.size w (store2 W9 w.heap.size (.string sn) (.string ⟨#[49]⟩)) := below_store2 (un HR1).2 (Nat.le_refl _) _ _
 have u0 := hS.c0; have u1 := hS.c1
 exact bodyPost_ret (v := .agg #[.string sn, .string ⟨#[49]⟩]) (w := store2 W9 w.heap.size (.string sn) (.string ⟨#[49]⟩)) (by simp [results, Tryz.results52, go_sem, u0, u1]) rfl ⟨rfl, hb⟩
end Go.Proofs.YthcbhnggphdflaaGreatDoor

namespace Go.Proofs.YthcbhnggphdflaaGreatDoor.Dm
open Go.RowKit
theorem hide {p : Prop} (h : p) : Hid p := h
theorem un {p : Prop} (h : Hid p) : p := h
/-- One exponent is within its bounds. -/
def okB (x : Int) : Bool := !(decide (x < -99) || decide (99 < x))
/-- All are. -/
def rightB (l : List Int) : Bool := l.all okB
theorem okB_lo {x : Int} (h : x < -99) : okB x = false := by simp [okB, h]
theorem okB_hi {x : Int} (h : x < -99 ∨ 99 < x) : okB x = false := by rcases h with h | h <;> simp [okB, h]
theorem okB_yes {x : Int} (h1 : -99 ≤ x) (h2 : x ≤ 99) : okB x = true := by simp [okB]; omega
theorem okB_out {x : Int} (h : okB x = true) : -99 ≤ x ∧ x ≤ 99 := by simp [okB] at h; omega
theorem rightB_false {l : List Int} (k : Nat) (x : Int) (hk : l[k]? = some x) (h : okB x = false) : rightB l = false := by
 unfold rightB
 rw [List.all_eq_false]
 exact ⟨x, List.mem_of_getElem? hk, by simp [h]⟩
theorem rightB_true {l : List Int} (h : ∀ (j : Nat) (x : Int), l[j]? = some x → okB x = true) : rightB l = true := by
 unfold rightB
 rw [List.all_eq_true]
 intro x hx
 obtain ⟨j, hj⟩ := List.getElem?_of_mem hx
 exact h j x hj
theorem rightB_get {l : List Int} (h : rightB l = true) (j : Nat) (x : Int) (hj : l[j]? = some x) : -99 ≤ x ∧ x ≤ 99 := by
 unfold rightB at h
 rw [List.all_eq_true] at h
 exact okB_out (h x (List.mem_of_getElem? hj))
/-- What holds of the first k. -/
def OkTo (l : List Int) (k : Nat) : Prop := ∀ j, j < k → ∀ x, l[j]? = some x → okB x = true
theorem OkTo.zero (l : List Int) : OkTo l 0 := fun j h => absurd h (Nat.not_lt_zero j)
theorem OkTo.step {l : List Int} {k : Nat} (h : OkTo l k) {x : Int} (hk : l[k]? = some x) (hx : okB x = true) : OkTo l (k + 1) := by
 intro j hj y hy
 by_cases e : j = k
 ·subst e; rw [hk] at hy; cases hy; exact hx
 ·exact h j (by omega) y hy
theorem OkTo.all {l : List Int} {k : Nat} (h : OkTo l k) (hl : l.length ≤ k) : rightB l = true :=
 rightB_true fun j x hj => h j (by have := (List.getElem?_eq_some_iff.1 hj).1; omega) x hj
theorem ret_bool {a b : Bool} (h : a = b) : Ending.returned (.bool a) = .returned (.bool b) := by rw [h]
/-- What is told: x, or 0. -/
def sel (b : Bool) (x : Int) : Int := if b = true then x else 0
def errOf (b : Bool) (n : Int) : Int := if b = true then 0 else n
theorem sel_true (x : Int) : sel true x = x := rfl
theorem sel_false (x : Int) : sel false x = 0 := rfl
theorem errOf_true (x : Int) : errOf true x = 0 := rfl
theorem errOf_false (x : Int) : errOf false x = x := rfl
section
variable (x0 x1 x2 x3 x4 x5 x6 x7 : Int)
theorem idx0 (w : World) : (Instr.index 26 (.agg #[I x0, I x1, I x2, I x3, I x4, I x5, I x6, I x7]) (I 0)).run Tryz.prog w = .ok (I x0) w := by kernel_rfl
theorem idx1 (w : World) : (Instr.index 26 (.agg #[I x0, I x1, I x2, I x3, I x4, I x5, I x6, I x7]) (I 1)).run Tryz.prog w = .ok (I x1) w := by kernel_rfl
theorem idx2 (w : World) : (Instr.index 26 (.agg #[I x0, I x1, I x2, I x3, I x4, I x5, I x6, I x7]) (I 2)).run Tryz.prog w = .ok (I x2) w := by kernel_rfl
theorem idx3 (w : World) : (Instr.index 26 (.agg #[I x0, I x1, I x2, I x3, I x4, I x5, I x6, I x7]) (I 3)).run Tryz.prog w = .ok (I x3) w := by kernel_rfl
theorem idx4 (w : World) : (Instr.index 26 (.agg #[I x0, I x1, I x2, I x3, I x4, I x5, I x6, I x7]) (I 4)).run Tryz.prog w = .ok (I x4) w := by kernel_rfl
theorem idx5 (w : World) : (Instr.index 26 (.agg #[I x0, I x1, I x2, I x3, I x4, I x5, I x6, I x7]) (I 5)).run Tryz.prog w = .ok (I x5) w := by kernel_rfl
theorem idx6 (w : World) : (Instr.index 26 (.agg #[I x0, I x1, I x2, I x3, I x4, I x5, I x6, I x7]) (I 6)).run Tryz.prog w = .ok (I x6) w := by kernel_rfl
theorem idx7 (w : World) : (Instr.index 26 (.agg #[I x0, I x1, I x2, I x3, I x4, I x5, I x6, I x7]) (I 7)).run Tryz.prog w = .ok (I x7) w := by kernel_rfl
theorem eight {k : Nat} (h : k ≤ 8) : k = 0 ∨ k = 1 ∨ k = 2 ∨ k = 3 ∨ k = 4 ∨ k = 5 ∨ k = 6 ∨ k = 7 ∨ k = 8 := by omega
set_option maxRecDepth 100000 in
set_option maxHeartbeats 1000000 in
theorem right_any (w : World) : Calls Tryz.prog 34 #[.agg #[I x0, I x1, I x2, I x3, I x4, I x5, I x6, I x7]] w fun e w' => e = .returned (.bool (rightB [x0, x1, x2, x3, x4, x5, x6, x7])) ∧ w' = w.alloc (.cells #[I x0, I x1, I x2, I x3, I x4, I x5, I x6, I x7] 26) := by
 have i0 := idx0 x0 x1 x2 x3 x4 x5 x6 x7
 have i1 := idx1 x0 x1 x2 x3 x4 x5 x6 x7
 have i2 := idx2 x0 x1 x2 x3 x4 x5 x6 x7
 have i3 := idx3 x0 x1 x2 x3 x4 x5 x6 x7
 have i4 := idx4 x0 x1 x2 x3 x4 x5 x6 x7
 have i5 := idx5 x0 x1 x2 x3 x4 x5 x6 x7
 have i6 := idx6 x0 x1 x2 x3 x4 x5 x6 x7
 have i7 := idx7 x0 x1 x2 x3 x4 x5 x6 x7
 generalize hl : [x0, x1, x2, x3, x4, x5, x6, x7] = l
 have HL := hide hl
 clear hl
 go_enter Tryz.func34, Tryz.ntmps34
 go_wp2
 go_loop [6] (fun i => ∃ k : Nat, k ≤ 8 ∧ i = I k ∧ OkTo l k) (fun i => 8 - (intOf i).toNat)
 case atStart => exact ⟨0, Nat.zero_le _, rfl, OkTo.zero _⟩
 case round =>
  obtain ⟨k, hk, rfl, hto⟩ := hrel
  have HO := hide hto
  clear hto
  rcases eight hk with rfl | rfl | rfl | rfl | rfl | rfl | rfl | rfl | rfl
  ·go_wp2
   ·go_ret
    exact ⟨ret_bool (rightB_false 0 x0 (by rw [← un HL]; rfl) (okB_hi (by omega))).symm, rfl⟩
   ·exact ⟨⟨1, by omega, rfl, (un HO).step (by rw [← un HL]; rfl) (okB_yes (x := x0) (by omega) (by omega))⟩, by simp [intOf]⟩
   ·go_ret
    exact ⟨ret_bool (rightB_false 0 x0 (by rw [← un HL]; rfl) (okB_lo (by omega))).symm, rfl⟩
  ·go_wp2
   ·go_ret
    exact ⟨ret_bool (rightB_false 1 x1 (by rw [← un HL]; rfl) (okB_hi (by omega))).symm, rfl⟩
   ·exact ⟨⟨2, by omega, rfl, (un HO).step (by rw [← un HL]; rfl) (okB_yes (x := x1) (by omega) (by omega))⟩, by simp [intOf]⟩
   ·go_ret
    exact ⟨ret_bool (rightB_false 1 x1 (by rw [← un HL]; rfl) (okB_lo (by omega))).symm, rfl⟩
  ·go_wp2
   ·go_ret
    exact ⟨ret_bool (rightB_false 2 x2 (by rw [← un HL]; rfl) (okB_hi (by omega))).symm, rfl⟩
   ·exact ⟨⟨3, by omega, rfl, (un HO).step (by rw [← un HL]; rfl) (okB_yes (x := x2) (by omega) (by omega))⟩, by simp [intOf]⟩
   ·go_ret
    exact ⟨ret_bool (rightB_false 2 x2 (by rw [← un HL]; rfl) (okB_lo (by omega))).symm, rfl⟩
  ·go_wp2
   ·go_ret
    exact ⟨ret_bool (rightB_false 3 x3 (by rw [← un HL]; rfl) (okB_hi (by omega))).symm, rfl⟩
   ·exact ⟨⟨4, by omega, rfl, (un HO).step (by rw [← un HL]; rfl) (okB_yes (x := x3) (by omega) (by omega))⟩, by simp [intOf]⟩
   ·go_ret
    exact ⟨ret_bool (rightB_false 3 x3 (by rw [← un HL]; rfl) (okB_lo (by omega))).symm, rfl⟩
  ·go_wp2
   ·go_ret
    exact ⟨ret_bool (rightB_false 4 x4 (by rw [← un HL]; rfl) (okB_hi (by omega))).symm, rfl⟩
   ·exact ⟨⟨5, by omega, rfl, (un HO).step (by rw [← un HL]; rfl) (okB_yes (x := x4) (by omega) (by omega))⟩, by simp [intOf]⟩
   ·go_ret
    exact ⟨ret_bool (rightB_false 4 x4 (by rw [← un HL]; rfl) (okB_lo (by omega))).symm, rfl⟩
  ·go_wp2
   ·go_ret
    exact ⟨ret_bool (rightB_false 5 x5 (by rw [← un HL]; rfl) (okB_hi (by omega))).symm, rfl⟩
   ·exact ⟨⟨6, by omega, rfl, (un HO).step (by rw [← un HL]; rfl) (okB_yes (x := x5) (by omega) (by omega))⟩, by simp [intOf]⟩
   ·go_ret
    exact ⟨ret_bool (rightB_false 5 x5 (by rw [← un HL]; rfl) (okB_lo (by omega))).symm, rfl⟩
  ·go_wp2
   ·go_ret
    exact ⟨ret_bool (rightB_false 6 x6 (by rw [← un HL]; rfl) (okB_hi (by omega))).symm, rfl⟩
   ·exact ⟨⟨7, by omega, rfl, (un HO).step (by rw [← un HL]; rfl) (okB_yes (x := x6) (by omega) (by omega))⟩, by simp [intOf]⟩
   ·go_ret
    exact ⟨ret_bool (rightB_false 6 x6 (by rw [← un HL]; rfl) (okB_lo (by omega))).symm, rfl⟩
  ·go_wp2
   ·go_ret
    exact ⟨ret_bool (rightB_false 7 x7 (by rw [← un HL]; rfl) (okB_hi (by omega))).symm, rfl⟩
   ·exact ⟨⟨8, by omega, rfl, (un HO).step (by rw [← un HL]; rfl) (okB_yes (x := x7) (by omega) (by omega))⟩, by simp [intOf]⟩
   ·go_ret
    exact ⟨ret_bool (rightB_false 7 x7 (by rw [← un HL]; rfl) (okB_lo (by omega))).symm, rfl⟩
  ·go_wp2
   go_ret
   exact ⟨ret_bool ((un HO).all (by rw [← un HL]; exact Nat.le_refl 8)).symm, rfl⟩
set_option maxRecDepth 100000 in
set_option maxHeartbeats 400000 in
theorem told_any (w : World) : Calls Tryz.prog 35 #[.agg #[I x0, I x1, I x2, I x3, I x4, I x5, I x6, I x7]] w fun e w' => e = .returned (.tuple #[.agg #[I (sel (rightB [x0, x1, x2, x3, x4, x5, x6, x7]) x0), I (sel (rightB [x0, x1, x2, x3, x4, x5, x6, x7]) x1), I (sel (rightB [x0, x1, x2, x3, x4, x5, x6, x7]) x2), I (sel (rightB [x0, x1, x2, x3, x4, x5, x6, x7]) x3), I (sel (rightB [x0, x1, x2, x3, x4, x5, x6, x7]) x4), I (sel (rightB [x0, x1, x2, x3, x4, x5, x6, x7]) x5), I (sel (rightB [x0, x1, x2, x3, x4, x5, x6, x7]) x6), I (sel (rightB [x0, x1, x2, x3, x4, x5, x6, x7]) x7)], I (errOf (rightB [x0, x1, x2, x3, x4, x5, x6, x7]) 51)]) ∧ w' = ((w.alloc (.cells #[I x0, I x1, I x2, I x3, I x4, I x5, I x6, I x7] 26)).alloc (.cells #[I (sel (rightB [x0, x1, x2, x3, x4, x5, x6, x7]) x0), I (sel (rightB [x0, x1, x2, x3, x4, x5, x6, x7]) x1), I (sel (rightB [x0, x1, x2, x3, x4, x5, x6, x7]) x2), I (sel (rightB [x0, x1, x2, x3, x4, x5, x6, x7]) x3), I (sel (rightB [x0, x1, x2, x3, x4, x5, x6, x7]) x4), I (sel (rightB [x0, x1, x2, x3, x4, x5, x6, x7]) x5), I (sel (rightB [x0, x1, x2, x3, x4, x5, x6, x7]) x6), I (sel (rightB [x0, x1, x2, x3, x4, x5, x6, x7]) x7)] 26)).alloc (.cells #[I x0, I x1, I x2, I x3, I x4, I x5, I x6, I x7] 26) := by
 have HC := hide (right_any x0 x1 x2 x3 x4 x5 x6 x7)
 generalize rightB [x0, x1, x2, x3, x4, x5, x6, x7] = r at *
 cases r with
 | true =>
  simp only [sel_true, errOf_true]
  go_enter Tryz.func35, Tryz.ntmps35
  go_wp2_with (go_at_call 34; refine (un HC _).mono ?_; rintro e w' ⟨rfl, rfl⟩)
  exact bodyPost_ret (v := .tuple #[.agg #[I x0, I x1, I x2, I x3, I x4, I x5, I x6, I x7], I 0]) (by simp [results, Tryz.results35, go_sem]) rfl ⟨rfl, rfl⟩
 | false =>
  simp only [sel_false, errOf_false]
  go_enter Tryz.func35, Tryz.ntmps35
  go_wp2_with (go_at_call 34; refine (un HC _).mono ?_; rintro e w' ⟨rfl, rfl⟩)
  exact bodyPost_ret (v := .tuple #[.agg #[I 0, I 0, I 0, I 0, I 0, I 0, I 0, I 0], I 51]) (by simp [results, Tryz.results35, go_sem]) rfl ⟨rfl, rfl⟩
end
end Go.Proofs.YthcbhnggphdflaaGreatDoor.Dm

namespace Go.Proofs.YthcbhnggphdflaaGreatDoor.Dm
open Go.RowKit
section
variable (a0 a1 a2 a3 a4 a5 a6 a7 b0 b1 b2 b3 b4 b5 b6 b7 : Int)
def quoOk (ra rb : Bool) (l : List Int) : Bool := ra && rb && rightB l
def quoErr (ra rb : Bool) (l : List Int) : Int := if (ra && rb) = true then errOf (rightB l) 51 else 1
set_option maxRecDepth 100000 in
set_option maxHeartbeats 2000000 in
theorem quo_any (w : World) : Calls Tryz.prog 37 #[.agg #[.int .i64 a0, .int .i64 a1, .int .i64 a2, .int .i64 a3, .int .i64 a4, .int .i64 a5, .int .i64 a6, .int .i64 a7], .agg #[.int .i64 b0, .int .i64 b1, .int .i64 b2, .int .i64 b3, .int .i64 b4, .int .i64 b5, .int .i64 b6, .int .i64 b7]] w fun e w' => e = .returned (.tuple #[.agg #[.int .i64 (sel (quoOk (rightB [a0, a1, a2, a3, a4, a5, a6, a7]) (rightB [b0, b1, b2, b3, b4, b5, b6, b7]) [wrap64 (a0 - b0), wrap64 (a1 - b1), wrap64 (a2 - b2), wrap64 (a3 - b3), wrap64 (a4 - b4), wrap64 (a5 - b5), wrap64 (a6 - b6), wrap64 (a7 - b7)]) (wrap64 (a0 - b0))), .int .i64 (sel (quoOk (rightB [a0, a1, a2, a3, a4, a5, a6, a7]) (rightB [b0, b1, b2, b3, b4, b5, b6, b7]) [wrap64 (a0 - b0), wrap64 (a1 - b1), wrap64 (a2 - b2), wrap64 (a3 - b3), wrap64 (a4 - b4), wrap64 (a5 - b5), wrap64 (a6 - b6), wrap64 (a7 - b7)]) (wrap64 (a1 - b1))), .int .i64 (sel (quoOk (rightB [a0, a1, a2, a3, a4, a5, a6, a7]) (rightB [b0, b1, b2, b3, b4, b5, b6, b7]) [wrap64 (a0 - b0), wrap64 (a1 - b1), wrap64 (a2 - b2), wrap64 (a3 - b3), wrap64 (a4 - b4), wrap64 (a5 - b5), wrap64 (a6 - b6), wrap64 (a7 - b7)]) (wrap64 (a2 - b2))), .int .i64 (sel (quoOk (rightB [a0, a1, a2, a3, a4, a5, a6, a7]) (rightB [b0, b1, b2, b3, b4, b5, b6, b7]) [wrap64 (a0 - b0), wrap64 (a1 - b1), wrap64 (a2 - b2), wrap64 (a3 - b3), wrap64 (a4 - b4), wrap64 (a5 - b5), wrap64 (a6 - b6), wrap64 (a7 - b7)]) (wrap64 (a3 - b3))), .int .i64 (sel (quoOk (rightB [a0, a1, a2, a3, a4, a5, a6, a7]) (rightB [b0, b1, b2, b3, b4, b5, b6, b7]) [wrap64 (a0 - b0), wrap64 (a1 - b1), wrap64 (a2 - b2), wrap64 (a3 - b3), wrap64 (a4 - b4), wrap64 (a5 - b5), wrap64 (a6 - b6), wrap64 (a7 - b7)]) (wrap64 (a4 - b4))), .int .i64 (sel (quoOk (rightB [a0, a1, a2, a3, a4, a5, a6, a7]) (rightB [b0, b1, b2, b3, b4, b5, b6, b7]) [wrap64 (a0 - b0), wrap64 (a1 - b1), wrap64 (a2 - b2), wrap64 (a3 - b3), wrap64 (a4 - b4), wrap64 (a5 - b5), wrap64 (a6 - b6), wrap64 (a7 - b7)]) (wrap64 (a5 - b5))), .int .i64 (sel (quoOk (rightB [a0, a1, a2, a3, a4, a5, a6, a7]) (rightB [b0, b1, b2, b3, b4, b5, b6, b7]) [wrap64 (a0 - b0), wrap64 (a1 - b1), wrap64 (a2 - b2), wrap64 (a3 - b3), wrap64 (a4 - b4), wrap64 (a5 - b5), wrap64 (a6 - b6), wrap64 (a7 - b7)]) (wrap64 (a6 - b6))), .int .i64 (sel (quoOk (rightB [a0, a1, a2, a3, a4, a5, a6, a7]) (rightB [b0, b1, b2, b3, b4, b5, b6, b7]) [wrap64 (a0 - b0), wrap64 (a1 - b1), wrap64 (a2 - b2), wrap64 (a3 - b3), wrap64 (a4 - b4), wrap64 (a5 - b5), wrap64 (a6 - b6), wrap64 (a7 - b7)]) (wrap64 (a7 - b7)))], .int .i64 (quoErr (rightB [a0, a1, a2, a3, a4, a5, a6, a7]) (rightB [b0, b1, b2, b3, b4, b5, b6, b7]) [wrap64 (a0 - b0), wrap64 (a1 - b1), wrap64 (a2 - b2), wrap64 (a3 - b3), wrap64 (a4 - b4), wrap64 (a5 - b5), wrap64 (a6 - b6), wrap64 (a7 - b7)])]) ∧ Below w.heap.size w w' := by
 have HA := hide (right_any a0 a1 a2 a3 a4 a5 a6 a7)
 have HB := hide (right_any b0 b1 b2 b3 b4 b5 b6 b7)
 have HT := hide (told_any (wrap64 (a0 - b0)) (wrap64 (a1 - b1)) (wrap64 (a2 - b2)) (wrap64 (a3 - b3)) (wrap64 (a4 - b4)) (wrap64 (a5 - b5)) (wrap64 (a6 - b6)) (wrap64 (a7 - b7)))
 unfold quoOk quoErr
 generalize rightB [a0, a1, a2, a3, a4, a5, a6, a7] = ra at *
 generalize rightB [b0, b1, b2, b3, b4, b5, b6, b7] = rb at *
 generalize rightB [wrap64 (a0 - b0), wrap64 (a1 - b1), wrap64 (a2 - b2), wrap64 (a3 - b3), wrap64 (a4 - b4), wrap64 (a5 - b5), wrap64 (a6 - b6), wrap64 (a7 - b7)] = rq at *
 cases ra with
 | false =>
  simp only [Bool.false_and, sel_false, Bool.false_eq_true, if_false]
  go_enter Tryz.func37, Tryz.ntmps37
  go_wp2_with (first
   | (go_at_call_of 34 (Value.agg #[Value.int IntKind.i64 a0, Value.int IntKind.i64 a1, Value.int IntKind.i64 a2, Value.int IntKind.i64 a3, Value.int IntKind.i64 a4, Value.int IntKind.i64 a5, Value.int IntKind.i64 a6, Value.int IntKind.i64 a7]); refine (un HA _).mono ?_; rintro e w' ⟨rfl, rfl⟩))
  exact bodyPost_ret (v := .tuple #[.agg #[.int .i64 0, .int .i64 0, .int .i64 0, .int .i64 0, .int .i64 0, .int .i64 0, .int .i64 0, .int .i64 0], .int .i64 1]) (by simp [results, Tryz.results37, go_sem]) rfl ⟨rfl, ((((Below.refl _ _).alloc (Nat.le_refl _) _).alloc (by simp) _).alloc (by simp; omega) _).alloc (by simp; omega) _⟩
 | true =>
  cases rb with
  | false =>
   simp only [Bool.and_false, Bool.false_and, sel_false, Bool.false_eq_true, if_false]
   go_enter Tryz.func37, Tryz.ntmps37
   go_wp2_with (first
    | (go_at_call_of 34 (Value.agg #[Value.int IntKind.i64 a0, Value.int IntKind.i64 a1, Value.int IntKind.i64 a2, Value.int IntKind.i64 a3, Value.int IntKind.i64 a4, Value.int IntKind.i64 a5, Value.int IntKind.i64 a6, Value.int IntKind.i64 a7]); refine (un HA _).mono ?_; rintro e w' ⟨rfl, rfl⟩)
    | (go_at_call_of 34 (Value.agg #[Value.int IntKind.i64 b0, Value.int IntKind.i64 b1, Value.int IntKind.i64 b2, Value.int IntKind.i64 b3, Value.int IntKind.i64 b4, Value.int IntKind.i64 b5, Value.int IntKind.i64 b6, Value.int IntKind.i64 b7]); refine (un HB _).mono ?_; rintro e w' ⟨rfl, rfl⟩))
   exact bodyPost_ret (v := .tuple #[.agg #[.int .i64 0, .int .i64 0, .int .i64 0, .int .i64 0, .int .i64 0, .int .i64 0, .int .i64 0, .int .i64 0], .int .i64 1]) (by simp [results, Tryz.results37, go_sem]) rfl ⟨rfl, (((((Below.refl _ _).alloc (Nat.le_refl _) _).alloc (by simp) _).alloc (by simp; omega) _).alloc (by simp; omega) _).alloc (by simp; omega) _⟩
  | true =>
   simp only [Bool.and_self, Bool.true_and, if_true]
   have i0 := idx0 b0 b1 b2 b3 b4 b5 b6 b7
   have i1 := idx1 b0 b1 b2 b3 b4 b5 b6 b7
   have i2 := idx2 b0 b1 b2 b3 b4 b5 b6 b7
   have i3 := idx3 b0 b1 b2 b3 b4 b5 b6 b7
   have i4 := idx4 b0 b1 b2 b3 b4 b5 b6 b7
   have i5 := idx5 b0 b1 b2 b3 b4 b5 b6 b7
   have i6 := idx6 b0 b1 b2 b3 b4 b5 b6 b7
   have i7 := idx7 b0 b1 b2 b3 b4 b5 b6 b7
   go_enter Tryz.func37, Tryz.ntmps37
   go_wp2_with (first
    | (go_at_call_of 34 (Value.agg #[Value.int IntKind.i64 a0, Value.int IntKind.i64 a1, Value.int IntKind.i64 a2, Value.int IntKind.i64 a3, Value.int IntKind.i64 a4, Value.int IntKind.i64 a5, Value.int IntKind.i64 a6, Value.int IntKind.i64 a7]); refine (un HA _).mono ?_; rintro e w' ⟨rfl, rfl⟩)
    | (go_at_call_of 34 (Value.agg #[Value.int IntKind.i64 b0, Value.int IntKind.i64 b1, Value.int IntKind.i64 b2, Value.int IntKind.i64 b3, Value.int IntKind.i64 b4, Value.int IntKind.i64 b5, Value.int IntKind.i64 b6, Value.int IntKind.i64 b7]); refine (un HB _).mono ?_; rintro e w' ⟨rfl, rfl⟩))
   refine wp_loop_rounds 9 ?_
   repeat any_goals (rw [rounds_succ]; go_wp2_with (go_at_call 35; refine (un HT _).mono ?_; rintro e w' ⟨rfl, rfl⟩))
   exact bodyPost_ret (v := .tuple #[.agg #[.int .i64 (sel rq (wrap64 (a0 - b0))), .int .i64 (sel rq (wrap64 (a1 - b1))), .int .i64 (sel rq (wrap64 (a2 - b2))), .int .i64 (sel rq (wrap64 (a3 - b3))), .int .i64 (sel rq (wrap64 (a4 - b4))), .int .i64 (sel rq (wrap64 (a5 - b5))), .int .i64 (sel rq (wrap64 (a6 - b6))), .int .i64 (sel rq (wrap64 (a7 - b7)))], .int .i64 (errOf rq 51)]) (by simp [results, Tryz.results37, go_sem]) rfl ⟨rfl, by repeat (first | exact Below.refl _ _ | (refine Below.alloc ?_ (by simp <;> omega) _))⟩
end
end Go.Proofs.YthcbhnggphdflaaGreatDoor.Dm

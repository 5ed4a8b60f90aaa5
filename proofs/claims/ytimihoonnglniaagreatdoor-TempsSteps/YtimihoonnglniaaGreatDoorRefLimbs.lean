/- The document's own cut of digits into limbs of four. -/
import Derived.Test.YtimihoonnglniaaGreatDoorOne
import Derived.Test.YtimihoonnglniaaGreatDoorQuo
import Derived.Test.YtimihoonnglniaaGreatDoorFCmp
import Derived.Deep.RegionHeld3
import Derived.Test.YtimihoonnglniaaGreatDoorLimb4
namespace Go.Proofs.YtimihoonnglniaaGreatDoor
open Go.RowKit Go.Sort

theorem below_grow (w : World) (k : Nat) (os : Array Obj) : Below w.heap.size w (grow (w.drewN k) os) := by
  refine ⟨rfl, rfl, rfl, ?_, fun i hi => ?_⟩
  · simp [grow, World.drewN]
  · simp only [grow]
    rw [Array.getElem?_append_left (by simpa [World.drewN] using hi)]; rfl

set_option maxHeartbeats 6400000 in
set_option maxRecDepth 100000 in
theorem intFormatUint_any (u : Nat) (hu64 : u < 18446744073709551616) (w : World) (htab : Tab w) :
    Calls Tryz.prog 130 #[.int .u64 u, .int .i64 10] w fun e w' => e = .returned (.string ⟨(Lib.decDigits u).toArray⟩) ∧ Below w.heap.size w w' := by
  by_cases hs : u < 100
  · clear htab
    go_enter Tryz.func130, Tryz.ntmps130
    go_wp2_with (go_at_call 110; refine (Tryz.internal_strconv_small u hs _).mono ?_; rintro e w' ⟨rfl, rfl⟩)
    go_ret
    exact ⟨rfl, Below.refl _ _⟩
  · have hu1 : 1 ≤ u := by omega
    have hnd20 : Lib.nDigits u ≤ 20 := by have := Lib.numDigits_eq u hu1 hu64; split at this <;> omega
    have hal : Tryz.prog.arrayLen 136 = 24 := by kernel_rfl
    have hsl : ∀ W, (Instr.sliceAt 136 (.pointer (some ⟨w.heap.size, 0, none⟩)) none (some (.int .i64 (Lib.nDigits u : Int))) none).run Tryz.prog W = .ok (.slice (some ⟨w.heap.size, 0, none⟩) (Lib.nDigits u) 24) W := fun W => by
      rw [run_sliceAt_array_h W 136 ⟨w.heap.size, 0, none⟩ (by kernel_rfl) .i64 (Lib.nDigits u : Int) (by omega) (by rw [hal]; omega)]
      go_simp
    have hH0 := Lib.holds_zero0 w 136 (Lib.nDigits u) (by omega)
    have hfmt := Tryz.internal_strconv_formatBase10 w.heap.size 0 24 u (Array.replicate (Lib.nDigits u) 0) (w.alloc (.cells Lib.zeros24 136)) hH0 (by rw [Array.size_replicate]; exact Lib.lt_pow_nDigits u) hu64 (by rw [Array.size_replicate]; omega)
    rw [Array.size_replicate] at hfmt
    have HH0 := Lib.hid hH0
    have HT := hide htab
    have iu : (100 : Int) ≤ (u : Int) := by omega
    clear hH0 hal htab
    go_enter Tryz.func130, Tryz.ntmps130
    go_wp2_with (first
      | (go_at_call 111; refine (Tryz.internal_strconv_numDigits u hu1 hu64 _ (Lib.tabIs_alloc (unhide HT) _)).mono ?_; rintro e w' ⟨rfl, rfl⟩))
    go_at_call 112
    refine hfmt.mono ?_
    rintro e w' ⟨rfl, k, v', dk, rfl, hF⟩
    have hcv : (convert 83 9 (.slice (some ⟨w.heap.size, 0, none⟩) (Lib.nDigits u) 24)).run Tryz.prog ((putRow (fun (b : UInt8) => Value.int .u8 (b.toNat : Int)) (w.alloc (.cells Lib.zeros24 136)) w.heap.size 0 dk).drewN k) = .ok (.string ⟨(Lib.decDigits u).toArray⟩) ((putRow (fun (b : UInt8) => Value.int .u8 (b.toNat : Int)) (w.alloc (.cells Lib.zeros24 136)) w.heap.size 0 dk).drewN k) := by
      have h := run_convert_bytes_back (P := Tryz.prog) ((putRow (fun (b : UInt8) => Value.int .u8 (b.toNat : Int)) (w.alloc (.cells Lib.zeros24 136)) w.heap.size 0 dk).drewN k) 83 9 5 ⟨w.heap.size, 0, none⟩ 24 (Lib.decDigits u) Tryz.underlying83 Tryz.underlying5 Tryz.underlying9 (fun j hj => by
        rw [Lib.row_is_numeral hF j hj, Lib.add_plain, World.cell?_drewN]
        exact cell?_putRow (fun (b : UInt8) => Value.int .u8 (b.toNat : Int)) _ w.heap.size 0 _ dk HH0.out (by rw [hF.size, Array.size_replicate]) j (by rw [hF.size]; rw [Lib.decDigits_length] at hj; exact hj))
      rw [Lib.decDigits_length] at h
      exact h
    go_wp2
    go_ret
    refine ⟨rfl, ?_⟩
    obtain ⟨os', _, e⟩ := putRow_grow_new (fun (b : UInt8) => Value.int .u8 (b.toNat : Int)) w #[.cells Lib.zeros24 136] w.heap.size 0 dk (Nat.le_refl _)
    have e2 : (putRow (fun (b : UInt8) => Value.int .u8 (b.toNat : Int)) (w.alloc (.cells Lib.zeros24 136)) w.heap.size 0 dk).drewN k = grow (w.drewN k) os' := by
      rw [alloc_eq_grow, e]; rfl
    rw [e2]
    exact below_grow w k os'

theorem formatUint_any (u : Nat) (hu64 : u < 18446744073709551616) (w : World) (htab : Tab w) :
    Calls Tryz.prog 127 #[.int .u64 u, .int .i64 10] w fun e w' => e = .returned (.string ⟨(Lib.decDigits u).toArray⟩) ∧ Below w.heap.size w w' := by
  have HT := hide htab
  clear htab
  go_enter Tryz.func127, Tryz.ntmps127
  go_wp2_with (go_at_call 130; refine (intFormatUint_any u hu64 _ (unhide HT)).mono ?_; rintro e w' ⟨rfl, hb⟩)
  go_ret
  exact ⟨rfl, hb⟩
theorem natOf_any (u : Nat) (hu64 : u < 18446744073709551616) (w : World) (htab : Tab w) :
    Calls Tryz.prog 121 #[.int .u64 u] w fun e w' => e = .returned (.string ⟨(Lib.decDigits u).toArray⟩) ∧ Below w.heap.size w w' := by
  have HT := hide htab
  clear htab
  go_enter Tryz.func121, Tryz.ntmps121
  go_wp2_with (go_at_call 127; refine (formatUint_any u hu64 _ (unhide HT)).mono ?_; rintro e w' ⟨rfl, hb⟩)
  go_ret
  exact ⟨rfl, hb⟩
end Go.Proofs.YtimihoonnglniaaGreatDoor

namespace Go.Proofs.YtimihoonnglniaaGreatDoor
open Go.RowKit

theorem pow_grow (e : Nat) (he : 20 ≤ e) : 18446744073709551616 ≤ 10 ^ e := Nat.le_trans (by decide : 18446744073709551616 ≤ 10 ^ 20) (Nat.pow_le_pow_right (by decide) he)
theorem u64_600 (N : Nat) (h : N < 18446744073709551616) : N < 10 ^ 600 := Nat.lt_of_lt_of_le h (pow_grow 600 (by decide))
set_option maxRecDepth 100000 in
set_option maxHeartbeats 2000000 in
theorem ratOf_pos (N : Nat) (w : World) (h2 : N < 9223372036854775808) (htab : Tab w) :
    Calls Tryz.prog 107 #[.int .i64 (N : Int)] w fun r w' => r = .returned (.agg #[.string (sT false N), .string ⟨#[49]⟩]) ∧ Below w.heap.size w w' := by
  obtain ⟨V, hV⟩ : ∃ V, V = w.alloc (.cells #[.string ⟨#[]⟩, .string ⟨#[]⟩] 23) := ⟨_, rfl⟩
  have hbV : Below w.heap.size w V := by rw [hV]; exact (Below.refl _ _).alloc (Nat.le_refl _) _
  have HR : Hid (T2 V w.heap.size (.string ⟨#[]⟩) (.string ⟨#[]⟩) ∧ Below w.heap.size w V) := ⟨by rw [hV]; exact ⟨by simp [go_sem], by simp [go_sem], by simp [go_sem], by simp [go_sem]⟩, hbV⟩
  have HV := hide hV
  have hN : N < 10 ^ 600 := u64_600 N (by omega)
  have HOF : Hid (Calls Tryz.prog 121 #[.int .u64 (N : Int)] V fun e w' => e = .returned (.string (tb N)) ∧ Below V.heap.size V w') := by
    have := natOf_any N (by omega) V (htab.later hbV)
    rwa [show (⟨(Lib.decDigits N).toArray⟩ : ByteArray) = tb N from bytes_ext (by rw [tb_list N hN])] at this
  have HSG : Hid (∀ W, Calls Tryz.prog 46 #[.bool false, .string (tb N)] W fun e w' => e = .returned (.string (sT false N)) ∧ w' = W) := fun W => signed_any false (tb N) W (by have := (tb_digs N hN).2; omega)
  have k0 : ¬ (N : Int) < 0 := by omega
  skip
  skip
  clear hN htab hbV
  generalize sT false N = sn at *
  generalize tb N = tn at *
  go_enter Tryz.func107, Tryz.ntmps107
  go_upto_region 4 with fail
  skip
  rw [← unhide HV]
  clear hV HV
  go_wp2_with (first
    | (go_at_call 121; go_must (refine (unhide HOF).mono ?_; rintro e W9 ⟨rfl, hb1⟩; have HR1 : Hid (T2 W9 w.heap.size (.string ⟨#[]⟩) (.string ⟨#[]⟩) ∧ Below w.heap.size w W9) := ⟨(unhide HR).1.later hb1, (unhide HR).2.trans (hb1.mono (unhide HR).2.size)⟩; clear hb1))
    | (go_at_call 46; go_must (refine (unhide HSG _).mono ?_; rintro e wB ⟨rfl, hwB⟩; obtain rfl : W9 = wB := hwB.symm; have r0 := (unhide HR1).1.c0; have r1 := (unhide HR1).1.c1; have rf0 := (unhide HR1).1.f0; have rf1 := (unhide HR1).1.f1)))
  have hS := (unhide HR1).1.store (.string sn) (.string ⟨#[49]⟩)
  have hb : Below w.heap.size w (store2 W9 w.heap.size (.string sn) (.string ⟨#[49]⟩)) := below_store2 (unhide HR1).2 (Nat.le_refl _) _ _
  have u0 := hS.c0; have u1 := hS.c1
  exact bodyPost_ret (v := .agg #[.string sn, .string ⟨#[49]⟩]) (w := store2 W9 w.heap.size (.string sn) (.string ⟨#[49]⟩)) (by simp [results, Tryz.results107, go_sem, u0, u1]) rfl ⟨rfl, hb⟩
end Go.Proofs.YtimihoonnglniaaGreatDoor

namespace Go.Proofs.YtimihoonnglniaaGreatDoor
open Go.RowKit
theorem bel_al {U W V : World} {O : Obj} (h : Below U.heap.size U W) (hb : Below (W.alloc O).heap.size (W.alloc O) V) : Below U.heap.size U V :=
  (h.alloc h.size O).trans (hb.mono (h.alloc h.size O).size)
theorem bel_alD {W V : World} {O : Obj} (hb : Below (W.alloc O).drew.heap.size (W.alloc O).drew V) : Below W.heap.size W V :=
  have h0 := (Below.refl W.heap.size W).alloc (Nat.le_refl _) O
  have h : Below W.heap.size W (W.alloc O).drew := h0.trans ((Below.refl _ _).drew.mono h0.size)
  h.trans (hb.mono h.size)
theorem T2.past {W V : World} {x y : Value} (h : Below (W.alloc (.cells #[x, y] 23)).heap.size (W.alloc (.cells #[x, y] 23)) V) : T2 V W.heap.size x y :=
  (show T2 (W.alloc (.cells #[x, y] 23)) W.heap.size x y from ⟨by simp [go_sem], by simp [go_sem], by simp [go_sem], by simp [go_sem]⟩).later h
theorem T2.pastD {W V : World} {x y : Value} (h : Below (W.alloc (.cells #[x, y] 23)).drew.heap.size (W.alloc (.cells #[x, y] 23)).drew V) : T2 V W.heap.size x y :=
  ((show T2 (W.alloc (.cells #[x, y] 23)) W.heap.size x y from ⟨by simp [go_sem], by simp [go_sem], by simp [go_sem], by simp [go_sem]⟩).later ((Below.refl _ _).drew)).later h
theorem T2.otherP {W : World} {g : Nat} {x y : Value} (h : T2 W g x y) (k : Nat) (hp : k ≠ g) (u v : Value) : T2 (store2 W k u v) g x y := by
  unfold store2
  have e : ∀ (W : World) (o : Nat) (u : Value), T2 W g x y → T2 (W.setCell ⟨k, o, none⟩ u) g x y := fun W o u h =>
    ⟨by rw [World.cell?_setCell_other _ _ _ _ (by intro e; cases e; exact hp rfl)]; exact h.c0, by rw [World.cell?_setCell_other _ _ _ _ (by intro e; cases e; exact hp rfl)]; exact h.c1, by rw [World.frozen?_setCell]; exact h.f0, by rw [World.frozen?_setCell]; exact h.f1⟩
  exact e _ _ _ (e _ _ _ h)
set_option maxRecDepth 100000 in
set_option maxHeartbeats 4000000 in
theorem told_walk (a b : Int) (an ad bn bd fn fd : ByteArray) (w : World)
    (hoa : ∀ W, Below w.heap.size w W → Calls Tryz.prog 107 #[.int .i64 a] W fun r w' => r = .returned (.agg #[.string an, .string ad]) ∧ Below W.heap.size W w')
    (hob : ∀ W, Below w.heap.size w W → Calls Tryz.prog 107 #[.int .i64 b] W fun r w' => r = .returned (.agg #[.string bn, .string bd]) ∧ Below W.heap.size W w')
    (hqu : ∀ W, Below w.heap.size w W → Calls Tryz.prog 106 #[.agg #[.string an, .string ad], .agg #[.string bn, .string bd]] W fun r w' => r = .returned (.tuple #[.agg #[.string fn, .string fd], .int .i64 0]) ∧ Below W.heap.size W w') :
    Calls Tryz.prog 92 #[.agg #[.int .i64 a, .int .i64 b]] w fun r w' => r = .returned (.agg #[.string fn, .string fd]) ∧ Below w.heap.size w w' := by
  obtain ⟨V, hV⟩ : ∃ V, V = (w.alloc (.cells #[.int .i64 a, .int .i64 b] 96)).alloc (.cells #[.string ⟨#[]⟩, .string ⟨#[]⟩] 23) := ⟨_, rfl⟩
  have HP : Hid (T2 V w.heap.size (.int .i64 a) (.int .i64 b)) := by rw [hV]; exact ⟨by simp [go_sem], by simp [go_sem], by simp [go_sem], by simp [go_sem]⟩
  have HR : Hid (T2 V (w.heap.size + 1) (.string ⟨#[]⟩) (.string ⟨#[]⟩)) := by rw [hV]; exact ⟨by simp [go_sem], by simp [go_sem], by simp [go_sem], by simp [go_sem]⟩
  have HB : Hid (Below w.heap.size w V) := by rw [hV]; exact ((Below.refl _ _).alloc (Nat.le_refl _) _).alloc (by simp) _
  have HV := hide hV
  have HOA := hide hoa; have HOB := hide hob; have HQU := hide hqu
  clear hoa hob hqu
  go_enter Tryz.func92, Tryz.ntmps92
  go_upto_region 1 with fail
  rw [← unhide HV]
  clear hV HV
  have t0 := (unhide HP).c0; have t1 := (unhide HP).c1
  have HC0 : Hid (Below V.heap.size V V.drew) := (Below.refl _ _).drew
  have HUP : Hid (∀ W, Below V.heap.size V W → Below w.heap.size w W) := fun W h => (unhide HB).trans (h.mono (unhide HB).size)
  have HUA : Hid (∀ W O, Below V.heap.size V W → Below w.heap.size w (W.alloc O)) := fun W O h => (unhide HB).trans ((h.alloc h.size O).mono (unhide HB).size)
  have HUD : Hid (∀ O, Below w.heap.size w (V.alloc O).drew) := fun O => ((unhide HB).alloc (unhide HB).size O).drew
  have hv0 := (unhide HP).lt
  go_region_held3 (fun w' => w'.cell? ⟨w.heap.size, 0, none⟩ = some (.int .i64 a) ∧ w'.cell? ⟨w.heap.size, 1, none⟩ = some (.int .i64 b)) (first | assumption | (simp [go_sem, *]; done)) ((first
    | (go_at_call_of 107 a; go_must (refine (unhide HOA _ (by first | exact unhide HUP _ (unhide HC0) | exact unhide HUA _ _ (unhide HC0) | exact unhide HUD _)).mono ?_; rintro e wa ⟨rfl, hb⟩; have HCwa : Hid (Below V.heap.size V wa) := (by first | exact (unhide HC0).trans (hb.mono (unhide HC0).size) | exact bel_al (unhide HC0) hb | exact bel_alD hb); (first | (have HZwa := hide ((unhide HZ0).later hb); clear u0 u1 uf0 uf1; have u0 := (unhide HZwa).c0; have u1 := (unhide HZwa).c1; have uf0 := (unhide HZwa).f0; have uf1 := (unhide HZwa).f1) | (have HZwa : Hid (T2 wa V.heap.size (.string ⟨#[]⟩) (.string ⟨#[]⟩)) := (by first | exact T2.past hb | exact T2.pastD hb); have u0 := (unhide HZwa).c0; have u1 := (unhide HZwa).c1; have uf0 := (unhide HZwa).f0; have uf1 := (unhide HZwa).f1) | skip); clear hb t0 t1; have t0 := ((unhide HP).later (unhide HCwa)).c0; have t1 := ((unhide HP).later (unhide HCwa)).c1; have hvwa := ((unhide HP).later (unhide HCwa)).lt))
    | (go_at_call_of 107 b; go_must (refine (unhide HOB _ (by first | exact unhide HUP _ (unhide HCwa) | exact unhide HUA _ _ (unhide HCwa) | exact unhide HUD _)).mono ?_; rintro e wb ⟨rfl, hb⟩; have HCwb : Hid (Below V.heap.size V wb) := (by first | exact (unhide HCwa).trans (hb.mono (unhide HCwa).size) | exact bel_al (unhide HCwa) hb | exact bel_alD hb); (first | (have HZwb := hide ((unhide HZwa).later hb); clear u0 u1 uf0 uf1; have u0 := (unhide HZwb).c0; have u1 := (unhide HZwb).c1; have uf0 := (unhide HZwb).f0; have uf1 := (unhide HZwb).f1) | (have HZwb : Hid (T2 wb wa.heap.size (.string ⟨#[]⟩) (.string ⟨#[]⟩)) := (by first | exact T2.past hb | exact T2.pastD hb); have u0 := (unhide HZwb).c0; have u1 := (unhide HZwb).c1; have uf0 := (unhide HZwb).f0; have uf1 := (unhide HZwb).f1) | skip); clear hb t0 t1; have t0 := ((unhide HP).later (unhide HCwb)).c0; have t1 := ((unhide HP).later (unhide HCwb)).c1; have hvwb := ((unhide HP).later (unhide HCwb)).lt))
    | (go_at_call 106; go_must (refine (unhide HQU _ (by first | exact unhide HUP _ (unhide HCwb) | exact unhide HUA _ _ (unhide HCwb) | exact unhide HUD _)).mono ?_; rintro e wc ⟨rfl, hb⟩; have HCwc : Hid (Below V.heap.size V wc) := (by first | exact (unhide HCwb).trans (hb.mono (unhide HCwb).size) | exact bel_al (unhide HCwb) hb | exact bel_alD hb); (first | (have HZwc := hide ((unhide HZwb).later hb); clear u0 u1 uf0 uf1; have u0 := (unhide HZwc).c0; have u1 := (unhide HZwc).c1; have uf0 := (unhide HZwc).f0; have uf1 := (unhide HZwc).f1) | (have HZwc : Hid (T2 wc wb.heap.size (.string ⟨#[]⟩) (.string ⟨#[]⟩)) := (by first | exact T2.past hb | exact T2.pastD hb); have u0 := (unhide HZwc).c0; have u1 := (unhide HZwc).c1; have uf0 := (unhide HZwc).f0; have uf1 := (unhide HZwc).f1) | skip); clear hb t0 t1; have t0 := ((unhide HP).later (unhide HCwc)).c0; have t1 := ((unhide HP).later (unhide HCwc)).c1; have hvwc := ((unhide HP).later (unhide HCwc)).lt))))
  all_goals
    first
    | (obtain ⟨X, hX⟩ : ∃ X, X = wc.heap.size := ⟨_, rfl⟩
       obtain ⟨U, hU⟩ : ∃ U, U = wc.alloc (.cells #[.string fn, .string fd] 23) := ⟨_, rfl⟩
       have HF : Hid (T2 U X (.string fn) (.string fd) ∧ T2 U (w.heap.size + 1) (.string ⟨#[]⟩) (.string ⟨#[]⟩) ∧ Below w.heap.size w U) := by
         rw [hU, hX]
         exact ⟨⟨by simp [go_sem], by simp [go_sem], by simp [go_sem], by simp [go_sem]⟩, ((unhide HR).later (unhide HCwc)).later ((Below.refl _ _).alloc (Nat.le_refl _) _), unhide HUA _ _ (unhide HCwc)⟩
       rw [← hU, ← hX]
       clear hU hX)
    | (obtain ⟨X, hX⟩ : ∃ X, X = wb.heap.size := ⟨_, rfl⟩
       obtain ⟨U, hU⟩ : ∃ U, U = (wc.setCell { block := wb.heap.size, off := 0 } (.string fn)).setCell { block := wb.heap.size, off := 1 } (.string fd) := ⟨_, rfl⟩
       have HF : Hid (T2 U X (.string fn) (.string fd) ∧ T2 U (w.heap.size + 1) (.string ⟨#[]⟩) (.string ⟨#[]⟩) ∧ Below w.heap.size w U) := by
         rw [hU, hX]
         have h1 := ((unhide HR).later (unhide HCwb)).lt
         exact ⟨(unhide HZwc).store _ _, ((unhide HR).later (unhide HCwc)).otherP wb.heap.size (by omega) _ _, below_store2 (unhide HUP _ (unhide HCwc)) (by omega) _ _⟩
       rw [← hU, ← hX]
       clear hU hX)
    | (obtain ⟨X, hX⟩ : ∃ X, X = wa.heap.size := ⟨_, rfl⟩
       obtain ⟨U, hU⟩ : ∃ U, U = (wc.setCell { block := wa.heap.size, off := 0 } (.string fn)).setCell { block := wa.heap.size, off := 1 } (.string fd) := ⟨_, rfl⟩
       have HF : Hid (T2 U X (.string fn) (.string fd) ∧ T2 U (w.heap.size + 1) (.string ⟨#[]⟩) (.string ⟨#[]⟩) ∧ Below w.heap.size w U) := by
         rw [hU, hX]
         have h1 := ((unhide HR).later (unhide HCwa)).lt
         exact ⟨(unhide HZwc).store _ _, ((unhide HR).later (unhide HCwc)).otherP wa.heap.size (by omega) _ _, below_store2 (unhide HUP _ (unhide HCwc)) (by omega) _ _⟩
       rw [← hU, ← hX]
       clear hU hX)
    | (obtain ⟨X, hX⟩ : ∃ X, X = V.heap.size := ⟨_, rfl⟩
       obtain ⟨U, hU⟩ : ∃ U, U = (wc.setCell { block := V.heap.size, off := 0 } (.string fn)).setCell { block := V.heap.size, off := 1 } (.string fd) := ⟨_, rfl⟩
       have HF : Hid (T2 U X (.string fn) (.string fd) ∧ T2 U (w.heap.size + 1) (.string ⟨#[]⟩) (.string ⟨#[]⟩) ∧ Below w.heap.size w U) := by
         rw [hU, hX]
         have h1 := (unhide HR).lt
         exact ⟨(unhide HZwc).store _ _, ((unhide HR).later (unhide HCwc)).otherP V.heap.size (by omega) _ _, below_store2 (unhide HUP _ (unhide HCwc)) (by omega) _ _⟩
       rw [← hU, ← hX]
       clear hU hX)
  all_goals
    have x0 := (unhide HF).1.c0; have x1 := (unhide HF).1.c1
    have r0 := (unhide HF).2.1.c0; have r1 := (unhide HF).2.1.c1; have rf0 := (unhide HF).2.1.f0; have rf1 := (unhide HF).2.1.f1
    go_wp2_with fail
    have hS := (unhide HF).2.1.store (.string fn) (.string fd)
    have hb := below_store2 (unhide HF).2.2 (by omega) (.string fn) (.string fd) (g := w.heap.size + 1)
    have v0 := hS.c0; have v1 := hS.c1
    exact bodyPost_ret (v := .agg #[.string fn, .string fd]) (w := store2 U (w.heap.size + 1) (.string fn) (.string fd)) (by simp [results, Tryz.results92, go_sem, v0, v1]) rfl ⟨rfl, hb⟩
end Go.Proofs.YtimihoonnglniaaGreatDoor

namespace Cub
theorem pow4 (m : Nat) : 10 ^ (4 * m) = 10000 ^ m := by rw [Nat.pow_mul]
theorem dval_cut4 (l : List UInt8) (m e f : Nat) (he : e + 4 * m = l.length) (hf : f ≤ e) :
    dval (l.drop f) = dval (l.drop e) + 10000 ^ m * dval ((l.drop f).take (e - f)) := by
  have h1 : l.drop f = (l.drop f).take (e - f) ++ l.drop e := by
    have := List.take_append_drop (e - f) (l.drop f)
    rw [List.drop_drop] at this
    rw [show f + (e - f) = e by omega] at this
    exact this.symm
  rw [← pow4]
  have hl : (l.drop e).length = 4 * m := by rw [List.length_drop]; omega
  rw [h1, dval_append, hl, ← h1, Nat.mul_comm, Nat.add_comm]
theorem seg4_lt {l : List UInt8} (h : digs l) (f k : Nat) (hk : k ≤ 4) : dval ((l.drop f).take k) < 10000 := by
  have h1 := dval_lt (digs_sub h f k)
  have h2 : ((l.drop f).take k).length ≤ 4 := by rw [List.length_take]; omega
  have h3 : 10 ^ ((l.drop f).take k).length ≤ 10 ^ 4 := Nat.pow_le_pow_right (by decide) h2
  omega
theorem cut4_step (l : List UInt8) (L : List Nat) (e f : Nat) (he : e + 4 * L.length = l.length) (hf : f = e - 4) (hd : digs l) (hL : limbs 10000 L)
    (hv : lval 10000 L = dval (l.drop e)) :
    limbs 10000 (L ++ [dval ((l.drop f).take (e - f))]) ∧ lval 10000 (L ++ [dval ((l.drop f).take (e - f))]) = dval (l.drop f) := by
  refine ⟨limbs_append.2 ⟨hL, fun x hx => ?_⟩, ?_⟩
  · rw [List.mem_singleton] at hx; subst hx; exact seg4_lt hd f _ (by omega)
  · rw [lval_snoc, hv, dval_cut4 l L.length e f he (by omega)]
end Cub
namespace Go.Proofs.YtimihoonnglniaaGreatDoor
open Go.RowKit

theorem Tryz.info3 : (Tryz.prog.info? 3).map (fun i => (i.zero, i.size, i.bytes)) = some (some (.int .i64 0), 1, 8) := by kernel_rfl

def i64s (l : List Nat) : List Value := l.map fun x : Nat => Value.int .i64 (x : Int)
theorem i64s_length (l : List Nat) : (i64s l).length = l.length := by simp [i64s]
theorem i64s_get (l : List Nat) (i : Nat) (h : i < l.length) : (i64s l)[i]? = some (.int .i64 (l[i] : Int)) := by simp [i64s, h]

/-- The call owns a row of these limbs. -/
def OwnI (w : World) (base : Nat) (v : Value) (l : List Nat) : Prop := w.ownsRow base 3 1 v l.length (i64s l)

/-- What is read of it in every later world. -/
def CellsI (w : World) (a : Option Addr) (l : List Nat) : Prop :=
  ∀ W, Below w.heap.size w W → ∀ i (hi : i < l.length), ∃ b, a = some ⟨b, 0, none⟩ ∧ W.cell? ⟨b, i, none⟩ = some (.int .i64 (l[i] : Int))

theorem OwnI.open {w : World} {base : Nat} {v : Value} {l : List Nat} (h : OwnI w base v l) : ∃ a cap, v = .slice a l.length cap ∧ l.length ≤ cap ∧ cap ≤ 9223372036854775807 ∧ CellsI w a l := by
  have h' : w.ownsRow base 3 1 v l.length (i64s l) := h
  rcases Joins.ownsRow_forms h' with ⟨rfl, h0⟩ | ⟨g, cap, rfl⟩
  · refine ⟨none, 0, by rw [h0], by omega, by omega, fun W hW i hi => by omega⟩
  · obtain ⟨hx, h2⟩ := id h'
    rcases h2 with ⟨e, _⟩ | ⟨g', cap', cur, e, hb, hg, hcap, hmax, hsz, htk⟩
    · cases e
    · simp only [Value.slice.injEq, Option.some.injEq, Addr.mk.injEq] at e
      obtain ⟨⟨rfl, _⟩, _, rfl⟩ := e
      refine ⟨some ⟨g, 0, none⟩, cap, rfl, hcap, hmax, fun W hW i hi => ⟨g, rfl, ?_⟩⟩
      have hlt : g < w.heap.size := (Array.getElem?_eq_some_iff.1 hg).1
      rw [hW.cell (p := ⟨g, i, none⟩) hlt, h'.cellAt i (by omega), i64s_get l i hi]

theorem OwnI.later {w w' : World} {base : Nat} {v : Value} {l : List Nat} (h : OwnI w base v l) (hb : Below w.heap.size w w') : OwnI w' base v l := by
  obtain ⟨hx, h2⟩ := h
  refine ⟨hx, ?_⟩
  rcases h2 with h2 | ⟨g, cap, cur, e, hbs, hg, r⟩
  · exact Or.inl h2
  · exact Or.inr ⟨g, cap, cur, e, hbs, (hb.block g (Array.getElem?_eq_some_iff.1 hg).1).trans hg, r⟩

theorem OwnI.mono {w : World} {base base' : Nat} {v : Value} {l : List Nat} (h : OwnI w base v l) (hb : base' ≤ base) : OwnI w base' v l := Joins.ownsRow_le h hb

/-- The first ones. -/
theorem OwnI.take {w : World} {base n cap : Nat} {a : Option Addr} {l : List Nat} (h : OwnI w base (.slice a n cap) l) (k : Nat) (hk : k ≤ n) : OwnI w base (.slice a k cap) (l.take k) := by
  obtain ⟨hx, h2⟩ := h
  rcases h2 with ⟨e, h0⟩ | ⟨g, cap', cur, e, hbs, hg, hcap, hmax, hsz, htk⟩
  · simp only [Value.slice.injEq] at e
    obtain ⟨rfl, rfl, rfl⟩ := e
    have : l = [] := List.length_eq_zero_iff.1 h0
    subst this
    have hk0 : k = 0 := by simpa using hk
    subst hk0
    exact World.ownsRow_nil _ _ _ _
  · simp only [Value.slice.injEq] at e
    obtain ⟨rfl, rfl, rfl⟩ := e
    have hl : (l.take k).length = k := by rw [List.length_take]; omega
    unfold OwnI
    rw [hl]
    refine ⟨by rw [i64s_length, hl]; omega, Or.inr ⟨g, cap, cur, rfl, hbs, hg, by omega, hmax, hsz, ?_⟩⟩
    rw [Nat.mul_one] at htk ⊢
    have e3 : cur.toList.take k = (cur.toList.take l.length).take k := by rw [List.take_take, Nat.min_eq_left hk]
    rw [e3, htk]
    simp [i64s, List.map_take]

/-- A slice's length, for a measure. -/
def lenOf : Value → Nat | .slice _ n _ => n | _ => 0

set_option maxRecDepth 100000 in
set_option maxHeartbeats 400000 in
/-- ref trim. -/
theorem refTrim_any (v : Value) (base : Nat) (l : List Nat) (w : World) (h : OwnI w base v l) :
    Calls Tryz.prog 57 #[v] w fun e w' => ∃ v', e = .returned v' ∧ OwnI w base v' (Cub.trimN l) ∧ w' = w := by
  obtain ⟨a, cap, rfl, hc, hm, hcells⟩ := h.open
  have H := hide h
  have HC := hide hcells
  clear h hcells
  obtain ⟨n, hn⟩ : ∃ n, n = l.length := ⟨_, rfl⟩
  rw [← hn] at H hc ⊢
  have HN := hide hn
  clear hn
  go_enter Tryz.func57, Tryz.ntmps57
  go_wp2
  go_loop [0] (fun t => ∃ k : Nat, k ≤ n ∧ t = .slice a k cap ∧ Hid (Cub.trimN (l.take k) = Cub.trimN l)) (fun t => lenOf t)
  case atStart => exact ⟨n, Nat.le_refl _, rfl, by rw [List.take_of_length_le (by have := unhide HN; omega)]; exact rfl⟩
  case round =>
    obtain ⟨k, hk, rfl, ht⟩ := hrel
    have HT := ht
    clear ht
    by_cases hk0 : k = 0
    · subst hk0
      have E : Hid (Cub.trimN l = l.take 0) := by rw [← unhide HT]; exact rfl
      go_wp2
      go_ret
      exact ⟨_, rfl, by rw [unhide E]; exact (unhide H).take 0 (Nat.zero_le _), rfl⟩
    · obtain ⟨j, rfl⟩ : ∃ j, k = j + 1 := ⟨k - 1, by omega⟩
      have hlt : j < l.length := by have := unhide HN; omega
      obtain ⟨b, rfl, hx⟩ := unhide HC w (Below.refl _ _) j hlt
      by_cases hz : l[j] = 0
      · rw [hz] at hx
        have E : Hid (Cub.trimN (l.take j) = Cub.trimN l) := by
          rw [← unhide HT, List.take_succ_eq_append_getElem hlt, hz, Cub.trimN_snoc_zero]; exact rfl
        clear hz
        go_wp2
        go_round
        case rel => exact ⟨j, by omega, by first | rfl | go_num, E⟩
        case measure => simp [lenOf]
      · have E : Hid (Cub.trimN l = l.take (j + 1)) := by
          rw [← unhide HT, List.take_succ_eq_append_getElem hlt, Cub.trimN_snoc _ _ hz]; exact rfl
        have hz' : ((l[j] : Int) == 0) = false := by rw [beq_eq_false_iff_ne]; omega
        clear hz
        go_wp2
        go_ret
        exact ⟨_, rfl, by rw [unhide E]; exact (unhide H).take (j + 1) hk, rfl⟩
end Go.Proofs.YtimihoonnglniaaGreatDoor

namespace Go.Proofs.YtimihoonnglniaaGreatDoor
open Go.RowKit

theorem cut4_start (l : List UInt8) (n : Nat) (h : l.length = n) : (n : Int) = (n : Int) - 4 * (([] : List Nat).length : Int) ∧ Cub.limbs 10000 [] ∧ Cub.lval 10000 [] = Cub.dval (l.drop (n - 4 * ([] : List Nat).length)) := by
  subst h
  refine ⟨by simp, fun _ h => (by cases h), ?_⟩
  simp [Cub.lval, Cub.dval]

set_option maxRecDepth 100000 in
set_option maxHeartbeats 800000 in
theorem refLimbs_any (s : ByteArray) (w : World) (hs : s.size ≤ 1000000000) (hd : Cub.digs s.data.toList) :
    Calls Tryz.prog 56 #[.string s] w fun e w' => ∃ v l, e = .returned v ∧ OwnI w' w.heap.size v l ∧ Cub.normal 10000 l ∧ Cub.lval 10000 l = Cub.dval s.data.toList ∧ Below w.heap.size w w' := by
  have HD := hide hd
  clear hd
  obtain ⟨i0, hi, hz0, hz1, hz2⟩ := info_parts Tryz.info3
  go_enter Tryz.func56, Tryz.ntmps56
  go_wp2
  go_loopw [3, 4] (fun v i wr => ∃ (L : List Nat) (x : Int), i = .int .i64 x ∧ x ≤ 1000000000 ∧ -4 < x ∧ L.length ≤ 400000000 ∧ Hid (x = (s.size : Int) - 4 * (L.length : Int) ∧ Cub.limbs 10000 L ∧ Cub.lval 10000 L = Cub.dval (s.data.toList.drop (s.size - 4 * L.length))) ∧
      wr.ownsRow w.heap.size 3 1 v L.length (i64s L) ∧ Below w.heap.size w wr) (fun _ i _ => (intOf i).toNat)
  case atStart => exact ⟨[], (s.size : Int), rfl, by omega, by omega, by simp, cut4_start _ _ (list_len s), World.ownsRow_nil _ _ _ _, Below.refl _ _⟩
  case round =>
    obtain ⟨L, x, rfl, hx1, hx4, hLl, HX, hown, hb⟩ := hrel
    by_cases hx : 0 < x
    · obtain ⟨e, rfl⟩ := Int.eq_ofNat_of_zero_le (Int.le_of_lt hx)
      have he0 : Hid (e + 4 * L.length = s.size) := by have := (unhide HX).1; exact (by omega : e + 4 * L.length = s.size)
      have hes : e ≤ s.size := by have := unhide he0; omega
      have HDs : Hid (∀ k (hk : k < s.size), 48 ≤ s[k].toNat ∧ s[k].toNat ≤ 57) := fun k hk => unhide HD s[k] (by rw [← list_get s k hk]; exact List.getElem_mem _)
      by_cases h4 : 4 ≤ e
      all_goals
        go_wp2
        go_loop [6, 7] (fun y i => ∃ (k n : Nat), e - 4 ≤ k ∧ k ≤ e ∧ i = .int .i64 k ∧ y = .int .i64 n ∧ n < 10000 ∧ Hid (n = Cub.dval ((s.data.toList.drop (e - 4)).take (k - (e - 4))))) (fun _ i => e - (intOf i).toNat)
        case atStart => exact ⟨e - 4, 0, Nat.le_refl _, by omega, by go_num, rfl, by omega, by rw [Nat.sub_self]; exact rfl⟩
        case round =>
          obtain ⟨k, n, hk1, hk2, rfl, rfl, hn, HN⟩ := hrel
          by_cases hlt : k < e
          · have hks : k < s.size := by omega
            obtain ⟨d1, d2⟩ := unhide HDs k hks
            have HN' : Hid (10 * n + (s[k].toNat - 48) = Cub.dval ((s.data.toList.drop (e - 4)).take (k + 1 - (e - 4)))) := by
              rw [Cub.seg_succ _ _ _ hk1 (by rw [list_len]; exact hks), ← unhide HN, Nat.mul_comm]; exact rfl
            have hn' : 10 * n + (s[k].toNat - 48) < 10000 := by rw [unhide HN']; exact Cub.seg4_lt (unhide HD) _ _ (by omega)
            go_wp2
            go_round
            case rel => exact ⟨k + 1, 10 * n + (s[k].toNat - 48), by omega, by omega, by go_num, by go_num, hn', HN'⟩
            case measure => simp [intOf]; omega
          · have hke : k = e := by omega
            subst hke
            clear hlt
            go_wp2_with (at_builtin; refine wpList_append_own _ rfl _ _ 79 rfl w.heap.size 3 i0 (.int .i64 0) 1 8 Tryz.underlying79 hi hz0 hz1 hz2 rfl (by decide) _ _ _ rfl (hown.alloc _) ⟨wr.heap.size, 0, none⟩ 1 1 [.int .i64 (n : Int)] rfl rfl (cell_one_new _ _ _) (fun x hx => by simp at hx; subst hx; rfl) (by unfold maxLen; omega) (by omega) (by have := hb.size; simp at this ⊢; omega) ?_; intro v' w1 hown' hgrow _)
            have hsz := hb.size
            have hb' : Below w.heap.size w w1 := (hb.alloc hsz _).grown hgrow (by simp; omega) (fun j hj => (hown.lt j hj).1)
            have hown2 : w1.ownsRow w.heap.size 3 1 v' (L ++ [n]).length (i64s (L ++ [n])) := by simpa [i64s] using hown'
            have HS := Cub.cut4_step s.data.toList L k (k - 4) (by rw [list_len]; exact unhide he0) rfl (unhide HD) (unhide HX).2.1 (by have := (unhide HX).2.2; rw [this]; congr 2; have := unhide he0; omega)
            rw [← unhide HN] at HS
            have HS' := hide HS
            clear hgrow hown' HS hown hsz
            go_wp2
            go_roundw
            case rel => exact ⟨L ++ [n], (k : Int) - 4, rfl, by omega, by omega, by have := unhide he0; simp; omega, ⟨by have := unhide he0; simp; omega, (unhide HS').1, by rw [(unhide HS').2]; congr 2; have := unhide he0; simp; omega⟩, hown2, hb'⟩
            case measure => simp [intOf]; omega
    · have hfin : Cub.lval 10000 (Cub.trimN L) = Cub.dval s.data.toList ∧ Cub.normal 10000 (Cub.trimN L) := by
        obtain ⟨h1, h2, h3⟩ := unhide HX
        obtain ⟨t1, t2, _⟩ := Cub.lval_trim 10000 _ L rfl
        refine ⟨?_, t2 h2⟩
        rw [t1, h3, show s.size - 4 * L.length = 0 by omega, List.drop_zero]
      have HF := hide hfin
      have HO : Hid (OwnI wr w.heap.size u3 L) := hown
      clear hfin hown
      go_wp2_with (go_at_call 57; refine (refTrim_any _ _ L _ (unhide HO)).mono ?_; rintro e w2 ⟨v', rfl, hrow2, rfl⟩)
      go_ret
      exact ⟨v', _, rfl, hrow2, (unhide HF).2, (unhide HF).1, hb⟩
end Go.Proofs.YtimihoonnglniaaGreatDoor

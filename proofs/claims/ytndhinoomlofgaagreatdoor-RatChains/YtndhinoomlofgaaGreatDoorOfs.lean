/- rat.Of and the document's Of. -/
import Derived.Test.YtndhinoomlofgaaGreatDoorRefMem
import Derived.Test.YtndhinoomlofgaaGreatDoorShelf
import Derived.Test.YtndhinoomlofgaaGreatDoorRefNew
import Derived.Lib.ItoaLen
namespace Go.Proofs.YtndhinoomlofgaaGreatDoor
open Go.RowKit Go.Sort

theorem below_grow (w : World) (k : Nat) (os : Array Obj) : Below w.heap.size w (grow (w.drewN k) os) := by
  refine ⟨rfl, rfl, rfl, ?_, fun i hi => ?_⟩
  · simp [grow, World.drewN]
  · simp only [grow]
    rw [Array.getElem?_append_left (by simpa [World.drewN] using hi)]; rfl

set_option maxHeartbeats 6400000 in
set_option maxRecDepth 100000 in
theorem intFormatUint_any (u : Nat) (hu64 : u < 18446744073709551616) (w : World) (htab : Tab w) :
    Calls Tryz.prog 171 #[.int .u64 u, .int .i64 10] w fun e w' => e = .returned (.string ⟨(Lib.decDigits u).toArray⟩) ∧ Below w.heap.size w w' := by
  by_cases hs : u < 100
  · clear htab
    go_enter Tryz.func171, Tryz.ntmps171
    go_wp2_with (go_at_call 192; refine (Tryz.internal_strconv_small u hs _).mono ?_; rintro e w' ⟨rfl, rfl⟩)
    go_ret
    exact ⟨rfl, Below.refl _ _⟩
  · have hu1 : 1 ≤ u := by omega
    have hnd20 : Lib.nDigits u ≤ 20 := by have := Lib.numDigits_eq u hu1 hu64; split at this <;> omega
    have hal : Tryz.prog.arrayLen 186 = 24 := by kernel_rfl
    have hsl : ∀ W, (Instr.sliceAt 186 (.pointer (some ⟨w.heap.size, 0, none⟩)) none (some (.int .i64 (Lib.nDigits u : Int))) none).run Tryz.prog W = .ok (.slice (some ⟨w.heap.size, 0, none⟩) (Lib.nDigits u) 24) W := fun W => by
      rw [run_sliceAt_array_h W 186 ⟨w.heap.size, 0, none⟩ (by kernel_rfl) .i64 (Lib.nDigits u : Int) (by omega) (by rw [hal]; omega)]
      go_simp
    have hH0 := Lib.holds_zero0 w 186 (Lib.nDigits u) (by omega)
    have hfmt := Tryz.internal_strconv_formatBase10 w.heap.size 0 24 u (Array.replicate (Lib.nDigits u) 0) (w.alloc (.cells Lib.zeros24 186)) hH0 (by rw [Array.size_replicate]; exact Lib.lt_pow_nDigits u) hu64 (by rw [Array.size_replicate]; omega)
    rw [Array.size_replicate] at hfmt
    have HH0 := Lib.hid hH0
    have HT := hide htab
    have iu : (100 : Int) ≤ (u : Int) := by omega
    clear hH0 hal htab
    go_enter Tryz.func171, Tryz.ntmps171
    go_wp2_with (first
      | (go_at_call 193; refine (Tryz.internal_strconv_numDigits u hu1 hu64 _ (Lib.tabIs_alloc (unhide HT) _)).mono ?_; rintro e w' ⟨rfl, rfl⟩))
    go_at_call 194
    refine hfmt.mono ?_
    rintro e w' ⟨rfl, k, v', dk, rfl, hF⟩
    have hcv : (convert 130 9 (.slice (some ⟨w.heap.size, 0, none⟩) (Lib.nDigits u) 24)).run Tryz.prog ((putRow (fun (b : UInt8) => Value.int .u8 (b.toNat : Int)) (w.alloc (.cells Lib.zeros24 186)) w.heap.size 0 dk).drewN k) = .ok (.string ⟨(Lib.decDigits u).toArray⟩) ((putRow (fun (b : UInt8) => Value.int .u8 (b.toNat : Int)) (w.alloc (.cells Lib.zeros24 186)) w.heap.size 0 dk).drewN k) := by
      have h := run_convert_bytes_back (P := Tryz.prog) ((putRow (fun (b : UInt8) => Value.int .u8 (b.toNat : Int)) (w.alloc (.cells Lib.zeros24 186)) w.heap.size 0 dk).drewN k) 130 9 5 ⟨w.heap.size, 0, none⟩ 24 (Lib.decDigits u) Tryz.underlying130 Tryz.underlying5 Tryz.underlying9 (fun j hj => by
        rw [Lib.row_is_numeral hF j hj, Lib.add_plain, World.cell?_drewN]
        exact cell?_putRow (fun (b : UInt8) => Value.int .u8 (b.toNat : Int)) _ w.heap.size 0 _ dk HH0.out (by rw [hF.size, Array.size_replicate]) j (by rw [hF.size]; rw [Lib.decDigits_length] at hj; exact hj))
      rw [Lib.decDigits_length] at h
      exact h
    go_wp2
    go_ret
    refine ⟨rfl, ?_⟩
    obtain ⟨os', _, e⟩ := putRow_grow_new (fun (b : UInt8) => Value.int .u8 (b.toNat : Int)) w #[.cells Lib.zeros24 186] w.heap.size 0 dk (Nat.le_refl _)
    have e2 : (putRow (fun (b : UInt8) => Value.int .u8 (b.toNat : Int)) (w.alloc (.cells Lib.zeros24 186)) w.heap.size 0 dk).drewN k = grow (w.drewN k) os' := by
      rw [alloc_eq_grow, e]; rfl
    rw [e2]
    exact below_grow w k os'

theorem formatUint_any (u : Nat) (hu64 : u < 18446744073709551616) (w : World) (htab : Tab w) :
    Calls Tryz.prog 134 #[.int .u64 u, .int .i64 10] w fun e w' => e = .returned (.string ⟨(Lib.decDigits u).toArray⟩) ∧ Below w.heap.size w w' := by
  have HT := hide htab
  clear htab
  go_enter Tryz.func134, Tryz.ntmps134
  go_wp2_with (go_at_call 171; refine (intFormatUint_any u hu64 _ (unhide HT)).mono ?_; rintro e w' ⟨rfl, hb⟩)
  go_ret
  exact ⟨rfl, hb⟩
theorem natOf_any (u : Nat) (hu64 : u < 18446744073709551616) (w : World) (htab : Tab w) :
    Calls Tryz.prog 81 #[.int .u64 u] w fun e w' => e = .returned (.string ⟨(Lib.decDigits u).toArray⟩) ∧ Below w.heap.size w w' := by
  have HT := hide htab
  clear htab
  go_enter Tryz.func81, Tryz.ntmps81
  go_wp2_with (go_at_call 134; refine (formatUint_any u hu64 _ (unhide HT)).mono ?_; rintro e w' ⟨rfl, hb⟩)
  go_ret
  exact ⟨rfl, hb⟩
end Go.Proofs.YtndhinoomlofgaaGreatDoor

namespace Go.Proofs.YtndhinoomlofgaaGreatDoor
open Go.RowKit

theorem pow_grow (e : Nat) (he : 20 ≤ e) : 18446744073709551616 ≤ 10 ^ e := Nat.le_trans (by decide : 18446744073709551616 ≤ 10 ^ 20) (Nat.pow_le_pow_right (by decide) he)
theorem u64_600 (N : Nat) (h : N < 18446744073709551616) : N < 10 ^ 600 := Nat.lt_of_lt_of_le h (pow_grow 600 (by decide))
set_option maxRecDepth 100000 in
set_option maxHeartbeats 2000000 in
theorem ratOf_pos (N : Nat) (w : World) (h2 : N < 9223372036854775808) (htab : Tab w) :
    Calls Tryz.prog 21 #[.int .i64 (N : Int)] w fun r w' => r = .returned (.agg #[.string (sT false N), .string ⟨#[49]⟩]) ∧ Below w.heap.size w w' := by
  obtain ⟨V, hV⟩ : ∃ V, V = w.alloc (.cells #[.string ⟨#[]⟩, .string ⟨#[]⟩] 23) := ⟨_, rfl⟩
  have hbV : Below w.heap.size w V := by rw [hV]; exact (Below.refl _ _).alloc (Nat.le_refl _) _
  have HR : Hid (T2 V w.heap.size (.string ⟨#[]⟩) (.string ⟨#[]⟩) ∧ Below w.heap.size w V) := ⟨by rw [hV]; exact ⟨by simp [go_sem], by simp [go_sem], by simp [go_sem], by simp [go_sem]⟩, hbV⟩
  have HV := hide hV
  have hN : N < 10 ^ 600 := u64_600 N (by omega)
  have HOF : Hid (Calls Tryz.prog 81 #[.int .u64 (N : Int)] V fun e w' => e = .returned (.string (tb N)) ∧ Below V.heap.size V w') := by
    have := natOf_any N (by omega) V (htab.later hbV)
    rwa [show (⟨(Lib.decDigits N).toArray⟩ : ByteArray) = tb N from bytes_ext (by rw [tb_list N hN])] at this
  have HSG : Hid (∀ W, Calls Tryz.prog 80 #[.bool false, .string (tb N)] W fun e w' => e = .returned (.string (sT false N)) ∧ w' = W) := fun W => signed_any false (tb N) W (by have := (tb_digs N hN).2; omega)
  have k0 : ¬ (N : Int) < 0 := by omega
  skip
  skip
  clear hN htab hbV
  generalize sT false N = sn at *
  generalize tb N = tn at *
  go_enter Tryz.func21, Tryz.ntmps21
  go_upto_region 4 with fail
  skip
  rw [← unhide HV]
  clear hV HV
  go_wp2_with (first
    | (go_at_call 81; go_must (refine (unhide HOF).mono ?_; rintro e W9 ⟨rfl, hb1⟩; have HR1 : Hid (T2 W9 w.heap.size (.string ⟨#[]⟩) (.string ⟨#[]⟩) ∧ Below w.heap.size w W9) := ⟨(unhide HR).1.later hb1, (unhide HR).2.trans (hb1.mono (unhide HR).2.size)⟩; clear hb1))
    | (go_at_call 80; go_must (refine (unhide HSG _).mono ?_; rintro e wB ⟨rfl, hwB⟩; obtain rfl : W9 = wB := hwB.symm; have r0 := (unhide HR1).1.c0; have r1 := (unhide HR1).1.c1; have rf0 := (unhide HR1).1.f0; have rf1 := (unhide HR1).1.f1)))
  have hS := (unhide HR1).1.store (.string sn) (.string ⟨#[49]⟩)
  have hb : Below w.heap.size w (store2 W9 w.heap.size (.string sn) (.string ⟨#[49]⟩)) := below_store2 (unhide HR1).2 (Nat.le_refl _) _ _
  have u0 := hS.c0; have u1 := hS.c1
  exact bodyPost_ret (v := .agg #[.string sn, .string ⟨#[49]⟩]) (w := store2 W9 w.heap.size (.string sn) (.string ⟨#[49]⟩)) (by simp [results, Tryz.results21, go_sem, u0, u1]) rfl ⟨rfl, hb⟩

end Go.Proofs.YtndhinoomlofgaaGreatDoor

/- rat.Of and the document's Of. -/
import Derived.Test.YtoinadnpdbaamaaGreatDoorRefNew
import Derived.Test.YtoinadnpdbaamaaGreatDoorRefOf
namespace Go.Proofs.YtoinadnpdbaamaaGreatDoor
open Go.RowKit

theorem pow_grow (e : Nat) (he : 20 ≤ e) : 18446744073709551616 ≤ 10 ^ e := Nat.le_trans (by decide : 18446744073709551616 ≤ 10 ^ 20) (Nat.pow_le_pow_right (by decide) he)
theorem u64_600 (N : Nat) (h : N < 18446744073709551616) : N < 10 ^ 600 := Nat.lt_of_lt_of_le h (pow_grow 600 (by decide))
theorem wrap_back (N : Nat) (h1 : 1 ≤ N) (h2 : N ≤ 9223372036854775808) : IntKind.u64.wrap (-IntKind.u64.wrap (-(N : Int))) = (N : Int) := by
  have e : ∀ x : Int, IntKind.u64.wrap x = x % 18446744073709551616 := fun x => rfl
  rw [e, e]; omega

set_option maxRecDepth 100000 in
set_option maxHeartbeats 2000000 in
theorem ratOf_neg (N : Nat) (w : World) (h1 : 1 ≤ N) (h2 : N ≤ 9223372036854775808) (htab : Tab w) :
    Calls Tryz.prog 19 #[.int .i64 (-(N : Int))] w fun r w' => r = .returned (.agg #[.string (sT true N), .string ⟨#[49]⟩]) ∧ Below w.heap.size w w' := by
  obtain ⟨V, hV⟩ : ∃ V, V = w.alloc (.cells #[.string ⟨#[]⟩, .string ⟨#[]⟩] 23) := ⟨_, rfl⟩
  have hbV : Below w.heap.size w V := by rw [hV]; exact (Below.refl _ _).alloc (Nat.le_refl _) _
  have HR : Hid (T2 V w.heap.size (.string ⟨#[]⟩) (.string ⟨#[]⟩) ∧ Below w.heap.size w V) := ⟨by rw [hV]; exact ⟨by simp [go_sem], by simp [go_sem], by simp [go_sem], by simp [go_sem]⟩, hbV⟩
  have HV := hide hV
  have hN : N < 10 ^ 600 := u64_600 N (by omega)
  have HOF : Hid (Calls Tryz.prog 79 #[.int .u64 (N : Int)] V fun e w' => e = .returned (.string (tb N)) ∧ Below V.heap.size V w') := by
    have := natOf_any N (by omega) V (htab.later hbV)
    rwa [show (⟨(Lib.decDigits N).toArray⟩ : ByteArray) = tb N from bytes_ext (by rw [tb_list N hN])] at this
  have HSG : Hid (∀ W, Calls Tryz.prog 78 #[.bool true, .string (tb N)] W fun e w' => e = .returned (.string (sT true N)) ∧ w' = W) := fun W => signed_any true (tb N) W (by have := (tb_digs N hN).2; omega)
  have k0 : -(N : Int) < 0 := by omega
  have k1 : 0 < N := by omega
  have HW : Hid (IntKind.u64.wrap (-IntKind.u64.wrap (-(N : Int))) = (N : Int)) := wrap_back N h1 h2
  clear hN htab hbV
  generalize sT true N = sn at *
  generalize tb N = tn at *
  go_enter Tryz.func19, Tryz.ntmps19
  go_upto_region 4 with fail
  rw [unhide HW]
  rw [← unhide HV]
  clear hV HV
  go_wp2_with (first
    | (go_at_call 79; go_must (refine (unhide HOF).mono ?_; rintro e W9 ⟨rfl, hb1⟩; have HR1 : Hid (T2 W9 w.heap.size (.string ⟨#[]⟩) (.string ⟨#[]⟩) ∧ Below w.heap.size w W9) := ⟨(unhide HR).1.later hb1, (unhide HR).2.trans (hb1.mono (unhide HR).2.size)⟩; clear hb1))
    | (go_at_call 78; go_must (refine (unhide HSG _).mono ?_; rintro e wB ⟨rfl, hwB⟩; obtain rfl : W9 = wB := hwB.symm; have r0 := (unhide HR1).1.c0; have r1 := (unhide HR1).1.c1; have rf0 := (unhide HR1).1.f0; have rf1 := (unhide HR1).1.f1)))
  have hS := (unhide HR1).1.store (.string sn) (.string ⟨#[49]⟩)
  have hb : Below w.heap.size w (store2 W9 w.heap.size (.string sn) (.string ⟨#[49]⟩)) := below_store2 (unhide HR1).2 (Nat.le_refl _) _ _
  have u0 := hS.c0; have u1 := hS.c1
  exact bodyPost_ret (v := .agg #[.string sn, .string ⟨#[49]⟩]) (w := store2 W9 w.heap.size (.string sn) (.string ⟨#[49]⟩)) (by simp [results, Tryz.results19, go_sem, u0, u1]) rfl ⟨rfl, hb⟩

set_option maxRecDepth 100000 in
set_option maxHeartbeats 2000000 in
theorem ratOf_pos (N : Nat) (w : World) (h2 : N < 9223372036854775808) (htab : Tab w) :
    Calls Tryz.prog 19 #[.int .i64 (N : Int)] w fun r w' => r = .returned (.agg #[.string (sT false N), .string ⟨#[49]⟩]) ∧ Below w.heap.size w w' := by
  obtain ⟨V, hV⟩ : ∃ V, V = w.alloc (.cells #[.string ⟨#[]⟩, .string ⟨#[]⟩] 23) := ⟨_, rfl⟩
  have hbV : Below w.heap.size w V := by rw [hV]; exact (Below.refl _ _).alloc (Nat.le_refl _) _
  have HR : Hid (T2 V w.heap.size (.string ⟨#[]⟩) (.string ⟨#[]⟩) ∧ Below w.heap.size w V) := ⟨by rw [hV]; exact ⟨by simp [go_sem], by simp [go_sem], by simp [go_sem], by simp [go_sem]⟩, hbV⟩
  have HV := hide hV
  have hN : N < 10 ^ 600 := u64_600 N (by omega)
  have HOF : Hid (Calls Tryz.prog 79 #[.int .u64 (N : Int)] V fun e w' => e = .returned (.string (tb N)) ∧ Below V.heap.size V w') := by
    have := natOf_any N (by omega) V (htab.later hbV)
    rwa [show (⟨(Lib.decDigits N).toArray⟩ : ByteArray) = tb N from bytes_ext (by rw [tb_list N hN])] at this
  have HSG : Hid (∀ W, Calls Tryz.prog 78 #[.bool false, .string (tb N)] W fun e w' => e = .returned (.string (sT false N)) ∧ w' = W) := fun W => signed_any false (tb N) W (by have := (tb_digs N hN).2; omega)
  have k0 : ¬ (N : Int) < 0 := by omega
  skip
  skip
  clear hN htab hbV
  generalize sT false N = sn at *
  generalize tb N = tn at *
  go_enter Tryz.func19, Tryz.ntmps19
  go_upto_region 4 with fail
  skip
  rw [← unhide HV]
  clear hV HV
  go_wp2_with (first
    | (go_at_call 79; go_must (refine (unhide HOF).mono ?_; rintro e W9 ⟨rfl, hb1⟩; have HR1 : Hid (T2 W9 w.heap.size (.string ⟨#[]⟩) (.string ⟨#[]⟩) ∧ Below w.heap.size w W9) := ⟨(unhide HR).1.later hb1, (unhide HR).2.trans (hb1.mono (unhide HR).2.size)⟩; clear hb1))
    | (go_at_call 78; go_must (refine (unhide HSG _).mono ?_; rintro e wB ⟨rfl, hwB⟩; obtain rfl : W9 = wB := hwB.symm; have r0 := (unhide HR1).1.c0; have r1 := (unhide HR1).1.c1; have rf0 := (unhide HR1).1.f0; have rf1 := (unhide HR1).1.f1)))
  have hS := (unhide HR1).1.store (.string sn) (.string ⟨#[49]⟩)
  have hb : Below w.heap.size w (store2 W9 w.heap.size (.string sn) (.string ⟨#[49]⟩)) := below_store2 (unhide HR1).2 (Nat.le_refl _) _ _
  have u0 := hS.c0; have u1 := hS.c1
  exact bodyPost_ret (v := .agg #[.string sn, .string ⟨#[49]⟩]) (w := store2 W9 w.heap.size (.string sn) (.string ⟨#[49]⟩)) (by simp [results, Tryz.results19, go_sem, u0, u1]) rfl ⟨rfl, hb⟩

set_option maxRecDepth 100000 in
set_option maxHeartbeats 2000000 in
theorem refWhole_neg (N : Nat) (w : World) (h1 : 1 ≤ N) (h2 : N ≤ 9223372036854775808) :
    Calls Tryz.prog 67 #[.int .i64 (-(N : Int))] w fun r w' => r = .returned (.agg #[.bool true, .string (tb N), .string ⟨#[49]⟩]) ∧ Below w.heap.size w w' := by
  obtain ⟨V, hV⟩ : ∃ V, V = w.alloc (.cells #[.bool false, .string ⟨#[]⟩, .string ⟨#[]⟩] 61) := ⟨_, rfl⟩
  have hbV : Below w.heap.size w V := by rw [hV]; exact (Below.refl _ _).alloc (Nat.le_refl _) _
  have HR : Hid (FBox V w.heap.size (.bool false) (.string ⟨#[]⟩) (.string ⟨#[]⟩) ∧ Below w.heap.size w V) := ⟨by rw [hV]; exact ⟨by simp [go_sem], by simp [go_sem], by simp [go_sem], by simp [go_sem], by simp [go_sem], by simp [go_sem]⟩, hbV⟩
  have HV := hide hV
  have hN : N < 10 ^ 600 := u64_600 N (by omega)
  have HOF : Hid (∀ u : Int, u = (N : Int) → Calls Tryz.prog 125 #[.int .u64 u] V fun e w' => e = .returned (.string (tb N)) ∧ Below V.heap.size V w') := fun u hu => by
    subst hu
    have := refOf_any N (by omega) V
    rwa [show (⟨(Lib.decDigits N).toArray⟩ : ByteArray) = tb N from bytes_ext (by rw [tb_list N hN])] at this
  have k0 : -(N : Int) < 0 := by omega
  have k1 : 0 < N := by omega
  clear hN hbV
  generalize tb N = tn at *
  go_enter Tryz.func67, Tryz.ntmps67
  go_upto_region 2 with fail
  rw [← unhide HV]
  clear hV HV
  go_wp2_with (go_at_call 125; go_must (refine (unhide HOF _ (by omega)).mono ?_; rintro e W9 ⟨rfl, hb1⟩; have HR1 : Hid (FBox W9 w.heap.size (.bool false) (.string ⟨#[]⟩) (.string ⟨#[]⟩) ∧ Below w.heap.size w W9) := ⟨(unhide HR).1.later hb1, (unhide HR).2.trans (hb1.mono (unhide HR).2.size)⟩; clear hb1; have r0 := (unhide HR1).1.c0; have r1 := (unhide HR1).1.c1; have r2 := (unhide HR1).1.c2; have rf0 := (unhide HR1).1.f0; have rf1 := (unhide HR1).1.f1; have rf2 := (unhide HR1).1.f2))
  have hS := (unhide HR1).1.store (.bool true) (.string tn) (.string ⟨#[49]⟩)
  have hb : Below w.heap.size w (store3 W9 w.heap.size (.bool true) (.string tn) (.string ⟨#[49]⟩)) := below_store3 (unhide HR1).2 (Nat.le_refl _) _ _ _
  have u0 := hS.c0; have u1 := hS.c1; have u2 := hS.c2
  exact bodyPost_ret (v := .agg #[.bool true, .string tn, .string ⟨#[49]⟩]) (w := store3 W9 w.heap.size (.bool true) (.string tn) (.string ⟨#[49]⟩)) (by simp [results, Tryz.results67, go_sem, u0, u1, u2]) rfl ⟨rfl, hb⟩

set_option maxRecDepth 100000 in
set_option maxHeartbeats 2000000 in
theorem refWhole_pos (N : Nat) (w : World) (h2 : N < 9223372036854775808) :
    Calls Tryz.prog 67 #[.int .i64 (N : Int)] w fun r w' => r = .returned (.agg #[.bool false, .string (tb N), .string ⟨#[49]⟩]) ∧ Below w.heap.size w w' := by
  obtain ⟨V, hV⟩ : ∃ V, V = w.alloc (.cells #[.bool false, .string ⟨#[]⟩, .string ⟨#[]⟩] 61) := ⟨_, rfl⟩
  have hbV : Below w.heap.size w V := by rw [hV]; exact (Below.refl _ _).alloc (Nat.le_refl _) _
  have HR : Hid (FBox V w.heap.size (.bool false) (.string ⟨#[]⟩) (.string ⟨#[]⟩) ∧ Below w.heap.size w V) := ⟨by rw [hV]; exact ⟨by simp [go_sem], by simp [go_sem], by simp [go_sem], by simp [go_sem], by simp [go_sem], by simp [go_sem]⟩, hbV⟩
  have HV := hide hV
  have hN : N < 10 ^ 600 := u64_600 N (by omega)
  have HOF : Hid (∀ u : Int, u = (N : Int) → Calls Tryz.prog 125 #[.int .u64 u] V fun e w' => e = .returned (.string (tb N)) ∧ Below V.heap.size V w') := fun u hu => by
    subst hu
    have := refOf_any N (by omega) V
    rwa [show (⟨(Lib.decDigits N).toArray⟩ : ByteArray) = tb N from bytes_ext (by rw [tb_list N hN])] at this
  have k0 : ¬ (N : Int) < 0 := by omega
  skip
  clear hN hbV
  generalize tb N = tn at *
  go_enter Tryz.func67, Tryz.ntmps67
  go_upto_region 3 with fail
  rw [← unhide HV]
  clear hV HV
  go_wp2_with (go_at_call 125; go_must (refine (unhide HOF _ (by omega)).mono ?_; rintro e W9 ⟨rfl, hb1⟩; have HR1 : Hid (FBox W9 w.heap.size (.bool false) (.string ⟨#[]⟩) (.string ⟨#[]⟩) ∧ Below w.heap.size w W9) := ⟨(unhide HR).1.later hb1, (unhide HR).2.trans (hb1.mono (unhide HR).2.size)⟩; clear hb1; have r0 := (unhide HR1).1.c0; have r1 := (unhide HR1).1.c1; have r2 := (unhide HR1).1.c2; have rf0 := (unhide HR1).1.f0; have rf1 := (unhide HR1).1.f1; have rf2 := (unhide HR1).1.f2))
  have hS := (unhide HR1).1.store (.bool false) (.string tn) (.string ⟨#[49]⟩)
  have hb : Below w.heap.size w (store3 W9 w.heap.size (.bool false) (.string tn) (.string ⟨#[49]⟩)) := below_store3 (unhide HR1).2 (Nat.le_refl _) _ _ _
  have u0 := hS.c0; have u1 := hS.c1; have u2 := hS.c2
  exact bodyPost_ret (v := .agg #[.bool false, .string tn, .string ⟨#[49]⟩]) (w := store3 W9 w.heap.size (.bool false) (.string tn) (.string ⟨#[49]⟩)) (by simp [results, Tryz.results67, go_sem, u0, u1, u2]) rfl ⟨rfl, hb⟩

set_option maxRecDepth 100000 in
set_option maxHeartbeats 2000000 in
theorem refOf_of (n : Int) (b : Bool) (t : ByteArray) (w : World) (ht : t.size ≤ 600) (hw : ∀ W, Calls Tryz.prog 67 #[.int .i64 n] W fun r w' => r = .returned (.agg #[.bool b, .string t, .string ⟨#[49]⟩]) ∧ Below W.heap.size W w') :
    Calls Tryz.prog 20 #[.int .i64 n] w fun r w' => r = .returned (.agg #[.string (if b then ⟨#[45]⟩ ++ t else t), .string ⟨#[49]⟩]) ∧ Below w.heap.size w w' := by
  obtain ⟨V, hV⟩ : ∃ V, V = w.alloc (.cells #[.string ⟨#[]⟩, .string ⟨#[]⟩] 23) := ⟨_, rfl⟩
  have hbV : Below w.heap.size w V := by rw [hV]; exact (Below.refl _ _).alloc (Nat.le_refl _) _
  have HR : Hid (T2 V w.heap.size (.string ⟨#[]⟩) (.string ⟨#[]⟩) ∧ Below w.heap.size w V) := ⟨by rw [hV]; exact ⟨by simp [go_sem], by simp [go_sem], by simp [go_sem], by simp [go_sem]⟩, hbV⟩
  have HV := hide hV
  have HW := hide hw
  have HTO := hide (fun W => refTold b t ⟨#[49]⟩ W ht (by decide))
  clear hw hbV ht
  generalize (if b then ⟨#[45]⟩ ++ t else t) = sn at *
  unfold Ans at HTO
  go_enter Tryz.func20, Tryz.ntmps20
  go_upto_region 1 with fail
  rw [← unhide HV]
  clear hV HV
  go_upto_region 2 with (first
    | (go_at_call 67; go_must (refine (unhide HW _).mono ?_; rintro e W9 ⟨rfl, hb1⟩; have HR1 : Hid (T2 W9 w.heap.size (.string ⟨#[]⟩) (.string ⟨#[]⟩) ∧ Below w.heap.size w W9) := ⟨(unhide HR).1.later hb1, (unhide HR).2.trans (hb1.mono (unhide HR).2.size)⟩; clear hb1))
    | (go_at_call 74; go_must (refine (unhide HTO _).mono ?_; rintro e w2 ⟨rfl, hb2⟩; have HR2 : Hid (T2 w2 w.heap.size (.string ⟨#[]⟩) (.string ⟨#[]⟩) ∧ Below w.heap.size w w2) := ⟨(unhide HR1).1.later hb2, (unhide HR1).2.trans (hb2.mono (unhide HR1).2.size)⟩; clear hb2)))
  obtain ⟨V3, hV3⟩ : ∃ V3, V3 = w2.alloc (.cells #[.string sn, .string ⟨#[49]⟩] 23) := ⟨_, rfl⟩
  have hb3 : Below w2.heap.size w2 V3 := by rw [hV3]; exact (Below.refl _ _).alloc (Nat.le_refl _) _
  have HR3 : Hid (T2 V3 w.heap.size (.string ⟨#[]⟩) (.string ⟨#[]⟩) ∧ Below w.heap.size w V3) := ⟨(unhide HR2).1.later hb3, (unhide HR2).2.trans (hb3.mono (unhide HR2).2.size)⟩
  have c0 : V3.cell? ⟨w2.heap.size, 0, none⟩ = some (.string sn) := by rw [hV3]; simp [go_sem]
  have c1 : V3.cell? ⟨w2.heap.size, 1, none⟩ = some (.string ⟨#[49]⟩) := by rw [hV3]; simp [go_sem]
  rw [← hV3]
  clear hV3 hb3
  have r0 := (unhide HR3).1.c0; have r1 := (unhide HR3).1.c1; have rf0 := (unhide HR3).1.f0; have rf1 := (unhide HR3).1.f1
  go_wp2_with fail
  have hS := (unhide HR3).1.store (.string sn) (.string ⟨#[49]⟩)
  have hb : Below w.heap.size w (store2 V3 w.heap.size (.string sn) (.string ⟨#[49]⟩)) := below_store2 (unhide HR3).2 (Nat.le_refl _) _ _
  have u0 := hS.c0; have u1 := hS.c1
  exact bodyPost_ret (v := .agg #[.string sn, .string ⟨#[49]⟩]) (w := store2 V3 w.heap.size (.string sn) (.string ⟨#[49]⟩)) (by simp [results, Tryz.results20, go_sem, u0, u1]) rfl ⟨rfl, hb⟩

theorem ofs (n : Int) (h1 : -9223372036854775808 ≤ n) (h2 : n ≤ 9223372036854775807) : ∃ s : ByteArray,
    (∀ w, Tab w → Calls Tryz.prog 19 #[.int .i64 n] w fun r w' => r = .returned (.agg #[.string s, .string ⟨#[49]⟩]) ∧ Below w.heap.size w w') ∧
    (∀ w, Calls Tryz.prog 20 #[.int .i64 n] w fun r w' => r = .returned (.agg #[.string s, .string ⟨#[49]⟩]) ∧ Below w.heap.size w w') := by
  by_cases hn : n < 0
  · obtain ⟨N, rfl⟩ : ∃ N : Nat, n = -(N : Int) := ⟨(-n).toNat, by omega⟩
    have h600 : N < 10 ^ 600 := u64_600 N (by omega)
    exact ⟨sT true N, fun w ht => ratOf_neg N w (by omega) (by omega) ht, fun w => refOf_of _ true (tb N) w (tb_digs N h600).2 (fun W => refWhole_neg N W (by omega) (by omega))⟩
  · obtain ⟨N, rfl⟩ : ∃ N : Nat, n = (N : Int) := ⟨n.toNat, by omega⟩
    have h600 : N < 10 ^ 600 := u64_600 N (by omega)
    exact ⟨sT false N, fun w ht => ratOf_pos N w (by omega) ht, fun w => refOf_of _ false (tb N) w (tb_digs N h600).2 (fun W => refWhole_pos N W (by omega))⟩
end Go.Proofs.YtoinadnpdbaamaaGreatDoor

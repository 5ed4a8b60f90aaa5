/- si.one; put; grouped. -/
import Derived.Test.YthcbhnggphdflaaGreatDoorSi1
namespace Go.Proofs.YthcbhnggphdflaaGreatDoor
open Go.RowKit
set_option maxRecDepth 100000 in
set_option maxHeartbeats 2000000 in
theorem siOne0 (w : World) : Calls Tryz.prog 106 #[.int .i64 0] w fun r w' => r = .returned (.agg #[.int .i64 1, .int .i64 0, .int .i64 0, .int .i64 0, .int .i64 0, .int .i64 0, .int .i64 0, .int .i64 0, .int .i64 1, .int .i64 1]) ∧ Below w.heap.size w w' := by
  obtain ⟨V, hV⟩ : ∃ V, V = w.alloc (.cells z10 55) := ⟨_, rfl⟩
  have HR : Hid (OwnU V w.heap.size 55 z10) := by rw [hV]; exact OwnU.new _ _ _
  have HW : Hid (Below w.heap.size w V) := by rw [hV]; exact (Below.refl _ _).alloc (Nat.le_refl _) _
  have HV := hide hV
  clear hV
  go_enter Tryz.func106, Tryz.ntmps106
  go_upto_region 1 with fail
  rw [← un HV]
  clear HV
  go_upto_region 2 with (first
    | (go_at_call 112; go_must (refine (siNumber _ _).mono ?_; rintro e w1 ⟨rfl, hb⟩; have HB := hide hb; clear hb; have HX : Hid (OwnU (w1.alloc (.cells z10 55)) w1.heap.size 55 z10) := OwnU.new _ _ _))
    | (refine storeT 55 10 info55 rfl (.tmp 3) (.tmp 4) rfl w1.heap.size z10 #[.int .i64 0, .int .i64 0, .int .i64 0, .int .i64 0, .int .i64 0, .int .i64 0, .int .i64 0, .int .i64 0, .int .i64 1, .int .i64 1] rfl rfl rfl rfl (un HX) (by kernel_rfl) ?_))
  have HX1 := hide ((un HX).setRow #[.int .i64 0, .int .i64 0, .int .i64 0, .int .i64 0, .int .i64 0, .int .i64 0, .int .i64 0, .int .i64 0, .int .i64 1, .int .i64 1])
  have HB1 : Hid (Below V.heap.size V ((w1.alloc (.cells z10 55)).setRow w1.heap.size #[.int .i64 0, .int .i64 0, .int .i64 0, .int .i64 0, .int .i64 0, .int .i64 0, .int .i64 0, .int .i64 0, .int .i64 1, .int .i64 1])) := below_setRow ((un HB).alloc (un HB).size _) (un HB).size _
  have HGL : Hid (w.heap.size < w1.heap.size) := Nat.lt_of_lt_of_le (un HR).lt (un HB).size
  clear HX HB
  generalize (w1.alloc (.cells z10 55)).setRow w1.heap.size #[.int .i64 0, .int .i64 0, .int .i64 0, .int .i64 0, .int .i64 0, .int .i64 0, .int .i64 0, .int .i64 0, .int .i64 1, .int .i64 1] = U1 at *
  generalize w1.heap.size = g3 at *
  have c0 : U1.cell? ⟨g3, 0, none⟩ = some (.int .i64 0) := (un HX1).ub.c 0 _ rfl
  have f0 : U1.frozen? ⟨g3, 0, none⟩ = false := (un HX1).ub.f 0 (.int .i64 0) rfl
  go_upto_region 3 with fail
  have HX2 : Hid (OwnU (U1.setCell ⟨g3, 0, none⟩ (.int .i64 1)) g3 55 #[.int .i64 1, .int .i64 0, .int .i64 0, .int .i64 0, .int .i64 0, .int .i64 0, .int .i64 0, .int .i64 0, .int .i64 1, .int .i64 1]) := (un HX1).set 0 (.int .i64 1)
  have HR2 : Hid (OwnU (U1.setCell ⟨g3, 0, none⟩ (.int .i64 1)) w.heap.size 55 z10) := ((un HR).later (un HB1)).otherSet (by have := un HGL; omega) _ _
  have HW2 : Hid (Below w.heap.size w (U1.setCell ⟨g3, 0, none⟩ (.int .i64 1))) := ((un HW).trans ((un HB1).mono (un HW).size)).setCell (p := ⟨g3, 0, none⟩) (Nat.le_of_lt (un HGL)) _
  clear c0 f0 HX1 HB1 HR HW HGL
  generalize U1.setCell ⟨g3, 0, none⟩ (.int .i64 1) = U at *
  have u0 : U.cell? ⟨g3, 0, none⟩ = some (.int .i64 1) := (un HX2).ub.c 0 _ rfl; have u1 : U.cell? ⟨g3, 1, none⟩ = some (.int .i64 0) := (un HX2).ub.c 1 _ rfl; have u2 : U.cell? ⟨g3, 2, none⟩ = some (.int .i64 0) := (un HX2).ub.c 2 _ rfl; have u3 : U.cell? ⟨g3, 3, none⟩ = some (.int .i64 0) := (un HX2).ub.c 3 _ rfl; have u4 : U.cell? ⟨g3, 4, none⟩ = some (.int .i64 0) := (un HX2).ub.c 4 _ rfl; have u5 : U.cell? ⟨g3, 5, none⟩ = some (.int .i64 0) := (un HX2).ub.c 5 _ rfl; have u6 : U.cell? ⟨g3, 6, none⟩ = some (.int .i64 0) := (un HX2).ub.c 6 _ rfl; have u7 : U.cell? ⟨g3, 7, none⟩ = some (.int .i64 0) := (un HX2).ub.c 7 _ rfl; have u8 : U.cell? ⟨g3, 8, none⟩ = some (.int .i64 1) := (un HX2).ub.c 8 _ rfl; have u9 : U.cell? ⟨g3, 9, none⟩ = some (.int .i64 1) := (un HX2).ub.c 9 _ rfl
  go_wp2_with (refine storeT 55 10 info55 rfl (.tmp 2) (.tmp 8) rfl w.heap.size z10 #[.int .i64 1, .int .i64 0, .int .i64 0, .int .i64 0, .int .i64 0, .int .i64 0, .int .i64 0, .int .i64 0, .int .i64 1, .int .i64 1] rfl rfl rfl rfl (un HR2) (by kernel_rfl) ?_)
  refine bodyPost_ret (v := .agg #[.int .i64 1, .int .i64 0, .int .i64 0, .int .i64 0, .int .i64 0, .int .i64 0, .int .i64 0, .int .i64 0, .int .i64 1, .int .i64 1]) (res55 Tryz.results106 _ _ w.heap.size _ rfl rfl ((un HR2).setRow _)) rfl ⟨rfl, below_setRow (un HW2) (Nat.le_refl _) _⟩
set_option maxRecDepth 100000 in
set_option maxHeartbeats 2000000 in
theorem siOne1 (w : World) : Calls Tryz.prog 106 #[.int .i64 1] w fun r w' => r = .returned (.agg #[.int .i64 0, .int .i64 1, .int .i64 0, .int .i64 0, .int .i64 0, .int .i64 0, .int .i64 0, .int .i64 0, .int .i64 1, .int .i64 1]) ∧ Below w.heap.size w w' := by
  obtain ⟨V, hV⟩ : ∃ V, V = w.alloc (.cells z10 55) := ⟨_, rfl⟩
  have HR : Hid (OwnU V w.heap.size 55 z10) := by rw [hV]; exact OwnU.new _ _ _
  have HW : Hid (Below w.heap.size w V) := by rw [hV]; exact (Below.refl _ _).alloc (Nat.le_refl _) _
  have HV := hide hV
  clear hV
  go_enter Tryz.func106, Tryz.ntmps106
  go_upto_region 1 with fail
  rw [← un HV]
  clear HV
  go_upto_region 2 with (first
    | (go_at_call 112; go_must (refine (siNumber _ _).mono ?_; rintro e w1 ⟨rfl, hb⟩; have HB := hide hb; clear hb; have HX : Hid (OwnU (w1.alloc (.cells z10 55)) w1.heap.size 55 z10) := OwnU.new _ _ _))
    | (refine storeT 55 10 info55 rfl (.tmp 3) (.tmp 4) rfl w1.heap.size z10 #[.int .i64 0, .int .i64 0, .int .i64 0, .int .i64 0, .int .i64 0, .int .i64 0, .int .i64 0, .int .i64 0, .int .i64 1, .int .i64 1] rfl rfl rfl rfl (un HX) (by kernel_rfl) ?_))
  have HX1 := hide ((un HX).setRow #[.int .i64 0, .int .i64 0, .int .i64 0, .int .i64 0, .int .i64 0, .int .i64 0, .int .i64 0, .int .i64 0, .int .i64 1, .int .i64 1])
  have HB1 : Hid (Below V.heap.size V ((w1.alloc (.cells z10 55)).setRow w1.heap.size #[.int .i64 0, .int .i64 0, .int .i64 0, .int .i64 0, .int .i64 0, .int .i64 0, .int .i64 0, .int .i64 0, .int .i64 1, .int .i64 1])) := below_setRow ((un HB).alloc (un HB).size _) (un HB).size _
  have HGL : Hid (w.heap.size < w1.heap.size) := Nat.lt_of_lt_of_le (un HR).lt (un HB).size
  clear HX HB
  generalize (w1.alloc (.cells z10 55)).setRow w1.heap.size #[.int .i64 0, .int .i64 0, .int .i64 0, .int .i64 0, .int .i64 0, .int .i64 0, .int .i64 0, .int .i64 0, .int .i64 1, .int .i64 1] = U1 at *
  generalize w1.heap.size = g3 at *
  have c1 : U1.cell? ⟨g3, 1, none⟩ = some (.int .i64 0) := (un HX1).ub.c 1 _ rfl
  have f1 : U1.frozen? ⟨g3, 1, none⟩ = false := (un HX1).ub.f 1 (.int .i64 0) rfl
  go_upto_region 3 with fail
  have HX2 : Hid (OwnU (U1.setCell ⟨g3, 1, none⟩ (.int .i64 1)) g3 55 #[.int .i64 0, .int .i64 1, .int .i64 0, .int .i64 0, .int .i64 0, .int .i64 0, .int .i64 0, .int .i64 0, .int .i64 1, .int .i64 1]) := (un HX1).set 1 (.int .i64 1)
  have HR2 : Hid (OwnU (U1.setCell ⟨g3, 1, none⟩ (.int .i64 1)) w.heap.size 55 z10) := ((un HR).later (un HB1)).otherSet (by have := un HGL; omega) _ _
  have HW2 : Hid (Below w.heap.size w (U1.setCell ⟨g3, 1, none⟩ (.int .i64 1))) := ((un HW).trans ((un HB1).mono (un HW).size)).setCell (p := ⟨g3, 1, none⟩) (Nat.le_of_lt (un HGL)) _
  clear c1 f1 HX1 HB1 HR HW HGL
  generalize U1.setCell ⟨g3, 1, none⟩ (.int .i64 1) = U at *
  have u0 : U.cell? ⟨g3, 0, none⟩ = some (.int .i64 0) := (un HX2).ub.c 0 _ rfl; have u1 : U.cell? ⟨g3, 1, none⟩ = some (.int .i64 1) := (un HX2).ub.c 1 _ rfl; have u2 : U.cell? ⟨g3, 2, none⟩ = some (.int .i64 0) := (un HX2).ub.c 2 _ rfl; have u3 : U.cell? ⟨g3, 3, none⟩ = some (.int .i64 0) := (un HX2).ub.c 3 _ rfl; have u4 : U.cell? ⟨g3, 4, none⟩ = some (.int .i64 0) := (un HX2).ub.c 4 _ rfl; have u5 : U.cell? ⟨g3, 5, none⟩ = some (.int .i64 0) := (un HX2).ub.c 5 _ rfl; have u6 : U.cell? ⟨g3, 6, none⟩ = some (.int .i64 0) := (un HX2).ub.c 6 _ rfl; have u7 : U.cell? ⟨g3, 7, none⟩ = some (.int .i64 0) := (un HX2).ub.c 7 _ rfl; have u8 : U.cell? ⟨g3, 8, none⟩ = some (.int .i64 1) := (un HX2).ub.c 8 _ rfl; have u9 : U.cell? ⟨g3, 9, none⟩ = some (.int .i64 1) := (un HX2).ub.c 9 _ rfl
  go_wp2_with (refine storeT 55 10 info55 rfl (.tmp 2) (.tmp 8) rfl w.heap.size z10 #[.int .i64 0, .int .i64 1, .int .i64 0, .int .i64 0, .int .i64 0, .int .i64 0, .int .i64 0, .int .i64 0, .int .i64 1, .int .i64 1] rfl rfl rfl rfl (un HR2) (by kernel_rfl) ?_)
  refine bodyPost_ret (v := .agg #[.int .i64 0, .int .i64 1, .int .i64 0, .int .i64 0, .int .i64 0, .int .i64 0, .int .i64 0, .int .i64 0, .int .i64 1, .int .i64 1]) (res55 Tryz.results106 _ _ w.heap.size _ rfl rfl ((un HR2).setRow _)) rfl ⟨rfl, below_setRow (un HW2) (Nat.le_refl _) _⟩
set_option maxRecDepth 100000 in
set_option maxHeartbeats 2000000 in
theorem siOne2 (w : World) : Calls Tryz.prog 106 #[.int .i64 2] w fun r w' => r = .returned (.agg #[.int .i64 0, .int .i64 0, .int .i64 1, .int .i64 0, .int .i64 0, .int .i64 0, .int .i64 0, .int .i64 0, .int .i64 1, .int .i64 1]) ∧ Below w.heap.size w w' := by
  obtain ⟨V, hV⟩ : ∃ V, V = w.alloc (.cells z10 55) := ⟨_, rfl⟩
  have HR : Hid (OwnU V w.heap.size 55 z10) := by rw [hV]; exact OwnU.new _ _ _
  have HW : Hid (Below w.heap.size w V) := by rw [hV]; exact (Below.refl _ _).alloc (Nat.le_refl _) _
  have HV := hide hV
  clear hV
  go_enter Tryz.func106, Tryz.ntmps106
  go_upto_region 1 with fail
  rw [← un HV]
  clear HV
  go_upto_region 2 with (first
    | (go_at_call 112; go_must (refine (siNumber _ _).mono ?_; rintro e w1 ⟨rfl, hb⟩; have HB := hide hb; clear hb; have HX : Hid (OwnU (w1.alloc (.cells z10 55)) w1.heap.size 55 z10) := OwnU.new _ _ _))
    | (refine storeT 55 10 info55 rfl (.tmp 3) (.tmp 4) rfl w1.heap.size z10 #[.int .i64 0, .int .i64 0, .int .i64 0, .int .i64 0, .int .i64 0, .int .i64 0, .int .i64 0, .int .i64 0, .int .i64 1, .int .i64 1] rfl rfl rfl rfl (un HX) (by kernel_rfl) ?_))
  have HX1 := hide ((un HX).setRow #[.int .i64 0, .int .i64 0, .int .i64 0, .int .i64 0, .int .i64 0, .int .i64 0, .int .i64 0, .int .i64 0, .int .i64 1, .int .i64 1])
  have HB1 : Hid (Below V.heap.size V ((w1.alloc (.cells z10 55)).setRow w1.heap.size #[.int .i64 0, .int .i64 0, .int .i64 0, .int .i64 0, .int .i64 0, .int .i64 0, .int .i64 0, .int .i64 0, .int .i64 1, .int .i64 1])) := below_setRow ((un HB).alloc (un HB).size _) (un HB).size _
  have HGL : Hid (w.heap.size < w1.heap.size) := Nat.lt_of_lt_of_le (un HR).lt (un HB).size
  clear HX HB
  generalize (w1.alloc (.cells z10 55)).setRow w1.heap.size #[.int .i64 0, .int .i64 0, .int .i64 0, .int .i64 0, .int .i64 0, .int .i64 0, .int .i64 0, .int .i64 0, .int .i64 1, .int .i64 1] = U1 at *
  generalize w1.heap.size = g3 at *
  have c2 : U1.cell? ⟨g3, 2, none⟩ = some (.int .i64 0) := (un HX1).ub.c 2 _ rfl
  have f2 : U1.frozen? ⟨g3, 2, none⟩ = false := (un HX1).ub.f 2 (.int .i64 0) rfl
  go_upto_region 3 with fail
  have HX2 : Hid (OwnU (U1.setCell ⟨g3, 2, none⟩ (.int .i64 1)) g3 55 #[.int .i64 0, .int .i64 0, .int .i64 1, .int .i64 0, .int .i64 0, .int .i64 0, .int .i64 0, .int .i64 0, .int .i64 1, .int .i64 1]) := (un HX1).set 2 (.int .i64 1)
  have HR2 : Hid (OwnU (U1.setCell ⟨g3, 2, none⟩ (.int .i64 1)) w.heap.size 55 z10) := ((un HR).later (un HB1)).otherSet (by have := un HGL; omega) _ _
  have HW2 : Hid (Below w.heap.size w (U1.setCell ⟨g3, 2, none⟩ (.int .i64 1))) := ((un HW).trans ((un HB1).mono (un HW).size)).setCell (p := ⟨g3, 2, none⟩) (Nat.le_of_lt (un HGL)) _
  clear c2 f2 HX1 HB1 HR HW HGL
  generalize U1.setCell ⟨g3, 2, none⟩ (.int .i64 1) = U at *
  have u0 : U.cell? ⟨g3, 0, none⟩ = some (.int .i64 0) := (un HX2).ub.c 0 _ rfl; have u1 : U.cell? ⟨g3, 1, none⟩ = some (.int .i64 0) := (un HX2).ub.c 1 _ rfl; have u2 : U.cell? ⟨g3, 2, none⟩ = some (.int .i64 1) := (un HX2).ub.c 2 _ rfl; have u3 : U.cell? ⟨g3, 3, none⟩ = some (.int .i64 0) := (un HX2).ub.c 3 _ rfl; have u4 : U.cell? ⟨g3, 4, none⟩ = some (.int .i64 0) := (un HX2).ub.c 4 _ rfl; have u5 : U.cell? ⟨g3, 5, none⟩ = some (.int .i64 0) := (un HX2).ub.c 5 _ rfl; have u6 : U.cell? ⟨g3, 6, none⟩ = some (.int .i64 0) := (un HX2).ub.c 6 _ rfl; have u7 : U.cell? ⟨g3, 7, none⟩ = some (.int .i64 0) := (un HX2).ub.c 7 _ rfl; have u8 : U.cell? ⟨g3, 8, none⟩ = some (.int .i64 1) := (un HX2).ub.c 8 _ rfl; have u9 : U.cell? ⟨g3, 9, none⟩ = some (.int .i64 1) := (un HX2).ub.c 9 _ rfl
  go_wp2_with (refine storeT 55 10 info55 rfl (.tmp 2) (.tmp 8) rfl w.heap.size z10 #[.int .i64 0, .int .i64 0, .int .i64 1, .int .i64 0, .int .i64 0, .int .i64 0, .int .i64 0, .int .i64 0, .int .i64 1, .int .i64 1] rfl rfl rfl rfl (un HR2) (by kernel_rfl) ?_)
  refine bodyPost_ret (v := .agg #[.int .i64 0, .int .i64 0, .int .i64 1, .int .i64 0, .int .i64 0, .int .i64 0, .int .i64 0, .int .i64 0, .int .i64 1, .int .i64 1]) (res55 Tryz.results106 _ _ w.heap.size _ rfl rfl ((un HR2).setRow _)) rfl ⟨rfl, below_setRow (un HW2) (Nat.le_refl _) _⟩
set_option maxRecDepth 100000 in
set_option maxHeartbeats 2000000 in
theorem siOne3 (w : World) : Calls Tryz.prog 106 #[.int .i64 3] w fun r w' => r = .returned (.agg #[.int .i64 0, .int .i64 0, .int .i64 0, .int .i64 1, .int .i64 0, .int .i64 0, .int .i64 0, .int .i64 0, .int .i64 1, .int .i64 1]) ∧ Below w.heap.size w w' := by
  obtain ⟨V, hV⟩ : ∃ V, V = w.alloc (.cells z10 55) := ⟨_, rfl⟩
  have HR : Hid (OwnU V w.heap.size 55 z10) := by rw [hV]; exact OwnU.new _ _ _
  have HW : Hid (Below w.heap.size w V) := by rw [hV]; exact (Below.refl _ _).alloc (Nat.le_refl _) _
  have HV := hide hV
  clear hV
  go_enter Tryz.func106, Tryz.ntmps106
  go_upto_region 1 with fail
  rw [← un HV]
  clear HV
  go_upto_region 2 with (first
    | (go_at_call 112; go_must (refine (siNumber _ _).mono ?_; rintro e w1 ⟨rfl, hb⟩; have HB := hide hb; clear hb; have HX : Hid (OwnU (w1.alloc (.cells z10 55)) w1.heap.size 55 z10) := OwnU.new _ _ _))
    | (refine storeT 55 10 info55 rfl (.tmp 3) (.tmp 4) rfl w1.heap.size z10 #[.int .i64 0, .int .i64 0, .int .i64 0, .int .i64 0, .int .i64 0, .int .i64 0, .int .i64 0, .int .i64 0, .int .i64 1, .int .i64 1] rfl rfl rfl rfl (un HX) (by kernel_rfl) ?_))
  have HX1 := hide ((un HX).setRow #[.int .i64 0, .int .i64 0, .int .i64 0, .int .i64 0, .int .i64 0, .int .i64 0, .int .i64 0, .int .i64 0, .int .i64 1, .int .i64 1])
  have HB1 : Hid (Below V.heap.size V ((w1.alloc (.cells z10 55)).setRow w1.heap.size #[.int .i64 0, .int .i64 0, .int .i64 0, .int .i64 0, .int .i64 0, .int .i64 0, .int .i64 0, .int .i64 0, .int .i64 1, .int .i64 1])) := below_setRow ((un HB).alloc (un HB).size _) (un HB).size _
  have HGL : Hid (w.heap.size < w1.heap.size) := Nat.lt_of_lt_of_le (un HR).lt (un HB).size
  clear HX HB
  generalize (w1.alloc (.cells z10 55)).setRow w1.heap.size #[.int .i64 0, .int .i64 0, .int .i64 0, .int .i64 0, .int .i64 0, .int .i64 0, .int .i64 0, .int .i64 0, .int .i64 1, .int .i64 1] = U1 at *
  generalize w1.heap.size = g3 at *
  have c3 : U1.cell? ⟨g3, 3, none⟩ = some (.int .i64 0) := (un HX1).ub.c 3 _ rfl
  have f3 : U1.frozen? ⟨g3, 3, none⟩ = false := (un HX1).ub.f 3 (.int .i64 0) rfl
  go_upto_region 3 with fail
  have HX2 : Hid (OwnU (U1.setCell ⟨g3, 3, none⟩ (.int .i64 1)) g3 55 #[.int .i64 0, .int .i64 0, .int .i64 0, .int .i64 1, .int .i64 0, .int .i64 0, .int .i64 0, .int .i64 0, .int .i64 1, .int .i64 1]) := (un HX1).set 3 (.int .i64 1)
  have HR2 : Hid (OwnU (U1.setCell ⟨g3, 3, none⟩ (.int .i64 1)) w.heap.size 55 z10) := ((un HR).later (un HB1)).otherSet (by have := un HGL; omega) _ _
  have HW2 : Hid (Below w.heap.size w (U1.setCell ⟨g3, 3, none⟩ (.int .i64 1))) := ((un HW).trans ((un HB1).mono (un HW).size)).setCell (p := ⟨g3, 3, none⟩) (Nat.le_of_lt (un HGL)) _
  clear c3 f3 HX1 HB1 HR HW HGL
  generalize U1.setCell ⟨g3, 3, none⟩ (.int .i64 1) = U at *
  have u0 : U.cell? ⟨g3, 0, none⟩ = some (.int .i64 0) := (un HX2).ub.c 0 _ rfl; have u1 : U.cell? ⟨g3, 1, none⟩ = some (.int .i64 0) := (un HX2).ub.c 1 _ rfl; have u2 : U.cell? ⟨g3, 2, none⟩ = some (.int .i64 0) := (un HX2).ub.c 2 _ rfl; have u3 : U.cell? ⟨g3, 3, none⟩ = some (.int .i64 1) := (un HX2).ub.c 3 _ rfl; have u4 : U.cell? ⟨g3, 4, none⟩ = some (.int .i64 0) := (un HX2).ub.c 4 _ rfl; have u5 : U.cell? ⟨g3, 5, none⟩ = some (.int .i64 0) := (un HX2).ub.c 5 _ rfl; have u6 : U.cell? ⟨g3, 6, none⟩ = some (.int .i64 0) := (un HX2).ub.c 6 _ rfl; have u7 : U.cell? ⟨g3, 7, none⟩ = some (.int .i64 0) := (un HX2).ub.c 7 _ rfl; have u8 : U.cell? ⟨g3, 8, none⟩ = some (.int .i64 1) := (un HX2).ub.c 8 _ rfl; have u9 : U.cell? ⟨g3, 9, none⟩ = some (.int .i64 1) := (un HX2).ub.c 9 _ rfl
  go_wp2_with (refine storeT 55 10 info55 rfl (.tmp 2) (.tmp 8) rfl w.heap.size z10 #[.int .i64 0, .int .i64 0, .int .i64 0, .int .i64 1, .int .i64 0, .int .i64 0, .int .i64 0, .int .i64 0, .int .i64 1, .int .i64 1] rfl rfl rfl rfl (un HR2) (by kernel_rfl) ?_)
  refine bodyPost_ret (v := .agg #[.int .i64 0, .int .i64 0, .int .i64 0, .int .i64 1, .int .i64 0, .int .i64 0, .int .i64 0, .int .i64 0, .int .i64 1, .int .i64 1]) (res55 Tryz.results106 _ _ w.heap.size _ rfl rfl ((un HR2).setRow _)) rfl ⟨rfl, below_setRow (un HW2) (Nat.le_refl _) _⟩
set_option maxRecDepth 100000 in
set_option maxHeartbeats 2000000 in
theorem siOne5 (w : World) : Calls Tryz.prog 106 #[.int .i64 5] w fun r w' => r = .returned (.agg #[.int .i64 0, .int .i64 0, .int .i64 0, .int .i64 0, .int .i64 0, .int .i64 1, .int .i64 0, .int .i64 0, .int .i64 1, .int .i64 1]) ∧ Below w.heap.size w w' := by
  obtain ⟨V, hV⟩ : ∃ V, V = w.alloc (.cells z10 55) := ⟨_, rfl⟩
  have HR : Hid (OwnU V w.heap.size 55 z10) := by rw [hV]; exact OwnU.new _ _ _
  have HW : Hid (Below w.heap.size w V) := by rw [hV]; exact (Below.refl _ _).alloc (Nat.le_refl _) _
  have HV := hide hV
  clear hV
  go_enter Tryz.func106, Tryz.ntmps106
  go_upto_region 1 with fail
  rw [← un HV]
  clear HV
  go_upto_region 2 with (first
    | (go_at_call 112; go_must (refine (siNumber _ _).mono ?_; rintro e w1 ⟨rfl, hb⟩; have HB := hide hb; clear hb; have HX : Hid (OwnU (w1.alloc (.cells z10 55)) w1.heap.size 55 z10) := OwnU.new _ _ _))
    | (refine storeT 55 10 info55 rfl (.tmp 3) (.tmp 4) rfl w1.heap.size z10 #[.int .i64 0, .int .i64 0, .int .i64 0, .int .i64 0, .int .i64 0, .int .i64 0, .int .i64 0, .int .i64 0, .int .i64 1, .int .i64 1] rfl rfl rfl rfl (un HX) (by kernel_rfl) ?_))
  have HX1 := hide ((un HX).setRow #[.int .i64 0, .int .i64 0, .int .i64 0, .int .i64 0, .int .i64 0, .int .i64 0, .int .i64 0, .int .i64 0, .int .i64 1, .int .i64 1])
  have HB1 : Hid (Below V.heap.size V ((w1.alloc (.cells z10 55)).setRow w1.heap.size #[.int .i64 0, .int .i64 0, .int .i64 0, .int .i64 0, .int .i64 0, .int .i64 0, .int .i64 0, .int .i64 0, .int .i64 1, .int .i64 1])) := below_setRow ((un HB).alloc (un HB).size _) (un HB).size _
  have HGL : Hid (w.heap.size < w1.heap.size) := Nat.lt_of_lt_of_le (un HR).lt (un HB).size
  clear HX HB
  generalize (w1.alloc (.cells z10 55)).setRow w1.heap.size #[.int .i64 0, .int .i64 0, .int .i64 0, .int .i64 0, .int .i64 0, .int .i64 0, .int .i64 0, .int .i64 0, .int .i64 1, .int .i64 1] = U1 at *
  generalize w1.heap.size = g3 at *
  have c5 : U1.cell? ⟨g3, 5, none⟩ = some (.int .i64 0) := (un HX1).ub.c 5 _ rfl
  have f5 : U1.frozen? ⟨g3, 5, none⟩ = false := (un HX1).ub.f 5 (.int .i64 0) rfl
  go_upto_region 3 with fail
  have HX2 : Hid (OwnU (U1.setCell ⟨g3, 5, none⟩ (.int .i64 1)) g3 55 #[.int .i64 0, .int .i64 0, .int .i64 0, .int .i64 0, .int .i64 0, .int .i64 1, .int .i64 0, .int .i64 0, .int .i64 1, .int .i64 1]) := (un HX1).set 5 (.int .i64 1)
  have HR2 : Hid (OwnU (U1.setCell ⟨g3, 5, none⟩ (.int .i64 1)) w.heap.size 55 z10) := ((un HR).later (un HB1)).otherSet (by have := un HGL; omega) _ _
  have HW2 : Hid (Below w.heap.size w (U1.setCell ⟨g3, 5, none⟩ (.int .i64 1))) := ((un HW).trans ((un HB1).mono (un HW).size)).setCell (p := ⟨g3, 5, none⟩) (Nat.le_of_lt (un HGL)) _
  clear c5 f5 HX1 HB1 HR HW HGL
  generalize U1.setCell ⟨g3, 5, none⟩ (.int .i64 1) = U at *
  have u0 : U.cell? ⟨g3, 0, none⟩ = some (.int .i64 0) := (un HX2).ub.c 0 _ rfl; have u1 : U.cell? ⟨g3, 1, none⟩ = some (.int .i64 0) := (un HX2).ub.c 1 _ rfl; have u2 : U.cell? ⟨g3, 2, none⟩ = some (.int .i64 0) := (un HX2).ub.c 2 _ rfl; have u3 : U.cell? ⟨g3, 3, none⟩ = some (.int .i64 0) := (un HX2).ub.c 3 _ rfl; have u4 : U.cell? ⟨g3, 4, none⟩ = some (.int .i64 0) := (un HX2).ub.c 4 _ rfl; have u5 : U.cell? ⟨g3, 5, none⟩ = some (.int .i64 1) := (un HX2).ub.c 5 _ rfl; have u6 : U.cell? ⟨g3, 6, none⟩ = some (.int .i64 0) := (un HX2).ub.c 6 _ rfl; have u7 : U.cell? ⟨g3, 7, none⟩ = some (.int .i64 0) := (un HX2).ub.c 7 _ rfl; have u8 : U.cell? ⟨g3, 8, none⟩ = some (.int .i64 1) := (un HX2).ub.c 8 _ rfl; have u9 : U.cell? ⟨g3, 9, none⟩ = some (.int .i64 1) := (un HX2).ub.c 9 _ rfl
  go_wp2_with (refine storeT 55 10 info55 rfl (.tmp 2) (.tmp 8) rfl w.heap.size z10 #[.int .i64 0, .int .i64 0, .int .i64 0, .int .i64 0, .int .i64 0, .int .i64 1, .int .i64 0, .int .i64 0, .int .i64 1, .int .i64 1] rfl rfl rfl rfl (un HR2) (by kernel_rfl) ?_)
  refine bodyPost_ret (v := .agg #[.int .i64 0, .int .i64 0, .int .i64 0, .int .i64 0, .int .i64 0, .int .i64 1, .int .i64 0, .int .i64 0, .int .i64 1, .int .i64 1]) (res55 Tryz.results106 _ _ w.heap.size _ rfl rfl ((un HR2).setRow _)) rfl ⟨rfl, below_setRow (un HW2) (Nat.le_refl _) _⟩
set_option maxRecDepth 100000 in
set_option maxHeartbeats 2000000 in
theorem siOne6 (w : World) : Calls Tryz.prog 106 #[.int .i64 6] w fun r w' => r = .returned (.agg #[.int .i64 0, .int .i64 0, .int .i64 0, .int .i64 0, .int .i64 0, .int .i64 0, .int .i64 1, .int .i64 0, .int .i64 1, .int .i64 1]) ∧ Below w.heap.size w w' := by
  obtain ⟨V, hV⟩ : ∃ V, V = w.alloc (.cells z10 55) := ⟨_, rfl⟩
  have HR : Hid (OwnU V w.heap.size 55 z10) := by rw [hV]; exact OwnU.new _ _ _
  have HW : Hid (Below w.heap.size w V) := by rw [hV]; exact (Below.refl _ _).alloc (Nat.le_refl _) _
  have HV := hide hV
  clear hV
  go_enter Tryz.func106, Tryz.ntmps106
  go_upto_region 1 with fail
  rw [← un HV]
  clear HV
  go_upto_region 2 with (first
    | (go_at_call 112; go_must (refine (siNumber _ _).mono ?_; rintro e w1 ⟨rfl, hb⟩; have HB := hide hb; clear hb; have HX : Hid (OwnU (w1.alloc (.cells z10 55)) w1.heap.size 55 z10) := OwnU.new _ _ _))
    | (refine storeT 55 10 info55 rfl (.tmp 3) (.tmp 4) rfl w1.heap.size z10 #[.int .i64 0, .int .i64 0, .int .i64 0, .int .i64 0, .int .i64 0, .int .i64 0, .int .i64 0, .int .i64 0, .int .i64 1, .int .i64 1] rfl rfl rfl rfl (un HX) (by kernel_rfl) ?_))
  have HX1 := hide ((un HX).setRow #[.int .i64 0, .int .i64 0, .int .i64 0, .int .i64 0, .int .i64 0, .int .i64 0, .int .i64 0, .int .i64 0, .int .i64 1, .int .i64 1])
  have HB1 : Hid (Below V.heap.size V ((w1.alloc (.cells z10 55)).setRow w1.heap.size #[.int .i64 0, .int .i64 0, .int .i64 0, .int .i64 0, .int .i64 0, .int .i64 0, .int .i64 0, .int .i64 0, .int .i64 1, .int .i64 1])) := below_setRow ((un HB).alloc (un HB).size _) (un HB).size _
  have HGL : Hid (w.heap.size < w1.heap.size) := Nat.lt_of_lt_of_le (un HR).lt (un HB).size
  clear HX HB
  generalize (w1.alloc (.cells z10 55)).setRow w1.heap.size #[.int .i64 0, .int .i64 0, .int .i64 0, .int .i64 0, .int .i64 0, .int .i64 0, .int .i64 0, .int .i64 0, .int .i64 1, .int .i64 1] = U1 at *
  generalize w1.heap.size = g3 at *
  have c6 : U1.cell? ⟨g3, 6, none⟩ = some (.int .i64 0) := (un HX1).ub.c 6 _ rfl
  have f6 : U1.frozen? ⟨g3, 6, none⟩ = false := (un HX1).ub.f 6 (.int .i64 0) rfl
  go_upto_region 3 with fail
  have HX2 : Hid (OwnU (U1.setCell ⟨g3, 6, none⟩ (.int .i64 1)) g3 55 #[.int .i64 0, .int .i64 0, .int .i64 0, .int .i64 0, .int .i64 0, .int .i64 0, .int .i64 1, .int .i64 0, .int .i64 1, .int .i64 1]) := (un HX1).set 6 (.int .i64 1)
  have HR2 : Hid (OwnU (U1.setCell ⟨g3, 6, none⟩ (.int .i64 1)) w.heap.size 55 z10) := ((un HR).later (un HB1)).otherSet (by have := un HGL; omega) _ _
  have HW2 : Hid (Below w.heap.size w (U1.setCell ⟨g3, 6, none⟩ (.int .i64 1))) := ((un HW).trans ((un HB1).mono (un HW).size)).setCell (p := ⟨g3, 6, none⟩) (Nat.le_of_lt (un HGL)) _
  clear c6 f6 HX1 HB1 HR HW HGL
  generalize U1.setCell ⟨g3, 6, none⟩ (.int .i64 1) = U at *
  have u0 : U.cell? ⟨g3, 0, none⟩ = some (.int .i64 0) := (un HX2).ub.c 0 _ rfl; have u1 : U.cell? ⟨g3, 1, none⟩ = some (.int .i64 0) := (un HX2).ub.c 1 _ rfl; have u2 : U.cell? ⟨g3, 2, none⟩ = some (.int .i64 0) := (un HX2).ub.c 2 _ rfl; have u3 : U.cell? ⟨g3, 3, none⟩ = some (.int .i64 0) := (un HX2).ub.c 3 _ rfl; have u4 : U.cell? ⟨g3, 4, none⟩ = some (.int .i64 0) := (un HX2).ub.c 4 _ rfl; have u5 : U.cell? ⟨g3, 5, none⟩ = some (.int .i64 0) := (un HX2).ub.c 5 _ rfl; have u6 : U.cell? ⟨g3, 6, none⟩ = some (.int .i64 1) := (un HX2).ub.c 6 _ rfl; have u7 : U.cell? ⟨g3, 7, none⟩ = some (.int .i64 0) := (un HX2).ub.c 7 _ rfl; have u8 : U.cell? ⟨g3, 8, none⟩ = some (.int .i64 1) := (un HX2).ub.c 8 _ rfl; have u9 : U.cell? ⟨g3, 9, none⟩ = some (.int .i64 1) := (un HX2).ub.c 9 _ rfl
  go_wp2_with (refine storeT 55 10 info55 rfl (.tmp 2) (.tmp 8) rfl w.heap.size z10 #[.int .i64 0, .int .i64 0, .int .i64 0, .int .i64 0, .int .i64 0, .int .i64 0, .int .i64 1, .int .i64 0, .int .i64 1, .int .i64 1] rfl rfl rfl rfl (un HR2) (by kernel_rfl) ?_)
  refine bodyPost_ret (v := .agg #[.int .i64 0, .int .i64 0, .int .i64 0, .int .i64 0, .int .i64 0, .int .i64 0, .int .i64 1, .int .i64 0, .int .i64 1, .int .i64 1]) (res55 Tryz.results106 _ _ w.heap.size _ rfl rfl ((un HR2).setRow _)) rfl ⟨rfl, below_setRow (un HW2) (Nat.le_refl _) _⟩
set_option maxRecDepth 100000 in
set_option maxHeartbeats 2000000 in
theorem siOne7 (w : World) : Calls Tryz.prog 106 #[.int .i64 7] w fun r w' => r = .returned (.agg #[.int .i64 0, .int .i64 0, .int .i64 0, .int .i64 0, .int .i64 0, .int .i64 0, .int .i64 0, .int .i64 1, .int .i64 1, .int .i64 1]) ∧ Below w.heap.size w w' := by
  obtain ⟨V, hV⟩ : ∃ V, V = w.alloc (.cells z10 55) := ⟨_, rfl⟩
  have HR : Hid (OwnU V w.heap.size 55 z10) := by rw [hV]; exact OwnU.new _ _ _
  have HW : Hid (Below w.heap.size w V) := by rw [hV]; exact (Below.refl _ _).alloc (Nat.le_refl _) _
  have HV := hide hV
  clear hV
  go_enter Tryz.func106, Tryz.ntmps106
  go_upto_region 1 with fail
  rw [← un HV]
  clear HV
  go_upto_region 2 with (first
    | (go_at_call 112; go_must (refine (siNumber _ _).mono ?_; rintro e w1 ⟨rfl, hb⟩; have HB := hide hb; clear hb; have HX : Hid (OwnU (w1.alloc (.cells z10 55)) w1.heap.size 55 z10) := OwnU.new _ _ _))
    | (refine storeT 55 10 info55 rfl (.tmp 3) (.tmp 4) rfl w1.heap.size z10 #[.int .i64 0, .int .i64 0, .int .i64 0, .int .i64 0, .int .i64 0, .int .i64 0, .int .i64 0, .int .i64 0, .int .i64 1, .int .i64 1] rfl rfl rfl rfl (un HX) (by kernel_rfl) ?_))
  have HX1 := hide ((un HX).setRow #[.int .i64 0, .int .i64 0, .int .i64 0, .int .i64 0, .int .i64 0, .int .i64 0, .int .i64 0, .int .i64 0, .int .i64 1, .int .i64 1])
  have HB1 : Hid (Below V.heap.size V ((w1.alloc (.cells z10 55)).setRow w1.heap.size #[.int .i64 0, .int .i64 0, .int .i64 0, .int .i64 0, .int .i64 0, .int .i64 0, .int .i64 0, .int .i64 0, .int .i64 1, .int .i64 1])) := below_setRow ((un HB).alloc (un HB).size _) (un HB).size _
  have HGL : Hid (w.heap.size < w1.heap.size) := Nat.lt_of_lt_of_le (un HR).lt (un HB).size
  clear HX HB
  generalize (w1.alloc (.cells z10 55)).setRow w1.heap.size #[.int .i64 0, .int .i64 0, .int .i64 0, .int .i64 0, .int .i64 0, .int .i64 0, .int .i64 0, .int .i64 0, .int .i64 1, .int .i64 1] = U1 at *
  generalize w1.heap.size = g3 at *
  have c7 : U1.cell? ⟨g3, 7, none⟩ = some (.int .i64 0) := (un HX1).ub.c 7 _ rfl
  have f7 : U1.frozen? ⟨g3, 7, none⟩ = false := (un HX1).ub.f 7 (.int .i64 0) rfl
  go_upto_region 3 with fail
  have HX2 : Hid (OwnU (U1.setCell ⟨g3, 7, none⟩ (.int .i64 1)) g3 55 #[.int .i64 0, .int .i64 0, .int .i64 0, .int .i64 0, .int .i64 0, .int .i64 0, .int .i64 0, .int .i64 1, .int .i64 1, .int .i64 1]) := (un HX1).set 7 (.int .i64 1)
  have HR2 : Hid (OwnU (U1.setCell ⟨g3, 7, none⟩ (.int .i64 1)) w.heap.size 55 z10) := ((un HR).later (un HB1)).otherSet (by have := un HGL; omega) _ _
  have HW2 : Hid (Below w.heap.size w (U1.setCell ⟨g3, 7, none⟩ (.int .i64 1))) := ((un HW).trans ((un HB1).mono (un HW).size)).setCell (p := ⟨g3, 7, none⟩) (Nat.le_of_lt (un HGL)) _
  clear c7 f7 HX1 HB1 HR HW HGL
  generalize U1.setCell ⟨g3, 7, none⟩ (.int .i64 1) = U at *
  have u0 : U.cell? ⟨g3, 0, none⟩ = some (.int .i64 0) := (un HX2).ub.c 0 _ rfl; have u1 : U.cell? ⟨g3, 1, none⟩ = some (.int .i64 0) := (un HX2).ub.c 1 _ rfl; have u2 : U.cell? ⟨g3, 2, none⟩ = some (.int .i64 0) := (un HX2).ub.c 2 _ rfl; have u3 : U.cell? ⟨g3, 3, none⟩ = some (.int .i64 0) := (un HX2).ub.c 3 _ rfl; have u4 : U.cell? ⟨g3, 4, none⟩ = some (.int .i64 0) := (un HX2).ub.c 4 _ rfl; have u5 : U.cell? ⟨g3, 5, none⟩ = some (.int .i64 0) := (un HX2).ub.c 5 _ rfl; have u6 : U.cell? ⟨g3, 6, none⟩ = some (.int .i64 0) := (un HX2).ub.c 6 _ rfl; have u7 : U.cell? ⟨g3, 7, none⟩ = some (.int .i64 1) := (un HX2).ub.c 7 _ rfl; have u8 : U.cell? ⟨g3, 8, none⟩ = some (.int .i64 1) := (un HX2).ub.c 8 _ rfl; have u9 : U.cell? ⟨g3, 9, none⟩ = some (.int .i64 1) := (un HX2).ub.c 9 _ rfl
  go_wp2_with (refine storeT 55 10 info55 rfl (.tmp 2) (.tmp 8) rfl w.heap.size z10 #[.int .i64 0, .int .i64 0, .int .i64 0, .int .i64 0, .int .i64 0, .int .i64 0, .int .i64 0, .int .i64 1, .int .i64 1, .int .i64 1] rfl rfl rfl rfl (un HR2) (by kernel_rfl) ?_)
  refine bodyPost_ret (v := .agg #[.int .i64 0, .int .i64 0, .int .i64 0, .int .i64 0, .int .i64 0, .int .i64 0, .int .i64 0, .int .i64 1, .int .i64 1, .int .i64 1]) (res55 Tryz.results106 _ _ w.heap.size _ rfl rfl ((un HR2).setRow _)) rfl ⟨rfl, below_setRow (un HW2) (Nat.le_refl _) _⟩
end Go.Proofs.YthcbhnggphdflaaGreatDoor

/- Groups of si, made. -/
import Derived.Test.YthcbhnggphdflaaGreatDoorSi5
namespace Go.Proofs.YthcbhnggphdflaaGreatDoor
open Go.RowKit
theorem zc91 : Tryz.zeroCells91 = gZero := by kernel_rfl
theorem info91 : (Tryz.prog.info? 91).map (·.size) = some 81 := by kernel_rfl
theorem res91 {fn : Func} {p : Tmp} (h : fn.results = #[.cell p 91]) (tmps : Array Value) (w : World) (g : Nat) (vs : Array Value) (hl : vs.size = 81) (hp : tmps.getD p undef = .pointer (some ⟨g, 0, none⟩)) (ho : OwnU w g 91 vs) :
    (results fn tmps).run Tryz.prog w = .ok (.agg vs) w := by
  rw [results_cell1 h, hp]
  simp only [asAddr, Sem.run_pure, Result.andThen_ok]
  rw [run_loadVar_row w g 91 91 vs (0, 0) _ ho Tryz.underlying91 rfl (by rw [info91, hl])]
set_option maxRecDepth 100000 in
set_option maxHeartbeats 4000000 in
theorem grp_force (w : World) : Calls Tryz.prog 104 #[.func (.func 105) #[] #[]] w fun e w' => e = .returned (.agg g_force2) ∧ Below w.heap.size w w' := by
  obtain ⟨V, hV⟩ : ∃ V, V = (w.alloc (.cells Tryz.zeroCells91 91)).alloc (.cells Tryz.zeroCells91 91) := ⟨_, rfl⟩
  obtain ⟨g, hg⟩ : ∃ g, g = w.heap.size + 1 := ⟨_, rfl⟩
  have HW : Hid (Below w.heap.size w V) := by rw [hV]; exact ((Below.refl _ _).alloc (Nat.le_refl _) _).alloc (by simp) _
  have HR : Hid (OwnU V w.heap.size 91 gZero) := by rw [hV, ← zc91]; exact (OwnU.new w _ 91).alloc _
  have HG : Hid (OwnU V g 91 gZero) := by rw [hV, hg, ← zc91]; have h := OwnU.new (w.alloc (.cells Tryz.zeroCells91 91)) Tryz.zeroCells91 91; rw [Dm.size_alloc] at h; exact h
  have HN : Hid (¬ w.heap.size = g ∧ w.heap.size ≤ g ∧ w.heap.size ≤ V.heap.size) := ⟨by omega, by omega, (un HW).size⟩
  have HV := hide hV
  clear hV 
  go_enter Tryz.func104, Tryz.ntmps104
  go_upto_region 2 with fail
  rw [← un HV, ← hg]
  clear HV hg
  go_upto_region 3 with (go_at_call 105; go_must (refine (fill_force g  _ (un HG) ).mono ?_; rintro e w1 ⟨rfl, hg1, ho1⟩; have HG1 := hide hg1; have HR1 := hide (ho1.own _ _ _ (un HN).1 (un HR)); have HW1 := hide (ho1.bel w.heap.size w (un HN).2.1 (un HN).2.2 (un HW)); clear hg1 ho1))
  go_wp2_with (first
    | (refine wpList_load_row rfl 91 (.tmp 3) rfl g rfl 91 g_force2 (0, 0) _ (un HG1) Tryz.underlying91 rfl (by kernel_rfl) ?_)
    | (refine storeT 91 81 info91 rfl (.tmp 2) (.tmp 7) rfl w.heap.size gZero g_force2 rfl rfl rfl rfl (un HR1) (by kernel_rfl) ?_))
  exact bodyPost_ret (v := .agg g_force2) (res91 Tryz.results104 _ _ w.heap.size _ rfl rfl ((un HR1).setRow _)) rfl ⟨rfl, below_setRow (un HW1) (Nat.le_refl _) _⟩
set_option maxRecDepth 100000 in
set_option maxHeartbeats 4000000 in
theorem made_force (w : World) : Calls Tryz.prog 71 #[] w fun e w' => e = .returned (.agg g_force2) ∧ Below w.heap.size w w' := by
  obtain ⟨V, hV⟩ : ∃ V, V = w.alloc (.cells Tryz.zeroCells91 91) := ⟨_, rfl⟩
  have HW : Hid (Below w.heap.size w V) := by rw [hV]; exact (Below.refl _ _).alloc (Nat.le_refl _) _
  have HR : Hid (OwnU V w.heap.size 91 gZero) := by rw [hV, ← zc91]; exact OwnU.new w _ 91
  have HV := hide hV
  clear hV
  go_enter Tryz.func71, Tryz.ntmps71
  go_upto_region 1 with fail
  rw [← un HV]
  clear HV
  go_wp2_with (first
    | (go_at_call 104; go_must (refine (grp_force _).mono ?_; rintro e w1 ⟨rfl, hb⟩; have HR1 := hide ((un HR).later hb); have HW1 := hide ((un HW).trans (hb.mono (un HW).size)); clear hb))
    | (refine storeT 91 81 info91 rfl (.tmp 0) (.tmp 1) rfl w.heap.size gZero g_force2 rfl rfl rfl rfl (un HR1) (by kernel_rfl) ?_))
  exact bodyPost_ret (v := .agg g_force2) (res91 Tryz.results71 _ _ w.heap.size _ rfl rfl ((un HR1).setRow _)) rfl ⟨rfl, below_setRow (un HW1) (Nat.le_refl _) _⟩
set_option maxRecDepth 100000 in
set_option maxHeartbeats 4000000 in
theorem grp_energy (b1 : Nat) (w : World) (h1 : OwnU w b1 55 #[.int .i64 1, .int .i64 1, .int .i64 (-2), .int .i64 0, .int .i64 0, .int .i64 0, .int .i64 0, .int .i64 0, .int .i64 1, .int .i64 1]) : Calls Tryz.prog 104 #[.func (.func 109) #[] #[.pointer (some ⟨b1, 0, none⟩)]] w fun e w' => e = .returned (.agg g_energy1) ∧ Below w.heap.size w w' := by
  obtain ⟨V, hV⟩ : ∃ V, V = (w.alloc (.cells Tryz.zeroCells91 91)).alloc (.cells Tryz.zeroCells91 91) := ⟨_, rfl⟩
  obtain ⟨g, hg⟩ : ∃ g, g = w.heap.size + 1 := ⟨_, rfl⟩
  have HW : Hid (Below w.heap.size w V) := by rw [hV]; exact ((Below.refl _ _).alloc (Nat.le_refl _) _).alloc (by simp) _
  have HR : Hid (OwnU V w.heap.size 91 gZero) := by rw [hV, ← zc91]; exact (OwnU.new w _ 91).alloc _
  have HG : Hid (OwnU V g 91 gZero) := by rw [hV, hg, ← zc91]; have h := OwnU.new (w.alloc (.cells Tryz.zeroCells91 91)) Tryz.zeroCells91 91; rw [Dm.size_alloc] at h; exact h
  have HC1 : Hid (OwnU V b1 55 #[.int .i64 1, .int .i64 1, .int .i64 (-2), .int .i64 0, .int .i64 0, .int .i64 0, .int .i64 0, .int .i64 0, .int .i64 1, .int .i64 1] ∧ ¬ b1 = g) := ⟨h1.later (un HW), (by have := h1.lt; omega)⟩
  have HN : Hid (¬ w.heap.size = g ∧ w.heap.size ≤ g ∧ w.heap.size ≤ V.heap.size) := ⟨by omega, by omega, (un HW).size⟩
  have HV := hide hV
  clear hV h1
  go_enter Tryz.func104, Tryz.ntmps104
  go_upto_region 2 with fail
  rw [← un HV, ← hg]
  clear HV hg
  go_upto_region 3 with (go_at_call 109; go_must (refine (fill_energy g b1 _ (un HG) (un HC1).1 (un HC1).2).mono ?_; rintro e w1 ⟨rfl, hg1, ho1⟩; have HG1 := hide hg1; have HR1 := hide (ho1.own _ _ _ (un HN).1 (un HR)); have HW1 := hide (ho1.bel w.heap.size w (un HN).2.1 (un HN).2.2 (un HW)); clear hg1 ho1))
  go_wp2_with (first
    | (refine wpList_load_row rfl 91 (.tmp 3) rfl g rfl 91 g_energy1 (0, 0) _ (un HG1) Tryz.underlying91 rfl (by kernel_rfl) ?_)
    | (refine storeT 91 81 info91 rfl (.tmp 2) (.tmp 7) rfl w.heap.size gZero g_energy1 rfl rfl rfl rfl (un HR1) (by kernel_rfl) ?_))
  exact bodyPost_ret (v := .agg g_energy1) (res91 Tryz.results104 _ _ w.heap.size _ rfl rfl ((un HR1).setRow _)) rfl ⟨rfl, below_setRow (un HW1) (Nat.le_refl _) _⟩
theorem fld_energy (w : World) : (Instr.field 91 (.agg g_force2) 0).run Tryz.prog w = .ok (.agg (g_force2.extract 0 80)) w := by kernel_rfl
theorem idx_energy (w : World) : (Instr.index 89 (.agg (g_force2.extract 0 80)) (.int .i64 0)).run Tryz.prog w = .ok (.agg #[.int .i64 1, .int .i64 1, .int .i64 (-2), .int .i64 0, .int .i64 0, .int .i64 0, .int .i64 0, .int .i64 0, .int .i64 1, .int .i64 1]) w := by kernel_rfl
set_option maxRecDepth 100000 in
set_option maxHeartbeats 4000000 in
theorem made_energy (w : World) : Calls Tryz.prog 72 #[] w fun e w' => e = .returned (.agg g_energy1) ∧ Below w.heap.size w w' := by
  obtain ⟨V, hV⟩ : ∃ V, V = w.alloc (.cells Tryz.zeroCells91 91) := ⟨_, rfl⟩
  have HW : Hid (Below w.heap.size w V) := by rw [hV]; exact (Below.refl _ _).alloc (Nat.le_refl _) _
  have HR : Hid (OwnU V w.heap.size 91 gZero) := by rw [hV, ← zc91]; exact OwnU.new w _ 91
  have HV := hide hV
  clear hV
  have hfl := fld_energy
  have hix := idx_energy
  go_enter Tryz.func72, Tryz.ntmps72
  go_upto_region 1 with fail
  rw [← un HV]
  clear HV
  go_upto_region 2 with (first
    | (go_at_call 71; go_must (refine (made_force _).mono ?_; rintro e w1 ⟨rfl, hb⟩; have HR1 := hide ((un HR).later hb); have HW1 := hide ((un HW).trans (hb.mono (un HW).size)); clear hb))
    | (refine storeT 55 10 info55 rfl (.tmp 1) (.tmp 4) rfl w1.heap.size #[.int .i64 0, .int .i64 0, .int .i64 0, .int .i64 0, .int .i64 0, .int .i64 0, .int .i64 0, .int .i64 0, .int .i64 0, .int .i64 0] #[.int .i64 1, .int .i64 1, .int .i64 (-2), .int .i64 0, .int .i64 0, .int .i64 0, .int .i64 0, .int .i64 0, .int .i64 1, .int .i64 1] rfl rfl rfl rfl (OwnU.new _ _ _) (by kernel_rfl) ?_))
  have hb2 : Below w1.heap.size w1 ((w1.alloc (.cells #[.int .i64 0, .int .i64 0, .int .i64 0, .int .i64 0, .int .i64 0, .int .i64 0, .int .i64 0, .int .i64 0, .int .i64 0, .int .i64 0] 55)).setRow w1.heap.size #[.int .i64 1, .int .i64 1, .int .i64 (-2), .int .i64 0, .int .i64 0, .int .i64 0, .int .i64 0, .int .i64 0, .int .i64 1, .int .i64 1]) := below_setRow (albel _ _) (Nat.le_refl _) _
  have HB2 : Hid (OwnU ((w1.alloc (.cells #[.int .i64 0, .int .i64 0, .int .i64 0, .int .i64 0, .int .i64 0, .int .i64 0, .int .i64 0, .int .i64 0, .int .i64 0, .int .i64 0] 55)).setRow w1.heap.size #[.int .i64 1, .int .i64 1, .int .i64 (-2), .int .i64 0, .int .i64 0, .int .i64 0, .int .i64 0, .int .i64 0, .int .i64 1, .int .i64 1]) w1.heap.size 55 #[.int .i64 1, .int .i64 1, .int .i64 (-2), .int .i64 0, .int .i64 0, .int .i64 0, .int .i64 0, .int .i64 0, .int .i64 1, .int .i64 1]) := (OwnU.new _ _ _).setRow _
  have HR2 := hide ((un HR1).later hb2)
  have HW2 := hide ((un HW1).trans (hb2.mono (un HW1).size))
  clear hb2 hfl hix
  generalize (w1.alloc (.cells #[.int .i64 0, .int .i64 0, .int .i64 0, .int .i64 0, .int .i64 0, .int .i64 0, .int .i64 0, .int .i64 0, .int .i64 0, .int .i64 0] 55)).setRow w1.heap.size #[.int .i64 1, .int .i64 1, .int .i64 (-2), .int .i64 0, .int .i64 0, .int .i64 0, .int .i64 0, .int .i64 0, .int .i64 1, .int .i64 1] = w2 at *
  generalize w1.heap.size = b1 at *
  go_wp2_with (first
    | (go_at_call 104; go_must (refine (grp_energy b1 _ (un HB2)).mono ?_; rintro e w3 ⟨rfl, hb⟩; have HR3 := hide ((un HR2).later hb); have HW3 := hide ((un HW2).trans (hb.mono (un HW2).size)); clear hb))
    | (refine storeT 91 81 info91 rfl (.tmp 0) (.tmp 6) rfl w.heap.size gZero g_energy1 rfl rfl rfl rfl (un HR3) (by kernel_rfl) ?_))
  exact bodyPost_ret (v := .agg g_energy1) (res91 Tryz.results72 _ _ w.heap.size _ rfl rfl ((un HR3).setRow _)) rfl ⟨rfl, below_setRow (un HW3) (Nat.le_refl _) _⟩
set_option maxRecDepth 100000 in
set_option maxHeartbeats 4000000 in
theorem grp_power (b1 : Nat) (w : World) (h1 : OwnU w b1 55 #[.int .i64 2, .int .i64 1, .int .i64 (-2), .int .i64 0, .int .i64 0, .int .i64 0, .int .i64 0, .int .i64 0, .int .i64 1, .int .i64 1]) : Calls Tryz.prog 104 #[.func (.func 110) #[] #[.pointer (some ⟨b1, 0, none⟩)]] w fun e w' => e = .returned (.agg g_power1) ∧ Below w.heap.size w w' := by
  obtain ⟨V, hV⟩ : ∃ V, V = (w.alloc (.cells Tryz.zeroCells91 91)).alloc (.cells Tryz.zeroCells91 91) := ⟨_, rfl⟩
  obtain ⟨g, hg⟩ : ∃ g, g = w.heap.size + 1 := ⟨_, rfl⟩
  have HW : Hid (Below w.heap.size w V) := by rw [hV]; exact ((Below.refl _ _).alloc (Nat.le_refl _) _).alloc (by simp) _
  have HR : Hid (OwnU V w.heap.size 91 gZero) := by rw [hV, ← zc91]; exact (OwnU.new w _ 91).alloc _
  have HG : Hid (OwnU V g 91 gZero) := by rw [hV, hg, ← zc91]; have h := OwnU.new (w.alloc (.cells Tryz.zeroCells91 91)) Tryz.zeroCells91 91; rw [Dm.size_alloc] at h; exact h
  have HC1 : Hid (OwnU V b1 55 #[.int .i64 2, .int .i64 1, .int .i64 (-2), .int .i64 0, .int .i64 0, .int .i64 0, .int .i64 0, .int .i64 0, .int .i64 1, .int .i64 1] ∧ ¬ b1 = g) := ⟨h1.later (un HW), (by have := h1.lt; omega)⟩
  have HN : Hid (¬ w.heap.size = g ∧ w.heap.size ≤ g ∧ w.heap.size ≤ V.heap.size) := ⟨by omega, by omega, (un HW).size⟩
  have HV := hide hV
  clear hV h1
  go_enter Tryz.func104, Tryz.ntmps104
  go_upto_region 2 with fail
  rw [← un HV, ← hg]
  clear HV hg
  go_upto_region 3 with (go_at_call 110; go_must (refine (fill_power g b1 _ (un HG) (un HC1).1 (un HC1).2).mono ?_; rintro e w1 ⟨rfl, hg1, ho1⟩; have HG1 := hide hg1; have HR1 := hide (ho1.own _ _ _ (un HN).1 (un HR)); have HW1 := hide (ho1.bel w.heap.size w (un HN).2.1 (un HN).2.2 (un HW)); clear hg1 ho1))
  go_wp2_with (first
    | (refine wpList_load_row rfl 91 (.tmp 3) rfl g rfl 91 g_power1 (0, 0) _ (un HG1) Tryz.underlying91 rfl (by kernel_rfl) ?_)
    | (refine storeT 91 81 info91 rfl (.tmp 2) (.tmp 7) rfl w.heap.size gZero g_power1 rfl rfl rfl rfl (un HR1) (by kernel_rfl) ?_))
  exact bodyPost_ret (v := .agg g_power1) (res91 Tryz.results104 _ _ w.heap.size _ rfl rfl ((un HR1).setRow _)) rfl ⟨rfl, below_setRow (un HW1) (Nat.le_refl _) _⟩
theorem fld_power (w : World) : (Instr.field 91 (.agg g_energy1) 0).run Tryz.prog w = .ok (.agg (g_energy1.extract 0 80)) w := by kernel_rfl
theorem idx_power (w : World) : (Instr.index 89 (.agg (g_energy1.extract 0 80)) (.int .i64 0)).run Tryz.prog w = .ok (.agg #[.int .i64 2, .int .i64 1, .int .i64 (-2), .int .i64 0, .int .i64 0, .int .i64 0, .int .i64 0, .int .i64 0, .int .i64 1, .int .i64 1]) w := by kernel_rfl
set_option maxRecDepth 100000 in
set_option maxHeartbeats 4000000 in
theorem made_power (w : World) : Calls Tryz.prog 73 #[] w fun e w' => e = .returned (.agg g_power1) ∧ Below w.heap.size w w' := by
  obtain ⟨V, hV⟩ : ∃ V, V = w.alloc (.cells Tryz.zeroCells91 91) := ⟨_, rfl⟩
  have HW : Hid (Below w.heap.size w V) := by rw [hV]; exact (Below.refl _ _).alloc (Nat.le_refl _) _
  have HR : Hid (OwnU V w.heap.size 91 gZero) := by rw [hV, ← zc91]; exact OwnU.new w _ 91
  have HV := hide hV
  clear hV
  have hfl := fld_power
  have hix := idx_power
  go_enter Tryz.func73, Tryz.ntmps73
  go_upto_region 1 with fail
  rw [← un HV]
  clear HV
  go_upto_region 2 with (first
    | (go_at_call 72; go_must (refine (made_energy _).mono ?_; rintro e w1 ⟨rfl, hb⟩; have HR1 := hide ((un HR).later hb); have HW1 := hide ((un HW).trans (hb.mono (un HW).size)); clear hb))
    | (refine storeT 55 10 info55 rfl (.tmp 1) (.tmp 4) rfl w1.heap.size #[.int .i64 0, .int .i64 0, .int .i64 0, .int .i64 0, .int .i64 0, .int .i64 0, .int .i64 0, .int .i64 0, .int .i64 0, .int .i64 0] #[.int .i64 2, .int .i64 1, .int .i64 (-2), .int .i64 0, .int .i64 0, .int .i64 0, .int .i64 0, .int .i64 0, .int .i64 1, .int .i64 1] rfl rfl rfl rfl (OwnU.new _ _ _) (by kernel_rfl) ?_))
  have hb2 : Below w1.heap.size w1 ((w1.alloc (.cells #[.int .i64 0, .int .i64 0, .int .i64 0, .int .i64 0, .int .i64 0, .int .i64 0, .int .i64 0, .int .i64 0, .int .i64 0, .int .i64 0] 55)).setRow w1.heap.size #[.int .i64 2, .int .i64 1, .int .i64 (-2), .int .i64 0, .int .i64 0, .int .i64 0, .int .i64 0, .int .i64 0, .int .i64 1, .int .i64 1]) := below_setRow (albel _ _) (Nat.le_refl _) _
  have HB2 : Hid (OwnU ((w1.alloc (.cells #[.int .i64 0, .int .i64 0, .int .i64 0, .int .i64 0, .int .i64 0, .int .i64 0, .int .i64 0, .int .i64 0, .int .i64 0, .int .i64 0] 55)).setRow w1.heap.size #[.int .i64 2, .int .i64 1, .int .i64 (-2), .int .i64 0, .int .i64 0, .int .i64 0, .int .i64 0, .int .i64 0, .int .i64 1, .int .i64 1]) w1.heap.size 55 #[.int .i64 2, .int .i64 1, .int .i64 (-2), .int .i64 0, .int .i64 0, .int .i64 0, .int .i64 0, .int .i64 0, .int .i64 1, .int .i64 1]) := (OwnU.new _ _ _).setRow _
  have HR2 := hide ((un HR1).later hb2)
  have HW2 := hide ((un HW1).trans (hb2.mono (un HW1).size))
  clear hb2 hfl hix
  generalize (w1.alloc (.cells #[.int .i64 0, .int .i64 0, .int .i64 0, .int .i64 0, .int .i64 0, .int .i64 0, .int .i64 0, .int .i64 0, .int .i64 0, .int .i64 0] 55)).setRow w1.heap.size #[.int .i64 2, .int .i64 1, .int .i64 (-2), .int .i64 0, .int .i64 0, .int .i64 0, .int .i64 0, .int .i64 0, .int .i64 1, .int .i64 1] = w2 at *
  generalize w1.heap.size = b1 at *
  go_wp2_with (first
    | (go_at_call 104; go_must (refine (grp_power b1 _ (un HB2)).mono ?_; rintro e w3 ⟨rfl, hb⟩; have HR3 := hide ((un HR2).later hb); have HW3 := hide ((un HW2).trans (hb.mono (un HW2).size)); clear hb))
    | (refine storeT 91 81 info91 rfl (.tmp 0) (.tmp 6) rfl w.heap.size gZero g_power1 rfl rfl rfl rfl (un HR3) (by kernel_rfl) ?_))
  exact bodyPost_ret (v := .agg g_power1) (res91 Tryz.results73 _ _ w.heap.size _ rfl rfl ((un HR3).setRow _)) rfl ⟨rfl, below_setRow (un HW3) (Nat.le_refl _) _⟩
set_option maxRecDepth 100000 in
set_option maxHeartbeats 4000000 in
theorem grp_times (w : World) : Calls Tryz.prog 104 #[.func (.func 113) #[] #[]] w fun e w' => e = .returned (.agg g_times1) ∧ Below w.heap.size w w' := by
  obtain ⟨V, hV⟩ : ∃ V, V = (w.alloc (.cells Tryz.zeroCells91 91)).alloc (.cells Tryz.zeroCells91 91) := ⟨_, rfl⟩
  obtain ⟨g, hg⟩ : ∃ g, g = w.heap.size + 1 := ⟨_, rfl⟩
  have HW : Hid (Below w.heap.size w V) := by rw [hV]; exact ((Below.refl _ _).alloc (Nat.le_refl _) _).alloc (by simp) _
  have HR : Hid (OwnU V w.heap.size 91 gZero) := by rw [hV, ← zc91]; exact (OwnU.new w _ 91).alloc _
  have HG : Hid (OwnU V g 91 gZero) := by rw [hV, hg, ← zc91]; have h := OwnU.new (w.alloc (.cells Tryz.zeroCells91 91)) Tryz.zeroCells91 91; rw [Dm.size_alloc] at h; exact h
  have HN : Hid (¬ w.heap.size = g ∧ w.heap.size ≤ g ∧ w.heap.size ≤ V.heap.size) := ⟨by omega, by omega, (un HW).size⟩
  have HV := hide hV
  clear hV 
  go_enter Tryz.func104, Tryz.ntmps104
  go_upto_region 2 with fail
  rw [← un HV, ← hg]
  clear HV hg
  go_upto_region 3 with (go_at_call 113; go_must (refine (fill_times g  _ (un HG) ).mono ?_; rintro e w1 ⟨rfl, hg1, ho1⟩; have HG1 := hide hg1; have HR1 := hide (ho1.own _ _ _ (un HN).1 (un HR)); have HW1 := hide (ho1.bel w.heap.size w (un HN).2.1 (un HN).2.2 (un HW)); clear hg1 ho1))
  go_wp2_with (first
    | (refine wpList_load_row rfl 91 (.tmp 3) rfl g rfl 91 g_times1 (0, 0) _ (un HG1) Tryz.underlying91 rfl (by kernel_rfl) ?_)
    | (refine storeT 91 81 info91 rfl (.tmp 2) (.tmp 7) rfl w.heap.size gZero g_times1 rfl rfl rfl rfl (un HR1) (by kernel_rfl) ?_))
  exact bodyPost_ret (v := .agg g_times1) (res91 Tryz.results104 _ _ w.heap.size _ rfl rfl ((un HR1).setRow _)) rfl ⟨rfl, below_setRow (un HW1) (Nat.le_refl _) _⟩
set_option maxRecDepth 100000 in
set_option maxHeartbeats 4000000 in
theorem made_times (w : World) : Calls Tryz.prog 75 #[] w fun e w' => e = .returned (.agg g_times1) ∧ Below w.heap.size w w' := by
  obtain ⟨V, hV⟩ : ∃ V, V = w.alloc (.cells Tryz.zeroCells91 91) := ⟨_, rfl⟩
  have HW : Hid (Below w.heap.size w V) := by rw [hV]; exact (Below.refl _ _).alloc (Nat.le_refl _) _
  have HR : Hid (OwnU V w.heap.size 91 gZero) := by rw [hV, ← zc91]; exact OwnU.new w _ 91
  have HV := hide hV
  clear hV
  go_enter Tryz.func75, Tryz.ntmps75
  go_upto_region 1 with fail
  rw [← un HV]
  clear HV
  go_wp2_with (first
    | (go_at_call 104; go_must (refine (grp_times _).mono ?_; rintro e w1 ⟨rfl, hb⟩; have HR1 := hide ((un HR).later hb); have HW1 := hide ((un HW).trans (hb.mono (un HW).size)); clear hb))
    | (refine storeT 91 81 info91 rfl (.tmp 0) (.tmp 1) rfl w.heap.size gZero g_times1 rfl rfl rfl rfl (un HR1) (by kernel_rfl) ?_))
  exact bodyPost_ret (v := .agg g_times1) (res91 Tryz.results75 _ _ w.heap.size _ rfl rfl ((un HR1).setRow _)) rfl ⟨rfl, below_setRow (un HW1) (Nat.le_refl _) _⟩
set_option maxRecDepth 100000 in
set_option maxHeartbeats 4000000 in
theorem grp_plane (w : World) : Calls Tryz.prog 104 #[.func (.func 115) #[] #[]] w fun e w' => e = .returned (.agg g_plane2) ∧ Below w.heap.size w w' := by
  obtain ⟨V, hV⟩ : ∃ V, V = (w.alloc (.cells Tryz.zeroCells91 91)).alloc (.cells Tryz.zeroCells91 91) := ⟨_, rfl⟩
  obtain ⟨g, hg⟩ : ∃ g, g = w.heap.size + 1 := ⟨_, rfl⟩
  have HW : Hid (Below w.heap.size w V) := by rw [hV]; exact ((Below.refl _ _).alloc (Nat.le_refl _) _).alloc (by simp) _
  have HR : Hid (OwnU V w.heap.size 91 gZero) := by rw [hV, ← zc91]; exact (OwnU.new w _ 91).alloc _
  have HG : Hid (OwnU V g 91 gZero) := by rw [hV, hg, ← zc91]; have h := OwnU.new (w.alloc (.cells Tryz.zeroCells91 91)) Tryz.zeroCells91 91; rw [Dm.size_alloc] at h; exact h
  have HN : Hid (¬ w.heap.size = g ∧ w.heap.size ≤ g ∧ w.heap.size ≤ V.heap.size) := ⟨by omega, by omega, (un HW).size⟩
  have HV := hide hV
  clear hV 
  go_enter Tryz.func104, Tryz.ntmps104
  go_upto_region 2 with fail
  rw [← un HV, ← hg]
  clear HV hg
  go_upto_region 3 with (go_at_call 115; go_must (refine (fill_plane g  _ (un HG) ).mono ?_; rintro e w1 ⟨rfl, hg1, ho1⟩; have HG1 := hide hg1; have HR1 := hide (ho1.own _ _ _ (un HN).1 (un HR)); have HW1 := hide (ho1.bel w.heap.size w (un HN).2.1 (un HN).2.2 (un HW)); clear hg1 ho1))
  go_wp2_with (first
    | (refine wpList_load_row rfl 91 (.tmp 3) rfl g rfl 91 g_plane2 (0, 0) _ (un HG1) Tryz.underlying91 rfl (by kernel_rfl) ?_)
    | (refine storeT 91 81 info91 rfl (.tmp 2) (.tmp 7) rfl w.heap.size gZero g_plane2 rfl rfl rfl rfl (un HR1) (by kernel_rfl) ?_))
  exact bodyPost_ret (v := .agg g_plane2) (res91 Tryz.results104 _ _ w.heap.size _ rfl rfl ((un HR1).setRow _)) rfl ⟨rfl, below_setRow (un HW1) (Nat.le_refl _) _⟩
set_option maxRecDepth 100000 in
set_option maxHeartbeats 4000000 in
theorem made_plane (w : World) : Calls Tryz.prog 77 #[] w fun e w' => e = .returned (.agg g_plane2) ∧ Below w.heap.size w w' := by
  obtain ⟨V, hV⟩ : ∃ V, V = w.alloc (.cells Tryz.zeroCells91 91) := ⟨_, rfl⟩
  have HW : Hid (Below w.heap.size w V) := by rw [hV]; exact (Below.refl _ _).alloc (Nat.le_refl _) _
  have HR : Hid (OwnU V w.heap.size 91 gZero) := by rw [hV, ← zc91]; exact OwnU.new w _ 91
  have HV := hide hV
  clear hV
  go_enter Tryz.func77, Tryz.ntmps77
  go_upto_region 1 with fail
  rw [← un HV]
  clear HV
  go_wp2_with (first
    | (go_at_call 104; go_must (refine (grp_plane _).mono ?_; rintro e w1 ⟨rfl, hb⟩; have HR1 := hide ((un HR).later hb); have HW1 := hide ((un HW).trans (hb.mono (un HW).size)); clear hb))
    | (refine storeT 91 81 info91 rfl (.tmp 0) (.tmp 1) rfl w.heap.size gZero g_plane2 rfl rfl rfl rfl (un HR1) (by kernel_rfl) ?_))
  exact bodyPost_ret (v := .agg g_plane2) (res91 Tryz.results77 _ _ w.heap.size _ rfl rfl ((un HR1).setRow _)) rfl ⟨rfl, below_setRow (un HW1) (Nat.le_refl _) _⟩
end Go.Proofs.YthcbhnggphdflaaGreatDoor

/- labels, allMade. -/
import Derived.Test.YthcbhnggphdflaaGreatDoorLimb2
import Derived.Test.YthcbhnggphdflaaGreatDoorSi5
import Derived.Test.YthcbhnggphdflaaGreatDoorSi6
import Derived.Test.YthcbhnggphdflaaGreatDoorSi7
namespace Go.Proofs.YthcbhnggphdflaaGreatDoor
open Go.RowKit
theorem zc91 : Tryz.zeroCells91 = gZero := by kernel_rfl
theorem info91 : (Tryz.prog.info? 91).map (·.size) = some 81 := by kernel_rfl
theorem res91 {fn : Func} {p : Tmp} (h : fn.results = #[.cell p 91]) (tmps : Array Value) (w : World) (g : Nat) (vs : Array Value) (hl : vs.size = 81) (hp : tmps.getD p undef = .pointer (some ⟨g, 0, none⟩)) (ho : OwnU w g 91 vs) :
  (results fn tmps).run Tryz.prog w = .ok (.agg vs) w := by
 rw [results_cell1 h, hp]
 simp only [asAddr, Sem.run_pure, Result.andThen_ok]
 rw [run_loadVar_row w g 91 91 vs (0, 0) _ ho Tryz.underlying91 rfl (by rw [info91, hl])]
set_option maxRecDepth 100000 in
set_option maxHeartbeats 4000000 in
theorem grp_force (w : World) : Calls Tryz.prog 104 #[.func (.func 105) #[] #[]] w fun e w' => e = .returned (.agg g_force2) ∧ Below w.heap.size w w' := by
 obtain ⟨V, hV⟩ : ∃ V, V = (w.alloc (.cells Tryz.zeroCells91 91)).alloc (.cells Tryz.zeroCells91 91) := ⟨_, rfl⟩
 obtain ⟨g, hg⟩ : ∃ g, g = w.heap.size + 1 := ⟨_, rfl⟩
 have HW : Hid (Below w.heap.size w V) := by rw [hV]; exact ((Below.refl _ _).alloc (Nat.le_refl _) _).alloc (by simp) _
 have HR : Hid (OwnU V w.heap.size 91 gZero) := by rw [hV, ← zc91]; exact (OwnU.new w _ 91).alloc _
 have HG : Hid (OwnU V g 91 gZero) := by rw [hV, hg, ← zc91]; have h := OwnU.new (w.alloc (.cells Tryz.zeroCells91 91)) Tryz.zeroCells91 91; rw [Dm.size_alloc] at h; exact h
 have HN : Hid (¬ w.heap.size = g ∧ w.heap.size ≤ g ∧ w.heap.size ≤ V.heap.size) := ⟨by omega, by omega, (un HW).size⟩
 have HV := hide hV
 clear hV
 go_enter Tryz.func104, Tryz.ntmps104
 go_upto_region 2 with fail
 rw [← un HV, ← hg]
 clear HV hg
 go_upto_region 3 with (go_at_call 105; go_must (refine (fill_force g  _ (un HG) ).mono ?_; rintro e w1 ⟨rfl, hg1, ho1⟩; have HG1 := hide hg1; have HR1 := hide (ho1.own _ _ _ (un HN).1 (un HR)); have HW1 := hide (ho1.bel w.heap.size w (un HN).2.1 (un HN).2.2 (un HW)); clear hg1 ho1))
 go_wp2_with (first
  | (refine wpList_load_row rfl 91 (.tmp 3) rfl g rfl 91 g_force2 (0, 0) _ (un HG1) Tryz.underlying91 rfl (by kernel_rfl) ?_)
  | (refine storeT 91 81 info91 rfl (.tmp 2) (.tmp 7) rfl w.heap.size gZero g_force2 rfl rfl rfl rfl (un HR1) (by kernel_rfl) ?_))
 exact bodyPost_ret (v := .agg g_force2) (res91 Tryz.results104 _ _ w.heap.size _ rfl rfl ((un HR1).setRow _)) rfl ⟨rfl, below_setRow (un HW1) (Nat.le_refl _) _⟩
set_option maxRecDepth 100000 in
set_option maxHeartbeats 4000000 in
theorem made_force (w : World) : Calls Tryz.prog 71 #[] w fun e w' => e = .returned (.agg g_force2) ∧ Below w.heap.size w w' := by
 obtain ⟨V, hV⟩ : ∃ V, V = w.alloc (.cells Tryz.zeroCells91 91) := ⟨_, rfl⟩
 have HW : Hid (Below w.heap.size w V) := by rw [hV]; exact (Below.refl _ _).alloc (Nat.le_refl _) _
 have HR : Hid (OwnU V w.heap.size 91 gZero) := by rw [hV, ← zc91]; exact OwnU.new w _ 91
 have HV := hide hV
 clear hV
 go_enter Tryz.func71, Tryz.ntmps71
 go_upto_region 1 with fail
 rw [← un HV]
 clear HV
 go_wp2_with (first
  | (go_at_call 104; go_must (refine (grp_force _).mono ?_; rintro e w1 ⟨rfl, hb⟩; have HR1 := hide ((un HR).later hb); have HW1 := hide ((un HW).trans (hb.mono (un HW).size)); clear hb))
  | (refine storeT 91 81 info91 rfl (.tmp 0) (.tmp 1) rfl w.heap.size gZero g_force2 rfl rfl rfl rfl (un HR1) (by kernel_rfl) ?_))
 exact bodyPost_ret (v := .agg g_force2) (res91 Tryz.results71 _ _ w.heap.size _ rfl rfl ((un HR1).setRow _)) rfl ⟨rfl, below_setRow (un HW1) (Nat.le_refl _) _⟩
set_option maxRecDepth 100000 in
set_option maxHeartbeats 4000000 in
theorem grp_energy (b1 : Nat) (w : World) (h1 : OwnU w b1 55 #[I 1, I 1, I (-2), I 0, I 0, I 0, I 0, I 0, I 1, I 1]) : Calls Tryz.prog 104 #[.func (.func 109) #[] #[.pointer (some ⟨b1, 0, none⟩)]] w fun e w' => e = .returned (.agg g_energy1) ∧ Below w.heap.size w w' := by
 obtain ⟨V, hV⟩ : ∃ V, V = (w.alloc (.cells Tryz.zeroCells91 91)).alloc (.cells Tryz.zeroCells91 91) := ⟨_, rfl⟩
 obtain ⟨g, hg⟩ : ∃ g, g = w.heap.size + 1 := ⟨_, rfl⟩
 have HW : Hid (Below w.heap.size w V) := by rw [hV]; exact ((Below.refl _ _).alloc (Nat.le_refl _) _).alloc (by simp) _
 have HR : Hid (OwnU V w.heap.size 91 gZero) := by rw [hV, ← zc91]; exact (OwnU.new w _ 91).alloc _
 have HG : Hid (OwnU V g 91 gZero) := by rw [hV, hg, ← zc91]; have h := OwnU.new (w.alloc (.cells Tryz.zeroCells91 91)) Tryz.zeroCells91 91; rw [Dm.size_alloc] at h; exact h
 have HC1 : Hid (OwnU V b1 55 #[I 1, I 1, I (-2), I 0, I 0, I 0, I 0, I 0, I 1, I 1] ∧ ¬ b1 = g) := ⟨h1.later (un HW), (by have := h1.lt; omega)⟩
 have HN : Hid (¬ w.heap.size = g ∧ w.heap.size ≤ g ∧ w.heap.size ≤ V.heap.size) := ⟨by omega, by omega, (un HW).size⟩
 have HV := hide hV
 clear hV h1
 go_enter Tryz.func104, Tryz.ntmps104
 go_upto_region 2 with fail
 rw [← un HV, ← hg]
 clear HV hg
 go_upto_region 3 with (go_at_call 109; go_must (refine (fill_energy g b1 _ (un HG) (un HC1).1 (un HC1).2).mono ?_; rintro e w1 ⟨rfl, hg1, ho1⟩; have HG1 := hide hg1; have HR1 := hide (ho1.own _ _ _ (un HN).1 (un HR)); have HW1 := hide (ho1.bel w.heap.size w (un HN).2.1 (un HN).2.2 (un HW)); clear hg1 ho1))
 go_wp2_with (first
  | (refine wpList_load_row rfl 91 (.tmp 3) rfl g rfl 91 g_energy1 (0, 0) _ (un HG1) Tryz.underlying91 rfl (by kernel_rfl) ?_)
  | (refine storeT 91 81 info91 rfl (.tmp 2) (.tmp 7) rfl w.heap.size gZero g_energy1 rfl rfl rfl rfl (un HR1) (by kernel_rfl) ?_))
 exact bodyPost_ret (v := .agg g_energy1) (res91 Tryz.results104 _ _ w.heap.size _ rfl rfl ((un HR1).setRow _)) rfl ⟨rfl, below_setRow (un HW1) (Nat.le_refl _) _⟩
theorem fld_energy (w : World) : (Instr.field 91 (.agg g_force2) 0).run Tryz.prog w = .ok (.agg (g_force2.extract 0 80)) w := by kernel_rfl
theorem idx_energy (w : World) : (Instr.index 89 (.agg (g_force2.extract 0 80)) (I 0)).run Tryz.prog w = .ok (.agg #[I 1, I 1, I (-2), I 0, I 0, I 0, I 0, I 0, I 1, I 1]) w := by kernel_rfl
set_option maxRecDepth 100000 in
set_option maxHeartbeats 4000000 in
theorem made_energy (w : World) : Calls Tryz.prog 72 #[] w fun e w' => e = .returned (.agg g_energy1) ∧ Below w.heap.size w w' := by
 obtain ⟨V, hV⟩ : ∃ V, V = w.alloc (.cells Tryz.zeroCells91 91) := ⟨_, rfl⟩
 have HW : Hid (Below w.heap.size w V) := by rw [hV]; exact (Below.refl _ _).alloc (Nat.le_refl _) _
 have HR : Hid (OwnU V w.heap.size 91 gZero) := by rw [hV, ← zc91]; exact OwnU.new w _ 91
 have HV := hide hV
 clear hV
 have hfl := fld_energy
 have hix := idx_energy
 go_enter Tryz.func72, Tryz.ntmps72
 go_upto_region 1 with fail
 rw [← un HV]
 clear HV
 go_upto_region 2 with (first
  | (go_at_call 71; go_must (refine (made_force _).mono ?_; rintro e w1 ⟨rfl, hb⟩; have HR1 := hide ((un HR).later hb); have HW1 := hide ((un HW).trans (hb.mono (un HW).size)); clear hb))
  | (refine storeT 55 10 info55 rfl (.tmp 1) (.tmp 4) rfl w1.heap.size #[I 0, I 0, I 0, I 0, I 0, I 0, I 0, I 0, I 0, I 0] #[I 1, I 1, I (-2), I 0, I 0, I 0, I 0, I 0, I 1, I 1] rfl rfl rfl rfl (OwnU.new _ _ _) (by kernel_rfl) ?_))
 have hb2 : Below w1.heap.size w1 ((w1.alloc (.cells #[I 0, I 0, I 0, I 0, I 0, I 0, I 0, I 0, I 0, I 0] 55)).setRow w1.heap.size #[I 1, I 1, I (-2), I 0, I 0, I 0, I 0, I 0, I 1, I 1]) := below_setRow (albel _ _) (Nat.le_refl _) _
 have HB2 : Hid (OwnU ((w1.alloc (.cells #[I 0, I 0, I 0, I 0, I 0, I 0, I 0, I 0, I 0, I 0] 55)).setRow w1.heap.size #[I 1, I 1, I (-2), I 0, I 0, I 0, I 0, I 0, I 1, I 1]) w1.heap.size 55 #[I 1, I 1, I (-2), I 0, I 0, I 0, I 0, I 0, I 1, I 1]) := (OwnU.new _ _ _).setRow _
 have HR2 := hide ((un HR1).later hb2)
 have HW2 := hide ((un HW1).trans (hb2.mono (un HW1).size))
 clear hb2 hfl hix
 generalize (w1.alloc (.cells #[I 0, I 0, I 0, I 0, I 0, I 0, I 0, I 0, I 0, I 0] 55)).setRow w1.heap.size #[I 1, I 1, I (-2), I 0, I 0, I 0, I 0, I 0, I 1, I 1] = w2 at *
 generalize w1.heap.size = b1 at *
 go_wp2_with (first
  | (go_at_call 104; go_must (refine (grp_energy b1 _ (un HB2)).mono ?_; rintro e w3 ⟨rfl, hb⟩; have HR3 := hide ((un HR2).later hb); have HW3 := hide ((un HW2).trans (hb.mono (un HW2).size)); clear hb))
  | (refine storeT 91 81 info91 rfl (.tmp 0) (.tmp 6) rfl w.heap.size gZero g_energy1 rfl rfl rfl rfl (un HR3) (by kernel_rfl) ?_))
 exact bodyPost_ret (v := .agg g_energy1) (res91 Tryz.results72 _ _ w.heap.size _ rfl rfl ((un HR3).setRow _)) rfl ⟨rfl, below_setRow (un HW3) (Nat.le_refl _) _⟩
set_option maxRecDepth 100000 in
set_option maxHeartbeats 4000000 in
theorem grp_power (b1 : Nat) (w : World) (h1 : OwnU w b1 55 #[I 2, I 1, I (-2), I 0, I 0, I 0, I 0, I 0, I 1, I 1]) : Calls Tryz.prog 104 #[.func (.func 110) #[] #[.pointer (some ⟨b1, 0, none⟩)]] w fun e w' => e = .returned (.agg g_power1) ∧ Below w.heap.size w w' := by
 obtain ⟨V, hV⟩ : ∃ V, V = (w.alloc (.cells Tryz.zeroCells91 91)).alloc (.cells Tryz.zeroCells91 91) := ⟨_, rfl⟩
 obtain ⟨g, hg⟩ : ∃ g, g = w.heap.size + 1 := ⟨_, rfl⟩
 have HW : Hid (Below w.heap.size w V) := by rw [hV]; exact ((Below.refl _ _).alloc (Nat.le_refl _) _).alloc (by simp) _
 have HR : Hid (OwnU V w.heap.size 91 gZero) := by rw [hV, ← zc91]; exact (OwnU.new w _ 91).alloc _
 have HG : Hid (OwnU V g 91 gZero) := by rw [hV, hg, ← zc91]; have h := OwnU.new (w.alloc (.cells Tryz.zeroCells91 91)) Tryz.zeroCells91 91; rw [Dm.size_alloc] at h; exact h
 have HC1 : Hid (OwnU V b1 55 #[I 2, I 1, I (-2), I 0, I 0, I 0, I 0, I 0, I 1, I 1] ∧ ¬ b1 = g) := ⟨h1.later (un HW), (by have := h1.lt; omega)⟩
 have HN : Hid (¬ w.heap.size = g ∧ w.heap.size ≤ g ∧ w.heap.size ≤ V.heap.size) := ⟨by omega, by omega, (un HW).size⟩
 have HV := hide hV
 clear hV h1
 go_enter Tryz.func104, Tryz.ntmps104
 go_upto_region 2 with fail
 rw [← un HV, ← hg]
 clear HV hg
 go_upto_region 3 with (go_at_call 110; go_must (refine (fill_power g b1 _ (un HG) (un HC1).1 (un HC1).2).mono ?_; rintro e w1 ⟨rfl, hg1, ho1⟩; have HG1 := hide hg1; have HR1 := hide (ho1.own _ _ _ (un HN).1 (un HR)); have HW1 := hide (ho1.bel w.heap.size w (un HN).2.1 (un HN).2.2 (un HW)); clear hg1 ho1))
 go_wp2_with (first
  | (refine wpList_load_row rfl 91 (.tmp 3) rfl g rfl 91 g_power1 (0, 0) _ (un HG1) Tryz.underlying91 rfl (by kernel_rfl) ?_)
  | (refine storeT 91 81 info91 rfl (.tmp 2) (.tmp 7) rfl w.heap.size gZero g_power1 rfl rfl rfl rfl (un HR1) (by kernel_rfl) ?_))
 exact bodyPost_ret (v := .agg g_power1) (res91 Tryz.results104 _ _ w.heap.size _ rfl rfl ((un HR1).setRow _)) rfl ⟨rfl, below_setRow (un HW1) (Nat.le_refl _) _⟩
theorem fld_power (w : World) : (Instr.field 91 (.agg g_energy1) 0).run Tryz.prog w = .ok (.agg (g_energy1.extract 0 80)) w := by kernel_rfl
theorem idx_power (w : World) : (Instr.index 89 (.agg (g_energy1.extract 0 80)) (I 0)).run Tryz.prog w = .ok (.agg #[I 2, I 1, I (-2), I 0, I 0, I 0, I 0, I 0, I 1, I 1]) w := by kernel_rfl
set_option maxRecDepth 100000 in
set_option maxHeartbeats 4000000 in
theorem made_power (w : World) : Calls Tryz.prog 73 #[] w fun e w' => e = .returned (.agg g_power1) ∧ Below w.heap.size w w' := by
 obtain ⟨V, hV⟩ : ∃ V, V = w.alloc (.cells Tryz.zeroCells91 91) := ⟨_, rfl⟩
 have HW : Hid (Below w.heap.size w V) := by rw [hV]; exact (Below.refl _ _).alloc (Nat.le_refl _) _
 have HR : Hid (OwnU V w.heap.size 91 gZero) := by rw [hV, ← zc91]; exact OwnU.new w _ 91
 have HV := hide hV
 clear hV
 have hfl := fld_power
 have hix := idx_power
 go_enter Tryz.func73, Tryz.ntmps73
 go_upto_region 1 with fail
 rw [← un HV]
 clear HV
 go_upto_region 2 with (first
  | (go_at_call 72; go_must (refine (made_energy _).mono ?_; rintro e w1 ⟨rfl, hb⟩; have HR1 := hide ((un HR).later hb); have HW1 := hide ((un HW).trans (hb.mono (un HW).size)); clear hb))
  | (refine storeT 55 10 info55 rfl (.tmp 1) (.tmp 4) rfl w1.heap.size #[I 0, I 0, I 0, I 0, I 0, I 0, I 0, I 0, I 0, I 0] #[I 2, I 1, I (-2), I 0, I 0, I 0, I 0, I 0, I 1, I 1] rfl rfl rfl rfl (OwnU.new _ _ _) (by kernel_rfl) ?_))
 have hb2 : Below w1.heap.size w1 ((w1.alloc (.cells #[I 0, I 0, I 0, I 0, I 0, I 0, I 0, I 0, I 0, I 0] 55)).setRow w1.heap.size #[I 2, I 1, I (-2), I 0, I 0, I 0, I 0, I 0, I 1, I 1]) := below_setRow (albel _ _) (Nat.le_refl _) _
 have HB2 : Hid (OwnU ((w1.alloc (.cells #[I 0, I 0, I 0, I 0, I 0, I 0, I 0, I 0, I 0, I 0] 55)).setRow w1.heap.size #[I 2, I 1, I (-2), I 0, I 0, I 0, I 0, I 0, I 1, I 1]) w1.heap.size 55 #[I 2, I 1, I (-2), I 0, I 0, I 0, I 0, I 0, I 1, I 1]) := (OwnU.new _ _ _).setRow _
 have HR2 := hide ((un HR1).later hb2)
 have HW2 := hide ((un HW1).trans (hb2.mono (un HW1).size))
 clear hb2 hfl hix
 generalize (w1.alloc (.cells #[I 0, I 0, I 0, I 0, I 0, I 0, I 0, I 0, I 0, I 0] 55)).setRow w1.heap.size #[I 2, I 1, I (-2), I 0, I 0, I 0, I 0, I 0, I 1, I 1] = w2 at *
 generalize w1.heap.size = b1 at *
 go_wp2_with (first
  | (go_at_call 104; go_must (refine (grp_power b1 _ (un HB2)).mono ?_; rintro e w3 ⟨rfl, hb⟩; have HR3 := hide ((un HR2).later hb); have HW3 := hide ((un HW2).trans (hb.mono (un HW2).size)); clear hb))
  | (refine storeT 91 81 info91 rfl (.tmp 0) (.tmp 6) rfl w.heap.size gZero g_power1 rfl rfl rfl rfl (un HR3) (by kernel_rfl) ?_))
 exact bodyPost_ret (v := .agg g_power1) (res91 Tryz.results73 _ _ w.heap.size _ rfl rfl ((un HR3).setRow _)) rfl ⟨rfl, below_setRow (un HW3) (Nat.le_refl _) _⟩
set_option maxRecDepth 100000 in
set_option maxHeartbeats 4000000 in
theorem grp_times (w : World) : Calls Tryz.prog 104 #[.func (.func 113) #[] #[]] w fun e w' => e = .returned (.agg g_times1) ∧ Below w.heap.size w w' := by
 obtain ⟨V, hV⟩ : ∃ V, V = (w.alloc (.cells Tryz.zeroCells91 91)).alloc (.cells Tryz.zeroCells91 91) := ⟨_, rfl⟩
 obtain ⟨g, hg⟩ : ∃ g, g = w.heap.size + 1 := ⟨_, rfl⟩
 have HW : Hid (Below w.heap.size w V) := by rw [hV]; exact ((Below.refl _ _).alloc (Nat.le_refl _) _).alloc (by simp) _
 have HR : Hid (OwnU V w.heap.size 91 gZero) := by rw [hV, ← zc91]; exact (OwnU.new w _ 91).alloc _
 have HG : Hid (OwnU V g 91 gZero) := by rw [hV, hg, ← zc91]; have h := OwnU.new (w.alloc (.cells Tryz.zeroCells91 91)) Tryz.zeroCells91 91; rw [Dm.size_alloc] at h; exact h
 have HN : Hid (¬ w.heap.size = g ∧ w.heap.size ≤ g ∧ w.heap.size ≤ V.heap.size) := ⟨by omega, by omega, (un HW).size⟩
 have HV := hide hV
 clear hV
 go_enter Tryz.func104, Tryz.ntmps104
 go_upto_region 2 with fail
 rw [← un HV, ← hg]
 clear HV hg
 go_upto_region 3 with (go_at_call 113; go_must (refine (fill_times g  _ (un HG) ).mono ?_; rintro e w1 ⟨rfl, hg1, ho1⟩; have HG1 := hide hg1; have HR1 := hide (ho1.own _ _ _ (un HN).1 (un HR)); have HW1 := hide (ho1.bel w.heap.size w (un HN).2.1 (un HN).2.2 (un HW)); clear hg1 ho1))
 go_wp2_with (first
  | (refine wpList_load_row rfl 91 (.tmp 3) rfl g rfl 91 g_times1 (0, 0) _ (un HG1) Tryz.underlying91 rfl (by kernel_rfl) ?_)
  | (refine storeT 91 81 info91 rfl (.tmp 2) (.tmp 7) rfl w.heap.size gZero g_times1 rfl rfl rfl rfl (un HR1) (by kernel_rfl) ?_))
 exact bodyPost_ret (v := .agg g_times1) (res91 Tryz.results104 _ _ w.heap.size _ rfl rfl ((un HR1).setRow _)) rfl ⟨rfl, below_setRow (un HW1) (Nat.le_refl _) _⟩
set_option maxRecDepth 100000 in
set_option maxHeartbeats 4000000 in
theorem made_times (w : World) : Calls Tryz.prog 75 #[] w fun e w' => e = .returned (.agg g_times1) ∧ Below w.heap.size w w' := by
 obtain ⟨V, hV⟩ : ∃ V, V = w.alloc (.cells Tryz.zeroCells91 91) := ⟨_, rfl⟩
 have HW : Hid (Below w.heap.size w V) := by rw [hV]; exact (Below.refl _ _).alloc (Nat.le_refl _) _
 have HR : Hid (OwnU V w.heap.size 91 gZero) := by rw [hV, ← zc91]; exact OwnU.new w _ 91
 have HV := hide hV
 clear hV
 go_enter Tryz.func75, Tryz.ntmps75
 go_upto_region 1 with fail
 rw [← un HV]
 clear HV
 go_wp2_with (first
  | (go_at_call 104; go_must (refine (grp_times _).mono ?_; rintro e w1 ⟨rfl, hb⟩; have HR1 := hide ((un HR).later hb); have HW1 := hide ((un HW).trans (hb.mono (un HW).size)); clear hb))
  | (refine storeT 91 81 info91 rfl (.tmp 0) (.tmp 1) rfl w.heap.size gZero g_times1 rfl rfl rfl rfl (un HR1) (by kernel_rfl) ?_))
 exact bodyPost_ret (v := .agg g_times1) (res91 Tryz.results75 _ _ w.heap.size _ rfl rfl ((un HR1).setRow _)) rfl ⟨rfl, below_setRow (un HW1) (Nat.le_refl _) _⟩
set_option maxRecDepth 100000 in
set_option maxHeartbeats 4000000 in
theorem grp_plane (w : World) : Calls Tryz.prog 104 #[.func (.func 115) #[] #[]] w fun e w' => e = .returned (.agg g_plane2) ∧ Below w.heap.size w w' := by
 obtain ⟨V, hV⟩ : ∃ V, V = (w.alloc (.cells Tryz.zeroCells91 91)).alloc (.cells Tryz.zeroCells91 91) := ⟨_, rfl⟩
 obtain ⟨g, hg⟩ : ∃ g, g = w.heap.size + 1 := ⟨_, rfl⟩
 have HW : Hid (Below w.heap.size w V) := by rw [hV]; exact ((Below.refl _ _).alloc (Nat.le_refl _) _).alloc (by simp) _
 have HR : Hid (OwnU V w.heap.size 91 gZero) := by rw [hV, ← zc91]; exact (OwnU.new w _ 91).alloc _
 have HG : Hid (OwnU V g 91 gZero) := by rw [hV, hg, ← zc91]; have h := OwnU.new (w.alloc (.cells Tryz.zeroCells91 91)) Tryz.zeroCells91 91; rw [Dm.size_alloc] at h; exact h
 have HN : Hid (¬ w.heap.size = g ∧ w.heap.size ≤ g ∧ w.heap.size ≤ V.heap.size) := ⟨by omega, by omega, (un HW).size⟩
 have HV := hide hV
 clear hV
 go_enter Tryz.func104, Tryz.ntmps104
 go_upto_region 2 with fail
 rw [← un HV, ← hg]
 clear HV hg
 go_upto_region 3 with (go_at_call 115; go_must (refine (fill_plane g  _ (un HG) ).mono ?_; rintro e w1 ⟨rfl, hg1, ho1⟩; have HG1 := hide hg1; have HR1 := hide (ho1.own _ _ _ (un HN).1 (un HR)); have HW1 := hide (ho1.bel w.heap.size w (un HN).2.1 (un HN).2.2 (un HW)); clear hg1 ho1))
 go_wp2_with (first
  | (refine wpList_load_row rfl 91 (.tmp 3) rfl g rfl 91 g_plane2 (0, 0) _ (un HG1) Tryz.underlying91 rfl (by kernel_rfl) ?_)
  | (refine storeT 91 81 info91 rfl (.tmp 2) (.tmp 7) rfl w.heap.size gZero g_plane2 rfl rfl rfl rfl (un HR1) (by kernel_rfl) ?_))
 exact bodyPost_ret (v := .agg g_plane2) (res91 Tryz.results104 _ _ w.heap.size _ rfl rfl ((un HR1).setRow _)) rfl ⟨rfl, below_setRow (un HW1) (Nat.le_refl _) _⟩
set_option maxRecDepth 100000 in
set_option maxHeartbeats 4000000 in
theorem made_plane (w : World) : Calls Tryz.prog 77 #[] w fun e w' => e = .returned (.agg g_plane2) ∧ Below w.heap.size w w' := by
 obtain ⟨V, hV⟩ : ∃ V, V = w.alloc (.cells Tryz.zeroCells91 91) := ⟨_, rfl⟩
 have HW : Hid (Below w.heap.size w V) := by rw [hV]; exact (Below.refl _ _).alloc (Nat.le_refl _) _
 have HR : Hid (OwnU V w.heap.size 91 gZero) := by rw [hV, ← zc91]; exact OwnU.new w _ 91
 have HV := hide hV
 clear hV
 go_enter Tryz.func77, Tryz.ntmps77
 go_upto_region 1 with fail
 rw [← un HV]
 clear HV
 go_wp2_with (first
  | (go_at_call 104; go_must (refine (grp_plane _).mono ?_; rintro e w1 ⟨rfl, hb⟩; have HR1 := hide ((un HR).later hb); have HW1 := hide ((un HW).trans (hb.mono (un HW).size)); clear hb))
  | (refine storeT 91 81 info91 rfl (.tmp 0) (.tmp 1) rfl w.heap.size gZero g_plane2 rfl rfl rfl rfl (un HR1) (by kernel_rfl) ?_))
 exact bodyPost_ret (v := .agg g_plane2) (res91 Tryz.results77 _ _ w.heap.size _ rfl rfl ((un HR1).setRow _)) rfl ⟨rfl, below_setRow (un HW1) (Nat.le_refl _) _⟩
end Go.Proofs.YthcbhnggphdflaaGreatDoor

namespace Go.Proofs.YthcbhnggphdflaaGreatDoor
open Go.RowKit
set_option maxRecDepth 100000 in
set_option maxHeartbeats 4000000 in
theorem grp_light (b1 : Nat) (w : World) (h1 : OwnU w b1 55 #[I 0, I 0, I 0, I 0, I 0, I 0, I 0, I 0, I 1, I 1]) : Calls Tryz.prog 104 #[.func (.func 116) #[] #[.pointer (some ⟨b1, 0, none⟩)]] w fun e w' => e = .returned (.agg g_light2) ∧ Below w.heap.size w w' := by
 obtain ⟨V, hV⟩ : ∃ V, V = (w.alloc (.cells Tryz.zeroCells91 91)).alloc (.cells Tryz.zeroCells91 91) := ⟨_, rfl⟩
 obtain ⟨g, hg⟩ : ∃ g, g = w.heap.size + 1 := ⟨_, rfl⟩
 have HW : Hid (Below w.heap.size w V) := by rw [hV]; exact ((Below.refl _ _).alloc (Nat.le_refl _) _).alloc (by simp) _
 have HR : Hid (OwnU V w.heap.size 91 gZero) := by rw [hV, ← zc91]; exact (OwnU.new w _ 91).alloc _
 have HG : Hid (OwnU V g 91 gZero) := by rw [hV, hg, ← zc91]; have h := OwnU.new (w.alloc (.cells Tryz.zeroCells91 91)) Tryz.zeroCells91 91; rw [Dm.size_alloc] at h; exact h
 have HC1 : Hid (OwnU V b1 55 #[I 0, I 0, I 0, I 0, I 0, I 0, I 0, I 0, I 1, I 1] ∧ ¬ b1 = g) := ⟨h1.later (un HW), (by have := h1.lt; omega)⟩
 have HN : Hid (¬ w.heap.size = g ∧ w.heap.size ≤ g ∧ w.heap.size ≤ V.heap.size) := ⟨by omega, by omega, (un HW).size⟩
 have HV := hide hV
 clear hV h1
 go_enter Tryz.func104, Tryz.ntmps104
 go_upto_region 2 with fail
 rw [← un HV, ← hg]
 clear HV hg
 go_upto_region 3 with (go_at_call 116; go_must (refine (fill_light g b1 _ (un HG) (un HC1).1 (un HC1).2).mono ?_; rintro e w1 ⟨rfl, hg1, ho1⟩; have HG1 := hide hg1; have HR1 := hide (ho1.own _ _ _ (un HN).1 (un HR)); have HW1 := hide (ho1.bel w.heap.size w (un HN).2.1 (un HN).2.2 (un HW)); clear hg1 ho1))
 go_wp2_with (first
  | (refine wpList_load_row rfl 91 (.tmp 3) rfl g rfl 91 g_light2 (0, 0) _ (un HG1) Tryz.underlying91 rfl (by kernel_rfl) ?_)
  | (refine storeT 91 81 info91 rfl (.tmp 2) (.tmp 7) rfl w.heap.size gZero g_light2 rfl rfl rfl rfl (un HR1) (by kernel_rfl) ?_))
 exact bodyPost_ret (v := .agg g_light2) (res91 Tryz.results104 _ _ w.heap.size _ rfl rfl ((un HR1).setRow _)) rfl ⟨rfl, below_setRow (un HW1) (Nat.le_refl _) _⟩
theorem fld_light (w : World) : (Instr.field 91 (.agg g_plane2) 0).run Tryz.prog w = .ok (.agg (g_plane2.extract 0 80)) w := by kernel_rfl
theorem idx_light (w : World) : (Instr.index 89 (.agg (g_plane2.extract 0 80)) (I 1)).run Tryz.prog w = .ok (.agg #[I 0, I 0, I 0, I 0, I 0, I 0, I 0, I 0, I 1, I 1]) w := by kernel_rfl
set_option maxRecDepth 100000 in
set_option maxHeartbeats 4000000 in
theorem made_light (w : World) : Calls Tryz.prog 78 #[] w fun e w' => e = .returned (.agg g_light2) ∧ Below w.heap.size w w' := by
 obtain ⟨V, hV⟩ : ∃ V, V = w.alloc (.cells Tryz.zeroCells91 91) := ⟨_, rfl⟩
 have HW : Hid (Below w.heap.size w V) := by rw [hV]; exact (Below.refl _ _).alloc (Nat.le_refl _) _
 have HR : Hid (OwnU V w.heap.size 91 gZero) := by rw [hV, ← zc91]; exact OwnU.new w _ 91
 have HV := hide hV
 clear hV
 have hfl := fld_light
 have hix := idx_light
 go_enter Tryz.func78, Tryz.ntmps78
 go_upto_region 1 with fail
 rw [← un HV]
 clear HV
 go_upto_region 2 with (first
  | (go_at_call 77; go_must (refine (made_plane _).mono ?_; rintro e w1 ⟨rfl, hb⟩; have HR1 := hide ((un HR).later hb); have HW1 := hide ((un HW).trans (hb.mono (un HW).size)); clear hb))
  | (refine storeT 55 10 info55 rfl (.tmp 1) (.tmp 4) rfl w1.heap.size #[I 0, I 0, I 0, I 0, I 0, I 0, I 0, I 0, I 0, I 0] #[I 0, I 0, I 0, I 0, I 0, I 0, I 0, I 0, I 1, I 1] rfl rfl rfl rfl (OwnU.new _ _ _) (by kernel_rfl) ?_))
 have hb2 : Below w1.heap.size w1 ((w1.alloc (.cells #[I 0, I 0, I 0, I 0, I 0, I 0, I 0, I 0, I 0, I 0] 55)).setRow w1.heap.size #[I 0, I 0, I 0, I 0, I 0, I 0, I 0, I 0, I 1, I 1]) := below_setRow (albel _ _) (Nat.le_refl _) _
 have HB2 : Hid (OwnU ((w1.alloc (.cells #[I 0, I 0, I 0, I 0, I 0, I 0, I 0, I 0, I 0, I 0] 55)).setRow w1.heap.size #[I 0, I 0, I 0, I 0, I 0, I 0, I 0, I 0, I 1, I 1]) w1.heap.size 55 #[I 0, I 0, I 0, I 0, I 0, I 0, I 0, I 0, I 1, I 1]) := (OwnU.new _ _ _).setRow _
 have HR2 := hide ((un HR1).later hb2)
 have HW2 := hide ((un HW1).trans (hb2.mono (un HW1).size))
 clear hb2 hfl hix
 generalize (w1.alloc (.cells #[I 0, I 0, I 0, I 0, I 0, I 0, I 0, I 0, I 0, I 0] 55)).setRow w1.heap.size #[I 0, I 0, I 0, I 0, I 0, I 0, I 0, I 0, I 1, I 1] = w2 at *
 generalize w1.heap.size = b1 at *
 go_wp2_with (first
  | (go_at_call 104; go_must (refine (grp_light b1 _ (un HB2)).mono ?_; rintro e w3 ⟨rfl, hb⟩; have HR3 := hide ((un HR2).later hb); have HW3 := hide ((un HW2).trans (hb.mono (un HW2).size)); clear hb))
  | (refine storeT 91 81 info91 rfl (.tmp 0) (.tmp 6) rfl w.heap.size gZero g_light2 rfl rfl rfl rfl (un HR3) (by kernel_rfl) ?_))
 exact bodyPost_ret (v := .agg g_light2) (res91 Tryz.results78 _ _ w.heap.size _ rfl rfl ((un HR3).setRow _)) rfl ⟨rfl, below_setRow (un HW3) (Nat.le_refl _) _⟩
set_option maxRecDepth 100000 in
set_option maxHeartbeats 4000000 in
theorem grp_rays (b1 : Nat) (b2 : Nat) (w : World) (h1 : OwnU w b1 55 #[I 0, I 0, I (-1), I 0, I 0, I 0, I 0, I 0, I 1, I 1]) (h2 : OwnU w b2 55 #[I 2, I 1, I (-2), I 0, I 0, I 0, I 0, I 0, I 1, I 1]) : Calls Tryz.prog 104 #[.func (.func 114) #[] #[.pointer (some ⟨b1, 0, none⟩), .pointer (some ⟨b2, 0, none⟩)]] w fun e w' => e = .returned (.agg g_rays4) ∧ Below w.heap.size w w' := by
 obtain ⟨V, hV⟩ : ∃ V, V = (w.alloc (.cells Tryz.zeroCells91 91)).alloc (.cells Tryz.zeroCells91 91) := ⟨_, rfl⟩
 obtain ⟨g, hg⟩ : ∃ g, g = w.heap.size + 1 := ⟨_, rfl⟩
 have HW : Hid (Below w.heap.size w V) := by rw [hV]; exact ((Below.refl _ _).alloc (Nat.le_refl _) _).alloc (by simp) _
 have HR : Hid (OwnU V w.heap.size 91 gZero) := by rw [hV, ← zc91]; exact (OwnU.new w _ 91).alloc _
 have HG : Hid (OwnU V g 91 gZero) := by rw [hV, hg, ← zc91]; have h := OwnU.new (w.alloc (.cells Tryz.zeroCells91 91)) Tryz.zeroCells91 91; rw [Dm.size_alloc] at h; exact h
 have HC1 : Hid (OwnU V b1 55 #[I 0, I 0, I (-1), I 0, I 0, I 0, I 0, I 0, I 1, I 1] ∧ ¬ b1 = g) := ⟨h1.later (un HW), (by have := h1.lt; omega)⟩
 have HC2 : Hid (OwnU V b2 55 #[I 2, I 1, I (-2), I 0, I 0, I 0, I 0, I 0, I 1, I 1] ∧ ¬ b2 = g) := ⟨h2.later (un HW), (by have := h2.lt; omega)⟩
 have HN : Hid (¬ w.heap.size = g ∧ w.heap.size ≤ g ∧ w.heap.size ≤ V.heap.size) := ⟨by omega, by omega, (un HW).size⟩
 have HV := hide hV
 clear hV h1 h2
 go_enter Tryz.func104, Tryz.ntmps104
 go_upto_region 2 with fail
 rw [← un HV, ← hg]
 clear HV hg
 go_upto_region 3 with (go_at_call 114; go_must (refine (fill_rays g b1 b2 _ (un HG) (un HC1).1 (un HC1).2 (un HC2).1 (un HC2).2).mono ?_; rintro e w1 ⟨rfl, hg1, ho1⟩; have HG1 := hide hg1; have HR1 := hide (ho1.own _ _ _ (un HN).1 (un HR)); have HW1 := hide (ho1.bel w.heap.size w (un HN).2.1 (un HN).2.2 (un HW)); clear hg1 ho1))
 go_wp2_with (first
  | (refine wpList_load_row rfl 91 (.tmp 3) rfl g rfl 91 g_rays4 (0, 0) _ (un HG1) Tryz.underlying91 rfl (by kernel_rfl) ?_)
  | (refine storeT 91 81 info91 rfl (.tmp 2) (.tmp 7) rfl w.heap.size gZero g_rays4 rfl rfl rfl rfl (un HR1) (by kernel_rfl) ?_))
 exact bodyPost_ret (v := .agg g_rays4) (res91 Tryz.results104 _ _ w.heap.size _ rfl rfl ((un HR1).setRow _)) rfl ⟨rfl, below_setRow (un HW1) (Nat.le_refl _) _⟩
theorem fld_rays1 (w : World) : (Instr.field 91 (.agg g_energy1) 0).run Tryz.prog w = .ok (.agg (g_energy1.extract 0 80)) w := by kernel_rfl
theorem idx_rays1 (w : World) : (Instr.index 89 (.agg (g_energy1.extract 0 80)) (I 0)).run Tryz.prog w = .ok (.agg #[I 2, I 1, I (-2), I 0, I 0, I 0, I 0, I 0, I 1, I 1]) w := by kernel_rfl
theorem fld_rays2 (w : World) : (Instr.field 91 (.agg g_times1) 0).run Tryz.prog w = .ok (.agg (g_times1.extract 0 80)) w := by kernel_rfl
theorem idx_rays2 (w : World) : (Instr.index 89 (.agg (g_times1.extract 0 80)) (I 0)).run Tryz.prog w = .ok (.agg #[I 0, I 0, I (-1), I 0, I 0, I 0, I 0, I 0, I 1, I 1]) w := by kernel_rfl
set_option maxRecDepth 100000 in
set_option maxHeartbeats 4000000 in
theorem made_rays (w : World) : Calls Tryz.prog 76 #[] w fun e w' => e = .returned (.agg g_rays4) ∧ Below w.heap.size w w' := by
 obtain ⟨V, hV⟩ : ∃ V, V = w.alloc (.cells Tryz.zeroCells91 91) := ⟨_, rfl⟩
 have HW : Hid (Below w.heap.size w V) := by rw [hV]; exact (Below.refl _ _).alloc (Nat.le_refl _) _
 have HR : Hid (OwnU V w.heap.size 91 gZero) := by rw [hV, ← zc91]; exact OwnU.new w _ 91
 have HV := hide hV
 clear hV
 have hfl := fld_rays1
 have hix := idx_rays1
 have hfm := fld_rays2
 have hiy := idx_rays2
 go_enter Tryz.func76, Tryz.ntmps76
 go_upto_region 1 with fail
 rw [← un HV]
 clear HV
 go_upto_region 2 with (first
  | (go_at_call 72; go_must (refine (made_energy _).mono ?_; rintro e w1 ⟨rfl, hb⟩; have HR1 := hide ((un HR).later hb); have HW1 := hide ((un HW).trans (hb.mono (un HW).size)); clear hb))
  | (go_at_call 75; go_must (refine (made_times _).mono ?_; rintro e w2 ⟨rfl, hb⟩; have HR2 := hide ((un HR1).later hb); have HW2 := hide ((un HW1).trans (hb.mono (un HW1).size)); clear hb)))
 clear hfl hix hfm hiy
 obtain ⟨U, hU⟩ : ∃ U, U = (w2.alloc (.cells #[I 2, I 1, I (-2), I 0, I 0, I 0, I 0, I 0, I 1, I 1] 55)).alloc (.cells #[I 0, I 0, I (-1), I 0, I 0, I 0, I 0, I 0, I 1, I 1] 55) := ⟨_, rfl⟩
 have hbU : Below w2.heap.size w2 U := by rw [hU]; exact ((Below.refl _ _).alloc (Nat.le_refl _) _).alloc (by simp) _
 have HJ : Hid (OwnU U w2.heap.size 55 #[I 2, I 1, I (-2), I 0, I 0, I 0, I 0, I 0, I 1, I 1]) := by rw [hU]; exact (OwnU.new _ _ _).alloc _
 have HH : Hid (OwnU U (w2.heap.size + 1) 55 #[I 0, I 0, I (-1), I 0, I 0, I 0, I 0, I 0, I 1, I 1]) := by rw [hU]; have h := OwnU.new (w2.alloc (.cells #[I 2, I 1, I (-2), I 0, I 0, I 0, I 0, I 0, I 1, I 1] 55)) #[I 0, I 0, I (-1), I 0, I 0, I 0, I 0, I 0, I 1, I 1] 55; rw [Dm.size_alloc] at h; exact h
 have HR3 := hide ((un HR2).later hbU)
 have HW3 := hide ((un HW2).trans (hbU.mono (un HW2).size))
 rw [← hU]
 clear hU hbU
 obtain ⟨c1, hc1⟩ : ∃ c1, c1 = w2.heap.size + 1 := ⟨_, rfl⟩
 rw [← hc1] at HH ⊢
 clear hc1
 generalize w2.heap.size = c2 at *
 go_wp2_with (first
  | (go_at_call 104; go_must (refine (grp_rays c1 c2 _ (un HH) (un HJ)).mono ?_; rintro e w4 ⟨rfl, hb⟩; have HR4 := hide ((un HR3).later hb); have HW4 := hide ((un HW3).trans (hb.mono (un HW3).size)); clear hb))
  | (refine storeT 91 81 info91 rfl (.tmp 0) (.tmp 10) rfl w.heap.size gZero g_rays4 rfl rfl rfl rfl (un HR4) (by kernel_rfl) ?_))
 exact bodyPost_ret (v := .agg g_rays4) (res91 Tryz.results76 _ _ w.heap.size _ rfl rfl ((un HR4).setRow _)) rfl ⟨rfl, below_setRow (un HW4) (Nat.le_refl _) _⟩
end Go.Proofs.YthcbhnggphdflaaGreatDoor

namespace Go.Proofs.YthcbhnggphdflaaGreatDoor
open Go.RowKit
def labs : Array Value := #[.string ⟨#[110, 101, 119, 116, 111, 110]⟩, .string ⟨#[78]⟩, I 1, .string ⟨#[112, 97, 115, 99, 97, 108]⟩, .string ⟨#[80, 97]⟩, I 1, .string ⟨#[106, 111, 117, 108, 101]⟩, .string ⟨#[74]⟩, I 1, .string ⟨#[119, 97, 116, 116]⟩, .string ⟨#[87]⟩, I 1, .string ⟨#[99, 111, 117, 108, 111, 109, 98]⟩, .string ⟨#[67]⟩, I 1, .string ⟨#[118, 111, 108, 116]⟩, .string ⟨#[86]⟩, I 1, .string ⟨#[102, 97, 114, 97, 100]⟩, .string ⟨#[70]⟩, I 1, .string ⟨#[111, 104, 109]⟩, .string ⟨#[206, 169]⟩, I 1, .string ⟨#[115, 105, 101, 109, 101, 110, 115]⟩, .string ⟨#[83]⟩, I 1, .string ⟨#[119, 101, 98, 101, 114]⟩, .string ⟨#[87, 98]⟩, I 1, .string ⟨#[116, 101, 115, 108, 97]⟩, .string ⟨#[84]⟩, I 1, .string ⟨#[104, 101, 110, 114, 121]⟩, .string ⟨#[72]⟩, I 1, .string ⟨#[104, 101, 114, 116, 122]⟩, .string ⟨#[72, 122]⟩, I 1, .string ⟨#[98, 101, 99, 113, 117, 101, 114, 101, 108]⟩, .string ⟨#[66, 113]⟩, I 1, .string ⟨#[103, 114, 97, 121]⟩, .string ⟨#[71, 121]⟩, I 1, .string ⟨#[115, 105, 101, 118, 101, 114, 116]⟩, .string ⟨#[83, 118]⟩, I 1, .string ⟨#[107, 97, 116, 97, 108]⟩, .string ⟨#[107, 97, 116]⟩, I 1, .string ⟨#[114, 97, 100, 105, 97, 110]⟩, .string ⟨#[114, 97, 100]⟩, I 1, .string ⟨#[115, 116, 101, 114, 97, 100, 105, 97, 110]⟩, .string ⟨#[115, 114]⟩, I 1, .string ⟨#[108, 117, 109, 101, 110]⟩, .string ⟨#[108, 109]⟩, I 1, .string ⟨#[108, 117, 120]⟩, .string ⟨#[108, 120]⟩, I 1, .string ⟨#[109, 105, 110, 117, 116, 101]⟩, .string ⟨#[109, 105, 110]⟩, I 0, .string ⟨#[104, 111, 117, 114]⟩, .string ⟨#[104]⟩, I 0, .string ⟨#[100, 97, 121]⟩, .string ⟨#[100]⟩, I 0, .string ⟨#[108, 105, 116, 114, 101]⟩, .string ⟨#[76]⟩, I 1, .string ⟨#[116, 111, 110, 110, 101]⟩, .string ⟨#[116]⟩, I 1, .string ⟨#[98, 97, 114]⟩, .string ⟨#[98, 97, 114]⟩, I 1, .string ⟨#[104, 101, 99, 116, 97, 114, 101]⟩, .string ⟨#[104, 97]⟩, I 0, .string ⟨#[98, 121, 116, 101]⟩, .string ⟨#[66]⟩, I 3]
set_option maxRecDepth 100000 in
set_option maxHeartbeats 8000000 in
theorem labels_any (w : World) : Calls Tryz.prog 41 #[] w fun r w' => r = .returned (.slice (some ⟨w.heap.size, 0, none⟩) 29 29) ∧ w' = w.alloc (.cells labs 53) := by
 go_enter Tryz.func41, Tryz.ntmps41
 go_wp2
 go_ret
 exact ⟨rfl, rfl⟩
end Go.Proofs.YthcbhnggphdflaaGreatDoor

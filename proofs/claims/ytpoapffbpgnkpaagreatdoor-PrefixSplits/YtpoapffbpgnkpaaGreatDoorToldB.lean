/- What each row tells. -/
import Derived.Test.YtpoapffbpgnkpaaGreatDoorTold
namespace Go.Proofs.YtpoapffbpgnkpaaGreatDoor
open Go.RowKit
set_option maxRecDepth 100000 in
set_option maxHeartbeats 2000000 in
theorem zetta_told : Tells 48 10 21 false := by
  intro nm sy fn fd w hf
  obtain ⟨N, hN⟩ : ∃ N : Nat, N = 10 := ⟨_, rfl⟩
  obtain ⟨J, hJ⟩ : ∃ J : Int, J = 21 := ⟨_, rfl⟩
  have HM : Hid (∀ W, Calls Tryz.prog 48 #[] W fun r w' => r = .returned (.agg #[.int .i64 (N : Int), .int .i64 J]) ∧ Below W.heap.size W w') := fun W => by rw [hN, hJ]; exact zetta_made W
  have HBI := hide (fun W => binary_any N J false W (by rw [hN]; rfl))
  rw [← hN, ← hJ] at hf
  have HF := hide hf
  obtain ⟨V, hV⟩ : ∃ V, V = (w.alloc (.cells #[.string nm, .string sy, .func (.func 48) #[] #[]] 51)).alloc (.cells #[.string ⟨#[]⟩, .string ⟨#[]⟩, .string ⟨#[]⟩, .string ⟨#[]⟩, .bool false] 30) := ⟨_, rfl⟩
  have HP : Hid (FBox V w.heap.size (.string nm) (.string sy) (.func (.func 48) #[] #[])) := by rw [hV]; exact ⟨by simp [go_sem], by simp [go_sem], by simp [go_sem], by simp [go_sem], by simp [go_sem], by simp [go_sem]⟩
  have HR : Hid (T5 V (w.heap.size + 1) (.string ⟨#[]⟩) (.string ⟨#[]⟩) (.string ⟨#[]⟩) (.string ⟨#[]⟩) (.bool false)) := by rw [hV]; exact ⟨by simp [go_sem], by simp [go_sem], by simp [go_sem], by simp [go_sem], by simp [go_sem], by simp [go_sem], by simp [go_sem], by simp [go_sem], by simp [go_sem], by simp [go_sem]⟩
  have HB : Hid (Below w.heap.size w V) := by rw [hV]; exact ((Below.refl _ _).alloc (Nat.le_refl _) _).alloc (by simp) _
  have HV := hide hV
  clear hf hN hJ
  unfold RowV
  go_enter Tryz.func18, Tryz.ntmps18
  go_upto_region 1 with fail
  rw [← unhide HV]
  clear hV HV
  have t2 := (unhide HP).c2
  go_upto_region 2 with (go_at_call 48; go_must (refine (unhide HM _).mono ?_; rintro e w1 ⟨rfl, hb1⟩; have HP1 := hide ((unhide HP).later hb1); have HR1 := hide ((unhide HR).later hb1); have HB1 := hide ((unhide HB).trans (hb1.mono (unhide HB).size)); clear hb1 t2))
  obtain ⟨V2, hV2⟩ : ∃ V2, V2 = w1.alloc (.cells #[.int .i64 (N : Int), .int .i64 J] 66) := ⟨_, rfl⟩
  have hb2 : Below w1.heap.size w1 V2 := by rw [hV2]; exact (Below.refl _ _).alloc (Nat.le_refl _) _
  have HP2 := hide ((unhide HP1).later hb2); have HR2 := hide ((unhide HR1).later hb2); have HB2 := hide ((unhide HB1).trans (hb2.mono (unhide HB1).size))
  have HQ2 : Hid (T2 V2 w1.heap.size (.int .i64 (N : Int)) (.int .i64 J)) := by rw [hV2]; exact ⟨by simp [go_sem], by simp [go_sem], by simp [go_sem], by simp [go_sem]⟩
  rw [← hV2]
  clear hV2 hb2 HP HR HB HP1 HR1 HB1 HM
  generalize w1.heap.size = g3 at *
  have q0 : ∀ xz : Later V2, xz.world.cell? ⟨w.heap.size, 0, none⟩ = some (.string nm) := fun xz => ((unhide HP2).later xz.below).c0
  have q1 : ∀ xz : Later V2, xz.world.cell? ⟨w.heap.size, 1, none⟩ = some (.string sy) := fun xz => ((unhide HP2).later xz.below).c1
  have q2 : ∀ xz : Later V2, xz.world.cell? ⟨g3, 0, none⟩ = some (.int .i64 (N : Int)) := fun xz => ((unhide HQ2).later xz.below).c0
  have q3 : ∀ xz : Later V2, xz.world.cell? ⟨g3, 1, none⟩ = some (.int .i64 J) := fun xz => ((unhide HQ2).later xz.below).c1
  refine quiet_end (by kernel_rfl) (by kernel_rfl) ?_
  simp only [List.dropLast, lastOf]
  repeat (go_big_quiet_step (first
    | (go_at_call 29; rename_i xx; refine (unhide HF xx.world ((unhide HB2).trans (xx.below.mono (unhide HB2).size))).mono ?_; rintro e w9 ⟨rfl, hb9⟩; have hz := xx.below.trans (hb9.mono xx.below.size); first | exact ⟨rfl, ⟨w9, hz⟩, rfl⟩ | exact ⟨rfl, hz⟩ | exact ⟨rfl, w9, hz, rfl⟩)
    | (go_at_call 38; rename_i xx; refine (unhide HBI xx.world).mono ?_; rintro e w9 ⟨rfl, hb9⟩; have hz := xx.below.trans (hb9.mono xx.below.size); first | exact ⟨rfl, ⟨w9, hz⟩, rfl⟩ | exact ⟨rfl, hz⟩ | exact ⟨rfl, w9, hz, rfl⟩)))
  refine wpQuiet_nil ?_
  intro _ hw'
  obtain ⟨xz, hw''⟩ := hw'
  subst hw''
  obtain ⟨U, hU⟩ : ∃ U, U = xz.world := ⟨_, rfl⟩
  have HBU : Hid (Below w.heap.size w U) := by rw [hU]; exact (unhide HB2).trans (xz.below.mono (unhide HB2).size)
  have HRU := hide ((unhide HR2).later xz.below)
  rw [← hU] at HRU ⊢
  clear hU q0 q1 q2 q3 HB2 HR2 HP2 HQ2
  have r0 := (unhide HRU).c0; have r1 := (unhide HRU).c1; have r2 := (unhide HRU).c2; have r3 := (unhide HRU).c3; have r4 := (unhide HRU).c4; have rf0 := (unhide HRU).f0; have rf1 := (unhide HRU).f1; have rf2 := (unhide HRU).f2; have rf3 := (unhide HRU).f3; have rf4 := (unhide HRU).f4
  go_simp
  go_wp2_with fail
  have hS := (unhide HRU).store (.string nm) (.string sy) (.string fn) (.string fd) (.bool false)
  have hb := below_store5 (unhide HBU) (by omega) (.string nm) (.string sy) (.string fn) (.string fd) (.bool false) (g := w.heap.size + 1)
  have v0 := hS.c0; have v1 := hS.c1; have v2 := hS.c2; have v3 := hS.c3; have v4 := hS.c4
  exact bodyPost_ret (v := .agg #[.string nm, .string sy, .string fn, .string fd, .bool false]) (w := store5 U (w.heap.size + 1) (.string nm) (.string sy) (.string fn) (.string fd) (.bool false)) (by simp [results, Tryz.results18, go_sem, v0, v1, v2, v3, v4]) rfl ⟨rfl, hb⟩
set_option maxRecDepth 100000 in
set_option maxHeartbeats 2000000 in
theorem yotta_told : Tells 49 10 24 false := by
  intro nm sy fn fd w hf
  obtain ⟨N, hN⟩ : ∃ N : Nat, N = 10 := ⟨_, rfl⟩
  obtain ⟨J, hJ⟩ : ∃ J : Int, J = 24 := ⟨_, rfl⟩
  have HM : Hid (∀ W, Calls Tryz.prog 49 #[] W fun r w' => r = .returned (.agg #[.int .i64 (N : Int), .int .i64 J]) ∧ Below W.heap.size W w') := fun W => by rw [hN, hJ]; exact yotta_made W
  have HBI := hide (fun W => binary_any N J false W (by rw [hN]; rfl))
  rw [← hN, ← hJ] at hf
  have HF := hide hf
  obtain ⟨V, hV⟩ : ∃ V, V = (w.alloc (.cells #[.string nm, .string sy, .func (.func 49) #[] #[]] 51)).alloc (.cells #[.string ⟨#[]⟩, .string ⟨#[]⟩, .string ⟨#[]⟩, .string ⟨#[]⟩, .bool false] 30) := ⟨_, rfl⟩
  have HP : Hid (FBox V w.heap.size (.string nm) (.string sy) (.func (.func 49) #[] #[])) := by rw [hV]; exact ⟨by simp [go_sem], by simp [go_sem], by simp [go_sem], by simp [go_sem], by simp [go_sem], by simp [go_sem]⟩
  have HR : Hid (T5 V (w.heap.size + 1) (.string ⟨#[]⟩) (.string ⟨#[]⟩) (.string ⟨#[]⟩) (.string ⟨#[]⟩) (.bool false)) := by rw [hV]; exact ⟨by simp [go_sem], by simp [go_sem], by simp [go_sem], by simp [go_sem], by simp [go_sem], by simp [go_sem], by simp [go_sem], by simp [go_sem], by simp [go_sem], by simp [go_sem]⟩
  have HB : Hid (Below w.heap.size w V) := by rw [hV]; exact ((Below.refl _ _).alloc (Nat.le_refl _) _).alloc (by simp) _
  have HV := hide hV
  clear hf hN hJ
  unfold RowV
  go_enter Tryz.func18, Tryz.ntmps18
  go_upto_region 1 with fail
  rw [← unhide HV]
  clear hV HV
  have t2 := (unhide HP).c2
  go_upto_region 2 with (go_at_call 49; go_must (refine (unhide HM _).mono ?_; rintro e w1 ⟨rfl, hb1⟩; have HP1 := hide ((unhide HP).later hb1); have HR1 := hide ((unhide HR).later hb1); have HB1 := hide ((unhide HB).trans (hb1.mono (unhide HB).size)); clear hb1 t2))
  obtain ⟨V2, hV2⟩ : ∃ V2, V2 = w1.alloc (.cells #[.int .i64 (N : Int), .int .i64 J] 66) := ⟨_, rfl⟩
  have hb2 : Below w1.heap.size w1 V2 := by rw [hV2]; exact (Below.refl _ _).alloc (Nat.le_refl _) _
  have HP2 := hide ((unhide HP1).later hb2); have HR2 := hide ((unhide HR1).later hb2); have HB2 := hide ((unhide HB1).trans (hb2.mono (unhide HB1).size))
  have HQ2 : Hid (T2 V2 w1.heap.size (.int .i64 (N : Int)) (.int .i64 J)) := by rw [hV2]; exact ⟨by simp [go_sem], by simp [go_sem], by simp [go_sem], by simp [go_sem]⟩
  rw [← hV2]
  clear hV2 hb2 HP HR HB HP1 HR1 HB1 HM
  generalize w1.heap.size = g3 at *
  have q0 : ∀ xz : Later V2, xz.world.cell? ⟨w.heap.size, 0, none⟩ = some (.string nm) := fun xz => ((unhide HP2).later xz.below).c0
  have q1 : ∀ xz : Later V2, xz.world.cell? ⟨w.heap.size, 1, none⟩ = some (.string sy) := fun xz => ((unhide HP2).later xz.below).c1
  have q2 : ∀ xz : Later V2, xz.world.cell? ⟨g3, 0, none⟩ = some (.int .i64 (N : Int)) := fun xz => ((unhide HQ2).later xz.below).c0
  have q3 : ∀ xz : Later V2, xz.world.cell? ⟨g3, 1, none⟩ = some (.int .i64 J) := fun xz => ((unhide HQ2).later xz.below).c1
  refine quiet_end (by kernel_rfl) (by kernel_rfl) ?_
  simp only [List.dropLast, lastOf]
  repeat (go_big_quiet_step (first
    | (go_at_call 29; rename_i xx; refine (unhide HF xx.world ((unhide HB2).trans (xx.below.mono (unhide HB2).size))).mono ?_; rintro e w9 ⟨rfl, hb9⟩; have hz := xx.below.trans (hb9.mono xx.below.size); first | exact ⟨rfl, ⟨w9, hz⟩, rfl⟩ | exact ⟨rfl, hz⟩ | exact ⟨rfl, w9, hz, rfl⟩)
    | (go_at_call 38; rename_i xx; refine (unhide HBI xx.world).mono ?_; rintro e w9 ⟨rfl, hb9⟩; have hz := xx.below.trans (hb9.mono xx.below.size); first | exact ⟨rfl, ⟨w9, hz⟩, rfl⟩ | exact ⟨rfl, hz⟩ | exact ⟨rfl, w9, hz, rfl⟩)))
  refine wpQuiet_nil ?_
  intro _ hw'
  obtain ⟨xz, hw''⟩ := hw'
  subst hw''
  obtain ⟨U, hU⟩ : ∃ U, U = xz.world := ⟨_, rfl⟩
  have HBU : Hid (Below w.heap.size w U) := by rw [hU]; exact (unhide HB2).trans (xz.below.mono (unhide HB2).size)
  have HRU := hide ((unhide HR2).later xz.below)
  rw [← hU] at HRU ⊢
  clear hU q0 q1 q2 q3 HB2 HR2 HP2 HQ2
  have r0 := (unhide HRU).c0; have r1 := (unhide HRU).c1; have r2 := (unhide HRU).c2; have r3 := (unhide HRU).c3; have r4 := (unhide HRU).c4; have rf0 := (unhide HRU).f0; have rf1 := (unhide HRU).f1; have rf2 := (unhide HRU).f2; have rf3 := (unhide HRU).f3; have rf4 := (unhide HRU).f4
  go_simp
  go_wp2_with fail
  have hS := (unhide HRU).store (.string nm) (.string sy) (.string fn) (.string fd) (.bool false)
  have hb := below_store5 (unhide HBU) (by omega) (.string nm) (.string sy) (.string fn) (.string fd) (.bool false) (g := w.heap.size + 1)
  have v0 := hS.c0; have v1 := hS.c1; have v2 := hS.c2; have v3 := hS.c3; have v4 := hS.c4
  exact bodyPost_ret (v := .agg #[.string nm, .string sy, .string fn, .string fd, .bool false]) (w := store5 U (w.heap.size + 1) (.string nm) (.string sy) (.string fn) (.string fd) (.bool false)) (by simp [results, Tryz.results18, go_sem, v0, v1, v2, v3, v4]) rfl ⟨rfl, hb⟩
set_option maxRecDepth 100000 in
set_option maxHeartbeats 2000000 in
theorem ronna_told : Tells 50 10 27 false := by
  intro nm sy fn fd w hf
  obtain ⟨N, hN⟩ : ∃ N : Nat, N = 10 := ⟨_, rfl⟩
  obtain ⟨J, hJ⟩ : ∃ J : Int, J = 27 := ⟨_, rfl⟩
  have HM : Hid (∀ W, Calls Tryz.prog 50 #[] W fun r w' => r = .returned (.agg #[.int .i64 (N : Int), .int .i64 J]) ∧ Below W.heap.size W w') := fun W => by rw [hN, hJ]; exact ronna_made W
  have HBI := hide (fun W => binary_any N J false W (by rw [hN]; rfl))
  rw [← hN, ← hJ] at hf
  have HF := hide hf
  obtain ⟨V, hV⟩ : ∃ V, V = (w.alloc (.cells #[.string nm, .string sy, .func (.func 50) #[] #[]] 51)).alloc (.cells #[.string ⟨#[]⟩, .string ⟨#[]⟩, .string ⟨#[]⟩, .string ⟨#[]⟩, .bool false] 30) := ⟨_, rfl⟩
  have HP : Hid (FBox V w.heap.size (.string nm) (.string sy) (.func (.func 50) #[] #[])) := by rw [hV]; exact ⟨by simp [go_sem], by simp [go_sem], by simp [go_sem], by simp [go_sem], by simp [go_sem], by simp [go_sem]⟩
  have HR : Hid (T5 V (w.heap.size + 1) (.string ⟨#[]⟩) (.string ⟨#[]⟩) (.string ⟨#[]⟩) (.string ⟨#[]⟩) (.bool false)) := by rw [hV]; exact ⟨by simp [go_sem], by simp [go_sem], by simp [go_sem], by simp [go_sem], by simp [go_sem], by simp [go_sem], by simp [go_sem], by simp [go_sem], by simp [go_sem], by simp [go_sem]⟩
  have HB : Hid (Below w.heap.size w V) := by rw [hV]; exact ((Below.refl _ _).alloc (Nat.le_refl _) _).alloc (by simp) _
  have HV := hide hV
  clear hf hN hJ
  unfold RowV
  go_enter Tryz.func18, Tryz.ntmps18
  go_upto_region 1 with fail
  rw [← unhide HV]
  clear hV HV
  have t2 := (unhide HP).c2
  go_upto_region 2 with (go_at_call 50; go_must (refine (unhide HM _).mono ?_; rintro e w1 ⟨rfl, hb1⟩; have HP1 := hide ((unhide HP).later hb1); have HR1 := hide ((unhide HR).later hb1); have HB1 := hide ((unhide HB).trans (hb1.mono (unhide HB).size)); clear hb1 t2))
  obtain ⟨V2, hV2⟩ : ∃ V2, V2 = w1.alloc (.cells #[.int .i64 (N : Int), .int .i64 J] 66) := ⟨_, rfl⟩
  have hb2 : Below w1.heap.size w1 V2 := by rw [hV2]; exact (Below.refl _ _).alloc (Nat.le_refl _) _
  have HP2 := hide ((unhide HP1).later hb2); have HR2 := hide ((unhide HR1).later hb2); have HB2 := hide ((unhide HB1).trans (hb2.mono (unhide HB1).size))
  have HQ2 : Hid (T2 V2 w1.heap.size (.int .i64 (N : Int)) (.int .i64 J)) := by rw [hV2]; exact ⟨by simp [go_sem], by simp [go_sem], by simp [go_sem], by simp [go_sem]⟩
  rw [← hV2]
  clear hV2 hb2 HP HR HB HP1 HR1 HB1 HM
  generalize w1.heap.size = g3 at *
  have q0 : ∀ xz : Later V2, xz.world.cell? ⟨w.heap.size, 0, none⟩ = some (.string nm) := fun xz => ((unhide HP2).later xz.below).c0
  have q1 : ∀ xz : Later V2, xz.world.cell? ⟨w.heap.size, 1, none⟩ = some (.string sy) := fun xz => ((unhide HP2).later xz.below).c1
  have q2 : ∀ xz : Later V2, xz.world.cell? ⟨g3, 0, none⟩ = some (.int .i64 (N : Int)) := fun xz => ((unhide HQ2).later xz.below).c0
  have q3 : ∀ xz : Later V2, xz.world.cell? ⟨g3, 1, none⟩ = some (.int .i64 J) := fun xz => ((unhide HQ2).later xz.below).c1
  refine quiet_end (by kernel_rfl) (by kernel_rfl) ?_
  simp only [List.dropLast, lastOf]
  repeat (go_big_quiet_step (first
    | (go_at_call 29; rename_i xx; refine (unhide HF xx.world ((unhide HB2).trans (xx.below.mono (unhide HB2).size))).mono ?_; rintro e w9 ⟨rfl, hb9⟩; have hz := xx.below.trans (hb9.mono xx.below.size); first | exact ⟨rfl, ⟨w9, hz⟩, rfl⟩ | exact ⟨rfl, hz⟩ | exact ⟨rfl, w9, hz, rfl⟩)
    | (go_at_call 38; rename_i xx; refine (unhide HBI xx.world).mono ?_; rintro e w9 ⟨rfl, hb9⟩; have hz := xx.below.trans (hb9.mono xx.below.size); first | exact ⟨rfl, ⟨w9, hz⟩, rfl⟩ | exact ⟨rfl, hz⟩ | exact ⟨rfl, w9, hz, rfl⟩)))
  refine wpQuiet_nil ?_
  intro _ hw'
  obtain ⟨xz, hw''⟩ := hw'
  subst hw''
  obtain ⟨U, hU⟩ : ∃ U, U = xz.world := ⟨_, rfl⟩
  have HBU : Hid (Below w.heap.size w U) := by rw [hU]; exact (unhide HB2).trans (xz.below.mono (unhide HB2).size)
  have HRU := hide ((unhide HR2).later xz.below)
  rw [← hU] at HRU ⊢
  clear hU q0 q1 q2 q3 HB2 HR2 HP2 HQ2
  have r0 := (unhide HRU).c0; have r1 := (unhide HRU).c1; have r2 := (unhide HRU).c2; have r3 := (unhide HRU).c3; have r4 := (unhide HRU).c4; have rf0 := (unhide HRU).f0; have rf1 := (unhide HRU).f1; have rf2 := (unhide HRU).f2; have rf3 := (unhide HRU).f3; have rf4 := (unhide HRU).f4
  go_simp
  go_wp2_with fail
  have hS := (unhide HRU).store (.string nm) (.string sy) (.string fn) (.string fd) (.bool false)
  have hb := below_store5 (unhide HBU) (by omega) (.string nm) (.string sy) (.string fn) (.string fd) (.bool false) (g := w.heap.size + 1)
  have v0 := hS.c0; have v1 := hS.c1; have v2 := hS.c2; have v3 := hS.c3; have v4 := hS.c4
  exact bodyPost_ret (v := .agg #[.string nm, .string sy, .string fn, .string fd, .bool false]) (w := store5 U (w.heap.size + 1) (.string nm) (.string sy) (.string fn) (.string fd) (.bool false)) (by simp [results, Tryz.results18, go_sem, v0, v1, v2, v3, v4]) rfl ⟨rfl, hb⟩
set_option maxRecDepth 100000 in
set_option maxHeartbeats 2000000 in
theorem quetta_told : Tells 51 10 30 false := by
  intro nm sy fn fd w hf
  obtain ⟨N, hN⟩ : ∃ N : Nat, N = 10 := ⟨_, rfl⟩
  obtain ⟨J, hJ⟩ : ∃ J : Int, J = 30 := ⟨_, rfl⟩
  have HM : Hid (∀ W, Calls Tryz.prog 51 #[] W fun r w' => r = .returned (.agg #[.int .i64 (N : Int), .int .i64 J]) ∧ Below W.heap.size W w') := fun W => by rw [hN, hJ]; exact quetta_made W
  have HBI := hide (fun W => binary_any N J false W (by rw [hN]; rfl))
  rw [← hN, ← hJ] at hf
  have HF := hide hf
  obtain ⟨V, hV⟩ : ∃ V, V = (w.alloc (.cells #[.string nm, .string sy, .func (.func 51) #[] #[]] 51)).alloc (.cells #[.string ⟨#[]⟩, .string ⟨#[]⟩, .string ⟨#[]⟩, .string ⟨#[]⟩, .bool false] 30) := ⟨_, rfl⟩
  have HP : Hid (FBox V w.heap.size (.string nm) (.string sy) (.func (.func 51) #[] #[])) := by rw [hV]; exact ⟨by simp [go_sem], by simp [go_sem], by simp [go_sem], by simp [go_sem], by simp [go_sem], by simp [go_sem]⟩
  have HR : Hid (T5 V (w.heap.size + 1) (.string ⟨#[]⟩) (.string ⟨#[]⟩) (.string ⟨#[]⟩) (.string ⟨#[]⟩) (.bool false)) := by rw [hV]; exact ⟨by simp [go_sem], by simp [go_sem], by simp [go_sem], by simp [go_sem], by simp [go_sem], by simp [go_sem], by simp [go_sem], by simp [go_sem], by simp [go_sem], by simp [go_sem]⟩
  have HB : Hid (Below w.heap.size w V) := by rw [hV]; exact ((Below.refl _ _).alloc (Nat.le_refl _) _).alloc (by simp) _
  have HV := hide hV
  clear hf hN hJ
  unfold RowV
  go_enter Tryz.func18, Tryz.ntmps18
  go_upto_region 1 with fail
  rw [← unhide HV]
  clear hV HV
  have t2 := (unhide HP).c2
  go_upto_region 2 with (go_at_call 51; go_must (refine (unhide HM _).mono ?_; rintro e w1 ⟨rfl, hb1⟩; have HP1 := hide ((unhide HP).later hb1); have HR1 := hide ((unhide HR).later hb1); have HB1 := hide ((unhide HB).trans (hb1.mono (unhide HB).size)); clear hb1 t2))
  obtain ⟨V2, hV2⟩ : ∃ V2, V2 = w1.alloc (.cells #[.int .i64 (N : Int), .int .i64 J] 66) := ⟨_, rfl⟩
  have hb2 : Below w1.heap.size w1 V2 := by rw [hV2]; exact (Below.refl _ _).alloc (Nat.le_refl _) _
  have HP2 := hide ((unhide HP1).later hb2); have HR2 := hide ((unhide HR1).later hb2); have HB2 := hide ((unhide HB1).trans (hb2.mono (unhide HB1).size))
  have HQ2 : Hid (T2 V2 w1.heap.size (.int .i64 (N : Int)) (.int .i64 J)) := by rw [hV2]; exact ⟨by simp [go_sem], by simp [go_sem], by simp [go_sem], by simp [go_sem]⟩
  rw [← hV2]
  clear hV2 hb2 HP HR HB HP1 HR1 HB1 HM
  generalize w1.heap.size = g3 at *
  have q0 : ∀ xz : Later V2, xz.world.cell? ⟨w.heap.size, 0, none⟩ = some (.string nm) := fun xz => ((unhide HP2).later xz.below).c0
  have q1 : ∀ xz : Later V2, xz.world.cell? ⟨w.heap.size, 1, none⟩ = some (.string sy) := fun xz => ((unhide HP2).later xz.below).c1
  have q2 : ∀ xz : Later V2, xz.world.cell? ⟨g3, 0, none⟩ = some (.int .i64 (N : Int)) := fun xz => ((unhide HQ2).later xz.below).c0
  have q3 : ∀ xz : Later V2, xz.world.cell? ⟨g3, 1, none⟩ = some (.int .i64 J) := fun xz => ((unhide HQ2).later xz.below).c1
  refine quiet_end (by kernel_rfl) (by kernel_rfl) ?_
  simp only [List.dropLast, lastOf]
  repeat (go_big_quiet_step (first
    | (go_at_call 29; rename_i xx; refine (unhide HF xx.world ((unhide HB2).trans (xx.below.mono (unhide HB2).size))).mono ?_; rintro e w9 ⟨rfl, hb9⟩; have hz := xx.below.trans (hb9.mono xx.below.size); first | exact ⟨rfl, ⟨w9, hz⟩, rfl⟩ | exact ⟨rfl, hz⟩ | exact ⟨rfl, w9, hz, rfl⟩)
    | (go_at_call 38; rename_i xx; refine (unhide HBI xx.world).mono ?_; rintro e w9 ⟨rfl, hb9⟩; have hz := xx.below.trans (hb9.mono xx.below.size); first | exact ⟨rfl, ⟨w9, hz⟩, rfl⟩ | exact ⟨rfl, hz⟩ | exact ⟨rfl, w9, hz, rfl⟩)))
  refine wpQuiet_nil ?_
  intro _ hw'
  obtain ⟨xz, hw''⟩ := hw'
  subst hw''
  obtain ⟨U, hU⟩ : ∃ U, U = xz.world := ⟨_, rfl⟩
  have HBU : Hid (Below w.heap.size w U) := by rw [hU]; exact (unhide HB2).trans (xz.below.mono (unhide HB2).size)
  have HRU := hide ((unhide HR2).later xz.below)
  rw [← hU] at HRU ⊢
  clear hU q0 q1 q2 q3 HB2 HR2 HP2 HQ2
  have r0 := (unhide HRU).c0; have r1 := (unhide HRU).c1; have r2 := (unhide HRU).c2; have r3 := (unhide HRU).c3; have r4 := (unhide HRU).c4; have rf0 := (unhide HRU).f0; have rf1 := (unhide HRU).f1; have rf2 := (unhide HRU).f2; have rf3 := (unhide HRU).f3; have rf4 := (unhide HRU).f4
  go_simp
  go_wp2_with fail
  have hS := (unhide HRU).store (.string nm) (.string sy) (.string fn) (.string fd) (.bool false)
  have hb := below_store5 (unhide HBU) (by omega) (.string nm) (.string sy) (.string fn) (.string fd) (.bool false) (g := w.heap.size + 1)
  have v0 := hS.c0; have v1 := hS.c1; have v2 := hS.c2; have v3 := hS.c3; have v4 := hS.c4
  exact bodyPost_ret (v := .agg #[.string nm, .string sy, .string fn, .string fd, .bool false]) (w := store5 U (w.heap.size + 1) (.string nm) (.string sy) (.string fn) (.string fd) (.bool false)) (by simp [results, Tryz.results18, go_sem, v0, v1, v2, v3, v4]) rfl ⟨rfl, hb⟩
set_option maxRecDepth 100000 in
set_option maxHeartbeats 2000000 in
theorem deci_told : Tells 52 10 (-1) false := by
  intro nm sy fn fd w hf
  obtain ⟨N, hN⟩ : ∃ N : Nat, N = 10 := ⟨_, rfl⟩
  obtain ⟨J, hJ⟩ : ∃ J : Int, J = (-1) := ⟨_, rfl⟩
  have HM : Hid (∀ W, Calls Tryz.prog 52 #[] W fun r w' => r = .returned (.agg #[.int .i64 (N : Int), .int .i64 J]) ∧ Below W.heap.size W w') := fun W => by rw [hN, hJ]; exact deci_made W
  have HBI := hide (fun W => binary_any N J false W (by rw [hN]; rfl))
  rw [← hN, ← hJ] at hf
  have HF := hide hf
  obtain ⟨V, hV⟩ : ∃ V, V = (w.alloc (.cells #[.string nm, .string sy, .func (.func 52) #[] #[]] 51)).alloc (.cells #[.string ⟨#[]⟩, .string ⟨#[]⟩, .string ⟨#[]⟩, .string ⟨#[]⟩, .bool false] 30) := ⟨_, rfl⟩
  have HP : Hid (FBox V w.heap.size (.string nm) (.string sy) (.func (.func 52) #[] #[])) := by rw [hV]; exact ⟨by simp [go_sem], by simp [go_sem], by simp [go_sem], by simp [go_sem], by simp [go_sem], by simp [go_sem]⟩
  have HR : Hid (T5 V (w.heap.size + 1) (.string ⟨#[]⟩) (.string ⟨#[]⟩) (.string ⟨#[]⟩) (.string ⟨#[]⟩) (.bool false)) := by rw [hV]; exact ⟨by simp [go_sem], by simp [go_sem], by simp [go_sem], by simp [go_sem], by simp [go_sem], by simp [go_sem], by simp [go_sem], by simp [go_sem], by simp [go_sem], by simp [go_sem]⟩
  have HB : Hid (Below w.heap.size w V) := by rw [hV]; exact ((Below.refl _ _).alloc (Nat.le_refl _) _).alloc (by simp) _
  have HV := hide hV
  clear hf hN hJ
  unfold RowV
  go_enter Tryz.func18, Tryz.ntmps18
  go_upto_region 1 with fail
  rw [← unhide HV]
  clear hV HV
  have t2 := (unhide HP).c2
  go_upto_region 2 with (go_at_call 52; go_must (refine (unhide HM _).mono ?_; rintro e w1 ⟨rfl, hb1⟩; have HP1 := hide ((unhide HP).later hb1); have HR1 := hide ((unhide HR).later hb1); have HB1 := hide ((unhide HB).trans (hb1.mono (unhide HB).size)); clear hb1 t2))
  obtain ⟨V2, hV2⟩ : ∃ V2, V2 = w1.alloc (.cells #[.int .i64 (N : Int), .int .i64 J] 66) := ⟨_, rfl⟩
  have hb2 : Below w1.heap.size w1 V2 := by rw [hV2]; exact (Below.refl _ _).alloc (Nat.le_refl _) _
  have HP2 := hide ((unhide HP1).later hb2); have HR2 := hide ((unhide HR1).later hb2); have HB2 := hide ((unhide HB1).trans (hb2.mono (unhide HB1).size))
  have HQ2 : Hid (T2 V2 w1.heap.size (.int .i64 (N : Int)) (.int .i64 J)) := by rw [hV2]; exact ⟨by simp [go_sem], by simp [go_sem], by simp [go_sem], by simp [go_sem]⟩
  rw [← hV2]
  clear hV2 hb2 HP HR HB HP1 HR1 HB1 HM
  generalize w1.heap.size = g3 at *
  have q0 : ∀ xz : Later V2, xz.world.cell? ⟨w.heap.size, 0, none⟩ = some (.string nm) := fun xz => ((unhide HP2).later xz.below).c0
  have q1 : ∀ xz : Later V2, xz.world.cell? ⟨w.heap.size, 1, none⟩ = some (.string sy) := fun xz => ((unhide HP2).later xz.below).c1
  have q2 : ∀ xz : Later V2, xz.world.cell? ⟨g3, 0, none⟩ = some (.int .i64 (N : Int)) := fun xz => ((unhide HQ2).later xz.below).c0
  have q3 : ∀ xz : Later V2, xz.world.cell? ⟨g3, 1, none⟩ = some (.int .i64 J) := fun xz => ((unhide HQ2).later xz.below).c1
  refine quiet_end (by kernel_rfl) (by kernel_rfl) ?_
  simp only [List.dropLast, lastOf]
  repeat (go_big_quiet_step (first
    | (go_at_call 29; rename_i xx; refine (unhide HF xx.world ((unhide HB2).trans (xx.below.mono (unhide HB2).size))).mono ?_; rintro e w9 ⟨rfl, hb9⟩; have hz := xx.below.trans (hb9.mono xx.below.size); first | exact ⟨rfl, ⟨w9, hz⟩, rfl⟩ | exact ⟨rfl, hz⟩ | exact ⟨rfl, w9, hz, rfl⟩)
    | (go_at_call 38; rename_i xx; refine (unhide HBI xx.world).mono ?_; rintro e w9 ⟨rfl, hb9⟩; have hz := xx.below.trans (hb9.mono xx.below.size); first | exact ⟨rfl, ⟨w9, hz⟩, rfl⟩ | exact ⟨rfl, hz⟩ | exact ⟨rfl, w9, hz, rfl⟩)))
  refine wpQuiet_nil ?_
  intro _ hw'
  obtain ⟨xz, hw''⟩ := hw'
  subst hw''
  obtain ⟨U, hU⟩ : ∃ U, U = xz.world := ⟨_, rfl⟩
  have HBU : Hid (Below w.heap.size w U) := by rw [hU]; exact (unhide HB2).trans (xz.below.mono (unhide HB2).size)
  have HRU := hide ((unhide HR2).later xz.below)
  rw [← hU] at HRU ⊢
  clear hU q0 q1 q2 q3 HB2 HR2 HP2 HQ2
  have r0 := (unhide HRU).c0; have r1 := (unhide HRU).c1; have r2 := (unhide HRU).c2; have r3 := (unhide HRU).c3; have r4 := (unhide HRU).c4; have rf0 := (unhide HRU).f0; have rf1 := (unhide HRU).f1; have rf2 := (unhide HRU).f2; have rf3 := (unhide HRU).f3; have rf4 := (unhide HRU).f4
  go_simp
  go_wp2_with fail
  have hS := (unhide HRU).store (.string nm) (.string sy) (.string fn) (.string fd) (.bool false)
  have hb := below_store5 (unhide HBU) (by omega) (.string nm) (.string sy) (.string fn) (.string fd) (.bool false) (g := w.heap.size + 1)
  have v0 := hS.c0; have v1 := hS.c1; have v2 := hS.c2; have v3 := hS.c3; have v4 := hS.c4
  exact bodyPost_ret (v := .agg #[.string nm, .string sy, .string fn, .string fd, .bool false]) (w := store5 U (w.heap.size + 1) (.string nm) (.string sy) (.string fn) (.string fd) (.bool false)) (by simp [results, Tryz.results18, go_sem, v0, v1, v2, v3, v4]) rfl ⟨rfl, hb⟩
set_option maxRecDepth 100000 in
set_option maxHeartbeats 2000000 in
theorem centi_told : Tells 53 10 (-2) false := by
  intro nm sy fn fd w hf
  obtain ⟨N, hN⟩ : ∃ N : Nat, N = 10 := ⟨_, rfl⟩
  obtain ⟨J, hJ⟩ : ∃ J : Int, J = (-2) := ⟨_, rfl⟩
  have HM : Hid (∀ W, Calls Tryz.prog 53 #[] W fun r w' => r = .returned (.agg #[.int .i64 (N : Int), .int .i64 J]) ∧ Below W.heap.size W w') := fun W => by rw [hN, hJ]; exact centi_made W
  have HBI := hide (fun W => binary_any N J false W (by rw [hN]; rfl))
  rw [← hN, ← hJ] at hf
  have HF := hide hf
  obtain ⟨V, hV⟩ : ∃ V, V = (w.alloc (.cells #[.string nm, .string sy, .func (.func 53) #[] #[]] 51)).alloc (.cells #[.string ⟨#[]⟩, .string ⟨#[]⟩, .string ⟨#[]⟩, .string ⟨#[]⟩, .bool false] 30) := ⟨_, rfl⟩
  have HP : Hid (FBox V w.heap.size (.string nm) (.string sy) (.func (.func 53) #[] #[])) := by rw [hV]; exact ⟨by simp [go_sem], by simp [go_sem], by simp [go_sem], by simp [go_sem], by simp [go_sem], by simp [go_sem]⟩
  have HR : Hid (T5 V (w.heap.size + 1) (.string ⟨#[]⟩) (.string ⟨#[]⟩) (.string ⟨#[]⟩) (.string ⟨#[]⟩) (.bool false)) := by rw [hV]; exact ⟨by simp [go_sem], by simp [go_sem], by simp [go_sem], by simp [go_sem], by simp [go_sem], by simp [go_sem], by simp [go_sem], by simp [go_sem], by simp [go_sem], by simp [go_sem]⟩
  have HB : Hid (Below w.heap.size w V) := by rw [hV]; exact ((Below.refl _ _).alloc (Nat.le_refl _) _).alloc (by simp) _
  have HV := hide hV
  clear hf hN hJ
  unfold RowV
  go_enter Tryz.func18, Tryz.ntmps18
  go_upto_region 1 with fail
  rw [← unhide HV]
  clear hV HV
  have t2 := (unhide HP).c2
  go_upto_region 2 with (go_at_call 53; go_must (refine (unhide HM _).mono ?_; rintro e w1 ⟨rfl, hb1⟩; have HP1 := hide ((unhide HP).later hb1); have HR1 := hide ((unhide HR).later hb1); have HB1 := hide ((unhide HB).trans (hb1.mono (unhide HB).size)); clear hb1 t2))
  obtain ⟨V2, hV2⟩ : ∃ V2, V2 = w1.alloc (.cells #[.int .i64 (N : Int), .int .i64 J] 66) := ⟨_, rfl⟩
  have hb2 : Below w1.heap.size w1 V2 := by rw [hV2]; exact (Below.refl _ _).alloc (Nat.le_refl _) _
  have HP2 := hide ((unhide HP1).later hb2); have HR2 := hide ((unhide HR1).later hb2); have HB2 := hide ((unhide HB1).trans (hb2.mono (unhide HB1).size))
  have HQ2 : Hid (T2 V2 w1.heap.size (.int .i64 (N : Int)) (.int .i64 J)) := by rw [hV2]; exact ⟨by simp [go_sem], by simp [go_sem], by simp [go_sem], by simp [go_sem]⟩
  rw [← hV2]
  clear hV2 hb2 HP HR HB HP1 HR1 HB1 HM
  generalize w1.heap.size = g3 at *
  have q0 : ∀ xz : Later V2, xz.world.cell? ⟨w.heap.size, 0, none⟩ = some (.string nm) := fun xz => ((unhide HP2).later xz.below).c0
  have q1 : ∀ xz : Later V2, xz.world.cell? ⟨w.heap.size, 1, none⟩ = some (.string sy) := fun xz => ((unhide HP2).later xz.below).c1
  have q2 : ∀ xz : Later V2, xz.world.cell? ⟨g3, 0, none⟩ = some (.int .i64 (N : Int)) := fun xz => ((unhide HQ2).later xz.below).c0
  have q3 : ∀ xz : Later V2, xz.world.cell? ⟨g3, 1, none⟩ = some (.int .i64 J) := fun xz => ((unhide HQ2).later xz.below).c1
  refine quiet_end (by kernel_rfl) (by kernel_rfl) ?_
  simp only [List.dropLast, lastOf]
  repeat (go_big_quiet_step (first
    | (go_at_call 29; rename_i xx; refine (unhide HF xx.world ((unhide HB2).trans (xx.below.mono (unhide HB2).size))).mono ?_; rintro e w9 ⟨rfl, hb9⟩; have hz := xx.below.trans (hb9.mono xx.below.size); first | exact ⟨rfl, ⟨w9, hz⟩, rfl⟩ | exact ⟨rfl, hz⟩ | exact ⟨rfl, w9, hz, rfl⟩)
    | (go_at_call 38; rename_i xx; refine (unhide HBI xx.world).mono ?_; rintro e w9 ⟨rfl, hb9⟩; have hz := xx.below.trans (hb9.mono xx.below.size); first | exact ⟨rfl, ⟨w9, hz⟩, rfl⟩ | exact ⟨rfl, hz⟩ | exact ⟨rfl, w9, hz, rfl⟩)))
  refine wpQuiet_nil ?_
  intro _ hw'
  obtain ⟨xz, hw''⟩ := hw'
  subst hw''
  obtain ⟨U, hU⟩ : ∃ U, U = xz.world := ⟨_, rfl⟩
  have HBU : Hid (Below w.heap.size w U) := by rw [hU]; exact (unhide HB2).trans (xz.below.mono (unhide HB2).size)
  have HRU := hide ((unhide HR2).later xz.below)
  rw [← hU] at HRU ⊢
  clear hU q0 q1 q2 q3 HB2 HR2 HP2 HQ2
  have r0 := (unhide HRU).c0; have r1 := (unhide HRU).c1; have r2 := (unhide HRU).c2; have r3 := (unhide HRU).c3; have r4 := (unhide HRU).c4; have rf0 := (unhide HRU).f0; have rf1 := (unhide HRU).f1; have rf2 := (unhide HRU).f2; have rf3 := (unhide HRU).f3; have rf4 := (unhide HRU).f4
  go_simp
  go_wp2_with fail
  have hS := (unhide HRU).store (.string nm) (.string sy) (.string fn) (.string fd) (.bool false)
  have hb := below_store5 (unhide HBU) (by omega) (.string nm) (.string sy) (.string fn) (.string fd) (.bool false) (g := w.heap.size + 1)
  have v0 := hS.c0; have v1 := hS.c1; have v2 := hS.c2; have v3 := hS.c3; have v4 := hS.c4
  exact bodyPost_ret (v := .agg #[.string nm, .string sy, .string fn, .string fd, .bool false]) (w := store5 U (w.heap.size + 1) (.string nm) (.string sy) (.string fn) (.string fd) (.bool false)) (by simp [results, Tryz.results18, go_sem, v0, v1, v2, v3, v4]) rfl ⟨rfl, hb⟩
set_option maxRecDepth 100000 in
set_option maxHeartbeats 2000000 in
theorem milli_told : Tells 54 10 (-3) false := by
  intro nm sy fn fd w hf
  obtain ⟨N, hN⟩ : ∃ N : Nat, N = 10 := ⟨_, rfl⟩
  obtain ⟨J, hJ⟩ : ∃ J : Int, J = (-3) := ⟨_, rfl⟩
  have HM : Hid (∀ W, Calls Tryz.prog 54 #[] W fun r w' => r = .returned (.agg #[.int .i64 (N : Int), .int .i64 J]) ∧ Below W.heap.size W w') := fun W => by rw [hN, hJ]; exact milli_made W
  have HBI := hide (fun W => binary_any N J false W (by rw [hN]; rfl))
  rw [← hN, ← hJ] at hf
  have HF := hide hf
  obtain ⟨V, hV⟩ : ∃ V, V = (w.alloc (.cells #[.string nm, .string sy, .func (.func 54) #[] #[]] 51)).alloc (.cells #[.string ⟨#[]⟩, .string ⟨#[]⟩, .string ⟨#[]⟩, .string ⟨#[]⟩, .bool false] 30) := ⟨_, rfl⟩
  have HP : Hid (FBox V w.heap.size (.string nm) (.string sy) (.func (.func 54) #[] #[])) := by rw [hV]; exact ⟨by simp [go_sem], by simp [go_sem], by simp [go_sem], by simp [go_sem], by simp [go_sem], by simp [go_sem]⟩
  have HR : Hid (T5 V (w.heap.size + 1) (.string ⟨#[]⟩) (.string ⟨#[]⟩) (.string ⟨#[]⟩) (.string ⟨#[]⟩) (.bool false)) := by rw [hV]; exact ⟨by simp [go_sem], by simp [go_sem], by simp [go_sem], by simp [go_sem], by simp [go_sem], by simp [go_sem], by simp [go_sem], by simp [go_sem], by simp [go_sem], by simp [go_sem]⟩
  have HB : Hid (Below w.heap.size w V) := by rw [hV]; exact ((Below.refl _ _).alloc (Nat.le_refl _) _).alloc (by simp) _
  have HV := hide hV
  clear hf hN hJ
  unfold RowV
  go_enter Tryz.func18, Tryz.ntmps18
  go_upto_region 1 with fail
  rw [← unhide HV]
  clear hV HV
  have t2 := (unhide HP).c2
  go_upto_region 2 with (go_at_call 54; go_must (refine (unhide HM _).mono ?_; rintro e w1 ⟨rfl, hb1⟩; have HP1 := hide ((unhide HP).later hb1); have HR1 := hide ((unhide HR).later hb1); have HB1 := hide ((unhide HB).trans (hb1.mono (unhide HB).size)); clear hb1 t2))
  obtain ⟨V2, hV2⟩ : ∃ V2, V2 = w1.alloc (.cells #[.int .i64 (N : Int), .int .i64 J] 66) := ⟨_, rfl⟩
  have hb2 : Below w1.heap.size w1 V2 := by rw [hV2]; exact (Below.refl _ _).alloc (Nat.le_refl _) _
  have HP2 := hide ((unhide HP1).later hb2); have HR2 := hide ((unhide HR1).later hb2); have HB2 := hide ((unhide HB1).trans (hb2.mono (unhide HB1).size))
  have HQ2 : Hid (T2 V2 w1.heap.size (.int .i64 (N : Int)) (.int .i64 J)) := by rw [hV2]; exact ⟨by simp [go_sem], by simp [go_sem], by simp [go_sem], by simp [go_sem]⟩
  rw [← hV2]
  clear hV2 hb2 HP HR HB HP1 HR1 HB1 HM
  generalize w1.heap.size = g3 at *
  have q0 : ∀ xz : Later V2, xz.world.cell? ⟨w.heap.size, 0, none⟩ = some (.string nm) := fun xz => ((unhide HP2).later xz.below).c0
  have q1 : ∀ xz : Later V2, xz.world.cell? ⟨w.heap.size, 1, none⟩ = some (.string sy) := fun xz => ((unhide HP2).later xz.below).c1
  have q2 : ∀ xz : Later V2, xz.world.cell? ⟨g3, 0, none⟩ = some (.int .i64 (N : Int)) := fun xz => ((unhide HQ2).later xz.below).c0
  have q3 : ∀ xz : Later V2, xz.world.cell? ⟨g3, 1, none⟩ = some (.int .i64 J) := fun xz => ((unhide HQ2).later xz.below).c1
  refine quiet_end (by kernel_rfl) (by kernel_rfl) ?_
  simp only [List.dropLast, lastOf]
  repeat (go_big_quiet_step (first
    | (go_at_call 29; rename_i xx; refine (unhide HF xx.world ((unhide HB2).trans (xx.below.mono (unhide HB2).size))).mono ?_; rintro e w9 ⟨rfl, hb9⟩; have hz := xx.below.trans (hb9.mono xx.below.size); first | exact ⟨rfl, ⟨w9, hz⟩, rfl⟩ | exact ⟨rfl, hz⟩ | exact ⟨rfl, w9, hz, rfl⟩)
    | (go_at_call 38; rename_i xx; refine (unhide HBI xx.world).mono ?_; rintro e w9 ⟨rfl, hb9⟩; have hz := xx.below.trans (hb9.mono xx.below.size); first | exact ⟨rfl, ⟨w9, hz⟩, rfl⟩ | exact ⟨rfl, hz⟩ | exact ⟨rfl, w9, hz, rfl⟩)))
  refine wpQuiet_nil ?_
  intro _ hw'
  obtain ⟨xz, hw''⟩ := hw'
  subst hw''
  obtain ⟨U, hU⟩ : ∃ U, U = xz.world := ⟨_, rfl⟩
  have HBU : Hid (Below w.heap.size w U) := by rw [hU]; exact (unhide HB2).trans (xz.below.mono (unhide HB2).size)
  have HRU := hide ((unhide HR2).later xz.below)
  rw [← hU] at HRU ⊢
  clear hU q0 q1 q2 q3 HB2 HR2 HP2 HQ2
  have r0 := (unhide HRU).c0; have r1 := (unhide HRU).c1; have r2 := (unhide HRU).c2; have r3 := (unhide HRU).c3; have r4 := (unhide HRU).c4; have rf0 := (unhide HRU).f0; have rf1 := (unhide HRU).f1; have rf2 := (unhide HRU).f2; have rf3 := (unhide HRU).f3; have rf4 := (unhide HRU).f4
  go_simp
  go_wp2_with fail
  have hS := (unhide HRU).store (.string nm) (.string sy) (.string fn) (.string fd) (.bool false)
  have hb := below_store5 (unhide HBU) (by omega) (.string nm) (.string sy) (.string fn) (.string fd) (.bool false) (g := w.heap.size + 1)
  have v0 := hS.c0; have v1 := hS.c1; have v2 := hS.c2; have v3 := hS.c3; have v4 := hS.c4
  exact bodyPost_ret (v := .agg #[.string nm, .string sy, .string fn, .string fd, .bool false]) (w := store5 U (w.heap.size + 1) (.string nm) (.string sy) (.string fn) (.string fd) (.bool false)) (by simp [results, Tryz.results18, go_sem, v0, v1, v2, v3, v4]) rfl ⟨rfl, hb⟩
set_option maxRecDepth 100000 in
set_option maxHeartbeats 2000000 in
theorem micro_told : Tells 55 10 (-6) false := by
  intro nm sy fn fd w hf
  obtain ⟨N, hN⟩ : ∃ N : Nat, N = 10 := ⟨_, rfl⟩
  obtain ⟨J, hJ⟩ : ∃ J : Int, J = (-6) := ⟨_, rfl⟩
  have HM : Hid (∀ W, Calls Tryz.prog 55 #[] W fun r w' => r = .returned (.agg #[.int .i64 (N : Int), .int .i64 J]) ∧ Below W.heap.size W w') := fun W => by rw [hN, hJ]; exact micro_made W
  have HBI := hide (fun W => binary_any N J false W (by rw [hN]; rfl))
  rw [← hN, ← hJ] at hf
  have HF := hide hf
  obtain ⟨V, hV⟩ : ∃ V, V = (w.alloc (.cells #[.string nm, .string sy, .func (.func 55) #[] #[]] 51)).alloc (.cells #[.string ⟨#[]⟩, .string ⟨#[]⟩, .string ⟨#[]⟩, .string ⟨#[]⟩, .bool false] 30) := ⟨_, rfl⟩
  have HP : Hid (FBox V w.heap.size (.string nm) (.string sy) (.func (.func 55) #[] #[])) := by rw [hV]; exact ⟨by simp [go_sem], by simp [go_sem], by simp [go_sem], by simp [go_sem], by simp [go_sem], by simp [go_sem]⟩
  have HR : Hid (T5 V (w.heap.size + 1) (.string ⟨#[]⟩) (.string ⟨#[]⟩) (.string ⟨#[]⟩) (.string ⟨#[]⟩) (.bool false)) := by rw [hV]; exact ⟨by simp [go_sem], by simp [go_sem], by simp [go_sem], by simp [go_sem], by simp [go_sem], by simp [go_sem], by simp [go_sem], by simp [go_sem], by simp [go_sem], by simp [go_sem]⟩
  have HB : Hid (Below w.heap.size w V) := by rw [hV]; exact ((Below.refl _ _).alloc (Nat.le_refl _) _).alloc (by simp) _
  have HV := hide hV
  clear hf hN hJ
  unfold RowV
  go_enter Tryz.func18, Tryz.ntmps18
  go_upto_region 1 with fail
  rw [← unhide HV]
  clear hV HV
  have t2 := (unhide HP).c2
  go_upto_region 2 with (go_at_call 55; go_must (refine (unhide HM _).mono ?_; rintro e w1 ⟨rfl, hb1⟩; have HP1 := hide ((unhide HP).later hb1); have HR1 := hide ((unhide HR).later hb1); have HB1 := hide ((unhide HB).trans (hb1.mono (unhide HB).size)); clear hb1 t2))
  obtain ⟨V2, hV2⟩ : ∃ V2, V2 = w1.alloc (.cells #[.int .i64 (N : Int), .int .i64 J] 66) := ⟨_, rfl⟩
  have hb2 : Below w1.heap.size w1 V2 := by rw [hV2]; exact (Below.refl _ _).alloc (Nat.le_refl _) _
  have HP2 := hide ((unhide HP1).later hb2); have HR2 := hide ((unhide HR1).later hb2); have HB2 := hide ((unhide HB1).trans (hb2.mono (unhide HB1).size))
  have HQ2 : Hid (T2 V2 w1.heap.size (.int .i64 (N : Int)) (.int .i64 J)) := by rw [hV2]; exact ⟨by simp [go_sem], by simp [go_sem], by simp [go_sem], by simp [go_sem]⟩
  rw [← hV2]
  clear hV2 hb2 HP HR HB HP1 HR1 HB1 HM
  generalize w1.heap.size = g3 at *
  have q0 : ∀ xz : Later V2, xz.world.cell? ⟨w.heap.size, 0, none⟩ = some (.string nm) := fun xz => ((unhide HP2).later xz.below).c0
  have q1 : ∀ xz : Later V2, xz.world.cell? ⟨w.heap.size, 1, none⟩ = some (.string sy) := fun xz => ((unhide HP2).later xz.below).c1
  have q2 : ∀ xz : Later V2, xz.world.cell? ⟨g3, 0, none⟩ = some (.int .i64 (N : Int)) := fun xz => ((unhide HQ2).later xz.below).c0
  have q3 : ∀ xz : Later V2, xz.world.cell? ⟨g3, 1, none⟩ = some (.int .i64 J) := fun xz => ((unhide HQ2).later xz.below).c1
  refine quiet_end (by kernel_rfl) (by kernel_rfl) ?_
  simp only [List.dropLast, lastOf]
  repeat (go_big_quiet_step (first
    | (go_at_call 29; rename_i xx; refine (unhide HF xx.world ((unhide HB2).trans (xx.below.mono (unhide HB2).size))).mono ?_; rintro e w9 ⟨rfl, hb9⟩; have hz := xx.below.trans (hb9.mono xx.below.size); first | exact ⟨rfl, ⟨w9, hz⟩, rfl⟩ | exact ⟨rfl, hz⟩ | exact ⟨rfl, w9, hz, rfl⟩)
    | (go_at_call 38; rename_i xx; refine (unhide HBI xx.world).mono ?_; rintro e w9 ⟨rfl, hb9⟩; have hz := xx.below.trans (hb9.mono xx.below.size); first | exact ⟨rfl, ⟨w9, hz⟩, rfl⟩ | exact ⟨rfl, hz⟩ | exact ⟨rfl, w9, hz, rfl⟩)))
  refine wpQuiet_nil ?_
  intro _ hw'
  obtain ⟨xz, hw''⟩ := hw'
  subst hw''
  obtain ⟨U, hU⟩ : ∃ U, U = xz.world := ⟨_, rfl⟩
  have HBU : Hid (Below w.heap.size w U) := by rw [hU]; exact (unhide HB2).trans (xz.below.mono (unhide HB2).size)
  have HRU := hide ((unhide HR2).later xz.below)
  rw [← hU] at HRU ⊢
  clear hU q0 q1 q2 q3 HB2 HR2 HP2 HQ2
  have r0 := (unhide HRU).c0; have r1 := (unhide HRU).c1; have r2 := (unhide HRU).c2; have r3 := (unhide HRU).c3; have r4 := (unhide HRU).c4; have rf0 := (unhide HRU).f0; have rf1 := (unhide HRU).f1; have rf2 := (unhide HRU).f2; have rf3 := (unhide HRU).f3; have rf4 := (unhide HRU).f4
  go_simp
  go_wp2_with fail
  have hS := (unhide HRU).store (.string nm) (.string sy) (.string fn) (.string fd) (.bool false)
  have hb := below_store5 (unhide HBU) (by omega) (.string nm) (.string sy) (.string fn) (.string fd) (.bool false) (g := w.heap.size + 1)
  have v0 := hS.c0; have v1 := hS.c1; have v2 := hS.c2; have v3 := hS.c3; have v4 := hS.c4
  exact bodyPost_ret (v := .agg #[.string nm, .string sy, .string fn, .string fd, .bool false]) (w := store5 U (w.heap.size + 1) (.string nm) (.string sy) (.string fn) (.string fd) (.bool false)) (by simp [results, Tryz.results18, go_sem, v0, v1, v2, v3, v4]) rfl ⟨rfl, hb⟩
end Go.Proofs.YtpoapffbpgnkpaaGreatDoor

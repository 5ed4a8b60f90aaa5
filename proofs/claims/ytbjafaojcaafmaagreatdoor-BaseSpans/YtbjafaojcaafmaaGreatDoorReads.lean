/- A region that draws its order, in which reads come ahead of stores into what they read: the reads are taken first. What they read (S) must stand till store number k has come; what those read that store k does not wait for (S7) must stand throughout. -/
import Derived.Test.YtbjafaojcaafmaaGreatDoorOwn
import Derived.OrdersHeld
import Derived.Deep.RegionHeld3
import Derived.Test.YtbjafaojcaafmaaGreatDoorProg
namespace Go.Proofs.YtbjafaojcaafmaaGreatDoor
open Go.RowKit
theorem info43 : (Tryz.prog.info? 57).map (·.size) = some 10 := by kernel_rfl
theorem res43 {fn : Func} {p : Tmp} (h : fn.results = #[.cell p 57]) (tmps : Array Value) (w : World) (g : Nat) (vs : Array Value) (hl : vs.size = 10) (hp : tmps.getD p undef = .pointer (some ⟨g, 0, none⟩)) (ho : OwnU w g 57 vs) :
    (results fn tmps).run Tryz.prog w = .ok (.agg vs) w := by
  rw [results_cell1 h, hp]
  simp only [asAddr, Sem.run_pure, Result.andThen_ok]
  rw [run_loadVar_row w g 57 57 vs (0, 0) _ ho Tryz.underlying57 rfl (by rw [info43, hl])]
set_option maxRecDepth 100000 in
set_option maxHeartbeats 2000000 in
theorem fixed_any (a0 a1 a2 a3 a4 a5 a6 a7 : Int) (w : World) : Calls Tryz.prog 30 #[.agg #[.int .i64 a0, .int .i64 a1, .int .i64 a2, .int .i64 a3, .int .i64 a4, .int .i64 a5, .int .i64 a6, .int .i64 a7]] w fun r w' => r = .returned (.agg #[.int .i64 a0, .int .i64 a1, .int .i64 a2, .int .i64 a3, .int .i64 a4, .int .i64 a5, .int .i64 a6, .int .i64 a7, .int .i64 1, .int .i64 1]) ∧ Below w.heap.size w w' := by
  go_enter Tryz.func30, Tryz.ntmps30
  have HR : Hid (OwnU ((w.alloc (.cells #[.int .i64 a0, .int .i64 a1, .int .i64 a2, .int .i64 a3, .int .i64 a4, .int .i64 a5, .int .i64 a6, .int .i64 a7] 26)).alloc (.cells #[.int .i64 0, .int .i64 0, .int .i64 0, .int .i64 0, .int .i64 0, .int .i64 0, .int .i64 0, .int .i64 0, .int .i64 0, .int .i64 0] 57)) (w.heap.size + 1) 57 #[.int .i64 0, .int .i64 0, .int .i64 0, .int .i64 0, .int .i64 0, .int .i64 0, .int .i64 0, .int .i64 0, .int .i64 0, .int .i64 0]) := by have h := OwnU.new (w.alloc (.cells #[.int .i64 a0, .int .i64 a1, .int .i64 a2, .int .i64 a3, .int .i64 a4, .int .i64 a5, .int .i64 a6, .int .i64 a7] 26)) #[.int .i64 0, .int .i64 0, .int .i64 0, .int .i64 0, .int .i64 0, .int .i64 0, .int .i64 0, .int .i64 0, .int .i64 0, .int .i64 0] 57; rw [Dm.size_alloc] at h; exact h
  go_wp2_with (refine storeT 57 10 info43 rfl (.tmp 2) (.tmp 4) rfl (w.heap.size + 1) #[.int .i64 0, .int .i64 0, .int .i64 0, .int .i64 0, .int .i64 0, .int .i64 0, .int .i64 0, .int .i64 0, .int .i64 0, .int .i64 0] #[.int .i64 a0, .int .i64 a1, .int .i64 a2, .int .i64 a3, .int .i64 a4, .int .i64 a5, .int .i64 a6, .int .i64 a7, .int .i64 1, .int .i64 1] rfl rfl rfl rfl (unhide HR) (by kernel_rfl) ?_)
  refine bodyPost_ret (v := .agg #[.int .i64 a0, .int .i64 a1, .int .i64 a2, .int .i64 a3, .int .i64 a4, .int .i64 a5, .int .i64 a6, .int .i64 a7, .int .i64 1, .int .i64 1]) (res43 Tryz.results30 _ _ (w.heap.size + 1) _ rfl rfl ((unhide HR).setRow _)) rfl ⟨rfl, below_setRow (((Below.refl _ _).alloc (Nat.le_refl _) _).alloc (by simp) _) (by omega) _⟩
set_option maxRecDepth 100000 in
set_option maxHeartbeats 2000000 in
theorem number_any (n : Int) (w : World) : Calls Tryz.prog 31 #[.int .i64 n] w fun r w' => r = .returned (.agg #[.int .i64 0, .int .i64 0, .int .i64 0, .int .i64 0, .int .i64 0, .int .i64 0, .int .i64 0, .int .i64 0, .int .i64 n, .int .i64 1]) ∧ Below w.heap.size w w' := by
  go_enter Tryz.func31, Tryz.ntmps31
  have HR : Hid (OwnU (w.alloc (.cells #[.int .i64 0, .int .i64 0, .int .i64 0, .int .i64 0, .int .i64 0, .int .i64 0, .int .i64 0, .int .i64 0, .int .i64 0, .int .i64 0] 57)) w.heap.size 57 #[.int .i64 0, .int .i64 0, .int .i64 0, .int .i64 0, .int .i64 0, .int .i64 0, .int .i64 0, .int .i64 0, .int .i64 0, .int .i64 0]) := OwnU.new _ _ _
  go_wp2_with (refine storeT 57 10 info43 rfl (.tmp 2) (.tmp 4) rfl w.heap.size #[.int .i64 0, .int .i64 0, .int .i64 0, .int .i64 0, .int .i64 0, .int .i64 0, .int .i64 0, .int .i64 0, .int .i64 0, .int .i64 0] #[.int .i64 0, .int .i64 0, .int .i64 0, .int .i64 0, .int .i64 0, .int .i64 0, .int .i64 0, .int .i64 0, .int .i64 n, .int .i64 1] rfl rfl rfl rfl (unhide HR) (by kernel_rfl) ?_)
  refine bodyPost_ret (v := .agg #[.int .i64 0, .int .i64 0, .int .i64 0, .int .i64 0, .int .i64 0, .int .i64 0, .int .i64 0, .int .i64 0, .int .i64 n, .int .i64 1]) (res43 Tryz.results31 _ _ w.heap.size _ rfl rfl ((unhide HR).setRow _)) rfl ⟨rfl, below_setRow ((Below.refl _ _).alloc (Nat.le_refl _) _) (Nat.le_refl _) _⟩
set_option maxRecDepth 100000 in
set_option maxHeartbeats 4000000 in
theorem amTimes_any (a0 a1 a2 a3 a4 a5 a6 a7 an ad b0 b1 b2 b3 b4 b5 b6 b7 bn bd c0 c1 c2 c3 c4 c5 c6 c7 e : Int) (w : World)
    (hm : ∀ W : World, Calls Tryz.prog 45 #[.slice (some ⟨W.heap.size, 0, none⟩) 2 2] (W.alloc (.cells #[.int .i64 a0, .int .i64 a1, .int .i64 a2, .int .i64 a3, .int .i64 a4, .int .i64 a5, .int .i64 a6, .int .i64 a7, .int .i64 b0, .int .i64 b1, .int .i64 b2, .int .i64 b3, .int .i64 b4, .int .i64 b5, .int .i64 b6, .int .i64 b7] 26)) fun r w' => r = .returned (.tuple #[.agg #[.int .i64 c0, .int .i64 c1, .int .i64 c2, .int .i64 c3, .int .i64 c4, .int .i64 c5, .int .i64 c6, .int .i64 c7], .int .i64 e]) ∧ Below (W.alloc (.cells #[.int .i64 a0, .int .i64 a1, .int .i64 a2, .int .i64 a3, .int .i64 a4, .int .i64 a5, .int .i64 a6, .int .i64 a7, .int .i64 b0, .int .i64 b1, .int .i64 b2, .int .i64 b3, .int .i64 b4, .int .i64 b5, .int .i64 b6, .int .i64 b7] 26)).heap.size (W.alloc (.cells #[.int .i64 a0, .int .i64 a1, .int .i64 a2, .int .i64 a3, .int .i64 a4, .int .i64 a5, .int .i64 a6, .int .i64 a7, .int .i64 b0, .int .i64 b1, .int .i64 b2, .int .i64 b3, .int .i64 b4, .int .i64 b5, .int .i64 b6, .int .i64 b7] 26)) w') :
    Calls Tryz.prog 33 #[.agg #[.int .i64 a0, .int .i64 a1, .int .i64 a2, .int .i64 a3, .int .i64 a4, .int .i64 a5, .int .i64 a6, .int .i64 a7, .int .i64 an, .int .i64 ad], .agg #[.int .i64 b0, .int .i64 b1, .int .i64 b2, .int .i64 b3, .int .i64 b4, .int .i64 b5, .int .i64 b6, .int .i64 b7, .int .i64 bn, .int .i64 bd]] w fun r w' => r = .returned (.agg #[.int .i64 c0, .int .i64 c1, .int .i64 c2, .int .i64 c3, .int .i64 c4, .int .i64 c5, .int .i64 c6, .int .i64 c7, .int .i64 (wrap64 (an * bn)), .int .i64 (wrap64 (ad * bd))]) ∧ Below w.heap.size w w' := by
  obtain ⟨V, hV⟩ : ∃ V, V = (((w.alloc (.cells #[.int .i64 a0, .int .i64 a1, .int .i64 a2, .int .i64 a3, .int .i64 a4, .int .i64 a5, .int .i64 a6, .int .i64 a7, .int .i64 an, .int .i64 ad] 57)).alloc (.cells #[.int .i64 b0, .int .i64 b1, .int .i64 b2, .int .i64 b3, .int .i64 b4, .int .i64 b5, .int .i64 b6, .int .i64 b7, .int .i64 bn, .int .i64 bd] 57)).alloc (.cells #[.int .i64 0, .int .i64 0, .int .i64 0, .int .i64 0, .int .i64 0, .int .i64 0, .int .i64 0, .int .i64 0, .int .i64 0, .int .i64 0] 57)) := ⟨_, rfl⟩
  have HA : Hid (OwnU V w.heap.size 57 #[.int .i64 a0, .int .i64 a1, .int .i64 a2, .int .i64 a3, .int .i64 a4, .int .i64 a5, .int .i64 a6, .int .i64 a7, .int .i64 an, .int .i64 ad]) := by rw [hV]; exact ((OwnU.new w #[.int .i64 a0, .int .i64 a1, .int .i64 a2, .int .i64 a3, .int .i64 a4, .int .i64 a5, .int .i64 a6, .int .i64 a7, .int .i64 an, .int .i64 ad] 57).alloc _).alloc _
  have HB : Hid (OwnU V (w.heap.size + 1) 57 #[.int .i64 b0, .int .i64 b1, .int .i64 b2, .int .i64 b3, .int .i64 b4, .int .i64 b5, .int .i64 b6, .int .i64 b7, .int .i64 bn, .int .i64 bd]) := by rw [hV]; have h := (OwnU.new (w.alloc (.cells #[.int .i64 a0, .int .i64 a1, .int .i64 a2, .int .i64 a3, .int .i64 a4, .int .i64 a5, .int .i64 a6, .int .i64 a7, .int .i64 an, .int .i64 ad] 57)) #[.int .i64 b0, .int .i64 b1, .int .i64 b2, .int .i64 b3, .int .i64 b4, .int .i64 b5, .int .i64 b6, .int .i64 b7, .int .i64 bn, .int .i64 bd] 57).alloc (.cells #[.int .i64 0, .int .i64 0, .int .i64 0, .int .i64 0, .int .i64 0, .int .i64 0, .int .i64 0, .int .i64 0, .int .i64 0, .int .i64 0] 57); rw [Dm.size_alloc] at h; exact h
  have HR : Hid (OwnU V (w.heap.size + 2) 57 #[.int .i64 0, .int .i64 0, .int .i64 0, .int .i64 0, .int .i64 0, .int .i64 0, .int .i64 0, .int .i64 0, .int .i64 0, .int .i64 0]) := by rw [hV]; have h := OwnU.new ((w.alloc (.cells #[.int .i64 a0, .int .i64 a1, .int .i64 a2, .int .i64 a3, .int .i64 a4, .int .i64 a5, .int .i64 a6, .int .i64 a7, .int .i64 an, .int .i64 ad] 57)).alloc (.cells #[.int .i64 b0, .int .i64 b1, .int .i64 b2, .int .i64 b3, .int .i64 b4, .int .i64 b5, .int .i64 b6, .int .i64 b7, .int .i64 bn, .int .i64 bd] 57)) #[.int .i64 0, .int .i64 0, .int .i64 0, .int .i64 0, .int .i64 0, .int .i64 0, .int .i64 0, .int .i64 0, .int .i64 0, .int .i64 0] 57; rw [Dm.size_alloc, Dm.size_alloc] at h; exact h
  have HW : Hid (Below w.heap.size w V) := by rw [hV]; exact (((Below.refl _ _).alloc (Nat.le_refl _) _).alloc (by simp) _).alloc (by simp; omega) _
  have HV := hide hV
  have HM := hide hm
  clear hV hm
  go_enter Tryz.func33, Tryz.ntmps33
  go_upto_region 1 with fail
  rw [← unhide HV]
  clear HV
  have x0 : V.cell? ⟨w.heap.size, 0, none⟩ = some (.int .i64 a0) := (unhide HA).ub.c 0 _ rfl; have x1 : V.cell? ⟨w.heap.size, 1, none⟩ = some (.int .i64 a1) := (unhide HA).ub.c 1 _ rfl; have x2 : V.cell? ⟨w.heap.size, 2, none⟩ = some (.int .i64 a2) := (unhide HA).ub.c 2 _ rfl; have x3 : V.cell? ⟨w.heap.size, 3, none⟩ = some (.int .i64 a3) := (unhide HA).ub.c 3 _ rfl; have x4 : V.cell? ⟨w.heap.size, 4, none⟩ = some (.int .i64 a4) := (unhide HA).ub.c 4 _ rfl; have x5 : V.cell? ⟨w.heap.size, 5, none⟩ = some (.int .i64 a5) := (unhide HA).ub.c 5 _ rfl; have x6 : V.cell? ⟨w.heap.size, 6, none⟩ = some (.int .i64 a6) := (unhide HA).ub.c 6 _ rfl; have x7 : V.cell? ⟨w.heap.size, 7, none⟩ = some (.int .i64 a7) := (unhide HA).ub.c 7 _ rfl
  have y0 : V.cell? ⟨w.heap.size + 1, 0, none⟩ = some (.int .i64 b0) := (unhide HB).ub.c 0 _ rfl; have y1 : V.cell? ⟨w.heap.size + 1, 1, none⟩ = some (.int .i64 b1) := (unhide HB).ub.c 1 _ rfl; have y2 : V.cell? ⟨w.heap.size + 1, 2, none⟩ = some (.int .i64 b2) := (unhide HB).ub.c 2 _ rfl; have y3 : V.cell? ⟨w.heap.size + 1, 3, none⟩ = some (.int .i64 b3) := (unhide HB).ub.c 3 _ rfl; have y4 : V.cell? ⟨w.heap.size + 1, 4, none⟩ = some (.int .i64 b4) := (unhide HB).ub.c 4 _ rfl; have y5 : V.cell? ⟨w.heap.size + 1, 5, none⟩ = some (.int .i64 b5) := (unhide HB).ub.c 5 _ rfl; have y6 : V.cell? ⟨w.heap.size + 1, 6, none⟩ = some (.int .i64 b6) := (unhide HB).ub.c 6 _ rfl; have y7 : V.cell? ⟨w.heap.size + 1, 7, none⟩ = some (.int .i64 b7) := (unhide HB).ub.c 7 _ rfl
  go_upto_region 2 with (go_at_call 45; go_must (refine (unhide HM _).mono ?_; rintro e1 w1 ⟨rfl, hb1⟩; have HB1 : Hid (Below V.heap.size V w1) := ((Below.refl V.heap.size V).alloc (Nat.le_refl _) _).trans (hb1.mono (by simp)); clear hb1 x0 y0 x1 y1 x2 y2 x3 y3 x4 y4 x5 y5 x6 y6 x7 y7))
  have HA1 := hide ((unhide HA).later (unhide HB1)); have HBB1 := hide ((unhide HB).later (unhide HB1)); have HR1 := hide ((unhide HR).later (unhide HB1)); have HW1 := hide ((unhide HW).trans ((unhide HB1).mono (unhide HW).size))
  clear HA HB HR HW HB1
  have HD : Hid (OwnU (w1.alloc (.cells #[.int .i64 c0, .int .i64 c1, .int .i64 c2, .int .i64 c3, .int .i64 c4, .int .i64 c5, .int .i64 c6, .int .i64 c7] 26)) w1.heap.size 26 #[.int .i64 c0, .int .i64 c1, .int .i64 c2, .int .i64 c3, .int .i64 c4, .int .i64 c5, .int .i64 c6, .int .i64 c7]) := OwnU.new _ _ _
  have hal : Below w1.heap.size w1 (w1.alloc (.cells #[.int .i64 c0, .int .i64 c1, .int .i64 c2, .int .i64 c3, .int .i64 c4, .int .i64 c5, .int .i64 c6, .int .i64 c7] 26)) := (Below.refl _ _).alloc (Nat.le_refl _) _
  have HA2 := hide ((unhide HA1).later hal); have HB2 := hide ((unhide HBB1).later hal); have HR2 := hide ((unhide HR1).later hal); have HW2 := hide ((unhide HW1).trans (hal.mono (unhide HW1).size))
  obtain ⟨g5, hg5⟩ : ∃ g5, g5 = w1.heap.size := ⟨_, rfl⟩
  rw [← hg5] at HD ⊢
  clear hal hg5 HA1 HBB1 HR1 HW1
  generalize w1.alloc (.cells #[.int .i64 c0, .int .i64 c1, .int .i64 c2, .int .i64 c3, .int .i64 c4, .int .i64 c5, .int .i64 c6, .int .i64 c7] 26) = U at *
  have z0 : U.cell? ⟨g5, 0, none⟩ = some (.int .i64 c0) := (unhide HD).ub.c 0 _ rfl; have z1 : U.cell? ⟨g5, 1, none⟩ = some (.int .i64 c1) := (unhide HD).ub.c 1 _ rfl; have z2 : U.cell? ⟨g5, 2, none⟩ = some (.int .i64 c2) := (unhide HD).ub.c 2 _ rfl; have z3 : U.cell? ⟨g5, 3, none⟩ = some (.int .i64 c3) := (unhide HD).ub.c 3 _ rfl; have z4 : U.cell? ⟨g5, 4, none⟩ = some (.int .i64 c4) := (unhide HD).ub.c 4 _ rfl; have z5 : U.cell? ⟨g5, 5, none⟩ = some (.int .i64 c5) := (unhide HD).ub.c 5 _ rfl; have z6 : U.cell? ⟨g5, 6, none⟩ = some (.int .i64 c6) := (unhide HD).ub.c 6 _ rfl; have z7 : U.cell? ⟨g5, 7, none⟩ = some (.int .i64 c7) := (unhide HD).ub.c 7 _ rfl
  have x8 : U.cell? ⟨w.heap.size, 8, none⟩ = some (.int .i64 an) := (unhide HA2).ub.c 8 _ rfl
  have x9 : U.cell? ⟨w.heap.size, 9, none⟩ = some (.int .i64 ad) := (unhide HA2).ub.c 9 _ rfl
  have y8 : U.cell? ⟨w.heap.size + 1, 8, none⟩ = some (.int .i64 bn) := (unhide HB2).ub.c 8 _ rfl
  have y9 : U.cell? ⟨w.heap.size + 1, 9, none⟩ = some (.int .i64 bd) := (unhide HB2).ub.c 9 _ rfl
  go_wp2_with (refine storeT 57 10 info43 rfl (.tmp 4) (.tmp 27) rfl (w.heap.size + 2) #[.int .i64 0, .int .i64 0, .int .i64 0, .int .i64 0, .int .i64 0, .int .i64 0, .int .i64 0, .int .i64 0, .int .i64 0, .int .i64 0] #[.int .i64 c0, .int .i64 c1, .int .i64 c2, .int .i64 c3, .int .i64 c4, .int .i64 c5, .int .i64 c6, .int .i64 c7, .int .i64 (wrap64 (an * bn)), .int .i64 (wrap64 (ad * bd))] rfl rfl rfl rfl (unhide HR2) (by kernel_rfl) ?_)
  refine bodyPost_ret (v := .agg #[.int .i64 c0, .int .i64 c1, .int .i64 c2, .int .i64 c3, .int .i64 c4, .int .i64 c5, .int .i64 c6, .int .i64 c7, .int .i64 (wrap64 (an * bn)), .int .i64 (wrap64 (ad * bd))]) (res43 Tryz.results33 _ _ (w.heap.size + 2) _ rfl rfl ((unhide HR2).setRow _)) rfl ⟨rfl, below_setRow (unhide HW2) (by omega) _⟩
set_option maxRecDepth 100000 in
set_option maxHeartbeats 4000000 in
theorem amBy_any (a0 a1 a2 a3 a4 a5 a6 a7 an ad b0 b1 b2 b3 b4 b5 b6 b7 bn bd c0 c1 c2 c3 c4 c5 c6 c7 e : Int) (w : World)
    (hm : ∀ W, Calls Tryz.prog 44 #[.agg #[.int .i64 a0, .int .i64 a1, .int .i64 a2, .int .i64 a3, .int .i64 a4, .int .i64 a5, .int .i64 a6, .int .i64 a7], .agg #[.int .i64 b0, .int .i64 b1, .int .i64 b2, .int .i64 b3, .int .i64 b4, .int .i64 b5, .int .i64 b6, .int .i64 b7]] W fun r w' => r = .returned (.tuple #[.agg #[.int .i64 c0, .int .i64 c1, .int .i64 c2, .int .i64 c3, .int .i64 c4, .int .i64 c5, .int .i64 c6, .int .i64 c7], .int .i64 e]) ∧ Below W.heap.size W w') :
    Calls Tryz.prog 32 #[.agg #[.int .i64 a0, .int .i64 a1, .int .i64 a2, .int .i64 a3, .int .i64 a4, .int .i64 a5, .int .i64 a6, .int .i64 a7, .int .i64 an, .int .i64 ad], .agg #[.int .i64 b0, .int .i64 b1, .int .i64 b2, .int .i64 b3, .int .i64 b4, .int .i64 b5, .int .i64 b6, .int .i64 b7, .int .i64 bn, .int .i64 bd]] w fun r w' => r = .returned (.agg #[.int .i64 c0, .int .i64 c1, .int .i64 c2, .int .i64 c3, .int .i64 c4, .int .i64 c5, .int .i64 c6, .int .i64 c7, .int .i64 (wrap64 (an * bd)), .int .i64 (wrap64 (ad * bn))]) ∧ Below w.heap.size w w' := by
  obtain ⟨V, hV⟩ : ∃ V, V = (((w.alloc (.cells #[.int .i64 a0, .int .i64 a1, .int .i64 a2, .int .i64 a3, .int .i64 a4, .int .i64 a5, .int .i64 a6, .int .i64 a7, .int .i64 an, .int .i64 ad] 57)).alloc (.cells #[.int .i64 b0, .int .i64 b1, .int .i64 b2, .int .i64 b3, .int .i64 b4, .int .i64 b5, .int .i64 b6, .int .i64 b7, .int .i64 bn, .int .i64 bd] 57)).alloc (.cells #[.int .i64 0, .int .i64 0, .int .i64 0, .int .i64 0, .int .i64 0, .int .i64 0, .int .i64 0, .int .i64 0, .int .i64 0, .int .i64 0] 57)) := ⟨_, rfl⟩
  have HA : Hid (OwnU V w.heap.size 57 #[.int .i64 a0, .int .i64 a1, .int .i64 a2, .int .i64 a3, .int .i64 a4, .int .i64 a5, .int .i64 a6, .int .i64 a7, .int .i64 an, .int .i64 ad]) := by rw [hV]; exact ((OwnU.new w #[.int .i64 a0, .int .i64 a1, .int .i64 a2, .int .i64 a3, .int .i64 a4, .int .i64 a5, .int .i64 a6, .int .i64 a7, .int .i64 an, .int .i64 ad] 57).alloc _).alloc _
  have HB : Hid (OwnU V (w.heap.size + 1) 57 #[.int .i64 b0, .int .i64 b1, .int .i64 b2, .int .i64 b3, .int .i64 b4, .int .i64 b5, .int .i64 b6, .int .i64 b7, .int .i64 bn, .int .i64 bd]) := by rw [hV]; have h := (OwnU.new (w.alloc (.cells #[.int .i64 a0, .int .i64 a1, .int .i64 a2, .int .i64 a3, .int .i64 a4, .int .i64 a5, .int .i64 a6, .int .i64 a7, .int .i64 an, .int .i64 ad] 57)) #[.int .i64 b0, .int .i64 b1, .int .i64 b2, .int .i64 b3, .int .i64 b4, .int .i64 b5, .int .i64 b6, .int .i64 b7, .int .i64 bn, .int .i64 bd] 57).alloc (.cells #[.int .i64 0, .int .i64 0, .int .i64 0, .int .i64 0, .int .i64 0, .int .i64 0, .int .i64 0, .int .i64 0, .int .i64 0, .int .i64 0] 57); rw [Dm.size_alloc] at h; exact h
  have HR : Hid (OwnU V (w.heap.size + 2) 57 #[.int .i64 0, .int .i64 0, .int .i64 0, .int .i64 0, .int .i64 0, .int .i64 0, .int .i64 0, .int .i64 0, .int .i64 0, .int .i64 0]) := by rw [hV]; have h := OwnU.new ((w.alloc (.cells #[.int .i64 a0, .int .i64 a1, .int .i64 a2, .int .i64 a3, .int .i64 a4, .int .i64 a5, .int .i64 a6, .int .i64 a7, .int .i64 an, .int .i64 ad] 57)).alloc (.cells #[.int .i64 b0, .int .i64 b1, .int .i64 b2, .int .i64 b3, .int .i64 b4, .int .i64 b5, .int .i64 b6, .int .i64 b7, .int .i64 bn, .int .i64 bd] 57)) #[.int .i64 0, .int .i64 0, .int .i64 0, .int .i64 0, .int .i64 0, .int .i64 0, .int .i64 0, .int .i64 0, .int .i64 0, .int .i64 0] 57; rw [Dm.size_alloc, Dm.size_alloc] at h; exact h
  have HW : Hid (Below w.heap.size w V) := by rw [hV]; exact (((Below.refl _ _).alloc (Nat.le_refl _) _).alloc (by simp) _).alloc (by simp; omega) _
  have HV := hide hV
  have HM := hide hm
  clear hV hm
  go_enter Tryz.func32, Tryz.ntmps32
  go_upto_region 1 with fail
  rw [← unhide HV]
  clear HV
  have x0 : V.cell? ⟨w.heap.size, 0, none⟩ = some (.int .i64 a0) := (unhide HA).ub.c 0 _ rfl; have x1 : V.cell? ⟨w.heap.size, 1, none⟩ = some (.int .i64 a1) := (unhide HA).ub.c 1 _ rfl; have x2 : V.cell? ⟨w.heap.size, 2, none⟩ = some (.int .i64 a2) := (unhide HA).ub.c 2 _ rfl; have x3 : V.cell? ⟨w.heap.size, 3, none⟩ = some (.int .i64 a3) := (unhide HA).ub.c 3 _ rfl; have x4 : V.cell? ⟨w.heap.size, 4, none⟩ = some (.int .i64 a4) := (unhide HA).ub.c 4 _ rfl; have x5 : V.cell? ⟨w.heap.size, 5, none⟩ = some (.int .i64 a5) := (unhide HA).ub.c 5 _ rfl; have x6 : V.cell? ⟨w.heap.size, 6, none⟩ = some (.int .i64 a6) := (unhide HA).ub.c 6 _ rfl; have x7 : V.cell? ⟨w.heap.size, 7, none⟩ = some (.int .i64 a7) := (unhide HA).ub.c 7 _ rfl
  have y0 : V.cell? ⟨w.heap.size + 1, 0, none⟩ = some (.int .i64 b0) := (unhide HB).ub.c 0 _ rfl; have y1 : V.cell? ⟨w.heap.size + 1, 1, none⟩ = some (.int .i64 b1) := (unhide HB).ub.c 1 _ rfl; have y2 : V.cell? ⟨w.heap.size + 1, 2, none⟩ = some (.int .i64 b2) := (unhide HB).ub.c 2 _ rfl; have y3 : V.cell? ⟨w.heap.size + 1, 3, none⟩ = some (.int .i64 b3) := (unhide HB).ub.c 3 _ rfl; have y4 : V.cell? ⟨w.heap.size + 1, 4, none⟩ = some (.int .i64 b4) := (unhide HB).ub.c 4 _ rfl; have y5 : V.cell? ⟨w.heap.size + 1, 5, none⟩ = some (.int .i64 b5) := (unhide HB).ub.c 5 _ rfl; have y6 : V.cell? ⟨w.heap.size + 1, 6, none⟩ = some (.int .i64 b6) := (unhide HB).ub.c 6 _ rfl; have y7 : V.cell? ⟨w.heap.size + 1, 7, none⟩ = some (.int .i64 b7) := (unhide HB).ub.c 7 _ rfl
  go_upto_region 2 with (go_at_call 44; go_must (refine (unhide HM _).mono ?_; rintro e1 w1 ⟨rfl, hb1⟩; have HB1 := hide hb1; clear hb1 x0 y0 x1 y1 x2 y2 x3 y3 x4 y4 x5 y5 x6 y6 x7 y7))
  have HA1 := hide ((unhide HA).later (unhide HB1)); have HBB1 := hide ((unhide HB).later (unhide HB1)); have HR1 := hide ((unhide HR).later (unhide HB1)); have HW1 := hide ((unhide HW).trans ((unhide HB1).mono (unhide HW).size))
  clear HA HB HR HW HB1
  have HD : Hid (OwnU (w1.alloc (.cells #[.int .i64 c0, .int .i64 c1, .int .i64 c2, .int .i64 c3, .int .i64 c4, .int .i64 c5, .int .i64 c6, .int .i64 c7] 26)) w1.heap.size 26 #[.int .i64 c0, .int .i64 c1, .int .i64 c2, .int .i64 c3, .int .i64 c4, .int .i64 c5, .int .i64 c6, .int .i64 c7]) := OwnU.new _ _ _
  have hal : Below w1.heap.size w1 (w1.alloc (.cells #[.int .i64 c0, .int .i64 c1, .int .i64 c2, .int .i64 c3, .int .i64 c4, .int .i64 c5, .int .i64 c6, .int .i64 c7] 26)) := (Below.refl _ _).alloc (Nat.le_refl _) _
  have HA2 := hide ((unhide HA1).later hal); have HB2 := hide ((unhide HBB1).later hal); have HR2 := hide ((unhide HR1).later hal); have HW2 := hide ((unhide HW1).trans (hal.mono (unhide HW1).size))
  obtain ⟨g5, hg5⟩ : ∃ g5, g5 = w1.heap.size := ⟨_, rfl⟩
  rw [← hg5] at HD ⊢
  clear hal hg5 HA1 HBB1 HR1 HW1
  generalize w1.alloc (.cells #[.int .i64 c0, .int .i64 c1, .int .i64 c2, .int .i64 c3, .int .i64 c4, .int .i64 c5, .int .i64 c6, .int .i64 c7] 26) = U at *
  have z0 : U.cell? ⟨g5, 0, none⟩ = some (.int .i64 c0) := (unhide HD).ub.c 0 _ rfl; have z1 : U.cell? ⟨g5, 1, none⟩ = some (.int .i64 c1) := (unhide HD).ub.c 1 _ rfl; have z2 : U.cell? ⟨g5, 2, none⟩ = some (.int .i64 c2) := (unhide HD).ub.c 2 _ rfl; have z3 : U.cell? ⟨g5, 3, none⟩ = some (.int .i64 c3) := (unhide HD).ub.c 3 _ rfl; have z4 : U.cell? ⟨g5, 4, none⟩ = some (.int .i64 c4) := (unhide HD).ub.c 4 _ rfl; have z5 : U.cell? ⟨g5, 5, none⟩ = some (.int .i64 c5) := (unhide HD).ub.c 5 _ rfl; have z6 : U.cell? ⟨g5, 6, none⟩ = some (.int .i64 c6) := (unhide HD).ub.c 6 _ rfl; have z7 : U.cell? ⟨g5, 7, none⟩ = some (.int .i64 c7) := (unhide HD).ub.c 7 _ rfl
  have x8 : U.cell? ⟨w.heap.size, 8, none⟩ = some (.int .i64 an) := (unhide HA2).ub.c 8 _ rfl
  have x9 : U.cell? ⟨w.heap.size, 9, none⟩ = some (.int .i64 ad) := (unhide HA2).ub.c 9 _ rfl
  have y8 : U.cell? ⟨w.heap.size + 1, 8, none⟩ = some (.int .i64 bn) := (unhide HB2).ub.c 8 _ rfl
  have y9 : U.cell? ⟨w.heap.size + 1, 9, none⟩ = some (.int .i64 bd) := (unhide HB2).ub.c 9 _ rfl
  go_wp2_with (refine storeT 57 10 info43 rfl (.tmp 4) (.tmp 26) rfl (w.heap.size + 2) #[.int .i64 0, .int .i64 0, .int .i64 0, .int .i64 0, .int .i64 0, .int .i64 0, .int .i64 0, .int .i64 0, .int .i64 0, .int .i64 0] #[.int .i64 c0, .int .i64 c1, .int .i64 c2, .int .i64 c3, .int .i64 c4, .int .i64 c5, .int .i64 c6, .int .i64 c7, .int .i64 (wrap64 (an * bd)), .int .i64 (wrap64 (ad * bn))] rfl rfl rfl rfl (unhide HR2) (by kernel_rfl) ?_)
  refine bodyPost_ret (v := .agg #[.int .i64 c0, .int .i64 c1, .int .i64 c2, .int .i64 c3, .int .i64 c4, .int .i64 c5, .int .i64 c6, .int .i64 c7, .int .i64 (wrap64 (an * bd)), .int .i64 (wrap64 (ad * bn))]) (res43 Tryz.results32 _ _ (w.heap.size + 2) _ rfl rfl ((unhide HR2).setRow _)) rfl ⟨rfl, below_setRow (unhide HW2) (by omega) _⟩
end Go.Proofs.YtbjafaojcaafmaaGreatDoor

namespace Go.Proofs.YtbjafaojcaafmaaGreatDoor
section
variable {P : Program} {ops : Array Oper} {Q : Exit → Act → World → Prop} {md : Region.Mode} {S S7 : World → Prop} {k : Nat}

/-- What stands once these have come. -/
def Inv (k : Nat) (S S7 : World → Prop) (l : Array Bool) (w : World) : Prop := (l.getD k false = false → S w) ∧ S7 w
/-- Whatever order: what stands does so behind each operation. -/
def wpR (P : Program) (md : Region.Mode) (ops : Array Oper) (Q : Exit → Act → World → Prop) (k : Nat) (S S7 : World → Prop) : Nat → Array Bool → Act → World → Prop
  | 0, l, a, w => Region.ready md ops l = [] ∧ Q .normal a w
  | n + 1, l, a, w => (Region.ready md ops l = [] → Q .normal a w) ∧ ∀ j ∈ Region.ready md ops l, wpOp P ops Q j (fun a' w' => Inv k S S7 (l.setIfInBounds j true) w' ∧ wpR P md ops Q k S S7 n (l.setIfInBounds j true) a' w') a w
theorem wpR_any : ∀ (n : Nat) (l : Array Bool) (a : Act) (w : World), wpR P md ops Q k S S7 n l a w → wpAny P md ops Q n l a w
  | 0, _, _, _, h => h
  | n + 1, _, _, _, h => ⟨h.1, fun j hj => wpOp_mono (fun a' w' h' => wpR_any n _ a' w' h'.2) (h.2 j hj)⟩
/-- What has come, came behind all that it waits for. -/
def Closed (md : Region.Mode) (ops : Array Oper) (l : Array Bool) : Prop := ∀ (j : Nat) (o : Oper), ops[j]? = some o → l.getD j false = true → ∀ e ∈ o.after, Region.binds md e = true → l.getD e.on false = true
theorem Closed.step {l : Array Bool} {j : Nat} (h : Closed md ops l) (hj : j ∈ Region.ready md ops l) : Closed md ops (l.setIfInBounds j true) := by
  obtain ⟨_, o, ho, hall⟩ := mem_ready.1 hj
  intro q oq hq hl e he hb
  rcases Decidable.em (j = q) with rfl | hne
  · obtain rfl : o = oq := Option.some.inj (ho.symm.trans hq)
    exact getD_set_true (hall e he hb)
  · rw [getD_set_ne false hne] at hl
    exact getD_set_true (h q oq hq hl e he hb)
def closedB (md : Region.Mode) (ops : Array Oper) (l : Array Bool) : Bool :=
  (List.range ops.size).all fun j => !l.getD j false || match ops[j]? with
    | some o => o.after.all fun e => !Region.binds md e || l.getD e.on false
    | none => true
theorem closed_of {l : Array Bool} (h : closedB md ops l = true) : Closed md ops l := by
  intro j o ho hl e he hb
  unfold closedB at h
  have h1 := List.all_eq_true.1 h j (List.mem_range.2 (Array.getElem?_eq_some_iff.1 ho).1)
  simp only [ho, hl, Bool.not_true, Bool.false_or] at h1
  have h2 := Array.all_eq_true_iff_forall_mem.1 h1 e he
  simpa [hb] using h2
/-- Does operation k wait for this one? -/
def waits (md : Region.Mode) (ops : Array Oper) (k i : Nat) : Bool := match ops[k]? with
  | some o => o.after.any fun e => Region.binds md e && e.on == i
  | none => true
theorem unlisted {l : Array Bool} {i : Nat} {b : Bool} (h : l.getD i true = false) (h1 : l.getD i b = true) : False := by
  rcases Nat.lt_or_ge i l.size with h2 | h2
  · simp [h2] at h h1; rw [h] at h1; cases h1
  · simp [Array.getElem?_eq_none h2] at h
theorem not_yet {i : Nat} {l : Array Bool} (hc : Closed md ops l) (hz : l.size = ops.size) (hw : waits md ops k i = true) (hi : l.getD i true = false) : l.getD k false = false := by
  cases hl : l.getD k false with
  | false => rfl
  | true =>
    exfalso
    unfold waits at hw
    cases ho : ops[k]? with
    | none =>
      have : ops.size ≤ k := Array.getElem?_eq_none_iff.1 ho
      have h2 : l[k]? = none := Array.getElem?_eq_none (by omega)
      simp [h2] at hl
    | some o =>
      simp only [ho] at hw
      obtain ⟨e, he, h2⟩ := Array.any_eq_true'.1 hw
      simp only [Bool.and_eq_true, beq_iff_eq] at h2
      have h3 := hc k o ho hl e he h2.1
      rw [h2.2] at h3
      exact unlisted hi h3
theorem Inv.set {l : Array Bool} {w : World} {i : Nat} (h : Inv k S S7 l w) (hne : i ≠ k) : Inv k S S7 (l.setIfInBounds i true) w := ⟨fun h0 => h.1 (by rwa [getD_set_ne false hne] at h0), h.2⟩
theorem wpR_first {i : Nat} {oi : Oper} {v : Value} {T : World → Prop} (hi : ops[i]? = some oi) (hs : Region.noSelect ops = true) (hik : i ≠ k)
    (hT : ∀ (l : Array Bool) (w : World), Closed md ops l → l.size = ops.size → l.getD i true = false → Inv k S S7 l w → T w)
    (hQ : ∀ c a w, Q (.panic c) (a.put oi.dst v) w → Q (.panic c) a w) (n : Nat) :
    ∀ (l : Array Bool) (a : Act) (w : World), Closed md ops l → l.size = ops.size → (∀ j oj, ops[j]? = some oj → j ≠ i → l.getD j true = false → (∀ e ∈ oj.after, Region.binds md e = true → e.on ≠ i) → oi.apart ops oj = true) →
      i ∈ Region.ready md ops l → YieldsIf P ops T oi v a → Inv k S S7 l w → wpR P md ops Q k S S7 n (l.setIfInBounds i true) (a.put oi.dst v) w → wpR P md ops Q k S S7 (n + 1) l a w := by
  have hsel := Region.noSelect_spec hs
  induction n with
  | zero =>
    intro l a w hc hz _ hr hy hS H
    refine ⟨fun h => absurd hr (by rw [h]; simp), fun j hj => ?_⟩
    rcases Decidable.em (j = i) with rfl | hne
    · exact hy.wpOp hi (hT l w hc hz (mem_ready.1 hr).1 hS) ⟨hS.set hik, H⟩
    · have := ready_mono hj hne
      rw [H.1] at this
      exact absurd this (by simp)
  | succ n ih =>
    intro l a w hc hz hfree hr hy hS H
    refine ⟨fun h => absurd hr (by rw [h]; simp), fun j hj => ?_⟩
    have hiu := (mem_ready.1 hr).1
    rcases Decidable.em (j = i) with rfl | hne
    · exact hy.wpOp hi (hT l w hc hz hiu hS) ⟨hS.set hik, H⟩
    · obtain ⟨hju, oj, hoj, hall⟩ := mem_ready.1 hj
      have hno : ∀ e ∈ oj.after, Region.binds md e = true → e.on ≠ i := fun e he hb heq => by
        have h1 := hall e he hb
        rw [heq] at h1
        exact unlisted hiu h1
      have h2 := wpOp_putIf hoj (hfree j oj hoj hne hju hno) (fun cs b => hsel i oi cs b hi) (fun cs b => hsel j oj cs b hoj) hQ hy (H.2 j (ready_mono hj hne))
      refine wpOp_mono (fun a' w' q => ?_) h2
      obtain ⟨q1, q2, q3⟩ := q
      rw [Array.setIfInBounds_comm _ _ (Ne.symm hne)] at q2 q3
      have hI : Inv k S S7 (l.setIfInBounds j true) w' := ⟨fun h0 => q2.1 (by rwa [getD_set_ne false hik]), q2.2⟩
      refine ⟨hI, ih (l.setIfInBounds j true) a' w' (hc.step hj) (by rw [Array.size_setIfInBounds]; exact hz) (fun q oq hq hqi hun hn => hfree q oq hq hqi ?_ hn) (ready_mono hr (Ne.symm hne)) q1 hI q3⟩
      rcases Decidable.em (j = q) with rfl | hjq
      · exact hju
      · rwa [getD_set_ne true hjq] at hun
/-- A read that store k waits for. -/
theorem wpR_take {i : Nat} {oi : Oper} {v : Value} {n : Nat} {l : Array Bool} {a : Act} {w : World} (hi : ops[i]? = some oi)
    (hs : Region.noSelect ops = true) (hw : (waits md ops k i && closedB md ops l && (l.size == ops.size) && (i != k)) = true) (hf : Region.free md ops l i = true) (hr : (Region.ready md ops l).contains i = true)
    (hQ : ∀ c a w, Q (.panic c) (a.put oi.dst v) w → Q (.panic c) a w) (hy : YieldsIf P ops S oi v a) (hS : S w ∧ S7 w)
    (h : wpR P md ops Q k S S7 n (l.setIfInBounds i true) (a.put oi.dst v) w) : wpR P md ops Q k S S7 (n + 1) l a w := by
  simp only [Bool.and_eq_true, beq_iff_eq, bne_iff_ne, ne_eq] at hw
  obtain ⟨⟨⟨w1, w2⟩, w3⟩, w4⟩ := hw
  exact wpR_first hi hs w4 (fun l' w' hc hz hu hI => hI.1 (not_yet hc hz w1 hu)) hQ n l a w (closed_of w2) w3 (Region.free_spec hi hf) (by simpa using hr) hy ⟨fun _ => hS.1, hS.2⟩ h
theorem wpR_op {i : Nat} {o : Oper} {n : Nat} {l : Array Bool} {a : Act} {w : World} (hr : Region.ready md ops l = [i]) (ho : ops[i]? = some o) (hg : o.guard = none)
    (h : ∀ K : Act → World → Prop, (∀ a' w', S w' ∧ S7 w' → wpR P md ops Q k S S7 n (l.setIfInBounds i true) a' w' → K a' w') → Oper.wp P o a w K Q) : wpR P md ops Q k S S7 (n + 1) l a w := by
  refine ⟨fun h0 => absurd h0 (by rw [hr]; simp), fun j hj => ?_⟩
  rw [hr] at hj
  obtain rfl := List.mem_singleton.1 hj
  unfold wpOp
  simp only [ho]
  have hw : Region.wanted o (yielded ops a.tmps) = true := by simp [Region.wanted, hg]
  rw [if_pos hw]
  exact Or.inl (h _ fun a' w' h1 h2 => ⟨⟨fun _ => h1.1, h1.2⟩, h2⟩)
/-- Store k, or one behind it. -/
theorem wpR_late {i : Nat} {o : Oper} {n : Nat} {l : Array Bool} {a : Act} {w : World} (hr : Region.ready md ops l = [i]) (ho : ops[i]? = some o) (hg : o.guard = none) (hl : (l.setIfInBounds i true).getD k false = true)
    (h : ∀ K : Act → World → Prop, (∀ a' w', S7 w' → wpR P md ops Q k S S7 n (l.setIfInBounds i true) a' w' → K a' w') → Oper.wp P o a w K Q) : wpR P md ops Q k S S7 (n + 1) l a w := by
  refine ⟨fun h0 => absurd h0 (by rw [hr]; simp), fun j hj => ?_⟩
  rw [hr] at hj
  obtain rfl := List.mem_singleton.1 hj
  unfold wpOp
  simp only [ho]
  have hw : Region.wanted o (yielded ops a.tmps) = true := by simp [Region.wanted, hg]
  rw [if_pos hw]
  exact Or.inl (h _ fun a' w' h1 h2 => ⟨⟨fun h0 => (by rw [hl] at h0; cases h0), h1⟩, h2⟩)
theorem wpR_done {n : Nat} {l : Array Bool} {a : Act} {w : World} (hr : Region.ready md ops l = []) (h : Q .normal a w) : wpR P md ops Q k S S7 n l a w := by
  cases n with
  | zero => exact ⟨hr, h⟩
  | succ n => exact ⟨fun _ => h, by rw [hr]; simp⟩
theorem region_reads {id : Nat} {a : Act} {w : World} (k : Nat) (S S7 : World → Prop) (n : Nat) (hn : ops.size = n) (hm : P.follows .mixedOrders = true)
    (h : wpR P .any ops Q k S S7 n (Array.replicate n false) a w.drew) : (Code.region id ops true).wp P Q a w := by
  subst hn
  exact wp_region_any hm (wpR_any _ _ _ _ h)
end
end Go.Proofs.YtbjafaojcaafmaaGreatDoor

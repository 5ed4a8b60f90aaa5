/- A region of which two operations are ready. -/
import Derived.Test.YthcbhnggphdflaaGreatDoorLimb2
import Derived.Test.YthcbhnggphdflaaGreatDoorReg2
import Derived.Test.YthcbhnggphdflaaGreatDoorGram
namespace Go.Proofs.YthcbhnggphdflaaGreatDoor
open Go.RowKit
set_option maxRecDepth 100000 in
set_option maxHeartbeats 4000000 in
theorem rightTakes_1 (nm sy fn fd : ByteArray) (d0 d1 d2 d3 d4 d5 d6 d7 : Int) (w : World) (htab : Tab w) :
  Calls Tryz.prog 84 #[.agg #[.string nm, .string sy, I d0, I d1, I d2, I d3, I d4, I d5, I d6, I d7, .string fn, .string fd, .string ⟨#[48]⟩, .string ⟨#[49]⟩, I 1]] w fun r w' => r = .returned (.bool true) ∧ Below w.heap.size w w' := by
 obtain ⟨V, hV⟩ : ∃ V, V = w.alloc (.cells #[.string nm, .string sy, I d0, I d1, I d2, I d3, I d4, I d5, I d6, I d7, .string fn, .string fd, .string ⟨#[48]⟩, .string ⟨#[49]⟩, I 1] 30) := ⟨_, rfl⟩
 have HU : Hid (OwnU V w.heap.size 30 #[.string nm, .string sy, I d0, I d1, I d2, I d3, I d4, I d5, I d6, I d7, .string fn, .string fd, .string ⟨#[48]⟩, .string ⟨#[49]⟩, I 1]) := by rw [hV]; exact OwnU.new _ _ _
 have HB : Hid (Below w.heap.size w V) := by rw [hV]; exact (Below.refl _ _).alloc (Nat.le_refl _) _
 have HTA : Hid (∀ W, Below w.heap.size w W → Tab W) := fun W h => htab.later h
 have HV := hide hV
 clear hV htab
 go_enter Tryz.func84, Tryz.ntmps84
 go_upto_region 1 with fail
 rw [← un HV]
 clear HV
 have u12 : V.cell? ⟨w.heap.size, 12, none⟩ = some (.string ⟨#[48]⟩) := (un HU).ub.c 12 _ rfl; have u13 : V.cell? ⟨w.heap.size, 13, none⟩ = some (.string ⟨#[49]⟩) := (un HU).ub.c 13 _ rfl; have u14 : V.cell? ⟨w.heap.size, 14, none⟩ = some (I 1) := (un HU).ub.c 14 _ rfl
 go_upto_region 7 with fail
 have HUQ : Hid (∀ W, Below V.heap.size V W → Below w.heap.size w W) := fun W h => (un HB).trans (h.mono (un HB).size)
 have q0 : ∀ xz : Later V, xz.world.cell? ⟨w.heap.size, 12, none⟩ = some (.string ⟨#[48]⟩) := fun xz => ((un HU).later xz.below).ub.c 12 _ rfl
 have q1 : ∀ xz : Later V, xz.world.cell? ⟨w.heap.size, 13, none⟩ = some (.string ⟨#[49]⟩) := fun xz => ((un HU).later xz.below).ub.c 13 _ rfl
 refine quiet_later (by kernel_rfl) (by kernel_rfl) ?_
 repeat (go_big_quiet_step (first
  | (go_at_call 52; rename_i xx; refine (zero_of xx.world (un HTA _ (un HUQ _ xx.below))).mono ?_; rintro e w9 ⟨rfl, hb9⟩; have hz := xx.below.trans (hb9.mono xx.below.size); first | exact ⟨rfl, ⟨w9, hz⟩, rfl⟩ | exact ⟨rfl, hz⟩ | exact ⟨rfl, w9, hz, rfl⟩)))
 refine wpQuiet_nil ?_
 intro _ hw'
 obtain ⟨xz, hw''⟩ := hw'
 subst hw''
 have HE := hide (un HUQ _ xz.below)
 obtain ⟨G, hG⟩ : ∃ G, G = xz.world := ⟨_, rfl⟩
 rw [← hG] at HE ⊢
 clear q0 q1 hG xz HUQ
 go_wp2_with fail
 go_ret
 exact ⟨rfl, un HE⟩
set_option maxRecDepth 100000 in
set_option maxHeartbeats 4000000 in
theorem rightTakes_3 (nm sy fn fd : ByteArray) (d0 d1 d2 d3 d4 d5 d6 d7 : Int) (w : World) (htab : Tab w) :
  Calls Tryz.prog 84 #[.agg #[.string nm, .string sy, I d0, I d1, I d2, I d3, I d4, I d5, I d6, I d7, .string fn, .string fd, .string ⟨#[48]⟩, .string ⟨#[49]⟩, I 3]] w fun r w' => r = .returned (.bool true) ∧ Below w.heap.size w w' := by
 obtain ⟨V, hV⟩ : ∃ V, V = w.alloc (.cells #[.string nm, .string sy, I d0, I d1, I d2, I d3, I d4, I d5, I d6, I d7, .string fn, .string fd, .string ⟨#[48]⟩, .string ⟨#[49]⟩, I 3] 30) := ⟨_, rfl⟩
 have HU : Hid (OwnU V w.heap.size 30 #[.string nm, .string sy, I d0, I d1, I d2, I d3, I d4, I d5, I d6, I d7, .string fn, .string fd, .string ⟨#[48]⟩, .string ⟨#[49]⟩, I 3]) := by rw [hV]; exact OwnU.new _ _ _
 have HB : Hid (Below w.heap.size w V) := by rw [hV]; exact (Below.refl _ _).alloc (Nat.le_refl _) _
 have HTA : Hid (∀ W, Below w.heap.size w W → Tab W) := fun W h => htab.later h
 have HV := hide hV
 clear hV htab
 go_enter Tryz.func84, Tryz.ntmps84
 go_upto_region 1 with fail
 rw [← un HV]
 clear HV
 have u12 : V.cell? ⟨w.heap.size, 12, none⟩ = some (.string ⟨#[48]⟩) := (un HU).ub.c 12 _ rfl; have u13 : V.cell? ⟨w.heap.size, 13, none⟩ = some (.string ⟨#[49]⟩) := (un HU).ub.c 13 _ rfl; have u14 : V.cell? ⟨w.heap.size, 14, none⟩ = some (I 3) := (un HU).ub.c 14 _ rfl
 go_upto_region 7 with fail
 have HUQ : Hid (∀ W, Below V.heap.size V W → Below w.heap.size w W) := fun W h => (un HB).trans (h.mono (un HB).size)
 have q0 : ∀ xz : Later V, xz.world.cell? ⟨w.heap.size, 12, none⟩ = some (.string ⟨#[48]⟩) := fun xz => ((un HU).later xz.below).ub.c 12 _ rfl
 have q1 : ∀ xz : Later V, xz.world.cell? ⟨w.heap.size, 13, none⟩ = some (.string ⟨#[49]⟩) := fun xz => ((un HU).later xz.below).ub.c 13 _ rfl
 refine quiet_later (by kernel_rfl) (by kernel_rfl) ?_
 repeat (go_big_quiet_step (first
  | (go_at_call 52; rename_i xx; refine (zero_of xx.world (un HTA _ (un HUQ _ xx.below))).mono ?_; rintro e w9 ⟨rfl, hb9⟩; have hz := xx.below.trans (hb9.mono xx.below.size); first | exact ⟨rfl, ⟨w9, hz⟩, rfl⟩ | exact ⟨rfl, hz⟩ | exact ⟨rfl, w9, hz, rfl⟩)))
 refine wpQuiet_nil ?_
 intro _ hw'
 obtain ⟨xz, hw''⟩ := hw'
 subst hw''
 have HE := hide (un HUQ _ xz.below)
 obtain ⟨G, hG⟩ : ∃ G, G = xz.world := ⟨_, rfl⟩
 rw [← hG] at HE ⊢
 clear q0 q1 hG xz HUQ
 go_wp2_with fail
 go_ret
 exact ⟨rfl, un HE⟩
set_option maxRecDepth 100000 in
set_option maxHeartbeats 4000000 in
theorem rightUnit_any (nm sy fn fd on od : ByteArray) (d0 d1 d2 d3 d4 d5 d6 d7 tk : Int) (w : World)
  (h36 : ∀ W, Below w.heap.size w W → Calls Tryz.prog 81 #[.string nm, .string sy] W fun r w' => r = .returned (.bool true) ∧ Below W.heap.size W w')
  (h37 : ∀ W, Below w.heap.size w W → Calls Tryz.prog 34 #[.agg #[I d0, I d1, I d2, I d3, I d4, I d5, I d6, I d7]] W fun r w' => r = .returned (.bool true) ∧ Below W.heap.size W w')
  (h38 : ∀ W, Below w.heap.size w W → Calls Tryz.prog 82 #[.agg #[.string fn, .string fd]] W fun r w' => r = .returned (.bool true) ∧ Below W.heap.size W w')
  (h39 : ∀ W, Below w.heap.size w W → Calls Tryz.prog 83 #[.agg #[.string on, .string od]] W fun r w' => r = .returned (.bool true) ∧ Below W.heap.size W w')
  (h40 : ∀ W, Below w.heap.size w W → Calls Tryz.prog 84 #[.agg #[.string nm, .string sy, I d0, I d1, I d2, I d3, I d4, I d5, I d6, I d7, .string fn, .string fd, .string on, .string od, I tk]] W fun r w' => r = .returned (.bool true) ∧ Below W.heap.size W w') :
  Calls Tryz.prog 45 #[.agg #[.string nm, .string sy, I d0, I d1, I d2, I d3, I d4, I d5, I d6, I d7, .string fn, .string fd, .string on, .string od, I tk]] w fun r w' => r = .returned (.bool true) ∧ Below w.heap.size w w' := by
 obtain ⟨V, hV⟩ : ∃ V, V = w.alloc (.cells #[.string nm, .string sy, I d0, I d1, I d2, I d3, I d4, I d5, I d6, I d7, .string fn, .string fd, .string on, .string od, I tk] 30) := ⟨_, rfl⟩
 have HU0 : Hid (OwnU V w.heap.size 30 #[.string nm, .string sy, I d0, I d1, I d2, I d3, I d4, I d5, I d6, I d7, .string fn, .string fd, .string on, .string od, I tk]) := by rw [hV]; exact OwnU.new _ _ _
 have HB0 : Hid (Below w.heap.size w V) := by rw [hV]; exact (Below.refl _ _).alloc (Nat.le_refl _) _
 have HV := hide hV
 have H36 := hide h36; have H37 := hide h37; have H38 := hide h38; have H39 := hide h39; have H40 := hide h40
 clear hV h36 h37 h38 h39 h40
 go_enter Tryz.func45, Tryz.ntmps45
 go_upto_region 1 with fail
 rw [← un HV]
 clear HV
 have u0 : V.cell? ⟨w.heap.size, 0, none⟩ = some (.string nm) := (un HU0).ub.c 0 _ rfl; have u1 : V.cell? ⟨w.heap.size, 1, none⟩ = some (.string sy) := (un HU0).ub.c 1 _ rfl; have u2 : V.cell? ⟨w.heap.size, 2, none⟩ = some (I d0) := (un HU0).ub.c 2 _ rfl; have u3 : V.cell? ⟨w.heap.size, 3, none⟩ = some (I d1) := (un HU0).ub.c 3 _ rfl; have u4 : V.cell? ⟨w.heap.size, 4, none⟩ = some (I d2) := (un HU0).ub.c 4 _ rfl; have u5 : V.cell? ⟨w.heap.size, 5, none⟩ = some (I d3) := (un HU0).ub.c 5 _ rfl; have u6 : V.cell? ⟨w.heap.size, 6, none⟩ = some (I d4) := (un HU0).ub.c 6 _ rfl; have u7 : V.cell? ⟨w.heap.size, 7, none⟩ = some (I d5) := (un HU0).ub.c 7 _ rfl; have u8 : V.cell? ⟨w.heap.size, 8, none⟩ = some (I d6) := (un HU0).ub.c 8 _ rfl; have u9 : V.cell? ⟨w.heap.size, 9, none⟩ = some (I d7) := (un HU0).ub.c 9 _ rfl; have u10 : V.cell? ⟨w.heap.size, 10, none⟩ = some (.string fn) := (un HU0).ub.c 10 _ rfl; have u11 : V.cell? ⟨w.heap.size, 11, none⟩ = some (.string fd) := (un HU0).ub.c 11 _ rfl; have u12 : V.cell? ⟨w.heap.size, 12, none⟩ = some (.string on) := (un HU0).ub.c 12 _ rfl; have u13 : V.cell? ⟨w.heap.size, 13, none⟩ = some (.string od) := (un HU0).ub.c 13 _ rfl; have u14 : V.cell? ⟨w.heap.size, 14, none⟩ = some (I tk) := (un HU0).ub.c 14 _ rfl
 go_wp2_with (first
  | (go_at_call 81; go_must (refine (un H36 _ (un HB0)).mono ?_; rintro e W1 ⟨rfl, hb⟩; have HU1 := hide ((un HU0).later hb); have HB1 := hide ((un HB0).trans (hb.mono (un HB0).size)); clear hb u0 u1 u2 u3 u4 u5 u6 u7 u8 u9 u10 u11 u12 u13 u14; have u0 : W1.cell? ⟨w.heap.size, 0, none⟩ = some (.string nm) := (un HU1).ub.c 0 _ rfl; have u1 : W1.cell? ⟨w.heap.size, 1, none⟩ = some (.string sy) := (un HU1).ub.c 1 _ rfl; have u2 : W1.cell? ⟨w.heap.size, 2, none⟩ = some (I d0) := (un HU1).ub.c 2 _ rfl; have u3 : W1.cell? ⟨w.heap.size, 3, none⟩ = some (I d1) := (un HU1).ub.c 3 _ rfl; have u4 : W1.cell? ⟨w.heap.size, 4, none⟩ = some (I d2) := (un HU1).ub.c 4 _ rfl; have u5 : W1.cell? ⟨w.heap.size, 5, none⟩ = some (I d3) := (un HU1).ub.c 5 _ rfl; have u6 : W1.cell? ⟨w.heap.size, 6, none⟩ = some (I d4) := (un HU1).ub.c 6 _ rfl; have u7 : W1.cell? ⟨w.heap.size, 7, none⟩ = some (I d5) := (un HU1).ub.c 7 _ rfl; have u8 : W1.cell? ⟨w.heap.size, 8, none⟩ = some (I d6) := (un HU1).ub.c 8 _ rfl; have u9 : W1.cell? ⟨w.heap.size, 9, none⟩ = some (I d7) := (un HU1).ub.c 9 _ rfl; have u10 : W1.cell? ⟨w.heap.size, 10, none⟩ = some (.string fn) := (un HU1).ub.c 10 _ rfl; have u11 : W1.cell? ⟨w.heap.size, 11, none⟩ = some (.string fd) := (un HU1).ub.c 11 _ rfl; have u12 : W1.cell? ⟨w.heap.size, 12, none⟩ = some (.string on) := (un HU1).ub.c 12 _ rfl; have u13 : W1.cell? ⟨w.heap.size, 13, none⟩ = some (.string od) := (un HU1).ub.c 13 _ rfl; have u14 : W1.cell? ⟨w.heap.size, 14, none⟩ = some (I tk) := (un HU1).ub.c 14 _ rfl))
  | (go_at_call 34; go_must (refine (un H37 _ (un HB1)).mono ?_; rintro e W2 ⟨rfl, hb⟩; have HU2 := hide ((un HU1).later hb); have HB2 := hide ((un HB1).trans (hb.mono (un HB1).size)); clear hb u0 u1 u2 u3 u4 u5 u6 u7 u8 u9 u10 u11 u12 u13 u14; have u0 : W2.cell? ⟨w.heap.size, 0, none⟩ = some (.string nm) := (un HU2).ub.c 0 _ rfl; have u1 : W2.cell? ⟨w.heap.size, 1, none⟩ = some (.string sy) := (un HU2).ub.c 1 _ rfl; have u2 : W2.cell? ⟨w.heap.size, 2, none⟩ = some (I d0) := (un HU2).ub.c 2 _ rfl; have u3 : W2.cell? ⟨w.heap.size, 3, none⟩ = some (I d1) := (un HU2).ub.c 3 _ rfl; have u4 : W2.cell? ⟨w.heap.size, 4, none⟩ = some (I d2) := (un HU2).ub.c 4 _ rfl; have u5 : W2.cell? ⟨w.heap.size, 5, none⟩ = some (I d3) := (un HU2).ub.c 5 _ rfl; have u6 : W2.cell? ⟨w.heap.size, 6, none⟩ = some (I d4) := (un HU2).ub.c 6 _ rfl; have u7 : W2.cell? ⟨w.heap.size, 7, none⟩ = some (I d5) := (un HU2).ub.c 7 _ rfl; have u8 : W2.cell? ⟨w.heap.size, 8, none⟩ = some (I d6) := (un HU2).ub.c 8 _ rfl; have u9 : W2.cell? ⟨w.heap.size, 9, none⟩ = some (I d7) := (un HU2).ub.c 9 _ rfl; have u10 : W2.cell? ⟨w.heap.size, 10, none⟩ = some (.string fn) := (un HU2).ub.c 10 _ rfl; have u11 : W2.cell? ⟨w.heap.size, 11, none⟩ = some (.string fd) := (un HU2).ub.c 11 _ rfl; have u12 : W2.cell? ⟨w.heap.size, 12, none⟩ = some (.string on) := (un HU2).ub.c 12 _ rfl; have u13 : W2.cell? ⟨w.heap.size, 13, none⟩ = some (.string od) := (un HU2).ub.c 13 _ rfl; have u14 : W2.cell? ⟨w.heap.size, 14, none⟩ = some (I tk) := (un HU2).ub.c 14 _ rfl))
  | (go_at_call 82; go_must (refine (un H38 _ (un HB2)).mono ?_; rintro e W3 ⟨rfl, hb⟩; have HU3 := hide ((un HU2).later hb); have HB3 := hide ((un HB2).trans (hb.mono (un HB2).size)); clear hb u0 u1 u2 u3 u4 u5 u6 u7 u8 u9 u10 u11 u12 u13 u14; have u0 : W3.cell? ⟨w.heap.size, 0, none⟩ = some (.string nm) := (un HU3).ub.c 0 _ rfl; have u1 : W3.cell? ⟨w.heap.size, 1, none⟩ = some (.string sy) := (un HU3).ub.c 1 _ rfl; have u2 : W3.cell? ⟨w.heap.size, 2, none⟩ = some (I d0) := (un HU3).ub.c 2 _ rfl; have u3 : W3.cell? ⟨w.heap.size, 3, none⟩ = some (I d1) := (un HU3).ub.c 3 _ rfl; have u4 : W3.cell? ⟨w.heap.size, 4, none⟩ = some (I d2) := (un HU3).ub.c 4 _ rfl; have u5 : W3.cell? ⟨w.heap.size, 5, none⟩ = some (I d3) := (un HU3).ub.c 5 _ rfl; have u6 : W3.cell? ⟨w.heap.size, 6, none⟩ = some (I d4) := (un HU3).ub.c 6 _ rfl; have u7 : W3.cell? ⟨w.heap.size, 7, none⟩ = some (I d5) := (un HU3).ub.c 7 _ rfl; have u8 : W3.cell? ⟨w.heap.size, 8, none⟩ = some (I d6) := (un HU3).ub.c 8 _ rfl; have u9 : W3.cell? ⟨w.heap.size, 9, none⟩ = some (I d7) := (un HU3).ub.c 9 _ rfl; have u10 : W3.cell? ⟨w.heap.size, 10, none⟩ = some (.string fn) := (un HU3).ub.c 10 _ rfl; have u11 : W3.cell? ⟨w.heap.size, 11, none⟩ = some (.string fd) := (un HU3).ub.c 11 _ rfl; have u12 : W3.cell? ⟨w.heap.size, 12, none⟩ = some (.string on) := (un HU3).ub.c 12 _ rfl; have u13 : W3.cell? ⟨w.heap.size, 13, none⟩ = some (.string od) := (un HU3).ub.c 13 _ rfl; have u14 : W3.cell? ⟨w.heap.size, 14, none⟩ = some (I tk) := (un HU3).ub.c 14 _ rfl))
  | (go_at_call 83; go_must (refine (un H39 _ (un HB3)).mono ?_; rintro e W4 ⟨rfl, hb⟩; have HU4 := hide ((un HU3).later hb); have HB4 := hide ((un HB3).trans (hb.mono (un HB3).size)); clear hb u0 u1 u2 u3 u4 u5 u6 u7 u8 u9 u10 u11 u12 u13 u14; have u0 : W4.cell? ⟨w.heap.size, 0, none⟩ = some (.string nm) := (un HU4).ub.c 0 _ rfl; have u1 : W4.cell? ⟨w.heap.size, 1, none⟩ = some (.string sy) := (un HU4).ub.c 1 _ rfl; have u2 : W4.cell? ⟨w.heap.size, 2, none⟩ = some (I d0) := (un HU4).ub.c 2 _ rfl; have u3 : W4.cell? ⟨w.heap.size, 3, none⟩ = some (I d1) := (un HU4).ub.c 3 _ rfl; have u4 : W4.cell? ⟨w.heap.size, 4, none⟩ = some (I d2) := (un HU4).ub.c 4 _ rfl; have u5 : W4.cell? ⟨w.heap.size, 5, none⟩ = some (I d3) := (un HU4).ub.c 5 _ rfl; have u6 : W4.cell? ⟨w.heap.size, 6, none⟩ = some (I d4) := (un HU4).ub.c 6 _ rfl; have u7 : W4.cell? ⟨w.heap.size, 7, none⟩ = some (I d5) := (un HU4).ub.c 7 _ rfl; have u8 : W4.cell? ⟨w.heap.size, 8, none⟩ = some (I d6) := (un HU4).ub.c 8 _ rfl; have u9 : W4.cell? ⟨w.heap.size, 9, none⟩ = some (I d7) := (un HU4).ub.c 9 _ rfl; have u10 : W4.cell? ⟨w.heap.size, 10, none⟩ = some (.string fn) := (un HU4).ub.c 10 _ rfl; have u11 : W4.cell? ⟨w.heap.size, 11, none⟩ = some (.string fd) := (un HU4).ub.c 11 _ rfl; have u12 : W4.cell? ⟨w.heap.size, 12, none⟩ = some (.string on) := (un HU4).ub.c 12 _ rfl; have u13 : W4.cell? ⟨w.heap.size, 13, none⟩ = some (.string od) := (un HU4).ub.c 13 _ rfl; have u14 : W4.cell? ⟨w.heap.size, 14, none⟩ = some (I tk) := (un HU4).ub.c 14 _ rfl))
  | (go_at_call 84; go_must (refine (un H40 _ (un HB4)).mono ?_; rintro e W5 ⟨rfl, hb⟩; have HU5 := hide ((un HU4).later hb); have HB5 := hide ((un HB4).trans (hb.mono (un HB4).size)); clear hb u0 u1 u2 u3 u4 u5 u6 u7 u8 u9 u10 u11 u12 u13 u14; have u0 : W5.cell? ⟨w.heap.size, 0, none⟩ = some (.string nm) := (un HU5).ub.c 0 _ rfl; have u1 : W5.cell? ⟨w.heap.size, 1, none⟩ = some (.string sy) := (un HU5).ub.c 1 _ rfl; have u2 : W5.cell? ⟨w.heap.size, 2, none⟩ = some (I d0) := (un HU5).ub.c 2 _ rfl; have u3 : W5.cell? ⟨w.heap.size, 3, none⟩ = some (I d1) := (un HU5).ub.c 3 _ rfl; have u4 : W5.cell? ⟨w.heap.size, 4, none⟩ = some (I d2) := (un HU5).ub.c 4 _ rfl; have u5 : W5.cell? ⟨w.heap.size, 5, none⟩ = some (I d3) := (un HU5).ub.c 5 _ rfl; have u6 : W5.cell? ⟨w.heap.size, 6, none⟩ = some (I d4) := (un HU5).ub.c 6 _ rfl; have u7 : W5.cell? ⟨w.heap.size, 7, none⟩ = some (I d5) := (un HU5).ub.c 7 _ rfl; have u8 : W5.cell? ⟨w.heap.size, 8, none⟩ = some (I d6) := (un HU5).ub.c 8 _ rfl; have u9 : W5.cell? ⟨w.heap.size, 9, none⟩ = some (I d7) := (un HU5).ub.c 9 _ rfl; have u10 : W5.cell? ⟨w.heap.size, 10, none⟩ = some (.string fn) := (un HU5).ub.c 10 _ rfl; have u11 : W5.cell? ⟨w.heap.size, 11, none⟩ = some (.string fd) := (un HU5).ub.c 11 _ rfl; have u12 : W5.cell? ⟨w.heap.size, 12, none⟩ = some (.string on) := (un HU5).ub.c 12 _ rfl; have u13 : W5.cell? ⟨w.heap.size, 13, none⟩ = some (.string od) := (un HU5).ub.c 13 _ rfl; have u14 : W5.cell? ⟨w.heap.size, 14, none⟩ = some (I tk) := (un HU5).ub.c 14 _ rfl)))
 go_ret
 exact ⟨rfl, un HB5⟩
end Go.Proofs.YthcbhnggphdflaaGreatDoor

namespace Go.Proofs.YthcbhnggphdflaaGreatDoor
section
variable {P : Program} {ops : Array Oper} {Q : Exit → Act → World → Prop} {md : Region.Mode} {S S7 : World → Prop} {k : Nat}
/-- One of those that may come. -/
theorem wpR_some {n : Nat} {l : Array Bool} {a : Act} {w : World} (rs : List Nat) (hr : Region.ready md ops l = rs) (hne : rs ≠ [])
  (h : ∀ i ∈ rs, ∃ o, ops[i]? = some o ∧ o.guard = none ∧ ∀ K : Act → World → Prop, (∀ a' w', S w' ∧ S7 w' → wpR P md ops Q k S S7 n (l.setIfInBounds i true) a' w' → K a' w') → Oper.wp P o a w K Q) : wpR P md ops Q k S S7 (n + 1) l a w := by
 refine ⟨fun h0 => absurd (hr.symm.trans h0) hne, fun j hj => ?_⟩
 rw [hr] at hj
 obtain ⟨o, ho, hg, hs⟩ := h j hj
 unfold wpOp
 simp only [ho]
 have hw : Region.wanted o (yielded ops a.tmps) = true := by simp [Region.wanted, hg]
 rw [if_pos hw]
 exact Or.inl (hs _ fun a' w' h1 h2 => ⟨⟨fun _ => h1.1, h1.2⟩, h2⟩)
theorem wpR_two {i j n : Nat} {oi oj : Oper} {l : Array Bool} {a : Act} {w : World} (hr : Region.ready md ops l = [i, j]) (hi : ops[i]? = some oi) (gi : oi.guard = none) (hj : ops[j]? = some oj) (gj : oj.guard = none)
  (si : ∀ K : Act → World → Prop, (∀ a' w', S w' ∧ S7 w' → wpR P md ops Q k S S7 n (l.setIfInBounds i true) a' w' → K a' w') → Oper.wp P oi a w K Q)
  (sj : ∀ K : Act → World → Prop, (∀ a' w', S w' ∧ S7 w' → wpR P md ops Q k S S7 n (l.setIfInBounds j true) a' w' → K a' w') → Oper.wp P oj a w K Q) : wpR P md ops Q k S S7 (n + 1) l a w := by
 refine wpR_some [i, j] hr (by simp) fun q hq => ?_
 rcases List.mem_cons.1 hq with rfl | hq
 ·exact ⟨oi, hi, gi, si⟩
 ·obtain rfl := List.mem_singleton.1 hq
  exact ⟨oj, hj, gj, sj⟩
end
end Go.Proofs.YthcbhnggphdflaaGreatDoor

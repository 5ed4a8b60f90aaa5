/- Groups of si, made. -/
import Derived.Test.YthcbhnggphdflaaGreatDoorLimb2
import Derived.Test.YthcbhnggphdflaaGreatDoorSi9
import Derived.Test.YthcbhnggphdflaaGreatDoorSi13
namespace Go.Proofs.YthcbhnggphdflaaGreatDoor
open Go.RowKit
set_option maxRecDepth 100000 in
set_option maxHeartbeats 4000000 in
theorem grp_along (b1 : Nat) (w : World) (h1 : OwnU w b1 55 #[I (-1), I 1, I (-2), I 0, I 0, I 0, I 0, I 0, I 1, I 1]) : Calls Tryz.prog 104 #[.func (.func 117) #[] #[.pointer (some ⟨b1, 0, none⟩)]] w fun e w' => e = .returned (.agg g_along8) ∧ Below w.heap.size w w' := by
 obtain ⟨V, hV⟩ : ∃ V, V = (w.alloc (.cells Tryz.zeroCells91 91)).alloc (.cells Tryz.zeroCells91 91) := ⟨_, rfl⟩
 obtain ⟨g, hg⟩ : ∃ g, g = w.heap.size + 1 := ⟨_, rfl⟩
 have HW : Hid (Below w.heap.size w V) := by rw [hV]; exact ((Below.refl _ _).alloc (Nat.le_refl _) _).alloc (by simp) _
 have HR : Hid (OwnU V w.heap.size 91 gZero) := by rw [hV, ← zc91]; exact (OwnU.new w _ 91).alloc _
 have HG : Hid (OwnU V g 91 gZero) := by rw [hV, hg, ← zc91]; have h := OwnU.new (w.alloc (.cells Tryz.zeroCells91 91)) Tryz.zeroCells91 91; rw [Dm.size_alloc] at h; exact h
 have HC1 : Hid (OwnU V b1 55 #[I (-1), I 1, I (-2), I 0, I 0, I 0, I 0, I 0, I 1, I 1] ∧ ¬ b1 = g) := ⟨h1.later (un HW), (by have := h1.lt; omega)⟩
 have HN : Hid (¬ w.heap.size = g ∧ w.heap.size ≤ g ∧ w.heap.size ≤ V.heap.size) := ⟨by omega, by omega, (un HW).size⟩
 have HV := hide hV
 clear hV h1
 go_enter Tryz.func104, Tryz.ntmps104
 go_upto_region 2 with fail
 rw [← un HV, ← hg]
 clear HV hg
 go_upto_region 3 with (go_at_call 117; go_must (refine (fill_along g b1 _ (un HG) (un HC1).1 (un HC1).2).mono ?_; rintro e w1 ⟨rfl, hg1, ho1⟩; have HG1 := hide hg1; have HR1 := hide (ho1.own _ _ _ (un HN).1 (un HR)); have HW1 := hide (ho1.bel w.heap.size w (un HN).2.1 (un HN).2.2 (un HW)); clear hg1 ho1))
 go_wp2_with (first
  | (refine wpList_load_row rfl 91 (.tmp 3) rfl g rfl 91 g_along8 (0, 0) _ (un HG1) Tryz.underlying91 rfl (by kernel_rfl) ?_)
  | (refine storeT 91 81 info91 rfl (.tmp 2) (.tmp 7) rfl w.heap.size gZero g_along8 rfl rfl rfl rfl (un HR1) (by kernel_rfl) ?_))
 exact bodyPost_ret (v := .agg g_along8) (res91 Tryz.results104 _ _ w.heap.size _ rfl rfl ((un HR1).setRow _)) rfl ⟨rfl, below_setRow (un HW1) (Nat.le_refl _) _⟩
theorem fld_along (w : World) : (Instr.field 91 (.agg g_force2) 0).run Tryz.prog w = .ok (.agg (g_force2.extract 0 80)) w := by kernel_rfl
theorem idx_along (w : World) : (Instr.index 89 (.agg (g_force2.extract 0 80)) (I 1)).run Tryz.prog w = .ok (.agg #[I (-1), I 1, I (-2), I 0, I 0, I 0, I 0, I 0, I 1, I 1]) w := by kernel_rfl
set_option maxRecDepth 100000 in
set_option maxHeartbeats 4000000 in
theorem made_along (w : World) : Calls Tryz.prog 79 #[] w fun e w' => e = .returned (.agg g_along8) ∧ Below w.heap.size w w' := by
 obtain ⟨V, hV⟩ : ∃ V, V = w.alloc (.cells Tryz.zeroCells91 91) := ⟨_, rfl⟩
 have HW : Hid (Below w.heap.size w V) := by rw [hV]; exact (Below.refl _ _).alloc (Nat.le_refl _) _
 have HR : Hid (OwnU V w.heap.size 91 gZero) := by rw [hV, ← zc91]; exact OwnU.new w _ 91
 have HV := hide hV
 clear hV
 have hfl := fld_along
 have hix := idx_along
 go_enter Tryz.func79, Tryz.ntmps79
 go_upto_region 1 with fail
 rw [← un HV]
 clear HV
 go_upto_region 2 with (first
  | (go_at_call 71; go_must (refine (made_force _).mono ?_; rintro e w1 ⟨rfl, hb⟩; have HR1 := hide ((un HR).later hb); have HW1 := hide ((un HW).trans (hb.mono (un HW).size)); clear hb))
  | (refine storeT 55 10 info55 rfl (.tmp 1) (.tmp 4) rfl w1.heap.size #[I 0, I 0, I 0, I 0, I 0, I 0, I 0, I 0, I 0, I 0] #[I (-1), I 1, I (-2), I 0, I 0, I 0, I 0, I 0, I 1, I 1] rfl rfl rfl rfl (OwnU.new _ _ _) (by kernel_rfl) ?_))
 have hb2 : Below w1.heap.size w1 ((w1.alloc (.cells #[I 0, I 0, I 0, I 0, I 0, I 0, I 0, I 0, I 0, I 0] 55)).setRow w1.heap.size #[I (-1), I 1, I (-2), I 0, I 0, I 0, I 0, I 0, I 1, I 1]) := below_setRow (albel _ _) (Nat.le_refl _) _
 have HB2 : Hid (OwnU ((w1.alloc (.cells #[I 0, I 0, I 0, I 0, I 0, I 0, I 0, I 0, I 0, I 0] 55)).setRow w1.heap.size #[I (-1), I 1, I (-2), I 0, I 0, I 0, I 0, I 0, I 1, I 1]) w1.heap.size 55 #[I (-1), I 1, I (-2), I 0, I 0, I 0, I 0, I 0, I 1, I 1]) := (OwnU.new _ _ _).setRow _
 have HR2 := hide ((un HR1).later hb2)
 have HW2 := hide ((un HW1).trans (hb2.mono (un HW1).size))
 clear hb2 hfl hix
 generalize (w1.alloc (.cells #[I 0, I 0, I 0, I 0, I 0, I 0, I 0, I 0, I 0, I 0] 55)).setRow w1.heap.size #[I (-1), I 1, I (-2), I 0, I 0, I 0, I 0, I 0, I 1, I 1] = w2 at *
 generalize w1.heap.size = b1 at *
 go_wp2_with (first
  | (go_at_call 104; go_must (refine (grp_along b1 _ (un HB2)).mono ?_; rintro e w3 ⟨rfl, hb⟩; have HR3 := hide ((un HR2).later hb); have HW3 := hide ((un HW2).trans (hb.mono (un HW2).size)); clear hb))
  | (refine storeT 91 81 info91 rfl (.tmp 0) (.tmp 6) rfl w.heap.size gZero g_along8 rfl rfl rfl rfl (un HR3) (by kernel_rfl) ?_))
 exact bodyPost_ret (v := .agg g_along8) (res91 Tryz.results79 _ _ w.heap.size _ rfl rfl ((un HR3).setRow _)) rfl ⟨rfl, below_setRow (un HW3) (Nat.le_refl _) _⟩
end Go.Proofs.YthcbhnggphdflaaGreatDoor

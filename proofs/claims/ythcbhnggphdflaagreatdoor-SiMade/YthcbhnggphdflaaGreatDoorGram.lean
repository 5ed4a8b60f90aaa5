/- The gram. -/
import Derived.Test.YthcbhnggphdflaaGreatDoorAmount
import Derived.Test.YthcbhnggphdflaaGreatDoorPower
namespace Go.Proofs.YthcbhnggphdflaaGreatDoor
open Go.RowKit
def X2 (l : List Int) (i j : Nat) : Int := l.getD (i * 8 + j) 0
theorem dims_new (W : World) (a0 a1 a2 a3 a4 a5 a6 a7 b0 b1 b2 b3 b4 b5 b6 b7 : Int) : Dm.Dims (W.alloc (.cells #[.int .i64 a0, .int .i64 a1, .int .i64 a2, .int .i64 a3, .int .i64 a4, .int .i64 a5, .int .i64 a6, .int .i64 a7, .int .i64 b0, .int .i64 b1, .int .i64 b2, .int .i64 b3, .int .i64 b4, .int .i64 b5, .int .i64 b6, .int .i64 b7] 26)) W.heap.size 0 2 (X2 [a0, a1, a2, a3, a4, a5, a6, a7, b0, b1, b2, b3, b4, b5, b6, b7]) := by
  refine ⟨by simp, fun i hi j hj => ?_⟩
  have h := (OwnU.new W #[.int .i64 a0, .int .i64 a1, .int .i64 a2, .int .i64 a3, .int .i64 a4, .int .i64 a5, .int .i64 a6, .int .i64 a7, .int .i64 b0, .int .i64 b1, .int .i64 b2, .int .i64 b3, .int .i64 b4, .int .i64 b5, .int .i64 b6, .int .i64 b7] 26).ub.c (0 + i * 8 + j)
  refine h _ ?_
  rcases (by omega : i = 0 ∨ i = 1) with rfl | rfl <;> rcases (by omega : j = 0 ∨ j = 1 ∨ j = 2 ∨ j = 3 ∨ j = 4 ∨ j = 5 ∨ j = 6 ∨ j = 7) with rfl | rfl | rfl | rfl | rfl | rfl | rfl | rfl <;> rfl
def mulL (l : List Int) : List Int := [Dm.sel (Dm.allB (X2 l) 2 && Dm.rightB (Dm.sumL (X2 l) 2)) (Dm.sumD (X2 l) 2 0), Dm.sel (Dm.allB (X2 l) 2 && Dm.rightB (Dm.sumL (X2 l) 2)) (Dm.sumD (X2 l) 2 1), Dm.sel (Dm.allB (X2 l) 2 && Dm.rightB (Dm.sumL (X2 l) 2)) (Dm.sumD (X2 l) 2 2), Dm.sel (Dm.allB (X2 l) 2 && Dm.rightB (Dm.sumL (X2 l) 2)) (Dm.sumD (X2 l) 2 3), Dm.sel (Dm.allB (X2 l) 2 && Dm.rightB (Dm.sumL (X2 l) 2)) (Dm.sumD (X2 l) 2 4), Dm.sel (Dm.allB (X2 l) 2 && Dm.rightB (Dm.sumL (X2 l) 2)) (Dm.sumD (X2 l) 2 5), Dm.sel (Dm.allB (X2 l) 2 && Dm.rightB (Dm.sumL (X2 l) 2)) (Dm.sumD (X2 l) 2 6), Dm.sel (Dm.allB (X2 l) 2 && Dm.rightB (Dm.sumL (X2 l) 2)) (Dm.sumD (X2 l) 2 7)]
def quoL (a b q : List Int) : List Int := q.map (Dm.sel (Dm.quoOk (Dm.rightB a) (Dm.rightB b) q))
theorem times_of (a0 a1 a2 a3 a4 a5 a6 a7 an ad b0 b1 b2 b3 b4 b5 b6 b7 bn bd c0 c1 c2 c3 c4 c5 c6 c7 p q : Int) (w : World) (h : mulL [a0, a1, a2, a3, a4, a5, a6, a7, b0, b1, b2, b3, b4, b5, b6, b7] = [c0, c1, c2, c3, c4, c5, c6, c7]) (hp : wrap64 (an * bn) = p) (hq : wrap64 (ad * bd) = q) :
    Calls Tryz.prog 91 #[.agg #[.int .i64 a0, .int .i64 a1, .int .i64 a2, .int .i64 a3, .int .i64 a4, .int .i64 a5, .int .i64 a6, .int .i64 a7, .int .i64 an, .int .i64 ad], .agg #[.int .i64 b0, .int .i64 b1, .int .i64 b2, .int .i64 b3, .int .i64 b4, .int .i64 b5, .int .i64 b6, .int .i64 b7, .int .i64 bn, .int .i64 bd]] w fun r w' => r = .returned (.agg #[.int .i64 c0, .int .i64 c1, .int .i64 c2, .int .i64 c3, .int .i64 c4, .int .i64 c5, .int .i64 c6, .int .i64 c7, .int .i64 p, .int .i64 q]) ∧ Below w.heap.size w w' := by
  subst hp hq
  unfold mulL at h
  simp only [List.cons.injEq, and_true] at h
  obtain ⟨rfl, rfl, rfl, rfl, rfl, rfl, rfl, rfl⟩ := h
  exact amTimes_any a0 a1 a2 a3 a4 a5 a6 a7 an ad b0 b1 b2 b3 b4 b5 b6 b7 bn bd _ _ _ _ _ _ _ _ _ w (fun W => Dm.mul_any W.heap.size 0 2 2 (X2 [a0, a1, a2, a3, a4, a5, a6, a7, b0, b1, b2, b3, b4, b5, b6, b7]) _ (by decide) (dims_new W a0 a1 a2 a3 a4 a5 a6 a7 b0 b1 b2 b3 b4 b5 b6 b7))
theorem by_of (a0 a1 a2 a3 a4 a5 a6 a7 an ad b0 b1 b2 b3 b4 b5 b6 b7 bn bd c0 c1 c2 c3 c4 c5 c6 c7 p q : Int) (w : World) (h : quoL [a0, a1, a2, a3, a4, a5, a6, a7] [b0, b1, b2, b3, b4, b5, b6, b7] [wrap64 (a0 - b0), wrap64 (a1 - b1), wrap64 (a2 - b2), wrap64 (a3 - b3), wrap64 (a4 - b4), wrap64 (a5 - b5), wrap64 (a6 - b6), wrap64 (a7 - b7)] = [c0, c1, c2, c3, c4, c5, c6, c7]) (hp : wrap64 (an * bd) = p) (hq : wrap64 (ad * bn) = q) :
    Calls Tryz.prog 90 #[.agg #[.int .i64 a0, .int .i64 a1, .int .i64 a2, .int .i64 a3, .int .i64 a4, .int .i64 a5, .int .i64 a6, .int .i64 a7, .int .i64 an, .int .i64 ad], .agg #[.int .i64 b0, .int .i64 b1, .int .i64 b2, .int .i64 b3, .int .i64 b4, .int .i64 b5, .int .i64 b6, .int .i64 b7, .int .i64 bn, .int .i64 bd]] w fun r w' => r = .returned (.agg #[.int .i64 c0, .int .i64 c1, .int .i64 c2, .int .i64 c3, .int .i64 c4, .int .i64 c5, .int .i64 c6, .int .i64 c7, .int .i64 p, .int .i64 q]) ∧ Below w.heap.size w w' := by
  subst hp hq
  unfold quoL at h
  simp only [List.map_cons, List.map_nil, List.cons.injEq, and_true] at h
  obtain ⟨rfl, rfl, rfl, rfl, rfl, rfl, rfl, rfl⟩ := h
  exact amBy_any a0 a1 a2 a3 a4 a5 a6 a7 an ad b0 b1 b2 b3 b4 b5 b6 b7 bn bd _ _ _ _ _ _ _ _ _ w (fun W => Dm.quo_any a0 a1 a2 a3 a4 a5 a6 a7 b0 b1 b2 b3 b4 b5 b6 b7 W)
theorem OwnU.set {W : World} {g ty : Nat} {vs : Array Value} (h : OwnU W g ty vs) (i : Nat) (v : Value) : OwnU (W.setCell ⟨g, i, none⟩ v) g ty (vs.setIfInBounds i v) := by
  unfold OwnU at h ⊢
  simp only [World.setCell, Array.getElem?_modify, h, Option.map_some]
  simp
theorem OwnU.otherSet {W : World} {g k ty : Nat} {vs : Array Value} (h : OwnU W g ty vs) (hk : ¬ g = k) (o : Nat) (v : Value) : OwnU (W.setCell ⟨k, o, none⟩ v) g ty vs := (Below.heap_setCell W ⟨k, o, none⟩ v g hk).trans h
theorem OwnU.past {W V : World} {vs : Array Value} {ty : Nat} (h : Below (W.alloc (.cells vs ty)).heap.size (W.alloc (.cells vs ty)) V) : OwnU V W.heap.size ty vs := (OwnU.new W vs ty).later h
theorem OwnU.pastD {W V : World} {vs : Array Value} {ty : Nat} (h : Below (W.alloc (.cells vs ty)).drew.heap.size (W.alloc (.cells vs ty)).drew V) : OwnU V W.heap.size ty vs := ((OwnU.new W vs ty).later (Below.refl _ _).drew).later h
theorem bel_al {U W V : World} {O : Obj} (h : Below U.heap.size U W) (hb : Below (W.alloc O).heap.size (W.alloc O) V) : Below U.heap.size U V :=
  (h.alloc h.size O).trans (hb.mono (h.alloc h.size O).size)
theorem bel_alD {W V : World} {O : Obj} (hb : Below (W.alloc O).drew.heap.size (W.alloc O).drew V) : Below W.heap.size W V :=
  have h0 := (Below.refl W.heap.size W).alloc (Nat.le_refl _) O
  have h : Below W.heap.size W (W.alloc O).drew := h0.trans ((Below.refl _ _).drew.mono h0.size)
  h.trans (hb.mono h.size)
set_option maxRecDepth 100000 in
set_option maxHeartbeats 4000000 in
theorem bit_made (w : World) : Calls Tryz.prog 55 #[] w fun r w' => r = .returned (.agg #[.int .i64 0, .int .i64 0, .int .i64 0, .int .i64 0, .int .i64 0, .int .i64 0, .int .i64 0, .int .i64 1, .int .i64 1, .int .i64 1]) ∧ Below w.heap.size w w' := by
  obtain ⟨V, hV⟩ : ∃ V, V = w.alloc (.cells #[.int .i64 0, .int .i64 0, .int .i64 0, .int .i64 0, .int .i64 0, .int .i64 0, .int .i64 0, .int .i64 0, .int .i64 0, .int .i64 0] 112) := ⟨_, rfl⟩
  have HR : Hid (OwnU V w.heap.size 112 #[.int .i64 0, .int .i64 0, .int .i64 0, .int .i64 0, .int .i64 0, .int .i64 0, .int .i64 0, .int .i64 0, .int .i64 0, .int .i64 0]) := by rw [hV]; exact OwnU.new _ _ _
  have HB : Hid (Below w.heap.size w V) := by rw [hV]; exact (Below.refl _ _).alloc (Nat.le_refl _) _
  have HV := hide hV
  clear hV
  go_enter Tryz.func55, Tryz.ntmps55
  go_upto_region 1 with fail
  rw [← un HV]
  clear HV
  go_wp2_with fail
  refine (fixed_any 0 0 0 0 0 0 0 1 _).mono ?_
  rintro e W ⟨rfl, hb⟩
  have HR1 := hide ((un HR).later hb); have HB1 := hide ((un HB).trans (hb.mono (un HB).size))
  clear HR HB hb
  have HR := HR1; have HB := HB1
  clear HR1 HB1
  go_wp2_with (refine storeT 112 10 info43 rfl (.tmp 0) (.tmp 2) rfl w.heap.size #[.int .i64 0, .int .i64 0, .int .i64 0, .int .i64 0, .int .i64 0, .int .i64 0, .int .i64 0, .int .i64 0, .int .i64 0, .int .i64 0] #[.int .i64 0, .int .i64 0, .int .i64 0, .int .i64 0, .int .i64 0, .int .i64 0, .int .i64 0, .int .i64 1, .int .i64 1, .int .i64 1] rfl rfl rfl rfl (un HR) (by kernel_rfl) ?_)
  exact bodyPost_ret (v := .agg #[.int .i64 0, .int .i64 0, .int .i64 0, .int .i64 0, .int .i64 0, .int .i64 0, .int .i64 0, .int .i64 1, .int .i64 1, .int .i64 1]) (res43 Tryz.results55 _ _ w.heap.size _ rfl rfl ((un HR).setRow _)) rfl ⟨rfl, below_setRow (un HB) (Nat.le_refl _) _⟩
set_option maxRecDepth 100000 in
set_option maxHeartbeats 4000000 in
theorem mole_made (w : World) : Calls Tryz.prog 56 #[] w fun r w' => r = .returned (.agg #[.int .i64 0, .int .i64 0, .int .i64 0, .int .i64 0, .int .i64 0, .int .i64 1, .int .i64 0, .int .i64 0, .int .i64 1, .int .i64 1]) ∧ Below w.heap.size w w' := by
  obtain ⟨V, hV⟩ : ∃ V, V = w.alloc (.cells #[.int .i64 0, .int .i64 0, .int .i64 0, .int .i64 0, .int .i64 0, .int .i64 0, .int .i64 0, .int .i64 0, .int .i64 0, .int .i64 0] 112) := ⟨_, rfl⟩
  have HR : Hid (OwnU V w.heap.size 112 #[.int .i64 0, .int .i64 0, .int .i64 0, .int .i64 0, .int .i64 0, .int .i64 0, .int .i64 0, .int .i64 0, .int .i64 0, .int .i64 0]) := by rw [hV]; exact OwnU.new _ _ _
  have HB : Hid (Below w.heap.size w V) := by rw [hV]; exact (Below.refl _ _).alloc (Nat.le_refl _) _
  have HV := hide hV
  clear hV
  go_enter Tryz.func56, Tryz.ntmps56
  go_upto_region 1 with fail
  rw [← un HV]
  clear HV
  go_wp2_with fail
  refine (number_any 1 _).mono ?_
  rintro e W ⟨rfl, hb⟩
  have HR1 := hide ((un HR).later hb); have HB1 := hide ((un HB).trans (hb.mono (un HB).size))
  clear HR HB hb
  have HR := HR1; have HB := HB1
  clear HR1 HB1
  go_wp2_with fail
  refine (fixed_any 0 0 0 0 0 (-1) 0 0 _).mono ?_
  rintro e W ⟨rfl, hb⟩
  have HR1 := hide ((un HR).later hb); have HB1 := hide ((un HB).trans (hb.mono (un HB).size))
  clear HR HB hb
  have HR := HR1; have HB := HB1
  clear HR1 HB1
  go_wp2_with fail
  refine (by_of 0 0 0 0 0 0 0 0 1 1 0 0 0 0 0 (-1) 0 0 1 1 0 0 0 0 0 1 0 0 1 1 _ (by decide +kernel) (by decide +kernel) (by decide +kernel)).mono ?_
  rintro e W ⟨rfl, hb⟩
  have HR1 := hide ((un HR).later hb); have HB1 := hide ((un HB).trans (hb.mono (un HB).size))
  clear HR HB hb
  have HR := HR1; have HB := HB1
  clear HR1 HB1
  go_wp2_with (refine storeT 112 10 info43 rfl (.tmp 0) (.tmp 4) rfl w.heap.size #[.int .i64 0, .int .i64 0, .int .i64 0, .int .i64 0, .int .i64 0, .int .i64 0, .int .i64 0, .int .i64 0, .int .i64 0, .int .i64 0] #[.int .i64 0, .int .i64 0, .int .i64 0, .int .i64 0, .int .i64 0, .int .i64 1, .int .i64 0, .int .i64 0, .int .i64 1, .int .i64 1] rfl rfl rfl rfl (un HR) (by kernel_rfl) ?_)
  exact bodyPost_ret (v := .agg #[.int .i64 0, .int .i64 0, .int .i64 0, .int .i64 0, .int .i64 0, .int .i64 1, .int .i64 0, .int .i64 0, .int .i64 1, .int .i64 1]) (res43 Tryz.results56 _ _ w.heap.size _ rfl rfl ((un HR).setRow _)) rfl ⟨rfl, below_setRow (un HB) (Nat.le_refl _) _⟩
set_option maxRecDepth 100000 in
set_option maxHeartbeats 4000000 in
theorem second_made (w : World) : Calls Tryz.prog 57 #[] w fun r w' => r = .returned (.agg #[.int .i64 0, .int .i64 0, .int .i64 1, .int .i64 0, .int .i64 0, .int .i64 0, .int .i64 0, .int .i64 0, .int .i64 1, .int .i64 1]) ∧ Below w.heap.size w w' := by
  obtain ⟨V, hV⟩ : ∃ V, V = w.alloc (.cells #[.int .i64 0, .int .i64 0, .int .i64 0, .int .i64 0, .int .i64 0, .int .i64 0, .int .i64 0, .int .i64 0, .int .i64 0, .int .i64 0] 112) := ⟨_, rfl⟩
  have HR : Hid (OwnU V w.heap.size 112 #[.int .i64 0, .int .i64 0, .int .i64 0, .int .i64 0, .int .i64 0, .int .i64 0, .int .i64 0, .int .i64 0, .int .i64 0, .int .i64 0]) := by rw [hV]; exact OwnU.new _ _ _
  have HB : Hid (Below w.heap.size w V) := by rw [hV]; exact (Below.refl _ _).alloc (Nat.le_refl _) _
  have HV := hide hV
  clear hV
  go_enter Tryz.func57, Tryz.ntmps57
  go_upto_region 1 with fail
  rw [← un HV]
  clear HV
  go_wp2_with fail
  refine (number_any 1 _).mono ?_
  rintro e W ⟨rfl, hb⟩
  have HR1 := hide ((un HR).later hb); have HB1 := hide ((un HB).trans (hb.mono (un HB).size))
  clear HR HB hb
  have HR := HR1; have HB := HB1
  clear HR1 HB1
  go_wp2_with fail
  refine (fixed_any 0 0 (-1) 0 0 0 0 0 _).mono ?_
  rintro e W ⟨rfl, hb⟩
  have HR1 := hide ((un HR).later hb); have HB1 := hide ((un HB).trans (hb.mono (un HB).size))
  clear HR HB hb
  have HR := HR1; have HB := HB1
  clear HR1 HB1
  go_wp2_with fail
  refine (by_of 0 0 0 0 0 0 0 0 1 1 0 0 (-1) 0 0 0 0 0 1 1 0 0 1 0 0 0 0 0 1 1 _ (by decide +kernel) (by decide +kernel) (by decide +kernel)).mono ?_
  rintro e W ⟨rfl, hb⟩
  have HR1 := hide ((un HR).later hb); have HB1 := hide ((un HB).trans (hb.mono (un HB).size))
  clear HR HB hb
  have HR := HR1; have HB := HB1
  clear HR1 HB1
  go_wp2_with (refine storeT 112 10 info43 rfl (.tmp 0) (.tmp 4) rfl w.heap.size #[.int .i64 0, .int .i64 0, .int .i64 0, .int .i64 0, .int .i64 0, .int .i64 0, .int .i64 0, .int .i64 0, .int .i64 0, .int .i64 0] #[.int .i64 0, .int .i64 0, .int .i64 1, .int .i64 0, .int .i64 0, .int .i64 0, .int .i64 0, .int .i64 0, .int .i64 1, .int .i64 1] rfl rfl rfl rfl (un HR) (by kernel_rfl) ?_)
  exact bodyPost_ret (v := .agg #[.int .i64 0, .int .i64 0, .int .i64 1, .int .i64 0, .int .i64 0, .int .i64 0, .int .i64 0, .int .i64 0, .int .i64 1, .int .i64 1]) (res43 Tryz.results57 _ _ w.heap.size _ rfl rfl ((un HR).setRow _)) rfl ⟨rfl, below_setRow (un HB) (Nat.le_refl _) _⟩
set_option maxRecDepth 100000 in
set_option maxHeartbeats 4000000 in
theorem ampere_made (w : World) : Calls Tryz.prog 58 #[] w fun r w' => r = .returned (.agg #[.int .i64 0, .int .i64 0, .int .i64 0, .int .i64 1, .int .i64 0, .int .i64 0, .int .i64 0, .int .i64 0, .int .i64 1, .int .i64 1]) ∧ Below w.heap.size w w' := by
  obtain ⟨V, hV⟩ : ∃ V, V = w.alloc (.cells #[.int .i64 0, .int .i64 0, .int .i64 0, .int .i64 0, .int .i64 0, .int .i64 0, .int .i64 0, .int .i64 0, .int .i64 0, .int .i64 0] 112) := ⟨_, rfl⟩
  have HR : Hid (OwnU V w.heap.size 112 #[.int .i64 0, .int .i64 0, .int .i64 0, .int .i64 0, .int .i64 0, .int .i64 0, .int .i64 0, .int .i64 0, .int .i64 0, .int .i64 0]) := by rw [hV]; exact OwnU.new _ _ _
  have HB : Hid (Below w.heap.size w V) := by rw [hV]; exact (Below.refl _ _).alloc (Nat.le_refl _) _
  have HV := hide hV
  clear hV
  go_enter Tryz.func58, Tryz.ntmps58
  go_upto_region 1 with fail
  rw [← un HV]
  clear HV
  go_wp2_with fail
  refine (fixed_any 0 0 1 1 0 0 0 0 _).mono ?_
  rintro e W ⟨rfl, hb⟩
  have HR1 := hide ((un HR).later hb); have HB1 := hide ((un HB).trans (hb.mono (un HB).size))
  clear HR HB hb
  have HR := HR1; have HB := HB1
  clear HR1 HB1
  go_wp2_with fail
  refine (second_made _).mono ?_
  rintro e W ⟨rfl, hb⟩
  have HR1 := hide ((un HR).later hb); have HB1 := hide ((un HB).trans (hb.mono (un HB).size))
  clear HR HB hb
  have HR := HR1; have HB := HB1
  clear HR1 HB1
  go_wp2_with fail
  refine (by_of 0 0 1 1 0 0 0 0 1 1 0 0 1 0 0 0 0 0 1 1 0 0 0 1 0 0 0 0 1 1 _ (by decide +kernel) (by decide +kernel) (by decide +kernel)).mono ?_
  rintro e W ⟨rfl, hb⟩
  have HR1 := hide ((un HR).later hb); have HB1 := hide ((un HB).trans (hb.mono (un HB).size))
  clear HR HB hb
  have HR := HR1; have HB := HB1
  clear HR1 HB1
  go_wp2_with (refine storeT 112 10 info43 rfl (.tmp 0) (.tmp 4) rfl w.heap.size #[.int .i64 0, .int .i64 0, .int .i64 0, .int .i64 0, .int .i64 0, .int .i64 0, .int .i64 0, .int .i64 0, .int .i64 0, .int .i64 0] #[.int .i64 0, .int .i64 0, .int .i64 0, .int .i64 1, .int .i64 0, .int .i64 0, .int .i64 0, .int .i64 0, .int .i64 1, .int .i64 1] rfl rfl rfl rfl (un HR) (by kernel_rfl) ?_)
  exact bodyPost_ret (v := .agg #[.int .i64 0, .int .i64 0, .int .i64 0, .int .i64 1, .int .i64 0, .int .i64 0, .int .i64 0, .int .i64 0, .int .i64 1, .int .i64 1]) (res43 Tryz.results58 _ _ w.heap.size _ rfl rfl ((un HR).setRow _)) rfl ⟨rfl, below_setRow (un HB) (Nat.le_refl _) _⟩
set_option maxRecDepth 100000 in
set_option maxHeartbeats 4000000 in
theorem metre_made (w : World) : Calls Tryz.prog 59 #[] w fun r w' => r = .returned (.agg #[.int .i64 1, .int .i64 0, .int .i64 0, .int .i64 0, .int .i64 0, .int .i64 0, .int .i64 0, .int .i64 0, .int .i64 1, .int .i64 1]) ∧ Below w.heap.size w w' := by
  obtain ⟨V, hV⟩ : ∃ V, V = w.alloc (.cells #[.int .i64 0, .int .i64 0, .int .i64 0, .int .i64 0, .int .i64 0, .int .i64 0, .int .i64 0, .int .i64 0, .int .i64 0, .int .i64 0] 112) := ⟨_, rfl⟩
  have HR : Hid (OwnU V w.heap.size 112 #[.int .i64 0, .int .i64 0, .int .i64 0, .int .i64 0, .int .i64 0, .int .i64 0, .int .i64 0, .int .i64 0, .int .i64 0, .int .i64 0]) := by rw [hV]; exact OwnU.new _ _ _
  have HB : Hid (Below w.heap.size w V) := by rw [hV]; exact (Below.refl _ _).alloc (Nat.le_refl _) _
  have HV := hide hV
  clear hV
  go_enter Tryz.func59, Tryz.ntmps59
  go_upto_region 1 with fail
  rw [← un HV]
  clear HV
  go_wp2_with fail
  refine (fixed_any 1 0 (-1) 0 0 0 0 0 _).mono ?_
  rintro e W ⟨rfl, hb⟩
  have HR1 := hide ((un HR).later hb); have HB1 := hide ((un HB).trans (hb.mono (un HB).size))
  clear HR HB hb
  have HR := HR1; have HB := HB1
  clear HR1 HB1
  go_wp2_with fail
  refine (second_made _).mono ?_
  rintro e W ⟨rfl, hb⟩
  have HR1 := hide ((un HR).later hb); have HB1 := hide ((un HB).trans (hb.mono (un HB).size))
  clear HR HB hb
  have HR := HR1; have HB := HB1
  clear HR1 HB1
  go_wp2_with fail
  refine (times_of 1 0 (-1) 0 0 0 0 0 1 1 0 0 1 0 0 0 0 0 1 1 1 0 0 0 0 0 0 0 1 1 _ (by decide +kernel) (by decide +kernel) (by decide +kernel)).mono ?_
  rintro e W ⟨rfl, hb⟩
  have HR1 := hide ((un HR).later hb); have HB1 := hide ((un HB).trans (hb.mono (un HB).size))
  clear HR HB hb
  have HR := HR1; have HB := HB1
  clear HR1 HB1
  go_wp2_with (refine storeT 112 10 info43 rfl (.tmp 0) (.tmp 4) rfl w.heap.size #[.int .i64 0, .int .i64 0, .int .i64 0, .int .i64 0, .int .i64 0, .int .i64 0, .int .i64 0, .int .i64 0, .int .i64 0, .int .i64 0] #[.int .i64 1, .int .i64 0, .int .i64 0, .int .i64 0, .int .i64 0, .int .i64 0, .int .i64 0, .int .i64 0, .int .i64 1, .int .i64 1] rfl rfl rfl rfl (un HR) (by kernel_rfl) ?_)
  exact bodyPost_ret (v := .agg #[.int .i64 1, .int .i64 0, .int .i64 0, .int .i64 0, .int .i64 0, .int .i64 0, .int .i64 0, .int .i64 0, .int .i64 1, .int .i64 1]) (res43 Tryz.results59 _ _ w.heap.size _ rfl rfl ((un HR).setRow _)) rfl ⟨rfl, below_setRow (un HB) (Nat.le_refl _) _⟩
end Go.Proofs.YthcbhnggphdflaaGreatDoor

namespace Go.Proofs.YthcbhnggphdflaaGreatDoor
open Go.RowKit
set_option maxRecDepth 100000 in
set_option maxHeartbeats 4000000 in
theorem gram_made (w : World) : Calls Tryz.prog 60 #[] w fun r w' => r = .returned (.agg #[.int .i64 0, .int .i64 1, .int .i64 0, .int .i64 0, .int .i64 0, .int .i64 0, .int .i64 0, .int .i64 0, .int .i64 1, .int .i64 1000]) ∧ Below w.heap.size w w' := by
  obtain ⟨V, hV⟩ : ∃ V, V = w.alloc (.cells #[.int .i64 0, .int .i64 0, .int .i64 0, .int .i64 0, .int .i64 0, .int .i64 0, .int .i64 0, .int .i64 0, .int .i64 0, .int .i64 0] 112) := ⟨_, rfl⟩
  have HR : Hid (OwnU V w.heap.size 112 #[.int .i64 0, .int .i64 0, .int .i64 0, .int .i64 0, .int .i64 0, .int .i64 0, .int .i64 0, .int .i64 0, .int .i64 0, .int .i64 0]) := by rw [hV]; exact OwnU.new _ _ _
  have HB : Hid (Below w.heap.size w V) := by rw [hV]; exact (Below.refl _ _).alloc (Nat.le_refl _) _
  have HV := hide hV
  clear hV
  go_enter Tryz.func60, Tryz.ntmps60
  go_upto_region 1 with fail
  rw [← un HV]
  clear HV
  go_wp2_with fail
  refine (fixed_any 2 1 (-1) 0 0 0 0 0 _).mono ?_
  rintro e W ⟨rfl, hb⟩
  have HR1 := hide ((un HR).later hb); have HB1 := hide ((un HB).trans (hb.mono (un HB).size))
  clear HR HB hb
  have HR := HR1; have HB := HB1
  clear HR1 HB1
  go_wp2_with fail
  refine (second_made _).mono ?_
  rintro e W ⟨rfl, hb⟩
  have HR1 := hide ((un HR).later hb); have HB1 := hide ((un HB).trans (hb.mono (un HB).size))
  clear HR HB hb
  have HR := HR1; have HB := HB1
  clear HR1 HB1
  go_wp2_with fail
  refine (times_of 2 1 (-1) 0 0 0 0 0 1 1 0 0 1 0 0 0 0 0 1 1 2 1 0 0 0 0 0 0 1 1 _ (by decide +kernel) (by decide +kernel) (by decide +kernel)).mono ?_
  rintro e W ⟨rfl, hb⟩
  have HR1 := hide ((un HR).later hb); have HB1 := hide ((un HB).trans (hb.mono (un HB).size))
  clear HR HB hb
  have HR := HR1; have HB := HB1
  clear HR1 HB1
  go_wp2_with fail
  refine (metre_made _).mono ?_
  rintro e W ⟨rfl, hb⟩
  have HR1 := hide ((un HR).later hb); have HB1 := hide ((un HB).trans (hb.mono (un HB).size))
  clear HR HB hb
  have HR := HR1; have HB := HB1
  clear HR1 HB1
  go_wp2_with fail
  refine (by_of 2 1 0 0 0 0 0 0 1 1 1 0 0 0 0 0 0 0 1 1 1 1 0 0 0 0 0 0 1 1 _ (by decide +kernel) (by decide +kernel) (by decide +kernel)).mono ?_
  rintro e W ⟨rfl, hb⟩
  have HR1 := hide ((un HR).later hb); have HB1 := hide ((un HB).trans (hb.mono (un HB).size))
  clear HR HB hb
  have HR := HR1; have HB := HB1
  clear HR1 HB1
  go_wp2_with fail
  refine (metre_made _).mono ?_
  rintro e W ⟨rfl, hb⟩
  have HR1 := hide ((un HR).later hb); have HB1 := hide ((un HB).trans (hb.mono (un HB).size))
  clear HR HB hb
  have HR := HR1; have HB := HB1
  clear HR1 HB1
  go_wp2_with fail
  refine (by_of 1 1 0 0 0 0 0 0 1 1 1 0 0 0 0 0 0 0 1 1 0 1 0 0 0 0 0 0 1 1 _ (by decide +kernel) (by decide +kernel) (by decide +kernel)).mono ?_
  rintro e W ⟨rfl, hb⟩
  have HR1 := hide ((un HR).later hb); have HB1 := hide ((un HB).trans (hb.mono (un HB).size))
  clear HR HB hb
  have HR := HR1; have HB := HB1
  clear HR1 HB1
  go_upto_region 2 with fail
  have HX : Hid (OwnU (W.alloc (.cells #[.int .i64 0, .int .i64 1, .int .i64 0, .int .i64 0, .int .i64 0, .int .i64 0, .int .i64 0, .int .i64 0, .int .i64 1, .int .i64 1] 112)) W.heap.size 112 #[.int .i64 0, .int .i64 1, .int .i64 0, .int .i64 0, .int .i64 0, .int .i64 0, .int .i64 0, .int .i64 0, .int .i64 1, .int .i64 1] ∧ Below W.heap.size W (W.alloc (.cells #[.int .i64 0, .int .i64 1, .int .i64 0, .int .i64 0, .int .i64 0, .int .i64 0, .int .i64 0, .int .i64 0, .int .i64 1, .int .i64 1] 112))) := ⟨OwnU.new _ _ _, (Below.refl _ _).alloc (Nat.le_refl _) _⟩
  obtain ⟨g1, hg1⟩ : ∃ g1, g1 = W.heap.size := ⟨_, rfl⟩
  obtain ⟨U, hU⟩ : ∃ U, U = W.alloc (.cells #[.int .i64 0, .int .i64 1, .int .i64 0, .int .i64 0, .int .i64 0, .int .i64 0, .int .i64 0, .int .i64 0, .int .i64 1, .int .i64 1] 112) := ⟨_, rfl⟩
  rw [← hU] at HX ⊢
  rw [← hg1] at HX ⊢
  have hne : ¬ g1 = w.heap.size := by have := (un HR).lt; omega
  have HR1 := hide ((un HR).later (by rw [← hg1]; exact (un HX).2)); have HB1 := hide ((un HB).trans (Below.mono (by rw [← hg1]; exact (un HX).2 : Below W.heap.size W U) (un HB).size))
  have HQ := hide (un HX).1
  clear HX HR HB hU hg1
  have HBD : Hid (Below U.heap.size U U.drew) := (Below.refl _ _).drew
  have HSS : Hid (∀ W', OwnU W' g1 112 #[.int .i64 0, .int .i64 1, .int .i64 0, .int .i64 0, .int .i64 0, .int .i64 0, .int .i64 0, .int .i64 0, .int .i64 1, .int .i64 1] → W'.cell? ⟨g1, 0, none⟩ = some (.int .i64 0) ∧ W'.cell? ⟨g1, 1, none⟩ = some (.int .i64 1) ∧ W'.cell? ⟨g1, 2, none⟩ = some (.int .i64 0) ∧ W'.cell? ⟨g1, 3, none⟩ = some (.int .i64 0) ∧ W'.cell? ⟨g1, 4, none⟩ = some (.int .i64 0) ∧ W'.cell? ⟨g1, 5, none⟩ = some (.int .i64 0) ∧ W'.cell? ⟨g1, 6, none⟩ = some (.int .i64 0) ∧ W'.cell? ⟨g1, 7, none⟩ = some (.int .i64 0) ∧ W'.cell? ⟨g1, 8, none⟩ = some (.int .i64 1) ∧ W'.cell? ⟨g1, 9, none⟩ = some (.int .i64 1)) := fun W' h => ⟨h.ub.c 0 _ rfl, h.ub.c 1 _ rfl, h.ub.c 2 _ rfl, h.ub.c 3 _ rfl, h.ub.c 4 _ rfl, h.ub.c 5 _ rfl, h.ub.c 6 _ rfl, h.ub.c 7 _ rfl, h.ub.c 8 _ rfl, h.ub.c 9 _ rfl⟩
  have HR2 := hide ((un HR1).later (un HBD)); have HQ2 := hide ((un HQ).later (un HBD)); have HB2 := hide ((un HB1).trans ((un HBD).mono (un HB1).size))
  clear HR1 HQ HB1
  have HS0 := hide (un HSS _ (un HQ2))
  refine region_reads 3 (fun W' => W'.cell? ⟨g1, 0, none⟩ = some (.int .i64 0) ∧ W'.cell? ⟨g1, 1, none⟩ = some (.int .i64 1) ∧ W'.cell? ⟨g1, 2, none⟩ = some (.int .i64 0) ∧ W'.cell? ⟨g1, 3, none⟩ = some (.int .i64 0) ∧ W'.cell? ⟨g1, 4, none⟩ = some (.int .i64 0) ∧ W'.cell? ⟨g1, 5, none⟩ = some (.int .i64 0) ∧ W'.cell? ⟨g1, 6, none⟩ = some (.int .i64 0) ∧ W'.cell? ⟨g1, 7, none⟩ = some (.int .i64 0) ∧ W'.cell? ⟨g1, 8, none⟩ = some (.int .i64 1) ∧ W'.cell? ⟨g1, 9, none⟩ = some (.int .i64 1)) (fun _ => True) 4 rfl (by kernel_rfl) ?_
  refine wpR_take (i := 0) (oi := _) (v := .agg #[.int .i64 0, .int .i64 1, .int .i64 0, .int .i64 0, .int .i64 0, .int .i64 0, .int .i64 0, .int .i64 0, .int .i64 1, .int .i64 1]) rfl (by kernel_rfl) (by kernel_rfl) (by kernel_rfl) (by kernel_rfl) (fun _ _ _ h => h) (Or.inl ⟨by rfl, ?_⟩) ⟨un HS0, trivial⟩ ?_
  · intro W' hW
    go_split_ands
    go_simp
  clear HBD HS0
  generalize U.drew = U0 at *
  refine wpR_op (i := 1) (o := _) (by kernel_rfl) rfl rfl (fun K hK => ?_)
  go_simp
  refine (number_any 1000 _).mono ?_
  rintro e U1 ⟨rfl, hb⟩
  have HR3 := hide ((un HR2).later hb); have HQ3 := hide ((un HQ2).later hb); have HB3 := hide ((un HB2).trans (hb.mono (un HB2).size))
  clear hb HR2 HQ2 HB2
  refine hK _ _ ⟨un HSS _ (un HQ3), trivial⟩ ?_
  clear hK K
  refine wpR_op (i := 2) (o := _) (by kernel_rfl) rfl rfl (fun K hK => ?_)
  go_simp
  refine (by_of 0 1 0 0 0 0 0 0 1 1 0 0 0 0 0 0 0 0 1000 1 0 1 0 0 0 0 0 0 1 1000 _ (by decide +kernel) (by decide +kernel) (by decide +kernel)).mono ?_
  rintro e U2 ⟨rfl, hb⟩
  have HR4 := hide ((un HR3).later hb); have HQ4 := hide ((un HQ3).later hb); have HB4 := hide ((un HB3).trans (hb.mono (un HB3).size))
  clear hb HR3 HQ3 HB3
  refine hK _ _ ⟨un HSS _ (un HQ4), trivial⟩ ?_
  clear hK K
  refine wpR_late (i := 3) (o := _) (by kernel_rfl) rfl rfl (by kernel_rfl) (fun K hK => ?_)
  refine wp_store_row 112 (.tmp 0) (.tmp 12) rfl w.heap.size #[.int .i64 0, .int .i64 1, .int .i64 0, .int .i64 0, .int .i64 0, .int .i64 0, .int .i64 0, .int .i64 0, .int .i64 1, .int .i64 1000] rfl rfl 112 _ (un HR4) (by rw [info43]; rfl) rfl (by kernel_rfl) (hK _ _ trivial ?_)
  clear hK K
  refine wpR_done (by kernel_rfl) ?_
  go_wp2_with fail
  exact bodyPost_ret (v := .agg #[.int .i64 0, .int .i64 1, .int .i64 0, .int .i64 0, .int .i64 0, .int .i64 0, .int .i64 0, .int .i64 0, .int .i64 1, .int .i64 1000]) (res43 Tryz.results60 _ _ w.heap.size _ rfl rfl ((un HR4).setRow _)) rfl ⟨rfl, below_setRow (un HB4) (Nat.le_refl _) _⟩
end Go.Proofs.YthcbhnggphdflaaGreatDoor

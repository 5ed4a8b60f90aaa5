/- A prefix's factor. -/
import Derived.Test.YthcbhnggphdflaaGreatDoorOfs
import Derived.Test.YthcbhnggphdflaaGreatDoorGram
import Derived.Deep.RegionHeld3
import Derived.Test.YthcbhnggphdflaaGreatDoorRMul
import Derived.Deep.Cut
import Derived.Test.YthcbhnggphdflaaGreatDoorCopy
namespace Go.Proofs.YthcbhnggphdflaaGreatDoor
open Go.RowKit
theorem T2.past {W V : World} {x y : Value} (h : Below (W.alloc (.cells #[x, y] 28)).heap.size (W.alloc (.cells #[x, y] 28)) V) : T2 V W.heap.size x y :=
  (show T2 (W.alloc (.cells #[x, y] 28)) W.heap.size x y from ⟨by simp [go_sem], by simp [go_sem], by simp [go_sem], by simp [go_sem]⟩).later h
theorem T2.pastD {W V : World} {x y : Value} (h : Below (W.alloc (.cells #[x, y] 28)).drew.heap.size (W.alloc (.cells #[x, y] 28)).drew V) : T2 V W.heap.size x y :=
  ((show T2 (W.alloc (.cells #[x, y] 28)) W.heap.size x y from ⟨by simp [go_sem], by simp [go_sem], by simp [go_sem], by simp [go_sem]⟩).later ((Below.refl _ _).drew)).later h
theorem T2.otherP {W : World} {g : Nat} {x y : Value} (h : T2 W g x y) (k : Nat) (hp : k ≠ g) (u v : Value) : T2 (store2 W k u v) g x y := by
  unfold store2
  have e : ∀ (W : World) (o : Nat) (u : Value), T2 W g x y → T2 (W.setCell ⟨k, o, none⟩ u) g x y := fun W o u h =>
    ⟨by rw [World.cell?_setCell_other _ _ _ _ (by intro e; cases e; exact hp rfl)]; exact h.c0, by rw [World.cell?_setCell_other _ _ _ _ (by intro e; cases e; exact hp rfl)]; exact h.c1, by rw [World.frozen?_setCell]; exact h.f0, by rw [World.frozen?_setCell]; exact h.f1⟩
  exact e _ _ _ (e _ _ _ h)
set_option maxRecDepth 100000 in
set_option maxHeartbeats 4000000 in
theorem factor_walk (a0 a1 a2 a3 a4 a5 a6 a7 n d : Int) (an ad bn bd fn fd : ByteArray) (w : World)
    (hoa : ∀ W, Below w.heap.size w W → Calls Tryz.prog 52 #[.int .i64 n] W fun r w' => r = .returned (.agg #[.string an, .string ad]) ∧ Below W.heap.size W w')
    (hob : ∀ W, Below w.heap.size w W → Calls Tryz.prog 52 #[.int .i64 d] W fun r w' => r = .returned (.agg #[.string bn, .string bd]) ∧ Below W.heap.size W w')
    (hqu : ∀ W, Below w.heap.size w W → Calls Tryz.prog 38 #[.agg #[.string an, .string ad], .agg #[.string bn, .string bd]] W fun r w' => r = .returned (.tuple #[.agg #[.string fn, .string fd], .int .i64 0]) ∧ Below W.heap.size W w') :
    Calls Tryz.prog 63 #[.agg #[.int .i64 a0, .int .i64 a1, .int .i64 a2, .int .i64 a3, .int .i64 a4, .int .i64 a5, .int .i64 a6, .int .i64 a7, .int .i64 n, .int .i64 d]] w fun r w' => r = .returned (.agg #[.string fn, .string fd]) ∧ Below w.heap.size w w' := by
  obtain ⟨V, hV⟩ : ∃ V, V = (w.alloc (.cells #[.int .i64 a0, .int .i64 a1, .int .i64 a2, .int .i64 a3, .int .i64 a4, .int .i64 a5, .int .i64 a6, .int .i64 a7, .int .i64 n, .int .i64 d] 112)).alloc (.cells #[.string ⟨#[]⟩, .string ⟨#[]⟩] 28) := ⟨_, rfl⟩
  have HP : Hid (UB V w.heap.size #[.int .i64 a0, .int .i64 a1, .int .i64 a2, .int .i64 a3, .int .i64 a4, .int .i64 a5, .int .i64 a6, .int .i64 a7, .int .i64 n, .int .i64 d]) := by rw [hV]; exact ((OwnU.new w #[.int .i64 a0, .int .i64 a1, .int .i64 a2, .int .i64 a3, .int .i64 a4, .int .i64 a5, .int .i64 a6, .int .i64 a7, .int .i64 n, .int .i64 d] 112).alloc _).ub
  have HR : Hid (T2 V (w.heap.size + 1) (.string ⟨#[]⟩) (.string ⟨#[]⟩)) := by rw [hV]; exact ⟨by simp [go_sem], by simp [go_sem], by simp [go_sem], by simp [go_sem]⟩
  have HB : Hid (Below w.heap.size w V) := by rw [hV]; exact ((Below.refl _ _).alloc (Nat.le_refl _) _).alloc (by simp) _
  have HV := hide hV
  have HOA := hide hoa; have HOB := hide hob; have HQU := hide hqu
  clear hoa hob hqu
  go_enter Tryz.func63, Tryz.ntmps63
  go_upto_region 1 with fail
  rw [← un HV]
  clear hV HV
  have t0 : V.cell? ⟨w.heap.size, 8, none⟩ = some (.int .i64 n) := (un HP).c 8 _ rfl
  have t1 : V.cell? ⟨w.heap.size, 9, none⟩ = some (.int .i64 d) := (un HP).c 9 _ rfl
  have HC0 : Hid (Below V.heap.size V V.drew) := (Below.refl _ _).drew
  have HUP : Hid (∀ W, Below V.heap.size V W → Below w.heap.size w W) := fun W h => (un HB).trans (h.mono (un HB).size)
  have HUA : Hid (∀ W O, Below V.heap.size V W → Below w.heap.size w (W.alloc O)) := fun W O h => (un HB).trans ((h.alloc h.size O).mono (un HB).size)
  have HUD : Hid (∀ O, Below w.heap.size w (V.alloc O).drew) := fun O => ((un HB).alloc (un HB).size O).drew
  have hv0 := (un HP).lt
  go_region_held3 (fun w' => w'.cell? ⟨w.heap.size, 8, none⟩ = some (.int .i64 n) ∧ w'.cell? ⟨w.heap.size, 9, none⟩ = some (.int .i64 d)) (first | assumption | (simp [go_sem, *]; done)) ((first
    | (go_at_call_of 52 n; go_must (refine (un HOA _ (by first | exact un HUP _ (un HC0) | exact un HUA _ _ (un HC0) | exact un HUD _)).mono ?_; rintro e wa ⟨rfl, hb⟩; have HCwa : Hid (Below V.heap.size V wa) := (by first | exact (un HC0).trans (hb.mono (un HC0).size) | exact bel_al (un HC0) hb | exact bel_alD hb); (first | (have HZwa := hide ((un HZ0).later hb); clear u0 u1 uf0 uf1; have u0 := (un HZwa).c0; have u1 := (un HZwa).c1; have uf0 := (un HZwa).f0; have uf1 := (un HZwa).f1) | (have HZwa : Hid (T2 wa V.heap.size (.string ⟨#[]⟩) (.string ⟨#[]⟩)) := (by first | exact T2.past hb | exact T2.pastD hb); have u0 := (un HZwa).c0; have u1 := (un HZwa).c1; have uf0 := (un HZwa).f0; have uf1 := (un HZwa).f1) | skip); clear hb t0 t1; have t0 : wa.cell? ⟨w.heap.size, 8, none⟩ = some (.int .i64 n) := ((un HP).later (un HCwa)).c 8 _ rfl; have t1 : wa.cell? ⟨w.heap.size, 9, none⟩ = some (.int .i64 d) := ((un HP).later (un HCwa)).c 9 _ rfl; have hvwa := ((un HP).later (un HCwa)).lt))
    | (go_at_call_of 52 d; go_must (refine (un HOB _ (by first | exact un HUP _ (un HCwa) | exact un HUA _ _ (un HCwa) | exact un HUD _)).mono ?_; rintro e wb ⟨rfl, hb⟩; have HCwb : Hid (Below V.heap.size V wb) := (by first | exact (un HCwa).trans (hb.mono (un HCwa).size) | exact bel_al (un HCwa) hb | exact bel_alD hb); (first | (have HZwb := hide ((un HZwa).later hb); clear u0 u1 uf0 uf1; have u0 := (un HZwb).c0; have u1 := (un HZwb).c1; have uf0 := (un HZwb).f0; have uf1 := (un HZwb).f1) | (have HZwb : Hid (T2 wb wa.heap.size (.string ⟨#[]⟩) (.string ⟨#[]⟩)) := (by first | exact T2.past hb | exact T2.pastD hb); have u0 := (un HZwb).c0; have u1 := (un HZwb).c1; have uf0 := (un HZwb).f0; have uf1 := (un HZwb).f1) | skip); clear hb t0 t1; have t0 : wb.cell? ⟨w.heap.size, 8, none⟩ = some (.int .i64 n) := ((un HP).later (un HCwb)).c 8 _ rfl; have t1 : wb.cell? ⟨w.heap.size, 9, none⟩ = some (.int .i64 d) := ((un HP).later (un HCwb)).c 9 _ rfl; have hvwb := ((un HP).later (un HCwb)).lt))
    | (go_at_call 38; go_must (refine (un HQU _ (by first | exact un HUP _ (un HCwb) | exact un HUA _ _ (un HCwb) | exact un HUD _)).mono ?_; rintro e wc ⟨rfl, hb⟩; have HCwc : Hid (Below V.heap.size V wc) := (by first | exact (un HCwb).trans (hb.mono (un HCwb).size) | exact bel_al (un HCwb) hb | exact bel_alD hb); (first | (have HZwc := hide ((un HZwb).later hb); clear u0 u1 uf0 uf1; have u0 := (un HZwc).c0; have u1 := (un HZwc).c1; have uf0 := (un HZwc).f0; have uf1 := (un HZwc).f1) | (have HZwc : Hid (T2 wc wb.heap.size (.string ⟨#[]⟩) (.string ⟨#[]⟩)) := (by first | exact T2.past hb | exact T2.pastD hb); have u0 := (un HZwc).c0; have u1 := (un HZwc).c1; have uf0 := (un HZwc).f0; have uf1 := (un HZwc).f1) | skip); clear hb t0 t1; have t0 : wc.cell? ⟨w.heap.size, 8, none⟩ = some (.int .i64 n) := ((un HP).later (un HCwc)).c 8 _ rfl; have t1 : wc.cell? ⟨w.heap.size, 9, none⟩ = some (.int .i64 d) := ((un HP).later (un HCwc)).c 9 _ rfl; have hvwc := ((un HP).later (un HCwc)).lt))))
  all_goals
    first
    | (obtain ⟨X, hX⟩ : ∃ X, X = wc.heap.size := ⟨_, rfl⟩
       obtain ⟨U, hU⟩ : ∃ U, U = wc.alloc (.cells #[.string fn, .string fd] 28) := ⟨_, rfl⟩
       have HF : Hid (T2 U X (.string fn) (.string fd) ∧ T2 U (w.heap.size + 1) (.string ⟨#[]⟩) (.string ⟨#[]⟩) ∧ Below w.heap.size w U) := by
         rw [hU, hX]
         exact ⟨⟨by simp [go_sem], by simp [go_sem], by simp [go_sem], by simp [go_sem]⟩, ((un HR).later (un HCwc)).later ((Below.refl _ _).alloc (Nat.le_refl _) _), un HUA _ _ (un HCwc)⟩
       rw [← hU, ← hX]
       clear hU hX)
    | (obtain ⟨X, hX⟩ : ∃ X, X = wb.heap.size := ⟨_, rfl⟩
       obtain ⟨U, hU⟩ : ∃ U, U = (wc.setCell { block := wb.heap.size, off := 0 } (.string fn)).setCell { block := wb.heap.size, off := 1 } (.string fd) := ⟨_, rfl⟩
       have HF : Hid (T2 U X (.string fn) (.string fd) ∧ T2 U (w.heap.size + 1) (.string ⟨#[]⟩) (.string ⟨#[]⟩) ∧ Below w.heap.size w U) := by
         rw [hU, hX]
         have h1 := ((un HR).later (un HCwb)).lt
         exact ⟨(un HZwc).store _ _, ((un HR).later (un HCwc)).otherP wb.heap.size (by omega) _ _, below_store2 (un HUP _ (un HCwc)) (by omega) _ _⟩
       rw [← hU, ← hX]
       clear hU hX)
    | (obtain ⟨X, hX⟩ : ∃ X, X = wa.heap.size := ⟨_, rfl⟩
       obtain ⟨U, hU⟩ : ∃ U, U = (wc.setCell { block := wa.heap.size, off := 0 } (.string fn)).setCell { block := wa.heap.size, off := 1 } (.string fd) := ⟨_, rfl⟩
       have HF : Hid (T2 U X (.string fn) (.string fd) ∧ T2 U (w.heap.size + 1) (.string ⟨#[]⟩) (.string ⟨#[]⟩) ∧ Below w.heap.size w U) := by
         rw [hU, hX]
         have h1 := ((un HR).later (un HCwa)).lt
         exact ⟨(un HZwc).store _ _, ((un HR).later (un HCwc)).otherP wa.heap.size (by omega) _ _, below_store2 (un HUP _ (un HCwc)) (by omega) _ _⟩
       rw [← hU, ← hX]
       clear hU hX)
    | (obtain ⟨X, hX⟩ : ∃ X, X = V.heap.size := ⟨_, rfl⟩
       obtain ⟨U, hU⟩ : ∃ U, U = (wc.setCell { block := V.heap.size, off := 0 } (.string fn)).setCell { block := V.heap.size, off := 1 } (.string fd) := ⟨_, rfl⟩
       have HF : Hid (T2 U X (.string fn) (.string fd) ∧ T2 U (w.heap.size + 1) (.string ⟨#[]⟩) (.string ⟨#[]⟩) ∧ Below w.heap.size w U) := by
         rw [hU, hX]
         have h1 := (un HR).lt
         exact ⟨(un HZwc).store _ _, ((un HR).later (un HCwc)).otherP V.heap.size (by omega) _ _, below_store2 (un HUP _ (un HCwc)) (by omega) _ _⟩
       rw [← hU, ← hX]
       clear hU hX)
  all_goals
    have x0 := (un HF).1.c0; have x1 := (un HF).1.c1
    have r0 := (un HF).2.1.c0; have r1 := (un HF).2.1.c1; have rf0 := (un HF).2.1.f0; have rf1 := (un HF).2.1.f1
    go_wp2_with fail
    have hS := (un HF).2.1.store (.string fn) (.string fd)
    have hb := below_store2 (un HF).2.2 (by omega) (.string fn) (.string fd) (g := w.heap.size + 1)
    have v0 := hS.c0; have v1 := hS.c1
    exact bodyPost_ret (v := .agg #[.string fn, .string fd]) (w := store2 U (w.heap.size + 1) (.string fn) (.string fd)) (by simp [results, Tryz.results63, go_sem, v0, v1]) rfl ⟨rfl, hb⟩
end Go.Proofs.YthcbhnggphdflaaGreatDoor

namespace Go.Proofs.YthcbhnggphdflaaGreatDoor.Pf
open Go.RowKit

/-- A call that answers a power, and makes new memory alone. -/
def Made (f : Nat) (a b : Int) : Prop := ∀ W, Calls Tryz.prog f #[] W fun r w' => r = .returned (.agg #[.int .i64 a, .int .i64 b]) ∧ Below W.heap.size W w'
set_option maxRecDepth 100000 in
set_option maxHeartbeats 1000000 in
theorem ptimes_any (a b c d : Int) (w : World) (h1 : -1000 ≤ b) (h2 : b ≤ 1000) (h3 : -1000 ≤ d) (h4 : d ≤ 1000) :
    Calls Tryz.prog 179 #[.agg #[.int .i64 a, .int .i64 b], .agg #[.int .i64 c, .int .i64 d]] w fun r w' => r = .returned (.agg #[.int .i64 a, .int .i64 (b + d)]) ∧ Below w.heap.size w w' := by
  go_enter Tryz.func179, Tryz.ntmps179
  go_wp2
  exact bodyPost_ret (v := .agg #[.int .i64 a, .int .i64 (b + d)]) (by simp [results, Tryz.results179, go_sem]) rfl ⟨rfl, (((Below.refl _ _).alloc (Nat.le_refl _) _).alloc (by simp) _).alloc (by simp; omega) _⟩
set_option maxRecDepth 100000 in
set_option maxHeartbeats 1000000 in
theorem deca_made : Made 131 10 1 := by
  intro w
  go_enter Tryz.func131, Tryz.ntmps131
  go_wp2
  exact bodyPost_ret (v := .agg #[.int .i64 10, .int .i64 1]) (by simp [results, Tryz.results131, go_sem]) rfl ⟨rfl, (Below.refl _ _).alloc (Nat.le_refl _) _⟩
set_option maxRecDepth 100000 in
set_option maxHeartbeats 1000000 in
theorem hecto_made : Made 132 10 2 := by
  intro w
  have H1 := hide deca_made
  have H2 := hide deca_made
  unfold Made at H1 H2
  have HT : Hid (∀ W, Calls Tryz.prog 179 #[.agg #[.int .i64 10, .int .i64 1], .agg #[.int .i64 10, .int .i64 1]] W fun r w' => r = .returned (.agg #[.int .i64 10, .int .i64 2]) ∧ Below W.heap.size W w') := fun W => ptimes_any 10 1 10 1 W (by decide) (by decide) (by decide) (by decide)
  obtain ⟨V, hV⟩ : ∃ V, V = w.alloc (.cells #[.int .i64 0, .int .i64 0] 182) := ⟨_, rfl⟩
  have HS : Hid (T2 V w.heap.size (.int .i64 0) (.int .i64 0) ∧ Below w.heap.size w V) := by rw [hV]; exact ⟨⟨by simp [go_sem], by simp [go_sem], by simp [go_sem], by simp [go_sem]⟩, (Below.refl _ _).alloc (Nat.le_refl _) _⟩
  have HV := hide hV
  go_enter Tryz.func132, Tryz.ntmps132
  go_upto_region 1 with fail
  rw [← un HV]
  clear hV HV
  go_wp2_with (first
    | (go_at_call 131; go_must (refine (un H1 _).mono ?_; rintro e wn ⟨rfl, hb⟩; replace HS := hide (And.intro ((un HS).1.later hb) ((un HS).2.trans (hb.mono (un HS).2.size))); clear hb))
    | (go_at_call 179; go_must (refine (un HT _).mono ?_; rintro e wl ⟨rfl, hb⟩; have HL : Hid (T2 wl w.heap.size (.int .i64 0) (.int .i64 0) ∧ Below w.heap.size w wl) := ⟨(un HS).1.later hb, (un HS).2.trans (hb.mono (un HS).2.size)⟩; clear hb; have r0 := (un HL).1.c0; have r1 := (un HL).1.c1; have rf0 := (un HL).1.f0; have rf1 := (un HL).1.f1)))
  have hS := (un HL).1.store (.int .i64 10) (.int .i64 2)
  have hb := below_store2 (un HL).2 (Nat.le_refl _) (.int .i64 10) (.int .i64 2)
  have v0 := hS.c0; have v1 := hS.c1
  exact bodyPost_ret (v := .agg #[.int .i64 10, .int .i64 2]) (w := store2 wl w.heap.size (.int .i64 10) (.int .i64 2)) (by simp [results, Tryz.results132, go_sem, v0, v1]) rfl ⟨rfl, hb⟩
set_option maxRecDepth 100000 in
set_option maxHeartbeats 1000000 in
theorem kilo_made : Made 133 10 3 := by
  intro w
  have H1 := hide hecto_made
  have H2 := hide deca_made
  unfold Made at H1 H2
  have HT : Hid (∀ W, Calls Tryz.prog 179 #[.agg #[.int .i64 10, .int .i64 2], .agg #[.int .i64 10, .int .i64 1]] W fun r w' => r = .returned (.agg #[.int .i64 10, .int .i64 3]) ∧ Below W.heap.size W w') := fun W => ptimes_any 10 2 10 1 W (by decide) (by decide) (by decide) (by decide)
  obtain ⟨V, hV⟩ : ∃ V, V = w.alloc (.cells #[.int .i64 0, .int .i64 0] 182) := ⟨_, rfl⟩
  have HS : Hid (T2 V w.heap.size (.int .i64 0) (.int .i64 0) ∧ Below w.heap.size w V) := by rw [hV]; exact ⟨⟨by simp [go_sem], by simp [go_sem], by simp [go_sem], by simp [go_sem]⟩, (Below.refl _ _).alloc (Nat.le_refl _) _⟩
  have HV := hide hV
  go_enter Tryz.func133, Tryz.ntmps133
  go_upto_region 1 with fail
  rw [← un HV]
  clear hV HV
  go_wp2_with (first
    | (go_at_call 132; go_must (refine (un H1 _).mono ?_; rintro e wn ⟨rfl, hb⟩; replace HS := hide (And.intro ((un HS).1.later hb) ((un HS).2.trans (hb.mono (un HS).2.size))); clear hb))
    | (go_at_call 131; go_must (refine (un H2 _).mono ?_; rintro e wn ⟨rfl, hb⟩; replace HS := hide (And.intro ((un HS).1.later hb) ((un HS).2.trans (hb.mono (un HS).2.size))); clear hb))
    | (go_at_call 179; go_must (refine (un HT _).mono ?_; rintro e wl ⟨rfl, hb⟩; have HL : Hid (T2 wl w.heap.size (.int .i64 0) (.int .i64 0) ∧ Below w.heap.size w wl) := ⟨(un HS).1.later hb, (un HS).2.trans (hb.mono (un HS).2.size)⟩; clear hb; have r0 := (un HL).1.c0; have r1 := (un HL).1.c1; have rf0 := (un HL).1.f0; have rf1 := (un HL).1.f1)))
  have hS := (un HL).1.store (.int .i64 10) (.int .i64 3)
  have hb := below_store2 (un HL).2 (Nat.le_refl _) (.int .i64 10) (.int .i64 3)
  have v0 := hS.c0; have v1 := hS.c1
  exact bodyPost_ret (v := .agg #[.int .i64 10, .int .i64 3]) (w := store2 wl w.heap.size (.int .i64 10) (.int .i64 3)) (by simp [results, Tryz.results133, go_sem, v0, v1]) rfl ⟨rfl, hb⟩
end Go.Proofs.YthcbhnggphdflaaGreatDoor.Pf

namespace Go.Proofs.YthcbhnggphdflaaGreatDoor.Pf
open Go.RowKit

theorem small_of_err {x : Rat} (h : errT x = 0) : Small x := by
  unfold errT at h
  by_cases hs : Small x
  · exact hs
  · rw [if_neg hs] at h; cases h
theorem one_lt (E : Nat) (h : E = 600) : (1 : Nat) < 10 ^ E := Nat.one_lt_pow (by omega) (by decide)
theorem texts_low {n d : Nat} {x : Rat} (h : Cub.Low false n d) (e : x = Cub.valQ false n d) (hn : n < 10 ^ 600) (hd : d < 10 ^ 600) : numT x = tb n ∧ denT x = tb d ∧ errT x = 0 := by
  subst e
  obtain ⟨e1, e2, e3⟩ := Cub.low_is h
  have hs : Small (Cub.valQ false n d) := ⟨by rw [← e2]; exact hn, by rw [← e3]; exact hd⟩
  unfold numT denT errT
  rw [if_pos hs, if_pos hs, if_pos hs, ← e1, ← e2, ← e3]
  exact ⟨rfl, rfl, rfl⟩
theorem fac_pos (N k : Nat) (j : Int) (hj : j = (k : Int)) (h : N ^ k < 10 ^ 600) : numT (Cub.pw (Cub.valQ false N 1) j) = tb (N ^ k) ∧ denT (Cub.pw (Cub.valQ false N 1) j) = tb 1 ∧ errT (Cub.pw (Cub.valQ false N 1) j) = 0 := by
  have hl : Cub.Low false N 1 := ⟨by decide, Nat.gcd_one_right _, fun h => by cases h⟩
  obtain ⟨h1, h2⟩ := Cub.pow_low hl k
  simp only [Bool.false_and, Nat.one_pow] at h1 h2
  refine texts_low h1 ?_ h (one_lt 600 rfl)
  unfold Cub.pw
  rw [hj, if_neg (by omega), Int.toNat_natCast, h2]
theorem bel_al {U W V : World} {O : Obj} (h : Below U.heap.size U W) (hb : Below (W.alloc O).heap.size (W.alloc O) V) : Below U.heap.size U V :=
  (h.alloc h.size O).trans (hb.mono (h.alloc h.size O).size)
theorem bel_alD {W V : World} {O : Obj} (hb : Below (W.alloc O).drew.heap.size (W.alloc O).drew V) : Below W.heap.size W V :=
  have h0 := (Below.refl W.heap.size W).alloc (Nat.le_refl _) O
  have h : Below W.heap.size W (W.alloc O).drew := h0.trans ((Below.refl _ _).drew.mono h0.size)
  h.trans (hb.mono h.size)
set_option maxRecDepth 100000 in
set_option maxHeartbeats 4000000 in
theorem factor_walk (N : Nat) (j : Int) (on od fn fd : ByteArray) (w : World)
    (hof : ∀ W, Below w.heap.size w W → Calls Tryz.prog 52 #[.int .i64 (N : Int)] W fun r w' => r = .returned (.agg #[.string on, .string od]) ∧ Below W.heap.size W w')
    (hpw : ∀ W, Below w.heap.size w W → Calls Tryz.prog 85 #[.agg #[.string on, .string od], .int .i64 j] W fun r w' => r = .returned (.tuple #[.agg #[.string fn, .string fd], .int .i64 0]) ∧ Below W.heap.size W w') :
    Calls Tryz.prog 163 #[.agg #[.int .i64 (N : Int), .int .i64 j]] w fun r w' => r = .returned (.agg #[.string fn, .string fd]) ∧ Below w.heap.size w w' := by
  obtain ⟨V, hV⟩ : ∃ V, V = (w.alloc (.cells #[.int .i64 (N : Int), .int .i64 j] 182)).alloc (.cells #[.string ⟨#[]⟩, .string ⟨#[]⟩] 28) := ⟨_, rfl⟩
  have HP : Hid (T2 V w.heap.size (.int .i64 (N : Int)) (.int .i64 j)) := by rw [hV]; exact ⟨by simp [go_sem], by simp [go_sem], by simp [go_sem], by simp [go_sem]⟩
  have HR : Hid (T2 V (w.heap.size + 1) (.string ⟨#[]⟩) (.string ⟨#[]⟩)) := by rw [hV]; exact ⟨by simp [go_sem], by simp [go_sem], by simp [go_sem], by simp [go_sem]⟩
  have HB : Hid (Below w.heap.size w V) := by rw [hV]; exact ((Below.refl _ _).alloc (Nat.le_refl _) _).alloc (by simp) _
  have HV := hide hV
  have HOF := hide hof; have HPW := hide hpw
  clear hof hpw
  go_enter Tryz.func163, Tryz.ntmps163
  go_upto_region 1 with fail
  rw [← un HV]
  clear hV HV
  have t0 := (un HP).c0; have t1 := (un HP).c1
  have HC0 : Hid (Below V.heap.size V V.drew) := (Below.refl _ _).drew
  have HUP : Hid (∀ W, Below V.heap.size V W → Below w.heap.size w W) := fun W h => (un HB).trans (h.mono (un HB).size)
  have HUA : Hid (∀ W O, Below V.heap.size V W → Below w.heap.size w (W.alloc O)) := fun W O h => (un HB).trans ((h.alloc h.size O).mono (un HB).size)
  have HUD : Hid (∀ O, Below w.heap.size w (V.alloc O).drew) := fun O => ((un HB).alloc (un HB).size O).drew
  have hv0 := (un HP).lt
  go_region_held3 (fun w' => w'.cell? ⟨w.heap.size, 0, none⟩ = some (.int .i64 (N : Int)) ∧ w'.cell? ⟨w.heap.size, 1, none⟩ = some (.int .i64 j)) (first | assumption | (simp [go_sem, *]; done)) ((first
    | (go_at_call 52; go_must (refine (un HOF _ (by first | exact un HUP _ (un HC0) | exact un HUA _ _ (un HC0) | exact un HUD _)).mono ?_; rintro e wa ⟨rfl, hb⟩; have HCwa : Hid (Below V.heap.size V wa) := (by first | exact (un HC0).trans (hb.mono (un HC0).size) | exact bel_al (un HC0) hb | exact bel_alD hb); (first | (have HZa := hide ((un HZ0).later hb); clear u0 u1 uf0 uf1; have u0 := (un HZa).c0; have u1 := (un HZa).c1; have uf0 := (un HZa).f0; have uf1 := (un HZa).f1) | (have HZa : Hid (T2 wa V.heap.size (.string ⟨#[]⟩) (.string ⟨#[]⟩)) := (by first | exact T2.past hb | exact T2.pastD hb); have u0 := (un HZa).c0; have u1 := (un HZa).c1; have uf0 := (un HZa).f0; have uf1 := (un HZa).f1) | skip); clear hb t0 t1; have t0 := ((un HP).later (un HCwa)).c0; have t1 := ((un HP).later (un HCwa)).c1; have hvwa := ((un HP).later (un HCwa)).lt))
    | (go_at_call 85; go_must (refine (un HPW _ (by first | exact un HUP _ (un HCwa) | exact un HUA _ _ (un HCwa) | exact un HUD _)).mono ?_; rintro e wb ⟨rfl, hb⟩; have HCwb : Hid (Below V.heap.size V wb) := (by first | exact (un HCwa).trans (hb.mono (un HCwa).size) | exact bel_al (un HCwa) hb | exact bel_alD hb); (first | (have HZb := hide ((un HZa).later hb); clear u0 u1 uf0 uf1; have u0 := (un HZb).c0; have u1 := (un HZb).c1; have uf0 := (un HZb).f0; have uf1 := (un HZb).f1) | (have HZb : Hid (T2 wb wa.heap.size (.string ⟨#[]⟩) (.string ⟨#[]⟩)) := (by first | exact T2.past hb | exact T2.pastD hb); have u0 := (un HZb).c0; have u1 := (un HZb).c1; have uf0 := (un HZb).f0; have uf1 := (un HZb).f1) | skip); clear hb t0 t1; have t0 := ((un HP).later (un HCwb)).c0; have t1 := ((un HP).later (un HCwb)).c1; have hvwb := ((un HP).later (un HCwb)).lt))))
  all_goals
    first
    | (obtain ⟨X, hX⟩ : ∃ X, X = wb.heap.size := ⟨_, rfl⟩
       obtain ⟨U, hU⟩ : ∃ U, U = wb.alloc (.cells #[.string fn, .string fd] 28) := ⟨_, rfl⟩
       have HF : Hid (T2 U X (.string fn) (.string fd) ∧ T2 U (w.heap.size + 1) (.string ⟨#[]⟩) (.string ⟨#[]⟩) ∧ Below w.heap.size w U) := by
         rw [hU, hX]
         exact ⟨⟨by simp [go_sem], by simp [go_sem], by simp [go_sem], by simp [go_sem]⟩, ((un HR).later (un HCwb)).later ((Below.refl _ _).alloc (Nat.le_refl _) _), un HUA _ _ (un HCwb)⟩
       rw [← hU, ← hX]
       clear hU hX)
    | (obtain ⟨X, hX⟩ : ∃ X, X = wa.heap.size := ⟨_, rfl⟩
       obtain ⟨U, hU⟩ : ∃ U, U = (wb.setCell { block := wa.heap.size, off := 0 } (.string fn)).setCell { block := wa.heap.size, off := 1 } (.string fd) := ⟨_, rfl⟩
       have HF : Hid (T2 U X (.string fn) (.string fd) ∧ T2 U (w.heap.size + 1) (.string ⟨#[]⟩) (.string ⟨#[]⟩) ∧ Below w.heap.size w U) := by
         rw [hU, hX]
         have h1 := ((un HR).later (un HCwa)).lt
         exact ⟨(un HZb).store _ _, ((un HR).later (un HCwb)).otherP wa.heap.size (by omega) _ _, below_store2 (un HUP _ (un HCwb)) (by omega) _ _⟩
       rw [← hU, ← hX]
       clear hU hX)
    | (obtain ⟨X, hX⟩ : ∃ X, X = V.heap.size := ⟨_, rfl⟩
       obtain ⟨U, hU⟩ : ∃ U, U = (wb.setCell { block := V.heap.size, off := 0 } (.string fn)).setCell { block := V.heap.size, off := 1 } (.string fd) := ⟨_, rfl⟩
       have HF : Hid (T2 U X (.string fn) (.string fd) ∧ T2 U (w.heap.size + 1) (.string ⟨#[]⟩) (.string ⟨#[]⟩) ∧ Below w.heap.size w U) := by
         rw [hU, hX]
         have h1 := (un HR).lt
         exact ⟨(un HZb).store _ _, ((un HR).later (un HCwb)).otherP V.heap.size (by omega) _ _, below_store2 (un HUP _ (un HCwb)) (by omega) _ _⟩
       rw [← hU, ← hX]
       clear hU hX)
  all_goals
    have x0 := (un HF).1.c0; have x1 := (un HF).1.c1
    have r0 := (un HF).2.1.c0; have r1 := (un HF).2.1.c1; have rf0 := (un HF).2.1.f0; have rf1 := (un HF).2.1.f1
    go_wp2_with fail
    have hS := (un HF).2.1.store (.string fn) (.string fd)
    have hb := below_store2 (un HF).2.2 (by omega) (.string fn) (.string fd) (g := w.heap.size + 1)
    have v0 := hS.c0; have v1 := hS.c1
    exact bodyPost_ret (v := .agg #[.string fn, .string fd]) (w := store2 U (w.heap.size + 1) (.string fn) (.string fd)) (by simp [results, Tryz.results163, go_sem, v0, v1]) rfl ⟨rfl, hb⟩
theorem factor_any (N : Nat) (j : Int) (fn fd : ByteArray) (w : World) (htab : Tab w) (hN : 0 < N) (hN2 : N < 100000) (hj1 : -4096 ≤ j) (hj2 : j ≤ 4096) (h : numT (Cub.pw (Cub.valQ false N 1) j) = fn ∧ denT (Cub.pw (Cub.valQ false N 1) j) = fd ∧ errT (Cub.pw (Cub.valQ false N 1) j) = 0) :
    Calls Tryz.prog 163 #[.agg #[.int .i64 (N : Int), .int .i64 j]] w fun r w' => r = .returned (.agg #[.string fn, .string fd]) ∧ Below w.heap.size w w' := by
  have hs : N < 10 ^ 600 := u64_600 N (by omega)
  have hl : Cub.Low false N 1 := ⟨by decide, Nat.gcd_one_right _, fun h => by cases h⟩
  obtain ⟨e1, e2, e3⟩ := Cub.low_is hl
  have hsm : Small (Cub.valQ false N 1) := ⟨by rw [← e2]; exact hs, by rw [← e3]; exact one_lt 600 rfl⟩
  have hR : IsR (sT false N) ⟨#[49]⟩ (Cub.valQ false N 1) := by
    refine ⟨hsm, ?_, ?_⟩
    · unfold numT; rw [if_pos hsm, ← e1, ← e2]
    · unfold denT; rw [if_pos hsm, ← e3]; exact (lit_tb ⟨#[49]⟩ 1 (by decide) (by decide)).1
  have hx0 : Cub.valQ false N 1 ≠ 0 := fun e => by
    rw [e] at e2
    have : N = 0 := e2
    omega
  refine factor_walk N j (sT false N) ⟨#[49]⟩ fn fd w (fun W hb => ratOf_pos N W (by omega) (htab.later hb)) (fun W hb => ?_)
  have hp := rpow_ok (sT false N) ⟨#[49]⟩ (Cub.valQ false N 1) j W hR hj1 hj2 hx0 (small_of_err h.2.2) (htab.later hb)
  unfold Ans at hp
  rw [h.1, h.2.1, h.2.2] at hp
  exact hp
end Go.Proofs.YthcbhnggphdflaaGreatDoor.Pf

/- Texts that stand in the program. -/
import Derived.Test.YtbjafaojcaafmaaGreatDoorDimOps
import Derived.Test.YtbjafaojcaafmaaGreatDoorGram
import Derived.Deep.RegionHeld3
import Derived.Test.YtbjafaojcaafmaaGreatDoorShelf
namespace Go.Proofs.YtbjafaojcaafmaaGreatDoor
open Go.RowKit
theorem T2.past {W V : World} {x y : Value} (h : Below (W.alloc (.cells #[x, y] 28)).heap.size (W.alloc (.cells #[x, y] 28)) V) : T2 V W.heap.size x y :=
  (show T2 (W.alloc (.cells #[x, y] 28)) W.heap.size x y from ⟨by simp [go_sem], by simp [go_sem], by simp [go_sem], by simp [go_sem]⟩).later h
theorem T2.pastD {W V : World} {x y : Value} (h : Below (W.alloc (.cells #[x, y] 28)).drew.heap.size (W.alloc (.cells #[x, y] 28)).drew V) : T2 V W.heap.size x y :=
  ((show T2 (W.alloc (.cells #[x, y] 28)) W.heap.size x y from ⟨by simp [go_sem], by simp [go_sem], by simp [go_sem], by simp [go_sem]⟩).later ((Below.refl _ _).drew)).later h
theorem T2.otherP {W : World} {g : Nat} {x y : Value} (h : T2 W g x y) (k : Nat) (hp : k ≠ g) (u v : Value) : T2 (store2 W k u v) g x y := by
  unfold store2
  have e : ∀ (W : World) (o : Nat) (u : Value), T2 W g x y → T2 (W.setCell ⟨k, o, none⟩ u) g x y := fun W o u h =>
    ⟨by rw [World.cell?_setCell_other _ _ _ _ (by intro e; cases e; exact hp rfl)]; exact h.c0, by rw [World.cell?_setCell_other _ _ _ _ (by intro e; cases e; exact hp rfl)]; exact h.c1, by rw [World.frozen?_setCell]; exact h.f0, by rw [World.frozen?_setCell]; exact h.f1⟩
  exact e _ _ _ (e _ _ _ h)
set_option maxRecDepth 100000 in
set_option maxHeartbeats 4000000 in
theorem factor_walk (a0 a1 a2 a3 a4 a5 a6 a7 n d : Int) (an ad bn bd fn fd : ByteArray) (w : World)
    (hoa : ∀ W, Below w.heap.size w W → Calls Tryz.prog 29 #[.int .i64 n] W fun r w' => r = .returned (.agg #[.string an, .string ad]) ∧ Below W.heap.size W w')
    (hob : ∀ W, Below w.heap.size w W → Calls Tryz.prog 29 #[.int .i64 d] W fun r w' => r = .returned (.agg #[.string bn, .string bd]) ∧ Below W.heap.size W w')
    (hqu : ∀ W, Below w.heap.size w W → Calls Tryz.prog 41 #[.agg #[.string an, .string ad], .agg #[.string bn, .string bd]] W fun r w' => r = .returned (.tuple #[.agg #[.string fn, .string fd], .int .i64 0]) ∧ Below W.heap.size W w') :
    Calls Tryz.prog 28 #[.agg #[.int .i64 a0, .int .i64 a1, .int .i64 a2, .int .i64 a3, .int .i64 a4, .int .i64 a5, .int .i64 a6, .int .i64 a7, .int .i64 n, .int .i64 d]] w fun r w' => r = .returned (.agg #[.string fn, .string fd]) ∧ Below w.heap.size w w' := by
  obtain ⟨V, hV⟩ : ∃ V, V = (w.alloc (.cells #[.int .i64 a0, .int .i64 a1, .int .i64 a2, .int .i64 a3, .int .i64 a4, .int .i64 a5, .int .i64 a6, .int .i64 a7, .int .i64 n, .int .i64 d] 57)).alloc (.cells #[.string ⟨#[]⟩, .string ⟨#[]⟩] 28) := ⟨_, rfl⟩
  have HP : Hid (UB V w.heap.size #[.int .i64 a0, .int .i64 a1, .int .i64 a2, .int .i64 a3, .int .i64 a4, .int .i64 a5, .int .i64 a6, .int .i64 a7, .int .i64 n, .int .i64 d]) := by rw [hV]; exact ((OwnU.new w #[.int .i64 a0, .int .i64 a1, .int .i64 a2, .int .i64 a3, .int .i64 a4, .int .i64 a5, .int .i64 a6, .int .i64 a7, .int .i64 n, .int .i64 d] 57).alloc _).ub
  have HR : Hid (T2 V (w.heap.size + 1) (.string ⟨#[]⟩) (.string ⟨#[]⟩)) := by rw [hV]; exact ⟨by simp [go_sem], by simp [go_sem], by simp [go_sem], by simp [go_sem]⟩
  have HB : Hid (Below w.heap.size w V) := by rw [hV]; exact ((Below.refl _ _).alloc (Nat.le_refl _) _).alloc (by simp) _
  have HV := hide hV
  have HOA := hide hoa; have HOB := hide hob; have HQU := hide hqu
  clear hoa hob hqu
  go_enter Tryz.func28, Tryz.ntmps28
  go_upto_region 1 with fail
  rw [← unhide HV]
  clear hV HV
  have t0 : V.cell? ⟨w.heap.size, 8, none⟩ = some (.int .i64 n) := (unhide HP).c 8 _ rfl
  have t1 : V.cell? ⟨w.heap.size, 9, none⟩ = some (.int .i64 d) := (unhide HP).c 9 _ rfl
  have HC0 : Hid (Below V.heap.size V V.drew) := (Below.refl _ _).drew
  have HUP : Hid (∀ W, Below V.heap.size V W → Below w.heap.size w W) := fun W h => (unhide HB).trans (h.mono (unhide HB).size)
  have HUA : Hid (∀ W O, Below V.heap.size V W → Below w.heap.size w (W.alloc O)) := fun W O h => (unhide HB).trans ((h.alloc h.size O).mono (unhide HB).size)
  have HUD : Hid (∀ O, Below w.heap.size w (V.alloc O).drew) := fun O => ((unhide HB).alloc (unhide HB).size O).drew
  have hv0 := (unhide HP).lt
  go_region_held3 (fun w' => w'.cell? ⟨w.heap.size, 8, none⟩ = some (.int .i64 n) ∧ w'.cell? ⟨w.heap.size, 9, none⟩ = some (.int .i64 d)) (first | assumption | (simp [go_sem, *]; done)) ((first
    | (go_at_call_of 29 n; go_must (refine (unhide HOA _ (by first | exact unhide HUP _ (unhide HC0) | exact unhide HUA _ _ (unhide HC0) | exact unhide HUD _)).mono ?_; rintro e wa ⟨rfl, hb⟩; have HCwa : Hid (Below V.heap.size V wa) := (by first | exact (unhide HC0).trans (hb.mono (unhide HC0).size) | exact bel_al (unhide HC0) hb | exact bel_alD hb); (first | (have HZwa := hide ((unhide HZ0).later hb); clear u0 u1 uf0 uf1; have u0 := (unhide HZwa).c0; have u1 := (unhide HZwa).c1; have uf0 := (unhide HZwa).f0; have uf1 := (unhide HZwa).f1) | (have HZwa : Hid (T2 wa V.heap.size (.string ⟨#[]⟩) (.string ⟨#[]⟩)) := (by first | exact T2.past hb | exact T2.pastD hb); have u0 := (unhide HZwa).c0; have u1 := (unhide HZwa).c1; have uf0 := (unhide HZwa).f0; have uf1 := (unhide HZwa).f1) | skip); clear hb t0 t1; have t0 : wa.cell? ⟨w.heap.size, 8, none⟩ = some (.int .i64 n) := ((unhide HP).later (unhide HCwa)).c 8 _ rfl; have t1 : wa.cell? ⟨w.heap.size, 9, none⟩ = some (.int .i64 d) := ((unhide HP).later (unhide HCwa)).c 9 _ rfl; have hvwa := ((unhide HP).later (unhide HCwa)).lt))
    | (go_at_call_of 29 d; go_must (refine (unhide HOB _ (by first | exact unhide HUP _ (unhide HCwa) | exact unhide HUA _ _ (unhide HCwa) | exact unhide HUD _)).mono ?_; rintro e wb ⟨rfl, hb⟩; have HCwb : Hid (Below V.heap.size V wb) := (by first | exact (unhide HCwa).trans (hb.mono (unhide HCwa).size) | exact bel_al (unhide HCwa) hb | exact bel_alD hb); (first | (have HZwb := hide ((unhide HZwa).later hb); clear u0 u1 uf0 uf1; have u0 := (unhide HZwb).c0; have u1 := (unhide HZwb).c1; have uf0 := (unhide HZwb).f0; have uf1 := (unhide HZwb).f1) | (have HZwb : Hid (T2 wb wa.heap.size (.string ⟨#[]⟩) (.string ⟨#[]⟩)) := (by first | exact T2.past hb | exact T2.pastD hb); have u0 := (unhide HZwb).c0; have u1 := (unhide HZwb).c1; have uf0 := (unhide HZwb).f0; have uf1 := (unhide HZwb).f1) | skip); clear hb t0 t1; have t0 : wb.cell? ⟨w.heap.size, 8, none⟩ = some (.int .i64 n) := ((unhide HP).later (unhide HCwb)).c 8 _ rfl; have t1 : wb.cell? ⟨w.heap.size, 9, none⟩ = some (.int .i64 d) := ((unhide HP).later (unhide HCwb)).c 9 _ rfl; have hvwb := ((unhide HP).later (unhide HCwb)).lt))
    | (go_at_call 41; go_must (refine (unhide HQU _ (by first | exact unhide HUP _ (unhide HCwb) | exact unhide HUA _ _ (unhide HCwb) | exact unhide HUD _)).mono ?_; rintro e wc ⟨rfl, hb⟩; have HCwc : Hid (Below V.heap.size V wc) := (by first | exact (unhide HCwb).trans (hb.mono (unhide HCwb).size) | exact bel_al (unhide HCwb) hb | exact bel_alD hb); (first | (have HZwc := hide ((unhide HZwb).later hb); clear u0 u1 uf0 uf1; have u0 := (unhide HZwc).c0; have u1 := (unhide HZwc).c1; have uf0 := (unhide HZwc).f0; have uf1 := (unhide HZwc).f1) | (have HZwc : Hid (T2 wc wb.heap.size (.string ⟨#[]⟩) (.string ⟨#[]⟩)) := (by first | exact T2.past hb | exact T2.pastD hb); have u0 := (unhide HZwc).c0; have u1 := (unhide HZwc).c1; have uf0 := (unhide HZwc).f0; have uf1 := (unhide HZwc).f1) | skip); clear hb t0 t1; have t0 : wc.cell? ⟨w.heap.size, 8, none⟩ = some (.int .i64 n) := ((unhide HP).later (unhide HCwc)).c 8 _ rfl; have t1 : wc.cell? ⟨w.heap.size, 9, none⟩ = some (.int .i64 d) := ((unhide HP).later (unhide HCwc)).c 9 _ rfl; have hvwc := ((unhide HP).later (unhide HCwc)).lt))))
  all_goals
    first
    | (obtain ⟨X, hX⟩ : ∃ X, X = wc.heap.size := ⟨_, rfl⟩
       obtain ⟨U, hU⟩ : ∃ U, U = wc.alloc (.cells #[.string fn, .string fd] 28) := ⟨_, rfl⟩
       have HF : Hid (T2 U X (.string fn) (.string fd) ∧ T2 U (w.heap.size + 1) (.string ⟨#[]⟩) (.string ⟨#[]⟩) ∧ Below w.heap.size w U) := by
         rw [hU, hX]
         exact ⟨⟨by simp [go_sem], by simp [go_sem], by simp [go_sem], by simp [go_sem]⟩, ((unhide HR).later (unhide HCwc)).later ((Below.refl _ _).alloc (Nat.le_refl _) _), unhide HUA _ _ (unhide HCwc)⟩
       rw [← hU, ← hX]
       clear hU hX)
    | (obtain ⟨X, hX⟩ : ∃ X, X = wb.heap.size := ⟨_, rfl⟩
       obtain ⟨U, hU⟩ : ∃ U, U = (wc.setCell { block := wb.heap.size, off := 0 } (.string fn)).setCell { block := wb.heap.size, off := 1 } (.string fd) := ⟨_, rfl⟩
       have HF : Hid (T2 U X (.string fn) (.string fd) ∧ T2 U (w.heap.size + 1) (.string ⟨#[]⟩) (.string ⟨#[]⟩) ∧ Below w.heap.size w U) := by
         rw [hU, hX]
         have h1 := ((unhide HR).later (unhide HCwb)).lt
         exact ⟨(unhide HZwc).store _ _, ((unhide HR).later (unhide HCwc)).otherP wb.heap.size (by omega) _ _, below_store2 (unhide HUP _ (unhide HCwc)) (by omega) _ _⟩
       rw [← hU, ← hX]
       clear hU hX)
    | (obtain ⟨X, hX⟩ : ∃ X, X = wa.heap.size := ⟨_, rfl⟩
       obtain ⟨U, hU⟩ : ∃ U, U = (wc.setCell { block := wa.heap.size, off := 0 } (.string fn)).setCell { block := wa.heap.size, off := 1 } (.string fd) := ⟨_, rfl⟩
       have HF : Hid (T2 U X (.string fn) (.string fd) ∧ T2 U (w.heap.size + 1) (.string ⟨#[]⟩) (.string ⟨#[]⟩) ∧ Below w.heap.size w U) := by
         rw [hU, hX]
         have h1 := ((unhide HR).later (unhide HCwa)).lt
         exact ⟨(unhide HZwc).store _ _, ((unhide HR).later (unhide HCwc)).otherP wa.heap.size (by omega) _ _, below_store2 (unhide HUP _ (unhide HCwc)) (by omega) _ _⟩
       rw [← hU, ← hX]
       clear hU hX)
    | (obtain ⟨X, hX⟩ : ∃ X, X = V.heap.size := ⟨_, rfl⟩
       obtain ⟨U, hU⟩ : ∃ U, U = (wc.setCell { block := V.heap.size, off := 0 } (.string fn)).setCell { block := V.heap.size, off := 1 } (.string fd) := ⟨_, rfl⟩
       have HF : Hid (T2 U X (.string fn) (.string fd) ∧ T2 U (w.heap.size + 1) (.string ⟨#[]⟩) (.string ⟨#[]⟩) ∧ Below w.heap.size w U) := by
         rw [hU, hX]
         have h1 := (unhide HR).lt
         exact ⟨(unhide HZwc).store _ _, ((unhide HR).later (unhide HCwc)).otherP V.heap.size (by omega) _ _, below_store2 (unhide HUP _ (unhide HCwc)) (by omega) _ _⟩
       rw [← hU, ← hX]
       clear hU hX)
  all_goals
    have x0 := (unhide HF).1.c0; have x1 := (unhide HF).1.c1
    have r0 := (unhide HF).2.1.c0; have r1 := (unhide HF).2.1.c1; have rf0 := (unhide HF).2.1.f0; have rf1 := (unhide HF).2.1.f1
    go_wp2_with fail
    have hS := (unhide HF).2.1.store (.string fn) (.string fd)
    have hb := below_store2 (unhide HF).2.2 (by omega) (.string fn) (.string fd) (g := w.heap.size + 1)
    have v0 := hS.c0; have v1 := hS.c1
    exact bodyPost_ret (v := .agg #[.string fn, .string fd]) (w := store2 U (w.heap.size + 1) (.string fn) (.string fd)) (by simp [results, Tryz.results28, go_sem, v0, v1]) rfl ⟨rfl, hb⟩
end Go.Proofs.YtbjafaojcaafmaaGreatDoor

namespace Go.Proofs.YtbjafaojcaafmaaGreatDoor
open Go.RowKit
theorem lit_tb (s : ByteArray) (n : Nat) (h : Cub.rightB s.data.toList = true) (hv : Cub.dval s.data.toList = n) : s = tb n ∧ n < 10 ^ 600 := by
  obtain ⟨m, hm, rfl⟩ := tb_of h
  have := (tb_right m hm).2
  have e : m = n := this.symm.trans hv
  subst e
  exact ⟨rfl, hm⟩
end Go.Proofs.YtbjafaojcaafmaaGreatDoor

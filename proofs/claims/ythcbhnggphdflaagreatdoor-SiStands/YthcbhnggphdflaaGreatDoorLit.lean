/- Texts that stand in the program. -/
import Derived.Test.YthcbhnggphdflaaGreatDoorLimb2
import Derived.Test.YthcbhnggphdflaaGreatDoorDimOps
import Derived.Test.YthcbhnggphdflaaGreatDoorGram
import Derived.Deep.RegionHeld3
import Derived.Test.YthcbhnggphdflaaGreatDoorShelf
namespace Go.Proofs.YthcbhnggphdflaaGreatDoor
open Go.RowKit
theorem T2.past {W V : World} {x y : Value} (h : Below (W.alloc (.cells #[x, y] 28)).heap.size (W.alloc (.cells #[x, y] 28)) V) : T2 V W.heap.size x y :=
  (show T2 (W.alloc (.cells #[x, y] 28)) W.heap.size x y from ⟨by simp [go_sem], by simp [go_sem], by simp [go_sem], by simp [go_sem]⟩).later h
theorem T2.pastD {W V : World} {x y : Value} (h : Below (W.alloc (.cells #[x, y] 28)).drew.heap.size (W.alloc (.cells #[x, y] 28)).drew V) : T2 V W.heap.size x y :=
  ((show T2 (W.alloc (.cells #[x, y] 28)) W.heap.size x y from ⟨by simp [go_sem], by simp [go_sem], by simp [go_sem], by simp [go_sem]⟩).later ((Below.refl _ _).drew)).later h
theorem T2.otherP {W : World} {g : Nat} {x y : Value} (h : T2 W g x y) (k : Nat) (hp : k ≠ g) (u v : Value) : T2 (store2 W k u v) g x y := by
  unfold store2
  have e : ∀ (W : World) (o : Nat) (u : Value), T2 W g x y → T2 (W.setCell ⟨k, o, none⟩ u) g x y := fun W o u h =>
    ⟨by rw [World.cell?_setCell_other _ _ _ _ (by intro e; cases e; exact hp rfl)]; exact h.c0, by rw [World.cell?_setCell_other _ _ _ _ (by intro e; cases e; exact hp rfl)]; exact h.c1, by rw [World.frozen?_setCell]; exact h.f0, by rw [World.frozen?_setCell]; exact h.f1⟩
  exact e _ _ _ (e _ _ _ h)
set_option maxRecDepth 100000 in
set_option maxHeartbeats 4000000 in
theorem factor_walk (a0 a1 a2 a3 a4 a5 a6 a7 n d : Int) (an ad bn bd fn fd : ByteArray) (w : World)
    (hoa : ∀ W, Below w.heap.size w W → Calls Tryz.prog 52 #[I n] W fun r w' => r = .returned (.agg #[.string an, .string ad]) ∧ Below W.heap.size W w')
    (hob : ∀ W, Below w.heap.size w W → Calls Tryz.prog 52 #[I d] W fun r w' => r = .returned (.agg #[.string bn, .string bd]) ∧ Below W.heap.size W w')
    (hqu : ∀ W, Below w.heap.size w W → Calls Tryz.prog 38 #[.agg #[.string an, .string ad], .agg #[.string bn, .string bd]] W fun r w' => r = .returned (.tuple #[.agg #[.string fn, .string fd], I 0]) ∧ Below W.heap.size W w') :
    Calls Tryz.prog 63 #[.agg #[I a0, I a1, I a2, I a3, I a4, I a5, I a6, I a7, I n, I d]] w fun r w' => r = .returned (.agg #[.string fn, .string fd]) ∧ Below w.heap.size w w' := by
  obtain ⟨V, hV⟩ : ∃ V, V = (w.alloc (.cells #[I a0, I a1, I a2, I a3, I a4, I a5, I a6, I a7, I n, I d] 112)).alloc (.cells #[.string ⟨#[]⟩, .string ⟨#[]⟩] 28) := ⟨_, rfl⟩
  have HP : Hid (UB V w.heap.size #[I a0, I a1, I a2, I a3, I a4, I a5, I a6, I a7, I n, I d]) := by rw [hV]; exact ((OwnU.new w #[I a0, I a1, I a2, I a3, I a4, I a5, I a6, I a7, I n, I d] 112).alloc _).ub
  have HR : Hid (T2 V (w.heap.size + 1) (.string ⟨#[]⟩) (.string ⟨#[]⟩)) := by rw [hV]; exact ⟨by simp [go_sem], by simp [go_sem], by simp [go_sem], by simp [go_sem]⟩
  have HB : Hid (Below w.heap.size w V) := by rw [hV]; exact ((Below.refl _ _).alloc (Nat.le_refl _) _).alloc (by simp) _
  have HV := hide hV
  have HOA := hide hoa; have HOB := hide hob; have HQU := hide hqu
  clear hoa hob hqu
  go_enter Tryz.func63, Tryz.ntmps63
  go_upto_region 1 with fail
  rw [← un HV]
  clear hV HV
  have t0 : V.cell? ⟨w.heap.size, 8, none⟩ = some (I n) := (un HP).c 8 _ rfl
  have t1 : V.cell? ⟨w.heap.size, 9, none⟩ = some (I d) := (un HP).c 9 _ rfl
  have HC0 : Hid (Below V.heap.size V V.drew) := (Below.refl _ _).drew
  have HUP : Hid (∀ W, Below V.heap.size V W → Below w.heap.size w W) := fun W h => (un HB).trans (h.mono (un HB).size)
  have HUA : Hid (∀ W O, Below V.heap.size V W → Below w.heap.size w (W.alloc O)) := fun W O h => (un HB).trans ((h.alloc h.size O).mono (un HB).size)
  have HUD : Hid (∀ O, Below w.heap.size w (V.alloc O).drew) := fun O => ((un HB).alloc (un HB).size O).drew
  have hv0 := (un HP).lt
  go_region_held3 (fun w' => w'.cell? ⟨w.heap.size, 8, none⟩ = some (I n) ∧ w'.cell? ⟨w.heap.size, 9, none⟩ = some (I d)) (first | assumption | (simp [go_sem, *]; done)) ((first
    | (go_at_call_of 52 n; go_must (refine (un HOA _ (by first | exact un HUP _ (un HC0) | exact un HUA _ _ (un HC0) | exact un HUD _)).mono ?_; rintro e wa ⟨rfl, hb⟩; have HCwa : Hid (Below V.heap.size V wa) := (by first | exact (un HC0).trans (hb.mono (un HC0).size) | exact bel_al (un HC0) hb | exact bel_alD hb); (first | (have HZwa := hide ((un HZ0).later hb); clear u0 u1 uf0 uf1; have u0 := (un HZwa).c0; have u1 := (un HZwa).c1; have uf0 := (un HZwa).f0; have uf1 := (un HZwa).f1) | (have HZwa : Hid (T2 wa V.heap.size (.string ⟨#[]⟩) (.string ⟨#[]⟩)) := (by first | exact T2.past hb | exact T2.pastD hb); have u0 := (un HZwa).c0; have u1 := (un HZwa).c1; have uf0 := (un HZwa).f0; have uf1 := (un HZwa).f1) | skip); clear hb t0 t1; have t0 : wa.cell? ⟨w.heap.size, 8, none⟩ = some (I n) := ((un HP).later (un HCwa)).c 8 _ rfl; have t1 : wa.cell? ⟨w.heap.size, 9, none⟩ = some (I d) := ((un HP).later (un HCwa)).c 9 _ rfl; have hvwa := ((un HP).later (un HCwa)).lt))
    | (go_at_call_of 52 d; go_must (refine (un HOB _ (by first | exact un HUP _ (un HCwa) | exact un HUA _ _ (un HCwa) | exact un HUD _)).mono ?_; rintro e wb ⟨rfl, hb⟩; have HCwb : Hid (Below V.heap.size V wb) := (by first | exact (un HCwa).trans (hb.mono (un HCwa).size) | exact bel_al (un HCwa) hb | exact bel_alD hb); (first | (have HZwb := hide ((un HZwa).later hb); clear u0 u1 uf0 uf1; have u0 := (un HZwb).c0; have u1 := (un HZwb).c1; have uf0 := (un HZwb).f0; have uf1 := (un HZwb).f1) | (have HZwb : Hid (T2 wb wa.heap.size (.string ⟨#[]⟩) (.string ⟨#[]⟩)) := (by first | exact T2.past hb | exact T2.pastD hb); have u0 := (un HZwb).c0; have u1 := (un HZwb).c1; have uf0 := (un HZwb).f0; have uf1 := (un HZwb).f1) | skip); clear hb t0 t1; have t0 : wb.cell? ⟨w.heap.size, 8, none⟩ = some (I n) := ((un HP).later (un HCwb)).c 8 _ rfl; have t1 : wb.cell? ⟨w.heap.size, 9, none⟩ = some (I d) := ((un HP).later (un HCwb)).c 9 _ rfl; have hvwb := ((un HP).later (un HCwb)).lt))
    | (go_at_call 38; go_must (refine (un HQU _ (by first | exact un HUP _ (un HCwb) | exact un HUA _ _ (un HCwb) | exact un HUD _)).mono ?_; rintro e wc ⟨rfl, hb⟩; have HCwc : Hid (Below V.heap.size V wc) := (by first | exact (un HCwb).trans (hb.mono (un HCwb).size) | exact bel_al (un HCwb) hb | exact bel_alD hb); (first | (have HZwc := hide ((un HZwb).later hb); clear u0 u1 uf0 uf1; have u0 := (un HZwc).c0; have u1 := (un HZwc).c1; have uf0 := (un HZwc).f0; have uf1 := (un HZwc).f1) | (have HZwc : Hid (T2 wc wb.heap.size (.string ⟨#[]⟩) (.string ⟨#[]⟩)) := (by first | exact T2.past hb | exact T2.pastD hb); have u0 := (un HZwc).c0; have u1 := (un HZwc).c1; have uf0 := (un HZwc).f0; have uf1 := (un HZwc).f1) | skip); clear hb t0 t1; have t0 : wc.cell? ⟨w.heap.size, 8, none⟩ = some (I n) := ((un HP).later (un HCwc)).c 8 _ rfl; have t1 : wc.cell? ⟨w.heap.size, 9, none⟩ = some (I d) := ((un HP).later (un HCwc)).c 9 _ rfl; have hvwc := ((un HP).later (un HCwc)).lt))))
  all_goals
    first
    | (obtain ⟨X, hX⟩ : ∃ X, X = wc.heap.size := ⟨_, rfl⟩
       obtain ⟨U, hU⟩ : ∃ U, U = wc.alloc (.cells #[.string fn, .string fd] 28) := ⟨_, rfl⟩
       have HF : Hid (T2 U X (.string fn) (.string fd) ∧ T2 U (w.heap.size + 1) (.string ⟨#[]⟩) (.string ⟨#[]⟩) ∧ Below w.heap.size w U) := by
         rw [hU, hX]
         exact ⟨⟨by simp [go_sem], by simp [go_sem], by simp [go_sem], by simp [go_sem]⟩, ((un HR).later (un HCwc)).later ((Below.refl _ _).alloc (Nat.le_refl _) _), un HUA _ _ (un HCwc)⟩
       rw [← hU, ← hX]
       clear hU hX)
    | (obtain ⟨X, hX⟩ : ∃ X, X = wb.heap.size := ⟨_, rfl⟩
       obtain ⟨U, hU⟩ : ∃ U, U = (wc.setCell { block := wb.heap.size, off := 0 } (.string fn)).setCell { block := wb.heap.size, off := 1 } (.string fd) := ⟨_, rfl⟩
       have HF : Hid (T2 U X (.string fn) (.string fd) ∧ T2 U (w.heap.size + 1) (.string ⟨#[]⟩) (.string ⟨#[]⟩) ∧ Below w.heap.size w U) := by
         rw [hU, hX]
         have h1 := ((un HR).later (un HCwb)).lt
         exact ⟨(un HZwc).store _ _, ((un HR).later (un HCwc)).otherP wb.heap.size (by omega) _ _, below_store2 (un HUP _ (un HCwc)) (by omega) _ _⟩
       rw [← hU, ← hX]
       clear hU hX)
    | (obtain ⟨X, hX⟩ : ∃ X, X = wa.heap.size := ⟨_, rfl⟩
       obtain ⟨U, hU⟩ : ∃ U, U = (wc.setCell { block := wa.heap.size, off := 0 } (.string fn)).setCell { block := wa.heap.size, off := 1 } (.string fd) := ⟨_, rfl⟩
       have HF : Hid (T2 U X (.string fn) (.string fd) ∧ T2 U (w.heap.size + 1) (.string ⟨#[]⟩) (.string ⟨#[]⟩) ∧ Below w.heap.size w U) := by
         rw [hU, hX]
         have h1 := ((un HR).later (un HCwa)).lt
         exact ⟨(un HZwc).store _ _, ((un HR).later (un HCwc)).otherP wa.heap.size (by omega) _ _, below_store2 (un HUP _ (un HCwc)) (by omega) _ _⟩
       rw [← hU, ← hX]
       clear hU hX)
    | (obtain ⟨X, hX⟩ : ∃ X, X = V.heap.size := ⟨_, rfl⟩
       obtain ⟨U, hU⟩ : ∃ U, U = (wc.setCell { block := V.heap.size, off := 0 } (.string fn)).setCell { block := V.heap.size, off := 1 } (.string fd) := ⟨_, rfl⟩
       have HF : Hid (T2 U X (.string fn) (.string fd) ∧ T2 U (w.heap.size + 1) (.string ⟨#[]⟩) (.string ⟨#[]⟩) ∧ Below w.heap.size w U) := by
         rw [hU, hX]
         have h1 := (un HR).lt
         exact ⟨(un HZwc).store _ _, ((un HR).later (un HCwc)).otherP V.heap.size (by omega) _ _, below_store2 (un HUP _ (un HCwc)) (by omega) _ _⟩
       rw [← hU, ← hX]
       clear hU hX)
  all_goals
    have x0 := (un HF).1.c0; have x1 := (un HF).1.c1
    have r0 := (un HF).2.1.c0; have r1 := (un HF).2.1.c1; have rf0 := (un HF).2.1.f0; have rf1 := (un HF).2.1.f1
    go_wp2_with fail
    have hS := (un HF).2.1.store (.string fn) (.string fd)
    have hb := below_store2 (un HF).2.2 (by omega) (.string fn) (.string fd) (g := w.heap.size + 1)
    have v0 := hS.c0; have v1 := hS.c1
    exact bodyPost_ret (v := .agg #[.string fn, .string fd]) (w := store2 U (w.heap.size + 1) (.string fn) (.string fd)) (by simp [results, Tryz.results63, go_sem, v0, v1]) rfl ⟨rfl, hb⟩
end Go.Proofs.YthcbhnggphdflaaGreatDoor

namespace Go.Proofs.YthcbhnggphdflaaGreatDoor
open Go.RowKit
theorem lit_tb (s : ByteArray) (n : Nat) (h : Cub.rightB s.data.toList = true) (hv : Cub.dval s.data.toList = n) : s = tb n ∧ n < 10 ^ 600 := by
 obtain ⟨m, hm, rfl⟩ := tb_of h
 have := (tb_right m hm).2
 have e : m = n := this.symm.trans hv
 subst e
 exact ⟨rfl, hm⟩
end Go.Proofs.YthcbhnggphdflaaGreatDoor

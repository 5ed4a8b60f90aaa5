/- number.told (140). -/
import Derived.Test.YtliadckofhblnaaGreatDoorLimb3
import Derived.Test.YtliadckofhblnaaGreatDoorNt5
import Derived.Test.YtliadckofhblnaaGreatDoorLast
namespace Go.Proofs.YtliadckofhblnaaGreatDoor.Nt
open Go.RowKit
set_option maxRecDepth 100000 in
set_option maxHeartbeats 4000000 in
theorem numTold (n d tn : Int) (an ad bn bd qn qd on od pn pd fn fd : ByteArray) (w : World)
    (hoa : ∀ W, Below w.heap.size w W → Calls Tryz.prog 103 #[I n] W fun r w' => r = .returned (.agg #[.string an, .string ad]) ∧ Below W.heap.size W w')
    (hob : ∀ W, Below w.heap.size w W → Calls Tryz.prog 103 #[I d] W fun r w' => r = .returned (.agg #[.string bn, .string bd]) ∧ Below W.heap.size W w')
    (hqu : ∀ W, Below w.heap.size w W → Calls Tryz.prog 31 #[.agg #[.string an, .string ad], .agg #[.string bn, .string bd]] W fun r w' => r = .returned (.tuple #[.agg #[.string qn, .string qd], I 0]) ∧ Below W.heap.size W w')
    (hot : ∀ W, Below w.heap.size w W → Calls Tryz.prog 103 #[I 10] W fun r w' => r = .returned (.agg #[.string on, .string od]) ∧ Below W.heap.size W w')
    (hpo : ∀ W, Below w.heap.size w W → Calls Tryz.prog 176 #[.agg #[.string on, .string od], I tn] W fun r w' => r = .returned (.tuple #[.agg #[.string pn, .string pd], I 0]) ∧ Below W.heap.size W w')
    (hmu : ∀ W, Below w.heap.size w W → Calls Tryz.prog 28 #[.agg #[.string qn, .string qd], .agg #[.string pn, .string pd]] W fun r w' => r = .returned (.tuple #[.agg #[.string fn, .string fd], I 0]) ∧ Below W.heap.size W w') :
    Calls Tryz.prog 140 #[.agg #[I n, I d, I tn]] w fun r w' => r = .returned (.agg #[.string fn, .string fd]) ∧ Below w.heap.size w w' := by
  obtain ⟨V, hV⟩ : ∃ V, V = (w.alloc (.cells #[I n, I d, I tn] 153)).alloc (.cells #[.string ⟨#[]⟩, .string ⟨#[]⟩] 28) := ⟨_, rfl⟩
  have HP : Hid (OwnU V w.heap.size 153 #[I n, I d, I tn]) := by rw [hV]; exact (OwnU.new _ _ _).alloc _
  have HR : Hid (T2 V (w.heap.size + 1) (.string ⟨#[]⟩) (.string ⟨#[]⟩)) := by rw [hV]; exact ⟨by simp [go_sem], by simp [go_sem], by simp [go_sem], by simp [go_sem]⟩
  have HB : Hid (Below w.heap.size w V) := by rw [hV]; exact ((Below.refl _ _).alloc (Nat.le_refl _) _).alloc (by simp) _
  have HV := hide hV
  have HOA := hide hoa; have HOB := hide hob; have HQU := hide hqu; have HOT := hide hot; have HPO := hide hpo; have HMU := hide hmu
  clear hoa hob hqu hot hpo hmu
  go_enter Tryz.func140, Tryz.ntmps140
  go_upto_region 1 with fail
  rw [← un HV]
  clear hV HV
  have t0 : V.cell? ⟨w.heap.size, 0, none⟩ = some (I n) := (un HP).ub.c 0 _ rfl
  have t1 : V.cell? ⟨w.heap.size, 1, none⟩ = some (I d) := (un HP).ub.c 1 _ rfl
  have HC0 : Hid (Below V.heap.size V V.drew) := (Below.refl _ _).drew
  have HUP : Hid (∀ W, Below V.heap.size V W → Below w.heap.size w W) := fun W h => (un HB).trans (h.mono (un HB).size)
  have HUA : Hid (∀ W O, Below V.heap.size V W → Below w.heap.size w (W.alloc O)) := fun W O h => (un HB).trans ((h.alloc h.size O).mono (un HB).size)
  have HUD : Hid (∀ O, Below w.heap.size w (V.alloc O).drew) := fun O => ((un HB).alloc (un HB).size O).drew
  have hv0 := (un HP).lt
  go_region_held3 (fun w' => w'.cell? ⟨w.heap.size, 0, none⟩ = some (I n) ∧ w'.cell? ⟨w.heap.size, 1, none⟩ = some (I d)) (first | assumption | (simp [go_sem, *]; done)) ((first
    | (go_at_call_of 103 n; go_must (refine (un HOA _ (by first | exact un HUP _ (un HC0) | exact un HUA _ _ (un HC0) | exact un HUD _)).mono ?_; rintro e wa ⟨rfl, hb⟩; have HCwa : Hid (Below V.heap.size V wa) := (by first | exact (un HC0).trans (hb.mono (un HC0).size) | exact bel_al (un HC0) hb | exact bel_alD hb); (first | (have HZwa := hide ((un HZ0).later hb); clear u0 u1 uf0 uf1; have u0 := (un HZwa).c0; have u1 := (un HZwa).c1; have uf0 := (un HZwa).f0; have uf1 := (un HZwa).f1) | (have HZwa : Hid (T2 wa V.heap.size (.string ⟨#[]⟩) (.string ⟨#[]⟩)) := (by first | exact T2.past hb | exact T2.pastD hb); have u0 := (un HZwa).c0; have u1 := (un HZwa).c1; have uf0 := (un HZwa).f0; have uf1 := (un HZwa).f1) | skip); clear hb t0 t1; have t0 : wa.cell? ⟨w.heap.size, 0, none⟩ = some (I n) := ((un HP).later (un HCwa)).ub.c 0 _ rfl; have t1 : wa.cell? ⟨w.heap.size, 1, none⟩ = some (I d) := ((un HP).later (un HCwa)).ub.c 1 _ rfl; have hvwa := ((un HP).later (un HCwa)).lt))
    | (go_at_call_of 103 d; go_must (refine (un HOB _ (by first | exact un HUP _ (un HCwa) | exact un HUA _ _ (un HCwa) | exact un HUD _)).mono ?_; rintro e wb ⟨rfl, hb⟩; have HCwb : Hid (Below V.heap.size V wb) := (by first | exact (un HCwa).trans (hb.mono (un HCwa).size) | exact bel_al (un HCwa) hb | exact bel_alD hb); (first | (have HZwb := hide ((un HZwa).later hb); clear u0 u1 uf0 uf1; have u0 := (un HZwb).c0; have u1 := (un HZwb).c1; have uf0 := (un HZwb).f0; have uf1 := (un HZwb).f1) | (have HZwb : Hid (T2 wb wa.heap.size (.string ⟨#[]⟩) (.string ⟨#[]⟩)) := (by first | exact T2.past hb | exact T2.pastD hb); have u0 := (un HZwb).c0; have u1 := (un HZwb).c1; have uf0 := (un HZwb).f0; have uf1 := (un HZwb).f1) | skip); clear hb t0 t1; have t0 : wb.cell? ⟨w.heap.size, 0, none⟩ = some (I n) := ((un HP).later (un HCwb)).ub.c 0 _ rfl; have t1 : wb.cell? ⟨w.heap.size, 1, none⟩ = some (I d) := ((un HP).later (un HCwb)).ub.c 1 _ rfl; have hvwb := ((un HP).later (un HCwb)).lt))
    | (go_at_call 31; go_must (refine (un HQU _ (by first | exact un HUP _ (un HCwb) | exact un HUA _ _ (un HCwb) | exact un HUD _)).mono ?_; rintro e wc ⟨rfl, hb⟩; have HCwc : Hid (Below V.heap.size V wc) := (by first | exact (un HCwb).trans (hb.mono (un HCwb).size) | exact bel_al (un HCwb) hb | exact bel_alD hb); (first | (have HZwc := hide ((un HZwb).later hb); clear u0 u1 uf0 uf1; have u0 := (un HZwc).c0; have u1 := (un HZwc).c1; have uf0 := (un HZwc).f0; have uf1 := (un HZwc).f1) | (have HZwc : Hid (T2 wc wb.heap.size (.string ⟨#[]⟩) (.string ⟨#[]⟩)) := (by first | exact T2.past hb | exact T2.pastD hb); have u0 := (un HZwc).c0; have u1 := (un HZwc).c1; have uf0 := (un HZwc).f0; have uf1 := (un HZwc).f1) | skip); clear hb t0 t1; have t0 : wc.cell? ⟨w.heap.size, 0, none⟩ = some (I n) := ((un HP).later (un HCwc)).ub.c 0 _ rfl; have t1 : wc.cell? ⟨w.heap.size, 1, none⟩ = some (I d) := ((un HP).later (un HCwc)).ub.c 1 _ rfl; have hvwc := ((un HP).later (un HCwc)).lt))))
  all_goals
    first
    | (obtain ⟨X, hX⟩ : ∃ X, X = wc.heap.size := ⟨_, rfl⟩
       obtain ⟨U, hU⟩ : ∃ U, U = wc.alloc (.cells #[.string qn, .string qd] 28) := ⟨_, rfl⟩
       have HF : Hid (T2 U X (.string qn) (.string qd) ∧ T2 U (w.heap.size + 1) (.string ⟨#[]⟩) (.string ⟨#[]⟩) ∧ Below w.heap.size w U ∧ OwnU U w.heap.size 153 #[I n, I d, I tn] ∧ (¬ X = w.heap.size ∧ ¬ X = w.heap.size + 1 ∧ w.heap.size ≤ X ∧ X < U.heap.size)) := by
         rw [hU, hX]
         exact ⟨⟨by simp [go_sem], by simp [go_sem], by simp [go_sem], by simp [go_sem]⟩, ((un HR).later (un HCwc)).later ((Below.refl _ _).alloc (Nat.le_refl _) _), un HUA _ _ (un HCwc), ((un HP).later (un HCwc)).alloc _, (by have h1 := ((un HR).later (un HCwc)).lt; refine ⟨by omega, by omega, by omega, by simp⟩)⟩
       rw [← hU, ← hX]
       clear hU hX)
    | (obtain ⟨X, hX⟩ : ∃ X, X = wb.heap.size := ⟨_, rfl⟩
       obtain ⟨U, hU⟩ : ∃ U, U = (wc.setCell { block := wb.heap.size, off := 0 } (.string qn)).setCell { block := wb.heap.size, off := 1 } (.string qd) := ⟨_, rfl⟩
       have HF : Hid (T2 U X (.string qn) (.string qd) ∧ T2 U (w.heap.size + 1) (.string ⟨#[]⟩) (.string ⟨#[]⟩) ∧ Below w.heap.size w U ∧ OwnU U w.heap.size 153 #[I n, I d, I tn] ∧ (¬ X = w.heap.size ∧ ¬ X = w.heap.size + 1 ∧ w.heap.size ≤ X ∧ X < U.heap.size)) := by
         rw [hU, hX]
         have h1 := ((un HR).later (un HCwb)).lt
         exact ⟨(un HZwc).store _ _, ((un HR).later (un HCwc)).otherP wb.heap.size (by omega) _ _, below_store2 (un HUP _ (un HCwc)) (by omega) _ _, (((un HP).later (un HCwc)).otherSet (by omega) _ _).otherSet (by omega) _ _, (by have h2 := (un HZwc).lt; refine ⟨by omega, by omega, by omega, by simpa [World.setCell] using h2⟩)⟩
       rw [← hU, ← hX]
       clear hU hX)
    | (obtain ⟨X, hX⟩ : ∃ X, X = wa.heap.size := ⟨_, rfl⟩
       obtain ⟨U, hU⟩ : ∃ U, U = (wc.setCell { block := wa.heap.size, off := 0 } (.string qn)).setCell { block := wa.heap.size, off := 1 } (.string qd) := ⟨_, rfl⟩
       have HF : Hid (T2 U X (.string qn) (.string qd) ∧ T2 U (w.heap.size + 1) (.string ⟨#[]⟩) (.string ⟨#[]⟩) ∧ Below w.heap.size w U ∧ OwnU U w.heap.size 153 #[I n, I d, I tn] ∧ (¬ X = w.heap.size ∧ ¬ X = w.heap.size + 1 ∧ w.heap.size ≤ X ∧ X < U.heap.size)) := by
         rw [hU, hX]
         have h1 := ((un HR).later (un HCwa)).lt
         exact ⟨(un HZwc).store _ _, ((un HR).later (un HCwc)).otherP wa.heap.size (by omega) _ _, below_store2 (un HUP _ (un HCwc)) (by omega) _ _, (((un HP).later (un HCwc)).otherSet (by omega) _ _).otherSet (by omega) _ _, (by have h2 := (un HZwc).lt; refine ⟨by omega, by omega, by omega, by simpa [World.setCell] using h2⟩)⟩
       rw [← hU, ← hX]
       clear hU hX)
    | (obtain ⟨X, hX⟩ : ∃ X, X = V.heap.size := ⟨_, rfl⟩
       obtain ⟨U, hU⟩ : ∃ U, U = (wc.setCell { block := V.heap.size, off := 0 } (.string qn)).setCell { block := V.heap.size, off := 1 } (.string qd) := ⟨_, rfl⟩
       have HF : Hid (T2 U X (.string qn) (.string qd) ∧ T2 U (w.heap.size + 1) (.string ⟨#[]⟩) (.string ⟨#[]⟩) ∧ Below w.heap.size w U ∧ OwnU U w.heap.size 153 #[I n, I d, I tn] ∧ (¬ X = w.heap.size ∧ ¬ X = w.heap.size + 1 ∧ w.heap.size ≤ X ∧ X < U.heap.size)) := by
         rw [hU, hX]
         have h1 := (un HR).lt
         exact ⟨(un HZwc).store _ _, ((un HR).later (un HCwc)).otherP V.heap.size (by omega) _ _, below_store2 (un HUP _ (un HCwc)) (by omega) _ _, (((un HP).later (un HCwc)).otherSet (by omega) _ _).otherSet (by omega) _ _, (by have h2 := (un HZwc).lt; refine ⟨by omega, by omega, by omega, by simpa [World.setCell] using h2⟩)⟩
       rw [← hU, ← hX]
       clear hU hX)
  all_goals
    obtain ⟨hX1, hR1, hB1, hP1, hNX⟩ := un HF
    have HXX := hide hX1; have HRR := hide hR1; have HBB := hide hB1; have HPP := hide hP1; have HNX := hide hNX
    clear HF hX1 hR1 hB1 hP1 hNX HP HR HB HUP HUA HUD HC0 hv0 t0 t1
    try clear u0 u1 uf0 uf1
    have t2 : U.cell? ⟨w.heap.size, 2, none⟩ = some (I tn) := (un HPP).ub.c 2 _ rfl
    have HD0 : Hid (Below U.heap.size U U.drew) := (Below.refl _ _).drew
    have HUP2 : Hid (∀ W, Below U.heap.size U W → Below w.heap.size w W) := fun W h => (un HBB).trans (h.mono (un HBB).size)
    have HUA2 : Hid (∀ W O, Below U.heap.size U W → Below w.heap.size w (W.alloc O)) := fun W O h => (un HBB).trans ((h.alloc h.size O).mono (un HBB).size)
    have HUD2 : Hid (∀ O, Below w.heap.size w (U.alloc O).drew) := fun O => ((un HBB).alloc (un HBB).size O).drew
    have hv2 := (un HPP).lt
    go_upto_region 2 with fail
    go_region_held3 (fun w' => w'.cell? ⟨w.heap.size, 2, none⟩ = some (I tn)) (first | assumption | (simp [go_sem, *]; done)) ((first
      | (go_at_call 103; go_must (refine (un HOT _ (by first | exact un HUP2 _ (un HD0) | exact un HUA2 _ _ (un HD0) | exact un HUD2 _)).mono ?_; rintro e ya ⟨rfl, hb⟩; have HDya : Hid (Below U.heap.size U ya) := (by first | exact (un HD0).trans (hb.mono (un HD0).size) | exact bel_al (un HD0) hb | exact bel_alD hb); (first | (have HZya := hide ((un HZ0).later hb); clear u0 u1 uf0 uf1; have u0 := (un HZya).c0; have u1 := (un HZya).c1; have uf0 := (un HZya).f0; have uf1 := (un HZya).f1) | (have HZya : Hid (T2 ya U.heap.size (.string ⟨#[]⟩) (.string ⟨#[]⟩)) := (by first | exact T2.past hb | exact T2.pastD hb); have u0 := (un HZya).c0; have u1 := (un HZya).c1; have uf0 := (un HZya).f0; have uf1 := (un HZya).f1) | skip); clear hb t2; have t2 : ya.cell? ⟨w.heap.size, 2, none⟩ = some (I tn) := ((un HPP).later (un HDya)).ub.c 2 _ rfl; have hvya := ((un HPP).later (un HDya)).lt))
      | (go_at_call 176; go_must (refine (un HPO _ (by first | exact un HUP2 _ (un HDya) | exact un HUA2 _ _ (un HDya) | exact un HUD2 _)).mono ?_; rintro e yb ⟨rfl, hb⟩; have HDyb : Hid (Below U.heap.size U yb) := (by first | exact (un HDya).trans (hb.mono (un HDya).size) | exact bel_al (un HDya) hb | exact bel_alD hb); (first | (have HZyb := hide ((un HZya).later hb); clear u0 u1 uf0 uf1; have u0 := (un HZyb).c0; have u1 := (un HZyb).c1; have uf0 := (un HZyb).f0; have uf1 := (un HZyb).f1) | (have HZyb : Hid (T2 yb ya.heap.size (.string ⟨#[]⟩) (.string ⟨#[]⟩)) := (by first | exact T2.past hb | exact T2.pastD hb); have u0 := (un HZyb).c0; have u1 := (un HZyb).c1; have uf0 := (un HZyb).f0; have uf1 := (un HZyb).f1) | skip); clear hb t2; have t2 : yb.cell? ⟨w.heap.size, 2, none⟩ = some (I tn) := ((un HPP).later (un HDyb)).ub.c 2 _ rfl; have hvyb := ((un HPP).later (un HDyb)).lt))))
    all_goals
      first
      | (obtain ⟨Y, hY⟩ : ∃ Y, Y = yb.heap.size := ⟨_, rfl⟩
         obtain ⟨U2, hU2⟩ : ∃ U2, U2 = yb.alloc (.cells #[.string pn, .string pd] 28) := ⟨_, rfl⟩
         have HF2 : Hid (T2 U2 Y (.string pn) (.string pd) ∧ T2 U2 X (.string qn) (.string qd) ∧ T2 U2 (w.heap.size + 1) (.string ⟨#[]⟩) (.string ⟨#[]⟩) ∧ Below w.heap.size w U2) := by
           rw [hU2, hY]
           exact ⟨⟨by simp [go_sem], by simp [go_sem], by simp [go_sem], by simp [go_sem]⟩, ((un HXX).later (un HDyb)).later ((Below.refl _ _).alloc (Nat.le_refl _) _), ((un HRR).later (un HDyb)).later ((Below.refl _ _).alloc (Nat.le_refl _) _), un HUA2 _ _ (un HDyb)⟩
         rw [← hU2, ← hY]
         clear hU2 hY)
      | (obtain ⟨Y, hY⟩ : ∃ Y, Y = ya.heap.size := ⟨_, rfl⟩
         obtain ⟨U2, hU2⟩ : ∃ U2, U2 = (yb.setCell { block := ya.heap.size, off := 0 } (.string pn)).setCell { block := ya.heap.size, off := 1 } (.string pd) := ⟨_, rfl⟩
         have HF2 : Hid (T2 U2 Y (.string pn) (.string pd) ∧ T2 U2 X (.string qn) (.string qd) ∧ T2 U2 (w.heap.size + 1) (.string ⟨#[]⟩) (.string ⟨#[]⟩) ∧ Below w.heap.size w U2) := by
           rw [hU2, hY]
           have h1 := ((un HXX).later (un HDya)).lt
           have h3 := ((un HRR).later (un HDya)).lt
           exact ⟨(un HZyb).store _ _, ((un HXX).later (un HDyb)).otherP ya.heap.size (by omega) _ _, ((un HRR).later (un HDyb)).otherP ya.heap.size (by omega) _ _, below_store2 (un HUP2 _ (un HDyb)) (by omega) _ _⟩
         rw [← hU2, ← hY]
         clear hU2 hY)
      | (obtain ⟨Y, hY⟩ : ∃ Y, Y = U.heap.size := ⟨_, rfl⟩
         obtain ⟨U2, hU2⟩ : ∃ U2, U2 = (yb.setCell { block := U.heap.size, off := 0 } (.string pn)).setCell { block := U.heap.size, off := 1 } (.string pd) := ⟨_, rfl⟩
         have HF2 : Hid (T2 U2 Y (.string pn) (.string pd) ∧ T2 U2 X (.string qn) (.string qd) ∧ T2 U2 (w.heap.size + 1) (.string ⟨#[]⟩) (.string ⟨#[]⟩) ∧ Below w.heap.size w U2) := by
           rw [hU2, hY]
           have h1 := (un HXX).lt
           have h3 := (un HRR).lt
           exact ⟨(un HZyb).store _ _, ((un HXX).later (un HDyb)).otherP U.heap.size (by omega) _ _, ((un HRR).later (un HDyb)).otherP U.heap.size (by omega) _ _, below_store2 (un HUP2 _ (un HDyb)) (by omega) _ _⟩
         rw [← hU2, ← hY]
         clear hU2 hY)
    all_goals
      have y0 := (un HF2).1.c0; have y1 := (un HF2).1.c1; have x0 := (un HF2).2.1.c0; have x1 := (un HF2).2.1.c1
      go_upto_region 4 with (go_at_call 28; go_must (refine (un HMU _ (un HF2).2.2.2).mono ?_; rintro e w5 ⟨rfl, hb⟩; have HR5 := hide ((un HF2).2.2.1.later hb); have HB5 : Hid (Below w.heap.size w w5) := (un HF2).2.2.2.trans (hb.mono (un HF2).2.2.2.size); clear hb y0 y1 x0 x1))
      obtain ⟨V6, hV6⟩ : ∃ V6, V6 = w5.alloc (.cells #[.string fn, .string fd] 28) := ⟨_, rfl⟩
      have hb6 : Below w5.heap.size w5 V6 := by rw [hV6]; exact (Below.refl _ _).alloc (Nat.le_refl _) _
      have HY6 : Hid (T2 V6 w5.heap.size (.string fn) (.string fd)) := by rw [hV6]; exact ⟨by simp [go_sem], by simp [go_sem], by simp [go_sem], by simp [go_sem]⟩
      have HR6 := hide ((un HR5).later hb6); have HB6 : Hid (Below w.heap.size w V6) := (un HB5).trans (hb6.mono (un HB5).size)
      rw [← hV6]
      clear hV6 hb6 HR5 HB5
      generalize w5.heap.size = g7 at *
      have x0 := (un HY6).c0; have x1 := (un HY6).c1
      have r0 := (un HR6).c0; have r1 := (un HR6).c1; have rf0 := (un HR6).f0; have rf1 := (un HR6).f1
      go_wp2_with fail
      have hS := (un HR6).store (.string fn) (.string fd)
      have hb := below_store2 (un HB6) (by omega) (.string fn) (.string fd) (g := w.heap.size + 1)
      have v0 := hS.c0; have v1 := hS.c1
      exact bodyPost_ret (v := .agg #[.string fn, .string fd]) (w := store2 V6 (w.heap.size + 1) (.string fn) (.string fd)) (by simp [results, Tryz.results140, go_sem, v0, v1]) rfl ⟨rfl, hb⟩
end Go.Proofs.YtliadckofhblnaaGreatDoor.Nt

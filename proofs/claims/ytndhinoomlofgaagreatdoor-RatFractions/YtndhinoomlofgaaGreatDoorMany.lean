/- nat.manySteps: steps of Euclid's told by the first digits. -/
import Derived.Test.YtndhinoomlofgaaGreatDoorUse
import Derived.Test.YtndhinoomlofgaaGreatDoorShift
namespace Go.Proofs.YtndhinoomlofgaaGreatDoor
open Go.RowKit

/-- Two numbers and the place of the result in their boxes. -/
structure Many3 (w W : World) (a b : Value) : Prop where
  c1 : W.cell? ⟨w.heap.size, 0, none⟩ = some a
  c2 : W.cell? ⟨w.heap.size + 1, 0, none⟩ = some b
  r0 : W.cell? ⟨w.heap.size + 1 + 1, 0, none⟩ = some (.int .i64 0)
  r1 : W.cell? ⟨w.heap.size + 1 + 1, 1, none⟩ = some (.int .i64 0)
  r2 : W.cell? ⟨w.heap.size + 1 + 1, 2, none⟩ = some (.int .i64 0)
  r3 : W.cell? ⟨w.heap.size + 1 + 1, 3, none⟩ = some (.int .i64 0)
  fr : ∀ i, W.frozen? ⟨w.heap.size + 1 + 1, i, none⟩ = false
  size : w.heap.size + 3 ≤ W.heap.size
theorem Many3.on {w W V : World} {a b : Value} (h : Many3 w W a b) (hb : Below W.heap.size W V) : Many3 w V a b := by
  have hz := h.size
  exact ⟨(hb.cell (p := ⟨w.heap.size, 0, none⟩) (show w.heap.size < W.heap.size by omega)).trans h.c1, (hb.cell (p := ⟨w.heap.size + 1, 0, none⟩) (show w.heap.size + 1 < W.heap.size by omega)).trans h.c2,
    (hb.cell (p := ⟨w.heap.size + 1 + 1, 0, none⟩) (show w.heap.size + 1 + 1 < W.heap.size by omega)).trans h.r0, (hb.cell (p := ⟨w.heap.size + 1 + 1, 1, none⟩) (show w.heap.size + 1 + 1 < W.heap.size by omega)).trans h.r1,
    (hb.cell (p := ⟨w.heap.size + 1 + 1, 2, none⟩) (show w.heap.size + 1 + 1 < W.heap.size by omega)).trans h.r2, (hb.cell (p := ⟨w.heap.size + 1 + 1, 3, none⟩) (show w.heap.size + 1 + 1 < W.heap.size by omega)).trans h.r3,
    fun i => (hb.frozen (p := ⟨w.heap.size + 1 + 1, i, none⟩) (show w.heap.size + 1 + 1 < W.heap.size by omega)).trans (h.fr i), by have := hb.size; omega⟩

/-- The steps so far, in their box, which came behind U. -/
structure St4 (U W : World) (A B C D : Int) : Prop where
  q0 : W.cell? ⟨U.heap.size, 0, none⟩ = some (.int .i64 A)
  q1 : W.cell? ⟨U.heap.size, 1, none⟩ = some (.int .i64 B)
  q2 : W.cell? ⟨U.heap.size, 2, none⟩ = some (.int .i64 C)
  q3 : W.cell? ⟨U.heap.size, 3, none⟩ = some (.int .i64 D)
  fr : ∀ i, W.frozen? ⟨U.heap.size, i, none⟩ = false
  below : Below U.heap.size U W
theorem cell_other (W : World) {g i j : Nat} {u v : Value} (h : W.cell? ⟨g, j, none⟩ = some v) (hij : i ≠ j) : (W.setCell ⟨g, i, none⟩ u).cell? ⟨g, j, none⟩ = some v := by
  rw [World.cell?_setCell_other _ _ _ _ (by intro e; simp only [Addr.mk.injEq] at e; exact hij e.2.1)]; exact h
theorem cell_same (W : World) {g i : Nat} {u v : Value} (h : W.cell? ⟨g, i, none⟩ = some v) : (W.setCell ⟨g, i, none⟩ u).cell? ⟨g, i, none⟩ = some u :=
  World.cell?_setCell_same' _ _ _ (by rw [h]; rfl)
theorem St4.set {U W : World} {A B C D : Int} (h : St4 U W A B C D) (a b c d : Int) :
    St4 U ((((W.setCell ⟨U.heap.size, 0, none⟩ (.int .i64 a)).setCell ⟨U.heap.size, 1, none⟩ (.int .i64 b)).setCell ⟨U.heap.size, 2, none⟩ (.int .i64 c)).setCell ⟨U.heap.size, 3, none⟩ (.int .i64 d)) a b c d := by
  refine ⟨?_, ?_, ?_, ?_, ?_, ?_⟩
  · exact cell_other _ (cell_other _ (cell_other _ (cell_same _ h.q0) (by decide)) (by decide)) (by decide)
  · exact cell_other _ (cell_other _ (cell_same _ (cell_other _ h.q1 (by decide))) (by decide)) (by decide)
  · exact cell_other _ (cell_same _ (cell_other _ (cell_other _ h.q2 (by decide)) (by decide))) (by decide)
  · exact cell_same _ (cell_other _ (cell_other _ (cell_other _ h.q3 (by decide)) (by decide)) (by decide))
  · intro i; simp only [World.frozen?_setCell]; exact h.fr i
  · exact (((h.below.setCell (Nat.le_refl _) _).setCell (Nat.le_refl _) _).setCell (Nat.le_refl _) _).setCell (Nat.le_refl _) _
theorem St4.first (U : World) : St4 U (U.alloc (.cells #[.int .i64 1, .int .i64 0, .int .i64 0, .int .i64 1] 165)) 1 0 0 1 :=
  ⟨by simp [go_sem], by simp [go_sem], by simp [go_sem], by simp [go_sem], fun i => by simp [go_sem], (Below.refl _ _).alloc (Nat.le_refl _) _⟩

set_option maxRecDepth 100000 in
set_option maxHeartbeats 2000000 in
theorem many_any (x y : Value) (b c k : Nat) (w : World) (hx : IsBig w x b) (hy : IsBig w y c) (hcb : c ≤ b) (hc : 1000000000000000000 ≤ c) (hk : k ≤ 100000) (hbk : b < 1000000000 ^ k) :
    Calls Tryz.prog 167 #[x, y] w fun e w' => ∃ A B C D : Int, e = .returned (.agg #[.int .i64 A, .int .i64 B, .int .i64 C, .int .i64 D]) ∧ Hid (Cub.Good b c A B C D) ∧ Below w.heap.size w w' := by
  have HX := hide hx
  have HY := hide hy
  obtain ⟨ap, lp, cp, rfl, hlp, hrp, hnp, hvp⟩ := hx.form
  obtain ⟨aq, lq, cq, rfl, hlq, hrq, hnq, hvq⟩ := hy.form
  have h1 : lp.length ≤ k := Cub.len_le hnp (by rw [hvp]; exact hbk)
  have h3 : ¬ lp.length ≤ 2 := fun h => by
    have := Cub.lval_lt hnp.1
    have h2 : (1000000000 : Nat) ^ lp.length ≤ 1000000000 ^ 2 := Nat.pow_le_pow_right (by decide) h
    omega
  obtain ⟨t, ht⟩ : ∃ t, lp.length = t + 3 := ⟨lp.length - 3, by omega⟩
  have h2 : lq.length ≤ t + 3 := by
    rw [← ht]
    exact Cub.len_le hnq (by have := Cub.lval_lt hnp.1; omega)
  obtain ⟨d, hd1, hd2, hd3⟩ := Cub.up_of hnp ht
  rw [hvp] at hd1 hd3
  obtain ⟨up, hup⟩ : ∃ up, up = 10 ^ d := ⟨_, rfl⟩
  rw [← hup] at hd3
  obtain ⟨e, he⟩ : ∃ e, e = 10 ^ (9 - d) := ⟨_, rfl⟩
  have hue : up * e = 1000000000 := by rw [hup, he, ← Nat.pow_add, show d + (9 - d) = 9 by omega]
  have hup0 : 0 < up := by rw [hup]; exact Nat.pow_pos (by decide)
  have he0 : 0 < e := by rw [he]; exact Nat.pow_pos (by decide)
  have hup9 : up ≤ 1000000000 := by rw [← hue]; exact Nat.le_mul_of_pos_right _ he0
  have hee : e = 1000000000 / up := by rw [← hue, Nat.mul_div_cancel_left _ hup0]
  obtain ⟨X, hX⟩ : ∃ X, X = (lp.getD (t + 2) 0 * 1000000000 + lp.getD (t + 1) 0) * up + lp.getD t 0 / e := ⟨_, rfl⟩
  obtain ⟨Y, hY⟩ : ∃ Y, Y = (lq.getD (t + 2) 0 * 1000000000 + lq.getD (t + 1) 0) * up + lq.getD t 0 / e := ⟨_, rfl⟩
  obtain ⟨⟨u, hu1, hu2⟩, hX18⟩ := Cub.first_of lp t up e X hnp.1 (by omega) hue (by rw [hvp]; exact hd3) hX
  obtain ⟨⟨v, hv1, hv2⟩, hY18⟩ := Cub.first_of lq t up e Y hnq.1 h2 hue (by rw [hvq]; exact Nat.lt_of_le_of_lt (Nat.mul_le_mul_right _ hcb) hd3) hY
  rw [hvp] at hu1
  rw [hvq] at hv1
  obtain ⟨P, hP⟩ : ∃ P, P = 1000000000 ^ (t + 1) := ⟨_, rfl⟩
  have hP0 : 0 < P := by rw [hP]; exact Nat.pow_pos (by decide)
  rw [← hP] at hu1 hu2 hv1 hv2
  have hXh := Nat.lt_of_le_of_lt (Nat.le_add_right _ _) (hX ▸ hX18)
  have hYh := Nat.lt_of_le_of_lt (Nat.le_add_right _ _) (hY ▸ hY18)
  have H69 := hide (fun W hW => len_any (.agg #[.slice ap lp.length cp]) b k W hW (by omega) hbk)
  have H109 := hide (fun W => tenTo_any d up W (by omega) hup)
  have H110x := hide (fun W (hW : Below w.heap.size w W) => first_any ap lp cp t up _ _ _ _ e X W (hrp.later hW) rfl rfl rfl (by omega) (Cub.getD9_lt hnp.1 _) (Cub.getD9_lt hnp.1 _) (Cub.getD9_lt hnp.1 _) rfl hup0 hup9 hee hX hXh)
  have H110y := hide (fun W (hW : Below w.heap.size w W) => first_any aq lq cq t up _ _ _ _ e Y W (hrq.later hW) rfl rfl rfl (by omega) (Cub.getD9_lt hnq.1 _) (Cub.getD9_lt hnq.1 _) (Cub.getD9_lt hnq.1 _) rfl hup0 hup9 hee hY hYh)
  have HLS : Hid (∀ x y A B C D q : Int, Cub.LS b c X Y x y A B C D → y + C ≠ 0 → y + D ≠ 0 → q = (x + A) / (y + C) → q = (x + B) / (y + D) → Cub.LS b c X Y y (x - q * y) C D (A - q * C) (B - q * D) ∧ x - q * y < y ∧ 0 ≤ q) := fun x y A B C D q h e1 e2 q1 q2 =>
    h.step (U := (up : Int)) (P := (P : Int)) (u := (u : Int)) (v := (v : Int)) e1 e2 q1 q2 (by omega) (by omega) (by exact_mod_cast hu1) (by exact_mod_cast hv1) (by omega) (by omega) (by omega) (by omega) (by omega) (by omega)
  have HL0 : Hid (Cub.LS b c X Y X Y 1 0 0 1) := Cub.LS.start (by omega) (by omega) (by omega) (by omega) (by omega) (by omega)
  rw [ht] at H69 H110x ⊢
  have HD : Hid ((9 * ((t : Int) + 3)) - ((Lib.nDigits b : Nat) : Int) = (d : Int)) := by show _ = _; omega
  have hnd : Lib.nDigits b ≤ 9 * (t + 3) := by omega
  generalize Lib.nDigits b = nd at *
  generalize lq.length = nq at *
  have htk : t ≤ 100000 := by omega
  have H109' : Hid (∀ W : World, Calls Tryz.prog 156 #[.int .i64 (9 * ((t : Int) + 3) - (nd : Int))] W fun e w' => e = .returned (.int .u64 (up : Int)) ∧ w' = W) := fun W => by rw [unhide HD]; exact unhide H109 W
  have H110x' : Hid (∀ W : World, Below w.heap.size w W → Calls Tryz.prog 190 #[.agg #[.slice ap (t + 3) cp], .int .i64 ((t : Int) + 3 - 1), .int .u64 (up : Int)] W fun e w' => e = .returned (.int .u64 (X : Int)) ∧ Below W.heap.size W w') := fun W hW => by
    have := unhide H110x W hW; rw [show ((t + 2 : Nat) : Int) = (t : Int) + 3 - 1 by omega] at this; exact this
  have H110y' : Hid (∀ W : World, Below w.heap.size w W → Calls Tryz.prog 190 #[.agg #[.slice aq nq cq], .int .i64 ((t : Int) + 3 - 1), .int .u64 (up : Int)] W fun e w' => e = .returned (.int .u64 (Y : Int)) ∧ Below W.heap.size W w') := fun W hW => by
    have := unhide H110y W hW; rw [show ((t + 2 : Nat) : Int) = (t : Int) + 3 - 1 by omega] at this; exact this
  clear H109 H110x H110y HD
  clear hx hy hcb hc hbk hlp hlq hrp hrq hnp hnq hvp hvq h1 h3 h2 hd1 hd3 hup he hue hup0 he0 hup9 hee hX hY hXh hYh hu1 hu2 hv1 hv2 hP hP0
  go_enter Tryz.func167, Tryz.ntmps167
  go_upto_region 2 with fail
  obtain ⟨W, hW⟩ : ∃ W, W = (((w.alloc (.cells #[.slice ap (t + 3) cp] 72)).alloc (.cells #[.slice aq nq cq] 72)).alloc (.cells #[.int .i64 0, .int .i64 0, .int .i64 0, .int .i64 0] 165)) := ⟨_, rfl⟩
  have HW : Hid (Below w.heap.size w W) := by rw [hW]; exact (((Below.refl _ _).alloc (Nat.le_refl _) _).alloc (by simp) _).alloc (by simp; omega) _
  have HM : Hid (Many3 w W (.slice ap (t + 3) cp) (.slice aq nq cq)) := by
    rw [hW]
    exact ⟨by simp [go_sem], by simp [go_sem], by simp [go_sem], by simp [go_sem], by simp [go_sem], by simp [go_sem], fun i => by simp [go_sem], by simp⟩
  rw [← hW]
  clear hW
  have c1 : ∀ z : Later W, z.world.cell? ⟨w.heap.size, 0, none⟩ = some (.slice ap (t + 3) cp) := fun z => ((unhide HM).on z.below).c1
  have c2 : ∀ z : Later W, z.world.cell? ⟨w.heap.size + 1, 0, none⟩ = some (.slice aq nq cq) := fun z => ((unhide HM).on z.below).c2
  have H69z : Hid (∀ z : Later W, Calls Tryz.prog 89 #[.agg #[.slice ap (t + 3) cp]] z.world fun e w' => e = .returned (.int .i64 (nd : Int)) ∧ Below z.world.heap.size z.world w') := fun z => unhide H69 _ (by have := (unhide HX).later ((unhide HW).trans (z.below.mono (unhide HW).size)); rw [ht] at this; exact this)
  clear H69
  refine quiet_later (by kernel_rfl) (by kernel_rfl) ?_
  iterate 6 (go_big_quiet_step ((rename_i xx; refine (unhide H69z xx).mono ?_; rintro e w9 ⟨rfl, hb9⟩; have hz := xx.below.trans (hb9.mono xx.below.size); first | exact ⟨rfl, ⟨w9, hz⟩, rfl⟩ | exact ⟨rfl, hz⟩ | exact ⟨rfl, w9, hz, rfl⟩)))
  repeat (go_big_quiet_step ((rename_i xx; refine (unhide H109' xx.world).mono ?_; rintro e w9 ⟨rfl, hb9⟩; have hz := xx.below; rw [← hb9] at hz; first | exact ⟨rfl, ⟨w9, hz⟩, rfl⟩ | exact ⟨rfl, hz⟩ | exact ⟨rfl, w9, hz, rfl⟩)))
  refine wpQuiet_nil ?_
  intro _ hw'
  obtain ⟨xz, hw''⟩ := hw'
  subst hw''
  obtain ⟨V, hV⟩ : ∃ V, V = xz.world := ⟨_, rfl⟩
  have HWV : Hid (Below W.heap.size W V) := by rw [hV]; exact xz.below
  rw [← hV]
  clear hV H69z H109'
  replace c1 : ∀ z : Later V, z.world.cell? ⟨w.heap.size, 0, none⟩ = some (.slice ap (t + 3) cp) := fun z => c1 ⟨z.world, (unhide HWV).trans (z.below.mono (unhide HWV).size)⟩
  replace c2 : ∀ z : Later V, z.world.cell? ⟨w.heap.size + 1, 0, none⟩ = some (.slice aq nq cq) := fun z => c2 ⟨z.world, (unhide HWV).trans (z.below.mono (unhide HWV).size)⟩
  have hXi : (X : Int) < 1000000000000000000 := by omega
  have hYi : (Y : Int) < 1000000000000000000 := by omega
  go_upto_region 3 with fail
  refine quiet_later (by kernel_rfl) (by kernel_rfl) ?_
  iterate 5 (go_big_quiet_step ((rename_i xx; refine (unhide H110x' _ ((unhide HW).trans (((unhide HWV).trans (xx.below.mono (unhide HWV).size)).mono (unhide HW).size))).mono ?_; rintro e w9 ⟨rfl, hb9⟩; have hz := xx.below.trans (hb9.mono xx.below.size); first | exact ⟨rfl, ⟨w9, hz⟩, rfl⟩ | exact ⟨rfl, hz⟩ | exact ⟨rfl, w9, hz, rfl⟩)))
  repeat (go_big_quiet_step ((rename_i xx; refine (unhide H110y' _ ((unhide HW).trans (((unhide HWV).trans (xx.below.mono (unhide HWV).size)).mono (unhide HW).size))).mono ?_; rintro e w9 ⟨rfl, hb9⟩; have hz := xx.below.trans (hb9.mono xx.below.size); first | exact ⟨rfl, ⟨w9, hz⟩, rfl⟩ | exact ⟨rfl, hz⟩ | exact ⟨rfl, w9, hz, rfl⟩)))
  refine wpQuiet_nil ?_
  intro _ hw'
  obtain ⟨xy, hw''⟩ := hw'
  subst hw''
  obtain ⟨U, hU⟩ : ∃ U, U = xy.world := ⟨_, rfl⟩
  have HWU : Hid (Below W.heap.size W U) := by rw [hU]; exact (unhide HWV).trans (xy.below.mono (unhide HWV).size)
  rw [← hU]
  clear hU H110x' H110y' c1 c2 HWV
  have HMU := hide ((unhide HM).on (unhide HWU))
  have HBU := hide ((unhide HW).trans ((unhide HWU).mono (unhide HW).size))
  clear HM HWU HW
  go_wp2_with fail
  go_loopw [7, 8] (fun v7 v8 wr => ∃ (x y A B C D : Int), v7 = .int .i64 x ∧ v8 = .int .i64 y ∧ Hid (Cub.LS b c X Y x y A B C D) ∧ Hid (St4 U wr A B C D)) (fun _ v8 _ => (intOf v8).toNat)
  case atStart => exact ⟨X, Y, 1, 0, 0, 1, rfl, rfl, HL0, St4.first U⟩
  case round =>
    obtain ⟨x, y, A, B, C, D, rfl, rfl, HL, HS⟩ := hrel
    clear HL0 hXi hYi hX18 hY18
    obtain ⟨x1, x2, y1, y2, ⟨a1, a2⟩, ⟨b1, b2⟩, ⟨c1, c2⟩, ⟨d1, d2⟩, x0, y0, -, -⟩ := (unhide HL).bounds
    have x3 := (unhide HL).hx
    have y3 := (unhide HL).hy
    have q0 := (unhide HS).q0; have q1 := (unhide HS).q1; have q2 := (unhide HS).q2; have q3 := (unhide HS).q3
    have r0 := ((unhide HMU).on (unhide HS).below).r0; have r1 := ((unhide HMU).on (unhide HS).below).r1; have r2 := ((unhide HMU).on (unhide HS).below).r2; have r3 := ((unhide HMU).on (unhide HS).below).r3
    have fr := ((unhide HMU).on (unhide HS).below).fr
    have HE : Hid (Cub.Good b c A B C D ∧ Below w.heap.size w wr) := ⟨(unhide HL).good, (unhide HBU).trans ((unhide HS).below.mono (unhide HBU).size)⟩
    by_cases h1 : y + C = 0
    · have e1 : ((y + C) != 0) = false := by rw [h1]; rfl
      clear h1
      go_wp2_with fail
      exact bodyPost_ret (v := .agg #[.int .i64 A, .int .i64 B, .int .i64 C, .int .i64 D]) (by simp [results, Tryz.results167, go_sem, r0, r1, r2, r3]) rfl ⟨A, B, C, D, rfl, (unhide HE).1, ((((unhide HE).2.setCell (by simp; omega) _).setCell (by simp; omega) _).setCell (by simp; omega) _).setCell (by simp; omega) _⟩
    · have e1 : ((y + C) != 0) = true := by rw [bne_iff_ne]; exact h1
      by_cases h2 : y + D = 0
      · have e2 : ((y + D) != 0) = false := by rw [h2]; rfl
        clear h1 h2
        go_wp2_with fail
        exact bodyPost_ret (v := .agg #[.int .i64 A, .int .i64 B, .int .i64 C, .int .i64 D]) (by simp [results, Tryz.results167, go_sem, r0, r1, r2, r3]) rfl ⟨A, B, C, D, rfl, (unhide HE).1, ((((unhide HE).2.setCell (by simp; omega) _).setCell (by simp; omega) _).setCell (by simp; omega) _).setCell (by simp; omega) _⟩
      · have e2 : ((y + D) != 0) = true := by rw [bne_iff_ne]; exact h2
        have y4 : 0 < y + C := by omega
        have y5 : 0 < y + D := by omega
        obtain ⟨q, hq⟩ : ∃ q, (x + A) / (y + C) = q := ⟨_, rfl⟩
        obtain ⟨p, hp⟩ : ∃ p, (x + B) / (y + D) = p := ⟨_, rfl⟩
        obtain ⟨q5, q6, -⟩ := Cub.quo_facts x1 y1 h1 hq.symm
        have q7 : q ≤ 1000000001000000000 := by
          have := Int.ediv_le_self (y + C) x1
          omega
        obtain ⟨p5, p6, -⟩ := Cub.quo_facts x2 y2 h2 hp.symm
        have p7 : p ≤ 1000000001000000000 := by
          have := Int.ediv_le_self (y + D) x2
          omega
        clear q6 p6
        by_cases hqp : q = p
        · subst hqp
          have HQ : Hid (q = (x + A) / (y + C) ∧ q = (x + B) / (y + D)) := ⟨hq.symm, hp.symm⟩
          obtain ⟨n1, n2, -⟩ := unhide HLS x y A B C D q (unhide HL) h1 h2 (unhide HQ).1 (unhide HQ).2
          have HN1 := hide n1
          obtain ⟨⟨t1, t2⟩, ⟨t3, t4⟩, t5, t6⟩ := (unhide HL).products (unhide HN1) q5
          obtain ⟨-, -, -, -, -, -, ⟨z1, z2⟩, ⟨z3, z4⟩, -, z5, -, -⟩ := (unhide HN1).bounds
          have HS' := hide ((unhide HS).set C D (A - q * C) (B - q * D))
          have fq := (unhide HS).fr
          clear h1 h2 HE HL n1 HLS
          go_wp2_with fail
          exact ⟨⟨y, x - q * y, C, D, A - q * C, B - q * D, rfl, rfl, HN1, HS'⟩, by simp only [intOf]; omega⟩
        · have e3 : (q != p) = true := by rw [bne_iff_ne]; exact hqp
          clear h1 h2 hqp
          go_wp2_with fail
          exact bodyPost_ret (v := .agg #[.int .i64 A, .int .i64 B, .int .i64 C, .int .i64 D]) (by simp [results, Tryz.results167, go_sem, r0, r1, r2, r3]) rfl ⟨A, B, C, D, rfl, (unhide HE).1, ((((unhide HE).2.setCell (by simp; omega) _).setCell (by simp; omega) _).setCell (by simp; omega) _).setCell (by simp; omega) _⟩
end Go.Proofs.YtndhinoomlofgaaGreatDoor

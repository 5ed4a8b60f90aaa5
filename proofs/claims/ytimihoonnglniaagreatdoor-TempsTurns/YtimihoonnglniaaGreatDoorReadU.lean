/- temps.read where its number and its words are right. -/
import Derived.Test.YtimihoonnglniaaGreatDoorKnown
namespace Go.Proofs.YtimihoonnglniaaGreatDoor
open Go.RowKit
theorem first_unique {p : Nat → Bool} {i j : Int} (h1 : IsFirst p i) (h2 : IsFirst p j) : i = j := by
  rcases h1 with ⟨a, ha, rfl, pa, na⟩ | ⟨rfl, na⟩ <;> rcases h2 with ⟨b, hb, rfl, pb, nb⟩ | ⟨rfl, nb⟩
  · have h3 : ¬ a < b := fun h => by rw [nb a h] at pa; cases pa
    have h4 : ¬ b < a := fun h => by rw [na b h] at pb; cases pb
    omega
  · rw [nb a ha] at pa; cases pa
  · rw [na b hb] at pb; cases pb
  · rfl
theorem known_at (s : ByteArray) (i : Nat) (hi : IsFirst (scB s) (i : Int)) (w : World) (htab : Tab w) : Calls Tryz.prog 41 #[.string s] w fun r w' => ∃ (bp bq : Bool) (ap dp aq dq : Option Addr) (lp cp mp ep lq cq mq eq : Nat), r = .returned (.tuple #[.agg #[.bool bp, .slice ap lp cp, .slice dp mp ep, .bool bq, .slice aq lq cq, .slice dq mq eq], .bool true]) ∧ QOf w' (.agg #[.bool bp, .slice ap lp cp, .slice dp mp ep]) (fq i) 67 ∧ QOf w' (.agg #[.bool bq, .slice aq lq cq, .slice dq mq eq]) (oq i) 67 ∧ Below w.heap.size w w' := by
  refine (known_any s w htab).mono ?_
  rintro r w' ⟨v, rfl, hv, hb⟩
  rcases hv with ⟨k, b, c, a1, a2, a3, a4, l1, c1, l2, c2, l3, c3, l4, c4, hk, hf, rfl, h1, h2⟩ | ⟨hf, _⟩
  · have e := first_unique hf hi
    have e' : k = i := by omega
    subst e'
    exact ⟨b, c, a1, a2, a3, a4, l1, c1, l2, c2, l3, c3, l4, c4, rfl, h1, h2, hb⟩
  · have e := first_unique hf hi
    omega
theorem T6.setOther {W : World} {g k o : Nat} {a b c d e f : Value} (h : T6 W g a b c d e f) (hk : g ≠ k) (u : Value) : T6 (W.setCell ⟨k, o, none⟩ u) g a b c d e f := by
  have e1 : ∀ q v, W.cell? ⟨g, q, none⟩ = some v → (W.setCell ⟨k, o, none⟩ u).cell? ⟨g, q, none⟩ = some v := fun q v hv => by
    rw [World.cell?_setCell_other _ _ _ _ (by intro e; exact hk (congrArg Addr.block e).symm)]; exact hv
  exact ⟨e1 _ _ h.c0, e1 _ _ h.c1, e1 _ _ h.c2, e1 _ _ h.c3, e1 _ _ h.c4, e1 _ _ h.c5, by rw [World.frozen?_setCell]; exact h.f0, by rw [World.frozen?_setCell]; exact h.f1, by rw [World.frozen?_setCell]; exact h.f2, by rw [World.frozen?_setCell]; exact h.f3, by rw [World.frozen?_setCell]; exact h.f4, by rw [World.frozen?_setCell]; exact h.f5⟩
theorem T6.other3 {W : World} {g k : Nat} {a b c d e f : Value} (h : T6 W g a b c d e f) (hk : g ≠ k) (x y z : Value) : T6 (store3 W k x y z) g a b c d e f := ((h.setOther hk x).setOther hk y).setOther hk z
theorem T6.other6 {W : World} {g k : Nat} {a b c d e f : Value} (h : T6 W g a b c d e f) (hk : g ≠ k) (x y z t u v : Value) : T6 (store6 W k x y z t u v) g a b c d e f := (((((h.setOther hk x).setOther hk y).setOther hk z).setOther hk t).setOther hk u).setOther hk v
theorem FBox.other6 {W : World} {g k : Nat} {a b c : Value} (h : FBox W g a b c) (hk : g ≠ k) (x y z t u v : Value) : FBox (store6 W k x y z t u v) g a b c := (((((h.otherAt hk x).otherAt hk y).otherAt hk z).otherAt hk t).otherAt hk u).otherAt hk v
set_option maxRecDepth 100000 in
set_option maxHeartbeats 8000000 in
theorem readU_ok (n d s t : ByteArray) (x : Rat) (i j : Nat) (w : World) (hx : IsR n d x) (hi : IsFirst (scB s) (i : Int)) (hj : IsFirst (scB t) (j : Int)) (htab : Tab w) :
    Calls Tryz.prog 19 #[.agg #[.string n, .string d], .string s, .string t] w fun r w' => ∃ (bz bp bq br bv : Bool) (az dz ap dp aq dq ar dr av dv : Option Addr) (lz cz mz ez lp cp mp ep lq cq mq eq lr cr mr er lv cv mv ev : Nat), r = .returned (.tuple #[.agg #[.bool bz, .slice az lz cz, .slice dz mz ez], .agg #[.bool bp, .slice ap lp cp, .slice dp mp ep, .bool bq, .slice aq lq cq, .slice dq mq eq], .agg #[.bool br, .slice ar lr cr, .slice dr mr er, .bool bv, .slice av lv cv, .slice dv mv ev], .int .i64 0]) ∧ (QOf w' (.agg #[.bool bz, .slice az lz cz, .slice dz mz ez]) x 67 ∧ QOf w' (.agg #[.bool bp, .slice ap lp cp, .slice dp mp ep]) (fq i) 67 ∧ QOf w' (.agg #[.bool bq, .slice aq lq cq, .slice dq mq eq]) (oq i) 67 ∧ QOf w' (.agg #[.bool br, .slice ar lr cr, .slice dr mr er]) (fq j) 67 ∧ QOf w' (.agg #[.bool bv, .slice av lv cv, .slice dv mv ev]) (oq j) 67) ∧ Below w.heap.size w w' := by
  obtain ⟨V, hV⟩ : ∃ V, V = (((w.alloc (.cells #[.string n, .string d] 23)).alloc (.cells #[.bool false, .slice none 0 0, .slice none 0 0] 45)).alloc (.cells #[.bool false, .slice none 0 0, .slice none 0 0, .bool false, .slice none 0 0, .slice none 0 0] 47)).alloc (.cells #[.bool false, .slice none 0 0, .slice none 0 0, .bool false, .slice none 0 0, .slice none 0 0] 47) := ⟨_, rfl⟩
  have HN : Hid (T2 V w.heap.size (.string n) (.string d)) := by rw [hV]; exact ⟨by simp [go_sem], by simp [go_sem], by simp [go_sem], by simp [go_sem]⟩
  have H1 : Hid (FBox V (w.heap.size + 1) (.bool false) (.slice none 0 0) (.slice none 0 0)) := by rw [hV]; exact ⟨by simp [go_sem], by simp [go_sem], by simp [go_sem], by simp [go_sem], by simp [go_sem], by simp [go_sem]⟩
  have H2 : Hid (T6 V (w.heap.size + 2) (.bool false) (.slice none 0 0) (.slice none 0 0) (.bool false) (.slice none 0 0) (.slice none 0 0)) := by rw [hV]; exact ⟨by simp [go_sem], by simp [go_sem], by simp [go_sem], by simp [go_sem], by simp [go_sem], by simp [go_sem], by simp [go_sem], by simp [go_sem], by simp [go_sem], by simp [go_sem], by simp [go_sem], by simp [go_sem]⟩
  have H3 : Hid (T6 V (w.heap.size + 3) (.bool false) (.slice none 0 0) (.slice none 0 0) (.bool false) (.slice none 0 0) (.slice none 0 0)) := by rw [hV]; exact ⟨by simp [go_sem], by simp [go_sem], by simp [go_sem], by simp [go_sem], by simp [go_sem], by simp [go_sem], by simp [go_sem], by simp [go_sem], by simp [go_sem], by simp [go_sem], by simp [go_sem], by simp [go_sem]⟩
  have HB : Hid (Below w.heap.size w V) := by rw [hV]; exact ((((Below.refl _ _).alloc (Nat.le_refl _) _).alloc (by simp) _).alloc (by simp; omega) _).alloc (by simp; omega) _
  have HSZ : Hid (w.heap.size + 4 ≤ V.heap.size) := by rw [hV]; show _ ≤ _; simp
  have HV := hide hV
  have HTW := hide htab
  have HRD := hide (fun W => qread n d x W hx)
  have HK1 := hide (fun W hb => known_at s i hi W (htab.later hb))
  have HK2 := hide (fun W hb => known_at t j hj W (htab.later hb))
  clear hV htab hx hi hj
  go_enter Tryz.func19, Tryz.ntmps19
  go_upto_region 1 with fail
  rw [← unhide HV]
  clear HV
  have t0 := (unhide HN).c0; have t1 := (unhide HN).c1
  go_upto_region 2 with (go_at_call 40; go_must (refine (unhide HRD _).mono ?_; rintro e w1 ⟨v1, rfl, hv1, hb1⟩; obtain ⟨bz, az, lz, cz, dz, mz, ez, rfl⟩ := hv1.form; have HZ1 := hide hv1; have HB1 := hide hb1; clear hv1 hb1 t0 t1))
  obtain ⟨A, hA⟩ : ∃ A, A = w1.alloc (.cells #[.bool bz, .slice az lz cz, .slice dz mz ez] 45) := ⟨_, rfl⟩
  have HAX : Hid (FBox A w1.heap.size (.bool bz) (.slice az lz cz) (.slice dz mz ez)) := by rw [hA]; exact ⟨by simp [go_sem], by simp [go_sem], by simp [go_sem], by simp [go_sem], by simp [go_sem], by simp [go_sem]⟩
  have HBA1 : Hid (Below w1.heap.size w1 A) := by rw [hA]; exact (Below.refl _ _).alloc (Nat.le_refl _) _
  rw [← hA]
  clear hA
  have HBA : Hid (Below V.heap.size V A) := (unhide HB1).trans ((unhide HBA1).mono (unhide HB1).size)
  have HZA := hide ((unhide HZ1).later (unhide HBA1))
  have HG10 : Hid (w.heap.size + 4 ≤ w1.heap.size) := Nat.le_trans (unhide HSZ) (unhide HB1).size
  have HBWA : Hid (Below w.heap.size w A) := (unhide HB).trans ((unhide HBA).mono (unhide HB).size)
  clear HZ1 HB1 HBA1
  generalize w1.heap.size = g10 at *
  go_upto_region 5 with (go_at_call 41; go_must (refine (unhide HK1 _ (unhide HBWA)).mono ?_; rintro e w2 ⟨bp, bq, ap, dp, aq, dq, lp, cp, mp, ep, lq, cq, mq, eq, rfl, hp2, hq2, hb2⟩; have HP2 := hide hp2; have HQ2 := hide hq2; have HB2 := hide hb2; clear hp2 hq2 hb2))
  obtain ⟨B, hB⟩ : ∃ B, B = w2.alloc (.cells #[.bool bp, .slice ap lp cp, .slice dp mp ep, .bool bq, .slice aq lq cq, .slice dq mq eq] 47) := ⟨_, rfl⟩
  have HBX : Hid (T6 B w2.heap.size (.bool bp) (.slice ap lp cp) (.slice dp mp ep) (.bool bq) (.slice aq lq cq) (.slice dq mq eq)) := by rw [hB]; exact ⟨by simp [go_sem], by simp [go_sem], by simp [go_sem], by simp [go_sem], by simp [go_sem], by simp [go_sem], by simp [go_sem], by simp [go_sem], by simp [go_sem], by simp [go_sem], by simp [go_sem], by simp [go_sem]⟩
  have HBB1 : Hid (Below w2.heap.size w2 B) := by rw [hB]; exact (Below.refl _ _).alloc (Nat.le_refl _) _
  rw [← hB]
  clear hB
  have HBB : Hid (Below A.heap.size A B) := (unhide HB2).trans ((unhide HBB1).mono (unhide HB2).size)
  have HPB := hide ((unhide HP2).later (unhide HBB1)); have HQB := hide ((unhide HQ2).later (unhide HBB1)); have HZB := hide ((unhide HZA).later (unhide HBB))
  have HG12 : Hid (w.heap.size + 4 ≤ w2.heap.size) := Nat.le_trans (Nat.le_of_lt (Nat.lt_of_le_of_lt (unhide HG10) (unhide HAX).lt)) (unhide HB2).size
  have HBWB : Hid (Below w.heap.size w B) := (unhide HBWA).trans ((unhide HBB).mono (unhide HBWA).size)
  have HAX2 := hide ((unhide HAX).later (unhide HBB))
  clear HP2 HQ2 HB2 HBB1 HZA HAX
  generalize w2.heap.size = g12 at *
  go_upto_region 6 with (go_at_call 41; go_must (refine (unhide HK2 _ (unhide HBWB)).mono ?_; rintro e w3 ⟨br, bv, ar, dr, av, dv, lr, cr, mr, er, lv, cv, mv, ev, rfl, hr3, ht3, hb3⟩; have HR3 := hide hr3; have HT3 := hide ht3; have HB3 := hide hb3; clear hr3 ht3 hb3))
  obtain ⟨Y, hY⟩ : ∃ Y, Y = w3.alloc (.cells #[.bool br, .slice ar lr cr, .slice dr mr er, .bool bv, .slice av lv cv, .slice dv mv ev] 47) := ⟨_, rfl⟩
  have HYX : Hid (T6 Y w3.heap.size (.bool br) (.slice ar lr cr) (.slice dr mr er) (.bool bv) (.slice av lv cv) (.slice dv mv ev)) := by rw [hY]; exact ⟨by simp [go_sem], by simp [go_sem], by simp [go_sem], by simp [go_sem], by simp [go_sem], by simp [go_sem], by simp [go_sem], by simp [go_sem], by simp [go_sem], by simp [go_sem], by simp [go_sem], by simp [go_sem]⟩
  have HBY1 : Hid (Below w3.heap.size w3 Y) := by rw [hY]; exact (Below.refl _ _).alloc (Nat.le_refl _) _
  rw [← hY]
  clear hY
  have HBY : Hid (Below B.heap.size B Y) := (unhide HB3).trans ((unhide HBY1).mono (unhide HB3).size)
  have HRY := hide ((unhide HR3).later (unhide HBY1)); have HTY := hide ((unhide HT3).later (unhide HBY1)); have HPY := hide ((unhide HPB).later (unhide HBY)); have HQY := hide ((unhide HQB).later (unhide HBY)); have HZY := hide ((unhide HZB).later (unhide HBY))
  have HG14 : Hid (w.heap.size + 4 ≤ w3.heap.size) := Nat.le_trans (Nat.le_of_lt (Nat.lt_of_le_of_lt (unhide HG12) (unhide HBX).lt)) (unhide HB3).size
  have HBWY : Hid (Below w.heap.size w Y) := (unhide HBWB).trans ((unhide HBY).mono (unhide HBWB).size)
  have HAX3 := hide ((unhide HAX2).later (unhide HBY)); have HBX3 := hide ((unhide HBX).later (unhide HBY))
  have HVY : Hid (Below V.heap.size V Y) := (unhide HBA).trans (((unhide HBB).trans ((unhide HBY).mono (unhide HBB).size)).mono (unhide HBA).size)
  have H1Y := hide ((unhide H1).later (unhide HVY)); have H2Y := hide ((unhide H2).later (unhide HVY)); have H3Y := hide ((unhide H3).later (unhide HVY))
  clear HR3 HT3 HB3 HBY1 HPB HQB HZB HAX2 HBX HBA HBB HBY H1 H2 H3 HN HVY HBWA HBWB
  generalize w3.heap.size = g14 at *
  go_upto_region 8 with fail
  have HS0 : Hid (Y.drew.cell? ⟨g10, 0, none⟩ = some (.bool bz) ∧ Y.drew.cell? ⟨g10, 1, none⟩ = some (.slice az lz cz) ∧ Y.drew.cell? ⟨g10, 2, none⟩ = some (.slice dz mz ez)) := ⟨(unhide HAX3).c0, (unhide HAX3).c1, (unhide HAX3).c2⟩
  have HSS : Hid (∀ W, T6 W g12 (.bool bp) (.slice ap lp cp) (.slice dp mp ep) (.bool bq) (.slice aq lq cq) (.slice dq mq eq) → T6 W g14 (.bool br) (.slice ar lr cr) (.slice dr mr er) (.bool bv) (.slice av lv cv) (.slice dv mv ev) → W.cell? ⟨g12, 0, none⟩ = some (.bool bp) ∧ W.cell? ⟨g12, 1, none⟩ = some (.slice ap lp cp) ∧ W.cell? ⟨g12, 2, none⟩ = some (.slice dp mp ep) ∧ W.cell? ⟨g12, 3, none⟩ = some (.bool bq) ∧ W.cell? ⟨g12, 4, none⟩ = some (.slice aq lq cq) ∧ W.cell? ⟨g12, 5, none⟩ = some (.slice dq mq eq) ∧ W.cell? ⟨g14, 0, none⟩ = some (.bool br) ∧ W.cell? ⟨g14, 1, none⟩ = some (.slice ar lr cr) ∧ W.cell? ⟨g14, 2, none⟩ = some (.slice dr mr er) ∧ W.cell? ⟨g14, 3, none⟩ = some (.bool bv) ∧ W.cell? ⟨g14, 4, none⟩ = some (.slice av lv cv) ∧ W.cell? ⟨g14, 5, none⟩ = some (.slice dv mv ev)) := fun W h1 h2 => ⟨h1.c0, h1.c1, h1.c2, h1.c3, h1.c4, h1.c5, h2.c0, h2.c1, h2.c2, h2.c3, h2.c4, h2.c5⟩
  have HS70 := hide (unhide HSS Y.drew ((unhide HBX3).later ((Below.refl _ _).drew)) ((unhide HYX).later ((Below.refl _ _).drew)))
  have HE1 : Hid (g12 ≠ w.heap.size + 1 ∧ g14 ≠ w.heap.size + 1 ∧ g12 ≠ w.heap.size + 2 ∧ g14 ≠ w.heap.size + 2 ∧ g12 ≠ w.heap.size + 3 ∧ g14 ≠ w.heap.size + 3) := by have h1 := unhide HG12; have h2 := unhide HG14; show _ ∧ _; omega
  obtain ⟨D, hD⟩ : ∃ D, D = Y.drew := ⟨_, rfl⟩
  have HBYD : Hid (Below Y.heap.size Y D) := by rw [hD]; exact (Below.refl _ _).drew
  have HXD := hide ((unhide HBX3).later (unhide HBYD)); have HYD := hide ((unhide HYX).later (unhide HBYD))
  have H1D := hide ((unhide H1Y).later (unhide HBYD)); have H2D := hide ((unhide H2Y).later (unhide HBYD)); have H3D := hide ((unhide H3Y).later (unhide HBYD))
  have HS7a := hide (unhide HSS (store3 D (w.heap.size + 1) (.bool bz) (.slice az lz cz) (.slice dz mz ez)) ((unhide HXD).other3 (unhide HE1).1 _ _ _) ((unhide HYD).other3 (unhide HE1).2.1 _ _ _))
  have HS7b := hide (unhide HSS (store6 (store3 D (w.heap.size + 1) (.bool bz) (.slice az lz cz) (.slice dz mz ez)) (w.heap.size + 2) (.bool bp) (.slice ap lp cp) (.slice dp mp ep) (.bool bq) (.slice aq lq cq) (.slice dq mq eq)) (((unhide HXD).other3 (unhide HE1).1 _ _ _).other6 (unhide HE1).2.2.1 _ _ _ _ _ _) (((unhide HYD).other3 (unhide HE1).2.1 _ _ _).other6 (unhide HE1).2.2.2.1 _ _ _ _ _ _))
  have HS7c := hide (unhide HSS (store6 (store6 (store3 D (w.heap.size + 1) (.bool bz) (.slice az lz cz) (.slice dz mz ez)) (w.heap.size + 2) (.bool bp) (.slice ap lp cp) (.slice dp mp ep) (.bool bq) (.slice aq lq cq) (.slice dq mq eq)) (w.heap.size + 3) (.bool br) (.slice ar lr cr) (.slice dr mr er) (.bool bv) (.slice av lv cv) (.slice dv mv ev)) ((((unhide HXD).other3 (unhide HE1).1 _ _ _).other6 (unhide HE1).2.2.1 _ _ _ _ _ _).other6 (unhide HE1).2.2.2.2.1 _ _ _ _ _ _) ((((unhide HYD).other3 (unhide HE1).2.1 _ _ _).other6 (unhide HE1).2.2.2.1 _ _ _ _ _ _).other6 (unhide HE1).2.2.2.2.2 _ _ _ _ _ _))
  have HF1 : Hid (FBox D (w.heap.size + 1) (.bool false) (.slice none 0 0) (.slice none 0 0)) := H1D
  have HF2 : Hid (T6 (store3 D (w.heap.size + 1) (.bool bz) (.slice az lz cz) (.slice dz mz ez)) (w.heap.size + 2) (.bool false) (.slice none 0 0) (.slice none 0 0) (.bool false) (.slice none 0 0) (.slice none 0 0)) := (unhide H2D).other3 (by omega) _ _ _
  have HF3 : Hid (T6 (store6 (store3 D (w.heap.size + 1) (.bool bz) (.slice az lz cz) (.slice dz mz ez)) (w.heap.size + 2) (.bool bp) (.slice ap lp cp) (.slice dp mp ep) (.bool bq) (.slice aq lq cq) (.slice dq mq eq)) (w.heap.size + 3) (.bool false) (.slice none 0 0) (.slice none 0 0) (.bool false) (.slice none 0 0) (.slice none 0 0)) := ((unhide H3D).other3 (by omega) _ _ _).other6 (by omega) _ _ _ _ _ _
  subst hD
  have HQ := hide (And.intro (unhide HZY) (And.intro (unhide HPY) (And.intro (unhide HQY) (And.intro (unhide HRY) (unhide HTY)))))
  have p0 := (unhide H1Y).c0; have p1 := (unhide H1Y).c1; have p2 := (unhide H1Y).c2; have pf0 := (unhide H1Y).f0; have pf1 := (unhide H1Y).f1; have pf2 := (unhide H1Y).f2
  have HQQ : ∀ (v : Value) (q : Rat), QOf Y v q 67 → QOf (store6 (store6 (store3 Y.drew (w.heap.size + 1) (.bool bz) (.slice az lz cz) (.slice dz mz ez)) (w.heap.size + 2) (.bool bp) (.slice ap lp cp) (.slice dp mp ep) (.bool bq) (.slice aq lq cq) (.slice dq mq eq)) (w.heap.size + 3) (.bool br) (.slice ar lr cr) (.slice dr mr er) (.bool bv) (.slice av lv cv) (.slice dv mv ev)) v q 67 := fun v q h => QOf.six (unhide HF3) _ _ _ _ _ _ (QOf.six (unhide HF2) _ _ _ _ _ _ (QOf.over (unhide HF1) _ _ _ (h.later ((Below.refl _ _).drew))))
  have HE : Hid ((FBox (store6 (store6 (store3 Y.drew (w.heap.size + 1) (.bool bz) (.slice az lz cz) (.slice dz mz ez)) (w.heap.size + 2) (.bool bp) (.slice ap lp cp) (.slice dp mp ep) (.bool bq) (.slice aq lq cq) (.slice dq mq eq)) (w.heap.size + 3) (.bool br) (.slice ar lr cr) (.slice dr mr er) (.bool bv) (.slice av lv cv) (.slice dv mv ev)) (w.heap.size + 1) (.bool bz) (.slice az lz cz) (.slice dz mz ez) ∧ T6 (store6 (store6 (store3 Y.drew (w.heap.size + 1) (.bool bz) (.slice az lz cz) (.slice dz mz ez)) (w.heap.size + 2) (.bool bp) (.slice ap lp cp) (.slice dp mp ep) (.bool bq) (.slice aq lq cq) (.slice dq mq eq)) (w.heap.size + 3) (.bool br) (.slice ar lr cr) (.slice dr mr er) (.bool bv) (.slice av lv cv) (.slice dv mv ev)) (w.heap.size + 2) (.bool bp) (.slice ap lp cp) (.slice dp mp ep) (.bool bq) (.slice aq lq cq) (.slice dq mq eq) ∧ T6 (store6 (store6 (store3 Y.drew (w.heap.size + 1) (.bool bz) (.slice az lz cz) (.slice dz mz ez)) (w.heap.size + 2) (.bool bp) (.slice ap lp cp) (.slice dp mp ep) (.bool bq) (.slice aq lq cq) (.slice dq mq eq)) (w.heap.size + 3) (.bool br) (.slice ar lr cr) (.slice dr mr er) (.bool bv) (.slice av lv cv) (.slice dv mv ev)) (w.heap.size + 3) (.bool br) (.slice ar lr cr) (.slice dr mr er) (.bool bv) (.slice av lv cv) (.slice dv mv ev)) ∧ (QOf (store6 (store6 (store3 Y.drew (w.heap.size + 1) (.bool bz) (.slice az lz cz) (.slice dz mz ez)) (w.heap.size + 2) (.bool bp) (.slice ap lp cp) (.slice dp mp ep) (.bool bq) (.slice aq lq cq) (.slice dq mq eq)) (w.heap.size + 3) (.bool br) (.slice ar lr cr) (.slice dr mr er) (.bool bv) (.slice av lv cv) (.slice dv mv ev)) (.agg #[.bool bz, .slice az lz cz, .slice dz mz ez]) x 67 ∧ QOf (store6 (store6 (store3 Y.drew (w.heap.size + 1) (.bool bz) (.slice az lz cz) (.slice dz mz ez)) (w.heap.size + 2) (.bool bp) (.slice ap lp cp) (.slice dp mp ep) (.bool bq) (.slice aq lq cq) (.slice dq mq eq)) (w.heap.size + 3) (.bool br) (.slice ar lr cr) (.slice dr mr er) (.bool bv) (.slice av lv cv) (.slice dv mv ev)) (.agg #[.bool bp, .slice ap lp cp, .slice dp mp ep]) (fq i) 67 ∧ QOf (store6 (store6 (store3 Y.drew (w.heap.size + 1) (.bool bz) (.slice az lz cz) (.slice dz mz ez)) (w.heap.size + 2) (.bool bp) (.slice ap lp cp) (.slice dp mp ep) (.bool bq) (.slice aq lq cq) (.slice dq mq eq)) (w.heap.size + 3) (.bool br) (.slice ar lr cr) (.slice dr mr er) (.bool bv) (.slice av lv cv) (.slice dv mv ev)) (.agg #[.bool bq, .slice aq lq cq, .slice dq mq eq]) (oq i) 67 ∧ QOf (store6 (store6 (store3 Y.drew (w.heap.size + 1) (.bool bz) (.slice az lz cz) (.slice dz mz ez)) (w.heap.size + 2) (.bool bp) (.slice ap lp cp) (.slice dp mp ep) (.bool bq) (.slice aq lq cq) (.slice dq mq eq)) (w.heap.size + 3) (.bool br) (.slice ar lr cr) (.slice dr mr er) (.bool bv) (.slice av lv cv) (.slice dv mv ev)) (.agg #[.bool br, .slice ar lr cr, .slice dr mr er]) (fq j) 67 ∧ QOf (store6 (store6 (store3 Y.drew (w.heap.size + 1) (.bool bz) (.slice az lz cz) (.slice dz mz ez)) (w.heap.size + 2) (.bool bp) (.slice ap lp cp) (.slice dp mp ep) (.bool bq) (.slice aq lq cq) (.slice dq mq eq)) (w.heap.size + 3) (.bool br) (.slice ar lr cr) (.slice dr mr er) (.bool bv) (.slice av lv cv) (.slice dv mv ev)) (.agg #[.bool bv, .slice av lv cv, .slice dv mv ev]) (oq j) 67) ∧ Below w.heap.size w (store6 (store6 (store3 Y.drew (w.heap.size + 1) (.bool bz) (.slice az lz cz) (.slice dz mz ez)) (w.heap.size + 2) (.bool bp) (.slice ap lp cp) (.slice dp mp ep) (.bool bq) (.slice aq lq cq) (.slice dq mq eq)) (w.heap.size + 3) (.bool br) (.slice ar lr cr) (.slice dr mr er) (.bool bv) (.slice av lv cv) (.slice dv mv ev))) := ⟨⟨(((unhide HF1).store (.bool bz) (.slice az lz cz) (.slice dz mz ez)).other6 (k := w.heap.size + 2) (by omega) (.bool bp) (.slice ap lp cp) (.slice dp mp ep) (.bool bq) (.slice aq lq cq) (.slice dq mq eq)).other6 (k := w.heap.size + 3) (by omega) (.bool br) (.slice ar lr cr) (.slice dr mr er) (.bool bv) (.slice av lv cv) (.slice dv mv ev), ((unhide HF2).store (.bool bp) (.slice ap lp cp) (.slice dp mp ep) (.bool bq) (.slice aq lq cq) (.slice dq mq eq)).other6 (k := w.heap.size + 3) (by omega) (.bool br) (.slice ar lr cr) (.slice dr mr er) (.bool bv) (.slice av lv cv) (.slice dv mv ev), (unhide HF3).store (.bool br) (.slice ar lr cr) (.slice dr mr er) (.bool bv) (.slice av lv cv) (.slice dv mv ev)⟩, ⟨HQQ _ _ (unhide HQ).1, HQQ _ _ (unhide HQ).2.1, HQQ _ _ (unhide HQ).2.2.1, HQQ _ _ (unhide HQ).2.2.2.1, HQQ _ _ (unhide HQ).2.2.2.2⟩, below_store6 (below_store6 (below_store3 (unhide HBWY).drew (by omega) _ _ _) (by omega) _ _ _ _ _ _) (by omega) _ _ _ _ _ _⟩
  clear HQQ HQ HZY HPY HQY HRY HTY HXD HYD H1D H2D H3D H2Y H3Y HBYD HSS
  refine region_reads 3 (fun W => W.cell? ⟨g10, 0, none⟩ = some (.bool bz) ∧ W.cell? ⟨g10, 1, none⟩ = some (.slice az lz cz) ∧ W.cell? ⟨g10, 2, none⟩ = some (.slice dz mz ez)) (fun W => W.cell? ⟨g12, 0, none⟩ = some (.bool bp) ∧ W.cell? ⟨g12, 1, none⟩ = some (.slice ap lp cp) ∧ W.cell? ⟨g12, 2, none⟩ = some (.slice dp mp ep) ∧ W.cell? ⟨g12, 3, none⟩ = some (.bool bq) ∧ W.cell? ⟨g12, 4, none⟩ = some (.slice aq lq cq) ∧ W.cell? ⟨g12, 5, none⟩ = some (.slice dq mq eq) ∧ W.cell? ⟨g14, 0, none⟩ = some (.bool br) ∧ W.cell? ⟨g14, 1, none⟩ = some (.slice ar lr cr) ∧ W.cell? ⟨g14, 2, none⟩ = some (.slice dr mr er) ∧ W.cell? ⟨g14, 3, none⟩ = some (.bool bv) ∧ W.cell? ⟨g14, 4, none⟩ = some (.slice av lv cv) ∧ W.cell? ⟨g14, 5, none⟩ = some (.slice dv mv ev)) 7 rfl (by kernel_rfl) ?_
  refine wpR_take (i := 0) (oi := _) (v := .agg #[.bool bz, .slice az lz cz, .slice dz mz ez]) rfl (by kernel_rfl) (by kernel_rfl) (by kernel_rfl) (by kernel_rfl) (fun _ _ _ h => h) (Or.inl ⟨by rfl, ?_⟩) ⟨unhide HS0, unhide HS70⟩ ?_
  · intro W hW
    go_split_ands
    go_simp
  refine wpR_take7 (i := 1) (oi := _) (v := .agg #[.bool bp, .slice ap lp cp, .slice dp mp ep, .bool bq, .slice aq lq cq, .slice dq mq eq]) rfl (by kernel_rfl) (by kernel_rfl) (by kernel_rfl) (by kernel_rfl) (fun _ _ _ h => h) (Or.inl ⟨by rfl, ?_⟩) ⟨unhide HS0, unhide HS70⟩ ?_
  · intro W hW
    go_split_ands
    go_simp
  refine wpR_take7 (i := 2) (oi := _) (v := .agg #[.bool br, .slice ar lr cr, .slice dr mr er, .bool bv, .slice av lv cv, .slice dv mv ev]) rfl (by kernel_rfl) (by kernel_rfl) (by kernel_rfl) (by kernel_rfl) (fun _ _ _ h => h) (Or.inl ⟨by rfl, ?_⟩) ⟨unhide HS0, unhide HS70⟩ ?_
  · intro W hW
    go_split_ands
    go_simp
  refine wpR_late (i := 3) (o := _) (by kernel_rfl) rfl rfl (by kernel_rfl) (fun K hK => ?_)
  go_simp
  refine hK _ (store3 Y.drew (w.heap.size + 1) (.bool bz) (.slice az lz cz) (.slice dz mz ez)) (unhide HS7a) ?_
  clear hK K
  generalize store3 Y.drew (w.heap.size + 1) (.bool bz) (.slice az lz cz) (.slice dz mz ez) = A3 at *
  have q0 := (unhide HF2).c0; have q1 := (unhide HF2).c1; have q2 := (unhide HF2).c2; have q3 := (unhide HF2).c3; have q4 := (unhide HF2).c4; have q5 := (unhide HF2).c5; have qf0 := (unhide HF2).f0; have qf1 := (unhide HF2).f1; have qf2 := (unhide HF2).f2; have qf3 := (unhide HF2).f3; have qf4 := (unhide HF2).f4; have qf5 := (unhide HF2).f5
  refine wpR_late (i := 4) (o := _) (by kernel_rfl) rfl rfl (by kernel_rfl) (fun K hK => ?_)
  go_simp
  refine hK _ (store6 A3 (w.heap.size + 2) (.bool bp) (.slice ap lp cp) (.slice dp mp ep) (.bool bq) (.slice aq lq cq) (.slice dq mq eq)) (unhide HS7b) ?_
  clear hK K
  generalize store6 A3 (w.heap.size + 2) (.bool bp) (.slice ap lp cp) (.slice dp mp ep) (.bool bq) (.slice aq lq cq) (.slice dq mq eq) = A4 at *
  have r0 := (unhide HF3).c0; have r1 := (unhide HF3).c1; have r2 := (unhide HF3).c2; have r3 := (unhide HF3).c3; have r4 := (unhide HF3).c4; have r5 := (unhide HF3).c5; have rf0 := (unhide HF3).f0; have rf1 := (unhide HF3).f1; have rf2 := (unhide HF3).f2; have rf3 := (unhide HF3).f3; have rf4 := (unhide HF3).f4; have rf5 := (unhide HF3).f5
  refine wpR_late (i := 5) (o := _) (by kernel_rfl) rfl rfl (by kernel_rfl) (fun K hK => ?_)
  go_simp
  refine hK _ (store6 A4 (w.heap.size + 3) (.bool br) (.slice ar lr cr) (.slice dr mr er) (.bool bv) (.slice av lv cv) (.slice dv mv ev)) (unhide HS7c) ?_
  clear hK K
  generalize store6 A4 (w.heap.size + 3) (.bool br) (.slice ar lr cr) (.slice dr mr er) (.bool bv) (.slice av lv cv) (.slice dv mv ev) = A5 at *
  skip
  refine wpR_late (i := 6) (o := _) (by kernel_rfl) rfl rfl (by kernel_rfl) (fun K hK => ?_)
  go_simp
  refine hK _ _ (unhide HS7c) ?_
  clear hK K
  refine wpR_done (by kernel_rfl) ?_
  go_wp2_with fail
  have hS1 := (unhide HE).1.1; have hS2 := (unhide HE).1.2.1; have hS3 := (unhide HE).1.2.2
  have u0 := hS1.c0; have u1 := hS1.c1; have u2 := hS1.c2; have v0 := hS2.c0; have v1 := hS2.c1; have v2 := hS2.c2; have v3 := hS2.c3; have v4 := hS2.c4; have v5 := hS2.c5; have y0 := hS3.c0; have y1 := hS3.c1; have y2 := hS3.c2; have y3 := hS3.c3; have y4 := hS3.c4; have y5 := hS3.c5
  exact bodyPost_ret (v := .tuple #[.agg #[.bool bz, .slice az lz cz, .slice dz mz ez], .agg #[.bool bp, .slice ap lp cp, .slice dp mp ep, .bool bq, .slice aq lq cq, .slice dq mq eq], .agg #[.bool br, .slice ar lr cr, .slice dr mr er, .bool bv, .slice av lv cv, .slice dv mv ev], .int .i64 0]) (w := A5) (by simp [results, Tryz.results19, go_sem, u0, u1, u2, v0, v1, v2, v3, v4, v5, y0, y1, y2, y3, y4, y5]) rfl ⟨bz, bp, bq, br, bv, az, dz, ap, dp, aq, dq, ar, dr, av, dv, lz, cz, mz, ez, lp, cp, mp, ep, lq, cq, mq, eq, lr, cr, mr, er, lv, cv, mv, ev, rfl, (unhide HE).2.1, (unhide HE).2.2⟩
end Go.Proofs.YtimihoonnglniaaGreatDoor

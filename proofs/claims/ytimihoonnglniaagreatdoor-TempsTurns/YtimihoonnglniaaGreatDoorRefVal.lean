/- The document's fractions by their values: Times, Plus. -/
import Derived.Test.YtimihoonnglniaaGreatDoorRefBig
import Derived.Test.YtimihoonnglniaaGreatDoorCmp
import Derived.Test.YtimihoonnglniaaGreatDoorTx
import Derived.Test.YtimihoonnglniaaGreatDoorOfs
namespace Go.Proofs.YtimihoonnglniaaGreatDoor
open Go.RowKit

theorem toList_less (s t : ByteArray) (hs : Cub.isNat s.data.toList) (ht : Cub.isNat t.data.toList) (hl : s.size = t.size) : Op.bytesLess s.toList t.toList = decide (Cub.dval s.data.toList < Cub.dval t.data.toList) := by
  rw [Lib.toList_data, Lib.toList_data]
  exact Cub.bytesLess_dval _ _ hs.1 ht.1 (by rw [list_len, list_len]; exact hl)
theorem toList_same (s t : ByteArray) (hs : Cub.isNat s.data.toList) (ht : Cub.isNat t.data.toList) : (s.toList == t.toList) = decide (Cub.dval s.data.toList = Cub.dval t.data.toList) := by
  rw [Lib.toList_data, Lib.toList_data, Bool.eq_iff_iff, beq_iff_eq, decide_eq_true_eq]
  exact ⟨fun h => by rw [h], fun h => Cub.dval_inj hs ht h⟩

set_option maxRecDepth 100000 in
set_option maxHeartbeats 400000 in
theorem compare_any (s t : ByteArray) (w : World) (hs : Cub.isNat s.data.toList) (ht : Cub.isNat t.data.toList) :
    Calls Tryz.prog 37 #[.string s, .string t] w fun e w' => e = .returned (.int .i64 (Cub.cmpN (Cub.dval s.data.toList) (Cub.dval t.data.toList))) ∧ w' = w := by
  by_cases hl : s.size = t.size
  · have hne : ((s.size : Int) != (t.size : Int)) = false := by rw [hl]; simp
    have hless := toList_less s t hs ht hl
    have hsame := toList_same s t hs ht
    by_cases hc : Cub.dval s.data.toList < Cub.dval t.data.toList
    · have e : Cub.cmpN (Cub.dval s.data.toList) (Cub.dval t.data.toList) = -1 := if_pos hc
      rw [e]
      rw [decide_eq_true hc] at hless
      clear hsame hs ht hl e hc
      go_enter Tryz.func37, Tryz.ntmps37
      go_wp2
      go_ret
      exact ⟨rfl, rfl⟩
    · rw [decide_eq_false hc] at hless
      by_cases hc2 : Cub.dval t.data.toList < Cub.dval s.data.toList
      · have e : Cub.cmpN (Cub.dval s.data.toList) (Cub.dval t.data.toList) = 1 := by unfold Cub.cmpN; rw [if_neg hc, if_pos hc2]
        rw [e]
        rw [decide_eq_false (by omega)] at hsame
        clear hs ht hl e hc hc2
        go_enter Tryz.func37, Tryz.ntmps37
        go_wp2
        go_ret
        exact ⟨rfl, rfl⟩
      · have e : Cub.cmpN (Cub.dval s.data.toList) (Cub.dval t.data.toList) = 0 := by unfold Cub.cmpN; rw [if_neg hc, if_neg hc2]
        rw [e]
        rw [decide_eq_true (by omega)] at hsame
        clear hs ht hl e hc hc2
        go_enter Tryz.func37, Tryz.ntmps37
        go_wp2
        go_ret
        exact ⟨rfl, rfl⟩
  · have hne : ((s.size : Int) != (t.size : Int)) = true := by rw [bne_iff_ne]; omega
    by_cases hlt : s.size < t.size
    · have e : Cub.cmpN (Cub.dval s.data.toList) (Cub.dval t.data.toList) = -1 := if_pos (Cub.len_lt_dval hs ht (by rw [list_len, list_len]; exact hlt))
      rw [e]
      clear hs ht hl e
      go_enter Tryz.func37, Tryz.ntmps37
      go_wp2
      go_ret
      exact ⟨rfl, rfl⟩
    · have e0 := Cub.len_lt_dval ht hs (by rw [list_len, list_len]; omega)
      have e : Cub.cmpN (Cub.dval s.data.toList) (Cub.dval t.data.toList) = 1 := by unfold Cub.cmpN; rw [if_neg (by omega), if_pos e0]
      rw [e]
      clear hs ht hl e e0
      go_enter Tryz.func37, Tryz.ntmps37
      go_wp2
      go_ret
      exact ⟨rfl, rfl⟩
theorem refCompareM (m n : Nat) (w : World) : Calls Tryz.prog 37 #[.string (tx m), .string (tx n)] w fun e w' => e = .returned (.int .i64 (Cub.cmpN m n)) ∧ w' = w := by
  have h := compare_any (tx m) (tx n) w (tx_nat m) (tx_nat n)
  rw [show Cub.dval (tx m).data.toList = m from tx_val m, show Cub.dval (tx n).data.toList = n from tx_val n] at h
  exact h

end Go.Proofs.YtimihoonnglniaaGreatDoor

namespace Go.Proofs.YtimihoonnglniaaGreatDoor
open Go.RowKit

/-- Two fractions laid in boxes, a third for the answer. -/
structure F3 (w V : World) (x0 x1 x2 y0 y1 y2 : Value) : Prop where
  x : FBox V w.heap.size x0 x1 x2
  y : FBox V (w.heap.size + 1) y0 y1 y2
  r : FBox V (w.heap.size + 1 + 1) (.bool false) (.string ⟨#[]⟩) (.string ⟨#[]⟩)
  below : Below w.heap.size w V
theorem F3.later {w V W : World} {x0 x1 x2 y0 y1 y2 : Value} (h : F3 w V x0 x1 x2 y0 y1 y2) (hb : Below V.heap.size V W) : F3 w W x0 x1 x2 y0 y1 y2 :=
  ⟨h.x.later hb, h.y.later hb, h.r.later hb, h.below.trans (hb.mono h.below.size)⟩
theorem F3.first (w : World) (x0 x1 x2 y0 y1 y2 : Value) : F3 w (((w.alloc (.cells #[x0, x1, x2] 33)).alloc (.cells #[y0, y1, y2] 33)).alloc (.cells #[.bool false, .string ⟨#[]⟩, .string ⟨#[]⟩] 33)) x0 x1 x2 y0 y1 y2 :=
  ⟨⟨by simp [go_sem], by simp [go_sem], by simp [go_sem], by simp [go_sem], by simp [go_sem], by simp [go_sem]⟩, ⟨by simp [go_sem], by simp [go_sem], by simp [go_sem], by simp [go_sem], by simp [go_sem], by simp [go_sem]⟩, ⟨by simp [go_sem], by simp [go_sem], by simp [go_sem], by simp [go_sem], by simp [go_sem], by simp [go_sem]⟩,
    (((Below.refl _ _).alloc (Nat.le_refl _) _).alloc (by simp) _).alloc (by simp; omega) _⟩

set_option maxRecDepth 100000 in
set_option maxHeartbeats 2000000 in
theorem refFTimes_walk (b c rb : Bool) (s1 t1 s2 t2 n d rn rd : ByteArray) (w : World)
    (h1 : ∀ W, Calls Tryz.prog 34 #[.string s1, .string s2] W fun e w' => e = .returned (.string n) ∧ Below W.heap.size W w')
    (h2 : ∀ W, Calls Tryz.prog 34 #[.string t1, .string t2] W fun e w' => e = .returned (.string d) ∧ Below W.heap.size W w')
    (h3 : ∀ W, Calls Tryz.prog 35 #[.bool (b != c), .string n, .string d] W fun e w' => e = .returned (.agg #[.bool rb, .string rn, .string rd]) ∧ Below W.heap.size W w') :
    Calls Tryz.prog 29 #[.agg #[.bool b, .string s1, .string t1], .agg #[.bool c, .string s2, .string t2]] w fun e w' => e = .returned (.agg #[.bool rb, .string rn, .string rd]) ∧ Below w.heap.size w w' := by
  obtain ⟨V, hV⟩ : ∃ V, V = (((w.alloc (.cells #[.bool b, .string s1, .string t1] 33)).alloc (.cells #[.bool c, .string s2, .string t2] 33)).alloc (.cells #[.bool false, .string ⟨#[]⟩, .string ⟨#[]⟩] 33)) := ⟨_, rfl⟩
  have HS : Hid (F3 w V (.bool b) (.string s1) (.string t1) (.bool c) (.string s2) (.string t2)) := by rw [hV]; exact F3.first _ _ _ _ _ _ _
  have HV := hide hV
  have H1 := hide h1
  have H2 := hide h2
  have H3 := hide h3
  have HC : Hid (∀ w', Below V.heap.size V w' → (w'.cell? ⟨w.heap.size, 0, none⟩ = some (.bool b) ∧ w'.cell? ⟨w.heap.size, 1, none⟩ = some (.string s1) ∧ w'.cell? ⟨w.heap.size, 2, none⟩ = some (.string t1) ∧ w'.cell? ⟨w.heap.size + 1, 0, none⟩ = some (.bool c) ∧ w'.cell? ⟨w.heap.size + 1, 1, none⟩ = some (.string s2) ∧ w'.cell? ⟨w.heap.size + 1, 2, none⟩ = some (.string t2)) ∧ (w'.cell? ⟨w.heap.size + 1 + 1, 0, none⟩ = some (.bool false) ∧ w'.cell? ⟨w.heap.size + 1 + 1, 1, none⟩ = some (.string ⟨#[]⟩) ∧ w'.cell? ⟨w.heap.size + 1 + 1, 2, none⟩ = some (.string ⟨#[]⟩) ∧ w'.frozen? ⟨w.heap.size + 1 + 1, 0, none⟩ = false ∧ w'.frozen? ⟨w.heap.size + 1 + 1, 1, none⟩ = false ∧ w'.frozen? ⟨w.heap.size + 1 + 1, 2, none⟩ = false)) := fun U hb => by
    have s := (unhide HS).later hb
    exact ⟨⟨s.x.c0, s.x.c1, s.x.c2, s.y.c0, s.y.c1, s.y.c2⟩, ⟨s.r.c0, s.r.c1, s.r.c2, s.r.f0, s.r.f1, s.r.f2⟩⟩
  clear h1 h2 h3 hV
  go_enter Tryz.func29, Tryz.ntmps29
  go_upto_region 1 with fail
  rw [← unhide HV]
  clear HV
  obtain ⟨⟨t0, t1', t2', t3, t4, t5⟩, _⟩ := unhide HC V (Below.refl _ _)
  go_region_held3 (fun w' => w'.cell? ⟨w.heap.size, 0, none⟩ = some (.bool b) ∧ w'.cell? ⟨w.heap.size, 1, none⟩ = some (.string s1) ∧ w'.cell? ⟨w.heap.size, 2, none⟩ = some (.string t1) ∧ w'.cell? ⟨w.heap.size + 1, 0, none⟩ = some (.bool c) ∧ w'.cell? ⟨w.heap.size + 1, 1, none⟩ = some (.string s2) ∧ w'.cell? ⟨w.heap.size + 1, 2, none⟩ = some (.string t2)) (first | assumption | (refine ⟨?_, ?_, ?_, ?_, ?_, ?_⟩ <;> first | assumption | (simp [go_sem, *]; done) | (rw [World.cell?_setCell_other _ _ _ _ (by simp), World.cell?_setCell_other _ _ _ _ (by simp), World.cell?_setCell_other _ _ _ _ (by simp)]; assumption)) | (simp [go_sem, *]; done)) ((first
    | (go_at_call_of 34 s1; go_must (refine (unhide H1 _).mono ?_; rintro e wa ⟨rfl, hba⟩; have HCA := hide (((Below.refl V.heap.size V).drew).trans hba); clear hba t0 t1' t2' t3 t4 t5; obtain ⟨⟨t0, t1', t2', t3, t4, t5⟩, _⟩ := unhide HC wa (unhide HCA)))
    | (go_at_call_of 34 t1; go_must (refine (unhide H2 _).mono ?_; rintro e wb ⟨rfl, hbb⟩; have HCB := hide ((unhide HCA).trans (hbb.mono (unhide HCA).size)); clear hbb t0 t1' t2' t3 t4 t5; obtain ⟨⟨t0, t1', t2', t3, t4, t5⟩, _⟩ := unhide HC wb (unhide HCB)))
    | (go_at_call 35; go_must (refine (unhide H3 _).mono ?_; rintro e wc ⟨rfl, hbc⟩; have HCC := hide ((unhide HCB).trans (hbc.mono (unhide HCB).size)); clear hbc t0 t1' t2' t3 t4 t5; obtain ⟨⟨t0, t1', t2', t3, t4, t5⟩, ⟨r0, r1, r2, rf0, rf1, rf2⟩⟩ := unhide HC wc (unhide HCC)))))
  have HS1 := hide ((unhide HS).later (unhide HCC))
  clear r0 r1 r2 rf0 rf1 rf2 t0 t1' t2' t3 t4 t5
  have hS := (unhide HS1).r.store (.bool rb) (.string rn) (.string rd)
  have hb : Below w.heap.size w (store3 wc (w.heap.size + 1 + 1) (.bool rb) (.string rn) (.string rd)) := below_store3 (unhide HS1).below (by omega) _ _ _
  obtain ⟨V9, hV9⟩ : ∃ V9, V9 = store3 wc (w.heap.size + 1 + 1) (.bool rb) (.string rn) (.string rd) := ⟨_, rfl⟩
  have hV9' : V9 = ((wc.setCell ⟨w.heap.size + 1 + 1, 0, none⟩ (.bool rb)).setCell ⟨w.heap.size + 1 + 1, 1, none⟩ (.string rn)).setCell ⟨w.heap.size + 1 + 1, 2, none⟩ (.string rd) := hV9
  have u0 := hS.c0; have u1 := hS.c1; have u2 := hS.c2
  rw [← hV9] at u0 u1 u2 hb
  rw [← hV9']
  have HB9 := hide hb
  clear hV9 hV9' hS hb
  go_wp2_with fail
  exact bodyPost_ret (v := .agg #[.bool rb, .string rn, .string rd]) (by simp [results, Tryz.results29, go_sem, u0, u1, u2]) rfl ⟨rfl, unhide HB9⟩

end Go.Proofs.YtimihoonnglniaaGreatDoor

namespace Go.Proofs.YtimihoonnglniaaGreatDoor
open Go.RowKit

set_option maxRecDepth 100000 in
set_option maxHeartbeats 2000000 in
theorem refFPlusA (b c rb : Bool) (s1 t1 s2 t2 x y d n rn rd : ByteArray) (w : World) (hbc : b = c)
    (h4 : ∀ W, Calls Tryz.prog 36 #[.string x, .string y] W fun e w' => e = .returned (.string n) ∧ Below W.heap.size W w')
    (h1 : ∀ W, Calls Tryz.prog 34 #[.string s1, .string t2] W fun e w' => e = .returned (.string x) ∧ Below W.heap.size W w')
    (h2 : ∀ W, Calls Tryz.prog 34 #[.string s2, .string t1] W fun e w' => e = .returned (.string y) ∧ Below W.heap.size W w')
    (h3 : ∀ W, Calls Tryz.prog 34 #[.string t1, .string t2] W fun e w' => e = .returned (.string d) ∧ Below W.heap.size W w')
    (h5 : ∀ W, Calls Tryz.prog 35 #[.bool b, .string n, .string d] W fun e w' => e = .returned (.agg #[.bool rb, .string rn, .string rd]) ∧ Below W.heap.size W w') :
    Calls Tryz.prog 13 #[.agg #[.bool b, .string s1, .string t1], .agg #[.bool c, .string s2, .string t2]] w fun e w' => e = .returned (.agg #[.bool rb, .string rn, .string rd]) ∧ Below w.heap.size w w' := by
  obtain ⟨V, hV⟩ : ∃ V, V = (((w.alloc (.cells #[.bool b, .string s1, .string t1] 33)).alloc (.cells #[.bool c, .string s2, .string t2] 33)).alloc (.cells #[.bool false, .string ⟨#[]⟩, .string ⟨#[]⟩] 33)) := ⟨_, rfl⟩
  have HS : Hid (F3 w V (.bool b) (.string s1) (.string t1) (.bool c) (.string s2) (.string t2)) := by rw [hV]; exact F3.first _ _ _ _ _ _ _
  have HV := hide hV
  have H1 := hide h1
  have H2 := hide h2
  have H3 := hide h3
  have H4 := hide h4
  have H5 := hide h5
  have hbq : (b == c) = true := by rw [hbc]; simp
  have HC : Hid (∀ w', Below V.heap.size V w' → (w'.cell? ⟨w.heap.size, 0, none⟩ = some (.bool b) ∧ w'.cell? ⟨w.heap.size, 1, none⟩ = some (.string s1) ∧ w'.cell? ⟨w.heap.size, 2, none⟩ = some (.string t1) ∧ w'.cell? ⟨w.heap.size + 1, 0, none⟩ = some (.bool c) ∧ w'.cell? ⟨w.heap.size + 1, 1, none⟩ = some (.string s2) ∧ w'.cell? ⟨w.heap.size + 1, 2, none⟩ = some (.string t2)) ∧ (w'.cell? ⟨w.heap.size + 1 + 1, 0, none⟩ = some (.bool false) ∧ w'.cell? ⟨w.heap.size + 1 + 1, 1, none⟩ = some (.string ⟨#[]⟩) ∧ w'.cell? ⟨w.heap.size + 1 + 1, 2, none⟩ = some (.string ⟨#[]⟩) ∧ w'.frozen? ⟨w.heap.size + 1 + 1, 0, none⟩ = false ∧ w'.frozen? ⟨w.heap.size + 1 + 1, 1, none⟩ = false ∧ w'.frozen? ⟨w.heap.size + 1 + 1, 2, none⟩ = false)) := fun U hb => by
    have s := (unhide HS).later hb
    exact ⟨⟨s.x.c0, s.x.c1, s.x.c2, s.y.c0, s.y.c1, s.y.c2⟩, ⟨s.r.c0, s.r.c1, s.r.c2, s.r.f0, s.r.f1, s.r.f2⟩⟩
  clear h1 h2 h3 h4 h5 hV hbc
  go_enter Tryz.func13, Tryz.ntmps13
  go_upto_region 1 with fail
  rw [← unhide HV]
  clear HV
  obtain ⟨⟨t0, t1', t2', t3, t4, t5⟩, _⟩ := unhide HC V (Below.refl _ _)
  go_region_held3 (fun w' => w'.cell? ⟨w.heap.size, 0, none⟩ = some (.bool b) ∧ w'.cell? ⟨w.heap.size, 1, none⟩ = some (.string s1) ∧ w'.cell? ⟨w.heap.size, 2, none⟩ = some (.string t1) ∧ w'.cell? ⟨w.heap.size + 1, 0, none⟩ = some (.bool c) ∧ w'.cell? ⟨w.heap.size + 1, 1, none⟩ = some (.string s2) ∧ w'.cell? ⟨w.heap.size + 1, 2, none⟩ = some (.string t2)) (first | assumption | (refine ⟨?_, ?_, ?_, ?_, ?_, ?_⟩ <;> first | assumption | (simp [go_sem, *]; done) | (rw [World.cell?_setCell_other _ _ _ _ (by simp), World.cell?_setCell_other _ _ _ _ (by simp), World.cell?_setCell_other _ _ _ _ (by simp)]; assumption)) | (simp [go_sem, *]; done)) ((first
    | (go_at_call_of 34 s1; go_must (refine (unhide H1 _).mono ?_; rintro e wa ⟨rfl, hba⟩; have HCA := hide (((Below.refl V.heap.size V).drew).trans hba); clear hba t0 t1' t2' t3 t4 t5; obtain ⟨⟨t0, t1', t2', t3, t4, t5⟩, _⟩ := unhide HC wa (unhide HCA)))
    | (go_at_call_of 34 s2; go_must (refine (unhide H2 _).mono ?_; rintro e wb ⟨rfl, hbb⟩; have HCB := hide ((unhide HCA).trans (hbb.mono (unhide HCA).size)); clear hbb t0 t1' t2' t3 t4 t5; obtain ⟨⟨t0, t1', t2', t3, t4, t5⟩, _⟩ := unhide HC wb (unhide HCB)))
    | (go_at_call 34; go_must (refine (unhide H3 _).mono ?_; rintro e wc ⟨rfl, hbc⟩; have HCC := hide ((unhide HCB).trans (hbc.mono (unhide HCB).size)); clear hbc t0 t1' t2' t3 t4 t5; obtain ⟨⟨t0, t1', t2', t3, t4, t5⟩, _⟩ := unhide HC wc (unhide HCC)))))
  have HD : Hid (∀ w', Below wc.heap.size wc w' → Below V.heap.size V w') := fun U hb => (unhide HCC).trans (hb.mono (unhide HCC).size)
  clear t1' t2' t4 t5 HCA HCB H1 H2 H3
  go_upto_region 3 with fail
  clear t3 hbq
  go_region_held3 (fun w' => w'.cell? ⟨w.heap.size, 0, none⟩ = some (.bool b)) (first | assumption | (simp [go_sem, *]; done) | (rw [World.cell?_setCell_other _ _ _ _ (by simp), World.cell?_setCell_other _ _ _ _ (by simp), World.cell?_setCell_other _ _ _ _ (by simp)]; assumption)) ((first
    | (go_at_call 36; go_must (refine (unhide H4 _).mono ?_; rintro e wd ⟨rfl, hbd⟩; have HCD := hide (((Below.refl wc.heap.size wc).drew).trans hbd); clear hbd t0; obtain ⟨⟨t0, t1', t2', t3, t4, t5⟩, _⟩ := unhide HC wd (unhide HD wd (unhide HCD)); clear t1' t2' t3 t4 t5))
    | (go_at_call 35; go_must (refine (unhide H5 _).mono ?_; rintro e we ⟨rfl, hbe⟩; have HCE := hide (unhide HD we ((unhide HCD).trans (hbe.mono (unhide HCD).size))); clear hbe t0; obtain ⟨⟨t0, t1', t2', t3, t4, t5⟩, ⟨r0, r1, r2, rf0, rf1, rf2⟩⟩ := unhide HC we (unhide HCE); clear t1' t2' t3 t4 t5))))
  have HS1 := hide ((unhide HS).later (unhide HCE))
  clear r0 r1 r2 rf0 rf1 rf2
  have hS := (unhide HS1).r.store (.bool rb) (.string rn) (.string rd)
  have hb : Below w.heap.size w (store3 we (w.heap.size + 1 + 1) (.bool rb) (.string rn) (.string rd)) := below_store3 (unhide HS1).below (by omega) _ _ _
  obtain ⟨V9, hV9⟩ : ∃ V9, V9 = store3 we (w.heap.size + 1 + 1) (.bool rb) (.string rn) (.string rd) := ⟨_, rfl⟩
  have hV9' : V9 = ((we.setCell ⟨w.heap.size + 1 + 1, 0, none⟩ (.bool rb)).setCell ⟨w.heap.size + 1 + 1, 1, none⟩ (.string rn)).setCell ⟨w.heap.size + 1 + 1, 2, none⟩ (.string rd) := hV9
  have u0 := hS.c0; have u1 := hS.c1; have u2 := hS.c2
  rw [← hV9] at u0 u1 u2 hb
  rw [← hV9']
  have HB9 := hide hb
  clear hV9 hV9' hS hb t0
  go_wp2_with fail
  exact bodyPost_ret (v := .agg #[.bool rb, .string rn, .string rd]) (by simp [results, Tryz.results13, go_sem, u0, u1, u2]) rfl ⟨rfl, unhide HB9⟩

end Go.Proofs.YtimihoonnglniaaGreatDoor

namespace Go.Proofs.YtimihoonnglniaaGreatDoor
open Go.RowKit

set_option maxRecDepth 100000 in
set_option maxHeartbeats 2000000 in
theorem refFPlusB (b c rb : Bool) (s1 t1 s2 t2 x y d n rn rd : ByteArray) (w : World) (k : Int) (hbc : b ≠ c) (hk : 0 ≤ k)
    (h6 : ∀ W, Calls Tryz.prog 37 #[.string x, .string y] W fun e w' => e = .returned (.int .i64 k) ∧ w' = W)
    (h4 : ∀ W, Calls Tryz.prog 38 #[.string x, .string y] W fun e w' => e = .returned (.string n) ∧ Below W.heap.size W w')
    (h1 : ∀ W, Calls Tryz.prog 34 #[.string s1, .string t2] W fun e w' => e = .returned (.string x) ∧ Below W.heap.size W w')
    (h2 : ∀ W, Calls Tryz.prog 34 #[.string s2, .string t1] W fun e w' => e = .returned (.string y) ∧ Below W.heap.size W w')
    (h3 : ∀ W, Calls Tryz.prog 34 #[.string t1, .string t2] W fun e w' => e = .returned (.string d) ∧ Below W.heap.size W w')
    (h5 : ∀ W, Calls Tryz.prog 35 #[.bool b, .string n, .string d] W fun e w' => e = .returned (.agg #[.bool rb, .string rn, .string rd]) ∧ Below W.heap.size W w') :
    Calls Tryz.prog 13 #[.agg #[.bool b, .string s1, .string t1], .agg #[.bool c, .string s2, .string t2]] w fun e w' => e = .returned (.agg #[.bool rb, .string rn, .string rd]) ∧ Below w.heap.size w w' := by
  obtain ⟨V, hV⟩ : ∃ V, V = (((w.alloc (.cells #[.bool b, .string s1, .string t1] 33)).alloc (.cells #[.bool c, .string s2, .string t2] 33)).alloc (.cells #[.bool false, .string ⟨#[]⟩, .string ⟨#[]⟩] 33)) := ⟨_, rfl⟩
  have HS : Hid (F3 w V (.bool b) (.string s1) (.string t1) (.bool c) (.string s2) (.string t2)) := by rw [hV]; exact F3.first _ _ _ _ _ _ _
  have HV := hide hV
  have H1 := hide h1
  have H2 := hide h2
  have H3 := hide h3
  have H4 := hide h4
  have H5 := hide h5
  have H6 := hide h6
  have hbq : (b == c) = false := by rw [beq_eq_false_iff_ne]; exact hbc
  have HC : Hid (∀ w', Below V.heap.size V w' → (w'.cell? ⟨w.heap.size, 0, none⟩ = some (.bool b) ∧ w'.cell? ⟨w.heap.size, 1, none⟩ = some (.string s1) ∧ w'.cell? ⟨w.heap.size, 2, none⟩ = some (.string t1) ∧ w'.cell? ⟨w.heap.size + 1, 0, none⟩ = some (.bool c) ∧ w'.cell? ⟨w.heap.size + 1, 1, none⟩ = some (.string s2) ∧ w'.cell? ⟨w.heap.size + 1, 2, none⟩ = some (.string t2)) ∧ (w'.cell? ⟨w.heap.size + 1 + 1, 0, none⟩ = some (.bool false) ∧ w'.cell? ⟨w.heap.size + 1 + 1, 1, none⟩ = some (.string ⟨#[]⟩) ∧ w'.cell? ⟨w.heap.size + 1 + 1, 2, none⟩ = some (.string ⟨#[]⟩) ∧ w'.frozen? ⟨w.heap.size + 1 + 1, 0, none⟩ = false ∧ w'.frozen? ⟨w.heap.size + 1 + 1, 1, none⟩ = false ∧ w'.frozen? ⟨w.heap.size + 1 + 1, 2, none⟩ = false)) := fun U hb => by
    have s := (unhide HS).later hb
    exact ⟨⟨s.x.c0, s.x.c1, s.x.c2, s.y.c0, s.y.c1, s.y.c2⟩, ⟨s.r.c0, s.r.c1, s.r.c2, s.r.f0, s.r.f1, s.r.f2⟩⟩
  clear h1 h2 h3 h4 h5 hV hbc h6
  go_enter Tryz.func13, Tryz.ntmps13
  go_upto_region 1 with fail
  rw [← unhide HV]
  clear HV
  obtain ⟨⟨t0, t1', t2', t3, t4, t5⟩, _⟩ := unhide HC V (Below.refl _ _)
  go_region_held3 (fun w' => w'.cell? ⟨w.heap.size, 0, none⟩ = some (.bool b) ∧ w'.cell? ⟨w.heap.size, 1, none⟩ = some (.string s1) ∧ w'.cell? ⟨w.heap.size, 2, none⟩ = some (.string t1) ∧ w'.cell? ⟨w.heap.size + 1, 0, none⟩ = some (.bool c) ∧ w'.cell? ⟨w.heap.size + 1, 1, none⟩ = some (.string s2) ∧ w'.cell? ⟨w.heap.size + 1, 2, none⟩ = some (.string t2)) (first | assumption | (refine ⟨?_, ?_, ?_, ?_, ?_, ?_⟩ <;> first | assumption | (simp [go_sem, *]; done) | (rw [World.cell?_setCell_other _ _ _ _ (by simp), World.cell?_setCell_other _ _ _ _ (by simp), World.cell?_setCell_other _ _ _ _ (by simp)]; assumption)) | (simp [go_sem, *]; done)) ((first
    | (go_at_call_of 34 s1; go_must (refine (unhide H1 _).mono ?_; rintro e wa ⟨rfl, hba⟩; have HCA := hide (((Below.refl V.heap.size V).drew).trans hba); clear hba t0 t1' t2' t3 t4 t5; obtain ⟨⟨t0, t1', t2', t3, t4, t5⟩, _⟩ := unhide HC wa (unhide HCA)))
    | (go_at_call_of 34 s2; go_must (refine (unhide H2 _).mono ?_; rintro e wb ⟨rfl, hbb⟩; have HCB := hide ((unhide HCA).trans (hbb.mono (unhide HCA).size)); clear hbb t0 t1' t2' t3 t4 t5; obtain ⟨⟨t0, t1', t2', t3, t4, t5⟩, _⟩ := unhide HC wb (unhide HCB)))
    | (go_at_call 34; go_must (refine (unhide H3 _).mono ?_; rintro e wc ⟨rfl, hbc⟩; have HCC := hide ((unhide HCB).trans (hbc.mono (unhide HCB).size)); clear hbc t0 t1' t2' t3 t4 t5; obtain ⟨⟨t0, t1', t2', t3, t4, t5⟩, _⟩ := unhide HC wc (unhide HCC)))))
  have HD : Hid (∀ w', Below wc.heap.size wc w' → Below V.heap.size V w') := fun U hb => (unhide HCC).trans (hb.mono (unhide HCC).size)
  clear t1' t2' t4 t5 HCA HCB H1 H2 H3
  go_upto_region 5 with (go_at_call 37; go_must (refine (unhide H6 _).mono ?_; rintro e wz ⟨rfl, hwz⟩; obtain rfl : wc = wz := hwz.symm))
  clear t3 hbq
  go_region_held3 (fun w' => w'.cell? ⟨w.heap.size, 0, none⟩ = some (.bool b)) (first | assumption | (simp [go_sem, *]; done) | (rw [World.cell?_setCell_other _ _ _ _ (by simp), World.cell?_setCell_other _ _ _ _ (by simp), World.cell?_setCell_other _ _ _ _ (by simp)]; assumption)) ((first
    | (go_at_call 38; go_must (refine (unhide H4 _).mono ?_; rintro e wd ⟨rfl, hbd⟩; have HCD := hide (((Below.refl wc.heap.size wc).drew).trans hbd); clear hbd t0; obtain ⟨⟨t0, t1', t2', t3, t4, t5⟩, _⟩ := unhide HC wd (unhide HD wd (unhide HCD)); clear t1' t2' t3 t4 t5))
    | (go_at_call 35; go_must (refine (unhide H5 _).mono ?_; rintro e we ⟨rfl, hbe⟩; have HCE := hide (unhide HD we ((unhide HCD).trans (hbe.mono (unhide HCD).size))); clear hbe t0; obtain ⟨⟨t0, t1', t2', t3, t4, t5⟩, ⟨r0, r1, r2, rf0, rf1, rf2⟩⟩ := unhide HC we (unhide HCE); clear t1' t2' t3 t4 t5))))
  have HS1 := hide ((unhide HS).later (unhide HCE))
  clear r0 r1 r2 rf0 rf1 rf2
  have hS := (unhide HS1).r.store (.bool rb) (.string rn) (.string rd)
  have hb : Below w.heap.size w (store3 we (w.heap.size + 1 + 1) (.bool rb) (.string rn) (.string rd)) := below_store3 (unhide HS1).below (by omega) _ _ _
  obtain ⟨V9, hV9⟩ : ∃ V9, V9 = store3 we (w.heap.size + 1 + 1) (.bool rb) (.string rn) (.string rd) := ⟨_, rfl⟩
  have hV9' : V9 = ((we.setCell ⟨w.heap.size + 1 + 1, 0, none⟩ (.bool rb)).setCell ⟨w.heap.size + 1 + 1, 1, none⟩ (.string rn)).setCell ⟨w.heap.size + 1 + 1, 2, none⟩ (.string rd) := hV9
  have u0 := hS.c0; have u1 := hS.c1; have u2 := hS.c2
  rw [← hV9] at u0 u1 u2 hb
  rw [← hV9']
  have HB9 := hide hb
  clear hV9 hV9' hS hb t0
  go_wp2_with fail
  exact bodyPost_ret (v := .agg #[.bool rb, .string rn, .string rd]) (by simp [results, Tryz.results13, go_sem, u0, u1, u2]) rfl ⟨rfl, unhide HB9⟩

end Go.Proofs.YtimihoonnglniaaGreatDoor

namespace Go.Proofs.YtimihoonnglniaaGreatDoor
open Go.RowKit

set_option maxRecDepth 100000 in
set_option maxHeartbeats 2000000 in
theorem refFPlusC (b c rb : Bool) (s1 t1 s2 t2 x y d n rn rd : ByteArray) (w : World) (k : Int) (hbc : b ≠ c) (hk : ¬ 0 ≤ k)
    (h6 : ∀ W, Calls Tryz.prog 37 #[.string x, .string y] W fun e w' => e = .returned (.int .i64 k) ∧ w' = W)
    (h4 : ∀ W, Calls Tryz.prog 38 #[.string y, .string x] W fun e w' => e = .returned (.string n) ∧ Below W.heap.size W w')
    (h1 : ∀ W, Calls Tryz.prog 34 #[.string s1, .string t2] W fun e w' => e = .returned (.string x) ∧ Below W.heap.size W w')
    (h2 : ∀ W, Calls Tryz.prog 34 #[.string s2, .string t1] W fun e w' => e = .returned (.string y) ∧ Below W.heap.size W w')
    (h3 : ∀ W, Calls Tryz.prog 34 #[.string t1, .string t2] W fun e w' => e = .returned (.string d) ∧ Below W.heap.size W w')
    (h5 : ∀ W, Calls Tryz.prog 35 #[.bool c, .string n, .string d] W fun e w' => e = .returned (.agg #[.bool rb, .string rn, .string rd]) ∧ Below W.heap.size W w') :
    Calls Tryz.prog 13 #[.agg #[.bool b, .string s1, .string t1], .agg #[.bool c, .string s2, .string t2]] w fun e w' => e = .returned (.agg #[.bool rb, .string rn, .string rd]) ∧ Below w.heap.size w w' := by
  obtain ⟨V, hV⟩ : ∃ V, V = (((w.alloc (.cells #[.bool b, .string s1, .string t1] 33)).alloc (.cells #[.bool c, .string s2, .string t2] 33)).alloc (.cells #[.bool false, .string ⟨#[]⟩, .string ⟨#[]⟩] 33)) := ⟨_, rfl⟩
  have HS : Hid (F3 w V (.bool b) (.string s1) (.string t1) (.bool c) (.string s2) (.string t2)) := by rw [hV]; exact F3.first _ _ _ _ _ _ _
  have HV := hide hV
  have H1 := hide h1
  have H2 := hide h2
  have H3 := hide h3
  have H4 := hide h4
  have H5 := hide h5
  have H6 := hide h6
  have hbq : (b == c) = false := by rw [beq_eq_false_iff_ne]; exact hbc
  have HC : Hid (∀ w', Below V.heap.size V w' → (w'.cell? ⟨w.heap.size, 0, none⟩ = some (.bool b) ∧ w'.cell? ⟨w.heap.size, 1, none⟩ = some (.string s1) ∧ w'.cell? ⟨w.heap.size, 2, none⟩ = some (.string t1) ∧ w'.cell? ⟨w.heap.size + 1, 0, none⟩ = some (.bool c) ∧ w'.cell? ⟨w.heap.size + 1, 1, none⟩ = some (.string s2) ∧ w'.cell? ⟨w.heap.size + 1, 2, none⟩ = some (.string t2)) ∧ (w'.cell? ⟨w.heap.size + 1 + 1, 0, none⟩ = some (.bool false) ∧ w'.cell? ⟨w.heap.size + 1 + 1, 1, none⟩ = some (.string ⟨#[]⟩) ∧ w'.cell? ⟨w.heap.size + 1 + 1, 2, none⟩ = some (.string ⟨#[]⟩) ∧ w'.frozen? ⟨w.heap.size + 1 + 1, 0, none⟩ = false ∧ w'.frozen? ⟨w.heap.size + 1 + 1, 1, none⟩ = false ∧ w'.frozen? ⟨w.heap.size + 1 + 1, 2, none⟩ = false)) := fun U hb => by
    have s := (unhide HS).later hb
    exact ⟨⟨s.x.c0, s.x.c1, s.x.c2, s.y.c0, s.y.c1, s.y.c2⟩, ⟨s.r.c0, s.r.c1, s.r.c2, s.r.f0, s.r.f1, s.r.f2⟩⟩
  clear h1 h2 h3 h4 h5 hV hbc h6
  go_enter Tryz.func13, Tryz.ntmps13
  go_upto_region 1 with fail
  rw [← unhide HV]
  clear HV
  obtain ⟨⟨t0, t1', t2', t3, t4, t5⟩, _⟩ := unhide HC V (Below.refl _ _)
  go_region_held3 (fun w' => w'.cell? ⟨w.heap.size, 0, none⟩ = some (.bool b) ∧ w'.cell? ⟨w.heap.size, 1, none⟩ = some (.string s1) ∧ w'.cell? ⟨w.heap.size, 2, none⟩ = some (.string t1) ∧ w'.cell? ⟨w.heap.size + 1, 0, none⟩ = some (.bool c) ∧ w'.cell? ⟨w.heap.size + 1, 1, none⟩ = some (.string s2) ∧ w'.cell? ⟨w.heap.size + 1, 2, none⟩ = some (.string t2)) (first | assumption | (refine ⟨?_, ?_, ?_, ?_, ?_, ?_⟩ <;> first | assumption | (simp [go_sem, *]; done) | (rw [World.cell?_setCell_other _ _ _ _ (by simp), World.cell?_setCell_other _ _ _ _ (by simp), World.cell?_setCell_other _ _ _ _ (by simp)]; assumption)) | (simp [go_sem, *]; done)) ((first
    | (go_at_call_of 34 s1; go_must (refine (unhide H1 _).mono ?_; rintro e wa ⟨rfl, hba⟩; have HCA := hide (((Below.refl V.heap.size V).drew).trans hba); clear hba t0 t1' t2' t3 t4 t5; obtain ⟨⟨t0, t1', t2', t3, t4, t5⟩, _⟩ := unhide HC wa (unhide HCA)))
    | (go_at_call_of 34 s2; go_must (refine (unhide H2 _).mono ?_; rintro e wb ⟨rfl, hbb⟩; have HCB := hide ((unhide HCA).trans (hbb.mono (unhide HCA).size)); clear hbb t0 t1' t2' t3 t4 t5; obtain ⟨⟨t0, t1', t2', t3, t4, t5⟩, _⟩ := unhide HC wb (unhide HCB)))
    | (go_at_call 34; go_must (refine (unhide H3 _).mono ?_; rintro e wc ⟨rfl, hbc⟩; have HCC := hide ((unhide HCB).trans (hbc.mono (unhide HCB).size)); clear hbc t0 t1' t2' t3 t4 t5; obtain ⟨⟨t0, t1', t2', t3, t4, t5⟩, _⟩ := unhide HC wc (unhide HCC)))))
  have HD : Hid (∀ w', Below wc.heap.size wc w' → Below V.heap.size V w') := fun U hb => (unhide HCC).trans (hb.mono (unhide HCC).size)
  clear t1' t2' t4 t5 HCA HCB H1 H2 H3
  go_upto_region 6 with (go_at_call 37; go_must (refine (unhide H6 _).mono ?_; rintro e wz ⟨rfl, hwz⟩; obtain rfl : wc = wz := hwz.symm))
  clear t0 hbq
  go_region_held3 (fun w' => w'.cell? ⟨w.heap.size + 1, 0, none⟩ = some (.bool c)) (first | assumption | (simp [go_sem, *]; done) | (rw [World.cell?_setCell_other _ _ _ _ (by simp), World.cell?_setCell_other _ _ _ _ (by simp), World.cell?_setCell_other _ _ _ _ (by simp)]; assumption)) ((first
    | (go_at_call 38; go_must (refine (unhide H4 _).mono ?_; rintro e wd ⟨rfl, hbd⟩; have HCD := hide (((Below.refl wc.heap.size wc).drew).trans hbd); clear hbd t3; obtain ⟨⟨t0, t1', t2', t3, t4, t5⟩, _⟩ := unhide HC wd (unhide HD wd (unhide HCD)); clear t1' t2' t0 t4 t5))
    | (go_at_call 35; go_must (refine (unhide H5 _).mono ?_; rintro e we ⟨rfl, hbe⟩; have HCE := hide (unhide HD we ((unhide HCD).trans (hbe.mono (unhide HCD).size))); clear hbe t3; obtain ⟨⟨t0, t1', t2', t3, t4, t5⟩, ⟨r0, r1, r2, rf0, rf1, rf2⟩⟩ := unhide HC we (unhide HCE); clear t1' t2' t0 t4 t5))))
  have HS1 := hide ((unhide HS).later (unhide HCE))
  clear r0 r1 r2 rf0 rf1 rf2
  have hS := (unhide HS1).r.store (.bool rb) (.string rn) (.string rd)
  have hb : Below w.heap.size w (store3 we (w.heap.size + 1 + 1) (.bool rb) (.string rn) (.string rd)) := below_store3 (unhide HS1).below (by omega) _ _ _
  obtain ⟨V9, hV9⟩ : ∃ V9, V9 = store3 we (w.heap.size + 1 + 1) (.bool rb) (.string rn) (.string rd) := ⟨_, rfl⟩
  have hV9' : V9 = ((we.setCell ⟨w.heap.size + 1 + 1, 0, none⟩ (.bool rb)).setCell ⟨w.heap.size + 1 + 1, 1, none⟩ (.string rn)).setCell ⟨w.heap.size + 1 + 1, 2, none⟩ (.string rd) := hV9
  have u0 := hS.c0; have u1 := hS.c1; have u2 := hS.c2
  rw [← hV9] at u0 u1 u2 hb
  rw [← hV9']
  have HB9 := hide hb
  clear hV9 hV9' hS hb t3
  go_wp2_with fail
  exact bodyPost_ret (v := .agg #[.bool rb, .string rn, .string rd]) (by simp [results, Tryz.results13, go_sem, u0, u1, u2]) rfl ⟨rfl, unhide HB9⟩

end Go.Proofs.YtimihoonnglniaaGreatDoor

namespace Go.Proofs.YtimihoonnglniaaGreatDoor
open Go.RowKit

/-- The document's fraction of a value. -/
def fx (x : Rat) : Value := .agg #[.bool (decide (x < 0)), .string (tx x.num.natAbs), .string (tx x.den)]
/-- Both its numbers have at most d digits. -/
def Bd (d : Nat) (x : Rat) : Prop := x.num.natAbs < 10 ^ d ∧ x.den < 10 ^ d
theorem fx_of {b : Bool} {n d : Nat} (h : Cub.Low b n d) : (Value.agg #[.bool b, .string (tx n), .string (tx d)]) = fx (Cub.valQ b n d) := by
  obtain ⟨e1, e2, e3⟩ := Cub.low_is h
  unfold fx
  rw [← e1, ← e2, ← e3]
theorem fx_low (b : Bool) (n d : Nat) (hd : 0 < d) : (Value.agg #[.bool (b && decide (n / Nat.gcd n d ≠ 0)), .string (tx (n / Nat.gcd n d)), .string (tx (d / Nat.gcd n d))]) = fx (Cub.valQ b n d) := by
  obtain ⟨h1, h2⟩ := Cub.ratio_low (b := b) (n := n) hd
  rw [fx_of h1, h2]
theorem valQ_mul {b c : Bool} {n d m e : Nat} (hd : 0 < d) (he : 0 < e) : Cub.valQ (b != c) (n * m) (d * e) = Cub.valQ b n d * Cub.valQ c m e := by
  have h1 : ((d : Nat) : Rat) ≠ 0 := Cub.dR hd
  have h2 : ((e : Nat) : Rat) ≠ 0 := Cub.dR he
  unfold Cub.valQ
  rw [← Cub.sg_mul]
  push_cast
  grind
theorem pow_two (d a b : Nat) (ha : a < 10 ^ d) (hb : b < 10 ^ d) : a * b < 10 ^ (d + d) := by
  rw [Nat.pow_add]; exact Nat.mul_lt_mul'' ha hb
theorem pow_up {d e a : Nat} (ha : a < 10 ^ d) (h : d ≤ e) : a < 10 ^ e := Nat.lt_of_lt_of_le ha (Nat.pow_le_pow_right (by decide) h)
theorem pow_sum (d a b : Nat) (ha : a < 10 ^ d) (hb : b < 10 ^ d) : a + b < 10 ^ (d + 1) := by
  rw [Nat.pow_succ]; omega

theorem refFTimes (d : Nat) (x y : Rat) (w : World) (hd1 : 1 ≤ d) (hd : d + d ≤ 5000) (hx : Bd d x) (hy : Bd d y) :
    Calls Tryz.prog 29 #[fx x, fx y] w fun e w' => e = .returned (fx (x * y)) ∧ Below w.heap.size w w' := by
  have px := x.den_pos
  have py := y.den_pos
  have e := valQ_mul (b := decide (x < 0)) (c := decide (y < 0)) (n := x.num.natAbs) (m := y.num.natAbs) px py
  rw [(Cub.low_of x).2, (Cub.low_of y).2] at e
  rw [← e, ← fx_low _ _ _ (Nat.mul_pos px py)]
  exact refFTimes_walk _ _ _ _ _ _ _ _ _ _ _ w (fun W => refTimesM d _ _ W hd1 (by omega) hx.1 hy.1) (fun W => refTimesM d _ _ W hd1 (by omega) hx.2 hy.2)
    (fun W => refLowestM (d + d) _ _ _ W (by omega) hd (pow_two d _ _ hx.1 hy.1) (pow_two d _ _ hx.2 hy.2) (by have := Nat.mul_pos px py; omega))

theorem refFPlus (d : Nat) (x y : Rat) (w : World) (hd1 : 1 ≤ d) (hd : d + d + 1 ≤ 5000) (hx : Bd d x) (hy : Bd d y) :
    Calls Tryz.prog 13 #[fx x, fx y] w fun e w' => e = .returned (fx (x + y)) ∧ Below w.heap.size w w' := by
  have px := x.den_pos
  have py := y.den_pos
  have hD := Nat.mul_pos px py
  have hD0 : x.den * y.den ≠ 0 := by omega
  have lx := Cub.low_of x
  have ly := Cub.low_of y
  have bX := pow_two d _ _ hx.1 hy.2
  have bY := pow_two d _ _ hy.1 hx.2
  have bD := pow_two d _ _ hx.2 hy.2
  have T1 := fun W => refTimesM d _ _ W hd1 (by omega) hx.1 hy.2
  have T2 := fun W => refTimesM d _ _ W hd1 (by omega) hy.1 hx.2
  have T3 := fun W => refTimesM d _ _ W hd1 (by omega) hx.2 hy.2
  have key : ∀ bb m, (bb, m) = Cub.addSg (decide (x < 0)) (x.num.natAbs * y.den) (decide (y < 0)) (y.num.natAbs * x.den) → fx (x + y) = .agg #[.bool (bb && decide (m / Nat.gcd m (x.den * y.den) ≠ 0)), .string (tx (m / Nat.gcd m (x.den * y.den))), .string (tx (x.den * y.den / Nat.gcd m (x.den * y.den)))] := fun bb m hm => by
    have e := Cub.refAdd_val lx.1 ly.1 hm
    rw [lx.2, ly.2] at e
    rw [← e, ← fx_low _ _ _ hD]
  have L := fun bb m (hm : m < 10 ^ (d + d + 1)) W => refLowestM (d + d + 1) bb m (x.den * y.den) W (by omega) hd hm (pow_up bD (by omega)) hD0
  unfold Cub.addSg at key
  by_cases hs : decide (x < 0) = decide (y < 0)
  · rw [if_pos hs] at key
    rw [key _ _ rfl]
    exact refFPlusA _ _ _ _ _ _ _ _ _ _ _ _ _ w hs (fun W => refPlusM (d + d) _ _ W (by omega) (by omega) bX bY) T1 T2 T3 (fun W => L _ _ (pow_sum (d + d) _ _ bX bY) W)
  · rw [if_neg hs] at key
    have C := fun W => refCompareM (x.num.natAbs * y.den) (y.num.natAbs * x.den) W
    by_cases hl : x.num.natAbs * y.den < y.num.natAbs * x.den
    · rw [if_pos hl] at key
      rw [key _ _ rfl]
      exact refFPlusC _ _ _ _ _ _ _ _ _ _ _ _ _ w _ hs (by unfold Cub.cmpN; rw [if_pos hl]; decide) C (fun W => refMinusM (d + d) _ _ W (by omega) (by omega) bY bX (Nat.le_of_lt hl)) T1 T2 T3 (fun W => L _ _ (pow_up (Nat.lt_of_le_of_lt (Nat.sub_le _ _) bY) (by omega)) W)
    · rw [if_neg hl] at key
      rw [key _ _ rfl]
      exact refFPlusB _ _ _ _ _ _ _ _ _ _ _ _ _ w _ hs (by unfold Cub.cmpN; rw [if_neg hl]; split <;> decide) C (fun W => refMinusM (d + d) _ _ W (by omega) (by omega) bX bY (Nat.le_of_not_lt hl)) T1 T2 T3 (fun W => L _ _ (pow_up (Nat.lt_of_le_of_lt (Nat.sub_le _ _) bX) (by omega)) W)

end Go.Proofs.YtimihoonnglniaaGreatDoor

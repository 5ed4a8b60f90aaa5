/- A whole number as the document has it. -/
import Derived.Test.YtimihoonnglniaaGreatDoorBoxes
import Derived.Deep.Quiet
import Derived.Test.YtimihoonnglniaaGreatDoorFCmp
import Derived.Deep.RegionHeld3
import Derived.Test.YtimihoonnglniaaGreatDoorRefLimbs
import Derived.Test.YtimihoonnglniaaGreatDoorRefVal
import Derived.Test.YtimihoonnglniaaGreatDoorQuo
import Derived.Test.YtimihoonnglniaaGreatDoorRefFr
import Derived.Lib.ItoaLen
namespace Go.Proofs.YtimihoonnglniaaGreatDoor
open Go.RowKit
theorem bd_val (b : Bool) {n d k : Nat} (hd : 0 < d) (hn : n < 10 ^ k) (hdk : d < 10 ^ k) : Bd k (Cub.valQ b n d) := by
  obtain ⟨h1, h2⟩ := Cub.ratio_low (b := b) (n := n) hd
  obtain ⟨_, e2, e3⟩ := Cub.low_is h1
  rw [h2] at e2 e3
  exact ⟨by rw [← e2]; exact Nat.lt_of_le_of_lt (Nat.div_le_self _ _) hn, by rw [← e3]; exact Nat.lt_of_le_of_lt (Nat.div_le_self _ _) hdk⟩
theorem bd_neg {d : Nat} {x : Rat} (hx : Bd d x) : Bd d (-x) := by
  have lx := Cub.low_of x
  obtain ⟨h1, h2⟩ := Cub.neg_low lx.1
  rw [lx.2] at h2
  rw [← h2]
  exact bd_val _ x.den_pos hx.1 hx.2
set_option maxRecDepth 100000 in
set_option maxHeartbeats 2000000 in
theorem refCompare_walk (b1 b2 b3 b4 z : Bool) (s1 t1 s2 t2 s3 t3 s4 t4 : ByteArray) (w : World)
    (hm : ∀ W, Calls Tryz.prog 15 #[.agg #[.bool b2, .string s2, .string t2]] W fun r w' => r = .returned (.agg #[.bool b3, .string s3, .string t3]) ∧ Below W.heap.size W w')
    (hp : ∀ W, Calls Tryz.prog 13 #[.agg #[.bool b1, .string s1, .string t1], .agg #[.bool b3, .string s3, .string t3]] W fun r w' => r = .returned (.agg #[.bool b4, .string s4, .string t4]) ∧ Below W.heap.size W w')
    (hz : (s4.toList == [48]) = z) :
    Calls Tryz.prog 16 #[.agg #[.bool b1, .string s1, .string t1], .agg #[.bool b2, .string s2, .string t2]] w fun r w' => r = .returned (.int .i64 (if z then 0 else if b4 then -1 else 1)) ∧ Below w.heap.size w w' := by
  obtain ⟨V, hV⟩ : ∃ V, V = (w.alloc (.cells #[.bool b1, .string s1, .string t1] 33)).alloc (.cells #[.bool b2, .string s2, .string t2] 33) := ⟨_, rfl⟩
  have HB : Hid (Below w.heap.size w V) := by rw [hV]; exact ((Below.refl _ _).alloc (Nat.le_refl _) _).alloc (by simp) _
  have HF : Hid (FBox V w.heap.size (.bool b1) (.string s1) (.string t1)) := by rw [hV]; exact ⟨by simp [go_sem], by simp [go_sem], by simp [go_sem], by simp [go_sem], by simp [go_sem], by simp [go_sem]⟩
  have HG : Hid (FBox V (w.heap.size + 1) (.bool b2) (.string s2) (.string t2)) := by rw [hV]; exact ⟨by simp [go_sem], by simp [go_sem], by simp [go_sem], by simp [go_sem], by simp [go_sem], by simp [go_sem]⟩
  have HV := hide hV
  have HM := hide hm; have HP := hide hp
  clear hm hp
  go_enter Tryz.func16, Tryz.ntmps16
  go_upto_region 1 with fail
  rw [← unhide HV]
  clear hV HV
  have HFX : Hid (∀ X, Below V.heap.size V X → X.cell? ⟨w.heap.size, 0, none⟩ = some (.bool b1) ∧ X.cell? ⟨w.heap.size, 1, none⟩ = some (.string s1) ∧ X.cell? ⟨w.heap.size, 2, none⟩ = some (.string t1) ∧ X.cell? ⟨w.heap.size + 1, 0, none⟩ = some (.bool b2) ∧ X.cell? ⟨w.heap.size + 1, 1, none⟩ = some (.string s2) ∧ X.cell? ⟨w.heap.size + 1, 2, none⟩ = some (.string t2)) := fun X h => ⟨((unhide HF).later h).c0, ((unhide HF).later h).c1, ((unhide HF).later h).c2, ((unhide HG).later h).c0, ((unhide HG).later h).c1, ((unhide HG).later h).c2⟩
  obtain ⟨c0, c1, c2, c3, c4, c5⟩ := unhide HFX V (Below.refl _ _)
  have zl : w.heap.size < V.heap.size := (unhide HF).lt
  have zl2 : w.heap.size + 1 < V.heap.size := (unhide HG).lt
  have kv : V.heap.size ≠ w.heap.size := by omega
  have kv' : V.heap.size ≠ w.heap.size + 1 := by omega
  clear HF HG
  go_region_held3 (fun w' => w'.cell? ⟨w.heap.size, 0, none⟩ = some (.bool b1) ∧ w'.cell? ⟨w.heap.size, 1, none⟩ = some (.string s1) ∧ w'.cell? ⟨w.heap.size, 2, none⟩ = some (.string t1) ∧ w'.cell? ⟨w.heap.size + 1, 0, none⟩ = some (.bool b2) ∧ w'.cell? ⟨w.heap.size + 1, 1, none⟩ = some (.string s2) ∧ w'.cell? ⟨w.heap.size + 1, 2, none⟩ = some (.string t2)) (first | assumption | (refine ⟨?_, ?_, ?_, ?_, ?_, ?_⟩ <;> first | assumption | ((rw [World.cell?_setCell_far, World.cell?_setCell_far, World.cell?_setCell_far] <;> first | assumption | (simp [*, World.cell?_alloc_some]; done)); done) | (simp [*, World.cell?_alloc_some]; done))) ((first
    | (go_at_call 15; go_must (refine (unhide HM _).mono ?_; rintro e wa ⟨rfl, hba⟩; first
        | (have HCA := hide (((Below.refl V.heap.size V).drew).trans hba))
        | (have HCA := hide ((((Below.refl V.heap.size V).drew).alloc (Nat.le_refl _) (.cells #[.bool false, .string ⟨#[]⟩, .string ⟨#[]⟩] 33)).trans (hba.mono (by simp))); have HN : Hid (FBox wa V.heap.size (.bool false) (.string ⟨#[]⟩) (.string ⟨#[]⟩)) := hide ((FBox.new61 V.drew (.bool false) (.string ⟨#[]⟩) (.string ⟨#[]⟩)).later hba))); clear hba c0 c1 c2 c3 c4 c5; obtain ⟨c0, c1, c2, c3, c4, c5⟩ := unhide HFX wa (unhide HCA); have ka : wa.heap.size ≠ w.heap.size := (by have := (unhide HCA).size; omega); have ka' : wa.heap.size ≠ w.heap.size + 1 := (by have := (unhide HCA).size; omega))
    | (go_at_call 13; go_must (refine (unhide HP _).mono ?_; rintro e wb ⟨rfl, hbb⟩; first
        | (have HCB := hide ((unhide HCA).trans (hbb.mono (unhide HCA).size)); first | (have HN2 := hide ((unhide HN).later hbb)) | skip)
        | (have HCB := hide ((unhide HCA).trans ((((Below.refl wa.heap.size wa)).alloc (Nat.le_refl _) (.cells #[.bool false, .string ⟨#[]⟩, .string ⟨#[]⟩] 33)).trans (hbb.mono (by simp)) |>.mono (unhide HCA).size)); have HN2 := hide ((FBox.new61 wa (.bool false) (.string ⟨#[]⟩) (.string ⟨#[]⟩)).later hbb))); clear hbb c0 c1 c2 c3 c4 c5; obtain ⟨c0, c1, c2, c3, c4, c5⟩ := unhide HFX wb (unhide HCB); have kb : wb.heap.size ≠ w.heap.size := (by have := (unhide HCB).size; omega); have kb' : wb.heap.size ≠ w.heap.size + 1 := (by have := (unhide HCB).size; omega); first | (have n0 := (unhide HN2).c0; have n1 := (unhide HN2).c1; have n2 := (unhide HN2).c2; have nf0 := (unhide HN2).f0; have nf1 := (unhide HN2).f1; have nf2 := (unhide HN2).f2) | skip)))
  · obtain ⟨X, hX⟩ : ∃ X, X = wb.alloc (.cells #[.bool b4, .string s4, .string t4] 33) := ⟨_, rfl⟩
    have hb : Below V.heap.size V X := by rw [hX]; exact (unhide HCB).alloc (unhide HCB).size _
    have q : FBox X wb.heap.size (.bool b4) (.string s4) (.string t4) := by rw [hX]; exact FBox.new61 _ _ _ _
    have HE : Hid (Below w.heap.size w X) := (unhide HB).trans (hb.mono (unhide HB).size)
    rw [← hX]
    clear hX hb HM HP HFX c0 c1 c2 c3 c4 c5 ka ka' kb kb' kv kv' zl zl2
    have d0 := q.c0; have d1 := q.c1
    clear q
    cases z <;> cases b4 <;> (
      go_wp2_with fail
      go_ret
      exact ⟨by simp, unhide HE⟩)
  · obtain ⟨X, hX⟩ : ∃ X, X = ((wb.setCell ⟨wa.heap.size, 0, none⟩ (.bool b4)).setCell ⟨wa.heap.size, 1, none⟩ (.string s4)).setCell ⟨wa.heap.size, 2, none⟩ (.string t4) := ⟨_, rfl⟩
    have hb : Below V.heap.size V X := by rw [hX]; exact below_store3 (unhide HCB) (unhide HCA).size _ _ _
    have q : FBox X wa.heap.size (.bool b4) (.string s4) (.string t4) := by rw [hX]; exact (unhide HN2).store _ _ _
    have HE : Hid (Below w.heap.size w X) := (unhide HB).trans (hb.mono (unhide HB).size)
    rw [← hX]
    clear hX hb HM HP HFX c0 c1 c2 c3 c4 c5 ka ka' kb kb' kv kv' zl zl2
    have d0 := q.c0; have d1 := q.c1
    clear q
    cases z <;> cases b4 <;> (
      go_wp2_with fail
      go_ret
      exact ⟨by simp, unhide HE⟩)
  · obtain ⟨X, hX⟩ : ∃ X, X = ((wb.setCell ⟨V.heap.size, 0, none⟩ (.bool b4)).setCell ⟨V.heap.size, 1, none⟩ (.string s4)).setCell ⟨V.heap.size, 2, none⟩ (.string t4) := ⟨_, rfl⟩
    have hb : Below V.heap.size V X := by rw [hX]; exact below_store3 (unhide HCB) (Nat.le_refl _) _ _ _
    have q : FBox X V.heap.size (.bool b4) (.string s4) (.string t4) := by rw [hX]; exact (unhide HN2).store _ _ _
    have HE : Hid (Below w.heap.size w X) := (unhide HB).trans (hb.mono (unhide HB).size)
    rw [← hX]
    clear hX hb HM HP HFX c0 c1 c2 c3 c4 c5 ka ka' kb kb' kv kv' zl zl2
    have d0 := q.c0; have d1 := q.c1
    clear q
    cases z <;> cases b4 <;> (
      go_wp2_with fail
      go_ret
      exact ⟨by simp, unhide HE⟩)
/-- The document's Compare of two numbers. -/
theorem refCompare (d : Nat) (x y : Rat) (w : World) (hd1 : 1 ≤ d) (hd : d + d + 1 ≤ 5000) (hx : Bd d x) (hy : Bd d y) :
    Calls Tryz.prog 16 #[fx x, fx y] w fun r w' => r = .returned (.int .i64 (Cub.cmpQ x y)) ∧ Below w.heap.size w w' := by
  have h0 : ((tx (x + -y).num.natAbs).toList == [48]) = decide (x + -y = 0) := by
    by_cases e : (x + -y).num.natAbs = 0
    · rw [e, tx_zero, decide_eq_true (Rat.num_eq_zero.1 (Int.natAbs_eq_zero.1 e))]
    · rw [tx_pos _ (by omega), decide_eq_false (fun e' => e (by rw [e']; rfl))]
  have h := refCompare_walk _ _ _ (decide (x + -y < 0)) _ _ _ _ _ _ _ (tx (x + -y).num.natAbs) (tx (x + -y).den) w (fun W => refFMinus y W) (fun W => refFPlus d x (-y) W hd1 hd hx (bd_neg hy)) h0
  have e : (if decide (x + -y = 0) = true then (0 : Int) else if decide (x + -y < 0) = true then -1 else 1) = Cub.cmpQ x y := by
    unfold Cub.cmpQ
    rw [← Rat.sub_eq_add_neg]
    simp only [decide_eq_true_eq]
    grind
  rw [e] at h
  exact h
end Go.Proofs.YtimihoonnglniaaGreatDoor

namespace Go.Proofs.YtimihoonnglniaaGreatDoor
open Go.RowKit

theorem neg_form (num : ByteArray) : (isNeg num = true ∧ 0 < num.size ∧ num.toList.isEmpty = false ∧ (∀ h : 0 < num.size, (num[0].toNat : Int) = 45) ∧ num.extract 1 num.size = digT num) ∨ (isNeg num = false ∧ digT num = num ∧ (num.toList.isEmpty = true ∨ (0 < num.size ∧ num.toList.isEmpty = false ∧ ∀ h : 0 < num.size, ((num[0].toNat : Int) == 45) = false))) := by
  rcases Nat.eq_zero_or_pos num.size with hz | hp
  · right
    have hl : num.data.toList = [] := by rw [← List.length_eq_zero_iff, list_len]; exact hz
    have hn : isNeg num = false := by unfold isNeg; rw [hl]; rfl
    exact ⟨hn, by unfold digT; rw [if_neg (by rw [hn]; decide)], Or.inl (empty_of num hz)⟩
  · have hh := list_head num hp
    by_cases hn : isNeg num = true
    · left
      have h45 : num[0] = 45 := by unfold isNeg at hn; rw [hh] at hn; simpa using hn
      refine ⟨hn, hp, not_empty_of num hp, fun _ => (byte_45 _).2 h45, ?_⟩
      apply bytes_ext
      rw [ext1, digT_list, if_pos hn]
    · right
      have hn' : isNeg num = false := by simpa using hn
      refine ⟨hn', by unfold digT; rw [if_neg hn], Or.inr ⟨hp, not_empty_of num hp, fun _ => ?_⟩⟩
      rw [beq_eq_false_iff_ne]
      intro e
      apply hn
      unfold isNeg
      rw [hh, (byte_45 _).1 e]; rfl
end Go.Proofs.YtimihoonnglniaaGreatDoor

namespace Go.Proofs.YtimihoonnglniaaGreatDoor
open Go.RowKit

set_option maxRecDepth 100000 in
set_option maxHeartbeats 2000000 in
theorem refRead_walk (num den ds : ByteArray) (b : Bool) (w : World) (hm : num.size ≤ 9223372036854775807) (hd : den.toList.isEmpty = false)
    (hneg : (b = true ∧ 0 < num.size ∧ num.toList.isEmpty = false ∧ (∀ h : 0 < num.size, (num[0].toNat : Int) = 45) ∧ num.extract 1 num.size = ds) ∨ (b = false ∧ ds = num ∧ (0 < num.size ∧ num.toList.isEmpty = false ∧ ∀ h : 0 < num.size, ((num[0].toNat : Int) == 45) = false))) :
    Calls Tryz.prog 14 #[.agg #[.string num, .string den]] w fun r w' => r = .returned (.agg #[.bool b, .string ds, .string den]) ∧ Below w.heap.size w w' := by
  obtain ⟨V, hV⟩ : ∃ V, V = (w.alloc (.cells #[.string num, .string den] 23)).alloc (.cells #[.bool false, .string ⟨#[]⟩, .string ⟨#[]⟩] 33) := ⟨_, rfl⟩
  have HB : Hid (Below w.heap.size w V) := by rw [hV]; exact ((Below.refl _ _).alloc (Nat.le_refl _) _).alloc (by simp) _
  have HR : Hid (FBox V (w.heap.size + 1) (.bool false) (.string ⟨#[]⟩) (.string ⟨#[]⟩)) := by rw [hV]; exact ⟨by simp [go_sem], by simp [go_sem], by simp [go_sem], by simp [go_sem], by simp [go_sem], by simp [go_sem]⟩
  have HC : Hid (V.cell? ⟨w.heap.size, 0, none⟩ = some (.string num) ∧ V.cell? ⟨w.heap.size, 1, none⟩ = some (.string den)) := by rw [hV]; exact ⟨by simp [go_sem], by simp [go_sem]⟩
  have HV := hide hV
  have hS := (unhide HR).store (.bool b) (.string ds) (.string den)
  have HB9 : Hid (Below w.heap.size w (store3 V (w.heap.size + 1) (.bool b) (.string ds) (.string den))) := below_store3 (unhide HB) (by omega) _ _ _
  have u0 := hS.c0; have u1 := hS.c1; have u2 := hS.c2
  obtain ⟨t0, t1⟩ := unhide HC
  have r0 := (unhide HR).c0; have r1 := (unhide HR).c1; have r2 := (unhide HR).c2; have rf0 := (unhide HR).f0; have rf1 := (unhide HR).f1; have rf2 := (unhide HR).f2
  rcases hneg with ⟨rfl, hp, he, h45, hds⟩ | ⟨rfl, rfl, hp, he, h45⟩
  · have h45' := h45 hp
    have hs' : (0 : Int) < (num.size : Int) := by omega
    have hs1 : (1 : Int) ≤ (num.size : Int) := by omega
    have HDS := hide hds
    clear hds h45 hS
    go_enter Tryz.func14, Tryz.ntmps14
    go_upto_region 1 with fail
    rw [← unhide HV]
    clear hV HV
    go_upto_region 4 with fail
    go_region
    rw [unhide HDS]
    obtain ⟨U, hU⟩ : ∃ U, U = (((V.setCell ⟨w.heap.size + 1, 0, none⟩ (.bool true)).setCell ⟨w.heap.size + 1, 1, none⟩ (.string ds)).setCell ⟨w.heap.size + 1, 2, none⟩ (.string den)).drew := ⟨_, rfl⟩
    have HBU : Hid (Below w.heap.size w U) := by rw [hU]; exact (unhide HB9).trans (((Below.refl _ _).drew).mono (unhide HB9).size)
    have q0 : U.cell? ⟨w.heap.size + 1, 0, none⟩ = some (.bool true) := by rw [hU]; exact u0
    have q1 : U.cell? ⟨w.heap.size + 1, 1, none⟩ = some (.string ds) := by rw [hU]; exact u1
    have q2 : U.cell? ⟨w.heap.size + 1, 2, none⟩ = some (.string den) := by rw [hU]; exact u2
    rw [← hU]
    clear hU u0 u1 u2 r0 r1 r2 rf0 rf1 rf2 t0 t1 HB9
    go_wp2_with fail
    exact bodyPost_ret (v := .agg #[.bool true, .string ds, .string den]) (by simp [results, Tryz.results14, go_sem, q0, q1, q2]) rfl ⟨rfl, unhide HBU⟩
  · have h45' := h45 hp
    have hs' : (0 : Int) < (ds.size : Int) := by omega
    clear h45 hS
    go_enter Tryz.func14, Tryz.ntmps14
    go_upto_region 1 with fail
    rw [← unhide HV]
    clear hV HV
    go_wp2_with fail
    exact bodyPost_ret (v := .agg #[.bool false, .string ds, .string den]) (w := store3 V (w.heap.size + 1) (.bool false) (.string ds) (.string den)) (by simp [results, Tryz.results14, go_sem, u0, u1, u2]) rfl ⟨rfl, unhide HB9⟩

theorem refRead (num den : ByteArray) (x : Rat) (w : World) (h : IsR num den x) :
    Calls Tryz.prog 14 #[.agg #[.string num, .string den]] w fun r w' => r = .returned (fx x) ∧ Below w.heap.size w w' := by
  have hr := h.rt
  obtain ⟨hsm, en, ed⟩ := h
  have e1 : num = sT (decide (x < 0)) x.num.natAbs := by rw [en]; unfold numT; rw [if_pos hsm]
  have e2 : den = tb x.den := by rw [ed]; unfold denT; rw [if_pos hsm]
  have hz := sT_size (decide (x < 0)) x.num.natAbs hsm.1
  have g1 : isNeg num = decide (x < 0) := by rw [e1]; exact neg_sT _ _ hsm.1
  have g2 : digT num = tx x.num.natAbs := by rw [e1, dig_sT _ _ hsm.1, tx_tb _ hsm.1]
  have hde : den.toList.isEmpty = false := by rw [e2]; exact tb_full _ hsm.2
  have hnp : 0 < num.size := by
    have q := tb_full x.num.natAbs hsm.1
    rcases Nat.eq_zero_or_pos num.size with hz0 | hp
    · exfalso
      have hl : num.data.toList = [] := by rw [← List.length_eq_zero_iff, list_len]; exact hz0
      rw [e1, sT_list] at hl
      rw [Lib.toList_data] at q
      split at hl
      · cases hl
      · rw [hl] at q; cases q
    · exact hp
  have hf := neg_form num
  rw [g1, g2] at hf
  unfold fx
  rw [← tx_tb _ hsm.2, ← e2]
  refine refRead_walk num den _ _ w (by rw [e1]; omega) hde ?_
  rcases hf with hf | ⟨a, b, c⟩
  · exact Or.inl hf
  · rcases c with c | c
    · rw [not_empty_of num hnp] at c; cases c
    · exact Or.inr ⟨a, b, c⟩

end Go.Proofs.YtimihoonnglniaaGreatDoor

namespace Go.Proofs.YtimihoonnglniaaGreatDoor
open Go.RowKit
set_option maxRecDepth 100000 in
set_option maxHeartbeats 2000000 in
theorem refTold (b : Bool) (s t : ByteArray) (w : World) (hs : s.size ≤ 600) (ht : t.size ≤ 600) :
    Ans 18 #[.agg #[.bool b, .string s, .string t]] w (if b then ⟨#[45]⟩ ++ s else s) t 0 := by
  unfold Ans
  obtain ⟨V, hV⟩ : ∃ V, V = (w.alloc (.cells #[.bool b, .string s, .string t] 33)).alloc (.cells #[.string ⟨#[]⟩, .string ⟨#[]⟩] 23) := ⟨_, rfl⟩
  have hbV : Below w.heap.size w V := by rw [hV]; exact ((Below.refl _ _).alloc (Nat.le_refl _) _).alloc (by simp) _
  have HR : Hid (T2 V (w.heap.size + 1) (.string ⟨#[]⟩) (.string ⟨#[]⟩) ∧ Below w.heap.size w V) := ⟨by rw [hV]; exact ⟨by simp [go_sem], by simp [go_sem], by simp [go_sem], by simp [go_sem]⟩, hbV⟩
  have HF : Hid (FBox V w.heap.size (.bool b) (.string s) (.string t)) := by rw [hV]; exact ⟨by simp [go_sem], by simp [go_sem], by simp [go_sem], by simp [go_sem], by simp [go_sem], by simp [go_sem]⟩
  have HV := hide hV
  have hl : (⟨#[45]⟩ : ByteArray).size = 1 := rfl
  clear hbV
  have t0 := (unhide HF).c0; have t1 := (unhide HF).c1; have t2 := (unhide HF).c2
  have r0 := (unhide HR).1.c0; have r1 := (unhide HR).1.c1; have rf0 := (unhide HR).1.f0; have rf1 := (unhide HR).1.f1
  cases b with
  | true =>
    have HE : Hid ((if true = true then (⟨#[45]⟩ : ByteArray) ++ s else s) = ⟨#[45]⟩ ++ s) := rfl
    rw [unhide HE]
    clear HE
    go_enter Tryz.func18, Tryz.ntmps18
    go_upto_region 1 with fail
    rw [← unhide HV]
    clear hV HV
    go_wp2_with fail
    have hS := (unhide HR).1.store (.string (⟨#[45]⟩ ++ s)) (.string t)
    have hb : Below w.heap.size w (store2 V (w.heap.size + 1) (.string (⟨#[45]⟩ ++ s)) (.string t)) := below_store2 (unhide HR).2 (by omega) _ _
    have u0 := hS.c0; have u1 := hS.c1
    exact bodyPost_ret (v := .tuple #[.agg #[.string (⟨#[45]⟩ ++ s), .string t], .int .i64 0]) (w := store2 V (w.heap.size + 1) (.string (⟨#[45]⟩ ++ s)) (.string t)) (by simp [results, Tryz.results18, go_sem, u0, u1]) rfl ⟨rfl, hb⟩
  | false =>
    have HE : Hid ((if false = true then (⟨#[45]⟩ : ByteArray) ++ s else s) = s) := rfl
    rw [unhide HE]
    clear HE
    go_enter Tryz.func18, Tryz.ntmps18
    go_upto_region 1 with fail
    rw [← unhide HV]
    clear hV HV
    go_wp2_with fail
    have hS := (unhide HR).1.store (.string s) (.string t)
    have hb : Below w.heap.size w (store2 V (w.heap.size + 1) (.string s) (.string t)) := below_store2 (unhide HR).2 (by omega) _ _
    have u0 := hS.c0; have u1 := hS.c1
    exact bodyPost_ret (v := .tuple #[.agg #[.string s, .string t], .int .i64 0]) (w := store2 V (w.heap.size + 1) (.string s) (.string t)) (by simp [results, Tryz.results18, go_sem, u0, u1]) rfl ⟨rfl, hb⟩

end Go.Proofs.YtimihoonnglniaaGreatDoor

namespace Go.Proofs.YtimihoonnglniaaGreatDoor
open Go.RowKit

set_option maxRecDepth 100000 in
set_option maxHeartbeats 2000000 in
theorem refTold_large (b : Bool) (s t : ByteArray) (w : World) (hl : 600 < s.size ∨ 600 < t.size) (hs : s.size ≤ 5000) (ht : t.size ≤ 5000) :
    Ans 18 #[.agg #[.bool b, .string s, .string t]] w ⟨#[]⟩ ⟨#[]⟩ 7 := by
  unfold Ans
  obtain ⟨V, hV⟩ : ∃ V, V = (w.alloc (.cells #[.bool b, .string s, .string t] 33)).alloc (.cells #[.string ⟨#[]⟩, .string ⟨#[]⟩] 23) := ⟨_, rfl⟩
  have hbV : Below w.heap.size w V := by rw [hV]; exact ((Below.refl _ _).alloc (Nat.le_refl _) _).alloc (by simp) _
  have HR : Hid (T2 V (w.heap.size + 1) (.string ⟨#[]⟩) (.string ⟨#[]⟩) ∧ Below w.heap.size w V) := ⟨by rw [hV]; exact ⟨by simp [go_sem], by simp [go_sem], by simp [go_sem], by simp [go_sem]⟩, hbV⟩
  have HF : Hid (FBox V w.heap.size (.bool b) (.string s) (.string t)) := by rw [hV]; exact ⟨by simp [go_sem], by simp [go_sem], by simp [go_sem], by simp [go_sem], by simp [go_sem], by simp [go_sem]⟩
  have HV := hide hV
  clear hbV
  have t0 := (unhide HF).c0; have t1 := (unhide HF).c1; have t2 := (unhide HF).c2
  have r0 := (unhide HR).1.c0; have r1 := (unhide HR).1.c1; have rf0 := (unhide HR).1.f0; have rf1 := (unhide HR).1.f1
  have hS := (unhide HR).1.store (.string ⟨#[]⟩) (.string ⟨#[]⟩)
  have hb : Below w.heap.size w (store2 V (w.heap.size + 1) (.string ⟨#[]⟩) (.string ⟨#[]⟩)) := below_store2 (unhide HR).2 (by omega) _ _
  have u0 := hS.c0; have u1 := hS.c1
  have HB9 := hide hb
  clear hb hS
  rcases Nat.lt_or_ge 600 s.size with h1 | h1
  · have i1 : (600 : Int) < (s.size : Int) := by omega
    clear hl
    go_enter Tryz.func18, Tryz.ntmps18
    go_upto_region 1 with fail
    rw [← unhide HV]
    clear hV HV
    go_wp2_with fail
    exact bodyPost_ret (v := .tuple #[.agg #[.string ⟨#[]⟩, .string ⟨#[]⟩], .int .i64 7]) (w := store2 V (w.heap.size + 1) (.string ⟨#[]⟩) (.string ⟨#[]⟩)) (by simp [results, Tryz.results18, go_sem, u0, u1]) rfl ⟨rfl, unhide HB9⟩
  · have i1 : ¬ (600 : Int) < (s.size : Int) := by omega
    have i2 : (600 : Int) < (t.size : Int) := by omega
    clear hl
    go_enter Tryz.func18, Tryz.ntmps18
    go_upto_region 1 with fail
    rw [← unhide HV]
    clear hV HV
    go_wp2_with fail
    exact bodyPost_ret (v := .tuple #[.agg #[.string ⟨#[]⟩, .string ⟨#[]⟩], .int .i64 7]) (w := store2 V (w.heap.size + 1) (.string ⟨#[]⟩) (.string ⟨#[]⟩)) (by simp [results, Tryz.results18, go_sem, u0, u1]) rfl ⟨rfl, unhide HB9⟩
theorem tx_large {n : Nat} (h : ¬ n < 10 ^ 600) : 600 < (tx n).size := by
  rcases Nat.lt_or_ge 600 (tx n).size with h' | h'
  · exact h'
  · exfalso
    apply h
    rw [← list_len, tx_list] at h'
    exact (Cub.dec_len_lt n 600 (by omega)).1 h'
theorem refToldQ (d : Nat) (x : Rat) (w : World) (hd1 : 1 ≤ d) (hd : d ≤ 5000) (hx : Bd d x) : Ans 18 #[fx x] w (numT x) (denT x) (errT x) := by
  unfold numT denT errT
  by_cases h : Small x
  · rw [if_pos h, if_pos h, if_pos h]
    unfold sT
    rw [tx_tb _ h.1, tx_tb _ h.2]
    exact refTold _ _ _ w (tx_size (by omega) h.1) (tx_size (by omega) h.2)
  · rw [if_neg h, if_neg h, if_neg h]
    refine refTold_large _ _ _ w ?_ (Nat.le_trans (tx_size hd1 hx.1) hd) (Nat.le_trans (tx_size hd1 hx.2) hd)
    by_cases h1 : x.num.natAbs < 10 ^ 600
    · exact Or.inr (tx_large (fun h2 => h ⟨h1, h2⟩))
    · exact Or.inl (tx_large h1)

end Go.Proofs.YtimihoonnglniaaGreatDoor

namespace Go.Proofs.YtimihoonnglniaaGreatDoor
open Go.RowKit

theorem one_byte (wr : World) (c : Nat) (hc : c < 10) : (convert 83 9 (.slice (some ⟨wr.heap.size, 0, none⟩) 1 1)).run Tryz.prog (wr.alloc (.cells #[.int .u8 (48 + (c : Int))] 5)) = .ok (.string ⟨#[UInt8.ofNat (48 + c)]⟩) (wr.alloc (.cells #[.int .u8 (48 + (c : Int))] 5)) := by
  have h := run_convert_bytes_back (P := Tryz.prog) (wr.alloc (.cells #[.int .u8 (48 + (c : Int))] 5)) 83 9 5 ⟨wr.heap.size, 0, none⟩ 1 [UInt8.ofNat (48 + c)] Tryz.underlying83 Tryz.underlying5 Tryz.underlying9 (fun j hj => by
    have : j = 0 := by simpa using hj
    subst this
    rw [Lib.add_plain]
    simp only [List.getElem_cons_zero, Cub.toNat_dig c hc]
    simp [go_sem])
  exact h

theorem append_one (b : UInt8) (T : List UInt8) : (⟨([b] ++ T).toArray⟩ : ByteArray) = ⟨#[b]⟩ ++ ⟨T.toArray⟩ := by
  apply ByteArray.ext
  simp

set_option maxRecDepth 100000 in
set_option maxHeartbeats 400000 in
theorem refOf_any (u : Nat) (hu : u < 18446744073709551616) (w : World) :
    Calls Tryz.prog 39 #[.int .u64 u] w fun e w' => e = .returned (.string ⟨(Lib.decDigits u).toArray⟩) ∧ Below w.heap.size w w' := by
  go_enter Tryz.func39, Tryz.ntmps39
  go_wp2
  go_loopw [0, 3] (fun n s wr => ∃ (q : Nat) (T : List UInt8), n = .int .u64 (q : Int) ∧ s = .string ⟨T.toArray⟩ ∧ q < 18446744073709551616 ∧ T.length ≤ 30 ∧ Hid (Lib.decDigits u = Lib.decDigits q ++ T) ∧ Below w.heap.size w wr) (fun n _ _ => (intOf n).toNat)
  case atStart => exact ⟨u, [], rfl, rfl, hu, by simp, (List.append_nil _).symm, Below.refl _ _⟩
  case round =>
    obtain ⟨q, T, rfl, rfl, hq, hT, HT, hb⟩ := hrel
    by_cases h9 : 9 < q
    · have hcv := one_byte wr (q % 10) (Nat.mod_lt _ (by decide))
      rw [show (((q % 10 : Nat)) : Int) = (q : Int) % 10 from by omega] at hcv
      have HB : Hid (Lib.decDigits u = Lib.decDigits (q / 10) ++ ([UInt8.ofNat (48 + q % 10)] ++ T)) := by
        rw [unhide HT, ← List.append_assoc]
        rw [show Lib.decDigits q = Lib.decDigits (q / 10) ++ [UInt8.ofNat (48 + q % 10)] from by rw [Lib.decDigits, dif_neg (by omega)]]
        exact rfl
      have hT' : T.length + 1 ≤ 30 := by
        have h1 := congrArg List.length (unhide HB)
        simp only [List.length_append, List.length_cons, List.length_nil, Lib.decDigits_length] at h1
        have h2 := Lib.nDigits_le20 u hu
        omega
      generalize UInt8.ofNat (48 + q % 10) = b at *
      go_wp2
      go_roundw
      case rel => exact ⟨q / 10, [b] ++ T, by go_num, by rw [append_one], by omega, by simpa using hT', HB, hb.alloc hb.size _⟩
      case measure => simp [intOf]; omega
    · have hcv := one_byte wr q (by omega)
      have HB : Hid (Lib.decDigits u = [UInt8.ofNat (48 + q)] ++ T) := by
        rw [unhide HT, Lib.decDigits_one (by omega)]; exact rfl
      generalize UInt8.ofNat (48 + q) = b at *
      go_wp2
      go_ret
      exact ⟨by rw [unhide HB, append_one]; rfl, hb.alloc hb.size _⟩

end Go.Proofs.YtimihoonnglniaaGreatDoor

namespace Go.Proofs.YtimihoonnglniaaGreatDoor
open Go.RowKit
set_option maxRecDepth 100000 in
set_option maxHeartbeats 2000000 in
theorem refWhole_pos (N : Nat) (w : World) (h2 : N < 9223372036854775808) :
    Calls Tryz.prog 17 #[.int .i64 (N : Int)] w fun r w' => r = .returned (.agg #[.bool false, .string (tb N), .string ⟨#[49]⟩]) ∧ Below w.heap.size w w' := by
  obtain ⟨V, hV⟩ : ∃ V, V = w.alloc (.cells #[.bool false, .string ⟨#[]⟩, .string ⟨#[]⟩] 33) := ⟨_, rfl⟩
  have hbV : Below w.heap.size w V := by rw [hV]; exact (Below.refl _ _).alloc (Nat.le_refl _) _
  have HR : Hid (FBox V w.heap.size (.bool false) (.string ⟨#[]⟩) (.string ⟨#[]⟩) ∧ Below w.heap.size w V) := ⟨by rw [hV]; exact ⟨by simp [go_sem], by simp [go_sem], by simp [go_sem], by simp [go_sem], by simp [go_sem], by simp [go_sem]⟩, hbV⟩
  have HV := hide hV
  have hN : N < 10 ^ 600 := u64_600 N (by omega)
  have HOF : Hid (∀ u : Int, u = (N : Int) → Calls Tryz.prog 39 #[.int .u64 u] V fun e w' => e = .returned (.string (tb N)) ∧ Below V.heap.size V w') := fun u hu => by
    subst hu
    have := refOf_any N (by omega) V
    rwa [show (⟨(Lib.decDigits N).toArray⟩ : ByteArray) = tb N from bytes_ext (by rw [tb_list N hN])] at this
  have k0 : ¬ (N : Int) < 0 := by omega
  skip
  clear hN hbV
  generalize tb N = tn at *
  go_enter Tryz.func17, Tryz.ntmps17
  go_upto_region 3 with fail
  rw [← unhide HV]
  clear hV HV
  go_wp2_with (go_at_call 39; go_must (refine (unhide HOF _ (by omega)).mono ?_; rintro e W9 ⟨rfl, hb1⟩; have HR1 : Hid (FBox W9 w.heap.size (.bool false) (.string ⟨#[]⟩) (.string ⟨#[]⟩) ∧ Below w.heap.size w W9) := ⟨(unhide HR).1.later hb1, (unhide HR).2.trans (hb1.mono (unhide HR).2.size)⟩; clear hb1; have r0 := (unhide HR1).1.c0; have r1 := (unhide HR1).1.c1; have r2 := (unhide HR1).1.c2; have rf0 := (unhide HR1).1.f0; have rf1 := (unhide HR1).1.f1; have rf2 := (unhide HR1).1.f2))
  have hS := (unhide HR1).1.store (.bool false) (.string tn) (.string ⟨#[49]⟩)
  have hb : Below w.heap.size w (store3 W9 w.heap.size (.bool false) (.string tn) (.string ⟨#[49]⟩)) := below_store3 (unhide HR1).2 (Nat.le_refl _) _ _ _
  have u0 := hS.c0; have u1 := hS.c1; have u2 := hS.c2
  exact bodyPost_ret (v := .agg #[.bool false, .string tn, .string ⟨#[49]⟩]) (w := store3 W9 w.heap.size (.bool false) (.string tn) (.string ⟨#[49]⟩)) (by simp [results, Tryz.results17, go_sem, u0, u1, u2]) rfl ⟨rfl, hb⟩

end Go.Proofs.YtimihoonnglniaaGreatDoor

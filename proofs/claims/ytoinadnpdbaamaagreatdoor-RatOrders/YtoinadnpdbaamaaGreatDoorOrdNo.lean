/- The document's Compare. -/
import Derived.Test.YtoinadnpdbaamaaGreatDoorRefOk
import Derived.Test.YtoinadnpdbaamaaGreatDoorBoxes
import Derived.Deep.RegionHeld3
import Derived.Test.YtoinadnpdbaamaaGreatDoorPairs
namespace Go.Proofs.YtoinadnpdbaamaaGreatDoor
open Go.RowKit
set_option maxRecDepth 100000 in
set_option maxHeartbeats 2000000 in
theorem refCompare_walk (b1 b2 b3 b4 z : Bool) (s1 t1 s2 t2 s3 t3 s4 t4 : ByteArray) (w : World)
    (hm : ∀ W, Calls Tryz.prog 63 #[.agg #[.bool b2, .string s2, .string t2]] W fun r w' => r = .returned (.agg #[.bool b3, .string s3, .string t3]) ∧ Below W.heap.size W w')
    (hp : ∀ W, Calls Tryz.prog 61 #[.agg #[.bool b1, .string s1, .string t1], .agg #[.bool b3, .string s3, .string t3]] W fun r w' => r = .returned (.agg #[.bool b4, .string s4, .string t4]) ∧ Below W.heap.size W w')
    (hz : (s4.toList == [48]) = z) :
    Calls Tryz.prog 64 #[.agg #[.bool b1, .string s1, .string t1], .agg #[.bool b2, .string s2, .string t2]] w fun r w' => r = .returned (.int .i64 (if z then 0 else if b4 then -1 else 1)) ∧ Below w.heap.size w w' := by
  obtain ⟨V, hV⟩ : ∃ V, V = (w.alloc (.cells #[.bool b1, .string s1, .string t1] 61)).alloc (.cells #[.bool b2, .string s2, .string t2] 61) := ⟨_, rfl⟩
  have HB : Hid (Below w.heap.size w V) := by rw [hV]; exact ((Below.refl _ _).alloc (Nat.le_refl _) _).alloc (by simp) _
  have HF : Hid (FBox V w.heap.size (.bool b1) (.string s1) (.string t1)) := by rw [hV]; exact ⟨by simp [go_sem], by simp [go_sem], by simp [go_sem], by simp [go_sem], by simp [go_sem], by simp [go_sem]⟩
  have HG : Hid (FBox V (w.heap.size + 1) (.bool b2) (.string s2) (.string t2)) := by rw [hV]; exact ⟨by simp [go_sem], by simp [go_sem], by simp [go_sem], by simp [go_sem], by simp [go_sem], by simp [go_sem]⟩
  have HV := hide hV
  have HM := hide hm; have HP := hide hp
  clear hm hp
  go_enter Tryz.func64, Tryz.ntmps64
  go_upto_region 1 with fail
  rw [← unhide HV]
  clear hV HV
  have HFX : Hid (∀ X, Below V.heap.size V X → X.cell? ⟨w.heap.size, 0, none⟩ = some (.bool b1) ∧ X.cell? ⟨w.heap.size, 1, none⟩ = some (.string s1) ∧ X.cell? ⟨w.heap.size, 2, none⟩ = some (.string t1) ∧ X.cell? ⟨w.heap.size + 1, 0, none⟩ = some (.bool b2) ∧ X.cell? ⟨w.heap.size + 1, 1, none⟩ = some (.string s2) ∧ X.cell? ⟨w.heap.size + 1, 2, none⟩ = some (.string t2)) := fun X h => ⟨((unhide HF).later h).c0, ((unhide HF).later h).c1, ((unhide HF).later h).c2, ((unhide HG).later h).c0, ((unhide HG).later h).c1, ((unhide HG).later h).c2⟩
  obtain ⟨c0, c1, c2, c3, c4, c5⟩ := unhide HFX V (Below.refl _ _)
  have zl : w.heap.size < V.heap.size := (unhide HF).lt
  have zl2 : w.heap.size + 1 < V.heap.size := (unhide HG).lt
  have kv : V.heap.size ≠ w.heap.size := by omega
  have kv' : V.heap.size ≠ w.heap.size + 1 := by omega
  clear HF HG
  go_region_held3 (fun w' => w'.cell? ⟨w.heap.size, 0, none⟩ = some (.bool b1) ∧ w'.cell? ⟨w.heap.size, 1, none⟩ = some (.string s1) ∧ w'.cell? ⟨w.heap.size, 2, none⟩ = some (.string t1) ∧ w'.cell? ⟨w.heap.size + 1, 0, none⟩ = some (.bool b2) ∧ w'.cell? ⟨w.heap.size + 1, 1, none⟩ = some (.string s2) ∧ w'.cell? ⟨w.heap.size + 1, 2, none⟩ = some (.string t2)) (first | assumption | (refine ⟨?_, ?_, ?_, ?_, ?_, ?_⟩ <;> first | assumption | ((rw [World.cell?_setCell_far, World.cell?_setCell_far, World.cell?_setCell_far] <;> first | assumption | (simp [*, World.cell?_alloc_some]; done)); done) | (simp [*, World.cell?_alloc_some]; done))) ((first
    | (go_at_call 63; go_must (refine (unhide HM _).mono ?_; rintro e wa ⟨rfl, hba⟩; first
        | (have HCA := hide (((Below.refl V.heap.size V).drew).trans hba))
        | (have HCA := hide ((((Below.refl V.heap.size V).drew).alloc (Nat.le_refl _) (.cells #[.bool false, .string ⟨#[]⟩, .string ⟨#[]⟩] 61)).trans (hba.mono (by simp))); have HN : Hid (FBox wa V.heap.size (.bool false) (.string ⟨#[]⟩) (.string ⟨#[]⟩)) := hide ((FBox.new61 V.drew (.bool false) (.string ⟨#[]⟩) (.string ⟨#[]⟩)).later hba))); clear hba c0 c1 c2 c3 c4 c5; obtain ⟨c0, c1, c2, c3, c4, c5⟩ := unhide HFX wa (unhide HCA); have ka : wa.heap.size ≠ w.heap.size := (by have := (unhide HCA).size; omega); have ka' : wa.heap.size ≠ w.heap.size + 1 := (by have := (unhide HCA).size; omega))
    | (go_at_call 61; go_must (refine (unhide HP _).mono ?_; rintro e wb ⟨rfl, hbb⟩; first
        | (have HCB := hide ((unhide HCA).trans (hbb.mono (unhide HCA).size)); first | (have HN2 := hide ((unhide HN).later hbb)) | skip)
        | (have HCB := hide ((unhide HCA).trans ((((Below.refl wa.heap.size wa)).alloc (Nat.le_refl _) (.cells #[.bool false, .string ⟨#[]⟩, .string ⟨#[]⟩] 61)).trans (hbb.mono (by simp)) |>.mono (unhide HCA).size)); have HN2 := hide ((FBox.new61 wa (.bool false) (.string ⟨#[]⟩) (.string ⟨#[]⟩)).later hbb))); clear hbb c0 c1 c2 c3 c4 c5; obtain ⟨c0, c1, c2, c3, c4, c5⟩ := unhide HFX wb (unhide HCB); have kb : wb.heap.size ≠ w.heap.size := (by have := (unhide HCB).size; omega); have kb' : wb.heap.size ≠ w.heap.size + 1 := (by have := (unhide HCB).size; omega); first | (have n0 := (unhide HN2).c0; have n1 := (unhide HN2).c1; have n2 := (unhide HN2).c2; have nf0 := (unhide HN2).f0; have nf1 := (unhide HN2).f1; have nf2 := (unhide HN2).f2) | skip)))
  · obtain ⟨X, hX⟩ : ∃ X, X = wb.alloc (.cells #[.bool b4, .string s4, .string t4] 61) := ⟨_, rfl⟩
    have hb : Below V.heap.size V X := by rw [hX]; exact (unhide HCB).alloc (unhide HCB).size _
    have q : FBox X wb.heap.size (.bool b4) (.string s4) (.string t4) := by rw [hX]; exact FBox.new61 _ _ _ _
    have HE : Hid (Below w.heap.size w X) := (unhide HB).trans (hb.mono (unhide HB).size)
    rw [← hX]
    clear hX hb HM HP HFX c0 c1 c2 c3 c4 c5 ka ka' kb kb' kv kv' zl zl2
    have d0 := q.c0; have d1 := q.c1
    clear q
    cases z <;> cases b4 <;> (
      go_wp2_with fail
      go_ret
      exact ⟨by simp, unhide HE⟩)
  · obtain ⟨X, hX⟩ : ∃ X, X = ((wb.setCell ⟨wa.heap.size, 0, none⟩ (.bool b4)).setCell ⟨wa.heap.size, 1, none⟩ (.string s4)).setCell ⟨wa.heap.size, 2, none⟩ (.string t4) := ⟨_, rfl⟩
    have hb : Below V.heap.size V X := by rw [hX]; exact below_store3 (unhide HCB) (unhide HCA).size _ _ _
    have q : FBox X wa.heap.size (.bool b4) (.string s4) (.string t4) := by rw [hX]; exact (unhide HN2).store _ _ _
    have HE : Hid (Below w.heap.size w X) := (unhide HB).trans (hb.mono (unhide HB).size)
    rw [← hX]
    clear hX hb HM HP HFX c0 c1 c2 c3 c4 c5 ka ka' kb kb' kv kv' zl zl2
    have d0 := q.c0; have d1 := q.c1
    clear q
    cases z <;> cases b4 <;> (
      go_wp2_with fail
      go_ret
      exact ⟨by simp, unhide HE⟩)
  · obtain ⟨X, hX⟩ : ∃ X, X = ((wb.setCell ⟨V.heap.size, 0, none⟩ (.bool b4)).setCell ⟨V.heap.size, 1, none⟩ (.string s4)).setCell ⟨V.heap.size, 2, none⟩ (.string t4) := ⟨_, rfl⟩
    have hb : Below V.heap.size V X := by rw [hX]; exact below_store3 (unhide HCB) (Nat.le_refl _) _ _ _
    have q : FBox X V.heap.size (.bool b4) (.string s4) (.string t4) := by rw [hX]; exact (unhide HN2).store _ _ _
    have HE : Hid (Below w.heap.size w X) := (unhide HB).trans (hb.mono (unhide HB).size)
    rw [← hX]
    clear hX hb HM HP HFX c0 c1 c2 c3 c4 c5 ka ka' kb kb' kv kv' zl zl2
    have d0 := q.c0; have d1 := q.c1
    clear q
    cases z <;> cases b4 <;> (
      go_wp2_with fail
      go_ret
      exact ⟨by simp, unhide HE⟩)
/-- The document's Compare of two numbers. -/
theorem refCompare (d : Nat) (x y : Rat) (w : World) (hd1 : 1 ≤ d) (hd : d + d + 1 ≤ 5000) (hx : Bd d x) (hy : Bd d y) :
    Calls Tryz.prog 64 #[fx x, fx y] w fun r w' => r = .returned (.int .i64 (Cub.cmpQ x y)) ∧ Below w.heap.size w w' := by
  have h0 : ((tx (x + -y).num.natAbs).toList == [48]) = decide (x + -y = 0) := by
    by_cases e : (x + -y).num.natAbs = 0
    · rw [e, tx_zero, decide_eq_true (Rat.num_eq_zero.1 (Int.natAbs_eq_zero.1 e))]
    · rw [tx_pos _ (by omega), decide_eq_false (fun e' => e (by rw [e']; rfl))]
  have h := refCompare_walk _ _ _ (decide (x + -y < 0)) _ _ _ _ _ _ _ (tx (x + -y).num.natAbs) (tx (x + -y).den) w (fun W => refFMinus y W) (fun W => refFPlus d x (-y) W hd1 hd hx (bd_neg hy)) h0
  have e : (if decide (x + -y = 0) = true then (0 : Int) else if decide (x + -y < 0) = true then -1 else 1) = Cub.cmpQ x y := by
    unfold Cub.cmpQ
    rw [← Rat.sub_eq_add_neg]
    simp only [decide_eq_true_eq]
    grind
  rw [e] at h
  exact h
end Go.Proofs.YtoinadnpdbaamaaGreatDoor

namespace Go.Proofs.YtoinadnpdbaamaaGreatDoor
open Go.RowKit

/-- A function answers a number and an error. -/
def AnsN (f : Nat) (args : Array Value) (w : World) (c e : Int) : Prop := Calls Tryz.prog f args w fun r w' => r = .returned (.tuple #[.int .i64 c, .int .i64 e]) ∧ Below w.heap.size w w'
def BothN (f : Nat) (args : Array Value) (g : Nat) (args' : Array Value) : Prop := ∃ (c e : Int), (∀ w, AnsN f args w c e) ∧ (∀ w, AnsN g args' w c e)

set_option maxRecDepth 100000 in
set_option maxHeartbeats 2000000 in
theorem refCmp_no (n1 d1 n2 d2 : ByteArray) (p q : Bool) (w : World)
    (h18a : ∀ W, Calls Tryz.prog 18 #[.agg #[.string n1, .string d1]] W fun r w' => r = .returned (.bool p) ∧ Below W.heap.size W w')
    (h18b : ∀ W, Calls Tryz.prog 18 #[.agg #[.string n2, .string d2]] W fun r w' => r = .returned (.bool q) ∧ Below W.heap.size W w')
    (h : (p && q) = false) : AnsN 47 #[.agg #[.string n1, .string d1], .agg #[.string n2, .string d2]] w 0 3 := by
  unfold AnsN
  obtain ⟨V, hV⟩ : ∃ V, V = (w.alloc (.cells #[.string n1, .string d1] 23)).alloc (.cells #[.string n2, .string d2] 23) := ⟨_, rfl⟩
  have HB0 : Hid (Below w.heap.size w V) := by rw [hV]; exact ((Below.refl _ _).alloc (Nat.le_refl _) _).alloc (by simp) _
  have HS1 : Hid (T2 V w.heap.size (.string n1) (.string d1)) := by rw [hV]; exact ⟨by simp [go_sem], by simp [go_sem], by simp [go_sem], by simp [go_sem]⟩
  have HS2 : Hid (T2 V (w.heap.size + 1) (.string n2) (.string d2)) := by rw [hV]; exact ⟨by simp [go_sem], by simp [go_sem], by simp [go_sem], by simp [go_sem]⟩
  have HV := hide hV
  have HC : Hid (∀ w', Below V.heap.size V w' → (w'.cell? ⟨w.heap.size, 0, none⟩ = some (.string n1) ∧ w'.cell? ⟨w.heap.size, 1, none⟩ = some (.string d1) ∧ w'.cell? ⟨w.heap.size + 1, 0, none⟩ = some (.string n2) ∧ w'.cell? ⟨w.heap.size + 1, 1, none⟩ = some (.string d2))) := fun U hb => ⟨((unhide HS1).later hb).c0, ((unhide HS1).later hb).c1, ((unhide HS2).later hb).c0, ((unhide HS2).later hb).c1⟩
  have HA := hide h18a
  have HB := hide h18b
  clear h18a h18b
  go_enter Tryz.func47, Tryz.ntmps47
  go_upto_region 1 with fail
  rw [← unhide HV]
  clear hV HV
  obtain ⟨t0, t1, t2, t3⟩ := unhide HC V (Below.refl _ _)
  cases p with
  | false =>
    go_wp2_with (go_at_call_of 18 n1; go_must (refine (unhide HA _).mono ?_; rintro e wa ⟨rfl, hba⟩; have HE := hide ((unhide HB0).trans (hba.mono (unhide HB0).size)); clear hba t0 t1 t2 t3))
    exact bodyPost_ret (v := .tuple #[.int .i64 0, .int .i64 3]) (by simp [results, Tryz.results47, go_sem]) rfl ⟨rfl, unhide HE⟩
  | true =>
    cases q with
    | true => exact absurd h (by decide)
    | false =>
      go_wp2_with (first
        | (go_at_call_of 18 n1; go_must (refine (unhide HA _).mono ?_; rintro e wa ⟨rfl, hba⟩; have HCA := hide hba; clear hba t0 t1 t2 t3; obtain ⟨t0, t1, t2, t3⟩ := unhide HC wa (unhide HCA)))
        | (go_at_call_of 18 n2; go_must (refine (unhide HB _).mono ?_; rintro e wb ⟨rfl, hbb⟩; have HCB := hide ((unhide HCA).trans (hbb.mono (unhide HCA).size)); have HE := hide ((unhide HB0).trans ((unhide HCB).mono (unhide HB0).size)); clear hbb t0 t1 t2 t3)))
      exact bodyPost_ret (v := .tuple #[.int .i64 0, .int .i64 3]) (by simp [results, Tryz.results47, go_sem]) rfl ⟨rfl, unhide HE⟩

set_option maxRecDepth 100000 in
set_option maxHeartbeats 2000000 in
theorem refCmp_walk (n1 d1 n2 d2 : ByteArray) (va vb : Value) (c : Int) (w : World)
    (h18a : ∀ W, Calls Tryz.prog 18 #[.agg #[.string n1, .string d1]] W fun r w' => r = .returned (.bool true) ∧ Below W.heap.size W w')
    (h18b : ∀ W, Calls Tryz.prog 18 #[.agg #[.string n2, .string d2]] W fun r w' => r = .returned (.bool true) ∧ Below W.heap.size W w')
    (hra : ∀ W, Calls Tryz.prog 62 #[.agg #[.string n1, .string d1]] W fun r w' => r = .returned va ∧ Below W.heap.size W w')
    (hrb : ∀ W, Calls Tryz.prog 62 #[.agg #[.string n2, .string d2]] W fun r w' => r = .returned vb ∧ Below W.heap.size W w')
    (hop : ∀ W, Calls Tryz.prog 64 #[va, vb] W fun r w' => r = .returned (.int .i64 c) ∧ Below W.heap.size W w') : AnsN 47 #[.agg #[.string n1, .string d1], .agg #[.string n2, .string d2]] w c 0 := by
  unfold AnsN
  obtain ⟨V, hV⟩ : ∃ V, V = (w.alloc (.cells #[.string n1, .string d1] 23)).alloc (.cells #[.string n2, .string d2] 23) := ⟨_, rfl⟩
  have HB0 : Hid (Below w.heap.size w V) := by rw [hV]; exact ((Below.refl _ _).alloc (Nat.le_refl _) _).alloc (by simp) _
  have HS1 : Hid (T2 V w.heap.size (.string n1) (.string d1)) := by rw [hV]; exact ⟨by simp [go_sem], by simp [go_sem], by simp [go_sem], by simp [go_sem]⟩
  have HS2 : Hid (T2 V (w.heap.size + 1) (.string n2) (.string d2)) := by rw [hV]; exact ⟨by simp [go_sem], by simp [go_sem], by simp [go_sem], by simp [go_sem]⟩
  have HV := hide hV
  have HC : Hid (∀ w', Below V.heap.size V w' → (w'.cell? ⟨w.heap.size, 0, none⟩ = some (.string n1) ∧ w'.cell? ⟨w.heap.size, 1, none⟩ = some (.string d1) ∧ w'.cell? ⟨w.heap.size + 1, 0, none⟩ = some (.string n2) ∧ w'.cell? ⟨w.heap.size + 1, 1, none⟩ = some (.string d2))) := fun U hb => ⟨((unhide HS1).later hb).c0, ((unhide HS1).later hb).c1, ((unhide HS2).later hb).c0, ((unhide HS2).later hb).c1⟩
  have HA := hide h18a
  have HB := hide h18b
  have HRA := hide hra
  have HRB := hide hrb
  have HOP := hide hop
  clear h18a h18b hra hrb hop
  go_enter Tryz.func47, Tryz.ntmps47
  go_upto_region 1 with fail
  rw [← unhide HV]
  clear hV HV
  obtain ⟨t0, t1, t2, t3⟩ := unhide HC V (Below.refl _ _)
  go_upto_region 3 with (first
    | (go_at_call_of 18 n1; go_must (refine (unhide HA _).mono ?_; rintro e wa ⟨rfl, hba⟩; have HCA := hide hba; clear hba t0 t1 t2 t3; obtain ⟨t0, t1, t2, t3⟩ := unhide HC wa (unhide HCA)))
    | (go_at_call_of 18 n2; go_must (refine (unhide HB _).mono ?_; rintro e wb ⟨rfl, hbb⟩; have HCB := hide ((unhide HCA).trans (hbb.mono (unhide HCA).size)); clear hbb t0 t1 t2 t3; obtain ⟨t0, t1, t2, t3⟩ := unhide HC wb (unhide HCB))))
  have HD : Hid (∀ w', Below wb.heap.size wb w' → Below V.heap.size V w') := fun U hb => (unhide HCB).trans (hb.mono (unhide HCB).size)
  clear HCA HA HB
  go_region_held3 (fun w' => w'.cell? ⟨w.heap.size, 0, none⟩ = some (.string n1) ∧ w'.cell? ⟨w.heap.size, 1, none⟩ = some (.string d1) ∧ w'.cell? ⟨w.heap.size + 1, 0, none⟩ = some (.string n2) ∧ w'.cell? ⟨w.heap.size + 1, 1, none⟩ = some (.string d2)) (first | assumption | (refine ⟨?_, ?_, ?_, ?_⟩ <;> first | assumption | (simp [go_sem, *]; done)) | (simp [go_sem, *]; done)) ((first
    | (go_at_call_of 62 n1; go_must (refine (unhide HRA _).mono ?_; rintro e wc ⟨rfl, hbc⟩; have HCC := hide (((Below.refl wb.heap.size wb).drew).trans hbc); clear hbc t0 t1 t2 t3; obtain ⟨t0, t1, t2, t3⟩ := unhide HC wc (unhide HD wc (unhide HCC))))
    | (go_at_call_of 62 n2; go_must (refine (unhide HRB _).mono ?_; rintro e wd ⟨rfl, hbd⟩; have HCD := hide ((unhide HCC).trans (hbd.mono (unhide HCC).size)); clear hbd t0 t1 t2 t3; obtain ⟨t0, t1, t2, t3⟩ := unhide HC wd (unhide HD wd (unhide HCD))))
    | (go_at_call 64; go_must (refine (unhide HOP _).mono ?_; rintro e wf ⟨rfl, hbf⟩; have HCF := hide ((unhide HCD).trans (hbf.mono (unhide HCD).size)); clear hbf t0 t1 t2 t3; obtain ⟨t0, t1, t2, t3⟩ := unhide HC wf (unhide HD wf (unhide HCF))))))
  all_goals
    have HE := hide ((unhide HB0).trans ((unhide HD wf (unhide HCF)).mono (unhide HB0).size))
    clear t0 t1 t2 t3
    go_wp2_with fail
    exact bodyPost_ret (v := .tuple #[.int .i64 c, .int .i64 0]) (by simp [results, Tryz.results47, go_sem]) rfl ⟨rfl, unhide HE⟩

theorem refCmp_ok (n1 d1 n2 d2 : ByteArray) (x y : Rat) (w : World) (h1 : IsR n1 d1 x) (h2 : IsR n2 d2 y) : AnsN 47 #[.agg #[.string n1, .string d1], .agg #[.string n2, .string d2]] w (Cub.cmpQ x y) 0 :=
  refCmp_walk n1 d1 n2 d2 _ _ _ w (ref18_yes h1) (ref18_yes h2) (fun W => refRead n1 d1 x W h1) (fun W => refRead n2 d2 y W h2) (fun W => refCompare 600 x y W (by omega) (by omega) h1.bd h2.bd)

set_option maxRecDepth 100000 in
set_option maxHeartbeats 2000000 in
theorem rsign_ok (n1 d1 : ByteArray) (x : Rat) (w : World) (h1 : IsR n1 d1 x) : AnsN 48 #[.agg #[.string n1, .string d1]] w (Cub.cmpQ x 0) 0 := by
  unfold AnsN
  obtain ⟨V, hV⟩ : ∃ V, V = w.alloc (.cells #[.string n1, .string d1] 23) := ⟨_, rfl⟩
  have HB0 : Hid (Below w.heap.size w V) := by rw [hV]; exact (Below.refl _ _).alloc (Nat.le_refl _) _
  have HS1 : Hid (T2 V w.heap.size (.string n1) (.string d1)) := by rw [hV]; exact ⟨by simp [go_sem], by simp [go_sem], by simp [go_sem], by simp [go_sem]⟩
  have HV := hide hV
  have HR := hide (qread n1 d1 x V h1)
  clear h1
  go_enter Tryz.func48, Tryz.ntmps48
  go_upto_region 1 with fail
  rw [← unhide HV]
  clear hV HV
  have t0 := (unhide HS1).c0; have t1 := (unhide HS1).c1
  go_upto_region 2 with (go_at_call 76; go_must (refine (unhide HR).mono ?_; rintro e w1 ⟨v1, rfl, hv1, hb1⟩; obtain ⟨b1, i1, i2, i3, i4, i5, i6, rfl⟩ := hv1.form; have HB1 := hide ((unhide HB0).trans (hb1.mono (unhide HB0).size)); have HV1 := hide hv1; clear hv1 hb1 t0 t1))
  obtain ⟨V2, hV2⟩ : ∃ V2, V2 = w1.alloc (.cells #[.bool b1, .slice i1 i2 i3, .slice i4 i5 i6] 74) := ⟨_, rfl⟩
  have hb : Below w1.heap.size w1 V2 := by rw [hV2]; exact (Below.refl _ _).alloc (Nat.le_refl _) _
  have HB2 := hide ((unhide HB1).trans (hb.mono (unhide HB1).size)); have HX := hide ((unhide HV1).later hb)
  have HP : Hid (FBox V2 w1.heap.size (.bool b1) (.slice i1 i2 i3) (.slice i4 i5 i6)) := by rw [hV2]; exact FBox.new _ _ _ _
  rw [← hV2]
  clear hV2 hb HV1 HR HB1 HB0
  generalize w1.heap.size = g8 at *
  have t0 := (unhide HP).c0; have t1 := (unhide HP).c1; have t2 := (unhide HP).c2
  go_wp2_with (go_at_call 97; go_must (refine (qsign _ x 67 _ (unhide HX)).mono ?_; rintro e w3 ⟨rfl, hb3⟩; have HE := hide ((unhide HB2).trans (hb3.mono (unhide HB2).size)); clear hb3 t0 t1 t2))
  exact bodyPost_ret (v := .tuple #[.int .i64 (Cub.cmpQ x 0), .int .i64 0]) (by simp [results, Tryz.results48, go_sem]) rfl ⟨rfl, unhide HE⟩

set_option maxRecDepth 100000 in
set_option maxHeartbeats 2000000 in
theorem rsign_no (n1 d1 : ByteArray) (w : World) (h1 : Reads n1 d1 false) : AnsN 48 #[.agg #[.string n1, .string d1]] w 0 3 := by
  unfold AnsN
  obtain ⟨V, hV⟩ : ∃ V, V = w.alloc (.cells #[.string n1, .string d1] 23) := ⟨_, rfl⟩
  have HB0 : Hid (Below w.heap.size w V) := by rw [hV]; exact (Below.refl _ _).alloc (Nat.le_refl _) _
  have HS1 : Hid (T2 V w.heap.size (.string n1) (.string d1)) := by rw [hV]; exact ⟨by simp [go_sem], by simp [go_sem], by simp [go_sem], by simp [go_sem]⟩
  have HV := hide hV
  have HR := hide (h1 V)
  clear h1
  go_enter Tryz.func48, Tryz.ntmps48
  go_upto_region 1 with fail
  rw [← unhide HV]
  clear hV HV
  have t0 := (unhide HS1).c0; have t1 := (unhide HS1).c1
  go_upto_region 2 with (go_at_call 76; go_must (refine (unhide HR).mono ?_; rintro e w1 ⟨b1, i1, i2, i3, i4, i5, i6, rfl, hb1⟩; have HB1 := hide ((unhide HB0).trans (hb1.mono (unhide HB0).size)); clear hb1 t0 t1))
  obtain ⟨V2, hV2⟩ : ∃ V2, V2 = w1.alloc (.cells #[.bool b1, .slice i1 i2 i3, .slice i4 i5 i6] 74) := ⟨_, rfl⟩
  have hb : Below w1.heap.size w1 V2 := by rw [hV2]; exact (Below.refl _ _).alloc (Nat.le_refl _) _
  have HE := hide ((unhide HB1).trans (hb.mono (unhide HB1).size))
  rw [← hV2]
  clear hV2 hb HB1 HB0 HR
  generalize w1.heap.size = g8 at *
  go_wp2_with fail
  exact bodyPost_ret (v := .tuple #[.int .i64 0, .int .i64 3]) (by simp [results, Tryz.results48, go_sem]) rfl ⟨rfl, unhide HE⟩

end Go.Proofs.YtoinadnpdbaamaaGreatDoor

namespace Go.Proofs.YtoinadnpdbaamaaGreatDoor
open Go.RowKit

set_option maxRecDepth 100000 in
set_option maxHeartbeats 2000000 in
theorem rfloor_no (n1 d1 : ByteArray) (w : World) (h1 : Reads n1 d1 false) : Ans 49 #[.agg #[.string n1, .string d1]] w ⟨#[]⟩ ⟨#[]⟩ 3 := by
  unfold Ans
  obtain ⟨V, hV⟩ : ∃ V, V = (w.alloc (.cells #[.string n1, .string d1] 23)).alloc (.cells #[.string ⟨#[]⟩, .string ⟨#[]⟩] 23) := ⟨_, rfl⟩
  have HS : Hid (N1 w V (.string n1) (.string d1)) := by rw [hV]; exact N1.first _ _ _
  have HV := hide hV
  have HR := hide (h1 V)
  clear h1
  go_enter Tryz.func49, Tryz.ntmps49
  go_upto_region 1 with fail
  rw [← unhide HV]
  clear hV HV
  have t0 := (unhide HS).a.c0; have t1 := (unhide HS).a.c1
  go_upto_region 2 with (go_at_call 76; go_must (refine (unhide HR).mono ?_; rintro e w1 ⟨b1, i1, i2, i3, i4, i5, i6, rfl, hb1⟩; have HS1 := hide ((unhide HS).later hb1); clear hb1 t0 t1))
  obtain ⟨V2, hV2⟩ : ∃ V2, V2 = w1.alloc (.cells #[.bool b1, .slice i1 i2 i3, .slice i4 i5 i6] 74) := ⟨_, rfl⟩
  have hb : Below w1.heap.size w1 V2 := by rw [hV2]; exact (Below.refl _ _).alloc (Nat.le_refl _) _
  have HS2 := hide ((unhide HS1).later hb)
  rw [← hV2]
  clear hV2 hb HS HS1 HR
  generalize w1.heap.size = g8 at *
  have r0 := (unhide HS2).r.c0; have r1 := (unhide HS2).r.c1; have rf0 := (unhide HS2).r.f0; have rf1 := (unhide HS2).r.f1
  go_wp2_with fail
  have hS := (unhide HS2).r.store (.string ⟨#[]⟩) (.string ⟨#[]⟩)
  have hb : Below w.heap.size w (store2 V2 (w.heap.size + 1) (.string ⟨#[]⟩) (.string ⟨#[]⟩)) := below_store2 (unhide HS2).below (by omega) _ _
  have u0 := hS.c0; have u1 := hS.c1
  exact bodyPost_ret (v := .tuple #[.agg #[.string ⟨#[]⟩, .string ⟨#[]⟩], .int .i64 3]) (w := store2 V2 (w.heap.size + 1) (.string ⟨#[]⟩) (.string ⟨#[]⟩)) (by simp [results, Tryz.results49, go_sem, u0, u1]) rfl ⟨rfl, hb⟩

set_option maxRecDepth 100000 in
set_option maxHeartbeats 2000000 in
theorem rround_no (n1 d1 : ByteArray) (j : Int) (w : World) (h1 : Reads n1 d1 false) : Ans 51 #[.agg #[.string n1, .string d1], .int .i64 j] w ⟨#[]⟩ ⟨#[]⟩ 3 := by
  unfold Ans
  obtain ⟨V, hV⟩ : ∃ V, V = (w.alloc (.cells #[.string n1, .string d1] 23)).alloc (.cells #[.string ⟨#[]⟩, .string ⟨#[]⟩] 23) := ⟨_, rfl⟩
  have HS : Hid (N1 w V (.string n1) (.string d1)) := by rw [hV]; exact N1.first _ _ _
  have HV := hide hV
  have HR := hide (h1 V)
  clear h1
  go_enter Tryz.func51, Tryz.ntmps51
  go_upto_region 1 with fail
  rw [← unhide HV]
  clear hV HV
  have t0 := (unhide HS).a.c0; have t1 := (unhide HS).a.c1
  go_upto_region 2 with (go_at_call 76; go_must (refine (unhide HR).mono ?_; rintro e w1 ⟨b1, i1, i2, i3, i4, i5, i6, rfl, hb1⟩; have HS1 := hide ((unhide HS).later hb1); clear hb1 t0 t1))
  obtain ⟨V2, hV2⟩ : ∃ V2, V2 = w1.alloc (.cells #[.bool b1, .slice i1 i2 i3, .slice i4 i5 i6] 74) := ⟨_, rfl⟩
  have hb : Below w1.heap.size w1 V2 := by rw [hV2]; exact (Below.refl _ _).alloc (Nat.le_refl _) _
  have HS2 := hide ((unhide HS1).later hb)
  rw [← hV2]
  clear hV2 hb HS HS1 HR
  generalize w1.heap.size = g8 at *
  have r0 := (unhide HS2).r.c0; have r1 := (unhide HS2).r.c1; have rf0 := (unhide HS2).r.f0; have rf1 := (unhide HS2).r.f1
  go_wp2_with fail
  have hS := (unhide HS2).r.store (.string ⟨#[]⟩) (.string ⟨#[]⟩)
  have hb : Below w.heap.size w (store2 V2 (w.heap.size + 1) (.string ⟨#[]⟩) (.string ⟨#[]⟩)) := below_store2 (unhide HS2).below (by omega) _ _
  have u0 := hS.c0; have u1 := hS.c1
  exact bodyPost_ret (v := .tuple #[.agg #[.string ⟨#[]⟩, .string ⟨#[]⟩], .int .i64 3]) (w := store2 V2 (w.heap.size + 1) (.string ⟨#[]⟩) (.string ⟨#[]⟩)) (by simp [results, Tryz.results51, go_sem, u0, u1]) rfl ⟨rfl, hb⟩

set_option maxRecDepth 100000 in
set_option maxHeartbeats 2000000 in
theorem rround_arg (n1 d1 : ByteArray) (x : Rat) (j : Int) (w : World) (h1 : IsR n1 d1 x) (hj : j < -600 ∨ 600 < j) : Ans 51 #[.agg #[.string n1, .string d1], .int .i64 j] w ⟨#[]⟩ ⟨#[]⟩ 1 := by
  unfold Ans
  obtain ⟨V, hV⟩ : ∃ V, V = (w.alloc (.cells #[.string n1, .string d1] 23)).alloc (.cells #[.string ⟨#[]⟩, .string ⟨#[]⟩] 23) := ⟨_, rfl⟩
  have HS : Hid (N1 w V (.string n1) (.string d1)) := by rw [hV]; exact N1.first _ _ _
  have HV := hide hV
  have HR := hide (qread n1 d1 x V h1)
  clear h1
  go_enter Tryz.func51, Tryz.ntmps51
  go_upto_region 1 with fail
  rw [← unhide HV]
  clear hV HV
  have t0 := (unhide HS).a.c0; have t1 := (unhide HS).a.c1
  go_upto_region 2 with (go_at_call 76; go_must (refine (unhide HR).mono ?_; rintro e w1 ⟨v1, rfl, hv1, hb1⟩; obtain ⟨b1, i1, i2, i3, i4, i5, i6, rfl⟩ := hv1.form; have HS1 := hide ((unhide HS).later hb1); have HV1 := hide hv1; clear hv1 hb1 t0 t1))
  obtain ⟨V2, hV2⟩ : ∃ V2, V2 = w1.alloc (.cells #[.bool b1, .slice i1 i2 i3, .slice i4 i5 i6] 74) := ⟨_, rfl⟩
  have hb : Below w1.heap.size w1 V2 := by rw [hV2]; exact (Below.refl _ _).alloc (Nat.le_refl _) _
  have HS2 := hide ((unhide HS1).later hb); have HX := hide ((unhide HV1).later hb)
  have HP : Hid (FBox V2 w1.heap.size (.bool b1) (.slice i1 i2 i3) (.slice i4 i5 i6)) := by rw [hV2]; exact FBox.new _ _ _ _
  rw [← hV2]
  clear hV2 hb HS HS1 HV1 HR
  generalize w1.heap.size = g8 at *
  have r0 := (unhide HS2).r.c0; have r1 := (unhide HS2).r.c1; have rf0 := (unhide HS2).r.f0; have rf1 := (unhide HS2).r.f1
  by_cases h : j < -600
  · go_wp2_with fail
    have hS := (unhide HS2).r.store (.string ⟨#[]⟩) (.string ⟨#[]⟩)
    have hb : Below w.heap.size w (store2 V2 (w.heap.size + 1) (.string ⟨#[]⟩) (.string ⟨#[]⟩)) := below_store2 (unhide HS2).below (by omega) _ _
    have u0 := hS.c0; have u1 := hS.c1
    exact bodyPost_ret (v := .tuple #[.agg #[.string ⟨#[]⟩, .string ⟨#[]⟩], .int .i64 1]) (w := store2 V2 (w.heap.size + 1) (.string ⟨#[]⟩) (.string ⟨#[]⟩)) (by simp [results, Tryz.results51, go_sem, u0, u1]) rfl ⟨rfl, hb⟩
  · have h' : 600 < j := by omega
    go_wp2_with fail
    have hS := (unhide HS2).r.store (.string ⟨#[]⟩) (.string ⟨#[]⟩)
    have hb : Below w.heap.size w (store2 V2 (w.heap.size + 1) (.string ⟨#[]⟩) (.string ⟨#[]⟩)) := below_store2 (unhide HS2).below (by omega) _ _
    have u0 := hS.c0; have u1 := hS.c1
    exact bodyPost_ret (v := .tuple #[.agg #[.string ⟨#[]⟩, .string ⟨#[]⟩], .int .i64 1]) (w := store2 V2 (w.heap.size + 1) (.string ⟨#[]⟩) (.string ⟨#[]⟩)) (by simp [results, Tryz.results51, go_sem, u0, u1]) rfl ⟨rfl, hb⟩

set_option maxRecDepth 100000 in
set_option maxHeartbeats 2000000 in
theorem rcmp_no (n1 d1 n2 d2 : ByteArray) (w : World) (s1 : n1.size ≤ maxLen) (s2 : d1.size ≤ maxLen) (s3 : n2.size ≤ maxLen) (s4 : d2.size ≤ maxLen) (h : ¬ (RightT n1 d1 ∧ RightT n2 d2)) : AnsN 46 #[.agg #[.string n1, .string d1], .agg #[.string n2, .string d2]] w 0 3 := by
  unfold AnsN
  obtain ⟨V, hV⟩ : ∃ V, V = (w.alloc (.cells #[.string n1, .string d1] 23)).alloc (.cells #[.string n2, .string d2] 23) := ⟨_, rfl⟩
  have HB0 : Hid (Below w.heap.size w V) := by rw [hV]; exact ((Below.refl _ _).alloc (Nat.le_refl _) _).alloc (by simp) _
  have HV := hide hV
  have HR := hide (readTwo_no n1 d1 n2 d2 V s1 s2 s3 s4 h)
  clear h hV s1 s2 s3 s4
  go_enter Tryz.func46, Tryz.ntmps46
  go_upto_region 2 with (go_at_call 96; go_must (rw [← unhide HV]; refine (unhide HR).mono ?_; rintro e w1 ⟨rfl, hb1⟩; have HB1 := hide ((unhide HB0).trans (hb1.mono (unhide HB0).size)); unfold zeroF; clear hb1))
  clear HV
  obtain ⟨V2, hV2⟩ : ∃ V2, V2 = (w1.alloc (.cells #[.bool false, .slice none 0 0, .slice none 0 0] 74)).alloc (.cells #[.bool false, .slice none 0 0, .slice none 0 0] 74) := ⟨_, rfl⟩
  have hb : Below w1.heap.size w1 V2 := by rw [hV2]; exact ((Below.refl _ _).alloc (Nat.le_refl _) _).alloc (by simp) _
  have HE := hide ((unhide HB1).trans (hb.mono (unhide HB1).size))
  rw [← hV2]
  clear hV2 hb HB0 HB1 HR
  go_wp2_with fail
  exact bodyPost_ret (v := .tuple #[.int .i64 0, .int .i64 3]) (by simp [results, Tryz.results46, go_sem]) rfl ⟨rfl, unhide HE⟩

set_option maxRecDepth 100000 in
set_option maxHeartbeats 2000000 in
theorem rfloor_walk (n1 d1 : ByteArray) (x rq : Rat) (m : Nat) (w : World) (h1 : IsR n1 d1 x) (htab : Tab w) (hm : m < 1000000000 ^ 67) (hrq : rq = Cub.valQ (decide (x < 0)) m 1)
    (hF : ∀ W v, QOf W v x 67 → Calls Tryz.prog 111 #[v] W fun e w' => ∃ a l c a' l' c', e = .returned (.tuple #[.agg #[.slice a l c], .agg #[.slice a' l' c']]) ∧ IsBig w' (.agg #[.slice a l c]) m ∧ Below W.heap.size W w') :
    Ans 49 #[.agg #[.string n1, .string d1]] w (numT rq) (denT rq) (errT rq) := by
  unfold Ans
  obtain ⟨V, hV⟩ : ∃ V, V = (w.alloc (.cells #[.string n1, .string d1] 23)).alloc (.cells #[.string ⟨#[]⟩, .string ⟨#[]⟩] 23) := ⟨_, rfl⟩
  have HS : Hid (N1 w V (.string n1) (.string d1)) := by rw [hV]; exact N1.first _ _ _
  have HV := hide hV
  have HR := hide (qread n1 d1 x V h1)
  have HFL := hide hF
  have HT := hide htab
  have h1k : 1 < 1000000000 ^ 67 := Nat.one_lt_pow (by omega) (by omega)
  have HBO : Hid (∀ W, Calls Tryz.prog 112 #[.int .u64 1] W fun e w' => ∃ a l c, e = .returned (.agg #[.slice a l c]) ∧ IsBig w' (.agg #[.slice a l c]) 1 ∧ Below W.heap.size W w') := fun W => bigOf_any 1 W (by decide)
  have HRA : Hid (∀ b W y z, b = decide (x < 0) → IsBig W y m → IsBig W z 1 → Calls Tryz.prog 70 #[.bool b, y, z] W fun e w' => ∃ v', e = .returned v' ∧ QOf w' v' rq 67 ∧ Below W.heap.size W w') := fun b W y z hbx hy hz => by
    subst hbx
    refine (ratio_any _ y z _ _ 67 W hy hz hm h1k (by omega) (divAns 67 (by omega)) (gcdAns 67 (by omega))).mono ?_
    rintro e w' ⟨v', rfl, hf, hb⟩
    obtain ⟨l1, l2⟩ := Cub.ratio_low (b := decide (x < 0)) (n := m) (show 0 < 1 by omega)
    exact ⟨v', rfl, ⟨_, _, _, hf, l1, l2.trans hrq.symm, Nat.lt_of_le_of_lt (Nat.div_le_self _ _) hm, Nat.lt_of_le_of_lt (Nat.div_le_self _ _) h1k⟩, hb⟩
  have HSG : Hid (∀ W b s t, QOf W (.agg #[.bool b, s, t]) x 67 → b = decide (x < 0)) := fun W b s t h => by
    obtain ⟨b', n, d, ⟨s', t', e, _⟩, hl, hvq, _⟩ := h
    obtain ⟨l1, _, _⟩ := Cub.low_is hl
    rw [hvq] at l1
    simp only [Value.agg.injEq, Array.mk.injEq, List.cons.injEq, Value.bool.injEq] at e
    rw [e.1]; exact l1
  clear h1 hF hm hrq htab h1k
  go_enter Tryz.func49, Tryz.ntmps49
  go_upto_region 1 with fail
  rw [← unhide HV]
  clear hV HV
  have t0 := (unhide HS).a.c0; have t1 := (unhide HS).a.c1
  go_upto_region 2 with (go_at_call 76; go_must (refine (unhide HR).mono ?_; rintro e w1 ⟨v1, rfl, hv1, hb1⟩; obtain ⟨b1, i1, i2, i3, i4, i5, i6, rfl⟩ := hv1.form; have HS1 := hide ((unhide HS).later hb1); have HV1 := hide hv1; clear hv1 hb1 t0 t1))
  obtain ⟨V2, hV2⟩ : ∃ V2, V2 = w1.alloc (.cells #[.bool b1, .slice i1 i2 i3, .slice i4 i5 i6] 74) := ⟨_, rfl⟩
  have hb : Below w1.heap.size w1 V2 := by rw [hV2]; exact (Below.refl _ _).alloc (Nat.le_refl _) _
  have HS2 := hide ((unhide HS1).later hb); have HX := hide ((unhide HV1).later hb)
  have HP : Hid (FBox V2 w1.heap.size (.bool b1) (.slice i1 i2 i3) (.slice i4 i5 i6)) := by rw [hV2]; exact FBox.new _ _ _ _
  have hgr : w.heap.size + 1 < w1.heap.size := (unhide HS1).r.lt
  rw [← hV2]
  clear hV2 hb HS HS1 HV1 HR
  generalize w1.heap.size = g8 at *
  have t0 := (unhide HP).c0; have t1 := (unhide HP).c1; have t2 := (unhide HP).c2
  have HSGN := hide (unhide HSG _ _ _ _ (unhide HX))
  clear HSG
  go_upto_region 5 with (go_at_call 111; go_must (refine (unhide HFL _ _ (unhide HX)).mono ?_; rintro e w3 ⟨a3, l3, c3, a4, l4, c4, rfl, hv3, hb3⟩; have HS3 := hide ((unhide HS2).later hb3); have HP3 := hide ((unhide HP).later hb3); have HN3 := hide hv3; clear hv3 hb3 t0 t1 t2))
  obtain ⟨V5, hV5⟩ : ∃ V5, V5 = (w3.alloc (.cells #[.slice a3 l3 c3] 72)).alloc (.cells #[.slice a4 l4 c4] 72) := ⟨_, rfl⟩
  have hb5 : Below w3.heap.size w3 V5 := by rw [hV5]; exact ((Below.refl _ _).alloc (Nat.le_refl _) _).alloc (by simp) _
  have hg3 : w.heap.size + 1 < w3.heap.size := (unhide HS3).r.lt
  have HB5 : Hid (Box V5 w3.heap.size (.slice a3 l3 c3)) := by rw [hV5]; exact (⟨by simp [go_sem], by simp [go_sem]⟩ : Box (w3.alloc (.cells #[.slice a3 l3 c3] 72)) w3.heap.size (.slice a3 l3 c3)).later ((Below.refl _ _).alloc (Nat.le_refl _) _)
  have HS5 := hide ((unhide HS3).later hb5); have HP5 := hide ((unhide HP3).later hb5); have HN5 := hide ((unhide HN3).later hb5)
  rw [← hV5]
  clear hV5 hb5 HS2 HS3 HP HP3 HN3 HX HFL
  generalize w3.heap.size = g9 at *
  have HC : Hid (∀ U, Below V5.heap.size V5 U → (U.cell? ⟨g8, 0, none⟩ = some (.bool b1) ∧ U.cell? ⟨g9, 0, none⟩ = some (.slice a3 l3 c3)) ∧ (U.cell? ⟨w.heap.size + 1, 0, none⟩ = some (.string ⟨#[]⟩) ∧ U.cell? ⟨w.heap.size + 1, 1, none⟩ = some (.string ⟨#[]⟩) ∧ U.frozen? ⟨w.heap.size + 1, 0, none⟩ = false ∧ U.frozen? ⟨w.heap.size + 1, 1, none⟩ = false)) := fun U hb => by
    have s := (unhide HS5).later hb
    exact ⟨⟨((unhide HP5).later hb).c0, ((unhide HB5).later hb).c⟩, s.r.c0, s.r.c1, s.r.f0, s.r.f1⟩
  obtain ⟨⟨u1, u2⟩, _⟩ := unhide HC V5 (Below.refl _ _)
  have n8 : w.heap.size + 1 ≠ g8 := by omega
  have n9 : w.heap.size + 1 ≠ g9 := by omega
  go_region_held3 (fun w' => w'.cell? ⟨g8, 0, none⟩ = some (.bool b1) ∧ w'.cell? ⟨g9, 0, none⟩ = some (.slice a3 l3 c3)) (first | assumption | (refine ⟨?_, ?_⟩ <;> first | assumption | ((rw [World.cell?_setCell_far, World.cell?_setCell_far] <;> assumption); done) | (simp [go_sem, *]; done)) | (simp [go_sem, *]; done)) ((first
    | (go_at_call 112; go_must (refine (unhide HBO _).mono ?_; rintro e wd ⟨ac, lc, cc, rfl, hvc, hbc⟩; have HVC := hide hvc; have HCC := hide (((Below.refl V5.heap.size V5).drew).trans hbc); clear hvc hbc u1 u2; obtain ⟨⟨u1, u2⟩, _⟩ := unhide HC wd (unhide HCC)))
    | (go_at_call 70; go_must (refine (unhide HRA _ _ _ _ (unhide HSGN) ((unhide HN5).later (unhide HCC)) (unhide HVC)).mono ?_; rintro e we ⟨v8, rfl, hv8, hb8⟩; have HV8 := hide hv8; have HCD := hide ((unhide HCC).trans (hb8.mono (unhide HCC).size)); clear hv8 hb8 u1 u2; obtain ⟨⟨u1, u2⟩, _⟩ := unhide HC we (unhide HCD)))
    | (go_at_call 72; go_must (refine (qtell _ _ 67 _ (unhide HV8) (by decide) ((unhide HT).later ((unhide HS5).later (unhide HCD)).below)).mono ?_; rintro e wf ⟨rfl, hb9⟩; have HCE := hide ((unhide HCD).trans (hb9.mono (unhide HCD).size)); clear hb9 u1 u2; obtain ⟨⟨u1, u2⟩, r0, r1, rf0, rf1⟩ := unhide HC wf (unhide HCE)))))
  all_goals
    have HS9 := hide ((unhide HS5).later (unhide HCE))
    have hS := (unhide HS9).r.store (.string (numT rq)) (.string (denT rq))
    have hb : Below w.heap.size w (store2 wf (w.heap.size + 1) (.string (numT rq)) (.string (denT rq))) := below_store2 (unhide HS9).below (by omega) _ _
    obtain ⟨V9, hV9⟩ : ∃ V9, V9 = store2 wf (w.heap.size + 1) (.string (numT rq)) (.string (denT rq)) := ⟨_, rfl⟩
    have hV9' : V9 = (wf.setCell ⟨w.heap.size + 1, 0, none⟩ (.string (numT rq))).setCell ⟨w.heap.size + 1, 1, none⟩ (.string (denT rq)) := hV9
    have u0' := hS.c0; have u1' := hS.c1
    rw [← hV9] at u0' u1' hb
    rw [← hV9']
    have HB9 := hide hb
    clear hV9 hV9' hS hb u1 u2 r0 r1 rf0 rf1
    go_wp2_with fail
    exact bodyPost_ret (v := .tuple #[.agg #[.string (numT rq), .string (denT rq)], .int .i64 (errT rq)]) (by simp [results, Tryz.results49, go_sem, u0', u1']) rfl ⟨rfl, unhide HB9⟩

end Go.Proofs.YtoinadnpdbaamaaGreatDoor

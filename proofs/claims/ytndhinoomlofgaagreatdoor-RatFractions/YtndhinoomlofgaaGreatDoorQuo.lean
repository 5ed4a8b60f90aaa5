/- rat.Quo, Cmp, Neg. -/
import Derived.Test.YtndhinoomlofgaaGreatDoorRead
import Derived.Test.YtndhinoomlofgaaGreatDoorTell
namespace Go.Proofs.YtndhinoomlofgaaGreatDoor
open Go.RowKit

set_option maxRecDepth 100000 in
set_option maxHeartbeats 4000000 in
/-- What Read answers where both texts are numbers. -/
theorem read_gcd (num den : ByteArray) (b : Bool) (n d : Nat) (w : World) (hnum : num = sT b n) (hden : den = tb d) (hn : n < 10 ^ 600) (hd : d < 10 ^ 600) (hb0 : b = true → n ≠ 0) (hd0 : d ≠ 0) (hg : Nat.gcd n d ≠ 1) :
    Calls Tryz.prog 78 #[.agg #[.string num, .string den]] w fun r w' => r = .returned (.tuple #[zeroF, .bool false]) ∧ Below w.heap.size w w' := by
  obtain ⟨V, hV⟩ : ∃ V, V = (w.alloc (.cells #[.string num, .string den] 23)).alloc (.cells #[.bool false, .slice none 0 0, .slice none 0 0] 74) := ⟨_, rfl⟩
  have HS : Hid (RS w V (.string num) (.string den)) := by rw [hV]; exact RS.first _ _ _
  have HV := hide hV
  have HC68 : Hid (Calls Tryz.prog 70 #[.string num] V fun e w' => e = .returned (.tuple #[.bool b, .string (tb n)]) ∧ w' = V) := by
    have := cutSign_any num V
    rw [hnum, neg_sT b n hn, dig_sT b n hn] at this
    rw [hnum]; exact this
  have HR1 : Hid (Calls Tryz.prog 71 #[.string (tb n)] V fun e w' => e = .returned (.bool true) ∧ w' = V) := by
    have := right_any (tb n) V (tb_size n hn)
    rwa [(tb_right n hn).1] at this
  have HR2 : Hid (Calls Tryz.prog 71 #[.string den] V fun e w' => e = .returned (.bool true) ∧ w' = V) := by
    have := right_any (tb d) V (tb_size d hd)
    rw [(tb_right d hd).1] at this
    rw [hden]; exact this
  have z1 : b = true → ((tb n).toList == [48]) = false := fun h => by rw [tb_eq48 n hn, beq_eq_false_iff_ne]; exact hb0 h
  have z2 : (den.toList == [48]) = false := by rw [hden, tb_eq48 d hd, beq_eq_false_iff_ne]; exact hd0
  have HB1 : Hid (∀ W, Calls Tryz.prog 73 #[.string (tb n)] W fun e w' => ∃ v, e = .returned v ∧ IsBig w' v n ∧ Below W.heap.size W w') := fun W => by
    have := bigText_any (tb n) W (by have := (tb_digs n hn).2; omega) (tb_digs n hn).1
    rwa [(tb_right n hn).2] at this
  have HB2 : Hid (∀ W, Calls Tryz.prog 73 #[.string den] W fun e w' => ∃ v, e = .returned v ∧ IsBig w' v d ∧ Below W.heap.size W w') := fun W => by
    have := bigText_any (tb d) W (by have := (tb_digs d hd).2; omega) (tb_digs d hd).1
    rw [(tb_right d hd).2] at this
    rw [hden]; exact this
  have p6 := pow600
  have HLT : Hid (n < 1000000000 ^ 67 ∧ d < 1000000000 ^ 67) := ⟨Nat.lt_of_lt_of_le hn p6, Nat.lt_of_lt_of_le hd p6⟩
  have HG : Hid (∀ W x y, IsBig W x n → IsBig W y d → Calls Tryz.prog 132 #[x, y] W fun e w' => ∃ a l c, e = .returned (.agg #[.slice a l c]) ∧ IsBig w' (.agg #[.slice a l c]) (Nat.gcd n d) ∧ Below W.heap.size W w') := fun W x y h1 h2 => gcdAns 67 (by decide) W x y n d h1 h2 (unhide HLT).1 (unhide HLT).2
  obtain ⟨gg, hgg⟩ : ∃ gg, gg = Nat.gcd n d := ⟨_, rfl⟩
  rw [← hgg] at HG hg
  have H1 : Hid (∀ W x, IsBig W x gg → Calls Tryz.prog 133 #[x] W fun e w' => e = .returned (.bool false) ∧ Below W.heap.size W w') := fun W x h => by
    have := isOne_any x gg W h
    rwa [show (gg == 1) = false by rw [beq_eq_false_iff_ne]; exact hg] at this
  clear hgg
  clear p6 hn hd hb0 hd0 hg hnum hden
  generalize tb n = ds at *
  go_enter Tryz.func78, Tryz.ntmps78
  go_upto_region 1 with fail
  rw [← unhide HV]
  clear hV HV
  have t0 := (unhide HS).a.c0; have t1 := (unhide HS).a.c1
  have HGOAL : True := trivial
  cases b with
  | true =>
    have z3 := z1 rfl
    go_upto_region 4 with (first
      | (go_at_call 70; go_must (refine (unhide HC68).mono ?_; rintro e w1 ⟨rfl, hw1⟩; obtain rfl : V = w1 := hw1.symm))
      | (go_at_call_of 71 (Value.string ds); go_must (refine (unhide HR1).mono ?_; rintro e w1 ⟨rfl, hw1⟩; obtain rfl : V = w1 := hw1.symm))
      | (go_at_call 71; go_must (refine (unhide HR2).mono ?_; rintro e w1 ⟨rfl, hw1⟩; obtain rfl : V = w1 := hw1.symm)))
    have HC : Hid (∀ U, Below V.heap.size V U → U.cell? ⟨w.heap.size, 1, none⟩ = some (.string den) ∧ w.heap.size < U.heap.size ∧ w.heap.size + 1 < U.heap.size) := fun U hb => by
      have s := (unhide HS).later hb
      exact ⟨s.a.c1, s.a.lt, s.r.lt⟩
    have zv := (unhide HC V (Below.refl _ _)).2
    clear t0
    go_region_held3 (fun w' => w'.cell? ⟨w.heap.size, 1, none⟩ = some (.string den)) (first | assumption | (simp [go_sem, *]; done) | (rw [World.cell?_setCell_other _ _ _ _ (by simp; omega), World.cell?_setCell_other _ _ _ _ (by simp; omega), World.cell?_setCell_other _ _ _ _ (by simp; omega)]; assumption)) ((first
      | (go_at_call_of 73 (Value.string ds); go_must (refine (unhide HB1 _).mono ?_; rintro e wa ⟨va, rfl, hva, hba⟩; obtain ⟨aa, la, ca, rfl⟩ := hva.shape; have HVA := hide hva; have HCA : Hid (Below V.heap.size V wa) := (by first | exact ((Below.refl V.heap.size V).drew).trans hba | exact (((Below.refl V.heap.size V).drew).alloc (by simp) _).trans (hba.mono (by simp))); (first | (have HN : Hid (FBox wa V.heap.size (.bool false) (.slice none 0 0) (.slice none 0 0)) := (FBox.new V.drew _ _ _).later hba; have nc0 := (unhide HN).c0; have nc1 := (unhide HN).c1; have nc2 := (unhide HN).c2; have nf0 := (unhide HN).f0; have nf1 := (unhide HN).f1; have nf2 := (unhide HN).f2) | skip); clear hva hba t1; obtain ⟨t1, za⟩ := unhide HC wa (unhide HCA)))
      | (go_at_call 73; go_must (refine (unhide HB2 _).mono ?_; rintro e wb ⟨vb, rfl, hvb, hbb⟩; obtain ⟨ab, lb, cb, rfl⟩ := hvb.shape; have HVB := hide hvb; have Htrue : Hid (Below wa.heap.size wa wb) := (by first | exact hbb | exact ((Below.refl _ _).alloc (Nat.le_refl _) _).trans (hbb.mono (by simp))); have HVA' := hide ((unhide HVA).later (unhide Htrue)); have HCB := hide ((unhide HCA).trans ((unhide Htrue).mono (unhide HCA).size)); (first | (have HN2 := hide ((unhide HN).later hbb); clear HN; have HN := HN2; clear HN2; clear nc0 nc1 nc2 nf0 nf1 nf2; have nc0 := (unhide HN).c0; have nc1 := (unhide HN).c1; have nc2 := (unhide HN).c2; have nf0 := (unhide HN).f0; have nf1 := (unhide HN).f1; have nf2 := (unhide HN).f2) | (have HN := hide ((FBox.new _ _ _ _).later hbb); have nc0 := (unhide HN).c0; have nc1 := (unhide HN).c1; have nc2 := (unhide HN).c2; have nf0 := (unhide HN).f0; have nf1 := (unhide HN).f1; have nf2 := (unhide HN).f2) | skip); clear hvb hbb t1; obtain ⟨t1, zb⟩ := unhide HC wb (unhide HCB)))))
    all_goals
      first
      | (obtain ⟨V4, hV4⟩ : ∃ V4, V4 = wb.alloc (.cells #[.bool true, .slice aa la ca, .slice ab lb cb] 74) := ⟨_, rfl⟩
         rw [← hV4]
         have hb : Below wb.heap.size wb V4 := by rw [hV4]; exact (Below.refl _ _).alloc (Nat.le_refl _) _
         have HS4 : Hid (RS w V4 (.string num) (.string den)) := ((unhide HS).later (unhide HCB)).later hb
         have HF4 : Hid (FBox V4 wb.heap.size (.bool true) (.slice aa la ca) (.slice ab lb cb)) := by rw [hV4]; exact FBox.new _ _ _ _
         have HN4 := hide ((unhide HVA').later hb)
         have HD4 := hide ((unhide HVB).later hb)
         have hgr : w.heap.size + 1 < wb.heap.size := zb.2
         clear hV4 hb zv za zb t1 HVA HVA' HVB HCA HCB Htrue HS HC
         generalize wb.heap.size = g6 at *)
      | (obtain ⟨V4, hV4⟩ : ∃ V4, V4 = ((wb.setCell ⟨V.heap.size, 0, none⟩ (.bool true)).setCell ⟨V.heap.size, 1, none⟩ (.slice aa la ca)).setCell ⟨V.heap.size, 2, none⟩ (.slice ab lb cb) := ⟨_, rfl⟩
         rw [← hV4]
         have hgr : w.heap.size + 1 < V.heap.size := zv.2
         have HF4 : Hid (FBox V4 V.heap.size (.bool true) (.slice aa la ca) (.slice ab lb cb)) := by rw [hV4]; exact (unhide HN).store _ _ _
         have HN4 : Hid (IsBig V4 (.agg #[.slice aa la ca]) n) := by rw [hV4]; exact (unhide HN).big _ _ _ (unhide HVA')
         have HD4 : Hid (IsBig V4 (.agg #[.slice ab lb cb]) d) := by rw [hV4]; exact (unhide HN).big _ _ _ (unhide HVB)
         have HS4 : Hid (RS w V4 (.string num) (.string den)) := by
           rw [hV4]
           have s := (unhide HS).later (unhide HCB)
           exact ⟨((s.a.otherAt (by omega) _).otherAt (by omega) _).otherAt (by omega) _, ((s.r.otherAt (by omega) _).otherAt (by omega) _).otherAt (by omega) _, below_store3 s.below (by omega) _ _ _⟩
         clear hV4 zv za zb t1 HVA HVA' HVB HCA HCB Htrue HS HC HN nc0 nc1 nc2 nf0 nf1 nf2
         generalize V.heap.size = g6 at *)
      | (obtain ⟨V4, hV4⟩ : ∃ V4, V4 = ((wb.setCell ⟨wa.heap.size, 0, none⟩ (.bool true)).setCell ⟨wa.heap.size, 1, none⟩ (.slice aa la ca)).setCell ⟨wa.heap.size, 2, none⟩ (.slice ab lb cb) := ⟨_, rfl⟩
         rw [← hV4]
         have hgr : w.heap.size + 1 < wa.heap.size := za.2
         have HF4 : Hid (FBox V4 wa.heap.size (.bool true) (.slice aa la ca) (.slice ab lb cb)) := by rw [hV4]; exact (unhide HN).store _ _ _
         have HN4 : Hid (IsBig V4 (.agg #[.slice aa la ca]) n) := by rw [hV4]; exact (unhide HN).big _ _ _ (unhide HVA')
         have HD4 : Hid (IsBig V4 (.agg #[.slice ab lb cb]) d) := by rw [hV4]; exact (unhide HN).big _ _ _ (unhide HVB)
         have HS4 : Hid (RS w V4 (.string num) (.string den)) := by
           rw [hV4]
           have s := (unhide HS).later (unhide HCB)
           exact ⟨((s.a.otherAt (by omega) _).otherAt (by omega) _).otherAt (by omega) _, ((s.r.otherAt (by omega) _).otherAt (by omega) _).otherAt (by omega) _, below_store3 s.below (by omega) _ _ _⟩
         clear hV4 zv za zb t1 HVA HVA' HVB HCA HCB Htrue HS HC HN nc0 nc1 nc2 nf0 nf1 nf2
         generalize wa.heap.size = g6 at *)
      have t0 := (unhide HF4).c0; have t1 := (unhide HF4).c1; have t2 := (unhide HF4).c2
      go_wp2_with (first
        | (go_at_call 132; go_must (refine (unhide HG _ _ _ (unhide HN4) (unhide HD4)).mono ?_; rintro e w5 ⟨ag, lg, cg, rfl, hv5, hb5⟩; have HG5 := hide hv5; have HB5 := hide hb5; clear hv5 hb5))
        | (go_at_call 133; go_must (refine (unhide H1 _ _ (unhide HG5)).mono ?_; rintro e w6 ⟨rfl, hb6⟩; have HB6 := hide ((unhide HB5).trans (hb6.mono (unhide HB5).size)); clear hb6 t0 t1 t2; have HS6 := hide ((unhide HS4).later (unhide HB6)); have HF6 := hide ((unhide HF4).later (unhide HB6)); have t0 := (unhide HF6).c0; have t1 := (unhide HF6).c1; have t2 := (unhide HF6).c2; have r0 := (unhide HS6).r.c0; have r1 := (unhide HS6).r.c1; have r2 := (unhide HS6).r.c2; have rf0 := (unhide HS6).r.f0; have rf1 := (unhide HS6).r.f1; have rf2 := (unhide HS6).r.f2)))
      have hS := (unhide HS6).r.store (.bool false) (.slice none 0 0) (.slice none 0 0)
      have hb : Below w.heap.size w (store3 w6 (w.heap.size + 1) (.bool false) (.slice none 0 0) (.slice none 0 0)) := below_store3 (unhide HS6).below (by omega) _ _ _
      have u0 := hS.c0; have u1 := hS.c1; have u2 := hS.c2
      exact bodyPost_ret (v := .tuple #[zeroF, .bool false]) (w := store3 w6 (w.heap.size + 1) (.bool false) (.slice none 0 0) (.slice none 0 0)) (by simp [results, Tryz.results78, go_sem, u0, u1, u2, zeroF]) rfl ⟨rfl, hb⟩
  | false =>
    clear z1
    go_upto_region 4 with (first
      | (go_at_call 70; go_must (refine (unhide HC68).mono ?_; rintro e w1 ⟨rfl, hw1⟩; obtain rfl : V = w1 := hw1.symm))
      | (go_at_call_of 71 (Value.string ds); go_must (refine (unhide HR1).mono ?_; rintro e w1 ⟨rfl, hw1⟩; obtain rfl : V = w1 := hw1.symm))
      | (go_at_call 71; go_must (refine (unhide HR2).mono ?_; rintro e w1 ⟨rfl, hw1⟩; obtain rfl : V = w1 := hw1.symm)))
    have HC : Hid (∀ U, Below V.heap.size V U → U.cell? ⟨w.heap.size, 1, none⟩ = some (.string den) ∧ w.heap.size < U.heap.size ∧ w.heap.size + 1 < U.heap.size) := fun U hb => by
      have s := (unhide HS).later hb
      exact ⟨s.a.c1, s.a.lt, s.r.lt⟩
    have zv := (unhide HC V (Below.refl _ _)).2
    clear t0
    go_region_held3 (fun w' => w'.cell? ⟨w.heap.size, 1, none⟩ = some (.string den)) (first | assumption | (simp [go_sem, *]; done) | (rw [World.cell?_setCell_other _ _ _ _ (by simp; omega), World.cell?_setCell_other _ _ _ _ (by simp; omega), World.cell?_setCell_other _ _ _ _ (by simp; omega)]; assumption)) ((first
      | (go_at_call_of 73 (Value.string ds); go_must (refine (unhide HB1 _).mono ?_; rintro e wa ⟨va, rfl, hva, hba⟩; obtain ⟨aa, la, ca, rfl⟩ := hva.shape; have HVA := hide hva; have HCA : Hid (Below V.heap.size V wa) := (by first | exact ((Below.refl V.heap.size V).drew).trans hba | exact (((Below.refl V.heap.size V).drew).alloc (by simp) _).trans (hba.mono (by simp))); (first | (have HN : Hid (FBox wa V.heap.size (.bool false) (.slice none 0 0) (.slice none 0 0)) := (FBox.new V.drew _ _ _).later hba; have nc0 := (unhide HN).c0; have nc1 := (unhide HN).c1; have nc2 := (unhide HN).c2; have nf0 := (unhide HN).f0; have nf1 := (unhide HN).f1; have nf2 := (unhide HN).f2) | skip); clear hva hba t1; obtain ⟨t1, za⟩ := unhide HC wa (unhide HCA)))
      | (go_at_call 73; go_must (refine (unhide HB2 _).mono ?_; rintro e wb ⟨vb, rfl, hvb, hbb⟩; obtain ⟨ab, lb, cb, rfl⟩ := hvb.shape; have HVB := hide hvb; have Hfalse : Hid (Below wa.heap.size wa wb) := (by first | exact hbb | exact ((Below.refl _ _).alloc (Nat.le_refl _) _).trans (hbb.mono (by simp))); have HVA' := hide ((unhide HVA).later (unhide Hfalse)); have HCB := hide ((unhide HCA).trans ((unhide Hfalse).mono (unhide HCA).size)); (first | (have HN2 := hide ((unhide HN).later hbb); clear HN; have HN := HN2; clear HN2; clear nc0 nc1 nc2 nf0 nf1 nf2; have nc0 := (unhide HN).c0; have nc1 := (unhide HN).c1; have nc2 := (unhide HN).c2; have nf0 := (unhide HN).f0; have nf1 := (unhide HN).f1; have nf2 := (unhide HN).f2) | (have HN := hide ((FBox.new _ _ _ _).later hbb); have nc0 := (unhide HN).c0; have nc1 := (unhide HN).c1; have nc2 := (unhide HN).c2; have nf0 := (unhide HN).f0; have nf1 := (unhide HN).f1; have nf2 := (unhide HN).f2) | skip); clear hvb hbb t1; obtain ⟨t1, zb⟩ := unhide HC wb (unhide HCB)))))
    all_goals
      first
      | (obtain ⟨V4, hV4⟩ : ∃ V4, V4 = wb.alloc (.cells #[.bool false, .slice aa la ca, .slice ab lb cb] 74) := ⟨_, rfl⟩
         rw [← hV4]
         have hb : Below wb.heap.size wb V4 := by rw [hV4]; exact (Below.refl _ _).alloc (Nat.le_refl _) _
         have HS4 : Hid (RS w V4 (.string num) (.string den)) := ((unhide HS).later (unhide HCB)).later hb
         have HF4 : Hid (FBox V4 wb.heap.size (.bool false) (.slice aa la ca) (.slice ab lb cb)) := by rw [hV4]; exact FBox.new _ _ _ _
         have HN4 := hide ((unhide HVA').later hb)
         have HD4 := hide ((unhide HVB).later hb)
         have hgr : w.heap.size + 1 < wb.heap.size := zb.2
         clear hV4 hb zv za zb t1 HVA HVA' HVB HCA HCB Hfalse HS HC
         generalize wb.heap.size = g6 at *)
      | (obtain ⟨V4, hV4⟩ : ∃ V4, V4 = ((wb.setCell ⟨V.heap.size, 0, none⟩ (.bool false)).setCell ⟨V.heap.size, 1, none⟩ (.slice aa la ca)).setCell ⟨V.heap.size, 2, none⟩ (.slice ab lb cb) := ⟨_, rfl⟩
         rw [← hV4]
         have hgr : w.heap.size + 1 < V.heap.size := zv.2
         have HF4 : Hid (FBox V4 V.heap.size (.bool false) (.slice aa la ca) (.slice ab lb cb)) := by rw [hV4]; exact (unhide HN).store _ _ _
         have HN4 : Hid (IsBig V4 (.agg #[.slice aa la ca]) n) := by rw [hV4]; exact (unhide HN).big _ _ _ (unhide HVA')
         have HD4 : Hid (IsBig V4 (.agg #[.slice ab lb cb]) d) := by rw [hV4]; exact (unhide HN).big _ _ _ (unhide HVB)
         have HS4 : Hid (RS w V4 (.string num) (.string den)) := by
           rw [hV4]
           have s := (unhide HS).later (unhide HCB)
           exact ⟨((s.a.otherAt (by omega) _).otherAt (by omega) _).otherAt (by omega) _, ((s.r.otherAt (by omega) _).otherAt (by omega) _).otherAt (by omega) _, below_store3 s.below (by omega) _ _ _⟩
         clear hV4 zv za zb t1 HVA HVA' HVB HCA HCB Hfalse HS HC HN nc0 nc1 nc2 nf0 nf1 nf2
         generalize V.heap.size = g6 at *)
      | (obtain ⟨V4, hV4⟩ : ∃ V4, V4 = ((wb.setCell ⟨wa.heap.size, 0, none⟩ (.bool false)).setCell ⟨wa.heap.size, 1, none⟩ (.slice aa la ca)).setCell ⟨wa.heap.size, 2, none⟩ (.slice ab lb cb) := ⟨_, rfl⟩
         rw [← hV4]
         have hgr : w.heap.size + 1 < wa.heap.size := za.2
         have HF4 : Hid (FBox V4 wa.heap.size (.bool false) (.slice aa la ca) (.slice ab lb cb)) := by rw [hV4]; exact (unhide HN).store _ _ _
         have HN4 : Hid (IsBig V4 (.agg #[.slice aa la ca]) n) := by rw [hV4]; exact (unhide HN).big _ _ _ (unhide HVA')
         have HD4 : Hid (IsBig V4 (.agg #[.slice ab lb cb]) d) := by rw [hV4]; exact (unhide HN).big _ _ _ (unhide HVB)
         have HS4 : Hid (RS w V4 (.string num) (.string den)) := by
           rw [hV4]
           have s := (unhide HS).later (unhide HCB)
           exact ⟨((s.a.otherAt (by omega) _).otherAt (by omega) _).otherAt (by omega) _, ((s.r.otherAt (by omega) _).otherAt (by omega) _).otherAt (by omega) _, below_store3 s.below (by omega) _ _ _⟩
         clear hV4 zv za zb t1 HVA HVA' HVB HCA HCB Hfalse HS HC HN nc0 nc1 nc2 nf0 nf1 nf2
         generalize wa.heap.size = g6 at *)
      have t0 := (unhide HF4).c0; have t1 := (unhide HF4).c1; have t2 := (unhide HF4).c2
      go_wp2_with (first
        | (go_at_call 132; go_must (refine (unhide HG _ _ _ (unhide HN4) (unhide HD4)).mono ?_; rintro e w5 ⟨ag, lg, cg, rfl, hv5, hb5⟩; have HG5 := hide hv5; have HB5 := hide hb5; clear hv5 hb5))
        | (go_at_call 133; go_must (refine (unhide H1 _ _ (unhide HG5)).mono ?_; rintro e w6 ⟨rfl, hb6⟩; have HB6 := hide ((unhide HB5).trans (hb6.mono (unhide HB5).size)); clear hb6 t0 t1 t2; have HS6 := hide ((unhide HS4).later (unhide HB6)); have HF6 := hide ((unhide HF4).later (unhide HB6)); have t0 := (unhide HF6).c0; have t1 := (unhide HF6).c1; have t2 := (unhide HF6).c2; have r0 := (unhide HS6).r.c0; have r1 := (unhide HS6).r.c1; have r2 := (unhide HS6).r.c2; have rf0 := (unhide HS6).r.f0; have rf1 := (unhide HS6).r.f1; have rf2 := (unhide HS6).r.f2)))
      have hS := (unhide HS6).r.store (.bool false) (.slice none 0 0) (.slice none 0 0)
      have hb : Below w.heap.size w (store3 w6 (w.heap.size + 1) (.bool false) (.slice none 0 0) (.slice none 0 0)) := below_store3 (unhide HS6).below (by omega) _ _ _
      have u0 := hS.c0; have u1 := hS.c1; have u2 := hS.c2
      exact bodyPost_ret (v := .tuple #[zeroF, .bool false]) (w := store3 w6 (w.heap.size + 1) (.bool false) (.slice none 0 0) (.slice none 0 0)) (by simp [results, Tryz.results78, go_sem, u0, u1, u2, zeroF]) rfl ⟨rfl, hb⟩
set_option maxRecDepth 100000 in
set_option maxHeartbeats 4000000 in
theorem read_early (num den : ByteArray) (ds : ByteArray) (b r1 r2 e1 e2 : Bool) (w : World) (hc : ∀ W, Calls Tryz.prog 70 #[.string num] W fun e w' => e = .returned (.tuple #[.bool b, .string ds]) ∧ w' = W)
    (h1 : ∀ W, Calls Tryz.prog 71 #[.string ds] W fun e w' => e = .returned (.bool r1) ∧ w' = W) (h2 : ∀ W, Calls Tryz.prog 71 #[.string den] W fun e w' => e = .returned (.bool r2) ∧ w' = W)
    (z1 : (ds.toList == [48]) = e1) (z2 : (den.toList == [48]) = e2) (h : (!r1 || !r2 || (b && e1) || e2) = true) :
    Calls Tryz.prog 78 #[.agg #[.string num, .string den]] w fun r w' => r = .returned (.tuple #[zeroF, .bool false]) ∧ Below w.heap.size w w' := by
  obtain ⟨V, hV⟩ : ∃ V, V = (w.alloc (.cells #[.string num, .string den] 23)).alloc (.cells #[.bool false, .slice none 0 0, .slice none 0 0] 74) := ⟨_, rfl⟩
  have HS : Hid (RS w V (.string num) (.string den)) := by rw [hV]; exact RS.first _ _ _
  have HV := hide hV
  have HC68 := hide (hc V)
  have HR1 := hide (h1 V)
  have HR2 := hide (h2 V)
  clear hc h1 h2
  have hS := (unhide HS).r.store (.bool false) (.slice none 0 0) (.slice none 0 0)
  have hb : Below w.heap.size w (store3 V (w.heap.size + 1) (.bool false) (.slice none 0 0) (.slice none 0 0)) := below_store3 (unhide HS).below (by omega) _ _ _
  have HU := hide hS
  have HB := hide hb
  clear hS hb
  go_enter Tryz.func78, Tryz.ntmps78
  go_upto_region 1 with fail
  rw [← unhide HV]
  clear hV HV
  have t0 := (unhide HS).a.c0; have t1 := (unhide HS).a.c1
  have r0 := (unhide HS).r.c0; have q1 := (unhide HS).r.c1; have q2 := (unhide HS).r.c2; have rf0 := (unhide HS).r.f0; have rf1 := (unhide HS).r.f1; have rf2 := (unhide HS).r.f2
  cases r1 <;> cases r2 <;> cases b <;> cases e1 <;> cases e2 <;> first
    | (exact absurd h (by decide))
    | (clear h
       go_wp2_with (first
         | (go_at_call 70; go_must (refine (unhide HC68).mono ?_; rintro e w1 ⟨rfl, hw1⟩; obtain rfl : V = w1 := hw1.symm))
         | (go_at_call_of 71 (Value.string ds); go_must (refine (unhide HR1).mono ?_; rintro e w1 ⟨rfl, hw1⟩; obtain rfl : V = w1 := hw1.symm))
         | (go_at_call 71; go_must (refine (unhide HR2).mono ?_; rintro e w1 ⟨rfl, hw1⟩; obtain rfl : V = w1 := hw1.symm)))
       have u0 := (unhide HU).c0; have u1 := (unhide HU).c1; have u2 := (unhide HU).c2
       exact bodyPost_ret (v := .tuple #[zeroF, .bool false]) (w := store3 V (w.heap.size + 1) (.bool false) (.slice none 0 0) (.slice none 0 0)) (by simp [results, Tryz.results78, go_sem, u0, u1, u2, zeroF]) rfl ⟨rfl, unhide HB⟩)
theorem digT_size (s : ByteArray) : (digT s).size ≤ s.size := by
  rw [← list_len, ← list_len, digT_list]
  split
  · simp
  · exact Nat.le_refl _
/-- What Read answers where the texts are no right number. -/
theorem read_no (num den : ByteArray) (w : World) (hs1 : num.size ≤ maxLen) (hs2 : den.size ≤ maxLen) (h : ¬ RightT num den) :
    Calls Tryz.prog 78 #[.agg #[.string num, .string den]] w fun r w' => r = .returned (.tuple #[zeroF, .bool false]) ∧ Below w.heap.size w w' := by
  have hc := fun W => cutSign_any num W
  have h1 := fun W => right_any (digT num) W (Nat.le_trans (digT_size num) hs1)
  have h2 := fun W => right_any den W hs2
  by_cases hok : (!(Cub.rightB (digT num).data.toList) || !(Cub.rightB den.data.toList) || (isNeg num && ((digT num).toList == [48])) || (den.toList == [48])) = true
  · exact read_early num den (digT num) (isNeg num) _ _ _ _ w hc h1 h2 rfl rfl hok
  · simp only [Bool.or_eq_true, Bool.not_eq_true', Bool.and_eq_true, not_or, Bool.not_eq_false, not_and] at hok
    obtain ⟨⟨⟨k1, k2⟩, k3⟩, k4⟩ := hok
    obtain ⟨n, hn, e1⟩ := tb_of k1
    obtain ⟨d, hd, e2⟩ := tb_of k2
    have e3 := sT_of num n e1
    rw [e1, tb_eq48 n hn] at k3
    rw [e2, tb_eq48 d hd] at k4
    have hd0 : d ≠ 0 := by simpa using k4
    have hb0 : isNeg num = true → n ≠ 0 := fun hb => by simpa using k3 hb
    exact read_gcd num den (isNeg num) n d w e3 e2 hn hd hb0 hd0 (fun hg => h ⟨_, n, d, e3, e2, hn, hd, ⟨by omega, hg, hb0⟩⟩)
end Go.Proofs.YtndhinoomlofgaaGreatDoor


namespace Go.Proofs.YtndhinoomlofgaaGreatDoor
open Go.RowKit

/-- Two texts are those of a number. -/
def IsR (num den : ByteArray) (x : Rat) : Prop := Small x ∧ num = numT x ∧ den = denT x
theorem IsR.rt {num den : ByteArray} {x : Rat} (h : IsR num den x) : RT num den (decide (x < 0)) x.num.natAbs x.den := by
  obtain ⟨hs, rfl, rfl⟩ := h
  unfold numT denT
  rw [if_pos hs, if_pos hs]
  exact ⟨rfl, rfl, hs.1, hs.2, (Cub.low_of x).1⟩
theorem RT.isR {num den : ByteArray} {b : Bool} {n d : Nat} (h : RT num den b n d) : IsR num den (Cub.valQ b n d) := by
  obtain ⟨e1, e2, e3⟩ := Cub.low_is h.low
  have hs : Small (Cub.valQ b n d) := ⟨by rw [← e2]; exact h.hn, by rw [← e3]; exact h.hd⟩
  refine ⟨hs, ?_, ?_⟩
  · unfold numT; rw [if_pos hs, ← e1, ← e2]; exact h.num
  · unfold denT; rw [if_pos hs, ← e3]; exact h.den
theorem right_isR (num den : ByteArray) : RightT num den ↔ ∃ x, IsR num den x :=
  ⟨fun ⟨_, _, _, h⟩ => ⟨_, h.isR⟩, fun ⟨_, h⟩ => ⟨_, _, _, h.rt⟩⟩
theorem IsR.size {num den : ByteArray} {x : Rat} (h : IsR num den x) : num.size ≤ 601 ∧ den.size ≤ 600 := by
  have r := h.rt
  rw [r.num, r.den]
  exact ⟨sT_size _ _ r.hn, (tb_digs _ r.hd).2⟩
theorem qread (num den : ByteArray) (x : Rat) (w : World) (h : IsR num den x) :
    Calls Tryz.prog 78 #[.agg #[.string num, .string den]] w fun r w' => ∃ v, r = .returned (.tuple #[v, .bool true]) ∧ QOf w' v x 67 ∧ Below w.heap.size w w' := by
  have r := h.rt
  have := read_ok num den _ _ _ w r.num r.den r.hn r.hd r.low.sign (by have := r.low.pos; omega) r.low.cop
  rwa [(Cub.low_of x).2] at this
/-- Two numbers in their boxes, two boxes of Fracs. -/
structure W2 (w W : World) (x y z t p0 p1 p2 q0 q1 q2 : Value) : Prop where
  a : T2 W w.heap.size x y
  b : T2 W (w.heap.size + 1) z t
  p : FBox W (w.heap.size + 1 + 1) p0 p1 p2
  q : FBox W (w.heap.size + 1 + 1 + 1) q0 q1 q2
  below : Below w.heap.size w W
theorem W2.later {w W V : World} {x y z t p0 p1 p2 q0 q1 q2 : Value} (s : W2 w W x y z t p0 p1 p2 q0 q1 q2) (hb : Below W.heap.size W V) : W2 w V x y z t p0 p1 p2 q0 q1 q2 :=
  ⟨s.a.later hb, s.b.later hb, s.p.later hb, s.q.later hb, s.below.trans (hb.mono s.below.size)⟩
theorem W2.first (w : World) (x y z t : Value) : W2 w ((((w.alloc (.cells #[x, y] 23)).alloc (.cells #[z, t] 23)).alloc (.cells #[.bool false, .slice none 0 0, .slice none 0 0] 74)).alloc (.cells #[.bool false, .slice none 0 0, .slice none 0 0] 74)) x y z t (.bool false) (.slice none 0 0) (.slice none 0 0) (.bool false) (.slice none 0 0) (.slice none 0 0) :=
  ⟨⟨by simp [go_sem], by simp [go_sem], by simp [go_sem], by simp [go_sem]⟩, ⟨by simp [go_sem], by simp [go_sem], by simp [go_sem], by simp [go_sem]⟩, ⟨by simp [go_sem], by simp [go_sem], by simp [go_sem], by simp [go_sem], by simp [go_sem], by simp [go_sem]⟩, ⟨by simp [go_sem], by simp [go_sem], by simp [go_sem], by simp [go_sem], by simp [go_sem], by simp [go_sem]⟩,
    ((((Below.refl _ _).alloc (Nat.le_refl _) _).alloc (by simp) _).alloc (by simp; omega) _).alloc (by simp; omega) _⟩
theorem FBox.other3 {W : World} {g k : Nat} {x y z : Value} (h : FBox W g x y z) (hk : g ≠ k) (u v s : Value) : FBox (store3 W k u v s) g x y z := ((h.otherAt hk u).otherAt hk v).otherAt hk s
theorem T2.other3 {W : World} {g k : Nat} {x y : Value} (h : T2 W g x y) (hk : g ≠ k) (u v s : Value) : T2 (store3 W k u v s) g x y := ((h.otherAt hk u).otherAt hk v).otherAt hk s
theorem QOf.over {W : World} {g : Nat} {b : Bool} {a1 a2 : Option Addr} {l1 c1 l2 c2 : Nat} (h : FBox W g (.bool b) (.slice a1 l1 c1) (.slice a2 l2 c2)) (u v r : Value) {vv : Value} {x : Rat} {k : Nat}
    (hv : QOf W vv x k) : QOf (store3 W g u v r) vv x k := by
  obtain ⟨b0, n, d, ⟨s, t, e, h1, h1'⟩, h2⟩ := hv
  exact ⟨b0, n, d, ⟨s, t, e, h.big _ _ _ h1, h.big _ _ _ h1'⟩, h2⟩

end Go.Proofs.YtndhinoomlofgaaGreatDoor

namespace Go.Proofs.YtndhinoomlofgaaGreatDoor
open Go.RowKit

/-- Two numbers in their boxes, a number's box, and two Fracs' boxes behind them (or none yet). -/
structure O3 (w W : World) (x y z t : Value) : Prop where
  a : T2 W w.heap.size x y
  b : T2 W (w.heap.size + 1) z t
  r : T2 W (w.heap.size + 1 + 1) (.string ⟨#[]⟩) (.string ⟨#[]⟩)
  below : Below w.heap.size w W
theorem O3.later {w W V : World} {x y z t : Value} (s : O3 w W x y z t) (hb : Below W.heap.size W V) : O3 w V x y z t :=
  ⟨s.a.later hb, s.b.later hb, s.r.later hb, s.below.trans (hb.mono s.below.size)⟩
theorem O3.first (w : World) (x y z t : Value) : O3 w (((w.alloc (.cells #[x, y] 23)).alloc (.cells #[z, t] 23)).alloc (.cells #[.string ⟨#[]⟩, .string ⟨#[]⟩] 23)) x y z t :=
  ⟨⟨by simp [go_sem], by simp [go_sem], by simp [go_sem], by simp [go_sem]⟩, ⟨by simp [go_sem], by simp [go_sem], by simp [go_sem], by simp [go_sem]⟩, ⟨by simp [go_sem], by simp [go_sem], by simp [go_sem], by simp [go_sem]⟩,
    (((Below.refl _ _).alloc (Nat.le_refl _) _).alloc (by simp) _).alloc (by simp; omega) _⟩
/-- What a call on two numbers answers. -/
def Ans (f : Nat) (args : Array Value) (w : World) (s t : ByteArray) (e : Int) : Prop :=
  Calls Tryz.prog f args w fun r w' => r = .returned (.tuple #[.agg #[.string s, .string t], .int .i64 e]) ∧ Below w.heap.size w w'

end Go.Proofs.YtndhinoomlofgaaGreatDoor

namespace Go.Proofs.YtndhinoomlofgaaGreatDoor
open Go.RowKit

/-- A number in its box, and the box of another one. -/
structure N1 (w W : World) (x y : Value) : Prop where
  a : T2 W w.heap.size x y
  r : T2 W (w.heap.size + 1) (.string ⟨#[]⟩) (.string ⟨#[]⟩)
  below : Below w.heap.size w W
theorem N1.later {w W V : World} {x y : Value} (s : N1 w W x y) (hb : Below W.heap.size W V) : N1 w V x y := ⟨s.a.later hb, s.r.later hb, s.below.trans (hb.mono s.below.size)⟩
theorem N1.first (w : World) (x y : Value) : N1 w ((w.alloc (.cells #[x, y] 23)).alloc (.cells #[.string ⟨#[]⟩, .string ⟨#[]⟩] 23)) x y :=
  ⟨⟨by simp [go_sem], by simp [go_sem], by simp [go_sem], by simp [go_sem]⟩, ⟨by simp [go_sem], by simp [go_sem], by simp [go_sem], by simp [go_sem]⟩, ((Below.refl _ _).alloc (Nat.le_refl _) _).alloc (by simp) _⟩

end Go.Proofs.YtndhinoomlofgaaGreatDoor

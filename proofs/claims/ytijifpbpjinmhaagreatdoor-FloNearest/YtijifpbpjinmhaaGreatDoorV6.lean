/- flo.Near (10) over all texts, nearestTo's answer handed in. -/
import Derived.Test.YtijifpbpjinmhaaGreatDoorNearTo
import Derived.Test.YtijifpbpjinmhaaGreatDoorV1
set_option maxHeartbeats 4000000
set_option maxRecDepth 100000
namespace Go.Proofs.YtijifpbpjinmhaaGreatDoor
open Go.RowKit
/-- What Read answers where both texts are numbers. -/
theorem read_gcd (num den : ByteArray) (b : Bool) (n d : Nat) (w : World) (hnum : num = sT b n) (hden : den = tb d) (hn : n < 10 ^ 600) (hd : d < 10 ^ 600) (hb0 : b = true → n ≠ 0) (hd0 : d ≠ 0) (hg : Nat.gcd n d ≠ 1) :
    Calls Tryz.prog 71 #[.agg #[.string num, .string den]] w fun r w' => r = .returned (.tuple #[zeroF, .bool false]) ∧ Below w.heap.size w w' := by
  obtain ⟨V, hV⟩ : ∃ V, V = (w.alloc (.cells #[.string num, .string den] 23)).alloc (.cells #[.bool false, .slice none 0 0, .slice none 0 0] 98) := ⟨_, rfl⟩
  have HS : Hid (RS w V (.string num) (.string den)) := by rw [hV]; exact RS.first _ _ _
  have HV := hide hV
  have HC68 : Hid (Calls Tryz.prog 87 #[.string num] V fun e w' => e = .returned (.tuple #[.bool b, .string (tb n)]) ∧ w' = V) := by
    have := cutSign_any num V
    rw [hnum, neg_sT b n hn, dig_sT b n hn] at this
    rw [hnum]; exact this
  have HR1 : Hid (Calls Tryz.prog 88 #[.string (tb n)] V fun e w' => e = .returned (.bool true) ∧ w' = V) := by
    have := right_any (tb n) V (tb_size n hn)
    rwa [(tb_right n hn).1] at this
  have HR2 : Hid (Calls Tryz.prog 88 #[.string den] V fun e w' => e = .returned (.bool true) ∧ w' = V) := by
    have := right_any (tb d) V (tb_size d hd)
    rw [(tb_right d hd).1] at this
    rw [hden]; exact this
  have z1 : b = true → ((tb n).toList == [48]) = false := fun h => by rw [tb_eq48 n hn, beq_eq_false_iff_ne]; exact hb0 h
  have z2 : (den.toList == [48]) = false := by rw [hden, tb_eq48 d hd, beq_eq_false_iff_ne]; exact hd0
  have HB1 : Hid (∀ W, Calls Tryz.prog 32 #[.string (tb n)] W fun e w' => ∃ v, e = .returned v ∧ IsBig w' v n ∧ Below W.heap.size W w') := fun W => by
    have := bigText_any (tb n) W (by have := (tb_digs n hn).2; omega) (tb_digs n hn).1
    rwa [(tb_right n hn).2] at this
  have HB2 : Hid (∀ W, Calls Tryz.prog 32 #[.string den] W fun e w' => ∃ v, e = .returned v ∧ IsBig w' v d ∧ Below W.heap.size W w') := fun W => by
    have := bigText_any (tb d) W (by have := (tb_digs d hd).2; omega) (tb_digs d hd).1
    rw [(tb_right d hd).2] at this
    rw [hden]; exact this
  have p6 := pow600
  have HLT : Hid (n < 1000000000 ^ 67 ∧ d < 1000000000 ^ 67) := ⟨Nat.lt_of_lt_of_le hn p6, Nat.lt_of_lt_of_le hd p6⟩
  have HG : Hid (∀ W x y, IsBig W x n → IsBig W y d → Calls Tryz.prog 120 #[x, y] W fun e w' => ∃ a l c, e = .returned (.agg #[.slice a l c]) ∧ IsBig w' (.agg #[.slice a l c]) (Nat.gcd n d) ∧ Below W.heap.size W w') := fun W x y h1 h2 => gcdAns 67 (by decide) W x y n d h1 h2 (unhide HLT).1 (unhide HLT).2
  obtain ⟨gg, hgg⟩ : ∃ gg, gg = Nat.gcd n d := ⟨_, rfl⟩
  rw [← hgg] at HG hg
  have H1 : Hid (∀ W x, IsBig W x gg → Calls Tryz.prog 121 #[x] W fun e w' => e = .returned (.bool false) ∧ Below W.heap.size W w') := fun W x h => by
    have := isOne_any x gg W h
    rwa [show (gg == 1) = false by rw [beq_eq_false_iff_ne]; exact hg] at this
  clear hgg
  clear p6 hn hd hb0 hd0 hg hnum hden
  generalize tb n = ds at *
  go_enter Tryz.func71, Tryz.ntmps71
  go_upto_region 1 with fail
  rw [← unhide HV]
  clear hV HV
  have t0 := (unhide HS).a.c0; have t1 := (unhide HS).a.c1
  have HGOAL : True := trivial
  cases b with
  | true =>
    have z3 := z1 rfl
    go_upto_region 4 with (first
      | (go_at_call 87; go_must (refine (unhide HC68).mono ?_; rintro e w1 ⟨rfl, hw1⟩; obtain rfl : V = w1 := hw1.symm))
      | (go_at_call_of 88 (Value.string ds); go_must (refine (unhide HR1).mono ?_; rintro e w1 ⟨rfl, hw1⟩; obtain rfl : V = w1 := hw1.symm))
      | (go_at_call 88; go_must (refine (unhide HR2).mono ?_; rintro e w1 ⟨rfl, hw1⟩; obtain rfl : V = w1 := hw1.symm)))
    have HC : Hid (∀ U, Below V.heap.size V U → U.cell? ⟨w.heap.size, 1, none⟩ = some (.string den) ∧ w.heap.size < U.heap.size ∧ w.heap.size + 1 < U.heap.size) := fun U hb => by
      have s := (unhide HS).later hb
      exact ⟨s.a.c1, s.a.lt, s.r.lt⟩
    have zv := (unhide HC V (Below.refl _ _)).2
    clear t0
    go_region_held3 (fun w' => w'.cell? ⟨w.heap.size, 1, none⟩ = some (.string den)) (first | assumption | (simp [go_sem, *]; done) | (rw [World.cell?_setCell_other _ _ _ _ (by simp; omega), World.cell?_setCell_other _ _ _ _ (by simp; omega), World.cell?_setCell_other _ _ _ _ (by simp; omega)]; assumption)) ((first
      | (go_at_call_of 32 (Value.string ds); go_must (refine (unhide HB1 _).mono ?_; rintro e wa ⟨va, rfl, hva, hba⟩; obtain ⟨aa, la, ca, rfl⟩ := hva.shape; have HVA := hide hva; have HCA : Hid (Below V.heap.size V wa) := (by first | exact ((Below.refl V.heap.size V).drew).trans hba | exact (((Below.refl V.heap.size V).drew).alloc (by simp) _).trans (hba.mono (by simp))); (first | (have HN : Hid (FBox wa V.heap.size (.bool false) (.slice none 0 0) (.slice none 0 0)) := (FBox.new V.drew _ _ _).later hba; have nc0 := (unhide HN).c0; have nc1 := (unhide HN).c1; have nc2 := (unhide HN).c2; have nf0 := (unhide HN).f0; have nf1 := (unhide HN).f1; have nf2 := (unhide HN).f2) | skip); clear hva hba t1; obtain ⟨t1, za⟩ := unhide HC wa (unhide HCA)))
      | (go_at_call 32; go_must (refine (unhide HB2 _).mono ?_; rintro e wb ⟨vb, rfl, hvb, hbb⟩; obtain ⟨ab, lb, cb, rfl⟩ := hvb.shape; have HVB := hide hvb; have Htrue : Hid (Below wa.heap.size wa wb) := (by first | exact hbb | exact ((Below.refl _ _).alloc (Nat.le_refl _) _).trans (hbb.mono (by simp))); have HVA' := hide ((unhide HVA).later (unhide Htrue)); have HCB := hide ((unhide HCA).trans ((unhide Htrue).mono (unhide HCA).size)); (first | (have HN2 := hide ((unhide HN).later hbb); clear HN; have HN := HN2; clear HN2; clear nc0 nc1 nc2 nf0 nf1 nf2; have nc0 := (unhide HN).c0; have nc1 := (unhide HN).c1; have nc2 := (unhide HN).c2; have nf0 := (unhide HN).f0; have nf1 := (unhide HN).f1; have nf2 := (unhide HN).f2) | (have HN := hide ((FBox.new _ _ _ _).later hbb); have nc0 := (unhide HN).c0; have nc1 := (unhide HN).c1; have nc2 := (unhide HN).c2; have nf0 := (unhide HN).f0; have nf1 := (unhide HN).f1; have nf2 := (unhide HN).f2) | skip); clear hvb hbb t1; obtain ⟨t1, zb⟩ := unhide HC wb (unhide HCB)))))
    all_goals
      first
      | (obtain ⟨V4, hV4⟩ : ∃ V4, V4 = wb.alloc (.cells #[.bool true, .slice aa la ca, .slice ab lb cb] 98) := ⟨_, rfl⟩
         rw [← hV4]
         have hb : Below wb.heap.size wb V4 := by rw [hV4]; exact (Below.refl _ _).alloc (Nat.le_refl _) _
         have HS4 : Hid (RS w V4 (.string num) (.string den)) := ((unhide HS).later (unhide HCB)).later hb
         have HF4 : Hid (FBox V4 wb.heap.size (.bool true) (.slice aa la ca) (.slice ab lb cb)) := by rw [hV4]; exact FBox.new _ _ _ _
         have HN4 := hide ((unhide HVA').later hb)
         have HD4 := hide ((unhide HVB).later hb)
         have hgr : w.heap.size + 1 < wb.heap.size := zb.2
         clear hV4 hb zv za zb t1 HVA HVA' HVB HCA HCB Htrue HS HC
         generalize wb.heap.size = g6 at *)
      | (obtain ⟨V4, hV4⟩ : ∃ V4, V4 = ((wb.setCell ⟨V.heap.size, 0, none⟩ (.bool true)).setCell ⟨V.heap.size, 1, none⟩ (.slice aa la ca)).setCell ⟨V.heap.size, 2, none⟩ (.slice ab lb cb) := ⟨_, rfl⟩
         rw [← hV4]
         have hgr : w.heap.size + 1 < V.heap.size := zv.2
         have HF4 : Hid (FBox V4 V.heap.size (.bool true) (.slice aa la ca) (.slice ab lb cb)) := by rw [hV4]; exact (unhide HN).store _ _ _
         have HN4 : Hid (IsBig V4 (.agg #[.slice aa la ca]) n) := by rw [hV4]; exact (unhide HN).big _ _ _ (unhide HVA')
         have HD4 : Hid (IsBig V4 (.agg #[.slice ab lb cb]) d) := by rw [hV4]; exact (unhide HN).big _ _ _ (unhide HVB)
         have HS4 : Hid (RS w V4 (.string num) (.string den)) := by
           rw [hV4]
           have s := (unhide HS).later (unhide HCB)
           exact ⟨((s.a.otherAt (by omega) _).otherAt (by omega) _).otherAt (by omega) _, ((s.r.otherAt (by omega) _).otherAt (by omega) _).otherAt (by omega) _, below_store3 s.below (by omega) _ _ _⟩
         clear hV4 zv za zb t1 HVA HVA' HVB HCA HCB Htrue HS HC HN nc0 nc1 nc2 nf0 nf1 nf2
         generalize V.heap.size = g6 at *)
      | (obtain ⟨V4, hV4⟩ : ∃ V4, V4 = ((wb.setCell ⟨wa.heap.size, 0, none⟩ (.bool true)).setCell ⟨wa.heap.size, 1, none⟩ (.slice aa la ca)).setCell ⟨wa.heap.size, 2, none⟩ (.slice ab lb cb) := ⟨_, rfl⟩
         rw [← hV4]
         have hgr : w.heap.size + 1 < wa.heap.size := za.2
         have HF4 : Hid (FBox V4 wa.heap.size (.bool true) (.slice aa la ca) (.slice ab lb cb)) := by rw [hV4]; exact (unhide HN).store _ _ _
         have HN4 : Hid (IsBig V4 (.agg #[.slice aa la ca]) n) := by rw [hV4]; exact (unhide HN).big _ _ _ (unhide HVA')
         have HD4 : Hid (IsBig V4 (.agg #[.slice ab lb cb]) d) := by rw [hV4]; exact (unhide HN).big _ _ _ (unhide HVB)
         have HS4 : Hid (RS w V4 (.string num) (.string den)) := by
           rw [hV4]
           have s := (unhide HS).later (unhide HCB)
           exact ⟨((s.a.otherAt (by omega) _).otherAt (by omega) _).otherAt (by omega) _, ((s.r.otherAt (by omega) _).otherAt (by omega) _).otherAt (by omega) _, below_store3 s.below (by omega) _ _ _⟩
         clear hV4 zv za zb t1 HVA HVA' HVB HCA HCB Htrue HS HC HN nc0 nc1 nc2 nf0 nf1 nf2
         generalize wa.heap.size = g6 at *)
      have t0 := (unhide HF4).c0; have t1 := (unhide HF4).c1; have t2 := (unhide HF4).c2
      go_wp2_with (first
        | (go_at_call 120; go_must (refine (unhide HG _ _ _ (unhide HN4) (unhide HD4)).mono ?_; rintro e w5 ⟨ag, lg, cg, rfl, hv5, hb5⟩; have HG5 := hide hv5; have HB5 := hide hb5; clear hv5 hb5))
        | (go_at_call 121; go_must (refine (unhide H1 _ _ (unhide HG5)).mono ?_; rintro e w6 ⟨rfl, hb6⟩; have HB6 := hide ((unhide HB5).trans (hb6.mono (unhide HB5).size)); clear hb6 t0 t1 t2; have HS6 := hide ((unhide HS4).later (unhide HB6)); have HF6 := hide ((unhide HF4).later (unhide HB6)); have t0 := (unhide HF6).c0; have t1 := (unhide HF6).c1; have t2 := (unhide HF6).c2; have r0 := (unhide HS6).r.c0; have r1 := (unhide HS6).r.c1; have r2 := (unhide HS6).r.c2; have rf0 := (unhide HS6).r.f0; have rf1 := (unhide HS6).r.f1; have rf2 := (unhide HS6).r.f2)))
      have hS := (unhide HS6).r.store (.bool false) (.slice none 0 0) (.slice none 0 0)
      have hb : Below w.heap.size w (store3 w6 (w.heap.size + 1) (.bool false) (.slice none 0 0) (.slice none 0 0)) := below_store3 (unhide HS6).below (by omega) _ _ _
      have u0 := hS.c0; have u1 := hS.c1; have u2 := hS.c2
      exact bodyPost_ret (v := .tuple #[zeroF, .bool false]) (w := store3 w6 (w.heap.size + 1) (.bool false) (.slice none 0 0) (.slice none 0 0)) (by simp [results, Tryz.results71, go_sem, u0, u1, u2, zeroF]) rfl ⟨rfl, hb⟩
  | false =>
    clear z1
    go_upto_region 4 with (first
      | (go_at_call 87; go_must (refine (unhide HC68).mono ?_; rintro e w1 ⟨rfl, hw1⟩; obtain rfl : V = w1 := hw1.symm))
      | (go_at_call_of 88 (Value.string ds); go_must (refine (unhide HR1).mono ?_; rintro e w1 ⟨rfl, hw1⟩; obtain rfl : V = w1 := hw1.symm))
      | (go_at_call 88; go_must (refine (unhide HR2).mono ?_; rintro e w1 ⟨rfl, hw1⟩; obtain rfl : V = w1 := hw1.symm)))
    have HC : Hid (∀ U, Below V.heap.size V U → U.cell? ⟨w.heap.size, 1, none⟩ = some (.string den) ∧ w.heap.size < U.heap.size ∧ w.heap.size + 1 < U.heap.size) := fun U hb => by
      have s := (unhide HS).later hb
      exact ⟨s.a.c1, s.a.lt, s.r.lt⟩
    have zv := (unhide HC V (Below.refl _ _)).2
    clear t0
    go_region_held3 (fun w' => w'.cell? ⟨w.heap.size, 1, none⟩ = some (.string den)) (first | assumption | (simp [go_sem, *]; done) | (rw [World.cell?_setCell_other _ _ _ _ (by simp; omega), World.cell?_setCell_other _ _ _ _ (by simp; omega), World.cell?_setCell_other _ _ _ _ (by simp; omega)]; assumption)) ((first
      | (go_at_call_of 32 (Value.string ds); go_must (refine (unhide HB1 _).mono ?_; rintro e wa ⟨va, rfl, hva, hba⟩; obtain ⟨aa, la, ca, rfl⟩ := hva.shape; have HVA := hide hva; have HCA : Hid (Below V.heap.size V wa) := (by first | exact ((Below.refl V.heap.size V).drew).trans hba | exact (((Below.refl V.heap.size V).drew).alloc (by simp) _).trans (hba.mono (by simp))); (first | (have HN : Hid (FBox wa V.heap.size (.bool false) (.slice none 0 0) (.slice none 0 0)) := (FBox.new V.drew _ _ _).later hba; have nc0 := (unhide HN).c0; have nc1 := (unhide HN).c1; have nc2 := (unhide HN).c2; have nf0 := (unhide HN).f0; have nf1 := (unhide HN).f1; have nf2 := (unhide HN).f2) | skip); clear hva hba t1; obtain ⟨t1, za⟩ := unhide HC wa (unhide HCA)))
      | (go_at_call 32; go_must (refine (unhide HB2 _).mono ?_; rintro e wb ⟨vb, rfl, hvb, hbb⟩; obtain ⟨ab, lb, cb, rfl⟩ := hvb.shape; have HVB := hide hvb; have Hfalse : Hid (Below wa.heap.size wa wb) := (by first | exact hbb | exact ((Below.refl _ _).alloc (Nat.le_refl _) _).trans (hbb.mono (by simp))); have HVA' := hide ((unhide HVA).later (unhide Hfalse)); have HCB := hide ((unhide HCA).trans ((unhide Hfalse).mono (unhide HCA).size)); (first | (have HN2 := hide ((unhide HN).later hbb); clear HN; have HN := HN2; clear HN2; clear nc0 nc1 nc2 nf0 nf1 nf2; have nc0 := (unhide HN).c0; have nc1 := (unhide HN).c1; have nc2 := (unhide HN).c2; have nf0 := (unhide HN).f0; have nf1 := (unhide HN).f1; have nf2 := (unhide HN).f2) | (have HN := hide ((FBox.new _ _ _ _).later hbb); have nc0 := (unhide HN).c0; have nc1 := (unhide HN).c1; have nc2 := (unhide HN).c2; have nf0 := (unhide HN).f0; have nf1 := (unhide HN).f1; have nf2 := (unhide HN).f2) | skip); clear hvb hbb t1; obtain ⟨t1, zb⟩ := unhide HC wb (unhide HCB)))))
    all_goals
      first
      | (obtain ⟨V4, hV4⟩ : ∃ V4, V4 = wb.alloc (.cells #[.bool false, .slice aa la ca, .slice ab lb cb] 98) := ⟨_, rfl⟩
         rw [← hV4]
         have hb : Below wb.heap.size wb V4 := by rw [hV4]; exact (Below.refl _ _).alloc (Nat.le_refl _) _
         have HS4 : Hid (RS w V4 (.string num) (.string den)) := ((unhide HS).later (unhide HCB)).later hb
         have HF4 : Hid (FBox V4 wb.heap.size (.bool false) (.slice aa la ca) (.slice ab lb cb)) := by rw [hV4]; exact FBox.new _ _ _ _
         have HN4 := hide ((unhide HVA').later hb)
         have HD4 := hide ((unhide HVB).later hb)
         have hgr : w.heap.size + 1 < wb.heap.size := zb.2
         clear hV4 hb zv za zb t1 HVA HVA' HVB HCA HCB Hfalse HS HC
         generalize wb.heap.size = g6 at *)
      | (obtain ⟨V4, hV4⟩ : ∃ V4, V4 = ((wb.setCell ⟨V.heap.size, 0, none⟩ (.bool false)).setCell ⟨V.heap.size, 1, none⟩ (.slice aa la ca)).setCell ⟨V.heap.size, 2, none⟩ (.slice ab lb cb) := ⟨_, rfl⟩
         rw [← hV4]
         have hgr : w.heap.size + 1 < V.heap.size := zv.2
         have HF4 : Hid (FBox V4 V.heap.size (.bool false) (.slice aa la ca) (.slice ab lb cb)) := by rw [hV4]; exact (unhide HN).store _ _ _
         have HN4 : Hid (IsBig V4 (.agg #[.slice aa la ca]) n) := by rw [hV4]; exact (unhide HN).big _ _ _ (unhide HVA')
         have HD4 : Hid (IsBig V4 (.agg #[.slice ab lb cb]) d) := by rw [hV4]; exact (unhide HN).big _ _ _ (unhide HVB)
         have HS4 : Hid (RS w V4 (.string num) (.string den)) := by
           rw [hV4]
           have s := (unhide HS).later (unhide HCB)
           exact ⟨((s.a.otherAt (by omega) _).otherAt (by omega) _).otherAt (by omega) _, ((s.r.otherAt (by omega) _).otherAt (by omega) _).otherAt (by omega) _, below_store3 s.below (by omega) _ _ _⟩
         clear hV4 zv za zb t1 HVA HVA' HVB HCA HCB Hfalse HS HC HN nc0 nc1 nc2 nf0 nf1 nf2
         generalize V.heap.size = g6 at *)
      | (obtain ⟨V4, hV4⟩ : ∃ V4, V4 = ((wb.setCell ⟨wa.heap.size, 0, none⟩ (.bool false)).setCell ⟨wa.heap.size, 1, none⟩ (.slice aa la ca)).setCell ⟨wa.heap.size, 2, none⟩ (.slice ab lb cb) := ⟨_, rfl⟩
         rw [← hV4]
         have hgr : w.heap.size + 1 < wa.heap.size := za.2
         have HF4 : Hid (FBox V4 wa.heap.size (.bool false) (.slice aa la ca) (.slice ab lb cb)) := by rw [hV4]; exact (unhide HN).store _ _ _
         have HN4 : Hid (IsBig V4 (.agg #[.slice aa la ca]) n) := by rw [hV4]; exact (unhide HN).big _ _ _ (unhide HVA')
         have HD4 : Hid (IsBig V4 (.agg #[.slice ab lb cb]) d) := by rw [hV4]; exact (unhide HN).big _ _ _ (unhide HVB)
         have HS4 : Hid (RS w V4 (.string num) (.string den)) := by
           rw [hV4]
           have s := (unhide HS).later (unhide HCB)
           exact ⟨((s.a.otherAt (by omega) _).otherAt (by omega) _).otherAt (by omega) _, ((s.r.otherAt (by omega) _).otherAt (by omega) _).otherAt (by omega) _, below_store3 s.below (by omega) _ _ _⟩
         clear hV4 zv za zb t1 HVA HVA' HVB HCA HCB Hfalse HS HC HN nc0 nc1 nc2 nf0 nf1 nf2
         generalize wa.heap.size = g6 at *)
      have t0 := (unhide HF4).c0; have t1 := (unhide HF4).c1; have t2 := (unhide HF4).c2
      go_wp2_with (first
        | (go_at_call 120; go_must (refine (unhide HG _ _ _ (unhide HN4) (unhide HD4)).mono ?_; rintro e w5 ⟨ag, lg, cg, rfl, hv5, hb5⟩; have HG5 := hide hv5; have HB5 := hide hb5; clear hv5 hb5))
        | (go_at_call 121; go_must (refine (unhide H1 _ _ (unhide HG5)).mono ?_; rintro e w6 ⟨rfl, hb6⟩; have HB6 := hide ((unhide HB5).trans (hb6.mono (unhide HB5).size)); clear hb6 t0 t1 t2; have HS6 := hide ((unhide HS4).later (unhide HB6)); have HF6 := hide ((unhide HF4).later (unhide HB6)); have t0 := (unhide HF6).c0; have t1 := (unhide HF6).c1; have t2 := (unhide HF6).c2; have r0 := (unhide HS6).r.c0; have r1 := (unhide HS6).r.c1; have r2 := (unhide HS6).r.c2; have rf0 := (unhide HS6).r.f0; have rf1 := (unhide HS6).r.f1; have rf2 := (unhide HS6).r.f2)))
      have hS := (unhide HS6).r.store (.bool false) (.slice none 0 0) (.slice none 0 0)
      have hb : Below w.heap.size w (store3 w6 (w.heap.size + 1) (.bool false) (.slice none 0 0) (.slice none 0 0)) := below_store3 (unhide HS6).below (by omega) _ _ _
      have u0 := hS.c0; have u1 := hS.c1; have u2 := hS.c2
      exact bodyPost_ret (v := .tuple #[zeroF, .bool false]) (w := store3 w6 (w.heap.size + 1) (.bool false) (.slice none 0 0) (.slice none 0 0)) (by simp [results, Tryz.results71, go_sem, u0, u1, u2, zeroF]) rfl ⟨rfl, hb⟩
theorem read_early (num den : ByteArray) (ds : ByteArray) (b r1 r2 e1 e2 : Bool) (w : World) (hc : ∀ W, Calls Tryz.prog 87 #[.string num] W fun e w' => e = .returned (.tuple #[.bool b, .string ds]) ∧ w' = W)
    (h1 : ∀ W, Calls Tryz.prog 88 #[.string ds] W fun e w' => e = .returned (.bool r1) ∧ w' = W) (h2 : ∀ W, Calls Tryz.prog 88 #[.string den] W fun e w' => e = .returned (.bool r2) ∧ w' = W)
    (z1 : (ds.toList == [48]) = e1) (z2 : (den.toList == [48]) = e2) (h : (!r1 || !r2 || (b && e1) || e2) = true) :
    Calls Tryz.prog 71 #[.agg #[.string num, .string den]] w fun r w' => r = .returned (.tuple #[zeroF, .bool false]) ∧ Below w.heap.size w w' := by
  obtain ⟨V, hV⟩ : ∃ V, V = (w.alloc (.cells #[.string num, .string den] 23)).alloc (.cells #[.bool false, .slice none 0 0, .slice none 0 0] 98) := ⟨_, rfl⟩
  have HS : Hid (RS w V (.string num) (.string den)) := by rw [hV]; exact RS.first _ _ _
  have HV := hide hV
  have HC68 := hide (hc V)
  have HR1 := hide (h1 V)
  have HR2 := hide (h2 V)
  clear hc h1 h2
  have hS := (unhide HS).r.store (.bool false) (.slice none 0 0) (.slice none 0 0)
  have hb : Below w.heap.size w (store3 V (w.heap.size + 1) (.bool false) (.slice none 0 0) (.slice none 0 0)) := below_store3 (unhide HS).below (by omega) _ _ _
  have HU := hide hS
  have HB := hide hb
  clear hS hb
  go_enter Tryz.func71, Tryz.ntmps71
  go_upto_region 1 with fail
  rw [← unhide HV]
  clear hV HV
  have t0 := (unhide HS).a.c0; have t1 := (unhide HS).a.c1
  have r0 := (unhide HS).r.c0; have q1 := (unhide HS).r.c1; have q2 := (unhide HS).r.c2; have rf0 := (unhide HS).r.f0; have rf1 := (unhide HS).r.f1; have rf2 := (unhide HS).r.f2
  cases r1 <;> cases r2 <;> cases b <;> cases e1 <;> cases e2 <;> first
    | (exact absurd h (by decide))
    | (clear h
       go_wp2_with (first
         | (go_at_call 87; go_must (refine (unhide HC68).mono ?_; rintro e w1 ⟨rfl, hw1⟩; obtain rfl : V = w1 := hw1.symm))
         | (go_at_call_of 88 (Value.string ds); go_must (refine (unhide HR1).mono ?_; rintro e w1 ⟨rfl, hw1⟩; obtain rfl : V = w1 := hw1.symm))
         | (go_at_call 88; go_must (refine (unhide HR2).mono ?_; rintro e w1 ⟨rfl, hw1⟩; obtain rfl : V = w1 := hw1.symm)))
       have u0 := (unhide HU).c0; have u1 := (unhide HU).c1; have u2 := (unhide HU).c2
       exact bodyPost_ret (v := .tuple #[zeroF, .bool false]) (w := store3 V (w.heap.size + 1) (.bool false) (.slice none 0 0) (.slice none 0 0)) (by simp [results, Tryz.results71, go_sem, u0, u1, u2, zeroF]) rfl ⟨rfl, unhide HB⟩)
theorem digT_size (s : ByteArray) : (digT s).size ≤ s.size := by
  rw [← list_len, ← list_len, digT_list]
  split
  · simp
  · exact Nat.le_refl _
/-- What Read answers where the texts are no right number. -/
theorem read_no (num den : ByteArray) (w : World) (hs1 : num.size ≤ maxLen) (hs2 : den.size ≤ maxLen) (h : ¬ RightT num den) :
    Calls Tryz.prog 71 #[.agg #[.string num, .string den]] w fun r w' => r = .returned (.tuple #[zeroF, .bool false]) ∧ Below w.heap.size w w' := by
  have hc := fun W => cutSign_any num W
  have h1 := fun W => right_any (digT num) W (Nat.le_trans (digT_size num) hs1)
  have h2 := fun W => right_any den W hs2
  by_cases hok : (!(Cub.rightB (digT num).data.toList) || !(Cub.rightB den.data.toList) || (isNeg num && ((digT num).toList == [48])) || (den.toList == [48])) = true
  · exact read_early num den (digT num) (isNeg num) _ _ _ _ w hc h1 h2 rfl rfl hok
  · simp only [Bool.or_eq_true, Bool.not_eq_true', Bool.and_eq_true, not_or, Bool.not_eq_false, not_and] at hok
    obtain ⟨⟨⟨k1, k2⟩, k3⟩, k4⟩ := hok
    obtain ⟨n, hn, e1⟩ := tb_of k1
    obtain ⟨d, hd, e2⟩ := tb_of k2
    have e3 := sT_of num n e1
    rw [e1, tb_eq48 n hn] at k3
    rw [e2, tb_eq48 d hd] at k4
    have hd0 : d ≠ 0 := by simpa using k4
    have hb0 : isNeg num = true → n ≠ 0 := fun hb => by simpa using k3 hb
    exact read_gcd num den (isNeg num) n d w e3 e2 hn hd hb0 hd0 (fun hg => h ⟨_, n, d, e3, e2, hn, hd, ⟨by omega, hg, hb0⟩⟩)
theorem byte_45 (c : UInt8) : ((c.toNat : Int) = 45) ↔ c = 45 := by
  constructor
  · intro h
    have : c.toNat = 45 := by omega
    rw [← Cub.ofNat_toNat c, this]; rfl
  · intro h; subst h; rfl
theorem ext1 (s : ByteArray) : (s.extract 1 s.size).data.toList = s.data.toList.tail := by
  rw [ByteArray.data_extract, Array.toList_extract, List.extract_eq_take_drop]
  have h1 : s.size = s.data.toList.length := (list_len s).symm
  rw [h1]
  cases s.data.toList with
  | nil => rfl
  | cons a t => simp
theorem neg_form (num : ByteArray) : (isNeg num = true ∧ 0 < num.size ∧ num.toList.isEmpty = false ∧ (∀ h : 0 < num.size, (num[0].toNat : Int) = 45) ∧ num.extract 1 num.size = digT num) ∨ (isNeg num = false ∧ digT num = num ∧ (num.toList.isEmpty = true ∨ (0 < num.size ∧ num.toList.isEmpty = false ∧ ∀ h : 0 < num.size, ((num[0].toNat : Int) == 45) = false))) := by
  rcases Nat.eq_zero_or_pos num.size with hz | hp
  · right
    have hl : num.data.toList = [] := by rw [← List.length_eq_zero_iff, list_len]; exact hz
    have hn : isNeg num = false := by unfold isNeg; rw [hl]; rfl
    exact ⟨hn, by unfold digT; rw [if_neg (by rw [hn]; decide)], Or.inl (empty_of num hz)⟩
  · have hh := list_head num hp
    by_cases hn : isNeg num = true
    · left
      have h45 : num[0] = 45 := by unfold isNeg at hn; rw [hh] at hn; simpa using hn
      refine ⟨hn, hp, not_empty_of num hp, fun _ => (byte_45 _).2 h45, ?_⟩
      apply bytes_ext
      rw [ext1, digT_list, if_pos hn]
    · right
      have hn' : isNeg num = false := by simpa using hn
      refine ⟨hn', by unfold digT; rw [if_neg hn], Or.inr ⟨hp, not_empty_of num hp, fun _ => ?_⟩⟩
      rw [beq_eq_false_iff_ne]
      intro e
      apply hn
      unfold isNeg
      rw [hh, (byte_45 _).1 e]; rfl
theorem spl_of (num : ByteArray) : Spl num (digT num) (isNeg num) := by
  rcases neg_form num with ⟨h1, h2, _, h4, h5⟩ | ⟨h1, h2, h3 | ⟨h3, _, h5⟩⟩
  · exact Or.inl ⟨h1, h2, h4, h5⟩
  · refine Or.inr (Or.inr ⟨h1, h2, ?_⟩)
    rcases Nat.eq_zero_or_pos num.size with hz | hp
    · exact hz
    · rw [not_empty_of num hp] at h3; cases h3
  · exact Or.inr (Or.inl ⟨h1, h2, h3, h5⟩)
attribute [local go_sem] run_bits run_from
theorem sz_ex (A B : Nat) (hi : scA A 5053 < scB B 5053) : ∃ x, SzInv A B x x := by
  have key : ∀ k : Nat, ∀ y : Int, y = -1074 + (k : Int) → y ≤ 5000 → scA A (y + 53) < scB B (y + 53) → ∃ x, SzInv A B x x := by
    intro k
    induction k with
    | zero => intro y hy h5 h; exact ⟨y, h, fun e h1 h2 => by omega, by omega, Int.le_refl _, h5⟩
    | succ k ih =>
      intro y hy h5 h
      by_cases hp : scA A (y - 1 + 53) < scB B (y - 1 + 53)
      · exact ih (y - 1) (by omega) (by omega) hp
      · exact ⟨y, h, fun e _ h2 hq => hp (below_mono A B (e + 53) (y - 1 + 53) (by omega) hq), by omega, Int.le_refl _, h5⟩
  exact key 6074 5000 (by decide) (by decide) hi
theorem pow600_two (K T : Nat) (hT : T = 4 * K + 1) : (10 : Nat) ^ K < 2 ^ T := by
  have h1 : (10 : Nat) ^ K ≤ 16 ^ K := Nat.pow_le_pow_left (by decide) K
  have h2 : (16 : Nat) ^ K = 2 ^ (4 * K) := by rw [Nat.pow_mul]
  rw [h2] at h1
  exact Nat.lt_of_le_of_lt h1 (Nat.pow_lt_pow_right (by decide) (by omega))
end Go.Proofs.YtijifpbpjinmhaaGreatDoor
namespace Go.Proofs.YtijifpbpjinmhaaGreatDoor
open Go.RowKit
theorem right_of (num den : ByteArray) (c : Bool) (w : World) (HR : ∀ W : World, Calls Tryz.prog 71 #[.agg #[.string num, .string den]] W fun r w' => ∃ b a1 l1 c1 a2 l2 c2, r = .returned (.tuple #[.agg #[.bool b, .slice a1 l1 c1, .slice a2 l2 c2], .bool c]) ∧ Below W.heap.size W w') : Calls Tryz.prog 29 #[.agg #[.string num, .string den]] w fun r w' => r = .returned (.bool c) ∧ Below w.heap.size w w' := by
  obtain ⟨V, hV⟩ : ∃ V, V = w.alloc (.cells #[.string num, .string den] 23) := ⟨_, rfl⟩
  have HN : Hid (OwnU V w.heap.size 23 #[.string num, .string den]) := by rw [hV]; exact OwnU.new _ _ _
  have HB : Hid (Below w.heap.size w V) := by rw [hV]; exact (Below.refl _ _).alloc (Nat.le_refl _) _
  have HV := hide hV
  have HRR := hide HR
  clear hV HR
  go_enter Tryz.func29, Tryz.ntmps29
  go_upto_region 1 with fail
  rw [← unhide HV]
  clear HV
  have t0 : V.cell? ⟨w.heap.size, 0, none⟩ = some (.string num) := (unhide HN).ub.c 0 _ rfl
  have t1 : V.cell? ⟨w.heap.size, 1, none⟩ = some (.string den) := (unhide HN).ub.c 1 _ rfl
  go_upto_region 2 with (go_at_call 71; go_must (refine (unhide HRR _).mono ?_; rintro e w1 ⟨bz, az, lz, cz, dz, mz, ez, rfl, hb1⟩; have HB1 := hide ((unhide HB).trans (hb1.mono (unhide HB).size)); clear hb1 t0 t1))
  go_wp2_with fail
  go_ret
  exact ⟨rfl, (unhide HB1).alloc (unhide HB1).size _⟩
theorem near_of (num den ds : ByteArray) (b : Bool) (n d f : Nat) (er : Int) (w : World) (htab : Tab w) (HR : ∀ W : World, Calls Tryz.prog 29 #[.agg #[.string num, .string den]] W fun r w' => r = .returned (.bool true) ∧ Below W.heap.size W w') (HC : ∀ W : World, Calls Tryz.prog 30 #[.string num, .string ⟨#[45]⟩] W fun e w' => e = .returned (.tuple #[.string ds, .bool b]) ∧ w' = W) (HB1 : ∀ W : World, Calls Tryz.prog 32 #[.string ds] W fun e w' => ∃ a l c, e = .returned (.agg #[.slice a l c]) ∧ IsBig w' (.agg #[.slice a l c]) n ∧ Below W.heap.size W w') (HB2 : ∀ W : World, Calls Tryz.prog 32 #[.string den] W fun e w' => ∃ a l c, e = .returned (.agg #[.slice a l c]) ∧ IsBig w' (.agg #[.slice a l c]) d ∧ Below W.heap.size W w') (HT : ∀ (a1 : Option Addr) (l1 c1 : Nat) (a2 : Option Addr) (l2 c2 : Nat) (W : World), IsBig W (.agg #[.slice a1 l1 c1]) n → IsBig W (.agg #[.slice a2 l2 c2]) d → Tab W → Calls Tryz.prog 31 #[.bool b, .agg #[.slice a1 l1 c1, .slice a2 l2 c2]] W fun e w' => e = .returned (.tuple #[.float .f64 f, .int .i64 er]) ∧ Below W.heap.size W w') : Calls Tryz.prog 10 #[.agg #[.string num, .string den]] w fun e w' => e = .returned (.tuple #[.float .f64 f, .int .i64 er]) ∧ Below w.heap.size w w' := by
  have hta : ∀ W, Below w.heap.size w W → Tab W := fun W hb => htab.later hb
  have HTAB := hide hta
  obtain ⟨V, hV⟩ : ∃ V, V = (w.alloc (.cells #[.string num, .string den] 23)) := ⟨_, rfl⟩
  have HS0 : Hid (St w [(w.heap.size, 23, #[.string num, .string den])] [] V) := by rw [hV]; have h := ((St.nil (Below.refl _ w)).new #[.string num, .string den] 23); (try simp only [World.size_alloc] at h); exact h
  have HV := hide hV
  have GR := hide HR; have GC := hide HC; have GB1 := hide HB1; have GB2 := hide HB2; have GT := hide HT
  clear hV htab hta HR HC HB1 HB2 HT
  go_enter Tryz.func10, Tryz.ntmps10
  go_upto_region 1 with fail
  rw [← unhide HV]
  clear HV
  have u0 := ((unhide HS0).at 0 rfl).ub.c 0 _ rfl
  have u1 := ((unhide HS0).at 0 rfl).ub.c 1 _ rfl
  go_upto_region 3 with (have hchk := HS0; clear hchk; go_at_call 29; go_must (refine (unhide GR _).mono ?_; rintro e U1 ⟨rfl, hb⟩; have HS1 := hide ((unhide HS0).later hb); clear HS0; clear hb u0 u1))
  have u0 := ((unhide HS1).at 0 rfl).ub.c 0 _ rfl
  go_upto_region 4 with (go_at_call 30; go_must (refine (unhide GC _).mono ?_; rintro e ww ⟨rfl, hw⟩; have hw2 := hw.symm; subst hw2; clear hw))
  clear u0
  refine region_reads 11 (fun _ => True) (fun W' => W'.cell? ⟨w.heap.size, 1, none⟩ = some (.string den)) 12 rfl (by kernel_rfl) ?_
  have HS2 := hide ((unhide HS1).later ((Below.refl _ _).drew))
  clear HS1
  generalize U1.drew = X0 at *
  refine wpR_take7 (i := 0) (oi := _) (v := .bool b) rfl (by kernel_rfl) (by kernel_rfl) (by kernel_rfl) (by kernel_rfl) (fun _ _ _ h => h) (Or.inl ⟨by rfl, ?_⟩) ⟨trivial, ((unhide HS2).at 0 rfl).ub.c 1 _ rfl⟩ ?_
  · intro W' hW
    go_simp
  refine wpR_take7 (i := 1) (oi := _) (v := .string ds) rfl (by kernel_rfl) (by kernel_rfl) (by kernel_rfl) (by kernel_rfl) (fun _ _ _ h => h) (Or.inl ⟨by rfl, ?_⟩) ⟨trivial, ((unhide HS2).at 0 rfl).ub.c 1 _ rfl⟩ ?_
  · intro W' hW
    go_simp
  refine wpR_take7 (i := 3) (oi := _) (v := .pointer (some ⟨w.heap.size, 1, none⟩)) rfl (by kernel_rfl) (by kernel_rfl) (by kernel_rfl) (by kernel_rfl) (fun _ _ _ h => h) (Or.inl ⟨by rfl, ?_⟩) ⟨trivial, ((unhide HS2).at 0 rfl).ub.c 1 _ rfl⟩ ?_
  · intro W' hW
    go_simp
  refine wpR_take7 (i := 4) (oi := _) (v := .string den) rfl (by kernel_rfl) (by kernel_rfl) (by kernel_rfl) (by kernel_rfl) (fun _ _ _ h => h) (Or.inl ⟨by rfl, ?_⟩) ⟨trivial, ((unhide HS2).at 0 rfl).ub.c 1 _ rfl⟩ ?_
  · intro W' hW
    go_simp
  refine wpR_op (i := 2) (o := _) (by kernel_rfl) rfl rfl (fun K hK => ?_)
  go_simp
  refine (unhide GB1 _).mono ?_
  rintro e X1 ⟨a1, l1, c1, rfl, hv, hb⟩
  have HS3 := hide (((unhide HS2).later hb).push hv)
  clear HS2
  clear hv hb
  refine hK _ _ ⟨trivial, ((unhide HS3).at 0 rfl).ub.c 1 _ rfl⟩ ?_
  clear hK K
  refine wpR_op (i := 5) (o := _) (by kernel_rfl) rfl rfl (fun K hK => ?_)
  go_simp
  refine (unhide GB2 _).mono ?_
  rintro e X2 ⟨a2, l2, c2, rfl, hv, hb⟩
  have HS4 := hide (((unhide HS3).later hb).push hv)
  clear HS3
  clear hv hb
  refine hK _ _ ⟨trivial, ((unhide HS4).at 0 rfl).ub.c 1 _ rfl⟩ ?_
  clear hK K
  refine wpR_op (i := 6) (o := _) (by kernel_rfl) rfl rfl (fun K hK => ?_)
  go_simp
  refine hK _ _ ⟨trivial, ((unhide HS4).at 0 rfl).ub.c 1 _ rfl⟩ ?_
  clear hK K
  refine wpR_op (i := 7) (o := _) (by kernel_rfl) rfl rfl (fun K hK => ?_)
  go_simp
  have hb1 := (unhide HS4).bgt 1 rfl
  have hb0 := (unhide HS4).bgt 0 rfl
  have hcall := unhide GT a1 l1 c1 a2 l2 c2 X2 hb1 hb0 (unhide HTAB _ (unhide HS4).below)
  clear hb1 hb0
  refine hcall.mono ?_
  clear hcall
  rintro e X3 ⟨rfl, hb⟩
  have HS5 := hide ((unhide HS4).later hb)
  clear HS4
  clear hb
  refine hK _ _ ⟨trivial, ((unhide HS5).at 0 rfl).ub.c 1 _ rfl⟩ ?_
  clear hK K
  refine wpR_take7 (i := 8) (oi := _) (v := .float .f64 f) rfl (by kernel_rfl) (by kernel_rfl) (by kernel_rfl) (by kernel_rfl) (fun _ _ _ h => h) (Or.inl ⟨by rfl, ?_⟩) ⟨trivial, ((unhide HS5).at 0 rfl).ub.c 1 _ rfl⟩ ?_
  · intro W' hW
    go_simp
  refine wpR_take7 (i := 9) (oi := _) (v := .int .i64 er) rfl (by kernel_rfl) (by kernel_rfl) (by kernel_rfl) (by kernel_rfl) (fun _ _ _ h => h) (Or.inl ⟨by rfl, ?_⟩) ⟨trivial, ((unhide HS5).at 0 rfl).ub.c 1 _ rfl⟩ ?_
  · intro W' hW
    go_simp
  refine wpR_op (i := 10) (o := _) (by kernel_rfl) rfl rfl (fun K hK => ?_)
  go_simp
  refine hK _ _ ⟨trivial, ((unhide HS5).at 0 rfl).ub.c 1 _ rfl⟩ ?_
  clear hK K
  refine wpR_late (i := 11) (o := _) (by kernel_rfl) rfl rfl (by kernel_rfl) (fun K hK => ?_)
  go_simp
  refine hK _ _ (((unhide HS5).at 0 rfl).ub.c 1 _ rfl) ?_
  clear hK K
  refine wpR_done (by kernel_rfl) ?_
  go_wp2_with fail
  exact bodyPost_ret (v := .tuple #[.float .f64 f, .int .i64 er]) (by simp [results, Tryz.results10, go_sem]) rfl ⟨rfl, (unhide HS5).below⟩
theorem right_ok (num den : ByteArray) (b : Bool) (n d : Nat) (h : RT num den b n d) (w : World) : Calls Tryz.prog 29 #[.agg #[.string num, .string den]] w fun r w' => r = .returned (.bool true) ∧ Below w.heap.size w w' := by
  refine right_of num den true w (fun W => ?_)
  refine (read_ok num den b n d W h.num h.den h.hn h.hd h.low.sign (by have := h.low.pos; omega) h.low.cop).mono ?_
  rintro e w' ⟨v, rfl, hq, hb⟩
  obtain ⟨b', a1, l1, c1, a2, l2, c2, rfl⟩ := QOf.form hq
  exact ⟨b', a1, l1, c1, a2, l2, c2, rfl, hb⟩
theorem right_no (num den : ByteArray) (hs1 : num.size ≤ maxLen) (hs2 : den.size ≤ maxLen) (h : ¬ RightT num den) (w : World) : Calls Tryz.prog 29 #[.agg #[.string num, .string den]] w fun r w' => r = .returned (.bool false) ∧ Below w.heap.size w w' := by
  refine right_of num den false w (fun W => ?_)
  refine (read_no num den W hs1 hs2 h).mono ?_
  rintro e w' ⟨rfl, hb⟩
  exact ⟨false, none, 0, 0, none, 0, 0, rfl, hb⟩
theorem near_no (num den : ByteArray) (w : World) (hs1 : num.size ≤ maxLen) (hs2 : den.size ≤ maxLen) (h : ¬ RightT num den) : Calls Tryz.prog 10 #[.agg #[.string num, .string den]] w fun r w' => r = .returned (.tuple #[.float .f64 0, .int .i64 3]) ∧ Below w.heap.size w w' := by
  obtain ⟨V, hV⟩ : ∃ V, V = w.alloc (.cells #[.string num, .string den] 23) := ⟨_, rfl⟩
  have HX : Hid (T2 V w.heap.size (.string num) (.string den)) := by rw [hV]; exact ⟨by simp [go_sem], by simp [go_sem], by simp [go_sem], by simp [go_sem]⟩
  have HB : Hid (Below w.heap.size w V) := by rw [hV]; exact (Below.refl _ _).alloc (Nat.le_refl _) _
  have HR := hide (fun W => right_no num den hs1 hs2 h W)
  have HV := hide hV
  clear hV
  go_enter Tryz.func10, Tryz.ntmps10
  go_upto_region 1 with fail
  rw [← unhide HV]
  clear HV
  have c0 := (unhide HX).c0; have c1 := (unhide HX).c1
  go_wp2_with (go_at_call 29; refine (unhide HR _).mono ?_; rintro e w1 ⟨rfl, hb⟩; have HB1 : Hid (Below w.heap.size w w1) := (unhide HB).trans (hb.mono (Nat.le_of_lt (unhide HX).lt)); clear hb)
  exact bodyPost_ret (v := .tuple #[.float .f64 0, .int .i64 3]) (by simp [results, Tryz.results10, go_sem]) rfl ⟨rfl, unhide HB1⟩
/-- What nearestTo answers at a size. -/
def ToAns (b : Bool) (n d f : Nat) (er : Int) : Prop := ∀ (a1 : Option Addr) (l1 c1 : Nat) (a2 : Option Addr) (l2 c2 : Nat) (W : World), IsBig W (.agg #[.slice a1 l1 c1]) n → IsBig W (.agg #[.slice a2 l2 c2]) d → Tab W → Calls Tryz.prog 31 #[.bool b, .agg #[.slice a1 l1 c1, .slice a2 l2 c2]] W fun e w' => e = .returned (.tuple #[.float .f64 f, .int .i64 er]) ∧ Below W.heap.size W w'
theorem big_tb (n : Nat) (h : n < 10 ^ 600) (w : World) : Calls Tryz.prog 32 #[.string (tb n)] w fun e w' => ∃ a l c, e = .returned (.agg #[.slice a l c]) ∧ IsBig w' (.agg #[.slice a l c]) n ∧ Below w.heap.size w w' := by
  refine (bigText_any (tb n) w (by have := (tb_digs n h).2; omega) (tb_digs n h).1).mono ?_
  rintro e w' ⟨v, rfl, hv, hb⟩
  obtain ⟨a, m, c, rfl⟩ := hv.shape
  rw [(tb_right n h).2] at hv
  exact ⟨a, m, c, rfl, hv, hb⟩
theorem near_ok (num den : ByteArray) (b : Bool) (n d f : Nat) (er : Int) (w : World) (h : RT num den b n d) (htab : Tab w) (ht : ToAns b n d f er) : Calls Tryz.prog 10 #[.agg #[.string num, .string den]] w fun r w' => r = .returned (.tuple #[.float .f64 f, .int .i64 er]) ∧ Below w.heap.size w w' := by
  have e1 : digT num = tb n := by rw [h.num, dig_sT _ _ h.hn]
  have e2 : isNeg num = b := by rw [h.num]; exact neg_sT _ _ h.hn
  refine near_of num den (tb n) b n d f er w htab (fun W => right_ok num den b n d h W) (fun W => ?_) (fun W => big_tb n h.hn W) (fun W => by rw [h.den]; exact big_tb d h.hd W) ht
  have hc := Tryz.strings_CutPrefix num ⟨#[45]⟩ W
  rw [show (⟨#[45]⟩ : ByteArray).data.toList = [45] from rfl, cut_digT, hasPre, e1] at hc
  rw [show (num.data.toList.head? == some 45) = b from e2] at hc
  exact hc
end Go.Proofs.YtijifpbpjinmhaaGreatDoor

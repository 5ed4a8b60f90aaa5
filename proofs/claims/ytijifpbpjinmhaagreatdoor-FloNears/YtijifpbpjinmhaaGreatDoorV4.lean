/- The document's Near (11) over all texts. -/
import Derived.Test.YtijifpbpjinmhaaGreatDoorOrd
import Derived.Test.YtijifpbpjinmhaaGreatDoorV1
set_option maxHeartbeats 4000000
set_option maxRecDepth 100000
namespace Go.Proofs.YtijifpbpjinmhaaGreatDoor
open Go.RowKit
/-- What Read answers where both texts are numbers. -/
theorem read_gcd (num den : ByteArray) (b : Bool) (n d : Nat) (w : World) (hnum : num = sT b n) (hden : den = tb d) (hn : n < 10 ^ 600) (hd : d < 10 ^ 600) (hb0 : b = true → n ≠ 0) (hd0 : d ≠ 0) (hg : Nat.gcd n d ≠ 1) :
    Calls Tryz.prog 71 #[.agg #[.string num, .string den]] w fun r w' => r = .returned (.tuple #[zeroF, .bool false]) ∧ Below w.heap.size w w' := by
  obtain ⟨V, hV⟩ : ∃ V, V = (w.alloc (.cells #[.string num, .string den] 23)).alloc (.cells #[.bool false, .slice none 0 0, .slice none 0 0] 98) := ⟨_, rfl⟩
  have HS : Hid (RS w V (.string num) (.string den)) := by rw [hV]; exact RS.first _ _ _
  have HV := hide hV
  have HC68 : Hid (Calls Tryz.prog 87 #[.string num] V fun e w' => e = .returned (.tuple #[.bool b, .string (tb n)]) ∧ w' = V) := by
    have := cutSign_any num V
    rw [hnum, neg_sT b n hn, dig_sT b n hn] at this
    rw [hnum]; exact this
  have HR1 : Hid (Calls Tryz.prog 88 #[.string (tb n)] V fun e w' => e = .returned (.bool true) ∧ w' = V) := by
    have := right_any (tb n) V (tb_size n hn)
    rwa [(tb_right n hn).1] at this
  have HR2 : Hid (Calls Tryz.prog 88 #[.string den] V fun e w' => e = .returned (.bool true) ∧ w' = V) := by
    have := right_any (tb d) V (tb_size d hd)
    rw [(tb_right d hd).1] at this
    rw [hden]; exact this
  have z1 : b = true → ((tb n).toList == [48]) = false := fun h => by rw [tb_eq48 n hn, beq_eq_false_iff_ne]; exact hb0 h
  have z2 : (den.toList == [48]) = false := by rw [hden, tb_eq48 d hd, beq_eq_false_iff_ne]; exact hd0
  have HB1 : Hid (∀ W, Calls Tryz.prog 32 #[.string (tb n)] W fun e w' => ∃ v, e = .returned v ∧ IsBig w' v n ∧ Below W.heap.size W w') := fun W => by
    have := bigText_any (tb n) W (by have := (tb_digs n hn).2; omega) (tb_digs n hn).1
    rwa [(tb_right n hn).2] at this
  have HB2 : Hid (∀ W, Calls Tryz.prog 32 #[.string den] W fun e w' => ∃ v, e = .returned v ∧ IsBig w' v d ∧ Below W.heap.size W w') := fun W => by
    have := bigText_any (tb d) W (by have := (tb_digs d hd).2; omega) (tb_digs d hd).1
    rw [(tb_right d hd).2] at this
    rw [hden]; exact this
  have p6 := pow600
  have HLT : Hid (n < 1000000000 ^ 67 ∧ d < 1000000000 ^ 67) := ⟨Nat.lt_of_lt_of_le hn p6, Nat.lt_of_lt_of_le hd p6⟩
  have HG : Hid (∀ W x y, IsBig W x n → IsBig W y d → Calls Tryz.prog 120 #[x, y] W fun e w' => ∃ a l c, e = .returned (.agg #[.slice a l c]) ∧ IsBig w' (.agg #[.slice a l c]) (Nat.gcd n d) ∧ Below W.heap.size W w') := fun W x y h1 h2 => gcdAns 67 (by decide) W x y n d h1 h2 (unhide HLT).1 (unhide HLT).2
  obtain ⟨gg, hgg⟩ : ∃ gg, gg = Nat.gcd n d := ⟨_, rfl⟩
  rw [← hgg] at HG hg
  have H1 : Hid (∀ W x, IsBig W x gg → Calls Tryz.prog 121 #[x] W fun e w' => e = .returned (.bool false) ∧ Below W.heap.size W w') := fun W x h => by
    have := isOne_any x gg W h
    rwa [show (gg == 1) = false by rw [beq_eq_false_iff_ne]; exact hg] at this
  clear hgg
  clear p6 hn hd hb0 hd0 hg hnum hden
  generalize tb n = ds at *
  go_enter Tryz.func71, Tryz.ntmps71
  go_upto_region 1 with fail
  rw [← unhide HV]
  clear hV HV
  have t0 := (unhide HS).a.c0; have t1 := (unhide HS).a.c1
  have HGOAL : True := trivial
  cases b with
  | true =>
    have z3 := z1 rfl
    go_upto_region 4 with (first
      | (go_at_call 87; go_must (refine (unhide HC68).mono ?_; rintro e w1 ⟨rfl, hw1⟩; obtain rfl : V = w1 := hw1.symm))
      | (go_at_call_of 88 (Value.string ds); go_must (refine (unhide HR1).mono ?_; rintro e w1 ⟨rfl, hw1⟩; obtain rfl : V = w1 := hw1.symm))
      | (go_at_call 88; go_must (refine (unhide HR2).mono ?_; rintro e w1 ⟨rfl, hw1⟩; obtain rfl : V = w1 := hw1.symm)))
    have HC : Hid (∀ U, Below V.heap.size V U → U.cell? ⟨w.heap.size, 1, none⟩ = some (.string den) ∧ w.heap.size < U.heap.size ∧ w.heap.size + 1 < U.heap.size) := fun U hb => by
      have s := (unhide HS).later hb
      exact ⟨s.a.c1, s.a.lt, s.r.lt⟩
    have zv := (unhide HC V (Below.refl _ _)).2
    clear t0
    go_region_held3 (fun w' => w'.cell? ⟨w.heap.size, 1, none⟩ = some (.string den)) (first | assumption | (simp [go_sem, *]; done) | (rw [World.cell?_setCell_other _ _ _ _ (by simp; omega), World.cell?_setCell_other _ _ _ _ (by simp; omega), World.cell?_setCell_other _ _ _ _ (by simp; omega)]; assumption)) ((first
      | (go_at_call_of 32 (Value.string ds); go_must (refine (unhide HB1 _).mono ?_; rintro e wa ⟨va, rfl, hva, hba⟩; obtain ⟨aa, la, ca, rfl⟩ := hva.shape; have HVA := hide hva; have HCA : Hid (Below V.heap.size V wa) := (by first | exact ((Below.refl V.heap.size V).drew).trans hba | exact (((Below.refl V.heap.size V).drew).alloc (by simp) _).trans (hba.mono (by simp))); (first | (have HN : Hid (FBox wa V.heap.size (.bool false) (.slice none 0 0) (.slice none 0 0)) := (FBox.new V.drew _ _ _).later hba; have nc0 := (unhide HN).c0; have nc1 := (unhide HN).c1; have nc2 := (unhide HN).c2; have nf0 := (unhide HN).f0; have nf1 := (unhide HN).f1; have nf2 := (unhide HN).f2) | skip); clear hva hba t1; obtain ⟨t1, za⟩ := unhide HC wa (unhide HCA)))
      | (go_at_call 32; go_must (refine (unhide HB2 _).mono ?_; rintro e wb ⟨vb, rfl, hvb, hbb⟩; obtain ⟨ab, lb, cb, rfl⟩ := hvb.shape; have HVB := hide hvb; have Htrue : Hid (Below wa.heap.size wa wb) := (by first | exact hbb | exact ((Below.refl _ _).alloc (Nat.le_refl _) _).trans (hbb.mono (by simp))); have HVA' := hide ((unhide HVA).later (unhide Htrue)); have HCB := hide ((unhide HCA).trans ((unhide Htrue).mono (unhide HCA).size)); (first | (have HN2 := hide ((unhide HN).later hbb); clear HN; have HN := HN2; clear HN2; clear nc0 nc1 nc2 nf0 nf1 nf2; have nc0 := (unhide HN).c0; have nc1 := (unhide HN).c1; have nc2 := (unhide HN).c2; have nf0 := (unhide HN).f0; have nf1 := (unhide HN).f1; have nf2 := (unhide HN).f2) | (have HN := hide ((FBox.new _ _ _ _).later hbb); have nc0 := (unhide HN).c0; have nc1 := (unhide HN).c1; have nc2 := (unhide HN).c2; have nf0 := (unhide HN).f0; have nf1 := (unhide HN).f1; have nf2 := (unhide HN).f2) | skip); clear hvb hbb t1; obtain ⟨t1, zb⟩ := unhide HC wb (unhide HCB)))))
    all_goals
      first
      | (obtain ⟨V4, hV4⟩ : ∃ V4, V4 = wb.alloc (.cells #[.bool true, .slice aa la ca, .slice ab lb cb] 98) := ⟨_, rfl⟩
         rw [← hV4]
         have hb : Below wb.heap.size wb V4 := by rw [hV4]; exact (Below.refl _ _).alloc (Nat.le_refl _) _
         have HS4 : Hid (RS w V4 (.string num) (.string den)) := ((unhide HS).later (unhide HCB)).later hb
         have HF4 : Hid (FBox V4 wb.heap.size (.bool true) (.slice aa la ca) (.slice ab lb cb)) := by rw [hV4]; exact FBox.new _ _ _ _
         have HN4 := hide ((unhide HVA').later hb)
         have HD4 := hide ((unhide HVB).later hb)
         have hgr : w.heap.size + 1 < wb.heap.size := zb.2
         clear hV4 hb zv za zb t1 HVA HVA' HVB HCA HCB Htrue HS HC
         generalize wb.heap.size = g6 at *)
      | (obtain ⟨V4, hV4⟩ : ∃ V4, V4 = ((wb.setCell ⟨V.heap.size, 0, none⟩ (.bool true)).setCell ⟨V.heap.size, 1, none⟩ (.slice aa la ca)).setCell ⟨V.heap.size, 2, none⟩ (.slice ab lb cb) := ⟨_, rfl⟩
         rw [← hV4]
         have hgr : w.heap.size + 1 < V.heap.size := zv.2
         have HF4 : Hid (FBox V4 V.heap.size (.bool true) (.slice aa la ca) (.slice ab lb cb)) := by rw [hV4]; exact (unhide HN).store _ _ _
         have HN4 : Hid (IsBig V4 (.agg #[.slice aa la ca]) n) := by rw [hV4]; exact (unhide HN).big _ _ _ (unhide HVA')
         have HD4 : Hid (IsBig V4 (.agg #[.slice ab lb cb]) d) := by rw [hV4]; exact (unhide HN).big _ _ _ (unhide HVB)
         have HS4 : Hid (RS w V4 (.string num) (.string den)) := by
           rw [hV4]
           have s := (unhide HS).later (unhide HCB)
           exact ⟨((s.a.otherAt (by omega) _).otherAt (by omega) _).otherAt (by omega) _, ((s.r.otherAt (by omega) _).otherAt (by omega) _).otherAt (by omega) _, below_store3 s.below (by omega) _ _ _⟩
         clear hV4 zv za zb t1 HVA HVA' HVB HCA HCB Htrue HS HC HN nc0 nc1 nc2 nf0 nf1 nf2
         generalize V.heap.size = g6 at *)
      | (obtain ⟨V4, hV4⟩ : ∃ V4, V4 = ((wb.setCell ⟨wa.heap.size, 0, none⟩ (.bool true)).setCell ⟨wa.heap.size, 1, none⟩ (.slice aa la ca)).setCell ⟨wa.heap.size, 2, none⟩ (.slice ab lb cb) := ⟨_, rfl⟩
         rw [← hV4]
         have hgr : w.heap.size + 1 < wa.heap.size := za.2
         have HF4 : Hid (FBox V4 wa.heap.size (.bool true) (.slice aa la ca) (.slice ab lb cb)) := by rw [hV4]; exact (unhide HN).store _ _ _
         have HN4 : Hid (IsBig V4 (.agg #[.slice aa la ca]) n) := by rw [hV4]; exact (unhide HN).big _ _ _ (unhide HVA')
         have HD4 : Hid (IsBig V4 (.agg #[.slice ab lb cb]) d) := by rw [hV4]; exact (unhide HN).big _ _ _ (unhide HVB)
         have HS4 : Hid (RS w V4 (.string num) (.string den)) := by
           rw [hV4]
           have s := (unhide HS).later (unhide HCB)
           exact ⟨((s.a.otherAt (by omega) _).otherAt (by omega) _).otherAt (by omega) _, ((s.r.otherAt (by omega) _).otherAt (by omega) _).otherAt (by omega) _, below_store3 s.below (by omega) _ _ _⟩
         clear hV4 zv za zb t1 HVA HVA' HVB HCA HCB Htrue HS HC HN nc0 nc1 nc2 nf0 nf1 nf2
         generalize wa.heap.size = g6 at *)
      have t0 := (unhide HF4).c0; have t1 := (unhide HF4).c1; have t2 := (unhide HF4).c2
      go_wp2_with (first
        | (go_at_call 120; go_must (refine (unhide HG _ _ _ (unhide HN4) (unhide HD4)).mono ?_; rintro e w5 ⟨ag, lg, cg, rfl, hv5, hb5⟩; have HG5 := hide hv5; have HB5 := hide hb5; clear hv5 hb5))
        | (go_at_call 121; go_must (refine (unhide H1 _ _ (unhide HG5)).mono ?_; rintro e w6 ⟨rfl, hb6⟩; have HB6 := hide ((unhide HB5).trans (hb6.mono (unhide HB5).size)); clear hb6 t0 t1 t2; have HS6 := hide ((unhide HS4).later (unhide HB6)); have HF6 := hide ((unhide HF4).later (unhide HB6)); have t0 := (unhide HF6).c0; have t1 := (unhide HF6).c1; have t2 := (unhide HF6).c2; have r0 := (unhide HS6).r.c0; have r1 := (unhide HS6).r.c1; have r2 := (unhide HS6).r.c2; have rf0 := (unhide HS6).r.f0; have rf1 := (unhide HS6).r.f1; have rf2 := (unhide HS6).r.f2)))
      have hS := (unhide HS6).r.store (.bool false) (.slice none 0 0) (.slice none 0 0)
      have hb : Below w.heap.size w (store3 w6 (w.heap.size + 1) (.bool false) (.slice none 0 0) (.slice none 0 0)) := below_store3 (unhide HS6).below (by omega) _ _ _
      have u0 := hS.c0; have u1 := hS.c1; have u2 := hS.c2
      exact bodyPost_ret (v := .tuple #[zeroF, .bool false]) (w := store3 w6 (w.heap.size + 1) (.bool false) (.slice none 0 0) (.slice none 0 0)) (by simp [results, Tryz.results71, go_sem, u0, u1, u2, zeroF]) rfl ⟨rfl, hb⟩
  | false =>
    clear z1
    go_upto_region 4 with (first
      | (go_at_call 87; go_must (refine (unhide HC68).mono ?_; rintro e w1 ⟨rfl, hw1⟩; obtain rfl : V = w1 := hw1.symm))
      | (go_at_call_of 88 (Value.string ds); go_must (refine (unhide HR1).mono ?_; rintro e w1 ⟨rfl, hw1⟩; obtain rfl : V = w1 := hw1.symm))
      | (go_at_call 88; go_must (refine (unhide HR2).mono ?_; rintro e w1 ⟨rfl, hw1⟩; obtain rfl : V = w1 := hw1.symm)))
    have HC : Hid (∀ U, Below V.heap.size V U → U.cell? ⟨w.heap.size, 1, none⟩ = some (.string den) ∧ w.heap.size < U.heap.size ∧ w.heap.size + 1 < U.heap.size) := fun U hb => by
      have s := (unhide HS).later hb
      exact ⟨s.a.c1, s.a.lt, s.r.lt⟩
    have zv := (unhide HC V (Below.refl _ _)).2
    clear t0
    go_region_held3 (fun w' => w'.cell? ⟨w.heap.size, 1, none⟩ = some (.string den)) (first | assumption | (simp [go_sem, *]; done) | (rw [World.cell?_setCell_other _ _ _ _ (by simp; omega), World.cell?_setCell_other _ _ _ _ (by simp; omega), World.cell?_setCell_other _ _ _ _ (by simp; omega)]; assumption)) ((first
      | (go_at_call_of 32 (Value.string ds); go_must (refine (unhide HB1 _).mono ?_; rintro e wa ⟨va, rfl, hva, hba⟩; obtain ⟨aa, la, ca, rfl⟩ := hva.shape; have HVA := hide hva; have HCA : Hid (Below V.heap.size V wa) := (by first | exact ((Below.refl V.heap.size V).drew).trans hba | exact (((Below.refl V.heap.size V).drew).alloc (by simp) _).trans (hba.mono (by simp))); (first | (have HN : Hid (FBox wa V.heap.size (.bool false) (.slice none 0 0) (.slice none 0 0)) := (FBox.new V.drew _ _ _).later hba; have nc0 := (unhide HN).c0; have nc1 := (unhide HN).c1; have nc2 := (unhide HN).c2; have nf0 := (unhide HN).f0; have nf1 := (unhide HN).f1; have nf2 := (unhide HN).f2) | skip); clear hva hba t1; obtain ⟨t1, za⟩ := unhide HC wa (unhide HCA)))
      | (go_at_call 32; go_must (refine (unhide HB2 _).mono ?_; rintro e wb ⟨vb, rfl, hvb, hbb⟩; obtain ⟨ab, lb, cb, rfl⟩ := hvb.shape; have HVB := hide hvb; have Hfalse : Hid (Below wa.heap.size wa wb) := (by first | exact hbb | exact ((Below.refl _ _).alloc (Nat.le_refl _) _).trans (hbb.mono (by simp))); have HVA' := hide ((unhide HVA).later (unhide Hfalse)); have HCB := hide ((unhide HCA).trans ((unhide Hfalse).mono (unhide HCA).size)); (first | (have HN2 := hide ((unhide HN).later hbb); clear HN; have HN := HN2; clear HN2; clear nc0 nc1 nc2 nf0 nf1 nf2; have nc0 := (unhide HN).c0; have nc1 := (unhide HN).c1; have nc2 := (unhide HN).c2; have nf0 := (unhide HN).f0; have nf1 := (unhide HN).f1; have nf2 := (unhide HN).f2) | (have HN := hide ((FBox.new _ _ _ _).later hbb); have nc0 := (unhide HN).c0; have nc1 := (unhide HN).c1; have nc2 := (unhide HN).c2; have nf0 := (unhide HN).f0; have nf1 := (unhide HN).f1; have nf2 := (unhide HN).f2) | skip); clear hvb hbb t1; obtain ⟨t1, zb⟩ := unhide HC wb (unhide HCB)))))
    all_goals
      first
      | (obtain ⟨V4, hV4⟩ : ∃ V4, V4 = wb.alloc (.cells #[.bool false, .slice aa la ca, .slice ab lb cb] 98) := ⟨_, rfl⟩
         rw [← hV4]
         have hb : Below wb.heap.size wb V4 := by rw [hV4]; exact (Below.refl _ _).alloc (Nat.le_refl _) _
         have HS4 : Hid (RS w V4 (.string num) (.string den)) := ((unhide HS).later (unhide HCB)).later hb
         have HF4 : Hid (FBox V4 wb.heap.size (.bool false) (.slice aa la ca) (.slice ab lb cb)) := by rw [hV4]; exact FBox.new _ _ _ _
         have HN4 := hide ((unhide HVA').later hb)
         have HD4 := hide ((unhide HVB).later hb)
         have hgr : w.heap.size + 1 < wb.heap.size := zb.2
         clear hV4 hb zv za zb t1 HVA HVA' HVB HCA HCB Hfalse HS HC
         generalize wb.heap.size = g6 at *)
      | (obtain ⟨V4, hV4⟩ : ∃ V4, V4 = ((wb.setCell ⟨V.heap.size, 0, none⟩ (.bool false)).setCell ⟨V.heap.size, 1, none⟩ (.slice aa la ca)).setCell ⟨V.heap.size, 2, none⟩ (.slice ab lb cb) := ⟨_, rfl⟩
         rw [← hV4]
         have hgr : w.heap.size + 1 < V.heap.size := zv.2
         have HF4 : Hid (FBox V4 V.heap.size (.bool false) (.slice aa la ca) (.slice ab lb cb)) := by rw [hV4]; exact (unhide HN).store _ _ _
         have HN4 : Hid (IsBig V4 (.agg #[.slice aa la ca]) n) := by rw [hV4]; exact (unhide HN).big _ _ _ (unhide HVA')
         have HD4 : Hid (IsBig V4 (.agg #[.slice ab lb cb]) d) := by rw [hV4]; exact (unhide HN).big _ _ _ (unhide HVB)
         have HS4 : Hid (RS w V4 (.string num) (.string den)) := by
           rw [hV4]
           have s := (unhide HS).later (unhide HCB)
           exact ⟨((s.a.otherAt (by omega) _).otherAt (by omega) _).otherAt (by omega) _, ((s.r.otherAt (by omega) _).otherAt (by omega) _).otherAt (by omega) _, below_store3 s.below (by omega) _ _ _⟩
         clear hV4 zv za zb t1 HVA HVA' HVB HCA HCB Hfalse HS HC HN nc0 nc1 nc2 nf0 nf1 nf2
         generalize V.heap.size = g6 at *)
      | (obtain ⟨V4, hV4⟩ : ∃ V4, V4 = ((wb.setCell ⟨wa.heap.size, 0, none⟩ (.bool false)).setCell ⟨wa.heap.size, 1, none⟩ (.slice aa la ca)).setCell ⟨wa.heap.size, 2, none⟩ (.slice ab lb cb) := ⟨_, rfl⟩
         rw [← hV4]
         have hgr : w.heap.size + 1 < wa.heap.size := za.2
         have HF4 : Hid (FBox V4 wa.heap.size (.bool false) (.slice aa la ca) (.slice ab lb cb)) := by rw [hV4]; exact (unhide HN).store _ _ _
         have HN4 : Hid (IsBig V4 (.agg #[.slice aa la ca]) n) := by rw [hV4]; exact (unhide HN).big _ _ _ (unhide HVA')
         have HD4 : Hid (IsBig V4 (.agg #[.slice ab lb cb]) d) := by rw [hV4]; exact (unhide HN).big _ _ _ (unhide HVB)
         have HS4 : Hid (RS w V4 (.string num) (.string den)) := by
           rw [hV4]
           have s := (unhide HS).later (unhide HCB)
           exact ⟨((s.a.otherAt (by omega) _).otherAt (by omega) _).otherAt (by omega) _, ((s.r.otherAt (by omega) _).otherAt (by omega) _).otherAt (by omega) _, below_store3 s.below (by omega) _ _ _⟩
         clear hV4 zv za zb t1 HVA HVA' HVB HCA HCB Hfalse HS HC HN nc0 nc1 nc2 nf0 nf1 nf2
         generalize wa.heap.size = g6 at *)
      have t0 := (unhide HF4).c0; have t1 := (unhide HF4).c1; have t2 := (unhide HF4).c2
      go_wp2_with (first
        | (go_at_call 120; go_must (refine (unhide HG _ _ _ (unhide HN4) (unhide HD4)).mono ?_; rintro e w5 ⟨ag, lg, cg, rfl, hv5, hb5⟩; have HG5 := hide hv5; have HB5 := hide hb5; clear hv5 hb5))
        | (go_at_call 121; go_must (refine (unhide H1 _ _ (unhide HG5)).mono ?_; rintro e w6 ⟨rfl, hb6⟩; have HB6 := hide ((unhide HB5).trans (hb6.mono (unhide HB5).size)); clear hb6 t0 t1 t2; have HS6 := hide ((unhide HS4).later (unhide HB6)); have HF6 := hide ((unhide HF4).later (unhide HB6)); have t0 := (unhide HF6).c0; have t1 := (unhide HF6).c1; have t2 := (unhide HF6).c2; have r0 := (unhide HS6).r.c0; have r1 := (unhide HS6).r.c1; have r2 := (unhide HS6).r.c2; have rf0 := (unhide HS6).r.f0; have rf1 := (unhide HS6).r.f1; have rf2 := (unhide HS6).r.f2)))
      have hS := (unhide HS6).r.store (.bool false) (.slice none 0 0) (.slice none 0 0)
      have hb : Below w.heap.size w (store3 w6 (w.heap.size + 1) (.bool false) (.slice none 0 0) (.slice none 0 0)) := below_store3 (unhide HS6).below (by omega) _ _ _
      have u0 := hS.c0; have u1 := hS.c1; have u2 := hS.c2
      exact bodyPost_ret (v := .tuple #[zeroF, .bool false]) (w := store3 w6 (w.heap.size + 1) (.bool false) (.slice none 0 0) (.slice none 0 0)) (by simp [results, Tryz.results71, go_sem, u0, u1, u2, zeroF]) rfl ⟨rfl, hb⟩
theorem read_early (num den : ByteArray) (ds : ByteArray) (b r1 r2 e1 e2 : Bool) (w : World) (hc : ∀ W, Calls Tryz.prog 87 #[.string num] W fun e w' => e = .returned (.tuple #[.bool b, .string ds]) ∧ w' = W)
    (h1 : ∀ W, Calls Tryz.prog 88 #[.string ds] W fun e w' => e = .returned (.bool r1) ∧ w' = W) (h2 : ∀ W, Calls Tryz.prog 88 #[.string den] W fun e w' => e = .returned (.bool r2) ∧ w' = W)
    (z1 : (ds.toList == [48]) = e1) (z2 : (den.toList == [48]) = e2) (h : (!r1 || !r2 || (b && e1) || e2) = true) :
    Calls Tryz.prog 71 #[.agg #[.string num, .string den]] w fun r w' => r = .returned (.tuple #[zeroF, .bool false]) ∧ Below w.heap.size w w' := by
  obtain ⟨V, hV⟩ : ∃ V, V = (w.alloc (.cells #[.string num, .string den] 23)).alloc (.cells #[.bool false, .slice none 0 0, .slice none 0 0] 98) := ⟨_, rfl⟩
  have HS : Hid (RS w V (.string num) (.string den)) := by rw [hV]; exact RS.first _ _ _
  have HV := hide hV
  have HC68 := hide (hc V)
  have HR1 := hide (h1 V)
  have HR2 := hide (h2 V)
  clear hc h1 h2
  have hS := (unhide HS).r.store (.bool false) (.slice none 0 0) (.slice none 0 0)
  have hb : Below w.heap.size w (store3 V (w.heap.size + 1) (.bool false) (.slice none 0 0) (.slice none 0 0)) := below_store3 (unhide HS).below (by omega) _ _ _
  have HU := hide hS
  have HB := hide hb
  clear hS hb
  go_enter Tryz.func71, Tryz.ntmps71
  go_upto_region 1 with fail
  rw [← unhide HV]
  clear hV HV
  have t0 := (unhide HS).a.c0; have t1 := (unhide HS).a.c1
  have r0 := (unhide HS).r.c0; have q1 := (unhide HS).r.c1; have q2 := (unhide HS).r.c2; have rf0 := (unhide HS).r.f0; have rf1 := (unhide HS).r.f1; have rf2 := (unhide HS).r.f2
  cases r1 <;> cases r2 <;> cases b <;> cases e1 <;> cases e2 <;> first
    | (exact absurd h (by decide))
    | (clear h
       go_wp2_with (first
         | (go_at_call 87; go_must (refine (unhide HC68).mono ?_; rintro e w1 ⟨rfl, hw1⟩; obtain rfl : V = w1 := hw1.symm))
         | (go_at_call_of 88 (Value.string ds); go_must (refine (unhide HR1).mono ?_; rintro e w1 ⟨rfl, hw1⟩; obtain rfl : V = w1 := hw1.symm))
         | (go_at_call 88; go_must (refine (unhide HR2).mono ?_; rintro e w1 ⟨rfl, hw1⟩; obtain rfl : V = w1 := hw1.symm)))
       have u0 := (unhide HU).c0; have u1 := (unhide HU).c1; have u2 := (unhide HU).c2
       exact bodyPost_ret (v := .tuple #[zeroF, .bool false]) (w := store3 V (w.heap.size + 1) (.bool false) (.slice none 0 0) (.slice none 0 0)) (by simp [results, Tryz.results71, go_sem, u0, u1, u2, zeroF]) rfl ⟨rfl, unhide HB⟩)
theorem digT_size (s : ByteArray) : (digT s).size ≤ s.size := by
  rw [← list_len, ← list_len, digT_list]
  split
  · simp
  · exact Nat.le_refl _
/-- What Read answers where the texts are no right number. -/
theorem read_no (num den : ByteArray) (w : World) (hs1 : num.size ≤ maxLen) (hs2 : den.size ≤ maxLen) (h : ¬ RightT num den) :
    Calls Tryz.prog 71 #[.agg #[.string num, .string den]] w fun r w' => r = .returned (.tuple #[zeroF, .bool false]) ∧ Below w.heap.size w w' := by
  have hc := fun W => cutSign_any num W
  have h1 := fun W => right_any (digT num) W (Nat.le_trans (digT_size num) hs1)
  have h2 := fun W => right_any den W hs2
  by_cases hok : (!(Cub.rightB (digT num).data.toList) || !(Cub.rightB den.data.toList) || (isNeg num && ((digT num).toList == [48])) || (den.toList == [48])) = true
  · exact read_early num den (digT num) (isNeg num) _ _ _ _ w hc h1 h2 rfl rfl hok
  · simp only [Bool.or_eq_true, Bool.not_eq_true', Bool.and_eq_true, not_or, Bool.not_eq_false, not_and] at hok
    obtain ⟨⟨⟨k1, k2⟩, k3⟩, k4⟩ := hok
    obtain ⟨n, hn, e1⟩ := tb_of k1
    obtain ⟨d, hd, e2⟩ := tb_of k2
    have e3 := sT_of num n e1
    rw [e1, tb_eq48 n hn] at k3
    rw [e2, tb_eq48 d hd] at k4
    have hd0 : d ≠ 0 := by simpa using k4
    have hb0 : isNeg num = true → n ≠ 0 := fun hb => by simpa using k3 hb
    exact read_gcd num den (isNeg num) n d w e3 e2 hn hd hb0 hd0 (fun hg => h ⟨_, n, d, e3, e2, hn, hd, ⟨by omega, hg, hb0⟩⟩)
theorem byte_45 (c : UInt8) : ((c.toNat : Int) = 45) ↔ c = 45 := by
  constructor
  · intro h
    have : c.toNat = 45 := by omega
    rw [← Cub.ofNat_toNat c, this]; rfl
  · intro h; subst h; rfl
theorem ext1 (s : ByteArray) : (s.extract 1 s.size).data.toList = s.data.toList.tail := by
  rw [ByteArray.data_extract, Array.toList_extract, List.extract_eq_take_drop]
  have h1 : s.size = s.data.toList.length := (list_len s).symm
  rw [h1]
  cases s.data.toList with
  | nil => rfl
  | cons a t => simp
theorem neg_form (num : ByteArray) : (isNeg num = true ∧ 0 < num.size ∧ num.toList.isEmpty = false ∧ (∀ h : 0 < num.size, (num[0].toNat : Int) = 45) ∧ num.extract 1 num.size = digT num) ∨ (isNeg num = false ∧ digT num = num ∧ (num.toList.isEmpty = true ∨ (0 < num.size ∧ num.toList.isEmpty = false ∧ ∀ h : 0 < num.size, ((num[0].toNat : Int) == 45) = false))) := by
  rcases Nat.eq_zero_or_pos num.size with hz | hp
  · right
    have hl : num.data.toList = [] := by rw [← List.length_eq_zero_iff, list_len]; exact hz
    have hn : isNeg num = false := by unfold isNeg; rw [hl]; rfl
    exact ⟨hn, by unfold digT; rw [if_neg (by rw [hn]; decide)], Or.inl (empty_of num hz)⟩
  · have hh := list_head num hp
    by_cases hn : isNeg num = true
    · left
      have h45 : num[0] = 45 := by unfold isNeg at hn; rw [hh] at hn; simpa using hn
      refine ⟨hn, hp, not_empty_of num hp, fun _ => (byte_45 _).2 h45, ?_⟩
      apply bytes_ext
      rw [ext1, digT_list, if_pos hn]
    · right
      have hn' : isNeg num = false := by simpa using hn
      refine ⟨hn', by unfold digT; rw [if_neg hn], Or.inr ⟨hp, not_empty_of num hp, fun _ => ?_⟩⟩
      rw [beq_eq_false_iff_ne]
      intro e
      apply hn
      unfold isNeg
      rw [hh, (byte_45 _).1 e]; rfl
theorem spl_of (num : ByteArray) : Spl num (digT num) (isNeg num) := by
  rcases neg_form num with ⟨h1, h2, _, h4, h5⟩ | ⟨h1, h2, h3 | ⟨h3, _, h5⟩⟩
  · exact Or.inl ⟨h1, h2, h4, h5⟩
  · refine Or.inr (Or.inr ⟨h1, h2, ?_⟩)
    rcases Nat.eq_zero_or_pos num.size with hz | hp
    · exact hz
    · rw [not_empty_of num hp] at h3; cases h3
  · exact Or.inr (Or.inl ⟨h1, h2, h3, h5⟩)
theorem tx_eq49 (g : Nat) : ((tx g).toList == [49]) = decide (g = 1) := by
  rw [show ([49] : List UInt8) = (⟨#[49]⟩ : ByteArray).toList by decide +kernel, toList_same _ _ (tx_nat g) ((Cub.natB_iff _).1 (by decide +kernel))]
  have h1 : Cub.dval (tx g).data.toList = g := tx_val g
  have h2 : Cub.dval (⟨#[49]⟩ : ByteArray).data.toList = 1 := by decide
  rw [h1, h2]
theorem of_ok (num den : ByteArray) (b : Bool) (n d : Nat) (w : World) (hs1 : num.size ≤ maxLen) (hs2 : den.size ≤ maxLen) (h : RT num den b n d) :
    Calls Tryz.prog 33 #[.agg #[.string num, .string den]] w fun r w' => r = .returned (.tuple #[.agg #[.bool b, .string (tx n), .string (tx d)], .bool true]) ∧ Below w.heap.size w w' := by
  obtain ⟨D, hD⟩ : ∃ D, D = 600 := ⟨_, rfl⟩
  have hn := h.hn; have hd := h.hd
  rw [← hD] at hn hd
  have e1 : digT num = tx n := by rw [h.num, dig_sT _ _ h.hn, tx_tb _ h.hn]
  have e2 : isNeg num = b := by rw [h.num]; exact neg_sT _ _ h.hn
  have e3 : den = tx d := by rw [h.den, tx_tb _ h.hd]
  have hs := spl_of num
  rw [e1, e2] at hs
  have r1 : Cub.rightB (tx n).data.toList = true := by rw [← tx_tb _ h.hn]; exact (tb_right n h.hn).1
  have r2 : Cub.rightB (tx d).data.toList = true := by rw [← tx_tb _ h.hd]; exact (tb_right d h.hd).1
  have z1 : ((tx n).toList == [48]) = (n == 0) := by rw [← tx_tb _ h.hn]; exact tb_eq48 n h.hn
  have z2 : ((tx d).toList == [48]) = (d == 0) := by rw [← tx_tb _ h.hd]; exact tb_eq48 d h.hd
  have hl := h.low
  have hcop : Nat.gcd n d = 1 := hl.cop
  have hp : 0 < d := hl.pos
  subst e3
  refine of_late num (tx d) (tx n) (tx (Nat.gcd n d)) b true true (n == 0) (d == 0) w (Nat.le_trans hs1 (by unfold maxLen; omega)) hs z1 z2
    (fun W => by have := refRight_any (tx n) W (Nat.le_trans (tx_size (by omega) hn) (by unfold maxLen; omega)); rwa [r1] at this) (fun W => by have := refRight_any (tx d) W hs2; rwa [r2] at this)
    ⟨rfl, rfl, by rw [beq_eq_false_iff_ne]; omega, ?_⟩ true (by rw [tx_eq49, hcop]; rfl) (fun W => refCommonM D n d W (by omega) (by omega) hn hd)
  cases hb : b
  · exact Or.inl rfl
  · right; rw [beq_eq_false_iff_ne]; exact hl.sign hb
theorem of_no (num den : ByteArray) (w : World) (hs1 : num.size ≤ maxLen) (hs2 : den.size ≤ maxLen) (h : ¬ RightT num den) :
    Calls Tryz.prog 33 #[.agg #[.string num, .string den]] w fun r w' => (∃ (b : Bool) (s t : ByteArray), r = .returned (.tuple #[.agg #[.bool b, .string s, .string t], .bool false])) ∧ Below w.heap.size w w' := by
  have hs := spl_of num
  have h1 := fun W => refRight_any (digT num) W (Nat.le_trans (digT_size num) hs1)
  have h2 := fun W => refRight_any den W hs2
  have hm : num.size ≤ 9223372036854775807 := Nat.le_trans hs1 (by unfold maxLen; omega)
  by_cases hok : Cub.rightB (digT num).data.toList = true ∧ Cub.rightB den.data.toList = true ∧ (den.toList == [48]) = false ∧ (isNeg num = false ∨ ((digT num).toList == [48]) = false)
  · obtain ⟨k1, k2, k4, k3⟩ := hok
    obtain ⟨n, hn, e1⟩ := tb_of k1
    obtain ⟨d, hd, e2⟩ := tb_of k2
    have e3 := sT_of num n e1
    have k3' := k3; have k4' := k4
    rw [e1, tb_eq48 n hn, beq_eq_false_iff_ne] at k3'
    rw [e2, tb_eq48 d hd, beq_eq_false_iff_ne] at k4'
    obtain ⟨D, hD⟩ : ∃ D, D = 600 := ⟨_, rfl⟩
    have hn' := hn; have hd' := hd
    rw [← hD] at hn' hd'
    have g1 : digT num = tx n := by rw [e1, tx_tb _ hn]
    have g2 : den = tx d := by rw [e2, tx_tb _ hd]
    have hg : Nat.gcd n d ≠ 1 := fun hg => h ⟨isNeg num, n, d, e3, e2, hn, hd, ⟨by omega, hg, fun hb => by
      rcases k3' with k | k
      · rw [k] at hb; cases hb
      · exact k⟩⟩
    rw [k1] at h1; rw [k2] at h2
    refine (of_late num den (digT num) (tx (Nat.gcd n d)) (isNeg num) true true _ _ w hm hs rfl rfl h1 h2 ⟨rfl, rfl, k4, k3⟩ false (by rw [tx_eq49]; exact decide_eq_false hg) (fun W => by rw [g1, g2]; exact refCommonM D n d W (by omega) (by omega) hn' hd')).mono ?_
    rintro e w' ⟨he, hb⟩
    exact ⟨⟨_, _, _, he⟩, hb⟩
  · refine (of_early num den (digT num) (isNeg num) _ _ _ _ w hm hs rfl rfl h1 h2 ?_).mono ?_
    · generalize Cub.rightB (digT num).data.toList = r1 at *
      generalize Cub.rightB den.data.toList = r2 at *
      generalize (den.toList == [48]) = z2 at *
      generalize ((digT num).toList == [48]) = z1 at *
      generalize isNeg num = b at *
      revert hok
      cases r1 <;> cases r2 <;> cases z2 <;> cases z1 <;> cases b <;> simp
    · rintro e w' ⟨he, hb⟩
      exact ⟨⟨_, _, _, he⟩, hb⟩
attribute [local go_sem] run_bits run_from
theorem near_zero (sa sb : ByteArray) (w : World) (h0 : (sa.toList == [48]) = true) : Calls Tryz.prog 34 #[.agg #[.bool false, .string sa, .string sb]] w fun r w' => r = .returned (.tuple #[.int .u64 0, .bool true]) ∧ Below w.heap.size w w' := by
  obtain ⟨V, hV⟩ : ∃ V, V = w.alloc (.cells #[.bool false, .string sa, .string sb] 56) := ⟨_, rfl⟩
  have HX : Hid (FBox V w.heap.size (.bool false) (.string sa) (.string sb)) := by rw [hV]; exact ⟨by simp [go_sem], by simp [go_sem], by simp [go_sem], by simp [go_sem], by simp [go_sem], by simp [go_sem]⟩
  have HB : Hid (Below w.heap.size w V) := by rw [hV]; exact (Below.refl _ _).alloc (Nat.le_refl _) _
  have HV := hide hV
  clear hV
  go_enter Tryz.func34, Tryz.ntmps34
  go_upto_region 1 with fail
  rw [← unhide HV]
  clear HV
  have c0 := (unhide HX).c0; have c1 := (unhide HX).c1; have c2 := (unhide HX).c2
  go_wp2_with fail
  exact bodyPost_ret (v := .tuple #[.int .u64 0, .bool true]) (by simp [results, Tryz.results34, go_sem]) rfl ⟨rfl, unhide HB⟩
theorem sz_ex (A B : Nat) (hi : scA A 5053 < scB B 5053) : ∃ x, SzInv A B x x := by
  have key : ∀ k : Nat, ∀ y : Int, y = -1074 + (k : Int) → y ≤ 5000 → scA A (y + 53) < scB B (y + 53) → ∃ x, SzInv A B x x := by
    intro k
    induction k with
    | zero => intro y hy h5 h; exact ⟨y, h, fun e h1 h2 => by omega, by omega, Int.le_refl _, h5⟩
    | succ k ih =>
      intro y hy h5 h
      by_cases hp : scA A (y - 1 + 53) < scB B (y - 1 + 53)
      · exact ih (y - 1) (by omega) (by omega) hp
      · exact ⟨y, h, fun e _ h2 hq => hp (below_mono A B (e + 53) (y - 1 + 53) (by omega) hq), by omega, Int.le_refl _, h5⟩
  exact key 6074 5000 (by decide) (by decide) hi
/-- What near answers for a right number. -/
def NearV (b : Bool) (n d : Nat) (v : Value) : Prop := (n = 0 ∧ v = .tuple #[.int .u64 0, .bool true]) ∨ (0 < n ∧ ∃ x, SzInv n d x x ∧ v = nearB (if b then 9223372036854775808 else 0) n d x)
theorem packB_shape (sg : Nat) (x : Int) (m : Nat) : ∃ (u : Nat) (ok : Bool), packB sg x m = .tuple #[.int .u64 (u : Nat), .bool ok] := by
  unfold packB
  simp only
  generalize (if m = 9007199254740992 then x + 1 else x) = y
  generalize (if m = 9007199254740992 then 4503599627370496 else m) = k
  split
  · exact ⟨0, false, rfl⟩
  · split
    · exact ⟨_, true, rfl⟩
    · exact ⟨_, true, rfl⟩
theorem nearB_shape (sg A B : Nat) (x : Int) : ∃ (u : Nat) (ok : Bool), nearB sg A B x = .tuple #[.int .u64 (u : Nat), .bool ok] := by
  unfold nearB
  split
  · exact ⟨0, false, rfl⟩
  · exact packB_shape _ _ _
theorem pow600_two (K T : Nat) (hT : T = 4 * K + 1) : (10 : Nat) ^ K < 2 ^ T := by
  have h1 : (10 : Nat) ^ K ≤ 16 ^ K := Nat.pow_le_pow_left (by decide) K
  have h2 : (16 : Nat) ^ K = 2 ^ (4 * K) := by rw [Nat.pow_mul]
  rw [h2] at h1
  exact Nat.lt_of_le_of_lt h1 (Nat.pow_lt_pow_right (by decide) (by omega))
theorem near_rt (b : Bool) (n d : Nat) (w : World) (hn : n < 10 ^ 600) (hd : d < 10 ^ 600) (hl : Cub.Low b n d) :
    Calls Tryz.prog 34 #[.agg #[.bool b, .string (tx n), .string (tx d)]] w fun r w' => (∃ (u : Nat) (ok : Bool), NearV b n d (.tuple #[.int .u64 (u : Nat), .bool ok]) ∧ r = .returned (.tuple #[.int .u64 (u : Nat), .bool ok])) ∧ Below w.heap.size w w' := by
  rcases Nat.eq_zero_or_pos n with h0 | h0
  · subst h0
    have hb : b = false := by
      cases hb : b
      · rfl
      · exact absurd rfl (hl.sign hb)
    subst hb
    have h48 : ((tx 0).toList == [48]) = true := by rw [← tx_tb 0 hn, tb_eq48 0 hn]; rfl
    refine (near_zero (tx 0) (tx d) w h48).mono ?_
    rintro e w' ⟨rfl, hb⟩
    exact ⟨⟨0, true, Or.inl ⟨rfl, rfl⟩, rfl⟩, hb⟩
  · obtain ⟨K, hK⟩ : ∃ K, K = 600 := ⟨_, rfl⟩
    obtain ⟨D, hD⟩ : ∃ D, D = 4000 := ⟨_, rfl⟩
    have hp6 := pow600_two K (4 * K + 1) rfl
    rw [← hK] at hn hd
    have hdp : 0 < d := hl.pos
    have hKD : 10 ^ K ≤ 10 ^ D := Nat.pow_le_pow_right (by decide) (by omega)
    have hR : Rng n d D := ⟨by omega, by omega, Nat.lt_of_lt_of_le hn hKD, Nat.lt_of_lt_of_le hd hKD, fun m _ => pow2_lt m D (by omega)⟩
    have hmul : ∀ (m e : Nat), m < 10 ^ K → e ≤ 1100 → m * 2 ^ e < 10 ^ D := fun m e hm he => by
      have h2 := pow2_lt e 400 (by omega)
      obtain ⟨L, hL⟩ : ∃ L, L = 400 := ⟨_, rfl⟩
      rw [← hL] at h2
      have h3 := Nat.mul_lt_mul'' hm h2
      rw [← Nat.pow_add] at h3
      exact Nat.lt_of_lt_of_le h3 (Nat.pow_le_pow_right (by decide) (by omega))
    have hsc : ∀ e : Int, -1074 ≤ e → e ≤ 971 → scA n e < 10 ^ D ∧ scB d e < 10 ^ D := fun e h1 h2 => ⟨hmul n _ hn (by omega), hmul d _ hd (by omega)⟩
    have hi : scA n 5053 < scB d 5053 := by
      unfold scA scB
      have e1 : (-(5053 : Int)).toNat = 0 := by decide
      have e2 : ((5053 : Int)).toNat = 5053 := by decide
      obtain ⟨T, hT⟩ : ∃ T, T = 5053 := ⟨_, rfl⟩
      rw [e1, e2, Nat.pow_zero, Nat.mul_one, ← hT]
      have h1 : n < 2 ^ T := Nat.lt_of_lt_of_le (Nat.lt_trans hn hp6) (Nat.pow_le_pow_right (by decide) (by omega))
      exact Nat.lt_of_lt_of_le h1 (Nat.le_mul_of_pos_left _ hdp)
    obtain ⟨x, hx⟩ := sz_ex n d hi
    obtain ⟨u, ok, hu⟩ := nearB_shape (if b then 9223372036854775808 else 0) n d x
    refine (near_any b n d D x w hR h0 hdp hsc hi hx).mono ?_
    rintro e w' ⟨rfl, hb⟩
    rw [hu]
    exact ⟨⟨u, ok, Or.inr ⟨h0, x, hx, hu.symm⟩, rfl⟩, hb⟩
end Go.Proofs.YtijifpbpjinmhaaGreatDoor
namespace Go.Proofs.YtijifpbpjinmhaaGreatDoor
open Go.RowKit
attribute [local go_sem] run_bits run_from
theorem refNear_no (num den : ByteArray) (w : World) (hs1 : num.size ≤ maxLen) (hs2 : den.size ≤ maxLen) (h : ¬ RightT num den) :
    Calls Tryz.prog 11 #[.agg #[.string num, .string den]] w fun r w' => r = .returned (.tuple #[.float .f64 0, .int .i64 3]) ∧ Below w.heap.size w w' := by
  obtain ⟨V, hV⟩ : ∃ V, V = w.alloc (.cells #[.string num, .string den] 23) := ⟨_, rfl⟩
  have HX : Hid (T2 V w.heap.size (.string num) (.string den)) := by rw [hV]; exact ⟨by simp [go_sem], by simp [go_sem], by simp [go_sem], by simp [go_sem]⟩
  have HB : Hid (Below w.heap.size w V) := by rw [hV]; exact (Below.refl _ _).alloc (Nat.le_refl _) _
  have HO := hide (fun W => of_no num den W hs1 hs2 h)
  have HV := hide hV
  clear hV
  go_enter Tryz.func11, Tryz.ntmps11
  go_upto_region 1 with fail
  rw [← unhide HV]
  clear HV
  have c0 := (unhide HX).c0; have c1 := (unhide HX).c1
  go_wp2_with (go_at_call 33; refine (unhide HO _).mono ?_; rintro e w1 ⟨⟨b, s, t, rfl⟩, hb⟩; have HB1 : Hid (Below w.heap.size w (w1.alloc (.cells #[.bool b, .string s, .string t] 56))) := ((unhide HB).trans (hb.mono (Nat.le_of_lt (unhide HX).lt))).alloc (Nat.le_trans (Nat.le_of_lt (unhide HX).lt) hb.size) _; clear hb)
  exact bodyPost_ret (v := .tuple #[.float .f64 0, .int .i64 3]) (by simp [results, Tryz.results11, go_sem]) rfl ⟨rfl, unhide HB1⟩
theorem refNear_ok (num den : ByteArray) (b : Bool) (n d : Nat) (w : World) (hs1 : num.size ≤ maxLen) (hs2 : den.size ≤ maxLen) (h : RT num den b n d) :
    Calls Tryz.prog 11 #[.agg #[.string num, .string den]] w fun r w' => (∃ (u : Nat) (ok : Bool), NearV b n d (.tuple #[.int .u64 (u : Nat), .bool ok]) ∧ r = .returned (if ok then .tuple #[.float .f64 u, .int .i64 0] else .tuple #[.float .f64 0, .int .i64 31])) ∧ Below w.heap.size w w' := by
  obtain ⟨V, hV⟩ : ∃ V, V = w.alloc (.cells #[.string num, .string den] 23) := ⟨_, rfl⟩
  have HX : Hid (T2 V w.heap.size (.string num) (.string den)) := by rw [hV]; exact ⟨by simp [go_sem], by simp [go_sem], by simp [go_sem], by simp [go_sem]⟩
  have HB : Hid (Below w.heap.size w V) := by rw [hV]; exact (Below.refl _ _).alloc (Nat.le_refl _) _
  have HO := hide (fun W => of_ok num den b n d W hs1 hs2 h)
  have HN := hide (fun W => near_rt b n d W h.hn h.hd h.low)
  have HV := hide hV
  clear hV h
  generalize tx n = sn at *
  generalize tx d = sd at *
  go_enter Tryz.func11, Tryz.ntmps11
  go_upto_region 1 with fail
  rw [← unhide HV]
  clear HV
  have c0 := (unhide HX).c0; have c1 := (unhide HX).c1
  go_upto_region 2 with (go_at_call 33; refine (unhide HO _).mono ?_; rintro e w1 ⟨rfl, hb⟩; have HB1 : Hid (Below w.heap.size w w1) := (unhide HB).trans (hb.mono (Nat.le_of_lt (unhide HX).lt)); clear hb)
  obtain ⟨Y, hY⟩ : ∃ Y, Y = w1.alloc (.cells #[.bool b, .string sn, .string sd] 56) := ⟨_, rfl⟩
  have HF : Hid (FBox Y w1.heap.size (.bool b) (.string sn) (.string sd)) := by rw [hY]; exact ⟨by simp [go_sem], by simp [go_sem], by simp [go_sem], by simp [go_sem], by simp [go_sem], by simp [go_sem]⟩
  have hby : Below w1.heap.size w1 Y := by rw [hY]; exact (Below.refl _ _).alloc (Nat.le_refl _) _
  have HB2 : Hid (Below w.heap.size w Y) := (unhide HB1).trans (hby.mono (unhide HB1).size)
  try rw [← hY]
  clear hY hby HB1 c0 c1
  generalize w1.heap.size = g at *
  have c0 := (unhide HF).c0; have c1 := (unhide HF).c1; have c2 := (unhide HF).c2
  go_upto_region 5 with (go_at_call 34; refine (unhide HN _).mono ?_; rintro e w2 ⟨⟨u, ok, hv, rfl⟩, hb⟩; have HNV := hide hv; have HB3 : Hid (Below w.heap.size w w2) := (unhide HB2).trans (hb.mono (unhide HB2).size); clear hb hv)
  cases ok
  · go_wp2_with fail
    exact bodyPost_ret (v := .tuple #[.float .f64 0, .int .i64 31]) (by simp [results, Tryz.results11, go_sem]) rfl ⟨⟨u, false, unhide HNV, rfl⟩, unhide HB3⟩
  · go_wp2_with fail
    exact bodyPost_ret (v := .tuple #[.float .f64 u, .int .i64 0]) (by simp [results, Tryz.results11, go_sem]) rfl ⟨⟨u, true, unhide HNV, rfl⟩, unhide HB3⟩
end Go.Proofs.YtijifpbpjinmhaaGreatDoor

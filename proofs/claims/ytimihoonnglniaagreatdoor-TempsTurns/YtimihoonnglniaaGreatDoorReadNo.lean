/- rat.Read where the texts are no right number. -/
import Derived.Test.YtimihoonnglniaaGreatDoorScale
import Derived.Test.YtimihoonnglniaaGreatDoorTell
namespace Go.Proofs.YtimihoonnglniaaGreatDoor
open Go.RowKit
set_option maxRecDepth 100000 in
set_option maxHeartbeats 4000000 in
theorem fahrenheit_made : MadeS 91 5 9 229835 900 := by
  intro w
  obtain ⟨V, hV⟩ : ∃ V, V = w.alloc (.cells #[.int .i64 0, .int .i64 0, .int .i64 0, .int .i64 0] 98) := ⟨_, rfl⟩
  have HR : Hid (T4 V w.heap.size (.int .i64 0) (.int .i64 0) (.int .i64 0) (.int .i64 0)) := by rw [hV]; exact ⟨by simp [go_sem], by simp [go_sem], by simp [go_sem], by simp [go_sem], by simp [go_sem], by simp [go_sem], by simp [go_sem], by simp [go_sem]⟩
  have HB : Hid (Below w.heap.size w V) := by rw [hV]; exact (Below.refl _ _).alloc (Nat.le_refl _) _
  have HV := hide hV
  clear hV
  have HM1 := hide rankine_made; have HM2 := hide celsius_made
  unfold MadeS at HM1 HM2
  go_enter Tryz.func91, Tryz.ntmps91
  go_upto_region 1 with fail
  rw [← unhide HV]
  clear HV
  go_upto_region 2 with (first
    | (go_at_call 89; go_must (refine (unhide HM1 _).mono ?_; rintro e w1 ⟨rfl, hb1⟩; have HB1 := hide hb1; clear hb1))
    | (go_at_call 90; go_must (refine (unhide HM2 _).mono ?_; rintro e w2 ⟨rfl, hb2⟩; have HB2 : Hid (Below V.heap.size V w2) := (unhide HB1).trans (hb2.mono (unhide HB1).size); clear hb2)))
  obtain ⟨U, hU⟩ : ∃ U, U = (w2.alloc (.cells #[.int .i64 5, .int .i64 9, .int .i64 0, .int .i64 1] 98)).alloc (.cells #[.int .i64 1, .int .i64 1, .int .i64 27315, .int .i64 100] 98) := ⟨_, rfl⟩
  have HU1 : Hid (T4 U w2.heap.size (.int .i64 5) (.int .i64 9) (.int .i64 0) (.int .i64 1)) := by rw [hU]; exact ⟨by simp [go_sem], by simp [go_sem], by simp [go_sem], by simp [go_sem], by simp [go_sem], by simp [go_sem], by simp [go_sem], by simp [go_sem]⟩
  have HU2 : Hid (T4 U (w2.heap.size + 1) (.int .i64 1) (.int .i64 1) (.int .i64 27315) (.int .i64 100)) := by rw [hU]; exact ⟨by simp [go_sem], by simp [go_sem], by simp [go_sem], by simp [go_sem], by simp [go_sem], by simp [go_sem], by simp [go_sem], by simp [go_sem]⟩
  have HBU : Hid (Below V.heap.size V U) := by rw [hU]; exact ((unhide HB2).alloc (unhide HB2).size _).alloc (by have h := (unhide HB2).size; simp; omega) _
  rw [← hU]
  clear hU
  generalize w2.heap.size = g1 at *
  have HRU := hide ((unhide HR).later (unhide HBU))
  have HBW : Hid (Below w.heap.size w U) := (unhide HB).trans ((unhide HBU).mono (unhide HB).size)
  have a0 := (unhide HU1).c0; have a1 := (unhide HU1).c1; have a2 := (unhide HU1).c2; have a3 := (unhide HU1).c3
  have b0 := (unhide HU2).c0; have b1 := (unhide HU2).c1; have b2 := (unhide HU2).c2; have b3 := (unhide HU2).c3
  go_region_held3 (fun w' => w'.cell? ⟨g1, 0, none⟩ = some (.int .i64 5) ∧ w'.cell? ⟨g1, 1, none⟩ = some (.int .i64 9) ∧ w'.cell? ⟨g1, 2, none⟩ = some (.int .i64 0) ∧ w'.cell? ⟨g1, 3, none⟩ = some (.int .i64 1) ∧ w'.cell? ⟨g1 + 1, 0, none⟩ = some (.int .i64 1) ∧ w'.cell? ⟨g1 + 1, 1, none⟩ = some (.int .i64 1) ∧ w'.cell? ⟨g1 + 1, 2, none⟩ = some (.int .i64 27315) ∧ w'.cell? ⟨g1 + 1, 3, none⟩ = some (.int .i64 100)) (first | assumption | (simp [go_sem, *]; done)) (fail)
  all_goals
    have HSS : Hid (∀ W, Below U.heap.size U W → W.cell? ⟨g1, 0, none⟩ = some (.int .i64 5) ∧ W.cell? ⟨g1, 1, none⟩ = some (.int .i64 9)) := fun W hb => by
      have h1 := (unhide HU1).later hb
      exact ⟨h1.c0, h1.c1⟩
    have HS0 := hide (unhide HSS U.drew.drew ((Below.refl _ _).drew.drew))
    go_upto_region 3 with fail
    refine region_reads 10 (fun W => W.cell? ⟨g1, 0, none⟩ = some (.int .i64 5) ∧ W.cell? ⟨g1, 1, none⟩ = some (.int .i64 9)) (fun _ => True) 11 rfl (by kernel_rfl) ?_
    refine wpR_take (i := 0) (oi := _) (v := .pointer (some ⟨g1, 0, none⟩)) rfl (by kernel_rfl) (by kernel_rfl) (by kernel_rfl) (by kernel_rfl) (fun _ _ _ h => h) (Or.inl ⟨by rfl, ?_⟩) ⟨unhide HS0, trivial⟩ ?_
    · intro W hW
      go_split_ands
      go_simp
    refine wpR_take (i := 1) (oi := _) (v := .agg #[.int .i64 5, .int .i64 9]) rfl (by kernel_rfl) (by kernel_rfl) (by kernel_rfl) (by kernel_rfl) (fun _ _ _ h => h) (Or.inl ⟨by rfl, ?_⟩) ⟨unhide HS0, trivial⟩ ?_
    · intro W hW
      go_split_ands
      go_simp
    refine wpR_take (i := 2) (oi := _) (v := .func (.func 104) #[.agg #[.int .i64 1, .int .i64 1, .int .i64 27315, .int .i64 100]] #[]) rfl (by kernel_rfl) (by kernel_rfl) (by kernel_rfl) (by kernel_rfl) (fun _ _ _ h => h) (Or.inl ⟨by rfl, ?_⟩) ⟨unhide HS0, trivial⟩ ?_
    · intro W hW
      go_split_ands
      go_simp
    refine wpR_take (i := 3) (oi := _) (v := .agg #[.int .i64 0, .int .i64 1]) rfl (by kernel_rfl) (by kernel_rfl) (by kernel_rfl) (by kernel_rfl) (fun _ _ _ h => h) (Or.inl ⟨by rfl, ?_⟩) ⟨unhide HS0, trivial⟩ ?_
    · intro W hW
      go_split_ands
      go_simp
    refine wpR_take (i := 5) (oi := _) (v := .func (.func 104) #[.agg #[.int .i64 5, .int .i64 9, .int .i64 0, .int .i64 1]] #[]) rfl (by kernel_rfl) (by kernel_rfl) (by kernel_rfl) (by kernel_rfl) (fun _ _ _ h => h) (Or.inl ⟨by rfl, ?_⟩) ⟨unhide HS0, trivial⟩ ?_
    · intro W hW
      go_split_ands
      go_simp
    refine wpR_take (i := 6) (oi := _) (v := .agg #[.int .i64 32, .int .i64 1]) rfl (by kernel_rfl) (by kernel_rfl) (by kernel_rfl) (by kernel_rfl) (fun _ _ _ h => h) (Or.inl ⟨by rfl, ?_⟩) ⟨unhide HS0, trivial⟩ ?_
    · intro W hW
      go_split_ands
      go_simp
    refine wpR_op (i := 4) (o := _) (by kernel_rfl) rfl rfl (fun K hK => ?_)
    go_simp
    refine (kelvins_c _).mono ?_
    rintro e wa ⟨rfl, hbwa⟩
    have HBwa : Hid (Below U.heap.size U wa) := ((Below.refl U.heap.size U).drew.drew).trans (hbwa.mono ((Below.refl U.heap.size U).drew.drew).size)
    have HSwa := hide (unhide HSS wa (unhide HBwa))
    clear hbwa
    refine hK _ _ ⟨unhide HSwa, trivial⟩ ?_
    clear hK K
    refine wpR_op (i := 7) (o := _) (by kernel_rfl) rfl rfl (fun K hK => ?_)
    go_simp
    refine (kelvins_r _).mono ?_
    rintro e wc ⟨rfl, hbwc⟩
    have HBwc : Hid (Below U.heap.size U wc) := (unhide HBwa).trans (hbwc.mono (unhide HBwa).size)
    have HSwc := hide (unhide HSS wc (unhide HBwc))
    clear hbwc
    refine hK _ _ ⟨unhide HSwc, trivial⟩ ?_
    clear hK K
    refine wpR_op (i := 8) (o := _) (by kernel_rfl) rfl rfl (fun K hK => ?_)
    go_simp
    refine (less_f _).mono ?_
    rintro e wd ⟨rfl, hbwd⟩
    have HBwd : Hid (Below U.heap.size U wd) := (unhide HBwc).trans (hbwd.mono (unhide HBwc).size)
    have HSwd := hide (unhide HSS wd (unhide HBwd))
    clear hbwd
    have HT := hide ((unhide HRU).later (unhide HBwd))
    have r0 := (unhide HT).c0; have r1 := (unhide HT).c1; have r2 := (unhide HT).c2; have r3 := (unhide HT).c3; have f0 := (unhide HT).f0; have f1 := (unhide HT).f1; have f2 := (unhide HT).f2; have f3 := (unhide HT).f3
    refine hK _ _ ⟨unhide HSwd, trivial⟩ ?_
    clear hK K
    refine wpR_op (i := 9) (o := _) (by kernel_rfl) rfl rfl (fun K hK => ?_)
    go_simp
    refine hK _ _ ⟨unhide HSwd, trivial⟩ ?_
    clear hK K
    refine wpR_late (i := 10) (o := _) (by kernel_rfl) rfl rfl (by kernel_rfl) (fun K hK => ?_)
    go_simp
    refine hK _ _ trivial ?_
    clear hK K
    refine wpR_done (by kernel_rfl) ?_
    go_wp2_with fail
    have hS := (unhide HT).store (.int .i64 5) (.int .i64 9) (.int .i64 229835) (.int .i64 900)
    have v0 := hS.c0; have v1 := hS.c1; have v2 := hS.c2; have v3 := hS.c3
    exact bodyPost_ret (v := .agg #[.int .i64 5, .int .i64 9, .int .i64 229835, .int .i64 900]) (w := store4 wd w.heap.size (.int .i64 5) (.int .i64 9) (.int .i64 229835) (.int .i64 900)) (by simp [results, Tryz.results91, go_sem, v0, v1, v2, v3]) rfl ⟨rfl, below_store4 ((unhide HBW).trans ((unhide HBwd).mono (unhide HBW).size)) (Nat.le_refl _) _ _ _ _⟩
end Go.Proofs.YtimihoonnglniaaGreatDoor

namespace Go.Proofs.YtimihoonnglniaaGreatDoor
open Go.RowKit

set_option maxRecDepth 100000 in
set_option maxHeartbeats 4000000 in
/-- What Read answers where both texts are numbers. -/
theorem read_gcd (num den : ByteArray) (b : Bool) (n d : Nat) (w : World) (hnum : num = sT b n) (hden : den = tb d) (hn : n < 10 ^ 600) (hd : d < 10 ^ 600) (hb0 : b = true → n ≠ 0) (hd0 : d ≠ 0) (hg : Nat.gcd n d ≠ 1) :
    Calls Tryz.prog 40 #[.agg #[.string num, .string den]] w fun r w' => r = .returned (.tuple #[zeroF, .bool false]) ∧ Below w.heap.size w w' := by
  obtain ⟨V, hV⟩ : ∃ V, V = (w.alloc (.cells #[.string num, .string den] 23)).alloc (.cells #[.bool false, .slice none 0 0, .slice none 0 0] 45) := ⟨_, rfl⟩
  have HS : Hid (RS w V (.string num) (.string den)) := by rw [hV]; exact RS.first _ _ _
  have HV := hide hV
  have HC68 : Hid (Calls Tryz.prog 58 #[.string num] V fun e w' => e = .returned (.tuple #[.bool b, .string (tb n)]) ∧ w' = V) := by
    have := cutSign_any num V
    rw [hnum, neg_sT b n hn, dig_sT b n hn] at this
    rw [hnum]; exact this
  have HR1 : Hid (Calls Tryz.prog 59 #[.string (tb n)] V fun e w' => e = .returned (.bool true) ∧ w' = V) := by
    have := right_any (tb n) V (tb_size n hn)
    rwa [(tb_right n hn).1] at this
  have HR2 : Hid (Calls Tryz.prog 59 #[.string den] V fun e w' => e = .returned (.bool true) ∧ w' = V) := by
    have := right_any (tb d) V (tb_size d hd)
    rw [(tb_right d hd).1] at this
    rw [hden]; exact this
  have z1 : b = true → ((tb n).toList == [48]) = false := fun h => by rw [tb_eq48 n hn, beq_eq_false_iff_ne]; exact hb0 h
  have z2 : (den.toList == [48]) = false := by rw [hden, tb_eq48 d hd, beq_eq_false_iff_ne]; exact hd0
  have HB1 : Hid (∀ W, Calls Tryz.prog 60 #[.string (tb n)] W fun e w' => ∃ v, e = .returned v ∧ IsBig w' v n ∧ Below W.heap.size W w') := fun W => by
    have := bigText_any (tb n) W (by have := (tb_digs n hn).2; omega) (tb_digs n hn).1
    rwa [(tb_right n hn).2] at this
  have HB2 : Hid (∀ W, Calls Tryz.prog 60 #[.string den] W fun e w' => ∃ v, e = .returned v ∧ IsBig w' v d ∧ Below W.heap.size W w') := fun W => by
    have := bigText_any (tb d) W (by have := (tb_digs d hd).2; omega) (tb_digs d hd).1
    rw [(tb_right d hd).2] at this
    rw [hden]; exact this
  have p6 := pow600
  have HLT : Hid (n < 1000000000 ^ 67 ∧ d < 1000000000 ^ 67) := ⟨Nat.lt_of_lt_of_le hn p6, Nat.lt_of_lt_of_le hd p6⟩
  have HG : Hid (∀ W x y, IsBig W x n → IsBig W y d → Calls Tryz.prog 61 #[x, y] W fun e w' => ∃ a l c, e = .returned (.agg #[.slice a l c]) ∧ IsBig w' (.agg #[.slice a l c]) (Nat.gcd n d) ∧ Below W.heap.size W w') := fun W x y h1 h2 => gcdAns 67 (by decide) W x y n d h1 h2 (unhide HLT).1 (unhide HLT).2
  obtain ⟨gg, hgg⟩ : ∃ gg, gg = Nat.gcd n d := ⟨_, rfl⟩
  rw [← hgg] at HG hg
  have H1 : Hid (∀ W x, IsBig W x gg → Calls Tryz.prog 62 #[x] W fun e w' => e = .returned (.bool false) ∧ Below W.heap.size W w') := fun W x h => by
    have := isOne_any x gg W h
    rwa [show (gg == 1) = false by rw [beq_eq_false_iff_ne]; exact hg] at this
  clear hgg
  clear p6 hn hd hb0 hd0 hg hnum hden
  generalize tb n = ds at *
  go_enter Tryz.func40, Tryz.ntmps40
  go_upto_region 1 with fail
  rw [← unhide HV]
  clear hV HV
  have t0 := (unhide HS).a.c0; have t1 := (unhide HS).a.c1
  have HGOAL : True := trivial
  cases b with
  | true =>
    have z3 := z1 rfl
    go_upto_region 4 with (first
      | (go_at_call 58; go_must (refine (unhide HC68).mono ?_; rintro e w1 ⟨rfl, hw1⟩; obtain rfl : V = w1 := hw1.symm))
      | (go_at_call_of 59 (Value.string ds); go_must (refine (unhide HR1).mono ?_; rintro e w1 ⟨rfl, hw1⟩; obtain rfl : V = w1 := hw1.symm))
      | (go_at_call 59; go_must (refine (unhide HR2).mono ?_; rintro e w1 ⟨rfl, hw1⟩; obtain rfl : V = w1 := hw1.symm)))
    have HC : Hid (∀ U, Below V.heap.size V U → U.cell? ⟨w.heap.size, 1, none⟩ = some (.string den) ∧ w.heap.size < U.heap.size ∧ w.heap.size + 1 < U.heap.size) := fun U hb => by
      have s := (unhide HS).later hb
      exact ⟨s.a.c1, s.a.lt, s.r.lt⟩
    have zv := (unhide HC V (Below.refl _ _)).2
    clear t0
    go_region_held3 (fun w' => w'.cell? ⟨w.heap.size, 1, none⟩ = some (.string den)) (first | assumption | (simp [go_sem, *]; done) | (rw [World.cell?_setCell_other _ _ _ _ (by simp; omega), World.cell?_setCell_other _ _ _ _ (by simp; omega), World.cell?_setCell_other _ _ _ _ (by simp; omega)]; assumption)) ((first
      | (go_at_call_of 60 (Value.string ds); go_must (refine (unhide HB1 _).mono ?_; rintro e wa ⟨va, rfl, hva, hba⟩; obtain ⟨aa, la, ca, rfl⟩ := hva.shape; have HVA := hide hva; have HCA : Hid (Below V.heap.size V wa) := (by first | exact ((Below.refl V.heap.size V).drew).trans hba | exact (((Below.refl V.heap.size V).drew).alloc (by simp) _).trans (hba.mono (by simp))); (first | (have HN : Hid (FBox wa V.heap.size (.bool false) (.slice none 0 0) (.slice none 0 0)) := (FBox.new V.drew _ _ _).later hba; have nc0 := (unhide HN).c0; have nc1 := (unhide HN).c1; have nc2 := (unhide HN).c2; have nf0 := (unhide HN).f0; have nf1 := (unhide HN).f1; have nf2 := (unhide HN).f2) | skip); clear hva hba t1; obtain ⟨t1, za⟩ := unhide HC wa (unhide HCA)))
      | (go_at_call 60; go_must (refine (unhide HB2 _).mono ?_; rintro e wb ⟨vb, rfl, hvb, hbb⟩; obtain ⟨ab, lb, cb, rfl⟩ := hvb.shape; have HVB := hide hvb; have Htrue : Hid (Below wa.heap.size wa wb) := (by first | exact hbb | exact ((Below.refl _ _).alloc (Nat.le_refl _) _).trans (hbb.mono (by simp))); have HVA' := hide ((unhide HVA).later (unhide Htrue)); have HCB := hide ((unhide HCA).trans ((unhide Htrue).mono (unhide HCA).size)); (first | (have HN2 := hide ((unhide HN).later hbb); clear HN; have HN := HN2; clear HN2; clear nc0 nc1 nc2 nf0 nf1 nf2; have nc0 := (unhide HN).c0; have nc1 := (unhide HN).c1; have nc2 := (unhide HN).c2; have nf0 := (unhide HN).f0; have nf1 := (unhide HN).f1; have nf2 := (unhide HN).f2) | (have HN := hide ((FBox.new _ _ _ _).later hbb); have nc0 := (unhide HN).c0; have nc1 := (unhide HN).c1; have nc2 := (unhide HN).c2; have nf0 := (unhide HN).f0; have nf1 := (unhide HN).f1; have nf2 := (unhide HN).f2) | skip); clear hvb hbb t1; obtain ⟨t1, zb⟩ := unhide HC wb (unhide HCB)))))
    all_goals
      first
      | (obtain ⟨V4, hV4⟩ : ∃ V4, V4 = wb.alloc (.cells #[.bool true, .slice aa la ca, .slice ab lb cb] 45) := ⟨_, rfl⟩
         rw [← hV4]
         have hb : Below wb.heap.size wb V4 := by rw [hV4]; exact (Below.refl _ _).alloc (Nat.le_refl _) _
         have HS4 : Hid (RS w V4 (.string num) (.string den)) := ((unhide HS).later (unhide HCB)).later hb
         have HF4 : Hid (FBox V4 wb.heap.size (.bool true) (.slice aa la ca) (.slice ab lb cb)) := by rw [hV4]; exact FBox.new _ _ _ _
         have HN4 := hide ((unhide HVA').later hb)
         have HD4 := hide ((unhide HVB).later hb)
         have hgr : w.heap.size + 1 < wb.heap.size := zb.2
         clear hV4 hb zv za zb t1 HVA HVA' HVB HCA HCB Htrue HS HC
         generalize wb.heap.size = g6 at *)
      | (obtain ⟨V4, hV4⟩ : ∃ V4, V4 = ((wb.setCell ⟨V.heap.size, 0, none⟩ (.bool true)).setCell ⟨V.heap.size, 1, none⟩ (.slice aa la ca)).setCell ⟨V.heap.size, 2, none⟩ (.slice ab lb cb) := ⟨_, rfl⟩
         rw [← hV4]
         have hgr : w.heap.size + 1 < V.heap.size := zv.2
         have HF4 : Hid (FBox V4 V.heap.size (.bool true) (.slice aa la ca) (.slice ab lb cb)) := by rw [hV4]; exact (unhide HN).store _ _ _
         have HN4 : Hid (IsBig V4 (.agg #[.slice aa la ca]) n) := by rw [hV4]; exact (unhide HN).big _ _ _ (unhide HVA')
         have HD4 : Hid (IsBig V4 (.agg #[.slice ab lb cb]) d) := by rw [hV4]; exact (unhide HN).big _ _ _ (unhide HVB)
         have HS4 : Hid (RS w V4 (.string num) (.string den)) := by
           rw [hV4]
           have s := (unhide HS).later (unhide HCB)
           exact ⟨((s.a.otherAt (by omega) _).otherAt (by omega) _).otherAt (by omega) _, ((s.r.otherAt (by omega) _).otherAt (by omega) _).otherAt (by omega) _, below_store3 s.below (by omega) _ _ _⟩
         clear hV4 zv za zb t1 HVA HVA' HVB HCA HCB Htrue HS HC HN nc0 nc1 nc2 nf0 nf1 nf2
         generalize V.heap.size = g6 at *)
      | (obtain ⟨V4, hV4⟩ : ∃ V4, V4 = ((wb.setCell ⟨wa.heap.size, 0, none⟩ (.bool true)).setCell ⟨wa.heap.size, 1, none⟩ (.slice aa la ca)).setCell ⟨wa.heap.size, 2, none⟩ (.slice ab lb cb) := ⟨_, rfl⟩
         rw [← hV4]
         have hgr : w.heap.size + 1 < wa.heap.size := za.2
         have HF4 : Hid (FBox V4 wa.heap.size (.bool true) (.slice aa la ca) (.slice ab lb cb)) := by rw [hV4]; exact (unhide HN).store _ _ _
         have HN4 : Hid (IsBig V4 (.agg #[.slice aa la ca]) n) := by rw [hV4]; exact (unhide HN).big _ _ _ (unhide HVA')
         have HD4 : Hid (IsBig V4 (.agg #[.slice ab lb cb]) d) := by rw [hV4]; exact (unhide HN).big _ _ _ (unhide HVB)
         have HS4 : Hid (RS w V4 (.string num) (.string den)) := by
           rw [hV4]
           have s := (unhide HS).later (unhide HCB)
           exact ⟨((s.a.otherAt (by omega) _).otherAt (by omega) _).otherAt (by omega) _, ((s.r.otherAt (by omega) _).otherAt (by omega) _).otherAt (by omega) _, below_store3 s.below (by omega) _ _ _⟩
         clear hV4 zv za zb t1 HVA HVA' HVB HCA HCB Htrue HS HC HN nc0 nc1 nc2 nf0 nf1 nf2
         generalize wa.heap.size = g6 at *)
      have t0 := (unhide HF4).c0; have t1 := (unhide HF4).c1; have t2 := (unhide HF4).c2
      go_wp2_with (first
        | (go_at_call 61; go_must (refine (unhide HG _ _ _ (unhide HN4) (unhide HD4)).mono ?_; rintro e w5 ⟨ag, lg, cg, rfl, hv5, hb5⟩; have HG5 := hide hv5; have HB5 := hide hb5; clear hv5 hb5))
        | (go_at_call 62; go_must (refine (unhide H1 _ _ (unhide HG5)).mono ?_; rintro e w6 ⟨rfl, hb6⟩; have HB6 := hide ((unhide HB5).trans (hb6.mono (unhide HB5).size)); clear hb6 t0 t1 t2; have HS6 := hide ((unhide HS4).later (unhide HB6)); have HF6 := hide ((unhide HF4).later (unhide HB6)); have t0 := (unhide HF6).c0; have t1 := (unhide HF6).c1; have t2 := (unhide HF6).c2; have r0 := (unhide HS6).r.c0; have r1 := (unhide HS6).r.c1; have r2 := (unhide HS6).r.c2; have rf0 := (unhide HS6).r.f0; have rf1 := (unhide HS6).r.f1; have rf2 := (unhide HS6).r.f2)))
      have hS := (unhide HS6).r.store (.bool false) (.slice none 0 0) (.slice none 0 0)
      have hb : Below w.heap.size w (store3 w6 (w.heap.size + 1) (.bool false) (.slice none 0 0) (.slice none 0 0)) := below_store3 (unhide HS6).below (by omega) _ _ _
      have u0 := hS.c0; have u1 := hS.c1; have u2 := hS.c2
      exact bodyPost_ret (v := .tuple #[zeroF, .bool false]) (w := store3 w6 (w.heap.size + 1) (.bool false) (.slice none 0 0) (.slice none 0 0)) (by simp [results, Tryz.results40, go_sem, u0, u1, u2, zeroF]) rfl ⟨rfl, hb⟩
  | false =>
    clear z1
    go_upto_region 4 with (first
      | (go_at_call 58; go_must (refine (unhide HC68).mono ?_; rintro e w1 ⟨rfl, hw1⟩; obtain rfl : V = w1 := hw1.symm))
      | (go_at_call_of 59 (Value.string ds); go_must (refine (unhide HR1).mono ?_; rintro e w1 ⟨rfl, hw1⟩; obtain rfl : V = w1 := hw1.symm))
      | (go_at_call 59; go_must (refine (unhide HR2).mono ?_; rintro e w1 ⟨rfl, hw1⟩; obtain rfl : V = w1 := hw1.symm)))
    have HC : Hid (∀ U, Below V.heap.size V U → U.cell? ⟨w.heap.size, 1, none⟩ = some (.string den) ∧ w.heap.size < U.heap.size ∧ w.heap.size + 1 < U.heap.size) := fun U hb => by
      have s := (unhide HS).later hb
      exact ⟨s.a.c1, s.a.lt, s.r.lt⟩
    have zv := (unhide HC V (Below.refl _ _)).2
    clear t0
    go_region_held3 (fun w' => w'.cell? ⟨w.heap.size, 1, none⟩ = some (.string den)) (first | assumption | (simp [go_sem, *]; done) | (rw [World.cell?_setCell_other _ _ _ _ (by simp; omega), World.cell?_setCell_other _ _ _ _ (by simp; omega), World.cell?_setCell_other _ _ _ _ (by simp; omega)]; assumption)) ((first
      | (go_at_call_of 60 (Value.string ds); go_must (refine (unhide HB1 _).mono ?_; rintro e wa ⟨va, rfl, hva, hba⟩; obtain ⟨aa, la, ca, rfl⟩ := hva.shape; have HVA := hide hva; have HCA : Hid (Below V.heap.size V wa) := (by first | exact ((Below.refl V.heap.size V).drew).trans hba | exact (((Below.refl V.heap.size V).drew).alloc (by simp) _).trans (hba.mono (by simp))); (first | (have HN : Hid (FBox wa V.heap.size (.bool false) (.slice none 0 0) (.slice none 0 0)) := (FBox.new V.drew _ _ _).later hba; have nc0 := (unhide HN).c0; have nc1 := (unhide HN).c1; have nc2 := (unhide HN).c2; have nf0 := (unhide HN).f0; have nf1 := (unhide HN).f1; have nf2 := (unhide HN).f2) | skip); clear hva hba t1; obtain ⟨t1, za⟩ := unhide HC wa (unhide HCA)))
      | (go_at_call 60; go_must (refine (unhide HB2 _).mono ?_; rintro e wb ⟨vb, rfl, hvb, hbb⟩; obtain ⟨ab, lb, cb, rfl⟩ := hvb.shape; have HVB := hide hvb; have Hfalse : Hid (Below wa.heap.size wa wb) := (by first | exact hbb | exact ((Below.refl _ _).alloc (Nat.le_refl _) _).trans (hbb.mono (by simp))); have HVA' := hide ((unhide HVA).later (unhide Hfalse)); have HCB := hide ((unhide HCA).trans ((unhide Hfalse).mono (unhide HCA).size)); (first | (have HN2 := hide ((unhide HN).later hbb); clear HN; have HN := HN2; clear HN2; clear nc0 nc1 nc2 nf0 nf1 nf2; have nc0 := (unhide HN).c0; have nc1 := (unhide HN).c1; have nc2 := (unhide HN).c2; have nf0 := (unhide HN).f0; have nf1 := (unhide HN).f1; have nf2 := (unhide HN).f2) | (have HN := hide ((FBox.new _ _ _ _).later hbb); have nc0 := (unhide HN).c0; have nc1 := (unhide HN).c1; have nc2 := (unhide HN).c2; have nf0 := (unhide HN).f0; have nf1 := (unhide HN).f1; have nf2 := (unhide HN).f2) | skip); clear hvb hbb t1; obtain ⟨t1, zb⟩ := unhide HC wb (unhide HCB)))))
    all_goals
      first
      | (obtain ⟨V4, hV4⟩ : ∃ V4, V4 = wb.alloc (.cells #[.bool false, .slice aa la ca, .slice ab lb cb] 45) := ⟨_, rfl⟩
         rw [← hV4]
         have hb : Below wb.heap.size wb V4 := by rw [hV4]; exact (Below.refl _ _).alloc (Nat.le_refl _) _
         have HS4 : Hid (RS w V4 (.string num) (.string den)) := ((unhide HS).later (unhide HCB)).later hb
         have HF4 : Hid (FBox V4 wb.heap.size (.bool false) (.slice aa la ca) (.slice ab lb cb)) := by rw [hV4]; exact FBox.new _ _ _ _
         have HN4 := hide ((unhide HVA').later hb)
         have HD4 := hide ((unhide HVB).later hb)
         have hgr : w.heap.size + 1 < wb.heap.size := zb.2
         clear hV4 hb zv za zb t1 HVA HVA' HVB HCA HCB Hfalse HS HC
         generalize wb.heap.size = g6 at *)
      | (obtain ⟨V4, hV4⟩ : ∃ V4, V4 = ((wb.setCell ⟨V.heap.size, 0, none⟩ (.bool false)).setCell ⟨V.heap.size, 1, none⟩ (.slice aa la ca)).setCell ⟨V.heap.size, 2, none⟩ (.slice ab lb cb) := ⟨_, rfl⟩
         rw [← hV4]
         have hgr : w.heap.size + 1 < V.heap.size := zv.2
         have HF4 : Hid (FBox V4 V.heap.size (.bool false) (.slice aa la ca) (.slice ab lb cb)) := by rw [hV4]; exact (unhide HN).store _ _ _
         have HN4 : Hid (IsBig V4 (.agg #[.slice aa la ca]) n) := by rw [hV4]; exact (unhide HN).big _ _ _ (unhide HVA')
         have HD4 : Hid (IsBig V4 (.agg #[.slice ab lb cb]) d) := by rw [hV4]; exact (unhide HN).big _ _ _ (unhide HVB)
         have HS4 : Hid (RS w V4 (.string num) (.string den)) := by
           rw [hV4]
           have s := (unhide HS).later (unhide HCB)
           exact ⟨((s.a.otherAt (by omega) _).otherAt (by omega) _).otherAt (by omega) _, ((s.r.otherAt (by omega) _).otherAt (by omega) _).otherAt (by omega) _, below_store3 s.below (by omega) _ _ _⟩
         clear hV4 zv za zb t1 HVA HVA' HVB HCA HCB Hfalse HS HC HN nc0 nc1 nc2 nf0 nf1 nf2
         generalize V.heap.size = g6 at *)
      | (obtain ⟨V4, hV4⟩ : ∃ V4, V4 = ((wb.setCell ⟨wa.heap.size, 0, none⟩ (.bool false)).setCell ⟨wa.heap.size, 1, none⟩ (.slice aa la ca)).setCell ⟨wa.heap.size, 2, none⟩ (.slice ab lb cb) := ⟨_, rfl⟩
         rw [← hV4]
         have hgr : w.heap.size + 1 < wa.heap.size := za.2
         have HF4 : Hid (FBox V4 wa.heap.size (.bool false) (.slice aa la ca) (.slice ab lb cb)) := by rw [hV4]; exact (unhide HN).store _ _ _
         have HN4 : Hid (IsBig V4 (.agg #[.slice aa la ca]) n) := by rw [hV4]; exact (unhide HN).big _ _ _ (unhide HVA')
         have HD4 : Hid (IsBig V4 (.agg #[.slice ab lb cb]) d) := by rw [hV4]; exact (unhide HN).big _ _ _ (unhide HVB)
         have HS4 : Hid (RS w V4 (.string num) (.string den)) := by
           rw [hV4]
           have s := (unhide HS).later (unhide HCB)
           exact ⟨((s.a.otherAt (by omega) _).otherAt (by omega) _).otherAt (by omega) _, ((s.r.otherAt (by omega) _).otherAt (by omega) _).otherAt (by omega) _, below_store3 s.below (by omega) _ _ _⟩
         clear hV4 zv za zb t1 HVA HVA' HVB HCA HCB Hfalse HS HC HN nc0 nc1 nc2 nf0 nf1 nf2
         generalize wa.heap.size = g6 at *)
      have t0 := (unhide HF4).c0; have t1 := (unhide HF4).c1; have t2 := (unhide HF4).c2
      go_wp2_with (first
        | (go_at_call 61; go_must (refine (unhide HG _ _ _ (unhide HN4) (unhide HD4)).mono ?_; rintro e w5 ⟨ag, lg, cg, rfl, hv5, hb5⟩; have HG5 := hide hv5; have HB5 := hide hb5; clear hv5 hb5))
        | (go_at_call 62; go_must (refine (unhide H1 _ _ (unhide HG5)).mono ?_; rintro e w6 ⟨rfl, hb6⟩; have HB6 := hide ((unhide HB5).trans (hb6.mono (unhide HB5).size)); clear hb6 t0 t1 t2; have HS6 := hide ((unhide HS4).later (unhide HB6)); have HF6 := hide ((unhide HF4).later (unhide HB6)); have t0 := (unhide HF6).c0; have t1 := (unhide HF6).c1; have t2 := (unhide HF6).c2; have r0 := (unhide HS6).r.c0; have r1 := (unhide HS6).r.c1; have r2 := (unhide HS6).r.c2; have rf0 := (unhide HS6).r.f0; have rf1 := (unhide HS6).r.f1; have rf2 := (unhide HS6).r.f2)))
      have hS := (unhide HS6).r.store (.bool false) (.slice none 0 0) (.slice none 0 0)
      have hb : Below w.heap.size w (store3 w6 (w.heap.size + 1) (.bool false) (.slice none 0 0) (.slice none 0 0)) := below_store3 (unhide HS6).below (by omega) _ _ _
      have u0 := hS.c0; have u1 := hS.c1; have u2 := hS.c2
      exact bodyPost_ret (v := .tuple #[zeroF, .bool false]) (w := store3 w6 (w.heap.size + 1) (.bool false) (.slice none 0 0) (.slice none 0 0)) (by simp [results, Tryz.results40, go_sem, u0, u1, u2, zeroF]) rfl ⟨rfl, hb⟩
set_option maxRecDepth 100000 in
set_option maxHeartbeats 4000000 in
theorem read_early (num den : ByteArray) (ds : ByteArray) (b r1 r2 e1 e2 : Bool) (w : World) (hc : ∀ W, Calls Tryz.prog 58 #[.string num] W fun e w' => e = .returned (.tuple #[.bool b, .string ds]) ∧ w' = W)
    (h1 : ∀ W, Calls Tryz.prog 59 #[.string ds] W fun e w' => e = .returned (.bool r1) ∧ w' = W) (h2 : ∀ W, Calls Tryz.prog 59 #[.string den] W fun e w' => e = .returned (.bool r2) ∧ w' = W)
    (z1 : (ds.toList == [48]) = e1) (z2 : (den.toList == [48]) = e2) (h : (!r1 || !r2 || (b && e1) || e2) = true) :
    Calls Tryz.prog 40 #[.agg #[.string num, .string den]] w fun r w' => r = .returned (.tuple #[zeroF, .bool false]) ∧ Below w.heap.size w w' := by
  obtain ⟨V, hV⟩ : ∃ V, V = (w.alloc (.cells #[.string num, .string den] 23)).alloc (.cells #[.bool false, .slice none 0 0, .slice none 0 0] 45) := ⟨_, rfl⟩
  have HS : Hid (RS w V (.string num) (.string den)) := by rw [hV]; exact RS.first _ _ _
  have HV := hide hV
  have HC68 := hide (hc V)
  have HR1 := hide (h1 V)
  have HR2 := hide (h2 V)
  clear hc h1 h2
  have hS := (unhide HS).r.store (.bool false) (.slice none 0 0) (.slice none 0 0)
  have hb : Below w.heap.size w (store3 V (w.heap.size + 1) (.bool false) (.slice none 0 0) (.slice none 0 0)) := below_store3 (unhide HS).below (by omega) _ _ _
  have HU := hide hS
  have HB := hide hb
  clear hS hb
  go_enter Tryz.func40, Tryz.ntmps40
  go_upto_region 1 with fail
  rw [← unhide HV]
  clear hV HV
  have t0 := (unhide HS).a.c0; have t1 := (unhide HS).a.c1
  have r0 := (unhide HS).r.c0; have q1 := (unhide HS).r.c1; have q2 := (unhide HS).r.c2; have rf0 := (unhide HS).r.f0; have rf1 := (unhide HS).r.f1; have rf2 := (unhide HS).r.f2
  cases r1 <;> cases r2 <;> cases b <;> cases e1 <;> cases e2 <;> first
    | (exact absurd h (by decide))
    | (clear h
       go_wp2_with (first
         | (go_at_call 58; go_must (refine (unhide HC68).mono ?_; rintro e w1 ⟨rfl, hw1⟩; obtain rfl : V = w1 := hw1.symm))
         | (go_at_call_of 59 (Value.string ds); go_must (refine (unhide HR1).mono ?_; rintro e w1 ⟨rfl, hw1⟩; obtain rfl : V = w1 := hw1.symm))
         | (go_at_call 59; go_must (refine (unhide HR2).mono ?_; rintro e w1 ⟨rfl, hw1⟩; obtain rfl : V = w1 := hw1.symm)))
       have u0 := (unhide HU).c0; have u1 := (unhide HU).c1; have u2 := (unhide HU).c2
       exact bodyPost_ret (v := .tuple #[zeroF, .bool false]) (w := store3 V (w.heap.size + 1) (.bool false) (.slice none 0 0) (.slice none 0 0)) (by simp [results, Tryz.results40, go_sem, u0, u1, u2, zeroF]) rfl ⟨rfl, unhide HB⟩)
theorem digT_size (s : ByteArray) : (digT s).size ≤ s.size := by
  rw [← list_len, ← list_len, digT_list]
  split
  · simp
  · exact Nat.le_refl _
/-- What Read answers where the texts are no right number. -/
theorem read_no (num den : ByteArray) (w : World) (hs1 : num.size ≤ maxLen) (hs2 : den.size ≤ maxLen) (h : ¬ RightT num den) :
    Calls Tryz.prog 40 #[.agg #[.string num, .string den]] w fun r w' => r = .returned (.tuple #[zeroF, .bool false]) ∧ Below w.heap.size w w' := by
  have hc := fun W => cutSign_any num W
  have h1 := fun W => right_any (digT num) W (Nat.le_trans (digT_size num) hs1)
  have h2 := fun W => right_any den W hs2
  by_cases hok : (!(Cub.rightB (digT num).data.toList) || !(Cub.rightB den.data.toList) || (isNeg num && ((digT num).toList == [48])) || (den.toList == [48])) = true
  · exact read_early num den (digT num) (isNeg num) _ _ _ _ w hc h1 h2 rfl rfl hok
  · simp only [Bool.or_eq_true, Bool.not_eq_true', Bool.and_eq_true, not_or, Bool.not_eq_false, not_and] at hok
    obtain ⟨⟨⟨k1, k2⟩, k3⟩, k4⟩ := hok
    obtain ⟨n, hn, e1⟩ := tb_of k1
    obtain ⟨d, hd, e2⟩ := tb_of k2
    have e3 := sT_of num n e1
    rw [e1, tb_eq48 n hn] at k3
    rw [e2, tb_eq48 d hd] at k4
    have hd0 : d ≠ 0 := by simpa using k4
    have hb0 : isNeg num = true → n ≠ 0 := fun hb => by simpa using k3 hb
    exact read_gcd num den (isNeg num) n d w e3 e2 hn hd hb0 hd0 (fun hg => h ⟨_, n, d, e3, e2, hn, hd, ⟨by omega, hg, hb0⟩⟩)
end Go.Proofs.YtimihoonnglniaaGreatDoor

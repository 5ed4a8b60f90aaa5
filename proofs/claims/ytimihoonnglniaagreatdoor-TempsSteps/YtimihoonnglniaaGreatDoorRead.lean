/- rat.Read. -/
import Derived.Test.YtimihoonnglniaaGreatDoorTx
namespace Go.Proofs.YtimihoonnglniaaGreatDoor
open Go.RowKit

/-- A box of two cells. -/
structure T2 (W : World) (g : Nat) (x y : Value) : Prop where
  c0 : W.cell? ⟨g, 0, none⟩ = some x
  c1 : W.cell? ⟨g, 1, none⟩ = some y
  f0 : W.frozen? ⟨g, 0, none⟩ = false
  f1 : W.frozen? ⟨g, 1, none⟩ = false
theorem T2.lt {W : World} {g : Nat} {x y : Value} (h : T2 W g x y) : g < W.heap.size := World.block_lt_of_cell? _ _ h.c0
theorem T2.later {W V : World} {g : Nat} {x y : Value} (h : T2 W g x y) (hb : Below W.heap.size W V) : T2 V g x y :=
  ⟨(hb.cell (p := ⟨g, 0, none⟩) h.lt).trans h.c0, (hb.cell (p := ⟨g, 1, none⟩) h.lt).trans h.c1, (hb.frozen (p := ⟨g, 0, none⟩) h.lt).trans h.f0, (hb.frozen (p := ⟨g, 1, none⟩) h.lt).trans h.f1⟩
theorem T2.otherAt {W : World} {g k o : Nat} {x y : Value} (h : T2 W g x y) (hk : g ≠ k) (u : Value) : T2 (W.setCell ⟨k, o, none⟩ u) g x y :=
  ⟨by rw [World.cell?_setCell_other _ _ _ _ (by intro e; exact hk (congrArg Addr.block e).symm)]; exact h.c0, by rw [World.cell?_setCell_other _ _ _ _ (by intro e; exact hk (congrArg Addr.block e).symm)]; exact h.c1, by rw [World.frozen?_setCell]; exact h.f0, by rw [World.frozen?_setCell]; exact h.f1⟩
/-- The argument and the result's box. -/
structure RS (w W : World) (x y : Value) : Prop where
  a : T2 W w.heap.size x y
  r : FBox W (w.heap.size + 1) (.bool false) (.slice none 0 0) (.slice none 0 0)
  below : Below w.heap.size w W
theorem RS.later {w W V : World} {x y : Value} (s : RS w W x y) (hb : Below W.heap.size W V) : RS w V x y := ⟨s.a.later hb, s.r.later hb, s.below.trans (hb.mono s.below.size)⟩
theorem RS.first (w : World) (x y : Value) : RS w ((w.alloc (.cells #[x, y] 23)).alloc (.cells #[.bool false, .slice none 0 0, .slice none 0 0] 45)) x y :=
  ⟨⟨by simp [go_sem], by simp [go_sem], by simp [go_sem], by simp [go_sem]⟩, ⟨by simp [go_sem], by simp [go_sem], by simp [go_sem], by simp [go_sem], by simp [go_sem], by simp [go_sem]⟩, ((Below.refl _ _).alloc (Nat.le_refl _) _).alloc (by simp) _⟩
theorem pow600 : 10 ^ 600 ≤ 1000000000 ^ 67 := pow_nine 600 67 (by decide)
set_option maxRecDepth 100000 in
set_option maxHeartbeats 4000000 in
/-- What Read answers where both texts are numbers. -/
theorem read_ok (num den : ByteArray) (b : Bool) (n d : Nat) (w : World) (hnum : num = sT b n) (hden : den = tb d) (hn : n < 10 ^ 600) (hd : d < 10 ^ 600) (hb0 : b = true → n ≠ 0) (hd0 : d ≠ 0) (hg : Nat.gcd n d = 1) :
    Calls Tryz.prog 40 #[.agg #[.string num, .string den]] w fun r w' => ∃ v, r = .returned (.tuple #[v, .bool true]) ∧ QOf w' v (Cub.valQ b n d) 67 ∧ Below w.heap.size w w' := by
  obtain ⟨V, hV⟩ : ∃ V, V = (w.alloc (.cells #[.string num, .string den] 23)).alloc (.cells #[.bool false, .slice none 0 0, .slice none 0 0] 45) := ⟨_, rfl⟩
  have HS : Hid (RS w V (.string num) (.string den)) := by rw [hV]; exact RS.first _ _ _
  have HV := hide hV
  have HC68 : Hid (Calls Tryz.prog 58 #[.string num] V fun e w' => e = .returned (.tuple #[.bool b, .string (tb n)]) ∧ w' = V) := by
    have := cutSign_any num V
    rw [hnum, neg_sT b n hn, dig_sT b n hn] at this
    rw [hnum]; exact this
  have HR1 : Hid (Calls Tryz.prog 59 #[.string (tb n)] V fun e w' => e = .returned (.bool true) ∧ w' = V) := by
    have := right_any (tb n) V (tb_size n hn)
    rwa [(tb_right n hn).1] at this
  have HR2 : Hid (Calls Tryz.prog 59 #[.string den] V fun e w' => e = .returned (.bool true) ∧ w' = V) := by
    have := right_any (tb d) V (tb_size d hd)
    rw [(tb_right d hd).1] at this
    rw [hden]; exact this
  have z1 : b = true → ((tb n).toList == [48]) = false := fun h => by rw [tb_eq48 n hn, beq_eq_false_iff_ne]; exact hb0 h
  have z2 : (den.toList == [48]) = false := by rw [hden, tb_eq48 d hd, beq_eq_false_iff_ne]; exact hd0
  have HB1 : Hid (∀ W, Calls Tryz.prog 60 #[.string (tb n)] W fun e w' => ∃ v, e = .returned v ∧ IsBig w' v n ∧ Below W.heap.size W w') := fun W => by
    have := bigText_any (tb n) W (by have := (tb_digs n hn).2; omega) (tb_digs n hn).1
    rwa [(tb_right n hn).2] at this
  have HB2 : Hid (∀ W, Calls Tryz.prog 60 #[.string den] W fun e w' => ∃ v, e = .returned v ∧ IsBig w' v d ∧ Below W.heap.size W w') := fun W => by
    have := bigText_any (tb d) W (by have := (tb_digs d hd).2; omega) (tb_digs d hd).1
    rw [(tb_right d hd).2] at this
    rw [hden]; exact this
  have p6 := pow600
  have HLT : Hid (n < 1000000000 ^ 67 ∧ d < 1000000000 ^ 67) := ⟨Nat.lt_of_lt_of_le hn p6, Nat.lt_of_lt_of_le hd p6⟩
  have HG : Hid (∀ W x y, IsBig W x n → IsBig W y d → Calls Tryz.prog 61 #[x, y] W fun e w' => ∃ a l c, e = .returned (.agg #[.slice a l c]) ∧ IsBig w' (.agg #[.slice a l c]) (Nat.gcd n d) ∧ Below W.heap.size W w') := fun W x y h1 h2 => gcdAns 67 (by decide) W x y n d h1 h2 (unhide HLT).1 (unhide HLT).2
  have HLOW : Hid (Cub.Low b n d) := ⟨by omega, hg, hb0⟩
  rw [hg] at HG
  have H1 : Hid (∀ W x, IsBig W x 1 → Calls Tryz.prog 62 #[x] W fun e w' => e = .returned (.bool true) ∧ Below W.heap.size W w') := fun W x h => isOne_any x 1 W h
  clear p6 hn hd hb0 hd0 hg hnum hden
  generalize tb n = ds at *
  go_enter Tryz.func40, Tryz.ntmps40
  go_upto_region 1 with fail
  rw [← unhide HV]
  clear hV HV
  have t0 := (unhide HS).a.c0; have t1 := (unhide HS).a.c1
  have HGOAL : True := trivial
  cases b with
  | true =>
    have z3 := z1 rfl
    go_upto_region 4 with (first
      | (go_at_call 58; go_must (refine (unhide HC68).mono ?_; rintro e w1 ⟨rfl, hw1⟩; obtain rfl : V = w1 := hw1.symm))
      | (go_at_call_of 59 (Value.string ds); go_must (refine (unhide HR1).mono ?_; rintro e w1 ⟨rfl, hw1⟩; obtain rfl : V = w1 := hw1.symm))
      | (go_at_call 59; go_must (refine (unhide HR2).mono ?_; rintro e w1 ⟨rfl, hw1⟩; obtain rfl : V = w1 := hw1.symm)))
    have HC : Hid (∀ U, Below V.heap.size V U → U.cell? ⟨w.heap.size, 1, none⟩ = some (.string den) ∧ w.heap.size < U.heap.size ∧ w.heap.size + 1 < U.heap.size) := fun U hb => by
      have s := (unhide HS).later hb
      exact ⟨s.a.c1, s.a.lt, s.r.lt⟩
    have zv := (unhide HC V (Below.refl _ _)).2
    clear t0
    go_region_held3 (fun w' => w'.cell? ⟨w.heap.size, 1, none⟩ = some (.string den)) (first | assumption | (simp [go_sem, *]; done) | (rw [World.cell?_setCell_other _ _ _ _ (by simp; omega), World.cell?_setCell_other _ _ _ _ (by simp; omega), World.cell?_setCell_other _ _ _ _ (by simp; omega)]; assumption)) ((first
      | (go_at_call_of 60 (Value.string ds); go_must (refine (unhide HB1 _).mono ?_; rintro e wa ⟨va, rfl, hva, hba⟩; obtain ⟨aa, la, ca, rfl⟩ := hva.shape; have HVA := hide hva; have HCA : Hid (Below V.heap.size V wa) := (by first | exact ((Below.refl V.heap.size V).drew).trans hba | exact (((Below.refl V.heap.size V).drew).alloc (by simp) _).trans (hba.mono (by simp))); (first | (have HN : Hid (FBox wa V.heap.size (.bool false) (.slice none 0 0) (.slice none 0 0)) := (FBox.new V.drew _ _ _).later hba; have nc0 := (unhide HN).c0; have nc1 := (unhide HN).c1; have nc2 := (unhide HN).c2; have nf0 := (unhide HN).f0; have nf1 := (unhide HN).f1; have nf2 := (unhide HN).f2) | skip); clear hva hba t1; obtain ⟨t1, za⟩ := unhide HC wa (unhide HCA)))
      | (go_at_call 60; go_must (refine (unhide HB2 _).mono ?_; rintro e wb ⟨vb, rfl, hvb, hbb⟩; obtain ⟨ab, lb, cb, rfl⟩ := hvb.shape; have HVB := hide hvb; have Htrue : Hid (Below wa.heap.size wa wb) := (by first | exact hbb | exact ((Below.refl _ _).alloc (Nat.le_refl _) _).trans (hbb.mono (by simp))); have HVA' := hide ((unhide HVA).later (unhide Htrue)); have HCB := hide ((unhide HCA).trans ((unhide Htrue).mono (unhide HCA).size)); (first | (have HN2 := hide ((unhide HN).later hbb); clear HN; have HN := HN2; clear HN2; clear nc0 nc1 nc2 nf0 nf1 nf2; have nc0 := (unhide HN).c0; have nc1 := (unhide HN).c1; have nc2 := (unhide HN).c2; have nf0 := (unhide HN).f0; have nf1 := (unhide HN).f1; have nf2 := (unhide HN).f2) | (have HN := hide ((FBox.new _ _ _ _).later hbb); have nc0 := (unhide HN).c0; have nc1 := (unhide HN).c1; have nc2 := (unhide HN).c2; have nf0 := (unhide HN).f0; have nf1 := (unhide HN).f1; have nf2 := (unhide HN).f2) | skip); clear hvb hbb t1; obtain ⟨t1, zb⟩ := unhide HC wb (unhide HCB)))))
    all_goals
      first
      | (obtain ⟨V4, hV4⟩ : ∃ V4, V4 = wb.alloc (.cells #[.bool true, .slice aa la ca, .slice ab lb cb] 45) := ⟨_, rfl⟩
         rw [← hV4]
         have hb : Below wb.heap.size wb V4 := by rw [hV4]; exact (Below.refl _ _).alloc (Nat.le_refl _) _
         have HS4 : Hid (RS w V4 (.string num) (.string den)) := ((unhide HS).later (unhide HCB)).later hb
         have HF4 : Hid (FBox V4 wb.heap.size (.bool true) (.slice aa la ca) (.slice ab lb cb)) := by rw [hV4]; exact FBox.new _ _ _ _
         have HN4 := hide ((unhide HVA').later hb)
         have HD4 := hide ((unhide HVB).later hb)
         have hgr : w.heap.size + 1 < wb.heap.size := zb.2
         clear hV4 hb zv za zb t1 HVA HVA' HVB HCA HCB Htrue HS HC
         generalize wb.heap.size = g6 at *)
      | (obtain ⟨V4, hV4⟩ : ∃ V4, V4 = ((wb.setCell ⟨V.heap.size, 0, none⟩ (.bool true)).setCell ⟨V.heap.size, 1, none⟩ (.slice aa la ca)).setCell ⟨V.heap.size, 2, none⟩ (.slice ab lb cb) := ⟨_, rfl⟩
         rw [← hV4]
         have hgr : w.heap.size + 1 < V.heap.size := zv.2
         have HF4 : Hid (FBox V4 V.heap.size (.bool true) (.slice aa la ca) (.slice ab lb cb)) := by rw [hV4]; exact (unhide HN).store _ _ _
         have HN4 : Hid (IsBig V4 (.agg #[.slice aa la ca]) n) := by rw [hV4]; exact (unhide HN).big _ _ _ (unhide HVA')
         have HD4 : Hid (IsBig V4 (.agg #[.slice ab lb cb]) d) := by rw [hV4]; exact (unhide HN).big _ _ _ (unhide HVB)
         have HS4 : Hid (RS w V4 (.string num) (.string den)) := by
           rw [hV4]
           have s := (unhide HS).later (unhide HCB)
           exact ⟨((s.a.otherAt (by omega) _).otherAt (by omega) _).otherAt (by omega) _, ((s.r.otherAt (by omega) _).otherAt (by omega) _).otherAt (by omega) _, below_store3 s.below (by omega) _ _ _⟩
         clear hV4 zv za zb t1 HVA HVA' HVB HCA HCB Htrue HS HC HN nc0 nc1 nc2 nf0 nf1 nf2
         generalize V.heap.size = g6 at *)
      | (obtain ⟨V4, hV4⟩ : ∃ V4, V4 = ((wb.setCell ⟨wa.heap.size, 0, none⟩ (.bool true)).setCell ⟨wa.heap.size, 1, none⟩ (.slice aa la ca)).setCell ⟨wa.heap.size, 2, none⟩ (.slice ab lb cb) := ⟨_, rfl⟩
         rw [← hV4]
         have hgr : w.heap.size + 1 < wa.heap.size := za.2
         have HF4 : Hid (FBox V4 wa.heap.size (.bool true) (.slice aa la ca) (.slice ab lb cb)) := by rw [hV4]; exact (unhide HN).store _ _ _
         have HN4 : Hid (IsBig V4 (.agg #[.slice aa la ca]) n) := by rw [hV4]; exact (unhide HN).big _ _ _ (unhide HVA')
         have HD4 : Hid (IsBig V4 (.agg #[.slice ab lb cb]) d) := by rw [hV4]; exact (unhide HN).big _ _ _ (unhide HVB)
         have HS4 : Hid (RS w V4 (.string num) (.string den)) := by
           rw [hV4]
           have s := (unhide HS).later (unhide HCB)
           exact ⟨((s.a.otherAt (by omega) _).otherAt (by omega) _).otherAt (by omega) _, ((s.r.otherAt (by omega) _).otherAt (by omega) _).otherAt (by omega) _, below_store3 s.below (by omega) _ _ _⟩
         clear hV4 zv za zb t1 HVA HVA' HVB HCA HCB Htrue HS HC HN nc0 nc1 nc2 nf0 nf1 nf2
         generalize wa.heap.size = g6 at *)
      have t0 := (unhide HF4).c0; have t1 := (unhide HF4).c1; have t2 := (unhide HF4).c2
      go_wp2_with (first
        | (go_at_call 61; go_must (refine (unhide HG _ _ _ (unhide HN4) (unhide HD4)).mono ?_; rintro e w5 ⟨ag, lg, cg, rfl, hv5, hb5⟩; have HG5 := hide hv5; have HB5 := hide hb5; clear hv5 hb5))
        | (go_at_call 62; go_must (refine (unhide H1 _ _ (unhide HG5)).mono ?_; rintro e w6 ⟨rfl, hb6⟩; have HB6 := hide ((unhide HB5).trans (hb6.mono (unhide HB5).size)); clear hb6 t0 t1 t2; have HS6 := hide ((unhide HS4).later (unhide HB6)); have HF6 := hide ((unhide HF4).later (unhide HB6)); have t0 := (unhide HF6).c0; have t1 := (unhide HF6).c1; have t2 := (unhide HF6).c2; have r0 := (unhide HS6).r.c0; have r1 := (unhide HS6).r.c1; have r2 := (unhide HS6).r.c2; have rf0 := (unhide HS6).r.f0; have rf1 := (unhide HS6).r.f1; have rf2 := (unhide HS6).r.f2)))
      have hS := (unhide HS6).r.store (.bool true) (.slice aa la ca) (.slice ab lb cb)
      have hb : Below w.heap.size w (store3 w6 (w.heap.size + 1) (.bool true) (.slice aa la ca) (.slice ab lb cb)) := below_store3 (unhide HS6).below (by omega) _ _ _
      have u0 := hS.c0; have u1 := hS.c1; have u2 := hS.c2
      exact bodyPost_ret (v := .tuple #[.agg #[.bool true, .slice aa la ca, .slice ab lb cb], .bool true]) (w := store3 w6 (w.heap.size + 1) (.bool true) (.slice aa la ca) (.slice ab lb cb)) (by simp [results, Tryz.results40, go_sem, u0, u1, u2]) rfl ⟨_, rfl, ⟨_, n, d, ⟨_, _, rfl, (unhide HS6).r.big _ _ _ ((unhide HN4).later (unhide HB6)), (unhide HS6).r.big _ _ _ ((unhide HD4).later (unhide HB6))⟩, unhide HLOW, rfl, (unhide HLT).1, (unhide HLT).2⟩, hb⟩
  | false =>
    clear z1
    go_upto_region 4 with (first
      | (go_at_call 58; go_must (refine (unhide HC68).mono ?_; rintro e w1 ⟨rfl, hw1⟩; obtain rfl : V = w1 := hw1.symm))
      | (go_at_call_of 59 (Value.string ds); go_must (refine (unhide HR1).mono ?_; rintro e w1 ⟨rfl, hw1⟩; obtain rfl : V = w1 := hw1.symm))
      | (go_at_call 59; go_must (refine (unhide HR2).mono ?_; rintro e w1 ⟨rfl, hw1⟩; obtain rfl : V = w1 := hw1.symm)))
    have HC : Hid (∀ U, Below V.heap.size V U → U.cell? ⟨w.heap.size, 1, none⟩ = some (.string den) ∧ w.heap.size < U.heap.size ∧ w.heap.size + 1 < U.heap.size) := fun U hb => by
      have s := (unhide HS).later hb
      exact ⟨s.a.c1, s.a.lt, s.r.lt⟩
    have zv := (unhide HC V (Below.refl _ _)).2
    clear t0
    go_region_held3 (fun w' => w'.cell? ⟨w.heap.size, 1, none⟩ = some (.string den)) (first | assumption | (simp [go_sem, *]; done) | (rw [World.cell?_setCell_other _ _ _ _ (by simp; omega), World.cell?_setCell_other _ _ _ _ (by simp; omega), World.cell?_setCell_other _ _ _ _ (by simp; omega)]; assumption)) ((first
      | (go_at_call_of 60 (Value.string ds); go_must (refine (unhide HB1 _).mono ?_; rintro e wa ⟨va, rfl, hva, hba⟩; obtain ⟨aa, la, ca, rfl⟩ := hva.shape; have HVA := hide hva; have HCA : Hid (Below V.heap.size V wa) := (by first | exact ((Below.refl V.heap.size V).drew).trans hba | exact (((Below.refl V.heap.size V).drew).alloc (by simp) _).trans (hba.mono (by simp))); (first | (have HN : Hid (FBox wa V.heap.size (.bool false) (.slice none 0 0) (.slice none 0 0)) := (FBox.new V.drew _ _ _).later hba; have nc0 := (unhide HN).c0; have nc1 := (unhide HN).c1; have nc2 := (unhide HN).c2; have nf0 := (unhide HN).f0; have nf1 := (unhide HN).f1; have nf2 := (unhide HN).f2) | skip); clear hva hba t1; obtain ⟨t1, za⟩ := unhide HC wa (unhide HCA)))
      | (go_at_call 60; go_must (refine (unhide HB2 _).mono ?_; rintro e wb ⟨vb, rfl, hvb, hbb⟩; obtain ⟨ab, lb, cb, rfl⟩ := hvb.shape; have HVB := hide hvb; have Hfalse : Hid (Below wa.heap.size wa wb) := (by first | exact hbb | exact ((Below.refl _ _).alloc (Nat.le_refl _) _).trans (hbb.mono (by simp))); have HVA' := hide ((unhide HVA).later (unhide Hfalse)); have HCB := hide ((unhide HCA).trans ((unhide Hfalse).mono (unhide HCA).size)); (first | (have HN2 := hide ((unhide HN).later hbb); clear HN; have HN := HN2; clear HN2; clear nc0 nc1 nc2 nf0 nf1 nf2; have nc0 := (unhide HN).c0; have nc1 := (unhide HN).c1; have nc2 := (unhide HN).c2; have nf0 := (unhide HN).f0; have nf1 := (unhide HN).f1; have nf2 := (unhide HN).f2) | (have HN := hide ((FBox.new _ _ _ _).later hbb); have nc0 := (unhide HN).c0; have nc1 := (unhide HN).c1; have nc2 := (unhide HN).c2; have nf0 := (unhide HN).f0; have nf1 := (unhide HN).f1; have nf2 := (unhide HN).f2) | skip); clear hvb hbb t1; obtain ⟨t1, zb⟩ := unhide HC wb (unhide HCB)))))
    all_goals
      first
      | (obtain ⟨V4, hV4⟩ : ∃ V4, V4 = wb.alloc (.cells #[.bool false, .slice aa la ca, .slice ab lb cb] 45) := ⟨_, rfl⟩
         rw [← hV4]
         have hb : Below wb.heap.size wb V4 := by rw [hV4]; exact (Below.refl _ _).alloc (Nat.le_refl _) _
         have HS4 : Hid (RS w V4 (.string num) (.string den)) := ((unhide HS).later (unhide HCB)).later hb
         have HF4 : Hid (FBox V4 wb.heap.size (.bool false) (.slice aa la ca) (.slice ab lb cb)) := by rw [hV4]; exact FBox.new _ _ _ _
         have HN4 := hide ((unhide HVA').later hb)
         have HD4 := hide ((unhide HVB).later hb)
         have hgr : w.heap.size + 1 < wb.heap.size := zb.2
         clear hV4 hb zv za zb t1 HVA HVA' HVB HCA HCB Hfalse HS HC
         generalize wb.heap.size = g6 at *)
      | (obtain ⟨V4, hV4⟩ : ∃ V4, V4 = ((wb.setCell ⟨V.heap.size, 0, none⟩ (.bool false)).setCell ⟨V.heap.size, 1, none⟩ (.slice aa la ca)).setCell ⟨V.heap.size, 2, none⟩ (.slice ab lb cb) := ⟨_, rfl⟩
         rw [← hV4]
         have hgr : w.heap.size + 1 < V.heap.size := zv.2
         have HF4 : Hid (FBox V4 V.heap.size (.bool false) (.slice aa la ca) (.slice ab lb cb)) := by rw [hV4]; exact (unhide HN).store _ _ _
         have HN4 : Hid (IsBig V4 (.agg #[.slice aa la ca]) n) := by rw [hV4]; exact (unhide HN).big _ _ _ (unhide HVA')
         have HD4 : Hid (IsBig V4 (.agg #[.slice ab lb cb]) d) := by rw [hV4]; exact (unhide HN).big _ _ _ (unhide HVB)
         have HS4 : Hid (RS w V4 (.string num) (.string den)) := by
           rw [hV4]
           have s := (unhide HS).later (unhide HCB)
           exact ⟨((s.a.otherAt (by omega) _).otherAt (by omega) _).otherAt (by omega) _, ((s.r.otherAt (by omega) _).otherAt (by omega) _).otherAt (by omega) _, below_store3 s.below (by omega) _ _ _⟩
         clear hV4 zv za zb t1 HVA HVA' HVB HCA HCB Hfalse HS HC HN nc0 nc1 nc2 nf0 nf1 nf2
         generalize V.heap.size = g6 at *)
      | (obtain ⟨V4, hV4⟩ : ∃ V4, V4 = ((wb.setCell ⟨wa.heap.size, 0, none⟩ (.bool false)).setCell ⟨wa.heap.size, 1, none⟩ (.slice aa la ca)).setCell ⟨wa.heap.size, 2, none⟩ (.slice ab lb cb) := ⟨_, rfl⟩
         rw [← hV4]
         have hgr : w.heap.size + 1 < wa.heap.size := za.2
         have HF4 : Hid (FBox V4 wa.heap.size (.bool false) (.slice aa la ca) (.slice ab lb cb)) := by rw [hV4]; exact (unhide HN).store _ _ _
         have HN4 : Hid (IsBig V4 (.agg #[.slice aa la ca]) n) := by rw [hV4]; exact (unhide HN).big _ _ _ (unhide HVA')
         have HD4 : Hid (IsBig V4 (.agg #[.slice ab lb cb]) d) := by rw [hV4]; exact (unhide HN).big _ _ _ (unhide HVB)
         have HS4 : Hid (RS w V4 (.string num) (.string den)) := by
           rw [hV4]
           have s := (unhide HS).later (unhide HCB)
           exact ⟨((s.a.otherAt (by omega) _).otherAt (by omega) _).otherAt (by omega) _, ((s.r.otherAt (by omega) _).otherAt (by omega) _).otherAt (by omega) _, below_store3 s.below (by omega) _ _ _⟩
         clear hV4 zv za zb t1 HVA HVA' HVB HCA HCB Hfalse HS HC HN nc0 nc1 nc2 nf0 nf1 nf2
         generalize wa.heap.size = g6 at *)
      have t0 := (unhide HF4).c0; have t1 := (unhide HF4).c1; have t2 := (unhide HF4).c2
      go_wp2_with (first
        | (go_at_call 61; go_must (refine (unhide HG _ _ _ (unhide HN4) (unhide HD4)).mono ?_; rintro e w5 ⟨ag, lg, cg, rfl, hv5, hb5⟩; have HG5 := hide hv5; have HB5 := hide hb5; clear hv5 hb5))
        | (go_at_call 62; go_must (refine (unhide H1 _ _ (unhide HG5)).mono ?_; rintro e w6 ⟨rfl, hb6⟩; have HB6 := hide ((unhide HB5).trans (hb6.mono (unhide HB5).size)); clear hb6 t0 t1 t2; have HS6 := hide ((unhide HS4).later (unhide HB6)); have HF6 := hide ((unhide HF4).later (unhide HB6)); have t0 := (unhide HF6).c0; have t1 := (unhide HF6).c1; have t2 := (unhide HF6).c2; have r0 := (unhide HS6).r.c0; have r1 := (unhide HS6).r.c1; have r2 := (unhide HS6).r.c2; have rf0 := (unhide HS6).r.f0; have rf1 := (unhide HS6).r.f1; have rf2 := (unhide HS6).r.f2)))
      have hS := (unhide HS6).r.store (.bool false) (.slice aa la ca) (.slice ab lb cb)
      have hb : Below w.heap.size w (store3 w6 (w.heap.size + 1) (.bool false) (.slice aa la ca) (.slice ab lb cb)) := below_store3 (unhide HS6).below (by omega) _ _ _
      have u0 := hS.c0; have u1 := hS.c1; have u2 := hS.c2
      exact bodyPost_ret (v := .tuple #[.agg #[.bool false, .slice aa la ca, .slice ab lb cb], .bool true]) (w := store3 w6 (w.heap.size + 1) (.bool false) (.slice aa la ca) (.slice ab lb cb)) (by simp [results, Tryz.results40, go_sem, u0, u1, u2]) rfl ⟨_, rfl, ⟨_, n, d, ⟨_, _, rfl, (unhide HS6).r.big _ _ _ ((unhide HN4).later (unhide HB6)), (unhide HS6).r.big _ _ _ ((unhide HD4).later (unhide HB6))⟩, unhide HLOW, rfl, (unhide HLT).1, (unhide HLT).2⟩, hb⟩
end Go.Proofs.YtimihoonnglniaaGreatDoor

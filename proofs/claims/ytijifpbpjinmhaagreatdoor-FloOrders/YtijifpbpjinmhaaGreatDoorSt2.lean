/- All blocks that a call owns, all Bigs beside them, in one. -/
import Derived.Test.YtijifpbpjinmhaaGreatDoorTx
import Derived.Test.YtijifpbpjinmhaaGreatDoorCmpMath
import Derived.Test.YtijifpbpjinmhaaGreatDoorX1
import Derived.Deep.RegionWith
import Derived.Deep.RegionLaw
import Derived.Deep.RegionHeld3
import Derived.Lib.ItoaMem
import Derived.Deep.Cut
set_option maxHeartbeats 4000000
set_option maxRecDepth 100000
namespace Go.Proofs.YtijifpbpjinmhaaGreatDoor
open Go.RowKit
/-- A box of two cells. -/
structure T2 (W : World) (g : Nat) (x y : Value) : Prop where
  c0 : W.cell? ⟨g, 0, none⟩ = some x
  c1 : W.cell? ⟨g, 1, none⟩ = some y
  f0 : W.frozen? ⟨g, 0, none⟩ = false
  f1 : W.frozen? ⟨g, 1, none⟩ = false
theorem T2.lt {W : World} {g : Nat} {x y : Value} (h : T2 W g x y) : g < W.heap.size := World.block_lt_of_cell? _ _ h.c0
theorem T2.later {W V : World} {g : Nat} {x y : Value} (h : T2 W g x y) (hb : Below W.heap.size W V) : T2 V g x y :=
  ⟨(hb.cell (p := ⟨g, 0, none⟩) h.lt).trans h.c0, (hb.cell (p := ⟨g, 1, none⟩) h.lt).trans h.c1, (hb.frozen (p := ⟨g, 0, none⟩) h.lt).trans h.f0, (hb.frozen (p := ⟨g, 1, none⟩) h.lt).trans h.f1⟩
theorem T2.otherAt {W : World} {g k o : Nat} {x y : Value} (h : T2 W g x y) (hk : g ≠ k) (u : Value) : T2 (W.setCell ⟨k, o, none⟩ u) g x y :=
  ⟨by rw [World.cell?_setCell_other _ _ _ _ (by intro e; exact hk (congrArg Addr.block e).symm)]; exact h.c0, by rw [World.cell?_setCell_other _ _ _ _ (by intro e; exact hk (congrArg Addr.block e).symm)]; exact h.c1, by rw [World.frozen?_setCell]; exact h.f0, by rw [World.frozen?_setCell]; exact h.f1⟩
/-- The argument and the result's box. -/
structure RS (w W : World) (x y : Value) : Prop where
  a : T2 W w.heap.size x y
  r : FBox W (w.heap.size + 1) (.bool false) (.slice none 0 0) (.slice none 0 0)
  below : Below w.heap.size w W
theorem RS.later {w W V : World} {x y : Value} (s : RS w W x y) (hb : Below W.heap.size W V) : RS w V x y := ⟨s.a.later hb, s.r.later hb, s.below.trans (hb.mono s.below.size)⟩
theorem RS.first (w : World) (x y : Value) : RS w ((w.alloc (.cells #[x, y] 23)).alloc (.cells #[.bool false, .slice none 0 0, .slice none 0 0] 98)) x y :=
  ⟨⟨by simp [go_sem], by simp [go_sem], by simp [go_sem], by simp [go_sem]⟩, ⟨by simp [go_sem], by simp [go_sem], by simp [go_sem], by simp [go_sem], by simp [go_sem], by simp [go_sem]⟩, ((Below.refl _ _).alloc (Nat.le_refl _) _).alloc (by simp) _⟩
theorem pow600 : 10 ^ 600 ≤ 1000000000 ^ 67 := pow_nine 600 67 (by decide)
/-- What Read answers where both texts are numbers. -/
theorem read_ok (num den : ByteArray) (b : Bool) (n d : Nat) (w : World) (hnum : num = sT b n) (hden : den = tb d) (hn : n < 10 ^ 600) (hd : d < 10 ^ 600) (hb0 : b = true → n ≠ 0) (hd0 : d ≠ 0) (hg : Nat.gcd n d = 1) :
    Calls Tryz.prog 71 #[.agg #[.string num, .string den]] w fun r w' => ∃ v, r = .returned (.tuple #[v, .bool true]) ∧ QOf w' v (Cub.valQ b n d) 67 ∧ Below w.heap.size w w' := by
  obtain ⟨V, hV⟩ : ∃ V, V = (w.alloc (.cells #[.string num, .string den] 23)).alloc (.cells #[.bool false, .slice none 0 0, .slice none 0 0] 98) := ⟨_, rfl⟩
  have HS : Hid (RS w V (.string num) (.string den)) := by rw [hV]; exact RS.first _ _ _
  have HV := hide hV
  have HC68 : Hid (Calls Tryz.prog 87 #[.string num] V fun e w' => e = .returned (.tuple #[.bool b, .string (tb n)]) ∧ w' = V) := by
    have := cutSign_any num V
    rw [hnum, neg_sT b n hn, dig_sT b n hn] at this
    rw [hnum]; exact this
  have HR1 : Hid (Calls Tryz.prog 88 #[.string (tb n)] V fun e w' => e = .returned (.bool true) ∧ w' = V) := by
    have := right_any (tb n) V (tb_size n hn)
    rwa [(tb_right n hn).1] at this
  have HR2 : Hid (Calls Tryz.prog 88 #[.string den] V fun e w' => e = .returned (.bool true) ∧ w' = V) := by
    have := right_any (tb d) V (tb_size d hd)
    rw [(tb_right d hd).1] at this
    rw [hden]; exact this
  have z1 : b = true → ((tb n).toList == [48]) = false := fun h => by rw [tb_eq48 n hn, beq_eq_false_iff_ne]; exact hb0 h
  have z2 : (den.toList == [48]) = false := by rw [hden, tb_eq48 d hd, beq_eq_false_iff_ne]; exact hd0
  have HB1 : Hid (∀ W, Calls Tryz.prog 32 #[.string (tb n)] W fun e w' => ∃ v, e = .returned v ∧ IsBig w' v n ∧ Below W.heap.size W w') := fun W => by
    have := bigText_any (tb n) W (by have := (tb_digs n hn).2; omega) (tb_digs n hn).1
    rwa [(tb_right n hn).2] at this
  have HB2 : Hid (∀ W, Calls Tryz.prog 32 #[.string den] W fun e w' => ∃ v, e = .returned v ∧ IsBig w' v d ∧ Below W.heap.size W w') := fun W => by
    have := bigText_any (tb d) W (by have := (tb_digs d hd).2; omega) (tb_digs d hd).1
    rw [(tb_right d hd).2] at this
    rw [hden]; exact this
  have p6 := pow600
  have HLT : Hid (n < 1000000000 ^ 67 ∧ d < 1000000000 ^ 67) := ⟨Nat.lt_of_lt_of_le hn p6, Nat.lt_of_lt_of_le hd p6⟩
  have HG : Hid (∀ W x y, IsBig W x n → IsBig W y d → Calls Tryz.prog 120 #[x, y] W fun e w' => ∃ a l c, e = .returned (.agg #[.slice a l c]) ∧ IsBig w' (.agg #[.slice a l c]) (Nat.gcd n d) ∧ Below W.heap.size W w') := fun W x y h1 h2 => gcdAns 67 (by decide) W x y n d h1 h2 (unhide HLT).1 (unhide HLT).2
  have HLOW : Hid (Cub.Low b n d) := ⟨by omega, hg, hb0⟩
  rw [hg] at HG
  have H1 : Hid (∀ W x, IsBig W x 1 → Calls Tryz.prog 121 #[x] W fun e w' => e = .returned (.bool true) ∧ Below W.heap.size W w') := fun W x h => isOne_any x 1 W h
  clear p6 hn hd hb0 hd0 hg hnum hden
  generalize tb n = ds at *
  go_enter Tryz.func71, Tryz.ntmps71
  go_upto_region 1 with fail
  rw [← unhide HV]
  clear hV HV
  have t0 := (unhide HS).a.c0; have t1 := (unhide HS).a.c1
  have HGOAL : True := trivial
  cases b with
  | true =>
    have z3 := z1 rfl
    go_upto_region 4 with (first
      | (go_at_call 87; go_must (refine (unhide HC68).mono ?_; rintro e w1 ⟨rfl, hw1⟩; obtain rfl : V = w1 := hw1.symm))
      | (go_at_call_of 88 (Value.string ds); go_must (refine (unhide HR1).mono ?_; rintro e w1 ⟨rfl, hw1⟩; obtain rfl : V = w1 := hw1.symm))
      | (go_at_call 88; go_must (refine (unhide HR2).mono ?_; rintro e w1 ⟨rfl, hw1⟩; obtain rfl : V = w1 := hw1.symm)))
    have HC : Hid (∀ U, Below V.heap.size V U → U.cell? ⟨w.heap.size, 1, none⟩ = some (.string den) ∧ w.heap.size < U.heap.size ∧ w.heap.size + 1 < U.heap.size) := fun U hb => by
      have s := (unhide HS).later hb
      exact ⟨s.a.c1, s.a.lt, s.r.lt⟩
    have zv := (unhide HC V (Below.refl _ _)).2
    clear t0
    go_region_held3 (fun w' => w'.cell? ⟨w.heap.size, 1, none⟩ = some (.string den)) (first | assumption | (simp [go_sem, *]; done) | (rw [World.cell?_setCell_other _ _ _ _ (by simp; omega), World.cell?_setCell_other _ _ _ _ (by simp; omega), World.cell?_setCell_other _ _ _ _ (by simp; omega)]; assumption)) ((first
      | (go_at_call_of 32 (Value.string ds); go_must (refine (unhide HB1 _).mono ?_; rintro e wa ⟨va, rfl, hva, hba⟩; obtain ⟨aa, la, ca, rfl⟩ := hva.shape; have HVA := hide hva; have HCA : Hid (Below V.heap.size V wa) := (by first | exact ((Below.refl V.heap.size V).drew).trans hba | exact (((Below.refl V.heap.size V).drew).alloc (by simp) _).trans (hba.mono (by simp))); (first | (have HN : Hid (FBox wa V.heap.size (.bool false) (.slice none 0 0) (.slice none 0 0)) := (FBox.new V.drew _ _ _).later hba; have nc0 := (unhide HN).c0; have nc1 := (unhide HN).c1; have nc2 := (unhide HN).c2; have nf0 := (unhide HN).f0; have nf1 := (unhide HN).f1; have nf2 := (unhide HN).f2) | skip); clear hva hba t1; obtain ⟨t1, za⟩ := unhide HC wa (unhide HCA)))
      | (go_at_call 32; go_must (refine (unhide HB2 _).mono ?_; rintro e wb ⟨vb, rfl, hvb, hbb⟩; obtain ⟨ab, lb, cb, rfl⟩ := hvb.shape; have HVB := hide hvb; have Htrue : Hid (Below wa.heap.size wa wb) := (by first | exact hbb | exact ((Below.refl _ _).alloc (Nat.le_refl _) _).trans (hbb.mono (by simp))); have HVA' := hide ((unhide HVA).later (unhide Htrue)); have HCB := hide ((unhide HCA).trans ((unhide Htrue).mono (unhide HCA).size)); (first | (have HN2 := hide ((unhide HN).later hbb); clear HN; have HN := HN2; clear HN2; clear nc0 nc1 nc2 nf0 nf1 nf2; have nc0 := (unhide HN).c0; have nc1 := (unhide HN).c1; have nc2 := (unhide HN).c2; have nf0 := (unhide HN).f0; have nf1 := (unhide HN).f1; have nf2 := (unhide HN).f2) | (have HN := hide ((FBox.new _ _ _ _).later hbb); have nc0 := (unhide HN).c0; have nc1 := (unhide HN).c1; have nc2 := (unhide HN).c2; have nf0 := (unhide HN).f0; have nf1 := (unhide HN).f1; have nf2 := (unhide HN).f2) | skip); clear hvb hbb t1; obtain ⟨t1, zb⟩ := unhide HC wb (unhide HCB)))))
    all_goals
      first
      | (obtain ⟨V4, hV4⟩ : ∃ V4, V4 = wb.alloc (.cells #[.bool true, .slice aa la ca, .slice ab lb cb] 98) := ⟨_, rfl⟩
         rw [← hV4]
         have hb : Below wb.heap.size wb V4 := by rw [hV4]; exact (Below.refl _ _).alloc (Nat.le_refl _) _
         have HS4 : Hid (RS w V4 (.string num) (.string den)) := ((unhide HS).later (unhide HCB)).later hb
         have HF4 : Hid (FBox V4 wb.heap.size (.bool true) (.slice aa la ca) (.slice ab lb cb)) := by rw [hV4]; exact FBox.new _ _ _ _
         have HN4 := hide ((unhide HVA').later hb)
         have HD4 := hide ((unhide HVB).later hb)
         have hgr : w.heap.size + 1 < wb.heap.size := zb.2
         clear hV4 hb zv za zb t1 HVA HVA' HVB HCA HCB Htrue HS HC
         generalize wb.heap.size = g6 at *)
      | (obtain ⟨V4, hV4⟩ : ∃ V4, V4 = ((wb.setCell ⟨V.heap.size, 0, none⟩ (.bool true)).setCell ⟨V.heap.size, 1, none⟩ (.slice aa la ca)).setCell ⟨V.heap.size, 2, none⟩ (.slice ab lb cb) := ⟨_, rfl⟩
         rw [← hV4]
         have hgr : w.heap.size + 1 < V.heap.size := zv.2
         have HF4 : Hid (FBox V4 V.heap.size (.bool true) (.slice aa la ca) (.slice ab lb cb)) := by rw [hV4]; exact (unhide HN).store _ _ _
         have HN4 : Hid (IsBig V4 (.agg #[.slice aa la ca]) n) := by rw [hV4]; exact (unhide HN).big _ _ _ (unhide HVA')
         have HD4 : Hid (IsBig V4 (.agg #[.slice ab lb cb]) d) := by rw [hV4]; exact (unhide HN).big _ _ _ (unhide HVB)
         have HS4 : Hid (RS w V4 (.string num) (.string den)) := by
           rw [hV4]
           have s := (unhide HS).later (unhide HCB)
           exact ⟨((s.a.otherAt (by omega) _).otherAt (by omega) _).otherAt (by omega) _, ((s.r.otherAt (by omega) _).otherAt (by omega) _).otherAt (by omega) _, below_store3 s.below (by omega) _ _ _⟩
         clear hV4 zv za zb t1 HVA HVA' HVB HCA HCB Htrue HS HC HN nc0 nc1 nc2 nf0 nf1 nf2
         generalize V.heap.size = g6 at *)
      | (obtain ⟨V4, hV4⟩ : ∃ V4, V4 = ((wb.setCell ⟨wa.heap.size, 0, none⟩ (.bool true)).setCell ⟨wa.heap.size, 1, none⟩ (.slice aa la ca)).setCell ⟨wa.heap.size, 2, none⟩ (.slice ab lb cb) := ⟨_, rfl⟩
         rw [← hV4]
         have hgr : w.heap.size + 1 < wa.heap.size := za.2
         have HF4 : Hid (FBox V4 wa.heap.size (.bool true) (.slice aa la ca) (.slice ab lb cb)) := by rw [hV4]; exact (unhide HN).store _ _ _
         have HN4 : Hid (IsBig V4 (.agg #[.slice aa la ca]) n) := by rw [hV4]; exact (unhide HN).big _ _ _ (unhide HVA')
         have HD4 : Hid (IsBig V4 (.agg #[.slice ab lb cb]) d) := by rw [hV4]; exact (unhide HN).big _ _ _ (unhide HVB)
         have HS4 : Hid (RS w V4 (.string num) (.string den)) := by
           rw [hV4]
           have s := (unhide HS).later (unhide HCB)
           exact ⟨((s.a.otherAt (by omega) _).otherAt (by omega) _).otherAt (by omega) _, ((s.r.otherAt (by omega) _).otherAt (by omega) _).otherAt (by omega) _, below_store3 s.below (by omega) _ _ _⟩
         clear hV4 zv za zb t1 HVA HVA' HVB HCA HCB Htrue HS HC HN nc0 nc1 nc2 nf0 nf1 nf2
         generalize wa.heap.size = g6 at *)
      have t0 := (unhide HF4).c0; have t1 := (unhide HF4).c1; have t2 := (unhide HF4).c2
      go_wp2_with (first
        | (go_at_call 120; go_must (refine (unhide HG _ _ _ (unhide HN4) (unhide HD4)).mono ?_; rintro e w5 ⟨ag, lg, cg, rfl, hv5, hb5⟩; have HG5 := hide hv5; have HB5 := hide hb5; clear hv5 hb5))
        | (go_at_call 121; go_must (refine (unhide H1 _ _ (unhide HG5)).mono ?_; rintro e w6 ⟨rfl, hb6⟩; have HB6 := hide ((unhide HB5).trans (hb6.mono (unhide HB5).size)); clear hb6 t0 t1 t2; have HS6 := hide ((unhide HS4).later (unhide HB6)); have HF6 := hide ((unhide HF4).later (unhide HB6)); have t0 := (unhide HF6).c0; have t1 := (unhide HF6).c1; have t2 := (unhide HF6).c2; have r0 := (unhide HS6).r.c0; have r1 := (unhide HS6).r.c1; have r2 := (unhide HS6).r.c2; have rf0 := (unhide HS6).r.f0; have rf1 := (unhide HS6).r.f1; have rf2 := (unhide HS6).r.f2)))
      have hS := (unhide HS6).r.store (.bool true) (.slice aa la ca) (.slice ab lb cb)
      have hb : Below w.heap.size w (store3 w6 (w.heap.size + 1) (.bool true) (.slice aa la ca) (.slice ab lb cb)) := below_store3 (unhide HS6).below (by omega) _ _ _
      have u0 := hS.c0; have u1 := hS.c1; have u2 := hS.c2
      exact bodyPost_ret (v := .tuple #[.agg #[.bool true, .slice aa la ca, .slice ab lb cb], .bool true]) (w := store3 w6 (w.heap.size + 1) (.bool true) (.slice aa la ca) (.slice ab lb cb)) (by simp [results, Tryz.results71, go_sem, u0, u1, u2]) rfl ⟨_, rfl, ⟨_, n, d, ⟨_, _, rfl, (unhide HS6).r.big _ _ _ ((unhide HN4).later (unhide HB6)), (unhide HS6).r.big _ _ _ ((unhide HD4).later (unhide HB6))⟩, unhide HLOW, rfl, (unhide HLT).1, (unhide HLT).2⟩, hb⟩
  | false =>
    clear z1
    go_upto_region 4 with (first
      | (go_at_call 87; go_must (refine (unhide HC68).mono ?_; rintro e w1 ⟨rfl, hw1⟩; obtain rfl : V = w1 := hw1.symm))
      | (go_at_call_of 88 (Value.string ds); go_must (refine (unhide HR1).mono ?_; rintro e w1 ⟨rfl, hw1⟩; obtain rfl : V = w1 := hw1.symm))
      | (go_at_call 88; go_must (refine (unhide HR2).mono ?_; rintro e w1 ⟨rfl, hw1⟩; obtain rfl : V = w1 := hw1.symm)))
    have HC : Hid (∀ U, Below V.heap.size V U → U.cell? ⟨w.heap.size, 1, none⟩ = some (.string den) ∧ w.heap.size < U.heap.size ∧ w.heap.size + 1 < U.heap.size) := fun U hb => by
      have s := (unhide HS).later hb
      exact ⟨s.a.c1, s.a.lt, s.r.lt⟩
    have zv := (unhide HC V (Below.refl _ _)).2
    clear t0
    go_region_held3 (fun w' => w'.cell? ⟨w.heap.size, 1, none⟩ = some (.string den)) (first | assumption | (simp [go_sem, *]; done) | (rw [World.cell?_setCell_other _ _ _ _ (by simp; omega), World.cell?_setCell_other _ _ _ _ (by simp; omega), World.cell?_setCell_other _ _ _ _ (by simp; omega)]; assumption)) ((first
      | (go_at_call_of 32 (Value.string ds); go_must (refine (unhide HB1 _).mono ?_; rintro e wa ⟨va, rfl, hva, hba⟩; obtain ⟨aa, la, ca, rfl⟩ := hva.shape; have HVA := hide hva; have HCA : Hid (Below V.heap.size V wa) := (by first | exact ((Below.refl V.heap.size V).drew).trans hba | exact (((Below.refl V.heap.size V).drew).alloc (by simp) _).trans (hba.mono (by simp))); (first | (have HN : Hid (FBox wa V.heap.size (.bool false) (.slice none 0 0) (.slice none 0 0)) := (FBox.new V.drew _ _ _).later hba; have nc0 := (unhide HN).c0; have nc1 := (unhide HN).c1; have nc2 := (unhide HN).c2; have nf0 := (unhide HN).f0; have nf1 := (unhide HN).f1; have nf2 := (unhide HN).f2) | skip); clear hva hba t1; obtain ⟨t1, za⟩ := unhide HC wa (unhide HCA)))
      | (go_at_call 32; go_must (refine (unhide HB2 _).mono ?_; rintro e wb ⟨vb, rfl, hvb, hbb⟩; obtain ⟨ab, lb, cb, rfl⟩ := hvb.shape; have HVB := hide hvb; have Hfalse : Hid (Below wa.heap.size wa wb) := (by first | exact hbb | exact ((Below.refl _ _).alloc (Nat.le_refl _) _).trans (hbb.mono (by simp))); have HVA' := hide ((unhide HVA).later (unhide Hfalse)); have HCB := hide ((unhide HCA).trans ((unhide Hfalse).mono (unhide HCA).size)); (first | (have HN2 := hide ((unhide HN).later hbb); clear HN; have HN := HN2; clear HN2; clear nc0 nc1 nc2 nf0 nf1 nf2; have nc0 := (unhide HN).c0; have nc1 := (unhide HN).c1; have nc2 := (unhide HN).c2; have nf0 := (unhide HN).f0; have nf1 := (unhide HN).f1; have nf2 := (unhide HN).f2) | (have HN := hide ((FBox.new _ _ _ _).later hbb); have nc0 := (unhide HN).c0; have nc1 := (unhide HN).c1; have nc2 := (unhide HN).c2; have nf0 := (unhide HN).f0; have nf1 := (unhide HN).f1; have nf2 := (unhide HN).f2) | skip); clear hvb hbb t1; obtain ⟨t1, zb⟩ := unhide HC wb (unhide HCB)))))
    all_goals
      first
      | (obtain ⟨V4, hV4⟩ : ∃ V4, V4 = wb.alloc (.cells #[.bool false, .slice aa la ca, .slice ab lb cb] 98) := ⟨_, rfl⟩
         rw [← hV4]
         have hb : Below wb.heap.size wb V4 := by rw [hV4]; exact (Below.refl _ _).alloc (Nat.le_refl _) _
         have HS4 : Hid (RS w V4 (.string num) (.string den)) := ((unhide HS).later (unhide HCB)).later hb
         have HF4 : Hid (FBox V4 wb.heap.size (.bool false) (.slice aa la ca) (.slice ab lb cb)) := by rw [hV4]; exact FBox.new _ _ _ _
         have HN4 := hide ((unhide HVA').later hb)
         have HD4 := hide ((unhide HVB).later hb)
         have hgr : w.heap.size + 1 < wb.heap.size := zb.2
         clear hV4 hb zv za zb t1 HVA HVA' HVB HCA HCB Hfalse HS HC
         generalize wb.heap.size = g6 at *)
      | (obtain ⟨V4, hV4⟩ : ∃ V4, V4 = ((wb.setCell ⟨V.heap.size, 0, none⟩ (.bool false)).setCell ⟨V.heap.size, 1, none⟩ (.slice aa la ca)).setCell ⟨V.heap.size, 2, none⟩ (.slice ab lb cb) := ⟨_, rfl⟩
         rw [← hV4]
         have hgr : w.heap.size + 1 < V.heap.size := zv.2
         have HF4 : Hid (FBox V4 V.heap.size (.bool false) (.slice aa la ca) (.slice ab lb cb)) := by rw [hV4]; exact (unhide HN).store _ _ _
         have HN4 : Hid (IsBig V4 (.agg #[.slice aa la ca]) n) := by rw [hV4]; exact (unhide HN).big _ _ _ (unhide HVA')
         have HD4 : Hid (IsBig V4 (.agg #[.slice ab lb cb]) d) := by rw [hV4]; exact (unhide HN).big _ _ _ (unhide HVB)
         have HS4 : Hid (RS w V4 (.string num) (.string den)) := by
           rw [hV4]
           have s := (unhide HS).later (unhide HCB)
           exact ⟨((s.a.otherAt (by omega) _).otherAt (by omega) _).otherAt (by omega) _, ((s.r.otherAt (by omega) _).otherAt (by omega) _).otherAt (by omega) _, below_store3 s.below (by omega) _ _ _⟩
         clear hV4 zv za zb t1 HVA HVA' HVB HCA HCB Hfalse HS HC HN nc0 nc1 nc2 nf0 nf1 nf2
         generalize V.heap.size = g6 at *)
      | (obtain ⟨V4, hV4⟩ : ∃ V4, V4 = ((wb.setCell ⟨wa.heap.size, 0, none⟩ (.bool false)).setCell ⟨wa.heap.size, 1, none⟩ (.slice aa la ca)).setCell ⟨wa.heap.size, 2, none⟩ (.slice ab lb cb) := ⟨_, rfl⟩
         rw [← hV4]
         have hgr : w.heap.size + 1 < wa.heap.size := za.2
         have HF4 : Hid (FBox V4 wa.heap.size (.bool false) (.slice aa la ca) (.slice ab lb cb)) := by rw [hV4]; exact (unhide HN).store _ _ _
         have HN4 : Hid (IsBig V4 (.agg #[.slice aa la ca]) n) := by rw [hV4]; exact (unhide HN).big _ _ _ (unhide HVA')
         have HD4 : Hid (IsBig V4 (.agg #[.slice ab lb cb]) d) := by rw [hV4]; exact (unhide HN).big _ _ _ (unhide HVB)
         have HS4 : Hid (RS w V4 (.string num) (.string den)) := by
           rw [hV4]
           have s := (unhide HS).later (unhide HCB)
           exact ⟨((s.a.otherAt (by omega) _).otherAt (by omega) _).otherAt (by omega) _, ((s.r.otherAt (by omega) _).otherAt (by omega) _).otherAt (by omega) _, below_store3 s.below (by omega) _ _ _⟩
         clear hV4 zv za zb t1 HVA HVA' HVB HCA HCB Hfalse HS HC HN nc0 nc1 nc2 nf0 nf1 nf2
         generalize wa.heap.size = g6 at *)
      have t0 := (unhide HF4).c0; have t1 := (unhide HF4).c1; have t2 := (unhide HF4).c2
      go_wp2_with (first
        | (go_at_call 120; go_must (refine (unhide HG _ _ _ (unhide HN4) (unhide HD4)).mono ?_; rintro e w5 ⟨ag, lg, cg, rfl, hv5, hb5⟩; have HG5 := hide hv5; have HB5 := hide hb5; clear hv5 hb5))
        | (go_at_call 121; go_must (refine (unhide H1 _ _ (unhide HG5)).mono ?_; rintro e w6 ⟨rfl, hb6⟩; have HB6 := hide ((unhide HB5).trans (hb6.mono (unhide HB5).size)); clear hb6 t0 t1 t2; have HS6 := hide ((unhide HS4).later (unhide HB6)); have HF6 := hide ((unhide HF4).later (unhide HB6)); have t0 := (unhide HF6).c0; have t1 := (unhide HF6).c1; have t2 := (unhide HF6).c2; have r0 := (unhide HS6).r.c0; have r1 := (unhide HS6).r.c1; have r2 := (unhide HS6).r.c2; have rf0 := (unhide HS6).r.f0; have rf1 := (unhide HS6).r.f1; have rf2 := (unhide HS6).r.f2)))
      have hS := (unhide HS6).r.store (.bool false) (.slice aa la ca) (.slice ab lb cb)
      have hb : Below w.heap.size w (store3 w6 (w.heap.size + 1) (.bool false) (.slice aa la ca) (.slice ab lb cb)) := below_store3 (unhide HS6).below (by omega) _ _ _
      have u0 := hS.c0; have u1 := hS.c1; have u2 := hS.c2
      exact bodyPost_ret (v := .tuple #[.agg #[.bool false, .slice aa la ca, .slice ab lb cb], .bool true]) (w := store3 w6 (w.heap.size + 1) (.bool false) (.slice aa la ca) (.slice ab lb cb)) (by simp [results, Tryz.results71, go_sem, u0, u1, u2]) rfl ⟨_, rfl, ⟨_, n, d, ⟨_, _, rfl, (unhide HS6).r.big _ _ _ ((unhide HN4).later (unhide HB6)), (unhide HS6).r.big _ _ _ ((unhide HD4).later (unhide HB6))⟩, unhide HLOW, rfl, (unhide HLT).1, (unhide HLT).2⟩, hb⟩
theorem sub_any (x y : Value) (m n k : Nat) (w : World) (hx : IsBig w x m) (hy : IsBig w y n) (hk : k ≤ 1000000) (hm : m < 1000000000 ^ k) (hle : n ≤ m) :
    Calls Tryz.prog 162 #[x, y] w fun e w' => ∃ v, e = .returned v ∧ IsBig w' v (m - n) ∧ Below w.heap.size w w' := by
  obtain ⟨ap, lp, cp, rfl, hlp, hrp, hnp, rfl⟩ := hx.form
  obtain ⟨aq, lq, cq, rfl, hlq, hrq, hnq, rfl⟩ := hy.form
  have h1 := Cub.len_le hnp hm
  have h2 := norm9_len_le hnp.1 hnq hle
  have HP : Hid (lp.length = lp.length ∧ Cub.limbs 1000000000 lp ∧ Cells w ap lp) := ⟨rfl, hnp.1, hrp.cells.2.2.2⟩
  have HQ : Hid (Cub.limbs 1000000000 lq ∧ Cells w aq lq) := ⟨hnq.1, hrq.cells.2.2.2⟩
  have HLE := hide hle
  obtain ⟨np, hnp'⟩ : ∃ np, np = lp.length := ⟨_, rfl⟩
  obtain ⟨nq, hnq'⟩ : ∃ nq, nq = lq.length := ⟨_, rfl⟩
  rw [← hnp'] at h1 h2 ⊢
  rw [← hnq'] at h2 ⊢
  have HNP := hide hnp'
  have HNQ := hide hnq'
  clear hx hy hm hle hlp hlq hrp hrq hnp hnq hnp' hnq'
  obtain ⟨i0, hi, hz0, hz1, hz2⟩ := info_parts Tryz.info41
  go_enter Tryz.func162, Tryz.ntmps162
  go_wp2_with (first
    | (at_make; go_must (refine wpList_make_full _ rfl _ _ 49 rfl (w.heap.size + 3) 41 i0 (.int .u64 0) 1 Tryz.underlying49 hi hz0 hz1 .i64 .i64 _ _ np rfl rfl (by omega) (by omega) (by rw [hz2]; omega) (by unfold maxLen; omega) (by simp) ?_; intro w4 hown4 hgrow4; rw [u64s_made] at hown4; have hO4 : Own w4 (w.heap.size + 1 + 1 + 1) (List.replicate np 0) := (by have := Own.of_row hown4; simpa using this); have hB4 := boxes3 ((Below.refl (w.heap.size + 3) _).grown hgrow4 (by simp) (fun k hk => by cases hk)); have bp4 := hB4.c1; have HO4 := hide hO4; have HB4 := hide hB4; clear hown4 hgrow4 hO4 hB4))
    | (go_at_call 199; go_must (refine (takeAway_any (w.heap.size + 1 + 1 + 1) np np lp lq aq nq cq 1 _ (unhide HO5) (unhide HNP) (by omega) (unhide HP).2.1 (unhide HNQ) h2 (unhide HQ).1 (Nat.le_refl _) (by decide) (fun W hW i hi => (unhide HQ).2 W ((unhide HB5).below.trans (hW.mono (by omega))) i hi)).mono ?_; rintro e w6 ⟨mi, F, rfl, hO6, hF6, hlF6, hv6, hmi6, hb6⟩; have HB6 := hide ((unhide HB5).on (hb6.mono (show w.heap.size + 3 ≤ w.heap.size + 1 + 1 + 1 by omega))); have HO6 := hide (And.intro hO6 (And.intro hF6 hlF6)); have HV6 := hide hv6; clear hO6 hF6 hlF6 hv6 hb6 bp5 bq5))
    | (go_at_call 78; go_must (refine (trim_any _ F _ ((unhide HO6).1.row np np (unhide HO6).2.1.symm (Nat.le_refl _) (by unfold maxLen; omega))).mono ?_; rintro e w7 ⟨v', rfl, hrow7, hb7⟩; obtain ⟨a7, cap7, rfl, hcap7⟩ := hrow7.form; obtain ⟨hc7, hf7⟩ := box_later hb7 (g := w.heap.size + 1 + 1) (by have := (unhide HB6).size; omega) (unhide HB6).c3 (unhide HB6).f3))
    | (refine wpList_copy_splice rfl _ _ 49 49 rfl 41 Tryz.underlying49 Tryz.size41 _ _ _ _ _ _ rfl rfl (w.heap.size + 1 + 1 + 1) 0 (u64s (List.replicate np 0)) 41 (unhide HO4) (u64s lp) (by rw [u64s_length, ← unhide HNP]; exact (Nat.min_self np).symm) (fun h0 => ⟨by simp, (unhide HP).2.2.src (unhide HB4).below (by rw [u64s_length] at h0; exact h0)⟩) (by rw [u64s_length, u64s_length, List.length_replicate, ← unhide HNP]; omega) (u64s_one lp) (w.heap.size + 3) w4 (Below.refl _ _) (Nat.le_refl _) ?_; intro w5 hO5 hb5; rw [splice_all lp np (unhide HNP)] at hO5; have HO5 := hO5; have HB5 := hide ((unhide HB4).on hb5); have bp5 := (unhide HB5).c1; have bq5 := (unhide HB5).c2; clear hb5 HO4 HB4 bp4 hO5))
  obtain ⟨t1, t2, _⟩ := Cub.lval_trim 1000000000 _ F rfl
  refine bodyPost_ret (v := .agg #[.slice a7 (Cub.trimN F).length cap7]) (by simp [results, Tryz.results162, go_sem, hc7]) rfl ⟨_, rfl, ?_, ?_⟩
  · refine ⟨_, _, rfl, hrow7.box _ hc7 (no_int _ _ _), t2 (unhide HO6).2.2, ?_⟩
    rw [t1]; exact sub_last (unhide HO6).2.2 (unhide HO6).2.1 (unhide HV6) (unhide HLE)
  · exact ((unhide HB6).below.trans (hb7.mono (by have := (unhide HB6).size; omega))).setCell (p := ⟨w.heap.size + 1 + 1, 0, none⟩) (show w.heap.size ≤ w.heap.size + 1 + 1 by omega) _
theorem shift_any (x : Value) (m p k : Nat) (w : World) (hx : IsBig w x m) (hk : k ≤ 500000) (hm : m < 1000000000 ^ k) (hp : p ≤ 1000000) :
    Calls Tryz.prog 100 #[x, .int .i64 (p : Int)] w fun e w' => ∃ a n c, e = .returned (.agg #[.slice a n c]) ∧ IsBig w' (.agg #[.slice a n c]) (m * 10 ^ p) ∧ Below w.heap.size w w' := by
  have HX := hide hx
  obtain ⟨ap, lp, cp, rfl, hlp, hrp, hnp, hv⟩ := hx.form
  have h1 : lp.length ≤ k := Cub.len_le hnp (by rw [hv]; exact hm)
  have HZ := hide (fun W hW => isZero_any (.agg #[.slice ap lp.length cp]) m W hW)
  by_cases h0 : lp = []
  · have hm0 : m = 0 := by rw [← hv, h0]; rfl
    have e0 : (m == 0) = true := by rw [hm0]; rfl
    rw [e0] at HZ
    have e1 : m * 10 ^ p = m := by rw [hm0, Nat.zero_mul]
    rw [e1]
    generalize lp.length = np at *
    clear hv hm0 e0 e1 hx hm hlp hrp hnp h0
    go_enter Tryz.func100, Tryz.ntmps100
    go_wp2_with (go_at_call 85; refine (unhide HZ _ ((unhide HX).later ((((Below.refl _ _).alloc (Nat.le_refl _) _).alloc (by simp) _)))).mono ?_; rintro e w2 ⟨rfl, hb2⟩; have HB2 := hide (res1 (hb2.mono (by simp))); have b1 := (unhide HB2).c1; have b2 := (unhide HB2).c2; have f2 := (unhide HB2).f2)
    obtain ⟨r1, r2⟩ := (unhide HB2).done m ((unhide HX).later (unhide HB2).below)
    exact bodyPost_ret (v := .agg #[.slice ap np cp]) (by simp [results, Tryz.results100, go_sem, b2]) rfl ⟨_, _, _, rfl, r1, r2⟩
  · have hm0 : 0 < m := by
      rcases Nat.eq_zero_or_pos m with h | h
      · exact absurd ((Cub.normal_zero hnp (by decide)).1 (by rw [hv]; exact h)) h0
      · exact h
    have e0 : (m == 0) = false := by rw [beq_eq_false_iff_ne]; omega
    rw [e0] at HZ
    obtain ⟨wh, hwh⟩ : ∃ wh, wh = p / 9 := ⟨_, rfl⟩
    have hwb : wh ≤ 200000 := by omega
    have HH := hide (high_normal wh hnp h0)
    have hB : 1000000000 ^ wh * m < 1000000000 ^ (wh + k + 1) ∧ 10 ^ (p % 9) < 1000000000 ^ (wh + k + 1) := by
      refine ⟨?_, ?_⟩
      · rw [Nat.add_assoc, Nat.pow_add]
        refine Nat.mul_lt_mul_of_pos_left (Nat.lt_of_lt_of_le hm (Nat.pow_le_pow_right (by decide) (by omega))) (Nat.pow_pos (by decide))
      · have h3 : (10 : Nat) ^ (p % 9) < 10 ^ 9 := Nat.pow_lt_pow_right (by decide) (by omega)
        have h4 : (1000000000 : Nat) ^ 1 ≤ 1000000000 ^ (wh + k + 1) := Nat.pow_le_pow_right (by decide) (by omega)
        omega
    have hT : 10 ^ (p % 9) < 1000000000 := Nat.lt_of_lt_of_le (Nat.pow_lt_pow_right (by decide) (show p % 9 < 9 by omega)) (by decide)
    have H109 := hide (fun W => tenTo_any (p % 9) (10 ^ (p % 9)) W (by omega) rfl)
    have H68 := hide (fun W => bigOf_any (10 ^ (p % 9)) W (by omega))
    have H54 := hide (fun W x y (hx : IsBig W x (1000000000 ^ wh * m)) (hy : IsBig W y (10 ^ (p % 9))) => mulS x y (1000000000 ^ wh * m) (10 ^ (p % 9)) (m * 10 ^ p) (wh + k + 1) W hx hy (by omega) hB.1 hB.2 (by rw [hwh]; exact (shift_val m p).symm))
    have HP : Hid (Cells w ap lp) := hrp.cells.2.2.2
    have hnp1 : 0 < lp.length := List.length_pos_iff.2 h0
    obtain ⟨np, hnp'⟩ : ∃ np, np = lp.length := ⟨_, rfl⟩
    rw [← hnp'] at h1 hnp1 HX HZ ⊢
    have HNP := hide hnp'
    have HV := hide hv
    have HMOD : Hid ((p : Int) % 9 = ((p % 9 : Nat) : Int)) := (by omega : (p : Int) % 9 = ((p % 9 : Nat) : Int))
    have HDIV : Hid ((p : Int) / 9 = (wh : Int)) := (by omega : (p : Int) / 9 = (wh : Int))
    clear hwh
    generalize 10 ^ (p % 9) = T at *
    generalize m * 10 ^ p = R at *
    generalize hr9 : p % 9 = r9 at *
    clear hx hm hlp hrp hnp hnp' hv hB h0 e0
    obtain ⟨i0, hi, hz0, hz1, hz2⟩ := info_parts Tryz.info41
    go_enter Tryz.func100, Tryz.ntmps100
    go_upto_region 4 with (go_at_call 85; go_must (refine (unhide HZ _ ((unhide HX).later ((((Below.refl _ _).alloc (Nat.le_refl _) _).alloc (by simp) _)))).mono ?_; rintro e w2 ⟨rfl, hb2⟩; have HB2 := hide (res1 (hb2.mono (by simp))); have b1 := (unhide HB2).c1; have hs2 := (unhide HB2).size; clear hb2))
    rw [unhide HDIV]
    go_upto_region 5 with (at_make; go_must (refine wpList_make_full _ rfl _ _ 49 rfl (w.heap.size + 2) 41 i0 (.int .u64 0) 1 Tryz.underlying49 hi hz0 hz1 .i64 .i64 _ _ (wh + np) rfl rfl (by omega) (by omega) (by rw [hz2]; omega) (by unfold maxLen; omega) (by omega) ?_; intro w4 hown4 hgrow4; rw [u64s_made] at hown4; have HO4 : Hid (Own w4 w2.heap.size (List.replicate (wh + np) 0)) := Own.of_row hown4; have hb4 : Below w2.heap.size w2 w4 := (Below.refl _ _).grown hgrow4 (Nat.le_refl _) (fun k hk => by cases hk); have HB4 := hide ((unhide HB2).on (hb4.mono hs2)); have b4 := (unhide HB4).c1; clear hown4 hgrow4 b1))
    have hle : (wh : Int) ≤ (wh : Int) + (np : Int) := by omega
    have hnz : ¬ np = 0 := by omega
    go_region_law (refine step_copy_splice rfl (.tmp 20) (.tmp 22) 49 49 rfl 41 Tryz.underlying49 Tryz.size41 _ _ _ _ _ _ (by first | rfl | simp [Act.eval]) (by first | rfl | simp [Act.eval]) w2.heap.size wh (u64s (List.replicate (wh + np) 0)) 41 (unhide HO4) (u64s lp) (by rw [u64s_length, ← unhide HNP]; simp) (fun h0 => ⟨by simp, (unhide HP).src ((unhide HB4).below.drew) (by rw [u64s_length] at h0; exact h0)⟩) (by rw [u64s_length, u64s_length, List.length_replicate, ← unhide HNP]; omega) (u64s_one lp) w2.heap.size w4 ((Below.refl _ _).drew) (Nat.le_refl _) ?_; intro w5 hO5 hb5)
    all_goals (
      rw [splice_high lp np wh (unhide HNP)] at hO5
      have HB5 := hide ((unhide HB4).on (hb5.mono hs2))
      have HX5 : Hid (IsBig w5 (.agg #[.slice (some ⟨w2.heap.size, 0, none⟩) (wh + np) (wh + np)]) (1000000000 ^ wh * m)) := ⟨_, _, rfl, Own.row (unhide hO5) (wh + np) (wh + np) (by rw [List.length_append, List.length_replicate, ← unhide HNP]) (Nat.le_refl _) (by unfold maxLen; omega), (unhide HH).1, by rw [(unhide HH).2, unhide HV]⟩
      clear hO5 hb5 b4
      go_upto_region 6 with fail
      go_wp2_with (first
        | (go_at_call 151; go_must (rw [unhide HMOD]; refine (unhide H109 _).mono ?_; rintro e w' ⟨rfl, hw⟩; subst w'))
        | (go_at_call 73; go_must (refine (unhide H68 _).mono ?_; rintro e w6 ⟨a6, n6, c6, rfl, hbig6, hb6⟩; have HB6 := hide ((unhide HB5).on (hb6.mono (unhide HB5).size)); have HX6 := hide ((unhide HX5).later hb6); have HT6 := hide hbig6; clear hbig6 hb6))
        | (go_at_call 99; go_must (refine (unhide H54 _ _ _ (unhide HX6) (unhide HT6)).mono ?_; rintro e w7 ⟨a7, n7, c7, rfl, hbig7, hb7⟩; have HB7 := hide ((unhide HB6).on (hb7.mono (unhide HB6).size)); have HR7 := hide hbig7; clear hbig7 hb7; have b7 := (unhide HB7).c2; have f7 := (unhide HB7).f2)))
      obtain ⟨r1, r2⟩ := (unhide HB7).done R (unhide HR7)
      exact bodyPost_ret (v := .agg #[.slice a7 n7 c7]) (by simp [results, Tryz.results100, go_sem, b7]) rfl ⟨_, _, _, rfl, r1, r2⟩)
structure St (w : World) (bl : List (Nat × Nat × Array Value)) (bg : List (Value × Nat)) (W : World) : Prop where
  own : ∀ x ∈ bl, OwnU W x.1 x.2.1 x.2.2
  big : ∀ x ∈ bg, IsBig W x.1 x.2
  ne : bl.Pairwise fun x y => x.1 ≠ y.1
  low : ∀ x ∈ bl, w.heap.size ≤ x.1
  below : Below w.heap.size w W
variable {w W V : World} {bl : List (Nat × Nat × Array Value)} {bg : List (Value × Nat)}
theorem St.nil (h : Below w.heap.size w W) : St w [] [] W := ⟨fun _ h => by (cases h), fun _ h => (by cases h), List.Pairwise.nil, fun _ h => by (cases h), h⟩
theorem St.later (h : St w bl bg W) (hb : Below W.heap.size W V) : St w bl bg V :=
  ⟨fun x hx => (h.own x hx).later hb, fun x hx => (h.big x hx).later hb, h.ne, h.low, h.below.trans (hb.mono h.below.size)⟩
theorem St.new (h : St w bl bg W) (vs : Array Value) (ty : Nat) : St w ((W.heap.size, ty, vs) :: bl) bg (W.alloc (.cells vs ty)) := by
  have t := h.later (albel W (.cells vs ty))
  refine ⟨fun x hx => ?_, t.big, List.Pairwise.cons (fun y hy => Nat.ne_of_gt (h.own y hy).lt) h.ne, fun x hx => ?_, t.below⟩
  · rcases List.mem_cons.1 hx with rfl | hx
    · exact OwnU.new _ _ _
    · exact t.own x hx
  · rcases List.mem_cons.1 hx with rfl | hx
    · exact h.below.size
    · exact h.low x hx
theorem St.push (h : St w bl bg W) {v : Value} {n : Nat} (hv : IsBig W v n) : St w bl ((v, n) :: bg) W :=
  ⟨h.own, fun x hx => by rcases List.mem_cons.1 hx with rfl | hx; · exact hv
                         · exact h.big x hx, h.ne, h.low, h.below⟩
theorem St.rot {x : Nat × Nat × Array Value} (h : St w (x :: bl) bg W) : St w (bl ++ [x]) bg W :=
  ⟨fun y hy => h.own y (by simp at hy ⊢; exact hy.symm), h.big, by
    have := List.pairwise_cons.1 h.ne
    exact List.pairwise_append.2 ⟨this.2, List.pairwise_singleton _ _, fun a ha b hb => by rw [List.mem_singleton.1 hb]; exact (this.1 a ha).symm⟩, fun y hy => h.low y (by simp at hy ⊢; exact hy.symm), h.below⟩
theorem St.tail {x : Nat × Nat × Array Value} (h : St w (x :: bl) bg W) : St w bl bg W :=
  ⟨fun y hy => h.own y (List.mem_cons_of_mem _ hy), h.big, (List.pairwise_cons.1 h.ne).2, fun y hy => h.low y (List.mem_cons_of_mem _ hy), h.below⟩
theorem St.sw {x y : Nat × Nat × Array Value} (h : St w (x :: y :: bl) bg W) : St w (y :: x :: bl) bg W := by
  have p := List.pairwise_cons.1 h.ne
  have q := List.pairwise_cons.1 p.2
  have m : ∀ z, z ∈ y :: x :: bl → z ∈ x :: y :: bl := fun z hz => by simp at hz ⊢; rcases hz with h | h | h <;> simp [h]
  refine ⟨fun z hz => h.own z (m z hz), h.big, List.Pairwise.cons ?_ (List.Pairwise.cons (fun z hz => p.1 z (List.mem_cons_of_mem _ hz)) q.2), fun z hz => h.low z (m z hz), h.below⟩
  intro z hz
  rcases List.mem_cons.1 hz with rfl | hz
  · exact (p.1 y List.mem_cons_self).symm
  · exact q.1 z hz
theorem St.first (h : St w bl bg W) (n : Nat) : St w bl (bg.take n) W := ⟨h.own, fun x hx => h.big x (List.mem_of_mem_take hx), h.ne, h.low, h.below⟩
theorem St.no3 {x y z : Value × Nat} {l : List (Value × Nat)} (h : St w bl (x :: y :: z :: l) W) : St w bl (x :: y :: l) W := ⟨h.own, fun a ha => h.big a (by simp at ha ⊢; rcases ha with h | h | h <;> simp [h]), h.ne, h.low, h.below⟩
theorem St.set {g ty : Nat} {vs : Array Value} (h : St w ((g, ty, vs) :: bl) bg W) (hn : ∀ (i : Nat) x, vs[i]? = some x → ∀ k n, x ≠ .int k n) (us : Array Value) : St w ((g, ty, us) :: bl) bg (W.setRow g us) := by
  have ho := h.own _ List.mem_cons_self
  have hp := List.pairwise_cons.1 h.ne
  refine ⟨fun x hx => ?_, fun x hx => (h.big x hx).setRow ho hn us, List.Pairwise.cons hp.1 hp.2, fun x hx => ?_, below_setRow h.below (h.low _ List.mem_cons_self) _⟩
  · rcases List.mem_cons.1 hx with rfl | hx
    · exact ho.setRow us
    · exact (h.own x (List.mem_cons_of_mem _ hx)).other (Ne.symm (hp.1 x hx)) us
  · rcases List.mem_cons.1 hx with rfl | hx
    · exact h.low (g, ty, vs) List.mem_cons_self
    · exact h.low x (List.mem_cons_of_mem _ hx)
theorem St.at (h : St w bl bg W) (i : Nat) {g ty : Nat} {vs : Array Value} (e : bl[i]? = some (g, ty, vs)) : OwnU W g ty vs := h.own _ (List.mem_of_getElem? e)
theorem St.bgt (h : St w bl bg W) (i : Nat) {v : Value} {n : Nat} (e : bg[i]? = some (v, n)) : IsBig W v n := h.big _ (List.mem_of_getElem? e)
end Go.Proofs.YtijifpbpjinmhaaGreatDoor

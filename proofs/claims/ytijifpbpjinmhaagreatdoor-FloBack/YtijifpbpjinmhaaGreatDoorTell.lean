/- Frac.Tell. -/
import Derived.Test.YtijifpbpjinmhaaGreatDoorCut
import Derived.Test.YtijifpbpjinmhaaGreatDoorHas
set_option maxHeartbeats 4000000
set_option maxRecDepth 100000
namespace Go.Proofs.YtijifpbpjinmhaaGreatDoor
open Go.RowKit
def dv (t : ByteArray) : Nat := Cub.dval t.data.toList
theorem bareL_nat : ∀ l : List UInt8, Cub.digs l → l ≠ [] → Cub.isNat (bareL l) ∧ Cub.dval (bareL l) = Cub.dval l
  | [], _, h => absurd rfl h
  | [c], hd, _ => ⟨⟨hd, by simp [bareL], fun _ => by simp [bareL]⟩, rfl⟩
  | c :: d :: t, hd, _ => by
    rw [bareL]
    by_cases e : c = 48
    · rw [if_pos e]
      obtain ⟨h1, h2⟩ := bareL_nat (d :: t) (fun x hx => hd x (List.mem_cons_of_mem _ hx)) (by simp)
      refine ⟨h1, ?_⟩
      rw [h2, Cub.dval_cons c (d :: t), e]
      simp
    · rw [if_neg e]
      refine ⟨⟨hd, by simp, fun h => ?_⟩, rfl⟩
      simp at h
      exact absurd h e
theorem tx_of_nat {l : List UInt8} (h : Cub.isNat l) : (⟨l.toArray⟩ : ByteArray) = tx (Cub.dval l) := by
  unfold tx
  rw [Cub.dec_dval _ _ rfl h]
theorem ne_nil_of {t : ByteArray} (h : 0 < t.size) : t.data.toList ≠ [] := by
  intro e
  rw [← list_len, e] at h
  simp at h
theorem bareT_tx {t : ByteArray} (hd : Dg t) (h : 0 < t.size) : bareT t = tx (dv t) := by
  obtain ⟨h1, h2⟩ := bareL_nat _ hd (ne_nil_of h)
  unfold bareT dv
  rw [tx_of_nat h1, h2]
theorem trim_bare : ∀ l : List UInt8, l ≠ [] → (if (Lib.trimLeftB l 48).isEmpty then ([48] : List UInt8) else Lib.trimLeftB l 48) = bareL l
  | [], h => absurd rfl h
  | [c], _ => by
    unfold Lib.trimLeftB
    by_cases e : c = 48
    · subst e; simp [bareL]
    · simp [bareL, e]
  | c :: d :: t, _ => by
    have ih := trim_bare (d :: t) (by simp)
    rw [bareL]
    by_cases e : c = 48
    · rw [if_pos e, ← ih]
      subst e
      rfl
    · rw [if_neg e]
      unfold Lib.trimLeftB
      simp [e]
theorem natT_bare {t : ByteArray} (h : 0 < t.size) : natT t = bareT t := by
  have := trim_bare _ (ne_nil_of h)
  unfold natT bareT
  rw [← this]
  split <;> rfl
theorem natT_tx {t : ByteArray} (hd : Dg t) (h : 0 < t.size) : natT t = tx (dv t) := (natT_bare h).trans (bareT_tx hd h)
theorem tx_nought : tx 0 = ⟨#[48]⟩ := by
  unfold tx
  rw [Lib.decDigits]
  simp
theorem natT_nil {t : ByteArray} (h : t.size = 0) : natT t = tx 0 ∧ dv t = 0 ∧ bareT t = ⟨#[]⟩ := by
  have e : t.data.toList = [] := List.length_eq_zero_iff.1 (by rw [list_len]; exact h)
  unfold natT dv bareT
  rw [e, tx_nought]
  exact ⟨rfl, rfl, rfl⟩
theorem dg_append {t u : ByteArray} (h1 : Dg t) (h2 : Dg u) : Dg (t ++ u) := by
  unfold Dg
  have : (t ++ u).data.toList = t.data.toList ++ u.data.toList := by simp
  rw [this]
  exact Cub.digs_append.2 ⟨h1, h2⟩
/-- The text of a number says how great it is. -/
theorem tx_long (n k : Nat) (hk : 0 < k) : k < (tx n).size ↔ 10 ^ k ≤ n := by
  rw [← list_len, tx_list]
  have := Cub.dec_len_lt n k hk
  omega
theorem tx_is0 (n : Nat) : (tx n).toList = [48] ↔ n = 0 := by
  constructor
  · intro h
    have := tx_val n
    unfold val at this
    rw [← Lib.toList_data, h] at this
    rw [← this]; rfl
  · intro h; subst h; rw [Lib.toList_data, tx_nought]
theorem digit_val (c : UInt8) (h : 48 ≤ c.toNat ∧ c.toNat ≤ 57) : Lib.digitVal c = some (c.toNat - 48) := by
  unfold Lib.digitVal
  simp [h.1, h.2]
theorem dec_from : ∀ (l : List UInt8) (a : Nat), Cub.digs l → Lib.decFrom a l = some (l.foldl (fun n c => 10 * n + (c.toNat - 48)) a)
  | [], a, _ => rfl
  | c :: l, a, h => by
    rw [Lib.decFrom, digit_val c (h c (by simp))]
    simp only
    rw [dec_from l _ (fun x hx => h x (List.mem_cons_of_mem _ hx)), List.foldl_cons, Nat.mul_comm a 10]
theorem atoi_tx (n : Nat) : Lib.atoi (tx n).data.toList = some (n : Int) := by
  have hn := tx_nat n
  have hv := tx_val n
  unfold val at hv
  cases hq : (tx n).data.toList with
  | nil => exact absurd hq hn.2.1
  | cons c l =>
    rw [hq] at hn hv
    have hc := hn.1 c (by simp)
    have h1 : (c == 45) = false := by rw [beq_eq_false_iff_ne]; rintro rfl; exact absurd hc.1 (by decide)
    have h2 : (c == 43) = false := by rw [beq_eq_false_iff_ne]; rintro rfl; exact absurd hc.1 (by decide)
    rw [Lib.atoi, h1, h2]
    simp only [Bool.false_eq_true, if_false]
    unfold Lib.decNat
    rw [dec_from _ _ hn.1]
    unfold Cub.dval at hv
    rw [hv]
    rfl
theorem atoi_any (n : Nat) (h : n < 10000) (W : World) : Calls Tryz.prog 146 #[.string (tx n)] W fun e w' => e = .returned (.tuple #[.int .i64 (n : Int), .nilIface]) ∧ Below W.heap.size W w' := by
  have hs : (tx n).size ≤ 18 := by
    have h1 : ¬ 4 < (tx n).size := fun hh => by have := (tx_long n 4 (by decide)).1 hh; omega
    omega
  refine (Tryz.strconv_Atoi (tx n) (n : Int) hs (atoi_tx n) W).mono ?_
  rintro e w' ⟨rfl, t, rfl⟩
  exact ⟨rfl, Lib.bytesWorld_below W 5 t⟩
/-- A box of two cells. -/
structure T2 (W : World) (g : Nat) (x y : Value) : Prop where
  c0 : W.cell? ⟨g, 0, none⟩ = some x
  c1 : W.cell? ⟨g, 1, none⟩ = some y
  f0 : W.frozen? ⟨g, 0, none⟩ = false
  f1 : W.frozen? ⟨g, 1, none⟩ = false
theorem T2.lt {W : World} {g : Nat} {x y : Value} (h : T2 W g x y) : g < W.heap.size := World.block_lt_of_cell? _ _ h.c0
theorem T2.later {W V : World} {g : Nat} {x y : Value} (h : T2 W g x y) (hb : Below W.heap.size W V) : T2 V g x y :=
  ⟨(hb.cell (p := ⟨g, 0, none⟩) h.lt).trans h.c0, (hb.cell (p := ⟨g, 1, none⟩) h.lt).trans h.c1, (hb.frozen (p := ⟨g, 0, none⟩) h.lt).trans h.f0, (hb.frozen (p := ⟨g, 1, none⟩) h.lt).trans h.f1⟩
theorem T2.otherAt {W : World} {g k o : Nat} {x y : Value} (h : T2 W g x y) (hk : g ≠ k) (u : Value) : T2 (W.setCell ⟨k, o, none⟩ u) g x y :=
  ⟨by rw [World.cell?_setCell_other _ _ _ _ (by intro e; exact hk (congrArg Addr.block e).symm)]; exact h.c0, by rw [World.cell?_setCell_other _ _ _ _ (by intro e; exact hk (congrArg Addr.block e).symm)]; exact h.c1, by rw [World.frozen?_setCell]; exact h.f0, by rw [World.frozen?_setCell]; exact h.f1⟩
/-- The argument and the result's box. -/
structure RS (w W : World) (x y : Value) : Prop where
  a : T2 W w.heap.size x y
  r : FBox W (w.heap.size + 1) (.bool false) (.slice none 0 0) (.slice none 0 0)
  below : Below w.heap.size w W
theorem RS.later {w W V : World} {x y : Value} (s : RS w W x y) (hb : Below W.heap.size W V) : RS w V x y := ⟨s.a.later hb, s.r.later hb, s.below.trans (hb.mono s.below.size)⟩
theorem RS.first (w : World) (x y : Value) : RS w ((w.alloc (.cells #[x, y] 23)).alloc (.cells #[.bool false, .slice none 0 0, .slice none 0 0] 98)) x y :=
  ⟨⟨by simp [go_sem], by simp [go_sem], by simp [go_sem], by simp [go_sem]⟩, ⟨by simp [go_sem], by simp [go_sem], by simp [go_sem], by simp [go_sem], by simp [go_sem], by simp [go_sem]⟩, ((Below.refl _ _).alloc (Nat.le_refl _) _).alloc (by simp) _⟩
theorem pow600 : 10 ^ 600 ≤ 1000000000 ^ 67 := pow_nine 600 67 (by decide)
/-- What Read answers where both texts are numbers. -/
theorem read_ok (num den : ByteArray) (b : Bool) (n d : Nat) (w : World) (hnum : num = sT b n) (hden : den = tb d) (hn : n < 10 ^ 600) (hd : d < 10 ^ 600) (hb0 : b = true → n ≠ 0) (hd0 : d ≠ 0) (hg : Nat.gcd n d = 1) :
    Calls Tryz.prog 71 #[.agg #[.string num, .string den]] w fun r w' => ∃ v, r = .returned (.tuple #[v, .bool true]) ∧ QOf w' v (Cub.valQ b n d) 67 ∧ Below w.heap.size w w' := by
  obtain ⟨V, hV⟩ : ∃ V, V = (w.alloc (.cells #[.string num, .string den] 23)).alloc (.cells #[.bool false, .slice none 0 0, .slice none 0 0] 98) := ⟨_, rfl⟩
  have HS : Hid (RS w V (.string num) (.string den)) := by rw [hV]; exact RS.first _ _ _
  have HV := hide hV
  have HC68 : Hid (Calls Tryz.prog 87 #[.string num] V fun e w' => e = .returned (.tuple #[.bool b, .string (tb n)]) ∧ w' = V) := by
    have := cutSign_any num V
    rw [hnum, neg_sT b n hn, dig_sT b n hn] at this
    rw [hnum]; exact this
  have HR1 : Hid (Calls Tryz.prog 88 #[.string (tb n)] V fun e w' => e = .returned (.bool true) ∧ w' = V) := by
    have := right_any (tb n) V (tb_size n hn)
    rwa [(tb_right n hn).1] at this
  have HR2 : Hid (Calls Tryz.prog 88 #[.string den] V fun e w' => e = .returned (.bool true) ∧ w' = V) := by
    have := right_any (tb d) V (tb_size d hd)
    rw [(tb_right d hd).1] at this
    rw [hden]; exact this
  have z1 : b = true → ((tb n).toList == [48]) = false := fun h => by rw [tb_eq48 n hn, beq_eq_false_iff_ne]; exact hb0 h
  have z2 : (den.toList == [48]) = false := by rw [hden, tb_eq48 d hd, beq_eq_false_iff_ne]; exact hd0
  have HB1 : Hid (∀ W, Calls Tryz.prog 32 #[.string (tb n)] W fun e w' => ∃ v, e = .returned v ∧ IsBig w' v n ∧ Below W.heap.size W w') := fun W => by
    have := bigText_any (tb n) W (by have := (tb_digs n hn).2; omega) (tb_digs n hn).1
    rwa [(tb_right n hn).2] at this
  have HB2 : Hid (∀ W, Calls Tryz.prog 32 #[.string den] W fun e w' => ∃ v, e = .returned v ∧ IsBig w' v d ∧ Below W.heap.size W w') := fun W => by
    have := bigText_any (tb d) W (by have := (tb_digs d hd).2; omega) (tb_digs d hd).1
    rw [(tb_right d hd).2] at this
    rw [hden]; exact this
  have p6 := pow600
  have HLT : Hid (n < 1000000000 ^ 67 ∧ d < 1000000000 ^ 67) := ⟨Nat.lt_of_lt_of_le hn p6, Nat.lt_of_lt_of_le hd p6⟩
  have HG : Hid (∀ W x y, IsBig W x n → IsBig W y d → Calls Tryz.prog 120 #[x, y] W fun e w' => ∃ a l c, e = .returned (.agg #[.slice a l c]) ∧ IsBig w' (.agg #[.slice a l c]) (Nat.gcd n d) ∧ Below W.heap.size W w') := fun W x y h1 h2 => gcdAns 67 (by decide) W x y n d h1 h2 (unhide HLT).1 (unhide HLT).2
  have HLOW : Hid (Cub.Low b n d) := ⟨by omega, hg, hb0⟩
  rw [hg] at HG
  have H1 : Hid (∀ W x, IsBig W x 1 → Calls Tryz.prog 121 #[x] W fun e w' => e = .returned (.bool true) ∧ Below W.heap.size W w') := fun W x h => isOne_any x 1 W h
  clear p6 hn hd hb0 hd0 hg hnum hden
  generalize tb n = ds at *
  go_enter Tryz.func71, Tryz.ntmps71
  go_upto_region 1 with fail
  rw [← unhide HV]
  clear hV HV
  have t0 := (unhide HS).a.c0; have t1 := (unhide HS).a.c1
  have HGOAL : True := trivial
  cases b with
  | true =>
    have z3 := z1 rfl
    go_upto_region 4 with (first
      | (go_at_call 87; go_must (refine (unhide HC68).mono ?_; rintro e w1 ⟨rfl, hw1⟩; obtain rfl : V = w1 := hw1.symm))
      | (go_at_call_of 88 (Value.string ds); go_must (refine (unhide HR1).mono ?_; rintro e w1 ⟨rfl, hw1⟩; obtain rfl : V = w1 := hw1.symm))
      | (go_at_call 88; go_must (refine (unhide HR2).mono ?_; rintro e w1 ⟨rfl, hw1⟩; obtain rfl : V = w1 := hw1.symm)))
    have HC : Hid (∀ U, Below V.heap.size V U → U.cell? ⟨w.heap.size, 1, none⟩ = some (.string den) ∧ w.heap.size < U.heap.size ∧ w.heap.size + 1 < U.heap.size) := fun U hb => by
      have s := (unhide HS).later hb
      exact ⟨s.a.c1, s.a.lt, s.r.lt⟩
    have zv := (unhide HC V (Below.refl _ _)).2
    clear t0
    go_region_held3 (fun w' => w'.cell? ⟨w.heap.size, 1, none⟩ = some (.string den)) (first | assumption | (simp [go_sem, *]; done) | (rw [World.cell?_setCell_other _ _ _ _ (by simp; omega), World.cell?_setCell_other _ _ _ _ (by simp; omega), World.cell?_setCell_other _ _ _ _ (by simp; omega)]; assumption)) ((first
      | (go_at_call_of 32 (Value.string ds); go_must (refine (unhide HB1 _).mono ?_; rintro e wa ⟨va, rfl, hva, hba⟩; obtain ⟨aa, la, ca, rfl⟩ := hva.shape; have HVA := hide hva; have HCA : Hid (Below V.heap.size V wa) := (by first | exact ((Below.refl V.heap.size V).drew).trans hba | exact (((Below.refl V.heap.size V).drew).alloc (by simp) _).trans (hba.mono (by simp))); (first | (have HN : Hid (FBox wa V.heap.size (.bool false) (.slice none 0 0) (.slice none 0 0)) := (FBox.new V.drew _ _ _).later hba; have nc0 := (unhide HN).c0; have nc1 := (unhide HN).c1; have nc2 := (unhide HN).c2; have nf0 := (unhide HN).f0; have nf1 := (unhide HN).f1; have nf2 := (unhide HN).f2) | skip); clear hva hba t1; obtain ⟨t1, za⟩ := unhide HC wa (unhide HCA)))
      | (go_at_call 32; go_must (refine (unhide HB2 _).mono ?_; rintro e wb ⟨vb, rfl, hvb, hbb⟩; obtain ⟨ab, lb, cb, rfl⟩ := hvb.shape; have HVB := hide hvb; have Htrue : Hid (Below wa.heap.size wa wb) := (by first | exact hbb | exact ((Below.refl _ _).alloc (Nat.le_refl _) _).trans (hbb.mono (by simp))); have HVA' := hide ((unhide HVA).later (unhide Htrue)); have HCB := hide ((unhide HCA).trans ((unhide Htrue).mono (unhide HCA).size)); (first | (have HN2 := hide ((unhide HN).later hbb); clear HN; have HN := HN2; clear HN2; clear nc0 nc1 nc2 nf0 nf1 nf2; have nc0 := (unhide HN).c0; have nc1 := (unhide HN).c1; have nc2 := (unhide HN).c2; have nf0 := (unhide HN).f0; have nf1 := (unhide HN).f1; have nf2 := (unhide HN).f2) | (have HN := hide ((FBox.new _ _ _ _).later hbb); have nc0 := (unhide HN).c0; have nc1 := (unhide HN).c1; have nc2 := (unhide HN).c2; have nf0 := (unhide HN).f0; have nf1 := (unhide HN).f1; have nf2 := (unhide HN).f2) | skip); clear hvb hbb t1; obtain ⟨t1, zb⟩ := unhide HC wb (unhide HCB)))))
    all_goals
      first
      | (obtain ⟨V4, hV4⟩ : ∃ V4, V4 = wb.alloc (.cells #[.bool true, .slice aa la ca, .slice ab lb cb] 98) := ⟨_, rfl⟩
         rw [← hV4]
         have hb : Below wb.heap.size wb V4 := by rw [hV4]; exact (Below.refl _ _).alloc (Nat.le_refl _) _
         have HS4 : Hid (RS w V4 (.string num) (.string den)) := ((unhide HS).later (unhide HCB)).later hb
         have HF4 : Hid (FBox V4 wb.heap.size (.bool true) (.slice aa la ca) (.slice ab lb cb)) := by rw [hV4]; exact FBox.new _ _ _ _
         have HN4 := hide ((unhide HVA').later hb)
         have HD4 := hide ((unhide HVB).later hb)
         have hgr : w.heap.size + 1 < wb.heap.size := zb.2
         clear hV4 hb zv za zb t1 HVA HVA' HVB HCA HCB Htrue HS HC
         generalize wb.heap.size = g6 at *)
      | (obtain ⟨V4, hV4⟩ : ∃ V4, V4 = ((wb.setCell ⟨V.heap.size, 0, none⟩ (.bool true)).setCell ⟨V.heap.size, 1, none⟩ (.slice aa la ca)).setCell ⟨V.heap.size, 2, none⟩ (.slice ab lb cb) := ⟨_, rfl⟩
         rw [← hV4]
         have hgr : w.heap.size + 1 < V.heap.size := zv.2
         have HF4 : Hid (FBox V4 V.heap.size (.bool true) (.slice aa la ca) (.slice ab lb cb)) := by rw [hV4]; exact (unhide HN).store _ _ _
         have HN4 : Hid (IsBig V4 (.agg #[.slice aa la ca]) n) := by rw [hV4]; exact (unhide HN).big _ _ _ (unhide HVA')
         have HD4 : Hid (IsBig V4 (.agg #[.slice ab lb cb]) d) := by rw [hV4]; exact (unhide HN).big _ _ _ (unhide HVB)
         have HS4 : Hid (RS w V4 (.string num) (.string den)) := by
           rw [hV4]
           have s := (unhide HS).later (unhide HCB)
           exact ⟨((s.a.otherAt (by omega) _).otherAt (by omega) _).otherAt (by omega) _, ((s.r.otherAt (by omega) _).otherAt (by omega) _).otherAt (by omega) _, below_store3 s.below (by omega) _ _ _⟩
         clear hV4 zv za zb t1 HVA HVA' HVB HCA HCB Htrue HS HC HN nc0 nc1 nc2 nf0 nf1 nf2
         generalize V.heap.size = g6 at *)
      | (obtain ⟨V4, hV4⟩ : ∃ V4, V4 = ((wb.setCell ⟨wa.heap.size, 0, none⟩ (.bool true)).setCell ⟨wa.heap.size, 1, none⟩ (.slice aa la ca)).setCell ⟨wa.heap.size, 2, none⟩ (.slice ab lb cb) := ⟨_, rfl⟩
         rw [← hV4]
         have hgr : w.heap.size + 1 < wa.heap.size := za.2
         have HF4 : Hid (FBox V4 wa.heap.size (.bool true) (.slice aa la ca) (.slice ab lb cb)) := by rw [hV4]; exact (unhide HN).store _ _ _
         have HN4 : Hid (IsBig V4 (.agg #[.slice aa la ca]) n) := by rw [hV4]; exact (unhide HN).big _ _ _ (unhide HVA')
         have HD4 : Hid (IsBig V4 (.agg #[.slice ab lb cb]) d) := by rw [hV4]; exact (unhide HN).big _ _ _ (unhide HVB)
         have HS4 : Hid (RS w V4 (.string num) (.string den)) := by
           rw [hV4]
           have s := (unhide HS).later (unhide HCB)
           exact ⟨((s.a.otherAt (by omega) _).otherAt (by omega) _).otherAt (by omega) _, ((s.r.otherAt (by omega) _).otherAt (by omega) _).otherAt (by omega) _, below_store3 s.below (by omega) _ _ _⟩
         clear hV4 zv za zb t1 HVA HVA' HVB HCA HCB Htrue HS HC HN nc0 nc1 nc2 nf0 nf1 nf2
         generalize wa.heap.size = g6 at *)
      have t0 := (unhide HF4).c0; have t1 := (unhide HF4).c1; have t2 := (unhide HF4).c2
      go_wp2_with (first
        | (go_at_call 120; go_must (refine (unhide HG _ _ _ (unhide HN4) (unhide HD4)).mono ?_; rintro e w5 ⟨ag, lg, cg, rfl, hv5, hb5⟩; have HG5 := hide hv5; have HB5 := hide hb5; clear hv5 hb5))
        | (go_at_call 121; go_must (refine (unhide H1 _ _ (unhide HG5)).mono ?_; rintro e w6 ⟨rfl, hb6⟩; have HB6 := hide ((unhide HB5).trans (hb6.mono (unhide HB5).size)); clear hb6 t0 t1 t2; have HS6 := hide ((unhide HS4).later (unhide HB6)); have HF6 := hide ((unhide HF4).later (unhide HB6)); have t0 := (unhide HF6).c0; have t1 := (unhide HF6).c1; have t2 := (unhide HF6).c2; have r0 := (unhide HS6).r.c0; have r1 := (unhide HS6).r.c1; have r2 := (unhide HS6).r.c2; have rf0 := (unhide HS6).r.f0; have rf1 := (unhide HS6).r.f1; have rf2 := (unhide HS6).r.f2)))
      have hS := (unhide HS6).r.store (.bool true) (.slice aa la ca) (.slice ab lb cb)
      have hb : Below w.heap.size w (store3 w6 (w.heap.size + 1) (.bool true) (.slice aa la ca) (.slice ab lb cb)) := below_store3 (unhide HS6).below (by omega) _ _ _
      have u0 := hS.c0; have u1 := hS.c1; have u2 := hS.c2
      exact bodyPost_ret (v := .tuple #[.agg #[.bool true, .slice aa la ca, .slice ab lb cb], .bool true]) (w := store3 w6 (w.heap.size + 1) (.bool true) (.slice aa la ca) (.slice ab lb cb)) (by simp [results, Tryz.results71, go_sem, u0, u1, u2]) rfl ⟨_, rfl, ⟨_, n, d, ⟨_, _, rfl, (unhide HS6).r.big _ _ _ ((unhide HN4).later (unhide HB6)), (unhide HS6).r.big _ _ _ ((unhide HD4).later (unhide HB6))⟩, unhide HLOW, rfl, (unhide HLT).1, (unhide HLT).2⟩, hb⟩
  | false =>
    clear z1
    go_upto_region 4 with (first
      | (go_at_call 87; go_must (refine (unhide HC68).mono ?_; rintro e w1 ⟨rfl, hw1⟩; obtain rfl : V = w1 := hw1.symm))
      | (go_at_call_of 88 (Value.string ds); go_must (refine (unhide HR1).mono ?_; rintro e w1 ⟨rfl, hw1⟩; obtain rfl : V = w1 := hw1.symm))
      | (go_at_call 88; go_must (refine (unhide HR2).mono ?_; rintro e w1 ⟨rfl, hw1⟩; obtain rfl : V = w1 := hw1.symm)))
    have HC : Hid (∀ U, Below V.heap.size V U → U.cell? ⟨w.heap.size, 1, none⟩ = some (.string den) ∧ w.heap.size < U.heap.size ∧ w.heap.size + 1 < U.heap.size) := fun U hb => by
      have s := (unhide HS).later hb
      exact ⟨s.a.c1, s.a.lt, s.r.lt⟩
    have zv := (unhide HC V (Below.refl _ _)).2
    clear t0
    go_region_held3 (fun w' => w'.cell? ⟨w.heap.size, 1, none⟩ = some (.string den)) (first | assumption | (simp [go_sem, *]; done) | (rw [World.cell?_setCell_other _ _ _ _ (by simp; omega), World.cell?_setCell_other _ _ _ _ (by simp; omega), World.cell?_setCell_other _ _ _ _ (by simp; omega)]; assumption)) ((first
      | (go_at_call_of 32 (Value.string ds); go_must (refine (unhide HB1 _).mono ?_; rintro e wa ⟨va, rfl, hva, hba⟩; obtain ⟨aa, la, ca, rfl⟩ := hva.shape; have HVA := hide hva; have HCA : Hid (Below V.heap.size V wa) := (by first | exact ((Below.refl V.heap.size V).drew).trans hba | exact (((Below.refl V.heap.size V).drew).alloc (by simp) _).trans (hba.mono (by simp))); (first | (have HN : Hid (FBox wa V.heap.size (.bool false) (.slice none 0 0) (.slice none 0 0)) := (FBox.new V.drew _ _ _).later hba; have nc0 := (unhide HN).c0; have nc1 := (unhide HN).c1; have nc2 := (unhide HN).c2; have nf0 := (unhide HN).f0; have nf1 := (unhide HN).f1; have nf2 := (unhide HN).f2) | skip); clear hva hba t1; obtain ⟨t1, za⟩ := unhide HC wa (unhide HCA)))
      | (go_at_call 32; go_must (refine (unhide HB2 _).mono ?_; rintro e wb ⟨vb, rfl, hvb, hbb⟩; obtain ⟨ab, lb, cb, rfl⟩ := hvb.shape; have HVB := hide hvb; have Hfalse : Hid (Below wa.heap.size wa wb) := (by first | exact hbb | exact ((Below.refl _ _).alloc (Nat.le_refl _) _).trans (hbb.mono (by simp))); have HVA' := hide ((unhide HVA).later (unhide Hfalse)); have HCB := hide ((unhide HCA).trans ((unhide Hfalse).mono (unhide HCA).size)); (first | (have HN2 := hide ((unhide HN).later hbb); clear HN; have HN := HN2; clear HN2; clear nc0 nc1 nc2 nf0 nf1 nf2; have nc0 := (unhide HN).c0; have nc1 := (unhide HN).c1; have nc2 := (unhide HN).c2; have nf0 := (unhide HN).f0; have nf1 := (unhide HN).f1; have nf2 := (unhide HN).f2) | (have HN := hide ((FBox.new _ _ _ _).later hbb); have nc0 := (unhide HN).c0; have nc1 := (unhide HN).c1; have nc2 := (unhide HN).c2; have nf0 := (unhide HN).f0; have nf1 := (unhide HN).f1; have nf2 := (unhide HN).f2) | skip); clear hvb hbb t1; obtain ⟨t1, zb⟩ := unhide HC wb (unhide HCB)))))
    all_goals
      first
      | (obtain ⟨V4, hV4⟩ : ∃ V4, V4 = wb.alloc (.cells #[.bool false, .slice aa la ca, .slice ab lb cb] 98) := ⟨_, rfl⟩
         rw [← hV4]
         have hb : Below wb.heap.size wb V4 := by rw [hV4]; exact (Below.refl _ _).alloc (Nat.le_refl _) _
         have HS4 : Hid (RS w V4 (.string num) (.string den)) := ((unhide HS).later (unhide HCB)).later hb
         have HF4 : Hid (FBox V4 wb.heap.size (.bool false) (.slice aa la ca) (.slice ab lb cb)) := by rw [hV4]; exact FBox.new _ _ _ _
         have HN4 := hide ((unhide HVA').later hb)
         have HD4 := hide ((unhide HVB).later hb)
         have hgr : w.heap.size + 1 < wb.heap.size := zb.2
         clear hV4 hb zv za zb t1 HVA HVA' HVB HCA HCB Hfalse HS HC
         generalize wb.heap.size = g6 at *)
      | (obtain ⟨V4, hV4⟩ : ∃ V4, V4 = ((wb.setCell ⟨V.heap.size, 0, none⟩ (.bool false)).setCell ⟨V.heap.size, 1, none⟩ (.slice aa la ca)).setCell ⟨V.heap.size, 2, none⟩ (.slice ab lb cb) := ⟨_, rfl⟩
         rw [← hV4]
         have hgr : w.heap.size + 1 < V.heap.size := zv.2
         have HF4 : Hid (FBox V4 V.heap.size (.bool false) (.slice aa la ca) (.slice ab lb cb)) := by rw [hV4]; exact (unhide HN).store _ _ _
         have HN4 : Hid (IsBig V4 (.agg #[.slice aa la ca]) n) := by rw [hV4]; exact (unhide HN).big _ _ _ (unhide HVA')
         have HD4 : Hid (IsBig V4 (.agg #[.slice ab lb cb]) d) := by rw [hV4]; exact (unhide HN).big _ _ _ (unhide HVB)
         have HS4 : Hid (RS w V4 (.string num) (.string den)) := by
           rw [hV4]
           have s := (unhide HS).later (unhide HCB)
           exact ⟨((s.a.otherAt (by omega) _).otherAt (by omega) _).otherAt (by omega) _, ((s.r.otherAt (by omega) _).otherAt (by omega) _).otherAt (by omega) _, below_store3 s.below (by omega) _ _ _⟩
         clear hV4 zv za zb t1 HVA HVA' HVB HCA HCB Hfalse HS HC HN nc0 nc1 nc2 nf0 nf1 nf2
         generalize V.heap.size = g6 at *)
      | (obtain ⟨V4, hV4⟩ : ∃ V4, V4 = ((wb.setCell ⟨wa.heap.size, 0, none⟩ (.bool false)).setCell ⟨wa.heap.size, 1, none⟩ (.slice aa la ca)).setCell ⟨wa.heap.size, 2, none⟩ (.slice ab lb cb) := ⟨_, rfl⟩
         rw [← hV4]
         have hgr : w.heap.size + 1 < wa.heap.size := za.2
         have HF4 : Hid (FBox V4 wa.heap.size (.bool false) (.slice aa la ca) (.slice ab lb cb)) := by rw [hV4]; exact (unhide HN).store _ _ _
         have HN4 : Hid (IsBig V4 (.agg #[.slice aa la ca]) n) := by rw [hV4]; exact (unhide HN).big _ _ _ (unhide HVA')
         have HD4 : Hid (IsBig V4 (.agg #[.slice ab lb cb]) d) := by rw [hV4]; exact (unhide HN).big _ _ _ (unhide HVB)
         have HS4 : Hid (RS w V4 (.string num) (.string den)) := by
           rw [hV4]
           have s := (unhide HS).later (unhide HCB)
           exact ⟨((s.a.otherAt (by omega) _).otherAt (by omega) _).otherAt (by omega) _, ((s.r.otherAt (by omega) _).otherAt (by omega) _).otherAt (by omega) _, below_store3 s.below (by omega) _ _ _⟩
         clear hV4 zv za zb t1 HVA HVA' HVB HCA HCB Hfalse HS HC HN nc0 nc1 nc2 nf0 nf1 nf2
         generalize wa.heap.size = g6 at *)
      have t0 := (unhide HF4).c0; have t1 := (unhide HF4).c1; have t2 := (unhide HF4).c2
      go_wp2_with (first
        | (go_at_call 120; go_must (refine (unhide HG _ _ _ (unhide HN4) (unhide HD4)).mono ?_; rintro e w5 ⟨ag, lg, cg, rfl, hv5, hb5⟩; have HG5 := hide hv5; have HB5 := hide hb5; clear hv5 hb5))
        | (go_at_call 121; go_must (refine (unhide H1 _ _ (unhide HG5)).mono ?_; rintro e w6 ⟨rfl, hb6⟩; have HB6 := hide ((unhide HB5).trans (hb6.mono (unhide HB5).size)); clear hb6 t0 t1 t2; have HS6 := hide ((unhide HS4).later (unhide HB6)); have HF6 := hide ((unhide HF4).later (unhide HB6)); have t0 := (unhide HF6).c0; have t1 := (unhide HF6).c1; have t2 := (unhide HF6).c2; have r0 := (unhide HS6).r.c0; have r1 := (unhide HS6).r.c1; have r2 := (unhide HS6).r.c2; have rf0 := (unhide HS6).r.f0; have rf1 := (unhide HS6).r.f1; have rf2 := (unhide HS6).r.f2)))
      have hS := (unhide HS6).r.store (.bool false) (.slice aa la ca) (.slice ab lb cb)
      have hb : Below w.heap.size w (store3 w6 (w.heap.size + 1) (.bool false) (.slice aa la ca) (.slice ab lb cb)) := below_store3 (unhide HS6).below (by omega) _ _ _
      have u0 := hS.c0; have u1 := hS.c1; have u2 := hS.c2
      exact bodyPost_ret (v := .tuple #[.agg #[.bool false, .slice aa la ca, .slice ab lb cb], .bool true]) (w := store3 w6 (w.heap.size + 1) (.bool false) (.slice aa la ca) (.slice ab lb cb)) (by simp [results, Tryz.results71, go_sem, u0, u1, u2]) rfl ⟨_, rfl, ⟨_, n, d, ⟨_, _, rfl, (unhide HS6).r.big _ _ _ ((unhide HN4).later (unhide HB6)), (unhide HS6).r.big _ _ _ ((unhide HD4).later (unhide HB6))⟩, unhide HLOW, rfl, (unhide HLT).1, (unhide HLT).2⟩, hb⟩
/-- What is told of a number: its two texts, or ErrLarge (7). -/
def Small (x : Rat) : Prop := x.num.natAbs < 10 ^ 600 ∧ x.den < 10 ^ 600
noncomputable def numT (x : Rat) : ByteArray := open Classical in if Small x then sT (decide (x < 0)) x.num.natAbs else ⟨#[]⟩
noncomputable def denT (x : Rat) : ByteArray := open Classical in if Small x then tb x.den else ⟨#[]⟩
noncomputable def errT (x : Rat) : Int := open Classical in if Small x then 0 else 7
/-- The argument and the box of the number. -/
structure TS (w W : World) (x y z : Value) : Prop where
  a : FBox W w.heap.size x y z
  r : T2 W (w.heap.size + 1) (.string ⟨#[]⟩) (.string ⟨#[]⟩)
  below : Below w.heap.size w W
theorem TS.later {w W V : World} {x y z : Value} (s : TS w W x y z) (hb : Below W.heap.size W V) : TS w V x y z := ⟨s.a.later hb, s.r.later hb, s.below.trans (hb.mono s.below.size)⟩
theorem TS.first (w : World) (x y z : Value) : TS w ((w.alloc (.cells #[x, y, z] 98)).alloc (.cells #[.string ⟨#[]⟩, .string ⟨#[]⟩] 23)) x y z :=
  ⟨⟨by simp [go_sem], by simp [go_sem], by simp [go_sem], by simp [go_sem], by simp [go_sem], by simp [go_sem]⟩, ⟨by simp [go_sem], by simp [go_sem], by simp [go_sem], by simp [go_sem]⟩, ((Below.refl _ _).alloc (Nat.le_refl _) _).alloc (by simp) _⟩
def store2 (W : World) (g : Nat) (x y : Value) : World := (W.setCell ⟨g, 0, none⟩ x).setCell ⟨g, 1, none⟩ y
theorem T2.store {W : World} {g : Nat} {x y : Value} (h : T2 W g x y) (x' y' : Value) : T2 (store2 W g x' y') g x' y' := by
  have a1 : (W.setCell ⟨g, 0, none⟩ x').cell? ⟨g, 1, none⟩ = some y := by rw [World.cell?_setCell_other _ _ _ _ (by simp)]; exact h.c1
  unfold store2
  refine ⟨?_, World.cell?_setCell_same _ _ _ a1, ?_, ?_⟩
  · rw [World.cell?_setCell_other _ _ _ _ (by simp)]; exact World.cell?_setCell_same _ _ _ h.c0
  · rw [World.frozen?_setCell, World.frozen?_setCell]; exact h.f0
  · rw [World.frozen?_setCell, World.frozen?_setCell]; exact h.f1
theorem below_store2 {B g : Nat} {w W : World} (h : Below B w W) (hg : B ≤ g) (x y : Value) : Below B w (store2 W g x y) :=
  (h.setCell (p := ⟨g, 0, none⟩) hg x).setCell (p := ⟨g, 1, none⟩) hg y
theorem tell_ok (v : Value) (b : Bool) (n d k : Nat) (w : World) (h : IsFrac w v b n d) (hk : k ≤ 1000000) (hnk : n < 1000000000 ^ k) (hdk : d < 1000000000 ^ k) (hn : n < 10 ^ 600) (hd : d < 10 ^ 600) (htab : Tab w) :
    Calls Tryz.prog 90 #[v] w fun r w' => r = .returned (.tuple #[.agg #[.string (sT b n), .string (tb d)], .int .i64 0]) ∧ Below w.heap.size w w' := by
  obtain ⟨a1, l1, c1, a2, l2, c2, rfl, h1, h2⟩ := h.form
  obtain ⟨V, hV⟩ : ∃ V, V = (w.alloc (.cells #[.bool b, .slice a1 l1 c1, .slice a2 l2 c2] 98)).alloc (.cells #[.string ⟨#[]⟩, .string ⟨#[]⟩] 23) := ⟨_, rfl⟩
  have HS : Hid (TS w V (.bool b) (.slice a1 l1 c1) (.slice a2 l2 c2)) := by rw [hV]; exact TS.first _ _ _ _
  have HV := hide hV
  have HLN : Hid (∀ W, Below V.heap.size V W → Calls Tryz.prog 136 #[.agg #[.slice a1 l1 c1]] W fun e w' => e = .returned (.int .i64 (Lib.nDigits n : Nat)) ∧ Below W.heap.size W w') := fun W hb => len_any _ n k W ((h1.later (unhide HS).below).later hb) hk hnk
  have HLD : Hid (∀ W, Below V.heap.size V W → Calls Tryz.prog 136 #[.agg #[.slice a2 l2 c2]] W fun e w' => e = .returned (.int .i64 (Lib.nDigits d : Nat)) ∧ Below W.heap.size W w') := fun W hb => len_any _ d k W ((h2.later (unhide HS).below).later hb) hk hdk
  have HTN : Hid (∀ W, Below V.heap.size V W → Calls Tryz.prog 39 #[.agg #[.slice a1 l1 c1]] W fun e w' => e = .returned (.string (tb n)) ∧ Below W.heap.size W w') := fun W hb => by
    have := text_any _ n k W ((h1.later (unhide HS).below).later hb) hk hnk ((htab.later (unhide HS).below).later hb)
    rwa [show (⟨(Lib.decDigits n).toArray⟩ : ByteArray) = tb n from bytes_ext (by rw [tb_list n hn])] at this
  have HTD : Hid (∀ W, Below V.heap.size V W → Calls Tryz.prog 39 #[.agg #[.slice a2 l2 c2]] W fun e w' => e = .returned (.string (tb d)) ∧ Below W.heap.size W w') := fun W hb => by
    have := text_any _ d k W ((h2.later (unhide HS).below).later hb) hk hdk ((htab.later (unhide HS).below).later hb)
    rwa [show (⟨(Lib.decDigits d).toArray⟩ : ByteArray) = tb d from bytes_ext (by rw [tb_list d hd])] at this
  have HSG : Hid (∀ W, Calls Tryz.prog 137 #[.bool b, .string (tb n)] W fun e w' => e = .returned (.string (sT b n)) ∧ w' = W) := fun W => signed_any b (tb n) W (by have := (tb_digs n hn).2; omega)
  have n1 : (Lib.nDigits n : Nat) ≤ 600 := (len600 n).2 hn
  have n2 : (Lib.nDigits d : Nat) ≤ 600 := (len600 d).2 hd
  clear h h1 h2 hk hnk hdk hn hd htab
  generalize (Lib.nDigits n : Nat) = L1 at *
  generalize (Lib.nDigits d : Nat) = L2 at *
  generalize sT b n = sn at *
  generalize tb n = tn at *
  generalize tb d = td at *
  have HC : Hid (∀ w', Below V.heap.size V w' → (w'.cell? ⟨w.heap.size, 0, none⟩ = some (.bool b) ∧ w'.cell? ⟨w.heap.size, 1, none⟩ = some (.slice a1 l1 c1) ∧ w'.cell? ⟨w.heap.size, 2, none⟩ = some (.slice a2 l2 c2)) ∧ w'.cell? ⟨w.heap.size + 1, 0, none⟩ = some (.string ⟨#[]⟩) ∧ w'.cell? ⟨w.heap.size + 1, 1, none⟩ = some (.string ⟨#[]⟩) ∧ w'.frozen? ⟨w.heap.size + 1, 0, none⟩ = false ∧ w'.frozen? ⟨w.heap.size + 1, 1, none⟩ = false) := fun U hb => by
    have s := (unhide HS).later hb
    exact ⟨⟨s.a.c0, s.a.c1, s.a.c2⟩, s.r.c0, s.r.c1, s.r.f0, s.r.f1⟩
  go_enter Tryz.func90, Tryz.ntmps90
  go_upto_region 1 with fail
  rw [← unhide HV]
  clear hV HV
  obtain ⟨⟨t0, t1, t2⟩, _⟩ := unhide HC V (Below.refl _ _)
  go_upto_region 3 with (first
    | (go_at_call_of 136 (Value.agg #[Value.slice a1 l1 c1]); go_must (refine (unhide HLN _ (Below.refl _ _)).mono ?_; rintro e w1 ⟨rfl, hb1⟩; have HB1 := hide hb1; clear hb1 t0 t1 t2; obtain ⟨⟨t0, t1, t2⟩, _⟩ := unhide HC w1 (unhide HB1)))
    | (go_at_call_of 136 (Value.agg #[Value.slice a2 l2 c2]); go_must (refine (unhide HLD _ (unhide HB1)).mono ?_; rintro e w2 ⟨rfl, hb2⟩; have HB2 := hide ((unhide HB1).trans (hb2.mono (unhide HB1).size)); clear hb2 t0 t1 t2; obtain ⟨⟨t0, t1, t2⟩, _⟩ := unhide HC w2 (unhide HB2))))
  have HBT : Hid (∀ U, Below w2.heap.size w2 U → Below V.heap.size V U) := fun U hb => (unhide HB2).trans (hb.mono (unhide HB2).size)
  go_region_held3 (fun w' => w'.cell? ⟨w.heap.size, 0, none⟩ = some (.bool b) ∧ w'.cell? ⟨w.heap.size, 1, none⟩ = some (.slice a1 l1 c1) ∧ w'.cell? ⟨w.heap.size, 2, none⟩ = some (.slice a2 l2 c2)) (first | assumption | (refine ⟨?_, ?_, ?_⟩ <;> first | assumption | (simp [go_sem, *]; done)) | (simp [go_sem, *]; done)) ((first
    | (go_at_call_of 39 (Value.agg #[Value.slice a1 l1 c1]); go_must (refine (unhide HTN _ (unhide HBT _ ((Below.refl _ _).drew))).mono ?_; rintro e w3 ⟨rfl, hb3⟩; have HB3 := hide (((Below.refl w2.heap.size w2).drew).trans hb3); clear hb3 t0 t1 t2; obtain ⟨⟨t0, t1, t2⟩, _⟩ := unhide HC w3 (unhide HBT _ (unhide HB3))))
    | (go_at_call 137; go_must (refine (unhide HSG _).mono ?_; rintro e w4 ⟨rfl, hw4⟩; obtain rfl : w3 = w4 := hw4.symm))
    | (go_at_call_of 39 (Value.agg #[Value.slice a2 l2 c2]); go_must (refine (unhide HTD _ (unhide HBT _ (unhide HB3))).mono ?_; rintro e w5 ⟨rfl, hb5⟩; have HB5 := hide ((unhide HB3).trans (hb5.mono (unhide HB3).size)); clear hb5 t0 t1 t2; obtain ⟨⟨t0, t1, t2⟩, r0, r1, rf0, rf1⟩ := unhide HC w5 (unhide HBT _ (unhide HB5))))))
  have HS5 := hide ((unhide HS).later (unhide HBT _ (unhide HB5)))
  clear r0 r1 rf0 rf1 t0 t1 t2
  have hS := (unhide HS5).r.store (.string sn) (.string td)
  have hb : Below w.heap.size w (store2 w5 (w.heap.size + 1) (.string sn) (.string td)) := below_store2 (unhide HS5).below (by omega) _ _
  obtain ⟨V9, hV9⟩ : ∃ V9, V9 = store2 w5 (w.heap.size + 1) (.string sn) (.string td) := ⟨_, rfl⟩
  have hV9' : V9 = (w5.setCell ⟨w.heap.size + 1, 0, none⟩ (.string sn)).setCell ⟨w.heap.size + 1, 1, none⟩ (.string td) := hV9
  have u0 := hS.c0; have u1 := hS.c1
  rw [← hV9] at u0 u1 hb
  rw [← hV9']
  have HB9 := hide hb
  clear hV9 hV9' hS hb
  go_wp2_with fail
  exact bodyPost_ret (v := .tuple #[.agg #[.string sn, .string td], .int .i64 0]) (by simp [results, Tryz.results90, go_sem, u0, u1]) rfl ⟨rfl, unhide HB9⟩
theorem tell_large (v : Value) (b : Bool) (n d k : Nat) (w : World) (h : IsFrac w v b n d) (hk : k ≤ 1000000) (hnk : n < 1000000000 ^ k) (hdk : d < 1000000000 ^ k) (hl : ¬ (n < 10 ^ 600 ∧ d < 10 ^ 600)) :
    Calls Tryz.prog 90 #[v] w fun r w' => r = .returned (.tuple #[.agg #[.string ⟨#[]⟩, .string ⟨#[]⟩], .int .i64 7]) ∧ Below w.heap.size w w' := by
  obtain ⟨a1, l1, c1, a2, l2, c2, rfl, h1, h2⟩ := h.form
  obtain ⟨V, hV⟩ : ∃ V, V = (w.alloc (.cells #[.bool b, .slice a1 l1 c1, .slice a2 l2 c2] 98)).alloc (.cells #[.string ⟨#[]⟩, .string ⟨#[]⟩] 23) := ⟨_, rfl⟩
  have HS : Hid (TS w V (.bool b) (.slice a1 l1 c1) (.slice a2 l2 c2)) := by rw [hV]; exact TS.first _ _ _ _
  have HV := hide hV
  have HLN : Hid (∀ W, Below V.heap.size V W → Calls Tryz.prog 136 #[.agg #[.slice a1 l1 c1]] W fun e w' => e = .returned (.int .i64 (Lib.nDigits n : Nat)) ∧ Below W.heap.size W w') := fun W hb => len_any _ n k W ((h1.later (unhide HS).below).later hb) hk hnk
  have HLD : Hid (∀ W, Below V.heap.size V W → Calls Tryz.prog 136 #[.agg #[.slice a2 l2 c2]] W fun e w' => e = .returned (.int .i64 (Lib.nDigits d : Nat)) ∧ Below W.heap.size W w') := fun W hb => len_any _ d k W ((h2.later (unhide HS).below).later hb) hk hdk
  have hl' : ¬ ((Lib.nDigits n : Nat) ≤ 600 ∧ (Lib.nDigits d : Nat) ≤ 600) := fun h => hl ⟨(len600 n).1 h.1, (len600 d).1 h.2⟩
  clear h h1 h2 hk hnk hdk hl
  generalize (Lib.nDigits n : Nat) = L1 at *
  generalize (Lib.nDigits d : Nat) = L2 at *
  have HC : Hid (∀ w', Below V.heap.size V w' → (w'.cell? ⟨w.heap.size, 0, none⟩ = some (.bool b) ∧ w'.cell? ⟨w.heap.size, 1, none⟩ = some (.slice a1 l1 c1) ∧ w'.cell? ⟨w.heap.size, 2, none⟩ = some (.slice a2 l2 c2)) ∧ w'.cell? ⟨w.heap.size + 1, 0, none⟩ = some (.string ⟨#[]⟩) ∧ w'.cell? ⟨w.heap.size + 1, 1, none⟩ = some (.string ⟨#[]⟩) ∧ w'.frozen? ⟨w.heap.size + 1, 0, none⟩ = false ∧ w'.frozen? ⟨w.heap.size + 1, 1, none⟩ = false) := fun U hb => by
    have s := (unhide HS).later hb
    exact ⟨⟨s.a.c0, s.a.c1, s.a.c2⟩, s.r.c0, s.r.c1, s.r.f0, s.r.f1⟩
  go_enter Tryz.func90, Tryz.ntmps90
  go_upto_region 1 with fail
  rw [← unhide HV]
  clear hV HV
  obtain ⟨⟨t0, t1, t2⟩, _⟩ := unhide HC V (Below.refl _ _)
  by_cases hq : L1 ≤ 600
  · have hq2 : ¬ L2 ≤ 600 := fun h => hl' ⟨hq, h⟩
    clear hl'
    go_wp2_with (first
      | (go_at_call_of 136 (Value.agg #[Value.slice a1 l1 c1]); go_must (refine (unhide HLN _ (Below.refl _ _)).mono ?_; rintro e w1 ⟨rfl, hb1⟩; have HB1 := hide hb1; clear hb1 t0 t1 t2; obtain ⟨⟨t0, t1, t2⟩, _⟩ := unhide HC w1 (unhide HB1)))
      | (go_at_call_of 136 (Value.agg #[Value.slice a2 l2 c2]); go_must (refine (unhide HLD _ (unhide HB1)).mono ?_; rintro e w2 ⟨rfl, hb2⟩; have HB2 := hide ((unhide HB1).trans (hb2.mono (unhide HB1).size)); clear hb2 t0 t1 t2; obtain ⟨⟨t0, t1, t2⟩, r0, r1, rf0, rf1⟩ := unhide HC w2 (unhide HB2))))
    have HS5 := hide ((unhide HS).later (unhide HB2))
    have hS := (unhide HS5).r.store (.string ⟨#[]⟩) (.string ⟨#[]⟩)
    have hb : Below w.heap.size w (store2 w2 (w.heap.size + 1) (.string ⟨#[]⟩) (.string ⟨#[]⟩)) := below_store2 (unhide HS5).below (by omega) _ _
    have u0 := hS.c0; have u1 := hS.c1
    exact bodyPost_ret (v := .tuple #[.agg #[.string ⟨#[]⟩, .string ⟨#[]⟩], .int .i64 7]) (w := store2 w2 (w.heap.size + 1) (.string ⟨#[]⟩) (.string ⟨#[]⟩)) (by simp [results, Tryz.results90, go_sem, u0, u1]) rfl ⟨rfl, hb⟩
  · clear hl'
    go_wp2_with (go_at_call_of 136 (Value.agg #[Value.slice a1 l1 c1]); go_must (refine (unhide HLN _ (Below.refl _ _)).mono ?_; rintro e w2 ⟨rfl, hb1⟩; have HB2 := hide hb1; clear hb1 t0 t1 t2; obtain ⟨⟨t0, t1, t2⟩, r0, r1, rf0, rf1⟩ := unhide HC w2 (unhide HB2)))
    have HS5 := hide ((unhide HS).later (unhide HB2))
    have hS := (unhide HS5).r.store (.string ⟨#[]⟩) (.string ⟨#[]⟩)
    have hb : Below w.heap.size w (store2 w2 (w.heap.size + 1) (.string ⟨#[]⟩) (.string ⟨#[]⟩)) := below_store2 (unhide HS5).below (by omega) _ _
    have u0 := hS.c0; have u1 := hS.c1
    exact bodyPost_ret (v := .tuple #[.agg #[.string ⟨#[]⟩, .string ⟨#[]⟩], .int .i64 7]) (w := store2 w2 (w.heap.size + 1) (.string ⟨#[]⟩) (.string ⟨#[]⟩)) (by simp [results, Tryz.results90, go_sem, u0, u1]) rfl ⟨rfl, hb⟩
/-- Frac.Tell, by the number's value. -/
theorem qtell (v : Value) (x : Rat) (k : Nat) (w : World) (h : QOf w v x k) (hk : k ≤ 1000000) (htab : Tab w) :
    Calls Tryz.prog 90 #[v] w fun r w' => r = .returned (.tuple #[.agg #[.string (numT x), .string (denT x)], .int .i64 (errT x)]) ∧ Below w.heap.size w w' := by
  obtain ⟨b, n, d, h1, h2, rfl, h4, h5⟩ := h
  obtain ⟨e1, e2, e3⟩ := Cub.low_is h2
  by_cases hs : Small (Cub.valQ b n d)
  · have hn : n < 10 ^ 600 := by rw [e2]; exact hs.1
    have hd : d < 10 ^ 600 := by rw [e3]; exact hs.2
    have := tell_ok v b n d k w h1 hk h4 h5 hn hd htab
    unfold numT denT errT
    rw [if_pos hs, if_pos hs, if_pos hs, ← e1, ← e2, ← e3]
    exact this
  · have := tell_large v b n d k w h1 hk h4 h5 (fun h => hs ⟨by rw [← e2]; exact h.1, by rw [← e3]; exact h.2⟩)
    unfold numT denT errT
    rw [if_neg hs, if_neg hs, if_neg hs]
    exact this
end Go.Proofs.YtijifpbpjinmhaaGreatDoor

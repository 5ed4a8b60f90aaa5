/- The document's Near (11) over all texts. -/
import Derived.Test.YtijifpbpjinmhaaGreatDoorOrd
import Derived.Laws.FloatArith
import Derived.Sort.OwnSorted
import Derived.Laws.AppendOwnNone
import Derived.WalkSmall
import Derived.BigQuiet
import Derived.Lib.SmallJoins
import Derived.OwnWalk
import Derived.Test.YtijifpbpjinmhaaGreatDoorS1
import Derived.Test.YtijifpbpjinmhaaGreatDoorWords
import Derived.Test.YtijifpbpjinmhaaGreatDoorParseP
import Derived.Test.YtijifpbpjinmhaaGreatDoorText
import Derived.Test.YtijifpbpjinmhaaGreatDoorFloor
import Derived.Test.YtijifpbpjinmhaaGreatDoorLimb2
import Derived.Test.YtijifpbpjinmhaaGreatDoorTell
set_option maxHeartbeats 4000000
set_option maxRecDepth 100000
namespace Go.Proofs.YtijifpbpjinmhaaGreatDoor
open Go.RowKit
/-- The bits, all that are no number read as one. -/
def nm (b : Nat) : Nat := if nanB b then 9221120237041090561 else b
/-- What an operation gives, read so. -/
def opN (op : BinOp) (x y : Nat) : Nat := match floatBits op .f64 x y with
  | some r => nm r
  | none => 9221120237041090561
/-- What it gives in a world, and the world behind it. -/
def vA (op : BinOp) (x y : Nat) (w : World) : Nat := match floatBits op .f64 x y with
  | some r => r
  | none => nanC (w.tape w.drawn (.nanBits .f64 x y))
def wA (op : BinOp) (x y : Nat) (w : World) : World := match floatBits op .f64 x y with
  | some _ => w
  | none => w.drew
theorem run_arith (op : BinOp) (t : TypeId) (P : Program) (w : World) (x y : Nat) (hop : op = .add ∨ op = .sub ∨ op = .mul) : (binOp op t (.float .f64 x) (.float .f64 y)).run P w = .ok (.float .f64 (vA op x y w)) (wA op x y w) := by
  unfold vA wA
  cases e : floatBits op .f64 x y with
  | some r => exact run_float_arith w op t .f64 x y r e
  | none =>
    rcases hop with rfl | rfl | rfl
    all_goals
      simp only [floatBits] at e
      first
      | show (Op.floatArith .add .f64 x y).run P w = _
      | show (Op.floatArith .sub .f64 x y).run P w = _
      | show (Op.floatArith .mul .f64 x y).run P w = _
      unfold Op.floatArith
      simp [e, Question.forced, Question.cut, nanC]
theorem run_sub (t : TypeId) (P : Program) (w : World) (x y : Nat) : (binOp .sub t (.float .f64 x) (.float .f64 y)).run P w = .ok (.float .f64 (vA .sub x y w)) (wA .sub x y w) := run_arith _ _ _ _ _ _ (Or.inr (Or.inl rfl))
def finB (b : Nat) : Bool := decide (b % 9223372036854775808 < 9218868437227405312)
def eP (b : Nat) : Nat := (evB b).toNat
def eN (b : Nat) : Nat := (-(evB b)).toNat
theorem fin_ev (b : Nat) (h : finB b = true) : -1074 ≤ evB b ∧ evB b ≤ 971 := by
  unfold finB at h
  have h := of_decide_eq_true h
  have hx : xpB b ≤ 2046 := by unfold xpB; omega
  unfold evB
  split <;> omega
theorem fin_mv (b : Nat) : mvB b < 9007199254740992 := by
  have hm : mtB b < 4503599627370496 := Nat.mod_lt _ (by decide)
  unfold mvB
  split <;> omega
theorem up600 (K E : Nat) (hK : K = 400) (hE : E = 600) : 10 ^ K ≤ 10 ^ E := Nat.pow_le_pow_right (by decide) (by omega)
theorem up620 (K E : Nat) (hK : K = 400) (hE : E = 600) : 10 ^ (20 + K) ≤ 10 ^ E := Nat.pow_le_pow_right (by decide) (by omega)
theorem two_e (b K : Nat) (hK : K = 400) (h : finB b = true) (W : World) : Calls Tryz.prog 74 #[.int .i64 (evB b)] W fun e w' => ∃ v, e = .returned v ∧ IsSz w' v (2 ^ eP b) (2 ^ eN b) ∧ Below W.heap.size W w' := by
  obtain ⟨h1, h2⟩ := fin_ev b h
  have p6 := pow600
  have p4 := up600 K 600 hK rfl
  have p2 : 2 < 1000000000 ^ 67 := Nat.lt_of_lt_of_le (by decide : 2 < 1000000000 ^ 1) (Nat.pow_le_pow_right (by decide) (by decide))
  by_cases hz : 0 ≤ evB b
  · have e1 : eN b = 0 := by unfold eN; omega
    have e2 : evB b = ((eP b : Nat) : Int) := by unfold eP; omega
    rw [e1, e2, Nat.pow_zero]
    exact twoToP (eP b) (2 ^ eP b) 67 (by unfold eP; omega) rfl (by omega) (by omega) (Nat.lt_of_lt_of_le (pow2_lt (eP b) K (by unfold eP; omega)) (Nat.le_trans p4 p6)) p2 W
  · have e1 : eP b = 0 := by unfold eP; omega
    have e2 : evB b = -((eN b : Nat) : Int) := by unfold eN; omega
    rw [e1, e2, Nat.pow_zero]
    exact twoToN (eN b) (2 ^ eN b) 67 (by unfold eN; omega) (by unfold eN; omega) rfl (by omega) (by omega) (Nat.lt_of_lt_of_le (pow2_lt (eN b) K (by unfold eN; omega)) (Nat.le_trans p4 p6)) p2 W
/-- A finite float's number. -/
def qB (b : Nat) : Rat := Cub.valQ (negB b) (mvB b * 2 ^ eP b) (2 ^ eN b)
theorem bnds (b K : Nat) (hK : K = 400) (h : finB b = true) : mvB b * 2 ^ eP b < 10 ^ 600 ∧ 2 ^ eP b < 10 ^ 600 ∧ 2 ^ eN b < 10 ^ 600 := by
  obtain ⟨h1, h2⟩ := fin_ev b h
  have hm := fin_mv b
  have p4 := up600 K 600 hK rfl
  have p5 := up620 K 600 hK rfl
  exact ⟨Nat.lt_of_lt_of_le (mulp_lt (mvB b) (eP b) K (by omega) (by unfold eP; omega)) p5, Nat.lt_of_lt_of_le (pow2_lt (eP b) K (by unfold eP; omega)) p4, Nat.lt_of_lt_of_le (pow2_lt (eN b) K (by unfold eN; omega)) p4⟩
theorem sT_eq (b : Bool) (n : Nat) : sT b n = if b then ⟨#[45]⟩ ++ tb n else tb n := rfl
/-- What Exact answers. -/
noncomputable def exV (b : Nat) : Value := if nanB b then .tuple #[.agg #[.string ⟨#[]⟩, .string ⟨#[]⟩], .int .i64 30] else if infB b then .tuple #[.agg #[.string ⟨#[]⟩, .string ⟨#[]⟩], .int .i64 31] else .tuple #[.agg #[.string (numT (qB b)), .string (denT (qB b))], .int .i64 (errT (qB b))]
theorem fin_of (b : Nat) (h1 : nanB b = false) (h2 : infB b = false) : finB b = true := by
  unfold nanB at h1; unfold infB at h2; unfold finB
  have h1 := of_decide_eq_false h1; have h2 := of_decide_eq_false h2
  exact decide_eq_true (by omega)
theorem exact_any (b : Nat) (hb : b < 18446744073709551616) (w : World) (htab : Tab w) : Calls Tryz.prog 14 #[.float .f64 b] w fun r w' => r = .returned (exV b) ∧ Below w.heap.size w w' := by
  obtain ⟨V, hV⟩ : ∃ V, V = w.alloc (.cells #[.string ⟨#[]⟩, .string ⟨#[]⟩] 23) := ⟨_, rfl⟩
  have HR : Hid (T2 V w.heap.size (.string ⟨#[]⟩) (.string ⟨#[]⟩)) := by rw [hV]; exact ⟨by simp [go_sem], by simp [go_sem], by simp [go_sem], by simp [go_sem]⟩
  have HB : Hid (Below w.heap.size w V) := by rw [hV]; exact (Below.refl _ _).alloc (Nat.le_refl _) _
  have HTW := hide htab
  have HN := hide (fun W => isNaN_any b W)
  have HI := hide (fun W => isInf_0 b hb W)
  have HV := hide hV
  clear hV htab
  unfold exV
  by_cases hn : nanB b = true
  · rw [hn] at HN ⊢
    rw [if_pos rfl]
    clear hn HI
    go_enter Tryz.func14, Tryz.ntmps14
    go_upto_region 1 with fail
    rw [← unhide HV]
    clear HV
    have q0 := (unhide HR).c0; have q1 := (unhide HR).c1; have f0 := (unhide HR).f0; have f1 := (unhide HR).f1
    go_wp2_with (go_at_call 36; refine (unhide HN _).mono ?_; rintro e w1 ⟨rfl, hw⟩; obtain rfl : V = w1 := hw.symm)
    have hS := (unhide HR).store (.string ⟨#[]⟩) (.string ⟨#[]⟩)
    have v0 := hS.c0; have v1 := hS.c1
    exact bodyPost_ret (v := .tuple #[.agg #[.string ⟨#[]⟩, .string ⟨#[]⟩], .int .i64 30]) (w := store2 V w.heap.size (.string ⟨#[]⟩) (.string ⟨#[]⟩)) (by simp [results, Tryz.results14, go_sem, v0, v1]) rfl ⟨rfl, below_store2 (unhide HB) (Nat.le_refl _) _ _⟩
  · have hn' : nanB b = false := by simpa using hn
    rw [hn'] at HN ⊢
    rw [if_neg (by decide)]
    clear hn
    by_cases hi : infB b = true
    · rw [hi] at HI ⊢
      rw [if_pos rfl]
      clear hi hn'
      go_enter Tryz.func14, Tryz.ntmps14
      go_upto_region 1 with fail
      rw [← unhide HV]
      clear HV
      have q0 := (unhide HR).c0; have q1 := (unhide HR).c1; have f0 := (unhide HR).f0; have f1 := (unhide HR).f1
      go_wp2_with (first
        | (go_at_call 36; refine (unhide HN _).mono ?_; rintro e w1 ⟨rfl, hw⟩; obtain rfl : V = w1 := hw.symm)
        | (go_at_call 37; refine (unhide HI _).mono ?_; rintro e w1 ⟨rfl, hw⟩; obtain rfl : V = w1 := hw.symm))
      have hS := (unhide HR).store (.string ⟨#[]⟩) (.string ⟨#[]⟩)
      have v0 := hS.c0; have v1 := hS.c1
      exact bodyPost_ret (v := .tuple #[.agg #[.string ⟨#[]⟩, .string ⟨#[]⟩], .int .i64 31]) (w := store2 V w.heap.size (.string ⟨#[]⟩) (.string ⟨#[]⟩)) (by simp [results, Tryz.results14, go_sem, v0, v1]) rfl ⟨rfl, below_store2 (unhide HB) (Nat.le_refl _) _ _⟩
    · have hi' : infB b = false := by simpa using hi
      have hf := fin_of b hn' hi'
      rw [hi'] at HI ⊢
      rw [if_neg (by decide)]
      obtain ⟨K, hK⟩ : ∃ K, K = 400 := ⟨_, rfl⟩
      obtain ⟨b1, b2, b3⟩ := bnds b K hK hf
      have p6 := pow600
      have hmv := fin_mv b
      have hmk : mvB b < 1000000000 ^ 67 := Nat.lt_of_lt_of_le (by omega : mvB b < 1000000000 ^ 2) (Nat.pow_le_pow_right (by decide) (by decide))
      have h1k : 1 < 1000000000 ^ 67 := Nat.lt_of_lt_of_le (by decide : 1 < 1000000000 ^ 1) (Nat.pow_le_pow_right (by decide) (by decide))
      have HSZ := hide (fun W => sizeOf_any b (mvB b) (evB b) (2 ^ eP b) (2 ^ eN b) 67 W (cut_any b hb) (by omega) (fun W' => two_e b K hK hf W') (by omega) ⟨hmk, h1k, Nat.lt_of_lt_of_le b2 p6, Nat.lt_of_lt_of_le b3 p6⟩)
      have hq0 : 2 ^ eN b ≠ 0 := Nat.pos_iff_ne_zero.1 (Nat.two_pow_pos _)
      have HNE := hide (fun W (ht : Tab W) => new_ok (sT (negB b) (mvB b * 2 ^ eP b)) (tb (2 ^ eN b)) (negB b) (mvB b * 2 ^ eP b) (2 ^ eN b) W rfl rfl b1 b3 hq0 ht)
      unfold Ans at HNE
      have HXA := hide (fun W v (h : IsBig W v (mvB b * 2 ^ eP b)) (ht : Tab W) => text_any v _ 67 W h (by omega) (Nat.lt_of_lt_of_le b1 p6) ht)
      have HXB := hide (fun W v (h : IsBig W v (1 * 2 ^ eN b)) (ht : Tab W) => text_any v _ 67 W h (by omega) (by rw [Nat.one_mul]; exact Nat.lt_of_lt_of_le b3 p6) ht)
      rw [show (⟨(Lib.decDigits (mvB b * 2 ^ eP b)).toArray⟩ : ByteArray) = tb (mvB b * 2 ^ eP b) from (tx_tb _ b1).symm] at HXA
      rw [Nat.one_mul, show (⟨(Lib.decDigits (2 ^ eN b)).toArray⟩ : ByteArray) = tb (2 ^ eN b) from (tx_tb _ b3).symm] at HXB
      have HLS : Hid ((FloatKind.f64.format.order b 0 == some Ordering.lt) = negB b) := lt_zero b (of_decide_eq_true hf) hb
      have HST := hide (sT_eq (negB b) (mvB b * 2 ^ eP b))
      have HZA : Hid ((tb (mvB b * 2 ^ eP b)).size ≤ 600) := (tb_digs _ b1).2
      change Hid (∀ W : World, _) at HNE
      have hqd : qB b = Cub.valQ (negB b) (mvB b * 2 ^ eP b) (2 ^ eN b) := rfl
      rw [← hqd] at HNE
      clear hqd hq0 hmk h1k hmv p6 b1 b2 b3 hK hf hi' hn' hi
      rw [Nat.one_mul] at HSZ
      generalize numT (qB b) = rn at *
      generalize denT (qB b) = rd at *
      generalize errT (qB b) = re at *
      generalize tb (mvB b * 2 ^ eP b) = sa at *
      generalize tb (2 ^ eN b) = sb at *
      generalize mvB b * 2 ^ eP b = na at *
      generalize 2 ^ eN b = nb at *
      generalize sT (negB b) na = sg at *
      have hsz : sa.size ≤ 600 := unhide HZA
      have hszI : (sa.size : Int) ≤ 600 := by omega
      have hls := unhide HLS
      generalize hng : negB b = ng at *
      cases ng
      all_goals
        obtain rfl := unhide HST
        go_enter Tryz.func14, Tryz.ntmps14
        go_upto_region 1 with fail
        rw [← unhide HV]
        clear HV
        go_upto_region 6 with (first
          | (go_at_call 36; refine (unhide HN _).mono ?_; rintro e w1 ⟨rfl, hw⟩; obtain rfl : V = w1 := hw.symm)
          | (go_at_call 37; refine (unhide HI _).mono ?_; rintro e w1 ⟨rfl, hw⟩; obtain rfl : V = w1 := hw.symm)
          | (go_at_call 38; refine (unhide HSZ _).mono ?_; rintro e W2 ⟨v, rfl, hv, hb2⟩; obtain ⟨a1, l1, c1, a2, l2, c2, rfl, hx1, hx2⟩ := hv; have HR2 := hide ((unhide HR).later hb2); have HB2 : Hid (Below w.heap.size w W2) := (unhide HB).trans (hb2.mono (unhide HB).size); have HX1 := hide hx1; have HX2 := hide hx2; clear hb2 hx1 hx2))
        obtain ⟨Y, hY⟩ : ∃ Y, Y = W2.alloc (.cells #[.slice a1 l1 c1, .slice a2 l2 c2] 54) := ⟨_, rfl⟩
        have HT : Hid (T2 Y W2.heap.size (.slice a1 l1 c1) (.slice a2 l2 c2)) := by rw [hY]; exact ⟨by simp [go_sem], by simp [go_sem], by simp [go_sem], by simp [go_sem]⟩
        have hby : Below W2.heap.size W2 Y := by rw [hY]; exact (Below.refl _ _).alloc (Nat.le_refl _) _
        have HR3 := hide ((unhide HR2).later hby); have HB3 : Hid (Below w.heap.size w Y) := (unhide HB2).trans (hby.mono (unhide HB2).size); have HY1 := hide ((unhide HX1).later hby); have HY2 := hide ((unhide HX2).later hby)
        rw [← hY]
        clear hY hby HX1 HX2 HR2 HB2
        generalize W2.heap.size = gY at *
        have y0 := (unhide HT).c0; have y1 := (unhide HT).c1
        go_upto_region 7 with (go_at_call 39; refine (unhide HXA _ _ (unhide HY1) ((unhide HTW).later (unhide HB3))).mono ?_; rintro e W4 ⟨rfl, hb⟩; have HT4 := hide ((unhide HT).later hb); have HR4 := hide ((unhide HR3).later hb); have HB4 : Hid (Below w.heap.size w W4) := (unhide HB3).trans (hb.mono (unhide HB3).size); have HY4 := hide ((unhide HY2).later hb); clear hb y0 y1)
        clear HXA HY1 HY2 HT HR3 HB3
        have y0 := (unhide HT4).c0; have y1 := (unhide HT4).c1
        go_wp2_with (first
          | (go_at_call 39; refine (unhide HXB _ _ (unhide HY4) ((unhide HTW).later (unhide HB4))).mono ?_; rintro e W5 ⟨rfl, hb⟩; have HR5 := hide ((unhide HR4).later hb); have HB5 : Hid (Below w.heap.size w W5) := (unhide HB4).trans (hb.mono (unhide HB4).size); clear hb y0 y1)
          | (go_at_call 40; refine (unhide HNE _ ((unhide HTW).later (unhide HB5))).mono ?_; rintro e W6 ⟨rfl, hb⟩; have HR6 := hide ((unhide HR5).later hb); have HB6 : Hid (Below w.heap.size w W6) := (unhide HB5).trans (hb.mono (unhide HB5).size); clear hb; have q0 := (unhide HR6).c0; have q1 := (unhide HR6).c1; have f0 := (unhide HR6).f0; have f1 := (unhide HR6).f1))
        have hS := (unhide HR6).store (.string rn) (.string rd)
        have v0 := hS.c0; have v1 := hS.c1
        exact bodyPost_ret (v := .tuple #[.agg #[.string rn, .string rd], .int .i64 re]) (w := store2 W6 w.heap.size (.string rn) (.string rd)) (by simp [results, Tryz.results14, go_sem, v0, v1]) rfl ⟨rfl, below_store2 (unhide HB6) (Nat.le_refl _) _ _⟩
theorem self_zero : (FloatKind.f64.format.order 0 0 != some Ordering.eq) = false := by rw [order_neq]; decide +kernel
theorem sub_run (b : Nat) (h : floatBits .sub .f64 b b = some 0) (W : World) : (binOp .sub 24 (.float .f64 b) (.float .f64 b)).run Tryz.prog W = .ok (.float .f64 0) W := by
  rw [run_sub]; unfold vA wA; rw [h]
theorem sub_inf (b : Nat) (h : infB b = true) : floatBits .sub .f64 b b = none := by
  unfold infB at h
  have h := of_decide_eq_true h
  show ((Ieee.double.read b).sum (Ieee.double.read b).opposite).map Ieee.double.write = none
  have hr : ∃ s, Ieee.double.read b = .infinity s := by
    unfold Ieee.Format.read
    simp only [sign_lt, inf_is, binade_is, least_is]
    rw [if_neg (by omega), if_neg (by omega), if_pos h]
    exact ⟨_, rfl⟩
  obtain ⟨s, hr⟩ := hr
  rw [hr]
  cases s <;> rfl
theorem sub_run_inf (b : Nat) (h : infB b = true) (W : World) : (binOp .sub 24 (.float .f64 b) (.float .f64 b)).run Tryz.prog W = .ok (.float .f64 (nanC (W.tape W.drawn (.nanBits .f64 b b)))) W.drew := by
  rw [run_sub]; unfold vA wA; rw [sub_inf b h]
theorem exV_fin (b : Nat) (hn : nanB b = false) (hi : infB b = false) : exV b = .tuple #[.agg #[.string (numT (qB b)), .string (denT (qB b))], .int .i64 (errT (qB b))] := by
  unfold exV; rw [hn, hi]; rfl
theorem places_hi (a1 : Option Addr) (l1 c1 : Nat) (a2 : Option Addr) (l2 c2 : Nat) (w : World) (hp : IsBig w (.agg #[.slice a1 l1 c1]) (1 * 28823037615171176)) (hq : IsBig w (.agg #[.slice a2 l2 c2]) 288230376151711744) : Calls Tryz.prog 107 #[.agg #[.slice a1 l1 c1, .slice a2 l2 c2]] w fun e w' => e = .returned (.int .i64 0) ∧ Below w.heap.size w w' :=
  places_up a1 l1 c1 a2 l2 c2 (1 * 28823037615171176) 288230376151711744 17 18 50 1 (1 * 10 ^ 1) (-1) w hp hq (by decide) (by decide +kernel) (by decide +kernel) (by decide +kernel) (by decide +kernel) (by decide) (by decide) (fun W => tenToN 1 (1 * 10 ^ 1) (by decide) (by decide) rfl W) (by decide +kernel) (by decide +kernel)
theorem text_one (v : Value) (w : World) (h : IsBig w v (1 * 28823037615171176 * (1 * 10 ^ 1) / (288230376151711744 * 1))) (ht : Tab w) : Calls Tryz.prog 39 #[v] w fun e w' => e = .returned (.string ⟨#[49]⟩) ∧ Below w.heap.size w w' := by
  rw [show 1 * 28823037615171176 * (1 * 10 ^ 1) / (288230376151711744 * 1) = 1 by decide +kernel] at h
  have e := text_any v 1 1 w h (by decide) (by decide) ht
  rwa [show Lib.decDigits 1 = [49] by decide +kernel] at e
theorem repeat_none (s : ByteArray) (w : World) : Calls Tryz.prog 104 #[.string s, .int .i64 0] w fun e w' => e = .returned (.string ⟨#[]⟩) ∧ w' = w := by
  go_enter Tryz.func104, Tryz.ntmps104
  go_wp2
  go_ret
  exact ⟨rfl, rfl⟩
theorem laid_one (w : World) : Calls Tryz.prog 55 #[.string ⟨#[49]⟩, .int .i64 0] w fun e w' => e = .returned (.string ⟨#[48, 46, 49]⟩) ∧ w' = w := by
  have hw : IntKind.i64.wrap 0 = 0 := by decide
  go_enter Tryz.func55, Tryz.ntmps55
  go_wp2_with (go_at_call 104; go_must (refine (repeat_none _ _).mono ?_; rintro e ww ⟨rfl, hw⟩; have hw2 := hw.symm; subst hw2; clear hw))
  go_ret
  exact ⟨rfl, rfl⟩
theorem shortest_hi (w : World) (htab : Tab w) : Calls Tryz.prog 56 #[.float .f64 4591870180066957722] w fun e w' => e = .returned (.tuple #[.string ⟨#[49]⟩, .int .i64 0]) ∧ Below w.heap.size w w' := by
  have hta : ∀ W, Below w.heap.size w W → Tab W := fun W hb => htab.later hb
  have HTAB := hide hta
  have h0 : (FloatKind.f64.format.order 4591870180066957722 0 == some Ordering.eq) = false := by decide +kernel
  have HS0 : Hid (St w [] [] w) := St.nil (Below.refl _ _)
  clear htab hta
  go_enter Tryz.func56, Tryz.ntmps56
  go_upto_region 4 with (first
    | (have hchk := HS0; clear hchk; go_at_call 106; go_must (refine (roomOf_hi _).mono ?_; rintro e U1 ⟨a1, l1, c1, a2, l2, c2, a3, l3, c3, a4, l4, c4, rfl, hv1, hv2, hv3, hv4, hb⟩; have HS1 := hide ((((((unhide HS0).later hb).push hv1).push hv2).push hv3).push hv4); clear HS0; clear hv1 hv2 hv3 hv4 hb h0))
    | (have hchk := HS1; clear hchk; refine storeT 128 5 info81 rfl (.tmp 4) (.tmp 13) rfl U1.heap.size #[.slice none 0 0, .slice none 0 0, .slice none 0 0, .slice none 0 0, .bool false] #[.slice a1 l1 c1, .slice a2 l2 c2, .slice a3 l3 c3, .slice a4 l4 c4, .bool true] rfl rfl rfl rfl (OwnU.new _ _ _) (by kernel_rfl) ?_))
  have HS2 := hide ((unhide HS1).new #[.slice none 0 0, .slice none 0 0, .slice none 0 0, .slice none 0 0, .bool false] 128)
  clear HS1
  generalize U1.alloc (.cells #[.slice none 0 0, .slice none 0 0, .slice none 0 0, .slice none 0 0, .bool false] 128) = U2 at *
  generalize U1.heap.size = g4 at *
  have HS3 := hide (((unhide HS2)).set nz81 #[.slice a1 l1 c1, .slice a2 l2 c2, .slice a3 l3 c3, .slice a4 l4 c4, .bool true])
  clear HS2
  generalize U2.setRow g4 #[.slice a1 l1 c1, .slice a2 l2 c2, .slice a3 l3 c3, .slice a4 l4 c4, .bool true] = U3 at *
  have u0 := ((unhide HS3).at 0 rfl).ub.c 0 _ rfl
  have u3 := ((unhide HS3).at 0 rfl).ub.c 3 _ rfl
  go_upto_region 5 with (have hchk := HS3; clear hchk; go_at_call 107; go_must (refine (places_hi _ _ _ _ _ _ _ ((unhide HS3).bgt 3 rfl) ((unhide HS3).bgt 0 rfl)).mono ?_; rintro e U4 ⟨rfl, hb⟩; have HS4 := hide ((unhide HS3).later hb); clear HS3; clear hb u0 u3))
  have HS5 := hide ((unhide HS4).new #[.int .i64 0] 3)
  clear HS4
  generalize U4.alloc (.cells #[.int .i64 0] 3) = U5 at *
  generalize U4.heap.size = g5 at *
  go_upto_region 6 with (have hchk := HS5; clear hchk; go_at_call 108; go_must (refine (search_any _ _ _ _ _ _ _ _ _ _ _ _ g4 g5 _ ((unhide HS5).bgt 3 rfl) ((unhide HS5).bgt 2 rfl) ((unhide HS5).bgt 1 rfl) ((unhide HS5).bgt 0 rfl) ((unhide HS5).at 1 rfl) ((unhide HS5).at 0 rfl)).mono ?_; rintro e U6 ⟨rfl, hb⟩; have HS6 := hide ((unhide HS5).later hb); clear HS5; clear hb))
  have u0 := ((unhide HS6).at 1 rfl).ub.c 0 _ rfl
  have u1 := ((unhide HS6).at 1 rfl).ub.c 1 _ rfl
  have u2 := ((unhide HS6).at 1 rfl).ub.c 2 _ rfl
  have u3 := ((unhide HS6).at 1 rfl).ub.c 3 _ rfl
  have u4 := ((unhide HS6).at 1 rfl).ub.c 4 _ rfl
  have u5 := ((unhide HS6).at 0 rfl).ub.c 0 _ rfl
  go_upto_region 7 with (have hchk := HS6; clear hchk; go_at_call 110; go_must (refine (dec_any _ _ _ _ _ _ _ _ _ _ _ _ 1 _ ((unhide HS6).bgt 3 rfl) ((unhide HS6).bgt 2 rfl) ((unhide HS6).bgt 1 rfl) ((unhide HS6).bgt 0 rfl) (by decide) (by decide)).mono ?_; rintro e U7 ⟨a5, l5, c5, rfl, hv, hb⟩; have HS7 := hide (((unhide HS6).later hb).push hv); clear HS6; clear hv hb u0 u1 u2 u3 u4 u5))
  have HS8 := hide ((unhide HS7).new #[.slice a5 l5 c5] 51)
  clear HS7
  generalize U7.alloc (.cells #[.slice a5 l5 c5] 51) = U8 at *
  generalize U7.heap.size = g7 at *
  have u0 := ((unhide HS8).at 0 rfl).ub.c 0 _ rfl
  go_upto_region 10 with (have hchk := HS8; clear hchk; go_at_call 39; go_must (refine (text_one _ _ ((unhide HS8).bgt 0 rfl) (unhide HTAB _ (unhide HS8).below)).mono ?_; rintro e U9 ⟨rfl, hb⟩; have HS9 := hide ((unhide HS8).later hb); clear HS8; clear hb u0))
  refine region_reads 3 (fun _ => True) (fun W' => W'.cell? ⟨g5, 0, none⟩ = some (.int .i64 0)) 4 rfl (by kernel_rfl) ?_
  have HS10 := hide ((unhide HS9).later ((Below.refl _ _).drew))
  clear HS9
  generalize U9.drew = X0 at *
  refine wpR_take7 (i := 0) (oi := _) (v := .string ⟨#[49]⟩) rfl (by kernel_rfl) (by kernel_rfl) (by kernel_rfl) (by kernel_rfl) (fun _ _ _ h => h) (Or.inl ⟨by rfl, ?_⟩) ⟨trivial, ((unhide HS10).at 1 rfl).ub.c 0 _ rfl⟩ ?_
  · intro W' hW
    go_simp
  refine wpR_take7 (i := 1) (oi := _) (v := .int .i64 0) rfl (by kernel_rfl) (by kernel_rfl) (by kernel_rfl) (by kernel_rfl) (fun _ _ _ h => h) (Or.inl ⟨by rfl, ?_⟩) ⟨trivial, ((unhide HS10).at 1 rfl).ub.c 0 _ rfl⟩ ?_
  · intro W' hW
    go_simp
  refine wpR_op (i := 2) (o := _) (by kernel_rfl) rfl rfl (fun K hK => ?_)
  go_simp
  refine hK _ _ ⟨trivial, ((unhide HS10).at 1 rfl).ub.c 0 _ rfl⟩ ?_
  clear hK K
  refine wpR_late (i := 3) (o := _) (by kernel_rfl) rfl rfl (by kernel_rfl) (fun K hK => ?_)
  go_simp
  refine hK _ _ (((unhide HS10).at 1 rfl).ub.c 0 _ rfl) ?_
  clear hK K
  refine wpR_done (by kernel_rfl) ?_
  go_wp2_with fail
  exact bodyPost_ret (v := .tuple #[.string ⟨#[49]⟩, .int .i64 0]) (by simp [results, Tryz.results56, go_sem]) rfl ⟨rfl, (unhide HS10).below⟩
end Go.Proofs.YtijifpbpjinmhaaGreatDoor
namespace Go.Proofs.YtijifpbpjinmhaaGreatDoor
open Go.RowKit Go.Maps Go.ChangeMaps Go.WideMaps
attribute [local go_sem] run_bits run_from
theorem signbit_tenth (w : World) : Calls Tryz.prog 57 #[.float .f64 4591870180066957722] w fun e w' => e = .returned (.bool false) ∧ w' = w := by
  go_enter Tryz.func57, Tryz.ntmps57
  go_wp2
  go_ret
  exact ⟨rfl, rfl⟩
theorem keyOf_string_inv {P : Program} {k : TypeId} (hk : P.underlying k = some .string) {key : Value} {kl : Lit} (h : keyOf P k key = some kl) : ∃ s, key = .string s := by
  cases key <;> simp [keyOf, hk, mapKey] at h
  exact ⟨_, rfl⟩
theorem order_word (b : Nat) (h : b = 9221120237041090561 ∨ b = 9218868437227405312 ∨ b = 18442240474082181120) (w : World) : Calls Tryz.prog 20 #[.float .f64 4591870180066957722, .float .f64 b] w fun e w' => ∃ q : Int, q ≠ 0 ∧ e = .returned (.int .i64 q) ∧ w' = w := by
  have hb : b < 18446744073709551616 ∧ Cub.cmpN (rk 4591870180066957722) (rk b) ≠ 0 := by
    rcases h with rfl | rfl | rfl <;> decide +kernel
  refine (order_any 4591870180066957722 b (by decide) hb.1 w).mono ?_
  rintro e w' ⟨rfl, hw⟩
  exact ⟨_, hb.2, rfl, hw⟩
theorem word_left {kl : Lit} {v : Value} {y : DataW Unit × List MemPlace} (h1 : Maps.has (wD 3) kl = true) (h2 : wR v = some y) (h3 : ∀ zd, (wD 3).atKey kl zd = y.1) : ∃ b : Nat, v = .float .f64 b ∧ (b = 9221120237041090561 ∨ b = 9218868437227405312 ∨ b = 18442240474082181120) := by
  obtain ⟨d, ps⟩ := y
  have e := h3 (.map [])
  have hd : d = .lit (.int .i64 9221120237041090561) ∨ d = .lit (.int .i64 9218868437227405312) ∨ d = .lit (.int .i64 18442240474082181120) := by
    rcases wD_at kl (.map []) h1 with h | h | h
    · exact Or.inl (e.symm.trans h)
    · exact Or.inr (Or.inl (e.symm.trans h))
    · exact Or.inr (Or.inr (e.symm.trans h))
  clear e h3 h1
  rcases hd with rfl | rfl | rfl
  · obtain ⟨b, rfl, hb⟩ := wR_inv h2
    exact ⟨b, rfl, Or.inl (by omega)⟩
  · obtain ⟨b, rfl, hb⟩ := wR_inv h2
    exact ⟨b, rfl, Or.inr (Or.inl (by omega))⟩
  · obtain ⟨b, rfl, hb⟩ := wR_inv h2
    exact ⟨b, rfl, Or.inr (Or.inr (by omega))⟩
theorem text_tenth (w : World) (htab : Tab w) : Calls Tryz.prog 18 #[.float .f64 4591870180066957722] w fun r w' => r = .returned (.string ⟨#[48, 46, 49]⟩) ∧ Below w.heap.size w w' := by
  have HTAB := hide htab
  clear htab
  obtain ⟨g, hg⟩ : ∃ g, g = w.heap.size := ⟨_, rfl⟩
  have HG0 : Hid (g = w.heap.size) := hg
  clear hg
  have HW : Hid (Calls Tryz.prog 43 #[] w fun r w' => r = .returned (.map (some g)) ∧ w'.ownsMap Tryz.prog 9 wR g 3 (wD 3) ∧ Below w.heap.size w w') := by rw [unhide HG0]; exact words_any w
  have HS : Hid (∀ W, Below w.heap.size w W → Calls Tryz.prog 56 #[.float .f64 4591870180066957722] W fun e w' => e = .returned (.tuple #[.string ⟨#[49]⟩, .int .i64 0]) ∧ Below W.heap.size W w') := fun W hW => shortest_hi W ((unhide HTAB).later hW)
  go_enter Tryz.func18, Tryz.ntmps18
  go_wp2_with (first
    | (go_at_call 43; go_must (refine (unhide HW).mono ?_; rintro e w1 ⟨rfl, hown, hb⟩; have HO := hide hown; have HB := hide hb; clear hown hb))
    | (at_range; refine wpList_range_own _ rfl _ 70 rfl 9 24 (string_keyed Tryz.underlying9) underM wR g 3 (wD 3) rfl (unhide HO) ?_; intro w3 hrg hgr hsz; go_frame))
  have HRG : Hid (w3.ranges Tryz.prog 9 wR g w1.heap.size 3 (wD 3) (Maps.has (wD 3)) (Maps.size (wD 3))) := hrg
  have HB3 : Hid (Below w.heap.size w w3 ∧ w1.heap.size < w3.heap.size) := ⟨(unhide HB).grown hgr (unhide HB).size (fun j hj => by cases hj), by omega⟩
  clear hrg hgr hsz
  go_loopw [3, 4] (fun _ _ wr => ∃ (left : Lit → Bool) (cnt : Nat), Hid (wr.ranges Tryz.prog 9 wR g w1.heap.size 3 (wD 3) left cnt) ∧ Hid (∀ kl, left kl = true → Maps.has (wD 3) kl = true) ∧ Hid (Below w.heap.size w wr)) (fun _ _ wr => wr.rangeLeft g w1.heap.size)
  case atStart => exact ⟨_, _, HRG, fun _ h => h, (unhide HB3).1⟩
  case round =>
    obtain ⟨left, cnt, HG, HL, HBr⟩ := hrel
    go_wp2_with (at_next; go_loud (refine wpList_next_ranges _ rfl _ rfl 9 (string_keyed Tryz.underlying9) wR (fun x : ByteArray => .string x) (fun v : Value => v) (fun key kl h => keyOf_string_inv Tryz.underlying9 h) (fun v y _ => ⟨v, rfl⟩) g w1.heap.size 3 (wD 3) left cnt rfl (unhide HG) ?_ ?_))
    · intro _ hl0
      clear hl0 HL HG
      go_wp2_with (first
        | (go_at_call 56; go_must (refine (unhide HS _ (unhide HBr)).mono ?_; rintro e w5 ⟨rfl, hb⟩; have HB5 := hide ((unhide HBr).trans (hb.mono (unhide HBr).size)); clear hb))
        | (go_at_call 55; go_must (refine (laid_one _).mono ?_; rintro e w6 ⟨rfl, hw6⟩; have hw7 := hw6.symm; subst hw7; clear hw6))
        | (go_at_call 57; go_must (refine (signbit_tenth _).mono ?_; rintro e w6 ⟨rfl, hw6⟩; have hw7 := hw6.symm; subst hw7; clear hw6)))
      go_ret
      exact ⟨rfl, unhide HB5⟩
    · intro x v kl d ps w4 cnt4 hkx hlx hv hat hrg4 hlt hg4 hs4 hen
      obtain ⟨b, rfl, hb3⟩ := word_left (y := (d, ps)) ((unhide HL) kl hlx) hv hat
      have HB4 : Hid (Below w.heap.size w w4) := (unhide HBr).grown hg4 (unhide HBr).size (fun j hj => by cases hj; exact (unhide HB).size)
      have HORD : Hid (∀ W, Calls Tryz.prog 20 #[.float .f64 4591870180066957722, .float .f64 b] W fun e w' => ∃ q : Int, q ≠ 0 ∧ e = .returned (.int .i64 q) ∧ w' = W) := order_word b hb3
      have HG4 := hide hrg4
      have HLT : Hid (cnt4 < cnt) := hlt
      have HL1 : Hid (∀ z, (left z && !z.sameKey kl) = true → Maps.has (wD 3) z = true) := fun z h => (unhide HL) z (by simp at h; exact h.1)
      clear hrg4 hlt hkx hlx hv hat hg4 hs4 hb3
      go_wp2_with (go_at_call 20; go_must (refine (unhide HORD _).mono ?_; rintro e w6 ⟨q, hq, rfl, hw6⟩; have hw7 := hw6.symm; subst hw7; clear hw6))
      go_roundw
      case rel => exact ⟨_, _, HG4, HL1, HB4⟩
      case measure => rw [(unhide HG4).left_eq, (unhide HG).left_eq]; exact unhide HLT
/-- The law's known answers. -/
theorem known_ok (w : World) (htab : Tab w) : Calls Tryz.prog 13 #[] w fun r w' => r = .returned (.bool true) ∧ Below w.heap.size w w' := by
  have HN : Hid (Calls Tryz.prog 10 #[.agg #[.string ⟨#[49]⟩, .string ⟨#[49, 48]⟩]] w fun e w' => e = .returned (.tuple #[.float .f64 4591870180066957722, .int .i64 0]) ∧ Below w.heap.size w w') := near_tenth w htab
  have HT : Hid (∀ W, Below w.heap.size w W → Calls Tryz.prog 18 #[.float .f64 4591870180066957722] W fun r w' => r = .returned (.string ⟨#[48, 46, 49]⟩) ∧ Below W.heap.size W w') := fun W hW => text_tenth W (htab.later hW)
  have HO : Hid (∀ W, Calls Tryz.prog 20 #[.float .f64 4607182418800017408, .float .f64 4611686018427387904] W fun e w' => e = .returned (.int .i64 (-1)) ∧ w' = W) := fun W => by
    have h : Cub.cmpN (rk 4607182418800017408) (rk 4611686018427387904) = -1 := by decide +kernel
    rw [← h]
    exact order_any _ _ (by decide) (by decide) W
  clear htab
  go_enter Tryz.func13, Tryz.ntmps13
  go_wp2_with (first
    | (go_at_call 10; go_must (refine (unhide HN).mono ?_; rintro e w1 ⟨rfl, hb⟩; have HB := hide hb; clear hb))
    | (go_at_call 18; go_must (refine (unhide HT _ (unhide HB)).mono ?_; rintro e w2 ⟨rfl, hb⟩; have HB2 := hide ((unhide HB).trans (hb.mono (unhide HB).size)); clear hb))
    | (go_at_call 20; go_must (refine (unhide HO _).mono ?_; rintro e w6 ⟨rfl, hw6⟩; have hw7 := hw6.symm; subst hw7; clear hw6)))
  go_ret
  exact ⟨rfl, unhide HB2⟩
end Go.Proofs.YtijifpbpjinmhaaGreatDoor
namespace Go.Proofs.YtijifpbpjinmhaaGreatDoor
open Go.RowKit
attribute [local go_sem] run_bits run_from
def pU (e : Int) : Nat := 2 ^ e.toNat
def qU (e : Int) : Nat := 2 ^ (-e).toNat
theorem same_refl (a : Nat) : sameB a a = true := by unfold sameB; simp
end Go.Proofs.YtijifpbpjinmhaaGreatDoor
namespace Go.Proofs.YtijifpbpjinmhaaGreatDoor
open Go.RowKit
attribute [local go_sem] run_bits run_from
theorem sz_ex (A B : Nat) (hi : scA A 5053 < scB B 5053) : ∃ x, SzInv A B x x := by
  have key : ∀ k : Nat, ∀ y : Int, y = -1074 + (k : Int) → y ≤ 5000 → scA A (y + 53) < scB B (y + 53) → ∃ x, SzInv A B x x := by
    intro k
    induction k with
    | zero => intro y hy h5 h; exact ⟨y, h, fun e h1 h2 => by omega, by omega, Int.le_refl _, h5⟩
    | succ k ih =>
      intro y hy h5 h
      by_cases hp : scA A (y - 1 + 53) < scB B (y - 1 + 53)
      · exact ih (y - 1) (by omega) (by omega) hp
      · exact ⟨y, h, fun e _ h2 hq => hp (below_mono A B (e + 53) (y - 1 + 53) (by omega) hq), by omega, Int.le_refl _, h5⟩
  exact key 6074 5000 (by decide) (by decide) hi
theorem pow600_two (K T : Nat) (hT : T = 4 * K + 1) : (10 : Nat) ^ K < 2 ^ T := by
  have h1 : (10 : Nat) ^ K ≤ 16 ^ K := Nat.pow_le_pow_left (by decide) K
  have h2 : (16 : Nat) ^ K = 2 ^ (4 * K) := by rw [Nat.pow_mul]
  rw [h2] at h1
  exact Nat.lt_of_le_of_lt h1 (Nat.pow_lt_pow_right (by decide) (by omega))
end Go.Proofs.YtijifpbpjinmhaaGreatDoor

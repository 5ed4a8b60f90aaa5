/- The document's Exact (15), over all floats. -/
import Derived.Test.YtijifpbpjinmhaaGreatDoorAway
import Derived.Test.YtijifpbpjinmhaaGreatDoorRefMem
import Derived.Laws.FloatArith
import Derived.Sort.OwnSorted
import Derived.Laws.AppendOwnNone
import Derived.WalkSmall
import Derived.BigQuiet
import Derived.Lib.SmallJoins
import Derived.OwnWalk
import Derived.Test.YtijifpbpjinmhaaGreatDoorGcdFirst
import Derived.Test.YtijifpbpjinmhaaGreatDoorSt2
import Derived.Test.YtijifpbpjinmhaaGreatDoorLimb5
set_option maxHeartbeats 4000000
set_option maxRecDepth 100000
namespace Go.Proofs.YtijifpbpjinmhaaGreatDoor
open Go.RowKit
theorem twoToN (n P k : Nat) (hp : 0 < n) (hn : n ≤ 4000) (hP : 2 ^ n = P) (hk1 : 1 ≤ k) (hk : k ≤ 1000000) (hl : P < 1000000000 ^ k) (h2 : 2 < 1000000000 ^ k) (W : World) : Calls Tryz.prog 74 #[.int .i64 (-(n : Int))] W fun e w' => ∃ v, e = .returned v ∧ IsSz w' v 1 P ∧ Below W.heap.size W w' :=
  twoTo_neg n P W hp hn (fun V x hx => by rw [← hP] at hl ⊢; exact bigPow_any x 2 n k V hx (by omega) hk1 hk hl h2)
theorem twoToP (n P k : Nat) (hn : n ≤ 4000) (hP : 2 ^ n = P) (hk1 : 1 ≤ k) (hk : k ≤ 1000000) (hl : P < 1000000000 ^ k) (h2 : 2 < 1000000000 ^ k) (W : World) : Calls Tryz.prog 74 #[.int .i64 (n : Int)] W fun e w' => ∃ v, e = .returned v ∧ IsSz w' v P 1 ∧ Below W.heap.size W w' :=
  twoTo_pos n P W hn (fun V x hx => by rw [← hP] at hl ⊢; exact bigPow_any x 2 n k V hx (by omega) hk1 hk hl h2)
theorem tenToN (n P : Nat) (hp : 0 < n) (hn : n ≤ 4000) (hP : 1 * 10 ^ n = P) (W : World) : Calls Tryz.prog 48 #[.int .i64 (-(n : Int))] W fun e w' => ∃ v, e = .returned v ∧ IsSz w' v 1 P ∧ Below W.heap.size W w' :=
  tenTo_neg n P W hp hn (fun V x hx => by rw [← hP]; exact shift_any x 1 n 1 V hx (by decide) (by decide) (by omega))
/-- A float's size: its numerator, its denominator. -/
def SizeAns (f a c : Nat) : Prop := ∀ W : World, Calls Tryz.prog 38 #[.float .f64 f] W fun e w' => ∃ v, e = .returned v ∧ IsSz w' v a c ∧ Below W.heap.size W w'
theorem size_lo : SizeAns 4591870180066957721 (7205759403792793 * 1) (1 * 2 ^ 56) := fun W => sizeOf_any 4591870180066957721 7205759403792793 (-56) 1 (2 ^ 56) 50 W cut_lo (by decide) (twoToN 56 (2 ^ 56) 50 (by decide) (by decide) rfl (by decide) (by decide) (by decide +kernel) (by decide +kernel)) (by decide) (by decide +kernel)
theorem size_hi : SizeAns 4591870180066957722 (7205759403792794 * 1) (1 * 2 ^ 56) := fun W => sizeOf_any 4591870180066957722 7205759403792794 (-56) 1 (2 ^ 56) 50 W cut_hi (by decide) (twoToN 56 (2 ^ 56) 50 (by decide) (by decide) rfl (by decide) (by decide) (by decide +kernel) (by decide +kernel)) (by decide) (by decide +kernel)
theorem sizeZ (P : Nat) (hP : 2 ^ 1074 = P) (hl : P < 1000000000 ^ 50) : SizeAns 0 (0 * 1) (1 * P) := fun W => sizeOf_any 0 0 (-1074) 1 P 50 W cut_zero (by decide) (twoToN 1074 P 50 (by decide) (by decide) hP (by decide) (by decide) hl (by decide +kernel)) (by decide) ⟨by decide +kernel, by decide +kernel, by decide +kernel, hl⟩
attribute [local go_sem] run_bits run_from
def nearO (c : Int) (f : Nat) : Bool := decide (c < 0) || (decide (c = 0) && decide (f % 2 = 0))
theorem nearer_any (a1 : Option Addr) (l1 c1' : Nat) (a2 : Option Addr) (l2 c2' : Nat) (p q d1 c1 d2 c2 k f g gx : Nat) (c : Int) (w : World) (hx : OwnU w gx 54 #[.slice a1 l1 c1', .slice a2 l2 c2']) (hp : IsBig w (.agg #[.slice a1 l1 c1']) p) (hq : IsBig w (.agg #[.slice a2 l2 c2']) q)
    (haf : ∀ W, Below w.heap.size w W → Calls Tryz.prog 126 #[.agg #[.slice a1 l1 c1', .slice a2 l2 c2'], .float .f64 f] W fun e w' => ∃ v, e = .returned v ∧ IsSz w' v d1 c1 ∧ Below W.heap.size W w') (hag : ∀ W, Below w.heap.size w W → Calls Tryz.prog 126 #[.agg #[.slice a1 l1 c1', .slice a2 l2 c2'], .float .f64 g] W fun e w' => ∃ v, e = .returned v ∧ IsSz w' v d2 c2 ∧ Below W.heap.size W w')
    (hk : k ≤ 1000000) (hl : d1 < 1000000000 ^ k ∧ c1 < 1000000000 ^ k ∧ d2 < 1000000000 ^ k ∧ c2 < 1000000000 ^ k) (hc : Cub.cmpN (d1 * c2) (d2 * c1) = c) (hcc : c = -1 ∨ c = 0 ∨ c = 1) :
    Calls Tryz.prog 125 #[.float .f64 f, .float .f64 g, .pointer (some ⟨gx, 0, none⟩)] w fun e w' => e = .returned (.bool (nearO c f)) ∧ Below w.heap.size w w' := by
  have hxs : ∀ W, Below w.heap.size w W → OwnU W gx 54 #[.slice a1 l1 c1', .slice a2 l2 c2'] := fun W hb => hx.later hb
  have HP0 := hide hp
  have HQ0 := hide hq
  have HXS := hide hxs
  have HAF := hide haf
  have HAG := hide hag
  have HK := hide hk
  have HL := hide hl
  have HB : Hid (Below w.heap.size w w) := Below.refl _ _
  have hcs : Cub.cmpN (d1 * c2) (d2 * c1) = c := hc
  have HC := hide hcs
  clear hp hq hx hxs haf hag hk hl hc hcs
  go_enter Tryz.func125, Tryz.ntmps125
  go_upto_region 1 with fail
  have HS0 : Hid (St w [] [] w) := St.nil (Below.refl _ _)
  clear HB
  refine region_reads 7 (fun _ => True) (fun W' => W'.cell? ⟨gx, 0, none⟩ = some (.slice a1 l1 c1') ∧ W'.cell? ⟨gx, 1, none⟩ = some (.slice a2 l2 c2')) 8 rfl (by kernel_rfl) ?_
  have HS1 := hide ((unhide HS0).later ((Below.refl _ _).drew))
  clear HS0
  generalize w.drew = U0 at *
  refine wpR_take7 (i := 0) (oi := _) (v := .agg #[.slice a1 l1 c1', .slice a2 l2 c2']) rfl (by kernel_rfl) (by kernel_rfl) (by kernel_rfl) (by kernel_rfl) (fun _ _ _ h => h) (Or.inl ⟨by rfl, ?_⟩) ⟨trivial, ⟨(unhide HXS _ (unhide HS1).below).ub.c 0 _ rfl, (unhide HXS _ (unhide HS1).below).ub.c 1 _ rfl⟩⟩ ?_
  · intro W' hW
    go_split_ands
    go_simp
  refine wpR_take7 (i := 1) (oi := _) (v := .float .f64 f) rfl (by kernel_rfl) (by kernel_rfl) (by kernel_rfl) (by kernel_rfl) (fun _ _ _ h => h) (Or.inl ⟨by rfl, ?_⟩) ⟨trivial, ⟨(unhide HXS _ (unhide HS1).below).ub.c 0 _ rfl, (unhide HXS _ (unhide HS1).below).ub.c 1 _ rfl⟩⟩ ?_
  · intro W' hW
    go_split_ands
    go_simp
  refine wpR_take7 (i := 3) (oi := _) (v := .agg #[.slice a1 l1 c1', .slice a2 l2 c2']) rfl (by kernel_rfl) (by kernel_rfl) (by kernel_rfl) (by kernel_rfl) (fun _ _ _ h => h) (Or.inl ⟨by rfl, ?_⟩) ⟨trivial, ⟨(unhide HXS _ (unhide HS1).below).ub.c 0 _ rfl, (unhide HXS _ (unhide HS1).below).ub.c 1 _ rfl⟩⟩ ?_
  · intro W' hW
    go_split_ands
    go_simp
  refine wpR_take7 (i := 4) (oi := _) (v := .float .f64 g) rfl (by kernel_rfl) (by kernel_rfl) (by kernel_rfl) (by kernel_rfl) (fun _ _ _ h => h) (Or.inl ⟨by rfl, ?_⟩) ⟨trivial, ⟨(unhide HXS _ (unhide HS1).below).ub.c 0 _ rfl, (unhide HXS _ (unhide HS1).below).ub.c 1 _ rfl⟩⟩ ?_
  · intro W' hW
    go_split_ands
    go_simp
  refine wpR_op (i := 2) (o := _) (by kernel_rfl) rfl rfl (fun K hK => ?_)
  go_simp
  refine (unhide HAF _ (unhide HS1).below).mono ?_
  rintro e U1 ⟨_, rfl, ⟨a3, l3, c3, a4, l4, c4, rfl, hv1, hv2⟩, hb⟩
  have HS2 := hide ((((unhide HS1).later hb).push hv1).push hv2)
  clear HS1
  clear hv1 hv2 hb
  refine hK _ _ ⟨trivial, ⟨(unhide HXS _ (unhide HS2).below).ub.c 0 _ rfl, (unhide HXS _ (unhide HS2).below).ub.c 1 _ rfl⟩⟩ ?_
  clear hK K
  refine wpR_op (i := 5) (o := _) (by kernel_rfl) rfl rfl (fun K hK => ?_)
  go_simp
  refine (unhide HAG _ (unhide HS2).below).mono ?_
  rintro e U2 ⟨_, rfl, ⟨a5, l5, c5, a6, l6, c6, rfl, hv1, hv2⟩, hb⟩
  have HS3 := hide ((((unhide HS2).later hb).push hv1).push hv2)
  clear HS2
  clear hv1 hv2 hb
  refine hK _ _ ⟨trivial, ⟨(unhide HXS _ (unhide HS3).below).ub.c 0 _ rfl, (unhide HXS _ (unhide HS3).below).ub.c 1 _ rfl⟩⟩ ?_
  clear hK K
  refine wpR_op (i := 6) (o := _) (by kernel_rfl) rfl rfl (fun K hK => ?_)
  go_simp
  refine (szcmp_any _ _ _ _ _ _ _ _ _ _ _ _ d1 c1 d2 c2 k _ ((unhide HS3).bgt 3 rfl) ((unhide HS3).bgt 2 rfl) ((unhide HS3).bgt 1 rfl) ((unhide HS3).bgt 0 rfl) (unhide HK) (unhide HL).1 (unhide HL).2.1 (unhide HL).2.2.1 (unhide HL).2.2.2).mono ?_
  rintro e U3 ⟨rfl, hb⟩
  have HS4 := hide ((unhide HS3).later hb)
  clear HS3
  clear hb
  refine hK _ _ ⟨trivial, ⟨(unhide HXS _ (unhide HS4).below).ub.c 0 _ rfl, (unhide HXS _ (unhide HS4).below).ub.c 1 _ rfl⟩⟩ ?_
  clear hK K
  rw [unhide HC]
  refine wpR_late (i := 7) (o := _) (by kernel_rfl) rfl rfl (by kernel_rfl) (fun K hK => ?_)
  go_simp
  refine hK _ _ (⟨(unhide HXS _ (unhide HS4).below).ub.c 0 _ rfl, (unhide HXS _ (unhide HS4).below).ub.c 1 _ rfl⟩) ?_
  clear hK K
  refine wpR_done (by kernel_rfl) ?_
  rcases hcc with rfl | rfl | rfl
  · skip
    go_wp2_with fail
    go_ret
    exact ⟨by simp [nearO], (unhide HS4).below⟩
  · rcases Nat.mod_two_eq_zero_or_one f with h | h
    · have h2 : (f : Int) % 2 = 0 := by omega
      go_wp2_with fail
      go_ret
      exact ⟨by simp [nearO, h], (unhide HS4).below⟩
    · have h2 : (f : Int) % 2 = 1 := by omega
      go_wp2_with fail
      go_ret
      exact ⟨by simp [nearO, h], (unhide HS4).below⟩
  · skip
    go_wp2_with fail
    go_ret
    exact ⟨by simp [nearO], (unhide HS4).below⟩
end Go.Proofs.YtijifpbpjinmhaaGreatDoor
namespace Go.Proofs.YtijifpbpjinmhaaGreatDoor
open Go.RowKit
/-- The bits, all that are no number read as one. -/
def nm (b : Nat) : Nat := if nanB b then 9221120237041090561 else b
/-- What an operation gives, read so. -/
def opN (op : BinOp) (x y : Nat) : Nat := match floatBits op .f64 x y with
  | some r => nm r
  | none => 9221120237041090561
/-- What it gives in a world, and the world behind it. -/
def vA (op : BinOp) (x y : Nat) (w : World) : Nat := match floatBits op .f64 x y with
  | some r => r
  | none => nanC (w.tape w.drawn (.nanBits .f64 x y))
def wA (op : BinOp) (x y : Nat) (w : World) : World := match floatBits op .f64 x y with
  | some _ => w
  | none => w.drew
theorem run_arith (op : BinOp) (t : TypeId) (P : Program) (w : World) (x y : Nat) (hop : op = .add ∨ op = .sub ∨ op = .mul) : (binOp op t (.float .f64 x) (.float .f64 y)).run P w = .ok (.float .f64 (vA op x y w)) (wA op x y w) := by
  unfold vA wA
  cases e : floatBits op .f64 x y with
  | some r => exact run_float_arith w op t .f64 x y r e
  | none =>
    rcases hop with rfl | rfl | rfl
    all_goals
      simp only [floatBits] at e
      first
      | show (Op.floatArith .add .f64 x y).run P w = _
      | show (Op.floatArith .sub .f64 x y).run P w = _
      | show (Op.floatArith .mul .f64 x y).run P w = _
      unfold Op.floatArith
      simp [e, Question.forced, Question.cut, nanC]
theorem run_sub (t : TypeId) (P : Program) (w : World) (x y : Nat) : (binOp .sub t (.float .f64 x) (.float .f64 y)).run P w = .ok (.float .f64 (vA .sub x y w)) (wA .sub x y w) := run_arith _ _ _ _ _ _ (Or.inr (Or.inl rfl))
def finB (b : Nat) : Bool := decide (b % 9223372036854775808 < 9218868437227405312)
def eP (b : Nat) : Nat := (evB b).toNat
def eN (b : Nat) : Nat := (-(evB b)).toNat
theorem fin_ev (b : Nat) (h : finB b = true) : -1074 ≤ evB b ∧ evB b ≤ 971 := by
  unfold finB at h
  have h := of_decide_eq_true h
  have hx : xpB b ≤ 2046 := by unfold xpB; omega
  unfold evB
  split <;> omega
theorem fin_mv (b : Nat) : mvB b < 9007199254740992 := by
  have hm : mtB b < 4503599627370496 := Nat.mod_lt _ (by decide)
  unfold mvB
  split <;> omega
theorem up600 (K E : Nat) (hK : K = 400) (hE : E = 600) : 10 ^ K ≤ 10 ^ E := Nat.pow_le_pow_right (by decide) (by omega)
theorem up620 (K E : Nat) (hK : K = 400) (hE : E = 600) : 10 ^ (20 + K) ≤ 10 ^ E := Nat.pow_le_pow_right (by decide) (by omega)
theorem two_e (b K : Nat) (hK : K = 400) (h : finB b = true) (W : World) : Calls Tryz.prog 74 #[.int .i64 (evB b)] W fun e w' => ∃ v, e = .returned v ∧ IsSz w' v (2 ^ eP b) (2 ^ eN b) ∧ Below W.heap.size W w' := by
  obtain ⟨h1, h2⟩ := fin_ev b h
  have p6 := pow600
  have p4 := up600 K 600 hK rfl
  have p2 : 2 < 1000000000 ^ 67 := Nat.lt_of_lt_of_le (by decide : 2 < 1000000000 ^ 1) (Nat.pow_le_pow_right (by decide) (by decide))
  by_cases hz : 0 ≤ evB b
  · have e1 : eN b = 0 := by unfold eN; omega
    have e2 : evB b = ((eP b : Nat) : Int) := by unfold eP; omega
    rw [e1, e2, Nat.pow_zero]
    exact twoToP (eP b) (2 ^ eP b) 67 (by unfold eP; omega) rfl (by omega) (by omega) (Nat.lt_of_lt_of_le (pow2_lt (eP b) K (by unfold eP; omega)) (Nat.le_trans p4 p6)) p2 W
  · have e1 : eP b = 0 := by unfold eP; omega
    have e2 : evB b = -((eN b : Nat) : Int) := by unfold eN; omega
    rw [e1, e2, Nat.pow_zero]
    exact twoToN (eN b) (2 ^ eN b) 67 (by unfold eN; omega) (by unfold eN; omega) rfl (by omega) (by omega) (Nat.lt_of_lt_of_le (pow2_lt (eN b) K (by unfold eN; omega)) (Nat.le_trans p4 p6)) p2 W
/-- A finite float's number. -/
def qB (b : Nat) : Rat := Cub.valQ (negB b) (mvB b * 2 ^ eP b) (2 ^ eN b)
theorem bnds (b K : Nat) (hK : K = 400) (h : finB b = true) : mvB b * 2 ^ eP b < 10 ^ 600 ∧ 2 ^ eP b < 10 ^ 600 ∧ 2 ^ eN b < 10 ^ 600 := by
  obtain ⟨h1, h2⟩ := fin_ev b h
  have hm := fin_mv b
  have p4 := up600 K 600 hK rfl
  have p5 := up620 K 600 hK rfl
  exact ⟨Nat.lt_of_lt_of_le (mulp_lt (mvB b) (eP b) K (by omega) (by unfold eP; omega)) p5, Nat.lt_of_lt_of_le (pow2_lt (eP b) K (by unfold eP; omega)) p4, Nat.lt_of_lt_of_le (pow2_lt (eN b) K (by unfold eN; omega)) p4⟩
theorem sT_eq (b : Bool) (n : Nat) : sT b n = if b then ⟨#[45]⟩ ++ tb n else tb n := rfl
/-- What Exact answers. -/
noncomputable def exV (b : Nat) : Value := if nanB b then .tuple #[.agg #[.string ⟨#[]⟩, .string ⟨#[]⟩], .int .i64 30] else if infB b then .tuple #[.agg #[.string ⟨#[]⟩, .string ⟨#[]⟩], .int .i64 31] else .tuple #[.agg #[.string (numT (qB b)), .string (denT (qB b))], .int .i64 (errT (qB b))]
theorem fin_of (b : Nat) (h1 : nanB b = false) (h2 : infB b = false) : finB b = true := by
  unfold nanB at h1; unfold infB at h2; unfold finB
  have h1 := of_decide_eq_false h1; have h2 := of_decide_eq_false h2
  exact decide_eq_true (by omega)
theorem exact_any (b : Nat) (hb : b < 18446744073709551616) (w : World) (htab : Tab w) : Calls Tryz.prog 14 #[.float .f64 b] w fun r w' => r = .returned (exV b) ∧ Below w.heap.size w w' := by
  obtain ⟨V, hV⟩ : ∃ V, V = w.alloc (.cells #[.string ⟨#[]⟩, .string ⟨#[]⟩] 23) := ⟨_, rfl⟩
  have HR : Hid (T2 V w.heap.size (.string ⟨#[]⟩) (.string ⟨#[]⟩)) := by rw [hV]; exact ⟨by simp [go_sem], by simp [go_sem], by simp [go_sem], by simp [go_sem]⟩
  have HB : Hid (Below w.heap.size w V) := by rw [hV]; exact (Below.refl _ _).alloc (Nat.le_refl _) _
  have HTW := hide htab
  have HN := hide (fun W => isNaN_any b W)
  have HI := hide (fun W => isInf_0 b hb W)
  have HV := hide hV
  clear hV htab
  unfold exV
  by_cases hn : nanB b = true
  · rw [hn] at HN ⊢
    rw [if_pos rfl]
    clear hn HI
    go_enter Tryz.func14, Tryz.ntmps14
    go_upto_region 1 with fail
    rw [← unhide HV]
    clear HV
    have q0 := (unhide HR).c0; have q1 := (unhide HR).c1; have f0 := (unhide HR).f0; have f1 := (unhide HR).f1
    go_wp2_with (go_at_call 36; refine (unhide HN _).mono ?_; rintro e w1 ⟨rfl, hw⟩; obtain rfl : V = w1 := hw.symm)
    have hS := (unhide HR).store (.string ⟨#[]⟩) (.string ⟨#[]⟩)
    have v0 := hS.c0; have v1 := hS.c1
    exact bodyPost_ret (v := .tuple #[.agg #[.string ⟨#[]⟩, .string ⟨#[]⟩], .int .i64 30]) (w := store2 V w.heap.size (.string ⟨#[]⟩) (.string ⟨#[]⟩)) (by simp [results, Tryz.results14, go_sem, v0, v1]) rfl ⟨rfl, below_store2 (unhide HB) (Nat.le_refl _) _ _⟩
  · have hn' : nanB b = false := by simpa using hn
    rw [hn'] at HN ⊢
    rw [if_neg (by decide)]
    clear hn
    by_cases hi : infB b = true
    · rw [hi] at HI ⊢
      rw [if_pos rfl]
      clear hi hn'
      go_enter Tryz.func14, Tryz.ntmps14
      go_upto_region 1 with fail
      rw [← unhide HV]
      clear HV
      have q0 := (unhide HR).c0; have q1 := (unhide HR).c1; have f0 := (unhide HR).f0; have f1 := (unhide HR).f1
      go_wp2_with (first
        | (go_at_call 36; refine (unhide HN _).mono ?_; rintro e w1 ⟨rfl, hw⟩; obtain rfl : V = w1 := hw.symm)
        | (go_at_call 37; refine (unhide HI _).mono ?_; rintro e w1 ⟨rfl, hw⟩; obtain rfl : V = w1 := hw.symm))
      have hS := (unhide HR).store (.string ⟨#[]⟩) (.string ⟨#[]⟩)
      have v0 := hS.c0; have v1 := hS.c1
      exact bodyPost_ret (v := .tuple #[.agg #[.string ⟨#[]⟩, .string ⟨#[]⟩], .int .i64 31]) (w := store2 V w.heap.size (.string ⟨#[]⟩) (.string ⟨#[]⟩)) (by simp [results, Tryz.results14, go_sem, v0, v1]) rfl ⟨rfl, below_store2 (unhide HB) (Nat.le_refl _) _ _⟩
    · have hi' : infB b = false := by simpa using hi
      have hf := fin_of b hn' hi'
      rw [hi'] at HI ⊢
      rw [if_neg (by decide)]
      obtain ⟨K, hK⟩ : ∃ K, K = 400 := ⟨_, rfl⟩
      obtain ⟨b1, b2, b3⟩ := bnds b K hK hf
      have p6 := pow600
      have hmv := fin_mv b
      have hmk : mvB b < 1000000000 ^ 67 := Nat.lt_of_lt_of_le (by omega : mvB b < 1000000000 ^ 2) (Nat.pow_le_pow_right (by decide) (by decide))
      have h1k : 1 < 1000000000 ^ 67 := Nat.lt_of_lt_of_le (by decide : 1 < 1000000000 ^ 1) (Nat.pow_le_pow_right (by decide) (by decide))
      have HSZ := hide (fun W => sizeOf_any b (mvB b) (evB b) (2 ^ eP b) (2 ^ eN b) 67 W (cut_any b hb) (by omega) (fun W' => two_e b K hK hf W') (by omega) ⟨hmk, h1k, Nat.lt_of_lt_of_le b2 p6, Nat.lt_of_lt_of_le b3 p6⟩)
      have hq0 : 2 ^ eN b ≠ 0 := Nat.pos_iff_ne_zero.1 (Nat.two_pow_pos _)
      have HNE := hide (fun W (ht : Tab W) => new_ok (sT (negB b) (mvB b * 2 ^ eP b)) (tb (2 ^ eN b)) (negB b) (mvB b * 2 ^ eP b) (2 ^ eN b) W rfl rfl b1 b3 hq0 ht)
      unfold Ans at HNE
      have HXA := hide (fun W v (h : IsBig W v (mvB b * 2 ^ eP b)) (ht : Tab W) => text_any v _ 67 W h (by omega) (Nat.lt_of_lt_of_le b1 p6) ht)
      have HXB := hide (fun W v (h : IsBig W v (1 * 2 ^ eN b)) (ht : Tab W) => text_any v _ 67 W h (by omega) (by rw [Nat.one_mul]; exact Nat.lt_of_lt_of_le b3 p6) ht)
      rw [show (⟨(Lib.decDigits (mvB b * 2 ^ eP b)).toArray⟩ : ByteArray) = tb (mvB b * 2 ^ eP b) from (tx_tb _ b1).symm] at HXA
      rw [Nat.one_mul, show (⟨(Lib.decDigits (2 ^ eN b)).toArray⟩ : ByteArray) = tb (2 ^ eN b) from (tx_tb _ b3).symm] at HXB
      have HLS : Hid ((FloatKind.f64.format.order b 0 == some Ordering.lt) = negB b) := lt_zero b (of_decide_eq_true hf) hb
      have HST := hide (sT_eq (negB b) (mvB b * 2 ^ eP b))
      have HZA : Hid ((tb (mvB b * 2 ^ eP b)).size ≤ 600) := (tb_digs _ b1).2
      change Hid (∀ W : World, _) at HNE
      have hqd : qB b = Cub.valQ (negB b) (mvB b * 2 ^ eP b) (2 ^ eN b) := rfl
      rw [← hqd] at HNE
      clear hqd hq0 hmk h1k hmv p6 b1 b2 b3 hK hf hi' hn' hi
      rw [Nat.one_mul] at HSZ
      generalize numT (qB b) = rn at *
      generalize denT (qB b) = rd at *
      generalize errT (qB b) = re at *
      generalize tb (mvB b * 2 ^ eP b) = sa at *
      generalize tb (2 ^ eN b) = sb at *
      generalize mvB b * 2 ^ eP b = na at *
      generalize 2 ^ eN b = nb at *
      generalize sT (negB b) na = sg at *
      have hsz : sa.size ≤ 600 := unhide HZA
      have hszI : (sa.size : Int) ≤ 600 := by omega
      have hls := unhide HLS
      generalize hng : negB b = ng at *
      cases ng
      all_goals
        obtain rfl := unhide HST
        go_enter Tryz.func14, Tryz.ntmps14
        go_upto_region 1 with fail
        rw [← unhide HV]
        clear HV
        go_upto_region 6 with (first
          | (go_at_call 36; refine (unhide HN _).mono ?_; rintro e w1 ⟨rfl, hw⟩; obtain rfl : V = w1 := hw.symm)
          | (go_at_call 37; refine (unhide HI _).mono ?_; rintro e w1 ⟨rfl, hw⟩; obtain rfl : V = w1 := hw.symm)
          | (go_at_call 38; refine (unhide HSZ _).mono ?_; rintro e W2 ⟨v, rfl, hv, hb2⟩; obtain ⟨a1, l1, c1, a2, l2, c2, rfl, hx1, hx2⟩ := hv; have HR2 := hide ((unhide HR).later hb2); have HB2 : Hid (Below w.heap.size w W2) := (unhide HB).trans (hb2.mono (unhide HB).size); have HX1 := hide hx1; have HX2 := hide hx2; clear hb2 hx1 hx2))
        obtain ⟨Y, hY⟩ : ∃ Y, Y = W2.alloc (.cells #[.slice a1 l1 c1, .slice a2 l2 c2] 54) := ⟨_, rfl⟩
        have HT : Hid (T2 Y W2.heap.size (.slice a1 l1 c1) (.slice a2 l2 c2)) := by rw [hY]; exact ⟨by simp [go_sem], by simp [go_sem], by simp [go_sem], by simp [go_sem]⟩
        have hby : Below W2.heap.size W2 Y := by rw [hY]; exact (Below.refl _ _).alloc (Nat.le_refl _) _
        have HR3 := hide ((unhide HR2).later hby); have HB3 : Hid (Below w.heap.size w Y) := (unhide HB2).trans (hby.mono (unhide HB2).size); have HY1 := hide ((unhide HX1).later hby); have HY2 := hide ((unhide HX2).later hby)
        rw [← hY]
        clear hY hby HX1 HX2 HR2 HB2
        generalize W2.heap.size = gY at *
        have y0 := (unhide HT).c0; have y1 := (unhide HT).c1
        go_upto_region 7 with (go_at_call 39; refine (unhide HXA _ _ (unhide HY1) ((unhide HTW).later (unhide HB3))).mono ?_; rintro e W4 ⟨rfl, hb⟩; have HT4 := hide ((unhide HT).later hb); have HR4 := hide ((unhide HR3).later hb); have HB4 : Hid (Below w.heap.size w W4) := (unhide HB3).trans (hb.mono (unhide HB3).size); have HY4 := hide ((unhide HY2).later hb); clear hb y0 y1)
        clear HXA HY1 HY2 HT HR3 HB3
        have y0 := (unhide HT4).c0; have y1 := (unhide HT4).c1
        go_wp2_with (first
          | (go_at_call 39; refine (unhide HXB _ _ (unhide HY4) ((unhide HTW).later (unhide HB4))).mono ?_; rintro e W5 ⟨rfl, hb⟩; have HR5 := hide ((unhide HR4).later hb); have HB5 : Hid (Below w.heap.size w W5) := (unhide HB4).trans (hb.mono (unhide HB4).size); clear hb y0 y1)
          | (go_at_call 40; refine (unhide HNE _ ((unhide HTW).later (unhide HB5))).mono ?_; rintro e W6 ⟨rfl, hb⟩; have HR6 := hide ((unhide HR5).later hb); have HB6 : Hid (Below w.heap.size w W6) := (unhide HB5).trans (hb.mono (unhide HB5).size); clear hb; have q0 := (unhide HR6).c0; have q1 := (unhide HR6).c1; have f0 := (unhide HR6).f0; have f1 := (unhide HR6).f1))
        have hS := (unhide HR6).store (.string rn) (.string rd)
        have v0 := hS.c0; have v1 := hS.c1
        exact bodyPost_ret (v := .tuple #[.agg #[.string rn, .string rd], .int .i64 re]) (w := store2 W6 w.heap.size (.string rn) (.string rd)) (by simp [results, Tryz.results14, go_sem, v0, v1]) rfl ⟨rfl, below_store2 (unhide HB6) (Nat.le_refl _) _ _⟩
theorem self_zero : (FloatKind.f64.format.order 0 0 != some Ordering.eq) = false := by rw [order_neq]; decide +kernel
theorem sub_run (b : Nat) (h : floatBits .sub .f64 b b = some 0) (W : World) : (binOp .sub 24 (.float .f64 b) (.float .f64 b)).run Tryz.prog W = .ok (.float .f64 0) W := by
  rw [run_sub]; unfold vA wA; rw [h]
theorem sub_inf (b : Nat) (h : infB b = true) : floatBits .sub .f64 b b = none := by
  unfold infB at h
  have h := of_decide_eq_true h
  show ((Ieee.double.read b).sum (Ieee.double.read b).opposite).map Ieee.double.write = none
  have hr : ∃ s, Ieee.double.read b = .infinity s := by
    unfold Ieee.Format.read
    simp only [sign_lt, inf_is, binade_is, least_is]
    rw [if_neg (by omega), if_neg (by omega), if_pos h]
    exact ⟨_, rfl⟩
  obtain ⟨s, hr⟩ := hr
  rw [hr]
  cases s <;> rfl
theorem sub_run_inf (b : Nat) (h : infB b = true) (W : World) : (binOp .sub 24 (.float .f64 b) (.float .f64 b)).run Tryz.prog W = .ok (.float .f64 (nanC (W.tape W.drawn (.nanBits .f64 b b)))) W.drew := by
  rw [run_sub]; unfold vA wA; rw [sub_inf b h]
theorem refExact_nan (b : Nat) (hn : nanB b = true) (w : World) : Calls Tryz.prog 15 #[.float .f64 b] w fun r w' => r = .returned (.tuple #[.agg #[.string ⟨#[]⟩, .string ⟨#[]⟩], .int .i64 30]) ∧ Below w.heap.size w w' := by
  obtain ⟨V, hV⟩ : ∃ V, V = w.alloc (.cells #[.string ⟨#[]⟩, .string ⟨#[]⟩] 23) := ⟨_, rfl⟩
  have HR : Hid (T2 V w.heap.size (.string ⟨#[]⟩) (.string ⟨#[]⟩)) := by rw [hV]; exact ⟨by simp [go_sem], by simp [go_sem], by simp [go_sem], by simp [go_sem]⟩
  have HB : Hid (Below w.heap.size w V) := by rw [hV]; exact (Below.refl _ _).alloc (Nat.le_refl _) _
  have HV := hide hV
  clear hV
  have h2 := order_neq b
  rw [hn] at h2
  go_enter Tryz.func15, Tryz.ntmps15
  go_upto_region 1 with fail
  rw [← unhide HV]
  clear HV
  have q0 := (unhide HR).c0; have q1 := (unhide HR).c1; have f0 := (unhide HR).f0; have f1 := (unhide HR).f1
  go_wp2_with fail
  have hS := (unhide HR).store (.string ⟨#[]⟩) (.string ⟨#[]⟩)
  have v0 := hS.c0; have v1 := hS.c1
  exact bodyPost_ret (v := .tuple #[.agg #[.string ⟨#[]⟩, .string ⟨#[]⟩], .int .i64 30]) (w := store2 V w.heap.size (.string ⟨#[]⟩) (.string ⟨#[]⟩)) (by simp [results, Tryz.results15, go_sem, v0, v1]) rfl ⟨rfl, below_store2 (unhide HB) (Nat.le_refl _) _ _⟩
theorem refExact_inf (b : Nat) (hn : nanB b = false) (hi : infB b = true) (w : World) : Calls Tryz.prog 15 #[.float .f64 b] w fun r w' => r = .returned (.tuple #[.agg #[.string ⟨#[]⟩, .string ⟨#[]⟩], .int .i64 31]) ∧ Below w.heap.size w w' := by
  obtain ⟨V, hV⟩ : ∃ V, V = w.alloc (.cells #[.string ⟨#[]⟩, .string ⟨#[]⟩] 23) := ⟨_, rfl⟩
  have HR : Hid (T2 V.drew w.heap.size (.string ⟨#[]⟩) (.string ⟨#[]⟩)) := by rw [hV]; exact ⟨by simp [go_sem], by simp [go_sem], by simp [go_sem], by simp [go_sem]⟩
  have HB : Hid (Below w.heap.size w V.drew) := by rw [hV]; exact ((Below.refl _ _).alloc (Nat.le_refl _) _).drew
  have HV := hide hV
  clear hV
  have h2 := order_neq b
  rw [hn] at h2
  have hs := sub_run_inf b hi V
  have hz := order_nanC (V.tape V.drawn (.nanBits .f64 b b))
  generalize nanC (V.tape V.drawn (.nanBits .f64 b b)) = c at *
  generalize V.drew = U at *
  go_enter Tryz.func15, Tryz.ntmps15
  go_upto_region 1 with fail
  rw [← unhide HV]
  clear HV
  have q0 := (unhide HR).c0; have q1 := (unhide HR).c1; have f0 := (unhide HR).f0; have f1 := (unhide HR).f1
  go_wp2_with fail
  have hS := (unhide HR).store (.string ⟨#[]⟩) (.string ⟨#[]⟩)
  have v0 := hS.c0; have v1 := hS.c1
  exact bodyPost_ret (v := .tuple #[.agg #[.string ⟨#[]⟩, .string ⟨#[]⟩], .int .i64 31]) (w := store2 U w.heap.size (.string ⟨#[]⟩) (.string ⟨#[]⟩)) (by simp [results, Tryz.results15, go_sem, v0, v1]) rfl ⟨rfl, below_store2 (unhide HB) (Nat.le_refl _) _ _⟩
theorem refExact_zero (b : Nat) (hb : b < 18446744073709551616) (hn : nanB b = false) (hf : finB b = true) (hm : mvB b = 0) (w : World) : Calls Tryz.prog 15 #[.float .f64 b] w fun r w' => r = .returned (.tuple #[.agg #[.string ⟨#[48]⟩, .string ⟨#[49]⟩], .int .i64 0]) ∧ Below w.heap.size w w' := by
  obtain ⟨V, hV⟩ : ∃ V, V = w.alloc (.cells #[.string ⟨#[]⟩, .string ⟨#[]⟩] 23) := ⟨_, rfl⟩
  have HR : Hid (T2 V w.heap.size (.string ⟨#[]⟩) (.string ⟨#[]⟩)) := by rw [hV]; exact ⟨by simp [go_sem], by simp [go_sem], by simp [go_sem], by simp [go_sem]⟩
  have HB : Hid (Below w.heap.size w V) := by rw [hV]; exact (Below.refl _ _).alloc (Nat.le_refl _) _
  have HV := hide hV
  clear hV
  have h2 := order_neq b
  rw [hn] at h2
  have hs := sub_run b (sub_fin b (of_decide_eq_true hf))
  have hz := self_zero
  have HP := hide (fun W => refParts_any b hb W)
  rw [hm] at HP
  generalize decide (9223372036854775808 ≤ b) = s at *
  generalize evB b = e' at *
  clear hf
  go_enter Tryz.func15, Tryz.ntmps15
  go_upto_region 1 with fail
  rw [← unhide HV]
  clear HV
  have q0 := (unhide HR).c0; have q1 := (unhide HR).c1; have f0 := (unhide HR).f0; have f1 := (unhide HR).f1
  go_wp2_with (go_at_call 41; refine (unhide HP _).mono ?_; rintro e w1 ⟨rfl, hw⟩; obtain rfl : V = w1 := hw.symm)
  have hS := (unhide HR).store (.string ⟨#[48]⟩) (.string ⟨#[49]⟩)
  have v0 := hS.c0; have v1 := hS.c1
  exact bodyPost_ret (v := .tuple #[.agg #[.string ⟨#[48]⟩, .string ⟨#[49]⟩], .int .i64 0]) (w := store2 V w.heap.size (.string ⟨#[48]⟩) (.string ⟨#[49]⟩)) (by simp [results, Tryz.results15, go_sem, v0, v1]) rfl ⟨rfl, below_store2 (unhide HB) (Nat.le_refl _) _ _⟩
theorem refExact_core (b : Nat) (hb : b < 18446744073709551616) (hn : nanB b = false) (hf : finB b = true) (hm : mvB b ≠ 0) (A B : ByteArray) (hA : A.size ≤ 600)
    (HVV : ∀ W : World, Calls Tryz.prog 42 #[.int .u64 (mvB b : Nat), .int .i64 (evB b)] W fun r w' => r = .returned (.agg #[.bool false, .string A, .string B]) ∧ Below W.heap.size W w') (w : World) :
    Calls Tryz.prog 15 #[.float .f64 b] w fun r w' => r = .returned (.tuple #[.agg #[.string (if decide (9223372036854775808 ≤ b) then ⟨#[45]⟩ ++ A else A), .string B], .int .i64 0]) ∧ Below w.heap.size w w' := by
  obtain ⟨V, hV⟩ : ∃ V, V = w.alloc (.cells #[.string ⟨#[]⟩, .string ⟨#[]⟩] 23) := ⟨_, rfl⟩
  have HR : Hid (T2 V w.heap.size (.string ⟨#[]⟩) (.string ⟨#[]⟩)) := by rw [hV]; exact ⟨by simp [go_sem], by simp [go_sem], by simp [go_sem], by simp [go_sem]⟩
  have HB : Hid (Below w.heap.size w V) := by rw [hV]; exact (Below.refl _ _).alloc (Nat.le_refl _) _
  have HV := hide hV
  clear hV
  have h2 := order_neq b
  rw [hn] at h2
  have hs := sub_run b (sub_fin b (of_decide_eq_true hf))
  have hz := self_zero
  have HP := hide (fun W => refParts_any b hb W)
  have HVV := hide HVV
  have hmI : (((mvB b : Nat) : Int) == 0) = false := by rw [beq_eq_false_iff_ne]; omega
  generalize decide (9223372036854775808 ≤ b) = s at *
  generalize evB b = e' at *
  generalize mvB b = m at *
  have hAI : (A.size : Int) ≤ 600 := by omega
  clear hf hn hm
  cases s
  all_goals
    go_enter Tryz.func15, Tryz.ntmps15
    go_upto_region 1 with fail
    rw [← unhide HV]
    clear HV
    go_upto_region 8 with (go_at_call 41; refine (unhide HP _).mono ?_; rintro e w1 ⟨rfl, hw⟩; obtain rfl : V = w1 := hw.symm)
    clear h2 hs hz hmI
    go_upto_region 9 with (go_at_call 42; refine (unhide HVV _).mono ?_; rintro e W1 ⟨rfl, hb1⟩; have HR1 := hide ((unhide HR).later hb1); have HB1 : Hid (Below w.heap.size w W1) := (unhide HB).trans (hb1.mono (unhide HB).size); clear hb1 HR HB)
    obtain ⟨Y, hY⟩ : ∃ Y, Y = W1.alloc (.cells #[.bool false, .string A, .string B] 56) := ⟨_, rfl⟩
    have HX : Hid (FBox Y W1.heap.size (.bool false) (.string A) (.string B)) := by rw [hY]; exact ⟨by simp [go_sem], by simp [go_sem], by simp [go_sem], by simp [go_sem], by simp [go_sem], by simp [go_sem]⟩
    have hby : Below W1.heap.size W1 Y := by rw [hY]; exact (Below.refl _ _).alloc (Nat.le_refl _) _
    have HR2 := hide ((unhide HR1).later hby); have HB2 : Hid (Below w.heap.size w Y) := (unhide HB1).trans (hby.mono (unhide HB1).size)
    try rw [← hY]
    clear hY hby HR1 HB1
    generalize W1.heap.size = g at *
    have c1 := (unhide HX).c1; have c2 := (unhide HX).c2
    have q0 := (unhide HR2).c0; have q1 := (unhide HR2).c1; have f0 := (unhide HR2).f0; have f1 := (unhide HR2).f1
    go_wp2_with fail
  · have hS := (unhide HR2).store (.string A) (.string B)
    have v0 := hS.c0; have v1 := hS.c1
    exact bodyPost_ret (v := .tuple #[.agg #[.string A, .string B], .int .i64 0]) (w := store2 Y w.heap.size (.string A) (.string B)) (by simp [results, Tryz.results15, go_sem, v0, v1]) rfl ⟨rfl, below_store2 (unhide HB2) (Nat.le_refl _) _ _⟩
  · have hS := (unhide HR2).store (.string (⟨#[45]⟩ ++ A)) (.string B)
    have v0 := hS.c0; have v1 := hS.c1
    exact bodyPost_ret (v := .tuple #[.agg #[.string (⟨#[45]⟩ ++ A), .string B], .int .i64 0]) (w := store2 Y w.heap.size (.string (⟨#[45]⟩ ++ A)) (.string B)) (by simp [results, Tryz.results15, go_sem, v0, v1]) rfl ⟨rfl, below_store2 (unhide HB2) (Nat.le_refl _) _ _⟩
theorem one_tb : tb 1 = ⟨#[49]⟩ := (lit_tb ⟨#[49]⟩ 1 (by decide) (by decide)).1.symm
theorem zero_tb : tb 0 = ⟨#[48]⟩ := (lit_tb ⟨#[48]⟩ 0 (by decide) (by decide)).1.symm
theorem neg_of (b : Nat) (hb : b < 18446744073709551616) (hm : mvB b ≠ 0) : negB b = decide (9223372036854775808 ≤ b) := by
  unfold negB
  rw [decide_eq_decide]
  constructor
  · intro h; omega
  · intro h
    rcases Nat.eq_or_lt_of_le h with e | e
    · subst e; exact absurd (by decide) hm
    · exact e
theorem neg_zero (b : Nat) (hb : b < 18446744073709551616) (hm : mvB b = 0) : negB b = false := by
  unfold mvB xpB mtB at hm
  unfold negB
  refine decide_eq_false (fun h => ?_)
  split at hm <;> omega
theorem exV_fin (b : Nat) (hn : nanB b = false) (hi : infB b = false) : exV b = .tuple #[.agg #[.string (numT (qB b)), .string (denT (qB b))], .int .i64 (errT (qB b))] := by
  unfold exV; rw [hn, hi]; rfl
theorem refExact_any (b : Nat) (hb : b < 18446744073709551616) (w : World) : Calls Tryz.prog 15 #[.float .f64 b] w fun r w' => r = .returned (exV b) ∧ Below w.heap.size w w' := by
  by_cases hn : nanB b = true
  · have e : exV b = .tuple #[.agg #[.string ⟨#[]⟩, .string ⟨#[]⟩], .int .i64 30] := by unfold exV; rw [hn]; rfl
    rw [e]; exact refExact_nan b hn w
  have hn' : nanB b = false := by simpa using hn
  by_cases hi : infB b = true
  · have e : exV b = .tuple #[.agg #[.string ⟨#[]⟩, .string ⟨#[]⟩], .int .i64 31] := by unfold exV; rw [hn', hi]; rfl
    rw [e]; exact refExact_inf b hn' hi w
  have hi' : infB b = false := by simpa using hi
  have hf := fin_of b hn' hi'
  rw [exV_fin b hn' hi']
  obtain ⟨K, hK⟩ : ∃ K, K = 400 := ⟨_, rfl⟩
  obtain ⟨b1, b2, b3⟩ := bnds b K hK hf
  have hmv := fin_mv b
  obtain ⟨h1, h2⟩ := fin_ev b hf
  have hr := ratio_q (b := negB b) (Nat.two_pow_pos (eN b)) b1 b3
  unfold qB
  rw [hr.2.1, hr.2.2.1, hr.2.2.2]
  by_cases hm : mvB b = 0
  · rw [hm, Nat.zero_mul, Nat.gcd_zero_left, Nat.zero_div, Nat.div_self (Nat.two_pow_pos _), neg_zero b hb hm, one_tb]
    show Calls _ _ _ _ fun r w' => r = .returned (.tuple #[.agg #[.string (tb 0), _], _]) ∧ _
    rw [zero_tb]
    exact refExact_zero b hb hn' hf hm w
  · have hgp : 0 < Nat.gcd (mvB b * 2 ^ eP b) (2 ^ eN b) := Nat.gcd_pos_of_pos_right _ (Nat.two_pow_pos _)
    have hne : mvB b * 2 ^ eP b / Nat.gcd (mvB b * 2 ^ eP b) (2 ^ eN b) ≠ 0 := by
      refine Nat.pos_iff_ne_zero.1 (Nat.div_pos (Nat.gcd_le_left _ ?_) hgp)
      exact Nat.mul_pos (by omega) (Nat.two_pow_pos _)
    have a1 : mvB b * 2 ^ eP b / Nat.gcd (mvB b * 2 ^ eP b) (2 ^ eN b) < 10 ^ 600 := Nat.lt_of_le_of_lt (Nat.div_le_self _ _) b1
    have a2 : 2 ^ eN b / Nat.gcd (mvB b * 2 ^ eP b) (2 ^ eN b) < 10 ^ 600 := Nat.lt_of_le_of_lt (Nat.div_le_self _ _) b3
    rw [decide_eq_true hne, Bool.and_true, neg_of b hb hm]
    unfold sT
    refine refExact_core b hb hn' hf hm _ _ (tb_digs _ a1).2 ?_ w
    intro W
    rw [tx_tb _ a1, tx_tb _ a2]
    by_cases hz : 0 ≤ evB b
    · have e1 : eN b = 0 := by unfold eN; omega
      have e2 : evB b = ((eP b : Nat) : Int) := by unfold eP; omega
      rw [e1, e2, Nat.pow_zero, Nat.gcd_one_right, Nat.div_one, Nat.div_one, ← tx_tb 1 (lit_tb ⟨#[49]⟩ 1 (by decide) (by decide)).2, one_tb]
      exact value_pos (mvB b) (eP b) W (by omega) (by unfold eP; omega)
    · have e1 : eP b = 0 := by unfold eP; omega
      have e2 : evB b = -((eN b : Nat) : Int) := by unfold eN; omega
      rw [e1, e2, Nat.pow_zero, Nat.mul_one]
      exact value_neg (mvB b) (eN b) W (by omega) (by omega) (by unfold eN; omega) (by unfold eN; omega)
end Go.Proofs.YtijifpbpjinmhaaGreatDoor

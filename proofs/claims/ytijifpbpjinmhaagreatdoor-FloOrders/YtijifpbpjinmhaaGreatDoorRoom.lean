/- flo: bits (113), places (53), roomOf (52) and its closure (78). -/
import Derived.Test.YtijifpbpjinmhaaGreatDoorAway
import Derived.Test.YtijifpbpjinmhaaGreatDoorWords
import Derived.Test.YtijifpbpjinmhaaGreatDoorX1
import Derived.Test.YtijifpbpjinmhaaGreatDoorX2
import Derived.Test.YtijifpbpjinmhaaGreatDoorSt2
import Derived.Test.YtijifpbpjinmhaaGreatDoorRefPower
import Derived.Test.YtijifpbpjinmhaaGreatDoorGcdMath2
import Derived.Test.YtijifpbpjinmhaaGreatDoorTakeB
set_option maxHeartbeats 4000000
set_option maxRecDepth 100000
namespace Go.Proofs.YtijifpbpjinmhaaGreatDoor
open Go.RowKit
theorem twoToN (n P k : Nat) (hp : 0 < n) (hn : n ≤ 4000) (hP : 2 ^ n = P) (hk1 : 1 ≤ k) (hk : k ≤ 1000000) (hl : P < 1000000000 ^ k) (h2 : 2 < 1000000000 ^ k) (W : World) : Calls Tryz.prog 74 #[.int .i64 (-(n : Int))] W fun e w' => ∃ v, e = .returned v ∧ IsSz w' v 1 P ∧ Below W.heap.size W w' :=
  twoTo_neg n P W hp hn (fun V x hx => by rw [← hP] at hl ⊢; exact bigPow_any x 2 n k V hx (by omega) hk1 hk hl h2)
theorem twoToP (n P k : Nat) (hn : n ≤ 4000) (hP : 2 ^ n = P) (hk1 : 1 ≤ k) (hk : k ≤ 1000000) (hl : P < 1000000000 ^ k) (h2 : 2 < 1000000000 ^ k) (W : World) : Calls Tryz.prog 74 #[.int .i64 (n : Int)] W fun e w' => ∃ v, e = .returned v ∧ IsSz w' v P 1 ∧ Below W.heap.size W w' :=
  twoTo_pos n P W hn (fun V x hx => by rw [← hP] at hl ⊢; exact bigPow_any x 2 n k V hx (by omega) hk1 hk hl h2)
theorem tenToN (n P : Nat) (hp : 0 < n) (hn : n ≤ 4000) (hP : 1 * 10 ^ n = P) (W : World) : Calls Tryz.prog 48 #[.int .i64 (-(n : Int))] W fun e w' => ∃ v, e = .returned v ∧ IsSz w' v 1 P ∧ Below W.heap.size W w' :=
  tenTo_neg n P W hp hn (fun V x hx => by rw [← hP]; exact shift_any x 1 n 1 V hx (by decide) (by decide) (by omega))
/-- A float's size: its numerator, its denominator. -/
def SizeAns (f a c : Nat) : Prop := ∀ W : World, Calls Tryz.prog 38 #[.float .f64 f] W fun e w' => ∃ v, e = .returned v ∧ IsSz w' v a c ∧ Below W.heap.size W w'
theorem size_lo : SizeAns 4591870180066957721 (7205759403792793 * 1) (1 * 2 ^ 56) := fun W => sizeOf_any 4591870180066957721 7205759403792793 (-56) 1 (2 ^ 56) 50 W cut_lo (by decide) (twoToN 56 (2 ^ 56) 50 (by decide) (by decide) rfl (by decide) (by decide) (by decide +kernel) (by decide +kernel)) (by decide) (by decide +kernel)
theorem size_hi : SizeAns 4591870180066957722 (7205759403792794 * 1) (1 * 2 ^ 56) := fun W => sizeOf_any 4591870180066957722 7205759403792794 (-56) 1 (2 ^ 56) 50 W cut_hi (by decide) (twoToN 56 (2 ^ 56) 50 (by decide) (by decide) rfl (by decide) (by decide) (by decide +kernel) (by decide +kernel)) (by decide) (by decide +kernel)
theorem sizeZ (P : Nat) (hP : 2 ^ 1074 = P) (hl : P < 1000000000 ^ 50) : SizeAns 0 (0 * 1) (1 * P) := fun W => sizeOf_any 0 0 (-1074) 1 P 50 W cut_zero (by decide) (twoToN 1074 P 50 (by decide) (by decide) hP (by decide) (by decide) hl (by decide +kernel)) (by decide) ⟨by decide +kernel, by decide +kernel, by decide +kernel, hl⟩
attribute [local go_sem] run_bits run_from
def nearO (c : Int) (f : Nat) : Bool := decide (c < 0) || (decide (c = 0) && decide (f % 2 = 0))
theorem nearer_any (a1 : Option Addr) (l1 c1' : Nat) (a2 : Option Addr) (l2 c2' : Nat) (p q d1 c1 d2 c2 k f g gx : Nat) (c : Int) (w : World) (hx : OwnU w gx 54 #[.slice a1 l1 c1', .slice a2 l2 c2']) (hp : IsBig w (.agg #[.slice a1 l1 c1']) p) (hq : IsBig w (.agg #[.slice a2 l2 c2']) q)
    (haf : ∀ W, Below w.heap.size w W → Calls Tryz.prog 126 #[.agg #[.slice a1 l1 c1', .slice a2 l2 c2'], .float .f64 f] W fun e w' => ∃ v, e = .returned v ∧ IsSz w' v d1 c1 ∧ Below W.heap.size W w') (hag : ∀ W, Below w.heap.size w W → Calls Tryz.prog 126 #[.agg #[.slice a1 l1 c1', .slice a2 l2 c2'], .float .f64 g] W fun e w' => ∃ v, e = .returned v ∧ IsSz w' v d2 c2 ∧ Below W.heap.size W w')
    (hk : k ≤ 1000000) (hl : d1 < 1000000000 ^ k ∧ c1 < 1000000000 ^ k ∧ d2 < 1000000000 ^ k ∧ c2 < 1000000000 ^ k) (hc : Cub.cmpN (d1 * c2) (d2 * c1) = c) (hcc : c = -1 ∨ c = 0 ∨ c = 1) :
    Calls Tryz.prog 125 #[.float .f64 f, .float .f64 g, .pointer (some ⟨gx, 0, none⟩)] w fun e w' => e = .returned (.bool (nearO c f)) ∧ Below w.heap.size w w' := by
  have hxs : ∀ W, Below w.heap.size w W → OwnU W gx 54 #[.slice a1 l1 c1', .slice a2 l2 c2'] := fun W hb => hx.later hb
  have HP0 := hide hp
  have HQ0 := hide hq
  have HXS := hide hxs
  have HAF := hide haf
  have HAG := hide hag
  have HK := hide hk
  have HL := hide hl
  have HB : Hid (Below w.heap.size w w) := Below.refl _ _
  have hcs : Cub.cmpN (d1 * c2) (d2 * c1) = c := hc
  have HC := hide hcs
  clear hp hq hx hxs haf hag hk hl hc hcs
  go_enter Tryz.func125, Tryz.ntmps125
  go_upto_region 1 with fail
  have HS0 : Hid (St w [] [] w) := St.nil (Below.refl _ _)
  clear HB
  refine region_reads 7 (fun _ => True) (fun W' => W'.cell? ⟨gx, 0, none⟩ = some (.slice a1 l1 c1') ∧ W'.cell? ⟨gx, 1, none⟩ = some (.slice a2 l2 c2')) 8 rfl (by kernel_rfl) ?_
  have HS1 := hide ((unhide HS0).later ((Below.refl _ _).drew))
  clear HS0
  generalize w.drew = U0 at *
  refine wpR_take7 (i := 0) (oi := _) (v := .agg #[.slice a1 l1 c1', .slice a2 l2 c2']) rfl (by kernel_rfl) (by kernel_rfl) (by kernel_rfl) (by kernel_rfl) (fun _ _ _ h => h) (Or.inl ⟨by rfl, ?_⟩) ⟨trivial, ⟨(unhide HXS _ (unhide HS1).below).ub.c 0 _ rfl, (unhide HXS _ (unhide HS1).below).ub.c 1 _ rfl⟩⟩ ?_
  · intro W' hW
    go_split_ands
    go_simp
  refine wpR_take7 (i := 1) (oi := _) (v := .float .f64 f) rfl (by kernel_rfl) (by kernel_rfl) (by kernel_rfl) (by kernel_rfl) (fun _ _ _ h => h) (Or.inl ⟨by rfl, ?_⟩) ⟨trivial, ⟨(unhide HXS _ (unhide HS1).below).ub.c 0 _ rfl, (unhide HXS _ (unhide HS1).below).ub.c 1 _ rfl⟩⟩ ?_
  · intro W' hW
    go_split_ands
    go_simp
  refine wpR_take7 (i := 3) (oi := _) (v := .agg #[.slice a1 l1 c1', .slice a2 l2 c2']) rfl (by kernel_rfl) (by kernel_rfl) (by kernel_rfl) (by kernel_rfl) (fun _ _ _ h => h) (Or.inl ⟨by rfl, ?_⟩) ⟨trivial, ⟨(unhide HXS _ (unhide HS1).below).ub.c 0 _ rfl, (unhide HXS _ (unhide HS1).below).ub.c 1 _ rfl⟩⟩ ?_
  · intro W' hW
    go_split_ands
    go_simp
  refine wpR_take7 (i := 4) (oi := _) (v := .float .f64 g) rfl (by kernel_rfl) (by kernel_rfl) (by kernel_rfl) (by kernel_rfl) (fun _ _ _ h => h) (Or.inl ⟨by rfl, ?_⟩) ⟨trivial, ⟨(unhide HXS _ (unhide HS1).below).ub.c 0 _ rfl, (unhide HXS _ (unhide HS1).below).ub.c 1 _ rfl⟩⟩ ?_
  · intro W' hW
    go_split_ands
    go_simp
  refine wpR_op (i := 2) (o := _) (by kernel_rfl) rfl rfl (fun K hK => ?_)
  go_simp
  refine (unhide HAF _ (unhide HS1).below).mono ?_
  rintro e U1 ⟨_, rfl, ⟨a3, l3, c3, a4, l4, c4, rfl, hv1, hv2⟩, hb⟩
  have HS2 := hide ((((unhide HS1).later hb).push hv1).push hv2)
  clear HS1
  clear hv1 hv2 hb
  refine hK _ _ ⟨trivial, ⟨(unhide HXS _ (unhide HS2).below).ub.c 0 _ rfl, (unhide HXS _ (unhide HS2).below).ub.c 1 _ rfl⟩⟩ ?_
  clear hK K
  refine wpR_op (i := 5) (o := _) (by kernel_rfl) rfl rfl (fun K hK => ?_)
  go_simp
  refine (unhide HAG _ (unhide HS2).below).mono ?_
  rintro e U2 ⟨_, rfl, ⟨a5, l5, c5, a6, l6, c6, rfl, hv1, hv2⟩, hb⟩
  have HS3 := hide ((((unhide HS2).later hb).push hv1).push hv2)
  clear HS2
  clear hv1 hv2 hb
  refine hK _ _ ⟨trivial, ⟨(unhide HXS _ (unhide HS3).below).ub.c 0 _ rfl, (unhide HXS _ (unhide HS3).below).ub.c 1 _ rfl⟩⟩ ?_
  clear hK K
  refine wpR_op (i := 6) (o := _) (by kernel_rfl) rfl rfl (fun K hK => ?_)
  go_simp
  refine (szcmp_any _ _ _ _ _ _ _ _ _ _ _ _ d1 c1 d2 c2 k _ ((unhide HS3).bgt 3 rfl) ((unhide HS3).bgt 2 rfl) ((unhide HS3).bgt 1 rfl) ((unhide HS3).bgt 0 rfl) (unhide HK) (unhide HL).1 (unhide HL).2.1 (unhide HL).2.2.1 (unhide HL).2.2.2).mono ?_
  rintro e U3 ⟨rfl, hb⟩
  have HS4 := hide ((unhide HS3).later hb)
  clear HS3
  clear hb
  refine hK _ _ ⟨trivial, ⟨(unhide HXS _ (unhide HS4).below).ub.c 0 _ rfl, (unhide HXS _ (unhide HS4).below).ub.c 1 _ rfl⟩⟩ ?_
  clear hK K
  rw [unhide HC]
  refine wpR_late (i := 7) (o := _) (by kernel_rfl) rfl rfl (by kernel_rfl) (fun K hK => ?_)
  go_simp
  refine hK _ _ (⟨(unhide HXS _ (unhide HS4).below).ub.c 0 _ rfl, (unhide HXS _ (unhide HS4).below).ub.c 1 _ rfl⟩) ?_
  clear hK K
  refine wpR_done (by kernel_rfl) ?_
  rcases hcc with rfl | rfl | rfl
  · skip
    go_wp2_with fail
    go_ret
    exact ⟨by simp [nearO], (unhide HS4).below⟩
  · rcases Nat.mod_two_eq_zero_or_one f with h | h
    · have h2 : (f : Int) % 2 = 0 := by omega
      go_wp2_with fail
      go_ret
      exact ⟨by simp [nearO, h], (unhide HS4).below⟩
    · have h2 : (f : Int) % 2 = 1 := by omega
      go_wp2_with fail
      go_ret
      exact ⟨by simp [nearO, h], (unhide HS4).below⟩
  · skip
    go_wp2_with fail
    go_ret
    exact ⟨by simp [nearO], (unhide HS4).below⟩
end Go.Proofs.YtijifpbpjinmhaaGreatDoor
namespace Go.Proofs.YtijifpbpjinmhaaGreatDoor
open Go.RowKit
def finB (b : Nat) : Bool := decide (b % 9223372036854775808 < 9218868437227405312)
def eN (b : Nat) : Nat := (-(evB b)).toNat
theorem fin_ev (b : Nat) (h : finB b = true) : -1074 ≤ evB b ∧ evB b ≤ 971 := by
  unfold finB at h
  have h := of_decide_eq_true h
  have hx : xpB b ≤ 2046 := by unfold xpB; omega
  unfold evB
  split <;> omega
theorem fin_of (b : Nat) (h1 : nanB b = false) (h2 : infB b = false) : finB b = true := by
  unfold nanB at h1; unfold infB at h2; unfold finB
  have h1 := of_decide_eq_false h1; have h2 := of_decide_eq_false h2
  exact decide_eq_true (by omega)
theorem self_zero : (FloatKind.f64.format.order 0 0 != some Ordering.eq) = false := by rw [order_neq]; decide +kernel
theorem sub_run (b : Nat) (h : floatBits .sub .f64 b b = some 0) (W : World) : (binOp .sub 24 (.float .f64 b) (.float .f64 b)).run Tryz.prog W = .ok (.float .f64 0) W := by
  rw [run_sub]; unfold vA wA; rw [h]
theorem sub_inf (b : Nat) (h : infB b = true) : floatBits .sub .f64 b b = none := by
  unfold infB at h
  have h := of_decide_eq_true h
  show ((Ieee.double.read b).sum (Ieee.double.read b).opposite).map Ieee.double.write = none
  have hr : ∃ s, Ieee.double.read b = .infinity s := by
    unfold Ieee.Format.read
    simp only [sign_lt, inf_is, binade_is, least_is]
    rw [if_neg (by omega), if_neg (by omega), if_pos h]
    exact ⟨_, rfl⟩
  obtain ⟨s, hr⟩ := hr
  rw [hr]
  cases s <;> rfl
theorem sub_run_inf (b : Nat) (h : infB b = true) (W : World) : (binOp .sub 24 (.float .f64 b) (.float .f64 b)).run Tryz.prog W = .ok (.float .f64 (nanC (W.tape W.drawn (.nanBits .f64 b b)))) W.drew := by
  rw [run_sub]; unfold vA wA; rw [sub_inf b h]
theorem lenB (v : Value) (n k l : Nat) (w : World) (h : IsBig w v n) (hk : k ≤ 1000000) (hn : n < 1000000000 ^ k) (hl : Lib.nDigits n = l) :
    Calls Tryz.prog 136 #[v] w fun e w' => e = .returned (.int .i64 (l : Nat)) ∧ Below w.heap.size w w' := by rw [← hl]; exact len_any v n k w h hk hn
theorem bits_tenth (a1 : Option Addr) (l1 c1 : Nat) (a2 : Option Addr) (l2 c2 : Nat) (p q k : Nat) (w : World) (hp : IsBig w (.agg #[.slice a1 l1 c1]) p) (hq : IsBig w (.agg #[.slice a2 l2 c2]) q) (hk : k ≤ 500000) (hpl : p < 1000000000 ^ k) (hql : q < 1000000000 ^ k) (hl1 : Lib.nDigits p = 1) (hl2 : Lib.nDigits q = 2) :
    Calls Tryz.prog 206 #[.agg #[.slice a1 l1 c1, .slice a2 l2 c2]] w fun r w' => r = .returned (.int .i64 (-6)) ∧ Below w.heap.size w w' := by
  obtain ⟨V, hV⟩ : ∃ V, V = (w.alloc (.cells #[.slice a1 l1 c1, .slice a2 l2 c2] 54)) := ⟨_, rfl⟩
  have HS0 : Hid (St w [(w.heap.size, 54, #[.slice a1 l1 c1, .slice a2 l2 c2])] [(.agg #[.slice a2 l2 c2], q), (.agg #[.slice a1 l1 c1], p)] V) := by rw [hV]; have h := ((((St.nil (Below.refl _ w)).push hp).push hq).new #[.slice a1 l1 c1, .slice a2 l2 c2] 54); (try simp only [World.size_alloc] at h); exact h
  have HV := hide hV
  have HK := hide hk
  have HPL := hide hpl
  have HQL := hide hql
  have HL1 := hide hl1
  have HL2 := hide hl2
  clear hV hp hq hk hpl hql hl1 hl2
  go_enter Tryz.func206, Tryz.ntmps206
  have hk6 : k ≤ 1000000 := by have := unhide HK; omega
  have HK6 := hide hk6
  clear hk6
  go_upto_region 1 with fail
  rw [← unhide HV]
  clear HV
  refine region_reads 8 (fun _ => True) (fun W' => W'.cell? ⟨w.heap.size, 0, none⟩ = some (.slice a1 l1 c1) ∧ W'.cell? ⟨w.heap.size, 1, none⟩ = some (.slice a2 l2 c2)) 9 rfl (by kernel_rfl) ?_
  have HS1 := hide ((unhide HS0).later ((Below.refl _ _).drew))
  clear HS0
  generalize V.drew = U0 at *
  refine wpR_take7 (i := 0) (oi := _) (v := .pointer (some ⟨w.heap.size, 0, none⟩)) rfl (by kernel_rfl) (by kernel_rfl) (by kernel_rfl) (by kernel_rfl) (fun _ _ _ h => h) (Or.inl ⟨by rfl, ?_⟩) ⟨trivial, ⟨((unhide HS1).at 0 rfl).ub.c 0 _ rfl, ((unhide HS1).at 0 rfl).ub.c 1 _ rfl⟩⟩ ?_
  · intro W' hW
    go_split_ands
    go_simp
  refine wpR_take7 (i := 1) (oi := _) (v := .agg #[.slice a1 l1 c1]) rfl (by kernel_rfl) (by kernel_rfl) (by kernel_rfl) (by kernel_rfl) (fun _ _ _ h => h) (Or.inl ⟨by rfl, ?_⟩) ⟨trivial, ⟨((unhide HS1).at 0 rfl).ub.c 0 _ rfl, ((unhide HS1).at 0 rfl).ub.c 1 _ rfl⟩⟩ ?_
  · intro W' hW
    go_split_ands
    go_simp
  refine wpR_take7 (i := 3) (oi := _) (v := .pointer (some ⟨w.heap.size, 1, none⟩)) rfl (by kernel_rfl) (by kernel_rfl) (by kernel_rfl) (by kernel_rfl) (fun _ _ _ h => h) (Or.inl ⟨by rfl, ?_⟩) ⟨trivial, ⟨((unhide HS1).at 0 rfl).ub.c 0 _ rfl, ((unhide HS1).at 0 rfl).ub.c 1 _ rfl⟩⟩ ?_
  · intro W' hW
    go_split_ands
    go_simp
  refine wpR_take7 (i := 4) (oi := _) (v := .agg #[.slice a2 l2 c2]) rfl (by kernel_rfl) (by kernel_rfl) (by kernel_rfl) (by kernel_rfl) (fun _ _ _ h => h) (Or.inl ⟨by rfl, ?_⟩) ⟨trivial, ⟨((unhide HS1).at 0 rfl).ub.c 0 _ rfl, ((unhide HS1).at 0 rfl).ub.c 1 _ rfl⟩⟩ ?_
  · intro W' hW
    go_split_ands
    go_simp
  refine wpR_op (i := 2) (o := _) (by kernel_rfl) rfl rfl (fun K hK => ?_)
  go_simp
  refine (lenB _ p k 1 _ ((unhide HS1).bgt 1 rfl) (unhide HK6) (unhide HPL) (unhide HL1)).mono ?_
  rintro e U1 ⟨rfl, hb⟩
  have HS2 := hide ((unhide HS1).later hb)
  clear HS1
  clear hb
  refine hK _ _ ⟨trivial, ⟨((unhide HS2).at 0 rfl).ub.c 0 _ rfl, ((unhide HS2).at 0 rfl).ub.c 1 _ rfl⟩⟩ ?_
  clear hK K
  refine wpR_op (i := 5) (o := _) (by kernel_rfl) rfl rfl (fun K hK => ?_)
  go_simp
  refine (lenB _ q k 2 _ ((unhide HS2).bgt 0 rfl) (unhide HK6) (unhide HQL) (unhide HL2)).mono ?_
  rintro e U2 ⟨rfl, hb⟩
  have HS3 := hide ((unhide HS2).later hb)
  clear HS2
  clear hb
  refine hK _ _ ⟨trivial, ⟨((unhide HS3).at 0 rfl).ub.c 0 _ rfl, ((unhide HS3).at 0 rfl).ub.c 1 _ rfl⟩⟩ ?_
  clear hK K
  refine wpR_op (i := 6) (o := _) (by kernel_rfl) rfl rfl (fun K hK => ?_)
  go_simp
  refine hK _ _ ⟨trivial, ⟨((unhide HS3).at 0 rfl).ub.c 0 _ rfl, ((unhide HS3).at 0 rfl).ub.c 1 _ rfl⟩⟩ ?_
  clear hK K
  refine wpR_op (i := 7) (o := _) (by kernel_rfl) rfl rfl (fun K hK => ?_)
  go_simp
  refine hK _ _ ⟨trivial, ⟨((unhide HS3).at 0 rfl).ub.c 0 _ rfl, ((unhide HS3).at 0 rfl).ub.c 1 _ rfl⟩⟩ ?_
  clear hK K
  refine wpR_late (i := 8) (o := _) (by kernel_rfl) rfl rfl (by kernel_rfl) (fun K hK => ?_)
  go_simp
  refine hK _ _ (⟨((unhide HS3).at 0 rfl).ub.c 0 _ rfl, ((unhide HS3).at 0 rfl).ub.c 1 _ rfl⟩) ?_
  clear hK K
  refine wpR_done (by kernel_rfl) ?_
  go_wp2_with fail
  go_ret
  exact ⟨rfl, (unhide HS3).below⟩
theorem places_up (a1 : Option Addr) (l1 c1 : Nat) (a2 : Option Addr) (l2 c2 : Nat) (p q x y k r t : Nat) (n : Int) (w : World) (hp : IsBig w (.agg #[.slice a1 l1 c1]) p) (hq : IsBig w (.agg #[.slice a2 l2 c2]) q) (hk : k ≤ 500000) (hpl : p < 1000000000 ^ k) (hql : q < 1000000000 ^ k) (hl1 : Lib.nDigits p = x) (hl2 : Lib.nDigits q = y) (hn : (x : Int) - (y : Int) = n) (hnl : -9000 ≤ n ∧ n ≤ 9000) (ht : ∀ W, Calls Tryz.prog 48 #[.int .i64 n] W fun e w' => ∃ v, e = .returned v ∧ IsSz w' v r t ∧ Below W.heap.size W w') (hrs : r < 1000000000 ^ k ∧ t < 1000000000 ^ k) (hc : Cub.cmpN (p * t) (r * q) = 1) :
    Calls Tryz.prog 107 #[.agg #[.slice a1 l1 c1, .slice a2 l2 c2]] w fun e w' => e = .returned (.int .i64 (n + 1)) ∧ Below w.heap.size w w' := by
  have hs1 : IntKind.i64.wrap ((x : Int) - (y : Int)) = (x : Int) - (y : Int) := by rw [IntKind.wrap_i64]; omega
  obtain ⟨V, hV⟩ : ∃ V, V = (w.alloc (.cells #[.slice a1 l1 c1, .slice a2 l2 c2] 54)) := ⟨_, rfl⟩
  have HS0 : Hid (St w [(w.heap.size, 54, #[.slice a1 l1 c1, .slice a2 l2 c2])] [(.agg #[.slice a2 l2 c2], q), (.agg #[.slice a1 l1 c1], p)] V) := by rw [hV]; have h := ((((St.nil (Below.refl _ w)).push hp).push hq).new #[.slice a1 l1 c1, .slice a2 l2 c2] 54); (try simp only [World.size_alloc] at h); exact h
  have HV := hide hV
  have HK := hide hk
  have HPL := hide hpl
  have HQL := hide hql
  have HL1 := hide hl1
  have HL2 := hide hl2
  have HT := hide ht
  have HC := hide hc
  have HRS := hide hrs
  have HN := hide hn
  clear hV hp hq hk hpl hql hl1 hl2 ht hc hrs hn
  go_enter Tryz.func107, Tryz.ntmps107
  have hk6 : k ≤ 1000000 := by have := unhide HK; omega
  have HK6 := hide hk6
  clear hk6
  go_upto_region 1 with fail
  rw [← unhide HV]
  clear HV
  go_cut [3] from 11 (fun s3 wx => s3 = .int .i64 ((x : Int) - (y : Int)) ∧ Hid (St w [(w.heap.size, 54, #[.slice a1 l1 c1, .slice a2 l2 c2])] [(.agg #[.slice a2 l2 c2], q), (.agg #[.slice a1 l1 c1], p)] wx))
  case first =>
    refine region_reads 7 (fun _ => True) (fun W' => W'.cell? ⟨w.heap.size, 0, none⟩ = some (.slice a1 l1 c1) ∧ W'.cell? ⟨w.heap.size, 1, none⟩ = some (.slice a2 l2 c2)) 8 rfl (by kernel_rfl) ?_
    have HS1 := hide ((unhide HS0).later ((Below.refl _ _).drew))
    clear HS0
    generalize V.drew = U0 at *
    refine wpR_take7 (i := 0) (oi := _) (v := .pointer (some ⟨w.heap.size, 0, none⟩)) rfl (by kernel_rfl) (by kernel_rfl) (by kernel_rfl) (by kernel_rfl) (fun _ _ _ h => h) (Or.inl ⟨by rfl, ?_⟩) ⟨trivial, ⟨((unhide HS1).at 0 rfl).ub.c 0 _ rfl, ((unhide HS1).at 0 rfl).ub.c 1 _ rfl⟩⟩ ?_
    · intro W' hW
      go_split_ands
      go_simp
    refine wpR_take7 (i := 1) (oi := _) (v := .agg #[.slice a1 l1 c1]) rfl (by kernel_rfl) (by kernel_rfl) (by kernel_rfl) (by kernel_rfl) (fun _ _ _ h => h) (Or.inl ⟨by rfl, ?_⟩) ⟨trivial, ⟨((unhide HS1).at 0 rfl).ub.c 0 _ rfl, ((unhide HS1).at 0 rfl).ub.c 1 _ rfl⟩⟩ ?_
    · intro W' hW
      go_split_ands
      go_simp
    refine wpR_take7 (i := 3) (oi := _) (v := .pointer (some ⟨w.heap.size, 1, none⟩)) rfl (by kernel_rfl) (by kernel_rfl) (by kernel_rfl) (by kernel_rfl) (fun _ _ _ h => h) (Or.inl ⟨by rfl, ?_⟩) ⟨trivial, ⟨((unhide HS1).at 0 rfl).ub.c 0 _ rfl, ((unhide HS1).at 0 rfl).ub.c 1 _ rfl⟩⟩ ?_
    · intro W' hW
      go_split_ands
      go_simp
    refine wpR_take7 (i := 4) (oi := _) (v := .agg #[.slice a2 l2 c2]) rfl (by kernel_rfl) (by kernel_rfl) (by kernel_rfl) (by kernel_rfl) (fun _ _ _ h => h) (Or.inl ⟨by rfl, ?_⟩) ⟨trivial, ⟨((unhide HS1).at 0 rfl).ub.c 0 _ rfl, ((unhide HS1).at 0 rfl).ub.c 1 _ rfl⟩⟩ ?_
    · intro W' hW
      go_split_ands
      go_simp
    refine wpR_op (i := 2) (o := _) (by kernel_rfl) rfl rfl (fun K hK => ?_)
    go_simp
    refine (lenB _ p k x _ ((unhide HS1).bgt 1 rfl) (unhide HK6) (unhide HPL) (unhide HL1)).mono ?_
    rintro e U1 ⟨rfl, hb⟩
    have HS2 := hide ((unhide HS1).later hb)
    clear HS1
    clear hb
    refine hK _ _ ⟨trivial, ⟨((unhide HS2).at 0 rfl).ub.c 0 _ rfl, ((unhide HS2).at 0 rfl).ub.c 1 _ rfl⟩⟩ ?_
    clear hK K
    refine wpR_op (i := 5) (o := _) (by kernel_rfl) rfl rfl (fun K hK => ?_)
    go_simp
    refine (lenB _ q k y _ ((unhide HS2).bgt 0 rfl) (unhide HK6) (unhide HQL) (unhide HL2)).mono ?_
    rintro e U2 ⟨rfl, hb⟩
    have HS3 := hide ((unhide HS2).later hb)
    clear HS2
    clear hb
    refine hK _ _ ⟨trivial, ⟨((unhide HS3).at 0 rfl).ub.c 0 _ rfl, ((unhide HS3).at 0 rfl).ub.c 1 _ rfl⟩⟩ ?_
    clear hK K
    refine wpR_op (i := 6) (o := _) (by kernel_rfl) rfl rfl (fun K hK => ?_)
    go_simp
    refine hK _ _ ⟨trivial, ⟨((unhide HS3).at 0 rfl).ub.c 0 _ rfl, ((unhide HS3).at 0 rfl).ub.c 1 _ rfl⟩⟩ ?_
    clear hK K
    refine wpR_late (i := 7) (o := _) (by kernel_rfl) rfl rfl (by kernel_rfl) (fun K hK => ?_)
    go_simp
    refine hK _ _ (⟨((unhide HS3).at 0 rfl).ub.c 0 _ rfl, ((unhide HS3).at 0 rfl).ub.c 1 _ rfl⟩) ?_
    clear hK K
    refine wpR_done (by kernel_rfl) ?_
    go_wp2_with fail
    go_meet
    exact ⟨rfl, HS3⟩
  case rest =>
    obtain ⟨rfl, HS0⟩ := hcut
    generalize wc = Y0 at *
    rw [unhide HN]
    clear hs1
    go_upto_region 2 with fail
    refine region_reads 4 (fun _ => True) (fun W' => W'.cell? ⟨w.heap.size, 0, none⟩ = some (.slice a1 l1 c1) ∧ W'.cell? ⟨w.heap.size, 1, none⟩ = some (.slice a2 l2 c2)) 5 rfl (by kernel_rfl) ?_
    have HS1 := hide ((unhide HS0).later ((Below.refl _ _).drew))
    clear HS0
    generalize Y0.drew = Y1 at *
    refine wpR_take7 (i := 0) (oi := _) (v := .agg #[.slice a1 l1 c1, .slice a2 l2 c2]) rfl (by kernel_rfl) (by kernel_rfl) (by kernel_rfl) (by kernel_rfl) (fun _ _ _ h => h) (Or.inl ⟨by rfl, ?_⟩) ⟨trivial, ⟨((unhide HS1).at 0 rfl).ub.c 0 _ rfl, ((unhide HS1).at 0 rfl).ub.c 1 _ rfl⟩⟩ ?_
    · intro W' hW
      go_split_ands
      go_simp
    refine wpR_take7 (i := 1) (oi := _) (v := .int .i64 n) rfl (by kernel_rfl) (by kernel_rfl) (by kernel_rfl) (by kernel_rfl) (fun _ _ _ h => h) (Or.inl ⟨by rfl, ?_⟩) ⟨trivial, ⟨((unhide HS1).at 0 rfl).ub.c 0 _ rfl, ((unhide HS1).at 0 rfl).ub.c 1 _ rfl⟩⟩ ?_
    · intro W' hW
      go_split_ands
      go_simp
    refine wpR_op (i := 2) (o := _) (by kernel_rfl) rfl rfl (fun K hK => ?_)
    go_simp
    refine (unhide HT _).mono ?_
    rintro e Y2 ⟨_, rfl, ⟨a3, l3, c3, a4, l4, c4, rfl, hv1, hv2⟩, hb⟩
    have HS2 := hide ((((unhide HS1).later hb).push hv1).push hv2)
    clear HS1
    clear hv1 hv2 hb
    refine hK _ _ ⟨trivial, ⟨((unhide HS2).at 0 rfl).ub.c 0 _ rfl, ((unhide HS2).at 0 rfl).ub.c 1 _ rfl⟩⟩ ?_
    clear hK K
    refine wpR_op (i := 3) (o := _) (by kernel_rfl) rfl rfl (fun K hK => ?_)
    go_simp
    refine (szcmp_any _ _ _ _ _ _ _ _ _ _ _ _ p q r t k _ ((unhide HS2).bgt 3 rfl) ((unhide HS2).bgt 2 rfl) ((unhide HS2).bgt 1 rfl) ((unhide HS2).bgt 0 rfl) (unhide HK6) (unhide HPL) (unhide HQL) (unhide HRS).1 (unhide HRS).2).mono ?_
    rintro e Y3 ⟨rfl, hb⟩
    have HS3 := hide ((unhide HS2).later hb)
    clear HS2
    clear hb
    refine hK _ _ ⟨trivial, ⟨((unhide HS3).at 0 rfl).ub.c 0 _ rfl, ((unhide HS3).at 0 rfl).ub.c 1 _ rfl⟩⟩ ?_
    clear hK K
    rw [unhide HC]
    refine wpR_late (i := 4) (o := _) (by kernel_rfl) rfl rfl (by kernel_rfl) (fun K hK => ?_)
    go_simp
    refine hK _ _ (⟨((unhide HS3).at 0 rfl).ub.c 0 _ rfl, ((unhide HS3).at 0 rfl).ub.c 1 _ rfl⟩) ?_
    clear hK K
    refine wpR_done (by kernel_rfl) ?_
    have hn1 : IntKind.i64.wrap (n + 1) = n + 1 := by rw [IntKind.wrap_i64]; omega
    go_wp2_with fail
    go_ret
    exact ⟨by simp, (unhide HS3).below⟩
theorem parts_any (a1 : Option Addr) (l1 c1 : Nat) (a2 : Option Addr) (l2 c2 : Nat) (p n k g : Nat) (w : World) (ho : OwnU w g 54 #[.slice a1 l1 c1, .slice a2 l2 c2]) (hp : IsBig w (.agg #[.slice a1 l1 c1]) p) (hn : n < 18446744073709551616) (hk : k ≤ 1000000) (hpl : p < 1000000000 ^ k) (hnl : n < 1000000000 ^ k) :
    Calls Tryz.prog 159 #[.int .u64 (n : Int), .pointer (some ⟨g, 0, none⟩)] w fun e w' => ∃ a l c, e = .returned (.agg #[.slice a l c]) ∧ IsBig w' (.agg #[.slice a l c]) (p * n) ∧ Below w.heap.size w w' := by
  have hgw : g < w.heap.size := ho.lt
  obtain ⟨V, hV⟩ : ∃ V, V = w.alloc (.cells #[.slice none 0 0] 51) := ⟨_, rfl⟩
  have HS0 : Hid (St w [(w.heap.size, 51, #[.slice none 0 0])] [(.agg #[.slice a1 l1 c1], p)] V) := by rw [hV]; exact ((St.nil (Below.refl _ w)).push hp).new _ _
  have HO : Hid (OwnU V g 54 #[.slice a1 l1 c1, .slice a2 l2 c2]) := by rw [hV]; exact ho.alloc _
  have HGW := hide hgw
  have HV := hide hV
  have HK := hide hk
  have HPL := hide hpl
  have HNL := hide hnl
  clear hV ho hp hk hpl hnl
  go_enter Tryz.func159, Tryz.ntmps159
  go_upto_region 1 with fail
  rw [← unhide HV]
  clear HV
  refine region_reads 5 (fun _ => True) (fun W' => W'.cell? ⟨g, 0, none⟩ = some (.slice a1 l1 c1)) 6 rfl (by kernel_rfl) ?_
  have HO1 : Hid (OwnU V.drew g 54 #[.slice a1 l1 c1, .slice a2 l2 c2]) := unhide HO
  clear HO
  have HS1 := hide ((unhide HS0).later ((Below.refl _ _).drew))
  clear HS0
  generalize V.drew = U0 at *
  refine wpR_take7 (i := 0) (oi := _) (v := .pointer (some ⟨g, 0, none⟩)) rfl (by kernel_rfl) (by kernel_rfl) (by kernel_rfl) (by kernel_rfl) (fun _ _ _ h => h) (Or.inl ⟨by rfl, ?_⟩) ⟨trivial, (unhide HO1).ub.c 0 _ rfl⟩ ?_
  · intro W' hW
    go_simp
  refine wpR_take7 (i := 1) (oi := _) (v := .agg #[.slice a1 l1 c1]) rfl (by kernel_rfl) (by kernel_rfl) (by kernel_rfl) (by kernel_rfl) (fun _ _ _ h => h) (Or.inl ⟨by rfl, ?_⟩) ⟨trivial, (unhide HO1).ub.c 0 _ rfl⟩ ?_
  · intro W' hW
    go_simp
  refine wpR_take7 (i := 2) (oi := _) (v := .int .u64 (n : Int)) rfl (by kernel_rfl) (by kernel_rfl) (by kernel_rfl) (by kernel_rfl) (fun _ _ _ h => h) (Or.inl ⟨by rfl, ?_⟩) ⟨trivial, (unhide HO1).ub.c 0 _ rfl⟩ ?_
  · intro W' hW
    go_simp
  refine wpR_op (i := 3) (o := _) (by kernel_rfl) rfl rfl (fun K hK => ?_)
  go_simp
  refine (bigOf_any n _ hn).mono ?_
  rintro e U1 ⟨a3, l3, c3, rfl, hv, hb⟩
  have HO2 := hide ((unhide HO1).later hb)
  have HS2 := hide (((unhide HS1).later hb).push hv)
  clear HS1
  clear hv hb HO1
  refine hK _ _ ⟨trivial, (unhide HO2).ub.c 0 _ rfl⟩ ?_
  clear hK K
  refine wpR_op (i := 4) (o := _) (by kernel_rfl) rfl rfl (fun K hK => ?_)
  go_simp
  refine (mulB _ _ p n (p * n) k _ ((unhide HS2).bgt 1 rfl) ((unhide HS2).bgt 0 rfl) (unhide HK) (unhide HPL) (unhide HNL) rfl).mono ?_
  rintro e U2 ⟨a4, l4, c4, rfl, hv, hb⟩
  have HO3 := hide ((unhide HO2).later hb)
  have HS3 := hide (((unhide HS2).later hb).push hv)
  clear HS2
  clear hv hb HO2
  refine hK _ _ ⟨trivial, (unhide HO3).ub.c 0 _ rfl⟩ ?_
  clear hK K
  have u0 := ((unhide HS3).at 0 rfl).ub.c 0 _ rfl
  have u1 := ((unhide HS3).at 0 rfl).ub.f 0 (.slice none 0 0) rfl
  refine wpR_late (i := 5) (o := _) (by kernel_rfl) rfl rfl (by kernel_rfl) (fun K hK => ?_)
  go_simp
  clear u0 u1
  rw [((unhide HS3).at 0 rfl).set1]
  have HO4 := hide ((unhide HO3).other (show g ≠ w.heap.size by have := unhide HGW; omega) #[.slice a4 l4 c4])
  have HS4 := hide (((unhide HS3)).set (nz1 _ _ _) #[.slice a4 l4 c4])
  clear HS3
  generalize U2.setRow w.heap.size #[.slice a4 l4 c4] = U3 at *
  refine hK _ _ ((unhide HO4).ub.c 0 _ rfl) ?_
  clear hK K
  refine wpR_done (by kernel_rfl) ?_
  have u0 := ((unhide HS4).at 0 rfl).ub.c 0 _ rfl
  go_wp2_with fail
  refine bodyPost_ret (v := .agg #[.slice a4 l4 c4]) (by simp [results, Tryz.results159, go_sem, u0]) rfl ⟨_, _, _, rfl, ((unhide HS4).bgt 0 rfl), (unhide HS4).below⟩
end Go.Proofs.YtijifpbpjinmhaaGreatDoor

/- roomOf (106) over every float. -/
import Derived.Test.YtijifpbpjinmhaaGreatDoorSt2
import Derived.Test.YtijifpbpjinmhaaGreatDoorOrd
set_option maxHeartbeats 4000000
set_option maxRecDepth 100000
namespace Go.Proofs.YtijifpbpjinmhaaGreatDoor
open Go.RowKit
attribute [local go_sem] run_bits run_from
def xpB (b : Nat) : Nat := b / 4503599627370496 % 2048
def mtB (b : Nat) : Nat := b % 4503599627370496
def mvB (b : Nat) : Nat := if xpB b = 0 then mtB b else mtB b + 4503599627370496
def evB (b : Nat) : Int := if xpB b = 0 then -1074 else (xpB b : Int) - 1075
def infB (b : Nat) : Bool := decide (b % 9223372036854775808 = 9218868437227405312)
def negB (b : Nat) : Bool := decide (9223372036854775808 < b)
theorem and_2047 (b : Nat) (hb : b < 18446744073709551616) : bits BinOp.and IntKind.u64 ((b : Int) / 4503599627370496) 2047 = ((xpB b : Nat) : Int) := by
  have h := u64_and_nat (b / 4503599627370496) 2047 (by omega) (by decide)
  rw [Nat.and_two_pow_sub_one_eq_mod _ 11] at h
  refine Eq.trans ?_ h
  congr 1
theorem cut_any (b : Nat) (hb : b < 18446744073709551616) : CutAns b (mvB b) (evB b) := by
  intro w
  have hx := and_2047 b hb
  have hm : ((b : Int) % 4503599627370496) = ((mtB b : Nat) : Int) := by unfold mtB; omega
  have hx1 : xpB b < 2048 := Nat.mod_lt _ (by decide)
  have hm1 : mtB b < 4503599627370496 := Nat.mod_lt _ (by decide)
  unfold mvB evB
  generalize xpB b = x at *
  generalize mtB b = m at *
  by_cases h0 : x = 0
  · subst h0
    rw [if_pos rfl, if_pos rfl]
    go_enter Tryz.func66, Tryz.ntmps66
    go_wp2
    exact bodyPost_ret (v := .tuple #[.int .u64 (m : Int), .int .i64 (-1074)]) (by simp [results, Tryz.results66, go_sem]; exact hm) rfl ⟨rfl, rfl⟩
  · rw [if_neg h0, if_neg h0]
    have hxI : (x : Int) ≤ 2047 := by omega
    have hx0 : (0 : Int) ≤ (x : Int) := by omega
    have hxn : ((x : Int) == 0) = false := by rw [beq_eq_false_iff_ne]; omega
    have hmI : (m : Int) < 4503599627370496 := by omega
    have hm0 : (0 : Int) ≤ (m : Int) := by omega
    go_enter Tryz.func66, Tryz.ntmps66
    go_wp2
    exact bodyPost_ret (v := .tuple #[.int .u64 ((m + 4503599627370496 : Nat) : Int), .int .i64 ((x : Int) - 1075)]) (by simp [results, Tryz.results66, go_sem]; omega) rfl ⟨rfl, rfl⟩
theorem isInf_0 (b : Nat) (hb : b < 18446744073709551616) (w : World) : Calls Tryz.prog 37 #[.float .f64 b, .int .i64 0] w fun e w' => e = .returned (.bool (infB b)) ∧ w' = w := by
  have h := gt_max (b % 9223372036854775808) (by omega)
  have HA := hide (abs_any b hb w)
  have hd : decide (b % 9223372036854775808 = 9218868437227405312) = infB b := rfl
  rw [hd] at h
  generalize b % 9223372036854775808 = a at *
  generalize infB b = d at *
  clear hd
  go_enter Tryz.func37, Tryz.ntmps37
  go_wp2_with (go_at_call 65; refine (unhide HA).mono ?_; rintro e w1 ⟨rfl, hw⟩; obtain rfl : w = w1 := hw.symm)
  exact bodyPost_ret (v := .bool d) (by simp [results, Tryz.results37, go_sem]) rfl ⟨rfl, rfl⟩
/-- A finite float is a number. -/
theorem fin_read (b : Nat) (h : b % 9223372036854775808 < 9218868437227405312) : ∃ (m : Nat) (i : Int), Ieee.double.read b = .number (b / 9223372036854775808 % 2 == 1) m i ∧ (m = 0 ↔ b % 9223372036854775808 = 0) := by
  unfold Ieee.Format.read
  simp only [sign_lt, inf_is, binade_is, least_is]
  by_cases h1 : b % 9223372036854775808 < 4503599627370496
  · rw [if_pos h1]; exact ⟨_, _, rfl, Iff.rfl⟩
  · rw [if_neg h1, if_pos h]; exact ⟨_, _, rfl, ⟨fun e => by omega, fun e => by omega⟩⟩
theorem sub_fin (b : Nat) (h : b % 9223372036854775808 < 9218868437227405312) : floatBits .sub .f64 b b = some 0 := by
  obtain ⟨m, i, hr, _⟩ := fin_read b h
  show ((Ieee.double.read b).sum (Ieee.double.read b).opposite).map Ieee.double.write = some 0
  rw [hr]
  generalize (b / 9223372036854775808 % 2 == 1) = s
  have h0 : Ieee.signed s m 0 + Ieee.signed (!s) m 0 = 0 := by unfold Ieee.signed; cases s <;> simp <;> omega
  simp only [Ieee.Datum.opposite, Ieee.Datum.sum, Int.min_self, Int.sub_self, Int.toNat_zero, h0]
  cases s <;> rfl
theorem zero_read : Ieee.double.read 0 = .number false 0 (-1074) := by decide +kernel
theorem cmp_lt0 (x : Int) : (some (compare x 0) == some Ordering.lt) = decide (x < 0) := by
  by_cases h : x < 0
  · have : compare x 0 = Ordering.lt := by simp [compare, compareOfLessAndEq, h]
    rw [this]; simp [h]
  · have : compare x 0 ≠ Ordering.lt := by simp only [compare, compareOfLessAndEq]; rw [if_neg h]; split <;> simp
    cases hc : compare x 0 <;> simp_all
theorem lt_zero (b : Nat) (h : b % 9223372036854775808 < 9218868437227405312) (hb : b < 18446744073709551616) : (FloatKind.f64.format.order b 0 == some Ordering.lt) = negB b := by
  obtain ⟨m, i, hr, hm⟩ := fin_read b h
  show ((Ieee.double.read b).order (Ieee.double.read 0) == some Ordering.lt) = _
  rw [hr, zero_read]
  have hn : negB b = decide ((b / 9223372036854775808 % 2 == 1) = true ∧ m ≠ 0) := by
    unfold negB
    rw [decide_eq_decide, beq_iff_eq]
    constructor
    · intro h1; exact ⟨by omega, fun e => by have := hm.1 e; omega⟩
    · rintro ⟨h1, h2⟩
      have : b % 9223372036854775808 ≠ 0 := fun e => h2 (hm.2 e)
      omega
  rw [hn]
  generalize (b / 9223372036854775808 % 2 == 1) = s
  simp only [Ieee.Datum.order]
  have hz : ∀ k, Ieee.signed false 0 k = 0 := fun k => by simp [Ieee.signed]
  rw [hz, cmp_lt0]
  by_cases e : m = 0
  · subst e
    have : ∀ k, Ieee.signed s 0 k = 0 := fun k => by cases s <;> simp [Ieee.signed]
    rw [this]
    cases s <;> simp
  · have hp : ∀ k, 0 < m <<< k := fun k => by rw [Nat.shiftLeft_eq]; exact Nat.mul_pos (by omega) (Nat.two_pow_pos k)
    generalize (i - min i (-1074)).toNat = k
    have hk := hp k
    unfold Ieee.signed
    generalize m <<< k = q at *
    cases s
    · simp
    · simp [e]; omega
end Go.Proofs.YtijifpbpjinmhaaGreatDoor
namespace Go.Proofs.YtijifpbpjinmhaaGreatDoor
open Go.RowKit
theorem roomOf_any (f m M4 r bl P Q k : Nat) (e : Int) (ev : Bool) (w : World) (hc : CutAns f m e) (he1 : -1074 ≤ e) (he2 : e ≤ 971) (hk : k ≤ 900000) (hP : P < 1000000000 ^ k) (h4 : 4 * m < 18446744073709551616) (hM4 : M4 = 4 * m) (h4k : M4 < 1000000000 ^ k) (h2k : 2 < 1000000000 ^ k) (hr : (m : Int).tmod 2 = (r : Int)) (hev : ((r : Int) == 0) = ev)
    (hb : (((m : Int) == 4503599627370496) = true ∧ -1074 < e ∧ bl = 1) ∨ (((m : Int) == 4503599627370496) = true ∧ ¬ -1074 < e ∧ bl = 2) ∨ (((m : Int) == 4503599627370496) = false ∧ bl = 2))
    (HT : ∀ W, Calls Tryz.prog 74 #[.int .i64 (e - 2)] W fun e w' => ∃ v, e = .returned v ∧ IsSz w' v P Q ∧ Below W.heap.size W w') :
    Calls Tryz.prog 106 #[.float .f64 f] w fun e w' => ∃ (a1 : Option Addr) (l1 c1 : Nat) (a2 : Option Addr) (l2 c2 : Nat) (a3 : Option Addr) (l3 c3 : Nat) (a4 : Option Addr) (l4 c4 : Nat), e = .returned (.agg #[.slice a1 l1 c1, .slice a2 l2 c2, .slice a3 l3 c3, .slice a4 l4 c4, .bool ev]) ∧ IsBig w' (.agg #[.slice a1 l1 c1]) (P * M4) ∧ IsBig w' (.agg #[.slice a2 l2 c2]) (P * bl) ∧ IsBig w' (.agg #[.slice a3 l3 c3]) (P * 2) ∧ IsBig w' (.agg #[.slice a4 l4 c4]) Q ∧ Below w.heap.size w w' := by
  have HTW := hide HT
  have HCUT := hide hc
  have hw4 : IntKind.u64.wrap (4 * (m : Int)) = (M4 : Int) := by rw [IntKind.wrap_u64]; omega
  have HLIM := hide (And.intro hk (And.intro hP (And.intro h4k h2k)))
  have HM4 : Hid (M4 < 18446744073709551616) := by rw [hM4]; exact h4
  clear HT hc hP h4k h2k h4 hM4 hk
  obtain ⟨V, hV⟩ : ∃ V, V = (w.alloc (.cells #[.slice none 0 0, .slice none 0 0, .slice none 0 0, .slice none 0 0, .bool false] 128)) := ⟨_, rfl⟩
  have HS0 : Hid (St w [(w.heap.size, 128, #[.slice none 0 0, .slice none 0 0, .slice none 0 0, .slice none 0 0, .bool false])] [] V) := by rw [hV]; have h := ((St.nil (Below.refl _ w)).new #[.slice none 0 0, .slice none 0 0, .slice none 0 0, .slice none 0 0, .bool false] 128); (try simp only [World.size_alloc] at h); exact h
  have HV := hide hV
  clear hV
  rcases hb with ⟨hm1, hm2, rfl⟩ | ⟨hm1, hm2, rfl⟩ | ⟨hm1, rfl⟩
  · skip
    go_enter Tryz.func106, Tryz.ntmps106
    go_upto_region 1 with fail
    rw [← unhide HV]
    clear HV
    go_upto_region 5 with (go_at_call 66; go_must (refine (unhide HCUT _).mono ?_; rintro e ww ⟨rfl, hw⟩; have hw2 := hw.symm; subst hw2; clear hw))
    go_upto_region 6 with (first
      | (have hchk := HS0; clear hchk; go_at_call 74; go_must (refine (unhide HTW _).mono ?_; rintro e U1 ⟨_, rfl, ⟨a1, l1, c1, a2, l2, c2, rfl, hv1, hv2⟩, hb⟩; have HS1 := hide ((((unhide HS0).later hb).push hv1).push hv2); clear HS0; clear hv1 hv2 hb))
      | (have hchk := HS1; clear hchk; refine storeT 54 2 info59 rfl (.tmp 6) (.tmp 21) rfl U1.heap.size #[.slice none 0 0, .slice none 0 0] #[.slice a1 l1 c1, .slice a2 l2 c2] rfl rfl rfl rfl (OwnU.new _ _ _) (by kernel_rfl) ?_))
    have HS2 := hide ((unhide HS1).new #[.slice none 0 0, .slice none 0 0] 54)
    clear HS1
    generalize U1.alloc (.cells #[.slice none 0 0, .slice none 0 0] 54) = U2 at *
    generalize U1.heap.size = g6 at *
    have HS3 := hide (((unhide HS2)).set (nz2 _ _ _ _ _ _) #[.slice a1 l1 c1, .slice a2 l2 c2])
    clear HS2
    generalize U2.setRow g6 #[.slice a1 l1 c1, .slice a2 l2 c2] = U3 at *
    have hpn : ∀ (a : Act) (v : Value), a.put none v = a := fun _ _ => rfl
    simp only [hpn]
    clear hpn
    go_upto_region 7 with fail
    refine region_reads 15 (fun _ => True) (fun W' => W'.cell? ⟨g6, 1, none⟩ = some (.slice a2 l2 c2)) 16 rfl (by kernel_rfl) ?_
    have HS4 := hide ((unhide HS3).later ((Below.refl _ _).drew))
    clear HS3
    generalize U3.drew = U4 at *
    refine wpR_take7 (i := 0) (oi := _) (v := .func (.func 159) #[] #[.pointer (some ⟨g6, 0, none⟩)]) rfl (by kernel_rfl) (by kernel_rfl) (by kernel_rfl) (by kernel_rfl) (fun _ _ _ h => h) (Or.inl ⟨by rfl, ?_⟩) ⟨trivial, ((unhide HS4).at 0 rfl).ub.c 1 _ rfl⟩ ?_
    · intro W' hW
      go_simp
    refine wpR_take7 (i := 1) (oi := _) (v := .int .u64 (m : Int)) rfl (by kernel_rfl) (by kernel_rfl) (by kernel_rfl) (by kernel_rfl) (fun _ _ _ h => h) (Or.inl ⟨by rfl, ?_⟩) ⟨trivial, ((unhide HS4).at 0 rfl).ub.c 1 _ rfl⟩ ?_
    · intro W' hW
      go_simp
    refine wpR_take7 (i := 2) (oi := _) (v := .int .u64 (M4 : Int)) rfl (by kernel_rfl) (by kernel_rfl) (by kernel_rfl) (by kernel_rfl) (fun _ _ _ h => h) (Or.inl ⟨by rfl, ?_⟩) ⟨trivial, ((unhide HS4).at 0 rfl).ub.c 1 _ rfl⟩ ?_
    · intro W' hW
      go_simp
    refine wpR_take7 (i := 4) (oi := _) (v := .func (.func 159) #[] #[.pointer (some ⟨g6, 0, none⟩)]) rfl (by kernel_rfl) (by kernel_rfl) (by kernel_rfl) (by kernel_rfl) (fun _ _ _ h => h) (Or.inl ⟨by rfl, ?_⟩) ⟨trivial, ((unhide HS4).at 0 rfl).ub.c 1 _ rfl⟩ ?_
    · intro W' hW
      go_simp
    refine wpR_take7 (i := 5) (oi := _) (v := .int .u64 1) rfl (by kernel_rfl) (by kernel_rfl) (by kernel_rfl) (by kernel_rfl) (fun _ _ _ h => h) (Or.inl ⟨by rfl, ?_⟩) ⟨trivial, ((unhide HS4).at 0 rfl).ub.c 1 _ rfl⟩ ?_
    · intro W' hW
      go_simp
    refine wpR_take7 (i := 7) (oi := _) (v := .func (.func 159) #[] #[.pointer (some ⟨g6, 0, none⟩)]) rfl (by kernel_rfl) (by kernel_rfl) (by kernel_rfl) (by kernel_rfl) (fun _ _ _ h => h) (Or.inl ⟨by rfl, ?_⟩) ⟨trivial, ((unhide HS4).at 0 rfl).ub.c 1 _ rfl⟩ ?_
    · intro W' hW
      go_simp
    refine wpR_take7 (i := 9) (oi := _) (v := .pointer (some ⟨g6, 1, none⟩)) rfl (by kernel_rfl) (by kernel_rfl) (by kernel_rfl) (by kernel_rfl) (fun _ _ _ h => h) (Or.inl ⟨by rfl, ?_⟩) ⟨trivial, ((unhide HS4).at 0 rfl).ub.c 1 _ rfl⟩ ?_
    · intro W' hW
      go_simp
    refine wpR_take7 (i := 10) (oi := _) (v := .agg #[.slice a2 l2 c2]) rfl (by kernel_rfl) (by kernel_rfl) (by kernel_rfl) (by kernel_rfl) (fun _ _ _ h => h) (Or.inl ⟨by rfl, ?_⟩) ⟨trivial, ((unhide HS4).at 0 rfl).ub.c 1 _ rfl⟩ ?_
    · intro W' hW
      go_simp
    refine wpR_take7 (i := 11) (oi := _) (v := .int .u64 (m : Int)) rfl (by kernel_rfl) (by kernel_rfl) (by kernel_rfl) (by kernel_rfl) (fun _ _ _ h => h) (Or.inl ⟨by rfl, ?_⟩) ⟨trivial, ((unhide HS4).at 0 rfl).ub.c 1 _ rfl⟩ ?_
    · intro W' hW
      go_simp
    refine wpR_take7 (i := 12) (oi := _) (v := .int .u64 (r : Int)) rfl (by kernel_rfl) (by kernel_rfl) (by kernel_rfl) (by kernel_rfl) (fun _ _ _ h => h) (Or.inl ⟨by rfl, ?_⟩) ⟨trivial, ((unhide HS4).at 0 rfl).ub.c 1 _ rfl⟩ ?_
    · intro W' hW
      go_simp
    refine wpR_take7 (i := 13) (oi := _) (v := .bool ev) rfl (by kernel_rfl) (by kernel_rfl) (by kernel_rfl) (by kernel_rfl) (fun _ _ _ h => h) (Or.inl ⟨by rfl, ?_⟩) ⟨trivial, ((unhide HS4).at 0 rfl).ub.c 1 _ rfl⟩ ?_
    · intro W' hW
      go_simp
    refine wpR_op (i := 3) (o := _) (by kernel_rfl) rfl rfl (fun K hK => ?_)
    go_simp
    refine (parts_any _ _ _ _ _ _ P M4 k g6 _ ((unhide HS4).at 0 rfl) ((unhide HS4).bgt 1 rfl) (unhide HM4) (Nat.le_trans (unhide HLIM).1 (by decide)) (unhide HLIM).2.1 (unhide HLIM).2.2.1).mono ?_
    rintro e U5 ⟨a3, l3, c3, rfl, hv, hb⟩
    have HS5 := hide (((unhide HS4).later hb).push hv)
    clear HS4
    clear hv hb
    refine hK _ _ ⟨trivial, ((unhide HS5).at 0 rfl).ub.c 1 _ rfl⟩ ?_
    clear hK K
    refine wpR_op (i := 6) (o := _) (by kernel_rfl) rfl rfl (fun K hK => ?_)
    go_simp
    refine (parts_any _ _ _ _ _ _ P 1 k g6 _ ((unhide HS5).at 0 rfl) ((unhide HS5).bgt 2 rfl) (by decide) (Nat.le_trans (unhide HLIM).1 (by decide)) (unhide HLIM).2.1 (Nat.lt_of_le_of_lt (by decide) (unhide HLIM).2.2.2)).mono ?_
    rintro e U6 ⟨a4, l4, c4, rfl, hv, hb⟩
    have HS6 := hide (((unhide HS5).later hb).push hv)
    clear HS5
    clear hv hb
    refine hK _ _ ⟨trivial, ((unhide HS6).at 0 rfl).ub.c 1 _ rfl⟩ ?_
    clear hK K
    refine wpR_op (i := 8) (o := _) (by kernel_rfl) rfl rfl (fun K hK => ?_)
    go_simp
    refine (parts_any _ _ _ _ _ _ P 2 k g6 _ ((unhide HS6).at 0 rfl) ((unhide HS6).bgt 3 rfl) (by decide) (Nat.le_trans (unhide HLIM).1 (by decide)) (unhide HLIM).2.1 (unhide HLIM).2.2.2).mono ?_
    rintro e U7 ⟨a5, l5, c5, rfl, hv, hb⟩
    have HS7 := hide (((unhide HS6).later hb).push hv)
    clear HS6
    clear hv hb
    refine hK _ _ ⟨trivial, ((unhide HS7).at 0 rfl).ub.c 1 _ rfl⟩ ?_
    clear hK K
    refine wpR_op (i := 14) (o := _) (by kernel_rfl) rfl rfl (fun K hK => ?_)
    go_simp
    refine hK _ _ ⟨trivial, ((unhide HS7).at 0 rfl).ub.c 1 _ rfl⟩ ?_
    clear hK K
    refine wpR_late (i := 15) (o := _) (by kernel_rfl) rfl rfl (by kernel_rfl) (fun K hK => ?_)
    refine wp_store_row 128 (.tmp 2) (.tmp 37) rfl w.heap.size #[.slice a3 l3 c3, .slice a4 l4 c4, .slice a5 l5 c5, .slice a2 l2 c2, .bool ev] rfl rfl 128 _ ((unhide HS7).at 1 rfl) (by rw [info81]; rfl) rfl (by kernel_rfl) ?_
    have HS8 := hide (((unhide HS7).rot).set nz81 #[.slice a3 l3 c3, .slice a4 l4 c4, .slice a5 l5 c5, .slice a2 l2 c2, .bool ev])
    clear HS7
    generalize U7.setRow w.heap.size #[.slice a3 l3 c3, .slice a4 l4 c4, .slice a5 l5 c5, .slice a2 l2 c2, .bool ev] = U8 at *
    refine hK _ _ (((unhide HS8).at 1 rfl).ub.c 1 _ rfl) ?_
    clear hK K
    refine wpR_done (by kernel_rfl) ?_
    go_wp2_with fail
    exact bodyPost_ret (v := .agg #[.slice a3 l3 c3, .slice a4 l4 c4, .slice a5 l5 c5, .slice a2 l2 c2, .bool ev]) (res81 Tryz.results106 _ _ w.heap.size _ rfl rfl ((unhide HS8).at 0 rfl)) rfl ⟨_, _, _, _, _, _, _, _, _, _, _, _, rfl, ((unhide HS8).bgt 2 rfl), ((unhide HS8).bgt 1 rfl), ((unhide HS8).bgt 0 rfl), ((unhide HS8).bgt 3 rfl), (unhide HS8).below⟩
  · skip
    go_enter Tryz.func106, Tryz.ntmps106
    go_upto_region 1 with fail
    rw [← unhide HV]
    clear HV
    go_upto_region 5 with (go_at_call 66; go_must (refine (unhide HCUT _).mono ?_; rintro e ww ⟨rfl, hw⟩; have hw2 := hw.symm; subst hw2; clear hw))
    go_upto_region 6 with (first
      | (have hchk := HS0; clear hchk; go_at_call 74; go_must (refine (unhide HTW _).mono ?_; rintro e U1 ⟨_, rfl, ⟨a1, l1, c1, a2, l2, c2, rfl, hv1, hv2⟩, hb⟩; have HS1 := hide ((((unhide HS0).later hb).push hv1).push hv2); clear HS0; clear hv1 hv2 hb))
      | (have hchk := HS1; clear hchk; refine storeT 54 2 info59 rfl (.tmp 6) (.tmp 21) rfl U1.heap.size #[.slice none 0 0, .slice none 0 0] #[.slice a1 l1 c1, .slice a2 l2 c2] rfl rfl rfl rfl (OwnU.new _ _ _) (by kernel_rfl) ?_))
    have HS2 := hide ((unhide HS1).new #[.slice none 0 0, .slice none 0 0] 54)
    clear HS1
    generalize U1.alloc (.cells #[.slice none 0 0, .slice none 0 0] 54) = U2 at *
    generalize U1.heap.size = g6 at *
    have HS3 := hide (((unhide HS2)).set (nz2 _ _ _ _ _ _) #[.slice a1 l1 c1, .slice a2 l2 c2])
    clear HS2
    generalize U2.setRow g6 #[.slice a1 l1 c1, .slice a2 l2 c2] = U3 at *
    have hpn : ∀ (a : Act) (v : Value), a.put none v = a := fun _ _ => rfl
    simp only [hpn]
    clear hpn
    go_upto_region 7 with fail
    refine region_reads 15 (fun _ => True) (fun W' => W'.cell? ⟨g6, 1, none⟩ = some (.slice a2 l2 c2)) 16 rfl (by kernel_rfl) ?_
    have HS4 := hide ((unhide HS3).later ((Below.refl _ _).drew))
    clear HS3
    generalize U3.drew = U4 at *
    refine wpR_take7 (i := 0) (oi := _) (v := .func (.func 159) #[] #[.pointer (some ⟨g6, 0, none⟩)]) rfl (by kernel_rfl) (by kernel_rfl) (by kernel_rfl) (by kernel_rfl) (fun _ _ _ h => h) (Or.inl ⟨by rfl, ?_⟩) ⟨trivial, ((unhide HS4).at 0 rfl).ub.c 1 _ rfl⟩ ?_
    · intro W' hW
      go_simp
    refine wpR_take7 (i := 1) (oi := _) (v := .int .u64 (m : Int)) rfl (by kernel_rfl) (by kernel_rfl) (by kernel_rfl) (by kernel_rfl) (fun _ _ _ h => h) (Or.inl ⟨by rfl, ?_⟩) ⟨trivial, ((unhide HS4).at 0 rfl).ub.c 1 _ rfl⟩ ?_
    · intro W' hW
      go_simp
    refine wpR_take7 (i := 2) (oi := _) (v := .int .u64 (M4 : Int)) rfl (by kernel_rfl) (by kernel_rfl) (by kernel_rfl) (by kernel_rfl) (fun _ _ _ h => h) (Or.inl ⟨by rfl, ?_⟩) ⟨trivial, ((unhide HS4).at 0 rfl).ub.c 1 _ rfl⟩ ?_
    · intro W' hW
      go_simp
    refine wpR_take7 (i := 4) (oi := _) (v := .func (.func 159) #[] #[.pointer (some ⟨g6, 0, none⟩)]) rfl (by kernel_rfl) (by kernel_rfl) (by kernel_rfl) (by kernel_rfl) (fun _ _ _ h => h) (Or.inl ⟨by rfl, ?_⟩) ⟨trivial, ((unhide HS4).at 0 rfl).ub.c 1 _ rfl⟩ ?_
    · intro W' hW
      go_simp
    refine wpR_take7 (i := 5) (oi := _) (v := .int .u64 2) rfl (by kernel_rfl) (by kernel_rfl) (by kernel_rfl) (by kernel_rfl) (fun _ _ _ h => h) (Or.inl ⟨by rfl, ?_⟩) ⟨trivial, ((unhide HS4).at 0 rfl).ub.c 1 _ rfl⟩ ?_
    · intro W' hW
      go_simp
    refine wpR_take7 (i := 7) (oi := _) (v := .func (.func 159) #[] #[.pointer (some ⟨g6, 0, none⟩)]) rfl (by kernel_rfl) (by kernel_rfl) (by kernel_rfl) (by kernel_rfl) (fun _ _ _ h => h) (Or.inl ⟨by rfl, ?_⟩) ⟨trivial, ((unhide HS4).at 0 rfl).ub.c 1 _ rfl⟩ ?_
    · intro W' hW
      go_simp
    refine wpR_take7 (i := 9) (oi := _) (v := .pointer (some ⟨g6, 1, none⟩)) rfl (by kernel_rfl) (by kernel_rfl) (by kernel_rfl) (by kernel_rfl) (fun _ _ _ h => h) (Or.inl ⟨by rfl, ?_⟩) ⟨trivial, ((unhide HS4).at 0 rfl).ub.c 1 _ rfl⟩ ?_
    · intro W' hW
      go_simp
    refine wpR_take7 (i := 10) (oi := _) (v := .agg #[.slice a2 l2 c2]) rfl (by kernel_rfl) (by kernel_rfl) (by kernel_rfl) (by kernel_rfl) (fun _ _ _ h => h) (Or.inl ⟨by rfl, ?_⟩) ⟨trivial, ((unhide HS4).at 0 rfl).ub.c 1 _ rfl⟩ ?_
    · intro W' hW
      go_simp
    refine wpR_take7 (i := 11) (oi := _) (v := .int .u64 (m : Int)) rfl (by kernel_rfl) (by kernel_rfl) (by kernel_rfl) (by kernel_rfl) (fun _ _ _ h => h) (Or.inl ⟨by rfl, ?_⟩) ⟨trivial, ((unhide HS4).at 0 rfl).ub.c 1 _ rfl⟩ ?_
    · intro W' hW
      go_simp
    refine wpR_take7 (i := 12) (oi := _) (v := .int .u64 (r : Int)) rfl (by kernel_rfl) (by kernel_rfl) (by kernel_rfl) (by kernel_rfl) (fun _ _ _ h => h) (Or.inl ⟨by rfl, ?_⟩) ⟨trivial, ((unhide HS4).at 0 rfl).ub.c 1 _ rfl⟩ ?_
    · intro W' hW
      go_simp
    refine wpR_take7 (i := 13) (oi := _) (v := .bool ev) rfl (by kernel_rfl) (by kernel_rfl) (by kernel_rfl) (by kernel_rfl) (fun _ _ _ h => h) (Or.inl ⟨by rfl, ?_⟩) ⟨trivial, ((unhide HS4).at 0 rfl).ub.c 1 _ rfl⟩ ?_
    · intro W' hW
      go_simp
    refine wpR_op (i := 3) (o := _) (by kernel_rfl) rfl rfl (fun K hK => ?_)
    go_simp
    refine (parts_any _ _ _ _ _ _ P M4 k g6 _ ((unhide HS4).at 0 rfl) ((unhide HS4).bgt 1 rfl) (unhide HM4) (Nat.le_trans (unhide HLIM).1 (by decide)) (unhide HLIM).2.1 (unhide HLIM).2.2.1).mono ?_
    rintro e U5 ⟨a3, l3, c3, rfl, hv, hb⟩
    have HS5 := hide (((unhide HS4).later hb).push hv)
    clear HS4
    clear hv hb
    refine hK _ _ ⟨trivial, ((unhide HS5).at 0 rfl).ub.c 1 _ rfl⟩ ?_
    clear hK K
    refine wpR_op (i := 6) (o := _) (by kernel_rfl) rfl rfl (fun K hK => ?_)
    go_simp
    refine (parts_any _ _ _ _ _ _ P 2 k g6 _ ((unhide HS5).at 0 rfl) ((unhide HS5).bgt 2 rfl) (by decide) (Nat.le_trans (unhide HLIM).1 (by decide)) (unhide HLIM).2.1 (Nat.lt_of_le_of_lt (by decide) (unhide HLIM).2.2.2)).mono ?_
    rintro e U6 ⟨a4, l4, c4, rfl, hv, hb⟩
    have HS6 := hide (((unhide HS5).later hb).push hv)
    clear HS5
    clear hv hb
    refine hK _ _ ⟨trivial, ((unhide HS6).at 0 rfl).ub.c 1 _ rfl⟩ ?_
    clear hK K
    refine wpR_op (i := 8) (o := _) (by kernel_rfl) rfl rfl (fun K hK => ?_)
    go_simp
    refine (parts_any _ _ _ _ _ _ P 2 k g6 _ ((unhide HS6).at 0 rfl) ((unhide HS6).bgt 3 rfl) (by decide) (Nat.le_trans (unhide HLIM).1 (by decide)) (unhide HLIM).2.1 (unhide HLIM).2.2.2).mono ?_
    rintro e U7 ⟨a5, l5, c5, rfl, hv, hb⟩
    have HS7 := hide (((unhide HS6).later hb).push hv)
    clear HS6
    clear hv hb
    refine hK _ _ ⟨trivial, ((unhide HS7).at 0 rfl).ub.c 1 _ rfl⟩ ?_
    clear hK K
    refine wpR_op (i := 14) (o := _) (by kernel_rfl) rfl rfl (fun K hK => ?_)
    go_simp
    refine hK _ _ ⟨trivial, ((unhide HS7).at 0 rfl).ub.c 1 _ rfl⟩ ?_
    clear hK K
    refine wpR_late (i := 15) (o := _) (by kernel_rfl) rfl rfl (by kernel_rfl) (fun K hK => ?_)
    refine wp_store_row 128 (.tmp 2) (.tmp 37) rfl w.heap.size #[.slice a3 l3 c3, .slice a4 l4 c4, .slice a5 l5 c5, .slice a2 l2 c2, .bool ev] rfl rfl 128 _ ((unhide HS7).at 1 rfl) (by rw [info81]; rfl) rfl (by kernel_rfl) ?_
    have HS8 := hide (((unhide HS7).rot).set nz81 #[.slice a3 l3 c3, .slice a4 l4 c4, .slice a5 l5 c5, .slice a2 l2 c2, .bool ev])
    clear HS7
    generalize U7.setRow w.heap.size #[.slice a3 l3 c3, .slice a4 l4 c4, .slice a5 l5 c5, .slice a2 l2 c2, .bool ev] = U8 at *
    refine hK _ _ (((unhide HS8).at 1 rfl).ub.c 1 _ rfl) ?_
    clear hK K
    refine wpR_done (by kernel_rfl) ?_
    go_wp2_with fail
    exact bodyPost_ret (v := .agg #[.slice a3 l3 c3, .slice a4 l4 c4, .slice a5 l5 c5, .slice a2 l2 c2, .bool ev]) (res81 Tryz.results106 _ _ w.heap.size _ rfl rfl ((unhide HS8).at 0 rfl)) rfl ⟨_, _, _, _, _, _, _, _, _, _, _, _, rfl, ((unhide HS8).bgt 2 rfl), ((unhide HS8).bgt 1 rfl), ((unhide HS8).bgt 0 rfl), ((unhide HS8).bgt 3 rfl), (unhide HS8).below⟩
  · skip
    go_enter Tryz.func106, Tryz.ntmps106
    go_upto_region 1 with fail
    rw [← unhide HV]
    clear HV
    go_upto_region 5 with (go_at_call 66; go_must (refine (unhide HCUT _).mono ?_; rintro e ww ⟨rfl, hw⟩; have hw2 := hw.symm; subst hw2; clear hw))
    go_upto_region 6 with (first
      | (have hchk := HS0; clear hchk; go_at_call 74; go_must (refine (unhide HTW _).mono ?_; rintro e U1 ⟨_, rfl, ⟨a1, l1, c1, a2, l2, c2, rfl, hv1, hv2⟩, hb⟩; have HS1 := hide ((((unhide HS0).later hb).push hv1).push hv2); clear HS0; clear hv1 hv2 hb))
      | (have hchk := HS1; clear hchk; refine storeT 54 2 info59 rfl (.tmp 6) (.tmp 21) rfl U1.heap.size #[.slice none 0 0, .slice none 0 0] #[.slice a1 l1 c1, .slice a2 l2 c2] rfl rfl rfl rfl (OwnU.new _ _ _) (by kernel_rfl) ?_))
    have HS2 := hide ((unhide HS1).new #[.slice none 0 0, .slice none 0 0] 54)
    clear HS1
    generalize U1.alloc (.cells #[.slice none 0 0, .slice none 0 0] 54) = U2 at *
    generalize U1.heap.size = g6 at *
    have HS3 := hide (((unhide HS2)).set (nz2 _ _ _ _ _ _) #[.slice a1 l1 c1, .slice a2 l2 c2])
    clear HS2
    generalize U2.setRow g6 #[.slice a1 l1 c1, .slice a2 l2 c2] = U3 at *
    have hpn : ∀ (a : Act) (v : Value), a.put none v = a := fun _ _ => rfl
    simp only [hpn]
    clear hpn
    go_upto_region 7 with fail
    refine region_reads 15 (fun _ => True) (fun W' => W'.cell? ⟨g6, 1, none⟩ = some (.slice a2 l2 c2)) 16 rfl (by kernel_rfl) ?_
    have HS4 := hide ((unhide HS3).later ((Below.refl _ _).drew))
    clear HS3
    generalize U3.drew = U4 at *
    refine wpR_take7 (i := 0) (oi := _) (v := .func (.func 159) #[] #[.pointer (some ⟨g6, 0, none⟩)]) rfl (by kernel_rfl) (by kernel_rfl) (by kernel_rfl) (by kernel_rfl) (fun _ _ _ h => h) (Or.inl ⟨by rfl, ?_⟩) ⟨trivial, ((unhide HS4).at 0 rfl).ub.c 1 _ rfl⟩ ?_
    · intro W' hW
      go_simp
    refine wpR_take7 (i := 1) (oi := _) (v := .int .u64 (m : Int)) rfl (by kernel_rfl) (by kernel_rfl) (by kernel_rfl) (by kernel_rfl) (fun _ _ _ h => h) (Or.inl ⟨by rfl, ?_⟩) ⟨trivial, ((unhide HS4).at 0 rfl).ub.c 1 _ rfl⟩ ?_
    · intro W' hW
      go_simp
    refine wpR_take7 (i := 2) (oi := _) (v := .int .u64 (M4 : Int)) rfl (by kernel_rfl) (by kernel_rfl) (by kernel_rfl) (by kernel_rfl) (fun _ _ _ h => h) (Or.inl ⟨by rfl, ?_⟩) ⟨trivial, ((unhide HS4).at 0 rfl).ub.c 1 _ rfl⟩ ?_
    · intro W' hW
      go_simp
    refine wpR_take7 (i := 4) (oi := _) (v := .func (.func 159) #[] #[.pointer (some ⟨g6, 0, none⟩)]) rfl (by kernel_rfl) (by kernel_rfl) (by kernel_rfl) (by kernel_rfl) (fun _ _ _ h => h) (Or.inl ⟨by rfl, ?_⟩) ⟨trivial, ((unhide HS4).at 0 rfl).ub.c 1 _ rfl⟩ ?_
    · intro W' hW
      go_simp
    refine wpR_take7 (i := 5) (oi := _) (v := .int .u64 2) rfl (by kernel_rfl) (by kernel_rfl) (by kernel_rfl) (by kernel_rfl) (fun _ _ _ h => h) (Or.inl ⟨by rfl, ?_⟩) ⟨trivial, ((unhide HS4).at 0 rfl).ub.c 1 _ rfl⟩ ?_
    · intro W' hW
      go_simp
    refine wpR_take7 (i := 7) (oi := _) (v := .func (.func 159) #[] #[.pointer (some ⟨g6, 0, none⟩)]) rfl (by kernel_rfl) (by kernel_rfl) (by kernel_rfl) (by kernel_rfl) (fun _ _ _ h => h) (Or.inl ⟨by rfl, ?_⟩) ⟨trivial, ((unhide HS4).at 0 rfl).ub.c 1 _ rfl⟩ ?_
    · intro W' hW
      go_simp
    refine wpR_take7 (i := 9) (oi := _) (v := .pointer (some ⟨g6, 1, none⟩)) rfl (by kernel_rfl) (by kernel_rfl) (by kernel_rfl) (by kernel_rfl) (fun _ _ _ h => h) (Or.inl ⟨by rfl, ?_⟩) ⟨trivial, ((unhide HS4).at 0 rfl).ub.c 1 _ rfl⟩ ?_
    · intro W' hW
      go_simp
    refine wpR_take7 (i := 10) (oi := _) (v := .agg #[.slice a2 l2 c2]) rfl (by kernel_rfl) (by kernel_rfl) (by kernel_rfl) (by kernel_rfl) (fun _ _ _ h => h) (Or.inl ⟨by rfl, ?_⟩) ⟨trivial, ((unhide HS4).at 0 rfl).ub.c 1 _ rfl⟩ ?_
    · intro W' hW
      go_simp
    refine wpR_take7 (i := 11) (oi := _) (v := .int .u64 (m : Int)) rfl (by kernel_rfl) (by kernel_rfl) (by kernel_rfl) (by kernel_rfl) (fun _ _ _ h => h) (Or.inl ⟨by rfl, ?_⟩) ⟨trivial, ((unhide HS4).at 0 rfl).ub.c 1 _ rfl⟩ ?_
    · intro W' hW
      go_simp
    refine wpR_take7 (i := 12) (oi := _) (v := .int .u64 (r : Int)) rfl (by kernel_rfl) (by kernel_rfl) (by kernel_rfl) (by kernel_rfl) (fun _ _ _ h => h) (Or.inl ⟨by rfl, ?_⟩) ⟨trivial, ((unhide HS4).at 0 rfl).ub.c 1 _ rfl⟩ ?_
    · intro W' hW
      go_simp
    refine wpR_take7 (i := 13) (oi := _) (v := .bool ev) rfl (by kernel_rfl) (by kernel_rfl) (by kernel_rfl) (by kernel_rfl) (fun _ _ _ h => h) (Or.inl ⟨by rfl, ?_⟩) ⟨trivial, ((unhide HS4).at 0 rfl).ub.c 1 _ rfl⟩ ?_
    · intro W' hW
      go_simp
    refine wpR_op (i := 3) (o := _) (by kernel_rfl) rfl rfl (fun K hK => ?_)
    go_simp
    refine (parts_any _ _ _ _ _ _ P M4 k g6 _ ((unhide HS4).at 0 rfl) ((unhide HS4).bgt 1 rfl) (unhide HM4) (Nat.le_trans (unhide HLIM).1 (by decide)) (unhide HLIM).2.1 (unhide HLIM).2.2.1).mono ?_
    rintro e U5 ⟨a3, l3, c3, rfl, hv, hb⟩
    have HS5 := hide (((unhide HS4).later hb).push hv)
    clear HS4
    clear hv hb
    refine hK _ _ ⟨trivial, ((unhide HS5).at 0 rfl).ub.c 1 _ rfl⟩ ?_
    clear hK K
    refine wpR_op (i := 6) (o := _) (by kernel_rfl) rfl rfl (fun K hK => ?_)
    go_simp
    refine (parts_any _ _ _ _ _ _ P 2 k g6 _ ((unhide HS5).at 0 rfl) ((unhide HS5).bgt 2 rfl) (by decide) (Nat.le_trans (unhide HLIM).1 (by decide)) (unhide HLIM).2.1 (Nat.lt_of_le_of_lt (by decide) (unhide HLIM).2.2.2)).mono ?_
    rintro e U6 ⟨a4, l4, c4, rfl, hv, hb⟩
    have HS6 := hide (((unhide HS5).later hb).push hv)
    clear HS5
    clear hv hb
    refine hK _ _ ⟨trivial, ((unhide HS6).at 0 rfl).ub.c 1 _ rfl⟩ ?_
    clear hK K
    refine wpR_op (i := 8) (o := _) (by kernel_rfl) rfl rfl (fun K hK => ?_)
    go_simp
    refine (parts_any _ _ _ _ _ _ P 2 k g6 _ ((unhide HS6).at 0 rfl) ((unhide HS6).bgt 3 rfl) (by decide) (Nat.le_trans (unhide HLIM).1 (by decide)) (unhide HLIM).2.1 (unhide HLIM).2.2.2).mono ?_
    rintro e U7 ⟨a5, l5, c5, rfl, hv, hb⟩
    have HS7 := hide (((unhide HS6).later hb).push hv)
    clear HS6
    clear hv hb
    refine hK _ _ ⟨trivial, ((unhide HS7).at 0 rfl).ub.c 1 _ rfl⟩ ?_
    clear hK K
    refine wpR_op (i := 14) (o := _) (by kernel_rfl) rfl rfl (fun K hK => ?_)
    go_simp
    refine hK _ _ ⟨trivial, ((unhide HS7).at 0 rfl).ub.c 1 _ rfl⟩ ?_
    clear hK K
    refine wpR_late (i := 15) (o := _) (by kernel_rfl) rfl rfl (by kernel_rfl) (fun K hK => ?_)
    refine wp_store_row 128 (.tmp 2) (.tmp 37) rfl w.heap.size #[.slice a3 l3 c3, .slice a4 l4 c4, .slice a5 l5 c5, .slice a2 l2 c2, .bool ev] rfl rfl 128 _ ((unhide HS7).at 1 rfl) (by rw [info81]; rfl) rfl (by kernel_rfl) ?_
    have HS8 := hide (((unhide HS7).rot).set nz81 #[.slice a3 l3 c3, .slice a4 l4 c4, .slice a5 l5 c5, .slice a2 l2 c2, .bool ev])
    clear HS7
    generalize U7.setRow w.heap.size #[.slice a3 l3 c3, .slice a4 l4 c4, .slice a5 l5 c5, .slice a2 l2 c2, .bool ev] = U8 at *
    refine hK _ _ (((unhide HS8).at 1 rfl).ub.c 1 _ rfl) ?_
    clear hK K
    refine wpR_done (by kernel_rfl) ?_
    go_wp2_with fail
    exact bodyPost_ret (v := .agg #[.slice a3 l3 c3, .slice a4 l4 c4, .slice a5 l5 c5, .slice a2 l2 c2, .bool ev]) (res81 Tryz.results106 _ _ w.heap.size _ rfl rfl ((unhide HS8).at 0 rfl)) rfl ⟨_, _, _, _, _, _, _, _, _, _, _, _, rfl, ((unhide HS8).bgt 2 rfl), ((unhide HS8).bgt 1 rfl), ((unhide HS8).bgt 0 rfl), ((unhide HS8).bgt 3 rfl), (unhide HS8).below⟩
end Go.Proofs.YtijifpbpjinmhaaGreatDoor

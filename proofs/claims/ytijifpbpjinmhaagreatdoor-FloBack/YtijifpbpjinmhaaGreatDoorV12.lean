/- A number scaled by powers of two: its whole part; bits tells about how great it is. -/
import Derived.Test.YtijifpbpjinmhaaGreatDoorV10
import Derived.Test.YtijifpbpjinmhaaGreatDoorFloor
import Derived.Test.YtijifpbpjinmhaaGreatDoorV3
set_option maxHeartbeats 4000000
set_option maxRecDepth 100000
namespace Go.Proofs.YtijifpbpjinmhaaGreatDoor
open Go.RowKit
attribute [local go_sem] run_bits run_from
theorem mk_tb' (n : Nat) (h : n < 10 ^ 600) : (⟨(Lib.decDigits n).toArray⟩ : ByteArray) = tb n := by unfold tb; rw [toldText_pos n h]
theorem lt600 (M : Nat) (h : M < 18446744073709551616) : M < 10 ^ 600 := by
  obtain ⟨K, hK⟩ : ∃ K, K = 600 := ⟨_, rfl⟩
  rw [← hK]
  have h2 : (10 : Nat) ^ 20 ≤ 10 ^ K := Nat.pow_le_pow_right (by decide) (by omega)
  have h3 : (18446744073709551616 : Nat) ≤ 10 ^ 20 := by decide +kernel
  exact Nat.lt_of_lt_of_le h (Nat.le_trans h3 h2)
theorem text_m (v : Value) (M : Nat) (w : World) (h : IsBig w v M) (hM : M < 18446744073709551616) (ht : Tab w) : Calls Tryz.prog 39 #[v] w fun e w' => e = .returned (.string (tb M)) ∧ Below w.heap.size w w' := by
  have h3 : (18446744073709551616 : Nat) ≤ 1000000000 ^ 3 := by decide +kernel
  have e := text_any v M 3 w h (by decide) (Nat.lt_of_lt_of_le hM h3) ht
  rwa [mk_tb' M (lt600 M hM)] at e
theorem natInt_m (M : Nat) (w : World) (hM : M < 18446744073709551616) : Calls Tryz.prog 207 #[.string (tb M)] w fun e w' => e = .returned (.tuple #[.int .u64 (M : Nat), .int .i64 0]) ∧ Below w.heap.size w w' := by
  have h6 := lt600 M hM
  refine natInt_ok (tb M) M w (Nat.le_trans (tb_digs M h6).2 (by decide)) (tb_right M h6).1 ?_
  rw [Cub.parse64 _ (by rw [tb_list M h6]; exact Cub.isNat_dec M), (tb_right M h6).2, if_pos (by omega)]
theorem half_nat (M i : Nat) : ((M / 2 ^ i : Nat) : Int) / 2 = ((M / 2 ^ (i + 1) : Nat) : Int) := by
  rw [Nat.pow_succ, ← Nat.div_div_eq_div_mul]; omega
theorem wrap_half (n : Nat) (h : n < 18446744073709551616) : IntKind.u64.wrap ((n : Int) / 2) = (n : Int) / 2 := by rw [IntKind.wrap_u64]; omega
theorem no_ge (n : Nat) (h : n < 9007199254740992) : ((9007199254740992 : Int) ≤ (n : Int)) = False := eq_false (by omega)
theorem half_small (M i : Nat) (hM : M < 18446744073709551616) (h : 9007199254740992 ≤ M / 2 ^ i) : i < 20 := by
  rcases Nat.lt_or_ge i 20 with h2 | h2
  · exact h2
  · exfalso
    have e : M / 2 ^ i ≤ M / 2 ^ 20 := Nat.div_le_div_left (Nat.pow_le_pow_right (by decide) h2) (by decide)
    have e2 : M / 2 ^ 20 < 17592186044416 := by rw [Nat.div_lt_iff_lt_mul (by decide)]; omega
    omega
theorem floor_zero (a1 : Option Addr) (l1 c1 : Nat) (a2 : Option Addr) (l2 c2 : Nat) (w : World) (hp : IsBig w (.agg #[.slice a1 l1 c1]) 0) :
    Calls Tryz.prog 174 #[.agg #[.slice a1 l1 c1, .slice a2 l2 c2]] w fun e w' => e = .returned (.float .f64 0) ∧ Below w.heap.size w w' := by
  obtain ⟨V, hV⟩ : ∃ V, V = (w.alloc (.cells #[.slice a1 l1 c1, .slice a2 l2 c2] 54)) := ⟨_, rfl⟩
  have HS0 : Hid (St w [(w.heap.size, 54, #[.slice a1 l1 c1, .slice a2 l2 c2])] [(.agg #[.slice a1 l1 c1], 0)] V) := by rw [hV]; have h := (((St.nil (Below.refl _ w)).push hp).new #[.slice a1 l1 c1, .slice a2 l2 c2] 54); (try simp only [World.size_alloc] at h); exact h
  have HV := hide hV
  clear hV hp
  go_enter Tryz.func174, Tryz.ntmps174
  go_upto_region 1 with fail
  rw [← unhide HV]
  clear HV
  have u0 := ((unhide HS0).at 0 rfl).ub.c 0 _ rfl
  have u1 := ((unhide HS0).at 0 rfl).ub.c 1 _ rfl
  go_wp2_with (have hchk := HS0; clear hchk; go_at_call 85; go_must (refine (isZero_any _ 0 _ ((unhide HS0).bgt 0 rfl)).mono ?_; rintro e U1 ⟨rfl, hb⟩; have HS1 := hide ((unhide HS0).later hb); clear HS0; clear hb u0 u1))
  go_ret
  exact ⟨rfl, (unhide HS1).below⟩
theorem floor_walk (a1 : Option Addr) (l1 c1 : Nat) (a2 : Option Addr) (l2 c2 : Nat) (p q tn td M : Nat) (b ee : Int) (f : Nat) (w : World) (hp : IsBig w (.agg #[.slice a1 l1 c1]) p) (hq : IsBig w (.agg #[.slice a2 l2 c2]) q) (htab : Tab w)
    (hp0 : (p == 0) = false) (hP1 : p < 1000000000 ^ 100 ∧ q < 1000000000 ^ 100 ∧ tn < 1000000000 ^ 100 ∧ p * tn < 1000000000 ^ 200 ∧ td < 1000000000 ^ 100) (hM : M < 18446744073709551616) (hMq : p * tn / (q * td) = M) (hd0 : 0 < q * td)
    (hb1 : -4000 ≤ b) (hb2 : b ≤ 4000) (hmx : max (b - 52 - 1) (-1074) = ee) (hwe : IntKind.i64.wrap (-ee) = -ee) (he1 : -1074 ≤ ee) (he2 : ee ≤ 4000)
    (HBT : ∀ W : World, IsBig W (.agg #[.slice a1 l1 c1]) p → IsBig W (.agg #[.slice a2 l2 c2]) q → Calls Tryz.prog 206 #[.agg #[.slice a1 l1 c1, .slice a2 l2 c2]] W fun r w' => r = .returned (.int .i64 b) ∧ Below W.heap.size W w')
    (HTW : ∀ W : World, Calls Tryz.prog 74 #[.int .i64 (-ee)] W fun e w' => ∃ v, e = .returned v ∧ IsSz w' v tn td ∧ Below W.heap.size W w')
    (HJ : ∀ i : Nat, M / 2 ^ i < 9007199254740992 → (i = 0 ∨ 9007199254740992 ≤ M / 2 ^ (i - 1)) → ∀ W : World, Calls Tryz.prog 208 #[.int .u64 ((M / 2 ^ i : Nat) : Int), .int .i64 (ee + (i : Int))] W fun e w' => e = .returned (.float .f64 f) ∧ w' = W) :
    Calls Tryz.prog 174 #[.agg #[.slice a1 l1 c1, .slice a2 l2 c2]] w fun e w' => e = .returned (.float .f64 f) ∧ Below w.heap.size w w' := by
  have hta : ∀ W, Below w.heap.size w W → Tab W := fun W hb => htab.later hb
  have HTAB := hide hta
  obtain ⟨V, hV⟩ : ∃ V, V = (w.alloc (.cells #[.slice a1 l1 c1, .slice a2 l2 c2] 54)) := ⟨_, rfl⟩
  have HS0 : Hid (St w [(w.heap.size, 54, #[.slice a1 l1 c1, .slice a2 l2 c2])] [(.agg #[.slice a2 l2 c2], q), (.agg #[.slice a1 l1 c1], p)] V) := by rw [hV]; have h := ((((St.nil (Below.refl _ w)).push hp).push hq).new #[.slice a1 l1 c1, .slice a2 l2 c2] 54); (try simp only [World.size_alloc] at h); exact h
  have HV := hide hV
  have HP1 := hide hP1
  have HM := hide hM
  have HQM := hide hMq
  have HD0 := hide hd0
  have GB := hide HBT
  have GT := hide HTW
  have GJ := hide HJ
  clear hV hp hq htab hP1 hta hM hMq hd0 HBT HTW HJ
  go_enter Tryz.func174, Tryz.ntmps174
  go_upto_region 1 with fail
  rw [← unhide HV]
  clear HV
  have u0 := ((unhide HS0).at 0 rfl).ub.c 0 _ rfl
  have u1 := ((unhide HS0).at 0 rfl).ub.c 1 _ rfl
  go_upto_region 3 with (have hchk := HS0; clear hchk; go_at_call 85; go_must (refine (isZero_any _ p _ ((unhide HS0).bgt 1 rfl)).mono ?_; rintro e U1 ⟨rfl, hb⟩; have HS1 := hide ((unhide HS0).later hb); clear HS0; clear hb u0 u1))
  have u0 := ((unhide HS1).at 0 rfl).ub.c 0 _ rfl
  have u1 := ((unhide HS1).at 0 rfl).ub.c 1 _ rfl
  go_upto_region 4 with (have hchk := HS1; clear hchk; go_at_call 206; go_must (refine (unhide GB _ ((unhide HS1).bgt 1 rfl) ((unhide HS1).bgt 0 rfl)).mono ?_; rintro e U2 ⟨rfl, hb⟩; have HS2 := hide ((unhide HS1).later hb); clear HS1; clear hb u0 u1))
  go_cut [4] from 17 (fun s4 wx => ∃ g4 a5 l5 c5 a6 l6 c6, s4 = .pointer (some ⟨g4, 0, none⟩) ∧ Hid (St w [(g4, 54, #[.slice a5 l5 c5, .slice a6 l6 c6]), (w.heap.size, 54, #[.slice a1 l1 c1, .slice a2 l2 c2])] [(.agg #[.slice a5 l5 c5], p * tn), (.agg #[.slice a6 l6 c6], q * td)] wx))
  case first =>
    refine region_reads 6 (fun _ => True) (fun W' => W'.cell? ⟨w.heap.size, 0, none⟩ = some (.slice a1 l1 c1) ∧ W'.cell? ⟨w.heap.size, 1, none⟩ = some (.slice a2 l2 c2)) 7 rfl (by kernel_rfl) ?_
    have HS3 := hide ((unhide HS2).later ((Below.refl _ _).drew))
    clear HS2
    generalize U2.drew = X0 at *
    refine wpR_take7 (i := 0) (oi := _) (v := .agg #[.slice a1 l1 c1, .slice a2 l2 c2]) rfl (by kernel_rfl) (by kernel_rfl) (by kernel_rfl) (by kernel_rfl) (fun _ _ _ h => h) (Or.inl ⟨by rfl, ?_⟩) ⟨trivial, ⟨((unhide HS3).at 0 rfl).ub.c 0 _ rfl, ((unhide HS3).at 0 rfl).ub.c 1 _ rfl⟩⟩ ?_
    · intro W' hW
      go_split_ands
      go_simp
    refine wpR_take7 (i := 1) (oi := _) (v := .int .i64 ee) rfl (by kernel_rfl) (by kernel_rfl) (by kernel_rfl) (by kernel_rfl) (fun _ _ _ h => h) (Or.inl ⟨by rfl, ?_⟩) ⟨trivial, ⟨((unhide HS3).at 0 rfl).ub.c 0 _ rfl, ((unhide HS3).at 0 rfl).ub.c 1 _ rfl⟩⟩ ?_
    · intro W' hW
      go_split_ands
      go_simp
    refine wpR_take7 (i := 2) (oi := _) (v := .int .i64 (-ee)) rfl (by kernel_rfl) (by kernel_rfl) (by kernel_rfl) (by kernel_rfl) (fun _ _ _ h => h) (Or.inl ⟨by rfl, ?_⟩) ⟨trivial, ⟨((unhide HS3).at 0 rfl).ub.c 0 _ rfl, ((unhide HS3).at 0 rfl).ub.c 1 _ rfl⟩⟩ ?_
    · intro W' hW
      go_split_ands
      go_simp
    refine wpR_two (i := 3) (j := 5) (by kernel_rfl) rfl rfl rfl rfl (fun K hK => ?_) (fun K hK => ?_) 
    · go_simp
      refine (unhide GT _).mono ?_
      rintro e X1 ⟨_, rfl, ⟨a3, l3, c3, a4, l4, c4, rfl, hv1, hv2⟩, hb⟩
      have HS4 := hide ((((unhide HS3).later hb).push hv1).push hv2)
      clear HS3
      clear hv1 hv2 hb
      refine hK _ _ ⟨trivial, ⟨((unhide HS4).at 0 rfl).ub.c 0 _ rfl, ((unhide HS4).at 0 rfl).ub.c 1 _ rfl⟩⟩ ?_
      clear hK K
      refine wpR_two (i := 4) (j := 5) (by kernel_rfl) rfl rfl rfl rfl (fun K hK => ?_) (fun K hK => ?_) 
      · go_simp
        refine (times_any _ _ _ _ _ _ _ _ _ _ _ _ p q tn td 100 _ ((unhide HS4).bgt 3 rfl) ((unhide HS4).bgt 2 rfl) ((unhide HS4).bgt 1 rfl) ((unhide HS4).bgt 0 rfl) (by decide) (unhide HP1).1 (unhide HP1).2.1 (unhide HP1).2.2.1 (unhide HP1).2.2.2.2).mono ?_
        rintro e X2 ⟨_, rfl, ⟨a5, l5, c5, a6, l6, c6, rfl, hv1, hv2⟩, hb⟩
        have HS5 := hide ((((unhide HS4).later hb).push hv2).push hv1)
        clear HS4
        clear hv1 hv2 hb
        refine hK _ _ ⟨trivial, ⟨((unhide HS5).at 0 rfl).ub.c 0 _ rfl, ((unhide HS5).at 0 rfl).ub.c 1 _ rfl⟩⟩ ?_
        clear hK K
        refine wpR_op (i := 5) (o := _) (by kernel_rfl) rfl rfl (fun K hK => ?_)
        go_simp
        have HS6 := hide ((unhide HS5).new #[.slice none 0 0, .slice none 0 0] 54)
        clear HS5
        generalize X2.alloc (.cells #[.slice none 0 0, .slice none 0 0] 54) = X3 at *
        generalize X2.heap.size = g4 at *
        refine hK _ _ ⟨trivial, ⟨((unhide HS6).at 1 rfl).ub.c 0 _ rfl, ((unhide HS6).at 1 rfl).ub.c 1 _ rfl⟩⟩ ?_
        clear hK K
        refine wpR_late (i := 6) (o := _) (by kernel_rfl) rfl rfl (by kernel_rfl) (fun K hK => ?_)
        refine wp_store_row 54 (.tmp 4) (.tmp 21) rfl g4 #[.slice a5 l5 c5, .slice a6 l6 c6] rfl rfl 54 _ ((unhide HS6).at 0 rfl) (by rw [info59]; rfl) rfl (by kernel_rfl) ?_
        have HS7 := hide (((unhide HS6)).set (nz2 _ _ _ _ _ _) #[.slice a5 l5 c5, .slice a6 l6 c6])
        clear HS6
        generalize X3.setRow g4 #[.slice a5 l5 c5, .slice a6 l6 c6] = X4 at *
        refine hK _ _ (⟨((unhide HS7).at 1 rfl).ub.c 0 _ rfl, ((unhide HS7).at 1 rfl).ub.c 1 _ rfl⟩) ?_
        clear hK K
        refine wpR_done (by kernel_rfl) ?_
        go_wp2_with fail
        go_meet
        exact ⟨g4, a5, l5, c5, a6, l6, c6, rfl, hide ((unhide HS7).first 2)⟩
      · go_simp
        have HS5 := hide ((unhide HS4).new #[.slice none 0 0, .slice none 0 0] 54)
        clear HS4
        generalize X1.alloc (.cells #[.slice none 0 0, .slice none 0 0] 54) = X5 at *
        generalize X1.heap.size = g4 at *
        refine hK _ _ ⟨trivial, ⟨((unhide HS5).at 1 rfl).ub.c 0 _ rfl, ((unhide HS5).at 1 rfl).ub.c 1 _ rfl⟩⟩ ?_
        clear hK K
        refine wpR_op (i := 4) (o := _) (by kernel_rfl) rfl rfl (fun K hK => ?_)
        go_simp
        refine (times_any _ _ _ _ _ _ _ _ _ _ _ _ p q tn td 100 _ ((unhide HS5).bgt 3 rfl) ((unhide HS5).bgt 2 rfl) ((unhide HS5).bgt 1 rfl) ((unhide HS5).bgt 0 rfl) (by decide) (unhide HP1).1 (unhide HP1).2.1 (unhide HP1).2.2.1 (unhide HP1).2.2.2.2).mono ?_
        rintro e X6 ⟨_, rfl, ⟨a5, l5, c5, a6, l6, c6, rfl, hv1, hv2⟩, hb⟩
        have HS6 := hide ((((unhide HS5).later hb).push hv2).push hv1)
        clear HS5
        clear hv1 hv2 hb
        refine hK _ _ ⟨trivial, ⟨((unhide HS6).at 1 rfl).ub.c 0 _ rfl, ((unhide HS6).at 1 rfl).ub.c 1 _ rfl⟩⟩ ?_
        clear hK K
        refine wpR_late (i := 6) (o := _) (by kernel_rfl) rfl rfl (by kernel_rfl) (fun K hK => ?_)
        refine wp_store_row 54 (.tmp 4) (.tmp 21) rfl g4 #[.slice a5 l5 c5, .slice a6 l6 c6] rfl rfl 54 _ ((unhide HS6).at 0 rfl) (by rw [info59]; rfl) rfl (by kernel_rfl) ?_
        have HS7 := hide (((unhide HS6)).set (nz2 _ _ _ _ _ _) #[.slice a5 l5 c5, .slice a6 l6 c6])
        clear HS6
        generalize X6.setRow g4 #[.slice a5 l5 c5, .slice a6 l6 c6] = X7 at *
        refine hK _ _ (⟨((unhide HS7).at 1 rfl).ub.c 0 _ rfl, ((unhide HS7).at 1 rfl).ub.c 1 _ rfl⟩) ?_
        clear hK K
        refine wpR_done (by kernel_rfl) ?_
        go_wp2_with fail
        go_meet
        exact ⟨g4, a5, l5, c5, a6, l6, c6, rfl, hide ((unhide HS7).first 2)⟩
    · go_simp
      have HS4 := hide ((unhide HS3).new #[.slice none 0 0, .slice none 0 0] 54)
      clear HS3
      generalize X0.alloc (.cells #[.slice none 0 0, .slice none 0 0] 54) = X8 at *
      generalize X0.heap.size = g4 at *
      refine hK _ _ ⟨trivial, ⟨((unhide HS4).at 1 rfl).ub.c 0 _ rfl, ((unhide HS4).at 1 rfl).ub.c 1 _ rfl⟩⟩ ?_
      clear hK K
      refine wpR_op (i := 3) (o := _) (by kernel_rfl) rfl rfl (fun K hK => ?_)
      go_simp
      refine (unhide GT _).mono ?_
      rintro e X9 ⟨_, rfl, ⟨a3, l3, c3, a4, l4, c4, rfl, hv1, hv2⟩, hb⟩
      have HS5 := hide ((((unhide HS4).later hb).push hv1).push hv2)
      clear HS4
      clear hv1 hv2 hb
      refine hK _ _ ⟨trivial, ⟨((unhide HS5).at 1 rfl).ub.c 0 _ rfl, ((unhide HS5).at 1 rfl).ub.c 1 _ rfl⟩⟩ ?_
      clear hK K
      refine wpR_op (i := 4) (o := _) (by kernel_rfl) rfl rfl (fun K hK => ?_)
      go_simp
      refine (times_any _ _ _ _ _ _ _ _ _ _ _ _ p q tn td 100 _ ((unhide HS5).bgt 3 rfl) ((unhide HS5).bgt 2 rfl) ((unhide HS5).bgt 1 rfl) ((unhide HS5).bgt 0 rfl) (by decide) (unhide HP1).1 (unhide HP1).2.1 (unhide HP1).2.2.1 (unhide HP1).2.2.2.2).mono ?_
      rintro e X10 ⟨_, rfl, ⟨a5, l5, c5, a6, l6, c6, rfl, hv1, hv2⟩, hb⟩
      have HS6 := hide ((((unhide HS5).later hb).push hv2).push hv1)
      clear HS5
      clear hv1 hv2 hb
      refine hK _ _ ⟨trivial, ⟨((unhide HS6).at 1 rfl).ub.c 0 _ rfl, ((unhide HS6).at 1 rfl).ub.c 1 _ rfl⟩⟩ ?_
      clear hK K
      refine wpR_late (i := 6) (o := _) (by kernel_rfl) rfl rfl (by kernel_rfl) (fun K hK => ?_)
      refine wp_store_row 54 (.tmp 4) (.tmp 21) rfl g4 #[.slice a5 l5 c5, .slice a6 l6 c6] rfl rfl 54 _ ((unhide HS6).at 0 rfl) (by rw [info59]; rfl) rfl (by kernel_rfl) ?_
      have HS7 := hide (((unhide HS6)).set (nz2 _ _ _ _ _ _) #[.slice a5 l5 c5, .slice a6 l6 c6])
      clear HS6
      generalize X10.setRow g4 #[.slice a5 l5 c5, .slice a6 l6 c6] = X11 at *
      refine hK _ _ (⟨((unhide HS7).at 1 rfl).ub.c 0 _ rfl, ((unhide HS7).at 1 rfl).ub.c 1 _ rfl⟩) ?_
      clear hK K
      refine wpR_done (by kernel_rfl) ?_
      go_wp2_with fail
      go_meet
      exact ⟨g4, a5, l5, c5, a6, l6, c6, rfl, hide ((unhide HS7).first 2)⟩
  case rest =>
    obtain ⟨g4, a5, l5, c5, a6, l6, c6, rfl, HS0⟩ := hcut
    generalize wc = Y0 at *
    have u0 := ((unhide HS0).at 0 rfl).ub.c 0 _ rfl
    have u1 := ((unhide HS0).at 0 rfl).ub.c 1 _ rfl
    go_upto_region 6 with (have hchk := HS0; clear hchk; go_at_call 161; go_must (refine (divModC _ _ (p * tn) (q * td) M 200 _ ((unhide HS0).bgt 0 rfl) ((unhide HS0).bgt 1 rfl) (by decide) (unhide HP1).2.2.2.1 (unhide HD0) (unhide HQM)).mono ?_; rintro e Y1 ⟨a7, l7, c7, a8, l8, c8, rfl, hv1, hb⟩; have HS1 := hide (((unhide HS0).later hb).push hv1); clear HS0; clear hv1 hb u0 u1))
    have HS2 : Hid (St w [(Y1.heap.size + 1, 51, #[.slice a8 l8 c8]), (Y1.heap.size, 51, #[.slice a7 l7 c7]), (g4, 54, #[.slice a5 l5 c5, .slice a6 l6 c6]), (w.heap.size, 54, #[.slice a1 l1 c1, .slice a2 l2 c2])] [(.agg #[.slice a7 l7 c7], M), (.agg #[.slice a5 l5 c5], p * tn), (.agg #[.slice a6 l6 c6], q * td)] ((Y1.alloc (.cells #[.slice a7 l7 c7] 51)).alloc (.cells #[.slice a8 l8 c8] 51))) := by have h := ((unhide HS1).new #[.slice a7 l7 c7] 51).new #[.slice a8 l8 c8] 51; simp only [World.size_alloc] at h; exact h
    clear HS1
    generalize (Y1.alloc (.cells #[.slice a7 l7 c7] 51)).alloc (.cells #[.slice a8 l8 c8] 51) = Y2 at *
    generalize Y1.heap.size = g5 at *
    have u0 := ((unhide HS2).at 1 rfl).ub.c 0 _ rfl
    go_wp2_with (first
      | (have hchk := HS3; clear hchk; go_at_call 207; go_must (refine (natInt_m M _ (unhide HM)).mono ?_; rintro e Y4 ⟨rfl, hb⟩; have HS4 := hide ((unhide HS3).later hb); clear HS3; clear hb))
      | (have hchk := HS2; clear hchk; go_at_call 39; go_must (refine (text_m _ M _ ((unhide HS2).bgt 0 rfl) (unhide HM) (unhide HTAB _ (unhide HS2).below)).mono ?_; rintro e Y3 ⟨rfl, hb⟩; have HS3 := hide ((unhide HS2).later hb); clear HS2; clear hb u0)))
    go_loopw [7, 3] (fun m e wr => (∃ i : Nat, m = .int .u64 ((M / 2 ^ i : Nat) : Int) ∧ e = .int .i64 (ee + (i : Int)) ∧ Hid (i = 0 ∨ 9007199254740992 ≤ M / 2 ^ (i - 1)) ∧ i ≤ 20) ∧ Hid (Below w.heap.size w wr)) (fun m _ _ => (intOf m).toNat)
    case atStart => exact ⟨⟨0, by simp, by simp, Or.inl rfl, by decide⟩, (unhide HS4).below⟩
    case round =>
      obtain ⟨⟨i, rfl, rfl, HI, hi⟩, HBW⟩ := hrel
      by_cases hlt : M / 2 ^ i < 9007199254740992
      · have GJ2 := hide (unhide GJ i hlt (unhide HI))
        have hltE : ((9007199254740992 : Int) ≤ ((M / 2 ^ i : Nat) : Int)) = False := no_ge _ hlt
        clear GJ hlt
        generalize M / 2 ^ i = mi at *
        go_wp2_with (go_at_call 208; go_must (refine (unhide GJ2 _).mono ?_; rintro e ww ⟨rfl, hw⟩; obtain rfl := hw.symm))
        go_ret
        exact ⟨rfl, unhide HBW⟩
      · have hsm := half_small M i (unhide HM) (by omega)
        have hi2 : (i : Int) ≤ 19 := by omega
        have HI2 : Hid (i + 1 = 0 ∨ 9007199254740992 ≤ M / 2 ^ (i + 1 - 1)) := Or.inr (by rw [Nat.add_sub_cancel]; omega)
        have HH := hide (half_nat M i)
        have HL2 : Hid (M / 2 ^ (i + 1) < M / 2 ^ i) := by have := half_nat M i; exact (by omega : M / 2 ^ (i + 1) < M / 2 ^ i)
        have hge : (9007199254740992 : Int) ≤ ((M / 2 ^ i : Nat) : Int) := by omega
        have hwm : IntKind.u64.wrap (((M / 2 ^ i : Nat) : Int) / 2) = ((M / 2 ^ i : Nat) : Int) / 2 := wrap_half _ (Nat.lt_of_le_of_lt (Nat.div_le_self M (2 ^ i)) (unhide HM))
        clear hlt HI hsm
        generalize hmi : M / 2 ^ i = mi at *
        generalize hmj : M / 2 ^ (i + 1) = mj at *
        clear hmi
        go_wp2_with fail
        go_roundw
        case rel => exact ⟨⟨i + 1, by rw [hmj, ← unhide HH], by simp [Int.add_assoc], HI2, by omega⟩, HBW⟩
        case measure => have := unhide HL2; have := unhide HH; simp only [intOf]; omega
end Go.Proofs.YtijifpbpjinmhaaGreatDoor
namespace Go.Proofs.YtijifpbpjinmhaaGreatDoor
open Go.RowKit
theorem shortest_walk (f A B C D : Nat) (ev : Bool) (n : Int) (fo : Nat → Option Nat) (w : World) (htab : Tab w) (h0 : (FloatKind.f64.format.order f 0 == some Ordering.eq) = false) (hn1 : -9000 ≤ n) (hn2 : n ≤ 9000)
    (HRO : ∀ W : World, Calls Tryz.prog 106 #[.float .f64 f] W fun e w' => ∃ (a1 : Option Addr) (l1 c1 : Nat) (a2 : Option Addr) (l2 c2 : Nat) (a3 : Option Addr) (l3 c3 : Nat) (a4 : Option Addr) (l4 c4 : Nat), e = .returned (.agg #[.slice a1 l1 c1, .slice a2 l2 c2, .slice a3 l3 c3, .slice a4 l4 c4, .bool ev]) ∧ IsBig w' (.agg #[.slice a1 l1 c1]) A ∧ IsBig w' (.agg #[.slice a2 l2 c2]) B ∧ IsBig w' (.agg #[.slice a3 l3 c3]) C ∧ IsBig w' (.agg #[.slice a4 l4 c4]) D ∧ Below W.heap.size W w')
    (HPL : ∀ (a1 : Option Addr) (l1 c1 : Nat) (a4 : Option Addr) (l4 c4 : Nat) (W : World), IsBig W (.agg #[.slice a1 l1 c1]) A → IsBig W (.agg #[.slice a4 l4 c4]) D → Calls Tryz.prog 107 #[.agg #[.slice a1 l1 c1, .slice a4 l4 c4]] W fun e w' => e = .returned (.int .i64 n) ∧ Below W.heap.size W w')
    (HDA : ∀ (a1 : Option Addr) (l1 c1 : Nat) (a2 : Option Addr) (l2 c2 : Nat) (a3 : Option Addr) (l3 c3 : Nat) (a4 : Option Addr) (l4 c4 : Nat) (W : World), IsBig W (.agg #[.slice a1 l1 c1]) A → IsBig W (.agg #[.slice a2 l2 c2]) B → IsBig W (.agg #[.slice a3 l3 c3]) C → IsBig W (.agg #[.slice a4 l4 c4]) D → DecAns (.agg #[.slice a1 l1 c1, .slice a2 l2 c2, .slice a3 l3 c3, .slice a4 l4 c4, .bool ev]) n fo W)
    (HFO : ∀ j, (fo j).getD 0 < 18446744073709551616) :
    Calls Tryz.prog 56 #[.float .f64 f] w fun e w' => (∃ s : Nat, s ≤ 16 ∧ Hid (s = 0 ∨ (fo s).isSome = false) ∧ Hid (s = 16 ∨ (fo (s + 1)).isSome = true) ∧ e = .returned (if s + 1 < (tb ((fo (s + 1)).getD 0)).size then .tuple #[.string ⟨#[49]⟩, .int .i64 (n + 1)] else .tuple #[.string (tb ((fo (s + 1)).getD 0)), .int .i64 n])) ∧ Below w.heap.size w w' := by
  have hta : ∀ W, Below w.heap.size w W → Tab W := fun W hb => htab.later hb
  have HTAB := hide hta
  have GRO := hide HRO
  have GPL := hide HPL
  have GDA := hide HDA
  have GFO := hide HFO
  have HS0 : Hid (St w [] [] w) := St.nil (Below.refl _ _)
  clear htab hta HRO HPL HDA HFO
  go_enter Tryz.func56, Tryz.ntmps56
  go_upto_region 4 with (first
    | (have hchk := HS0; clear hchk; go_at_call 106; go_must (refine (unhide GRO _).mono ?_; rintro e U1 ⟨a1, l1, c1, a2, l2, c2, a3, l3, c3, a4, l4, c4, rfl, hv1, hv2, hv3, hv4, hb⟩; have HS1 := hide ((((((unhide HS0).later hb).push hv1).push hv2).push hv3).push hv4); clear HS0; clear hv1 hv2 hv3 hv4 hb h0))
    | (have hchk := HS1; clear hchk; refine storeT 128 5 info81 rfl (.tmp 4) (.tmp 13) rfl U1.heap.size #[.slice none 0 0, .slice none 0 0, .slice none 0 0, .slice none 0 0, .bool false] #[.slice a1 l1 c1, .slice a2 l2 c2, .slice a3 l3 c3, .slice a4 l4 c4, .bool ev] rfl rfl rfl rfl (OwnU.new _ _ _) (by kernel_rfl) ?_))
  have HS2 := hide ((unhide HS1).new #[.slice none 0 0, .slice none 0 0, .slice none 0 0, .slice none 0 0, .bool false] 128)
  clear HS1
  generalize U1.alloc (.cells #[.slice none 0 0, .slice none 0 0, .slice none 0 0, .slice none 0 0, .bool false] 128) = U2 at *
  generalize U1.heap.size = g4 at *
  have HS3 := hide (((unhide HS2)).set nz81 #[.slice a1 l1 c1, .slice a2 l2 c2, .slice a3 l3 c3, .slice a4 l4 c4, .bool ev])
  clear HS2
  generalize U2.setRow g4 #[.slice a1 l1 c1, .slice a2 l2 c2, .slice a3 l3 c3, .slice a4 l4 c4, .bool ev] = U3 at *
  have u0 := ((unhide HS3).at 0 rfl).ub.c 0 _ rfl
  have u3 := ((unhide HS3).at 0 rfl).ub.c 3 _ rfl
  go_upto_region 5 with (have hchk := HS3; clear hchk; go_at_call 107; go_must (refine (unhide GPL _ _ _ _ _ _ _ ((unhide HS3).bgt 3 rfl) ((unhide HS3).bgt 0 rfl)).mono ?_; rintro e U4 ⟨rfl, hb⟩; have HS4 := hide ((unhide HS3).later hb); clear HS3; clear hb u0 u3))
  have HS5 := hide ((unhide HS4).new #[.int .i64 n] 3)
  clear HS4
  generalize U4.alloc (.cells #[.int .i64 n] 3) = U5 at *
  generalize U4.heap.size = g5 at *
  go_upto_region 6 with (have hchk := HS5; clear hchk; go_at_call 108; go_must (refine (search_gen _ _ _ _ _ _ _ _ _ _ _ _ ev n fo g4 g5 _ _ (unhide GDA _ _ _ _ _ _ _ _ _ _ _ _ _ ((unhide HS5).bgt 3 rfl) ((unhide HS5).bgt 2 rfl) ((unhide HS5).bgt 1 rfl) ((unhide HS5).bgt 0 rfl)) (Below.refl _ _) ((unhide HS5).at 1 rfl) ((unhide HS5).at 0 rfl)).mono ?_; rintro e U6 ⟨⟨s, hs16, hsA, hsB, rfl⟩, hb⟩; have HS6 := hide ((unhide HS5).later hb); clear HS5; clear hb))
  rw [show (1 : Int) + (s : Int) = ((s + 1 : Nat) : Int) by omega]
  have GK : Hid (s + 1 ≤ 17) := (by omega : s + 1 ≤ 17)
  generalize hkk : s + 1 = kk at *
  have HSA : Hid (s ≤ 16) := hs16
  have HKK := hide hkk
  clear hkk
  have HD64 := hide (unhide GFO kk)
  clear hs16
  have u0 := ((unhide HS6).at 1 rfl).ub.c 0 _ rfl
  have u1 := ((unhide HS6).at 1 rfl).ub.c 1 _ rfl
  have u2 := ((unhide HS6).at 1 rfl).ub.c 2 _ rfl
  have u3 := ((unhide HS6).at 1 rfl).ub.c 3 _ rfl
  have u4 := ((unhide HS6).at 1 rfl).ub.c 4 _ rfl
  have u5 := ((unhide HS6).at 0 rfl).ub.c 0 _ rfl
  go_upto_region 7 with (have hchk := HS6; clear hchk; go_at_call 110; go_must (refine (unhide GDA _ _ _ _ _ _ _ _ _ _ _ _ _ ((unhide HS6).bgt 3 rfl) ((unhide HS6).bgt 2 rfl) ((unhide HS6).bgt 1 rfl) ((unhide HS6).bgt 0 rfl) kk _ (by have := unhide HKK; omega) (unhide GK) (Below.refl _ _)).mono ?_; rintro e U7 ⟨a5, l5, c5, rfl, hv, hb⟩; have HS7 := hide (((unhide HS6).later hb).push hv); clear HS6; clear hv hb u0 u1 u2 u3 u4 u5))
  have HS8 := hide ((unhide HS7).new #[.slice a5 l5 c5] 51)
  clear HS7
  generalize U7.alloc (.cells #[.slice a5 l5 c5] 51) = U8 at *
  generalize U7.heap.size = g7 at *
  have u0 := ((unhide HS8).at 0 rfl).ub.c 0 _ rfl
  have hsz := (tb_digs _ (lt600 _ (unhide HD64))).2
  generalize hT : tb ((fo kk).getD 0) = T at *
  have HTX : Hid (∀ (v : Value) (W : World), IsBig W v ((fo kk).getD 0) → Tab W → Calls Tryz.prog 39 #[v] W fun e w' => e = .returned (.string T) ∧ Below W.heap.size W w') := fun v W h1 h2 => by rw [← hT]; exact text_m v _ W h1 (unhide HD64) h2
  have HTT := hide hT
  clear hT
  by_cases hlen : kk < T.size
  · have hlI : ((kk : Nat) : Int) < (T.size : Int) := by omega
    go_upto_region 9 with (have hchk := HS8; clear hchk; go_at_call 39; go_must (refine (unhide HTX _ _ ((unhide HS8).bgt 0 rfl) (unhide HTAB _ (unhide HS8).below)).mono ?_; rintro e U9 ⟨rfl, hb⟩; have HS9 := hide ((unhide HS8).later hb); clear HS8; clear hb u0))
    have hw1 : IntKind.i64.wrap (n + 1) = n + 1 := by rw [IntKind.wrap_i64]; omega
    refine region_reads 3 (fun _ => True) (fun W' => W'.cell? ⟨g5, 0, none⟩ = some (.int .i64 n)) 4 rfl (by kernel_rfl) ?_
    have HS10 := hide ((unhide HS9).later ((Below.refl _ _).drew))
    clear HS9
    generalize U9.drew = X0 at *
    refine wpR_take7 (i := 0) (oi := _) (v := .int .i64 n) rfl (by kernel_rfl) (by kernel_rfl) (by kernel_rfl) (by kernel_rfl) (fun _ _ _ h => h) (Or.inl ⟨by rfl, ?_⟩) ⟨trivial, ((unhide HS10).at 1 rfl).ub.c 0 _ rfl⟩ ?_
    · intro W' hW
      go_simp
    refine wpR_take7 (i := 1) (oi := _) (v := .int .i64 (n + 1)) rfl (by kernel_rfl) (by kernel_rfl) (by kernel_rfl) (by kernel_rfl) (fun _ _ _ h => h) (Or.inl ⟨by rfl, ?_⟩) ⟨trivial, ((unhide HS10).at 1 rfl).ub.c 0 _ rfl⟩ ?_
    · intro W' hW
      go_simp
    refine wpR_op (i := 2) (o := _) (by kernel_rfl) rfl rfl (fun K hK => ?_)
    go_simp
    refine hK _ _ ⟨trivial, ((unhide HS10).at 1 rfl).ub.c 0 _ rfl⟩ ?_
    clear hK K
    refine wpR_late (i := 3) (o := _) (by kernel_rfl) rfl rfl (by kernel_rfl) (fun K hK => ?_)
    go_simp
    refine hK _ _ (((unhide HS10).at 1 rfl).ub.c 0 _ rfl) ?_
    clear hK K
    refine wpR_done (by kernel_rfl) ?_
    go_wp2_with fail
    exact bodyPost_ret (v := .tuple #[.string ⟨#[49]⟩, .int .i64 (n + 1)]) (by simp [results, Tryz.results56, go_sem]) rfl ⟨⟨s, unhide HSA, hsA, by rw [unhide HKK]; exact hsB, by rw [unhide HKK, unhide HTT, if_pos hlen]⟩, (unhide HS10).below⟩
  · have hlI : ¬ ((kk : Nat) : Int) < (T.size : Int) := by omega
    go_upto_region 10 with (have hchk := HS8; clear hchk; go_at_call 39; go_must (refine (unhide HTX _ _ ((unhide HS8).bgt 0 rfl) (unhide HTAB _ (unhide HS8).below)).mono ?_; rintro e U9 ⟨rfl, hb⟩; have HS9 := hide ((unhide HS8).later hb); clear HS8; clear hb u0))
    refine region_reads 3 (fun _ => True) (fun W' => W'.cell? ⟨g5, 0, none⟩ = some (.int .i64 n)) 4 rfl (by kernel_rfl) ?_
    have HS10 := hide ((unhide HS9).later ((Below.refl _ _).drew))
    clear HS9
    generalize U9.drew = X0 at *
    refine wpR_take7 (i := 0) (oi := _) (v := .string T) rfl (by kernel_rfl) (by kernel_rfl) (by kernel_rfl) (by kernel_rfl) (fun _ _ _ h => h) (Or.inl ⟨by rfl, ?_⟩) ⟨trivial, ((unhide HS10).at 1 rfl).ub.c 0 _ rfl⟩ ?_
    · intro W' hW
      go_simp
    refine wpR_take7 (i := 1) (oi := _) (v := .int .i64 n) rfl (by kernel_rfl) (by kernel_rfl) (by kernel_rfl) (by kernel_rfl) (fun _ _ _ h => h) (Or.inl ⟨by rfl, ?_⟩) ⟨trivial, ((unhide HS10).at 1 rfl).ub.c 0 _ rfl⟩ ?_
    · intro W' hW
      go_simp
    refine wpR_op (i := 2) (o := _) (by kernel_rfl) rfl rfl (fun K hK => ?_)
    go_simp
    refine hK _ _ ⟨trivial, ((unhide HS10).at 1 rfl).ub.c 0 _ rfl⟩ ?_
    clear hK K
    refine wpR_late (i := 3) (o := _) (by kernel_rfl) rfl rfl (by kernel_rfl) (fun K hK => ?_)
    go_simp
    refine hK _ _ (((unhide HS10).at 1 rfl).ub.c 0 _ rfl) ?_
    clear hK K
    refine wpR_done (by kernel_rfl) ?_
    go_wp2_with fail
    exact bodyPost_ret (v := .tuple #[.string T, .int .i64 n]) (by simp [results, Tryz.results56, go_sem]) rfl ⟨⟨s, unhide HSA, hsA, by rw [unhide HKK]; exact hsB, by rw [unhide HKK, unhide HTT, if_neg hlen]⟩, (unhide HS10).below⟩
theorem sc_up (A B : Nat) (e : Int) (i : Nat) : ∃ s, scA A e = scA A (e + (i : Int)) * 2 ^ s ∧ scB B e * 2 ^ i = scB B (e + (i : Int)) * 2 ^ s := by
  refine ⟨(-e).toNat - (-(e + (i : Int))).toNat, ?_, ?_⟩
  · unfold scA
    rw [Nat.mul_assoc, ← Nat.pow_add]
    congr 2; omega
  · unfold scB
    rw [Nat.mul_assoc, ← Nat.pow_add, Nat.mul_assoc, ← Nat.pow_add]
    congr 2; omega
theorem scB_pos (B : Nat) (e : Int) (hB : 0 < B) : 0 < scB B e := Nat.mul_pos hB (Nat.two_pow_pos _)
/-- The whole part of a number scaled. -/
def quo (A B : Nat) (e : Int) : Nat := scA A e / scB B e
theorem quo_up (A B : Nat) (e : Int) (i : Nat) : quo A B e / 2 ^ i = quo A B (e + (i : Int)) := by
  unfold quo
  obtain ⟨s, h1, h2⟩ := sc_up A B e i
  rw [Nat.div_div_eq_div_mul, h2, h1, Nat.mul_div_mul_right _ _ (Nat.two_pow_pos s)]
theorem quo_lt (A B : Nat) (e : Int) (i : Nat) (hB : 0 < B) : quo A B e < 2 ^ i ↔ scA A (e + (i : Int)) < scB B (e + (i : Int)) := by
  have h := quo_up A B e i
  have h2 : quo A B e / 2 ^ i = 0 ↔ quo A B e < 2 ^ i := by
    rw [Nat.div_eq_zero_iff]
    have := Nat.two_pow_pos i
    omega
  rw [← h2, h]
  unfold quo
  rw [Nat.div_eq_zero_iff]
  have := scB_pos B (e + (i : Int)) hB
  omega
theorem two53 : (2 : Nat) ^ 53 = 9007199254740992 := by decide
theorem quo53 (A B : Nat) (e : Int) (hB : 0 < B) : quo A B e < 9007199254740992 ↔ scA A (e + 53) < scB B (e + 53) := by
  have := quo_lt A B e 53 hB
  rw [two53] at this
  exact this
theorem sz_of (A B : Nat) (x : Int) (hB : 0 < B) (h1 : -1074 ≤ x) (h2 : x ≤ 5000) (hlt : quo A B x < 9007199254740992) (hlo : x = -1074 ∨ 9007199254740992 ≤ quo A B (x - 1)) : SzInv A B x x := by
  refine ⟨(quo53 A B x hB).1 hlt, ?_, h1, Int.le_refl _, h2⟩
  intro e he hex hq
  have h3 := below_mono A B (e + 53) (x - 1 + 53) (by omega) hq
  have h4 := (quo53 A B (x - 1) hB).2 h3
  omega
theorem dig_hi (n : Nat) : n < 10 ^ Lib.nDigits n := by
  have h1 : 1 ≤ Lib.nDigits n := by
    rw [← Lib.decDigits_length]
    have := Cub.dec_ne_nil n
    cases hd : Lib.decDigits n with
    | nil => exact absurd hd this
    | cons a t => simp
  exact (Cub.dec_len_lt n _ h1).1 (by rw [Lib.decDigits_length]; exact Nat.le_refl _)
theorem bitsN_rng (z : Int) (h1 : -700 ≤ z) (h2 : z ≤ 700) : -2500 ≤ bitsN z ∧ bitsN z ≤ 2500 := by unfold bitsN; split <;> omega
theorem bitsN_pos (L : Nat) : 1 ≤ bitsN (L : Nat) := by unfold bitsN; rw [if_neg (by omega)]; omega
theorem bitsN_neg (k : Nat) : bitsN (-((k + 1 : Nat) : Int)) ≤ 0 := by unfold bitsN; rw [if_pos (by omega)]; omega
/-- bits is an n for which the number is at least two to the n - 1, and below two to the n + 9. -/
theorem bits_fit (A B dx dy : Nat) (b : Int) (ha1 : 10 ^ (dx - 1) ≤ A) (ha2 : A < 10 ^ dx) (hb1 : 10 ^ (dy - 1) ≤ B) (hb2 : B < 10 ^ dy) (hdx : 1 ≤ dx) (hdy : 1 ≤ dy) (hx6 : dx ≤ 600) (hy6 : dy ≤ 600) (hb : b = bitsN ((dx : Int) - (dy : Int) - 1)) :
    ¬ scA A (b - 1) < scB B (b - 1) ∧ scA A (b + 9) < scB B (b + 9) := by
  by_cases hz : 0 ≤ (dx : Int) - (dy : Int) - 1
  · obtain ⟨L, hL⟩ : ∃ L : Nat, dx = dy + L + 1 := ⟨dx - dy - 1, by omega⟩
    have e1 : (dx : Int) - (dy : Int) - 1 = (L : Nat) := by omega
    rw [e1] at hb
    have hp := bits_pos L (by omega)
    have hb3 := bitsN_pos L
    rw [← hb] at hp hb3
    obtain ⟨n, rfl⟩ : ∃ n : Nat, b = ((n + 1 : Nat) : Int) := ⟨(b - 1).toNat, by omega⟩
    clear hb hz e1 hb3
    have t1 : (((n + 1 : Nat) : Int)).toNat - 1 = n := by omega
    have t2 : (((n + 1 : Nat) : Int)).toNat + 9 = n + 10 := by omega
    rw [t1, t2] at hp
    unfold scA scB
    have t3 : (-(((n + 1 : Nat) : Int) - 1)).toNat = 0 := by omega
    have t4 : (((n + 1 : Nat) : Int) - 1).toNat = n := by omega
    have t5 : (-(((n + 1 : Nat) : Int) + 9)).toNat = 0 := by omega
    have t6 : (((n + 1 : Nat) : Int) + 9).toNat = n + 10 := by omega
    rw [t3, t4, t5, t6, Nat.pow_zero, Nat.mul_one]
    clear t1 t2 t3 t4 t5 t6
    generalize 2 ^ n = N at *
    generalize 2 ^ (n + 10) = N2 at *
    have q1 : 10 ^ (dx - 1) = 10 ^ dy * 10 ^ L := by rw [← Nat.pow_add]; congr 1; omega
    have q2 : 10 ^ dx = 10 ^ (dy - 1) * 10 ^ (L + 2) := by rw [← Nat.pow_add]; congr 1; omega
    refine ⟨Nat.not_lt.2 ?_, ?_⟩
    · exact Nat.le_trans (Nat.mul_le_mul (Nat.le_of_lt hb2) hp.1) (by rw [← q1]; exact ha1)
    · refine Nat.lt_of_lt_of_le ha2 ?_
      rw [q2]
      exact Nat.mul_le_mul hb1 hp.2
  · obtain ⟨k, hk⟩ : ∃ k : Nat, dy = dx + k := ⟨dy - dx, by omega⟩
    have e1 : (dx : Int) - (dy : Int) - 1 = -((k + 1 : Nat) : Int) := by omega
    rw [e1] at hb
    have hp := bits_neg k (by omega)
    have hb3 := bitsN_neg k
    rw [← hb] at hp hb3
    clear hb hz e1
    have t3 : (-(b - 1)).toNat = (1 - b).toNat := by omega
    have t4 : (b - 1).toNat = 0 := by omega
    unfold scA scB
    rw [t3, t4, Nat.pow_zero, Nat.mul_one]
    clear t3 t4 hb3
    have hN3 := Nat.two_pow_pos (b + 9).toNat
    generalize 2 ^ (1 - b).toNat = N at *
    generalize 2 ^ (-(b + 9)).toNat = N2 at *
    generalize 2 ^ (b + 9).toNat = N3 at *
    have q1 : 10 ^ dy = 10 ^ (dx - 1) * 10 ^ (k + 1) := by rw [← Nat.pow_add]; congr 1; omega
    have q2 : 10 ^ dx * 10 ^ (k + 1) = 10 ^ (dy - 1) * 100 := by rw [show (100 : Nat) = 10 ^ 2 by decide, ← Nat.pow_add, ← Nat.pow_add]; congr 1; omega
    refine ⟨Nat.not_lt.2 ?_, ?_⟩
    · refine Nat.le_trans (Nat.le_of_lt hb2) ?_
      rw [q1]
      exact Nat.mul_le_mul ha1 hp.1
    · have s1 : A * (100 * N2) ≤ A * (10 ^ (k + 1) * N3) := Nat.mul_le_mul_left _ hp.2
      have s2 : A * (10 ^ (k + 1) * N3) < 10 ^ dx * (10 ^ (k + 1) * N3) := Nat.mul_lt_mul_of_pos_right ha2 (Nat.mul_pos (Nat.pow_pos (by decide)) hN3)
      have s3 : 10 ^ dx * (10 ^ (k + 1) * N3) = 100 * (10 ^ (dy - 1) * N3) := by rw [← Nat.mul_assoc, q2, Nat.mul_comm (10 ^ (dy - 1)) 100, Nat.mul_assoc]
      have s4 : 100 * (10 ^ (dy - 1) * N3) ≤ 100 * (B * N3) := Nat.mul_le_mul_left _ (Nat.mul_le_mul_right _ hb1)
      have s5 : A * (100 * N2) = 100 * (A * N2) := by rw [← Nat.mul_assoc, Nat.mul_comm A 100, Nat.mul_assoc]
      omega
end Go.Proofs.YtijifpbpjinmhaaGreatDoor

/- The document's near (34) over numbers, Ulp (25); FloOrders: the law. -/
import Derived.Test.YtijifpbpjinmhaaGreatDoorNearest2
import Derived.Test.YtijifpbpjinmhaaGreatDoorSt2
import Derived.Test.YtijifpbpjinmhaaGreatDoorGcd
import Derived.Test.YtijifpbpjinmhaaGreatDoorWords
import Derived.Test.YtijifpbpjinmhaaGreatDoorShelfB
import Derived.Test.YtijifpbpjinmhaaGreatDoorU1
import Derived.Test.YtijifpbpjinmhaaGreatDoorGcdMath2
import Derived.Test.YtijifpbpjinmhaaGreatDoorRoom
set_option maxHeartbeats 4000000
set_option maxRecDepth 100000
namespace Go.Proofs.YtijifpbpjinmhaaGreatDoor
open Go.RowKit
def P970 : Nat := 2 ^ 970
theorem P970_is : 2 ^ 970 = P970 := by delta P970; exact Eq.refl _
theorem read_tenth (w : World) : Calls Tryz.prog 71 #[.agg #[.string ⟨#[49]⟩, .string ⟨#[49, 48]⟩]] w fun r w' => ∃ b a1 l1 c1 a2 l2 c2, r = .returned (.tuple #[.agg #[.bool b, .slice a1 l1 c1, .slice a2 l2 c2], .bool true]) ∧ Below w.heap.size w w' := by
  refine (read_ok ⟨#[49]⟩ ⟨#[49, 48]⟩ false 1 10 w (by decide +kernel) (by decide +kernel) (by decide +kernel) (by decide +kernel) (by decide) (by decide) (by decide)).mono ?_
  rintro e w' ⟨v, rfl, hv, hb⟩
  obtain ⟨b, a1, l1, c1, a2, l2, c2, rfl⟩ := hv.form
  exact ⟨_, _, _, _, _, _, _, rfl, hb⟩
theorem right_tenth (w : World) : Calls Tryz.prog 29 #[.agg #[.string ⟨#[49]⟩, .string ⟨#[49, 48]⟩]] w fun r w' => r = .returned (.bool true) ∧ Below w.heap.size w w' := by
  obtain ⟨V, hV⟩ : ∃ V, V = w.alloc (.cells #[.string ⟨#[49]⟩, .string ⟨#[49, 48]⟩] 23) := ⟨_, rfl⟩
  have HN : Hid (OwnU V w.heap.size 23 #[.string ⟨#[49]⟩, .string ⟨#[49, 48]⟩]) := by rw [hV]; exact OwnU.new _ _ _
  have HB : Hid (Below w.heap.size w V) := by rw [hV]; exact (Below.refl _ _).alloc (Nat.le_refl _) _
  have HV := hide hV
  clear hV
  go_enter Tryz.func29, Tryz.ntmps29
  go_upto_region 1 with fail
  rw [← unhide HV]
  clear HV
  have t0 : V.cell? ⟨w.heap.size, 0, none⟩ = some (.string ⟨#[49]⟩) := (unhide HN).ub.c 0 _ rfl
  have t1 : V.cell? ⟨w.heap.size, 1, none⟩ = some (.string ⟨#[49, 48]⟩) := (unhide HN).ub.c 1 _ rfl
  go_upto_region 2 with (go_at_call 71; go_must (refine (read_tenth _).mono ?_; rintro e w1 ⟨bz, az, lz, cz, dz, mz, ez, rfl, hb1⟩; have HB1 := hide ((unhide HB).trans (hb1.mono (unhide HB).size)); clear hb1 t0 t1))
  go_wp2_with fail
  go_ret
  exact ⟨rfl, (unhide HB1).alloc (unhide HB1).size _⟩
theorem big_one (w : World) : Calls Tryz.prog 32 #[.string ⟨#[49]⟩] w fun e w' => ∃ a l c, e = .returned (.agg #[.slice a l c]) ∧ IsBig w' (.agg #[.slice a l c]) 1 ∧ Below w.heap.size w w' := by
  refine (bigText_any ⟨#[49]⟩ w (by decide) (by unfold Cub.digs; decide)).mono ?_
  rintro e w' ⟨v, rfl, hv, hb⟩
  obtain ⟨a, n, c, rfl⟩ := hv.shape
  rw [show Cub.dval (⟨#[49]⟩ : ByteArray).data.toList = 1 by decide] at hv
  exact ⟨a, n, c, rfl, hv, hb⟩
theorem big_ten (w : World) : Calls Tryz.prog 32 #[.string ⟨#[49, 48]⟩] w fun e w' => ∃ a l c, e = .returned (.agg #[.slice a l c]) ∧ IsBig w' (.agg #[.slice a l c]) 10 ∧ Below w.heap.size w w' := by
  refine (bigText_any ⟨#[49, 48]⟩ w (by decide) (by unfold Cub.digs; decide)).mono ?_
  rintro e w' ⟨v, rfl, hv, hb⟩
  obtain ⟨a, n, c, rfl⟩ := hv.shape
  rw [show Cub.dval (⟨#[49, 48]⟩ : ByteArray).data.toList = 10 by decide] at hv
  exact ⟨a, n, c, rfl, hv, hb⟩
theorem nearestTo_tenth (a1 : Option Addr) (l1 c1 : Nat) (a2 : Option Addr) (l2 c2 : Nat) (w : World) (hp : IsBig w (.agg #[.slice a1 l1 c1]) 1) (hq : IsBig w (.agg #[.slice a2 l2 c2]) 10) (htab : Tab w) :
    Calls Tryz.prog 31 #[.bool false, .agg #[.slice a1 l1 c1, .slice a2 l2 c2]] w fun e w' => e = .returned (.tuple #[.float .f64 4591870180066957722, .int .i64 0]) ∧ Below w.heap.size w w' := by
  have hta : ∀ W, Below w.heap.size w W → Tab W := fun W hb => htab.later hb
  have HTAB := hide hta
  have hlim : (1 : Nat) < 1000000000 ^ 50 ∧ 18014398509481983 < 1000000000 ^ 50 ∧ P970 < 1000000000 ^ 50 ∧ 1 < 1000000000 ^ 100 ∧ 10 < 1000000000 ^ 100 ∧ 18014398509481983 * P970 < 1000000000 ^ 100 ∧ 1 * 1 < 1000000000 ^ 100 ∧ 2 < 1000000000 ^ 50 := by decide +kernel
  have HLIM := hide hlim
  have hc : Cub.cmpN (1 * (1 * 1)) (18014398509481983 * P970 * 10) = -1 := by decide +kernel
  have HC := hide hc
  have HTW := hide (fun W => twoToP 970 P970 50 (by decide) P970_is (by decide) (by decide) (unhide HLIM).2.2.1 (unhide HLIM).2.2.2.2.2.2.2 W)
  obtain ⟨V, hV⟩ : ∃ V, V = (w.alloc (.cells #[.slice a1 l1 c1, .slice a2 l2 c2] 54)) := ⟨_, rfl⟩
  have HS0 : Hid (St w [(w.heap.size, 54, #[.slice a1 l1 c1, .slice a2 l2 c2])] [(.agg #[.slice a2 l2 c2], 10), (.agg #[.slice a1 l1 c1], 1)] V) := by rw [hV]; have h := ((((St.nil (Below.refl _ w)).push hp).push hq).new #[.slice a1 l1 c1, .slice a2 l2 c2] 54); (try simp only [World.size_alloc] at h); exact h
  have HV := hide hV
  clear hV hp hq htab hta hlim hc
  go_enter Tryz.func31, Tryz.ntmps31
  go_upto_region 1 with fail
  rw [← unhide HV]
  clear HV
  generalize P970 = P at *
  go_upto_region 2 with (first
    | (have hchk := HS4; clear hchk; refine storeT 54 2 info59 rfl (.tmp 6) (.tmp 11) rfl U4.heap.size #[.slice none 0 0, .slice none 0 0] #[.slice a8 l8 c8, .slice a9 l9 c9] rfl rfl rfl rfl (OwnU.new _ _ _) (by kernel_rfl) ?_)
    | (have hchk := HS3; clear hchk; go_at_call 47; go_must (refine (times_any _ _ _ _ _ _ _ _ _ _ _ _ 18014398509481983 1 P 1 50 _ ((unhide HS3).bgt 3 rfl) ((unhide HS3).bgt 2 rfl) ((unhide HS3).bgt 1 rfl) ((unhide HS3).bgt 0 rfl) (by decide) (unhide HLIM).2.1 (unhide HLIM).1 (unhide HLIM).2.2.1 (unhide HLIM).1).mono ?_; rintro e U4 ⟨_, rfl, ⟨a8, l8, c8, a9, l9, c9, rfl, hv1, hv2⟩, hb⟩; have HS4 := hide ((((unhide HS3).later hb).push hv1).push hv2); clear HS3; clear hv1 hv2 hb))
    | (have hchk := HS2; clear hchk; go_at_call 74; go_must (refine (unhide HTW _).mono ?_; rintro e U3 ⟨_, rfl, ⟨a6, l6, c6, a7, l7, c7, rfl, hv1, hv2⟩, hb⟩; have HS3 := hide ((((unhide HS2).later hb).push hv1).push hv2); clear HS2; clear hv1 hv2 hb))
    | (have hchk := HS1; clear hchk; go_at_call 46; go_must (refine (whole_any _ _ _ 18014398509481983 _ ((unhide HS1).bgt 0 rfl)).mono ?_; rintro e U2 ⟨_, rfl, ⟨a4, l4, c4, a5, l5, c5, rfl, hv1, hv2⟩, hb⟩; have HS2 := hide ((((unhide HS1).later hb).push hv1).push hv2); clear HS1; clear hv1 hv2 hb))
    | (have hchk := HS0; clear hchk; go_at_call 73; go_must (refine (bigOf_any 18014398509481983 _ (by decide)).mono ?_; rintro e U1 ⟨a3, l3, c3, rfl, hv, hb⟩; have HS1 := hide (((unhide HS0).later hb).push hv); clear HS0; clear hv hb)))
  have HS5 := hide ((unhide HS4).new #[.slice none 0 0, .slice none 0 0] 54)
  clear HS4
  generalize U4.alloc (.cells #[.slice none 0 0, .slice none 0 0] 54) = U5 at *
  generalize U4.heap.size = g6 at *
  have HS6 := hide (((unhide HS5)).set (nz2 _ _ _ _ _ _) #[.slice a8 l8 c8, .slice a9 l9 c9])
  clear HS5
  generalize U5.setRow g6 #[.slice a8 l8 c8, .slice a9 l9 c9] = U6 at *
  have u0 := ((unhide HS6).at 1 rfl).ub.c 0 _ rfl
  have u1 := ((unhide HS6).at 1 rfl).ub.c 1 _ rfl
  have u2 := ((unhide HS6).at 0 rfl).ub.c 0 _ rfl
  have u3 := ((unhide HS6).at 0 rfl).ub.c 1 _ rfl
  go_upto_region 4 with (have hchk := HS6; clear hchk; go_at_call 75; go_must (refine (szcmp_any _ _ _ _ _ _ _ _ _ _ _ _ 1 10 (18014398509481983 * P) (1 * 1) 100 _ ((unhide HS6).bgt 8 rfl) ((unhide HS6).bgt 7 rfl) ((unhide HS6).bgt 1 rfl) ((unhide HS6).bgt 0 rfl) (by decide) (unhide HLIM).2.2.2.1 (unhide HLIM).2.2.2.2.1 (unhide HLIM).2.2.2.2.2.1 (unhide HLIM).2.2.2.2.2.2.1).mono ?_; rintro e U7 ⟨rfl, hb⟩; have HS7 := hide ((unhide HS6).later hb); clear HS6; clear hb u0 u1 u2 u3; rw [unhide HC]))
  have u0 := ((unhide HS7).at 1 rfl).ub.c 0 _ rfl
  have u1 := ((unhide HS7).at 1 rfl).ub.c 1 _ rfl
  go_wp2_with (have hchk := HS7; clear hchk; go_at_call 76; go_must (refine (nearest_tenth _ _ _ _ _ _ _ ((unhide HS7).bgt 8 rfl) ((unhide HS7).bgt 7 rfl) (unhide HTAB _ (unhide HS7).below)).mono ?_; rintro e U8 ⟨rfl, hb⟩; have HS8 := hide ((unhide HS7).later hb); clear HS7; clear hb u0 u1))
  exact bodyPost_ret (v := .tuple #[.float .f64 4591870180066957722, .int .i64 0]) (by simp [results, Tryz.results31, go_sem]) rfl ⟨rfl, (unhide HS8).below⟩
theorem cutP (w : World) : Calls Tryz.prog 30 #[.string ⟨#[49]⟩, .string ⟨#[45]⟩] w fun e w' => e = .returned (.tuple #[.string ⟨#[49]⟩, .bool false]) ∧ w' = w := Tryz.strings_CutPrefix ⟨#[49]⟩ ⟨#[45]⟩ w
theorem near_tenth (w : World) (htab : Tab w) : Calls Tryz.prog 10 #[.agg #[.string ⟨#[49]⟩, .string ⟨#[49, 48]⟩]] w fun e w' => e = .returned (.tuple #[.float .f64 4591870180066957722, .int .i64 0]) ∧ Below w.heap.size w w' := by
  have hta : ∀ W, Below w.heap.size w W → Tab W := fun W hb => htab.later hb
  have HTAB := hide hta
  obtain ⟨V, hV⟩ : ∃ V, V = (w.alloc (.cells #[.string ⟨#[49]⟩, .string ⟨#[49, 48]⟩] 23)) := ⟨_, rfl⟩
  have HS0 : Hid (St w [(w.heap.size, 23, #[.string ⟨#[49]⟩, .string ⟨#[49, 48]⟩])] [] V) := by rw [hV]; have h := ((St.nil (Below.refl _ w)).new #[.string ⟨#[49]⟩, .string ⟨#[49, 48]⟩] 23); (try simp only [World.size_alloc] at h); exact h
  have HV := hide hV
  clear hV htab hta
  go_enter Tryz.func10, Tryz.ntmps10
  go_upto_region 1 with fail
  rw [← unhide HV]
  clear HV
  have u0 := ((unhide HS0).at 0 rfl).ub.c 0 _ rfl
  have u1 := ((unhide HS0).at 0 rfl).ub.c 1 _ rfl
  go_upto_region 3 with (have hchk := HS0; clear hchk; go_at_call 29; go_must (refine (right_tenth _).mono ?_; rintro e U1 ⟨rfl, hb⟩; have HS1 := hide ((unhide HS0).later hb); clear HS0; clear hb u0 u1))
  have u0 := ((unhide HS1).at 0 rfl).ub.c 0 _ rfl
  go_upto_region 4 with (go_at_call 30; go_must (refine (cutP _).mono ?_; rintro e ww ⟨rfl, hw⟩; have hw2 := hw.symm; subst hw2; clear hw))
  clear u0
  refine region_reads 11 (fun _ => True) (fun W' => W'.cell? ⟨w.heap.size, 1, none⟩ = some (.string ⟨#[49, 48]⟩)) 12 rfl (by kernel_rfl) ?_
  have HS2 := hide ((unhide HS1).later ((Below.refl _ _).drew))
  clear HS1
  generalize U1.drew = X0 at *
  refine wpR_take7 (i := 0) (oi := _) (v := .bool false) rfl (by kernel_rfl) (by kernel_rfl) (by kernel_rfl) (by kernel_rfl) (fun _ _ _ h => h) (Or.inl ⟨by rfl, ?_⟩) ⟨trivial, ((unhide HS2).at 0 rfl).ub.c 1 _ rfl⟩ ?_
  · intro W' hW
    go_simp
  refine wpR_take7 (i := 1) (oi := _) (v := .string ⟨#[49]⟩) rfl (by kernel_rfl) (by kernel_rfl) (by kernel_rfl) (by kernel_rfl) (fun _ _ _ h => h) (Or.inl ⟨by rfl, ?_⟩) ⟨trivial, ((unhide HS2).at 0 rfl).ub.c 1 _ rfl⟩ ?_
  · intro W' hW
    go_simp
  refine wpR_take7 (i := 3) (oi := _) (v := .pointer (some ⟨w.heap.size, 1, none⟩)) rfl (by kernel_rfl) (by kernel_rfl) (by kernel_rfl) (by kernel_rfl) (fun _ _ _ h => h) (Or.inl ⟨by rfl, ?_⟩) ⟨trivial, ((unhide HS2).at 0 rfl).ub.c 1 _ rfl⟩ ?_
  · intro W' hW
    go_simp
  refine wpR_take7 (i := 4) (oi := _) (v := .string ⟨#[49, 48]⟩) rfl (by kernel_rfl) (by kernel_rfl) (by kernel_rfl) (by kernel_rfl) (fun _ _ _ h => h) (Or.inl ⟨by rfl, ?_⟩) ⟨trivial, ((unhide HS2).at 0 rfl).ub.c 1 _ rfl⟩ ?_
  · intro W' hW
    go_simp
  refine wpR_op (i := 2) (o := _) (by kernel_rfl) rfl rfl (fun K hK => ?_)
  go_simp
  refine (big_one _).mono ?_
  rintro e X1 ⟨a1, l1, c1, rfl, hv, hb⟩
  have HS3 := hide (((unhide HS2).later hb).push hv)
  clear HS2
  clear hv hb
  refine hK _ _ ⟨trivial, ((unhide HS3).at 0 rfl).ub.c 1 _ rfl⟩ ?_
  clear hK K
  refine wpR_op (i := 5) (o := _) (by kernel_rfl) rfl rfl (fun K hK => ?_)
  go_simp
  refine (big_ten _).mono ?_
  rintro e X2 ⟨a2, l2, c2, rfl, hv, hb⟩
  have HS4 := hide (((unhide HS3).later hb).push hv)
  clear HS3
  clear hv hb
  refine hK _ _ ⟨trivial, ((unhide HS4).at 0 rfl).ub.c 1 _ rfl⟩ ?_
  clear hK K
  refine wpR_op (i := 6) (o := _) (by kernel_rfl) rfl rfl (fun K hK => ?_)
  go_simp
  refine hK _ _ ⟨trivial, ((unhide HS4).at 0 rfl).ub.c 1 _ rfl⟩ ?_
  clear hK K
  refine wpR_op (i := 7) (o := _) (by kernel_rfl) rfl rfl (fun K hK => ?_)
  go_simp
  refine (nearestTo_tenth _ _ _ _ _ _ _ ((unhide HS4).bgt 1 rfl) ((unhide HS4).bgt 0 rfl) (unhide HTAB _ (unhide HS4).below)).mono ?_
  rintro e X3 ⟨rfl, hb⟩
  have HS5 := hide ((unhide HS4).later hb)
  clear HS4
  clear hb
  refine hK _ _ ⟨trivial, ((unhide HS5).at 0 rfl).ub.c 1 _ rfl⟩ ?_
  clear hK K
  refine wpR_take7 (i := 8) (oi := _) (v := .float .f64 4591870180066957722) rfl (by kernel_rfl) (by kernel_rfl) (by kernel_rfl) (by kernel_rfl) (fun _ _ _ h => h) (Or.inl ⟨by rfl, ?_⟩) ⟨trivial, ((unhide HS5).at 0 rfl).ub.c 1 _ rfl⟩ ?_
  · intro W' hW
    go_simp
  refine wpR_take7 (i := 9) (oi := _) (v := .int .i64 0) rfl (by kernel_rfl) (by kernel_rfl) (by kernel_rfl) (by kernel_rfl) (fun _ _ _ h => h) (Or.inl ⟨by rfl, ?_⟩) ⟨trivial, ((unhide HS5).at 0 rfl).ub.c 1 _ rfl⟩ ?_
  · intro W' hW
    go_simp
  refine wpR_op (i := 10) (o := _) (by kernel_rfl) rfl rfl (fun K hK => ?_)
  go_simp
  refine hK _ _ ⟨trivial, ((unhide HS5).at 0 rfl).ub.c 1 _ rfl⟩ ?_
  clear hK K
  refine wpR_late (i := 11) (o := _) (by kernel_rfl) rfl rfl (by kernel_rfl) (fun K hK => ?_)
  go_simp
  refine hK _ _ (((unhide HS5).at 0 rfl).ub.c 1 _ rfl) ?_
  clear hK K
  refine wpR_done (by kernel_rfl) ?_
  go_wp2_with fail
  exact bodyPost_ret (v := .tuple #[.float .f64 4591870180066957722, .int .i64 0]) (by simp [results, Tryz.results10, go_sem]) rfl ⟨rfl, (unhide HS5).below⟩
end Go.Proofs.YtijifpbpjinmhaaGreatDoor
namespace Go.Proofs.YtijifpbpjinmhaaGreatDoor
open Go.RowKit Go.Maps Go.ChangeMaps Go.WideMaps
attribute [local go_sem] run_bits run_from
theorem signbit_tenth (w : World) : Calls Tryz.prog 57 #[.float .f64 4591870180066957722] w fun e w' => e = .returned (.bool false) ∧ w' = w := by
  go_enter Tryz.func57, Tryz.ntmps57
  go_wp2
  go_ret
  exact ⟨rfl, rfl⟩
theorem keyOf_string_inv {P : Program} {k : TypeId} (hk : P.underlying k = some .string) {key : Value} {kl : Lit} (h : keyOf P k key = some kl) : ∃ s, key = .string s := by
  cases key <;> simp [keyOf, hk, mapKey] at h
  exact ⟨_, rfl⟩
theorem order_word (b : Nat) (h : b = 9221120237041090561 ∨ b = 9218868437227405312 ∨ b = 18442240474082181120) (w : World) : Calls Tryz.prog 20 #[.float .f64 4591870180066957722, .float .f64 b] w fun e w' => ∃ q : Int, q ≠ 0 ∧ e = .returned (.int .i64 q) ∧ w' = w := by
  have hb : b < 18446744073709551616 ∧ Cub.cmpN (rk 4591870180066957722) (rk b) ≠ 0 := by
    rcases h with rfl | rfl | rfl <;> decide +kernel
  refine (order_any 4591870180066957722 b (by decide) hb.1 w).mono ?_
  rintro e w' ⟨rfl, hw⟩
  exact ⟨_, hb.2, rfl, hw⟩
theorem word_left {kl : Lit} {v : Value} {y : DataW Unit × List MemPlace} (h1 : Maps.has (wD 3) kl = true) (h2 : wR v = some y) (h3 : ∀ zd, (wD 3).atKey kl zd = y.1) : ∃ b : Nat, v = .float .f64 b ∧ (b = 9221120237041090561 ∨ b = 9218868437227405312 ∨ b = 18442240474082181120) := by
  obtain ⟨d, ps⟩ := y
  have e := h3 (.map [])
  have hd : d = .lit (.int .i64 9221120237041090561) ∨ d = .lit (.int .i64 9218868437227405312) ∨ d = .lit (.int .i64 18442240474082181120) := by
    rcases wD_at kl (.map []) h1 with h | h | h
    · exact Or.inl (e.symm.trans h)
    · exact Or.inr (Or.inl (e.symm.trans h))
    · exact Or.inr (Or.inr (e.symm.trans h))
  clear e h3 h1
  rcases hd with rfl | rfl | rfl
  · obtain ⟨b, rfl, hb⟩ := wR_inv h2
    exact ⟨b, rfl, Or.inl (by omega)⟩
  · obtain ⟨b, rfl, hb⟩ := wR_inv h2
    exact ⟨b, rfl, Or.inr (Or.inl (by omega))⟩
  · obtain ⟨b, rfl, hb⟩ := wR_inv h2
    exact ⟨b, rfl, Or.inr (Or.inr (by omega))⟩
theorem text_tenth (w : World) (htab : Tab w) : Calls Tryz.prog 18 #[.float .f64 4591870180066957722] w fun r w' => r = .returned (.string ⟨#[48, 46, 49]⟩) ∧ Below w.heap.size w w' := by
  have HTAB := hide htab
  clear htab
  obtain ⟨g, hg⟩ : ∃ g, g = w.heap.size := ⟨_, rfl⟩
  have HG0 : Hid (g = w.heap.size) := hg
  clear hg
  have HW : Hid (Calls Tryz.prog 43 #[] w fun r w' => r = .returned (.map (some g)) ∧ w'.ownsMap Tryz.prog 9 wR g 3 (wD 3) ∧ Below w.heap.size w w') := by rw [unhide HG0]; exact words_any w
  have HS : Hid (∀ W, Below w.heap.size w W → Calls Tryz.prog 56 #[.float .f64 4591870180066957722] W fun e w' => e = .returned (.tuple #[.string ⟨#[49]⟩, .int .i64 0]) ∧ Below W.heap.size W w') := fun W hW => shortest_hi W ((unhide HTAB).later hW)
  go_enter Tryz.func18, Tryz.ntmps18
  go_wp2_with (first
    | (go_at_call 43; go_must (refine (unhide HW).mono ?_; rintro e w1 ⟨rfl, hown, hb⟩; have HO := hide hown; have HB := hide hb; clear hown hb))
    | (at_range; refine wpList_range_own _ rfl _ 70 rfl 9 24 (string_keyed Tryz.underlying9) underM wR g 3 (wD 3) rfl (unhide HO) ?_; intro w3 hrg hgr hsz; go_frame))
  have HRG : Hid (w3.ranges Tryz.prog 9 wR g w1.heap.size 3 (wD 3) (Maps.has (wD 3)) (Maps.size (wD 3))) := hrg
  have HB3 : Hid (Below w.heap.size w w3 ∧ w1.heap.size < w3.heap.size) := ⟨(unhide HB).grown hgr (unhide HB).size (fun j hj => by cases hj), by omega⟩
  clear hrg hgr hsz
  go_loopw [3, 4] (fun _ _ wr => ∃ (left : Lit → Bool) (cnt : Nat), Hid (wr.ranges Tryz.prog 9 wR g w1.heap.size 3 (wD 3) left cnt) ∧ Hid (∀ kl, left kl = true → Maps.has (wD 3) kl = true) ∧ Hid (Below w.heap.size w wr)) (fun _ _ wr => wr.rangeLeft g w1.heap.size)
  case atStart => exact ⟨_, _, HRG, fun _ h => h, (unhide HB3).1⟩
  case round =>
    obtain ⟨left, cnt, HG, HL, HBr⟩ := hrel
    go_wp2_with (at_next; go_loud (refine wpList_next_ranges _ rfl _ rfl 9 (string_keyed Tryz.underlying9) wR (fun x : ByteArray => .string x) (fun v : Value => v) (fun key kl h => keyOf_string_inv Tryz.underlying9 h) (fun v y _ => ⟨v, rfl⟩) g w1.heap.size 3 (wD 3) left cnt rfl (unhide HG) ?_ ?_))
    · intro _ hl0
      clear hl0 HL HG
      go_wp2_with (first
        | (go_at_call 56; go_must (refine (unhide HS _ (unhide HBr)).mono ?_; rintro e w5 ⟨rfl, hb⟩; have HB5 := hide ((unhide HBr).trans (hb.mono (unhide HBr).size)); clear hb))
        | (go_at_call 55; go_must (refine (laid_one _).mono ?_; rintro e w6 ⟨rfl, hw6⟩; have hw7 := hw6.symm; subst hw7; clear hw6))
        | (go_at_call 57; go_must (refine (signbit_tenth _).mono ?_; rintro e w6 ⟨rfl, hw6⟩; have hw7 := hw6.symm; subst hw7; clear hw6)))
      go_ret
      exact ⟨rfl, unhide HB5⟩
    · intro x v kl d ps w4 cnt4 hkx hlx hv hat hrg4 hlt hg4 hs4 hen
      obtain ⟨b, rfl, hb3⟩ := word_left (y := (d, ps)) ((unhide HL) kl hlx) hv hat
      have HB4 : Hid (Below w.heap.size w w4) := (unhide HBr).grown hg4 (unhide HBr).size (fun j hj => by cases hj; exact (unhide HB).size)
      have HORD : Hid (∀ W, Calls Tryz.prog 20 #[.float .f64 4591870180066957722, .float .f64 b] W fun e w' => ∃ q : Int, q ≠ 0 ∧ e = .returned (.int .i64 q) ∧ w' = W) := order_word b hb3
      have HG4 := hide hrg4
      have HLT : Hid (cnt4 < cnt) := hlt
      have HL1 : Hid (∀ z, (left z && !z.sameKey kl) = true → Maps.has (wD 3) z = true) := fun z h => (unhide HL) z (by simp at h; exact h.1)
      clear hrg4 hlt hkx hlx hv hat hg4 hs4 hb3
      go_wp2_with (go_at_call 20; go_must (refine (unhide HORD _).mono ?_; rintro e w6 ⟨q, hq, rfl, hw6⟩; have hw7 := hw6.symm; subst hw7; clear hw6))
      go_roundw
      case rel => exact ⟨_, _, HG4, HL1, HB4⟩
      case measure => rw [(unhide HG4).left_eq, (unhide HG).left_eq]; exact unhide HLT
/-- The law's known answers. -/
theorem known_ok (w : World) (htab : Tab w) : Calls Tryz.prog 13 #[] w fun r w' => r = .returned (.bool true) ∧ Below w.heap.size w w' := by
  have HN : Hid (Calls Tryz.prog 10 #[.agg #[.string ⟨#[49]⟩, .string ⟨#[49, 48]⟩]] w fun e w' => e = .returned (.tuple #[.float .f64 4591870180066957722, .int .i64 0]) ∧ Below w.heap.size w w') := near_tenth w htab
  have HT : Hid (∀ W, Below w.heap.size w W → Calls Tryz.prog 18 #[.float .f64 4591870180066957722] W fun r w' => r = .returned (.string ⟨#[48, 46, 49]⟩) ∧ Below W.heap.size W w') := fun W hW => text_tenth W (htab.later hW)
  have HO : Hid (∀ W, Calls Tryz.prog 20 #[.float .f64 4607182418800017408, .float .f64 4611686018427387904] W fun e w' => e = .returned (.int .i64 (-1)) ∧ w' = W) := fun W => by
    have h : Cub.cmpN (rk 4607182418800017408) (rk 4611686018427387904) = -1 := by decide +kernel
    rw [← h]
    exact order_any _ _ (by decide) (by decide) W
  clear htab
  go_enter Tryz.func13, Tryz.ntmps13
  go_wp2_with (first
    | (go_at_call 10; go_must (refine (unhide HN).mono ?_; rintro e w1 ⟨rfl, hb⟩; have HB := hide hb; clear hb))
    | (go_at_call 18; go_must (refine (unhide HT _ (unhide HB)).mono ?_; rintro e w2 ⟨rfl, hb⟩; have HB2 := hide ((unhide HB).trans (hb.mono (unhide HB).size)); clear hb))
    | (go_at_call 20; go_must (refine (unhide HO _).mono ?_; rintro e w6 ⟨rfl, hw6⟩; have hw7 := hw6.symm; subst hw7; clear hw6)))
  go_ret
  exact ⟨rfl, unhide HB2⟩
end Go.Proofs.YtijifpbpjinmhaaGreatDoor
namespace Go.Proofs.YtijifpbpjinmhaaGreatDoor
open Go.RowKit
attribute [local go_sem] run_bits run_from
theorem rnd_cases (q r b : Nat) : (Cub.cmpN (r + r) b = 1 ∧ rndB q r b = q + 1) ∨ (Cub.cmpN (r + r) b = 0 ∧ q % 2 = 1 ∧ rndB q r b = q + 1) ∨ (Cub.cmpN (r + r) b = 0 ∧ q % 2 = 0 ∧ rndB q r b = q) ∨ (Cub.cmpN (r + r) b = -1 ∧ rndB q r b = q) := by
  unfold Cub.cmpN rndB
  rcases Nat.lt_trichotomy (r + r) b with h | h | h
  · right; right; right
    exact ⟨if_pos h, if_neg (by omega)⟩
  · rcases Nat.mod_two_eq_zero_or_one q with h2 | h2
    · right; right; left
      exact ⟨by rw [if_neg (by omega), if_neg (by omega)], h2, if_neg (by omega)⟩
    · right; left
      exact ⟨by rw [if_neg (by omega), if_neg (by omega)], h2, if_pos (by omega)⟩
  · left
    exact ⟨by rw [if_neg (by omega), if_pos h], if_pos (Or.inl h)⟩
theorem near_any (s : Bool) (A B D : Nat) (x : Int) (w : World) (h : Rng A B D) (hA : 0 < A) (hB : 0 < B) (hsc : ∀ e : Int, -1074 ≤ e → e ≤ 971 → scA A e < 10 ^ D ∧ scB B e < 10 ^ D) (hi : scA A 5053 < scB B 5053) (hx : SzInv A B x x) :
    Calls Tryz.prog 34 #[.agg #[.bool s, .string (tx A), .string (tx B)]] w fun r w' => r = .returned (nearB (if s then 9223372036854775808 else 0) A B x) ∧ Below w.heap.size w w' := by
  have hb : 0 < scB B x := Nat.mul_pos hB (Nat.two_pow_pos _)
  refine near_core s (tx A) (tx B) (tx (scA A x)) (tx (scB B x)) (tx (scA A x / scB B x)) (tx (scA A x % scB B x)) (tx (scA A x % scB B x + scA A x % scB B x)) x (Cub.cmpN (scA A x % scB B x + scA A x % scB B x) (scB B x)) (scA A x / scB B x) (if s then 9223372036854775808 else 0) _ w rfl (tx_ne A hA) hx.l1 hx.l3 (quot_lt A B x hB hx.hi)
    (fun W => (size_doc s A B D W h hi).mono ?_) (fun hq W => scaled_any s A B D x W h (by have := hx.l1; omega) (by omega)) (fun hq W => ?_) (fun W => number_tx _ W (Nat.lt_trans (quot_lt A B x hB hx.hi) (by decide))) (fun hq W => ?_) (fun W => refCompareM _ _ W) _ (rnd_cases _ _ _) rfl
  · rintro e w' ⟨y, he, hy, hb⟩
    exact ⟨by rw [he, sz_one A B y x hy hx], hb⟩
  · exact refDivideM D _ _ W h.d1 h.d (hsc x hx.l1 (by omega)).1 (hsc x hx.l1 (by omega)).2 hb
  · have := Nat.lt_trans (Nat.mod_lt (scA A x) hb) (hsc x hx.l1 (by omega)).2
    exact refPlusM D _ _ W h.d1 h.d this this
def pU (e : Int) : Nat := 2 ^ e.toNat
def qU (e : Int) : Nat := 2 ^ (-e).toNat
theorem sc_pU (e x : Int) : scA (pU e) x = 2 ^ (e.toNat + (-x).toNat) := by unfold scA pU; rw [Nat.pow_add]
theorem sc_qU (e x : Int) : scB (qU e) x = 2 ^ ((-e).toNat + x.toNat) := by unfold scB qU; rw [Nat.pow_add]
theorem lt_two (a b : Nat) (h : a < b) : 2 ^ a < 2 ^ b := Nat.pow_lt_pow_right (by decide) h
theorem le_two (a b : Nat) (h : b ≤ a) : ¬ 2 ^ a < 2 ^ b := Nat.not_lt.2 (Nat.pow_le_pow_right (by decide) h)
def xU (e : Int) : Int := if e < -1022 then -1074 else e - 52
theorem sz_U (e : Int) (h1 : -1074 ≤ e) (h2 : e ≤ 971) : SzInv (pU e) (qU e) (xU e) (xU e) := by
  have hx : xU e = -1074 ∧ e < -1022 ∨ xU e = e - 52 ∧ -1022 ≤ e := by unfold xU; split <;> omega
  refine ⟨?_, ?_, by omega, by omega, by omega⟩
  · rw [sc_pU, sc_qU]; exact lt_two _ _ (by omega)
  · intro y hy hyx
    rw [sc_pU, sc_qU]; exact le_two _ _ (by omega)
theorem near_U (e : Int) (h1 : -1074 ≤ e) (h2 : e ≤ 971) : nearB 0 (pU e) (qU e) (xU e) = .tuple #[.int .u64 (u2 e : Nat), .bool true] := by
  have hx : xU e = -1074 ∧ e < -1022 ∨ xU e = e - 52 ∧ -1022 ≤ e := by unfold xU; split <;> omega
  have hb : 0 < scB (qU e) (xU e) := by rw [sc_qU]; exact Nat.two_pow_pos _
  have ha : scA (pU e) (xU e) = scB (qU e) (xU e) * 2 ^ (e - xU e).toNat := by
    rw [sc_pU, sc_qU, ← Nat.pow_add]; congr 1; omega
  have hq : scA (pU e) (xU e) / scB (qU e) (xU e) = 2 ^ (e - xU e).toNat := by rw [ha]; exact Nat.mul_div_cancel_left _ hb
  have hr : scA (pU e) (xU e) % scB (qU e) (xU e) = 0 := by rw [ha]; exact Nat.mul_mod_right _ _
  unfold nearB
  rw [hq, hr, if_neg (by omega)]
  have hn : rndB (2 ^ (e - xU e).toNat) 0 (scB (qU e) (xU e)) = 2 ^ (e - xU e).toNat := by unfold rndB; exact if_neg (by omega)
  rw [hn]
  clear hn hq hr ha hb
  rcases hx with ⟨hx, he⟩ | ⟨hx, he⟩
  · have e1 : (e - xU e).toNat = (e + 1074).toNat := by omega
    have hl : 2 ^ (e + 1074).toNat < 4503599627370496 := by
      have : 2 ^ (e + 1074).toNat < 2 ^ 52 := lt_two _ _ (by omega)
      exact Nat.lt_of_lt_of_le this (by decide)
    have e2 : u2 e = 2 ^ (e + 1074).toNat := if_pos he
    rw [e1, e2, hx]
    generalize 2 ^ (e + 1074).toNat = m at *
    have hne : m ≠ 9007199254740992 := by omega
    unfold packB
    simp only [if_neg hne]
    rw [if_neg (by decide), if_pos hl, Nat.zero_or]
  · have e1 : (2 : Nat) ^ (e - xU e).toNat = 4503599627370496 := by
      rw [show (e - xU e).toNat = 52 by omega]
    have e2 : u2 e = (e + 1023).toNat * 4503599627370496 := if_neg (by omega)
    have e3 : (xU e + 1075).toNat = (e + 1023).toNat := by omega
    rw [e1, e2]
    unfold packB
    simp only [show ¬ (4503599627370496 : Nat) = 9007199254740992 by decide, if_false, e3]
    rw [if_neg (by omega), if_neg (by decide), Nat.zero_or, Nat.sub_self, Nat.or_zero]
theorem rng_U (e : Int) (D : Nat) (hD : D = 4000) (h1 : -1074 ≤ e) (h2 : e ≤ 971) : Rng (pU e) (qU e) D :=
  ⟨by omega, by omega, pow2_lt _ D (by omega), pow2_lt _ D (by omega), fun n _ => pow2_lt n D (by omega)⟩
theorem hsc_U (e : Int) (D : Nat) (hD : D = 4000) (h1 : -1074 ≤ e) (h2 : e ≤ 971) (x : Int) (hx1 : -1074 ≤ x) (hx2 : x ≤ 971) : scA (pU e) x < 10 ^ D ∧ scB (qU e) x < 10 ^ D := by
  rw [sc_pU, sc_qU]
  exact ⟨pow2_lt _ D (by omega), pow2_lt _ D (by omega)⟩
theorem value_U (e : Int) (h1 : -1074 ≤ e) (h2 : e ≤ 971) (w : World) : Calls Tryz.prog 42 #[.int .u64 1, .int .i64 e] w fun r w' => r = .returned (.agg #[.bool false, .string (tx (pU e)), .string (tx (qU e))]) ∧ Below w.heap.size w w' := by
  unfold pU qU
  by_cases hz : 0 ≤ e
  · obtain ⟨n, rfl⟩ : ∃ n : Nat, e = (n : Int) := ⟨e.toNat, by omega⟩
    have h := value_pos 1 n w (by decide) (by omega)
    rw [Nat.one_mul] at h
    rw [show (-(n : Int)).toNat = 0 by omega, show ((n : Int)).toNat = n by omega, Nat.pow_zero, tx_one]
    exact h
  · obtain ⟨n, rfl⟩ : ∃ n : Nat, e = -(n : Int) := ⟨(-e).toNat, by omega⟩
    have h := value_neg 1 n w (by decide) (by decide) (by omega) (by omega)
    rw [Nat.gcd_one_left, Nat.div_one, Nat.div_one] at h
    rw [show (-(n : Int)).toNat = 0 by omega, show (-(-(n : Int))).toNat = n by omega, Nat.pow_zero]
    exact h
theorem near_two (e : Int) (h1 : -1074 ≤ e) (h2 : e ≤ 971) (w : World) : Calls Tryz.prog 34 #[.agg #[.bool false, .string (tx (pU e)), .string (tx (qU e))]] w fun r w' => r = .returned (.tuple #[.int .u64 (u2 e : Nat), .bool true]) ∧ Below w.heap.size w w' := by
  obtain ⟨D, hD⟩ : ∃ D, D = 4000 := ⟨_, rfl⟩
  have h := near_any false (pU e) (qU e) D (xU e) w (rng_U e D hD h1 h2) (Nat.two_pow_pos _) (Nat.two_pow_pos _) (hsc_U e D hD h1 h2) (by rw [sc_pU, sc_qU]; exact lt_two _ _ (by omega)) (sz_U e h1 h2)
  have e0 : (if (false : Bool) = true then 9223372036854775808 else 0 : Nat) = 0 := rfl
  rw [e0, near_U e h1 h2] at h
  exact h
theorem u2_lt (e : Int) (h2 : e ≤ 971) : u2 e < 18446744073709551616 := by
  unfold u2
  split
  · have : 2 ^ (e + 1074).toNat < 2 ^ 52 := lt_two _ _ (by omega)
    exact Nat.lt_trans this (by decide)
  · omega
/-- What the document's Ulp answers. -/
def rulB (b : Nat) : Nat := if nanB b then b else if infB b then 9218868437227405312 else u2 (evB b)
theorem refUlp_any (b : Nat) (hb : b < 18446744073709551616) (w : World) : Calls Tryz.prog 25 #[.float .f64 b] w fun r w' => r = .returned (.float .f64 (rulB b)) ∧ Below w.heap.size w w' := by
  have h2 := order_neq b
  unfold rulB
  by_cases hn : nanB b = true
  · rw [if_pos hn]
    rw [hn] at h2
    go_enter Tryz.func25, Tryz.ntmps25
    go_wp2_with fail
    go_ret
    exact ⟨rfl, Below.refl _ _⟩
  · have hn' : nanB b = false := by simpa using hn
    rw [if_neg hn]
    rw [hn'] at h2
    by_cases hi : infB b = true
    · rw [if_pos hi]
      have hs := sub_run_inf b hi w
      have hz := order_nanC (w.tape w.drawn (.nanBits .f64 b b))
      generalize nanC (w.tape w.drawn (.nanBits .f64 b b)) = c at *
      have HD : Hid (Below w.heap.size w w.drew) := (Below.refl _ _).drew
      generalize w.drew = U at *
      have HI := hide (inf_pos U)
      go_enter Tryz.func25, Tryz.ntmps25
      go_wp2_with (go_at_call 50; refine (unhide HI).mono ?_; rintro e w1 ⟨rfl, hw⟩; obtain rfl : U = w1 := hw.symm)
      go_ret
      exact ⟨rfl, unhide HD⟩
    · have hi' : infB b = false := by simpa using hi
      have hf := fin_of b hn' hi'
      rw [if_neg hi]
      obtain ⟨h1, h3⟩ := fin_ev b hf
      have hs := sub_run b (sub_fin b (of_decide_eq_true hf))
      have hz := self_zero
      have HP := hide (fun W => refParts_any b hb W)
      have HV := hide (fun W => value_U (evB b) h1 h3 W)
      have HN := hide (fun W => near_two (evB b) h1 h3 W)
      have hu : (u2 (evB b) : Int) < 18446744073709551616 := by have := u2_lt (evB b) h3; omega
      have HE : Hid (((u2 (evB b) : Nat) : Int).toNat = u2 (evB b)) := Int.toNat_natCast _
      have HU := hide hu
      generalize decide (9223372036854775808 ≤ b) = sg at *
      generalize u2 (evB b) = u at *
      generalize tx (pU (evB b)) = sp at *
      generalize tx (qU (evB b)) = sq at *
      generalize evB b = e at *
      generalize mvB b = m at *
      clear hf hu h1 h3
      go_enter Tryz.func25, Tryz.ntmps25
      go_wp2_with (first
        | (go_at_call 41; refine (unhide HP _).mono ?_; rintro e w1 ⟨rfl, hw⟩; obtain rfl : w = w1 := hw.symm)
        | (go_at_call 42; refine (unhide HV _).mono ?_; rintro e w2 ⟨rfl, hb2⟩; have HB2 := hide hb2; clear hb2)
        | (go_at_call 34; refine (unhide HN _).mono ?_; rintro e w3 ⟨rfl, hb3⟩; have HB3 : Hid (Below w.heap.size w w3) := (unhide HB2).trans (hb3.mono (unhide HB2).size); clear hb3))
      go_ret
      exact ⟨by simp, unhide HB3⟩
theorem ulp_same (b : Nat) : sameB (ulpB b) (rulB b) = true := by
  unfold ulpB rulB sameB
  cases hn : nanB b
  · cases hi : infB b
    · simp
    · have h := of_decide_eq_true hi
      simp [h]
  · have h2 : nanB (b % 9223372036854775808) = true := by
      unfold nanB at hn ⊢
      rw [Nat.mod_mod]; exact hn
    simp [h2, hn]
theorem same_refl (a : Nat) : sameB a a = true := by unfold sameB; simp
theorem law_orders (a b : Nat) (up : Bool) (ha : a < 18446744073709551616) (hb : b < 18446744073709551616) (w : World) (htab : Tab w) :
    Calls Tryz.prog 6 #[.float .f64 a, .float .f64 b, .bool up] w fun r w' => r = .returned (.bool true) ∧ Below w.heap.size w w' := by
  have HO := hide (fun W => order_any a b ha hb W)
  have HRO := hide (fun W => refOrder_any a b ha hb W)
  have HN := hide (fun W => next_any a up ha W)
  have HRN := hide (fun W => refNext_any a up ha W)
  have HU := hide (fun W => ulp_any a ha W)
  have HRU := hide (fun W => refUlp_any a ha W)
  have HS1 := hide (fun W => same_any (nextF a up) (nextF a up) W)
  rw [same_refl] at HS1
  have HS2 := hide (fun W => same_any (ulpB a) (rulB a) W)
  rw [ulp_same] at HS2
  have HK := hide (fun W (h : Tab W) => known_ok W h)
  have HTW := hide htab
  clear htab
  generalize Cub.cmpN (rk a) (rk b) = c at *
  generalize nextF a up = n at *
  generalize ulpB a = u at *
  generalize rulB a = v at *
  go_enter Tryz.func6, Tryz.ntmps6
  go_wp2_with (first
    | (go_at_call 20; refine (unhide HO _).mono ?_; rintro e w1 ⟨rfl, hw⟩; obtain rfl : w = w1 := hw.symm)
    | (go_at_call 21; refine (unhide HRO _).mono ?_; rintro e w1 ⟨rfl, hw⟩; obtain rfl : w = w1 := hw.symm)
    | (go_at_call 22; refine (unhide HN _).mono ?_; rintro e w1 ⟨rfl, hw⟩; obtain rfl : w = w1 := hw.symm)
    | (go_at_call 23; refine (unhide HRN _).mono ?_; rintro e w1 ⟨rfl, hw⟩; obtain rfl : w = w1 := hw.symm)
    | (go_at_call 24; refine (unhide HU _).mono ?_; rintro e w1 ⟨rfl, hw⟩; obtain rfl : w = w1 := hw.symm)
    | (go_at_call 25; refine (unhide HRU _).mono ?_; rintro e w5 ⟨rfl, hb5⟩; have HB5 := hide hb5; clear hb5)
    | (go_at_call_of 12 (Value.float FloatKind.f64 n); refine (unhide HS1 _).mono ?_; rintro e w1 ⟨rfl, hw⟩; obtain rfl : w = w1 := hw.symm)
    | (go_at_call 12; refine (unhide HS2 _).mono ?_; rintro e w6 ⟨rfl, hw⟩; obtain rfl : w5 = w6 := hw.symm)
    | (go_at_call 13; refine (unhide HK _ ((unhide HTW).later (unhide HB5))).mono ?_; rintro e w7 ⟨rfl, hb7⟩; have HB7 : Hid (Below w.heap.size w w7) := (unhide HB5).trans (hb7.mono (unhide HB5).size); clear hb7))
  go_ret
  exact ⟨rfl, unhide HB7⟩
end Go.Proofs.YtijifpbpjinmhaaGreatDoor

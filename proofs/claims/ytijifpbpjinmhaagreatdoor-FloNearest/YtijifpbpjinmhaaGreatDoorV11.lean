/- floor (174) over every number: its calls as they are, the power of two and the join handed in. -/
import Derived.Test.YtijifpbpjinmhaaGreatDoorV6
import Derived.Test.YtijifpbpjinmhaaGreatDoorV1
set_option maxHeartbeats 4000000
set_option maxRecDepth 100000
namespace Go.Proofs.YtijifpbpjinmhaaGreatDoor
open Go.RowKit
theorem nlim (p q : Nat) (hp6 : p < 10 ^ 600) (hq6 : q < 10 ^ 600) : (1 : Nat) < 1000000000 ^ 50 ∧ 18014398509481983 < 1000000000 ^ 50 ∧ P970 < 1000000000 ^ 50 ∧ p < 1000000000 ^ 100 ∧ q < 1000000000 ^ 100 ∧ 18014398509481983 * P970 < 1000000000 ^ 100 ∧ 1 * 1 < 1000000000 ^ 100 ∧ 2 < 1000000000 ^ 50 := by
  have h0 : (1 : Nat) < 1000000000 ^ 50 ∧ 18014398509481983 < 1000000000 ^ 50 ∧ P970 < 1000000000 ^ 50 ∧ 18014398509481983 * P970 < 1000000000 ^ 100 ∧ 1 * 1 < 1000000000 ^ 100 ∧ 2 < 1000000000 ^ 50 := by decide +kernel
  have h6 := pow600
  have h7 : 1000000000 ^ 67 ≤ 1000000000 ^ 100 := Nat.pow_le_pow_right (by decide) (by decide)
  exact ⟨h0.1, h0.2.1, h0.2.2.1, Nat.lt_of_lt_of_le hp6 (Nat.le_trans h6 h7), Nat.lt_of_lt_of_le hq6 (Nat.le_trans h6 h7), h0.2.2.2.1, h0.2.2.2.2.1, h0.2.2.2.2.2⟩
attribute [local go_sem] run_bits run_from
theorem copysign_neg (f : Nat) (hf : f < 9223372036854775808) (w : World) : Calls Tryz.prog 77 #[.float .f64 f, .float .f64 13830554455654793216] w fun e w' => e = .returned (.float .f64 (f + 9223372036854775808)) ∧ w' = w := by
  have h1 := andNot_top f (by omega)
  rw [Nat.mod_eq_of_lt hf] at h1
  have h2 : bits BinOp.and IntKind.u64 13830554455654793216 9223372036854775808 = 9223372036854775808 := by decide +kernel
  have h3 := u64_or_nat f 9223372036854775808 (by omega) (by decide)
  have h4 : f ||| 9223372036854775808 = f + 9223372036854775808 := by
    rw [Nat.or_comm]
    have := Nat.two_pow_add_eq_or_of_lt (i := 63) hf 1
    simpa [Nat.add_comm] using this.symm
  rw [h4] at h3
  have h5 : (bits BinOp.or IntKind.u64 (f : Int) 9223372036854775808).toNat = f + 9223372036854775808 := by
    have e : ((9223372036854775808 : Nat) : Int) = 9223372036854775808 := rfl
    rw [← e, h3]; exact Int.toNat_natCast _
  clear h3 h4
  go_enter Tryz.func77, Tryz.ntmps77
  go_wp2
  go_ret
  exact ⟨by simp, rfl⟩
theorem nearestTo_inf (a1 : Option Addr) (l1 c1 : Nat) (a2 : Option Addr) (l2 c2 : Nat) (b : Bool) (p q : Nat) (c : Int) (w : World) (hp : IsBig w (.agg #[.slice a1 l1 c1]) p) (hq : IsBig w (.agg #[.slice a2 l2 c2]) q) (hp6 : p < 10 ^ 600) (hq6 : q < 10 ^ 600) (htab : Tab w) (hc : Cub.cmpN (p * (1 * 1)) (18014398509481983 * P970 * q) = c) (hc0 : 0 ≤ c) :
    Calls Tryz.prog 31 #[.bool b, .agg #[.slice a1 l1 c1, .slice a2 l2 c2]] w fun e w' => e = .returned (.tuple #[.float .f64 0, .int .i64 31]) ∧ Below w.heap.size w w' := by
  have hta : ∀ W, Below w.heap.size w W → Tab W := fun W hb => htab.later hb
  have HTAB := hide hta
  have hlim := nlim p q hp6 hq6
  have HLIM := hide hlim
  have HC := hide hc
  have HTW := hide (fun W => twoToP 970 P970 50 (by decide) P970_is (by decide) (by decide) (unhide HLIM).2.2.1 (unhide HLIM).2.2.2.2.2.2.2 W)
  obtain ⟨V, hV⟩ : ∃ V, V = (w.alloc (.cells #[.slice a1 l1 c1, .slice a2 l2 c2] 54)) := ⟨_, rfl⟩
  have HS0 : Hid (St w [(w.heap.size, 54, #[.slice a1 l1 c1, .slice a2 l2 c2])] [(.agg #[.slice a2 l2 c2], q), (.agg #[.slice a1 l1 c1], p)] V) := by rw [hV]; have h := ((((St.nil (Below.refl _ w)).push hp).push hq).new #[.slice a1 l1 c1, .slice a2 l2 c2] 54); (try simp only [World.size_alloc] at h); exact h
  have HV := hide hV
  clear hV hp hq htab hta hlim hc hp6 hq6
  go_enter Tryz.func31, Tryz.ntmps31
  go_upto_region 1 with fail
  rw [← unhide HV]
  clear HV
  generalize P970 = P at *
  go_upto_region 2 with (first
    | (have hchk := HS4; clear hchk; refine storeT 54 2 info59 rfl (.tmp 6) (.tmp 11) rfl U4.heap.size #[.slice none 0 0, .slice none 0 0] #[.slice a8 l8 c8, .slice a9 l9 c9] rfl rfl rfl rfl (OwnU.new _ _ _) (by kernel_rfl) ?_)
    | (have hchk := HS3; clear hchk; go_at_call 47; go_must (refine (times_any _ _ _ _ _ _ _ _ _ _ _ _ 18014398509481983 1 P 1 50 _ ((unhide HS3).bgt 3 rfl) ((unhide HS3).bgt 2 rfl) ((unhide HS3).bgt 1 rfl) ((unhide HS3).bgt 0 rfl) (by decide) (unhide HLIM).2.1 (unhide HLIM).1 (unhide HLIM).2.2.1 (unhide HLIM).1).mono ?_; rintro e U4 ⟨_, rfl, ⟨a8, l8, c8, a9, l9, c9, rfl, hv1, hv2⟩, hb⟩; have HS4 := hide ((((unhide HS3).later hb).push hv1).push hv2); clear HS3; clear hv1 hv2 hb))
    | (have hchk := HS2; clear hchk; go_at_call 74; go_must (refine (unhide HTW _).mono ?_; rintro e U3 ⟨_, rfl, ⟨a6, l6, c6, a7, l7, c7, rfl, hv1, hv2⟩, hb⟩; have HS3 := hide ((((unhide HS2).later hb).push hv1).push hv2); clear HS2; clear hv1 hv2 hb))
    | (have hchk := HS1; clear hchk; go_at_call 46; go_must (refine (whole_any _ _ _ 18014398509481983 _ ((unhide HS1).bgt 0 rfl)).mono ?_; rintro e U2 ⟨_, rfl, ⟨a4, l4, c4, a5, l5, c5, rfl, hv1, hv2⟩, hb⟩; have HS2 := hide ((((unhide HS1).later hb).push hv1).push hv2); clear HS1; clear hv1 hv2 hb))
    | (have hchk := HS0; clear hchk; go_at_call 73; go_must (refine (bigOf_any 18014398509481983 _ (by decide)).mono ?_; rintro e U1 ⟨a3, l3, c3, rfl, hv, hb⟩; have HS1 := hide (((unhide HS0).later hb).push hv); clear HS0; clear hv hb)))
  have HS5 := hide ((unhide HS4).new #[.slice none 0 0, .slice none 0 0] 54)
  clear HS4
  generalize U4.alloc (.cells #[.slice none 0 0, .slice none 0 0] 54) = U5 at *
  generalize U4.heap.size = g6 at *
  have HS6 := hide (((unhide HS5)).set (nz2 _ _ _ _ _ _) #[.slice a8 l8 c8, .slice a9 l9 c9])
  clear HS5
  generalize U5.setRow g6 #[.slice a8 l8 c8, .slice a9 l9 c9] = U6 at *
  have u0 := ((unhide HS6).at 1 rfl).ub.c 0 _ rfl
  have u1 := ((unhide HS6).at 1 rfl).ub.c 1 _ rfl
  have u2 := ((unhide HS6).at 0 rfl).ub.c 0 _ rfl
  have u3 := ((unhide HS6).at 0 rfl).ub.c 1 _ rfl
  go_upto_region 4 with (have hchk := HS6; clear hchk; go_at_call 75; go_must (refine (szcmp_any _ _ _ _ _ _ _ _ _ _ _ _ p q (18014398509481983 * P) (1 * 1) 100 _ ((unhide HS6).bgt 8 rfl) ((unhide HS6).bgt 7 rfl) ((unhide HS6).bgt 1 rfl) ((unhide HS6).bgt 0 rfl) (by decide) (unhide HLIM).2.2.2.1 (unhide HLIM).2.2.2.2.1 (unhide HLIM).2.2.2.2.2.1 (unhide HLIM).2.2.2.2.2.2.1).mono ?_; rintro e U7 ⟨rfl, hb⟩; have HS7 := hide ((unhide HS6).later hb); clear HS6; clear hb u0 u1 u2 u3; rw [unhide HC]))
  clear HC
  go_wp2_with fail
  exact bodyPost_ret (v := .tuple #[.float .f64 0, .int .i64 31]) (by simp [results, Tryz.results31, go_sem]) rfl ⟨rfl, (unhide HS7).below⟩
theorem nearestTo_fin (a1 : Option Addr) (l1 c1 : Nat) (a2 : Option Addr) (l2 c2 : Nat) (b : Bool) (p q : Nat) (f : Nat) (w : World) (hp : IsBig w (.agg #[.slice a1 l1 c1]) p) (hq : IsBig w (.agg #[.slice a2 l2 c2]) q) (hp6 : p < 10 ^ 600) (hq6 : q < 10 ^ 600) (htab : Tab w) (hc : Cub.cmpN (p * (1 * 1)) (18014398509481983 * P970 * q) = -1)
    (HN : ∀ W : World, IsBig W (.agg #[.slice a1 l1 c1]) p → IsBig W (.agg #[.slice a2 l2 c2]) q → Tab W → Calls Tryz.prog 76 #[.agg #[.slice a1 l1 c1, .slice a2 l2 c2]] W fun e w' => e = .returned (.float .f64 f) ∧ Below W.heap.size W w') (hf : f < 9223372036854775808) :
    Calls Tryz.prog 31 #[.bool b, .agg #[.slice a1 l1 c1, .slice a2 l2 c2]] w fun e w' => e = .returned (.tuple #[.float .f64 (if b then f + 9223372036854775808 else f), .int .i64 0]) ∧ Below w.heap.size w w' := by
  have hta : ∀ W, Below w.heap.size w W → Tab W := fun W hb => htab.later hb
  have HTAB := hide hta
  have hlim := nlim p q hp6 hq6
  have HLIM := hide hlim
  have HC := hide hc
  have HTW := hide (fun W => twoToP 970 P970 50 (by decide) P970_is (by decide) (by decide) (unhide HLIM).2.2.1 (unhide HLIM).2.2.2.2.2.2.2 W)
  obtain ⟨V, hV⟩ : ∃ V, V = (w.alloc (.cells #[.slice a1 l1 c1, .slice a2 l2 c2] 54)) := ⟨_, rfl⟩
  have HS0 : Hid (St w [(w.heap.size, 54, #[.slice a1 l1 c1, .slice a2 l2 c2])] [(.agg #[.slice a2 l2 c2], q), (.agg #[.slice a1 l1 c1], p)] V) := by rw [hV]; have h := ((((St.nil (Below.refl _ w)).push hp).push hq).new #[.slice a1 l1 c1, .slice a2 l2 c2] 54); (try simp only [World.size_alloc] at h); exact h
  have HV := hide hV
  have GN := hide HN
  clear hV HN hp hq htab hta hlim hc hp6 hq6
  go_enter Tryz.func31, Tryz.ntmps31
  go_upto_region 1 with fail
  rw [← unhide HV]
  clear HV
  generalize P970 = P at *
  go_upto_region 2 with (first
    | (have hchk := HS4; clear hchk; refine storeT 54 2 info59 rfl (.tmp 6) (.tmp 11) rfl U4.heap.size #[.slice none 0 0, .slice none 0 0] #[.slice a8 l8 c8, .slice a9 l9 c9] rfl rfl rfl rfl (OwnU.new _ _ _) (by kernel_rfl) ?_)
    | (have hchk := HS3; clear hchk; go_at_call 47; go_must (refine (times_any _ _ _ _ _ _ _ _ _ _ _ _ 18014398509481983 1 P 1 50 _ ((unhide HS3).bgt 3 rfl) ((unhide HS3).bgt 2 rfl) ((unhide HS3).bgt 1 rfl) ((unhide HS3).bgt 0 rfl) (by decide) (unhide HLIM).2.1 (unhide HLIM).1 (unhide HLIM).2.2.1 (unhide HLIM).1).mono ?_; rintro e U4 ⟨_, rfl, ⟨a8, l8, c8, a9, l9, c9, rfl, hv1, hv2⟩, hb⟩; have HS4 := hide ((((unhide HS3).later hb).push hv1).push hv2); clear HS3; clear hv1 hv2 hb))
    | (have hchk := HS2; clear hchk; go_at_call 74; go_must (refine (unhide HTW _).mono ?_; rintro e U3 ⟨_, rfl, ⟨a6, l6, c6, a7, l7, c7, rfl, hv1, hv2⟩, hb⟩; have HS3 := hide ((((unhide HS2).later hb).push hv1).push hv2); clear HS2; clear hv1 hv2 hb))
    | (have hchk := HS1; clear hchk; go_at_call 46; go_must (refine (whole_any _ _ _ 18014398509481983 _ ((unhide HS1).bgt 0 rfl)).mono ?_; rintro e U2 ⟨_, rfl, ⟨a4, l4, c4, a5, l5, c5, rfl, hv1, hv2⟩, hb⟩; have HS2 := hide ((((unhide HS1).later hb).push hv1).push hv2); clear HS1; clear hv1 hv2 hb))
    | (have hchk := HS0; clear hchk; go_at_call 73; go_must (refine (bigOf_any 18014398509481983 _ (by decide)).mono ?_; rintro e U1 ⟨a3, l3, c3, rfl, hv, hb⟩; have HS1 := hide (((unhide HS0).later hb).push hv); clear HS0; clear hv hb)))
  have HS5 := hide ((unhide HS4).new #[.slice none 0 0, .slice none 0 0] 54)
  clear HS4
  generalize U4.alloc (.cells #[.slice none 0 0, .slice none 0 0] 54) = U5 at *
  generalize U4.heap.size = g6 at *
  have HS6 := hide (((unhide HS5)).set (nz2 _ _ _ _ _ _) #[.slice a8 l8 c8, .slice a9 l9 c9])
  clear HS5
  generalize U5.setRow g6 #[.slice a8 l8 c8, .slice a9 l9 c9] = U6 at *
  have u0 := ((unhide HS6).at 1 rfl).ub.c 0 _ rfl
  have u1 := ((unhide HS6).at 1 rfl).ub.c 1 _ rfl
  have u2 := ((unhide HS6).at 0 rfl).ub.c 0 _ rfl
  have u3 := ((unhide HS6).at 0 rfl).ub.c 1 _ rfl
  go_upto_region 4 with (have hchk := HS6; clear hchk; go_at_call 75; go_must (refine (szcmp_any _ _ _ _ _ _ _ _ _ _ _ _ p q (18014398509481983 * P) (1 * 1) 100 _ ((unhide HS6).bgt 8 rfl) ((unhide HS6).bgt 7 rfl) ((unhide HS6).bgt 1 rfl) ((unhide HS6).bgt 0 rfl) (by decide) (unhide HLIM).2.2.2.1 (unhide HLIM).2.2.2.2.1 (unhide HLIM).2.2.2.2.2.1 (unhide HLIM).2.2.2.2.2.2.1).mono ?_; rintro e U7 ⟨rfl, hb⟩; have HS7 := hide ((unhide HS6).later hb); clear HS6; clear hb u0 u1 u2 u3; rw [unhide HC]))
  clear HC
  have u0 := ((unhide HS7).at 1 rfl).ub.c 0 _ rfl
  have u1 := ((unhide HS7).at 1 rfl).ub.c 1 _ rfl
  have HCS := hide (fun W => copysign_neg f hf W)
  cases b
  · go_wp2_with (have hchk := HS7; clear hchk; go_at_call 76; go_must (refine (unhide GN _ ((unhide HS7).bgt 8 rfl) ((unhide HS7).bgt 7 rfl) (unhide HTAB _ (unhide HS7).below)).mono ?_; rintro e U8 ⟨rfl, hb⟩; have HS8 := hide ((unhide HS7).later hb); clear HS7; clear hb u0 u1))
    exact bodyPost_ret (v := .tuple #[.float .f64 f, .int .i64 0]) (by simp [results, Tryz.results31, go_sem]) rfl ⟨rfl, (unhide HS8).below⟩
  · go_wp2_with (first
      | (have hchk := HS7; clear hchk; go_at_call 76; go_must (refine (unhide GN _ ((unhide HS7).bgt 8 rfl) ((unhide HS7).bgt 7 rfl) (unhide HTAB _ (unhide HS7).below)).mono ?_; rintro e U8 ⟨rfl, hb⟩; have HS8 := hide ((unhide HS7).later hb); clear HS7; clear hb u0 u1))
      | (go_at_call 77; refine (unhide HCS _).mono ?_; rintro e w9 ⟨rfl, hw⟩; obtain rfl : U8 = w9 := hw.symm))
    exact bodyPost_ret (v := .tuple #[.float .f64 (f + 9223372036854775808), .int .i64 0]) (by simp [results, Tryz.results31, go_sem]) rfl ⟨rfl, (unhide HS8).below⟩
end Go.Proofs.YtijifpbpjinmhaaGreatDoor
namespace Go.Proofs.YtijifpbpjinmhaaGreatDoor
open Go.RowKit
attribute [local go_sem] run_bits run_from
theorem join_any (m t : Nat) (hm : m < 9007199254740992) (ht : t ≤ 2045) (w : World) : Calls Tryz.prog 208 #[.int .u64 (m : Nat), .int .i64 ((t : Int) - 1074)] w fun e w' => e = .returned (.float .f64 (t * 4503599627370496 + m)) ∧ w' = w := by
  have hmI : (m : Int) < 9007199254740992 := by omega
  have htI : (t : Int) ≤ 2045 := by omega
  go_enter Tryz.func208, Tryz.ntmps208
  go_wp2
  go_ret
  exact ⟨by simp, rfl⟩
/-- About the bits of a size, by its digits: what (size).bits answers. -/
def bitsN (z : Int) : Int := if z < 0 then z * 3402 / 1024 + 1 else z * 3401 / 1024 + 1
theorem bits_any (a1 : Option Addr) (l1 c1 : Nat) (a2 : Option Addr) (l2 c2 : Nat) (p q k x y : Nat) (w : World) (hp : IsBig w (.agg #[.slice a1 l1 c1]) p) (hq : IsBig w (.agg #[.slice a2 l2 c2]) q) (hk : k ≤ 500000) (hpl : p < 1000000000 ^ k) (hql : q < 1000000000 ^ k) (hl1 : Lib.nDigits p = x) (hl2 : Lib.nDigits q = y) (hx : (x : Int) ≤ 1000) (hy : (y : Int) ≤ 1000) :
    Calls Tryz.prog 206 #[.agg #[.slice a1 l1 c1, .slice a2 l2 c2]] w fun r w' => r = .returned (.int .i64 (bitsN ((x : Int) - (y : Int) - 1))) ∧ Below w.heap.size w w' := by
  obtain ⟨V, hV⟩ : ∃ V, V = (w.alloc (.cells #[.slice a1 l1 c1, .slice a2 l2 c2] 54)) := ⟨_, rfl⟩
  have HS0 : Hid (St w [(w.heap.size, 54, #[.slice a1 l1 c1, .slice a2 l2 c2])] [(.agg #[.slice a2 l2 c2], q), (.agg #[.slice a1 l1 c1], p)] V) := by rw [hV]; have h := ((((St.nil (Below.refl _ w)).push hp).push hq).new #[.slice a1 l1 c1, .slice a2 l2 c2] 54); (try simp only [World.size_alloc] at h); exact h
  have HV := hide hV
  have HK := hide hk
  have HPL := hide hpl
  have HQL := hide hql
  have HL1 := hide hl1
  have HL2 := hide hl2
  clear hV hp hq hk hpl hql hl1 hl2
  go_enter Tryz.func206, Tryz.ntmps206
  have hk6 : k ≤ 1000000 := by have := unhide HK; omega
  have HK6 := hide hk6
  clear hk6
  go_upto_region 1 with fail
  rw [← unhide HV]
  clear HV
  refine region_reads 8 (fun _ => True) (fun W' => W'.cell? ⟨w.heap.size, 0, none⟩ = some (.slice a1 l1 c1) ∧ W'.cell? ⟨w.heap.size, 1, none⟩ = some (.slice a2 l2 c2)) 9 rfl (by kernel_rfl) ?_
  have HS1 := hide ((unhide HS0).later ((Below.refl _ _).drew))
  clear HS0
  generalize V.drew = U0 at *
  refine wpR_take7 (i := 0) (oi := _) (v := .pointer (some ⟨w.heap.size, 0, none⟩)) rfl (by kernel_rfl) (by kernel_rfl) (by kernel_rfl) (by kernel_rfl) (fun _ _ _ h => h) (Or.inl ⟨by rfl, ?_⟩) ⟨trivial, ⟨((unhide HS1).at 0 rfl).ub.c 0 _ rfl, ((unhide HS1).at 0 rfl).ub.c 1 _ rfl⟩⟩ ?_
  · intro W' hW
    go_split_ands
    go_simp
  refine wpR_take7 (i := 1) (oi := _) (v := .agg #[.slice a1 l1 c1]) rfl (by kernel_rfl) (by kernel_rfl) (by kernel_rfl) (by kernel_rfl) (fun _ _ _ h => h) (Or.inl ⟨by rfl, ?_⟩) ⟨trivial, ⟨((unhide HS1).at 0 rfl).ub.c 0 _ rfl, ((unhide HS1).at 0 rfl).ub.c 1 _ rfl⟩⟩ ?_
  · intro W' hW
    go_split_ands
    go_simp
  refine wpR_take7 (i := 3) (oi := _) (v := .pointer (some ⟨w.heap.size, 1, none⟩)) rfl (by kernel_rfl) (by kernel_rfl) (by kernel_rfl) (by kernel_rfl) (fun _ _ _ h => h) (Or.inl ⟨by rfl, ?_⟩) ⟨trivial, ⟨((unhide HS1).at 0 rfl).ub.c 0 _ rfl, ((unhide HS1).at 0 rfl).ub.c 1 _ rfl⟩⟩ ?_
  · intro W' hW
    go_split_ands
    go_simp
  refine wpR_take7 (i := 4) (oi := _) (v := .agg #[.slice a2 l2 c2]) rfl (by kernel_rfl) (by kernel_rfl) (by kernel_rfl) (by kernel_rfl) (fun _ _ _ h => h) (Or.inl ⟨by rfl, ?_⟩) ⟨trivial, ⟨((unhide HS1).at 0 rfl).ub.c 0 _ rfl, ((unhide HS1).at 0 rfl).ub.c 1 _ rfl⟩⟩ ?_
  · intro W' hW
    go_split_ands
    go_simp
  refine wpR_op (i := 2) (o := _) (by kernel_rfl) rfl rfl (fun K hK => ?_)
  go_simp
  refine (lenB _ p k x _ ((unhide HS1).bgt 1 rfl) (unhide HK6) (unhide HPL) (unhide HL1)).mono ?_
  rintro e U1 ⟨rfl, hb⟩
  have HS2 := hide ((unhide HS1).later hb)
  clear HS1
  clear hb
  refine hK _ _ ⟨trivial, ⟨((unhide HS2).at 0 rfl).ub.c 0 _ rfl, ((unhide HS2).at 0 rfl).ub.c 1 _ rfl⟩⟩ ?_
  clear hK K
  refine wpR_op (i := 5) (o := _) (by kernel_rfl) rfl rfl (fun K hK => ?_)
  go_simp
  refine (lenB _ q k y _ ((unhide HS2).bgt 0 rfl) (unhide HK6) (unhide HQL) (unhide HL2)).mono ?_
  rintro e U2 ⟨rfl, hb⟩
  have HS3 := hide ((unhide HS2).later hb)
  clear HS2
  clear hb
  refine hK _ _ ⟨trivial, ⟨((unhide HS3).at 0 rfl).ub.c 0 _ rfl, ((unhide HS3).at 0 rfl).ub.c 1 _ rfl⟩⟩ ?_
  clear hK K
  have hw1 : IntKind.i64.wrap ((x : Int) - (y : Int)) = (x : Int) - (y : Int) := by rw [IntKind.wrap_i64]; omega
  have hw2 : IntKind.i64.wrap ((x : Int) - (y : Int) - 1) = (x : Int) - (y : Int) - 1 := by rw [IntKind.wrap_i64]; omega
  refine wpR_op (i := 6) (o := _) (by kernel_rfl) rfl rfl (fun K hK => ?_)
  go_simp
  refine hK _ _ ⟨trivial, ⟨((unhide HS3).at 0 rfl).ub.c 0 _ rfl, ((unhide HS3).at 0 rfl).ub.c 1 _ rfl⟩⟩ ?_
  clear hK K
  refine wpR_op (i := 7) (o := _) (by kernel_rfl) rfl rfl (fun K hK => ?_)
  go_simp
  refine hK _ _ ⟨trivial, ⟨((unhide HS3).at 0 rfl).ub.c 0 _ rfl, ((unhide HS3).at 0 rfl).ub.c 1 _ rfl⟩⟩ ?_
  clear hK K
  refine wpR_late (i := 8) (o := _) (by kernel_rfl) rfl rfl (by kernel_rfl) (fun K hK => ?_)
  go_simp
  refine hK _ _ (⟨((unhide HS3).at 0 rfl).ub.c 0 _ rfl, ((unhide HS3).at 0 rfl).ub.c 1 _ rfl⟩) ?_
  clear hK K
  refine wpR_done (by kernel_rfl) ?_
  have hz1 : (x : Int) - (y : Int) - 1 ≤ 1000 := by omega
  have hz2 : -1001 ≤ (x : Int) - (y : Int) - 1 := by omega
  clear hw1 hw2 hx hy
  obtain ⟨z, hz0⟩ : ∃ z : Int, (x : Int) - (y : Int) - 1 = z := ⟨_, rfl⟩
  rw [hz0] at hz1 hz2 ⊢
  have HZ := hide hz0
  clear hz0
  by_cases hz : z < 0
  · have hb : bitsN z = z * 3402 / 1024 + 1 := if_pos hz
    have HBN := hide hb
    clear hb
    go_wp2_with fail
    go_ret
    exact ⟨by rw [unhide HZ, unhide HBN]; rfl, (unhide HS3).below⟩
  · have hb : bitsN z = z * 3401 / 1024 + 1 := if_neg hz
    have HBN := hide hb
    clear hb
    go_wp2_with fail
    go_ret
    exact ⟨by rw [unhide HZ, unhide HBN]; rfl, (unhide HS3).below⟩
end Go.Proofs.YtijifpbpjinmhaaGreatDoor
namespace Go.Proofs.YtijifpbpjinmhaaGreatDoor
open Go.RowKit
theorem bits_posA : (List.range 602).all (fun L => decide (2 ^ ((bitsN (L : Nat)).toNat - 1) ≤ 10 ^ L) && decide (10 ^ (L + 2) ≤ 2 ^ ((bitsN (L : Nat)).toNat + 9))) = true := by decide +kernel
theorem bits_negA : (List.range 603).all (fun k => decide (10 ^ (k + 1) ≤ 2 ^ (1 - bitsN (-((k + 1 : Nat) : Int))).toNat) && decide (100 * 2 ^ (-(bitsN (-((k + 1 : Nat) : Int)) + 9)).toNat ≤ 10 ^ (k + 1) * 2 ^ (bitsN (-((k + 1 : Nat) : Int)) + 9).toNat)) = true := by decide +kernel
theorem bits_pos (L : Nat) (h : L < 602) : 2 ^ ((bitsN (L : Nat)).toNat - 1) ≤ 10 ^ L ∧ 10 ^ (L + 2) ≤ 2 ^ ((bitsN (L : Nat)).toNat + 9) := by
  have := List.all_eq_true.1 bits_posA L (List.mem_range.2 h)
  simpa only [Bool.and_eq_true, decide_eq_true_eq] using this
theorem bits_neg (k : Nat) (h : k < 603) : 10 ^ (k + 1) ≤ 2 ^ (1 - bitsN (-((k + 1 : Nat) : Int))).toNat ∧ 100 * 2 ^ (-(bitsN (-((k + 1 : Nat) : Int)) + 9)).toNat ≤ 10 ^ (k + 1) * 2 ^ (bitsN (-((k + 1 : Nat) : Int)) + 9).toNat := by
  have := List.all_eq_true.1 bits_negA k (List.mem_range.2 h)
  simpa only [Bool.and_eq_true, decide_eq_true_eq] using this
attribute [local go_sem] run_bits run_from
theorem mk_tb' (n : Nat) (h : n < 10 ^ 600) : (⟨(Lib.decDigits n).toArray⟩ : ByteArray) = tb n := by unfold tb; rw [toldText_pos n h]
theorem lt600 (M : Nat) (h : M < 18446744073709551616) : M < 10 ^ 600 := by
  obtain ⟨K, hK⟩ : ∃ K, K = 600 := ⟨_, rfl⟩
  rw [← hK]
  have h2 : (10 : Nat) ^ 20 ≤ 10 ^ K := Nat.pow_le_pow_right (by decide) (by omega)
  have h3 : (18446744073709551616 : Nat) ≤ 10 ^ 20 := by decide +kernel
  exact Nat.lt_of_lt_of_le h (Nat.le_trans h3 h2)
theorem text_m (v : Value) (M : Nat) (w : World) (h : IsBig w v M) (hM : M < 18446744073709551616) (ht : Tab w) : Calls Tryz.prog 39 #[v] w fun e w' => e = .returned (.string (tb M)) ∧ Below w.heap.size w w' := by
  have h3 : (18446744073709551616 : Nat) ≤ 1000000000 ^ 3 := by decide +kernel
  have e := text_any v M 3 w h (by decide) (Nat.lt_of_lt_of_le hM h3) ht
  rwa [mk_tb' M (lt600 M hM)] at e
theorem natInt_m (M : Nat) (w : World) (hM : M < 18446744073709551616) : Calls Tryz.prog 207 #[.string (tb M)] w fun e w' => e = .returned (.tuple #[.int .u64 (M : Nat), .int .i64 0]) ∧ Below w.heap.size w w' := by
  have h6 := lt600 M hM
  refine natInt_ok (tb M) M w (Nat.le_trans (tb_digs M h6).2 (by decide)) (tb_right M h6).1 ?_
  rw [Cub.parse64 _ (by rw [tb_list M h6]; exact Cub.isNat_dec M), (tb_right M h6).2, if_pos (by omega)]
theorem half_nat (M i : Nat) : ((M / 2 ^ i : Nat) : Int) / 2 = ((M / 2 ^ (i + 1) : Nat) : Int) := by
  rw [Nat.pow_succ, ← Nat.div_div_eq_div_mul]; omega
theorem wrap_half (n : Nat) (h : n < 18446744073709551616) : IntKind.u64.wrap ((n : Int) / 2) = (n : Int) / 2 := by rw [IntKind.wrap_u64]; omega
theorem no_ge (n : Nat) (h : n < 9007199254740992) : ((9007199254740992 : Int) ≤ (n : Int)) = False := eq_false (by omega)
theorem half_small (M i : Nat) (hM : M < 18446744073709551616) (h : 9007199254740992 ≤ M / 2 ^ i) : i < 20 := by
  rcases Nat.lt_or_ge i 20 with h2 | h2
  · exact h2
  · exfalso
    have e : M / 2 ^ i ≤ M / 2 ^ 20 := Nat.div_le_div_left (Nat.pow_le_pow_right (by decide) h2) (by decide)
    have e2 : M / 2 ^ 20 < 17592186044416 := by rw [Nat.div_lt_iff_lt_mul (by decide)]; omega
    omega
theorem floor_zero (a1 : Option Addr) (l1 c1 : Nat) (a2 : Option Addr) (l2 c2 : Nat) (w : World) (hp : IsBig w (.agg #[.slice a1 l1 c1]) 0) :
    Calls Tryz.prog 174 #[.agg #[.slice a1 l1 c1, .slice a2 l2 c2]] w fun e w' => e = .returned (.float .f64 0) ∧ Below w.heap.size w w' := by
  obtain ⟨V, hV⟩ : ∃ V, V = (w.alloc (.cells #[.slice a1 l1 c1, .slice a2 l2 c2] 54)) := ⟨_, rfl⟩
  have HS0 : Hid (St w [(w.heap.size, 54, #[.slice a1 l1 c1, .slice a2 l2 c2])] [(.agg #[.slice a1 l1 c1], 0)] V) := by rw [hV]; have h := (((St.nil (Below.refl _ w)).push hp).new #[.slice a1 l1 c1, .slice a2 l2 c2] 54); (try simp only [World.size_alloc] at h); exact h
  have HV := hide hV
  clear hV hp
  go_enter Tryz.func174, Tryz.ntmps174
  go_upto_region 1 with fail
  rw [← unhide HV]
  clear HV
  have u0 := ((unhide HS0).at 0 rfl).ub.c 0 _ rfl
  have u1 := ((unhide HS0).at 0 rfl).ub.c 1 _ rfl
  go_wp2_with (have hchk := HS0; clear hchk; go_at_call 85; go_must (refine (isZero_any _ 0 _ ((unhide HS0).bgt 0 rfl)).mono ?_; rintro e U1 ⟨rfl, hb⟩; have HS1 := hide ((unhide HS0).later hb); clear HS0; clear hb u0 u1))
  go_ret
  exact ⟨rfl, (unhide HS1).below⟩
theorem floor_walk (a1 : Option Addr) (l1 c1 : Nat) (a2 : Option Addr) (l2 c2 : Nat) (p q tn td M : Nat) (b ee : Int) (f : Nat) (w : World) (hp : IsBig w (.agg #[.slice a1 l1 c1]) p) (hq : IsBig w (.agg #[.slice a2 l2 c2]) q) (htab : Tab w)
    (hp0 : (p == 0) = false) (hP1 : p < 1000000000 ^ 100 ∧ q < 1000000000 ^ 100 ∧ tn < 1000000000 ^ 100 ∧ p * tn < 1000000000 ^ 200 ∧ td < 1000000000 ^ 100) (hM : M < 18446744073709551616) (hMq : p * tn / (q * td) = M) (hd0 : 0 < q * td)
    (hb1 : -4000 ≤ b) (hb2 : b ≤ 4000) (hmx : max (b - 52 - 1) (-1074) = ee) (hwe : IntKind.i64.wrap (-ee) = -ee) (he1 : -1074 ≤ ee) (he2 : ee ≤ 4000)
    (HBT : ∀ W : World, IsBig W (.agg #[.slice a1 l1 c1]) p → IsBig W (.agg #[.slice a2 l2 c2]) q → Calls Tryz.prog 206 #[.agg #[.slice a1 l1 c1, .slice a2 l2 c2]] W fun r w' => r = .returned (.int .i64 b) ∧ Below W.heap.size W w')
    (HTW : ∀ W : World, Calls Tryz.prog 74 #[.int .i64 (-ee)] W fun e w' => ∃ v, e = .returned v ∧ IsSz w' v tn td ∧ Below W.heap.size W w')
    (HJ : ∀ i : Nat, M / 2 ^ i < 9007199254740992 → (i = 0 ∨ 9007199254740992 ≤ M / 2 ^ (i - 1)) → ∀ W : World, Calls Tryz.prog 208 #[.int .u64 ((M / 2 ^ i : Nat) : Int), .int .i64 (ee + (i : Int))] W fun e w' => e = .returned (.float .f64 f) ∧ w' = W) :
    Calls Tryz.prog 174 #[.agg #[.slice a1 l1 c1, .slice a2 l2 c2]] w fun e w' => e = .returned (.float .f64 f) ∧ Below w.heap.size w w' := by
  have hta : ∀ W, Below w.heap.size w W → Tab W := fun W hb => htab.later hb
  have HTAB := hide hta
  obtain ⟨V, hV⟩ : ∃ V, V = (w.alloc (.cells #[.slice a1 l1 c1, .slice a2 l2 c2] 54)) := ⟨_, rfl⟩
  have HS0 : Hid (St w [(w.heap.size, 54, #[.slice a1 l1 c1, .slice a2 l2 c2])] [(.agg #[.slice a2 l2 c2], q), (.agg #[.slice a1 l1 c1], p)] V) := by rw [hV]; have h := ((((St.nil (Below.refl _ w)).push hp).push hq).new #[.slice a1 l1 c1, .slice a2 l2 c2] 54); (try simp only [World.size_alloc] at h); exact h
  have HV := hide hV
  have HP1 := hide hP1
  have HM := hide hM
  have HQM := hide hMq
  have HD0 := hide hd0
  have GB := hide HBT
  have GT := hide HTW
  have GJ := hide HJ
  clear hV hp hq htab hP1 hta hM hMq hd0 HBT HTW HJ
  go_enter Tryz.func174, Tryz.ntmps174
  go_upto_region 1 with fail
  rw [← unhide HV]
  clear HV
  have u0 := ((unhide HS0).at 0 rfl).ub.c 0 _ rfl
  have u1 := ((unhide HS0).at 0 rfl).ub.c 1 _ rfl
  go_upto_region 3 with (have hchk := HS0; clear hchk; go_at_call 85; go_must (refine (isZero_any _ p _ ((unhide HS0).bgt 1 rfl)).mono ?_; rintro e U1 ⟨rfl, hb⟩; have HS1 := hide ((unhide HS0).later hb); clear HS0; clear hb u0 u1))
  have u0 := ((unhide HS1).at 0 rfl).ub.c 0 _ rfl
  have u1 := ((unhide HS1).at 0 rfl).ub.c 1 _ rfl
  go_upto_region 4 with (have hchk := HS1; clear hchk; go_at_call 206; go_must (refine (unhide GB _ ((unhide HS1).bgt 1 rfl) ((unhide HS1).bgt 0 rfl)).mono ?_; rintro e U2 ⟨rfl, hb⟩; have HS2 := hide ((unhide HS1).later hb); clear HS1; clear hb u0 u1))
  go_cut [4] from 17 (fun s4 wx => ∃ g4 a5 l5 c5 a6 l6 c6, s4 = .pointer (some ⟨g4, 0, none⟩) ∧ Hid (St w [(g4, 54, #[.slice a5 l5 c5, .slice a6 l6 c6]), (w.heap.size, 54, #[.slice a1 l1 c1, .slice a2 l2 c2])] [(.agg #[.slice a5 l5 c5], p * tn), (.agg #[.slice a6 l6 c6], q * td)] wx))
  case first =>
    refine region_reads 6 (fun _ => True) (fun W' => W'.cell? ⟨w.heap.size, 0, none⟩ = some (.slice a1 l1 c1) ∧ W'.cell? ⟨w.heap.size, 1, none⟩ = some (.slice a2 l2 c2)) 7 rfl (by kernel_rfl) ?_
    have HS3 := hide ((unhide HS2).later ((Below.refl _ _).drew))
    clear HS2
    generalize U2.drew = X0 at *
    refine wpR_take7 (i := 0) (oi := _) (v := .agg #[.slice a1 l1 c1, .slice a2 l2 c2]) rfl (by kernel_rfl) (by kernel_rfl) (by kernel_rfl) (by kernel_rfl) (fun _ _ _ h => h) (Or.inl ⟨by rfl, ?_⟩) ⟨trivial, ⟨((unhide HS3).at 0 rfl).ub.c 0 _ rfl, ((unhide HS3).at 0 rfl).ub.c 1 _ rfl⟩⟩ ?_
    · intro W' hW
      go_split_ands
      go_simp
    refine wpR_take7 (i := 1) (oi := _) (v := .int .i64 ee) rfl (by kernel_rfl) (by kernel_rfl) (by kernel_rfl) (by kernel_rfl) (fun _ _ _ h => h) (Or.inl ⟨by rfl, ?_⟩) ⟨trivial, ⟨((unhide HS3).at 0 rfl).ub.c 0 _ rfl, ((unhide HS3).at 0 rfl).ub.c 1 _ rfl⟩⟩ ?_
    · intro W' hW
      go_split_ands
      go_simp
    refine wpR_take7 (i := 2) (oi := _) (v := .int .i64 (-ee)) rfl (by kernel_rfl) (by kernel_rfl) (by kernel_rfl) (by kernel_rfl) (fun _ _ _ h => h) (Or.inl ⟨by rfl, ?_⟩) ⟨trivial, ⟨((unhide HS3).at 0 rfl).ub.c 0 _ rfl, ((unhide HS3).at 0 rfl).ub.c 1 _ rfl⟩⟩ ?_
    · intro W' hW
      go_split_ands
      go_simp
    refine wpR_two (i := 3) (j := 5) (by kernel_rfl) rfl rfl rfl rfl (fun K hK => ?_) (fun K hK => ?_) 
    · go_simp
      refine (unhide GT _).mono ?_
      rintro e X1 ⟨_, rfl, ⟨a3, l3, c3, a4, l4, c4, rfl, hv1, hv2⟩, hb⟩
      have HS4 := hide ((((unhide HS3).later hb).push hv1).push hv2)
      clear HS3
      clear hv1 hv2 hb
      refine hK _ _ ⟨trivial, ⟨((unhide HS4).at 0 rfl).ub.c 0 _ rfl, ((unhide HS4).at 0 rfl).ub.c 1 _ rfl⟩⟩ ?_
      clear hK K
      refine wpR_two (i := 4) (j := 5) (by kernel_rfl) rfl rfl rfl rfl (fun K hK => ?_) (fun K hK => ?_) 
      · go_simp
        refine (times_any _ _ _ _ _ _ _ _ _ _ _ _ p q tn td 100 _ ((unhide HS4).bgt 3 rfl) ((unhide HS4).bgt 2 rfl) ((unhide HS4).bgt 1 rfl) ((unhide HS4).bgt 0 rfl) (by decide) (unhide HP1).1 (unhide HP1).2.1 (unhide HP1).2.2.1 (unhide HP1).2.2.2.2).mono ?_
        rintro e X2 ⟨_, rfl, ⟨a5, l5, c5, a6, l6, c6, rfl, hv1, hv2⟩, hb⟩
        have HS5 := hide ((((unhide HS4).later hb).push hv2).push hv1)
        clear HS4
        clear hv1 hv2 hb
        refine hK _ _ ⟨trivial, ⟨((unhide HS5).at 0 rfl).ub.c 0 _ rfl, ((unhide HS5).at 0 rfl).ub.c 1 _ rfl⟩⟩ ?_
        clear hK K
        refine wpR_op (i := 5) (o := _) (by kernel_rfl) rfl rfl (fun K hK => ?_)
        go_simp
        have HS6 := hide ((unhide HS5).new #[.slice none 0 0, .slice none 0 0] 54)
        clear HS5
        generalize X2.alloc (.cells #[.slice none 0 0, .slice none 0 0] 54) = X3 at *
        generalize X2.heap.size = g4 at *
        refine hK _ _ ⟨trivial, ⟨((unhide HS6).at 1 rfl).ub.c 0 _ rfl, ((unhide HS6).at 1 rfl).ub.c 1 _ rfl⟩⟩ ?_
        clear hK K
        refine wpR_late (i := 6) (o := _) (by kernel_rfl) rfl rfl (by kernel_rfl) (fun K hK => ?_)
        refine wp_store_row 54 (.tmp 4) (.tmp 21) rfl g4 #[.slice a5 l5 c5, .slice a6 l6 c6] rfl rfl 54 _ ((unhide HS6).at 0 rfl) (by rw [info59]; rfl) rfl (by kernel_rfl) ?_
        have HS7 := hide (((unhide HS6)).set (nz2 _ _ _ _ _ _) #[.slice a5 l5 c5, .slice a6 l6 c6])
        clear HS6
        generalize X3.setRow g4 #[.slice a5 l5 c5, .slice a6 l6 c6] = X4 at *
        refine hK _ _ (⟨((unhide HS7).at 1 rfl).ub.c 0 _ rfl, ((unhide HS7).at 1 rfl).ub.c 1 _ rfl⟩) ?_
        clear hK K
        refine wpR_done (by kernel_rfl) ?_
        go_wp2_with fail
        go_meet
        exact ⟨g4, a5, l5, c5, a6, l6, c6, rfl, hide ((unhide HS7).first 2)⟩
      · go_simp
        have HS5 := hide ((unhide HS4).new #[.slice none 0 0, .slice none 0 0] 54)
        clear HS4
        generalize X1.alloc (.cells #[.slice none 0 0, .slice none 0 0] 54) = X5 at *
        generalize X1.heap.size = g4 at *
        refine hK _ _ ⟨trivial, ⟨((unhide HS5).at 1 rfl).ub.c 0 _ rfl, ((unhide HS5).at 1 rfl).ub.c 1 _ rfl⟩⟩ ?_
        clear hK K
        refine wpR_op (i := 4) (o := _) (by kernel_rfl) rfl rfl (fun K hK => ?_)
        go_simp
        refine (times_any _ _ _ _ _ _ _ _ _ _ _ _ p q tn td 100 _ ((unhide HS5).bgt 3 rfl) ((unhide HS5).bgt 2 rfl) ((unhide HS5).bgt 1 rfl) ((unhide HS5).bgt 0 rfl) (by decide) (unhide HP1).1 (unhide HP1).2.1 (unhide HP1).2.2.1 (unhide HP1).2.2.2.2).mono ?_
        rintro e X6 ⟨_, rfl, ⟨a5, l5, c5, a6, l6, c6, rfl, hv1, hv2⟩, hb⟩
        have HS6 := hide ((((unhide HS5).later hb).push hv2).push hv1)
        clear HS5
        clear hv1 hv2 hb
        refine hK _ _ ⟨trivial, ⟨((unhide HS6).at 1 rfl).ub.c 0 _ rfl, ((unhide HS6).at 1 rfl).ub.c 1 _ rfl⟩⟩ ?_
        clear hK K
        refine wpR_late (i := 6) (o := _) (by kernel_rfl) rfl rfl (by kernel_rfl) (fun K hK => ?_)
        refine wp_store_row 54 (.tmp 4) (.tmp 21) rfl g4 #[.slice a5 l5 c5, .slice a6 l6 c6] rfl rfl 54 _ ((unhide HS6).at 0 rfl) (by rw [info59]; rfl) rfl (by kernel_rfl) ?_
        have HS7 := hide (((unhide HS6)).set (nz2 _ _ _ _ _ _) #[.slice a5 l5 c5, .slice a6 l6 c6])
        clear HS6
        generalize X6.setRow g4 #[.slice a5 l5 c5, .slice a6 l6 c6] = X7 at *
        refine hK _ _ (⟨((unhide HS7).at 1 rfl).ub.c 0 _ rfl, ((unhide HS7).at 1 rfl).ub.c 1 _ rfl⟩) ?_
        clear hK K
        refine wpR_done (by kernel_rfl) ?_
        go_wp2_with fail
        go_meet
        exact ⟨g4, a5, l5, c5, a6, l6, c6, rfl, hide ((unhide HS7).first 2)⟩
    · go_simp
      have HS4 := hide ((unhide HS3).new #[.slice none 0 0, .slice none 0 0] 54)
      clear HS3
      generalize X0.alloc (.cells #[.slice none 0 0, .slice none 0 0] 54) = X8 at *
      generalize X0.heap.size = g4 at *
      refine hK _ _ ⟨trivial, ⟨((unhide HS4).at 1 rfl).ub.c 0 _ rfl, ((unhide HS4).at 1 rfl).ub.c 1 _ rfl⟩⟩ ?_
      clear hK K
      refine wpR_op (i := 3) (o := _) (by kernel_rfl) rfl rfl (fun K hK => ?_)
      go_simp
      refine (unhide GT _).mono ?_
      rintro e X9 ⟨_, rfl, ⟨a3, l3, c3, a4, l4, c4, rfl, hv1, hv2⟩, hb⟩
      have HS5 := hide ((((unhide HS4).later hb).push hv1).push hv2)
      clear HS4
      clear hv1 hv2 hb
      refine hK _ _ ⟨trivial, ⟨((unhide HS5).at 1 rfl).ub.c 0 _ rfl, ((unhide HS5).at 1 rfl).ub.c 1 _ rfl⟩⟩ ?_
      clear hK K
      refine wpR_op (i := 4) (o := _) (by kernel_rfl) rfl rfl (fun K hK => ?_)
      go_simp
      refine (times_any _ _ _ _ _ _ _ _ _ _ _ _ p q tn td 100 _ ((unhide HS5).bgt 3 rfl) ((unhide HS5).bgt 2 rfl) ((unhide HS5).bgt 1 rfl) ((unhide HS5).bgt 0 rfl) (by decide) (unhide HP1).1 (unhide HP1).2.1 (unhide HP1).2.2.1 (unhide HP1).2.2.2.2).mono ?_
      rintro e X10 ⟨_, rfl, ⟨a5, l5, c5, a6, l6, c6, rfl, hv1, hv2⟩, hb⟩
      have HS6 := hide ((((unhide HS5).later hb).push hv2).push hv1)
      clear HS5
      clear hv1 hv2 hb
      refine hK _ _ ⟨trivial, ⟨((unhide HS6).at 1 rfl).ub.c 0 _ rfl, ((unhide HS6).at 1 rfl).ub.c 1 _ rfl⟩⟩ ?_
      clear hK K
      refine wpR_late (i := 6) (o := _) (by kernel_rfl) rfl rfl (by kernel_rfl) (fun K hK => ?_)
      refine wp_store_row 54 (.tmp 4) (.tmp 21) rfl g4 #[.slice a5 l5 c5, .slice a6 l6 c6] rfl rfl 54 _ ((unhide HS6).at 0 rfl) (by rw [info59]; rfl) rfl (by kernel_rfl) ?_
      have HS7 := hide (((unhide HS6)).set (nz2 _ _ _ _ _ _) #[.slice a5 l5 c5, .slice a6 l6 c6])
      clear HS6
      generalize X10.setRow g4 #[.slice a5 l5 c5, .slice a6 l6 c6] = X11 at *
      refine hK _ _ (⟨((unhide HS7).at 1 rfl).ub.c 0 _ rfl, ((unhide HS7).at 1 rfl).ub.c 1 _ rfl⟩) ?_
      clear hK K
      refine wpR_done (by kernel_rfl) ?_
      go_wp2_with fail
      go_meet
      exact ⟨g4, a5, l5, c5, a6, l6, c6, rfl, hide ((unhide HS7).first 2)⟩
  case rest =>
    obtain ⟨g4, a5, l5, c5, a6, l6, c6, rfl, HS0⟩ := hcut
    generalize wc = Y0 at *
    have u0 := ((unhide HS0).at 0 rfl).ub.c 0 _ rfl
    have u1 := ((unhide HS0).at 0 rfl).ub.c 1 _ rfl
    go_upto_region 6 with (have hchk := HS0; clear hchk; go_at_call 161; go_must (refine (divModC _ _ (p * tn) (q * td) M 200 _ ((unhide HS0).bgt 0 rfl) ((unhide HS0).bgt 1 rfl) (by decide) (unhide HP1).2.2.2.1 (unhide HD0) (unhide HQM)).mono ?_; rintro e Y1 ⟨a7, l7, c7, a8, l8, c8, rfl, hv1, hb⟩; have HS1 := hide (((unhide HS0).later hb).push hv1); clear HS0; clear hv1 hb u0 u1))
    have HS2 : Hid (St w [(Y1.heap.size + 1, 51, #[.slice a8 l8 c8]), (Y1.heap.size, 51, #[.slice a7 l7 c7]), (g4, 54, #[.slice a5 l5 c5, .slice a6 l6 c6]), (w.heap.size, 54, #[.slice a1 l1 c1, .slice a2 l2 c2])] [(.agg #[.slice a7 l7 c7], M), (.agg #[.slice a5 l5 c5], p * tn), (.agg #[.slice a6 l6 c6], q * td)] ((Y1.alloc (.cells #[.slice a7 l7 c7] 51)).alloc (.cells #[.slice a8 l8 c8] 51))) := by have h := ((unhide HS1).new #[.slice a7 l7 c7] 51).new #[.slice a8 l8 c8] 51; simp only [World.size_alloc] at h; exact h
    clear HS1
    generalize (Y1.alloc (.cells #[.slice a7 l7 c7] 51)).alloc (.cells #[.slice a8 l8 c8] 51) = Y2 at *
    generalize Y1.heap.size = g5 at *
    have u0 := ((unhide HS2).at 1 rfl).ub.c 0 _ rfl
    go_wp2_with (first
      | (have hchk := HS3; clear hchk; go_at_call 207; go_must (refine (natInt_m M _ (unhide HM)).mono ?_; rintro e Y4 ⟨rfl, hb⟩; have HS4 := hide ((unhide HS3).later hb); clear HS3; clear hb))
      | (have hchk := HS2; clear hchk; go_at_call 39; go_must (refine (text_m _ M _ ((unhide HS2).bgt 0 rfl) (unhide HM) (unhide HTAB _ (unhide HS2).below)).mono ?_; rintro e Y3 ⟨rfl, hb⟩; have HS3 := hide ((unhide HS2).later hb); clear HS2; clear hb u0)))
    go_loopw [7, 3] (fun m e wr => (∃ i : Nat, m = .int .u64 ((M / 2 ^ i : Nat) : Int) ∧ e = .int .i64 (ee + (i : Int)) ∧ Hid (i = 0 ∨ 9007199254740992 ≤ M / 2 ^ (i - 1)) ∧ i ≤ 20) ∧ Hid (Below w.heap.size w wr)) (fun m _ _ => (intOf m).toNat)
    case atStart => exact ⟨⟨0, by simp, by simp, Or.inl rfl, by decide⟩, (unhide HS4).below⟩
    case round =>
      obtain ⟨⟨i, rfl, rfl, HI, hi⟩, HBW⟩ := hrel
      by_cases hlt : M / 2 ^ i < 9007199254740992
      · have GJ2 := hide (unhide GJ i hlt (unhide HI))
        have hltE : ((9007199254740992 : Int) ≤ ((M / 2 ^ i : Nat) : Int)) = False := no_ge _ hlt
        clear GJ hlt
        generalize M / 2 ^ i = mi at *
        go_wp2_with (go_at_call 208; go_must (refine (unhide GJ2 _).mono ?_; rintro e ww ⟨rfl, hw⟩; obtain rfl := hw.symm))
        go_ret
        exact ⟨rfl, unhide HBW⟩
      · have hsm := half_small M i (unhide HM) (by omega)
        have hi2 : (i : Int) ≤ 19 := by omega
        have HI2 : Hid (i + 1 = 0 ∨ 9007199254740992 ≤ M / 2 ^ (i + 1 - 1)) := Or.inr (by rw [Nat.add_sub_cancel]; omega)
        have HH := hide (half_nat M i)
        have HL2 : Hid (M / 2 ^ (i + 1) < M / 2 ^ i) := by have := half_nat M i; exact (by omega : M / 2 ^ (i + 1) < M / 2 ^ i)
        have hge : (9007199254740992 : Int) ≤ ((M / 2 ^ i : Nat) : Int) := by omega
        have hwm : IntKind.u64.wrap (((M / 2 ^ i : Nat) : Int) / 2) = ((M / 2 ^ i : Nat) : Int) / 2 := wrap_half _ (Nat.lt_of_le_of_lt (Nat.div_le_self M (2 ^ i)) (unhide HM))
        clear hlt HI hsm
        generalize hmi : M / 2 ^ i = mi at *
        generalize hmj : M / 2 ^ (i + 1) = mj at *
        clear hmi
        go_wp2_with fail
        go_roundw
        case rel => exact ⟨⟨i + 1, by rw [hmj, ← unhide HH], by simp [Int.add_assoc], HI2, by omega⟩, HBW⟩
        case measure => have := unhide HL2; have := unhide HH; simp only [intOf]; omega
end Go.Proofs.YtijifpbpjinmhaaGreatDoor

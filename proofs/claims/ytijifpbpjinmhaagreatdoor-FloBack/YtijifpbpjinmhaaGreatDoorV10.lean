/- (size).bits is at most nine too small: for all sizes of numbers of 600 digits. -/
import Derived.Test.YtijifpbpjinmhaaGreatDoorWords
import Derived.Test.YtijifpbpjinmhaaGreatDoorV3
set_option maxHeartbeats 4000000
set_option maxRecDepth 100000
namespace Go.Proofs.YtijifpbpjinmhaaGreatDoor
open Go.RowKit
theorem right_of (num den : ByteArray) (c : Bool) (w : World) (HR : ∀ W : World, Calls Tryz.prog 71 #[.agg #[.string num, .string den]] W fun r w' => ∃ b a1 l1 c1 a2 l2 c2, r = .returned (.tuple #[.agg #[.bool b, .slice a1 l1 c1, .slice a2 l2 c2], .bool c]) ∧ Below W.heap.size W w') : Calls Tryz.prog 29 #[.agg #[.string num, .string den]] w fun r w' => r = .returned (.bool c) ∧ Below w.heap.size w w' := by
  obtain ⟨V, hV⟩ : ∃ V, V = w.alloc (.cells #[.string num, .string den] 23) := ⟨_, rfl⟩
  have HN : Hid (OwnU V w.heap.size 23 #[.string num, .string den]) := by rw [hV]; exact OwnU.new _ _ _
  have HB : Hid (Below w.heap.size w V) := by rw [hV]; exact (Below.refl _ _).alloc (Nat.le_refl _) _
  have HV := hide hV
  have HRR := hide HR
  clear hV HR
  go_enter Tryz.func29, Tryz.ntmps29
  go_upto_region 1 with fail
  rw [← unhide HV]
  clear HV
  have t0 : V.cell? ⟨w.heap.size, 0, none⟩ = some (.string num) := (unhide HN).ub.c 0 _ rfl
  have t1 : V.cell? ⟨w.heap.size, 1, none⟩ = some (.string den) := (unhide HN).ub.c 1 _ rfl
  go_upto_region 2 with (go_at_call 71; go_must (refine (unhide HRR _).mono ?_; rintro e w1 ⟨bz, az, lz, cz, dz, mz, ez, rfl, hb1⟩; have HB1 := hide ((unhide HB).trans (hb1.mono (unhide HB).size)); clear hb1 t0 t1))
  go_wp2_with fail
  go_ret
  exact ⟨rfl, (unhide HB1).alloc (unhide HB1).size _⟩
theorem near_of (num den ds : ByteArray) (b : Bool) (n d f : Nat) (er : Int) (w : World) (htab : Tab w) (HR : ∀ W : World, Calls Tryz.prog 29 #[.agg #[.string num, .string den]] W fun r w' => r = .returned (.bool true) ∧ Below W.heap.size W w') (HC : ∀ W : World, Calls Tryz.prog 30 #[.string num, .string ⟨#[45]⟩] W fun e w' => e = .returned (.tuple #[.string ds, .bool b]) ∧ w' = W) (HB1 : ∀ W : World, Calls Tryz.prog 32 #[.string ds] W fun e w' => ∃ a l c, e = .returned (.agg #[.slice a l c]) ∧ IsBig w' (.agg #[.slice a l c]) n ∧ Below W.heap.size W w') (HB2 : ∀ W : World, Calls Tryz.prog 32 #[.string den] W fun e w' => ∃ a l c, e = .returned (.agg #[.slice a l c]) ∧ IsBig w' (.agg #[.slice a l c]) d ∧ Below W.heap.size W w') (HT : ∀ (a1 : Option Addr) (l1 c1 : Nat) (a2 : Option Addr) (l2 c2 : Nat) (W : World), IsBig W (.agg #[.slice a1 l1 c1]) n → IsBig W (.agg #[.slice a2 l2 c2]) d → Tab W → Calls Tryz.prog 31 #[.bool b, .agg #[.slice a1 l1 c1, .slice a2 l2 c2]] W fun e w' => e = .returned (.tuple #[.float .f64 f, .int .i64 er]) ∧ Below W.heap.size W w') : Calls Tryz.prog 10 #[.agg #[.string num, .string den]] w fun e w' => e = .returned (.tuple #[.float .f64 f, .int .i64 er]) ∧ Below w.heap.size w w' := by
  have hta : ∀ W, Below w.heap.size w W → Tab W := fun W hb => htab.later hb
  have HTAB := hide hta
  obtain ⟨V, hV⟩ : ∃ V, V = (w.alloc (.cells #[.string num, .string den] 23)) := ⟨_, rfl⟩
  have HS0 : Hid (St w [(w.heap.size, 23, #[.string num, .string den])] [] V) := by rw [hV]; have h := ((St.nil (Below.refl _ w)).new #[.string num, .string den] 23); (try simp only [World.size_alloc] at h); exact h
  have HV := hide hV
  have GR := hide HR; have GC := hide HC; have GB1 := hide HB1; have GB2 := hide HB2; have GT := hide HT
  clear hV htab hta HR HC HB1 HB2 HT
  go_enter Tryz.func10, Tryz.ntmps10
  go_upto_region 1 with fail
  rw [← unhide HV]
  clear HV
  have u0 := ((unhide HS0).at 0 rfl).ub.c 0 _ rfl
  have u1 := ((unhide HS0).at 0 rfl).ub.c 1 _ rfl
  go_upto_region 3 with (have hchk := HS0; clear hchk; go_at_call 29; go_must (refine (unhide GR _).mono ?_; rintro e U1 ⟨rfl, hb⟩; have HS1 := hide ((unhide HS0).later hb); clear HS0; clear hb u0 u1))
  have u0 := ((unhide HS1).at 0 rfl).ub.c 0 _ rfl
  go_upto_region 4 with (go_at_call 30; go_must (refine (unhide GC _).mono ?_; rintro e ww ⟨rfl, hw⟩; have hw2 := hw.symm; subst hw2; clear hw))
  clear u0
  refine region_reads 11 (fun _ => True) (fun W' => W'.cell? ⟨w.heap.size, 1, none⟩ = some (.string den)) 12 rfl (by kernel_rfl) ?_
  have HS2 := hide ((unhide HS1).later ((Below.refl _ _).drew))
  clear HS1
  generalize U1.drew = X0 at *
  refine wpR_take7 (i := 0) (oi := _) (v := .bool b) rfl (by kernel_rfl) (by kernel_rfl) (by kernel_rfl) (by kernel_rfl) (fun _ _ _ h => h) (Or.inl ⟨by rfl, ?_⟩) ⟨trivial, ((unhide HS2).at 0 rfl).ub.c 1 _ rfl⟩ ?_
  · intro W' hW
    go_simp
  refine wpR_take7 (i := 1) (oi := _) (v := .string ds) rfl (by kernel_rfl) (by kernel_rfl) (by kernel_rfl) (by kernel_rfl) (fun _ _ _ h => h) (Or.inl ⟨by rfl, ?_⟩) ⟨trivial, ((unhide HS2).at 0 rfl).ub.c 1 _ rfl⟩ ?_
  · intro W' hW
    go_simp
  refine wpR_take7 (i := 3) (oi := _) (v := .pointer (some ⟨w.heap.size, 1, none⟩)) rfl (by kernel_rfl) (by kernel_rfl) (by kernel_rfl) (by kernel_rfl) (fun _ _ _ h => h) (Or.inl ⟨by rfl, ?_⟩) ⟨trivial, ((unhide HS2).at 0 rfl).ub.c 1 _ rfl⟩ ?_
  · intro W' hW
    go_simp
  refine wpR_take7 (i := 4) (oi := _) (v := .string den) rfl (by kernel_rfl) (by kernel_rfl) (by kernel_rfl) (by kernel_rfl) (fun _ _ _ h => h) (Or.inl ⟨by rfl, ?_⟩) ⟨trivial, ((unhide HS2).at 0 rfl).ub.c 1 _ rfl⟩ ?_
  · intro W' hW
    go_simp
  refine wpR_op (i := 2) (o := _) (by kernel_rfl) rfl rfl (fun K hK => ?_)
  go_simp
  refine (unhide GB1 _).mono ?_
  rintro e X1 ⟨a1, l1, c1, rfl, hv, hb⟩
  have HS3 := hide (((unhide HS2).later hb).push hv)
  clear HS2
  clear hv hb
  refine hK _ _ ⟨trivial, ((unhide HS3).at 0 rfl).ub.c 1 _ rfl⟩ ?_
  clear hK K
  refine wpR_op (i := 5) (o := _) (by kernel_rfl) rfl rfl (fun K hK => ?_)
  go_simp
  refine (unhide GB2 _).mono ?_
  rintro e X2 ⟨a2, l2, c2, rfl, hv, hb⟩
  have HS4 := hide (((unhide HS3).later hb).push hv)
  clear HS3
  clear hv hb
  refine hK _ _ ⟨trivial, ((unhide HS4).at 0 rfl).ub.c 1 _ rfl⟩ ?_
  clear hK K
  refine wpR_op (i := 6) (o := _) (by kernel_rfl) rfl rfl (fun K hK => ?_)
  go_simp
  refine hK _ _ ⟨trivial, ((unhide HS4).at 0 rfl).ub.c 1 _ rfl⟩ ?_
  clear hK K
  refine wpR_op (i := 7) (o := _) (by kernel_rfl) rfl rfl (fun K hK => ?_)
  go_simp
  have hb1 := (unhide HS4).bgt 1 rfl
  have hb0 := (unhide HS4).bgt 0 rfl
  have hcall := unhide GT a1 l1 c1 a2 l2 c2 X2 hb1 hb0 (unhide HTAB _ (unhide HS4).below)
  clear hb1 hb0
  refine hcall.mono ?_
  clear hcall
  rintro e X3 ⟨rfl, hb⟩
  have HS5 := hide ((unhide HS4).later hb)
  clear HS4
  clear hb
  refine hK _ _ ⟨trivial, ((unhide HS5).at 0 rfl).ub.c 1 _ rfl⟩ ?_
  clear hK K
  refine wpR_take7 (i := 8) (oi := _) (v := .float .f64 f) rfl (by kernel_rfl) (by kernel_rfl) (by kernel_rfl) (by kernel_rfl) (fun _ _ _ h => h) (Or.inl ⟨by rfl, ?_⟩) ⟨trivial, ((unhide HS5).at 0 rfl).ub.c 1 _ rfl⟩ ?_
  · intro W' hW
    go_simp
  refine wpR_take7 (i := 9) (oi := _) (v := .int .i64 er) rfl (by kernel_rfl) (by kernel_rfl) (by kernel_rfl) (by kernel_rfl) (fun _ _ _ h => h) (Or.inl ⟨by rfl, ?_⟩) ⟨trivial, ((unhide HS5).at 0 rfl).ub.c 1 _ rfl⟩ ?_
  · intro W' hW
    go_simp
  refine wpR_op (i := 10) (o := _) (by kernel_rfl) rfl rfl (fun K hK => ?_)
  go_simp
  refine hK _ _ ⟨trivial, ((unhide HS5).at 0 rfl).ub.c 1 _ rfl⟩ ?_
  clear hK K
  refine wpR_late (i := 11) (o := _) (by kernel_rfl) rfl rfl (by kernel_rfl) (fun K hK => ?_)
  go_simp
  refine hK _ _ (((unhide HS5).at 0 rfl).ub.c 1 _ rfl) ?_
  clear hK K
  refine wpR_done (by kernel_rfl) ?_
  go_wp2_with fail
  exact bodyPost_ret (v := .tuple #[.float .f64 f, .int .i64 er]) (by simp [results, Tryz.results10, go_sem]) rfl ⟨rfl, (unhide HS5).below⟩
theorem right_ok (num den : ByteArray) (b : Bool) (n d : Nat) (h : RT num den b n d) (w : World) : Calls Tryz.prog 29 #[.agg #[.string num, .string den]] w fun r w' => r = .returned (.bool true) ∧ Below w.heap.size w w' := by
  refine right_of num den true w (fun W => ?_)
  refine (read_ok num den b n d W h.num h.den h.hn h.hd h.low.sign (by have := h.low.pos; omega) h.low.cop).mono ?_
  rintro e w' ⟨v, rfl, hq, hb⟩
  obtain ⟨b', a1, l1, c1, a2, l2, c2, rfl⟩ := QOf.form hq
  exact ⟨b', a1, l1, c1, a2, l2, c2, rfl, hb⟩
/-- What nearestTo answers at a size. -/
def ToAns (b : Bool) (n d f : Nat) (er : Int) : Prop := ∀ (a1 : Option Addr) (l1 c1 : Nat) (a2 : Option Addr) (l2 c2 : Nat) (W : World), IsBig W (.agg #[.slice a1 l1 c1]) n → IsBig W (.agg #[.slice a2 l2 c2]) d → Tab W → Calls Tryz.prog 31 #[.bool b, .agg #[.slice a1 l1 c1, .slice a2 l2 c2]] W fun e w' => e = .returned (.tuple #[.float .f64 f, .int .i64 er]) ∧ Below W.heap.size W w'
theorem big_tb (n : Nat) (h : n < 10 ^ 600) (w : World) : Calls Tryz.prog 32 #[.string (tb n)] w fun e w' => ∃ a l c, e = .returned (.agg #[.slice a l c]) ∧ IsBig w' (.agg #[.slice a l c]) n ∧ Below w.heap.size w w' := by
  refine (bigText_any (tb n) w (by have := (tb_digs n h).2; omega) (tb_digs n h).1).mono ?_
  rintro e w' ⟨v, rfl, hv, hb⟩
  obtain ⟨a, m, c, rfl⟩ := hv.shape
  rw [(tb_right n h).2] at hv
  exact ⟨a, m, c, rfl, hv, hb⟩
theorem near_ok (num den : ByteArray) (b : Bool) (n d f : Nat) (er : Int) (w : World) (h : RT num den b n d) (htab : Tab w) (ht : ToAns b n d f er) : Calls Tryz.prog 10 #[.agg #[.string num, .string den]] w fun r w' => r = .returned (.tuple #[.float .f64 f, .int .i64 er]) ∧ Below w.heap.size w w' := by
  have e1 : digT num = tb n := by rw [h.num, dig_sT _ _ h.hn]
  have e2 : isNeg num = b := by rw [h.num]; exact neg_sT _ _ h.hn
  refine near_of num den (tb n) b n d f er w htab (fun W => right_ok num den b n d h W) (fun W => ?_) (fun W => big_tb n h.hn W) (fun W => by rw [h.den]; exact big_tb d h.hd W) ht
  have hc := Tryz.strings_CutPrefix num ⟨#[45]⟩ W
  rw [show (⟨#[45]⟩ : ByteArray).data.toList = [45] from rfl, cut_digT, hasPre, e1] at hc
  rw [show (num.data.toList.head? == some 45) = b from e2] at hc
  exact hc
theorem nlim (p q : Nat) (hp6 : p < 10 ^ 600) (hq6 : q < 10 ^ 600) : (1 : Nat) < 1000000000 ^ 50 ∧ 18014398509481983 < 1000000000 ^ 50 ∧ P970 < 1000000000 ^ 50 ∧ p < 1000000000 ^ 100 ∧ q < 1000000000 ^ 100 ∧ 18014398509481983 * P970 < 1000000000 ^ 100 ∧ 1 * 1 < 1000000000 ^ 100 ∧ 2 < 1000000000 ^ 50 := by
  have h0 : (1 : Nat) < 1000000000 ^ 50 ∧ 18014398509481983 < 1000000000 ^ 50 ∧ P970 < 1000000000 ^ 50 ∧ 18014398509481983 * P970 < 1000000000 ^ 100 ∧ 1 * 1 < 1000000000 ^ 100 ∧ 2 < 1000000000 ^ 50 := by decide +kernel
  have h6 := pow600
  have h7 : 1000000000 ^ 67 ≤ 1000000000 ^ 100 := Nat.pow_le_pow_right (by decide) (by decide)
  exact ⟨h0.1, h0.2.1, h0.2.2.1, Nat.lt_of_lt_of_le hp6 (Nat.le_trans h6 h7), Nat.lt_of_lt_of_le hq6 (Nat.le_trans h6 h7), h0.2.2.2.1, h0.2.2.2.2.1, h0.2.2.2.2.2⟩
attribute [local go_sem] run_bits run_from
theorem copysign_neg (f : Nat) (hf : f < 9223372036854775808) (w : World) : Calls Tryz.prog 77 #[.float .f64 f, .float .f64 13830554455654793216] w fun e w' => e = .returned (.float .f64 (f + 9223372036854775808)) ∧ w' = w := by
  have h1 := andNot_top f (by omega)
  rw [Nat.mod_eq_of_lt hf] at h1
  have h2 : bits BinOp.and IntKind.u64 13830554455654793216 9223372036854775808 = 9223372036854775808 := by decide +kernel
  have h3 := u64_or_nat f 9223372036854775808 (by omega) (by decide)
  have h4 : f ||| 9223372036854775808 = f + 9223372036854775808 := by
    rw [Nat.or_comm]
    have := Nat.two_pow_add_eq_or_of_lt (i := 63) hf 1
    simpa [Nat.add_comm] using this.symm
  rw [h4] at h3
  have h5 : (bits BinOp.or IntKind.u64 (f : Int) 9223372036854775808).toNat = f + 9223372036854775808 := by
    have e : ((9223372036854775808 : Nat) : Int) = 9223372036854775808 := rfl
    rw [← e, h3]; exact Int.toNat_natCast _
  clear h3 h4
  go_enter Tryz.func77, Tryz.ntmps77
  go_wp2
  go_ret
  exact ⟨by simp, rfl⟩
theorem nearestTo_fin (a1 : Option Addr) (l1 c1 : Nat) (a2 : Option Addr) (l2 c2 : Nat) (b : Bool) (p q : Nat) (f : Nat) (w : World) (hp : IsBig w (.agg #[.slice a1 l1 c1]) p) (hq : IsBig w (.agg #[.slice a2 l2 c2]) q) (hp6 : p < 10 ^ 600) (hq6 : q < 10 ^ 600) (htab : Tab w) (hc : Cub.cmpN (p * (1 * 1)) (18014398509481983 * P970 * q) = -1)
    (HN : ∀ W : World, IsBig W (.agg #[.slice a1 l1 c1]) p → IsBig W (.agg #[.slice a2 l2 c2]) q → Tab W → Calls Tryz.prog 76 #[.agg #[.slice a1 l1 c1, .slice a2 l2 c2]] W fun e w' => e = .returned (.float .f64 f) ∧ Below W.heap.size W w') (hf : f < 9223372036854775808) :
    Calls Tryz.prog 31 #[.bool b, .agg #[.slice a1 l1 c1, .slice a2 l2 c2]] w fun e w' => e = .returned (.tuple #[.float .f64 (if b then f + 9223372036854775808 else f), .int .i64 0]) ∧ Below w.heap.size w w' := by
  have hta : ∀ W, Below w.heap.size w W → Tab W := fun W hb => htab.later hb
  have HTAB := hide hta
  have hlim := nlim p q hp6 hq6
  have HLIM := hide hlim
  have HC := hide hc
  have HTW := hide (fun W => twoToP 970 P970 50 (by decide) P970_is (by decide) (by decide) (unhide HLIM).2.2.1 (unhide HLIM).2.2.2.2.2.2.2 W)
  obtain ⟨V, hV⟩ : ∃ V, V = (w.alloc (.cells #[.slice a1 l1 c1, .slice a2 l2 c2] 54)) := ⟨_, rfl⟩
  have HS0 : Hid (St w [(w.heap.size, 54, #[.slice a1 l1 c1, .slice a2 l2 c2])] [(.agg #[.slice a2 l2 c2], q), (.agg #[.slice a1 l1 c1], p)] V) := by rw [hV]; have h := ((((St.nil (Below.refl _ w)).push hp).push hq).new #[.slice a1 l1 c1, .slice a2 l2 c2] 54); (try simp only [World.size_alloc] at h); exact h
  have HV := hide hV
  have GN := hide HN
  clear hV HN hp hq htab hta hlim hc hp6 hq6
  go_enter Tryz.func31, Tryz.ntmps31
  go_upto_region 1 with fail
  rw [← unhide HV]
  clear HV
  generalize P970 = P at *
  go_upto_region 2 with (first
    | (have hchk := HS4; clear hchk; refine storeT 54 2 info59 rfl (.tmp 6) (.tmp 11) rfl U4.heap.size #[.slice none 0 0, .slice none 0 0] #[.slice a8 l8 c8, .slice a9 l9 c9] rfl rfl rfl rfl (OwnU.new _ _ _) (by kernel_rfl) ?_)
    | (have hchk := HS3; clear hchk; go_at_call 47; go_must (refine (times_any _ _ _ _ _ _ _ _ _ _ _ _ 18014398509481983 1 P 1 50 _ ((unhide HS3).bgt 3 rfl) ((unhide HS3).bgt 2 rfl) ((unhide HS3).bgt 1 rfl) ((unhide HS3).bgt 0 rfl) (by decide) (unhide HLIM).2.1 (unhide HLIM).1 (unhide HLIM).2.2.1 (unhide HLIM).1).mono ?_; rintro e U4 ⟨_, rfl, ⟨a8, l8, c8, a9, l9, c9, rfl, hv1, hv2⟩, hb⟩; have HS4 := hide ((((unhide HS3).later hb).push hv1).push hv2); clear HS3; clear hv1 hv2 hb))
    | (have hchk := HS2; clear hchk; go_at_call 74; go_must (refine (unhide HTW _).mono ?_; rintro e U3 ⟨_, rfl, ⟨a6, l6, c6, a7, l7, c7, rfl, hv1, hv2⟩, hb⟩; have HS3 := hide ((((unhide HS2).later hb).push hv1).push hv2); clear HS2; clear hv1 hv2 hb))
    | (have hchk := HS1; clear hchk; go_at_call 46; go_must (refine (whole_any _ _ _ 18014398509481983 _ ((unhide HS1).bgt 0 rfl)).mono ?_; rintro e U2 ⟨_, rfl, ⟨a4, l4, c4, a5, l5, c5, rfl, hv1, hv2⟩, hb⟩; have HS2 := hide ((((unhide HS1).later hb).push hv1).push hv2); clear HS1; clear hv1 hv2 hb))
    | (have hchk := HS0; clear hchk; go_at_call 73; go_must (refine (bigOf_any 18014398509481983 _ (by decide)).mono ?_; rintro e U1 ⟨a3, l3, c3, rfl, hv, hb⟩; have HS1 := hide (((unhide HS0).later hb).push hv); clear HS0; clear hv hb)))
  have HS5 := hide ((unhide HS4).new #[.slice none 0 0, .slice none 0 0] 54)
  clear HS4
  generalize U4.alloc (.cells #[.slice none 0 0, .slice none 0 0] 54) = U5 at *
  generalize U4.heap.size = g6 at *
  have HS6 := hide (((unhide HS5)).set (nz2 _ _ _ _ _ _) #[.slice a8 l8 c8, .slice a9 l9 c9])
  clear HS5
  generalize U5.setRow g6 #[.slice a8 l8 c8, .slice a9 l9 c9] = U6 at *
  have u0 := ((unhide HS6).at 1 rfl).ub.c 0 _ rfl
  have u1 := ((unhide HS6).at 1 rfl).ub.c 1 _ rfl
  have u2 := ((unhide HS6).at 0 rfl).ub.c 0 _ rfl
  have u3 := ((unhide HS6).at 0 rfl).ub.c 1 _ rfl
  go_upto_region 4 with (have hchk := HS6; clear hchk; go_at_call 75; go_must (refine (szcmp_any _ _ _ _ _ _ _ _ _ _ _ _ p q (18014398509481983 * P) (1 * 1) 100 _ ((unhide HS6).bgt 8 rfl) ((unhide HS6).bgt 7 rfl) ((unhide HS6).bgt 1 rfl) ((unhide HS6).bgt 0 rfl) (by decide) (unhide HLIM).2.2.2.1 (unhide HLIM).2.2.2.2.1 (unhide HLIM).2.2.2.2.2.1 (unhide HLIM).2.2.2.2.2.2.1).mono ?_; rintro e U7 ⟨rfl, hb⟩; have HS7 := hide ((unhide HS6).later hb); clear HS6; clear hb u0 u1 u2 u3; rw [unhide HC]))
  clear HC
  have u0 := ((unhide HS7).at 1 rfl).ub.c 0 _ rfl
  have u1 := ((unhide HS7).at 1 rfl).ub.c 1 _ rfl
  have HCS := hide (fun W => copysign_neg f hf W)
  cases b
  · go_wp2_with (have hchk := HS7; clear hchk; go_at_call 76; go_must (refine (unhide GN _ ((unhide HS7).bgt 8 rfl) ((unhide HS7).bgt 7 rfl) (unhide HTAB _ (unhide HS7).below)).mono ?_; rintro e U8 ⟨rfl, hb⟩; have HS8 := hide ((unhide HS7).later hb); clear HS7; clear hb u0 u1))
    exact bodyPost_ret (v := .tuple #[.float .f64 f, .int .i64 0]) (by simp [results, Tryz.results31, go_sem]) rfl ⟨rfl, (unhide HS8).below⟩
  · go_wp2_with (first
      | (have hchk := HS7; clear hchk; go_at_call 76; go_must (refine (unhide GN _ ((unhide HS7).bgt 8 rfl) ((unhide HS7).bgt 7 rfl) (unhide HTAB _ (unhide HS7).below)).mono ?_; rintro e U8 ⟨rfl, hb⟩; have HS8 := hide ((unhide HS7).later hb); clear HS7; clear hb u0 u1))
      | (go_at_call 77; refine (unhide HCS _).mono ?_; rintro e w9 ⟨rfl, hw⟩; obtain rfl : U8 = w9 := hw.symm))
    exact bodyPost_ret (v := .tuple #[.float .f64 (f + 9223372036854775808), .int .i64 0]) (by simp [results, Tryz.results31, go_sem]) rfl ⟨rfl, (unhide HS8).below⟩
end Go.Proofs.YtijifpbpjinmhaaGreatDoor
namespace Go.Proofs.YtijifpbpjinmhaaGreatDoor
open Go.RowKit
attribute [local go_sem] run_bits run_from
theorem join_any (m t : Nat) (hm : m < 9007199254740992) (ht : t ≤ 2045) (w : World) : Calls Tryz.prog 208 #[.int .u64 (m : Nat), .int .i64 ((t : Int) - 1074)] w fun e w' => e = .returned (.float .f64 (t * 4503599627370496 + m)) ∧ w' = w := by
  have hmI : (m : Int) < 9007199254740992 := by omega
  have htI : (t : Int) ≤ 2045 := by omega
  go_enter Tryz.func208, Tryz.ntmps208
  go_wp2
  go_ret
  exact ⟨by simp, rfl⟩
/-- About the bits of a size, by its digits: what (size).bits answers. -/
def bitsN (z : Int) : Int := if z < 0 then z * 3402 / 1024 + 1 else z * 3401 / 1024 + 1
theorem bits_any (a1 : Option Addr) (l1 c1 : Nat) (a2 : Option Addr) (l2 c2 : Nat) (p q k x y : Nat) (w : World) (hp : IsBig w (.agg #[.slice a1 l1 c1]) p) (hq : IsBig w (.agg #[.slice a2 l2 c2]) q) (hk : k ≤ 500000) (hpl : p < 1000000000 ^ k) (hql : q < 1000000000 ^ k) (hl1 : Lib.nDigits p = x) (hl2 : Lib.nDigits q = y) (hx : (x : Int) ≤ 1000) (hy : (y : Int) ≤ 1000) :
    Calls Tryz.prog 206 #[.agg #[.slice a1 l1 c1, .slice a2 l2 c2]] w fun r w' => r = .returned (.int .i64 (bitsN ((x : Int) - (y : Int) - 1))) ∧ Below w.heap.size w w' := by
  obtain ⟨V, hV⟩ : ∃ V, V = (w.alloc (.cells #[.slice a1 l1 c1, .slice a2 l2 c2] 54)) := ⟨_, rfl⟩
  have HS0 : Hid (St w [(w.heap.size, 54, #[.slice a1 l1 c1, .slice a2 l2 c2])] [(.agg #[.slice a2 l2 c2], q), (.agg #[.slice a1 l1 c1], p)] V) := by rw [hV]; have h := ((((St.nil (Below.refl _ w)).push hp).push hq).new #[.slice a1 l1 c1, .slice a2 l2 c2] 54); (try simp only [World.size_alloc] at h); exact h
  have HV := hide hV
  have HK := hide hk
  have HPL := hide hpl
  have HQL := hide hql
  have HL1 := hide hl1
  have HL2 := hide hl2
  clear hV hp hq hk hpl hql hl1 hl2
  go_enter Tryz.func206, Tryz.ntmps206
  have hk6 : k ≤ 1000000 := by have := unhide HK; omega
  have HK6 := hide hk6
  clear hk6
  go_upto_region 1 with fail
  rw [← unhide HV]
  clear HV
  refine region_reads 8 (fun _ => True) (fun W' => W'.cell? ⟨w.heap.size, 0, none⟩ = some (.slice a1 l1 c1) ∧ W'.cell? ⟨w.heap.size, 1, none⟩ = some (.slice a2 l2 c2)) 9 rfl (by kernel_rfl) ?_
  have HS1 := hide ((unhide HS0).later ((Below.refl _ _).drew))
  clear HS0
  generalize V.drew = U0 at *
  refine wpR_take7 (i := 0) (oi := _) (v := .pointer (some ⟨w.heap.size, 0, none⟩)) rfl (by kernel_rfl) (by kernel_rfl) (by kernel_rfl) (by kernel_rfl) (fun _ _ _ h => h) (Or.inl ⟨by rfl, ?_⟩) ⟨trivial, ⟨((unhide HS1).at 0 rfl).ub.c 0 _ rfl, ((unhide HS1).at 0 rfl).ub.c 1 _ rfl⟩⟩ ?_
  · intro W' hW
    go_split_ands
    go_simp
  refine wpR_take7 (i := 1) (oi := _) (v := .agg #[.slice a1 l1 c1]) rfl (by kernel_rfl) (by kernel_rfl) (by kernel_rfl) (by kernel_rfl) (fun _ _ _ h => h) (Or.inl ⟨by rfl, ?_⟩) ⟨trivial, ⟨((unhide HS1).at 0 rfl).ub.c 0 _ rfl, ((unhide HS1).at 0 rfl).ub.c 1 _ rfl⟩⟩ ?_
  · intro W' hW
    go_split_ands
    go_simp
  refine wpR_take7 (i := 3) (oi := _) (v := .pointer (some ⟨w.heap.size, 1, none⟩)) rfl (by kernel_rfl) (by kernel_rfl) (by kernel_rfl) (by kernel_rfl) (fun _ _ _ h => h) (Or.inl ⟨by rfl, ?_⟩) ⟨trivial, ⟨((unhide HS1).at 0 rfl).ub.c 0 _ rfl, ((unhide HS1).at 0 rfl).ub.c 1 _ rfl⟩⟩ ?_
  · intro W' hW
    go_split_ands
    go_simp
  refine wpR_take7 (i := 4) (oi := _) (v := .agg #[.slice a2 l2 c2]) rfl (by kernel_rfl) (by kernel_rfl) (by kernel_rfl) (by kernel_rfl) (fun _ _ _ h => h) (Or.inl ⟨by rfl, ?_⟩) ⟨trivial, ⟨((unhide HS1).at 0 rfl).ub.c 0 _ rfl, ((unhide HS1).at 0 rfl).ub.c 1 _ rfl⟩⟩ ?_
  · intro W' hW
    go_split_ands
    go_simp
  refine wpR_op (i := 2) (o := _) (by kernel_rfl) rfl rfl (fun K hK => ?_)
  go_simp
  refine (lenB _ p k x _ ((unhide HS1).bgt 1 rfl) (unhide HK6) (unhide HPL) (unhide HL1)).mono ?_
  rintro e U1 ⟨rfl, hb⟩
  have HS2 := hide ((unhide HS1).later hb)
  clear HS1
  clear hb
  refine hK _ _ ⟨trivial, ⟨((unhide HS2).at 0 rfl).ub.c 0 _ rfl, ((unhide HS2).at 0 rfl).ub.c 1 _ rfl⟩⟩ ?_
  clear hK K
  refine wpR_op (i := 5) (o := _) (by kernel_rfl) rfl rfl (fun K hK => ?_)
  go_simp
  refine (lenB _ q k y _ ((unhide HS2).bgt 0 rfl) (unhide HK6) (unhide HQL) (unhide HL2)).mono ?_
  rintro e U2 ⟨rfl, hb⟩
  have HS3 := hide ((unhide HS2).later hb)
  clear HS2
  clear hb
  refine hK _ _ ⟨trivial, ⟨((unhide HS3).at 0 rfl).ub.c 0 _ rfl, ((unhide HS3).at 0 rfl).ub.c 1 _ rfl⟩⟩ ?_
  clear hK K
  have hw1 : IntKind.i64.wrap ((x : Int) - (y : Int)) = (x : Int) - (y : Int) := by rw [IntKind.wrap_i64]; omega
  have hw2 : IntKind.i64.wrap ((x : Int) - (y : Int) - 1) = (x : Int) - (y : Int) - 1 := by rw [IntKind.wrap_i64]; omega
  refine wpR_op (i := 6) (o := _) (by kernel_rfl) rfl rfl (fun K hK => ?_)
  go_simp
  refine hK _ _ ⟨trivial, ⟨((unhide HS3).at 0 rfl).ub.c 0 _ rfl, ((unhide HS3).at 0 rfl).ub.c 1 _ rfl⟩⟩ ?_
  clear hK K
  refine wpR_op (i := 7) (o := _) (by kernel_rfl) rfl rfl (fun K hK => ?_)
  go_simp
  refine hK _ _ ⟨trivial, ⟨((unhide HS3).at 0 rfl).ub.c 0 _ rfl, ((unhide HS3).at 0 rfl).ub.c 1 _ rfl⟩⟩ ?_
  clear hK K
  refine wpR_late (i := 8) (o := _) (by kernel_rfl) rfl rfl (by kernel_rfl) (fun K hK => ?_)
  go_simp
  refine hK _ _ (⟨((unhide HS3).at 0 rfl).ub.c 0 _ rfl, ((unhide HS3).at 0 rfl).ub.c 1 _ rfl⟩) ?_
  clear hK K
  refine wpR_done (by kernel_rfl) ?_
  have hz1 : (x : Int) - (y : Int) - 1 ≤ 1000 := by omega
  have hz2 : -1001 ≤ (x : Int) - (y : Int) - 1 := by omega
  clear hw1 hw2 hx hy
  obtain ⟨z, hz0⟩ : ∃ z : Int, (x : Int) - (y : Int) - 1 = z := ⟨_, rfl⟩
  rw [hz0] at hz1 hz2 ⊢
  have HZ := hide hz0
  clear hz0
  by_cases hz : z < 0
  · have hb : bitsN z = z * 3402 / 1024 + 1 := if_pos hz
    have HBN := hide hb
    clear hb
    go_wp2_with fail
    go_ret
    exact ⟨by rw [unhide HZ, unhide HBN]; rfl, (unhide HS3).below⟩
  · have hb : bitsN z = z * 3401 / 1024 + 1 := if_neg hz
    have HBN := hide hb
    clear hb
    go_wp2_with fail
    go_ret
    exact ⟨by rw [unhide HZ, unhide HBN]; rfl, (unhide HS3).below⟩
end Go.Proofs.YtijifpbpjinmhaaGreatDoor
namespace Go.Proofs.YtijifpbpjinmhaaGreatDoor
open Go.RowKit
theorem bits_posA : (List.range 602).all (fun L => decide (2 ^ ((bitsN (L : Nat)).toNat - 1) ≤ 10 ^ L) && decide (10 ^ (L + 2) ≤ 2 ^ ((bitsN (L : Nat)).toNat + 9))) = true := by decide +kernel
theorem bits_negA : (List.range 603).all (fun k => decide (10 ^ (k + 1) ≤ 2 ^ (1 - bitsN (-((k + 1 : Nat) : Int))).toNat) && decide (100 * 2 ^ (-(bitsN (-((k + 1 : Nat) : Int)) + 9)).toNat ≤ 10 ^ (k + 1) * 2 ^ (bitsN (-((k + 1 : Nat) : Int)) + 9).toNat)) = true := by decide +kernel
theorem bits_pos (L : Nat) (h : L < 602) : 2 ^ ((bitsN (L : Nat)).toNat - 1) ≤ 10 ^ L ∧ 10 ^ (L + 2) ≤ 2 ^ ((bitsN (L : Nat)).toNat + 9) := by
  have := List.all_eq_true.1 bits_posA L (List.mem_range.2 h)
  simpa only [Bool.and_eq_true, decide_eq_true_eq] using this
theorem bits_neg (k : Nat) (h : k < 603) : 10 ^ (k + 1) ≤ 2 ^ (1 - bitsN (-((k + 1 : Nat) : Int))).toNat ∧ 100 * 2 ^ (-(bitsN (-((k + 1 : Nat) : Int)) + 9)).toNat ≤ 10 ^ (k + 1) * 2 ^ (bitsN (-((k + 1 : Nat) : Int)) + 9).toNat := by
  have := List.all_eq_true.1 bits_negA k (List.mem_range.2 h)
  simpa only [Bool.and_eq_true, decide_eq_true_eq] using this
end Go.Proofs.YtijifpbpjinmhaaGreatDoor

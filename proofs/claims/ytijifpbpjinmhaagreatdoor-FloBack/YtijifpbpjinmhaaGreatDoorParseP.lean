/- rat.Parse of a number's text: its ways. -/
import Derived.Test.YtijifpbpjinmhaaGreatDoorTell
import Derived.Test.YtijifpbpjinmhaaGreatDoorGcdMath
import Derived.Test.YtijifpbpjinmhaaGreatDoorBigOf
import Derived.Test.YtijifpbpjinmhaaGreatDoorAdd
import Derived.Test.YtijifpbpjinmhaaGreatDoorMany
import Derived.Deep.RegionWith
import Derived.Deep.RegionLaw
import Derived.Deep.RegionHeld3
import Derived.Lib.ItoaMem
import Derived.Deep.Cut
import Derived.Test.YtijifpbpjinmhaaGreatDoorCut
set_option maxHeartbeats 4000000
set_option maxRecDepth 100000
namespace Go.Proofs.YtijifpbpjinmhaaGreatDoor
open Go.RowKit
def Ans (f : Nat) (args : Array Value) (w : World) (s t : ByteArray) (e : Int) : Prop :=
  Calls Tryz.prog f args w fun r w' => r = .returned (.tuple #[.agg #[.string s, .string t], .int .i64 e]) ∧ Below w.heap.size w w'
theorem ratio_any (b : Bool) (x y : Value) (m n k : Nat) (w : World) (hx : IsBig w x m) (hy : IsBig w y n) (hm : m < 1000000000 ^ k) (hn : n < 1000000000 ^ k) (h0 : 0 < n) (hD : DivAns k) (hG : GcdAns k) :
    Calls Tryz.prog 89 #[.bool b, x, y] w fun e w' => ∃ v', e = .returned v' ∧ IsFrac w' v' (b && decide (m / Nat.gcd m n ≠ 0)) (m / Nat.gcd m n) (n / Nat.gcd m n) ∧ Below w.heap.size w w' := by
  have HX := hide hx
  have HY := hide hy
  obtain ⟨ap, np, cp, rfl⟩ := hx.shape
  obtain ⟨aq, nq, cq, rfl⟩ := hy.shape
  have HS0 := hide (RSt.first w (.slice ap np cp) (.slice aq nq cq))
  have H44 := hide (lowest_any _ _ m n k _ (hx.later (unhide HS0).below) (hy.later (unhide HS0).below) hm hn h0 hD hG)
  clear hx hy hm hn h0 hD hG HX HY
  generalize m / Nat.gcd m n = M at *
  generalize n / Nat.gcd m n = N at *
  go_enter Tryz.func89, Tryz.ntmps89
  go_upto_region 2 with (go_at_call 135; go_must (refine (unhide H44).mono ?_; rintro e w1 ⟨a1, l1, c1, a2, l2, c2, rfl, hv1, hv2, hb1⟩; have HS1 := hide ((unhide HS0).later hb1); have HV1 := hide hv1; have HV2 := hide hv2; clear hv1 hv2 hb1; have b1 := (unhide HS1).b1.c; have b2 := (unhide HS1).b2.c; have f1 := (unhide HS1).b1.f; have f2 := (unhide HS1).b2.f))
  obtain ⟨V, hV⟩ : ∃ V, V = ((w1.setCell ⟨w.heap.size, 0, none⟩ (.slice a1 l1 c1)).setCell ⟨w.heap.size + 1, 0, none⟩ (.slice a2 l2 c2)) := ⟨_, rfl⟩
  have HS : Hid (RSt w V (.slice a1 l1 c1) (.slice a2 l2 c2)) := by rw [hV]; exact (unhide HS1).both _ _
  have HW1 : Hid (IsBig V (.agg #[.slice a1 l1 c1]) M) := by rw [hV]; exact ((unhide HV1).box _ b1 (not_int _ _ _)).box _ ((unhide HS1).b2.other (by omega) _).c (not_int _ _ _)
  have HW2 : Hid (IsBig V (.agg #[.slice a2 l2 c2]) N) := by rw [hV]; exact ((unhide HV2).box _ b1 (not_int _ _ _)).box _ ((unhide HS1).b2.other (by omega) _).c (not_int _ _ _)
  rw [← hV]
  clear hV HS0 H44 HS1 HV1 HV2 b1 b2 f1 f2
  have b1 := (unhide HS).b1.c; have b2 := (unhide HS).b2.c
  have q0 := (unhide HS).b3.c0; have q1 := (unhide HS).b3.c1; have q2 := (unhide HS).b3.c2; have g0 := (unhide HS).b3.f0; have g1 := (unhide HS).b3.f1; have g2 := (unhide HS).b3.f2
  cases b with
  | false =>
    go_region
    obtain ⟨U, hU⟩ : ∃ U, U = (store3 V (w.heap.size + 1 + 1) (.bool false) (.slice a1 l1 c1) (.slice a2 l2 c2)).drew := ⟨_, rfl⟩
    have hb3 : Below w.heap.size w (store3 V (w.heap.size + 1 + 1) (.bool false) (.slice a1 l1 c1) (.slice a2 l2 c2)) := below_store3 (unhide HS).below (by omega) _ _ _
    have HU : Hid (FBox U (w.heap.size + 1 + 1) (.bool false) (.slice a1 l1 c1) (.slice a2 l2 c2) ∧ IsBig U (.agg #[.slice a1 l1 c1]) M ∧ IsBig U (.agg #[.slice a2 l2 c2]) N ∧ Below w.heap.size w U) := by
      rw [hU]
      exact ⟨((unhide HS).b3.store _ _ _).later ((Below.refl _ _).drew), ((unhide HS).b3.big _ _ _ (unhide HW1)).later ((Below.refl _ _).drew), ((unhide HS).b3.big _ _ _ (unhide HW2)).later ((Below.refl _ _).drew), hb3.trans (((Below.refl _ _).drew).mono hb3.size)⟩
    have hU' : U = (((V.setCell ⟨w.heap.size + 1 + 1, 0, none⟩ (.bool false)).setCell ⟨w.heap.size + 1 + 1, 1, none⟩ (.slice a1 l1 c1)).setCell ⟨w.heap.size + 1 + 1, 2, none⟩ (.slice a2 l2 c2)).drew := hU
    have HE : Hid (false = (false && decide (M ≠ 0))) := by show _ = _; by_cases h0 : M = 0 <;> simp [h0]
    rw [← hU']
    clear hU hU' hb3 q0 q1 q2 g0 g1 g2 b1 b2 
    have r0 := (unhide HU).1.c0; have r1 := (unhide HU).1.c1; have r2 := (unhide HU).1.c2
    go_wp2_with fail
    exact bodyPost_ret (v := .agg #[.bool false, .slice a1 l1 c1, .slice a2 l2 c2]) (by simp [results, Tryz.results89, go_sem, r0, r1, r2]) rfl ⟨_, rfl, (by rw [← unhide HE]; exact ⟨_, _, rfl, (unhide HU).2.1, (unhide HU).2.2.1⟩), (unhide HU).2.2.2⟩
  | true =>
    have HF : Hid (∀ W, Below V.heap.size V W → RSt w W (.slice a1 l1 c1) (.slice a2 l2 c2)) := fun W hb => (unhide HS).later hb
    have H37 := hide (fun W (hb : Below V.heap.size V W) => isZero_any _ M W ((unhide HW1).later hb))
    clear q0 q1 q2 g0 g1 g2
    go_region_held3 (fun w' => w'.cell? ⟨w.heap.size, 0, none⟩ = some (.slice a1 l1 c1) ∧ w'.cell? ⟨w.heap.size + 1, 0, none⟩ = some (.slice a2 l2 c2)) (first | assumption | (refine ⟨?_, ?_⟩ <;> first | assumption | (simp [go_sem, *]; done)) | (simp [go_sem, *]; done)) ((go_at_call 85; go_must (refine (unhide H37 _ ((Below.refl _ _).drew)).mono ?_; rintro e w3 ⟨rfl, hb3⟩; have HB3 := hide ((((Below.refl V.heap.size V).drew)).trans hb3); have HS3 := hide (unhide HF w3 (unhide HB3)); have t1 := (unhide HS3).b1.c; have t2 := (unhide HS3).b2.c; have q0 := (unhide HS3).b3.c0; have q1 := (unhide HS3).b3.c1; have q2 := (unhide HS3).b3.c2; have g0 := (unhide HS3).b3.f0; have g1 := (unhide HS3).b3.f1; have g2 := (unhide HS3).b3.f2; clear hb3)))
    obtain ⟨U, hU⟩ : ∃ U, U = (store3 w3 (w.heap.size + 1 + 1) (.bool (!M == 0)) (.slice a1 l1 c1) (.slice a2 l2 c2)) := ⟨_, rfl⟩
    have hb3 : Below w.heap.size w (store3 w3 (w.heap.size + 1 + 1) (.bool (!M == 0)) (.slice a1 l1 c1) (.slice a2 l2 c2)) := below_store3 (unhide HS3).below (by omega) _ _ _
    have HU : Hid (FBox U (w.heap.size + 1 + 1) (.bool (!M == 0)) (.slice a1 l1 c1) (.slice a2 l2 c2) ∧ IsBig U (.agg #[.slice a1 l1 c1]) M ∧ IsBig U (.agg #[.slice a2 l2 c2]) N ∧ Below w.heap.size w U) := by
      rw [hU]
      exact ⟨((unhide HS3).b3.store _ _ _), ((unhide HS3).b3.big _ _ _ ((unhide HW1).later (unhide HB3))), ((unhide HS3).b3.big _ _ _ ((unhide HW2).later (unhide HB3))), hb3⟩
    have hU' : U = (((w3.setCell ⟨w.heap.size + 1 + 1, 0, none⟩ (.bool (!M == 0))).setCell ⟨w.heap.size + 1 + 1, 1, none⟩ (.slice a1 l1 c1)).setCell ⟨w.heap.size + 1 + 1, 2, none⟩ (.slice a2 l2 c2)) := hU
    have HE : Hid ((!M == 0) = (true && decide (M ≠ 0))) := by show _ = _; by_cases h0 : M = 0 <;> simp [h0]
    rw [← hU']
    clear hU hU' hb3 q0 q1 q2 g0 g1 g2 b1 b2 t1 t2
    have r0 := (unhide HU).1.c0; have r1 := (unhide HU).1.c1; have r2 := (unhide HU).1.c2
    go_wp2_with fail
    exact bodyPost_ret (v := .agg #[.bool (!M == 0), .slice a1 l1 c1, .slice a2 l2 c2]) (by simp [results, Tryz.results89, go_sem, r0, r1, r2]) rfl ⟨_, rfl, (by rw [← unhide HE]; exact ⟨_, _, rfl, (unhide HU).2.1, (unhide HU).2.2.1⟩), (unhide HU).2.2.2⟩
theorem new_ok (num den : ByteArray) (b : Bool) (m n : Nat) (w : World) (hnum : num = sT b m) (hden : den = tb n) (hm : m < 10 ^ 600) (hn : n < 10 ^ 600) (hn0 : n ≠ 0) (htab : Tab w) :
    Ans 40 #[.string num, .string den] w (numT (Cub.valQ b m n)) (denT (Cub.valQ b m n)) (errT (Cub.valQ b m n)) := by
  unfold Ans
  obtain ⟨V, hV⟩ : ∃ V, V = w.alloc (.cells #[.string ⟨#[]⟩, .string ⟨#[]⟩] 23) := ⟨_, rfl⟩
  have hbV : Below w.heap.size w V := by rw [hV]; exact (Below.refl _ _).alloc (Nat.le_refl _) _
  have HR : Hid (T2 V w.heap.size (.string ⟨#[]⟩) (.string ⟨#[]⟩) ∧ Below w.heap.size w V) := ⟨by rw [hV]; exact ⟨by simp [go_sem], by simp [go_sem], by simp [go_sem], by simp [go_sem]⟩, hbV⟩
  have HV := hide hV
  have HTW := hide htab
  have HC68 : Hid (Calls Tryz.prog 87 #[.string num] V fun e w' => e = .returned (.tuple #[.bool b, .string (tb m)]) ∧ w' = V) := by
    have := cutSign_any num V
    rw [hnum, neg_sT b m hm, dig_sT b m hm] at this
    rw [hnum]; exact this
  have HR1 : Hid (Calls Tryz.prog 88 #[.string (tb m)] V fun e w' => e = .returned (.bool true) ∧ w' = V) := by
    have := right_any (tb m) V (tb_size m hm)
    rwa [(tb_right m hm).1] at this
  have HR2 : Hid (Calls Tryz.prog 88 #[.string den] V fun e w' => e = .returned (.bool true) ∧ w' = V) := by
    have := right_any (tb n) V (tb_size n hn)
    rw [(tb_right n hn).1] at this
    rw [hden]; exact this
  have z2 : (den.toList == [48]) = false := by rw [hden, tb_eq48 n hn, beq_eq_false_iff_ne]; exact hn0
  have HB1 : Hid (∀ W, Calls Tryz.prog 32 #[.string (tb m)] W fun e w' => ∃ v, e = .returned v ∧ IsBig w' v m ∧ Below W.heap.size W w') := fun W => by
    have := bigText_any (tb m) W (by have := (tb_digs m hm).2; omega) (tb_digs m hm).1
    rwa [(tb_right m hm).2] at this
  have HB2 : Hid (∀ W, Calls Tryz.prog 32 #[.string den] W fun e w' => ∃ v, e = .returned v ∧ IsBig w' v n ∧ Below W.heap.size W w') := fun W => by
    have := bigText_any (tb n) W (by have := (tb_digs n hn).2; omega) (tb_digs n hn).1
    rw [(tb_right n hn).2] at this
    rw [hden]; exact this
  have p6 := pow600
  have hmk := Nat.lt_of_lt_of_le hm p6
  have hnk := Nat.lt_of_lt_of_le hn p6
  have HRA : Hid (∀ W x y, IsBig W x m → IsBig W y n → Calls Tryz.prog 89 #[.bool b, x, y] W fun e w' => ∃ v', e = .returned v' ∧ QOf w' v' (Cub.valQ b m n) 67 ∧ Below W.heap.size W w') := fun W x y h1 h2 => by
    refine (ratio_any b x y m n 67 W h1 h2 hmk hnk (by omega) (divAns 67 (by decide)) (gcdAns 67 (by decide))).mono ?_
    rintro e w' ⟨v', rfl, hf, hb⟩
    obtain ⟨l1, l2⟩ := Cub.ratio_low (b := b) (n := m) (show 0 < n by omega)
    exact ⟨v', rfl, ⟨_, _, _, hf, l1, l2, Nat.lt_of_le_of_lt (Nat.div_le_self _ _) hmk, Nat.lt_of_le_of_lt (Nat.div_le_self _ _) hnk⟩, hb⟩
  have HTE : Hid (∀ W v, QOf W v (Cub.valQ b m n) 67 → Tab W → Calls Tryz.prog 90 #[v] W fun r w' => r = .returned (.tuple #[.agg #[.string (numT (Cub.valQ b m n)), .string (denT (Cub.valQ b m n))], .int .i64 (errT (Cub.valQ b m n))]) ∧ Below W.heap.size W w') := fun W v h ht => qtell v _ 67 W h (by decide) ht
  clear hnum hden hm hn hn0 htab hbV p6 hmk hnk
  generalize numT (Cub.valQ b m n) = rn at *
  generalize denT (Cub.valQ b m n) = rd at *
  generalize errT (Cub.valQ b m n) = re at *
  generalize tb m = ds at *
  go_enter Tryz.func40, Tryz.ntmps40
  go_upto_region 1 with fail
  rw [← unhide HV]
  clear hV HV
  go_upto_region 6 with (first
    | (go_at_call 87; go_must (refine (unhide HC68).mono ?_; rintro e w1 ⟨rfl, hw1⟩; obtain rfl : V = w1 := hw1.symm))
    | (go_at_call_of 88 (Value.string ds); go_must (refine (unhide HR1).mono ?_; rintro e w1 ⟨rfl, hw1⟩; obtain rfl : V = w1 := hw1.symm))
    | (go_at_call 88; go_must (refine (unhide HR2).mono ?_; rintro e w1 ⟨rfl, hw1⟩; obtain rfl : V = w1 := hw1.symm)))
  clear z2
  go_wp2_with (first
    | (go_at_call_of 32 (Value.string ds); go_must (refine (unhide HB1 _).mono ?_; rintro e w2 ⟨v2, rfl, hv2, hb2⟩; have HX2 := hide hv2; have HR2' : Hid (T2 w2 w.heap.size (.string ⟨#[]⟩) (.string ⟨#[]⟩) ∧ Below w.heap.size w w2) := ⟨(unhide HR).1.later hb2, (unhide HR).2.trans (hb2.mono (unhide HR).2.size)⟩; clear hv2 hb2))
    | (go_at_call 32; go_must (refine (unhide HB2 _).mono ?_; rintro e w3 ⟨v3, rfl, hv3, hb3⟩; have HX3 := hide ((unhide HX2).later hb3); have HY3 := hide hv3; have HR3 : Hid (T2 w3 w.heap.size (.string ⟨#[]⟩) (.string ⟨#[]⟩) ∧ Below w.heap.size w w3) := ⟨(unhide HR2').1.later hb3, (unhide HR2').2.trans (hb3.mono (unhide HR2').2.size)⟩; clear hv3 hb3))
    | (go_at_call 89; go_must (refine (unhide HRA _ _ _ (unhide HX3) (unhide HY3)).mono ?_; rintro e w4 ⟨v4, rfl, hv4, hb4⟩; have HQ4 := hide hv4; have HR4 : Hid (T2 w4 w.heap.size (.string ⟨#[]⟩) (.string ⟨#[]⟩) ∧ Below w.heap.size w w4) := ⟨(unhide HR3).1.later hb4, (unhide HR3).2.trans (hb4.mono (unhide HR3).2.size)⟩; clear hv4 hb4))
    | (go_at_call 90; go_must (refine (unhide HTE _ _ (unhide HQ4) ((unhide HTW).later (unhide HR4).2)).mono ?_; rintro e w5 ⟨rfl, hb5⟩; have HR5 : Hid (T2 w5 w.heap.size (.string ⟨#[]⟩) (.string ⟨#[]⟩) ∧ Below w.heap.size w w5) := ⟨(unhide HR4).1.later hb5, (unhide HR4).2.trans (hb5.mono (unhide HR4).2.size)⟩; clear hb5; have r0 := (unhide HR5).1.c0; have r1 := (unhide HR5).1.c1; have rf0 := (unhide HR5).1.f0; have rf1 := (unhide HR5).1.f1)))
  have hS := (unhide HR5).1.store (.string rn) (.string rd)
  have hb : Below w.heap.size w (store2 w5 (w.heap.size) (.string rn) (.string rd)) := below_store2 (unhide HR5).2 (by omega) _ _
  have u0 := hS.c0; have u1 := hS.c1
  exact bodyPost_ret (v := .tuple #[.agg #[.string rn, .string rd], .int .i64 re]) (w := store2 w5 (w.heap.size) (.string rn) (.string rd)) (by simp [results, Tryz.results40, go_sem, u0, u1]) rfl ⟨rfl, hb⟩
theorem sub_any (x y : Value) (m n k : Nat) (w : World) (hx : IsBig w x m) (hy : IsBig w y n) (hk : k ≤ 1000000) (hm : m < 1000000000 ^ k) (hle : n ≤ m) :
    Calls Tryz.prog 162 #[x, y] w fun e w' => ∃ v, e = .returned v ∧ IsBig w' v (m - n) ∧ Below w.heap.size w w' := by
  obtain ⟨ap, lp, cp, rfl, hlp, hrp, hnp, rfl⟩ := hx.form
  obtain ⟨aq, lq, cq, rfl, hlq, hrq, hnq, rfl⟩ := hy.form
  have h1 := Cub.len_le hnp hm
  have h2 := norm9_len_le hnp.1 hnq hle
  have HP : Hid (lp.length = lp.length ∧ Cub.limbs 1000000000 lp ∧ Cells w ap lp) := ⟨rfl, hnp.1, hrp.cells.2.2.2⟩
  have HQ : Hid (Cub.limbs 1000000000 lq ∧ Cells w aq lq) := ⟨hnq.1, hrq.cells.2.2.2⟩
  have HLE := hide hle
  obtain ⟨np, hnp'⟩ : ∃ np, np = lp.length := ⟨_, rfl⟩
  obtain ⟨nq, hnq'⟩ : ∃ nq, nq = lq.length := ⟨_, rfl⟩
  rw [← hnp'] at h1 h2 ⊢
  rw [← hnq'] at h2 ⊢
  have HNP := hide hnp'
  have HNQ := hide hnq'
  clear hx hy hm hle hlp hlq hrp hrq hnp hnq hnp' hnq'
  obtain ⟨i0, hi, hz0, hz1, hz2⟩ := info_parts Tryz.info41
  go_enter Tryz.func162, Tryz.ntmps162
  go_wp2_with (first
    | (at_make; go_must (refine wpList_make_full _ rfl _ _ 49 rfl (w.heap.size + 3) 41 i0 (.int .u64 0) 1 Tryz.underlying49 hi hz0 hz1 .i64 .i64 _ _ np rfl rfl (by omega) (by omega) (by rw [hz2]; omega) (by unfold maxLen; omega) (by simp) ?_; intro w4 hown4 hgrow4; rw [u64s_made] at hown4; have hO4 : Own w4 (w.heap.size + 1 + 1 + 1) (List.replicate np 0) := (by have := Own.of_row hown4; simpa using this); have hB4 := boxes3 ((Below.refl (w.heap.size + 3) _).grown hgrow4 (by simp) (fun k hk => by cases hk)); have bp4 := hB4.c1; have HO4 := hide hO4; have HB4 := hide hB4; clear hown4 hgrow4 hO4 hB4))
    | (go_at_call 199; go_must (refine (takeAway_any (w.heap.size + 1 + 1 + 1) np np lp lq aq nq cq 1 _ (unhide HO5) (unhide HNP) (by omega) (unhide HP).2.1 (unhide HNQ) h2 (unhide HQ).1 (Nat.le_refl _) (by decide) (fun W hW i hi => (unhide HQ).2 W ((unhide HB5).below.trans (hW.mono (by omega))) i hi)).mono ?_; rintro e w6 ⟨mi, F, rfl, hO6, hF6, hlF6, hv6, hmi6, hb6⟩; have HB6 := hide ((unhide HB5).on (hb6.mono (show w.heap.size + 3 ≤ w.heap.size + 1 + 1 + 1 by omega))); have HO6 := hide (And.intro hO6 (And.intro hF6 hlF6)); have HV6 := hide hv6; clear hO6 hF6 hlF6 hv6 hb6 bp5 bq5))
    | (go_at_call 78; go_must (refine (trim_any _ F _ ((unhide HO6).1.row np np (unhide HO6).2.1.symm (Nat.le_refl _) (by unfold maxLen; omega))).mono ?_; rintro e w7 ⟨v', rfl, hrow7, hb7⟩; obtain ⟨a7, cap7, rfl, hcap7⟩ := hrow7.form; obtain ⟨hc7, hf7⟩ := box_later hb7 (g := w.heap.size + 1 + 1) (by have := (unhide HB6).size; omega) (unhide HB6).c3 (unhide HB6).f3))
    | (refine wpList_copy_splice rfl _ _ 49 49 rfl 41 Tryz.underlying49 Tryz.size41 _ _ _ _ _ _ rfl rfl (w.heap.size + 1 + 1 + 1) 0 (u64s (List.replicate np 0)) 41 (unhide HO4) (u64s lp) (by rw [u64s_length, ← unhide HNP]; exact (Nat.min_self np).symm) (fun h0 => ⟨by simp, (unhide HP).2.2.src (unhide HB4).below (by rw [u64s_length] at h0; exact h0)⟩) (by rw [u64s_length, u64s_length, List.length_replicate, ← unhide HNP]; omega) (u64s_one lp) (w.heap.size + 3) w4 (Below.refl _ _) (Nat.le_refl _) ?_; intro w5 hO5 hb5; rw [splice_all lp np (unhide HNP)] at hO5; have HO5 := hO5; have HB5 := hide ((unhide HB4).on hb5); have bp5 := (unhide HB5).c1; have bq5 := (unhide HB5).c2; clear hb5 HO4 HB4 bp4 hO5))
  obtain ⟨t1, t2, _⟩ := Cub.lval_trim 1000000000 _ F rfl
  refine bodyPost_ret (v := .agg #[.slice a7 (Cub.trimN F).length cap7]) (by simp [results, Tryz.results162, go_sem, hc7]) rfl ⟨_, rfl, ?_, ?_⟩
  · refine ⟨_, _, rfl, hrow7.box _ hc7 (no_int _ _ _), t2 (unhide HO6).2.2, ?_⟩
    rw [t1]; exact sub_last (unhide HO6).2.2 (unhide HO6).2.1 (unhide HV6) (unhide HLE)
  · exact ((unhide HB6).below.trans (hb7.mono (by have := (unhide HB6).size; omega))).setCell (p := ⟨w.heap.size + 1 + 1, 0, none⟩) (show w.heap.size ≤ w.heap.size + 1 + 1 by omega) _
theorem add_core (X : Array Value) (ap aq : Option Addr) (np nq cp cq : Nat) (lp lq : List Nat) (w : World) (hX : (X = #[.agg #[.slice ap np cp], .agg #[.slice aq nq cq]] ∧ ¬ np < nq) ∨ (X = #[.agg #[.slice aq nq cq], .agg #[.slice ap np cp]] ∧ nq < np)) (hp1 : np ≤ 2000000) (hq1 : nq ≤ np)
    (HP : Hid (np = lp.length ∧ Cub.limbs 1000000000 lp ∧ Cells w ap lp)) (HQ : Hid (nq = lq.length ∧ Cub.limbs 1000000000 lq ∧ Cells w aq lq)) :
    Calls Tryz.prog 164 X w fun e w' => ∃ v, e = .returned v ∧ IsBig w' v (Cub.lval 1000000000 lp + Cub.lval 1000000000 lq) ∧ Below w.heap.size w w' := by
  obtain ⟨i0, hi, hz0, hz1, hz2⟩ := info_parts Tryz.info41
  rcases hX with ⟨rfl, hlt⟩ | ⟨rfl, hlt⟩
  all_goals
    go_enter Tryz.func164, Tryz.ntmps164
    go_wp2_with (first
      | (at_make; go_must (refine wpList_make_full _ rfl _ _ 49 rfl (w.heap.size + 3) 41 i0 (.int .u64 0) 1 Tryz.underlying49 hi hz0 hz1 .i64 .i64 _ _ (np + 1) rfl rfl (by omega) (by omega) (by rw [hz2]; omega) (by unfold maxLen; omega) (by simp) ?_; intro w4 hown4 hgrow4; rw [u64s_made] at hown4; have hO4 : Own w4 (w.heap.size + 1 + 1 + 1) (List.replicate (np + 1) 0) := (by have := Own.of_row hown4; simpa using this); have hB4 := boxes3 ((Below.refl (w.heap.size + 3) _).grown hgrow4 (by simp) (fun k hk => by cases hk)); have bp4 := hB4.c1; have HO4 := hide hO4; have HB4 := hide hB4; clear hown4 hgrow4 hO4 hB4))
      | (refine wpList_copy_splice rfl _ _ 49 49 rfl 41 Tryz.underlying49 Tryz.size41 _ _ _ _ _ _ rfl rfl (w.heap.size + 1 + 1 + 1) 0 (u64s (List.replicate (np + 1) 0)) 41 (unhide HO4) (u64s lp) (by rw [u64s_length, ← (unhide HP).1]; exact (Nat.min_eq_left (Nat.le_succ np)).symm) (fun h0 => ⟨by simp, (unhide HP).2.2.src (unhide HB4).below (by rw [u64s_length] at h0; exact h0)⟩) (by rw [u64s_length, u64s_length, List.length_replicate, ← (unhide HP).1]; omega) (u64s_one lp) (w.heap.size + 3) w4 (Below.refl _ _) (Nat.le_refl _) ?_; intro w5 hO5 hb5; rw [splice_sum lp np (unhide HP).1] at hO5; have HB5 := hide ((unhide HB4).on hb5); have bp5 := (unhide HB5).c1; have bq5 := (unhide HB5).c2; clear hb5 HO4 HB4 bp4))
    have HO5 := hO5
    clear hO5
    go_loopw [6, 7] (fun c i wr => ∃ (k j : Nat) (S : List Nat), c = .int .u64 (k : Int) ∧ i = .int .i64 (j : Int) ∧ k ≤ 1 ∧ j ≤ np + 1 ∧ Hid (Cub.AddInv lp lq S k j) ∧ Hid (Own wr (w.heap.size + 1 + 1 + 1) S) ∧ Hid (Boxes3 w wr (.slice ap np cp) (.slice aq nq cq) (.slice none 0 0))) (fun _ i _ => np + 1 - (intOf i).toNat)
    case atStart => exact ⟨0, 0, lp ++ [0], rfl, rfl, by omega, by omega, Cub.AddInv.start (unhide HP).2.1, HO5, HB5⟩
    case round =>
      obtain ⟨k, j, S, rfl, rfl, hk, hj, HI, HO, HB⟩ := hrel
      clear bp5 bq5 HO5 HB5
      have bq := (unhide HB).c2
      have hSl : S.length = np + 1 := by rw [(unhide HI).len, ← (unhide HP).1]
      by_cases hjq : j < nq
      · have hjS : j < S.length := by omega
        obtain ⟨x, hx⟩ : ∃ x, x = S[j] := ⟨_, rfl⟩
        have hxB : x < 1000000000 := by rw [hx]; exact (unhide HI).lim _ (List.getElem_mem hjS)
        have hcx : wr.cell? ⟨w.heap.size + 1 + 1 + 1, j, none⟩ = some (.int .u64 (x : Int)) := by rw [hx]; exact (unhide HO).cell j hjS
        have hfx := (unhide HO).frozen j
        have hjl : j < lq.length := by have := (unhide HQ).1; omega
        obtain ⟨y, hy⟩ : ∃ y, y = lq[j] := ⟨_, rfl⟩
        have hyB : y < 1000000000 := by rw [hy]; exact (unhide HQ).2.1 _ (List.getElem_mem hjl)
        obtain ⟨b, o, rfl, hcy⟩ := (unhide HQ).2.2 wr (unhide HB).below j hjl
        rw [← hy] at hcy
        have HI' : Hid (Cub.AddInv lp lq (S.set j ((k + x + y) % 1000000000)) ((k + x + y) / 1000000000) (j + 1)) := by
          have := (unhide HI).step hjS hyB (by rw [hy]; exact Cub.take_val lq j hjl)
          rw [← hx] at this; exact this
        have HO' : Hid (Own (wr.setCell ⟨w.heap.size + 1 + 1 + 1, j, none⟩ (.int .u64 (((k : Int) + (x : Int) + (y : Int)) % 1000000000))) (w.heap.size + 1 + 1 + 1) (S.set j ((k + x + y) % 1000000000))) := by
          have := (unhide HO).set j ((k + x + y) % 1000000000)
          rw [show (((k + x + y) % 1000000000 : Nat) : Int) = ((k : Int) + (x : Int) + (y : Int)) % 1000000000 by omega] at this
          exact this
        have HB' : Hid (Boxes3 w (wr.setCell ⟨w.heap.size + 1 + 1 + 1, j, none⟩ (.int .u64 (((k : Int) + (x : Int) + (y : Int)) % 1000000000))) (.slice ap np cp) (.slice (some ⟨b, o, none⟩) nq cq) (.slice none 0 0)) :=
          (unhide HB).on ((Below.refl (w.heap.size + 3) wr).setCell (p := ⟨w.heap.size + 1 + 1 + 1, j, none⟩) (show w.heap.size + 3 ≤ w.heap.size + 1 + 1 + 1 by omega) _)
        clear hx hy hSl HI
        go_wp2
        go_roundw
        case rel => exact ⟨(k + x + y) / 1000000000, j + 1, _, by go_num, by go_num, (unhide HI').carry, by omega, HI', HO', HB'⟩
        case measure => simp [intOf]; omega
      · by_cases hk0 : k = 0
        · subst hk0
          have hsum := (unhide HI).sum (by have := (unhide HQ).1; omega)
          obtain ⟨t1, t2, _⟩ := Cub.lval_trim 1000000000 _ S rfl
          have HF : Hid (Cub.lval 1000000000 (Cub.trimN S) = Cub.lval 1000000000 lp + Cub.lval 1000000000 lq ∧ Cub.normal 1000000000 (Cub.trimN S)) := ⟨t1.trans hsum, t2 (unhide HI).lim⟩
          have hsz := (unhide HB).size
          have br := (unhide HB).c3
          have fr := (unhide HB).f3
          clear hsum t1 t2
          go_wp2_with (go_at_call 78; refine (trim_any _ S _ ((unhide HO).row (np + 1) (np + 1) hSl.symm (Nat.le_refl _) (by unfold maxLen; omega))).mono ?_; rintro e w6 ⟨v', rfl, hrow6, hb6⟩; obtain ⟨a6, cap6, rfl, hcap6⟩ := hrow6.form; obtain ⟨hc6, hf6⟩ := box_later hb6 (g := w.heap.size + 1 + 1) (by omega) br fr)
          refine bodyPost_ret (v := .agg #[.slice a6 (Cub.trimN S).length cap6]) (by simp [results, Tryz.results164, go_sem, hc6]) rfl ⟨_, rfl, ?_, ?_⟩
          · exact ⟨_, _, rfl, hrow6.box _ hc6 (no_int _ _ _), (unhide HF).2, (unhide HF).1⟩
          · exact ((unhide HB).below.trans (hb6.mono (by omega))).setCell (p := ⟨w.heap.size + 1 + 1, 0, none⟩) (show w.heap.size ≤ w.heap.size + 1 + 1 by omega) _
        · have hjn : j ≠ np + 1 := fun e => hk0 ((unhide HI).last (unhide HP).2.1 (unhide HQ).2.1 (by have := (unhide HP).1; have := (unhide HQ).1; omega) (by have := (unhide HP).1; omega))
          have hjS : j < S.length := by omega
          obtain ⟨x, hx⟩ : ∃ x, x = S[j] := ⟨_, rfl⟩
          have hxB : x < 1000000000 := by rw [hx]; exact (unhide HI).lim _ (List.getElem_mem hjS)
          have hcx : wr.cell? ⟨w.heap.size + 1 + 1 + 1, j, none⟩ = some (.int .u64 (x : Int)) := by rw [hx]; exact (unhide HO).cell j hjS
          have hfx := (unhide HO).frozen j
          have HI' : Hid (Cub.AddInv lp lq (S.set j ((k + x) % 1000000000)) ((k + x) / 1000000000) (j + 1)) := by
            have := (unhide HI).step (c := 0) hjS (by decide) (by rw [Cub.take_val' lq j (by have := (unhide HQ).1; omega)]; simp)
            rw [← hx, Nat.add_zero] at this; exact this
          have HO' : Hid (Own (wr.setCell ⟨w.heap.size + 1 + 1 + 1, j, none⟩ (.int .u64 (((k : Int) + (x : Int)) % 1000000000))) (w.heap.size + 1 + 1 + 1) (S.set j ((k + x) % 1000000000))) := by
            have := (unhide HO).set j ((k + x) % 1000000000)
            rw [show (((k + x) % 1000000000 : Nat) : Int) = ((k : Int) + (x : Int)) % 1000000000 by omega] at this
            exact this
          have HB' : Hid (Boxes3 w (wr.setCell ⟨w.heap.size + 1 + 1 + 1, j, none⟩ (.int .u64 (((k : Int) + (x : Int)) % 1000000000))) (.slice ap np cp) (.slice aq nq cq) (.slice none 0 0)) :=
            (unhide HB).on ((Below.refl (w.heap.size + 3) wr).setCell (p := ⟨w.heap.size + 1 + 1 + 1, j, none⟩) (show w.heap.size + 3 ≤ w.heap.size + 1 + 1 + 1 by omega) _)
          clear hx hSl HI
          go_wp2
          go_roundw
          case rel => exact ⟨(k + x) / 1000000000, j + 1, _, by go_num, by go_num, (unhide HI').carry, by omega, HI', HO', HB'⟩
          case measure => simp [intOf]; omega
theorem add_any (x y : Value) (m n k : Nat) (w : World) (hx : IsBig w x m) (hy : IsBig w y n) (hk : k ≤ 1000000) (hm : m < 1000000000 ^ k) (hn : n < 1000000000 ^ k) :
    Calls Tryz.prog 164 #[x, y] w fun e w' => ∃ v, e = .returned v ∧ IsBig w' v (m + n) ∧ Below w.heap.size w w' := by
  obtain ⟨ax, lx, cx, rfl, hlx, hrx, hnx, rfl⟩ := hx.form
  obtain ⟨ay, ly, cy, rfl, hly, hry, hny, rfl⟩ := hy.form
  have h1 := Cub.len_le hnx hm
  have h2 := Cub.len_le hny hn
  by_cases hlt : lx.length < ly.length
  · have := add_core _ ay ax ly.length lx.length cy cx ly lx w (Or.inr ⟨rfl, hlt⟩) (by omega) (by omega) ⟨rfl, hny.1, hry.cells.2.2.2⟩ ⟨rfl, hnx.1, hrx.cells.2.2.2⟩
    rw [Nat.add_comm] at this
    exact this
  · exact add_core _ ax ay lx.length ly.length cx cy lx ly w (Or.inl ⟨rfl, hlt⟩) (by omega) (by omega) ⟨rfl, hnx.1, hrx.cells.2.2.2⟩ ⟨rfl, hny.1, hry.cells.2.2.2⟩
theorem shift_any (x : Value) (m p k : Nat) (w : World) (hx : IsBig w x m) (hk : k ≤ 500000) (hm : m < 1000000000 ^ k) (hp : p ≤ 1000000) :
    Calls Tryz.prog 100 #[x, .int .i64 (p : Int)] w fun e w' => ∃ a n c, e = .returned (.agg #[.slice a n c]) ∧ IsBig w' (.agg #[.slice a n c]) (m * 10 ^ p) ∧ Below w.heap.size w w' := by
  have HX := hide hx
  obtain ⟨ap, lp, cp, rfl, hlp, hrp, hnp, hv⟩ := hx.form
  have h1 : lp.length ≤ k := Cub.len_le hnp (by rw [hv]; exact hm)
  have HZ := hide (fun W hW => isZero_any (.agg #[.slice ap lp.length cp]) m W hW)
  by_cases h0 : lp = []
  · have hm0 : m = 0 := by rw [← hv, h0]; rfl
    have e0 : (m == 0) = true := by rw [hm0]; rfl
    rw [e0] at HZ
    have e1 : m * 10 ^ p = m := by rw [hm0, Nat.zero_mul]
    rw [e1]
    generalize lp.length = np at *
    clear hv hm0 e0 e1 hx hm hlp hrp hnp h0
    go_enter Tryz.func100, Tryz.ntmps100
    go_wp2_with (go_at_call 85; refine (unhide HZ _ ((unhide HX).later ((((Below.refl _ _).alloc (Nat.le_refl _) _).alloc (by simp) _)))).mono ?_; rintro e w2 ⟨rfl, hb2⟩; have HB2 := hide (res1 (hb2.mono (by simp))); have b1 := (unhide HB2).c1; have b2 := (unhide HB2).c2; have f2 := (unhide HB2).f2)
    obtain ⟨r1, r2⟩ := (unhide HB2).done m ((unhide HX).later (unhide HB2).below)
    exact bodyPost_ret (v := .agg #[.slice ap np cp]) (by simp [results, Tryz.results100, go_sem, b2]) rfl ⟨_, _, _, rfl, r1, r2⟩
  · have hm0 : 0 < m := by
      rcases Nat.eq_zero_or_pos m with h | h
      · exact absurd ((Cub.normal_zero hnp (by decide)).1 (by rw [hv]; exact h)) h0
      · exact h
    have e0 : (m == 0) = false := by rw [beq_eq_false_iff_ne]; omega
    rw [e0] at HZ
    obtain ⟨wh, hwh⟩ : ∃ wh, wh = p / 9 := ⟨_, rfl⟩
    have hwb : wh ≤ 200000 := by omega
    have HH := hide (high_normal wh hnp h0)
    have hB : 1000000000 ^ wh * m < 1000000000 ^ (wh + k + 1) ∧ 10 ^ (p % 9) < 1000000000 ^ (wh + k + 1) := by
      refine ⟨?_, ?_⟩
      · rw [Nat.add_assoc, Nat.pow_add]
        refine Nat.mul_lt_mul_of_pos_left (Nat.lt_of_lt_of_le hm (Nat.pow_le_pow_right (by decide) (by omega))) (Nat.pow_pos (by decide))
      · have h3 : (10 : Nat) ^ (p % 9) < 10 ^ 9 := Nat.pow_lt_pow_right (by decide) (by omega)
        have h4 : (1000000000 : Nat) ^ 1 ≤ 1000000000 ^ (wh + k + 1) := Nat.pow_le_pow_right (by decide) (by omega)
        omega
    have hT : 10 ^ (p % 9) < 1000000000 := Nat.lt_of_lt_of_le (Nat.pow_lt_pow_right (by decide) (show p % 9 < 9 by omega)) (by decide)
    have H109 := hide (fun W => tenTo_any (p % 9) (10 ^ (p % 9)) W (by omega) rfl)
    have H68 := hide (fun W => bigOf_any (10 ^ (p % 9)) W (by omega))
    have H54 := hide (fun W x y (hx : IsBig W x (1000000000 ^ wh * m)) (hy : IsBig W y (10 ^ (p % 9))) => mulS x y (1000000000 ^ wh * m) (10 ^ (p % 9)) (m * 10 ^ p) (wh + k + 1) W hx hy (by omega) hB.1 hB.2 (by rw [hwh]; exact (shift_val m p).symm))
    have HP : Hid (Cells w ap lp) := hrp.cells.2.2.2
    have hnp1 : 0 < lp.length := List.length_pos_iff.2 h0
    obtain ⟨np, hnp'⟩ : ∃ np, np = lp.length := ⟨_, rfl⟩
    rw [← hnp'] at h1 hnp1 HX HZ ⊢
    have HNP := hide hnp'
    have HV := hide hv
    have HMOD : Hid ((p : Int) % 9 = ((p % 9 : Nat) : Int)) := (by omega : (p : Int) % 9 = ((p % 9 : Nat) : Int))
    have HDIV : Hid ((p : Int) / 9 = (wh : Int)) := (by omega : (p : Int) / 9 = (wh : Int))
    clear hwh
    generalize 10 ^ (p % 9) = T at *
    generalize m * 10 ^ p = R at *
    generalize hr9 : p % 9 = r9 at *
    clear hx hm hlp hrp hnp hnp' hv hB h0 e0
    obtain ⟨i0, hi, hz0, hz1, hz2⟩ := info_parts Tryz.info41
    go_enter Tryz.func100, Tryz.ntmps100
    go_upto_region 4 with (go_at_call 85; go_must (refine (unhide HZ _ ((unhide HX).later ((((Below.refl _ _).alloc (Nat.le_refl _) _).alloc (by simp) _)))).mono ?_; rintro e w2 ⟨rfl, hb2⟩; have HB2 := hide (res1 (hb2.mono (by simp))); have b1 := (unhide HB2).c1; have hs2 := (unhide HB2).size; clear hb2))
    rw [unhide HDIV]
    go_upto_region 5 with (at_make; go_must (refine wpList_make_full _ rfl _ _ 49 rfl (w.heap.size + 2) 41 i0 (.int .u64 0) 1 Tryz.underlying49 hi hz0 hz1 .i64 .i64 _ _ (wh + np) rfl rfl (by omega) (by omega) (by rw [hz2]; omega) (by unfold maxLen; omega) (by omega) ?_; intro w4 hown4 hgrow4; rw [u64s_made] at hown4; have HO4 : Hid (Own w4 w2.heap.size (List.replicate (wh + np) 0)) := Own.of_row hown4; have hb4 : Below w2.heap.size w2 w4 := (Below.refl _ _).grown hgrow4 (Nat.le_refl _) (fun k hk => by cases hk); have HB4 := hide ((unhide HB2).on (hb4.mono hs2)); have b4 := (unhide HB4).c1; clear hown4 hgrow4 b1))
    have hle : (wh : Int) ≤ (wh : Int) + (np : Int) := by omega
    have hnz : ¬ np = 0 := by omega
    go_region_law (refine step_copy_splice rfl (.tmp 20) (.tmp 22) 49 49 rfl 41 Tryz.underlying49 Tryz.size41 _ _ _ _ _ _ (by first | rfl | simp [Act.eval]) (by first | rfl | simp [Act.eval]) w2.heap.size wh (u64s (List.replicate (wh + np) 0)) 41 (unhide HO4) (u64s lp) (by rw [u64s_length, ← unhide HNP]; simp) (fun h0 => ⟨by simp, (unhide HP).src ((unhide HB4).below.drew) (by rw [u64s_length] at h0; exact h0)⟩) (by rw [u64s_length, u64s_length, List.length_replicate, ← unhide HNP]; omega) (u64s_one lp) w2.heap.size w4 ((Below.refl _ _).drew) (Nat.le_refl _) ?_; intro w5 hO5 hb5)
    all_goals (
      rw [splice_high lp np wh (unhide HNP)] at hO5
      have HB5 := hide ((unhide HB4).on (hb5.mono hs2))
      have HX5 : Hid (IsBig w5 (.agg #[.slice (some ⟨w2.heap.size, 0, none⟩) (wh + np) (wh + np)]) (1000000000 ^ wh * m)) := ⟨_, _, rfl, Own.row (unhide hO5) (wh + np) (wh + np) (by rw [List.length_append, List.length_replicate, ← unhide HNP]) (Nat.le_refl _) (by unfold maxLen; omega), (unhide HH).1, by rw [(unhide HH).2, unhide HV]⟩
      clear hO5 hb5 b4
      go_upto_region 6 with fail
      go_wp2_with (first
        | (go_at_call 151; go_must (rw [unhide HMOD]; refine (unhide H109 _).mono ?_; rintro e w' ⟨rfl, hw⟩; subst w'))
        | (go_at_call 73; go_must (refine (unhide H68 _).mono ?_; rintro e w6 ⟨a6, n6, c6, rfl, hbig6, hb6⟩; have HB6 := hide ((unhide HB5).on (hb6.mono (unhide HB5).size)); have HX6 := hide ((unhide HX5).later hb6); have HT6 := hide hbig6; clear hbig6 hb6))
        | (go_at_call 99; go_must (refine (unhide H54 _ _ _ (unhide HX6) (unhide HT6)).mono ?_; rintro e w7 ⟨a7, n7, c7, rfl, hbig7, hb7⟩; have HB7 := hide ((unhide HB6).on (hb7.mono (unhide HB6).size)); have HR7 := hide hbig7; clear hbig7 hb7; have b7 := (unhide HB7).c2; have f7 := (unhide HB7).f2)))
      obtain ⟨r1, r2⟩ := (unhide HB7).done R (unhide HR7)
      exact bodyPost_ret (v := .agg #[.slice a7 n7 c7]) (by simp [results, Tryz.results100, go_sem, b7]) rfl ⟨_, _, _, rfl, r1, r2⟩)
theorem isOdd_any (v : Value) (n : Nat) (w : World) (h : IsBig w v n) :
    Calls Tryz.prog 163 #[v] w fun e w' => e = .returned (.bool (n % 2 == 1)) ∧ Below w.heap.size w w' := by
  obtain ⟨a, l, cap, rfl, hl, hr, hn, rfl⟩ := h.form
  cases l with
  | nil =>
    have ex : (Cub.lval 1000000000 [] % 2 == 1) = false := rfl
    rw [ex]
    clear ex hn h hr
    simp only [List.length_nil] at *
    go_enter Tryz.func163, Tryz.ntmps163
    go_wp2
    go_ret
    exact ⟨rfl, (Below.refl _ _).alloc (Nat.le_refl _) _⟩
  | cons x t =>
    obtain ⟨a', cap', e, _, _, hc⟩ := hr
    simp only [Value.slice.injEq] at e
    obtain ⟨rfl, _, rfl⟩ := e
    obtain ⟨b, o, rfl, hb, hcell⟩ := hc (by simp)
    have c0 := hcell 0 (by simp)
    simp only [List.getElem_cons_zero, Nat.add_zero] at c0
    have ex : (Cub.lval 1000000000 (x :: t) % 2 == 1) = ((x : Int) % 2 == 1) := by
      rw [Bool.eq_iff_iff, beq_iff_eq, beq_iff_eq]
      simp only [Cub.lval]
      omega
    have hx : x < 18446744073709551616 := by have := hn.1 x (by simp); omega
    have hx0 : (0 : Int) ≤ (x : Int) := by omega
    have hlen : (0 : Int) < ((x :: t).length : Int) := by simp only [List.length_cons]; omega
    rw [ex]
    clear ex hn h hcell hc
    generalize (x :: t).length = len at *
    go_enter Tryz.func163, Tryz.ntmps163
    go_wp2
    go_ret
    exact ⟨by simp, (Below.refl _ _).alloc (Nat.le_refl _) _⟩
theorem parse_dec (s t u x rn rd : ByteArray) (b d : Bool) (re rk : Int) (w : World) (hs : s.size ≤ 65536) 
    (h80 : ∀ W, Calls Tryz.prog 138 #[.string s] W fun r w' => r = .returned (.tuple #[partsV b t u x d ⟨#[]⟩ 0, .int .i64 (-1)]) ∧ Below W.heap.size W w')
    (h81 : ∀ W, Below w.heap.size w W → Calls Tryz.prog 140 #[partsV b t u x d ⟨#[]⟩ 0] W fun r w' => r = .returned (.tuple #[.agg #[.string rn, .string rd], .int .i64 re, .int .i64 rk]) ∧ Below W.heap.size W w') : Calls Tryz.prog 93 #[.string s] w fun r w' => r = .returned (.tuple #[.agg #[.string rn, .string rd], .int .i64 re, .int .i64 rk]) ∧ Below w.heap.size w w' := by
  have hs' : ¬ (65536 : Int) < (s.size : Int) := by omega
  have H80 := hide h80
  unfold partsV at h81
  have H81 := hide h81
  clear h80 h81
  obtain ⟨V, hV⟩ : ∃ V, V = w.alloc (.cells #[.string ⟨#[]⟩, .string ⟨#[]⟩] 23) := ⟨_, rfl⟩
  have hbV : Below w.heap.size w V := by rw [hV]; exact (Below.refl _ _).alloc (Nat.le_refl _) _
  have HR : Hid (T2 V w.heap.size (.string ⟨#[]⟩) (.string ⟨#[]⟩) ∧ Below w.heap.size w V) := ⟨by rw [hV]; exact ⟨by simp [go_sem], by simp [go_sem], by simp [go_sem], by simp [go_sem]⟩, hbV⟩
  have HV := hide hV
  clear hbV
  go_enter Tryz.func93, Tryz.ntmps93
  go_upto_region 1 with fail
  rw [← unhide HV]
  clear hV HV
  go_upto_region 4 with (go_at_call 138; go_must (refine (unhide H80 _).mono ?_; rintro e w1 ⟨rfl, hb1⟩; have HR1 : Hid (T2 w1 w.heap.size (.string ⟨#[]⟩) (.string ⟨#[]⟩) ∧ Below w.heap.size w w1) := ⟨(unhide HR).1.later hb1, (unhide HR).2.trans (hb1.mono (unhide HR).2.size)⟩; clear hb1; (try unfold failV); unfold partsV))
  obtain ⟨V2, hV2⟩ : ∃ V2, V2 = w1.alloc (.cells #[.bool b, .string t, .string u, .string x, .bool d, .string ⟨#[]⟩, .int .i64 0] 154) := ⟨_, rfl⟩
  have hb2 : Below w1.heap.size w1 V2 := by rw [hV2]; exact (Below.refl _ _).alloc (Nat.le_refl _) _
  have HR2 : Hid (T2 V2 w.heap.size (.string ⟨#[]⟩) (.string ⟨#[]⟩) ∧ Below w.heap.size w V2) := ⟨(unhide HR1).1.later hb2, (unhide HR1).2.trans (hb2.mono (unhide HR1).2.size)⟩
  have c0 : V2.cell? ⟨w1.heap.size, 0, none⟩ = some (.bool b) := by rw [hV2]; simp [go_sem]
  have c1 : V2.cell? ⟨w1.heap.size, 1, none⟩ = some (.string t) := by rw [hV2]; simp [go_sem]
  have c2 : V2.cell? ⟨w1.heap.size, 2, none⟩ = some (.string u) := by rw [hV2]; simp [go_sem]
  have c3 : V2.cell? ⟨w1.heap.size, 3, none⟩ = some (.string x) := by rw [hV2]; simp [go_sem]
  have c4 : V2.cell? ⟨w1.heap.size, 4, none⟩ = some (.bool d) := by rw [hV2]; simp [go_sem]
  have c5 : V2.cell? ⟨w1.heap.size, 5, none⟩ = some (.string ⟨#[]⟩) := by rw [hV2]; simp [go_sem]
  have c6 : V2.cell? ⟨w1.heap.size, 6, none⟩ = some (.int .i64 0) := by rw [hV2]; simp [go_sem]
  rw [← hV2]
  clear hV2 hb2 HR HR1
  go_wp2_with (go_at_call 140; go_must (refine (unhide H81 _ (unhide HR2).2).mono ?_; rintro e w3 ⟨rfl, hb3⟩; have HR3 : Hid (T2 w3 w.heap.size (.string ⟨#[]⟩) (.string ⟨#[]⟩) ∧ Below w.heap.size w w3) := ⟨(unhide HR2).1.later hb3, (unhide HR2).2.trans (hb3.mono (unhide HR2).2.size)⟩; clear hb3 c0 c1 c2 c3 c4 c5 c6; have r0 := (unhide HR3).1.c0; have r1 := (unhide HR3).1.c1; have rf0 := (unhide HR3).1.f0; have rf1 := (unhide HR3).1.f1))
  have hS := (unhide HR3).1.store (.string rn) (.string rd)
  have hb : Below w.heap.size w (store2 w3 w.heap.size (.string rn) (.string rd)) := below_store2 (unhide HR3).2 (Nat.le_refl _) _ _
  have v0 := hS.c0; have v1 := hS.c1
  exact bodyPost_ret (v := .tuple #[.agg #[.string rn, .string rd], .int .i64 re, .int .i64 rk]) (w := store2 w3 w.heap.size (.string rn) (.string rd)) (by simp [results, Tryz.results93, go_sem, v0, v1]) rfl ⟨rfl, hb⟩
end Go.Proofs.YtijifpbpjinmhaaGreatDoor

/- TempsGroup: by way of any scale it is the same. -/
import Derived.Test.YtdmecoleplpdbaaGreatDoorOfs
import Derived.Test.YtdmecoleplpdbaaGreatDoorRefGcd
import Derived.Test.YtdmecoleplpdbaaGreatDoorGroup
namespace Go.Proofs.YtdmecoleplpdbaaGreatDoor
open Go.RowKit

set_option maxRecDepth 100000 in
set_option maxHeartbeats 4000000 in
theorem refR_walk (num den ds : ByteArray) (b r1 r2 e1 e2 g : Bool) (w : World) (hm : num.size ≤ 9223372036854775807)
    (hneg : (b = true ∧ 0 < num.size ∧ num.toList.isEmpty = false ∧ (∀ h : 0 < num.size, (num[0].toNat : Int) = 45) ∧ num.extract 1 num.size = ds) ∨ (b = false ∧ ds = num ∧ (num.toList.isEmpty = true ∨ (0 < num.size ∧ num.toList.isEmpty = false ∧ ∀ h : 0 < num.size, ((num[0].toNat : Int) == 45) = false))))
    (h1 : ∀ W, Calls Tryz.prog 32 #[.string ds] W fun e w' => e = .returned (.bool r1) ∧ w' = W) (h2 : ∀ W, Calls Tryz.prog 32 #[.string den] W fun e w' => e = .returned (.bool r2) ∧ w' = W)
    (z1 : (ds.toList == [48]) = e1) (z2 : (den.toList == [48]) = e2)
    (hg : r1 = true → r2 = true → e2 = false → ∀ W, Calls Tryz.prog 33 #[.string ds, .string den] W fun e w' => ∃ st, e = .returned (.string st) ∧ (st.toList == [49]) = g ∧ Below W.heap.size W w') :
    Calls Tryz.prog 11 #[.agg #[.string num, .string den]] w fun r w' => r = .returned (.bool (!(b && e1) && (r1 && (r2 && (!e2 && g))))) ∧ Below w.heap.size w w' := by
  obtain ⟨V, hV⟩ : ∃ V, V = w.alloc (.cells #[.string num, .string den] 23) := ⟨_, rfl⟩
  have HB : Hid (Below w.heap.size w V) := by rw [hV]; exact (Below.refl _ _).alloc (Nat.le_refl _) _
  have HC : Hid (V.cell? ⟨w.heap.size, 0, none⟩ = some (.string num) ∧ V.cell? ⟨w.heap.size, 1, none⟩ = some (.string den)) := by rw [hV]; exact ⟨by simp [go_sem], by simp [go_sem]⟩
  have HV := hide hV
  have H1 := hide h1
  have H2 := hide h2
  clear h1 h2
  rcases hneg with ⟨rfl, hp, he, h45, hds⟩ | ⟨rfl, rfl, hpos⟩
  · have h45' := h45 hp
    have hs' : (0 : Int) < (num.size : Int) := by omega
    have HDS := hide hds
    clear hds h45
    go_enter Tryz.func11, Tryz.ntmps11
    go_upto_region 4 with fail
    rw [unhide HDS, ← unhide HV]
    clear hV HV HDS h45' hs' hp he
    obtain ⟨t0, t1⟩ := unhide HC
    cases e1 with
    | true =>
      clear hg
      go_wp2_with fail
      go_ret
      exact ⟨rfl, unhide HB⟩
    | false =>
      cases r1 with
      | false =>
        clear hg
        go_wp2_with (first
        | (go_at_call_of 32 (Value.string ds); go_must (refine (unhide H1 _).mono ?_; rintro e w1 ⟨rfl, hw1⟩; obtain rfl : V = w1 := hw1.symm))
        | (go_at_call 32; go_must (refine (unhide H2 _).mono ?_; rintro e w1 ⟨rfl, hw1⟩; obtain rfl : V = w1 := hw1.symm))
        | (go_at_call 33; go_must (refine (unhide HG).mono ?_; rintro e w2 ⟨st, rfl, hst, hb2⟩; have HB2 := hide ((unhide HB).trans (hb2.mono (unhide HB).size)); clear hb2)))
        go_ret
        exact ⟨rfl, unhide HB⟩
      | true =>
        cases r2 with
        | false =>
          clear hg
          go_wp2_with (first
        | (go_at_call_of 32 (Value.string ds); go_must (refine (unhide H1 _).mono ?_; rintro e w1 ⟨rfl, hw1⟩; obtain rfl : V = w1 := hw1.symm))
        | (go_at_call 32; go_must (refine (unhide H2 _).mono ?_; rintro e w1 ⟨rfl, hw1⟩; obtain rfl : V = w1 := hw1.symm))
        | (go_at_call 33; go_must (refine (unhide HG).mono ?_; rintro e w2 ⟨st, rfl, hst, hb2⟩; have HB2 := hide ((unhide HB).trans (hb2.mono (unhide HB).size)); clear hb2)))
          go_ret
          exact ⟨rfl, unhide HB⟩
        | true =>
          cases e2 with
          | true =>
            clear hg
            go_wp2_with (first
        | (go_at_call_of 32 (Value.string ds); go_must (refine (unhide H1 _).mono ?_; rintro e w1 ⟨rfl, hw1⟩; obtain rfl : V = w1 := hw1.symm))
        | (go_at_call 32; go_must (refine (unhide H2 _).mono ?_; rintro e w1 ⟨rfl, hw1⟩; obtain rfl : V = w1 := hw1.symm))
        | (go_at_call 33; go_must (refine (unhide HG).mono ?_; rintro e w2 ⟨st, rfl, hst, hb2⟩; have HB2 := hide ((unhide HB).trans (hb2.mono (unhide HB).size)); clear hb2)))
            go_ret
            exact ⟨rfl, unhide HB⟩
          | false =>
            have HG := hide (hg rfl rfl rfl V)
            clear hg
            cases g with
            | true =>
              go_wp2_with (first
        | (go_at_call_of 32 (Value.string ds); go_must (refine (unhide H1 _).mono ?_; rintro e w1 ⟨rfl, hw1⟩; obtain rfl : V = w1 := hw1.symm))
        | (go_at_call 32; go_must (refine (unhide H2 _).mono ?_; rintro e w1 ⟨rfl, hw1⟩; obtain rfl : V = w1 := hw1.symm))
        | (go_at_call 33; go_must (refine (unhide HG).mono ?_; rintro e w2 ⟨st, rfl, hst, hb2⟩; have HB2 := hide ((unhide HB).trans (hb2.mono (unhide HB).size)); clear hb2)))
              go_ret
              exact ⟨rfl, unhide HB2⟩
            | false =>
              go_wp2_with (first
        | (go_at_call_of 32 (Value.string ds); go_must (refine (unhide H1 _).mono ?_; rintro e w1 ⟨rfl, hw1⟩; obtain rfl : V = w1 := hw1.symm))
        | (go_at_call 32; go_must (refine (unhide H2 _).mono ?_; rintro e w1 ⟨rfl, hw1⟩; obtain rfl : V = w1 := hw1.symm))
        | (go_at_call 33; go_must (refine (unhide HG).mono ?_; rintro e w2 ⟨st, rfl, hst, hb2⟩; have HB2 := hide ((unhide HB).trans (hb2.mono (unhide HB).size)); clear hb2)))
              go_ret
              exact ⟨rfl, unhide HB2⟩
  · rcases hpos with he | ⟨hp, he, h45⟩
    · go_enter Tryz.func11, Tryz.ntmps11
      go_upto_region 6 with fail
      rw [← unhide HV]
      clear hV HV he
      obtain ⟨t0, t1⟩ := unhide HC
      cases r1 with
      | false =>
        clear hg
        go_wp2_with (first
        | (go_at_call_of 32 (Value.string ds); go_must (refine (unhide H1 _).mono ?_; rintro e w1 ⟨rfl, hw1⟩; obtain rfl : V = w1 := hw1.symm))
        | (go_at_call 32; go_must (refine (unhide H2 _).mono ?_; rintro e w1 ⟨rfl, hw1⟩; obtain rfl : V = w1 := hw1.symm))
        | (go_at_call 33; go_must (refine (unhide HG).mono ?_; rintro e w2 ⟨st, rfl, hst, hb2⟩; have HB2 := hide ((unhide HB).trans (hb2.mono (unhide HB).size)); clear hb2)))
        go_ret
        exact ⟨rfl, unhide HB⟩
      | true =>
        cases r2 with
        | false =>
          clear hg
          go_wp2_with (first
        | (go_at_call_of 32 (Value.string ds); go_must (refine (unhide H1 _).mono ?_; rintro e w1 ⟨rfl, hw1⟩; obtain rfl : V = w1 := hw1.symm))
        | (go_at_call 32; go_must (refine (unhide H2 _).mono ?_; rintro e w1 ⟨rfl, hw1⟩; obtain rfl : V = w1 := hw1.symm))
        | (go_at_call 33; go_must (refine (unhide HG).mono ?_; rintro e w2 ⟨st, rfl, hst, hb2⟩; have HB2 := hide ((unhide HB).trans (hb2.mono (unhide HB).size)); clear hb2)))
          go_ret
          exact ⟨rfl, unhide HB⟩
        | true =>
          cases e2 with
          | true =>
            clear hg
            go_wp2_with (first
        | (go_at_call_of 32 (Value.string ds); go_must (refine (unhide H1 _).mono ?_; rintro e w1 ⟨rfl, hw1⟩; obtain rfl : V = w1 := hw1.symm))
        | (go_at_call 32; go_must (refine (unhide H2 _).mono ?_; rintro e w1 ⟨rfl, hw1⟩; obtain rfl : V = w1 := hw1.symm))
        | (go_at_call 33; go_must (refine (unhide HG).mono ?_; rintro e w2 ⟨st, rfl, hst, hb2⟩; have HB2 := hide ((unhide HB).trans (hb2.mono (unhide HB).size)); clear hb2)))
            go_ret
            exact ⟨rfl, unhide HB⟩
          | false =>
            have HG := hide (hg rfl rfl rfl V)
            clear hg
            cases g with
            | true =>
              go_wp2_with (first
        | (go_at_call_of 32 (Value.string ds); go_must (refine (unhide H1 _).mono ?_; rintro e w1 ⟨rfl, hw1⟩; obtain rfl : V = w1 := hw1.symm))
        | (go_at_call 32; go_must (refine (unhide H2 _).mono ?_; rintro e w1 ⟨rfl, hw1⟩; obtain rfl : V = w1 := hw1.symm))
        | (go_at_call 33; go_must (refine (unhide HG).mono ?_; rintro e w2 ⟨st, rfl, hst, hb2⟩; have HB2 := hide ((unhide HB).trans (hb2.mono (unhide HB).size)); clear hb2)))
              go_ret
              exact ⟨rfl, unhide HB2⟩
            | false =>
              go_wp2_with (first
        | (go_at_call_of 32 (Value.string ds); go_must (refine (unhide H1 _).mono ?_; rintro e w1 ⟨rfl, hw1⟩; obtain rfl : V = w1 := hw1.symm))
        | (go_at_call 32; go_must (refine (unhide H2 _).mono ?_; rintro e w1 ⟨rfl, hw1⟩; obtain rfl : V = w1 := hw1.symm))
        | (go_at_call 33; go_must (refine (unhide HG).mono ?_; rintro e w2 ⟨st, rfl, hst, hb2⟩; have HB2 := hide ((unhide HB).trans (hb2.mono (unhide HB).size)); clear hb2)))
              go_ret
              exact ⟨rfl, unhide HB2⟩
    · have h45' := h45 hp
      have hs' : (0 : Int) < (ds.size : Int) := by omega
      clear h45
      go_enter Tryz.func11, Tryz.ntmps11
      go_upto_region 6 with fail
      rw [← unhide HV]
      clear hV HV h45' hs' he
      obtain ⟨t0, t1⟩ := unhide HC
      cases r1 with
      | false =>
        clear hg
        go_wp2_with (first
        | (go_at_call_of 32 (Value.string ds); go_must (refine (unhide H1 _).mono ?_; rintro e w1 ⟨rfl, hw1⟩; obtain rfl : V = w1 := hw1.symm))
        | (go_at_call 32; go_must (refine (unhide H2 _).mono ?_; rintro e w1 ⟨rfl, hw1⟩; obtain rfl : V = w1 := hw1.symm))
        | (go_at_call 33; go_must (refine (unhide HG).mono ?_; rintro e w2 ⟨st, rfl, hst, hb2⟩; have HB2 := hide ((unhide HB).trans (hb2.mono (unhide HB).size)); clear hb2)))
        go_ret
        exact ⟨rfl, unhide HB⟩
      | true =>
        cases r2 with
        | false =>
          clear hg
          go_wp2_with (first
        | (go_at_call_of 32 (Value.string ds); go_must (refine (unhide H1 _).mono ?_; rintro e w1 ⟨rfl, hw1⟩; obtain rfl : V = w1 := hw1.symm))
        | (go_at_call 32; go_must (refine (unhide H2 _).mono ?_; rintro e w1 ⟨rfl, hw1⟩; obtain rfl : V = w1 := hw1.symm))
        | (go_at_call 33; go_must (refine (unhide HG).mono ?_; rintro e w2 ⟨st, rfl, hst, hb2⟩; have HB2 := hide ((unhide HB).trans (hb2.mono (unhide HB).size)); clear hb2)))
          go_ret
          exact ⟨rfl, unhide HB⟩
        | true =>
          cases e2 with
          | true =>
            clear hg
            go_wp2_with (first
        | (go_at_call_of 32 (Value.string ds); go_must (refine (unhide H1 _).mono ?_; rintro e w1 ⟨rfl, hw1⟩; obtain rfl : V = w1 := hw1.symm))
        | (go_at_call 32; go_must (refine (unhide H2 _).mono ?_; rintro e w1 ⟨rfl, hw1⟩; obtain rfl : V = w1 := hw1.symm))
        | (go_at_call 33; go_must (refine (unhide HG).mono ?_; rintro e w2 ⟨st, rfl, hst, hb2⟩; have HB2 := hide ((unhide HB).trans (hb2.mono (unhide HB).size)); clear hb2)))
            go_ret
            exact ⟨rfl, unhide HB⟩
          | false =>
            have HG := hide (hg rfl rfl rfl V)
            clear hg
            cases g with
            | true =>
              go_wp2_with (first
        | (go_at_call_of 32 (Value.string ds); go_must (refine (unhide H1 _).mono ?_; rintro e w1 ⟨rfl, hw1⟩; obtain rfl : V = w1 := hw1.symm))
        | (go_at_call 32; go_must (refine (unhide H2 _).mono ?_; rintro e w1 ⟨rfl, hw1⟩; obtain rfl : V = w1 := hw1.symm))
        | (go_at_call 33; go_must (refine (unhide HG).mono ?_; rintro e w2 ⟨st, rfl, hst, hb2⟩; have HB2 := hide ((unhide HB).trans (hb2.mono (unhide HB).size)); clear hb2)))
              go_ret
              exact ⟨rfl, unhide HB2⟩
            | false =>
              go_wp2_with (first
        | (go_at_call_of 32 (Value.string ds); go_must (refine (unhide H1 _).mono ?_; rintro e w1 ⟨rfl, hw1⟩; obtain rfl : V = w1 := hw1.symm))
        | (go_at_call 32; go_must (refine (unhide H2 _).mono ?_; rintro e w1 ⟨rfl, hw1⟩; obtain rfl : V = w1 := hw1.symm))
        | (go_at_call 33; go_must (refine (unhide HG).mono ?_; rintro e w2 ⟨st, rfl, hst, hb2⟩; have HB2 := hide ((unhide HB).trans (hb2.mono (unhide HB).size)); clear hb2)))
              go_ret
              exact ⟨rfl, unhide HB2⟩
theorem byte_45 (c : UInt8) : ((c.toNat : Int) = 45) ↔ c = 45 := by
  constructor
  · intro h
    have : c.toNat = 45 := by omega
    rw [← Cub.ofNat_toNat c, this]; rfl
  · intro h; subst h; rfl
theorem ext1 (s : ByteArray) : (s.extract 1 s.size).data.toList = s.data.toList.tail := by
  rw [ByteArray.data_extract, Array.toList_extract, List.extract_eq_take_drop]
  have h1 : s.size = s.data.toList.length := (list_len s).symm
  rw [h1]
  cases s.data.toList with
  | nil => rfl
  | cons a t => simp
theorem one_lt_ten (e : Nat) (he : 1 ≤ e) : 1 < 10 ^ e := Nat.lt_of_lt_of_le (by decide : 1 < 10 ^ 1) (Nat.pow_le_pow_right (by decide) he)
theorem tb_eq49 (n : Nat) (h : n < 10 ^ 600) : ((tb n).toList == [49]) = (n == 1) := by
  have h1 : (1 : Nat) < 10 ^ 600 := one_lt_ten 600 (by decide)
  have e1 : Lib.decDigits 1 = [49] := by rw [Lib.decDigits]; simp
  by_cases h0 : n = 1
  · subst h0; rw [Lib.toList_data, tb_list 1 h1, e1]; rfl
  · rw [beq_eq_false_iff_ne.2 h0, beq_eq_false_iff_ne]
    intro e
    rw [Lib.toList_data, ← e1, ← tb_list 1 h1] at e
    have := congrArg Cub.dval e
    rw [(tb_right n h).2, (tb_right 1 h1).2] at this
    exact h0 this
theorem refR_any (num den : ByteArray) (w : World) (s1 : num.size ≤ maxLen) (s2 : den.size ≤ maxLen) :
    ∃ ok : Bool, (ok = true ↔ RightT num den) ∧ Calls Tryz.prog 11 #[.agg #[.string num, .string den]] w fun r w' => r = .returned (.bool ok) ∧ Below w.heap.size w w' := by
  have hneg : (isNeg num = true ∧ 0 < num.size ∧ num.toList.isEmpty = false ∧ (∀ h : 0 < num.size, (num[0].toNat : Int) = 45) ∧ num.extract 1 num.size = digT num) ∨ (isNeg num = false ∧ digT num = num ∧ (num.toList.isEmpty = true ∨ (0 < num.size ∧ num.toList.isEmpty = false ∧ ∀ h : 0 < num.size, ((num[0].toNat : Int) == 45) = false))) := by
    rcases Nat.eq_zero_or_pos num.size with hz | hp
    · right
      have hl : num.data.toList = [] := by rw [← List.length_eq_zero_iff, list_len]; exact hz
      have hn : isNeg num = false := by unfold isNeg; rw [hl]; rfl
      exact ⟨hn, by unfold digT; rw [if_neg (by rw [hn]; decide)], Or.inl (empty_of num hz)⟩
    · have hh := list_head num hp
      by_cases hn : isNeg num = true
      · left
        have h45 : num[0] = 45 := by unfold isNeg at hn; rw [hh] at hn; simpa using hn
        refine ⟨hn, hp, not_empty_of num hp, fun _ => (byte_45 _).2 h45, ?_⟩
        apply bytes_ext
        rw [ext1, digT_list, if_pos hn]
      · right
        have hn' : isNeg num = false := by simpa using hn
        refine ⟨hn', by unfold digT; rw [if_neg hn], Or.inr ⟨hp, not_empty_of num hp, fun _ => ?_⟩⟩
        rw [beq_eq_false_iff_ne]
        intro e
        apply hn
        unfold isNeg
        rw [hh, (byte_45 _).1 e]; rfl
  have h1 := fun W => refRight_any (digT num) W (Nat.le_trans (digT_size num) s1)
  have h2 := fun W => refRight_any den W s2
  by_cases hok : Cub.rightB (digT num).data.toList = true ∧ Cub.rightB den.data.toList = true ∧ (den.toList == [48]) = false
  · obtain ⟨k1, k2, k3⟩ := hok
    obtain ⟨n, hn, e1⟩ := tb_of k1
    obtain ⟨d, hd, e2⟩ := tb_of k2
    have hd0 : d ≠ 0 := by rw [e2, tb_eq48 d hd] at k3; simpa using k3
    have hgl : Nat.gcd n d < 10 ^ 600 := Nat.lt_of_le_of_lt (Nat.gcd_le_right _ (by omega)) hd
    refine ⟨_, ?_, refR_walk num den (digT num) (isNeg num) _ _ _ _ (Nat.gcd n d == 1) w s1 hneg h1 h2 rfl rfl (fun _ _ _ W => ?_)⟩
    · rw [right_iff, k1, k2, k3, e1, e2, tb_eq48 n hn, show val (tb n) = n from (tb_right n hn).2, show val (tb d) = d from (tb_right d hd).2]
      simp [hd0]
      intro _
      cases isNeg num <;> simp
    · rw [e1, e2]
      refine (refCommon_any n d W hn hd).mono ?_
      rintro e w' ⟨rfl, hb⟩
      exact ⟨_, rfl, tb_eq49 _ hgl, hb⟩
  · refine ⟨_, ?_, refR_walk num den (digT num) (isNeg num) _ _ _ _ false w s1 hneg h1 h2 rfl rfl (fun k1 k2 k3 => absurd ⟨k1, k2, k3⟩ hok)⟩
    rw [right_iff]
    constructor
    · intro h; simp at h
    · rintro ⟨k1, k2, _, k4, _⟩
      exfalso
      apply hok
      obtain ⟨d, hd, e2⟩ := tb_of k2
      refine ⟨k1, k2, ?_⟩
      rw [e2, tb_eq48 d hd, beq_eq_false_iff_ne]
      rw [e2, show val (tb d) = d from (tb_right d hd).2] at k4
      exact k4
end Go.Proofs.YtdmecoleplpdbaaGreatDoor

namespace Go.Proofs.YtdmecoleplpdbaaGreatDoor
open Go.RowKit
theorem back_k {K f o : Rat} (hf : f ≠ 0) : (K + -o) * f⁻¹ * f + o = K := by
  rw [Rat.mul_assoc, Rat.inv_mul_cancel _ hf, Rat.mul_one, Rat.add_assoc, Rat.neg_add_cancel, Rat.add_zero]
theorem self_x {x f o : Rat} (hf : f ≠ 0) : (x * f + o + -o) * f⁻¹ = x := by
  rw [Rat.add_assoc, Rat.add_neg_cancel, Rat.add_zero, Rat.mul_assoc, Rat.mul_inv_cancel _ hf, Rat.mul_one]
set_option maxRecDepth 100000 in
set_option maxHeartbeats 2000000 in
theorem group_wrong (n d : ByteArray) (a b c : Int) (w : World)
    (hr : ∀ W, Below w.heap.size w W → Calls Tryz.prog 11 #[.agg #[.string n, .string d]] W fun r w' => r = .returned (.bool false) ∧ Below W.heap.size W w')
    (haw : ∀ W, Below w.heap.size w W → Calls Tryz.prog 10 #[] W fun r w' => r = .returned (.bool true) ∧ Below W.heap.size W w') :
    Calls Tryz.prog 4 #[.agg #[.string n, .string d], .int .i64 a, .int .i64 b, .int .i64 c] w fun r w' => r = .returned (.bool true) ∧ Below w.heap.size w w' := by
  obtain ⟨V, hV⟩ : ∃ V, V = w.alloc (.cells #[.string n, .string d] 23) := ⟨_, rfl⟩
  have HN : Hid (T2 V w.heap.size (.string n) (.string d)) := by rw [hV]; exact ⟨by simp [go_sem], by simp [go_sem], by simp [go_sem], by simp [go_sem]⟩
  have HB : Hid (Below w.heap.size w V) := by rw [hV]; exact (Below.refl _ _).alloc (Nat.le_refl _) _
  have HV := hide hV
  have HR := hide hr; have HAW := hide haw
  clear hV hr haw
  go_enter Tryz.func4, Tryz.ntmps4
  go_upto_region 1 with fail
  rw [← unhide HV]
  clear HV
  have q0 := (unhide HN).c0; have q1 := (unhide HN).c1
  go_wp2_with (first
    | (go_at_call 11; go_must (refine (unhide HR _ (unhide HB)).mono ?_; rintro e V1 ⟨rfl, hb1⟩; have HB1 := hide ((unhide HB).trans (hb1.mono (unhide HB).size)); clear hb1 q0 q1))
    | (go_at_call 10; go_must (refine (unhide HAW _ (unhide HB1)).mono ?_; rintro e V2 ⟨rfl, hb2⟩; have HB2 := hide ((unhide HB1).trans (hb2.mono (unhide HB1).size)); clear hb2)))
  go_ret
  exact ⟨rfl, unhide HB2⟩
theorem errT_ne (z : Rat) : errT z ≠ 9 := by unfold errT; split <;> decide
theorem law_group (n d : ByteArray) (a b c : Int) (w : World) (htab : Tab w) (s1 : n.size ≤ maxLen) (s2 : d.size ≤ maxLen) :
    Calls Tryz.prog 4 #[.agg #[.string n, .string d], .int .i64 a, .int .i64 b, .int .i64 c] w fun r w' => r = .returned (.bool true) ∧ Below w.heap.size w w' := by
  have haw : ∀ W, Below w.heap.size w W → Calls Tryz.prog 10 #[] W fun r w' => r = .returned (.bool true) ∧ Below W.heap.size W w' := fun W hb => awake_any W (htab.later hb)
  by_cases h : RightT n d
  · obtain ⟨x, hx⟩ := (right_isR _ _).1 h
    have hr : ∀ W, Below w.heap.size w W → Calls Tryz.prog 11 #[.agg #[.string n, .string d]] W fun r w' => r = .returned (.bool true) ∧ Below W.heap.size W w' := fun W _ => by
      obtain ⟨ok, hok, hc⟩ := refR_any n d W s1 s2
      rw [hok.2 h] at hc
      exact hc
    have ha := wds_first (oneK a) (oneK_lt a); have hb := wds_first (oneK b) (oneK_lt b); have hc := wds_first (oneK c) (oneK_lt c)
    by_cases hk : x * fq (wix (oneK a)) + oq (wix (oneK a)) < 0
    · exact group_no9 n d ⟨#[]⟩ ⟨#[]⟩ ⟨#[]⟩ ⟨#[]⟩ _ _ _ a b c w hr (fun W _ => one_any a W) (fun W _ => one_any b W) (fun W _ => one_any c W)
        (fun W hW => to_below n d _ _ x _ _ W hx ha hb hk (htab.later hW)) (fun W hW => to_below n d _ _ x _ _ W hx ha hc hk (htab.later hW)) haw
    · have h1 := fun W (hW : Below w.heap.size w W) => to_tell n d _ _ x _ _ W hx ha hb hk (htab.later hW)
      have h2 := fun W (hW : Below w.heap.size w W) => to_tell n d _ _ x _ _ W hx ha hc hk (htab.later hW)
      have h4 := fun W (hW : Below w.heap.size w W) => to_tell n d _ _ x _ _ W hx ha ha hk (htab.later hW)
      rw [self_x (fq_ne _), ← hx.2.1, ← hx.2.2, show errT x = 0 from by unfold errT; rw [if_pos hx.1]] at h4
      generalize hK : x * fq (wix (oneK a)) + oq (wix (oneK a)) = K at *
      by_cases hy : Small ((K + -oq (wix (oneK b))) * (fq (wix (oneK b)))⁻¹)
      · have h3 := fun W (hW : Below w.heap.size w W) => to_tell (numT ((K + -oq (wix (oneK b))) * (fq (wix (oneK b)))⁻¹)) (denT ((K + -oq (wix (oneK b))) * (fq (wix (oneK b)))⁻¹)) _ _ _ _ _ W ⟨hy, rfl, rfl⟩ hb hc (by rw [back_k (fq_ne _)]; exact hk) (htab.later hW)
        rw [back_k (fq_ne _)] at h3
        rw [show errT ((K + -oq (wix (oneK b))) * (fq (wix (oneK b)))⁻¹) = 0 from by unfold errT; rw [if_pos hy]] at h1
        exact group_ok n d _ _ _ _ _ _ _ a b c _ w hr (fun W _ => one_any a W) (fun W _ => one_any b W) (fun W _ => one_any c W) h1 h2 haw h3 h4 (errT_ne _)
      · rw [show errT ((K + -oq (wix (oneK b))) * (fq (wix (oneK b)))⁻¹) = 7 from by unfold errT; rw [if_neg hy]] at h1
        exact group_no7 n d _ _ _ _ _ _ _ a b c _ w hr (fun W _ => one_any a W) (fun W _ => one_any b W) (fun W _ => one_any c W) h1 h2 haw (errT_ne _)
  · refine group_wrong n d a b c w (fun W _ => ?_) haw
    obtain ⟨ok, hok, hc⟩ := refR_any n d W s1 s2
    rw [show ok = false from by cases ok with | true => exact absurd (hok.1 rfl) h | false => rfl] at hc
    exact hc
end Go.Proofs.YtdmecoleplpdbaaGreatDoor

/- Boxes; the text of 1. (Also in the texts of Pow and RatReckons: for those that lean on none of them.) -/
import Derived.Test.YtimihoonnglniaaGreatDoorQuo
import Derived.Test.YtimihoonnglniaaGreatDoorRefGcd
import Derived.Test.YtimihoonnglniaaGreatDoorAwake
import Derived.Test.YtimihoonnglniaaGreatDoorRefVal
import Derived.Test.YtimihoonnglniaaGreatDoorRefFr
namespace Go.Proofs.YtimihoonnglniaaGreatDoor
open Go.RowKit

set_option maxRecDepth 100000 in
set_option maxHeartbeats 4000000 in
theorem refR_walk (num den ds : ByteArray) (b r1 r2 e1 e2 g : Bool) (w : World) (hm : num.size ≤ 9223372036854775807)
    (hneg : (b = true ∧ 0 < num.size ∧ num.toList.isEmpty = false ∧ (∀ h : 0 < num.size, (num[0].toNat : Int) = 45) ∧ num.extract 1 num.size = ds) ∨ (b = false ∧ ds = num ∧ (num.toList.isEmpty = true ∨ (0 < num.size ∧ num.toList.isEmpty = false ∧ ∀ h : 0 < num.size, ((num[0].toNat : Int) == 45) = false))))
    (h1 : ∀ W, Calls Tryz.prog 32 #[.string ds] W fun e w' => e = .returned (.bool r1) ∧ w' = W) (h2 : ∀ W, Calls Tryz.prog 32 #[.string den] W fun e w' => e = .returned (.bool r2) ∧ w' = W)
    (z1 : (ds.toList == [48]) = e1) (z2 : (den.toList == [48]) = e2)
    (hg : r1 = true → r2 = true → e2 = false → ∀ W, Calls Tryz.prog 33 #[.string ds, .string den] W fun e w' => ∃ st, e = .returned (.string st) ∧ (st.toList == [49]) = g ∧ Below W.heap.size W w') :
    Calls Tryz.prog 11 #[.agg #[.string num, .string den]] w fun r w' => r = .returned (.bool (!(b && e1) && (r1 && (r2 && (!e2 && g))))) ∧ Below w.heap.size w w' := by
  obtain ⟨V, hV⟩ : ∃ V, V = w.alloc (.cells #[.string num, .string den] 23) := ⟨_, rfl⟩
  have HB : Hid (Below w.heap.size w V) := by rw [hV]; exact (Below.refl _ _).alloc (Nat.le_refl _) _
  have HC : Hid (V.cell? ⟨w.heap.size, 0, none⟩ = some (.string num) ∧ V.cell? ⟨w.heap.size, 1, none⟩ = some (.string den)) := by rw [hV]; exact ⟨by simp [go_sem], by simp [go_sem]⟩
  have HV := hide hV
  have H1 := hide h1
  have H2 := hide h2
  clear h1 h2
  rcases hneg with ⟨rfl, hp, he, h45, hds⟩ | ⟨rfl, rfl, hpos⟩
  · have h45' := h45 hp
    have hs' : (0 : Int) < (num.size : Int) := by omega
    have HDS := hide hds
    clear hds h45
    go_enter Tryz.func11, Tryz.ntmps11
    go_upto_region 4 with fail
    rw [unhide HDS, ← unhide HV]
    clear hV HV HDS h45' hs' hp he
    obtain ⟨t0, t1⟩ := unhide HC
    cases e1 with
    | true =>
      clear hg
      go_wp2_with fail
      go_ret
      exact ⟨rfl, unhide HB⟩
    | false =>
      cases r1 with
      | false =>
        clear hg
        go_wp2_with (first
        | (go_at_call_of 32 (Value.string ds); go_must (refine (unhide H1 _).mono ?_; rintro e w1 ⟨rfl, hw1⟩; obtain rfl : V = w1 := hw1.symm))
        | (go_at_call 32; go_must (refine (unhide H2 _).mono ?_; rintro e w1 ⟨rfl, hw1⟩; obtain rfl : V = w1 := hw1.symm))
        | (go_at_call 33; go_must (refine (unhide HG).mono ?_; rintro e w2 ⟨st, rfl, hst, hb2⟩; have HB2 := hide ((unhide HB).trans (hb2.mono (unhide HB).size)); clear hb2)))
        go_ret
        exact ⟨rfl, unhide HB⟩
      | true =>
        cases r2 with
        | false =>
          clear hg
          go_wp2_with (first
        | (go_at_call_of 32 (Value.string ds); go_must (refine (unhide H1 _).mono ?_; rintro e w1 ⟨rfl, hw1⟩; obtain rfl : V = w1 := hw1.symm))
        | (go_at_call 32; go_must (refine (unhide H2 _).mono ?_; rintro e w1 ⟨rfl, hw1⟩; obtain rfl : V = w1 := hw1.symm))
        | (go_at_call 33; go_must (refine (unhide HG).mono ?_; rintro e w2 ⟨st, rfl, hst, hb2⟩; have HB2 := hide ((unhide HB).trans (hb2.mono (unhide HB).size)); clear hb2)))
          go_ret
          exact ⟨rfl, unhide HB⟩
        | true =>
          cases e2 with
          | true =>
            clear hg
            go_wp2_with (first
        | (go_at_call_of 32 (Value.string ds); go_must (refine (unhide H1 _).mono ?_; rintro e w1 ⟨rfl, hw1⟩; obtain rfl : V = w1 := hw1.symm))
        | (go_at_call 32; go_must (refine (unhide H2 _).mono ?_; rintro e w1 ⟨rfl, hw1⟩; obtain rfl : V = w1 := hw1.symm))
        | (go_at_call 33; go_must (refine (unhide HG).mono ?_; rintro e w2 ⟨st, rfl, hst, hb2⟩; have HB2 := hide ((unhide HB).trans (hb2.mono (unhide HB).size)); clear hb2)))
            go_ret
            exact ⟨rfl, unhide HB⟩
          | false =>
            have HG := hide (hg rfl rfl rfl V)
            clear hg
            cases g with
            | true =>
              go_wp2_with (first
        | (go_at_call_of 32 (Value.string ds); go_must (refine (unhide H1 _).mono ?_; rintro e w1 ⟨rfl, hw1⟩; obtain rfl : V = w1 := hw1.symm))
        | (go_at_call 32; go_must (refine (unhide H2 _).mono ?_; rintro e w1 ⟨rfl, hw1⟩; obtain rfl : V = w1 := hw1.symm))
        | (go_at_call 33; go_must (refine (unhide HG).mono ?_; rintro e w2 ⟨st, rfl, hst, hb2⟩; have HB2 := hide ((unhide HB).trans (hb2.mono (unhide HB).size)); clear hb2)))
              go_ret
              exact ⟨rfl, unhide HB2⟩
            | false =>
              go_wp2_with (first
        | (go_at_call_of 32 (Value.string ds); go_must (refine (unhide H1 _).mono ?_; rintro e w1 ⟨rfl, hw1⟩; obtain rfl : V = w1 := hw1.symm))
        | (go_at_call 32; go_must (refine (unhide H2 _).mono ?_; rintro e w1 ⟨rfl, hw1⟩; obtain rfl : V = w1 := hw1.symm))
        | (go_at_call 33; go_must (refine (unhide HG).mono ?_; rintro e w2 ⟨st, rfl, hst, hb2⟩; have HB2 := hide ((unhide HB).trans (hb2.mono (unhide HB).size)); clear hb2)))
              go_ret
              exact ⟨rfl, unhide HB2⟩
  · rcases hpos with he | ⟨hp, he, h45⟩
    · go_enter Tryz.func11, Tryz.ntmps11
      go_upto_region 6 with fail
      rw [← unhide HV]
      clear hV HV he
      obtain ⟨t0, t1⟩ := unhide HC
      cases r1 with
      | false =>
        clear hg
        go_wp2_with (first
        | (go_at_call_of 32 (Value.string ds); go_must (refine (unhide H1 _).mono ?_; rintro e w1 ⟨rfl, hw1⟩; obtain rfl : V = w1 := hw1.symm))
        | (go_at_call 32; go_must (refine (unhide H2 _).mono ?_; rintro e w1 ⟨rfl, hw1⟩; obtain rfl : V = w1 := hw1.symm))
        | (go_at_call 33; go_must (refine (unhide HG).mono ?_; rintro e w2 ⟨st, rfl, hst, hb2⟩; have HB2 := hide ((unhide HB).trans (hb2.mono (unhide HB).size)); clear hb2)))
        go_ret
        exact ⟨rfl, unhide HB⟩
      | true =>
        cases r2 with
        | false =>
          clear hg
          go_wp2_with (first
        | (go_at_call_of 32 (Value.string ds); go_must (refine (unhide H1 _).mono ?_; rintro e w1 ⟨rfl, hw1⟩; obtain rfl : V = w1 := hw1.symm))
        | (go_at_call 32; go_must (refine (unhide H2 _).mono ?_; rintro e w1 ⟨rfl, hw1⟩; obtain rfl : V = w1 := hw1.symm))
        | (go_at_call 33; go_must (refine (unhide HG).mono ?_; rintro e w2 ⟨st, rfl, hst, hb2⟩; have HB2 := hide ((unhide HB).trans (hb2.mono (unhide HB).size)); clear hb2)))
          go_ret
          exact ⟨rfl, unhide HB⟩
        | true =>
          cases e2 with
          | true =>
            clear hg
            go_wp2_with (first
        | (go_at_call_of 32 (Value.string ds); go_must (refine (unhide H1 _).mono ?_; rintro e w1 ⟨rfl, hw1⟩; obtain rfl : V = w1 := hw1.symm))
        | (go_at_call 32; go_must (refine (unhide H2 _).mono ?_; rintro e w1 ⟨rfl, hw1⟩; obtain rfl : V = w1 := hw1.symm))
        | (go_at_call 33; go_must (refine (unhide HG).mono ?_; rintro e w2 ⟨st, rfl, hst, hb2⟩; have HB2 := hide ((unhide HB).trans (hb2.mono (unhide HB).size)); clear hb2)))
            go_ret
            exact ⟨rfl, unhide HB⟩
          | false =>
            have HG := hide (hg rfl rfl rfl V)
            clear hg
            cases g with
            | true =>
              go_wp2_with (first
        | (go_at_call_of 32 (Value.string ds); go_must (refine (unhide H1 _).mono ?_; rintro e w1 ⟨rfl, hw1⟩; obtain rfl : V = w1 := hw1.symm))
        | (go_at_call 32; go_must (refine (unhide H2 _).mono ?_; rintro e w1 ⟨rfl, hw1⟩; obtain rfl : V = w1 := hw1.symm))
        | (go_at_call 33; go_must (refine (unhide HG).mono ?_; rintro e w2 ⟨st, rfl, hst, hb2⟩; have HB2 := hide ((unhide HB).trans (hb2.mono (unhide HB).size)); clear hb2)))
              go_ret
              exact ⟨rfl, unhide HB2⟩
            | false =>
              go_wp2_with (first
        | (go_at_call_of 32 (Value.string ds); go_must (refine (unhide H1 _).mono ?_; rintro e w1 ⟨rfl, hw1⟩; obtain rfl : V = w1 := hw1.symm))
        | (go_at_call 32; go_must (refine (unhide H2 _).mono ?_; rintro e w1 ⟨rfl, hw1⟩; obtain rfl : V = w1 := hw1.symm))
        | (go_at_call 33; go_must (refine (unhide HG).mono ?_; rintro e w2 ⟨st, rfl, hst, hb2⟩; have HB2 := hide ((unhide HB).trans (hb2.mono (unhide HB).size)); clear hb2)))
              go_ret
              exact ⟨rfl, unhide HB2⟩
    · have h45' := h45 hp
      have hs' : (0 : Int) < (ds.size : Int) := by omega
      clear h45
      go_enter Tryz.func11, Tryz.ntmps11
      go_upto_region 6 with fail
      rw [← unhide HV]
      clear hV HV h45' hs' he
      obtain ⟨t0, t1⟩ := unhide HC
      cases r1 with
      | false =>
        clear hg
        go_wp2_with (first
        | (go_at_call_of 32 (Value.string ds); go_must (refine (unhide H1 _).mono ?_; rintro e w1 ⟨rfl, hw1⟩; obtain rfl : V = w1 := hw1.symm))
        | (go_at_call 32; go_must (refine (unhide H2 _).mono ?_; rintro e w1 ⟨rfl, hw1⟩; obtain rfl : V = w1 := hw1.symm))
        | (go_at_call 33; go_must (refine (unhide HG).mono ?_; rintro e w2 ⟨st, rfl, hst, hb2⟩; have HB2 := hide ((unhide HB).trans (hb2.mono (unhide HB).size)); clear hb2)))
        go_ret
        exact ⟨rfl, unhide HB⟩
      | true =>
        cases r2 with
        | false =>
          clear hg
          go_wp2_with (first
        | (go_at_call_of 32 (Value.string ds); go_must (refine (unhide H1 _).mono ?_; rintro e w1 ⟨rfl, hw1⟩; obtain rfl : V = w1 := hw1.symm))
        | (go_at_call 32; go_must (refine (unhide H2 _).mono ?_; rintro e w1 ⟨rfl, hw1⟩; obtain rfl : V = w1 := hw1.symm))
        | (go_at_call 33; go_must (refine (unhide HG).mono ?_; rintro e w2 ⟨st, rfl, hst, hb2⟩; have HB2 := hide ((unhide HB).trans (hb2.mono (unhide HB).size)); clear hb2)))
          go_ret
          exact ⟨rfl, unhide HB⟩
        | true =>
          cases e2 with
          | true =>
            clear hg
            go_wp2_with (first
        | (go_at_call_of 32 (Value.string ds); go_must (refine (unhide H1 _).mono ?_; rintro e w1 ⟨rfl, hw1⟩; obtain rfl : V = w1 := hw1.symm))
        | (go_at_call 32; go_must (refine (unhide H2 _).mono ?_; rintro e w1 ⟨rfl, hw1⟩; obtain rfl : V = w1 := hw1.symm))
        | (go_at_call 33; go_must (refine (unhide HG).mono ?_; rintro e w2 ⟨st, rfl, hst, hb2⟩; have HB2 := hide ((unhide HB).trans (hb2.mono (unhide HB).size)); clear hb2)))
            go_ret
            exact ⟨rfl, unhide HB⟩
          | false =>
            have HG := hide (hg rfl rfl rfl V)
            clear hg
            cases g with
            | true =>
              go_wp2_with (first
        | (go_at_call_of 32 (Value.string ds); go_must (refine (unhide H1 _).mono ?_; rintro e w1 ⟨rfl, hw1⟩; obtain rfl : V = w1 := hw1.symm))
        | (go_at_call 32; go_must (refine (unhide H2 _).mono ?_; rintro e w1 ⟨rfl, hw1⟩; obtain rfl : V = w1 := hw1.symm))
        | (go_at_call 33; go_must (refine (unhide HG).mono ?_; rintro e w2 ⟨st, rfl, hst, hb2⟩; have HB2 := hide ((unhide HB).trans (hb2.mono (unhide HB).size)); clear hb2)))
              go_ret
              exact ⟨rfl, unhide HB2⟩
            | false =>
              go_wp2_with (first
        | (go_at_call_of 32 (Value.string ds); go_must (refine (unhide H1 _).mono ?_; rintro e w1 ⟨rfl, hw1⟩; obtain rfl : V = w1 := hw1.symm))
        | (go_at_call 32; go_must (refine (unhide H2 _).mono ?_; rintro e w1 ⟨rfl, hw1⟩; obtain rfl : V = w1 := hw1.symm))
        | (go_at_call 33; go_must (refine (unhide HG).mono ?_; rintro e w2 ⟨st, rfl, hst, hb2⟩; have HB2 := hide ((unhide HB).trans (hb2.mono (unhide HB).size)); clear hb2)))
              go_ret
              exact ⟨rfl, unhide HB2⟩
theorem byte_45 (c : UInt8) : ((c.toNat : Int) = 45) ↔ c = 45 := by
  constructor
  · intro h
    have : c.toNat = 45 := by omega
    rw [← Cub.ofNat_toNat c, this]; rfl
  · intro h; subst h; rfl
theorem ext1 (s : ByteArray) : (s.extract 1 s.size).data.toList = s.data.toList.tail := by
  rw [ByteArray.data_extract, Array.toList_extract, List.extract_eq_take_drop]
  have h1 : s.size = s.data.toList.length := (list_len s).symm
  rw [h1]
  cases s.data.toList with
  | nil => rfl
  | cons a t => simp
theorem one_lt_ten (e : Nat) (he : 1 ≤ e) : 1 < 10 ^ e := Nat.lt_of_lt_of_le (by decide : 1 < 10 ^ 1) (Nat.pow_le_pow_right (by decide) he)
theorem tb_eq49 (n : Nat) (h : n < 10 ^ 600) : ((tb n).toList == [49]) = (n == 1) := by
  have h1 : (1 : Nat) < 10 ^ 600 := one_lt_ten 600 (by decide)
  have e1 : Lib.decDigits 1 = [49] := by rw [Lib.decDigits]; simp
  by_cases h0 : n = 1
  · subst h0; rw [Lib.toList_data, tb_list 1 h1, e1]; rfl
  · rw [beq_eq_false_iff_ne.2 h0, beq_eq_false_iff_ne]
    intro e
    rw [Lib.toList_data, ← e1, ← tb_list 1 h1] at e
    have := congrArg Cub.dval e
    rw [(tb_right n h).2, (tb_right 1 h1).2] at this
    exact h0 this
theorem refR_any (num den : ByteArray) (w : World) (s1 : num.size ≤ maxLen) (s2 : den.size ≤ maxLen) :
    ∃ ok : Bool, (ok = true ↔ RightT num den) ∧ Calls Tryz.prog 11 #[.agg #[.string num, .string den]] w fun r w' => r = .returned (.bool ok) ∧ Below w.heap.size w w' := by
  have hneg : (isNeg num = true ∧ 0 < num.size ∧ num.toList.isEmpty = false ∧ (∀ h : 0 < num.size, (num[0].toNat : Int) = 45) ∧ num.extract 1 num.size = digT num) ∨ (isNeg num = false ∧ digT num = num ∧ (num.toList.isEmpty = true ∨ (0 < num.size ∧ num.toList.isEmpty = false ∧ ∀ h : 0 < num.size, ((num[0].toNat : Int) == 45) = false))) := by
    rcases Nat.eq_zero_or_pos num.size with hz | hp
    · right
      have hl : num.data.toList = [] := by rw [← List.length_eq_zero_iff, list_len]; exact hz
      have hn : isNeg num = false := by unfold isNeg; rw [hl]; rfl
      exact ⟨hn, by unfold digT; rw [if_neg (by rw [hn]; decide)], Or.inl (empty_of num hz)⟩
    · have hh := list_head num hp
      by_cases hn : isNeg num = true
      · left
        have h45 : num[0] = 45 := by unfold isNeg at hn; rw [hh] at hn; simpa using hn
        refine ⟨hn, hp, not_empty_of num hp, fun _ => (byte_45 _).2 h45, ?_⟩
        apply bytes_ext
        rw [ext1, digT_list, if_pos hn]
      · right
        have hn' : isNeg num = false := by simpa using hn
        refine ⟨hn', by unfold digT; rw [if_neg hn], Or.inr ⟨hp, not_empty_of num hp, fun _ => ?_⟩⟩
        rw [beq_eq_false_iff_ne]
        intro e
        apply hn
        unfold isNeg
        rw [hh, (byte_45 _).1 e]; rfl
  have h1 := fun W => refRight_any (digT num) W (Nat.le_trans (digT_size num) s1)
  have h2 := fun W => refRight_any den W s2
  by_cases hok : Cub.rightB (digT num).data.toList = true ∧ Cub.rightB den.data.toList = true ∧ (den.toList == [48]) = false
  · obtain ⟨k1, k2, k3⟩ := hok
    obtain ⟨n, hn, e1⟩ := tb_of k1
    obtain ⟨d, hd, e2⟩ := tb_of k2
    have hd0 : d ≠ 0 := by rw [e2, tb_eq48 d hd] at k3; simpa using k3
    have hgl : Nat.gcd n d < 10 ^ 600 := Nat.lt_of_le_of_lt (Nat.gcd_le_right _ (by omega)) hd
    refine ⟨_, ?_, refR_walk num den (digT num) (isNeg num) _ _ _ _ (Nat.gcd n d == 1) w s1 hneg h1 h2 rfl rfl (fun _ _ _ W => ?_)⟩
    · rw [right_iff, k1, k2, k3, e1, e2, tb_eq48 n hn, show val (tb n) = n from (tb_right n hn).2, show val (tb d) = d from (tb_right d hd).2]
      simp [hd0]
      intro _
      cases isNeg num <;> simp
    · rw [e1, e2]
      refine (refCommon_any n d W hn hd).mono ?_
      rintro e w' ⟨rfl, hb⟩
      exact ⟨_, rfl, tb_eq49 _ hgl, hb⟩
  · refine ⟨_, ?_, refR_walk num den (digT num) (isNeg num) _ _ _ _ false w s1 hneg h1 h2 rfl rfl (fun k1 k2 k3 => absurd ⟨k1, k2, k3⟩ hok)⟩
    rw [right_iff]
    constructor
    · intro h; simp at h
    · rintro ⟨k1, k2, _, k4, _⟩
      exfalso
      apply hok
      obtain ⟨d, hd, e2⟩ := tb_of k2
      refine ⟨k1, k2, ?_⟩
      rw [e2, tb_eq48 d hd, beq_eq_false_iff_ne]
      rw [e2, show val (tb d) = d from (tb_right d hd).2] at k4
      exact k4
end Go.Proofs.YtimihoonnglniaaGreatDoor

namespace Go.Proofs.YtimihoonnglniaaGreatDoor
open Go.RowKit
theorem count_gen (ux v : Value) (p x : Rat) (k : Nat) (w : World) (b c : Bool) (a1 a2 a3 a4 : Option Addr) (l1 c1 l2 c2 l3 c3 l4 c4 : Nat) (hux : ux = .agg #[.bool b, .slice a1 l1 c1, .slice a2 l2 c2]) (hx : QOf w ux p k) (hz : QOf w v x k) (hk : k + k ≤ 100000) (hp0 : p ≠ 0) :
    Calls Tryz.prog 28 #[.agg #[.bool b, .slice a1 l1 c1, .slice a2 l2 c2, .bool c, .slice a3 l3 c3, .slice a4 l4 c4], v] w fun r w' => ∃ v, r = .returned v ∧ QOf w' v (x * p⁻¹) (k + k) ∧ Below w.heap.size w w' := by
  obtain ⟨bk, ak, lk, ck, dk, mk, ek, rfl⟩ := hz.form
  exact count_any ux _ p x k w b c bk a1 a2 a3 a4 ak dk l1 c1 l2 c2 l3 c3 l4 c4 lk ck mk ek hux rfl hx hz hk hp0
set_option maxRecDepth 100000 in
set_option maxHeartbeats 8000000 in
theorem step_ok (n d s t : ByteArray) (x : Rat) (i j : Nat) (w : World) (hx : IsR n d x) (hi : IsFirst (scB s) (i : Int)) (hj : IsFirst (scB t) (j : Int)) (htab : Tab w) :
    Calls Tryz.prog 8 #[.agg #[.string n, .string d], .string s, .string t] w fun r w' => r = .returned (.tuple #[.agg #[.string (numT (x * fq i * (fq j)⁻¹)), .string (denT (x * fq i * (fq j)⁻¹))], .int .i64 (errT (x * fq i * (fq j)⁻¹))]) ∧ Below w.heap.size w w' := by
  obtain ⟨V, hV⟩ : ∃ V, V = (w.alloc (.cells #[.string n, .string d] 23)).alloc (.cells #[.string ⟨#[]⟩, .string ⟨#[]⟩] 23) := ⟨_, rfl⟩
  have HN : Hid (T2 V w.heap.size (.string n) (.string d)) := by rw [hV]; exact ⟨by simp [go_sem], by simp [go_sem], by simp [go_sem], by simp [go_sem]⟩
  have HR : Hid (T2 V (w.heap.size + 1) (.string ⟨#[]⟩) (.string ⟨#[]⟩)) := by rw [hV]; exact ⟨by simp [go_sem], by simp [go_sem], by simp [go_sem], by simp [go_sem]⟩
  have HB : Hid (Below w.heap.size w V) := by rw [hV]; exact ((Below.refl _ _).alloc (Nat.le_refl _) _).alloc (by simp) _
  have HV := hide hV
  have HTW := hide htab
  have HRU := hide (fun W hb => readU_ok n d s t x i j W hx hi hj (htab.later hb))
  have HF0 := hide (fq_ne j)
  clear hV htab hx hi hj
  generalize hyy : x * fq i * (fq j)⁻¹ = yy
  have HYY := hide hyy
  clear hyy
  go_enter Tryz.func8, Tryz.ntmps8
  go_upto_region 1 with fail
  rw [← unhide HV]
  clear HV
  have t0 := (unhide HN).c0; have t1 := (unhide HN).c1
  go_upto_region 2 with (go_at_call 19; go_must (refine (unhide HRU _ (unhide HB)).mono ?_; rintro e w1 ⟨bz, bp, bq, br, bv, az, dz, ap, dp, aq, dq, ar, dr, av, dv, lz, cz, mz, ez, lp, cp, mp, ep, lq, cq, mq, eq, lr, cr, mr, er, lv, cv, mv, ev, rfl, hq1, hb1⟩; have HQ1 := hide hq1; have HB1 := hide hb1; clear hq1 hb1 t0 t1))
  obtain ⟨A, hA⟩ : ∃ A, A = ((w1.alloc (.cells #[.bool bz, .slice az lz cz, .slice dz mz ez] 45)).alloc (.cells #[.bool bp, .slice ap lp cp, .slice dp mp ep, .bool bq, .slice aq lq cq, .slice dq mq eq] 47)).alloc (.cells #[.bool br, .slice ar lr cr, .slice dr mr er, .bool bv, .slice av lv cv, .slice dv mv ev] 47) := ⟨_, rfl⟩
  have HZA : Hid (FBox A w1.heap.size (.bool bz) (.slice az lz cz) (.slice dz mz ez)) := by rw [hA]; exact ⟨by simp [go_sem], by simp [go_sem], by simp [go_sem], by simp [go_sem], by simp [go_sem], by simp [go_sem]⟩
  have HPA : Hid (T6 A (w1.heap.size + 1) (.bool bp) (.slice ap lp cp) (.slice dp mp ep) (.bool bq) (.slice aq lq cq) (.slice dq mq eq)) := by rw [hA]; exact ⟨by simp [go_sem], by simp [go_sem], by simp [go_sem], by simp [go_sem], by simp [go_sem], by simp [go_sem], by simp [go_sem], by simp [go_sem], by simp [go_sem], by simp [go_sem], by simp [go_sem], by simp [go_sem]⟩
  have HTA : Hid (T6 A (w1.heap.size + 2) (.bool br) (.slice ar lr cr) (.slice dr mr er) (.bool bv) (.slice av lv cv) (.slice dv mv ev)) := by rw [hA]; exact ⟨by simp [go_sem], by simp [go_sem], by simp [go_sem], by simp [go_sem], by simp [go_sem], by simp [go_sem], by simp [go_sem], by simp [go_sem], by simp [go_sem], by simp [go_sem], by simp [go_sem], by simp [go_sem]⟩
  have HBA1 : Hid (Below w1.heap.size w1 A) := by rw [hA]; exact (((Below.refl _ _).alloc (Nat.le_refl _) _).alloc (by simp) _).alloc (by simp; omega) _
  rw [← hA]
  clear hA
  have HBA : Hid (Below V.heap.size V A) := (unhide HB1).trans ((unhide HBA1).mono (unhide HB1).size)
  have HQA := hide (And.intro ((unhide HQ1).1.later (unhide HBA1)) (And.intro ((unhide HQ1).2.1.later (unhide HBA1)) (And.intro ((unhide HQ1).2.2.1.later (unhide HBA1)) (And.intro ((unhide HQ1).2.2.2.1.later (unhide HBA1)) ((unhide HQ1).2.2.2.2.later (unhide HBA1))))))
  have HRA := hide ((unhide HR).later (unhide HBA))
  have HBW : Hid (Below w.heap.size w A) := (unhide HB).trans ((unhide HBA).mono (unhide HB).size)
  clear HQ1 HB1 HBA1 HBA
  generalize w1.heap.size = g8 at *
  have p0 := (unhide HPA).c0; have p1 := (unhide HPA).c1; have p2 := (unhide HPA).c2; have p3 := (unhide HPA).c3; have p4 := (unhide HPA).c4; have p5 := (unhide HPA).c5
  have r0 := (unhide HTA).c0; have r1 := (unhide HTA).c1; have r2 := (unhide HTA).c2; have r3 := (unhide HTA).c3; have r4 := (unhide HTA).c4; have r5 := (unhide HTA).c5
  go_upto_region 4 with fail
  go_region_held3 (fun w' => w'.cell? ⟨g8 + 1, 0, none⟩ = some (.bool bp) ∧ w'.cell? ⟨g8 + 1, 1, none⟩ = some (.slice ap lp cp) ∧ w'.cell? ⟨g8 + 1, 2, none⟩ = some (.slice dp mp ep) ∧ w'.cell? ⟨g8 + 1, 3, none⟩ = some (.bool bq) ∧ w'.cell? ⟨g8 + 1, 4, none⟩ = some (.slice aq lq cq) ∧ w'.cell? ⟨g8 + 1, 5, none⟩ = some (.slice dq mq eq) ∧ w'.cell? ⟨g8 + 2, 0, none⟩ = some (.bool br) ∧ w'.cell? ⟨g8 + 2, 1, none⟩ = some (.slice ar lr cr) ∧ w'.cell? ⟨g8 + 2, 2, none⟩ = some (.slice dr mr er) ∧ w'.cell? ⟨g8 + 2, 3, none⟩ = some (.bool bv) ∧ w'.cell? ⟨g8 + 2, 4, none⟩ = some (.slice av lv cv) ∧ w'.cell? ⟨g8 + 2, 5, none⟩ = some (.slice dv mv ev)) (first | assumption | (simp [go_sem, *]; done)) (fail)
  all_goals
    clear p0 p1 p2 p3 p4 p5 r0 r1 r2 r3 r4 r5
    have z0 := (unhide HZA).c0; have z1 := (unhide HZA).c1; have z2 := (unhide HZA).c2
    have HAD : Hid (Below A.heap.size A A.drew) := (Below.refl _ _).drew
    have HST := hide (steps_any (.agg #[.bool bp, .slice ap lp cp, .slice dp mp ep]) (.agg #[.bool bz, .slice az lz cz, .slice dz mz ez]) (fq i) x 67 A.drew bp bq bz ap dp aq dq az dz lp cp mp ep lq cq mq eq lz cz mz ez rfl rfl ((unhide HQA).2.1.later (unhide HAD)) ((unhide HQA).1.later (unhide HAD)) (by omega))
    have HCN := hide (fun W (hb : Below A.heap.size A W) v (hv : QOf W v (x * fq i) (67 + 67)) => count_gen (.agg #[.bool br, .slice ar lr cr, .slice dr mr er]) v (fq j) (x * fq i) (67 + 67) W br bv ar dr av dv lr cr mr er lv cv mv ev rfl (((unhide HQA).2.2.2.1.later hb).mono (by omega)) hv (by omega) (unhide HF0))
    rw [unhide HYY] at HCN
    go_wp2_with (first
      | (go_at_call 27; go_must (refine (unhide HST).mono ?_; rintro e w2 ⟨v2, rfl, hv2, hb2⟩; have HV2 := hide hv2; have HB2 : Hid (Below A.heap.size A w2) := (unhide HAD).trans (hb2.mono (unhide HAD).size); clear hv2 hb2 z0 z1 z2))
      | (go_at_call 28; go_must (refine (unhide HCN _ (unhide HB2) _ (unhide HV2)).mono ?_; rintro e w4 ⟨v4, rfl, hv4, hb4⟩; have HV4 := hide hv4; have HB4 : Hid (Below A.heap.size A w4) := (unhide HB2).trans (hb4.mono (unhide HB2).size); clear hv4 hb4))
      | (go_at_call 23; go_must (refine (qtell _ _ _ _ (unhide HV4) (by omega) ((unhide HTW).later ((unhide HBW).trans ((unhide HB4).mono (unhide HBW).size)))).mono ?_; rintro e w5 ⟨rfl, hb5⟩; have HB5 : Hid (Below A.heap.size A w5) := (unhide HB4).trans (hb5.mono (unhide HB4).size); have HR5 := hide ((unhide HRA).later (unhide HB5)); clear hb5; have q0 := (unhide HR5).c0; have q1 := (unhide HR5).c1; have f0 := (unhide HR5).f0; have f1 := (unhide HR5).f1)))
    have hS := (unhide HR5).store (.string (numT yy)) (.string (denT yy))
    have v0 := hS.c0; have v1 := hS.c1
    exact bodyPost_ret (v := .tuple #[.agg #[.string (numT yy), .string (denT yy)], .int .i64 (errT yy)]) (w := store2 w5 (w.heap.size + 1) (.string (numT yy)) (.string (denT yy))) (by simp [results, Tryz.results8, go_sem, v0, v1]) rfl ⟨rfl, below_store2 ((unhide HBW).trans ((unhide HB5).mono (unhide HBW).size)) (by omega) _ _⟩
end Go.Proofs.YtimihoonnglniaaGreatDoor

namespace Go.Proofs.YtimihoonnglniaaGreatDoor
open Go.RowKit

set_option maxRecDepth 100000 in
set_option maxHeartbeats 2000000 in
theorem refFMinus_walk (b z : Bool) (s t : ByteArray) (w : World) (hz : (s.toList == [48]) = z) :
    Calls Tryz.prog 15 #[.agg #[.bool b, .string s, .string t]] w fun r w' => r = .returned (.agg #[.bool (!b && !z), .string s, .string t]) ∧ Below w.heap.size w w' := by
  obtain ⟨V, hV⟩ : ∃ V, V = (w.alloc (.cells #[.bool b, .string s, .string t] 33)).alloc (.cells #[.bool false, .string ⟨#[]⟩, .string ⟨#[]⟩] 33) := ⟨_, rfl⟩
  have HB : Hid (Below w.heap.size w V) := by rw [hV]; exact ((Below.refl _ _).alloc (Nat.le_refl _) _).alloc (by simp) _
  have HR : Hid (FBox V (w.heap.size + 1) (.bool false) (.string ⟨#[]⟩) (.string ⟨#[]⟩)) := by rw [hV]; exact ⟨by simp [go_sem], by simp [go_sem], by simp [go_sem], by simp [go_sem], by simp [go_sem], by simp [go_sem]⟩
  have HF : Hid (FBox V w.heap.size (.bool b) (.string s) (.string t)) := by rw [hV]; exact ⟨by simp [go_sem], by simp [go_sem], by simp [go_sem], by simp [go_sem], by simp [go_sem], by simp [go_sem]⟩
  have HV := hide hV
  obtain ⟨U, hU⟩ : ∃ U, U = V.setCell ⟨w.heap.size, 0, none⟩ (.bool (!b && !z)) := ⟨_, rfl⟩
  have HU := hide hU
  have HBU : Hid (Below w.heap.size w U) := by rw [hU]; exact (unhide HB).setCell (Nat.le_refl _) _
  have HRU : Hid (FBox U (w.heap.size + 1) (.bool false) (.string ⟨#[]⟩) (.string ⟨#[]⟩)) := by rw [hU]; exact (unhide HR).otherAt (by omega) _
  have v0 : U.cell? ⟨w.heap.size, 0, none⟩ = some (.bool (!b && !z)) := by rw [hU]; exact World.cell?_setCell_same _ _ _ (unhide HF).c0
  have v1 : U.cell? ⟨w.heap.size, 1, none⟩ = some (.string s) := by rw [hU, World.cell?_setCell_other _ _ _ _ (by simp)]; exact (unhide HF).c1
  have v2 : U.cell? ⟨w.heap.size, 2, none⟩ = some (.string t) := by rw [hU, World.cell?_setCell_other _ _ _ _ (by simp)]; exact (unhide HF).c2
  have hS := (unhide HRU).store (.bool (!b && !z)) (.string s) (.string t)
  have HB9 : Hid (Below w.heap.size w (store3 U (w.heap.size + 1) (.bool (!b && !z)) (.string s) (.string t))) := below_store3 (unhide HBU) (by omega) _ _ _
  have u0 := hS.c0; have u1 := hS.c1; have u2 := hS.c2
  have t0 := (unhide HF).c0; have t1 := (unhide HF).c1; have f0 := (unhide HF).f0
  clear hS hU
  obtain ⟨q, hq⟩ : ∃ q, q = (!b && !z) := ⟨_, rfl⟩
  rw [← hq] at v0 u0 u1 u2 HB9 HU ⊢
  have HQ := hide hq
  clear hq
  go_enter Tryz.func15, Tryz.ntmps15
  go_upto_region 1 with fail
  rw [← unhide HV]
  clear hV HV
  cases b <;> cases z <;> (
    go_upto_region 2 with fail
    have hu := unhide HU
    have hq := unhide HQ
    simp at hq
    rw [hq] at hu
    rw [← hu]
    clear hu HU t0 t1 f0 hq HQ
    have r0 := (unhide HRU).c0; have r1 := (unhide HRU).c1; have r2 := (unhide HRU).c2; have rf0 := (unhide HRU).f0; have rf1 := (unhide HRU).f1; have rf2 := (unhide HRU).f2
    go_wp2_with fail
    exact bodyPost_ret (v := .agg #[.bool q, .string s, .string t]) (w := store3 U (w.heap.size + 1) (.bool q) (.string s) (.string t)) (by simp [results, Tryz.results15, go_sem, u0, u1, u2]) rfl ⟨rfl, unhide HB9⟩)
theorem refFMinus (x : Rat) (w : World) : Calls Tryz.prog 15 #[fx x] w fun r w' => r = .returned (fx (-x)) ∧ Below w.heap.size w w' := by
  have lx := Cub.low_of x
  obtain ⟨h1, h2⟩ := Cub.neg_low lx.1
  rw [lx.2] at h2
  rw [← h2, ← fx_of h1]
  have h := refFMinus_walk (decide (x < 0)) (decide (x.num.natAbs = 0)) (tx x.num.natAbs) (tx x.den) w (by
    by_cases h0 : x.num.natAbs = 0
    · rw [h0, tx_zero]; rfl
    · rw [tx_pos _ (by omega), decide_eq_false h0])
  rw [show (decide (x.num.natAbs ≠ 0)) = !decide (x.num.natAbs = 0) from by simp]
  exact h

end Go.Proofs.YtimihoonnglniaaGreatDoor

namespace Go.Proofs.YtimihoonnglniaaGreatDoor
open Go.RowKit
/-- Both arguments and two numbers in their boxes. -/
structure R4 (w W : World) (g h : Nat) (a1 a2 b1 b2 x1 x2 y1 y2 : Value) : Prop where
  a : T2 W w.heap.size a1 a2
  b : T2 W (w.heap.size + 1) b1 b2
  x : T2 W g x1 x2
  y : T2 W h y1 y2
  below : Below w.heap.size w W
  gx : w.heap.size + 1 < g
  hy : g < h
section
variable {w W V : World} {g h : Nat} {a1 a2 b1 b2 x1 x2 y1 y2 : Value}
theorem R4.later (s : R4 w W g h a1 a2 b1 b2 x1 x2 y1 y2) (hb : Below W.heap.size W V) : R4 w V g h a1 a2 b1 b2 x1 x2 y1 y2 :=
  ⟨s.a.later hb, s.b.later hb, s.x.later hb, s.y.later hb, s.below.trans (hb.mono s.below.size), s.gx, s.hy⟩
end
theorem T2.new (w : World) (a b : Value) : T2 (w.alloc (.cells #[a, b] 23)) w.heap.size a b := ⟨by simp [go_sem], by simp [go_sem], by simp [go_sem], by simp [go_sem]⟩

theorem FBox.new61 (w : World) (a b c : Value) : FBox (w.alloc (.cells #[a, b, c] 33)) w.heap.size a b c := ⟨by simp [go_sem], by simp [go_sem], by simp [go_sem], by simp [go_sem], by simp [go_sem], by simp [go_sem]⟩
theorem tx_one : tx 1 = ⟨#[49]⟩ := by rw [← tx_tb 1 (lit_tb ⟨#[49]⟩ 1 (by decide) (by decide)).2]; exact (lit_tb ⟨#[49]⟩ 1 (by decide) (by decide)).1.symm
end Go.Proofs.YtimihoonnglniaaGreatDoor

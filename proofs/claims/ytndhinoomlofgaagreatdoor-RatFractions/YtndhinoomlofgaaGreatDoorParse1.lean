/- rat.cutParts of the text of chapter 2's example. -/
import Derived.Test.YtndhinoomlofgaaGreatDoorQuo
import Derived.Test.YtndhinoomlofgaaGreatDoorTx
namespace Go.Proofs.YtndhinoomlofgaaGreatDoor
open Go.RowKit

set_option maxRecDepth 100000 in
set_option maxHeartbeats 4000000 in
theorem refR_walk (num den ds : ByteArray) (b r1 r2 e1 e2 g : Bool) (w : World) (hm : num.size ≤ 9223372036854775807)
    (hneg : (b = true ∧ 0 < num.size ∧ num.toList.isEmpty = false ∧ (∀ h : 0 < num.size, (num[0].toNat : Int) = 45) ∧ num.extract 1 num.size = ds) ∨ (b = false ∧ ds = num ∧ (num.toList.isEmpty = true ∨ (0 < num.size ∧ num.toList.isEmpty = false ∧ ∀ h : 0 < num.size, ((num[0].toNat : Int) == 45) = false))))
    (h1 : ∀ W, Calls Tryz.prog 75 #[.string ds] W fun e w' => e = .returned (.bool r1) ∧ w' = W) (h2 : ∀ W, Calls Tryz.prog 75 #[.string den] W fun e w' => e = .returned (.bool r2) ∧ w' = W)
    (z1 : (ds.toList == [48]) = e1) (z2 : (den.toList == [48]) = e2)
    (hg : r1 = true → r2 = true → e2 = false → ∀ W, Calls Tryz.prog 79 #[.string ds, .string den] W fun e w' => ∃ st, e = .returned (.string st) ∧ (st.toList == [49]) = g ∧ Below W.heap.size W w') :
    Calls Tryz.prog 20 #[.agg #[.string num, .string den]] w fun r w' => r = .returned (.bool (!(b && e1) && (r1 && (r2 && (!e2 && g))))) ∧ Below w.heap.size w w' := by
  obtain ⟨V, hV⟩ : ∃ V, V = w.alloc (.cells #[.string num, .string den] 23) := ⟨_, rfl⟩
  have HB : Hid (Below w.heap.size w V) := by rw [hV]; exact (Below.refl _ _).alloc (Nat.le_refl _) _
  have HC : Hid (V.cell? ⟨w.heap.size, 0, none⟩ = some (.string num) ∧ V.cell? ⟨w.heap.size, 1, none⟩ = some (.string den)) := by rw [hV]; exact ⟨by simp [go_sem], by simp [go_sem]⟩
  have HV := hide hV
  have H1 := hide h1
  have H2 := hide h2
  clear h1 h2
  rcases hneg with ⟨rfl, hp, he, h45, hds⟩ | ⟨rfl, rfl, hpos⟩
  · have h45' := h45 hp
    have hs' : (0 : Int) < (num.size : Int) := by omega
    have HDS := hide hds
    clear hds h45
    go_enter Tryz.func20, Tryz.ntmps20
    go_upto_region 4 with fail
    rw [unhide HDS, ← unhide HV]
    clear hV HV HDS h45' hs' hp he
    obtain ⟨t0, t1⟩ := unhide HC
    cases e1 with
    | true =>
      clear hg
      go_wp2_with fail
      go_ret
      exact ⟨rfl, unhide HB⟩
    | false =>
      cases r1 with
      | false =>
        clear hg
        go_wp2_with (first
        | (go_at_call_of 75 (Value.string ds); go_must (refine (unhide H1 _).mono ?_; rintro e w1 ⟨rfl, hw1⟩; obtain rfl : V = w1 := hw1.symm))
        | (go_at_call 75; go_must (refine (unhide H2 _).mono ?_; rintro e w1 ⟨rfl, hw1⟩; obtain rfl : V = w1 := hw1.symm))
        | (go_at_call 79; go_must (refine (unhide HG).mono ?_; rintro e w2 ⟨st, rfl, hst, hb2⟩; have HB2 := hide ((unhide HB).trans (hb2.mono (unhide HB).size)); clear hb2)))
        go_ret
        exact ⟨rfl, unhide HB⟩
      | true =>
        cases r2 with
        | false =>
          clear hg
          go_wp2_with (first
        | (go_at_call_of 75 (Value.string ds); go_must (refine (unhide H1 _).mono ?_; rintro e w1 ⟨rfl, hw1⟩; obtain rfl : V = w1 := hw1.symm))
        | (go_at_call 75; go_must (refine (unhide H2 _).mono ?_; rintro e w1 ⟨rfl, hw1⟩; obtain rfl : V = w1 := hw1.symm))
        | (go_at_call 79; go_must (refine (unhide HG).mono ?_; rintro e w2 ⟨st, rfl, hst, hb2⟩; have HB2 := hide ((unhide HB).trans (hb2.mono (unhide HB).size)); clear hb2)))
          go_ret
          exact ⟨rfl, unhide HB⟩
        | true =>
          cases e2 with
          | true =>
            clear hg
            go_wp2_with (first
        | (go_at_call_of 75 (Value.string ds); go_must (refine (unhide H1 _).mono ?_; rintro e w1 ⟨rfl, hw1⟩; obtain rfl : V = w1 := hw1.symm))
        | (go_at_call 75; go_must (refine (unhide H2 _).mono ?_; rintro e w1 ⟨rfl, hw1⟩; obtain rfl : V = w1 := hw1.symm))
        | (go_at_call 79; go_must (refine (unhide HG).mono ?_; rintro e w2 ⟨st, rfl, hst, hb2⟩; have HB2 := hide ((unhide HB).trans (hb2.mono (unhide HB).size)); clear hb2)))
            go_ret
            exact ⟨rfl, unhide HB⟩
          | false =>
            have HG := hide (hg rfl rfl rfl V)
            clear hg
            cases g with
            | true =>
              go_wp2_with (first
        | (go_at_call_of 75 (Value.string ds); go_must (refine (unhide H1 _).mono ?_; rintro e w1 ⟨rfl, hw1⟩; obtain rfl : V = w1 := hw1.symm))
        | (go_at_call 75; go_must (refine (unhide H2 _).mono ?_; rintro e w1 ⟨rfl, hw1⟩; obtain rfl : V = w1 := hw1.symm))
        | (go_at_call 79; go_must (refine (unhide HG).mono ?_; rintro e w2 ⟨st, rfl, hst, hb2⟩; have HB2 := hide ((unhide HB).trans (hb2.mono (unhide HB).size)); clear hb2)))
              go_ret
              exact ⟨rfl, unhide HB2⟩
            | false =>
              go_wp2_with (first
        | (go_at_call_of 75 (Value.string ds); go_must (refine (unhide H1 _).mono ?_; rintro e w1 ⟨rfl, hw1⟩; obtain rfl : V = w1 := hw1.symm))
        | (go_at_call 75; go_must (refine (unhide H2 _).mono ?_; rintro e w1 ⟨rfl, hw1⟩; obtain rfl : V = w1 := hw1.symm))
        | (go_at_call 79; go_must (refine (unhide HG).mono ?_; rintro e w2 ⟨st, rfl, hst, hb2⟩; have HB2 := hide ((unhide HB).trans (hb2.mono (unhide HB).size)); clear hb2)))
              go_ret
              exact ⟨rfl, unhide HB2⟩
  · rcases hpos with he | ⟨hp, he, h45⟩
    · go_enter Tryz.func20, Tryz.ntmps20
      go_upto_region 6 with fail
      rw [← unhide HV]
      clear hV HV he
      obtain ⟨t0, t1⟩ := unhide HC
      cases r1 with
      | false =>
        clear hg
        go_wp2_with (first
        | (go_at_call_of 75 (Value.string ds); go_must (refine (unhide H1 _).mono ?_; rintro e w1 ⟨rfl, hw1⟩; obtain rfl : V = w1 := hw1.symm))
        | (go_at_call 75; go_must (refine (unhide H2 _).mono ?_; rintro e w1 ⟨rfl, hw1⟩; obtain rfl : V = w1 := hw1.symm))
        | (go_at_call 79; go_must (refine (unhide HG).mono ?_; rintro e w2 ⟨st, rfl, hst, hb2⟩; have HB2 := hide ((unhide HB).trans (hb2.mono (unhide HB).size)); clear hb2)))
        go_ret
        exact ⟨rfl, unhide HB⟩
      | true =>
        cases r2 with
        | false =>
          clear hg
          go_wp2_with (first
        | (go_at_call_of 75 (Value.string ds); go_must (refine (unhide H1 _).mono ?_; rintro e w1 ⟨rfl, hw1⟩; obtain rfl : V = w1 := hw1.symm))
        | (go_at_call 75; go_must (refine (unhide H2 _).mono ?_; rintro e w1 ⟨rfl, hw1⟩; obtain rfl : V = w1 := hw1.symm))
        | (go_at_call 79; go_must (refine (unhide HG).mono ?_; rintro e w2 ⟨st, rfl, hst, hb2⟩; have HB2 := hide ((unhide HB).trans (hb2.mono (unhide HB).size)); clear hb2)))
          go_ret
          exact ⟨rfl, unhide HB⟩
        | true =>
          cases e2 with
          | true =>
            clear hg
            go_wp2_with (first
        | (go_at_call_of 75 (Value.string ds); go_must (refine (unhide H1 _).mono ?_; rintro e w1 ⟨rfl, hw1⟩; obtain rfl : V = w1 := hw1.symm))
        | (go_at_call 75; go_must (refine (unhide H2 _).mono ?_; rintro e w1 ⟨rfl, hw1⟩; obtain rfl : V = w1 := hw1.symm))
        | (go_at_call 79; go_must (refine (unhide HG).mono ?_; rintro e w2 ⟨st, rfl, hst, hb2⟩; have HB2 := hide ((unhide HB).trans (hb2.mono (unhide HB).size)); clear hb2)))
            go_ret
            exact ⟨rfl, unhide HB⟩
          | false =>
            have HG := hide (hg rfl rfl rfl V)
            clear hg
            cases g with
            | true =>
              go_wp2_with (first
        | (go_at_call_of 75 (Value.string ds); go_must (refine (unhide H1 _).mono ?_; rintro e w1 ⟨rfl, hw1⟩; obtain rfl : V = w1 := hw1.symm))
        | (go_at_call 75; go_must (refine (unhide H2 _).mono ?_; rintro e w1 ⟨rfl, hw1⟩; obtain rfl : V = w1 := hw1.symm))
        | (go_at_call 79; go_must (refine (unhide HG).mono ?_; rintro e w2 ⟨st, rfl, hst, hb2⟩; have HB2 := hide ((unhide HB).trans (hb2.mono (unhide HB).size)); clear hb2)))
              go_ret
              exact ⟨rfl, unhide HB2⟩
            | false =>
              go_wp2_with (first
        | (go_at_call_of 75 (Value.string ds); go_must (refine (unhide H1 _).mono ?_; rintro e w1 ⟨rfl, hw1⟩; obtain rfl : V = w1 := hw1.symm))
        | (go_at_call 75; go_must (refine (unhide H2 _).mono ?_; rintro e w1 ⟨rfl, hw1⟩; obtain rfl : V = w1 := hw1.symm))
        | (go_at_call 79; go_must (refine (unhide HG).mono ?_; rintro e w2 ⟨st, rfl, hst, hb2⟩; have HB2 := hide ((unhide HB).trans (hb2.mono (unhide HB).size)); clear hb2)))
              go_ret
              exact ⟨rfl, unhide HB2⟩
    · have h45' := h45 hp
      have hs' : (0 : Int) < (ds.size : Int) := by omega
      clear h45
      go_enter Tryz.func20, Tryz.ntmps20
      go_upto_region 6 with fail
      rw [← unhide HV]
      clear hV HV h45' hs' he
      obtain ⟨t0, t1⟩ := unhide HC
      cases r1 with
      | false =>
        clear hg
        go_wp2_with (first
        | (go_at_call_of 75 (Value.string ds); go_must (refine (unhide H1 _).mono ?_; rintro e w1 ⟨rfl, hw1⟩; obtain rfl : V = w1 := hw1.symm))
        | (go_at_call 75; go_must (refine (unhide H2 _).mono ?_; rintro e w1 ⟨rfl, hw1⟩; obtain rfl : V = w1 := hw1.symm))
        | (go_at_call 79; go_must (refine (unhide HG).mono ?_; rintro e w2 ⟨st, rfl, hst, hb2⟩; have HB2 := hide ((unhide HB).trans (hb2.mono (unhide HB).size)); clear hb2)))
        go_ret
        exact ⟨rfl, unhide HB⟩
      | true =>
        cases r2 with
        | false =>
          clear hg
          go_wp2_with (first
        | (go_at_call_of 75 (Value.string ds); go_must (refine (unhide H1 _).mono ?_; rintro e w1 ⟨rfl, hw1⟩; obtain rfl : V = w1 := hw1.symm))
        | (go_at_call 75; go_must (refine (unhide H2 _).mono ?_; rintro e w1 ⟨rfl, hw1⟩; obtain rfl : V = w1 := hw1.symm))
        | (go_at_call 79; go_must (refine (unhide HG).mono ?_; rintro e w2 ⟨st, rfl, hst, hb2⟩; have HB2 := hide ((unhide HB).trans (hb2.mono (unhide HB).size)); clear hb2)))
          go_ret
          exact ⟨rfl, unhide HB⟩
        | true =>
          cases e2 with
          | true =>
            clear hg
            go_wp2_with (first
        | (go_at_call_of 75 (Value.string ds); go_must (refine (unhide H1 _).mono ?_; rintro e w1 ⟨rfl, hw1⟩; obtain rfl : V = w1 := hw1.symm))
        | (go_at_call 75; go_must (refine (unhide H2 _).mono ?_; rintro e w1 ⟨rfl, hw1⟩; obtain rfl : V = w1 := hw1.symm))
        | (go_at_call 79; go_must (refine (unhide HG).mono ?_; rintro e w2 ⟨st, rfl, hst, hb2⟩; have HB2 := hide ((unhide HB).trans (hb2.mono (unhide HB).size)); clear hb2)))
            go_ret
            exact ⟨rfl, unhide HB⟩
          | false =>
            have HG := hide (hg rfl rfl rfl V)
            clear hg
            cases g with
            | true =>
              go_wp2_with (first
        | (go_at_call_of 75 (Value.string ds); go_must (refine (unhide H1 _).mono ?_; rintro e w1 ⟨rfl, hw1⟩; obtain rfl : V = w1 := hw1.symm))
        | (go_at_call 75; go_must (refine (unhide H2 _).mono ?_; rintro e w1 ⟨rfl, hw1⟩; obtain rfl : V = w1 := hw1.symm))
        | (go_at_call 79; go_must (refine (unhide HG).mono ?_; rintro e w2 ⟨st, rfl, hst, hb2⟩; have HB2 := hide ((unhide HB).trans (hb2.mono (unhide HB).size)); clear hb2)))
              go_ret
              exact ⟨rfl, unhide HB2⟩
            | false =>
              go_wp2_with (first
        | (go_at_call_of 75 (Value.string ds); go_must (refine (unhide H1 _).mono ?_; rintro e w1 ⟨rfl, hw1⟩; obtain rfl : V = w1 := hw1.symm))
        | (go_at_call 75; go_must (refine (unhide H2 _).mono ?_; rintro e w1 ⟨rfl, hw1⟩; obtain rfl : V = w1 := hw1.symm))
        | (go_at_call 79; go_must (refine (unhide HG).mono ?_; rintro e w2 ⟨st, rfl, hst, hb2⟩; have HB2 := hide ((unhide HB).trans (hb2.mono (unhide HB).size)); clear hb2)))
              go_ret
              exact ⟨rfl, unhide HB2⟩
theorem byte_45 (c : UInt8) : ((c.toNat : Int) = 45) ↔ c = 45 := by
  constructor
  · intro h
    have : c.toNat = 45 := by omega
    rw [← Cub.ofNat_toNat c, this]; rfl
  · intro h; subst h; rfl
theorem ext1 (s : ByteArray) : (s.extract 1 s.size).data.toList = s.data.toList.tail := by
  rw [ByteArray.data_extract, Array.toList_extract, List.extract_eq_take_drop]
  have h1 : s.size = s.data.toList.length := (list_len s).symm
  rw [h1]
  cases s.data.toList with
  | nil => rfl
  | cons a t => simp
theorem one_lt_ten (e : Nat) (he : 1 ≤ e) : 1 < 10 ^ e := Nat.lt_of_lt_of_le (by decide : 1 < 10 ^ 1) (Nat.pow_le_pow_right (by decide) he)
theorem tb_eq49 (n : Nat) (h : n < 10 ^ 600) : ((tb n).toList == [49]) = (n == 1) := by
  have h1 : (1 : Nat) < 10 ^ 600 := one_lt_ten 600 (by decide)
  have e1 : Lib.decDigits 1 = [49] := by rw [Lib.decDigits]; simp
  by_cases h0 : n = 1
  · subst h0; rw [Lib.toList_data, tb_list 1 h1, e1]; rfl
  · rw [beq_eq_false_iff_ne.2 h0, beq_eq_false_iff_ne]
    intro e
    rw [Lib.toList_data, ← e1, ← tb_list 1 h1] at e
    have := congrArg Cub.dval e
    rw [(tb_right n h).2, (tb_right 1 h1).2] at this
    exact h0 this
theorem refR_any (num den : ByteArray) (w : World) (s1 : num.size ≤ maxLen) (s2 : den.size ≤ maxLen) :
    ∃ ok : Bool, (ok = true ↔ RightT num den) ∧ Calls Tryz.prog 20 #[.agg #[.string num, .string den]] w fun r w' => r = .returned (.bool ok) ∧ Below w.heap.size w w' := by
  have hneg : (isNeg num = true ∧ 0 < num.size ∧ num.toList.isEmpty = false ∧ (∀ h : 0 < num.size, (num[0].toNat : Int) = 45) ∧ num.extract 1 num.size = digT num) ∨ (isNeg num = false ∧ digT num = num ∧ (num.toList.isEmpty = true ∨ (0 < num.size ∧ num.toList.isEmpty = false ∧ ∀ h : 0 < num.size, ((num[0].toNat : Int) == 45) = false))) := by
    rcases Nat.eq_zero_or_pos num.size with hz | hp
    · right
      have hl : num.data.toList = [] := by rw [← List.length_eq_zero_iff, list_len]; exact hz
      have hn : isNeg num = false := by unfold isNeg; rw [hl]; rfl
      exact ⟨hn, by unfold digT; rw [if_neg (by rw [hn]; decide)], Or.inl (empty_of num hz)⟩
    · have hh := list_head num hp
      by_cases hn : isNeg num = true
      · left
        have h45 : num[0] = 45 := by unfold isNeg at hn; rw [hh] at hn; simpa using hn
        refine ⟨hn, hp, not_empty_of num hp, fun _ => (byte_45 _).2 h45, ?_⟩
        apply bytes_ext
        rw [ext1, digT_list, if_pos hn]
      · right
        have hn' : isNeg num = false := by simpa using hn
        refine ⟨hn', by unfold digT; rw [if_neg hn], Or.inr ⟨hp, not_empty_of num hp, fun _ => ?_⟩⟩
        rw [beq_eq_false_iff_ne]
        intro e
        apply hn
        unfold isNeg
        rw [hh, (byte_45 _).1 e]; rfl
  have h1 := fun W => refRight_any (digT num) W (Nat.le_trans (digT_size num) s1)
  have h2 := fun W => refRight_any den W s2
  by_cases hok : Cub.rightB (digT num).data.toList = true ∧ Cub.rightB den.data.toList = true ∧ (den.toList == [48]) = false
  · obtain ⟨k1, k2, k3⟩ := hok
    obtain ⟨n, hn, e1⟩ := tb_of k1
    obtain ⟨d, hd, e2⟩ := tb_of k2
    have hd0 : d ≠ 0 := by rw [e2, tb_eq48 d hd] at k3; simpa using k3
    have hgl : Nat.gcd n d < 10 ^ 600 := Nat.lt_of_le_of_lt (Nat.gcd_le_right _ (by omega)) hd
    refine ⟨_, ?_, refR_walk num den (digT num) (isNeg num) _ _ _ _ (Nat.gcd n d == 1) w s1 hneg h1 h2 rfl rfl (fun _ _ _ W => ?_)⟩
    · rw [right_iff, k1, k2, k3, e1, e2, tb_eq48 n hn, show val (tb n) = n from (tb_right n hn).2, show val (tb d) = d from (tb_right d hd).2]
      simp [hd0]
      intro _
      cases isNeg num <;> simp
    · rw [e1, e2]
      refine (refCommon_any n d W hn hd).mono ?_
      rintro e w' ⟨rfl, hb⟩
      exact ⟨_, rfl, tb_eq49 _ hgl, hb⟩
  · refine ⟨_, ?_, refR_walk num den (digT num) (isNeg num) _ _ _ _ false w s1 hneg h1 h2 rfl rfl (fun k1 k2 k3 => absurd ⟨k1, k2, k3⟩ hok)⟩
    rw [right_iff]
    constructor
    · intro h; simp at h
    · rintro ⟨k1, k2, _, k4, _⟩
      exfalso
      apply hok
      obtain ⟨d, hd, e2⟩ := tb_of k2
      refine ⟨k1, k2, ?_⟩
      rw [e2, tb_eq48 d hd, beq_eq_false_iff_ne]
      rw [e2, show val (tb d) = d from (tb_right d hd).2] at k4
      exact k4
end Go.Proofs.YtndhinoomlofgaaGreatDoor

namespace Go.Proofs.YtndhinoomlofgaaGreatDoor
open Go.RowKit

theorem hasAt_in (s bytes : ByteArray) (k : Nat) (w : World) (hk : k < s.size) :
    Calls Tryz.prog 135 #[.string s, .int .i64 (k : Int), .string bytes] w fun e w' => e = .returned (.bool (decide (0 ≤ Lib.indexByte bytes.data.toList s[k]))) ∧ w' = w := by
  have H := hide (Tryz.strings_IndexByte bytes (s[k].toNat : Int) w)
  have e : ((s[k].toNat : Int).toNat.toUInt8) = s[k] := by simp
  rw [e] at H
  have hk' : (k : Int) < (s.size : Int) := by omega
  generalize (Lib.indexByte bytes.data.toList s[k]) = I at *
  clear e
  go_enter Tryz.func135, Tryz.ntmps135
  go_wp2_with (go_at_call 172; go_must (refine (unhide H).mono ?_; rintro e w1 ⟨rfl, rfl⟩))
  go_ret
  exact ⟨by simp, rfl⟩
/-- Where the digits from k on end. -/
def DEnd (s : ByteArray) (k e : Nat) : Prop := k ≤ e ∧ e ≤ s.size ∧ (∀ j (hj : j < s.size), k ≤ j → j < e → 48 ≤ s[j].toNat ∧ s[j].toNat ≤ 57) ∧ (∀ h : e < s.size, ¬ (48 ≤ s[e].toNat ∧ s[e].toNat ≤ 57))
theorem DEnd.det {s : ByteArray} {k e e' : Nat} (h : DEnd s k e) (h' : DEnd s k e') : e = e' := by
  obtain ⟨h1, h2, h3, h4⟩ := h
  obtain ⟨i1, i2, i3, i4⟩ := h'
  rcases Nat.lt_trichotomy e e' with hlt | rfl | hlt
  · exact absurd (i3 e (by omega) h1 hlt) (h4 (by omega))
  · rfl
  · exact absurd (h3 e' (by omega) i1 hlt) (i4 (by omega))
theorem cutDigits_any (s : ByteArray) (k : Nat) (w : World) (hk : k ≤ s.size) (hm : s.size ≤ 9223372036854775806) :
    Calls Tryz.prog 136 #[.string s, .int .i64 (k : Int)] w fun r w' => ∃ e, DEnd s k e ∧ r = .returned (.tuple #[.string (s.extract k e), .int .i64 (e : Int)]) ∧ w' = w := by
  go_enter Tryz.func136, Tryz.ntmps136
  go_wp2
  go_loop [6] (fun t => ∃ e : Nat, t = .int .i64 (e : Int) ∧ k ≤ e ∧ e ≤ s.size ∧ Hid (∀ j (hj : j < s.size), k ≤ j → j < e → 48 ≤ s[j].toNat ∧ s[j].toNat ≤ 57)) (fun t => s.size - (intOf t).toNat)
  case atStart => exact ⟨k, rfl, by omega, hk, fun j hj h1 h2 => by omega⟩
  case round =>
    obtain ⟨e, rfl, h1, h2, H3⟩ := hrel
    by_cases hlt : e < s.size
    · have hlt' : (e : Int) < (s.size : Int) := by omega
      by_cases hd : 48 ≤ s[e].toNat ∧ s[e].toNat ≤ 57
      · have d1 : (48 : Int) ≤ (s[e].toNat : Int) := by omega
        have d2 : (s[e].toNat : Int) ≤ 57 := by omega
        have HN : Hid (∀ j (hj : j < s.size), k ≤ j → j < e + 1 → 48 ≤ s[j].toNat ∧ s[j].toNat ≤ 57) := fun j hj i1 i2 => by
          rcases Nat.lt_or_ge j e with h | h
          · exact unhide H3 j hj i1 h
          · have : j = e := by omega
            subst this; exact hd
        clear hd
        go_wp2
        refine ⟨⟨e + 1, by simp, by omega, by omega, HN⟩, ?_⟩
        simp [intOf]; omega
      · have HE : Hid (DEnd s k e) := ⟨h1, h2, unhide H3, fun _ => hd⟩
        have hd' : (48 : Int) ≤ (s[e].toNat : Int) → ¬ (s[e].toNat : Int) ≤ 57 := fun a b => hd ⟨by omega, by omega⟩
        have h1' : (k : Int) ≤ (e : Int) := by omega
        have h2' : (e : Int) ≤ (s.size : Int) := by omega
        by_cases hd1 : (48 : Int) ≤ (s[e].toNat : Int)
        · have hd2 := hd' hd1
          clear hd hd'
          go_wp2
          exact bodyPost_ret (v := .tuple #[.string (s.extract k e), .int .i64 (e : Int)]) (by simp [results, Tryz.results136, go_sem]) rfl ⟨e, unhide HE, rfl, rfl⟩
        · clear hd hd'
          go_wp2
          exact bodyPost_ret (v := .tuple #[.string (s.extract k e), .int .i64 (e : Int)]) (by simp [results, Tryz.results136, go_sem]) rfl ⟨e, unhide HE, rfl, rfl⟩
    · have HE : Hid (DEnd s k e) := ⟨h1, h2, unhide H3, fun h => absurd h hlt⟩
      have hlt' : ¬ (e : Int) < (s.size : Int) := by omega
      have h1' : (k : Int) ≤ (e : Int) := by omega
      have h2' : (e : Int) ≤ (s.size : Int) := by omega
      go_wp2
      exact bodyPost_ret (v := .tuple #[.string (s.extract k e), .int .i64 (e : Int)]) (by simp [results, Tryz.results136, go_sem]) rfl ⟨e, unhide HE, rfl, rfl⟩
/-- Digits without noughts ahead. -/
def natT (s : ByteArray) : ByteArray := if (Lib.trimLeftB s.data.toList 48).isEmpty then ⟨#[48]⟩ else ⟨(Lib.trimLeftB s.data.toList 48).toArray⟩
theorem naturalT_any (s : ByteArray) (w : World) : Calls Tryz.prog 138 #[.string s] w fun r w' => r = .returned (.string (natT s)) ∧ w' = w := by
  have H := hide (Tryz.strings_TrimLeft_one s 48 (by decide) w)
  obtain ⟨t, ht⟩ : ∃ t : ByteArray, t = ⟨(Lib.trimLeftB s.data.toList 48).toArray⟩ := ⟨_, rfl⟩
  have hl : t.toList = Lib.trimLeftB s.data.toList 48 := by rw [Lib.toList_data, ht]
  have HN : Hid (natT s = if t.toList.isEmpty then ⟨#[48]⟩ else t) := by show _ = _; unfold natT; rw [hl, ← ht]
  rw [← ht] at H
  clear ht hl
  rw [unhide HN]
  clear HN
  by_cases he : t.toList.isEmpty = true
  · rw [if_pos he]
    go_enter Tryz.func138, Tryz.ntmps138
    go_wp2_with (go_at_call 173; go_must (refine (unhide H).mono ?_; rintro e w1 ⟨rfl, rfl⟩))
    go_ret
    exact ⟨rfl, rfl⟩
  · rw [if_neg he]
    have he' : t.toList.isEmpty = false := by simpa using he
    clear he
    go_enter Tryz.func138, Tryz.ntmps138
    go_wp2_with (go_at_call 173; go_must (refine (unhide H).mono ?_; rintro e w1 ⟨rfl, rfl⟩))
    go_ret
    exact ⟨rfl, rfl⟩
end Go.Proofs.YtndhinoomlofgaaGreatDoor

namespace Go.Proofs.YtndhinoomlofgaaGreatDoor
open Go.RowKit

def exS : ByteArray := ⟨#[45, 49, 46, 50, 53, 48, 101, 45, 49]⟩
theorem has_S (k : Nat) (bytes : ByteArray) (res : Bool) (hk : k < exS.size) (h : decide (0 ≤ Lib.indexByte bytes.data.toList exS[k]) = res) (W : World) :
    Calls Tryz.prog 135 #[.string exS, .int .i64 (k : Int), .string bytes] W fun e w' => e = .returned (.bool res) ∧ w' = W := by
  rw [← h]; exact hasAt_in exS bytes k W hk
theorem cut_S (k e : Nat) (t : ByteArray) (h : DEnd exS k e) (ht : exS.extract k e = t) (W : World) :
    Calls Tryz.prog 136 #[.string exS, .int .i64 (k : Int)] W fun r w' => r = .returned (.tuple #[.string t, .int .i64 (e : Int)]) ∧ w' = W := by
  refine (cutDigits_any exS k W (Nat.le_trans h.1 h.2.1) (by decide)).mono ?_
  rintro r w' ⟨e', h', rfl, rfl⟩
  obtain rfl := h.det h'
  rw [ht]
  exact ⟨rfl, rfl⟩
theorem dend_S (k e : Nat) (hk : k ≤ e) (he : e ≤ exS.size) (h1 : ∀ j : Fin exS.size, k ≤ j.val → j.val < e → 48 ≤ exS[j].toNat ∧ exS[j].toNat ≤ 57) (h2 : ∀ h : e < exS.size, ¬ (48 ≤ exS[e].toNat ∧ exS[e].toNat ≤ 57)) : DEnd exS k e :=
  ⟨hk, he, fun j hj a b => h1 ⟨j, hj⟩ a b, h2⟩
theorem dend1 : DEnd exS 1 2 := dend_S 1 2 (by decide) (by decide) (by decide) (by decide)
theorem dend3 : DEnd exS 3 6 := dend_S 3 6 (by decide) (by decide) (by decide) (by decide)
theorem dend8 : DEnd exS 8 9 := dend_S 8 9 (by decide) (by decide) (by decide) (by decide)

theorem ended_out (b b' : Bool) (p1 p2 p3 p5 s : ByteArray) (p6 : Int) (k : Int) (w : World) (hk : ¬ k < (s.size : Int)) :
    Calls Tryz.prog 137 #[.agg #[.bool b, .string p1, .string p2, .string p3, .bool b', .string p5, .int .i64 p6], .string s, .int .i64 k] w fun r w' => r = .returned (.tuple #[.agg #[.bool b, .string p1, .string p2, .string p3, .bool b', .string p5, .int .i64 p6], .int .i64 (-1)]) ∧ Below w.heap.size w w' := by
  go_enter Tryz.func137, Tryz.ntmps137
  go_wp2
  refine bodyPost_ret (v := .tuple #[.agg #[.bool b, .string p1, .string p2, .string p3, .bool b', .string p5, .int .i64 p6], .int .i64 (-1)]) (by simp [results, Tryz.results137, go_sem]) rfl ⟨rfl, ?_⟩
  exact ((Below.refl _ _).alloc (Nat.le_refl _) _).alloc (by simp) _

set_option maxRecDepth 100000 in
set_option maxHeartbeats 2000000 in
theorem cutParts_S (w : World) : Calls Tryz.prog 82 #[.string exS] w fun r w' => r = .returned (.tuple #[.agg #[.bool true, .string ⟨#[49]⟩, .string ⟨#[50, 53, 48]⟩, .string ⟨#[49]⟩, .bool true, .string ⟨#[]⟩, .int .i64 0], .int .i64 (-1)]) ∧ Below w.heap.size w w' := by
  obtain ⟨hasB, h133, f0, f2, f3, f6, f7, f8⟩ : ∃ hasB : Int → ByteArray → Bool, (∀ W (k : Int) (bytes : ByteArray), 0 ≤ k → k < 9 → Calls Tryz.prog 135 #[.string exS, .int .i64 k, .string bytes] W fun e w' => e = .returned (.bool (hasB k bytes)) ∧ w' = W) ∧ hasB 0 ⟨#[45]⟩ = true ∧ hasB 2 ⟨#[47]⟩ = false ∧ hasB 2 ⟨#[46]⟩ = true ∧ hasB 6 ⟨#[101, 69]⟩ = true ∧ hasB 7 ⟨#[45]⟩ = true ∧ hasB 7 ⟨#[43, 45]⟩ = true := by
    refine ⟨fun k bytes => decide (0 ≤ Lib.indexByte bytes.data.toList (exS.data.toList.getD k.toNat 0)), ?_, by decide, by decide, by decide, by decide, by decide, by decide⟩
    intro W k bytes h0 h9
    obtain ⟨m, rfl⟩ : ∃ m : Nat, k = (m : Int) := ⟨k.toNat, by omega⟩
    have hm : m < exS.size := by show m < 9; omega
    refine has_S m bytes _ hm ?_ W
    have : exS.data.toList.getD m 0 = exS[m] := by
      rw [List.getD_eq_getElem?_getD, List.getElem?_eq_getElem (by rw [list_len]; exact hm)]; rfl
    exact congrArg (fun c => decide (0 ≤ Lib.indexByte bytes.data.toList c)) this.symm
  obtain ⟨cutT, cutE, h134, g1, g2, g3, g4, g5, g6⟩ : ∃ (cutT : Int → ByteArray) (cutE : Int → Int), (∀ W (k : Int), k = 1 ∨ k = 3 ∨ k = 8 → Calls Tryz.prog 136 #[.string exS, .int .i64 k] W fun r w' => r = .returned (.tuple #[.string (cutT k), .int .i64 (cutE k)]) ∧ w' = W) ∧ cutT 1 = ⟨#[49]⟩ ∧ cutE 1 = 2 ∧ cutT 3 = ⟨#[50, 53, 48]⟩ ∧ cutE 3 = 6 ∧ cutT 8 = ⟨#[49]⟩ ∧ cutE 8 = 9 := by
    refine ⟨fun k => if k = 3 then ⟨#[50, 53, 48]⟩ else ⟨#[49]⟩, fun k => if k = 1 then 2 else if k = 3 then 6 else 9, ?_, rfl, rfl, rfl, rfl, rfl, rfl⟩
    rintro W k (rfl | rfl | rfl)
    · exact cut_S 1 2 ⟨#[49]⟩ dend1 (bytes_ext (by rfl)) W
    · exact cut_S 3 6 ⟨#[50, 53, 48]⟩ dend3 (bytes_ext (by rfl)) W
    · exact cut_S 8 9 ⟨#[49]⟩ dend8 (bytes_ext (by rfl)) W
  have H133 := hide h133
  have H134 := hide h134
  clear h133 h134
  have hsz : exS.size = 9 := rfl
  have e1 : (⟨#[49]⟩ : ByteArray).toList.isEmpty = false := by rw [Lib.toList_data]; rfl
  have e2 : (⟨#[50, 53, 48]⟩ : ByteArray).toList.isEmpty = false := by rw [Lib.toList_data]; rfl
  generalize exS = s at *
  have hsz' : (s.size : Int) = 9 := by omega
  generalize (⟨#[49]⟩ : ByteArray) = t1 at *
  generalize (⟨#[50, 53, 48]⟩ : ByteArray) = t2 at *
  go_enter Tryz.func82, Tryz.ntmps82
  go_wp2_with (first
    | (go_at_call 135; go_must (refine (unhide H133 _ _ _ (by omega) (by omega)).mono ?_; rintro e w1 ⟨rfl, rfl⟩; first | rw [f0] | rw [f2] | rw [f3] | rw [f6] | rw [f7] | rw [f8]))
    | (go_at_call 136; go_must (refine (unhide H134 _ _ (by decide)).mono ?_; rintro e w1 ⟨rfl, rfl⟩; first | rw [g1, g2] | rw [g3, g4] | rw [g5, g6]))
    | (go_at_call 137; go_must (refine (ended_out _ _ _ _ _ _ _ _ _ _ (by omega)).mono ?_; rintro e w1 ⟨rfl, hb1⟩; have c0 : w1.cell? ⟨w.heap.size, 0, none⟩ = some (.bool false) := (hb1.cell (p := ⟨w.heap.size, 0, none⟩) (by simp; omega)).trans (by simp [go_sem]); have c1 : w1.cell? ⟨w.heap.size, 1, none⟩ = some (.string ⟨#[]⟩) := (hb1.cell (p := ⟨w.heap.size, 1, none⟩) (by simp; omega)).trans (by simp [go_sem]); have c2 : w1.cell? ⟨w.heap.size, 2, none⟩ = some (.string ⟨#[]⟩) := (hb1.cell (p := ⟨w.heap.size, 2, none⟩) (by simp; omega)).trans (by simp [go_sem]); have c3 : w1.cell? ⟨w.heap.size, 3, none⟩ = some (.string ⟨#[]⟩) := (hb1.cell (p := ⟨w.heap.size, 3, none⟩) (by simp; omega)).trans (by simp [go_sem]); have c4 : w1.cell? ⟨w.heap.size, 4, none⟩ = some (.bool false) := (hb1.cell (p := ⟨w.heap.size, 4, none⟩) (by simp; omega)).trans (by simp [go_sem]); have c5 : w1.cell? ⟨w.heap.size, 5, none⟩ = some (.string ⟨#[]⟩) := (hb1.cell (p := ⟨w.heap.size, 5, none⟩) (by simp; omega)).trans (by simp [go_sem]); have c6 : w1.cell? ⟨w.heap.size, 6, none⟩ = some (.int .i64 0) := (hb1.cell (p := ⟨w.heap.size, 6, none⟩) (by simp; omega)).trans (by simp [go_sem]); have k0 : w1.frozen? ⟨w.heap.size, 0, none⟩ = false := (hb1.frozen (p := ⟨w.heap.size, 0, none⟩) (by simp; omega)).trans (by simp [go_sem]); have k1 : w1.frozen? ⟨w.heap.size, 1, none⟩ = false := (hb1.frozen (p := ⟨w.heap.size, 1, none⟩) (by simp; omega)).trans (by simp [go_sem]); have k2 : w1.frozen? ⟨w.heap.size, 2, none⟩ = false := (hb1.frozen (p := ⟨w.heap.size, 2, none⟩) (by simp; omega)).trans (by simp [go_sem]); have k3 : w1.frozen? ⟨w.heap.size, 3, none⟩ = false := (hb1.frozen (p := ⟨w.heap.size, 3, none⟩) (by simp; omega)).trans (by simp [go_sem]); have k4 : w1.frozen? ⟨w.heap.size, 4, none⟩ = false := (hb1.frozen (p := ⟨w.heap.size, 4, none⟩) (by simp; omega)).trans (by simp [go_sem]); have k5 : w1.frozen? ⟨w.heap.size, 5, none⟩ = false := (hb1.frozen (p := ⟨w.heap.size, 5, none⟩) (by simp; omega)).trans (by simp [go_sem]); have k6 : w1.frozen? ⟨w.heap.size, 6, none⟩ = false := (hb1.frozen (p := ⟨w.heap.size, 6, none⟩) (by simp; omega)).trans (by simp [go_sem]); have HB1 := hide (Below.trans (((Below.refl w.heap.size w).alloc (Nat.le_refl _) _).alloc (by simp) _) (hb1.mono (by simp; omega))); clear hb1)))
  refine bodyPost_ret (v := .tuple #[.agg #[.bool true, .string t1, .string t2, .string t1, .bool true, .string ⟨#[]⟩, .int .i64 0], .int .i64 (-1)]) (by simp [results, Tryz.results82, go_sem, c0, c1, c2, c3, c4, c5, c6]) rfl ⟨rfl, ?_⟩
  exact ((((((((unhide HB1).setCell (p := ⟨w.heap.size, 0, none⟩) (Nat.le_refl _) _).setCell (p := ⟨w.heap.size, 1, none⟩) (Nat.le_refl _) _).setCell (p := ⟨w.heap.size, 2, none⟩) (Nat.le_refl _) _).setCell (p := ⟨w.heap.size, 3, none⟩) (Nat.le_refl _) _).setCell (p := ⟨w.heap.size, 4, none⟩) (Nat.le_refl _) _).setCell (p := ⟨w.heap.size, 5, none⟩) (Nat.le_refl _) _).setCell (p := ⟨w.heap.size, 6, none⟩) (Nat.le_refl _) _)
end Go.Proofs.YtndhinoomlofgaaGreatDoor

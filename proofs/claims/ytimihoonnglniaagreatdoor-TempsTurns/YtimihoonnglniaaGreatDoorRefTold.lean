/- The document's Told of a fraction. -/
import Derived.Test.YtimihoonnglniaaGreatDoorOfs
import Derived.Test.YtimihoonnglniaaGreatDoorRefBig
import Derived.Test.YtimihoonnglniaaGreatDoorRefVal
import Derived.Test.YtimihoonnglniaaGreatDoorTell
import Derived.Test.YtimihoonnglniaaGreatDoorLit
import Derived.Deep.Quiet
import Derived.Test.YtimihoonnglniaaGreatDoorFCmp
import Derived.Deep.RegionHeld3
namespace Go.Proofs.YtimihoonnglniaaGreatDoor
open Go.RowKit

set_option maxRecDepth 100000 in
set_option maxHeartbeats 4000000 in
theorem refR_walk (num den ds : ByteArray) (b r1 r2 e1 e2 g : Bool) (w : World) (hm : num.size ≤ 9223372036854775807)
    (hneg : (b = true ∧ 0 < num.size ∧ num.toList.isEmpty = false ∧ (∀ h : 0 < num.size, (num[0].toNat : Int) = 45) ∧ num.extract 1 num.size = ds) ∨ (b = false ∧ ds = num ∧ (num.toList.isEmpty = true ∨ (0 < num.size ∧ num.toList.isEmpty = false ∧ ∀ h : 0 < num.size, ((num[0].toNat : Int) == 45) = false))))
    (h1 : ∀ W, Calls Tryz.prog 32 #[.string ds] W fun e w' => e = .returned (.bool r1) ∧ w' = W) (h2 : ∀ W, Calls Tryz.prog 32 #[.string den] W fun e w' => e = .returned (.bool r2) ∧ w' = W)
    (z1 : (ds.toList == [48]) = e1) (z2 : (den.toList == [48]) = e2)
    (hg : r1 = true → r2 = true → e2 = false → ∀ W, Calls Tryz.prog 33 #[.string ds, .string den] W fun e w' => ∃ st, e = .returned (.string st) ∧ (st.toList == [49]) = g ∧ Below W.heap.size W w') :
    Calls Tryz.prog 11 #[.agg #[.string num, .string den]] w fun r w' => r = .returned (.bool (!(b && e1) && (r1 && (r2 && (!e2 && g))))) ∧ Below w.heap.size w w' := by
  obtain ⟨V, hV⟩ : ∃ V, V = w.alloc (.cells #[.string num, .string den] 23) := ⟨_, rfl⟩
  have HB : Hid (Below w.heap.size w V) := by rw [hV]; exact (Below.refl _ _).alloc (Nat.le_refl _) _
  have HC : Hid (V.cell? ⟨w.heap.size, 0, none⟩ = some (.string num) ∧ V.cell? ⟨w.heap.size, 1, none⟩ = some (.string den)) := by rw [hV]; exact ⟨by simp [go_sem], by simp [go_sem]⟩
  have HV := hide hV
  have H1 := hide h1
  have H2 := hide h2
  clear h1 h2
  rcases hneg with ⟨rfl, hp, he, h45, hds⟩ | ⟨rfl, rfl, hpos⟩
  · have h45' := h45 hp
    have hs' : (0 : Int) < (num.size : Int) := by omega
    have HDS := hide hds
    clear hds h45
    go_enter Tryz.func11, Tryz.ntmps11
    go_upto_region 4 with fail
    rw [unhide HDS, ← unhide HV]
    clear hV HV HDS h45' hs' hp he
    obtain ⟨t0, t1⟩ := unhide HC
    cases e1 with
    | true =>
      clear hg
      go_wp2_with fail
      go_ret
      exact ⟨rfl, unhide HB⟩
    | false =>
      cases r1 with
      | false =>
        clear hg
        go_wp2_with (first
        | (go_at_call_of 32 (Value.string ds); go_must (refine (unhide H1 _).mono ?_; rintro e w1 ⟨rfl, hw1⟩; obtain rfl : V = w1 := hw1.symm))
        | (go_at_call 32; go_must (refine (unhide H2 _).mono ?_; rintro e w1 ⟨rfl, hw1⟩; obtain rfl : V = w1 := hw1.symm))
        | (go_at_call 33; go_must (refine (unhide HG).mono ?_; rintro e w2 ⟨st, rfl, hst, hb2⟩; have HB2 := hide ((unhide HB).trans (hb2.mono (unhide HB).size)); clear hb2)))
        go_ret
        exact ⟨rfl, unhide HB⟩
      | true =>
        cases r2 with
        | false =>
          clear hg
          go_wp2_with (first
        | (go_at_call_of 32 (Value.string ds); go_must (refine (unhide H1 _).mono ?_; rintro e w1 ⟨rfl, hw1⟩; obtain rfl : V = w1 := hw1.symm))
        | (go_at_call 32; go_must (refine (unhide H2 _).mono ?_; rintro e w1 ⟨rfl, hw1⟩; obtain rfl : V = w1 := hw1.symm))
        | (go_at_call 33; go_must (refine (unhide HG).mono ?_; rintro e w2 ⟨st, rfl, hst, hb2⟩; have HB2 := hide ((unhide HB).trans (hb2.mono (unhide HB).size)); clear hb2)))
          go_ret
          exact ⟨rfl, unhide HB⟩
        | true =>
          cases e2 with
          | true =>
            clear hg
            go_wp2_with (first
        | (go_at_call_of 32 (Value.string ds); go_must (refine (unhide H1 _).mono ?_; rintro e w1 ⟨rfl, hw1⟩; obtain rfl : V = w1 := hw1.symm))
        | (go_at_call 32; go_must (refine (unhide H2 _).mono ?_; rintro e w1 ⟨rfl, hw1⟩; obtain rfl : V = w1 := hw1.symm))
        | (go_at_call 33; go_must (refine (unhide HG).mono ?_; rintro e w2 ⟨st, rfl, hst, hb2⟩; have HB2 := hide ((unhide HB).trans (hb2.mono (unhide HB).size)); clear hb2)))
            go_ret
            exact ⟨rfl, unhide HB⟩
          | false =>
            have HG := hide (hg rfl rfl rfl V)
            clear hg
            cases g with
            | true =>
              go_wp2_with (first
        | (go_at_call_of 32 (Value.string ds); go_must (refine (unhide H1 _).mono ?_; rintro e w1 ⟨rfl, hw1⟩; obtain rfl : V = w1 := hw1.symm))
        | (go_at_call 32; go_must (refine (unhide H2 _).mono ?_; rintro e w1 ⟨rfl, hw1⟩; obtain rfl : V = w1 := hw1.symm))
        | (go_at_call 33; go_must (refine (unhide HG).mono ?_; rintro e w2 ⟨st, rfl, hst, hb2⟩; have HB2 := hide ((unhide HB).trans (hb2.mono (unhide HB).size)); clear hb2)))
              go_ret
              exact ⟨rfl, unhide HB2⟩
            | false =>
              go_wp2_with (first
        | (go_at_call_of 32 (Value.string ds); go_must (refine (unhide H1 _).mono ?_; rintro e w1 ⟨rfl, hw1⟩; obtain rfl : V = w1 := hw1.symm))
        | (go_at_call 32; go_must (refine (unhide H2 _).mono ?_; rintro e w1 ⟨rfl, hw1⟩; obtain rfl : V = w1 := hw1.symm))
        | (go_at_call 33; go_must (refine (unhide HG).mono ?_; rintro e w2 ⟨st, rfl, hst, hb2⟩; have HB2 := hide ((unhide HB).trans (hb2.mono (unhide HB).size)); clear hb2)))
              go_ret
              exact ⟨rfl, unhide HB2⟩
  · rcases hpos with he | ⟨hp, he, h45⟩
    · go_enter Tryz.func11, Tryz.ntmps11
      go_upto_region 6 with fail
      rw [← unhide HV]
      clear hV HV he
      obtain ⟨t0, t1⟩ := unhide HC
      cases r1 with
      | false =>
        clear hg
        go_wp2_with (first
        | (go_at_call_of 32 (Value.string ds); go_must (refine (unhide H1 _).mono ?_; rintro e w1 ⟨rfl, hw1⟩; obtain rfl : V = w1 := hw1.symm))
        | (go_at_call 32; go_must (refine (unhide H2 _).mono ?_; rintro e w1 ⟨rfl, hw1⟩; obtain rfl : V = w1 := hw1.symm))
        | (go_at_call 33; go_must (refine (unhide HG).mono ?_; rintro e w2 ⟨st, rfl, hst, hb2⟩; have HB2 := hide ((unhide HB).trans (hb2.mono (unhide HB).size)); clear hb2)))
        go_ret
        exact ⟨rfl, unhide HB⟩
      | true =>
        cases r2 with
        | false =>
          clear hg
          go_wp2_with (first
        | (go_at_call_of 32 (Value.string ds); go_must (refine (unhide H1 _).mono ?_; rintro e w1 ⟨rfl, hw1⟩; obtain rfl : V = w1 := hw1.symm))
        | (go_at_call 32; go_must (refine (unhide H2 _).mono ?_; rintro e w1 ⟨rfl, hw1⟩; obtain rfl : V = w1 := hw1.symm))
        | (go_at_call 33; go_must (refine (unhide HG).mono ?_; rintro e w2 ⟨st, rfl, hst, hb2⟩; have HB2 := hide ((unhide HB).trans (hb2.mono (unhide HB).size)); clear hb2)))
          go_ret
          exact ⟨rfl, unhide HB⟩
        | true =>
          cases e2 with
          | true =>
            clear hg
            go_wp2_with (first
        | (go_at_call_of 32 (Value.string ds); go_must (refine (unhide H1 _).mono ?_; rintro e w1 ⟨rfl, hw1⟩; obtain rfl : V = w1 := hw1.symm))
        | (go_at_call 32; go_must (refine (unhide H2 _).mono ?_; rintro e w1 ⟨rfl, hw1⟩; obtain rfl : V = w1 := hw1.symm))
        | (go_at_call 33; go_must (refine (unhide HG).mono ?_; rintro e w2 ⟨st, rfl, hst, hb2⟩; have HB2 := hide ((unhide HB).trans (hb2.mono (unhide HB).size)); clear hb2)))
            go_ret
            exact ⟨rfl, unhide HB⟩
          | false =>
            have HG := hide (hg rfl rfl rfl V)
            clear hg
            cases g with
            | true =>
              go_wp2_with (first
        | (go_at_call_of 32 (Value.string ds); go_must (refine (unhide H1 _).mono ?_; rintro e w1 ⟨rfl, hw1⟩; obtain rfl : V = w1 := hw1.symm))
        | (go_at_call 32; go_must (refine (unhide H2 _).mono ?_; rintro e w1 ⟨rfl, hw1⟩; obtain rfl : V = w1 := hw1.symm))
        | (go_at_call 33; go_must (refine (unhide HG).mono ?_; rintro e w2 ⟨st, rfl, hst, hb2⟩; have HB2 := hide ((unhide HB).trans (hb2.mono (unhide HB).size)); clear hb2)))
              go_ret
              exact ⟨rfl, unhide HB2⟩
            | false =>
              go_wp2_with (first
        | (go_at_call_of 32 (Value.string ds); go_must (refine (unhide H1 _).mono ?_; rintro e w1 ⟨rfl, hw1⟩; obtain rfl : V = w1 := hw1.symm))
        | (go_at_call 32; go_must (refine (unhide H2 _).mono ?_; rintro e w1 ⟨rfl, hw1⟩; obtain rfl : V = w1 := hw1.symm))
        | (go_at_call 33; go_must (refine (unhide HG).mono ?_; rintro e w2 ⟨st, rfl, hst, hb2⟩; have HB2 := hide ((unhide HB).trans (hb2.mono (unhide HB).size)); clear hb2)))
              go_ret
              exact ⟨rfl, unhide HB2⟩
    · have h45' := h45 hp
      have hs' : (0 : Int) < (ds.size : Int) := by omega
      clear h45
      go_enter Tryz.func11, Tryz.ntmps11
      go_upto_region 6 with fail
      rw [← unhide HV]
      clear hV HV h45' hs' he
      obtain ⟨t0, t1⟩ := unhide HC
      cases r1 with
      | false =>
        clear hg
        go_wp2_with (first
        | (go_at_call_of 32 (Value.string ds); go_must (refine (unhide H1 _).mono ?_; rintro e w1 ⟨rfl, hw1⟩; obtain rfl : V = w1 := hw1.symm))
        | (go_at_call 32; go_must (refine (unhide H2 _).mono ?_; rintro e w1 ⟨rfl, hw1⟩; obtain rfl : V = w1 := hw1.symm))
        | (go_at_call 33; go_must (refine (unhide HG).mono ?_; rintro e w2 ⟨st, rfl, hst, hb2⟩; have HB2 := hide ((unhide HB).trans (hb2.mono (unhide HB).size)); clear hb2)))
        go_ret
        exact ⟨rfl, unhide HB⟩
      | true =>
        cases r2 with
        | false =>
          clear hg
          go_wp2_with (first
        | (go_at_call_of 32 (Value.string ds); go_must (refine (unhide H1 _).mono ?_; rintro e w1 ⟨rfl, hw1⟩; obtain rfl : V = w1 := hw1.symm))
        | (go_at_call 32; go_must (refine (unhide H2 _).mono ?_; rintro e w1 ⟨rfl, hw1⟩; obtain rfl : V = w1 := hw1.symm))
        | (go_at_call 33; go_must (refine (unhide HG).mono ?_; rintro e w2 ⟨st, rfl, hst, hb2⟩; have HB2 := hide ((unhide HB).trans (hb2.mono (unhide HB).size)); clear hb2)))
          go_ret
          exact ⟨rfl, unhide HB⟩
        | true =>
          cases e2 with
          | true =>
            clear hg
            go_wp2_with (first
        | (go_at_call_of 32 (Value.string ds); go_must (refine (unhide H1 _).mono ?_; rintro e w1 ⟨rfl, hw1⟩; obtain rfl : V = w1 := hw1.symm))
        | (go_at_call 32; go_must (refine (unhide H2 _).mono ?_; rintro e w1 ⟨rfl, hw1⟩; obtain rfl : V = w1 := hw1.symm))
        | (go_at_call 33; go_must (refine (unhide HG).mono ?_; rintro e w2 ⟨st, rfl, hst, hb2⟩; have HB2 := hide ((unhide HB).trans (hb2.mono (unhide HB).size)); clear hb2)))
            go_ret
            exact ⟨rfl, unhide HB⟩
          | false =>
            have HG := hide (hg rfl rfl rfl V)
            clear hg
            cases g with
            | true =>
              go_wp2_with (first
        | (go_at_call_of 32 (Value.string ds); go_must (refine (unhide H1 _).mono ?_; rintro e w1 ⟨rfl, hw1⟩; obtain rfl : V = w1 := hw1.symm))
        | (go_at_call 32; go_must (refine (unhide H2 _).mono ?_; rintro e w1 ⟨rfl, hw1⟩; obtain rfl : V = w1 := hw1.symm))
        | (go_at_call 33; go_must (refine (unhide HG).mono ?_; rintro e w2 ⟨st, rfl, hst, hb2⟩; have HB2 := hide ((unhide HB).trans (hb2.mono (unhide HB).size)); clear hb2)))
              go_ret
              exact ⟨rfl, unhide HB2⟩
            | false =>
              go_wp2_with (first
        | (go_at_call_of 32 (Value.string ds); go_must (refine (unhide H1 _).mono ?_; rintro e w1 ⟨rfl, hw1⟩; obtain rfl : V = w1 := hw1.symm))
        | (go_at_call 32; go_must (refine (unhide H2 _).mono ?_; rintro e w1 ⟨rfl, hw1⟩; obtain rfl : V = w1 := hw1.symm))
        | (go_at_call 33; go_must (refine (unhide HG).mono ?_; rintro e w2 ⟨st, rfl, hst, hb2⟩; have HB2 := hide ((unhide HB).trans (hb2.mono (unhide HB).size)); clear hb2)))
              go_ret
              exact ⟨rfl, unhide HB2⟩
theorem byte_45 (c : UInt8) : ((c.toNat : Int) = 45) ↔ c = 45 := by
  constructor
  · intro h
    have : c.toNat = 45 := by omega
    rw [← Cub.ofNat_toNat c, this]; rfl
  · intro h; subst h; rfl
theorem ext1 (s : ByteArray) : (s.extract 1 s.size).data.toList = s.data.toList.tail := by
  rw [ByteArray.data_extract, Array.toList_extract, List.extract_eq_take_drop]
  have h1 : s.size = s.data.toList.length := (list_len s).symm
  rw [h1]
  cases s.data.toList with
  | nil => rfl
  | cons a t => simp
theorem one_lt_ten (e : Nat) (he : 1 ≤ e) : 1 < 10 ^ e := Nat.lt_of_lt_of_le (by decide : 1 < 10 ^ 1) (Nat.pow_le_pow_right (by decide) he)
theorem tb_eq49 (n : Nat) (h : n < 10 ^ 600) : ((tb n).toList == [49]) = (n == 1) := by
  have h1 : (1 : Nat) < 10 ^ 600 := one_lt_ten 600 (by decide)
  have e1 : Lib.decDigits 1 = [49] := by rw [Lib.decDigits]; simp
  by_cases h0 : n = 1
  · subst h0; rw [Lib.toList_data, tb_list 1 h1, e1]; rfl
  · rw [beq_eq_false_iff_ne.2 h0, beq_eq_false_iff_ne]
    intro e
    rw [Lib.toList_data, ← e1, ← tb_list 1 h1] at e
    have := congrArg Cub.dval e
    rw [(tb_right n h).2, (tb_right 1 h1).2] at this
    exact h0 this
theorem refR_any (num den : ByteArray) (w : World) (s1 : num.size ≤ maxLen) (s2 : den.size ≤ maxLen) :
    ∃ ok : Bool, (ok = true ↔ RightT num den) ∧ Calls Tryz.prog 11 #[.agg #[.string num, .string den]] w fun r w' => r = .returned (.bool ok) ∧ Below w.heap.size w w' := by
  have hneg : (isNeg num = true ∧ 0 < num.size ∧ num.toList.isEmpty = false ∧ (∀ h : 0 < num.size, (num[0].toNat : Int) = 45) ∧ num.extract 1 num.size = digT num) ∨ (isNeg num = false ∧ digT num = num ∧ (num.toList.isEmpty = true ∨ (0 < num.size ∧ num.toList.isEmpty = false ∧ ∀ h : 0 < num.size, ((num[0].toNat : Int) == 45) = false))) := by
    rcases Nat.eq_zero_or_pos num.size with hz | hp
    · right
      have hl : num.data.toList = [] := by rw [← List.length_eq_zero_iff, list_len]; exact hz
      have hn : isNeg num = false := by unfold isNeg; rw [hl]; rfl
      exact ⟨hn, by unfold digT; rw [if_neg (by rw [hn]; decide)], Or.inl (empty_of num hz)⟩
    · have hh := list_head num hp
      by_cases hn : isNeg num = true
      · left
        have h45 : num[0] = 45 := by unfold isNeg at hn; rw [hh] at hn; simpa using hn
        refine ⟨hn, hp, not_empty_of num hp, fun _ => (byte_45 _).2 h45, ?_⟩
        apply bytes_ext
        rw [ext1, digT_list, if_pos hn]
      · right
        have hn' : isNeg num = false := by simpa using hn
        refine ⟨hn', by unfold digT; rw [if_neg hn], Or.inr ⟨hp, not_empty_of num hp, fun _ => ?_⟩⟩
        rw [beq_eq_false_iff_ne]
        intro e
        apply hn
        unfold isNeg
        rw [hh, (byte_45 _).1 e]; rfl
  have h1 := fun W => refRight_any (digT num) W (Nat.le_trans (digT_size num) s1)
  have h2 := fun W => refRight_any den W s2
  by_cases hok : Cub.rightB (digT num).data.toList = true ∧ Cub.rightB den.data.toList = true ∧ (den.toList == [48]) = false
  · obtain ⟨k1, k2, k3⟩ := hok
    obtain ⟨n, hn, e1⟩ := tb_of k1
    obtain ⟨d, hd, e2⟩ := tb_of k2
    have hd0 : d ≠ 0 := by rw [e2, tb_eq48 d hd] at k3; simpa using k3
    have hgl : Nat.gcd n d < 10 ^ 600 := Nat.lt_of_le_of_lt (Nat.gcd_le_right _ (by omega)) hd
    refine ⟨_, ?_, refR_walk num den (digT num) (isNeg num) _ _ _ _ (Nat.gcd n d == 1) w s1 hneg h1 h2 rfl rfl (fun _ _ _ W => ?_)⟩
    · rw [right_iff, k1, k2, k3, e1, e2, tb_eq48 n hn, show val (tb n) = n from (tb_right n hn).2, show val (tb d) = d from (tb_right d hd).2]
      simp [hd0]
      intro _
      cases isNeg num <;> simp
    · rw [e1, e2]
      refine (refCommon_any n d W hn hd).mono ?_
      rintro e w' ⟨rfl, hb⟩
      exact ⟨_, rfl, tb_eq49 _ hgl, hb⟩
  · refine ⟨_, ?_, refR_walk num den (digT num) (isNeg num) _ _ _ _ false w s1 hneg h1 h2 rfl rfl (fun k1 k2 k3 => absurd ⟨k1, k2, k3⟩ hok)⟩
    rw [right_iff]
    constructor
    · intro h; simp at h
    · rintro ⟨k1, k2, _, k4, _⟩
      exfalso
      apply hok
      obtain ⟨d, hd, e2⟩ := tb_of k2
      refine ⟨k1, k2, ?_⟩
      rw [e2, tb_eq48 d hd, beq_eq_false_iff_ne]
      rw [e2, show val (tb d) = d from (tb_right d hd).2] at k4
      exact k4
end Go.Proofs.YtimihoonnglniaaGreatDoor

namespace Go.Proofs.YtimihoonnglniaaGreatDoor
open Go.RowKit

set_option maxRecDepth 100000 in
set_option maxHeartbeats 2000000 in
theorem refFOver_walk (b : Bool) (s t : ByteArray) (w : World) :
    Calls Tryz.prog 30 #[.agg #[.bool b, .string s, .string t]] w fun r w' => r = .returned (.agg #[.bool b, .string t, .string s]) ∧ Below w.heap.size w w' := by
  obtain ⟨V, hV⟩ : ∃ V, V = (w.alloc (.cells #[.bool b, .string s, .string t] 33)).alloc (.cells #[.bool false, .string ⟨#[]⟩, .string ⟨#[]⟩] 33) := ⟨_, rfl⟩
  have HB : Hid (Below w.heap.size w V) := by rw [hV]; exact ((Below.refl _ _).alloc (Nat.le_refl _) _).alloc (by simp) _
  have HR : Hid (FBox V (w.heap.size + 1) (.bool false) (.string ⟨#[]⟩) (.string ⟨#[]⟩)) := by rw [hV]; exact ⟨by simp [go_sem], by simp [go_sem], by simp [go_sem], by simp [go_sem], by simp [go_sem], by simp [go_sem]⟩
  have HF : Hid (FBox V w.heap.size (.bool b) (.string s) (.string t)) := by rw [hV]; exact ⟨by simp [go_sem], by simp [go_sem], by simp [go_sem], by simp [go_sem], by simp [go_sem], by simp [go_sem]⟩
  have HV := hide hV
  have hS := (unhide HR).store (.bool b) (.string t) (.string s)
  have HB9 : Hid (Below w.heap.size w (store3 V (w.heap.size + 1) (.bool b) (.string t) (.string s))) := below_store3 (unhide HB) (by omega) _ _ _
  have u0 := hS.c0; have u1 := hS.c1; have u2 := hS.c2
  have t0 := (unhide HF).c0; have t1 := (unhide HF).c1; have t2 := (unhide HF).c2
  have r0 := (unhide HR).c0; have r1 := (unhide HR).c1; have r2 := (unhide HR).c2; have rf0 := (unhide HR).f0; have rf1 := (unhide HR).f1; have rf2 := (unhide HR).f2
  clear hS
  go_enter Tryz.func30, Tryz.ntmps30
  go_upto_region 1 with fail
  rw [← unhide HV]
  clear hV HV
  go_wp2_with fail
  exact bodyPost_ret (v := .agg #[.bool b, .string t, .string s]) (w := store3 V (w.heap.size + 1) (.bool b) (.string t) (.string s)) (by simp [results, Tryz.results30, go_sem, u0, u1, u2]) rfl ⟨rfl, unhide HB9⟩
theorem refFOver (x : Rat) (hx : x ≠ 0) (w : World) : Calls Tryz.prog 30 #[fx x] w fun r w' => r = .returned (fx x⁻¹) ∧ Below w.heap.size w w' := by
  have lx := Cub.low_of x
  have hn : x.num.natAbs ≠ 0 := fun e => hx (Rat.num_eq_zero.1 (Int.natAbs_eq_zero.1 e))
  obtain ⟨h1, h2⟩ := Cub.inv_low lx.1 hn
  rw [lx.2] at h2
  rw [← h2, ← fx_of h1]
  exact refFOver_walk _ _ _ w

set_option maxRecDepth 100000 in
set_option maxHeartbeats 2000000 in
theorem refFMinus_walk (b z : Bool) (s t : ByteArray) (w : World) (hz : (s.toList == [48]) = z) :
    Calls Tryz.prog 15 #[.agg #[.bool b, .string s, .string t]] w fun r w' => r = .returned (.agg #[.bool (!b && !z), .string s, .string t]) ∧ Below w.heap.size w w' := by
  obtain ⟨V, hV⟩ : ∃ V, V = (w.alloc (.cells #[.bool b, .string s, .string t] 33)).alloc (.cells #[.bool false, .string ⟨#[]⟩, .string ⟨#[]⟩] 33) := ⟨_, rfl⟩
  have HB : Hid (Below w.heap.size w V) := by rw [hV]; exact ((Below.refl _ _).alloc (Nat.le_refl _) _).alloc (by simp) _
  have HR : Hid (FBox V (w.heap.size + 1) (.bool false) (.string ⟨#[]⟩) (.string ⟨#[]⟩)) := by rw [hV]; exact ⟨by simp [go_sem], by simp [go_sem], by simp [go_sem], by simp [go_sem], by simp [go_sem], by simp [go_sem]⟩
  have HF : Hid (FBox V w.heap.size (.bool b) (.string s) (.string t)) := by rw [hV]; exact ⟨by simp [go_sem], by simp [go_sem], by simp [go_sem], by simp [go_sem], by simp [go_sem], by simp [go_sem]⟩
  have HV := hide hV
  obtain ⟨U, hU⟩ : ∃ U, U = V.setCell ⟨w.heap.size, 0, none⟩ (.bool (!b && !z)) := ⟨_, rfl⟩
  have HU := hide hU
  have HBU : Hid (Below w.heap.size w U) := by rw [hU]; exact (unhide HB).setCell (Nat.le_refl _) _
  have HRU : Hid (FBox U (w.heap.size + 1) (.bool false) (.string ⟨#[]⟩) (.string ⟨#[]⟩)) := by rw [hU]; exact (unhide HR).otherAt (by omega) _
  have v0 : U.cell? ⟨w.heap.size, 0, none⟩ = some (.bool (!b && !z)) := by rw [hU]; exact World.cell?_setCell_same _ _ _ (unhide HF).c0
  have v1 : U.cell? ⟨w.heap.size, 1, none⟩ = some (.string s) := by rw [hU, World.cell?_setCell_other _ _ _ _ (by simp)]; exact (unhide HF).c1
  have v2 : U.cell? ⟨w.heap.size, 2, none⟩ = some (.string t) := by rw [hU, World.cell?_setCell_other _ _ _ _ (by simp)]; exact (unhide HF).c2
  have hS := (unhide HRU).store (.bool (!b && !z)) (.string s) (.string t)
  have HB9 : Hid (Below w.heap.size w (store3 U (w.heap.size + 1) (.bool (!b && !z)) (.string s) (.string t))) := below_store3 (unhide HBU) (by omega) _ _ _
  have u0 := hS.c0; have u1 := hS.c1; have u2 := hS.c2
  have t0 := (unhide HF).c0; have t1 := (unhide HF).c1; have f0 := (unhide HF).f0
  clear hS hU
  obtain ⟨q, hq⟩ : ∃ q, q = (!b && !z) := ⟨_, rfl⟩
  rw [← hq] at v0 u0 u1 u2 HB9 HU ⊢
  have HQ := hide hq
  clear hq
  go_enter Tryz.func15, Tryz.ntmps15
  go_upto_region 1 with fail
  rw [← unhide HV]
  clear hV HV
  cases b <;> cases z <;> (
    go_upto_region 2 with fail
    have hu := unhide HU
    have hq := unhide HQ
    simp at hq
    rw [hq] at hu
    rw [← hu]
    clear hu HU t0 t1 f0 hq HQ
    have r0 := (unhide HRU).c0; have r1 := (unhide HRU).c1; have r2 := (unhide HRU).c2; have rf0 := (unhide HRU).f0; have rf1 := (unhide HRU).f1; have rf2 := (unhide HRU).f2
    go_wp2_with fail
    exact bodyPost_ret (v := .agg #[.bool q, .string s, .string t]) (w := store3 U (w.heap.size + 1) (.bool q) (.string s) (.string t)) (by simp [results, Tryz.results15, go_sem, u0, u1, u2]) rfl ⟨rfl, unhide HB9⟩)
theorem refFMinus (x : Rat) (w : World) : Calls Tryz.prog 15 #[fx x] w fun r w' => r = .returned (fx (-x)) ∧ Below w.heap.size w w' := by
  have lx := Cub.low_of x
  obtain ⟨h1, h2⟩ := Cub.neg_low lx.1
  rw [lx.2] at h2
  rw [← h2, ← fx_of h1]
  have h := refFMinus_walk (decide (x < 0)) (decide (x.num.natAbs = 0)) (tx x.num.natAbs) (tx x.den) w (by
    by_cases h0 : x.num.natAbs = 0
    · rw [h0, tx_zero]; rfl
    · rw [tx_pos _ (by omega), decide_eq_false h0])
  rw [show (decide (x.num.natAbs ≠ 0)) = !decide (x.num.natAbs = 0) from by simp]
  exact h

end Go.Proofs.YtimihoonnglniaaGreatDoor

namespace Go.Proofs.YtimihoonnglniaaGreatDoor
open Go.RowKit
/-- Both arguments and two numbers in their boxes. -/
structure R4 (w W : World) (g h : Nat) (a1 a2 b1 b2 x1 x2 y1 y2 : Value) : Prop where
  a : T2 W w.heap.size a1 a2
  b : T2 W (w.heap.size + 1) b1 b2
  x : T2 W g x1 x2
  y : T2 W h y1 y2
  below : Below w.heap.size w W
  gx : w.heap.size + 1 < g
  hy : g < h
section
variable {w W V : World} {g h : Nat} {a1 a2 b1 b2 x1 x2 y1 y2 : Value}
theorem R4.later (s : R4 w W g h a1 a2 b1 b2 x1 x2 y1 y2) (hb : Below W.heap.size W V) : R4 w V g h a1 a2 b1 b2 x1 x2 y1 y2 :=
  ⟨s.a.later hb, s.b.later hb, s.x.later hb, s.y.later hb, s.below.trans (hb.mono s.below.size), s.gx, s.hy⟩
end
theorem T2.new (w : World) (a b : Value) : T2 (w.alloc (.cells #[a, b] 23)) w.heap.size a b := ⟨by simp [go_sem], by simp [go_sem], by simp [go_sem], by simp [go_sem]⟩

end Go.Proofs.YtimihoonnglniaaGreatDoor

namespace Go.Proofs.YtimihoonnglniaaGreatDoor
open Go.RowKit
theorem bd_val (b : Bool) {n d k : Nat} (hd : 0 < d) (hn : n < 10 ^ k) (hdk : d < 10 ^ k) : Bd k (Cub.valQ b n d) := by
  obtain ⟨h1, h2⟩ := Cub.ratio_low (b := b) (n := n) hd
  obtain ⟨_, e2, e3⟩ := Cub.low_is h1
  rw [h2] at e2 e3
  exact ⟨by rw [← e2]; exact Nat.lt_of_le_of_lt (Nat.div_le_self _ _) hn, by rw [← e3]; exact Nat.lt_of_le_of_lt (Nat.div_le_self _ _) hdk⟩
theorem bd_neg {d : Nat} {x : Rat} (hx : Bd d x) : Bd d (-x) := by
  have lx := Cub.low_of x
  obtain ⟨h1, h2⟩ := Cub.neg_low lx.1
  rw [lx.2] at h2
  rw [← h2]
  exact bd_val _ x.den_pos hx.1 hx.2
end Go.Proofs.YtimihoonnglniaaGreatDoor

namespace Go.Proofs.YtimihoonnglniaaGreatDoor
open Go.RowKit

theorem neg_form (num : ByteArray) : (isNeg num = true ∧ 0 < num.size ∧ num.toList.isEmpty = false ∧ (∀ h : 0 < num.size, (num[0].toNat : Int) = 45) ∧ num.extract 1 num.size = digT num) ∨ (isNeg num = false ∧ digT num = num ∧ (num.toList.isEmpty = true ∨ (0 < num.size ∧ num.toList.isEmpty = false ∧ ∀ h : 0 < num.size, ((num[0].toNat : Int) == 45) = false))) := by
  rcases Nat.eq_zero_or_pos num.size with hz | hp
  · right
    have hl : num.data.toList = [] := by rw [← List.length_eq_zero_iff, list_len]; exact hz
    have hn : isNeg num = false := by unfold isNeg; rw [hl]; rfl
    exact ⟨hn, by unfold digT; rw [if_neg (by rw [hn]; decide)], Or.inl (empty_of num hz)⟩
  · have hh := list_head num hp
    by_cases hn : isNeg num = true
    · left
      have h45 : num[0] = 45 := by unfold isNeg at hn; rw [hh] at hn; simpa using hn
      refine ⟨hn, hp, not_empty_of num hp, fun _ => (byte_45 _).2 h45, ?_⟩
      apply bytes_ext
      rw [ext1, digT_list, if_pos hn]
    · right
      have hn' : isNeg num = false := by simpa using hn
      refine ⟨hn', by unfold digT; rw [if_neg hn], Or.inr ⟨hp, not_empty_of num hp, fun _ => ?_⟩⟩
      rw [beq_eq_false_iff_ne]
      intro e
      apply hn
      unfold isNeg
      rw [hh, (byte_45 _).1 e]; rfl
end Go.Proofs.YtimihoonnglniaaGreatDoor

namespace Go.Proofs.YtimihoonnglniaaGreatDoor
open Go.RowKit

set_option maxRecDepth 100000 in
set_option maxHeartbeats 2000000 in
theorem refRead_walk (num den ds : ByteArray) (b : Bool) (w : World) (hm : num.size ≤ 9223372036854775807) (hd : den.toList.isEmpty = false)
    (hneg : (b = true ∧ 0 < num.size ∧ num.toList.isEmpty = false ∧ (∀ h : 0 < num.size, (num[0].toNat : Int) = 45) ∧ num.extract 1 num.size = ds) ∨ (b = false ∧ ds = num ∧ (0 < num.size ∧ num.toList.isEmpty = false ∧ ∀ h : 0 < num.size, ((num[0].toNat : Int) == 45) = false))) :
    Calls Tryz.prog 14 #[.agg #[.string num, .string den]] w fun r w' => r = .returned (.agg #[.bool b, .string ds, .string den]) ∧ Below w.heap.size w w' := by
  obtain ⟨V, hV⟩ : ∃ V, V = (w.alloc (.cells #[.string num, .string den] 23)).alloc (.cells #[.bool false, .string ⟨#[]⟩, .string ⟨#[]⟩] 33) := ⟨_, rfl⟩
  have HB : Hid (Below w.heap.size w V) := by rw [hV]; exact ((Below.refl _ _).alloc (Nat.le_refl _) _).alloc (by simp) _
  have HR : Hid (FBox V (w.heap.size + 1) (.bool false) (.string ⟨#[]⟩) (.string ⟨#[]⟩)) := by rw [hV]; exact ⟨by simp [go_sem], by simp [go_sem], by simp [go_sem], by simp [go_sem], by simp [go_sem], by simp [go_sem]⟩
  have HC : Hid (V.cell? ⟨w.heap.size, 0, none⟩ = some (.string num) ∧ V.cell? ⟨w.heap.size, 1, none⟩ = some (.string den)) := by rw [hV]; exact ⟨by simp [go_sem], by simp [go_sem]⟩
  have HV := hide hV
  have hS := (unhide HR).store (.bool b) (.string ds) (.string den)
  have HB9 : Hid (Below w.heap.size w (store3 V (w.heap.size + 1) (.bool b) (.string ds) (.string den))) := below_store3 (unhide HB) (by omega) _ _ _
  have u0 := hS.c0; have u1 := hS.c1; have u2 := hS.c2
  obtain ⟨t0, t1⟩ := unhide HC
  have r0 := (unhide HR).c0; have r1 := (unhide HR).c1; have r2 := (unhide HR).c2; have rf0 := (unhide HR).f0; have rf1 := (unhide HR).f1; have rf2 := (unhide HR).f2
  rcases hneg with ⟨rfl, hp, he, h45, hds⟩ | ⟨rfl, rfl, hp, he, h45⟩
  · have h45' := h45 hp
    have hs' : (0 : Int) < (num.size : Int) := by omega
    have hs1 : (1 : Int) ≤ (num.size : Int) := by omega
    have HDS := hide hds
    clear hds h45 hS
    go_enter Tryz.func14, Tryz.ntmps14
    go_upto_region 1 with fail
    rw [← unhide HV]
    clear hV HV
    go_upto_region 4 with fail
    go_region
    rw [unhide HDS]
    obtain ⟨U, hU⟩ : ∃ U, U = (((V.setCell ⟨w.heap.size + 1, 0, none⟩ (.bool true)).setCell ⟨w.heap.size + 1, 1, none⟩ (.string ds)).setCell ⟨w.heap.size + 1, 2, none⟩ (.string den)).drew := ⟨_, rfl⟩
    have HBU : Hid (Below w.heap.size w U) := by rw [hU]; exact (unhide HB9).trans (((Below.refl _ _).drew).mono (unhide HB9).size)
    have q0 : U.cell? ⟨w.heap.size + 1, 0, none⟩ = some (.bool true) := by rw [hU]; exact u0
    have q1 : U.cell? ⟨w.heap.size + 1, 1, none⟩ = some (.string ds) := by rw [hU]; exact u1
    have q2 : U.cell? ⟨w.heap.size + 1, 2, none⟩ = some (.string den) := by rw [hU]; exact u2
    rw [← hU]
    clear hU u0 u1 u2 r0 r1 r2 rf0 rf1 rf2 t0 t1 HB9
    go_wp2_with fail
    exact bodyPost_ret (v := .agg #[.bool true, .string ds, .string den]) (by simp [results, Tryz.results14, go_sem, q0, q1, q2]) rfl ⟨rfl, unhide HBU⟩
  · have h45' := h45 hp
    have hs' : (0 : Int) < (ds.size : Int) := by omega
    clear h45 hS
    go_enter Tryz.func14, Tryz.ntmps14
    go_upto_region 1 with fail
    rw [← unhide HV]
    clear hV HV
    go_wp2_with fail
    exact bodyPost_ret (v := .agg #[.bool false, .string ds, .string den]) (w := store3 V (w.heap.size + 1) (.bool false) (.string ds) (.string den)) (by simp [results, Tryz.results14, go_sem, u0, u1, u2]) rfl ⟨rfl, unhide HB9⟩

theorem refRead (num den : ByteArray) (x : Rat) (w : World) (h : IsR num den x) :
    Calls Tryz.prog 14 #[.agg #[.string num, .string den]] w fun r w' => r = .returned (fx x) ∧ Below w.heap.size w w' := by
  have hr := h.rt
  obtain ⟨hsm, en, ed⟩ := h
  have e1 : num = sT (decide (x < 0)) x.num.natAbs := by rw [en]; unfold numT; rw [if_pos hsm]
  have e2 : den = tb x.den := by rw [ed]; unfold denT; rw [if_pos hsm]
  have hz := sT_size (decide (x < 0)) x.num.natAbs hsm.1
  have g1 : isNeg num = decide (x < 0) := by rw [e1]; exact neg_sT _ _ hsm.1
  have g2 : digT num = tx x.num.natAbs := by rw [e1, dig_sT _ _ hsm.1, tx_tb _ hsm.1]
  have hde : den.toList.isEmpty = false := by rw [e2]; exact tb_full _ hsm.2
  have hnp : 0 < num.size := by
    have q := tb_full x.num.natAbs hsm.1
    rcases Nat.eq_zero_or_pos num.size with hz0 | hp
    · exfalso
      have hl : num.data.toList = [] := by rw [← List.length_eq_zero_iff, list_len]; exact hz0
      rw [e1, sT_list] at hl
      rw [Lib.toList_data] at q
      split at hl
      · cases hl
      · rw [hl] at q; cases q
    · exact hp
  have hf := neg_form num
  rw [g1, g2] at hf
  unfold fx
  rw [← tx_tb _ hsm.2, ← e2]
  refine refRead_walk num den _ _ w (by rw [e1]; omega) hde ?_
  rcases hf with hf | ⟨a, b, c⟩
  · exact Or.inl hf
  · rcases c with c | c
    · rw [not_empty_of num hnp] at c; cases c
    · exact Or.inr ⟨a, b, c⟩

end Go.Proofs.YtimihoonnglniaaGreatDoor

namespace Go.Proofs.YtimihoonnglniaaGreatDoor
open Go.RowKit
set_option maxRecDepth 100000 in
set_option maxHeartbeats 2000000 in
theorem refTold (b : Bool) (s t : ByteArray) (w : World) (hs : s.size ≤ 600) (ht : t.size ≤ 600) :
    Ans 18 #[.agg #[.bool b, .string s, .string t]] w (if b then ⟨#[45]⟩ ++ s else s) t 0 := by
  unfold Ans
  obtain ⟨V, hV⟩ : ∃ V, V = (w.alloc (.cells #[.bool b, .string s, .string t] 33)).alloc (.cells #[.string ⟨#[]⟩, .string ⟨#[]⟩] 23) := ⟨_, rfl⟩
  have hbV : Below w.heap.size w V := by rw [hV]; exact ((Below.refl _ _).alloc (Nat.le_refl _) _).alloc (by simp) _
  have HR : Hid (T2 V (w.heap.size + 1) (.string ⟨#[]⟩) (.string ⟨#[]⟩) ∧ Below w.heap.size w V) := ⟨by rw [hV]; exact ⟨by simp [go_sem], by simp [go_sem], by simp [go_sem], by simp [go_sem]⟩, hbV⟩
  have HF : Hid (FBox V w.heap.size (.bool b) (.string s) (.string t)) := by rw [hV]; exact ⟨by simp [go_sem], by simp [go_sem], by simp [go_sem], by simp [go_sem], by simp [go_sem], by simp [go_sem]⟩
  have HV := hide hV
  have hl : (⟨#[45]⟩ : ByteArray).size = 1 := rfl
  clear hbV
  have t0 := (unhide HF).c0; have t1 := (unhide HF).c1; have t2 := (unhide HF).c2
  have r0 := (unhide HR).1.c0; have r1 := (unhide HR).1.c1; have rf0 := (unhide HR).1.f0; have rf1 := (unhide HR).1.f1
  cases b with
  | true =>
    have HE : Hid ((if true = true then (⟨#[45]⟩ : ByteArray) ++ s else s) = ⟨#[45]⟩ ++ s) := rfl
    rw [unhide HE]
    clear HE
    go_enter Tryz.func18, Tryz.ntmps18
    go_upto_region 1 with fail
    rw [← unhide HV]
    clear hV HV
    go_wp2_with fail
    have hS := (unhide HR).1.store (.string (⟨#[45]⟩ ++ s)) (.string t)
    have hb : Below w.heap.size w (store2 V (w.heap.size + 1) (.string (⟨#[45]⟩ ++ s)) (.string t)) := below_store2 (unhide HR).2 (by omega) _ _
    have u0 := hS.c0; have u1 := hS.c1
    exact bodyPost_ret (v := .tuple #[.agg #[.string (⟨#[45]⟩ ++ s), .string t], .int .i64 0]) (w := store2 V (w.heap.size + 1) (.string (⟨#[45]⟩ ++ s)) (.string t)) (by simp [results, Tryz.results18, go_sem, u0, u1]) rfl ⟨rfl, hb⟩
  | false =>
    have HE : Hid ((if false = true then (⟨#[45]⟩ : ByteArray) ++ s else s) = s) := rfl
    rw [unhide HE]
    clear HE
    go_enter Tryz.func18, Tryz.ntmps18
    go_upto_region 1 with fail
    rw [← unhide HV]
    clear hV HV
    go_wp2_with fail
    have hS := (unhide HR).1.store (.string s) (.string t)
    have hb : Below w.heap.size w (store2 V (w.heap.size + 1) (.string s) (.string t)) := below_store2 (unhide HR).2 (by omega) _ _
    have u0 := hS.c0; have u1 := hS.c1
    exact bodyPost_ret (v := .tuple #[.agg #[.string s, .string t], .int .i64 0]) (w := store2 V (w.heap.size + 1) (.string s) (.string t)) (by simp [results, Tryz.results18, go_sem, u0, u1]) rfl ⟨rfl, hb⟩

end Go.Proofs.YtimihoonnglniaaGreatDoor

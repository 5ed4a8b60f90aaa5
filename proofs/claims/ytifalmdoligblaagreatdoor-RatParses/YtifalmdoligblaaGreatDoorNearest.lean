/- Frac.nearest, places from 0 on, rounded up. -/
import Derived.Test.YtifalmdoligblaaGreatDoorQuo
import Derived.Test.YtifalmdoligblaaGreatDoorRefGcd
import Derived.Test.YtifalmdoligblaaGreatDoorParse2
import Derived.Test.YtifalmdoligblaaGreatDoorShift
namespace Go.Proofs.YtifalmdoligblaaGreatDoor
open Go.RowKit

set_option maxRecDepth 100000 in
set_option maxHeartbeats 4000000 in
theorem refR_walk (num den ds : ByteArray) (b r1 r2 e1 e2 g : Bool) (w : World) (hm : num.size ≤ 9223372036854775807)
    (hneg : (b = true ∧ 0 < num.size ∧ num.toList.isEmpty = false ∧ (∀ h : 0 < num.size, (num[0].toNat : Int) = 45) ∧ num.extract 1 num.size = ds) ∨ (b = false ∧ ds = num ∧ (num.toList.isEmpty = true ∨ (0 < num.size ∧ num.toList.isEmpty = false ∧ ∀ h : 0 < num.size, ((num[0].toNat : Int) == 45) = false))))
    (h1 : ∀ W, Calls Tryz.prog 73 #[.string ds] W fun e w' => e = .returned (.bool r1) ∧ w' = W) (h2 : ∀ W, Calls Tryz.prog 73 #[.string den] W fun e w' => e = .returned (.bool r2) ∧ w' = W)
    (z1 : (ds.toList == [48]) = e1) (z2 : (den.toList == [48]) = e2)
    (hg : r1 = true → r2 = true → e2 = false → ∀ W, Calls Tryz.prog 77 #[.string ds, .string den] W fun e w' => ∃ st, e = .returned (.string st) ∧ (st.toList == [49]) = g ∧ Below W.heap.size W w') :
    Calls Tryz.prog 18 #[.agg #[.string num, .string den]] w fun r w' => r = .returned (.bool (!(b && e1) && (r1 && (r2 && (!e2 && g))))) ∧ Below w.heap.size w w' := by
  obtain ⟨V, hV⟩ : ∃ V, V = w.alloc (.cells #[.string num, .string den] 23) := ⟨_, rfl⟩
  have HB : Hid (Below w.heap.size w V) := by rw [hV]; exact (Below.refl _ _).alloc (Nat.le_refl _) _
  have HC : Hid (V.cell? ⟨w.heap.size, 0, none⟩ = some (.string num) ∧ V.cell? ⟨w.heap.size, 1, none⟩ = some (.string den)) := by rw [hV]; exact ⟨by simp [go_sem], by simp [go_sem]⟩
  have HV := hide hV
  have H1 := hide h1
  have H2 := hide h2
  clear h1 h2
  rcases hneg with ⟨rfl, hp, he, h45, hds⟩ | ⟨rfl, rfl, hpos⟩
  · have h45' := h45 hp
    have hs' : (0 : Int) < (num.size : Int) := by omega
    have HDS := hide hds
    clear hds h45
    go_enter Tryz.func18, Tryz.ntmps18
    go_upto_region 4 with fail
    rw [unhide HDS, ← unhide HV]
    clear hV HV HDS h45' hs' hp he
    obtain ⟨t0, t1⟩ := unhide HC
    cases e1 with
    | true =>
      clear hg
      go_wp2_with fail
      go_ret
      exact ⟨rfl, unhide HB⟩
    | false =>
      cases r1 with
      | false =>
        clear hg
        go_wp2_with (first
        | (go_at_call_of 73 (Value.string ds); go_must (refine (unhide H1 _).mono ?_; rintro e w1 ⟨rfl, hw1⟩; obtain rfl : V = w1 := hw1.symm))
        | (go_at_call 73; go_must (refine (unhide H2 _).mono ?_; rintro e w1 ⟨rfl, hw1⟩; obtain rfl : V = w1 := hw1.symm))
        | (go_at_call 77; go_must (refine (unhide HG).mono ?_; rintro e w2 ⟨st, rfl, hst, hb2⟩; have HB2 := hide ((unhide HB).trans (hb2.mono (unhide HB).size)); clear hb2)))
        go_ret
        exact ⟨rfl, unhide HB⟩
      | true =>
        cases r2 with
        | false =>
          clear hg
          go_wp2_with (first
        | (go_at_call_of 73 (Value.string ds); go_must (refine (unhide H1 _).mono ?_; rintro e w1 ⟨rfl, hw1⟩; obtain rfl : V = w1 := hw1.symm))
        | (go_at_call 73; go_must (refine (unhide H2 _).mono ?_; rintro e w1 ⟨rfl, hw1⟩; obtain rfl : V = w1 := hw1.symm))
        | (go_at_call 77; go_must (refine (unhide HG).mono ?_; rintro e w2 ⟨st, rfl, hst, hb2⟩; have HB2 := hide ((unhide HB).trans (hb2.mono (unhide HB).size)); clear hb2)))
          go_ret
          exact ⟨rfl, unhide HB⟩
        | true =>
          cases e2 with
          | true =>
            clear hg
            go_wp2_with (first
        | (go_at_call_of 73 (Value.string ds); go_must (refine (unhide H1 _).mono ?_; rintro e w1 ⟨rfl, hw1⟩; obtain rfl : V = w1 := hw1.symm))
        | (go_at_call 73; go_must (refine (unhide H2 _).mono ?_; rintro e w1 ⟨rfl, hw1⟩; obtain rfl : V = w1 := hw1.symm))
        | (go_at_call 77; go_must (refine (unhide HG).mono ?_; rintro e w2 ⟨st, rfl, hst, hb2⟩; have HB2 := hide ((unhide HB).trans (hb2.mono (unhide HB).size)); clear hb2)))
            go_ret
            exact ⟨rfl, unhide HB⟩
          | false =>
            have HG := hide (hg rfl rfl rfl V)
            clear hg
            cases g with
            | true =>
              go_wp2_with (first
        | (go_at_call_of 73 (Value.string ds); go_must (refine (unhide H1 _).mono ?_; rintro e w1 ⟨rfl, hw1⟩; obtain rfl : V = w1 := hw1.symm))
        | (go_at_call 73; go_must (refine (unhide H2 _).mono ?_; rintro e w1 ⟨rfl, hw1⟩; obtain rfl : V = w1 := hw1.symm))
        | (go_at_call 77; go_must (refine (unhide HG).mono ?_; rintro e w2 ⟨st, rfl, hst, hb2⟩; have HB2 := hide ((unhide HB).trans (hb2.mono (unhide HB).size)); clear hb2)))
              go_ret
              exact ⟨rfl, unhide HB2⟩
            | false =>
              go_wp2_with (first
        | (go_at_call_of 73 (Value.string ds); go_must (refine (unhide H1 _).mono ?_; rintro e w1 ⟨rfl, hw1⟩; obtain rfl : V = w1 := hw1.symm))
        | (go_at_call 73; go_must (refine (unhide H2 _).mono ?_; rintro e w1 ⟨rfl, hw1⟩; obtain rfl : V = w1 := hw1.symm))
        | (go_at_call 77; go_must (refine (unhide HG).mono ?_; rintro e w2 ⟨st, rfl, hst, hb2⟩; have HB2 := hide ((unhide HB).trans (hb2.mono (unhide HB).size)); clear hb2)))
              go_ret
              exact ⟨rfl, unhide HB2⟩
  · rcases hpos with he | ⟨hp, he, h45⟩
    · go_enter Tryz.func18, Tryz.ntmps18
      go_upto_region 6 with fail
      rw [← unhide HV]
      clear hV HV he
      obtain ⟨t0, t1⟩ := unhide HC
      cases r1 with
      | false =>
        clear hg
        go_wp2_with (first
        | (go_at_call_of 73 (Value.string ds); go_must (refine (unhide H1 _).mono ?_; rintro e w1 ⟨rfl, hw1⟩; obtain rfl : V = w1 := hw1.symm))
        | (go_at_call 73; go_must (refine (unhide H2 _).mono ?_; rintro e w1 ⟨rfl, hw1⟩; obtain rfl : V = w1 := hw1.symm))
        | (go_at_call 77; go_must (refine (unhide HG).mono ?_; rintro e w2 ⟨st, rfl, hst, hb2⟩; have HB2 := hide ((unhide HB).trans (hb2.mono (unhide HB).size)); clear hb2)))
        go_ret
        exact ⟨rfl, unhide HB⟩
      | true =>
        cases r2 with
        | false =>
          clear hg
          go_wp2_with (first
        | (go_at_call_of 73 (Value.string ds); go_must (refine (unhide H1 _).mono ?_; rintro e w1 ⟨rfl, hw1⟩; obtain rfl : V = w1 := hw1.symm))
        | (go_at_call 73; go_must (refine (unhide H2 _).mono ?_; rintro e w1 ⟨rfl, hw1⟩; obtain rfl : V = w1 := hw1.symm))
        | (go_at_call 77; go_must (refine (unhide HG).mono ?_; rintro e w2 ⟨st, rfl, hst, hb2⟩; have HB2 := hide ((unhide HB).trans (hb2.mono (unhide HB).size)); clear hb2)))
          go_ret
          exact ⟨rfl, unhide HB⟩
        | true =>
          cases e2 with
          | true =>
            clear hg
            go_wp2_with (first
        | (go_at_call_of 73 (Value.string ds); go_must (refine (unhide H1 _).mono ?_; rintro e w1 ⟨rfl, hw1⟩; obtain rfl : V = w1 := hw1.symm))
        | (go_at_call 73; go_must (refine (unhide H2 _).mono ?_; rintro e w1 ⟨rfl, hw1⟩; obtain rfl : V = w1 := hw1.symm))
        | (go_at_call 77; go_must (refine (unhide HG).mono ?_; rintro e w2 ⟨st, rfl, hst, hb2⟩; have HB2 := hide ((unhide HB).trans (hb2.mono (unhide HB).size)); clear hb2)))
            go_ret
            exact ⟨rfl, unhide HB⟩
          | false =>
            have HG := hide (hg rfl rfl rfl V)
            clear hg
            cases g with
            | true =>
              go_wp2_with (first
        | (go_at_call_of 73 (Value.string ds); go_must (refine (unhide H1 _).mono ?_; rintro e w1 ⟨rfl, hw1⟩; obtain rfl : V = w1 := hw1.symm))
        | (go_at_call 73; go_must (refine (unhide H2 _).mono ?_; rintro e w1 ⟨rfl, hw1⟩; obtain rfl : V = w1 := hw1.symm))
        | (go_at_call 77; go_must (refine (unhide HG).mono ?_; rintro e w2 ⟨st, rfl, hst, hb2⟩; have HB2 := hide ((unhide HB).trans (hb2.mono (unhide HB).size)); clear hb2)))
              go_ret
              exact ⟨rfl, unhide HB2⟩
            | false =>
              go_wp2_with (first
        | (go_at_call_of 73 (Value.string ds); go_must (refine (unhide H1 _).mono ?_; rintro e w1 ⟨rfl, hw1⟩; obtain rfl : V = w1 := hw1.symm))
        | (go_at_call 73; go_must (refine (unhide H2 _).mono ?_; rintro e w1 ⟨rfl, hw1⟩; obtain rfl : V = w1 := hw1.symm))
        | (go_at_call 77; go_must (refine (unhide HG).mono ?_; rintro e w2 ⟨st, rfl, hst, hb2⟩; have HB2 := hide ((unhide HB).trans (hb2.mono (unhide HB).size)); clear hb2)))
              go_ret
              exact ⟨rfl, unhide HB2⟩
    · have h45' := h45 hp
      have hs' : (0 : Int) < (ds.size : Int) := by omega
      clear h45
      go_enter Tryz.func18, Tryz.ntmps18
      go_upto_region 6 with fail
      rw [← unhide HV]
      clear hV HV h45' hs' he
      obtain ⟨t0, t1⟩ := unhide HC
      cases r1 with
      | false =>
        clear hg
        go_wp2_with (first
        | (go_at_call_of 73 (Value.string ds); go_must (refine (unhide H1 _).mono ?_; rintro e w1 ⟨rfl, hw1⟩; obtain rfl : V = w1 := hw1.symm))
        | (go_at_call 73; go_must (refine (unhide H2 _).mono ?_; rintro e w1 ⟨rfl, hw1⟩; obtain rfl : V = w1 := hw1.symm))
        | (go_at_call 77; go_must (refine (unhide HG).mono ?_; rintro e w2 ⟨st, rfl, hst, hb2⟩; have HB2 := hide ((unhide HB).trans (hb2.mono (unhide HB).size)); clear hb2)))
        go_ret
        exact ⟨rfl, unhide HB⟩
      | true =>
        cases r2 with
        | false =>
          clear hg
          go_wp2_with (first
        | (go_at_call_of 73 (Value.string ds); go_must (refine (unhide H1 _).mono ?_; rintro e w1 ⟨rfl, hw1⟩; obtain rfl : V = w1 := hw1.symm))
        | (go_at_call 73; go_must (refine (unhide H2 _).mono ?_; rintro e w1 ⟨rfl, hw1⟩; obtain rfl : V = w1 := hw1.symm))
        | (go_at_call 77; go_must (refine (unhide HG).mono ?_; rintro e w2 ⟨st, rfl, hst, hb2⟩; have HB2 := hide ((unhide HB).trans (hb2.mono (unhide HB).size)); clear hb2)))
          go_ret
          exact ⟨rfl, unhide HB⟩
        | true =>
          cases e2 with
          | true =>
            clear hg
            go_wp2_with (first
        | (go_at_call_of 73 (Value.string ds); go_must (refine (unhide H1 _).mono ?_; rintro e w1 ⟨rfl, hw1⟩; obtain rfl : V = w1 := hw1.symm))
        | (go_at_call 73; go_must (refine (unhide H2 _).mono ?_; rintro e w1 ⟨rfl, hw1⟩; obtain rfl : V = w1 := hw1.symm))
        | (go_at_call 77; go_must (refine (unhide HG).mono ?_; rintro e w2 ⟨st, rfl, hst, hb2⟩; have HB2 := hide ((unhide HB).trans (hb2.mono (unhide HB).size)); clear hb2)))
            go_ret
            exact ⟨rfl, unhide HB⟩
          | false =>
            have HG := hide (hg rfl rfl rfl V)
            clear hg
            cases g with
            | true =>
              go_wp2_with (first
        | (go_at_call_of 73 (Value.string ds); go_must (refine (unhide H1 _).mono ?_; rintro e w1 ⟨rfl, hw1⟩; obtain rfl : V = w1 := hw1.symm))
        | (go_at_call 73; go_must (refine (unhide H2 _).mono ?_; rintro e w1 ⟨rfl, hw1⟩; obtain rfl : V = w1 := hw1.symm))
        | (go_at_call 77; go_must (refine (unhide HG).mono ?_; rintro e w2 ⟨st, rfl, hst, hb2⟩; have HB2 := hide ((unhide HB).trans (hb2.mono (unhide HB).size)); clear hb2)))
              go_ret
              exact ⟨rfl, unhide HB2⟩
            | false =>
              go_wp2_with (first
        | (go_at_call_of 73 (Value.string ds); go_must (refine (unhide H1 _).mono ?_; rintro e w1 ⟨rfl, hw1⟩; obtain rfl : V = w1 := hw1.symm))
        | (go_at_call 73; go_must (refine (unhide H2 _).mono ?_; rintro e w1 ⟨rfl, hw1⟩; obtain rfl : V = w1 := hw1.symm))
        | (go_at_call 77; go_must (refine (unhide HG).mono ?_; rintro e w2 ⟨st, rfl, hst, hb2⟩; have HB2 := hide ((unhide HB).trans (hb2.mono (unhide HB).size)); clear hb2)))
              go_ret
              exact ⟨rfl, unhide HB2⟩
theorem byte_45 (c : UInt8) : ((c.toNat : Int) = 45) ↔ c = 45 := by
  constructor
  · intro h
    have : c.toNat = 45 := by omega
    rw [← Cub.ofNat_toNat c, this]; rfl
  · intro h; subst h; rfl
theorem ext1 (s : ByteArray) : (s.extract 1 s.size).data.toList = s.data.toList.tail := by
  rw [ByteArray.data_extract, Array.toList_extract, List.extract_eq_take_drop]
  have h1 : s.size = s.data.toList.length := (list_len s).symm
  rw [h1]
  cases s.data.toList with
  | nil => rfl
  | cons a t => simp
theorem one_lt_ten (e : Nat) (he : 1 ≤ e) : 1 < 10 ^ e := Nat.lt_of_lt_of_le (by decide : 1 < 10 ^ 1) (Nat.pow_le_pow_right (by decide) he)
theorem tb_eq49 (n : Nat) (h : n < 10 ^ 600) : ((tb n).toList == [49]) = (n == 1) := by
  have h1 : (1 : Nat) < 10 ^ 600 := one_lt_ten 600 (by decide)
  have e1 : Lib.decDigits 1 = [49] := by rw [Lib.decDigits]; simp
  by_cases h0 : n = 1
  · subst h0; rw [Lib.toList_data, tb_list 1 h1, e1]; rfl
  · rw [beq_eq_false_iff_ne.2 h0, beq_eq_false_iff_ne]
    intro e
    rw [Lib.toList_data, ← e1, ← tb_list 1 h1] at e
    have := congrArg Cub.dval e
    rw [(tb_right n h).2, (tb_right 1 h1).2] at this
    exact h0 this
theorem refR_any (num den : ByteArray) (w : World) (s1 : num.size ≤ maxLen) (s2 : den.size ≤ maxLen) :
    ∃ ok : Bool, (ok = true ↔ RightT num den) ∧ Calls Tryz.prog 18 #[.agg #[.string num, .string den]] w fun r w' => r = .returned (.bool ok) ∧ Below w.heap.size w w' := by
  have hneg : (isNeg num = true ∧ 0 < num.size ∧ num.toList.isEmpty = false ∧ (∀ h : 0 < num.size, (num[0].toNat : Int) = 45) ∧ num.extract 1 num.size = digT num) ∨ (isNeg num = false ∧ digT num = num ∧ (num.toList.isEmpty = true ∨ (0 < num.size ∧ num.toList.isEmpty = false ∧ ∀ h : 0 < num.size, ((num[0].toNat : Int) == 45) = false))) := by
    rcases Nat.eq_zero_or_pos num.size with hz | hp
    · right
      have hl : num.data.toList = [] := by rw [← List.length_eq_zero_iff, list_len]; exact hz
      have hn : isNeg num = false := by unfold isNeg; rw [hl]; rfl
      exact ⟨hn, by unfold digT; rw [if_neg (by rw [hn]; decide)], Or.inl (empty_of num hz)⟩
    · have hh := list_head num hp
      by_cases hn : isNeg num = true
      · left
        have h45 : num[0] = 45 := by unfold isNeg at hn; rw [hh] at hn; simpa using hn
        refine ⟨hn, hp, not_empty_of num hp, fun _ => (byte_45 _).2 h45, ?_⟩
        apply bytes_ext
        rw [ext1, digT_list, if_pos hn]
      · right
        have hn' : isNeg num = false := by simpa using hn
        refine ⟨hn', by unfold digT; rw [if_neg hn], Or.inr ⟨hp, not_empty_of num hp, fun _ => ?_⟩⟩
        rw [beq_eq_false_iff_ne]
        intro e
        apply hn
        unfold isNeg
        rw [hh, (byte_45 _).1 e]; rfl
  have h1 := fun W => refRight_any (digT num) W (Nat.le_trans (digT_size num) s1)
  have h2 := fun W => refRight_any den W s2
  by_cases hok : Cub.rightB (digT num).data.toList = true ∧ Cub.rightB den.data.toList = true ∧ (den.toList == [48]) = false
  · obtain ⟨k1, k2, k3⟩ := hok
    obtain ⟨n, hn, e1⟩ := tb_of k1
    obtain ⟨d, hd, e2⟩ := tb_of k2
    have hd0 : d ≠ 0 := by rw [e2, tb_eq48 d hd] at k3; simpa using k3
    have hgl : Nat.gcd n d < 10 ^ 600 := Nat.lt_of_le_of_lt (Nat.gcd_le_right _ (by omega)) hd
    refine ⟨_, ?_, refR_walk num den (digT num) (isNeg num) _ _ _ _ (Nat.gcd n d == 1) w s1 hneg h1 h2 rfl rfl (fun _ _ _ W => ?_)⟩
    · rw [right_iff, k1, k2, k3, e1, e2, tb_eq48 n hn, show val (tb n) = n from (tb_right n hn).2, show val (tb d) = d from (tb_right d hd).2]
      simp [hd0]
      intro _
      cases isNeg num <;> simp
    · rw [e1, e2]
      refine (refCommon_any n d W hn hd).mono ?_
      rintro e w' ⟨rfl, hb⟩
      exact ⟨_, rfl, tb_eq49 _ hgl, hb⟩
  · refine ⟨_, ?_, refR_walk num den (digT num) (isNeg num) _ _ _ _ false w s1 hneg h1 h2 rfl rfl (fun k1 k2 k3 => absurd ⟨k1, k2, k3⟩ hok)⟩
    rw [right_iff]
    constructor
    · intro h; simp at h
    · rintro ⟨k1, k2, _, k4, _⟩
      exfalso
      apply hok
      obtain ⟨d, hd, e2⟩ := tb_of k2
      refine ⟨k1, k2, ?_⟩
      rw [e2, tb_eq48 d hd, beq_eq_false_iff_ne]
      rw [e2, show val (tb d) = d from (tb_right d hd).2] at k4
      exact k4
end Go.Proofs.YtifalmdoligblaaGreatDoor

namespace Go.Proofs.YtifalmdoligblaaGreatDoor
open Go.RowKit

/-- A Frac, the box of a number, and boxes of one cell besides. -/
structure NB (w W : World) (x y z : Value) (L : List (Nat × Value)) : Prop where
  a : FBox W w.heap.size x y z
  r : Box W (w.heap.size + 1) (.slice none 0 0)
  bx : ∀ p ∈ L, Box W p.1 p.2
  gt : ∀ p ∈ L, w.heap.size + 1 < p.1
  below : Below w.heap.size w W
theorem NB.later {w W V : World} {x y z : Value} {L : List (Nat × Value)} (s : NB w W x y z L) (hb : Below W.heap.size W V) : NB w V x y z L :=
  ⟨s.a.later hb, s.r.later hb, fun p hp => (s.bx p hp).later hb, s.gt, s.below.trans (hb.mono s.below.size)⟩
theorem NB.first (w : World) (x y z : Value) : NB w ((w.alloc (.cells #[x, y, z] 74)).alloc (.cells #[.slice none 0 0] 72)) x y z [] :=
  ⟨⟨by simp [go_sem], by simp [go_sem], by simp [go_sem], by simp [go_sem], by simp [go_sem], by simp [go_sem]⟩, ⟨by simp [go_sem], by simp [go_sem]⟩, (fun _ h => by cases h), (fun _ h => by cases h), ((Below.refl _ _).alloc (Nat.le_refl _) _).alloc (by simp) _⟩
theorem NB.push {w W : World} {x y z : Value} {L : List (Nat × Value)} (s : NB w W x y z L) (v : Value) : NB w (W.alloc (.cells #[v] 72)) x y z ((W.heap.size, v) :: L) := by
  have t := s.later ((Below.refl W.heap.size W).alloc (Nat.le_refl _) (.cells #[v] 72))
  refine ⟨t.a, t.r, ?_, ?_, t.below⟩
  · intro p hp
    rcases List.mem_cons.1 hp with rfl | hp
    · exact ⟨by simp [go_sem], by simp [go_sem]⟩
    · exact t.bx p hp
  · intro p hp
    rcases List.mem_cons.1 hp with rfl | hp
    · exact s.r.lt
    · exact t.gt p hp
theorem NB.sub {w W : World} {x y z : Value} {L M : List (Nat × Value)} (s : NB w W x y z L) (h : ∀ p ∈ M, p ∈ L) : NB w W x y z M :=
  ⟨s.a, s.r, fun p hp => s.bx p (h p hp), fun p hp => s.gt p (h p hp), s.below⟩
theorem NB.set {w W : World} {x y z v : Value} {g : Nat} {L : List (Nat × Value)} (s : NB w W x y z ((g, v) :: L)) (h : ∀ p ∈ L, p.1 ≠ g) (u : Value) : NB w (W.setCell ⟨g, 0, none⟩ u) x y z ((g, u) :: L) := by
  have hg : w.heap.size + 1 < g := s.gt (g, v) (by simp)
  refine ⟨s.a.otherAt (by omega) u, s.r.other (by omega) u, ?_, ?_, s.below.setCell (p := ⟨g, 0, none⟩) (by show w.heap.size ≤ g; omega) _⟩
  · intro p hp
    rcases List.mem_cons.1 hp with rfl | hp
    · exact (s.bx (g, v) (by simp)).set u
    · exact (s.bx p (by simp [hp])).other (h p hp) u
  · intro p hp
    rcases List.mem_cons.1 hp with rfl | hp
    · exact hg
    · exact s.gt p (by simp [hp])

set_option maxRecDepth 100000 in
set_option maxHeartbeats 4000000 in
theorem nearest_up (v : Value) (b : Bool) (n d p k : Nat) (w : World) (h : IsFrac w v b n d) (hk : k + 1 ≤ 100000) (hp : p ≤ 100000) (hn : n < 1000000000 ^ k) (hN : n * 10 ^ p < 1000000000 ^ k) (hd : d < 1000000000 ^ k) (hd0 : 0 < d) (hup : d < n * 10 ^ p % d + n * 10 ^ p % d) :
    Calls Tryz.prog 86 #[v, .int .i64 (p : Int)] w fun e w' => ∃ a l c, e = .returned (.agg #[.slice a l c]) ∧ IsBig w' (.agg #[.slice a l c]) (n * 10 ^ p / d + 1) ∧ Below w.heap.size w w' := by
  obtain ⟨a1, l1, c1, a2, l2, c2, rfl, h1, h2⟩ := h.form
  obtain ⟨V, hV⟩ : ∃ V, V = (w.alloc (.cells #[.bool b, .slice a1 l1 c1, .slice a2 l2 c2] 74)).alloc (.cells #[.slice none 0 0] 72) := ⟨_, rfl⟩
  have HS : Hid (NB w V (.bool b) (.slice a1 l1 c1) (.slice a2 l2 c2) []) := by rw [hV]; exact NB.first _ _ _ _
  have HV := hide hV
  have HX := hide (h1.later (unhide HS).below)
  have HY := hide (h2.later (unhide HS).below)
  have hp0 : ¬ (p : Int) < 0 := by omega
  have hq : n * 10 ^ p / d < 1000000000 ^ k := Nat.lt_of_le_of_lt (Nat.div_le_self _ _) hN
  have hr : n * 10 ^ p % d < 1000000000 ^ k := Nat.lt_of_le_of_lt (Nat.mod_le _ _) hN
  have h1k : 1 < 1000000000 ^ k := by
    rcases Nat.eq_zero_or_pos k with h0 | h0
    · subst h0; simp at hd; omega
    · have : (1000000000 : Nat) ^ 1 ≤ 1000000000 ^ k := Nat.pow_le_pow_right (by decide) h0
      omega
  have HSH : Hid (∀ W x, IsBig W x n → Calls Tryz.prog 114 #[x, .int .i64 (p : Int)] W fun e w' => ∃ a l c, e = .returned (.agg #[.slice a l c]) ∧ IsBig w' (.agg #[.slice a l c]) (n * 10 ^ p) ∧ Below W.heap.size W w') := fun W x h => shift_any x n p k W h (by omega) hn (by omega)
  have HDM : Hid (∀ W x y, IsBig W x (n * 10 ^ p) → IsBig W y d → Calls Tryz.prog 118 #[x, y] W fun e w' => ∃ a1 n1 c1 a2 n2 c2, e = .returned (.tuple #[.agg #[.slice a1 n1 c1], .agg #[.slice a2 n2 c2]]) ∧ IsBig w' (.agg #[.slice a1 n1 c1]) (n * 10 ^ p / d) ∧ IsBig w' (.agg #[.slice a2 n2 c2]) (n * 10 ^ p % d) ∧ Below W.heap.size W w') := fun W x y h1 h2 => divAns k (by omega) W x y _ _ h1 h2 hN hd0
  generalize n * 10 ^ p / d = Q at *
  generalize n * 10 ^ p % d = R at *
  generalize n * 10 ^ p = N at *
  have HAD : Hid (∀ W x, IsBig W x R → Calls Tryz.prog 140 #[x, x] W fun e w' => ∃ v, e = .returned v ∧ IsBig w' v (R + R) ∧ Below W.heap.size W w') := fun W x h => add_any x x R R k W h h (by omega) hr hr
  have HCM : Hid (∀ W x y, IsBig W x (R + R) → IsBig W y d → Calls Tryz.prog 141 #[x, y] W fun e w' => e = .returned (.int .i64 1) ∧ Below W.heap.size W w') := fun W x y h1 h2 => by
    have := cmp_any x y (R + R) d W h1 h2
    rwa [show Cub.cmpN (R + R) d = 1 by unfold Cub.cmpN; rw [if_neg (by omega), if_pos hup]] at this
  have HBO : Hid (∀ W, Calls Tryz.prog 112 #[.int .u64 1] W fun e w' => ∃ a l c, e = .returned (.agg #[.slice a l c]) ∧ IsBig w' (.agg #[.slice a l c]) 1 ∧ Below W.heap.size W w') := fun W => bigOf_any 1 W (by decide)
  have HA1 : Hid (∀ W x y, IsBig W x Q → IsBig W y 1 → Calls Tryz.prog 140 #[x, y] W fun e w' => ∃ v, e = .returned v ∧ IsBig w' v (Q + 1) ∧ Below W.heap.size W w') := fun W x y h1 h2 => add_any x y Q 1 k W h1 h2 (by omega) hq h1k
  clear h h1 h2 hk hp hn hN hd hd0 hup hq hr h1k
  go_enter Tryz.func86, Tryz.ntmps86
  go_upto_region 1 with fail
  rw [← unhide HV]
  clear hV HV
  have t1 := (unhide HS).a.c1; have t2 := (unhide HS).a.c2
  have zl := (unhide HS).a.lt
  have zl2 : w.heap.size < V.heap.size + 1 := by omega
  have zn1 : ¬ w.heap.size = V.heap.size := by omega
  have zn2 : ¬ w.heap.size = V.heap.size + 1 := by omega
  go_region
  all_goals
    first
    | (obtain ⟨V1, hV1⟩ : ∃ V1, V1 = ((V.alloc (.cells #[.slice a1 l1 c1] 72)).alloc (.cells #[.slice a2 l2 c2] 72)).drew := ⟨_, rfl⟩
       rw [← hV1]
       have hb : Below V.heap.size V V1 := by rw [hV1]; have h2 := ((Below.refl V.heap.size V).alloc (Nat.le_refl _) (.cells #[.slice a1 l1 c1] 72)).alloc (by simp) (.cells #[.slice a2 l2 c2] 72); exact h2.trans (((Below.refl _ _).drew).mono h2.size)
       have HS1 : Hid (NB w V1 (.bool b) (.slice a1 l1 c1) (.slice a2 l2 c2) [(V.heap.size, .slice a1 l1 c1), (V.heap.size + 1, .slice a2 l2 c2)]) := by
         rw [hV1]
         have s := ((unhide HS).push (.slice a1 l1 c1)).push (.slice a2 l2 c2)
         rw [show (V.alloc (.cells #[.slice a1 l1 c1] 72)).heap.size = V.heap.size + 1 by simp] at s
         exact (s.sub (by intro p hp; simp at hp ⊢; grind)).later ((Below.refl _ _).drew)
       have hne : V.heap.size ≠ V.heap.size + 1 := by omega
       generalize hg5 : V.heap.size = g5 at HS1 hne ⊢
       generalize hg6 : g5 + 1 = g6 at HS1 hne ⊢)
    | (obtain ⟨V1, hV1⟩ : ∃ V1, V1 = ((V.alloc (.cells #[.slice a2 l2 c2] 72)).alloc (.cells #[.slice a1 l1 c1] 72)).drew := ⟨_, rfl⟩
       rw [← hV1]
       have hb : Below V.heap.size V V1 := by rw [hV1]; have h2 := ((Below.refl V.heap.size V).alloc (Nat.le_refl _) (.cells #[.slice a2 l2 c2] 72)).alloc (by simp) (.cells #[.slice a1 l1 c1] 72); exact h2.trans (((Below.refl _ _).drew).mono h2.size)
       have HS1 : Hid (NB w V1 (.bool b) (.slice a1 l1 c1) (.slice a2 l2 c2) [(V.heap.size + 1, .slice a1 l1 c1), (V.heap.size, .slice a2 l2 c2)]) := by
         rw [hV1]
         have s := ((unhide HS).push (.slice a2 l2 c2)).push (.slice a1 l1 c1)
         rw [show (V.alloc (.cells #[.slice a2 l2 c2] 72)).heap.size = V.heap.size + 1 by simp] at s
         exact (s.sub (by intro p hp; simp at hp ⊢; grind)).later ((Below.refl _ _).drew)
       have hne : V.heap.size + 1 ≠ V.heap.size := by omega
       generalize hg6 : V.heap.size = g6 at HS1 hne ⊢
       generalize hg5 : g6 + 1 = g5 at HS1 hne ⊢)
    have HX1 := hide ((unhide HX).later hb); have HY1 := hide ((unhide HY).later hb)
    clear hV1 hb HS HX HY t1 t2 zl zl2 zn1 zn2 hg5 hg6
    have u5 := ((unhide HS1).bx (g5, .slice a1 l1 c1) (by simp)).c
    dsimp only at u5
    go_upto_region 5 with (go_at_call 114; go_must (refine (unhide HSH _ _ (unhide HX1)).mono ?_; rintro e w2 ⟨a3, l3, c3, rfl, hv2, hb2⟩; have HS2 := hide ((unhide HS1).later hb2); have HY2 := hide ((unhide HY1).later hb2); have HN2 := hide hv2; clear hv2 hb2 u5; have u5 := ((unhide HS2).bx (g5, .slice a1 l1 c1) (by simp)).c; have k5 := ((unhide HS2).bx (g5, .slice a1 l1 c1) (by simp)).f; dsimp only at u5 k5))
    obtain ⟨V3, hV3⟩ : ∃ V3, V3 = w2.setCell ⟨g5, 0, none⟩ (.slice a3 l3 c3) := ⟨_, rfl⟩
    have HS3 : Hid (NB w V3 (.bool b) (.slice a1 l1 c1) (.slice a2 l2 c2) [(g5, .slice a3 l3 c3), (g6, .slice a2 l2 c2)]) := by rw [hV3]; exact (unhide HS2).set (by intro p hp; simp at hp; subst hp; exact hne.symm) _
    have HN3 : Hid (IsBig V3 (.agg #[.slice a3 l3 c3]) N) := by rw [hV3]; exact (unhide HN2).box _ u5 (not_int _ _ _)
    have HY3 : Hid (IsBig V3 (.agg #[.slice a2 l2 c2]) d) := by rw [hV3]; exact (unhide HY2).box _ u5 (not_int _ _ _)
    rw [← hV3]
    clear hV3 HS1 HS2 HX1 HY1 HY2 HN2 u5 k5
    have u5 := ((unhide HS3).bx (g5, .slice a3 l3 c3) (by simp)).c; have u6 := ((unhide HS3).bx (g6, .slice a2 l2 c2) (by simp)).c
    dsimp only at u5 u6
    go_upto_region 6 with (go_at_call 118; go_must (refine (unhide HDM _ _ _ (unhide HN3) (unhide HY3)).mono ?_; rintro e w4 ⟨a7, l7, c7, a8, l8, c8, rfl, hq4, hr4, hb4⟩; have HS4 := hide ((unhide HS3).later hb4); have HY4 := hide ((unhide HY3).later hb4); have HQ4 := hide hq4; have HR4 := hide hr4; clear hq4 hr4 hb4 u5 u6))
    obtain ⟨V5, hV5⟩ : ∃ V5, V5 = (w4.alloc (.cells #[.slice a7 l7 c7] 72)).alloc (.cells #[.slice a8 l8 c8] 72) := ⟨_, rfl⟩
    have hb5 : Below w4.heap.size w4 V5 := by rw [hV5]; exact ((Below.refl _ _).alloc (Nat.le_refl _) _).alloc (by simp) _
    have HS5 : Hid (NB w V5 (.bool b) (.slice a1 l1 c1) (.slice a2 l2 c2) [(w4.heap.size + 1, .slice a8 l8 c8), (w4.heap.size, .slice a7 l7 c7), (g6, .slice a2 l2 c2)]) := by
      rw [hV5]
      have s := ((unhide HS4).push (.slice a7 l7 c7)).push (.slice a8 l8 c8)
      rw [show (w4.alloc (.cells #[.slice a7 l7 c7] 72)).heap.size = w4.heap.size + 1 by simp] at s
      exact s.sub (by intro p hp; simp at hp ⊢; grind)
    have HY5 := hide ((unhide HY4).later hb5); have HQ5 := hide ((unhide HQ4).later hb5); have HR5 := hide ((unhide HR4).later hb5)
    rw [← hV5]
    clear hV5 hb5 HS3 HS4 HN3 HY3 HY4 HQ4 HR4
    generalize w4.heap.size = g7 at *
    have HC : Hid (∀ U, Below V5.heap.size V5 U → (U.cell? ⟨g7 + 1, 0, none⟩ = some (.slice a8 l8 c8) ∧ U.cell? ⟨g6, 0, none⟩ = some (.slice a2 l2 c2)) ∧ U.cell? ⟨g7, 0, none⟩ = some (.slice a7 l7 c7)) := fun U hb => by
      have s := (unhide HS5).later hb
      exact ⟨⟨(s.bx (g7 + 1, .slice a8 l8 c8) (by simp)).c, (s.bx (g6, .slice a2 l2 c2) (by simp)).c⟩, (s.bx (g7, .slice a7 l7 c7) (by simp)).c⟩
    obtain ⟨⟨u8, u6⟩, _⟩ := unhide HC V5 (Below.refl _ _)
    go_region_held3 (fun w' => w'.cell? ⟨g7 + 1, 0, none⟩ = some (.slice a8 l8 c8) ∧ w'.cell? ⟨g6, 0, none⟩ = some (.slice a2 l2 c2)) (first | assumption | (refine ⟨?_, ?_⟩ <;> first | assumption | (simp [go_sem, *]; done)) | (simp [go_sem, *]; done)) ((first
      | (go_at_call 140; go_must (refine (unhide HAD _ _ ((unhide HR5).later ((Below.refl _ _).drew))).mono ?_; rintro e wa ⟨va, rfl, hva, hba⟩; obtain ⟨aa, la, ca, rfl⟩ := hva.shape; have HVA := hide hva; have HCA := hide (((Below.refl V5.heap.size V5).drew).trans hba); clear hva hba u8 u6; obtain ⟨⟨u8, u6⟩, _⟩ := unhide HC wa (unhide HCA)))
      | (go_at_call 141; go_must (refine (unhide HCM _ _ _ (unhide HVA) ((unhide HY5).later (unhide HCA))).mono ?_; rintro e wb ⟨rfl, hbb⟩; have HCB := hide ((unhide HCA).trans (hbb.mono (unhide HCA).size)); clear hbb u8 u6; obtain ⟨⟨u8, u6⟩, _⟩ := unhide HC wb (unhide HCB)))))
    have HS6 := hide ((unhide HS5).later (unhide HCB)); have HQ6 := hide ((unhide HQ5).later (unhide HCB))
    clear u8 u6 HS5 HY5 HQ5 HR5 HC HVA HCA HCB HAD HCM
    go_upto_region 8 with fail
    have HC : Hid (∀ U, Below wb.heap.size wb U → U.cell? ⟨g7, 0, none⟩ = some (.slice a7 l7 c7) ∧ U.cell? ⟨w.heap.size + 1, 0, none⟩ = some (.slice none 0 0) ∧ U.frozen? ⟨w.heap.size + 1, 0, none⟩ = false) := fun U hb => by
      have s := (unhide HS6).later hb
      exact ⟨(s.bx (g7, .slice a7 l7 c7) (by simp)).c, s.r.c, s.r.f⟩
    have hgt : w.heap.size + 1 < g7 := (unhide HS6).gt (g7, .slice a7 l7 c7) (by simp)
    have hn1 : ¬ g7 = w.heap.size + 1 := by omega
    have hn2 : ¬ w.heap.size + 1 = g7 := by omega
    obtain ⟨u7, _⟩ := unhide HC wb (Below.refl _ _)
    go_region_held3 (fun w' => w'.cell? ⟨g7, 0, none⟩ = some (.slice a7 l7 c7)) (first | assumption | (simp [go_sem, *]; done) | (rw [World.cell?_setCell_other _ _ _ _ (by simp; omega)]; assumption)) ((first
      | (go_at_call 112; go_must (refine (unhide HBO _).mono ?_; rintro e wc ⟨ac, lc, cc, rfl, hvc, hbc⟩; have HVC := hide hvc; have HCC := hide (((Below.refl wb.heap.size wb).drew).trans hbc); clear hvc hbc u7; obtain ⟨u7, _⟩ := unhide HC wc (unhide HCC)))
      | (go_at_call 140; go_must (refine (unhide HA1 _ _ _ ((unhide HQ6).later (unhide HCC)) (unhide HVC)).mono ?_; rintro e wd ⟨vd, rfl, hvd, hbd⟩; obtain ⟨ad, ld, cd, rfl⟩ := hvd.shape; have HVD := hide hvd; have HCD := hide ((unhide HCC).trans (hbd.mono (unhide HCC).size)); clear hvd hbd u7; obtain ⟨u7, r0, rf0⟩ := unhide HC wd (unhide HCD)))))
    have HS9 := hide ((unhide HS6).later (unhide HCD))
    obtain ⟨V9, hV9⟩ : ∃ V9, V9 = wd.setCell ⟨w.heap.size + 1, 0, none⟩ (.slice ad ld cd) := ⟨_, rfl⟩
    have HE : Hid (IsBig V9 (.agg #[.slice ad ld cd]) (Q + 1) ∧ Below w.heap.size w V9) := by rw [hV9]; exact ⟨(unhide HVD).box _ r0 (not_int _ _ _), (unhide HS9).below.setCell (p := ⟨w.heap.size + 1, 0, none⟩) (by simp) _⟩
    have s0 : V9.cell? ⟨w.heap.size + 1, 0, none⟩ = some (.slice ad ld cd) := by rw [hV9]; exact World.cell?_setCell_same _ _ _ r0
    rw [← hV9]
    clear hV9 u7 r0 rf0 hgt hn1 hn2
    go_wp2_with fail
    exact bodyPost_ret (v := .agg #[.slice ad ld cd]) (by simp [results, Tryz.results86, go_sem, s0]) rfl ⟨_, _, _, rfl, (unhide HE).1, (unhide HE).2⟩
end Go.Proofs.YtifalmdoligblaaGreatDoor

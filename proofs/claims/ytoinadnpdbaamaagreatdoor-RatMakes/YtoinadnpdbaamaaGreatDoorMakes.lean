/- RatMakes: the walk, and the law whole. -/
import Derived.Test.YtoinadnpdbaamaaGreatDoorOfs
import Derived.Test.YtoinadnpdbaamaaGreatDoorLawNo
import Derived.Test.YtoinadnpdbaamaaGreatDoorGcdSmall
namespace Go.Proofs.YtoinadnpdbaamaaGreatDoor
open Go.RowKit

theorem neg_form (num : ByteArray) : (isNeg num = true ∧ 0 < num.size ∧ num.toList.isEmpty = false ∧ (∀ h : 0 < num.size, (num[0].toNat : Int) = 45) ∧ num.extract 1 num.size = digT num) ∨ (isNeg num = false ∧ digT num = num ∧ (num.toList.isEmpty = true ∨ (0 < num.size ∧ num.toList.isEmpty = false ∧ ∀ h : 0 < num.size, ((num[0].toNat : Int) == 45) = false))) := by
  rcases Nat.eq_zero_or_pos num.size with hz | hp
  · right
    have hl : num.data.toList = [] := by rw [← List.length_eq_zero_iff, list_len]; exact hz
    have hn : isNeg num = false := by unfold isNeg; rw [hl]; rfl
    exact ⟨hn, by unfold digT; rw [if_neg (by rw [hn]; decide)], Or.inl (empty_of num hz)⟩
  · have hh := list_head num hp
    by_cases hn : isNeg num = true
    · left
      have h45 : num[0] = 45 := by unfold isNeg at hn; rw [hh] at hn; simpa using hn
      refine ⟨hn, hp, not_empty_of num hp, fun _ => (byte_45 _).2 h45, ?_⟩
      apply bytes_ext
      rw [ext1, digT_list, if_pos hn]
    · right
      have hn' : isNeg num = false := by simpa using hn
      refine ⟨hn', by unfold digT; rw [if_neg hn], Or.inr ⟨hp, not_empty_of num hp, fun _ => ?_⟩⟩
      rw [beq_eq_false_iff_ne]
      intro e
      apply hn
      unfold isNeg
      rw [hh, (byte_45 _).1 e]; rfl
/-- Both News answer the same. -/
theorem news (num den : ByteArray) (s1 : num.size ≤ maxLen) (s2 : den.size ≤ maxLen) : ∃ (rn rd : ByteArray) (er : Int),
    (∀ w, Tab w → Ans 15 #[.string num, .string den] w rn rd er) ∧ (∀ w, Ans 16 #[.string num, .string den] w rn rd er) := by
  have c1 := fun W => cutSign_any num W
  have p1 := fun W => right_any (digT num) W (Nat.le_trans (digT_size num) s1)
  have p2 := fun W => right_any den W s2
  have q1 := fun W => refRight_any (digT num) W (Nat.le_trans (digT_size num) s1)
  have q2 := fun W => refRight_any den W s2
  have hf := neg_form num
  by_cases h12 : Cub.rightB (digT num).data.toList = true ∧ Cub.rightB den.data.toList = true
  · obtain ⟨k1, k2⟩ := h12
    rw [k1] at p1 q1
    rw [k2] at p2 q2
    cases h3 : (den.toList == [48]) with
    | true =>
      refine ⟨⟨#[]⟩, ⟨#[]⟩, 8, fun w _ => ?_, fun w => ?_⟩
      · exact new_err num den (digT num) (isNeg num) true true true 8 w c1 p1 p2 h3 (Or.inr ⟨rfl, rfl, rfl, rfl⟩)
      · exact refNew_walk num den (digT num) ⟨#[]⟩ ⟨#[]⟩ (isNeg num) true true true 8 w s1 hf q1 q2 h3 (fun _ _ h => by cases h) (Or.inr (Or.inl ⟨rfl, rfl, rfl, rfl, rfl, rfl⟩))
    | false =>
      obtain ⟨m, hm, e1⟩ := tb_of k1
      obtain ⟨n, hn, e2⟩ := tb_of k2
      have hn0 : n ≠ 0 := by rw [e2, tb_eq48 n hn] at h3; simpa using h3
      obtain ⟨_, r1, r2, r3⟩ := ratio_q (b := isNeg num) (show 0 < n by omega) hm hn
      refine ⟨_, _, _, fun w ht => new_ok num den (isNeg num) m n w (sT_of num m e1) e2 hm hn hn0 ht, fun w => ?_⟩
      rw [r3]
      refine refNew_walk num den (digT num) _ _ (isNeg num) true true false 0 w s1 hf q1 q2 h3 (fun _ _ _ => ⟨_, fun W => by rw [e1, e2]; exact refLowest (isNeg num) m n W hm hn hn0, fun W => ?_⟩) (Or.inr (Or.inr ⟨rfl, rfl, rfl, rfl⟩))
      have l1 : m / Nat.gcd m n < 10 ^ 600 := Nat.lt_of_le_of_lt (Nat.div_le_self _ _) hm
      have l2 : n / Nat.gcd m n < 10 ^ 600 := Nat.lt_of_le_of_lt (Nat.div_le_self _ _) hn
      have := refTold (isNeg num && decide (m / Nat.gcd m n ≠ 0)) (tb (m / Nat.gcd m n)) (tb (n / Nat.gcd m n)) W (tb_digs _ l1).2 (tb_digs _ l2).2
      rw [r1, r2]
      exact this
  · have hh : (!(Cub.rightB (digT num).data.toList) || !(Cub.rightB den.data.toList)) = true := by
      cases h1 : Cub.rightB (digT num).data.toList <;> cases h2 : Cub.rightB den.data.toList <;> simp_all
    refine ⟨⟨#[]⟩, ⟨#[]⟩, 3, fun w _ => ?_, fun w => ?_⟩
    · exact new_err num den (digT num) (isNeg num) _ _ _ 3 w c1 p1 p2 rfl (Or.inl ⟨hh, rfl⟩)
    · exact refNew_walk num den (digT num) ⟨#[]⟩ ⟨#[]⟩ (isNeg num) _ _ _ 3 w s1 hf q1 q2 rfl (fun a b _ => absurd ⟨a, b⟩ h12) (Or.inl ⟨hh, rfl, rfl, rfl⟩)

set_option maxRecDepth 100000 in
set_option maxHeartbeats 4000000 in
theorem law_makes (n1 d1 num den : ByteArray) (n : Int) (w : World) (htab : Tab w) (s1 : n1.size ≤ maxLen) (s2 : d1.size ≤ maxLen) (s3 : num.size ≤ maxLen) (s4 : den.size ≤ maxLen) (h1 : -9223372036854775808 ≤ n) (h2 : n ≤ 9223372036854775807) :
    Calls Tryz.prog 3 #[.agg #[.string n1, .string d1], .string num, .string den, .int .i64 n] w fun r w' => r = .returned (.bool true) ∧ Below w.heap.size w w' := by
  obtain ⟨ok, o1, o2⟩ : ∃ ok : Bool, Reads n1 d1 ok ∧ RB n1 d1 ok := by
    by_cases h : RightT n1 d1
    · exact ⟨true, reads_yes h, rb_yes s1 s2 h⟩
    · exact ⟨false, reads_no s1 s2 h, rb_no s1 s2 h⟩
  obtain ⟨rn, rd, er, a1, a2⟩ := news num den s3 s4
  obtain ⟨os, b1, b2⟩ := ofs n h1 h2
  obtain ⟨V, hV⟩ : ∃ V, V = w.alloc (.cells #[.string n1, .string d1] 23) := ⟨_, rfl⟩
  have hbV : Below w.heap.size w V := by rw [hV]; exact (Below.refl _ _).alloc (Nat.le_refl _) _
  have HS : Hid (T2 V w.heap.size (.string n1) (.string d1) ∧ Below w.heap.size w V) := ⟨by rw [hV]; exact ⟨by simp [go_sem], by simp [go_sem], by simp [go_sem], by simp [go_sem]⟩, hbV⟩
  have HV := hide hV
  have HTW := hide htab
  have HA1 := hide a1; have HA2 := hide a2
  have H17 := hide (fun W => ratRight_any n1 d1 ok W o1)
  have H18 := hide o2
  have H19 := hide b1; have H20 := hide b2
  have HAW := hide (fun W (hb : Below w.heap.size w W) => awake_any W (htab.later hb))
  unfold Ans at HA1 HA2
  unfold RB at H18
  clear o1 o2 a1 a2 b1 b2 h1 h2 s1 s2 s3 s4 htab hbV
  go_enter Tryz.func3, Tryz.ntmps3
  go_upto_region 1 with fail
  rw [← unhide HV]
  clear hV HV
  go_upto_region 2 with (go_at_call 15; go_must (refine (unhide HA1 _ ((unhide HTW).later (unhide HS).2)).mono ?_; rintro e w1 ⟨rfl, hb1⟩; have HS1 : Hid (T2 w1 w.heap.size (.string n1) (.string d1) ∧ Below w.heap.size w w1) := ⟨(unhide HS).1.later hb1, (unhide HS).2.trans (hb1.mono (unhide HS).2.size)⟩; clear hb1))
  obtain ⟨V2, hV2⟩ : ∃ V2, V2 = w1.alloc (.cells #[.string rn, .string rd] 23) := ⟨_, rfl⟩
  have hb2 : Below w1.heap.size w1 V2 := by rw [hV2]; exact (Below.refl _ _).alloc (Nat.le_refl _) _
  have HS2 : Hid (T2 V2 w.heap.size (.string n1) (.string d1) ∧ Below w.heap.size w V2) := ⟨(unhide HS1).1.later hb2, (unhide HS1).2.trans (hb2.mono (unhide HS1).2.size)⟩
  have HB9 : Hid (T2 V2 w1.heap.size (.string rn) (.string rd)) := by rw [hV2]; exact ⟨by simp [go_sem], by simp [go_sem], by simp [go_sem], by simp [go_sem]⟩
  rw [← hV2]
  clear hV2 hb2 HS HS1
  generalize w1.heap.size = g9 at *
  go_upto_region 3 with (go_at_call 16; go_must (refine (unhide HA2 _).mono ?_; rintro e w3 ⟨rfl, hb3⟩; have HS3 : Hid (T2 w3 w.heap.size (.string n1) (.string d1) ∧ Below w.heap.size w w3) := ⟨(unhide HS2).1.later hb3, (unhide HS2).2.trans (hb3.mono (unhide HS2).2.size)⟩; have HB3 := hide ((unhide HB9).later hb3); clear hb3))
  obtain ⟨V4, hV4⟩ : ∃ V4, V4 = w3.alloc (.cells #[.string rn, .string rd] 23) := ⟨_, rfl⟩
  have hb4 : Below w3.heap.size w3 V4 := by rw [hV4]; exact (Below.refl _ _).alloc (Nat.le_refl _) _
  have HS4 : Hid (T2 V4 w.heap.size (.string n1) (.string d1) ∧ Below w.heap.size w V4) := ⟨(unhide HS3).1.later hb4, (unhide HS3).2.trans (hb4.mono (unhide HS3).2.size)⟩
  have HB4 := hide ((unhide HB3).later hb4)
  have HC4 : Hid (T2 V4 w3.heap.size (.string rn) (.string rd)) := by rw [hV4]; exact ⟨by simp [go_sem], by simp [go_sem], by simp [go_sem], by simp [go_sem]⟩
  rw [← hV4]
  clear hV4 hb4 HS2 HS3 HB9 HB3
  generalize w3.heap.size = g11 at *
  have q0 : ∀ z : Later V4, z.world.cell? ⟨w.heap.size, 0, none⟩ = some (.string n1) := fun z => ((unhide HS4).1.later z.below).c0
  have q1 : ∀ z : Later V4, z.world.cell? ⟨w.heap.size, 1, none⟩ = some (.string d1) := fun z => ((unhide HS4).1.later z.below).c1
  have q2 : ∀ z : Later V4, z.world.cell? ⟨g9, 0, none⟩ = some (.string rn) := fun z => ((unhide HB4).later z.below).c0
  have q3 : ∀ z : Later V4, z.world.cell? ⟨g9, 1, none⟩ = some (.string rd) := fun z => ((unhide HB4).later z.below).c1
  have q4 : ∀ z : Later V4, z.world.cell? ⟨g11, 0, none⟩ = some (.string rn) := fun z => ((unhide HC4).later z.below).c0
  have q5 : ∀ z : Later V4, z.world.cell? ⟨g11, 1, none⟩ = some (.string rd) := fun z => ((unhide HC4).later z.below).c1
  have HZB : Hid (∀ z : Later V4, Below w.heap.size w z.world) := fun z => (unhide HS4).2.trans (z.below.mono (unhide HS4).2.size)
  refine quiet_later (by kernel_rfl) (by kernel_rfl) ?_
  repeat (go_big_quiet_step (first
    | (go_at_call 17; rename_i xx; refine (unhide H17 xx.world).mono ?_; rintro e w9 ⟨rfl, hb9⟩; have hz := xx.below.trans (hb9.mono xx.below.size); first | exact ⟨rfl, ⟨w9, hz⟩, rfl⟩ | exact ⟨rfl, hz⟩ | exact ⟨rfl, w9, hz, rfl⟩)
    | (go_at_call 18; rename_i xx; refine (unhide H18 xx.world).mono ?_; rintro e w9 ⟨rfl, hb9⟩; have hz := xx.below.trans (hb9.mono xx.below.size); first | exact ⟨rfl, ⟨w9, hz⟩, rfl⟩ | exact ⟨rfl, hz⟩ | exact ⟨rfl, w9, hz, rfl⟩)
    | (go_at_call 19; rename_i xx; refine (unhide H19 xx.world ((unhide HTW).later (unhide HZB xx))).mono ?_; rintro e w9 ⟨rfl, hb9⟩; have hz := xx.below.trans (hb9.mono xx.below.size); first | exact ⟨rfl, ⟨w9, hz⟩, rfl⟩ | exact ⟨rfl, hz⟩ | exact ⟨rfl, w9, hz, rfl⟩)
    | (go_at_call 20; rename_i xx; refine (unhide H20 xx.world).mono ?_; rintro e w9 ⟨rfl, hb9⟩; have hz := xx.below.trans (hb9.mono xx.below.size); first | exact ⟨rfl, ⟨w9, hz⟩, rfl⟩ | exact ⟨rfl, hz⟩ | exact ⟨rfl, w9, hz, rfl⟩)
    | (go_at_call 21; rename_i xx; refine (unhide HAW xx.world (unhide HZB xx)).mono ?_; rintro e w9 ⟨rfl, hb9⟩; have hz := xx.below.trans (hb9.mono xx.below.size); first | exact ⟨rfl, ⟨w9, hz⟩, rfl⟩ | exact ⟨rfl, hz⟩ | exact ⟨rfl, w9, hz, rfl⟩)))
  refine wpQuiet_nil ?_
  intro _ hw'
  obtain ⟨xz, hw''⟩ := hw'
  subst hw''
  have HE := hide (unhide HZB xz)
  clear q0 q1 q2 q3 q4 q5
  go_wp2_with fail
  go_ret
  exact ⟨by simp, unhide HE⟩
theorem int_range {n : Int} (h : (Lit.int .i64 n).wf = true) : -9223372036854775808 ≤ n ∧ n ≤ 9223372036854775807 := by
  have e1 : IntKind.i64.min = -9223372036854775808 := rfl
  have e2 : IntKind.i64.max = 9223372036854775807 := rfl
  simp [Lit.wf, e1, e2] at h
  exact h
end Go.Proofs.YtoinadnpdbaamaaGreatDoor

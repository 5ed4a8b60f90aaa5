/- Parse (16) of a float's own text. -/
import Derived.Test.YtijifpbpjinmhaaGreatDoorB5
import Derived.Test.YtijifpbpjinmhaaGreatDoorT3
import Derived.Test.YtijifpbpjinmhaaGreatDoorSz
import Derived.Test.YtijifpbpjinmhaaGreatDoorV10
set_option maxHeartbeats 4000000
set_option maxRecDepth 100000
namespace Go.Proofs.YtijifpbpjinmhaaGreatDoor
open Go.RowKit
theorem ba_ext {s t : ByteArray} (h : s.data.toList = t.data.toList) : s = t := ByteArray.ext (Array.ext' h)
theorem tl_append (s t : ByteArray) : (s ++ t).data.toList = s.data.toList ++ t.data.toList := by simp [ByteArray.data_append]
theorem tl_extract (s : ByteArray) (i j : Nat) : (s.extract i j).data.toList = (s.data.toList.drop i).take (j - i) := by
  simp [ByteArray.data_extract, List.extract_eq_take_drop]
theorem zer_list (k : Nat) : (zer k).data.toList = List.replicate k 48 := by simp [zer]
theorem dg_zer (k : Nat) : Dg (zer k) := by
  intro c hc
  rw [zer_list] at hc
  have := (List.mem_replicate.1 hc).2
  rw [this]; decide
theorem dg_extract (T : ByteArray) (i j : Nat) (h : Dg T) : Dg (T.extract i j) := by
  intro c hc
  rw [tl_extract] at hc
  exact h c (List.mem_of_mem_drop (List.mem_of_mem_take hc))
theorem dg_nought : Dg ⟨#[48]⟩ := fun c hc => by simp at hc; subst hc; decide
/-- A float's text is a decimal text: its parts, its digits, its place. -/
def FormP (T : ByteArray) (n : Int) (pt ex dn : Bool) (A B : ByteArray) (m i j : Nat) : Prop :=
  laidT T n = deT false pt ex dn A B (tx m) ∧ Dg A ∧ 0 < A.size ∧ Dg B ∧ (pt = true → 0 < B.size) ∧ (ex = true → 1 ≤ m ∧ m ≤ 998) ∧ (A.size ≤ 900 ∧ B.size ≤ 900) ∧ (A ++ Bh pt B).data.toList = List.replicate i 48 ++ (T.data.toList ++ List.replicate j 48) ∧ (if ex then (if dn then -(m : Int) else (m : Int)) else 0) - ((Bh pt B).size : Int) = n - (T.size : Int) - (j : Int) ∧ j ≤ 21
theorem laidT_form (T : ByteArray) (n : Int) (hT : Dg T) (h1 : 1 ≤ T.size) (h2 : T.size ≤ 18) (h3 : -500 ≤ n) (h4 : n ≤ 500) : ∃ pt ex dn A B m i j, FormP T n pt ex dn A B m i j := by
  have dgn : Dg ⟨#[]⟩ := fun c hc => by simp at hc
  have hl : T.data.toList.length = T.size := list_len T
  unfold FormP laidT
  by_cases c1 : (T.size : Int) ≤ n ∧ n ≤ 21
  · refine ⟨false, false, false, T ++ zer (n - (T.size : Int)).toNat, ⟨#[]⟩, 1, 0, (n - (T.size : Int)).toNat, ?_, dg_append hT (dg_zer _), ?_, dgn, by decide, by decide, ⟨?_, by decide⟩, ?_, ?_, by omega⟩
    · rw [if_pos c1]
      apply ba_ext; rw [deT_list]; simp
    · rw [ByteArray.size_append]; omega
    · rw [ByteArray.size_append, zer_size]; omega
    · rw [tl_append, tl_append, zer_list]; simp [Bh]
    · simp [Bh, size_nil]; omega
  · rw [if_neg c1]
    by_cases c2 : 0 < n ∧ n < (T.size : Int)
    · rw [if_pos c2]
      refine ⟨true, false, false, T.extract 0 n.toNat, T.extract n.toNat T.size, 1, 0, 0, ?_, dg_extract _ _ _ hT, ?_, dg_extract _ _ _ hT, fun _ => ?_, by decide, ⟨?_, ?_⟩, ?_, ?_, by omega⟩
      · apply ba_ext; rw [deT_list]; simp only [tl_append]; simp
      · rw [ByteArray.size_extract]; omega
      · rw [ByteArray.size_extract]; omega
      · rw [ByteArray.size_extract]; omega
      · rw [ByteArray.size_extract]; omega
      · have e : Bh true (T.extract n.toNat T.size) = T.extract n.toNat T.size := rfl
        rw [e, tl_append, tl_extract, tl_extract, ← hl]
        simp only [List.drop_zero, Nat.sub_zero, List.replicate_zero, List.nil_append, List.append_nil]
        rw [List.take_of_length_le (l := T.data.toList.drop n.toNat) (by rw [List.length_drop]; omega), List.take_append_drop]
      · have e : Bh true (T.extract n.toNat T.size) = T.extract n.toNat T.size := rfl
        rw [e, if_neg Bool.false_ne_true, ByteArray.size_extract]; omega
    · rw [if_neg c2]
      by_cases c3 : -6 < n ∧ n ≤ 0
      · rw [if_pos c3]
        refine ⟨true, false, false, ⟨#[48]⟩, zer (-n).toNat ++ T, 1, 1 + (-n).toNat, 0, ?_, dg_nought, by decide, dg_append (dg_zer _) hT, fun _ => ?_, by decide, ⟨by decide, ?_⟩, ?_, ?_, by omega⟩
        · apply ba_ext; rw [deT_list]; simp only [tl_append]; simp
        · rw [ByteArray.size_append]; omega
        · rw [ByteArray.size_append, zer_size]; omega
        · have e : Bh true (zer (-n).toNat ++ T) = zer (-n).toNat ++ T := rfl
          rw [e, tl_append, tl_append, zer_list, ← List.replicate_append_replicate]; simp
        · have e : Bh true (zer (-n).toNat ++ T) = zer (-n).toNat ++ T := rfl
          rw [e, if_neg Bool.false_ne_true, ByteArray.size_append, zer_size]; omega
      · rw [if_neg c3]
        have hpos : 0 < n → 21 < n := by omega
        refine ⟨decide (1 < (T.size : Int)), true, decide (¬ 0 < n), T.extract 0 1, T.extract 1 T.size, (if 0 < n then n - 1 else 1 - n).toNat, 0, 0, ?_, dg_extract _ _ _ hT, ?_, dg_extract _ _ _ hT, fun h => ?_, fun _ => ?_, ⟨?_, ?_⟩, ?_, ?_, by omega⟩
        · apply ba_ext; rw [deT_list]
          by_cases d1 : 1 < (T.size : Int)
          · rw [if_pos d1, decide_eq_true d1]
            by_cases d2 : 0 < n
            · rw [if_pos d2, decide_eq_false (by omega)]; simp only [tl_append]; simp
            · rw [if_neg d2, decide_eq_true d2]; simp only [tl_append]; simp
          · rw [if_neg d1, decide_eq_false d1]
            by_cases d2 : 0 < n
            · rw [if_pos d2, decide_eq_false (by omega)]; simp only [tl_append]; simp
            · rw [if_neg d2, decide_eq_true d2]; simp only [tl_append]; simp
        · rw [ByteArray.size_extract]; omega
        · have := of_decide_eq_true h; rw [ByteArray.size_extract]; omega
        · by_cases d2 : 0 < n
          · rw [if_pos d2]; have := hpos d2; omega
          · rw [if_neg d2]; omega
        · rw [ByteArray.size_extract]; omega
        · rw [ByteArray.size_extract]; omega
        · by_cases d1 : 1 < (T.size : Int)
          · have e : Bh (decide (1 < (T.size : Int))) (T.extract 1 T.size) = T.extract 1 T.size := by rw [decide_eq_true d1]; rfl
            rw [e, tl_append, tl_extract, tl_extract, ← hl]
            simp only [List.drop_zero, Nat.sub_zero, List.replicate_zero, List.nil_append, List.append_nil]
            rw [List.take_of_length_le (l := T.data.toList.drop 1) (by rw [List.length_drop]; omega), List.take_append_drop]
          · have e : Bh (decide (1 < (T.size : Int))) (T.extract 1 T.size) = ⟨#[]⟩ := by rw [decide_eq_false d1]; rfl
            rw [e, ba_nil, tl_extract]
            simp only [List.drop_zero, Nat.sub_zero, List.replicate_zero, List.nil_append, List.append_nil]
            rw [List.take_of_length_le (by omega)]
        · have e : ((Bh (decide (1 < (T.size : Int))) (T.extract 1 T.size)).size : Int) = (T.size : Int) - 1 := by
            by_cases d1 : 1 < (T.size : Int)
            · rw [decide_eq_true d1]; show ((T.extract 1 T.size).size : Int) = _; rw [ByteArray.size_extract]; omega
            · rw [decide_eq_false d1]; show ((⟨#[]⟩ : ByteArray).size : Int) = _; rw [size_nil]; omega
          rw [e, if_pos rfl]
          by_cases d2 : 0 < n
          · rw [if_pos d2, decide_eq_false (by omega), if_neg Bool.false_ne_true]; omega
          · rw [if_neg d2, decide_eq_true d2, if_pos rfl]; omega
theorem NearU.congr {n d u k e : Nat} (h : NearU n d u) (hd : 0 < d) (he : 0 < e) (hv : n * e = k * d) (hk : k < 10 ^ 600) : NearU k e u := by
  obtain ⟨T, hT⟩ : ∃ T, T = 970 := ⟨_, rfl⟩
  have hb := h.below_end hT hd
  rcases Nat.eq_zero_or_pos k with h0 | h0
  · subst h0
    have g := near_zero0 e he
    rw [h.same g hd he hv]; exact g
  · obtain ⟨x, hz⟩ := sz_600 k e hk he
    have hlt : k < 18014398509481983 * (e * 2 ^ T) := by
      have h1 : n * e < 18014398509481983 * (d * 2 ^ T) * e := Nat.mul_lt_mul_of_pos_right hb he
      rw [hv] at h1
      have h2 : 18014398509481983 * (d * 2 ^ T) * e = 18014398509481983 * (e * 2 ^ T) * d := by
        ac_rfl
      rw [h2] at h1
      exact Nat.lt_of_mul_lt_mul_right h1
    have g := near_pos k e T x he hz hT hlt
    rw [h.same g hd he hv]; exact g
theorem near_tiny (K : Nat) (hK : K = 330) : NearU 1 (10 ^ K) 0 := by
  subst hK
  refine ⟨-1074, 0, 2 ^ 1074, by decide, by decide, by decide, Or.inl rfl, ?_, ?_, by decide, ?_⟩
  · decide +kernel
  · decide +kernel
  · decide +kernel
theorem end_320 (T K : Nat) (hT : T = 970) (hK : K = 320) : 18014398509481983 * 2 ^ T < 10 ^ K := by rw [hT, hK]; decide +kernel
/-- Where the digits of a float stand. -/
theorem near_rng (d k u : Nat) (n : Int) (h0 : 0 < u) (hk1 : 1 ≤ k) (hk2 : k ≤ 17) (hn1 : -400 ≤ n) (hn2 : n ≤ 400) (hd1 : 10 ^ (k - 1) ≤ d) (hd2 : d ≤ 10 ^ k) (h : NearU (d * tN (n - (k : Int))) (tD (n - (k : Int))) u) : -330 ≤ n ∧ n ≤ 320 := by
  constructor
  · by_cases hlt : n < -330
    · exfalso
      obtain ⟨K, hK⟩ : ∃ K, K = 330 := ⟨_, rfl⟩
      have hle : (d * tN (n - (k : Int))) * 10 ^ K ≤ 1 * tD (n - (k : Int)) := by
        have e1 : tN (n - (k : Int)) = 1 := by unfold tN; rw [show (n - (k : Int)).toNat = 0 by omega]
        have e2 : tD (n - (k : Int)) = 10 ^ (-(n - (k : Int))).toNat := rfl
        rw [e1, e2, Nat.mul_one, Nat.one_mul]
        refine Nat.le_trans (Nat.mul_le_mul_right _ hd2) ?_
        rw [← Nat.pow_add]
        exact Nat.pow_le_pow_right (by decide) (by omega)
      have := (near_tiny K hK).mono h (tD_pos _) hle
      omega
    · omega
  · by_cases hlt : 320 < n
    · exfalso
      obtain ⟨T, hT⟩ : ∃ T, T = 970 := ⟨_, rfl⟩
      have hb := h.below_end hT (tD_pos _)
      have e2 : tD (n - (k : Int)) = 1 := by unfold tD; rw [show (-(n - (k : Int))).toNat = 0 by omega]
      have e1 : tN (n - (k : Int)) = 10 ^ (n - (k : Int)).toNat := rfl
      rw [e2, e1, Nat.one_mul] at hb
      obtain ⟨K, hK⟩ : ∃ K, K = 320 := ⟨_, rfl⟩
      have h3 := end_320 T K hT hK
      have h4 : 10 ^ K ≤ d * 10 ^ (n - (k : Int)).toNat := by
        refine Nat.le_trans ?_ (Nat.mul_le_mul_right _ hd1)
        rw [← Nat.pow_add]
        exact Nat.pow_le_pow_right (by decide) (by omega)
      omega
    · omega
/-- What a float's digits and place are. -/
def RP (u : Nat) (T : ByteArray) (n : Int) : Prop := Dg T ∧ 1 ≤ T.size ∧ T.size ≤ 18 ∧ -330 ≤ n ∧ n ≤ 321 ∧ T.data.toList.head? ≠ some 48 ∧ NearU (dv T * tN (n - (T.size : Int))) (tD (n - (T.size : Int))) u
theorem tN_lt (d : Nat) (z : Int) (h1 : d < 10 ^ 18) (h2 : z ≤ 400) : d * tN z < 10 ^ 600 := by
  unfold tN
  obtain ⟨K, hK⟩ : ∃ K, K = 400 := ⟨_, rfl⟩
  obtain ⟨L, hL⟩ : ∃ L, L = 600 := ⟨_, rfl⟩
  rw [← hL]
  have : 10 ^ z.toNat ≤ 10 ^ K := Nat.pow_le_pow_right (by decide) (by omega)
  have h3 : d * 10 ^ z.toNat < 10 ^ 18 * 10 ^ K := Nat.lt_of_lt_of_le (Nat.mul_lt_mul_of_pos_right h1 (Nat.pow_pos (by decide))) (Nat.mul_le_mul_left _ this)
  rw [← Nat.pow_add] at h3
  exact Nat.lt_of_lt_of_le h3 (Nat.pow_le_pow_right (by decide) (by omega))
theorem pt_rp {u : Nat} {T : ByteArray} {n : Int} (h0 : 0 < u) (h : PT u T n) : RP u T n := by
  rcases h with ⟨e, _⟩ | ⟨_, n0, k, d, hs, h⟩
  · omega
  · obtain ⟨s1, s2, s3, s4, s5, s6, s7, _⟩ := hs
    obtain ⟨d1, d2⟩ := ten17 d k s2 s6
    obtain ⟨r1, r2⟩ := near_rng d k u n0 h0 s1 s2 s3 s4 s5 s6 s7
    rcases h with ⟨hk, rfl, rfl⟩ | ⟨hk, rfl, rfl⟩
    · rw [tb_size_eq d d2] at hk
      have hd : d = 10 ^ k := by
        have : ¬ d < 10 ^ k := fun hlt => by
          have := nD_le d k s1 hlt
          omega
        omega
      refine ⟨fun c hc => by simp at hc; subst hc; decide, by decide, by decide, by omega, by omega, by decide, ?_⟩
      have e1 : dv ⟨#[49]⟩ = 1 := by decide
      have e2 : ((⟨#[49]⟩ : ByteArray).size : Int) = 1 := rfl
      rw [e1, e2, Nat.one_mul]
      refine s7.congr (tD_pos _) (tD_pos _) ?_ ?_
      · rw [hd]
        unfold tN tD
        rw [← Nat.pow_add, ← Nat.pow_add, ← Nat.pow_add]
        congr 1
        omega
      · have := tN_lt 1 (n0 + 1 - 1) (by decide) (by omega)
        rwa [Nat.one_mul] at this
    · have hsz := tb_size_eq d d2
      have hz1 : Lib.nDigits d = k := by
        rw [hsz] at hk
        have hle : k ≤ Lib.nDigits d := by
          rcases Nat.lt_or_ge (Lib.nDigits d) k with hlt | hge
          · exfalso
            have := dig_hi d
            have h3 : 10 ^ Lib.nDigits d ≤ 10 ^ (k - 1) := Nat.pow_le_pow_right (by decide) (by omega)
            omega
          · omega
        omega
      have hT := tb_list d d2
      have hv : dv (tb d) = d := (tb_right d d2).2
      refine ⟨(tb_digs d d2).1, by omega, by omega, by omega, by omega, ?_, ?_⟩
      · rw [hT]
        intro e
        have := Cub.dec_head d e
        have : 0 < 10 ^ (k - 1) := Nat.pow_pos (by decide)
        omega
      · rw [hv, hsz, hz1]; exact s7
end Go.Proofs.YtijifpbpjinmhaaGreatDoor
namespace Go.Proofs.YtijifpbpjinmhaaGreatDoor
open Go.RowKit Go.Maps Go.ChangeMaps Go.WideMaps
theorem wR_zero : wR (.float .f64 0) = some (.lit (.int .i64 0), []) := rfl
theorem parse_word (l : List UInt8) (b : Nat) (hw : IsWord l b) (w : World) : Calls Tryz.prog 16 #[.string ⟨l.toArray⟩] w fun r w' => r = .returned (.tuple #[.float .f64 b, .int .i64 0]) ∧ Below w.heap.size w w' := by
  obtain ⟨g, hg⟩ : ∃ g, g = w.heap.size := ⟨_, rfl⟩
  have HG0 : Hid (g = w.heap.size) := hg
  clear hg
  have HW : Hid (Calls Tryz.prog 43 #[] w fun r w' => r = .returned (.map (some g)) ∧ w'.ownsMap Tryz.prog 9 wR g 3 (wD 3) ∧ Below w.heap.size w w') := by rw [unhide HG0]; exact words_any w
  have hsz : l.length ≤ 4 := by rcases hw with ⟨rfl, _⟩ | ⟨rfl, _⟩ | ⟨rfl, _⟩ <;> decide
  have HK := hide (key_of ⟨l.toArray⟩ (by show l.toArray.size ≤ 20; simp; omega))
  have HH : Hid (Maps.has (wD 3) (.string l) = true) := hw.has
  have HA : Hid (∀ v ps, wR v = some ((wD 3).atKey (.string l) (.lit (.int .i64 0)), ps) → v = .float .f64 b) := fun v ps h => by
    obtain ⟨l', b', e1, h2, h3⟩ := wD_key (.string l) (.lit (.int .i64 0)) hw.has
    rw [h3] at h
    obtain ⟨c, rfl, hc⟩ := wR_inv h
    obtain rfl : l = l' := by cases e1; rfl
    have : b' = b := by rcases hw with ⟨h4, h5⟩ | ⟨h4, h5⟩ | ⟨h4, h5⟩ <;> rcases h2 with ⟨h6, h7⟩ | ⟨h6, h7⟩ | ⟨h6, h7⟩ <;> subst h4 <;> first | exact absurd h6 (by decide) | rw [h5, h7]
    rw [show c = b by omega]
  clear hw hsz
  generalize hS : (⟨l.toArray⟩ : ByteArray) = S at *
  have HK2 : Hid (keyOf Tryz.prog 9 (.string S) = some (.string l)) := hide (by have h := unhide HK; rw [← hS] at h ⊢; simpa using h)
  clear HK hS
  go_enter Tryz.func16, Tryz.ntmps16
  go_wp2_with (first
    | (go_at_call 43; go_must (refine (unhide HW).mono ?_; rintro e w1 ⟨rfl, hown, hb⟩; have HO := hide hown; have HB := hide hb; clear hown hb))
    | (at_lookup; refine wpList_lookup_own_ok _ rfl _ _ 70 rfl 9 24 (string_keyed Tryz.underlying9) underM wR (Tryz.zeroValue24 _) _ _ wR_zero g 3 (wD 3) rfl (unhide HO) _ _ rfl (unhide HK2) ?_; intro v ps hv; obtain rfl := unhide HA v ps hv; rw [unhide HH]; clear hv))
  go_ret2
  exact ⟨rfl, unhide HB⟩
/-- No word: its text is none of the map's keys. -/
def NoWord (s : ByteArray) : Prop := Maps.has (wD 3) (.string s.data.toList) = false
theorem key_any (s : ByteArray) (h : s.size ≤ 1000000) : keyOf Tryz.prog 9 (.string s) = some (.string s.data.toList) := keyOf_string_mk Tryz.underlying9 (by unfold maxLen; omega)
theorem parse_no1 (s : ByteArray)  (w : World) (hw : NoWord s) (hm : s.size ≤ 1000000) (hs : (1000 : Int) < (s.size : Int)) :
    Calls Tryz.prog 16 #[.string s] w fun r w' => r = .returned (.tuple #[.float .f64 0, .int .i64 3]) ∧ Below w.heap.size w w' := by
  obtain ⟨g, hg⟩ : ∃ g, g = w.heap.size := ⟨_, rfl⟩
  have HG0 : Hid (g = w.heap.size) := hg
  clear hg
  have HW : Hid (Calls Tryz.prog 43 #[] w fun r w' => r = .returned (.map (some g)) ∧ w'.ownsMap Tryz.prog 9 wR g 3 (wD 3) ∧ Below w.heap.size w w') := by rw [unhide HG0]; exact words_any w
  have HK2 := hide (key_any s hm)
  have HH : Hid (Maps.has (wD 3) (.string s.data.toList) = false) := hw
  clear hw hm
  go_enter Tryz.func16, Tryz.ntmps16
  go_wp2_with (first
    | (go_at_call 43; go_must (refine (unhide HW).mono ?_; rintro e w1 ⟨rfl, hown, hb⟩; have HO := hide hown; have HB := hide hb; clear hown hb))
    | (at_lookup; refine wpList_lookup_own_ok _ rfl _ _ 70 rfl 9 24 (string_keyed Tryz.underlying9) underM wR (Tryz.zeroValue24 _) _ _ wR_zero g 3 (wD 3) rfl (unhide HO) _ _ rfl (unhide HK2) ?_; intro v ps hv; rw [unhide HH]; clear hv))
  go_ret2
  exact ⟨rfl, unhide HB⟩
theorem parse_zero (s : ByteArray) (t dg : ByteArray) (b : Bool) (pl : Int) (f : Nat) (er : Int) (w : World) (hw : NoWord s) (hm : s.size ≤ 1000000) (hs : ¬ (1000 : Int) < (s.size : Int)) (HI : ∀ W : World, Below w.heap.size w W → Calls Tryz.prog 44 #[.string s] W fun r w' => r = .returned (.bool true) ∧ Below W.heap.size W w') (HP : ∀ W : World, Calls Tryz.prog 30 #[.string s, .string ⟨#[45]⟩] W fun r w' => r = .returned (.tuple #[.string t, .bool b]) ∧ w' = W) (HD : ∀ W : World, Below w.heap.size w W → Calls Tryz.prog 45 #[.string t] W fun r w' => r = .returned (.tuple #[.string dg, .int .i64 pl]) ∧ Below W.heap.size W w') (hdg : (dg.size : Int) ≤ 2000) (hpl1 : -200000 ≤ pl) (hpl2 : pl ≤ 200000) (he : dg.toList.isEmpty = true ∨ (dg.toList.isEmpty = false ∧ (dg.size : Int) + pl < -330)) (HN : ∀ (a1 : Option Addr) (l1 c1 : Nat) (a2 : Option Addr) (l2 c2 : Nat) (W : World), Below w.heap.size w W → IsBig W (.agg #[.slice a1 l1 c1]) 0 → IsBig W (.agg #[.slice a2 l2 c2]) 1 → Calls Tryz.prog 31 #[.bool b, .agg #[.slice a1 l1 c1, .slice a2 l2 c2]] W fun e w' => e = .returned (.tuple #[.float .f64 f, .int .i64 er]) ∧ Below W.heap.size W w') :
    Calls Tryz.prog 16 #[.string s] w fun r w' => r = .returned (.tuple #[.float .f64 f, .int .i64 er]) ∧ Below w.heap.size w w' := by
  obtain ⟨g, hg⟩ : ∃ g, g = w.heap.size := ⟨_, rfl⟩
  have HG0 : Hid (g = w.heap.size) := hg
  clear hg
  have HW : Hid (Calls Tryz.prog 43 #[] w fun r w' => r = .returned (.map (some g)) ∧ w'.ownsMap Tryz.prog 9 wR g 3 (wD 3) ∧ Below w.heap.size w w') := by rw [unhide HG0]; exact words_any w
  have HK2 := hide (key_any s hm)
  have HH : Hid (Maps.has (wD 3) (.string s.data.toList) = false) := hw
  clear hw hm
  have GI := hide HI
  have GP := hide HP
  have GD := hide HD
  have hw9 : IntKind.i64.wrap ((dg.size : Int) + pl) = (dg.size : Int) + pl := by rw [IntKind.wrap_i64]; omega
  clear HI HP HD
  have GN := hide HN
  clear HN
  go_enter Tryz.func16, Tryz.ntmps16
  rcases he with he | ⟨he, hn⟩
  all_goals
    go_wp2_with (first
      | (go_at_call 43; go_must (refine (unhide HW).mono ?_; rintro e w1 ⟨rfl, hown, hb⟩; have HO := hide hown; have HB := hide hb; clear hown hb))
      | (at_lookup; refine wpList_lookup_own_ok _ rfl _ _ 70 rfl 9 24 (string_keyed Tryz.underlying9) underM wR (Tryz.zeroValue24 _) _ _ wR_zero g 3 (wD 3) rfl (unhide HO) _ _ rfl (unhide HK2) ?_; intro v ps hv; rw [unhide HH]; clear hv)
      | (have hchk := HB; clear hchk; go_at_call 44; go_must (refine (unhide GI _ (unhide HB)).mono ?_; rintro e w2 ⟨rfl, hb⟩; have HB2 := hide ((unhide HB).trans (hb.mono (unhide HB).size)); clear hb HB HO))
      | (go_at_call 30; go_must (refine (unhide GP _).mono ?_; rintro e w3 ⟨rfl, hw3⟩; have hw4 := hw3.symm; subst hw4; clear hw3))
      | (have hchk := HB2; clear hchk; go_at_call 45; go_must (refine (unhide GD _ (unhide HB2)).mono ?_; rintro e w4 ⟨rfl, hb⟩; have HB4 := hide ((unhide HB2).trans (hb.mono (unhide HB2).size)); clear hb HB2))
      | (have hchk := HB4; clear hchk; go_at_call 46; go_must (refine (whole_any none 0 0 0 _ (IsBig.zero _)).mono ?_; rintro e U5 ⟨_, rfl, ⟨a4, l4, c4, a5, l5, c5, rfl, hv1, hv2⟩, hb⟩; have HV1 := hide hv1; have HV2 := hide hv2; have HB5 := hide ((unhide HB4).trans (hb.mono (unhide HB4).size)); clear hb HB4 hv1 hv2))
      | (have hchk := HB5; clear hchk; go_at_call 31; go_must (refine (unhide GN _ _ _ _ _ _ _ (unhide HB5) (unhide HV1) (unhide HV2)).mono ?_; rintro e U6 ⟨rfl, hb⟩; have HB6 := hide ((unhide HB5).trans (hb.mono (unhide HB5).size)); clear hb HB5)))
    exact bodyPost_ret (v := .tuple #[.float .f64 f, .int .i64 er]) (by simp [results, Tryz.results16, go_sem]) rfl ⟨rfl, unhide HB6⟩
theorem parse_fin (s : ByteArray) (t dg : ByteArray) (b : Bool) (pl : Int) (f N D dv' : Nat) (er : Int) (w : World) (hw : NoWord s) (hm : s.size ≤ 1000000) (hs : ¬ (1000 : Int) < (s.size : Int)) (HI : ∀ W : World, Below w.heap.size w W → Calls Tryz.prog 44 #[.string s] W fun r w' => r = .returned (.bool true) ∧ Below W.heap.size W w') (HP : ∀ W : World, Calls Tryz.prog 30 #[.string s, .string ⟨#[45]⟩] W fun r w' => r = .returned (.tuple #[.string t, .bool b]) ∧ w' = W) (HD : ∀ W : World, Below w.heap.size w W → Calls Tryz.prog 45 #[.string t] W fun r w' => r = .returned (.tuple #[.string dg, .int .i64 pl]) ∧ Below W.heap.size W w') (he : dg.toList.isEmpty = false) (hn1 : ¬ (dg.size : Int) + pl < -330) (hn2 : ¬ 330 < (dg.size : Int) + pl) (HBT : ∀ W : World, Calls Tryz.prog 32 #[.string dg] W fun e w' => ∃ a l c, e = .returned (.agg #[.slice a l c]) ∧ IsBig w' (.agg #[.slice a l c]) dv' ∧ Below W.heap.size W w') (HTT : ∀ W : World, Calls Tryz.prog 48 #[.int .i64 pl] W fun e w' => ∃ v, e = .returned v ∧ IsSz w' v N D ∧ Below W.heap.size W w') (hlim : dv' < 1000000000 ^ 200 ∧ 1 < 1000000000 ^ 200 ∧ N < 1000000000 ^ 200 ∧ D < 1000000000 ^ 200) (HN : ∀ (a1 : Option Addr) (l1 c1 : Nat) (a2 : Option Addr) (l2 c2 : Nat) (W : World), Below w.heap.size w W → IsBig W (.agg #[.slice a1 l1 c1]) (dv' * N) → IsBig W (.agg #[.slice a2 l2 c2]) (1 * D) → Calls Tryz.prog 31 #[.bool b, .agg #[.slice a1 l1 c1, .slice a2 l2 c2]] W fun e w' => e = .returned (.tuple #[.float .f64 f, .int .i64 er]) ∧ Below W.heap.size W w') :
    Calls Tryz.prog 16 #[.string s] w fun r w' => r = .returned (.tuple #[.float .f64 f, .int .i64 er]) ∧ Below w.heap.size w w' := by
  obtain ⟨g, hg⟩ : ∃ g, g = w.heap.size := ⟨_, rfl⟩
  have HG0 : Hid (g = w.heap.size) := hg
  clear hg
  have HW : Hid (Calls Tryz.prog 43 #[] w fun r w' => r = .returned (.map (some g)) ∧ w'.ownsMap Tryz.prog 9 wR g 3 (wD 3) ∧ Below w.heap.size w w') := by rw [unhide HG0]; exact words_any w
  have HK2 := hide (key_any s hm)
  have HH : Hid (Maps.has (wD 3) (.string s.data.toList) = false) := hw
  clear hw hm
  have GI := hide HI
  have GP := hide HP
  have GD := hide HD
  have hw9 : IntKind.i64.wrap ((dg.size : Int) + pl) = (dg.size : Int) + pl := by rw [IntKind.wrap_i64]; omega
  clear HI HP HD
  have GN := hide HN
  have GBT := hide HBT
  have GTT := hide HTT
  have HLIM := hide hlim
  clear HN HBT HTT hlim
  go_enter Tryz.func16, Tryz.ntmps16
  go_wp2_with (first
    | (go_at_call 43; go_must (refine (unhide HW).mono ?_; rintro e w1 ⟨rfl, hown, hb⟩; have HO := hide hown; have HB := hide hb; clear hown hb))
    | (at_lookup; refine wpList_lookup_own_ok _ rfl _ _ 70 rfl 9 24 (string_keyed Tryz.underlying9) underM wR (Tryz.zeroValue24 _) _ _ wR_zero g 3 (wD 3) rfl (unhide HO) _ _ rfl (unhide HK2) ?_; intro v ps hv; rw [unhide HH]; clear hv)
    | (have hchk := HB; clear hchk; go_at_call 44; go_must (refine (unhide GI _ (unhide HB)).mono ?_; rintro e w2 ⟨rfl, hb⟩; have HB2 := hide ((unhide HB).trans (hb.mono (unhide HB).size)); clear hb HB HO))
    | (go_at_call 30; go_must (refine (unhide GP _).mono ?_; rintro e w3 ⟨rfl, hw3⟩; have hw4 := hw3.symm; subst hw4; clear hw3))
    | (have hchk := HB2; clear hchk; go_at_call 45; go_must (refine (unhide GD _ (unhide HB2)).mono ?_; rintro e w4 ⟨rfl, hb⟩; have HB4 := hide ((unhide HB2).trans (hb.mono (unhide HB2).size)); clear hb HB2))
    | (have hchk := HB4; clear hchk; go_at_call 32; go_must (refine (unhide GBT _).mono ?_; rintro e U5 ⟨a3, l3, c3, rfl, hv, hb⟩; have HS5 := hide (St.push (bl := []) (bg := []) (St.nil ((unhide HB4).trans (hb.mono (unhide HB4).size))) hv); clear hv hb))
    | (have hchk := HS5; clear hchk; go_at_call 46; go_must (refine (whole_any _ _ _ dv' _ ((unhide HS5).bgt 0 rfl)).mono ?_; rintro e U6 ⟨_, rfl, ⟨a4, l4, c4, a5, l5, c5, rfl, hv1, hv2⟩, hb⟩; have HS6 := hide ((((unhide HS5).later hb).push hv1).push hv2); clear HS5 hb hv1 hv2))
    | (have hchk := HS6; clear hchk; go_at_call 48; go_must (refine (unhide GTT _).mono ?_; rintro e U7 ⟨_, rfl, ⟨a6, l6, c6, a7, l7, c7, rfl, hv1, hv2⟩, hb⟩; have HS7 := hide ((((unhide HS6).later hb).push hv1).push hv2); clear HS6 hb hv1 hv2))
    | (have hchk := HS7; clear hchk; go_at_call 47; go_must (refine (times_any _ _ _ _ _ _ _ _ _ _ _ _ dv' 1 N D 200 _ ((unhide HS7).bgt 3 rfl) ((unhide HS7).bgt 2 rfl) ((unhide HS7).bgt 1 rfl) ((unhide HS7).bgt 0 rfl) (by decide) (unhide HLIM).1 (unhide HLIM).2.1 (unhide HLIM).2.2.1 (unhide HLIM).2.2.2).mono ?_; rintro e U8 ⟨_, rfl, ⟨a8, l8, c8, a9, l9, c9, rfl, hv1, hv2⟩, hb⟩; have HS8 := hide ((((unhide HS7).later hb).push hv1).push hv2); clear HS7 hb hv1 hv2))
    | (have hchk := HS8; clear hchk; go_at_call 31; go_must (refine (unhide GN _ _ _ _ _ _ _ (unhide HS8).below ((unhide HS8).bgt 1 rfl) ((unhide HS8).bgt 0 rfl)).mono ?_; rintro e U9 ⟨rfl, hb⟩; have HS9 := hide ((unhide HS8).later hb); clear HS8 hb)))
  exact bodyPost_ret (v := .tuple #[.float .f64 f, .int .i64 er]) (by simp [results, Tryz.results16, go_sem]) rfl ⟨rfl, (unhide HS9).below⟩
/-- A decimal text is none of the three words. -/
theorem noWord_deT (b pt ex dn : Bool) (A B X : ByteArray) (hA : Dg A) (hB : Dg B) (hX : Dg X) : NoWord (deT b pt ex dn A B X) := by
  unfold NoWord
  rw [Bool.eq_false_iff]
  intro h
  obtain ⟨l, c, e, hw, _⟩ := wD_key _ (.map []) h
  have e' : (deT b pt ex dn A B X).data.toList = l := by cases e; rfl
  have hall := deT_mem b pt ex dn A B X hA hB hX
  rw [e'] at hall
  rcases hw with ⟨rfl, _⟩ | ⟨rfl, _⟩ | ⟨rfl, _⟩
  · exact absurd (hall 78 (by simp)) (by decide)
  · exact absurd (hall 73 (by simp)) (by decide)
  · exact absurd (hall 73 (by simp)) (by decide)
theorem cut_minus (b pt ex dn : Bool) (A B X : ByteArray) (hA : Dg A) (hA0 : 0 < A.size) (W : World) :
    Calls Tryz.prog 30 #[.string (deT b pt ex dn A B X), .string ⟨#[45]⟩] W fun r w' => r = .returned (.tuple #[.string (deT false pt ex dn A B X), .bool b]) ∧ w' = W := by
  have h := Tryz.strings_CutPrefix (deT b pt ex dn A B X) ⟨#[45]⟩ W
  have e1 : (⟨#[45]⟩ : ByteArray).data.toList = [45] := rfl
  rw [e1] at h
  cases b with
  | true =>
    have e2 : (deT true pt ex dn A B X).data.toList = 45 :: (deT false pt ex dn A B X).data.toList := by rw [deT_list, deT_list]; rfl
    have p1 : Lib.hasPrefix (deT true pt ex dn A B X).data.toList [45] = true := by rw [e2]; simp [Lib.hasPrefix]
    have p2 : Lib.trimPrefix (deT true pt ex dn A B X).data.toList [45] = (deT false pt ex dn A B X).data.toList := by
      unfold Lib.trimPrefix; rw [p1, if_pos rfl, e2]; rfl
    rw [p1, p2, bt_list] at h
    exact h
  | false =>
    have p1 : Lib.hasPrefix (deT false pt ex dn A B X).data.toList [45] = false := by
      rw [Bool.eq_false_iff]
      intro hp
      obtain ⟨a, t, ha⟩ : ∃ a t, A.data.toList = a :: t := by
        cases hl : A.data.toList with
        | nil => have := list_len A; rw [hl] at this; simp at this; omega
        | cons a t => exact ⟨a, t, rfl⟩
      rw [deT_list, ha] at hp
      simp [Lib.hasPrefix] at hp
      have := hA a (by rw [ha]; simp)
      rw [← hp] at this
      exact absurd this (by decide)
    have p2 : Lib.trimPrefix (deT false pt ex dn A B X).data.toList [45] = (deT false pt ex dn A B X).data.toList := by
      unfold Lib.trimPrefix; rw [p1, if_neg Bool.false_ne_true]
    rw [p1, p2, bt_list] at h
    exact h
theorem drop_zeros (i : Nat) (l : List UInt8) : Lib.trimLeftB (List.replicate i 48 ++ l) 48 = Lib.trimLeftB l 48 := by
  unfold Lib.trimLeftB
  induction i with
  | zero => rfl
  | succ i ih => rw [List.replicate_succ, List.cons_append, List.dropWhile_cons, if_pos (by decide), ih]
theorem drop_none (l : List UInt8) (h : l.head? ≠ some 48) : Lib.trimLeftB l 48 = l := by
  unfold Lib.trimLeftB
  cases l with
  | nil => rfl
  | cons a t =>
    have ha : (a == 48) = false := by rw [beq_eq_false_iff_ne]; intro e; exact h (by rw [e]; rfl)
    rw [List.dropWhile_cons, ha]; rfl
theorem dval_zeros (l : List UInt8) (j : Nat) : Cub.dval (l ++ List.replicate j 48) = Cub.dval l * 10 ^ j := by
  induction j with
  | zero => simp
  | succ j ih =>
    rw [List.replicate_succ', ← List.append_assoc, Cub.dval_snoc, ih, Nat.pow_succ]
    show 10 * (Cub.dval l * 10 ^ j) + 0 = _
    rw [Nat.add_zero, Nat.mul_comm 10, Nat.mul_assoc]
theorem big_any (dg : ByteArray) (h : Dg dg) (hs : dg.size ≤ 600) (w : World) : Calls Tryz.prog 32 #[.string dg] w fun e w' => ∃ a l c, e = .returned (.agg #[.slice a l c]) ∧ IsBig w' (.agg #[.slice a l c]) (dv dg) ∧ Below w.heap.size w w' := by
  refine (bigText_any dg w (by omega) h).mono ?_
  rintro e w' ⟨v, rfl, hv, hb⟩
  obtain ⟨a, l, c, rfl⟩ := hv.shape
  exact ⟨a, l, c, rfl, hv, hb⟩
end Go.Proofs.YtijifpbpjinmhaaGreatDoor
namespace Go.Proofs.YtijifpbpjinmhaaGreatDoor
open Go.RowKit
theorem laidT_size40 (T : ByteArray) (n : Int) (h1 : T.size ≤ 18) (h2 : -500 ≤ n) (h3 : n ≤ 500) : (laidT T n).size ≤ 100 := by
  unfold laidT
  split
  · rw [ByteArray.size_append, zer_size]; omega
  · split
    · rw [ByteArray.size_append, ByteArray.size_append, ByteArray.size_extract, ByteArray.size_extract]
      show _ + 1 + _ ≤ 100
      omega
    · split
      · rw [ByteArray.size_append, ByteArray.size_append, zer_size]
        show 2 + _ + _ ≤ 100
        omega
      · rw [ByteArray.size_append, ByteArray.size_append]
        have hx : ∀ k : Nat, k ≤ 600 → (tx k).size ≤ 3 := fun k hk => tx_size (by decide) (by omega)
        have h4 : (tx (if 0 < n then n - 1 else 1 - n).toNat).size ≤ 3 := hx _ (by split <;> omega)
        have h5 : (if 0 < n then (⟨#[101, 43]⟩ : ByteArray) else ⟨#[101, 45]⟩).size = 2 := by split <;> rfl
        have h6 : (if 1 < (T.size : Int) then T.extract 0 1 ++ (⟨#[46]⟩ ++ T.extract 1 T.size) else T.extract 0 1).size ≤ 30 := by
          split
          · rw [ByteArray.size_append, ByteArray.size_append, ByteArray.size_extract, ByteArray.size_extract]
            show _ + (1 + _) ≤ 30
            omega
          · rw [ByteArray.size_extract]; omega
        omega
/-- A finite float's text. -/
theorem text_size (b : Bool) (T : ByteArray) (n : Int) (h1 : T.size ≤ 18) (h2 : -500 ≤ n) (h3 : n ≤ 500) : ¬ (1000 : Int) < ((if b then (⟨#[45]⟩ : ByteArray) ++ laidT T n else laidT T n).size : Int) := by
  have := laidT_size40 T n h1 h2 h3
  cases b
  · rw [if_neg Bool.false_ne_true]; omega
  · rw [if_pos rfl, ByteArray.size_append, size_one]; omega
theorem signed_text (b pt ex dn : Bool) (A B X L : ByteArray) (h : L = deT false pt ex dn A B X) : (if b then (⟨#[45]⟩ : ByteArray) ++ L else L) = deT b pt ex dn A B X := by
  rw [h]
  apply ba_ext
  cases b
  · rw [if_neg Bool.false_ne_true]
  · rw [if_pos rfl, tl_append, deT_list, deT_list]; rfl
/-- flo.Parse (16) of a float's own text gives the float back. -/
theorem parse_text (b : Bool) (u : Nat) (T : ByteArray) (n : Int) (h : PT u T n) (w : World) (htab : Tab w) (hc : Cel w) :
    Calls Tryz.prog 16 #[.string (if b then ⟨#[45]⟩ ++ laidT T n else laidT T n)] w fun r w' => r = .returned (.tuple #[.float .f64 (sgw b u), .int .i64 0]) ∧ Below w.heap.size w w' := by
  obtain ⟨z1, z2, z3, z4⟩ := h.size
  have hT : Dg T := by
    rcases Nat.eq_zero_or_pos u with h0 | h0
    · rcases h with ⟨_, rfl, _⟩ | ⟨h1, _⟩
      · exact dg_nought
      · omega
    · exact (pt_rp h0 h).1
  obtain ⟨pt, ex, dn, A, B, m, i, j, hL, hA, hA0, hB, hB0, hm, hs, hd, hpl, hj⟩ := laidT_form T n hT z1 z2 z3 z4
  rw [signed_text b pt ex dn A B (tx m) _ hL]
  have hX : Dg (tx m) := (tx_nat m).1
  have hX0 : ex = true → 0 < (tx m).size := fun _ => by
    rw [← list_len]
    exact List.length_pos_iff.2 (tx_nat m).2.1
  have hXs : ex = true → (tx m).size ≤ 900 := fun h => by
    have := (exp_facts m (hm h).1 (hm h).2).1
    rw [← list_len]
    have e : (tx m).data.toList = Lib.decDigits m := by simp [tx]
    rw [e]; omega
  obtain ⟨Y, hY, hYs, hYd, hY0⟩ : ∃ Y : ByteArray, deT b pt ex dn A B (tx m) = deT b pt ex dn A B Y ∧ Y.size ≤ 900 ∧ Dg Y ∧ (ex = true → 0 < Y.size) := by
    cases ex with
    | true => exact ⟨tx m, rfl, hXs rfl, hX, hX0⟩
    | false => exact ⟨⟨#[]⟩, rfl, by decide, fun c hc => by simp at hc, fun h => by cases h⟩
  have hw : NoWord (deT b pt ex dn A B (tx m)) := noWord_deT b pt ex dn A B (tx m) hA hB hX
  have hsT : ¬ (1000 : Int) < ((deT b pt ex dn A B (tx m)).size : Int) := by
    have e := signed_text b pt ex dn A B (tx m) _ hL
    rw [← e]
    exact text_size b T n z2 z3 z4
  have HI : ∀ W : World, Below w.heap.size w W → Calls Tryz.prog 44 #[.string (deT b pt ex dn A B (tx m))] W fun r w' => r = .returned (.bool true) ∧ Below W.heap.size W w' := by
    intro W hW
    rw [hY]
    exact isDec_deT b pt ex dn A B Y W (htab.later hW) hA hA0 hB hB0 hYd hY0 ⟨hs.1, hs.2, hYs⟩
  have HP := fun W => cut_minus b pt ex dn A B (tx m) hA hA0 W
  have HD : ∀ W : World, Below w.heap.size w W → Calls Tryz.prog 45 #[.string (deT false pt ex dn A B (tx m))] W fun r w' => r = .returned (.tuple #[.string (trimZ (A ++ Bh pt B)), .int .i64 (n - (T.size : Int) - (j : Int))]) ∧ Below W.heap.size W w' := by
    intro W hW
    rw [← hpl]
    exact cut45 pt ex dn A B m W (hc.later hW) hA hB hm hs
  have ht0 : trimZ (A ++ Bh pt B) = ⟨(Lib.trimLeftB (T.data.toList ++ List.replicate j 48) 48).toArray⟩ := by
    unfold trimZ; rw [hd, drop_zeros]
  rcases Nat.eq_zero_or_pos u with h0 | h0
  · have e1 : T = ⟨#[48]⟩ ∧ n = 1 := by
      rcases h with ⟨_, h1, h2⟩ | ⟨h1, _⟩
      · exact ⟨h1, h2⟩
      · omega
    have e2 : Lib.trimLeftB (T.data.toList ++ List.replicate j 48) 48 = [] := by
      rw [e1.1]
      have := drop_zeros (1 + j) []
      rw [← List.replicate_append_replicate, List.append_nil] at this
      exact this
    have e3 : trimZ (A ++ Bh pt B) = ⟨#[]⟩ := by rw [ht0, e2]
    rw [e3] at HD
    have e4 : (T.size : Int) = 1 := by rw [e1.1]; rfl
    have hto := toAns_near b 0 1 0 (lt600 0 (by decide)) (lt600 1 (by decide)) (by decide) (near_zero0 1 (by decide))
    rw [h0]
    exact parse_zero _ _ ⟨#[]⟩ b _ (sgw b 0) 0 w hw (by omega) hsT HI HP HD (by decide) (by omega) (by omega) (Or.inl (by rw [empty_iff]; decide)) (fun a1 l1 c1 a2 l2 c2 W hW h1 h2 => hto a1 l1 c1 a2 l2 c2 W h1 h2 (htab.later hW))
  · obtain ⟨q1, q2, q3, q4, q5, q6, q7⟩ := pt_rp h0 h
    have e2 : Lib.trimLeftB (T.data.toList ++ List.replicate j 48) 48 = T.data.toList ++ List.replicate j 48 := by
      apply drop_none
      cases hl : T.data.toList with
      | nil => have := list_len T; rw [hl] at this; simp at this; omega
      | cons a t => rw [hl] at q6; exact q6
    have e3 : trimZ (A ++ Bh pt B) = T ++ zer j := by
      rw [ht0, e2]; apply ba_ext; rw [tl_append, zer_list]
    rw [e3] at HD
    have g1 : (T ++ zer j).size = T.size + j := by rw [ByteArray.size_append, zer_size]
    have g2 : dv (T ++ zer j) = dv T * 10 ^ j := by unfold dv; rw [tl_append, zer_list, dval_zeros]
    have g3 : Dg (T ++ zer j) := dg_append hT (dg_zer j)
    have g4 : dv T < 10 ^ 18 := Nat.lt_of_lt_of_le (Cub.dval_lt q1) (Nat.pow_le_pow_right (by decide) (by rw [list_len]; exact q3))
    have g5 : dv (T ++ zer j) < 10 ^ 39 := by
      rw [g2]
      refine Nat.lt_of_lt_of_le (Nat.mul_lt_mul_of_pos_right g4 (Nat.pow_pos (by decide))) ?_
      rw [← Nat.pow_add]
      exact Nat.pow_le_pow_right (by decide) (by omega)
    obtain ⟨p, hp⟩ : ∃ p : Int, n - (T.size : Int) - (j : Int) = p := ⟨_, rfl⟩
    rw [hp] at HD
    obtain ⟨t1, t2⟩ := t_lt p (by omega) (by omega)
    obtain ⟨L6, hL6⟩ : ∃ L, L = 600 := ⟨_, rfl⟩
    have k1 : dv (T ++ zer j) * tN p < 10 ^ 600 := by
      rw [← hL6]
      refine Nat.lt_of_lt_of_le (Nat.mul_lt_mul_of_pos_right g5 (tN_pos p)) ?_
      unfold tN
      rw [← Nat.pow_add]
      exact Nat.pow_le_pow_right (by decide) (by omega)
    have k2 : tD p < 10 ^ 600 := by
      rw [← hL6]
      unfold tD
      exact Nat.pow_lt_pow_right (by decide) (by omega)
    have hnear : NearU (dv (T ++ zer j) * tN p) (1 * tD p) u := by
      rw [Nat.one_mul]
      refine q7.congr (tD_pos _) (tD_pos _) ?_ k1
      rw [g2]
      unfold tN tD
      rw [Nat.mul_assoc, Nat.mul_assoc, Nat.mul_assoc, ← Nat.pow_add, ← Nat.pow_add, ← Nat.pow_add]
      congr 2
      omega
    have hto := toAns_near b _ _ u k1 (by rw [Nat.one_mul]; exact k2) (by rw [Nat.one_mul]; exact tD_pos p) hnear
    refine parse_fin _ _ (T ++ zer j) b p (sgw b u) (tN p) (tD p) (dv (T ++ zer j)) 0 w hw (by omega) hsT HI HP HD ?_ (by omega) (by omega) (fun W => big_any _ g3 (by omega) W) (fun W => ten_gen p (by omega) (by omega) W) ⟨?_, ?_, ?_, ?_⟩ (fun a1 l1 c1 a2 l2 c2 W hW h1 h2 => hto a1 l1 c1 a2 l2 c2 W h1 h2 (htab.later hW))
    · exact not_empty_of _ (by omega)
    · exact Nat.lt_trans g5 (by decide +kernel)
    · decide +kernel
    · exact Nat.lt_trans t1 (by decide +kernel)
    · exact Nat.lt_trans t2 (by decide +kernel)
end Go.Proofs.YtijifpbpjinmhaaGreatDoor

/- The document's Near: those nearest, each once, sorted. -/
import Derived.Test.YtiooiacebgojiaaDoorNear
import Derived.Test.YtiooiacebgojiaaDoorRefFar
namespace Go.Proofs.YtiooiacebgojiaaDoor
open Go.RowKit

theorem refFar_long (s t : ByteArray) (w : World) (hT : Lib.Utf8Tabs 0 1 w) (h : 40 < s.size ∨ 40 < t.size) : Calls Tryd.prog 26 #[.string s, .string t] w fun e w' => e = .returned (.tuple #[.int .i64 0, .int .i64 4]) ∧ Below w.heap.size w w' := by
  have h1 := refFar_any s t w hT
  rw [show farV s t = .tuple #[.int .i64 0, .int .i64 4] from if_pos h] at h1
  exact h1
theorem refFar_short (s t : ByteArray) (w : World) (hT : Lib.Utf8Tabs 0 1 w) (h : ¬ (40 < s.size ∨ 40 < t.size)) : Calls Tryd.prog 26 #[.string s, .string t] w fun e w' => e = .returned (.tuple #[.int .i64 (farN s t), .int .i64 0]) ∧ Below w.heap.size w w' := by
  have h1 := refFar_any s t w hT
  rw [show farV s t = .tuple #[.int .i64 (farN s t), .int .i64 0] from if_neg h] at h1
  exact h1
attribute [local instance] Classical.propDecidable
theorem dStep_skip {s t : ByteArray} {st : Int × List ByteArray} (h : skipT s t st.1) : dStep s st t = st := if_pos h
theorem dStep_less {s t : ByteArray} {st : Int × List ByteArray} (h : ¬ (40 < s.size ∨ 40 < t.size)) (hl : farN s t < st.1) : dStep s st t = (farN s t, [t]) := by
  unfold dStep dKeep
  rw [if_neg (by unfold skipT; omega)]; simp [hl]
theorem dStep_in {s t : ByteArray} {st : Int × List ByteArray} (h : ¬ (40 < s.size ∨ 40 < t.size)) (hl : farN s t = st.1) (hin : t ∈ st.2) : dStep s st t = (farN s t, st.2) := by
  unfold dStep dKeep
  have h2 : ¬ farN s t < st.1 := by omega
  rw [if_neg (by unfold skipT; omega)]
  simp only [if_neg h2, if_pos hin]
theorem dStep_new {s t : ByteArray} {st : Int × List ByteArray} (h : ¬ (40 < s.size ∨ 40 < t.size)) (hl : farN s t = st.1) (hin : t ∉ st.2) : dStep s st t = (farN s t, st.2 ++ [t]) := by
  unfold dStep dKeep
  have h2 : ¬ farN s t < st.1 := by omega
  rw [if_neg (by unfold skipT; omega)]
  simp only [if_neg h2, if_neg hin]
theorem bytes_ne {x t : ByteArray} (h : ¬ x = t) : (x.toList == t.toList) = false := by
  rw [beq_eq_false_iff_ne, Lib.toList_data, Lib.toList_data]
  intro e
  exact h (ByteArray.ext (Array.toList_inj.1 e))

set_option maxRecDepth 100000 in
set_option maxHeartbeats 4000000 in
theorem refNear_any (s : ByteArray) (v : Value) (ss : List ByteArray) (m : Int) (w : World) (hr : RowS w v ss) (hmax : ss.length ≤ 8796093022208) (hT : Lib.Utf8Tabs 0 1 w) :
    Calls Tryd.prog 28 #[.string s, v, .int .i64 m] w fun e w' => ∃ v' us, e = .returned v' ∧ RowS w' v' us ∧ us.Perm (dGo s ss m ss.length).2 ∧ Asc us ∧ Below w.heap.size w w' := by
  obtain ⟨a, cap, rfl, hc, hm, hnn, hcells⟩ := hr
  have HC := hide hcells
  have HT := hide hT
  obtain ⟨n, hn⟩ : ∃ n, n = ss.length := ⟨_, rfl⟩
  rw [← hn] at hc hmax ⊢
  have HN := hide hn
  clear hcells hT hn
  obtain ⟨i0, hi, hz0, hz1, hz2⟩ := info_parts info9
  go_enter Tryd.func28, Tryd.ntmps28
  go_wp2
  go_loopw [7, 8, 19] (fun v7 v8 v19 wr => ∃ (i : Nat) (M : Int) (N : List ByteArray) (vN : Value), vN = v7 ∧ v19 = .int .i64 (i : Int) ∧ v8 = .int .i64 M ∧ i ≤ n ∧ Hid (OwnS wr w.heap.size v7 N) ∧ Hid (dGo s ss m i = (M, N)) ∧ Hid (Below w.heap.size w wr)) (fun _ _ v19 _ => n - (intOf v19).toNat)
  case atStart => exact ⟨0, m, [], _, rfl, rfl, rfl, Nat.zero_le _, World.ownsRow_nil _ _ _ _, rfl, Below.refl _ _⟩
  case round =>
    obtain ⟨i, M, N, v7, rfl, rfl, rfl, hi', HO, HG, HB⟩ := hrel
    obtain ⟨wq, hwq⟩ : ∃ wq, wq = wr := ⟨_, rfl⟩
    subst hwq
    have hbs := (unhide HB).size
    have hREL := near_rel s ss m i (by have := unhide HN; omega)
    rw [unhide HG] at hREL
    have HREL := hide hREL
    have hNl : N.length ≤ i := hREL.2.2.2.2.2
    clear hREL
    by_cases hin : i < n
    · have hil : i < ss.length := by have := unhide HN; omega
      obtain ⟨b, o, rfl, hbw, hcell⟩ := unhide HC i hil
      obtain ⟨t, ht⟩ : ∃ t, t = ss[i] := ⟨_, rfl⟩
      have cs : wq.cell? ⟨b, o + i, none⟩ = some (.string t) := by rw [(unhide HB).cell (p := ⟨b, o + i, none⟩) hbw, hcell, ht]
      have HS : Hid (dGo s ss m (i + 1) = dStep s (M, N) t) := by show _ = _; rw [dGo_succ s ss m i hil, unhide HG, ht]
      have HTW := hide (tabs_later (unhide HT) (unhide HB))
      have hiI : (i : Int) < (n : Int) := by omega
      clear hcell ht hil HG HREL
      by_cases hlong : 40 < s.size ∨ 40 < t.size
      · have HS2 : Hid (dGo s ss m (i + 1) = (M, N)) := (unhide HS).trans (dStep_skip (.inl hlong))
        have H26 := hide (refFar_long s t wq (unhide HTW) hlong)
        clear hlong HS
        go_wp2_with (go_at_call 26; go_must (refine (unhide H26).mono ?_; rintro e w1 ⟨rfl, hb1⟩; have HO1 := hide ((unhide HO).later hb1); have HB1 := hide ((unhide HB).trans (hb1.mono hbs)); clear hb1 HO H26))
        go_roundw
        case rel => exact ⟨i + 1, M, N, _, rfl, by go_num, rfl, by omega, HO1, HS2, HB1⟩
        case measure => simp [intOf]; omega
      · have H26 := hide (refFar_short s t wq (unhide HTW) hlong)
        have HSK : Hid (M < farN s t → dGo s ss m (i + 1) = (M, N)) := fun h => (unhide HS).trans (dStep_skip (.inr h))
        have HSL : Hid (farN s t < M → dGo s ss m (i + 1) = (farN s t, [t])) := fun h => (unhide HS).trans (dStep_less hlong h)
        have HSI : Hid (farN s t = M → t ∈ N → dGo s ss m (i + 1) = (farN s t, N)) := fun h h2 => (unhide HS).trans (dStep_in hlong h h2)
        have HSN : Hid (farN s t = M → t ∉ N → dGo s ss m (i + 1) = (farN s t, N ++ [t])) := fun h h2 => (unhide HS).trans (dStep_new hlong h h2)
        clear hlong HS
        generalize farN s t = d at *
        by_cases hskip : M < d
        · have HS2 := hide (unhide HSK hskip)
          clear HSK HSL HSI HSN
          go_wp2_with (go_at_call 26; go_must (refine (unhide H26).mono ?_; rintro e w1 ⟨rfl, hb1⟩; have HO1 := hide ((unhide HO).later hb1); have HB1 := hide ((unhide HB).trans (hb1.mono hbs)); clear hb1 HO H26))
          go_roundw
          case rel => exact ⟨i + 1, M, N, _, rfl, by go_num, rfl, by omega, HO1, HS2, HB1⟩
          case measure => simp [intOf]; omega
        · by_cases hless : d < M
          · obtain ⟨K, hK⟩ : ∃ K : List ByteArray, K = [] := ⟨_, rfl⟩
            have HSI2 : Hid (t ∈ K → dGo s ss m (i + 1) = (d, K)) := fun h => by rw [hK] at h; cases h
            have HSN2 : Hid (t ∉ K → dGo s ss m (i + 1) = (d, K ++ [t])) := fun _ => by rw [hK]; exact unhide HSL hless
            have HKL : Hid (0 = K.length) := by show 0 = K.length; rw [hK]; rfl
            have HOK : Hid (∀ W : World, W = W → wq.ownsRow w.heap.size 9 1 (.slice none 0 0) 0 (strsV K)) := fun _ _ => by rw [hK]; exact World.ownsRow_nil _ _ _ _
            clear HSK HSL HSI HSN HO hK
            go_upto_region 13 with (go_at_call 26; go_must (refine (unhide H26).mono ?_; rintro e w1 ⟨rfl, hb1⟩; have HOW : Hid (w1.ownsRow w.heap.size 9 1 (.slice none 0 0) 0 (strsV K)) := (by have h : OwnS wq w.heap.size (.slice none 0 0) K := (by unfold OwnS; rw [← unhide HKL]; exact unhide HOK wq rfl); have h2 := h.later hb1; unfold OwnS at h2; rw [← unhide HKL] at h2; exact h2); have HB1 := hide ((unhide HB).trans (hb1.mono hbs)); have hs1 := (unhide HB1).size; clear hb1 HOK H26))
            go_loopw [13, 42] (fun v13 v42 wz => ∃ (j : Nat) (q : Bool), v42 = .int .i64 (j : Int) ∧ v13 = .bool q ∧ j ≤ 0 ∧ Hid (q = true ↔ t ∈ K.take j) ∧ Hid (Below w1.heap.size w1 wz)) (fun _ v42 _ => 0 - (intOf v42).toNat)
            case atStart => exact ⟨0, false, rfl, rfl, Nat.zero_le _, by simp [Hid], Below.refl _ _⟩
            case round =>
              obtain ⟨j, q, rfl, rfl, hj, HIN, HBZ⟩ := hrel
              have hzs := (unhide HBZ).size
              by_cases hjk : j < 0
              · exact absurd hjk (Nat.not_lt_zero _)
              · have hje : 0 = j := by omega
                subst hje
                have HIK : Hid (q = true ↔ t ∈ K) := by have h := unhide HIN; rw [List.take_of_length_le (by have := unhide HKL; omega)] at h; exact h
                have HB2 := hide ((unhide HB1).trans ((unhide HBZ).mono hs1))
                have hs2 := (unhide HB2).size
                have HOZ : Hid (wr.ownsRow w.heap.size 9 1 (.slice none 0 0) 0 (strsV K)) := by
                  have h : OwnS w1 w.heap.size (.slice none 0 0) K := (by unfold OwnS; rw [← unhide HKL]; exact unhide HOW)
                  have h2 := h.later (unhide HBZ)
                  unfold OwnS at h2; rw [← unhide HKL] at h2; exact h2
                clear HIN HOW
                cases q with
                | true =>
                  have HS2 := hide (unhide HSI2 ((unhide HIK).1 rfl))
                  clear HIK HSI2 HSN2
                  go_wp2_with fail
                  exact ⟨⟨i + 1, d, K, _, rfl, by go_num, rfl, by omega, (by have h := unhide HOZ; show World.ownsRow _ _ _ _ _ _ _; rw [← unhide HKL]; exact h), HS2, HB2⟩, by simp [intOf]; omega⟩
                | false =>
                  have HS2 := hide (unhide HSN2 (fun h => by have := (unhide HIK).2 h; cases this))
                  clear HIK HSI2 HSN2
                  go_wp2_with (at_builtin; go_must (refine wpList_append_own _ rfl _ _ 37 rfl w.heap.size 9 i0 (.string ⟨#[]⟩) 1 16 under37 hi hz0 hz1 hz2 rfl (by decide) _ 0 _ rfl ((unhide HOZ).alloc _) ⟨wr.heap.size, 0, none⟩ 1 1 [.string t] rfl rfl (cell_one_new _ _ _) (fun x hx => by simp at hx; subst hx; rfl) (by unfold maxLen; omega) (by omega) (by simp; omega) ?_; intro v1 w2 hown1 hgrow1 hnil1; have HOWN : Hid (OwnS w2 w.heap.size v1 (K ++ [t])) := own_snoc hown1 (unhide HKL); have HB3 : Hid (Below w.heap.size w w2) := ((unhide HB2).alloc hs2 _).grown hgrow1 (by simp; omega) (fun k hk => ((unhide HOZ).lt k hk).1); clear hown1 hgrow1 hnil1))
                  exact ⟨⟨i + 1, d, K ++ [t], _, rfl, by go_num, rfl, by omega, HOWN, HS2, HB3⟩, by simp [intOf]; omega⟩
          · have he : d = M := by omega
            have HSI2 := hide (unhide HSI he)
            have HSN2 := hide (unhide HSN he)
            subst he
            clear HSK HSL HSI HSN
            obtain ⟨K, hK⟩ : ∃ K, K = N := ⟨_, rfl⟩
            subst hK
            obtain ⟨aK, cK, rfl, hcK, hmK, hnK, _⟩ := RowS.of_own (unhide HO)
            obtain ⟨k, hk⟩ : ∃ k, k = K.length := ⟨_, rfl⟩
            rw [← hk] at HO hcK hNl ⊢
            have HKL := hide hk
            have HOK : Hid (∀ W : World, W = W → wq.ownsRow w.heap.size 9 1 (.slice aK k cK) k (strsV K)) := fun _ _ => by have h := unhide HO; unfold OwnS at h; rw [← hk] at h; exact h
            clear hk HO
            go_upto_region 13 with (go_at_call 26; go_must (refine (unhide H26).mono ?_; rintro e w1 ⟨rfl, hb1⟩; have HOW : Hid (w1.ownsRow w.heap.size 9 1 (.slice aK k cK) k (strsV K)) := (by have h : OwnS wq w.heap.size (.slice aK k cK) K := (by unfold OwnS; rw [← unhide HKL]; exact unhide HOK wq rfl); have h2 := h.later hb1; unfold OwnS at h2; rw [← unhide HKL] at h2; exact h2); have HB1 := hide ((unhide HB).trans (hb1.mono hbs)); have hs1 := (unhide HB1).size; clear hb1 HOK H26))
            go_loopw [13, 42] (fun v13 v42 wz => ∃ (j : Nat) (q : Bool), v42 = .int .i64 (j : Int) ∧ v13 = .bool q ∧ j ≤ k ∧ Hid (q = true ↔ t ∈ K.take j) ∧ Hid (Below w1.heap.size w1 wz)) (fun _ v42 _ => k - (intOf v42).toNat)
            case atStart => exact ⟨0, false, rfl, rfl, Nat.zero_le _, by simp [Hid], Below.refl _ _⟩
            case round =>
              obtain ⟨j, q, rfl, rfl, hj, HIN, HBZ⟩ := hrel
              have hzs := (unhide HBZ).size
              by_cases hjk : j < k
              · have hjl : j < K.length := by have := unhide HKL; omega
                obtain ⟨x, hx⟩ : ∃ x, x = K[j] := ⟨_, rfl⟩
                obtain ⟨g, cg, e0⟩ := Joins.ownsRow_form (unhide HOW) (by omega)
                simp only [Value.slice.injEq, true_and] at e0
                obtain ⟨eA, eC⟩ := e0
                have cx : wr.cell? ⟨g, j, none⟩ = some (.string x) := by
                  have hrow := unhide HOW
                  rw [eA] at hrow
                  rw [(unhide HBZ).cell (p := ⟨g, j, none⟩) (hrow.lt g rfl).2, hrow.cellAt j (by omega), strsV_get K j hjl, hx]
                have HTK : Hid (∀ y, y ∈ K.take (j + 1) ↔ y ∈ K.take j ∨ y = x) := fun y => by rw [List.take_succ_eq_append_getElem hjl, List.mem_append, List.mem_singleton, hx]
                have hjI : (j : Int) < (k : Int) := by omega
                clear hjl hx
                subst eA
                clear eC
                cases q with
                | true =>
                  have HIN2 : Hid (true = true ↔ t ∈ K.take (j + 1)) := ⟨fun _ => (unhide HTK t).2 (.inl ((unhide HIN).1 rfl)), fun _ => rfl⟩
                  clear HTK HIN
                  go_wp2_with fail
                  go_roundw
                  case rel => exact ⟨j + 1, true, by go_num, rfl, by omega, HIN2, HBZ⟩
                  case measure => simp [intOf]; omega
                | false =>
                  by_cases hxt : x = t
                  · have HIN2 : Hid (true = true ↔ t ∈ K.take (j + 1)) := ⟨fun _ => (unhide HTK t).2 (.inr hxt.symm), fun _ => rfl⟩
                    subst hxt
                    clear HTK HIN
                    go_wp2_with fail
                    go_roundw
                    case rel => exact ⟨j + 1, true, by go_num, rfl, by omega, HIN2, HBZ⟩
                    case measure => simp [intOf]; omega
                  · have HIN2 : Hid (false = true ↔ t ∈ K.take (j + 1)) := ⟨fun h => (by cases h), fun h => ((unhide HTK t).1 h).elim (fun h => (unhide HIN).2 h) (fun h => absurd h.symm hxt)⟩
                    have e2 := bytes_ne hxt
                    clear HTK HIN hxt
                    go_wp2_with fail
                    go_roundw
                    case rel => exact ⟨j + 1, false, by go_num, rfl, by omega, HIN2, HBZ⟩
                    case measure => simp [intOf]; omega
              · have hje : k = j := by omega
                subst hje
                have HIK : Hid (q = true ↔ t ∈ K) := by have h := unhide HIN; rw [List.take_of_length_le (by have := unhide HKL; omega)] at h; exact h
                have HB2 := hide ((unhide HB1).trans ((unhide HBZ).mono hs1))
                have hs2 := (unhide HB2).size
                have HOZ : Hid (wr.ownsRow w.heap.size 9 1 (.slice aK k cK) k (strsV K)) := by
                  have h : OwnS w1 w.heap.size (.slice aK k cK) K := (by unfold OwnS; rw [← unhide HKL]; exact unhide HOW)
                  have h2 := h.later (unhide HBZ)
                  unfold OwnS at h2; rw [← unhide HKL] at h2; exact h2
                clear HIN HOW
                cases q with
                | true =>
                  have HS2 := hide (unhide HSI2 ((unhide HIK).1 rfl))
                  clear HIK HSI2 HSN2
                  go_wp2_with fail
                  exact ⟨⟨i + 1, d, K, _, rfl, by go_num, rfl, by omega, (by have h := unhide HOZ; show World.ownsRow _ _ _ _ _ _ _; rw [← unhide HKL]; exact h), HS2, HB2⟩, by simp [intOf]; omega⟩
                | false =>
                  have HS2 := hide (unhide HSN2 (fun h => by have := (unhide HIK).2 h; cases this))
                  clear HIK HSI2 HSN2
                  go_wp2_with (at_builtin; go_must (refine wpList_append_own _ rfl _ _ 37 rfl w.heap.size 9 i0 (.string ⟨#[]⟩) 1 16 under37 hi hz0 hz1 hz2 rfl (by decide) _ k _ rfl ((unhide HOZ).alloc _) ⟨wr.heap.size, 0, none⟩ 1 1 [.string t] rfl rfl (cell_one_new _ _ _) (fun x hx => by simp at hx; subst hx; rfl) (by unfold maxLen; omega) (by omega) (by simp; omega) ?_; intro v1 w2 hown1 hgrow1 hnil1; have HOWN : Hid (OwnS w2 w.heap.size v1 (K ++ [t])) := own_snoc hown1 (unhide HKL); have HB3 : Hid (Below w.heap.size w w2) := ((unhide HB2).alloc hs2 _).grown hgrow1 (by simp; omega) (fun k hk => ((unhide HOZ).lt k hk).1); clear hown1 hgrow1 hnil1))
                  exact ⟨⟨i + 1, d, K ++ [t], _, rfl, by go_num, rfl, by omega, HOWN, HS2, HB3⟩, by simp [intOf]; omega⟩
    · have hie : i = n := by omega
      subst hie
      have HF : Hid (∀ us : List ByteArray, us.Perm N → us.Perm (dGo s ss m i).2) := fun us h => by rw [unhide HG]; exact h
      have H24 := hide (refSort_any v7 N wq (RowS.of_own (unhide HO)) (by omega) (fun x hx => by have := (unhide HREL).2.2.2.1 x (((unhide HREL).2.1 x).2 hx); omega) (tabs_later (unhide HT) (unhide HB)))
      clear hNl HREL HG
      go_wp2_with (go_at_call 24; go_must (refine (unhide H24).mono ?_; rintro e w1 ⟨v1, ts, rfl, ho1, hp1, ha1, hb1⟩; have HR2 := hide (RowS.of_own ho1); have HP2 := hide (unhide HF ts hp1); have HA2 := hide ha1; have HB2 := hide ((unhide HB).trans (hb1.mono hbs)); clear ho1 hp1 ha1 hb1 H24))
      go_ret
      exact ⟨_, ts, rfl, unhide HR2, unhide HP2, unhide HA2, unhide HB2⟩
end Go.Proofs.YtiooiacebgojiaaDoor

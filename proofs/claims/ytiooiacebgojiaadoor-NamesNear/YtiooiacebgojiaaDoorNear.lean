/- names.Near: those nearest, gathered, sorted, each once. -/
import Derived.Test.YtiooiacebgojiaaDoorCompact
namespace Go.Proofs.YtiooiacebgojiaaDoor
open Go.RowKit

theorem far_long (s t : ByteArray) (w : World) (hT : Lib.Utf8Tabs 0 1 w) (h : 40 < s.size ∨ 40 < t.size) : Calls Tryd.prog 25 #[.string s, .string t] w fun e w' => e = .returned (.tuple #[.int .i64 0, .int .i64 4]) ∧ Below w.heap.size w w' := by
  have h1 := far_any s t w hT
  rw [show farV s t = .tuple #[.int .i64 0, .int .i64 4] from if_pos h] at h1
  exact h1
theorem far_short (s t : ByteArray) (w : World) (hT : Lib.Utf8Tabs 0 1 w) (h : ¬ (40 < s.size ∨ 40 < t.size)) : Calls Tryd.prog 25 #[.string s, .string t] w fun e w' => e = .returned (.tuple #[.int .i64 (farN s t), .int .i64 0]) ∧ Below w.heap.size w w' := by
  have h1 := far_any s t w hT
  rw [show farV s t = .tuple #[.int .i64 (farN s t), .int .i64 0] from if_neg h] at h1
  exact h1
attribute [local instance] Classical.propDecidable
theorem nStep_skip {s t : ByteArray} {st : Int × List ByteArray} (h : skipT s t st.1) : nStep s st t = st := if_pos h
theorem nStep_less {s t : ByteArray} {st : Int × List ByteArray} (h : ¬ (40 < s.size ∨ 40 < t.size)) (hl : farN s t < st.1) : nStep s st t = (farN s t, [t]) := by
  unfold nStep; rw [if_neg (by unfold skipT; omega), if_pos hl]
theorem nStep_more {s t : ByteArray} {st : Int × List ByteArray} (h : ¬ (40 < s.size ∨ 40 < t.size)) (hl : farN s t = st.1) : nStep s st t = (st.1, st.2 ++ [t]) := by
  unfold nStep; rw [if_neg (by unfold skipT; omega), if_neg (by omega)]
theorem own_snoc {w : World} {base n : Nat} {v : Value} {N : List ByteArray} {t : ByteArray} (h : w.ownsRow base 9 1 v (n + 1) (strsV N ++ [.string t])) (hn : n = N.length) : OwnS w base v (N ++ [t]) := by
  unfold OwnS
  rw [OwnS.snoc_len, strsV_append, ← hn]; exact h

set_option maxRecDepth 100000 in
set_option maxHeartbeats 2000000 in
theorem near_any (s : ByteArray) (v : Value) (ss : List ByteArray) (m : Int) (w : World) (hr : RowS w v ss) (hmax : ss.length ≤ 8796093022208) (hT : Lib.Utf8Tabs 0 1 w) :
    Calls Tryd.prog 27 #[.string s, v, .int .i64 m] w fun e w' => ∃ v' us, e = .returned v' ∧ RowS w' v' us ∧ (∀ x, x ∈ us ↔ x ∈ (nGo s ss m ss.length).2) ∧ us.Nodup ∧ Asc us ∧ Below w.heap.size w w' := by
  obtain ⟨a, cap, rfl, hc, hm, hnn, hcells⟩ := hr
  have HC := hide hcells
  have HT := hide hT
  obtain ⟨n, hn⟩ : ∃ n, n = ss.length := ⟨_, rfl⟩
  rw [← hn] at hc hmax ⊢
  have HN := hide hn
  clear hcells hT hn
  obtain ⟨i0, hi, hz0, hz1, hz2⟩ := info_parts info9
  go_enter Tryd.func27, Tryd.ntmps27
  go_wp2
  go_loopw [2, 7, 14] (fun v2 v7 v14 wr => ∃ (i : Nat) (M : Int) (N : List ByteArray) (vN : Value), vN = v7 ∧ v14 = .int .i64 (i : Int) ∧ v2 = .int .i64 M ∧ i ≤ n ∧ Hid (OwnS wr w.heap.size v7 N) ∧ Hid (nGo s ss m i = (M, N)) ∧ Hid (Below w.heap.size w wr)) (fun _ _ v14 _ => n - (intOf v14).toNat)
  case atStart => exact ⟨0, m, [], _, rfl, rfl, rfl, Nat.zero_le _, World.ownsRow_nil _ _ _ _, rfl, Below.refl _ _⟩
  case round =>
    obtain ⟨i, M, N, v7, rfl, rfl, rfl, hi', HO, HG, HB⟩ := hrel
    have hbs := (unhide HB).size
    have hREL := near_rel s ss m i (by have := unhide HN; omega)
    rw [unhide HG] at hREL
    have HREL := hide hREL
    have hNl : N.length ≤ i := hREL.2.2.2.2.1
    clear hREL
    by_cases hin : i < n
    · have hil : i < ss.length := by have := unhide HN; omega
      obtain ⟨b, o, rfl, hbw, hcell⟩ := unhide HC i hil
      obtain ⟨t, ht⟩ : ∃ t, t = ss[i] := ⟨_, rfl⟩
      have cs : wr.cell? ⟨b, o + i, none⟩ = some (.string t) := by rw [(unhide HB).cell (p := ⟨b, o + i, none⟩) hbw, hcell, ht]
      have HS : Hid (nGo s ss m (i + 1) = nStep s (M, N) t) := by show _ = _; rw [nGo_succ s ss m i hil, unhide HG, ht]
      have HTW := hide (tabs_later (unhide HT) (unhide HB))
      have hiI : (i : Int) < (n : Int) := by omega
      clear hcell ht hil HG HREL
      by_cases hlong : 40 < s.size ∨ 40 < t.size
      · have HS2 : Hid (nGo s ss m (i + 1) = (M, N)) := (unhide HS).trans (nStep_skip (.inl hlong))
        have H25 := hide (far_long s t wr (unhide HTW) hlong)
        clear hlong HS
        go_wp2_with (go_at_call 25; go_must (refine (unhide H25).mono ?_; rintro e w1 ⟨rfl, hb1⟩; have HO1 := hide ((unhide HO).later hb1); have HB1 := hide ((unhide HB).trans (hb1.mono hbs)); clear hb1 HO H25))
        go_roundw
        case rel => exact ⟨i + 1, M, N, _, rfl, by go_num, rfl, by omega, HO1, HS2, HB1⟩
        case measure => simp [intOf]; omega
      · have H25 := hide (far_short s t wr (unhide HTW) hlong)
        have HSK : Hid (M < farN s t → nGo s ss m (i + 1) = (M, N)) := fun h => (unhide HS).trans (nStep_skip (.inr h))
        have HSL : Hid (farN s t < M → nGo s ss m (i + 1) = (farN s t, [t])) := fun h => (unhide HS).trans (nStep_less hlong h)
        have HSM : Hid (farN s t = M → nGo s ss m (i + 1) = (M, N ++ [t])) := fun h => (unhide HS).trans (nStep_more hlong h)
        clear hlong HS
        generalize farN s t = d at *
        by_cases hskip : M < d
        · have HS2 := hide (unhide HSK hskip)
          clear HSK HSL HSM
          go_wp2_with (go_at_call 25; go_must (refine (unhide H25).mono ?_; rintro e w1 ⟨rfl, hb1⟩; have HO1 := hide ((unhide HO).later hb1); have HB1 := hide ((unhide HB).trans (hb1.mono hbs)); clear hb1 HO H25))
          go_roundw
          case rel => exact ⟨i + 1, M, N, _, rfl, by go_num, rfl, by omega, HO1, HS2, HB1⟩
          case measure => simp [intOf]; omega
        · by_cases hless : d < M
          · have HS2 := hide (unhide HSL hless)
            clear HSK HSL HSM
            go_wp2_with (first
              | (go_at_call 25; go_must (refine (unhide H25).mono ?_; rintro e w1 ⟨rfl, hb1⟩; have HB1 := hide ((unhide HB).trans (hb1.mono hbs)); have hs1 := (unhide HB1).size; clear hb1 HO H25))
              | (at_builtin; go_must (refine wpList_append_own _ rfl _ _ 37 rfl w.heap.size 9 i0 (.string ⟨#[]⟩) 1 16 under37 hi hz0 hz1 hz2 rfl (by decide) _ 0 [] rfl (World.ownsRow_nil _ _ _ _) ⟨w1.heap.size, 0, none⟩ 1 1 [.string t] rfl rfl (cell_one_new _ _ _) (fun x hx => by simp at hx; subst hx; rfl) (by unfold maxLen; omega) (by omega) (by simp; omega) ?_; intro v1 w2 hown1 hgrow1 hnil1; have HOWN : Hid (OwnS w2 w.heap.size v1 [t]) := hown1; have HB2 : Hid (Below w.heap.size w w2) := ((unhide HB1).alloc hs1 _).grown hgrow1 (by simp; omega) (fun k hk => by cases hk); clear hown1 hgrow1 hnil1)))
            go_roundw
            case rel => exact ⟨i + 1, d, [t], _, rfl, by go_num, rfl, by omega, HOWN, HS2, HB2⟩
            case measure => simp [intOf]; omega
          · have he : d = M := by omega
            have HS2 := hide (unhide HSM he)
            subst he
            clear HSK HSL HSM
            obtain ⟨k, hk⟩ : ∃ k, k = N.length := ⟨_, rfl⟩
            have HK := hide hk
            have HO' : Hid (wr.ownsRow w.heap.size 9 1 v7 k (strsV N)) := by have h := unhide HO; unfold OwnS at h; rw [← hk] at h; exact h
            rw [← hk] at hNl
            clear hk HO
            go_wp2_with (first
              | (go_at_call 25; go_must (refine (unhide H25).mono ?_; rintro e w1 ⟨rfl, hb1⟩; have HO1 : Hid (w1.ownsRow w.heap.size 9 1 v7 k (strsV N)) := (by have h : OwnS wr w.heap.size v7 N := (by unfold OwnS; rw [← unhide HK]; exact unhide HO'); have h2 := h.later hb1; unfold OwnS at h2; rw [← unhide HK] at h2; exact h2); have HB1 := hide ((unhide HB).trans (hb1.mono hbs)); have hs1 := (unhide HB1).size; clear hb1 HO' H25))
              | (at_builtin; go_must (refine wpList_append_own _ rfl _ _ 37 rfl w.heap.size 9 i0 (.string ⟨#[]⟩) 1 16 under37 hi hz0 hz1 hz2 rfl (by decide) _ k _ rfl ((unhide HO1).alloc _) ⟨w1.heap.size, 0, none⟩ 1 1 [.string t] rfl rfl (cell_one_new _ _ _) (fun x hx => by simp at hx; subst hx; rfl) (by unfold maxLen; omega) (by omega) (by simp; omega) ?_; intro v1 w2 hown1 hgrow1 hnil1; have HOWN : Hid (OwnS w2 w.heap.size v1 (N ++ [t])) := own_snoc hown1 (unhide HK); have HB2 : Hid (Below w.heap.size w w2) := ((unhide HB1).alloc hs1 _).grown hgrow1 (by simp; omega) (fun k hk => ((unhide HO1).lt k hk).1); clear hown1 hgrow1 hnil1)))
            go_roundw
            case rel => exact ⟨i + 1, d, N ++ [t], _, rfl, by go_num, rfl, by omega, HOWN, HS2, HB2⟩
            case measure => simp [intOf]; omega
    · have hie : i = n := by omega
      subst hie
      have HF : Hid (∀ us : List ByteArray, (∀ x, x ∈ us ↔ x ∈ N) → ∀ x, x ∈ us ↔ x ∈ (nGo s ss m i).2) := fun us h => by rw [unhide HG]; exact h
      have H22 := hide (sort_any v7 N wr (RowS.of_own (unhide HO)) (own_spot (unhide HO)) (by omega) (fun x hx => by have := (unhide HREL).2.2.2.1 x hx; omega) (tabs_later (unhide HT) (unhide HB)))
      have HNL := hide hNl
      clear hNl HREL HG
      go_wp2_with (first
        | (go_at_call 22; go_must (refine (unhide H22).mono ?_; rintro e w1 ⟨v1, ts, rfl, ho1, hp1, ha1, hb1⟩; have H52 := hide (compact_any wr.heap.size v1 ts w1 ho1 ha1 (by have := hp1.length_eq; have := unhide HNL; omega)); have HP1 := hide hp1; have HB1 := hide hb1; clear ho1 hp1 ha1 hb1 H22))
        | (go_at_call 52; go_must (refine (unhide H52).mono ?_; rintro e w2 ⟨v2, us, rfl, hr2, hm2, hn2, ha2, hb2⟩; have HR2 := hide hr2; have HM2 := hide (unhide HF us (fun x => (hm2 x).trans (unhide HP1).mem_iff)); have HN2 := hide (And.intro hn2 ha2); have HB2 := hide ((unhide HB).trans ((hb2 wr (unhide HB1)).mono hbs)); clear hr2 hm2 hn2 ha2 hb2 H52)))
      go_ret
      exact ⟨_, us, rfl, unhide HR2, unhide HM2, (unhide HN2).1, (unhide HN2).2, unhide HB2⟩
end Go.Proofs.YtiooiacebgojiaaDoor

/- The document's Sort: inserted one by one. -/
import Derived.Test.YtiooiacebgojiaaDoorTextRows
import Derived.Test.YtiooiacebgojiaaDoorAhead
namespace Go.Proofs.YtiooiacebgojiaaDoor
open Go.RowKit

theorem refAhead_lt (a b : ByteArray) (w : World) (ha : a.size ≤ 1000000000000) (hb : b.size ≤ 1000000000000) (hT : Lib.Utf8Tabs 0 1 w) :
    Calls Tryd.prog 48 #[.string a, .string b] w fun e w' => e = .returned (.bool (ltC a b)) ∧ Below w.heap.size w w' := by
  refine (refAhead_any a b w ha hb hT).mono ?_
  rintro e w' ⟨⟨x, rfl, hx⟩, hb'⟩
  exact ⟨by rw [ordC_ahead a b hx]; rfl, hb'⟩
theorem OwnS.snoc_len (l : List ByteArray) (s : ByteArray) : (l ++ [s]).length = l.length + 1 := by simp
theorem strsV_append (a b : List ByteArray) : strsV (a ++ b) = strsV a ++ strsV b := by simp [strsV]

set_option maxRecDepth 100000 in
set_option maxHeartbeats 4000000 in
theorem refSort_any (v : Value) (ss : List ByteArray) (w : World) (hr : RowS w v ss) (hmax : ss.length ≤ 8796093022208) (hsz : ∀ s ∈ ss, s.size ≤ 1000000000000) (hT : Lib.Utf8Tabs 0 1 w) :
    Calls Tryd.prog 24 #[v] w fun e w' => ∃ v' ts, e = .returned v' ∧ OwnS w' w.heap.size v' ts ∧ ts.Perm ss ∧ Asc ts ∧ Below w.heap.size w w' := by
  obtain ⟨a, cap, rfl, hc, hm, hnn, hcells⟩ := hr
  have HC := hide hcells
  have HZ := hide hsz
  have HT := hide hT
  obtain ⟨n, hn⟩ : ∃ n, n = ss.length := ⟨_, rfl⟩
  rw [← hn] at hc hmax ⊢
  have HN := hide hn
  clear hcells hsz hT hn
  obtain ⟨i0, hi, hz0, hz1, hz2⟩ := info_parts info9
  go_enter Tryd.func24, Tryd.ntmps24
  go_wp2
  go_loopw [3, 10] (fun v3 v10 wr => ∃ (i : Nat) (L : List ByteArray), v10 = .int .i64 (i : Int) ∧ i ≤ n ∧ Hid (OwnS wr w.heap.size v3 L) ∧ Hid (L.Perm (ss.take i) ∧ Asc L) ∧ Hid (Below w.heap.size w wr)) (fun _ v10 _ => n - (intOf v10).toNat)
  case atStart => exact ⟨0, [], rfl, Nat.zero_le _, World.ownsRow_nil _ _ _ _, ⟨List.Perm.refl _, List.Pairwise.nil⟩, Below.refl _ _⟩
  case round =>
    obtain ⟨i, L, rfl, hi', HO, HP, HB⟩ := hrel
    obtain ⟨wq, hwq⟩ : ∃ wq, wq = wr := ⟨_, rfl⟩
    subst hwq
    by_cases hin : i < n
    · have hil : i < ss.length := by have := unhide HN; omega
      obtain ⟨b, o, rfl, hbw, hcell⟩ := unhide HC i hil
      obtain ⟨s, hs⟩ : ∃ s, s = ss[i] := ⟨_, rfl⟩
      have cs : wq.cell? ⟨b, o + i, none⟩ = some (.string s) := by rw [(unhide HB).cell (p := ⟨b, o + i, none⟩) hbw, hcell, hs]
      have HP2 : Hid (∀ k, (L.take k ++ s :: L.drop k).Perm (ss.take (i + 1))) := fun k => by
        rw [List.take_succ_eq_append_getElem hil, ← hs]
        exact (perm_insert L s k).trans ((unhide HP).1.append_right [s])
      have hLi : L.length = i := by
        have := (unhide HP).1.length_eq
        rw [List.length_take, Nat.min_eq_left (by omega)] at this; exact this
      have HSZ : Hid (s.size ≤ 1000000000000 ∧ ∀ x ∈ L, x.size ≤ 1000000000000) := ⟨by rw [hs]; exact unhide HZ _ (List.getElem_mem hil), fun x hx => unhide HZ x (List.mem_of_mem_take ((unhide HP).1.mem_iff.1 hx))⟩
      have HTW := hide (tabs_later (unhide HT) (unhide HB))
      have hrow := RowS.of_own (unhide HO)
      obtain ⟨ao, co, rfl, hco, hmo, hno, hcellsO⟩ := hrow
      have HCO := hide hcellsO
      clear hcellsO hcell hs hil
      rw [hLi] at HO hco ⊢
      have hiI : (i : Int) < (n : Int) := by omega
      go_upto_region 6 with fail
      have HINS : Hid (∀ k, k ≤ i → (∀ j, j + 1 = k → ∀ hj : j < L.length, ltC s L[j] = false) → (∀ j, k ≤ j → ∀ hj : j < L.length, ltC s L[j] = true) → (L.take k ++ s :: L.drop k).Perm (ss.take (i + 1)) ∧ Asc (L.take k ++ s :: L.drop k)) := fun k hk h1 h2 => ⟨unhide HP2 k, asc_insert (unhide HP).2 (by omega) h1 h2⟩
      have HLL := hide hLi
      have HLROW : Hid (RowS wq (.slice ao i co) L) := by have := RowS.of_own (unhide HO); exact this
      clear HP HP2 hLi
      go_loopw [6] (fun v6 wz => ∃ k : Nat, v6 = .int .i64 (k : Int) ∧ k ≤ i ∧ Hid (∀ j, k ≤ j → ∀ hj : j < L.length, ltC s L[j] = true) ∧ Hid (Below wq.heap.size wq wz)) (fun v6 _ => (intOf v6).toNat)
      case atStart => exact ⟨i, rfl, Nat.le_refl _, fun j h1 h2 => by have := unhide HLL; omega, Below.refl _ _⟩
      case round =>
        obtain ⟨k, rfl, hki, HG, HBZ⟩ := hrel
        have hbzs := (unhide HBZ).size
        by_cases hgo : ∃ m, ∃ hm : m < L.length, k = m + 1 ∧ ltC s L[m] = true
        · obtain ⟨m, hmL, hkm, hlt⟩ := hgo
          obtain ⟨x, hx⟩ : ∃ x, x = L[m] := ⟨_, rfl⟩
          obtain ⟨bo, oo, rfl, hbo, hco2⟩ := unhide HCO m hmL
          have cx : wr.cell? ⟨bo, oo + m, none⟩ = some (.string x) := by rw [(unhide HBZ).cell (p := ⟨bo, oo + m, none⟩) hbo, hco2, hx]
          have H48 := hide (refAhead_lt s x wr (unhide HSZ).1 (by rw [hx]; exact (unhide HSZ).2 _ (List.getElem_mem hmL)) (tabs_later (unhide HTW) (unhide HBZ)))
          have hmI : (m : Int) < (i : Int) := by omega
          have hkp : (0 : Int) < (k : Int) := by omega
          have hm1 : (k : Int) - 1 = (m : Int) := by omega
          have HKM := hide hkm
          rw [← hx] at hlt
          rw [hlt] at H48
          have HG2 : Hid (∀ j, m ≤ j → ∀ hj : j < L.length, ltC s L[j] = true) := fun j h1 hj => by
            rcases Nat.lt_or_ge m j with h | h
            · exact unhide HG j (by omega) hj
            · have : j = m := by omega
              subst this; rw [← hx]; exact hlt
          clear hx hco2 hmL hlt HG HINS hkm
          go_wp2_with (go_at_call 48; go_must (refine (unhide H48).mono ?_; rintro e w5 ⟨rfl, hb5⟩; have HB5 := hide ((unhide HBZ).trans (hb5.mono hbzs)); clear hb5))
          go_roundw
          case rel => exact ⟨m, rfl, by omega, HG2, HB5⟩
          case measure => have := unhide HKM; simp [intOf]; omega
        · have HNO : Hid (∀ j, j + 1 = k → ∀ hj : j < L.length, ltC s L[j] = false) := fun j h hj => by
            cases hl : ltC s L[j] with
            | false => rfl
            | true => exact absurd ⟨j, hj, h.symm, hl⟩ hgo
          have HIN := hide (unhide HINS k hki (unhide HNO) (unhide HG))
          clear hgo HINS HG
          rcases (show k = 0 ∨ ∃ m, k = m + 1 by cases k with | zero => exact .inl rfl | succ m => exact .inr ⟨m, rfl⟩) with hk0 | ⟨m, hkm⟩
          case' inl =>
            have hkn : ¬ (0 : Int) < (k : Int) := by omega
            have HK0 : Hid (k = 0 ∨ 0 < k) := .inl hk0
            clear HNO hk0
            go_upto_region 9 with fail
            obtain ⟨W, hW⟩ : ∃ W, W = wr := ⟨_, rfl⟩
            have HBW : Hid (Below wq.heap.size wq W) := by rw [hW]; exact unhide HBZ
            rw [← hW]
            clear hW HBZ hkn
            have hWs := (unhide HBW).size
            rcases ao with _ | ⟨bo, oo, sp⟩
            · have hi0 : i = 0 := by have := hno rfl; omega
              have hk0 : k = 0 := by omega
              have hL0 : L = [] := List.length_eq_zero_iff.1 (by have := unhide HLL; omega)
              have hco0 := hno rfl
              subst hi0 hk0 hL0 hco0
              have HFIN : Hid ([s].Perm (ss.take (0 + 1)) ∧ Asc [s]) := unhide HIN
              have HB0 := hide ((unhide HB).trans ((unhide HBW).mono (unhide HB).size))
              clear HIN HCO HLROW HO
              go_wp2_with (first
                | (at_builtin; refine wpList_append_own_none rfl _ _ 37 rfl W.heap.size 9 i0 1 under37 hi _ 0 [] rfl (World.ownsRow_nil _ _ _ _) rfl ?_)
                | (at_builtin; refine wpList_append_own _ rfl _ _ 37 rfl W.heap.size 9 i0 (.string ⟨#[]⟩) 1 16 under37 hi hz0 hz1 hz2 rfl (by decide) _ 0 [] rfl (World.ownsRow_nil _ _ _ _) ⟨W.heap.size, 0, none⟩ 1 1 [.string s] rfl rfl (cell_one_new _ _ _) (fun x hx => by simp at hx; subst hx; rfl) (by unfold maxLen; omega) (by omega) (by simp) ?_; intro v1 w6 hown1 hgrow1 hnil1; have HOWN : Hid (OwnS w6 W.heap.size v1 [s]) := hown1; have HB6 : Hid (Below W.heap.size W w6) := ((Below.refl _ _).alloc (Nat.le_refl _) _).grown hgrow1 (by simp) (fun k hk => by cases hk); clear hown1 hgrow1 hnil1)
                | (at_builtin; refine wpList_append_own_none rfl _ _ 37 rfl W.heap.size 9 i0 1 under37 hi _ 1 _ rfl (unhide HOWN) rfl ?_))
              exact ⟨⟨1, [s], rfl, by omega, (unhide HOWN).mono (Nat.le_trans (unhide HB).size hWs), HFIN, (unhide HB0).trans ((unhide HB6).mono (unhide HB0).size)⟩, by simp [intOf]; omega⟩
            have hsp : sp = none := by
              rcases Joins.ownsRow_forms (show wq.ownsRow w.heap.size 9 1 _ L.length (strsV L) from unhide HO) with ⟨e, _⟩ | ⟨g, cg, e⟩
              · cases e
              · simp only [Value.slice.injEq, Option.some.injEq, Addr.mk.injEq] at e; exact e.1.2.2
            subst hsp
          case' inr =>
            have hmL : m < L.length := by have := unhide HLL; omega
            obtain ⟨x, hx⟩ : ∃ x, x = L[m] := ⟨_, rfl⟩
            obtain ⟨bo, oo, hao, hbo, hco2⟩ := unhide HCO m hmL
            subst hao
            have cx : wr.cell? ⟨bo, oo + m, none⟩ = some (.string x) := by rw [(unhide HBZ).cell (p := ⟨bo, oo + m, none⟩) hbo, hco2, hx]
            have H48 := hide (refAhead_lt s x wr (unhide HSZ).1 (by rw [hx]; exact (unhide HSZ).2 _ (List.getElem_mem hmL)) (tabs_later (unhide HTW) (unhide HBZ)))
            rw [hx, unhide HNO m hkm.symm hmL] at H48
            rw [← hx] at H48
            have hmI : (m : Int) < (i : Int) := by omega
            have hkp : (0 : Int) < (k : Int) := by omega
            have hm1 : (k : Int) - 1 = (m : Int) := by omega
            have HK0 : Hid (k = 0 ∨ 0 < k) := .inr (by omega)
            clear hx hco2 hmL HNO hkm
            go_upto_region 9 with (go_at_call 48; go_must (refine (unhide H48).mono ?_; rintro e w5 ⟨rfl, hb5⟩; have HB5 := hide ((unhide HBZ).trans (hb5.mono hbzs)); clear hb5))
            obtain ⟨W, hW⟩ : ∃ W, W = w5 := ⟨_, rfl⟩
            have HBW : Hid (Below wq.heap.size wq W) := by rw [hW]; exact unhide HB5
            rw [← hW]
            clear hW HBZ HB5 hkp hm1 cx H48 hmI
          all_goals (
            have hWs := (unhide HBW).size
            have HROW := hide ((unhide HLROW).later (unhide HBW))
            have hsh : oo = 0 := by
              rcases Joins.ownsRow_forms (show wq.ownsRow w.heap.size 9 1 _ L.length (strsV L) from unhide HO) with ⟨e, _⟩ | ⟨g, cg, e⟩
              · cases e
              · simp only [Value.slice.injEq, Option.some.injEq, Addr.mk.injEq] at e; exact e.1.2.1
            subst hsh
            have HB0 := hide ((unhide HB).trans ((unhide HBW).mono (unhide HB).size))
            have HT1 := hide ((unhide HROW).take k hki).news
            have HLK : Hid ((L.take k).length = k ∧ (L.drop k).length = i - k ∧ L.length = i) := ⟨by rw [List.length_take]; have := unhide HLL; omega, by rw [List.length_drop]; have := unhide HLL; omega, unhide HLL⟩
            have HFIN := hide (unhide HIN)
            have HAD : Hid (∃ adr : Addr, (if co = k then some (⟨bo, 0, none⟩ : Addr) else some ⟨bo, k, none⟩) = some adr ∧ ∀ W', Below W.heap.size W W' → ∀ j u, (strsV (L.drop k))[j]? = some u → W'.cell? (adr.add j) = some u) := by
              by_cases hck : co = k
              · refine ⟨⟨bo, 0, none⟩, if_pos hck, fun W' _ j u hu => ?_⟩
                have h0 : L.drop k = [] := List.drop_of_length_le (by have := unhide HLL; omega)
                rw [h0] at hu; simp [strsV] at hu
              · refine ⟨⟨bo, k, none⟩, if_neg hck, fun W' hW' => ?_⟩
                exact (((unhide HROW).drop k hki).later hW').news.2
            obtain ⟨adr, hite, hnw⟩ := unhide HAD
            have HNW := hide hnw
            clear HIN HCO HLROW HO HAD hnw
            go_wp2_with (first
              | (at_builtin; refine wpList_append_own _ rfl _ _ 37 rfl W.heap.size 9 i0 (.string ⟨#[]⟩) 1 16 under37 hi hz0 hz1 hz2 rfl (by decide) (.slice none 0 0) 0 [] rfl (World.ownsRow_nil _ _ _ _) ⟨bo, 0, none⟩ k co (strsV (L.take k)) rfl (by rw [strsV_length, Nat.mul_one]; exact (unhide HLK).1) (unhide HT1).2 (strsV_one _) (by unfold maxLen; omega) (by omega) (Nat.le_refl _) ?_; intro v1 w6 hown1 hgrow1 hnil1; simp only [Nat.zero_add, List.nil_append] at hown1; have HOWN := hide hown1; have HB6 : Hid (Below W.heap.size W w6) := (Below.refl _ _).grown hgrow1 (Nat.le_refl _) (fun k hk => by cases hk); have hs6 := (unhide HB6).size; clear hown1 hgrow1 hnil1 HT1)
              | (at_builtin; refine wpList_append_own _ rfl _ _ 37 rfl W.heap.size 9 i0 (.string ⟨#[]⟩) 1 16 under37 hi hz0 hz1 hz2 rfl (by decide) _ k _ rfl ((unhide HOWN).alloc _) ⟨w6.heap.size, 0, none⟩ 1 1 [.string s] rfl rfl (cell_one_new _ _ _) (fun x hx => by simp at hx; subst hx; rfl) (by unfold maxLen; omega) (by omega) (by simp; omega) ?_; intro v2 w7 hown2 hgrow2 hnil2; have HOWN2 := hide hown2; have HB7 : Hid (Below W.heap.size W w7) := ((unhide HB6).alloc (unhide HB6).size _).grown hgrow2 (by simp; omega) (fun j hj => ((unhide HOWN).lt j hj).1); have hs7 := (unhide HB7).size; have HT2 := hide ((unhide HROW).later (unhide HB7)); clear hown2 hgrow2 hnil2 HOWN)
              | (at_builtin; refine wpList_append_own _ rfl _ _ 37 rfl W.heap.size 9 i0 (.string ⟨#[]⟩) 1 16 under37 hi hz0 hz1 hz2 rfl (by decide) _ (k + 1) _ rfl (unhide HOWN2) adr (i - k) (co - k) (strsV (L.drop k)) rfl (by rw [strsV_length, Nat.mul_one]; exact (unhide HLK).2.1) (unhide HNW w7 (unhide HB7)) (strsV_one _) (by unfold maxLen; omega) (by omega) hs7 ?_; intro v3 w8 hown3 hgrow3 hnil3; have HOWN3 := hide hown3; have HB8 : Hid (Below W.heap.size W w8) := (unhide HB7).grown hgrow3 hs7 (fun j hj => ((unhide HOWN2).lt j hj).1); clear hown3 hgrow3 hnil3 HNW))
            have hO : OwnS w8 W.heap.size v3 (L.take k ++ s :: L.drop k) := by
              have h := unhide HOWN3
              have e1 : (L.take k ++ s :: L.drop k).length = k + 1 + (i - k) := by rw [List.length_append, List.length_cons, (unhide HLK).1, (unhide HLK).2.1]; omega
              have e2 : strsV (L.take k ++ s :: L.drop k) = strsV (L.take k) ++ [Value.string s] ++ strsV (L.drop k) := by simp [strsV]
              unfold OwnS
              rw [e1, e2]; exact h
            exact ⟨⟨i + 1, L.take k ++ s :: L.drop k, by go_num, by omega, hO.mono (Nat.le_trans (unhide HB).size hWs), HFIN, (unhide HB0).trans ((unhide HB8).mono (unhide HB0).size)⟩, by simp [intOf]; omega⟩)
    · have hie : i = n := by omega
      subst hie
      have HF : Hid (L.Perm ss ∧ Asc L) := ⟨by have := (unhide HP).1; rw [List.take_of_length_le (by have := unhide HN; omega)] at this; exact this, (unhide HP).2⟩
      go_wp2
      go_ret
      exact ⟨_, L, rfl, unhide HO, (unhide HF).1, (unhide HF).2, unhide HB⟩
end Go.Proofs.YtiooiacebgojiaaDoor

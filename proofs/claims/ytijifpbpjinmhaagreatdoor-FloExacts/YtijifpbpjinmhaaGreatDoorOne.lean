/- (Big).IsOne; boxes. -/
import Derived.Test.YtijifpbpjinmhaaGreatDoorRefFits
import Derived.Test.YtijifpbpjinmhaaGreatDoorRefMinus
import Derived.Test.YtijifpbpjinmhaaGreatDoorLimb5
import Derived.OwnWalk
set_option maxHeartbeats 2000000
set_option maxRecDepth 100000
namespace Go.Proofs.YtijifpbpjinmhaaGreatDoor
open Go.RowKit
theorem grown_refl (w : World) (r : Option Nat) : w.grownBy w r := ⟨rfl, rfl, rfl, Nat.le_refl _, fun _ _ _ => rfl⟩
theorem grown_set {w wr : World} {g i : Nat} {v : Value} (h : w.grownBy wr (some g)) : w.grownBy (wr.setCell ⟨g, i, none⟩ v) (some g) :=
  ⟨h.os, h.tape, h.output, by simpa [World.setCell] using h.size, fun k hk hne => by
    rw [Below.heap_setCell _ _ _ _ (fun e => hne (by rw [e]))]; exact h.block k hk hne⟩
theorem own_grown {w wr : World} {g base : Nat} {v : Value} {l : List Nat} (h : OwnI w base v l) (hg : w.grownBy wr (some g)) (hlt : g < base) : OwnI wr base v l := by
  obtain ⟨hx, h2⟩ := h
  refine ⟨hx, ?_⟩
  rcases h2 with h2 | ⟨g', cap, cur, e, hbs, hg', r⟩
  · exact Or.inl h2
  · exact Or.inr ⟨g', cap, cur, e, hbs, (hg.block g' (Array.getElem?_eq_some_iff.1 hg').1 (fun e => by simp only [Option.some.injEq] at e; omega)).trans hg', r⟩
theorem own_set {w : World} {base g n cap i : Nat} {D : List Nat} (h : OwnI w base (.slice (some ⟨g, 0, none⟩) n cap) D) (hn : n = D.length) (x : Nat) (z : Int) (hz : z = (x : Int)) : OwnI (w.setCell ⟨g, i, none⟩ (.int .i64 z)) base (.slice (some ⟨g, 0, none⟩) n cap) (D.set i x) := by
  subst hz
  have h' : w.ownsRow base 3 1 (.slice (some ⟨g, 0, none⟩) n cap) n (i64s D) := by unfold OwnI at h; rw [← hn] at h; exact h
  have h2 := (World.ownsRow.stored h' i (.int .i64 (x : Int))).1
  rw [i64s_set] at h2
  unfold OwnI
  rw [List.length_set, ← hn]; exact h2
theorem refTake_any (vy : Value) (bx by' g n cx : Nat) (X Y : List Nat) (up q : Nat) (w : World) (hn : n = X.length) (hx : OwnI w bx (.slice (some ⟨g, 0, none⟩) n cx) X) (hy : OwnI w by' vy Y) (hg : g < by') (hlx : Cub.limbs 10000 X) (hly : Cub.limbs 10000 Y) (hl : n ≤ 1000000) (hup : up + Y.length ≤ n) (hq : q ≤ 9999)
    (hle : q * Cub.lval 10000 Y ≤ Cub.lval 10000 (X.drop up)) :
    Calls Tryz.prog 132 #[.slice (some ⟨g, 0, none⟩) n cx, vy, .int .i64 (up : Int), .int .i64 (q : Int)] w fun e w' => e = .returned (.tuple #[]) ∧ (∃ D, OwnI w' bx (.slice (some ⟨g, 0, none⟩) n cx) D ∧ D.length = X.length ∧ Cub.limbs 10000 D ∧ D.take up = X.take up ∧ Cub.lval 10000 (D.drop up) + q * Cub.lval 10000 Y = Cub.lval 10000 (X.drop up)) ∧ w.grownBy w' (some g) := by
  obtain ⟨ay, cy, rfl, hcy, hmy, hcells⟩ := hy.open
  have HC := hide hcells
  have HN := hide hn
  have HY := hide hy
  have HLY := hide hly
  have HLE := hide hle
  have HS : Hid (Cub.RefTakeInv X Y X up q 0 0) := Cub.RefTakeInv.start Y up q hlx
  have HX := hide hx
  obtain ⟨ny, hny⟩ : ∃ ny, ny = Y.length := ⟨_, rfl⟩
  rw [← hny] at hcy hup HY ⊢
  have HNY := hide hny
  clear hcells hn hy hly hle hlx hx hny
  go_enter Tryz.func132, Tryz.ntmps132
  go_wp2
  go_loopw [8, 9] (fun a b wr => ∃ (c k : Nat) (D : List Nat), a = .int .i64 (c : Int) ∧ b = .int .i64 (k : Int) ∧ c ≤ 9999 ∧ up + k ≤ n ∧ Hid (Cub.RefTakeInv X Y D up q c k) ∧ Hid (OwnI wr bx (.slice (some ⟨g, 0, none⟩) n cx) D) ∧ Hid (w.grownBy wr (some g))) (fun _ b _ => n - (intOf b).toNat)
  case atStart => exact ⟨0, 0, X, rfl, rfl, by omega, by omega, HS, HX, grown_refl _ _⟩
  case round =>
    obtain ⟨c, k, D, rfl, rfl, hc, hk, HI, HO, HG⟩ := hrel
    clear HS HX
    have hDn : n = D.length := by rw [(unhide HI).len]; exact unhide HN
    by_cases hend : ¬ k < ny ∧ c = 0
    · obtain ⟨hkn, hc0⟩ := hend
      subst hc0
      have HD := hide ((unhide HI).done (by have := unhide HNY; omega) (by have := unhide HN; omega))
      go_wp2
      go_end0
      exact ⟨rfl, ⟨D, unhide HO, (unhide HI).len, (unhide HI).lim, (unhide HI).low, unhide HD⟩, unhide HG⟩
    · have hkn : up + k < n := by
        rcases Nat.lt_or_ge (up + k) n with h | h
        · exact h
        · exfalso
          have hc0 := (unhide HI).owes (by have := unhide HNY; omega) (by have := unhide HN; omega) (unhide HLE)
          exact hend ⟨by omega, hc0⟩
      have hkD : up + k < D.length := by omega
      obtain ⟨x, hx⟩ : ∃ x, x = D[up + k] := ⟨_, rfl⟩
      have hxB : x < 10000 := by rw [hx]; exact (unhide HI).lim _ (List.getElem_mem hkD)
      obtain ⟨gx', cgx, e1, _, _, hcx⟩ := (unhide HO).open
      simp only [Value.slice.injEq] at e1
      obtain ⟨rfl, hn1, rfl⟩ := e1
      clear hn1
      obtain ⟨g2, e2, hcd⟩ := hcx wr (Below.refl _ _) (up + k) hkD
      simp only [Option.some.injEq, Addr.mk.injEq] at e2
      obtain ⟨rfl, hn2⟩ := e2
      clear hn2
      rw [← hx] at hcd
      have hfd : wr.frozen? ⟨g, up + k, none⟩ = false := by
        have h := unhide HO
        unfold OwnI at h; rw [← hDn] at h
        exact h.frozenAt (up + k)
      obtain ⟨y, hy⟩ : ∃ y, Y.getD k 0 = y := ⟨_, rfl⟩
      have hyB : y < 10000 := by rw [← hy]; exact Cub.getD_lt (unhide HLY) (by decide) _
      obtain ⟨p, hp⟩ : ∃ p, p = q * y := ⟨_, rfl⟩
      have hpB : p ≤ 99980001 := by rw [hp]; exact Nat.mul_le_mul hq (show y ≤ 9999 by omega)
      have hpI : (q : Int) * (y : Int) = (p : Int) := by rw [hp]; exact (Int.natCast_mul q y).symm
      have HST : Hid (∀ d c' : Nat, d < 10000 → c' ≤ 9999 → x + c' * 10000 = d + c + p → Cub.RefTakeInv X Y (D.set (up + k) d) up q c' (k + 1)) := fun d c' h1 h2 h3 => (unhide HI).step hkD h1 h2 (by rw [← hx, hy, ← hp]; exact h3)
      have HSET : Hid (∀ (d : Nat) (z : Int), z = (d : Int) → OwnI (wr.setCell ⟨g, up + k, none⟩ (.int .i64 z)) bx (.slice (some ⟨g, 0, none⟩) n cx) (D.set (up + k) d)) := fun d z hz => own_set (unhide HO) hDn d z hz
      have HGS : Hid (∀ z : Int, w.grownBy (wr.setCell ⟨g, up + k, none⟩ (.int .i64 z)) (some g)) := fun z => grown_set (unhide HG)
      have HOY := hide (own_grown (unhide HY) (unhide HG) hg)
      have hkI : (up : Int) + (k : Int) < (n : Int) := by omega
      by_cases hky : k < ny
      · have hkl : k < Y.length := by have := unhide HNY; omega
        obtain ⟨ay2, cy2, e3, _, _, hcy2⟩ := (unhide HOY).open
        simp only [Value.slice.injEq] at e3
        obtain ⟨rfl, hn3, rfl⟩ := e3
        clear hn3
        obtain ⟨b, rfl, hcb⟩ := hcy2 wr (Below.refl _ _) k hkl
        rw [show Y[k] = y by rw [← hy, List.getD_eq_getElem?_getD, List.getElem?_eq_getElem hkl]; rfl] at hcb
        have hkyI : (k : Int) < (ny : Int) := by omega
        clear hx hy hp hcx hcy2 HI HO HG HOY hDn hend hkl HLE HC
        by_cases hneg : x < c + p
        · have hnI : (x : Int) - (c : Int) - (p : Int) < 0 := by omega
          obtain ⟨c', hc'⟩ : ∃ c', c' = (c + p - x + 9999) / 10000 := ⟨_, rfl⟩
          have hcI : (-((x : Int) - (c : Int) - (p : Int)) + 10000 - 1) / 10000 = (c' : Int) := by omega
          have hc9 : c' ≤ 9999 := by omega
          obtain ⟨d, hd⟩ : ∃ d, d = x + c' * 10000 - (c + p) := ⟨_, rfl⟩
          have hdI : (x : Int) - (c : Int) - (p : Int) + (c' : Int) * 10000 = (d : Int) := by omega
          have hd9 : d < 10000 := by omega
          have HST2 := hide (unhide HST d c' hd9 hc9 (by omega))
          clear hc' hd HST
          go_wp2
          go_roundw
          case rel => exact ⟨c', k + 1, D.set (up + k) d, by go_num, by go_num, hc9, by omega, HST2, unhide HSET d _ rfl, unhide HGS _⟩
          case measure => simp [intOf]; omega
        · have hnI : ¬ (x : Int) - (c : Int) - (p : Int) < 0 := by omega
          obtain ⟨d, hd⟩ : ∃ d, d = x - (c + p) := ⟨_, rfl⟩
          have hdI : (x : Int) - (c : Int) - (p : Int) = (d : Int) := by omega
          have HST2 := hide (unhide HST d 0 (by omega) (by omega) (by omega))
          have hnI2 : ¬ (d : Int) < 0 := by omega
          clear hd HST hnI
          go_wp2
          go_roundw
          case rel => exact ⟨0, k + 1, D.set (up + k) d, rfl, by go_num, by omega, by omega, HST2, unhide HSET d _ rfl, unhide HGS _⟩
          case measure => simp [intOf]; omega
      · have hkyI : ¬ (k : Int) < (ny : Int) := by omega
        have hc0 : (0 : Int) < (c : Int) := by omega
        have hp0 : p = 0 := by
          rw [hp, ← hy, List.getD_eq_getElem?_getD, List.getElem?_eq_none (by have := unhide HNY; omega)]; exact Nat.mul_zero q
        clear hx hy hp hcx HI HO HG HOY hDn hend HLE HC hpI hpB
        subst hp0
        by_cases hneg : x < c
        · have hnI : (x : Int) - (c : Int) < 0 := by omega
          obtain ⟨c', hc'⟩ : ∃ c', c' = (c - x + 9999) / 10000 := ⟨_, rfl⟩
          have hcI : (-((x : Int) - (c : Int)) + 10000 - 1) / 10000 = (c' : Int) := by omega
          have hc9 : c' ≤ 9999 := by omega
          obtain ⟨d, hd⟩ : ∃ d, d = x + c' * 10000 - c := ⟨_, rfl⟩
          have hdI : (x : Int) - (c : Int) + (c' : Int) * 10000 = (d : Int) := by omega
          have hd9 : d < 10000 := by omega
          have HST2 := hide (unhide HST d c' hd9 hc9 (by omega))
          clear hc' hd HST
          go_wp2
          go_roundw
          case rel => exact ⟨c', k + 1, D.set (up + k) d, by go_num, by go_num, hc9, by omega, HST2, unhide HSET d _ rfl, unhide HGS _⟩
          case measure => simp [intOf]; omega
        · have hnI : ¬ (x : Int) - (c : Int) < 0 := by omega
          obtain ⟨d, hd⟩ : ∃ d, d = x - c := ⟨_, rfl⟩
          have hdI : (x : Int) - (c : Int) = (d : Int) := by omega
          have HST2 := hide (unhide HST d 0 (by omega) (by omega) (by omega))
          have hnI2 : ¬ (d : Int) < 0 := by omega
          clear hd HST hnI
          go_wp2
          go_roundw
          case rel => exact ⟨0, k + 1, D.set (up + k) d, rfl, by go_num, by omega, by omega, HST2, unhide HSET d _ rfl, unhide HGS _⟩
          case measure => simp [intOf]; omega
theorem own_other {w : World} {base g n c g' i : Nat} {l : List Nat} {u : Value} (h : OwnI w base (.slice (some ⟨g, 0, none⟩) n c) l) (hne : g ≠ g') : OwnI (w.setCell ⟨g', i, none⟩ u) base (.slice (some ⟨g, 0, none⟩) n c) l := by
  obtain ⟨hx, h2⟩ := h
  refine ⟨hx, ?_⟩
  rcases h2 with ⟨e, _⟩ | ⟨g2, cap, cur, e, hbs, hg', r⟩
  · cases e
  · refine Or.inr ⟨g2, cap, cur, e, hbs, ?_, r⟩
    simp only [Value.slice.injEq, Option.some.injEq, Addr.mk.injEq] at e
    obtain ⟨⟨rfl, _⟩, _⟩ := e
    rw [Below.heap_setCell _ _ _ _ (by exact hne)]; exact hg'
theorem own_block {w : World} {base : Nat} {v : Value} {l : List Nat} (h : OwnI w base v l) (hne : l ≠ []) : ∃ g c, v = .slice (some ⟨g, 0, none⟩) l.length c ∧ base ≤ g ∧ g < w.heap.size ∧ l.length ≤ c ∧ c ≤ 9223372036854775807 := by
  obtain ⟨a, c, rfl, hc, hm, hcells⟩ := h.open
  have h0 : 0 < l.length := List.length_pos_iff.2 hne
  obtain ⟨g, rfl, _⟩ := hcells w (Below.refl _ _) 0 h0
  have := World.ownsRow.lt h g rfl
  exact ⟨g, c, rfl, this.1, this.2, hc, hm⟩
theorem mk_tb (m : Nat) (hm : m < 10 ^ 600) : (⟨(Lib.decDigits m).toArray⟩ : ByteArray) = tb m := by
  have := tb_list m hm
  rw [← this]
theorem mod_lt' (m n : Nat) (d : Nat) (hm : m < 10 ^ d) : m % n < 10 ^ d := Nat.lt_of_le_of_lt (Nat.mod_le _ _) hm
theorem refDivideG (s t : ByteArray) (w : World) (hs1 : Cub.isNat s.data.toList) (ht1 : Cub.isNat t.data.toList) (hsz : s.size ≤ 5000) (htz : t.size ≤ 5000) (h0 : 0 < val t) :
    Calls Tryz.prog 83 #[.string s, .string t] w fun e w' => e = .returned (.tuple #[.string ⟨(Lib.decDigits (val s / val t)).toArray⟩, .string ⟨(Lib.decDigits (val s % val t)).toArray⟩]) ∧ Below w.heap.size w w' := by
  have hs2 : s.data.toList.length ≤ 5000 := by rw [list_len]; exact hsz
  have ht2 : t.data.toList.length ≤ 5000 := by rw [list_len]; exact htz
  have HLS : Hid (∀ W : World, Calls Tryz.prog 119 #[.string s] W fun e w' => ∃ v l, e = .returned v ∧ OwnI w' W.heap.size v l ∧ Cub.normal 10000 l ∧ Cub.lval 10000 l = val s ∧ l.length ≤ 5000 ∧ Below W.heap.size W w') := fun W => by
    refine (refLimbs_any s W (by omega) hs1.1).mono ?_
    rintro e w' ⟨v, l, he, ho, hn, hv, hb⟩
    exact ⟨v, l, he, ho, hn, hv, by have := Cub.len_le4 hs1.1 hn hv; omega, hb⟩
  have HLT : Hid (∀ W : World, Calls Tryz.prog 119 #[.string t] W fun e w' => ∃ v l, e = .returned v ∧ OwnI w' W.heap.size v l ∧ Cub.normal 10000 l ∧ Cub.lval 10000 l = val t ∧ l.length ≤ 5000 ∧ Below W.heap.size W w') := fun W => by
    refine (refLimbs_any t W (by omega) ht1.1).mono ?_
    rintro e w' ⟨v, l, he, ho, hn, hv, hb⟩
    exact ⟨v, l, he, ho, hn, hv, by have := Cub.len_le4 ht1.1 hn hv; omega, hb⟩
  have HSS : Hid (s = ⟨(Lib.decDigits (val s)).toArray⟩) := by
    show _ = _
    have : Lib.decDigits (val s) = s.data.toList := Cub.dec_dval _ _ rfl hs1
    rw [this]
  clear hs1 hs2 ht1 ht2 hsz htz
  go_enter Tryz.func83, Tryz.ntmps83
  go_upto_region 3 with (first
    | (go_at_call_of 119 s; go_must (refine (unhide HLS w).mono ?_; rintro e w1 ⟨vx, X, rfl, ho1, hnX, hvX, hlX, hb1⟩; have HX := hide (And.intro ho1 (And.intro hnX hvX)); clear ho1 hnX hvX; have hs1 := hb1.size))
    | (go_at_call_of 119 t; go_must (refine (unhide HLT w1).mono ?_; rintro e w2 ⟨vy, Y, rfl, ho2, hnY, hvY, hlY, hb2⟩; have HY := hide (And.intro ho2 (And.intro hnY hvY)); clear ho2 hnY hvY)))
  have hs2 : w.heap.size ≤ w2.heap.size := Nat.le_trans hs1 hb2.size
  have HB2 := hide (hb1.trans (hb2.mono hs1))
  have H85 := hide (refLess_any vx vy X Y w2 (RowI.of_own ((unhide HX).1.later hb2)) (RowI.of_own (unhide HY).1) (unhide HX).2.1 (unhide HY).2.1)
  rw [(unhide HX).2.2, (unhide HY).2.2] at H85
  by_cases hlt : val s < val t
  · rw [decide_eq_true hlt] at H85
    have HQ : Hid (Lib.decDigits (val s / val t) = [48] ∧ val s % val t = val s) := ⟨by rw [Nat.div_eq_of_lt hlt]; exact dec_zero, Nat.mod_eq_of_lt hlt⟩
    clear hlt h0 HLS HLT hb1 hb2
    go_wp2_with (go_at_call 130; go_must (refine (unhide H85).mono ?_; rintro e w3 ⟨rfl, hb3⟩))
    go_ret2
    exact ⟨by rw [(unhide HQ).1, (unhide HQ).2, ← unhide HSS]; rfl, (unhide HB2).trans (hb3.mono hs2)⟩
  · rw [decide_eq_false hlt] at H85
    have hYne : Y ≠ [] := fun e => by have := (unhide HY).2.2; rw [e] at this; have h2 : Cub.lval 10000 [] = 0 := rfl; omega
    have hyx : Y.length ≤ X.length := Cub.normal_len_le (by decide) (unhide HX).2.1.1 (unhide HY).2.1 (by rw [(unhide HX).2.2, (unhide HY).2.2]; omega)
    have hYl : 0 < Y.length := List.length_pos_iff.2 hYne
    have hXne : X ≠ [] := fun e => by rw [e] at hyx; simp at hyx; exact hYne hyx
    obtain ⟨g, cX, rfl, hg1, hg2, hcX, hmX⟩ := own_block (unhide HX).1 hXne
    obtain ⟨gy, cY, rfl, hy1, hy2, hcY, hmY⟩ := own_block (unhide HY).1 hYne
    have HS0 : Hid (Cub.lval 10000 (X.drop (X.length - Y.length + 1)) < Cub.lval 10000 Y) := by
      show _ < _
      have h1 := Cub.lval_lt (Cub.limbs_drop4 (unhide HX).2.1.1 (X.length - Y.length + 1))
      rw [List.length_drop] at h1
      have h2 := Cub.normal_ge (unhide HY).2.1 hYne
      have h3 : X.length - (X.length - Y.length + 1) = Y.length - 1 := by omega
      rw [h3] at h1
      omega
    have HX2 := hide ((unhide HX).1.later hb2)
    have HDV : Hid (Cub.DivInv (val s) (val t) X (List.replicate X.length 0) X.length (X.length - Y.length + 1)) := by
      have := Cub.DivInv.start (A := val s) (V := val t) (unhide HX).2.1.1 (unhide HX).2.2 (up := X.length - Y.length + 1) (by rw [← (unhide HY).2.2]; exact unhide HS0)
      exact this
    have HYY := hide (unhide HY)
    obtain ⟨nX, hnX⟩ : ∃ nX, nX = X.length := ⟨_, rfl⟩
    obtain ⟨nY, hnY⟩ : ∃ nY, nY = Y.length := ⟨_, rfl⟩
    rw [← hnX] at HX2 HDV H85 hcX hyx hlX ⊢
    rw [← hnY] at HYY HDV H85 hcY hyx hYl hlY ⊢
    have HNX := hide hnX
    have HNY := hide hnY
    have HLT2 := hide hlt
    have hb2s := hb2.size
    clear hlt HSS HLS HLT hb1 hb2 HX HY HS0 hYne hXne hnX hnY
    obtain ⟨i0, hi, hz0, hz1, hz2⟩ := info_parts Tryz.info3
    go_wp2_with (first
      | (go_at_call 130; go_must (refine (unhide H85).mono ?_; rintro e w3 ⟨rfl, hb3⟩; have HX3 := hide ((unhide HX2).later hb3); have HY3 := hide ((unhide HYY).1.later hb3); have HB3 := hide ((unhide HB2).trans (hb3.mono hs2)); have hs3 := hb3.size; clear hb3))
      | (at_make; go_must (refine wpList_make_full _ rfl _ _ 138 rfl w3.heap.size 3 i0 (.int .i64 0) 1 Tryz.underlying138 hi hz0 hz1 .i64 .i64 _ _ nX rfl rfl (by omega) (by omega) (by rw [hz2]; omega) (by unfold maxLen; omega) (Nat.le_refl _) ?_; intro w4 hown4 hgrow4; rw [i64s_made] at hown4; have hb4 : Below w3.heap.size w3 w4 := (Below.refl _ _).grown hgrow4 (Nat.le_refl _) (fun k hk => by cases hk); have HQ4 : Hid (OwnI w4 w3.heap.size (.slice (some ⟨w3.heap.size, 0, none⟩) nX nX) (List.replicate nX 0)) := (by show World.ownsRow _ _ _ _ _ _ _; rw [List.length_replicate]; exact hown4); have HX4 := hide ((unhide HX3).later hb4); have HY4 := hide ((unhide HY3).later hb4); have HB4 := hide ((unhide HB3).trans (hb4.mono (Nat.le_trans hs2 hs3))); clear hown4 hgrow4 hb4)))
    have hgq : g < w3.heap.size := by omega
    have hgyq : gy < w3.heap.size := by omega
    have hwq : w.heap.size ≤ w3.heap.size := by omega
    have hygg : g < w1.heap.size := hg2
    generalize hgw : w3.heap.size = gq at *
    clear hgw H85 HX2 HX3 HY3 HB3 HB2
    go_loopw [9] (fun v9 wr => ∃ (u : Nat) (X Q : List Nat), v9 = .int .i64 ((u : Int) - 1) ∧ u ≤ nX - nY + 1 ∧ Hid (Cub.DivInv (val s) (val t) X Q nX u) ∧ Hid (OwnI wr w.heap.size (.slice (some ⟨g, 0, none⟩) nX cX) X) ∧ Hid (OwnI wr w1.heap.size (.slice (some ⟨gy, 0, none⟩) nY cY) Y) ∧ Hid (OwnI wr gq (.slice (some ⟨gq, 0, none⟩) nX nX) Q) ∧ Hid (Below w.heap.size w wr)) (fun v9 _ => (intOf v9 + 1).toNat)
    case atStart => exact ⟨nX - nY + 1, X, _, by go_num, Nat.le_refl _, HDV, HX4, HY4, HQ4, HB4⟩
    case round =>
      obtain ⟨u, X', Q, rfl, hu, HI, HOX, HOY, HOQ, HB⟩ := hrel
      clear HDV HX4 HY4 HQ4 HB4 HNX X
      have HVY := hide (unhide HYY).2
      clear HYY
      by_cases hu0 : u = 0
      · subst hu0
        obtain ⟨d1, d2⟩ := (unhide HI).done
        obtain ⟨q1, q2, _⟩ := Cub.lval_trim 10000 _ Q rfl
        obtain ⟨x1, x2, _⟩ := Cub.lval_trim 10000 _ X' rfl
        have HTQ : Hid (Cub.normal 10000 (Cub.trimN Q) ∧ Cub.lval 10000 (Cub.trimN Q) = val s / val t ∧ (Cub.trimN Q).length ≤ 1000000) := ⟨q2 (unhide HI).limQ, q1.trans d1, by
          have h := Cub.len_leB (B := 10000) (by decide) (k := nX) (q2 (unhide HI).limQ) (by rw [q1]; have := Cub.lval_lt (unhide HI).limQ; rw [(unhide HI).lenQ] at this; exact this)
          omega⟩
        have HTX : Hid (Cub.normal 10000 (Cub.trimN X') ∧ Cub.lval 10000 (Cub.trimN X') = val s % val t ∧ (Cub.trimN X').length ≤ 1000000) := ⟨x2 (unhide HI).limX, x1.trans d2, by
          have h := Cub.len_leB (B := 10000) (by decide) (k := nX) (x2 (unhide HI).limX) (by rw [x1]; have := Cub.lval_lt (unhide HI).limX; rw [(unhide HI).lenX] at this; exact this)
          omega⟩
        have H77q := hide (refTrim_any _ gq Q wr (unhide HOQ))
        clear d1 d2 q1 q2 x1 x2 HI
        have hbs := (unhide HB).size
        go_wp2_with fail
        refine (unhide H77q).mono ?_
        rintro e w5 ⟨vq, rfl, hoq, hw5⟩
        rw [hw5]
        have H76q := hide (refText_any vq gq (Cub.trimN Q) wr hoq (unhide HTQ).1 (unhide HTQ).2.2)
        rw [(unhide HTQ).2.1] at H76q
        clear hoq hw5 H77q
        go_wp2_with fail
        refine (unhide H76q).mono ?_
        rintro e w6 ⟨rfl, hb6⟩
        have H77x := hide (refTrim_any _ w.heap.size X' w6 ((unhide HOX).later hb6))
        clear H76q
        go_wp2_with fail
        refine (unhide H77x).mono ?_
        rintro e w7 ⟨vt, rfl, hot, hw7⟩
        rw [hw7]
        have H76x := hide (refText_any vt w.heap.size (Cub.trimN X') w6 hot (unhide HTX).1 (unhide HTX).2.2)
        rw [(unhide HTX).2.1] at H76x
        clear hot hw7 H77x
        go_wp2_with fail
        refine (unhide H76x).mono ?_
        rintro e w8 ⟨rfl, hb8⟩
        have hb9 := (unhide HB).trans ((hb6.trans (hb8.mono hb6.size)).mono hbs)
        go_wp2_with fail
        go_ret2
        exact ⟨rfl, hb9⟩
      · obtain ⟨up, rfl⟩ : ∃ up, u = up + 1 := ⟨u - 1, by omega⟩
        have hupn : up < nX := by omega
        have hnYY := unhide HNY
        have hlX' := (unhide HI).lenX
        obtain ⟨q, hq⟩ : ∃ q, q = Cub.lval 10000 (X'.drop up) / Cub.lval 10000 Y := ⟨_, rfl⟩
        have hq9 : q ≤ 9999 := by rw [hq, (unhide HVY).2]; exact (unhide HI).quo hupn
        have H86 := hide (refFits_any (.slice (some ⟨g, 0, none⟩) nX cX) (.slice (some ⟨gy, 0, none⟩) nY cY) w.heap.size w1.heap.size X' Y up q wr (unhide HOX) (unhide HOY) (unhide HI).limX (unhide HVY).1 (by omega) (by omega) (by omega) (by rw [← hq]; exact hq9) (by rw [(unhide HVY).2]; exact h0) hq)
        have hle : q * Cub.lval 10000 Y ≤ Cub.lval 10000 (X'.drop up) := by rw [hq]; exact Nat.div_mul_le_self _ _
        have HST : Hid (∀ D : List Nat, D.length = X'.length → Cub.limbs 10000 D → D.take up = X'.take up → Cub.lval 10000 (D.drop up) + q * Cub.lval 10000 Y = Cub.lval 10000 (X'.drop up) → Cub.DivInv (val s) (val t) D (Q.set up q) nX up) := fun D h1 h2 h3 h4 => (unhide HI).step hupn (by rw [hq, (unhide HVY).2]) h1 h2 h3 (by rw [← (unhide HVY).2]; exact h4)
        have HLQ : Hid (Q.length = nX) := (unhide HI).lenQ
        have H87 : Hid (∀ W : World, OwnI W w.heap.size (.slice (some ⟨g, 0, none⟩) nX cX) X' → OwnI W w1.heap.size (.slice (some ⟨gy, 0, none⟩) nY cY) Y → Calls Tryz.prog 132 #[.slice (some ⟨g, 0, none⟩) nX cX, .slice (some ⟨gy, 0, none⟩) nY cY, .int .i64 (up : Int), .int .i64 (q : Int)] W fun e w' => e = .returned (.tuple #[]) ∧ (∃ D, OwnI w' w.heap.size (.slice (some ⟨g, 0, none⟩) nX cX) D ∧ D.length = X'.length ∧ Cub.limbs 10000 D ∧ D.take up = X'.take up ∧ Cub.lval 10000 (D.drop up) + q * Cub.lval 10000 Y = Cub.lval 10000 (X'.drop up)) ∧ W.grownBy w' (some g)) := fun W hx hy =>
          refTake_any _ w.heap.size w1.heap.size g nX cX X' Y up q W hlX'.symm hx hy hygg (unhide HI).limX (unhide HVY).1.1 (by omega) (by omega) hq9 hle
        have HZ : Hid (q = 0 → Cub.DivInv (val s) (val t) X' (Q.set up q) nX up) := fun h => unhide HST X' rfl (unhide HI).limX rfl (by rw [h]; simp)
        have ej : ((up + 1 : Nat) : Int) - 1 = (up : Int) := by omega
        rw [ej]
        have hbs := (unhide HB).size
        clear hq hle hnYY hlX' HI HNY HVY ej hu0
        have hupI : (up : Int) < (nX : Int) := by omega
        go_upto_region 10 with (first
          | (go_at_call 131; go_must (refine (unhide H86).mono ?_; rintro e w5 ⟨rfl, hb5⟩; have HOX5 := hide ((unhide HOX).later hb5); have HOY5 := hide ((unhide HOY).later hb5); have HOQ5 := hide ((unhide HOQ).later hb5); have HB5 := hide ((unhide HB).trans (hb5.mono hbs)); clear hb5; have hupQ : up < Q.length := (by have := unhide HLQ; omega); have HROW : Hid (w5.ownsRow gq 3 1 (.slice (some ⟨gq, 0, none⟩) nX nX) nX (i64s Q)) := (by have h := unhide HOQ5; unfold OwnI at h; rw [unhide HLQ] at h; exact h); have cq : w5.cell? ⟨gq, up, none⟩ = some (.int .i64 (Q[up] : Int)) := (by rw [(unhide HROW).cellAt up (by omega), i64s_get Q up hupQ]); have fq : w5.frozen? ⟨gq, up, none⟩ = false := (unhide HROW).frozenAt up)))
        obtain ⟨W, hW⟩ : ∃ W, W = w5.setCell ⟨gq, up, none⟩ (.int .i64 (q : Int)) := ⟨_, rfl⟩
        have HOX6 : Hid (OwnI W w.heap.size (.slice (some ⟨g, 0, none⟩) nX cX) X') := by rw [hW]; exact own_other (unhide HOX5) (by omega)
        have HOY6 : Hid (OwnI W w1.heap.size (.slice (some ⟨gy, 0, none⟩) nY cY) Y) := by rw [hW]; exact own_other (unhide HOY5) (by omega)
        have HOQ6 : Hid (OwnI W gq (.slice (some ⟨gq, 0, none⟩) nX nX) (Q.set up q)) := by rw [hW]; exact own_set (unhide HOQ5) (unhide HLQ).symm q _ rfl
        have HB6 : Hid (Below w.heap.size w W) := by rw [hW]; exact (unhide HB5).setCell (by exact hwq) _
        have cW : W.cell? ⟨gq, up, none⟩ = some (.int .i64 (q : Int)) := by rw [hW]; exact World.cell?_setCell_same _ _ _ cq
        rw [← hW]
        clear hW cq fq HROW HOX5 HOY5 HOQ5 HB5 HOX HOY HOQ HB H86 hupQ
        by_cases hq0 : 0 < q
        · have H87w := hide (unhide H87 W (unhide HOX6) (unhide HOY6))
          have hqI : (0 : Int) < (q : Int) := by omega
          clear H87 HZ
          go_wp2_with (go_at_call 132; go_must (refine (unhide H87w).mono ?_; rintro e w7 ⟨rfl, hD, hg7⟩; obtain ⟨D, hoD, hl, hlim, hlow, hsum⟩ := hD; have HI7 := hide (unhide HST D hl hlim hlow hsum); have HOX7 := hide hoD; have HOY7 := hide (own_grown (unhide HOY6) hg7 hygg); have HOQ7 := hide (own_grown (unhide HOQ6) hg7 hgq); have HB7 := hide ((unhide HB6).grown hg7 (unhide HB6).size (fun k hk => by simp only [Option.some.injEq] at hk; omega)); clear hoD hl hlim hlow hsum hg7))
          go_roundw
          case rel => exact ⟨up, D, Q.set up q, by go_num, by omega, HI7, HOX7, HOY7, HOQ7, HB7⟩
          case measure => simp [intOf]
        · have HI7 := hide (unhide HZ (by omega))
          have hqI : ¬ (0 : Int) < (q : Int) := by omega
          clear H87 HZ HST
          go_wp2_with fail
          go_roundw
          case rel => exact ⟨up, X', Q.set up q, by go_num, by omega, HI7, HOX6, HOY6, HOQ6, HB6⟩
          case measure => simp [intOf]
theorem one_list {l : List Nat} (hn : Cub.normal 1000000000 l) : Cub.lval 1000000000 l = 1 ↔ l = [1] := by
  constructor
  · intro h
    match l, hn, h with
    | [], _, h => simp [Cub.lval] at h
    | [x], _, h => simp [Cub.lval] at h; rw [h]
    | x :: y :: t, hn, h =>
      have := Cub.normal_ge hn (by simp)
      have h2 : (1000000000 : Nat) ^ 1 ≤ 1000000000 ^ ((x :: y :: t).length - 1) := Nat.pow_le_pow_right (by decide) (by simp)
      omega
  · rintro rfl; rfl
theorem isOne_any (v : Value) (n : Nat) (w : World) (h : IsBig w v n) :
    Calls Tryz.prog 121 #[v] w fun e w' => e = .returned (.bool (n == 1)) ∧ Below w.heap.size w w' := by
  obtain ⟨a, l, cap, rfl, hl, hr, hn, rfl⟩ := h.form
  have h1 := one_list hn
  by_cases hlen : l.length = 1
  · match l, hlen with
    | [x], _ =>
      obtain ⟨a', cap', e, _, _, hc⟩ := hr
      simp only [Value.slice.injEq] at e
      obtain ⟨rfl, _, rfl⟩ := e
      obtain ⟨b, o, rfl, hb, hcell⟩ := hc (by simp)
      have c0 := hcell 0 (by simp)
      simp only [List.getElem_cons_zero, Nat.add_zero] at c0
      have ex : (Cub.lval 1000000000 [x] == 1) = ((x : Int) == 1) := by
        simp [Cub.lval]
        rw [Bool.eq_iff_iff]; simp; omega
      have hx : x < 18446744073709551616 := by have := hn.1 x (by simp); omega
      rw [ex]
      simp only [List.length_cons, List.length_nil, Nat.zero_add] at *
      clear ex h1 hn h hcell hc
      go_enter Tryz.func121, Tryz.ntmps121
      go_wp2
      go_ret
      exact ⟨rfl, (Below.refl _ _).alloc (Nat.le_refl _) _⟩
  · have ex : (Cub.lval 1000000000 l == 1) = false := by
      rw [beq_eq_false_iff_ne]; intro e; exact hlen (by rw [h1.1 e]; rfl)
    have el : ((l.length : Int) == 1) = false := by rw [beq_eq_false_iff_ne]; omega
    rw [ex]
    clear ex h1 hn h hr
    generalize l.length = len at *
    go_enter Tryz.func121, Tryz.ntmps121
    go_wp2
    go_ret
    exact ⟨rfl, (Below.refl _ _).alloc (Nat.le_refl _) _⟩
/-- A box that the call has made holds a value. -/
structure Box (W : World) (g : Nat) (u : Value) : Prop where
  c : W.cell? ⟨g, 0, none⟩ = some u
  f : W.frozen? ⟨g, 0, none⟩ = false
theorem Box.lt {W : World} {g : Nat} {u : Value} (h : Box W g u) : g < W.heap.size := World.block_lt_of_cell? _ _ h.c
theorem Box.later {W V : World} {g : Nat} {u : Value} (h : Box W g u) (hb : Below W.heap.size W V) : Box V g u :=
  ⟨(hb.cell (p := ⟨g, 0, none⟩) h.lt).trans h.c, (hb.frozen (p := ⟨g, 0, none⟩) h.lt).trans h.f⟩
theorem Box.set {W : World} {g : Nat} {u : Value} (h : Box W g u) (x : Value) : Box (W.setCell ⟨g, 0, none⟩ x) g x :=
  ⟨World.cell?_setCell_same _ _ _ h.c, by rw [World.frozen?_setCell]; exact h.f⟩
theorem Box.other {W : World} {g k : Nat} {u : Value} (h : Box W g u) (hk : g ≠ k) (x : Value) : Box (W.setCell ⟨k, 0, none⟩ x) g u :=
  ⟨by rw [World.cell?_setCell_other _ _ _ _ (by intro e; cases e; exact hk rfl)]; exact h.c, by rw [World.frozen?_setCell]; exact h.f⟩
end Go.Proofs.YtijifpbpjinmhaaGreatDoor

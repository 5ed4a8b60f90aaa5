/- The document's take: so many times a number is taken from another, from a place on. -/
import Derived.Test.YthcihkgellginaaDoorRefFits
namespace Go.Proofs.YthcihkgellginaaDoor
open Go.RowKit

theorem grown_refl (w : World) (r : Option Nat) : w.grownBy w r := ⟨rfl, rfl, rfl, Nat.le_refl _, fun _ _ _ => rfl⟩
theorem grown_set {w wr : World} {g i : Nat} {v : Value} (h : w.grownBy wr (some g)) : w.grownBy (wr.setCell ⟨g, i, none⟩ v) (some g) :=
  ⟨h.os, h.tape, h.output, by simpa [World.setCell] using h.size, fun k hk hne => by
    rw [Below.heap_setCell _ _ _ _ (fun e => hne (by rw [e]))]; exact h.block k hk hne⟩
theorem own_grown {w wr : World} {g base : Nat} {v : Value} {l : List Nat} (h : OwnI w base v l) (hg : w.grownBy wr (some g)) (hlt : g < base) : OwnI wr base v l := by
  obtain ⟨hx, h2⟩ := h
  refine ⟨hx, ?_⟩
  rcases h2 with h2 | ⟨g', cap, cur, e, hbs, hg', r⟩
  · exact Or.inl h2
  · exact Or.inr ⟨g', cap, cur, e, hbs, (hg.block g' (Array.getElem?_eq_some_iff.1 hg').1 (fun e => by simp only [Option.some.injEq] at e; omega)).trans hg', r⟩
theorem own_set {w : World} {base g n cap i : Nat} {D : List Nat} (h : OwnI w base (.slice (some ⟨g, 0, none⟩) n cap) D) (hn : n = D.length) (x : Nat) (z : Int) (hz : z = (x : Int)) : OwnI (w.setCell ⟨g, i, none⟩ (.int .i64 z)) base (.slice (some ⟨g, 0, none⟩) n cap) (D.set i x) := by
  subst hz
  have h' : w.ownsRow base 3 1 (.slice (some ⟨g, 0, none⟩) n cap) n (i64s D) := by unfold OwnI at h; rw [← hn] at h; exact h
  have h2 := (World.ownsRow.stored h' i (.int .i64 (x : Int))).1
  rw [i64s_set] at h2
  unfold OwnI
  rw [List.length_set, ← hn]; exact h2

set_option maxRecDepth 100000 in
set_option maxHeartbeats 1000000 in
theorem refTake_any (vy : Value) (bx by' g n cx : Nat) (X Y : List Nat) (up q : Nat) (w : World) (hn : n = X.length) (hx : OwnI w bx (.slice (some ⟨g, 0, none⟩) n cx) X) (hy : OwnI w by' vy Y) (hg : g < by') (hlx : Cub.limbs 10000 X) (hly : Cub.limbs 10000 Y) (hl : n ≤ 1000000) (hup : up + Y.length ≤ n) (hq : q ≤ 9999)
    (hle : q * Cub.lval 10000 Y ≤ Cub.lval 10000 (X.drop up)) :
    Calls Tryd.prog 87 #[.slice (some ⟨g, 0, none⟩) n cx, vy, .int .i64 (up : Int), .int .i64 (q : Int)] w fun e w' => e = .returned (.tuple #[]) ∧ (∃ D, OwnI w' bx (.slice (some ⟨g, 0, none⟩) n cx) D ∧ D.length = X.length ∧ Cub.limbs 10000 D ∧ D.take up = X.take up ∧ Cub.lval 10000 (D.drop up) + q * Cub.lval 10000 Y = Cub.lval 10000 (X.drop up)) ∧ w.grownBy w' (some g) := by
  obtain ⟨ay, cy, rfl, hcy, hmy, hcells⟩ := hy.open
  have HC := hide hcells
  have HN := hide hn
  have HY := hide hy
  have HLY := hide hly
  have HLE := hide hle
  have HS : Hid (Cub.RefTakeInv X Y X up q 0 0) := Cub.RefTakeInv.start Y up q hlx
  have HX := hide hx
  obtain ⟨ny, hny⟩ : ∃ ny, ny = Y.length := ⟨_, rfl⟩
  rw [← hny] at hcy hup HY ⊢
  have HNY := hide hny
  clear hcells hn hy hly hle hlx hx hny
  go_enter Tryd.func87, Tryd.ntmps87
  go_wp2
  go_loopw [8, 9] (fun a b wr => ∃ (c k : Nat) (D : List Nat), a = .int .i64 (c : Int) ∧ b = .int .i64 (k : Int) ∧ c ≤ 9999 ∧ up + k ≤ n ∧ Hid (Cub.RefTakeInv X Y D up q c k) ∧ Hid (OwnI wr bx (.slice (some ⟨g, 0, none⟩) n cx) D) ∧ Hid (w.grownBy wr (some g))) (fun _ b _ => n - (intOf b).toNat)
  case atStart => exact ⟨0, 0, X, rfl, rfl, by omega, by omega, HS, HX, grown_refl _ _⟩
  case round =>
    obtain ⟨c, k, D, rfl, rfl, hc, hk, HI, HO, HG⟩ := hrel
    clear HS HX
    have hDn : n = D.length := by rw [(unhide HI).len]; exact unhide HN
    by_cases hend : ¬ k < ny ∧ c = 0
    · obtain ⟨hkn, hc0⟩ := hend
      subst hc0
      have HD := hide ((unhide HI).done (by have := unhide HNY; omega) (by have := unhide HN; omega))
      go_wp2
      go_end0
      exact ⟨rfl, ⟨D, unhide HO, (unhide HI).len, (unhide HI).lim, (unhide HI).low, unhide HD⟩, unhide HG⟩
    · have hkn : up + k < n := by
        rcases Nat.lt_or_ge (up + k) n with h | h
        · exact h
        · exfalso
          have hc0 := (unhide HI).owes (by have := unhide HNY; omega) (by have := unhide HN; omega) (unhide HLE)
          exact hend ⟨by omega, hc0⟩
      have hkD : up + k < D.length := by omega
      obtain ⟨x, hx⟩ : ∃ x, x = D[up + k] := ⟨_, rfl⟩
      have hxB : x < 10000 := by rw [hx]; exact (unhide HI).lim _ (List.getElem_mem hkD)
      obtain ⟨gx', cgx, e1, _, _, hcx⟩ := (unhide HO).open
      simp only [Value.slice.injEq] at e1
      obtain ⟨rfl, hn1, rfl⟩ := e1
      clear hn1
      obtain ⟨g2, e2, hcd⟩ := hcx wr (Below.refl _ _) (up + k) hkD
      simp only [Option.some.injEq, Addr.mk.injEq] at e2
      obtain ⟨rfl, hn2⟩ := e2
      clear hn2
      rw [← hx] at hcd
      have hfd : wr.frozen? ⟨g, up + k, none⟩ = false := by
        have h := unhide HO
        unfold OwnI at h; rw [← hDn] at h
        exact h.frozenAt (up + k)
      obtain ⟨y, hy⟩ : ∃ y, Y.getD k 0 = y := ⟨_, rfl⟩
      have hyB : y < 10000 := by rw [← hy]; exact Cub.getD_lt (unhide HLY) (by decide) _
      obtain ⟨p, hp⟩ : ∃ p, p = q * y := ⟨_, rfl⟩
      have hpB : p ≤ 99980001 := by rw [hp]; exact Nat.mul_le_mul hq (show y ≤ 9999 by omega)
      have hpI : (q : Int) * (y : Int) = (p : Int) := by rw [hp]; exact (Int.natCast_mul q y).symm
      have HST : Hid (∀ d c' : Nat, d < 10000 → c' ≤ 9999 → x + c' * 10000 = d + c + p → Cub.RefTakeInv X Y (D.set (up + k) d) up q c' (k + 1)) := fun d c' h1 h2 h3 => (unhide HI).step hkD h1 h2 (by rw [← hx, hy, ← hp]; exact h3)
      have HSET : Hid (∀ (d : Nat) (z : Int), z = (d : Int) → OwnI (wr.setCell ⟨g, up + k, none⟩ (.int .i64 z)) bx (.slice (some ⟨g, 0, none⟩) n cx) (D.set (up + k) d)) := fun d z hz => own_set (unhide HO) hDn d z hz
      have HGS : Hid (∀ z : Int, w.grownBy (wr.setCell ⟨g, up + k, none⟩ (.int .i64 z)) (some g)) := fun z => grown_set (unhide HG)
      have HOY := hide (own_grown (unhide HY) (unhide HG) hg)
      have hkI : (up : Int) + (k : Int) < (n : Int) := by omega
      by_cases hky : k < ny
      · have hkl : k < Y.length := by have := unhide HNY; omega
        obtain ⟨ay2, cy2, e3, _, _, hcy2⟩ := (unhide HOY).open
        simp only [Value.slice.injEq] at e3
        obtain ⟨rfl, hn3, rfl⟩ := e3
        clear hn3
        obtain ⟨b, rfl, hcb⟩ := hcy2 wr (Below.refl _ _) k hkl
        rw [show Y[k] = y by rw [← hy, List.getD_eq_getElem?_getD, List.getElem?_eq_getElem hkl]; rfl] at hcb
        have hkyI : (k : Int) < (ny : Int) := by omega
        clear hx hy hp hcx hcy2 HI HO HG HOY hDn hend hkl HLE HC
        by_cases hneg : x < c + p
        · have hnI : (x : Int) - (c : Int) - (p : Int) < 0 := by omega
          obtain ⟨c', hc'⟩ : ∃ c', c' = (c + p - x + 9999) / 10000 := ⟨_, rfl⟩
          have hcI : (-((x : Int) - (c : Int) - (p : Int)) + 10000 - 1) / 10000 = (c' : Int) := by omega
          have hc9 : c' ≤ 9999 := by omega
          obtain ⟨d, hd⟩ : ∃ d, d = x + c' * 10000 - (c + p) := ⟨_, rfl⟩
          have hdI : (x : Int) - (c : Int) - (p : Int) + (c' : Int) * 10000 = (d : Int) := by omega
          have hd9 : d < 10000 := by omega
          have HST2 := hide (unhide HST d c' hd9 hc9 (by omega))
          clear hc' hd HST
          go_wp2
          go_roundw
          case rel => exact ⟨c', k + 1, D.set (up + k) d, by go_num, by go_num, hc9, by omega, HST2, unhide HSET d _ rfl, unhide HGS _⟩
          case measure => simp [intOf]; omega
        · have hnI : ¬ (x : Int) - (c : Int) - (p : Int) < 0 := by omega
          obtain ⟨d, hd⟩ : ∃ d, d = x - (c + p) := ⟨_, rfl⟩
          have hdI : (x : Int) - (c : Int) - (p : Int) = (d : Int) := by omega
          have HST2 := hide (unhide HST d 0 (by omega) (by omega) (by omega))
          have hnI2 : ¬ (d : Int) < 0 := by omega
          clear hd HST hnI
          go_wp2
          go_roundw
          case rel => exact ⟨0, k + 1, D.set (up + k) d, rfl, by go_num, by omega, by omega, HST2, unhide HSET d _ rfl, unhide HGS _⟩
          case measure => simp [intOf]; omega
      · have hkyI : ¬ (k : Int) < (ny : Int) := by omega
        have hc0 : (0 : Int) < (c : Int) := by omega
        have hp0 : p = 0 := by
          rw [hp, ← hy, List.getD_eq_getElem?_getD, List.getElem?_eq_none (by have := unhide HNY; omega)]; exact Nat.mul_zero q
        clear hx hy hp hcx HI HO HG HOY hDn hend HLE HC hpI hpB
        subst hp0
        by_cases hneg : x < c
        · have hnI : (x : Int) - (c : Int) < 0 := by omega
          obtain ⟨c', hc'⟩ : ∃ c', c' = (c - x + 9999) / 10000 := ⟨_, rfl⟩
          have hcI : (-((x : Int) - (c : Int)) + 10000 - 1) / 10000 = (c' : Int) := by omega
          have hc9 : c' ≤ 9999 := by omega
          obtain ⟨d, hd⟩ : ∃ d, d = x + c' * 10000 - c := ⟨_, rfl⟩
          have hdI : (x : Int) - (c : Int) + (c' : Int) * 10000 = (d : Int) := by omega
          have hd9 : d < 10000 := by omega
          have HST2 := hide (unhide HST d c' hd9 hc9 (by omega))
          clear hc' hd HST
          go_wp2
          go_roundw
          case rel => exact ⟨c', k + 1, D.set (up + k) d, by go_num, by go_num, hc9, by omega, HST2, unhide HSET d _ rfl, unhide HGS _⟩
          case measure => simp [intOf]; omega
        · have hnI : ¬ (x : Int) - (c : Int) < 0 := by omega
          obtain ⟨d, hd⟩ : ∃ d, d = x - c := ⟨_, rfl⟩
          have hdI : (x : Int) - (c : Int) = (d : Int) := by omega
          have HST2 := hide (unhide HST d 0 (by omega) (by omega) (by omega))
          have hnI2 : ¬ (d : Int) < 0 := by omega
          clear hd HST hnI
          go_wp2
          go_roundw
          case rel => exact ⟨0, k + 1, D.set (up + k) d, rfl, by go_num, by omega, by omega, HST2, unhide HSET d _ rfl, unhide HGS _⟩
          case measure => simp [intOf]; omega
end Go.Proofs.YthcihkgellginaaDoor

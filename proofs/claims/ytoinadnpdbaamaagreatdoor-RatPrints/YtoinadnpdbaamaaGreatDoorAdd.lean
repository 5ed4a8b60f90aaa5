/- (Big).Add: the sum. -/
import Derived.Test.YtoinadnpdbaamaaGreatDoorLen
import Derived.Deep.RegionWith
import Derived.Test.YtoinadnpdbaamaaGreatDoorPlain
import Derived.Lib.ItoaMem
namespace Go.Proofs.YtoinadnpdbaamaaGreatDoor
open Go.RowKit

theorem Tryz.size59 : (Tryz.prog.info? 59).map (·.size) = some 1 := by kernel_rfl

/-- What is read of a row in every later world. -/
def Cells (w : World) (a : Option Addr) (l : List Nat) : Prop :=
  ∀ W, Below w.heap.size w W → ∀ i (hi : i < l.length), ∃ b o, a = some ⟨b, o, none⟩ ∧ W.cell? ⟨b, o + i, none⟩ = some (.int .u64 (l[i] : Int))

theorem Row.cells {w : World} {a : Option Addr} {n cap : Nat} {l : List Nat} (h : Row w (.slice a n cap) l) : n = l.length ∧ n ≤ cap ∧ cap ≤ 9223372036854775807 ∧ Cells w a l := by
  obtain ⟨a', cap', e, hc, hm, hr⟩ := h
  simp only [Value.slice.injEq] at e
  obtain ⟨rfl, rfl, rfl⟩ := e
  refine ⟨rfl, hc, hm, fun W hW i hi => ?_⟩
  obtain ⟨b, o, rfl, hlt, hcell⟩ := hr (fun e => by rw [e] at hi; simp at hi)
  exact ⟨b, o, rfl, (hW.cell (p := ⟨b, o + i, none⟩) hlt).trans (hcell i hi)⟩

/-- The source of a copy. -/
theorem Cells.src {w W : World} {a : Option Addr} {l : List Nat} (h : Cells w a l) (hW : Below w.heap.size w W) (h0 : 0 < l.length) :
    ∃ ad, a = some ad ∧ ∀ j v, (u64s l)[j]? = some v → W.cell? (ad.add j) = some v := by
  obtain ⟨b, o, rfl, _⟩ := h W hW 0 h0
  refine ⟨⟨b, o, none⟩, rfl, fun j v hj => ?_⟩
  have hjl : j < l.length := by
    have := (List.getElem?_eq_some_iff.1 hj).1
    rwa [u64s_length] at this
  rw [u64s_get l j hjl, Option.some.injEq] at hj
  obtain ⟨b', o', e, hc⟩ := h W hW j hjl
  simp only [Option.some.injEq, Addr.mk.injEq] at e
  obtain ⟨rfl, rfl, _⟩ := e
  rw [Lib.add_plain, hc, hj]

theorem splice_sum (l : List Nat) (n : Nat) (h : n = l.length) : splice (u64s (List.replicate (n + 1) 0)) 0 (u64s l) = u64s (l ++ [0]) := by
  subst h
  unfold splice u64s
  simp

theorem u64s_one (l : List Nat) : ∀ v ∈ u64s l, v.oneCell' = true := by
  intro v hv
  simp only [u64s, List.mem_map] at hv
  obtain ⟨x, _, rfl⟩ := hv
  rfl

/-- Three boxes, kept. -/
structure Boxes3 (w w4 : World) (a b c : Value) : Prop where
  c1 : w4.cell? ⟨w.heap.size, 0, none⟩ = some a
  c2 : w4.cell? ⟨w.heap.size + 1, 0, none⟩ = some b
  c3 : w4.cell? ⟨w.heap.size + 1 + 1, 0, none⟩ = some c
  f3 : w4.frozen? ⟨w.heap.size + 1 + 1, 0, none⟩ = false
  below : Below w.heap.size w w4
  size : w.heap.size + 3 ≤ w4.heap.size

theorem boxes3 {w w4 : World} {a b c : Value} (hb : Below (w.heap.size + 3) (((w.alloc (.cells #[a] 72)).alloc (.cells #[b] 72)).alloc (.cells #[c] 72)) w4) : Boxes3 w w4 a b c := by
  refine ⟨?_, ?_, ?_, ?_, ?_, ?_⟩
  · rw [hb.cell (p := ⟨w.heap.size, 0, none⟩) (show w.heap.size < w.heap.size + 3 by omega)]; simp [go_sem]
  · rw [hb.cell (p := ⟨w.heap.size + 1, 0, none⟩) (show w.heap.size + 1 < w.heap.size + 3 by omega)]; simp [go_sem]
  · rw [hb.cell (p := ⟨w.heap.size + 1 + 1, 0, none⟩) (show w.heap.size + 1 + 1 < w.heap.size + 3 by omega)]; simp [go_sem]
  · rw [hb.frozen (p := ⟨w.heap.size + 1 + 1, 0, none⟩) (show w.heap.size + 1 + 1 < w.heap.size + 3 by omega)]; simp [go_sem]
  · exact ((((Below.refl _ _).alloc (Nat.le_refl _) _).alloc (by simp) _).alloc (by simp; omega) _).trans (hb.mono (by omega))
  · have := hb.size; simp at this; omega

theorem Boxes3.on {w w4 w5 : World} {a b c : Value} (h : Boxes3 w w4 a b c) (hb : Below (w.heap.size + 3) w4 w5) : Boxes3 w w5 a b c :=
  ⟨(hb.cell (p := ⟨w.heap.size, 0, none⟩) (show w.heap.size < w.heap.size + 3 by omega)).trans h.c1, (hb.cell (p := ⟨w.heap.size + 1, 0, none⟩) (show w.heap.size + 1 < w.heap.size + 3 by omega)).trans h.c2,
    (hb.cell (p := ⟨w.heap.size + 1 + 1, 0, none⟩) (show w.heap.size + 1 + 1 < w.heap.size + 3 by omega)).trans h.c3, (hb.frozen (p := ⟨w.heap.size + 1 + 1, 0, none⟩) (show w.heap.size + 1 + 1 < w.heap.size + 3 by omega)).trans h.f3,
    h.below.trans (hb.mono (by omega)), by have := hb.size; have := h.size; omega⟩

set_option maxRecDepth 100000 in
set_option maxHeartbeats 1000000 in
theorem add_core (X : Array Value) (ap aq : Option Addr) (np nq cp cq : Nat) (lp lq : List Nat) (w : World) (hX : (X = #[.agg #[.slice ap np cp], .agg #[.slice aq nq cq]] ∧ ¬ np < nq) ∨ (X = #[.agg #[.slice aq nq cq], .agg #[.slice ap np cp]] ∧ nq < np)) (hp1 : np ≤ 2000000) (hq1 : nq ≤ np)
    (HP : Hid (np = lp.length ∧ Cub.limbs 1000000000 lp ∧ Cells w ap lp)) (HQ : Hid (nq = lq.length ∧ Cub.limbs 1000000000 lq ∧ Cells w aq lq)) :
    Calls Tryz.prog 140 X w fun e w' => ∃ v, e = .returned v ∧ IsBig w' v (Cub.lval 1000000000 lp + Cub.lval 1000000000 lq) ∧ Below w.heap.size w w' := by
  obtain ⟨i0, hi, hz0, hz1, hz2⟩ := info_parts Tryz.info59
  rcases hX with ⟨rfl, hlt⟩ | ⟨rfl, hlt⟩
  all_goals
    go_enter Tryz.func140, Tryz.ntmps140
    go_wp2_with (first
      | (at_make; go_must (refine wpList_make_full _ rfl _ _ 70 rfl (w.heap.size + 3) 59 i0 (.int .u64 0) 1 Tryz.underlying70 hi hz0 hz1 .i64 .i64 _ _ (np + 1) rfl rfl (by omega) (by omega) (by rw [hz2]; omega) (by unfold maxLen; omega) (by simp) ?_; intro w4 hown4 hgrow4; rw [u64s_made] at hown4; have hO4 : Own w4 (w.heap.size + 1 + 1 + 1) (List.replicate (np + 1) 0) := (by have := Own.of_row hown4; simpa using this); have hB4 := boxes3 ((Below.refl (w.heap.size + 3) _).grown hgrow4 (by simp) (fun k hk => by cases hk)); have bp4 := hB4.c1; have HO4 := hide hO4; have HB4 := hide hB4; clear hown4 hgrow4 hO4 hB4))
      | (refine wpList_copy_splice rfl _ _ 70 70 rfl 59 Tryz.underlying70 Tryz.size59 _ _ _ _ _ _ rfl rfl (w.heap.size + 1 + 1 + 1) 0 (u64s (List.replicate (np + 1) 0)) 59 (unhide HO4) (u64s lp) (by rw [u64s_length, ← (unhide HP).1]; exact (Nat.min_eq_left (Nat.le_succ np)).symm) (fun h0 => ⟨by simp, (unhide HP).2.2.src (unhide HB4).below (by rw [u64s_length] at h0; exact h0)⟩) (by rw [u64s_length, u64s_length, List.length_replicate, ← (unhide HP).1]; omega) (u64s_one lp) (w.heap.size + 3) w4 (Below.refl _ _) (Nat.le_refl _) ?_; intro w5 hO5 hb5; rw [splice_sum lp np (unhide HP).1] at hO5; have HB5 := hide ((unhide HB4).on hb5); have bp5 := (unhide HB5).c1; have bq5 := (unhide HB5).c2; clear hb5 HO4 HB4 bp4))
    have HO5 := hO5
    clear hO5
    go_loopw [6, 7] (fun c i wr => ∃ (k j : Nat) (S : List Nat), c = .int .u64 (k : Int) ∧ i = .int .i64 (j : Int) ∧ k ≤ 1 ∧ j ≤ np + 1 ∧ Hid (Cub.AddInv lp lq S k j) ∧ Hid (Own wr (w.heap.size + 1 + 1 + 1) S) ∧ Hid (Boxes3 w wr (.slice ap np cp) (.slice aq nq cq) (.slice none 0 0))) (fun _ i _ => np + 1 - (intOf i).toNat)
    case atStart => exact ⟨0, 0, lp ++ [0], rfl, rfl, by omega, by omega, Cub.AddInv.start (unhide HP).2.1, HO5, HB5⟩
    case round =>
      obtain ⟨k, j, S, rfl, rfl, hk, hj, HI, HO, HB⟩ := hrel
      clear bp5 bq5 HO5 HB5
      have bq := (unhide HB).c2
      have hSl : S.length = np + 1 := by rw [(unhide HI).len, ← (unhide HP).1]
      by_cases hjq : j < nq
      · have hjS : j < S.length := by omega
        obtain ⟨x, hx⟩ : ∃ x, x = S[j] := ⟨_, rfl⟩
        have hxB : x < 1000000000 := by rw [hx]; exact (unhide HI).lim _ (List.getElem_mem hjS)
        have hcx : wr.cell? ⟨w.heap.size + 1 + 1 + 1, j, none⟩ = some (.int .u64 (x : Int)) := by rw [hx]; exact (unhide HO).cell j hjS
        have hfx := (unhide HO).frozen j
        have hjl : j < lq.length := by have := (unhide HQ).1; omega
        obtain ⟨y, hy⟩ : ∃ y, y = lq[j] := ⟨_, rfl⟩
        have hyB : y < 1000000000 := by rw [hy]; exact (unhide HQ).2.1 _ (List.getElem_mem hjl)
        obtain ⟨b, o, rfl, hcy⟩ := (unhide HQ).2.2 wr (unhide HB).below j hjl
        rw [← hy] at hcy
        have HI' : Hid (Cub.AddInv lp lq (S.set j ((k + x + y) % 1000000000)) ((k + x + y) / 1000000000) (j + 1)) := by
          have := (unhide HI).step hjS hyB (by rw [hy]; exact Cub.take_val lq j hjl)
          rw [← hx] at this; exact this
        have HO' : Hid (Own (wr.setCell ⟨w.heap.size + 1 + 1 + 1, j, none⟩ (.int .u64 (((k : Int) + (x : Int) + (y : Int)) % 1000000000))) (w.heap.size + 1 + 1 + 1) (S.set j ((k + x + y) % 1000000000))) := by
          have := (unhide HO).set j ((k + x + y) % 1000000000)
          rw [show (((k + x + y) % 1000000000 : Nat) : Int) = ((k : Int) + (x : Int) + (y : Int)) % 1000000000 by omega] at this
          exact this
        have HB' : Hid (Boxes3 w (wr.setCell ⟨w.heap.size + 1 + 1 + 1, j, none⟩ (.int .u64 (((k : Int) + (x : Int) + (y : Int)) % 1000000000))) (.slice ap np cp) (.slice (some ⟨b, o, none⟩) nq cq) (.slice none 0 0)) :=
          (unhide HB).on ((Below.refl (w.heap.size + 3) wr).setCell (p := ⟨w.heap.size + 1 + 1 + 1, j, none⟩) (show w.heap.size + 3 ≤ w.heap.size + 1 + 1 + 1 by omega) _)
        clear hx hy hSl HI
        go_wp2
        go_roundw
        case rel => exact ⟨(k + x + y) / 1000000000, j + 1, _, by go_num, by go_num, (unhide HI').carry, by omega, HI', HO', HB'⟩
        case measure => simp [intOf]; omega
      · by_cases hk0 : k = 0
        · subst hk0
          have hsum := (unhide HI).sum (by have := (unhide HQ).1; omega)
          obtain ⟨t1, t2, _⟩ := Cub.lval_trim 1000000000 _ S rfl
          have HF : Hid (Cub.lval 1000000000 (Cub.trimN S) = Cub.lval 1000000000 lp + Cub.lval 1000000000 lq ∧ Cub.normal 1000000000 (Cub.trimN S)) := ⟨t1.trans hsum, t2 (unhide HI).lim⟩
          have hsz := (unhide HB).size
          have br := (unhide HB).c3
          have fr := (unhide HB).f3
          clear hsum t1 t2
          go_wp2_with (go_at_call 128; refine (trim_any _ S _ ((unhide HO).row (np + 1) (np + 1) hSl.symm (Nat.le_refl _) (by unfold maxLen; omega))).mono ?_; rintro e w6 ⟨v', rfl, hrow6, hb6⟩; obtain ⟨a6, cap6, rfl, hcap6⟩ := hrow6.form; obtain ⟨hc6, hf6⟩ := box_later hb6 (g := w.heap.size + 1 + 1) (by omega) br fr)
          refine bodyPost_ret (v := .agg #[.slice a6 (Cub.trimN S).length cap6]) (by simp [results, Tryz.results140, go_sem, hc6]) rfl ⟨_, rfl, ?_, ?_⟩
          · exact ⟨_, _, rfl, hrow6.box _ hc6 (no_int _ _ _), (unhide HF).2, (unhide HF).1⟩
          · exact ((unhide HB).below.trans (hb6.mono (by omega))).setCell (p := ⟨w.heap.size + 1 + 1, 0, none⟩) (show w.heap.size ≤ w.heap.size + 1 + 1 by omega) _
        · have hjn : j ≠ np + 1 := fun e => hk0 ((unhide HI).last (unhide HP).2.1 (unhide HQ).2.1 (by have := (unhide HP).1; have := (unhide HQ).1; omega) (by have := (unhide HP).1; omega))
          have hjS : j < S.length := by omega
          obtain ⟨x, hx⟩ : ∃ x, x = S[j] := ⟨_, rfl⟩
          have hxB : x < 1000000000 := by rw [hx]; exact (unhide HI).lim _ (List.getElem_mem hjS)
          have hcx : wr.cell? ⟨w.heap.size + 1 + 1 + 1, j, none⟩ = some (.int .u64 (x : Int)) := by rw [hx]; exact (unhide HO).cell j hjS
          have hfx := (unhide HO).frozen j
          have HI' : Hid (Cub.AddInv lp lq (S.set j ((k + x) % 1000000000)) ((k + x) / 1000000000) (j + 1)) := by
            have := (unhide HI).step (c := 0) hjS (by decide) (by rw [Cub.take_val' lq j (by have := (unhide HQ).1; omega)]; simp)
            rw [← hx, Nat.add_zero] at this; exact this
          have HO' : Hid (Own (wr.setCell ⟨w.heap.size + 1 + 1 + 1, j, none⟩ (.int .u64 (((k : Int) + (x : Int)) % 1000000000))) (w.heap.size + 1 + 1 + 1) (S.set j ((k + x) % 1000000000))) := by
            have := (unhide HO).set j ((k + x) % 1000000000)
            rw [show (((k + x) % 1000000000 : Nat) : Int) = ((k : Int) + (x : Int)) % 1000000000 by omega] at this
            exact this
          have HB' : Hid (Boxes3 w (wr.setCell ⟨w.heap.size + 1 + 1 + 1, j, none⟩ (.int .u64 (((k : Int) + (x : Int)) % 1000000000))) (.slice ap np cp) (.slice aq nq cq) (.slice none 0 0)) :=
            (unhide HB).on ((Below.refl (w.heap.size + 3) wr).setCell (p := ⟨w.heap.size + 1 + 1 + 1, j, none⟩) (show w.heap.size + 3 ≤ w.heap.size + 1 + 1 + 1 by omega) _)
          clear hx hSl HI
          go_wp2
          go_roundw
          case rel => exact ⟨(k + x) / 1000000000, j + 1, _, by go_num, by go_num, (unhide HI').carry, by omega, HI', HO', HB'⟩
          case measure => simp [intOf]; omega

theorem add_any (x y : Value) (m n k : Nat) (w : World) (hx : IsBig w x m) (hy : IsBig w y n) (hk : k ≤ 1000000) (hm : m < 1000000000 ^ k) (hn : n < 1000000000 ^ k) :
    Calls Tryz.prog 140 #[x, y] w fun e w' => ∃ v, e = .returned v ∧ IsBig w' v (m + n) ∧ Below w.heap.size w w' := by
  obtain ⟨ax, lx, cx, rfl, hlx, hrx, hnx, rfl⟩ := hx.form
  obtain ⟨ay, ly, cy, rfl, hly, hry, hny, rfl⟩ := hy.form
  have h1 := Cub.len_le hnx hm
  have h2 := Cub.len_le hny hn
  by_cases hlt : lx.length < ly.length
  · have := add_core _ ay ax ly.length lx.length cy cx ly lx w (Or.inr ⟨rfl, hlt⟩) (by omega) (by omega) ⟨rfl, hny.1, hry.cells.2.2.2⟩ ⟨rfl, hnx.1, hrx.cells.2.2.2⟩
    rw [Nat.add_comm] at this
    exact this
  · exact add_core _ ax ay lx.length ly.length cx cy lx ly w (Or.inl ⟨rfl, hlt⟩) (by omega) (by omega) ⟨rfl, hnx.1, hrx.cells.2.2.2⟩ ⟨rfl, hny.1, hry.cells.2.2.2⟩
end Go.Proofs.YtoinadnpdbaamaaGreatDoor

/- Plain facts: the order of texts is that of their numbers; what parsing gives. -/
import Derived.Test.YtimihoonnglniaaGreatDoorLimb4
import Derived.Deep.RegionWith
import Derived.Test.YtimihoonnglniaaGreatDoorLimb5
import Derived.Lib.ItoaMem
import Derived.Lib.ParseIntB
import GoSem.Op.String
namespace Go.Proofs.YtimihoonnglniaaGreatDoor
open Go.RowKit

theorem Tryz.size64 : (Tryz.prog.info? 64).map (·.size) = some 1 := by kernel_rfl

/-- What is read of a row in every later world. -/
def Cells (w : World) (a : Option Addr) (l : List Nat) : Prop :=
  ∀ W, Below w.heap.size w W → ∀ i (hi : i < l.length), ∃ b o, a = some ⟨b, o, none⟩ ∧ W.cell? ⟨b, o + i, none⟩ = some (.int .u64 (l[i] : Int))

theorem Row.cells {w : World} {a : Option Addr} {n cap : Nat} {l : List Nat} (h : Row w (.slice a n cap) l) : n = l.length ∧ n ≤ cap ∧ cap ≤ 9223372036854775807 ∧ Cells w a l := by
  obtain ⟨a', cap', e, hc, hm, hr⟩ := h
  simp only [Value.slice.injEq] at e
  obtain ⟨rfl, rfl, rfl⟩ := e
  refine ⟨rfl, hc, hm, fun W hW i hi => ?_⟩
  obtain ⟨b, o, rfl, hlt, hcell⟩ := hr (fun e => by rw [e] at hi; simp at hi)
  exact ⟨b, o, rfl, (hW.cell (p := ⟨b, o + i, none⟩) hlt).trans (hcell i hi)⟩

/-- The source of a copy. -/
theorem Cells.src {w W : World} {a : Option Addr} {l : List Nat} (h : Cells w a l) (hW : Below w.heap.size w W) (h0 : 0 < l.length) :
    ∃ ad, a = some ad ∧ ∀ j v, (u64s l)[j]? = some v → W.cell? (ad.add j) = some v := by
  obtain ⟨b, o, rfl, _⟩ := h W hW 0 h0
  refine ⟨⟨b, o, none⟩, rfl, fun j v hj => ?_⟩
  have hjl : j < l.length := by
    have := (List.getElem?_eq_some_iff.1 hj).1
    rwa [u64s_length] at this
  rw [u64s_get l j hjl, Option.some.injEq] at hj
  obtain ⟨b', o', e, hc⟩ := h W hW j hjl
  simp only [Option.some.injEq, Addr.mk.injEq] at e
  obtain ⟨rfl, rfl, _⟩ := e
  rw [Lib.add_plain, hc, hj]

theorem splice_sum (l : List Nat) (n : Nat) (h : n = l.length) : splice (u64s (List.replicate (n + 1) 0)) 0 (u64s l) = u64s (l ++ [0]) := by
  subst h
  unfold splice u64s
  simp

theorem u64s_one (l : List Nat) : ∀ v ∈ u64s l, v.oneCell' = true := by
  intro v hv
  simp only [u64s, List.mem_map] at hv
  obtain ⟨x, _, rfl⟩ := hv
  rfl

/-- Three boxes, kept. -/
structure Boxes3 (w w4 : World) (a b c : Value) : Prop where
  c1 : w4.cell? ⟨w.heap.size, 0, none⟩ = some a
  c2 : w4.cell? ⟨w.heap.size + 1, 0, none⟩ = some b
  c3 : w4.cell? ⟨w.heap.size + 1 + 1, 0, none⟩ = some c
  f3 : w4.frozen? ⟨w.heap.size + 1 + 1, 0, none⟩ = false
  below : Below w.heap.size w w4
  size : w.heap.size + 3 ≤ w4.heap.size

theorem boxes3 {w w4 : World} {a b c : Value} (hb : Below (w.heap.size + 3) (((w.alloc (.cells #[a] 43)).alloc (.cells #[b] 43)).alloc (.cells #[c] 43)) w4) : Boxes3 w w4 a b c := by
  refine ⟨?_, ?_, ?_, ?_, ?_, ?_⟩
  · rw [hb.cell (p := ⟨w.heap.size, 0, none⟩) (show w.heap.size < w.heap.size + 3 by omega)]; simp [go_sem]
  · rw [hb.cell (p := ⟨w.heap.size + 1, 0, none⟩) (show w.heap.size + 1 < w.heap.size + 3 by omega)]; simp [go_sem]
  · rw [hb.cell (p := ⟨w.heap.size + 1 + 1, 0, none⟩) (show w.heap.size + 1 + 1 < w.heap.size + 3 by omega)]; simp [go_sem]
  · rw [hb.frozen (p := ⟨w.heap.size + 1 + 1, 0, none⟩) (show w.heap.size + 1 + 1 < w.heap.size + 3 by omega)]; simp [go_sem]
  · exact ((((Below.refl _ _).alloc (Nat.le_refl _) _).alloc (by simp) _).alloc (by simp; omega) _).trans (hb.mono (by omega))
  · have := hb.size; simp at this; omega

theorem Boxes3.on {w w4 w5 : World} {a b c : Value} (h : Boxes3 w w4 a b c) (hb : Below (w.heap.size + 3) w4 w5) : Boxes3 w w5 a b c :=
  ⟨(hb.cell (p := ⟨w.heap.size, 0, none⟩) (show w.heap.size < w.heap.size + 3 by omega)).trans h.c1, (hb.cell (p := ⟨w.heap.size + 1, 0, none⟩) (show w.heap.size + 1 < w.heap.size + 3 by omega)).trans h.c2,
    (hb.cell (p := ⟨w.heap.size + 1 + 1, 0, none⟩) (show w.heap.size + 1 + 1 < w.heap.size + 3 by omega)).trans h.c3, (hb.frozen (p := ⟨w.heap.size + 1 + 1, 0, none⟩) (show w.heap.size + 1 + 1 < w.heap.size + 3 by omega)).trans h.f3,
    h.below.trans (hb.mono (by omega)), by have := hb.size; have := h.size; omega⟩

set_option maxRecDepth 100000 in
set_option maxHeartbeats 1000000 in
theorem add_core (X : Array Value) (ap aq : Option Addr) (np nq cp cq : Nat) (lp lq : List Nat) (w : World) (hX : (X = #[.agg #[.slice ap np cp], .agg #[.slice aq nq cq]] ∧ ¬ np < nq) ∨ (X = #[.agg #[.slice aq nq cq], .agg #[.slice ap np cp]] ∧ nq < np)) (hp1 : np ≤ 2000000) (hq1 : nq ≤ np)
    (HP : Hid (np = lp.length ∧ Cub.limbs 1000000000 lp ∧ Cells w ap lp)) (HQ : Hid (nq = lq.length ∧ Cub.limbs 1000000000 lq ∧ Cells w aq lq)) :
    Calls Tryz.prog 95 X w fun e w' => ∃ v, e = .returned v ∧ IsBig w' v (Cub.lval 1000000000 lp + Cub.lval 1000000000 lq) ∧ Below w.heap.size w w' := by
  obtain ⟨i0, hi, hz0, hz1, hz2⟩ := info_parts Tryz.info64
  rcases hX with ⟨rfl, hlt⟩ | ⟨rfl, hlt⟩
  all_goals
    go_enter Tryz.func95, Tryz.ntmps95
    go_wp2_with (first
      | (at_make; go_must (refine wpList_make_full _ rfl _ _ 41 rfl (w.heap.size + 3) 64 i0 (.int .u64 0) 1 Tryz.underlying41 hi hz0 hz1 .i64 .i64 _ _ (np + 1) rfl rfl (by omega) (by omega) (by rw [hz2]; omega) (by unfold maxLen; omega) (by simp) ?_; intro w4 hown4 hgrow4; rw [u64s_made] at hown4; have hO4 : Own w4 (w.heap.size + 1 + 1 + 1) (List.replicate (np + 1) 0) := (by have := Own.of_row hown4; simpa using this); have hB4 := boxes3 ((Below.refl (w.heap.size + 3) _).grown hgrow4 (by simp) (fun k hk => by cases hk)); have bp4 := hB4.c1; have HO4 := hide hO4; have HB4 := hide hB4; clear hown4 hgrow4 hO4 hB4))
      | (refine wpList_copy_splice rfl _ _ 41 41 rfl 64 Tryz.underlying41 Tryz.size64 _ _ _ _ _ _ rfl rfl (w.heap.size + 1 + 1 + 1) 0 (u64s (List.replicate (np + 1) 0)) 64 (unhide HO4) (u64s lp) (by rw [u64s_length, ← (unhide HP).1]; exact (Nat.min_eq_left (Nat.le_succ np)).symm) (fun h0 => ⟨by simp, (unhide HP).2.2.src (unhide HB4).below (by rw [u64s_length] at h0; exact h0)⟩) (by rw [u64s_length, u64s_length, List.length_replicate, ← (unhide HP).1]; omega) (u64s_one lp) (w.heap.size + 3) w4 (Below.refl _ _) (Nat.le_refl _) ?_; intro w5 hO5 hb5; rw [splice_sum lp np (unhide HP).1] at hO5; have HB5 := hide ((unhide HB4).on hb5); have bp5 := (unhide HB5).c1; have bq5 := (unhide HB5).c2; clear hb5 HO4 HB4 bp4))
    have HO5 := hO5
    clear hO5
    go_loopw [6, 7] (fun c i wr => ∃ (k j : Nat) (S : List Nat), c = .int .u64 (k : Int) ∧ i = .int .i64 (j : Int) ∧ k ≤ 1 ∧ j ≤ np + 1 ∧ Hid (Cub.AddInv lp lq S k j) ∧ Hid (Own wr (w.heap.size + 1 + 1 + 1) S) ∧ Hid (Boxes3 w wr (.slice ap np cp) (.slice aq nq cq) (.slice none 0 0))) (fun _ i _ => np + 1 - (intOf i).toNat)
    case atStart => exact ⟨0, 0, lp ++ [0], rfl, rfl, by omega, by omega, Cub.AddInv.start (unhide HP).2.1, HO5, HB5⟩
    case round =>
      obtain ⟨k, j, S, rfl, rfl, hk, hj, HI, HO, HB⟩ := hrel
      clear bp5 bq5 HO5 HB5
      have bq := (unhide HB).c2
      have hSl : S.length = np + 1 := by rw [(unhide HI).len, ← (unhide HP).1]
      by_cases hjq : j < nq
      · have hjS : j < S.length := by omega
        obtain ⟨x, hx⟩ : ∃ x, x = S[j] := ⟨_, rfl⟩
        have hxB : x < 1000000000 := by rw [hx]; exact (unhide HI).lim _ (List.getElem_mem hjS)
        have hcx : wr.cell? ⟨w.heap.size + 1 + 1 + 1, j, none⟩ = some (.int .u64 (x : Int)) := by rw [hx]; exact (unhide HO).cell j hjS
        have hfx := (unhide HO).frozen j
        have hjl : j < lq.length := by have := (unhide HQ).1; omega
        obtain ⟨y, hy⟩ : ∃ y, y = lq[j] := ⟨_, rfl⟩
        have hyB : y < 1000000000 := by rw [hy]; exact (unhide HQ).2.1 _ (List.getElem_mem hjl)
        obtain ⟨b, o, rfl, hcy⟩ := (unhide HQ).2.2 wr (unhide HB).below j hjl
        rw [← hy] at hcy
        have HI' : Hid (Cub.AddInv lp lq (S.set j ((k + x + y) % 1000000000)) ((k + x + y) / 1000000000) (j + 1)) := by
          have := (unhide HI).step hjS hyB (by rw [hy]; exact Cub.take_val lq j hjl)
          rw [← hx] at this; exact this
        have HO' : Hid (Own (wr.setCell ⟨w.heap.size + 1 + 1 + 1, j, none⟩ (.int .u64 (((k : Int) + (x : Int) + (y : Int)) % 1000000000))) (w.heap.size + 1 + 1 + 1) (S.set j ((k + x + y) % 1000000000))) := by
          have := (unhide HO).set j ((k + x + y) % 1000000000)
          rw [show (((k + x + y) % 1000000000 : Nat) : Int) = ((k : Int) + (x : Int) + (y : Int)) % 1000000000 by omega] at this
          exact this
        have HB' : Hid (Boxes3 w (wr.setCell ⟨w.heap.size + 1 + 1 + 1, j, none⟩ (.int .u64 (((k : Int) + (x : Int) + (y : Int)) % 1000000000))) (.slice ap np cp) (.slice (some ⟨b, o, none⟩) nq cq) (.slice none 0 0)) :=
          (unhide HB).on ((Below.refl (w.heap.size + 3) wr).setCell (p := ⟨w.heap.size + 1 + 1 + 1, j, none⟩) (show w.heap.size + 3 ≤ w.heap.size + 1 + 1 + 1 by omega) _)
        clear hx hy hSl HI
        go_wp2
        go_roundw
        case rel => exact ⟨(k + x + y) / 1000000000, j + 1, _, by go_num, by go_num, (unhide HI').carry, by omega, HI', HO', HB'⟩
        case measure => simp [intOf]; omega
      · by_cases hk0 : k = 0
        · subst hk0
          have hsum := (unhide HI).sum (by have := (unhide HQ).1; omega)
          obtain ⟨t1, t2, _⟩ := Cub.lval_trim 1000000000 _ S rfl
          have HF : Hid (Cub.lval 1000000000 (Cub.trimN S) = Cub.lval 1000000000 lp + Cub.lval 1000000000 lq ∧ Cub.normal 1000000000 (Cub.trimN S)) := ⟨t1.trans hsum, t2 (unhide HI).lim⟩
          have hsz := (unhide HB).size
          have br := (unhide HB).c3
          have fr := (unhide HB).f3
          clear hsum t1 t2
          go_wp2_with (go_at_call 80; refine (trim_any _ S _ ((unhide HO).row (np + 1) (np + 1) hSl.symm (Nat.le_refl _) (by unfold maxLen; omega))).mono ?_; rintro e w6 ⟨v', rfl, hrow6, hb6⟩; obtain ⟨a6, cap6, rfl, hcap6⟩ := hrow6.form; obtain ⟨hc6, hf6⟩ := box_later hb6 (g := w.heap.size + 1 + 1) (by omega) br fr)
          refine bodyPost_ret (v := .agg #[.slice a6 (Cub.trimN S).length cap6]) (by simp [results, Tryz.results95, go_sem, hc6]) rfl ⟨_, rfl, ?_, ?_⟩
          · exact ⟨_, _, rfl, hrow6.box _ hc6 (no_int _ _ _), (unhide HF).2, (unhide HF).1⟩
          · exact ((unhide HB).below.trans (hb6.mono (by omega))).setCell (p := ⟨w.heap.size + 1 + 1, 0, none⟩) (show w.heap.size ≤ w.heap.size + 1 + 1 by omega) _
        · have hjn : j ≠ np + 1 := fun e => hk0 ((unhide HI).last (unhide HP).2.1 (unhide HQ).2.1 (by have := (unhide HP).1; have := (unhide HQ).1; omega) (by have := (unhide HP).1; omega))
          have hjS : j < S.length := by omega
          obtain ⟨x, hx⟩ : ∃ x, x = S[j] := ⟨_, rfl⟩
          have hxB : x < 1000000000 := by rw [hx]; exact (unhide HI).lim _ (List.getElem_mem hjS)
          have hcx : wr.cell? ⟨w.heap.size + 1 + 1 + 1, j, none⟩ = some (.int .u64 (x : Int)) := by rw [hx]; exact (unhide HO).cell j hjS
          have hfx := (unhide HO).frozen j
          have HI' : Hid (Cub.AddInv lp lq (S.set j ((k + x) % 1000000000)) ((k + x) / 1000000000) (j + 1)) := by
            have := (unhide HI).step (c := 0) hjS (by decide) (by rw [Cub.take_val' lq j (by have := (unhide HQ).1; omega)]; simp)
            rw [← hx, Nat.add_zero] at this; exact this
          have HO' : Hid (Own (wr.setCell ⟨w.heap.size + 1 + 1 + 1, j, none⟩ (.int .u64 (((k : Int) + (x : Int)) % 1000000000))) (w.heap.size + 1 + 1 + 1) (S.set j ((k + x) % 1000000000))) := by
            have := (unhide HO).set j ((k + x) % 1000000000)
            rw [show (((k + x) % 1000000000 : Nat) : Int) = ((k : Int) + (x : Int)) % 1000000000 by omega] at this
            exact this
          have HB' : Hid (Boxes3 w (wr.setCell ⟨w.heap.size + 1 + 1 + 1, j, none⟩ (.int .u64 (((k : Int) + (x : Int)) % 1000000000))) (.slice ap np cp) (.slice aq nq cq) (.slice none 0 0)) :=
            (unhide HB).on ((Below.refl (w.heap.size + 3) wr).setCell (p := ⟨w.heap.size + 1 + 1 + 1, j, none⟩) (show w.heap.size + 3 ≤ w.heap.size + 1 + 1 + 1 by omega) _)
          clear hx hSl HI
          go_wp2
          go_roundw
          case rel => exact ⟨(k + x) / 1000000000, j + 1, _, by go_num, by go_num, (unhide HI').carry, by omega, HI', HO', HB'⟩
          case measure => simp [intOf]; omega

theorem add_any (x y : Value) (m n k : Nat) (w : World) (hx : IsBig w x m) (hy : IsBig w y n) (hk : k ≤ 1000000) (hm : m < 1000000000 ^ k) (hn : n < 1000000000 ^ k) :
    Calls Tryz.prog 95 #[x, y] w fun e w' => ∃ v, e = .returned v ∧ IsBig w' v (m + n) ∧ Below w.heap.size w w' := by
  obtain ⟨ax, lx, cx, rfl, hlx, hrx, hnx, rfl⟩ := hx.form
  obtain ⟨ay, ly, cy, rfl, hly, hry, hny, rfl⟩ := hy.form
  have h1 := Cub.len_le hnx hm
  have h2 := Cub.len_le hny hn
  by_cases hlt : lx.length < ly.length
  · have := add_core _ ay ax ly.length lx.length cy cx ly lx w (Or.inr ⟨rfl, hlt⟩) (by omega) (by omega) ⟨rfl, hny.1, hry.cells.2.2.2⟩ ⟨rfl, hnx.1, hrx.cells.2.2.2⟩
    rw [Nat.add_comm] at this
    exact this
  · exact add_core _ ax ay lx.length ly.length cx cy lx ly w (Or.inl ⟨rfl, hlt⟩) (by omega) (by omega) ⟨rfl, hnx.1, hrx.cells.2.2.2⟩ ⟨rfl, hny.1, hry.cells.2.2.2⟩
end Go.Proofs.YtimihoonnglniaaGreatDoor

namespace Cub
/-- Taking away in the making: F is what is left so far, m what is missing at place i. -/
structure TakeInv (T : Nat) (F0 L F : List Nat) (m i : Nat) : Prop where
  len : F.length = F0.length
  lim : limbs 1000000000 F
  val : lval 1000000000 F + T * lval 1000000000 (L.take i) = lval 1000000000 F0 + 1000000000 ^ i * m
  miss : m ≤ T
theorem TakeInv.start {T : Nat} {F0 : List Nat} (L : List Nat) (h : limbs 1000000000 F0) : TakeInv T F0 L F0 0 0 := ⟨rfl, h, by simp [lval], Nat.zero_le _⟩
theorem take9 (l : List Nat) (i : Nat) : lval 1000000000 (l.take (i + 1)) = lval 1000000000 (l.take i) + 1000000000 ^ i * l.getD i 0 := by
  by_cases h : i < l.length
  · rw [List.take_succ_eq_append_getElem h, lval_snoc, List.length_take, Nat.min_eq_left (by omega)]
    simp [List.getD, h]
  · rw [List.take_of_length_le (by omega), List.take_of_length_le (by omega)]
    simp [List.getD, Nat.le_of_not_lt h]
/-- One place: q what is missing with the product there; its rest is taken off, with one more borrowed or not (b). -/
theorem TakeInv.step {T : Nat} {F0 L F : List Nat} {m i q d b : Nat} (h : TakeInv T F0 L F m i) (hi : i < F.length) (hq : q = m + T * L.getD i 0) (hd : d < 1000000000) (_hb : b ≤ 1)
    (he : d + q % 1000000000 = F[i] + 1000000000 * b) (hb0 : q % 1000000000 = 0 → b = 0) (hL : L.getD i 0 < 1000000000) : TakeInv T F0 L (F.set i d) (q / 1000000000 + b) (i + 1) := by
  refine ⟨by simp [h.len], limbs_set h.lim i _ hd, ?_, ?_⟩
  · have e1 := lval_set 1000000000 F i d hi
    have e2 := h.val
    rw [take9, Nat.mul_add, Nat.pow_succ]
    have e3 : q = 1000000000 * (q / 1000000000) + q % 1000000000 := (Nat.div_add_mod _ _).symm
    have e4 := congrArg (1000000000 ^ i * ·) he
    have e5 := congrArg (1000000000 ^ i * ·) e3
    have e6 := congrArg (1000000000 ^ i * ·) hq
    simp only [Nat.mul_add] at e4 e5 e6
    have m1 : T * (1000000000 ^ i * L.getD i 0) = 1000000000 ^ i * (T * L.getD i 0) := by rw [Nat.mul_left_comm]
    have m2 : 1000000000 ^ i * 1000000000 * (q / 1000000000 + b) = 1000000000 ^ i * (1000000000 * (q / 1000000000)) + 1000000000 ^ i * (1000000000 * b) := by
      rw [Nat.mul_assoc, ← Nat.mul_add, ← Nat.mul_add]
    omega
  · have h1 := h.miss
    have h2 : T * L.getD i 0 ≤ T * 999999999 := Nat.mul_le_mul_left _ (by omega)
    have h3 : q ≤ 1000000000 * T := by omega
    by_cases h0 : q % 1000000000 = 0
    · rw [hb0 h0]; omega
    · omega
end Cub
namespace Go.Proofs.YtimihoonnglniaaGreatDoor
open Go.RowKit

theorem Own.below {w w' : World} {g g' : Nat} {l : List Nat} (h : Own w g' l) (hb : Below g w w') (hg : g' < g) : Own w' g' l := (hb.block g' hg).trans h

set_option maxRecDepth 100000 in
set_option maxHeartbeats 1000000 in
theorem takeAway_any (g n cap : Nat) (F0 L : List Nat) (ab : Option Addr) (nb cb T : Nat) (w : World) (hF : Own w g F0) (hn : n = F0.length) (hn1 : n ≤ 10000000) (hlF : Cub.limbs 1000000000 F0)
    (hnb : nb = L.length) (hnbn : nb ≤ n) (hlL : Cub.limbs 1000000000 L) (hcap : n ≤ cap) (hT : T < 1000000000) (hc : ∀ W, Below g w W → ∀ i (hi : i < L.length), ∃ b o, ab = some ⟨b, o, none⟩ ∧ W.cell? ⟨b, o + i, none⟩ = some (.int .u64 (L[i] : Int))) :
    Calls Tryz.prog 109 #[.slice (some ⟨g, 0, none⟩) n cap, .slice ab nb cb, .int .u64 (T : Int)] w fun e w' => ∃ (m : Nat) (F : List Nat), e = .returned (.int .u64 (m : Int)) ∧ Own w' g F ∧ F.length = n ∧ Cub.limbs 1000000000 F ∧ Cub.lval 1000000000 F + T * Cub.lval 1000000000 L = Cub.lval 1000000000 F0 + 1000000000 ^ n * m ∧ m ≤ T ∧ Below g w w' := by
  have HN := hide (And.intro hn hnb)
  have HC := hide hc
  have HL := hide (And.intro hlF hlL)
  have HF := hide hF
  clear hn hnb hc hlF hlL hF
  go_enter Tryz.func109, Tryz.ntmps109
  go_wp2
  go_loopw [7, 12] (fun c t wr => ∃ (m i : Nat) (F : List Nat), c = .int .u64 (m : Int) ∧ t = .int .i64 (i : Int) ∧ i ≤ n ∧ m ≤ T ∧ Hid (Cub.TakeInv T F0 L F m i) ∧ Hid (Own wr g F) ∧ Hid (Below g w wr)) (fun _ t _ => n - (intOf t).toNat)
  case atStart => exact ⟨0, 0, F0, rfl, rfl, by omega, by omega, Cub.TakeInv.start L (unhide HL).1, HF, Below.refl _ _⟩
  case round =>
    obtain ⟨m, i, F, rfl, rfl, hi, hm, HI, HO, HB⟩ := hrel
    have hFl : Hid (F.length = n) := by rw [(unhide HI).len]; exact (unhide HN).1.symm
    by_cases hin : i < n
    · by_cases hbrk : nb ≤ i ∧ m = 0
      · obtain ⟨h1, rfl⟩ := hbrk
        have HV : Hid (Cub.lval 1000000000 F + T * Cub.lval 1000000000 L = Cub.lval 1000000000 F0 + 1000000000 ^ n * 0) := by
          have h := (unhide HI).val
          rw [List.take_of_length_le (by have := (unhide HN).2; omega)] at h
          rw [Nat.mul_zero] at h ⊢; exact h
        go_wp2
        go_ret
        exact ⟨0, F, rfl, unhide HO, unhide hFl, (unhide HI).lim, unhide HV, by omega, unhide HB⟩
      · have hiF : i < F.length := by rw [unhide hFl]; exact hin
        obtain ⟨f, hf⟩ : ∃ f, f = F[i] := ⟨_, rfl⟩
        have hfB : f < 1000000000 := by rw [hf]; exact (unhide HI).lim _ (List.getElem_mem hiF)
        have hcf := (unhide HO).cell i hiF
        rw [← hf] at hcf
        have hff := (unhide HO).frozen i
        have HFv := hide hf
        obtain ⟨lv, hlv⟩ : ∃ lv, lv = L.getD i 0 := ⟨_, rfl⟩
        have hlB : lv < 1000000000 := by
          rw [hlv]
          by_cases h : i < L.length
          · simp only [List.getD, List.getElem?_eq_getElem h, Option.getD_some]; exact (unhide HL).2 _ (List.getElem_mem h)
          · simp [List.getD, Nat.le_of_not_lt h]
        have HLB : Hid (L.getD i 0 < 1000000000) := by rw [← hlv]; exact hlB
        by_cases hib : i < nb
        · have hiL : i < L.length := by have := (unhide HN).2; omega
          obtain ⟨b, o, rfl, hcl⟩ := unhide HC wr (unhide HB) i hiL
          rw [show L[i] = lv by rw [hlv, List.getD_eq_getElem?_getD, List.getElem?_eq_getElem hiL]; rfl] at hcl
          obtain ⟨pr, hpr⟩ : ∃ pr, pr = T * lv := ⟨_, rfl⟩
          have hprB : pr ≤ 999999998000000001 := by rw [hpr]; exact Nat.mul_le_mul (show T ≤ 999999999 by omega) (show lv ≤ 999999999 by omega)
          have hmul : (T : Int) * (lv : Int) = (pr : Int) := by rw [hpr]; simp
          have HQ : Hid (m + pr = m + T * L.getD i 0) := by rw [hpr, ← hlv]; exact rfl
          clear hf hlv hpr hbrk
          by_cases hbor : f < (m + pr) % 1000000000
          · have HI' : Hid (Cub.TakeInv T F0 L (F.set i (f + 1000000000 - (m + pr) % 1000000000)) ((m + pr) / 1000000000 + 1) (i + 1)) :=
              (unhide HI).step hiF (unhide HQ) (by omega) (by omega) (by rw [← unhide HFv]; omega) (by omega) (unhide HLB)
            have HO' : Hid (Own ((wr.setCell ⟨g, i, none⟩ (.int .u64 ((f : Int) + 1000000000))).setCell ⟨g, i, none⟩ (.int .u64 ((f : Int) + 1000000000 - ((m : Int) + (pr : Int)) % 1000000000))) g (F.set i (f + 1000000000 - (m + pr) % 1000000000))) := by
              have h := ((unhide HO).set i (f + 1000000000)).set i (f + 1000000000 - (m + pr) % 1000000000)
              rw [List.set_set] at h
              rw [show ((f + 1000000000 : Nat) : Int) = (f : Int) + 1000000000 by omega, show ((f + 1000000000 - (m + pr) % 1000000000 : Nat) : Int) = (f : Int) + 1000000000 - ((m : Int) + (pr : Int)) % 1000000000 by omega] at h
              exact h
            have HB' : Hid (Below g w ((wr.setCell ⟨g, i, none⟩ (.int .u64 ((f : Int) + 1000000000))).setCell ⟨g, i, none⟩ (.int .u64 ((f : Int) + 1000000000 - ((m : Int) + (pr : Int)) % 1000000000)))) := ((unhide HB).setCell (Nat.le_refl _) _).setCell (Nat.le_refl _) _
            have hbi : (f : Int) < ((m : Int) + (pr : Int)) % 1000000000 := by omega
            clear HI HO HB
            go_wp2
            go_roundw
            case rel => exact ⟨(m + pr) / 1000000000 + 1, i + 1, _, by go_num, by go_num, by omega, (unhide HI').miss, HI', HO', HB'⟩
            case measure => simp [intOf]; omega
          · have HI' : Hid (Cub.TakeInv T F0 L (F.set i (f - (m + pr) % 1000000000)) ((m + pr) / 1000000000 + 0) (i + 1)) :=
              (unhide HI).step hiF (unhide HQ) (by omega) (by omega) (by rw [← unhide HFv]; omega) (fun _ => rfl) (unhide HLB)
            have HO' : Hid (Own (wr.setCell ⟨g, i, none⟩ (.int .u64 ((f : Int) - ((m : Int) + (pr : Int)) % 1000000000))) g (F.set i (f - (m + pr) % 1000000000))) := by
              have h := (unhide HO).set i (f - (m + pr) % 1000000000)
              rw [show ((f - (m + pr) % 1000000000 : Nat) : Int) = (f : Int) - ((m : Int) + (pr : Int)) % 1000000000 by omega] at h
              exact h
            have HB' : Hid (Below g w (wr.setCell ⟨g, i, none⟩ (.int .u64 ((f : Int) - ((m : Int) + (pr : Int)) % 1000000000)))) := (unhide HB).setCell (Nat.le_refl _) _
            have hbi : ¬ (f : Int) < ((m : Int) + (pr : Int)) % 1000000000 := by omega
            clear HI HO HB
            go_wp2
            go_roundw
            case rel => exact ⟨(m + pr) / 1000000000 + 0, i + 1, _, by go_num, by go_num, by omega, (unhide HI').miss, HI', HO', HB'⟩
            case measure => simp [intOf]; omega
        · have hm0 : 0 < m := by omega
          have hl0 : lv = 0 := by rw [hlv, List.getD_eq_getElem?_getD, List.getElem?_eq_none (by have := (unhide HN).2; omega)]; rfl
          have HQ : Hid (m = m + T * L.getD i 0) := by rw [← hlv, hl0]; exact rfl
          have hmz : ((m : Int) == 0) = false := by rw [beq_eq_false_iff_ne]; omega
          clear hf hlv hbrk hl0
          by_cases hbor : f < m % 1000000000
          · have HI' : Hid (Cub.TakeInv T F0 L (F.set i (f + 1000000000 - m % 1000000000)) (m / 1000000000 + 1) (i + 1)) :=
              (unhide HI).step hiF (unhide HQ) (by omega) (by omega) (by rw [← unhide HFv]; omega) (by omega) (unhide HLB)
            have HO' : Hid (Own ((wr.setCell ⟨g, i, none⟩ (.int .u64 ((f : Int) + 1000000000))).setCell ⟨g, i, none⟩ (.int .u64 ((f : Int) + 1000000000 - (m : Int) % 1000000000))) g (F.set i (f + 1000000000 - m % 1000000000))) := by
              have h := ((unhide HO).set i (f + 1000000000)).set i (f + 1000000000 - m % 1000000000)
              rw [List.set_set] at h
              rw [show ((f + 1000000000 : Nat) : Int) = (f : Int) + 1000000000 by omega, show ((f + 1000000000 - m % 1000000000 : Nat) : Int) = (f : Int) + 1000000000 - (m : Int) % 1000000000 by omega] at h
              exact h
            have HB' : Hid (Below g w ((wr.setCell ⟨g, i, none⟩ (.int .u64 ((f : Int) + 1000000000))).setCell ⟨g, i, none⟩ (.int .u64 ((f : Int) + 1000000000 - (m : Int) % 1000000000)))) := ((unhide HB).setCell (Nat.le_refl _) _).setCell (Nat.le_refl _) _
            have hbi : (f : Int) < (m : Int) % 1000000000 := by omega
            clear HI HO HB
            go_wp2
            go_roundw
            case rel => exact ⟨m / 1000000000 + 1, i + 1, _, by go_num, by go_num, by omega, (unhide HI').miss, HI', HO', HB'⟩
            case measure => simp [intOf]; omega
          · have HI' : Hid (Cub.TakeInv T F0 L (F.set i (f - m % 1000000000)) (m / 1000000000 + 0) (i + 1)) :=
              (unhide HI).step hiF (unhide HQ) (by omega) (by omega) (by rw [← unhide HFv]; omega) (fun _ => rfl) (unhide HLB)
            have HO' : Hid (Own (wr.setCell ⟨g, i, none⟩ (.int .u64 ((f : Int) - (m : Int) % 1000000000))) g (F.set i (f - m % 1000000000))) := by
              have h := (unhide HO).set i (f - m % 1000000000)
              rw [show ((f - m % 1000000000 : Nat) : Int) = (f : Int) - (m : Int) % 1000000000 by omega] at h
              exact h
            have HB' : Hid (Below g w (wr.setCell ⟨g, i, none⟩ (.int .u64 ((f : Int) - (m : Int) % 1000000000)))) := (unhide HB).setCell (Nat.le_refl _) _
            have hbi : ¬ (f : Int) < (m : Int) % 1000000000 := by omega
            clear HI HO HB
            go_wp2
            go_roundw
            case rel => exact ⟨m / 1000000000 + 0, i + 1, _, by go_num, by go_num, by omega, (unhide HI').miss, HI', HO', HB'⟩
            case measure => simp [intOf]; omega
    · have hie : i = n := by omega
      subst hie
      have HV : Hid (Cub.lval 1000000000 F + T * Cub.lval 1000000000 L = Cub.lval 1000000000 F0 + 1000000000 ^ i * m) := by
        have h := (unhide HI).val
        rw [List.take_of_length_le (by have := (unhide HN).2; omega)] at h
        exact h
      go_wp2
      go_ret
      exact ⟨m, F, rfl, unhide HO, unhide hFl, (unhide HI).lim, unhide HV, hm, unhide HB⟩
end Go.Proofs.YtimihoonnglniaaGreatDoor

namespace Go.Proofs.YtimihoonnglniaaGreatDoor
open Go.RowKit

theorem splice_all (l : List Nat) (n : Nat) (h : n = l.length) : splice (u64s (List.replicate n 0)) 0 (u64s l) = u64s l := by
  subst h
  unfold splice u64s
  simp

theorem sub_last {n : Nat} {F lx ly : List Nat} {m : Nat} (hlim : Cub.limbs 1000000000 F) (hl : F.length = n) (h : Cub.lval 1000000000 F + 1 * Cub.lval 1000000000 ly = Cub.lval 1000000000 lx + 1000000000 ^ n * m)
    (hle : Cub.lval 1000000000 ly ≤ Cub.lval 1000000000 lx) : Cub.lval 1000000000 F = Cub.lval 1000000000 lx - Cub.lval 1000000000 ly := by
  have h1 := Cub.lval_lt hlim
  rw [hl] at h1
  rcases Nat.eq_zero_or_pos m with h0 | h0
  · subst h0; omega
  · have : 1000000000 ^ n * 1 ≤ 1000000000 ^ n * m := Nat.mul_le_mul_left _ h0
    omega

theorem norm9_len_le {x y : List Nat} (hx : Cub.limbs 1000000000 x) (hy : Cub.normal 1000000000 y) (h : Cub.lval 1000000000 y ≤ Cub.lval 1000000000 x) : y.length ≤ x.length :=
  Cub.len_le hy (Nat.lt_of_le_of_lt h (Cub.lval_lt hx))

set_option maxRecDepth 100000 in
set_option maxHeartbeats 1000000 in
theorem sub_any (x y : Value) (m n k : Nat) (w : World) (hx : IsBig w x m) (hy : IsBig w y n) (hk : k ≤ 1000000) (hm : m < 1000000000 ^ k) (hle : n ≤ m) :
    Calls Tryz.prog 96 #[x, y] w fun e w' => ∃ v, e = .returned v ∧ IsBig w' v (m - n) ∧ Below w.heap.size w w' := by
  obtain ⟨ap, lp, cp, rfl, hlp, hrp, hnp, rfl⟩ := hx.form
  obtain ⟨aq, lq, cq, rfl, hlq, hrq, hnq, rfl⟩ := hy.form
  have h1 := Cub.len_le hnp hm
  have h2 := norm9_len_le hnp.1 hnq hle
  have HP : Hid (lp.length = lp.length ∧ Cub.limbs 1000000000 lp ∧ Cells w ap lp) := ⟨rfl, hnp.1, hrp.cells.2.2.2⟩
  have HQ : Hid (Cub.limbs 1000000000 lq ∧ Cells w aq lq) := ⟨hnq.1, hrq.cells.2.2.2⟩
  have HLE := hide hle
  obtain ⟨np, hnp'⟩ : ∃ np, np = lp.length := ⟨_, rfl⟩
  obtain ⟨nq, hnq'⟩ : ∃ nq, nq = lq.length := ⟨_, rfl⟩
  rw [← hnp'] at h1 h2 ⊢
  rw [← hnq'] at h2 ⊢
  have HNP := hide hnp'
  have HNQ := hide hnq'
  clear hx hy hm hle hlp hlq hrp hrq hnp hnq hnp' hnq'
  obtain ⟨i0, hi, hz0, hz1, hz2⟩ := info_parts Tryz.info64
  go_enter Tryz.func96, Tryz.ntmps96
  go_wp2_with (first
    | (at_make; go_must (refine wpList_make_full _ rfl _ _ 41 rfl (w.heap.size + 3) 64 i0 (.int .u64 0) 1 Tryz.underlying41 hi hz0 hz1 .i64 .i64 _ _ np rfl rfl (by omega) (by omega) (by rw [hz2]; omega) (by unfold maxLen; omega) (by simp) ?_; intro w4 hown4 hgrow4; rw [u64s_made] at hown4; have hO4 : Own w4 (w.heap.size + 1 + 1 + 1) (List.replicate np 0) := (by have := Own.of_row hown4; simpa using this); have hB4 := boxes3 ((Below.refl (w.heap.size + 3) _).grown hgrow4 (by simp) (fun k hk => by cases hk)); have bp4 := hB4.c1; have HO4 := hide hO4; have HB4 := hide hB4; clear hown4 hgrow4 hO4 hB4))
    | (go_at_call 109; go_must (refine (takeAway_any (w.heap.size + 1 + 1 + 1) np np lp lq aq nq cq 1 _ (unhide HO5) (unhide HNP) (by omega) (unhide HP).2.1 (unhide HNQ) h2 (unhide HQ).1 (Nat.le_refl _) (by decide) (fun W hW i hi => (unhide HQ).2 W ((unhide HB5).below.trans (hW.mono (by omega))) i hi)).mono ?_; rintro e w6 ⟨mi, F, rfl, hO6, hF6, hlF6, hv6, hmi6, hb6⟩; have HB6 := hide ((unhide HB5).on (hb6.mono (show w.heap.size + 3 ≤ w.heap.size + 1 + 1 + 1 by omega))); have HO6 := hide (And.intro hO6 (And.intro hF6 hlF6)); have HV6 := hide hv6; clear hO6 hF6 hlF6 hv6 hb6 bp5 bq5))
    | (go_at_call 80; go_must (refine (trim_any _ F _ ((unhide HO6).1.row np np (unhide HO6).2.1.symm (Nat.le_refl _) (by unfold maxLen; omega))).mono ?_; rintro e w7 ⟨v', rfl, hrow7, hb7⟩; obtain ⟨a7, cap7, rfl, hcap7⟩ := hrow7.form; obtain ⟨hc7, hf7⟩ := box_later hb7 (g := w.heap.size + 1 + 1) (by have := (unhide HB6).size; omega) (unhide HB6).c3 (unhide HB6).f3))
    | (refine wpList_copy_splice rfl _ _ 41 41 rfl 64 Tryz.underlying41 Tryz.size64 _ _ _ _ _ _ rfl rfl (w.heap.size + 1 + 1 + 1) 0 (u64s (List.replicate np 0)) 64 (unhide HO4) (u64s lp) (by rw [u64s_length, ← unhide HNP]; exact (Nat.min_self np).symm) (fun h0 => ⟨by simp, (unhide HP).2.2.src (unhide HB4).below (by rw [u64s_length] at h0; exact h0)⟩) (by rw [u64s_length, u64s_length, List.length_replicate, ← unhide HNP]; omega) (u64s_one lp) (w.heap.size + 3) w4 (Below.refl _ _) (Nat.le_refl _) ?_; intro w5 hO5 hb5; rw [splice_all lp np (unhide HNP)] at hO5; have HO5 := hO5; have HB5 := hide ((unhide HB4).on hb5); have bp5 := (unhide HB5).c1; have bq5 := (unhide HB5).c2; clear hb5 HO4 HB4 bp4 hO5))
  obtain ⟨t1, t2, _⟩ := Cub.lval_trim 1000000000 _ F rfl
  refine bodyPost_ret (v := .agg #[.slice a7 (Cub.trimN F).length cap7]) (by simp [results, Tryz.results96, go_sem, hc7]) rfl ⟨_, rfl, ?_, ?_⟩
  · refine ⟨_, _, rfl, hrow7.box _ hc7 (no_int _ _ _), t2 (unhide HO6).2.2, ?_⟩
    rw [t1]; exact sub_last (unhide HO6).2.2 (unhide HO6).2.1 (unhide HV6) (unhide HLE)
  · exact ((unhide HB6).below.trans (hb7.mono (by have := (unhide HB6).size; omega))).setCell (p := ⟨w.heap.size + 1 + 1, 0, none⟩) (show w.heap.size ≤ w.heap.size + 1 + 1 by omega) _
end Go.Proofs.YtimihoonnglniaaGreatDoor

namespace Cub

def cmpN (m n : Nat) : Int := if m < n then -1 else if n < m then 1 else 0

theorem toNat_lt_iff (a b : UInt8) : a < b ↔ a.toNat < b.toNat := UInt8.lt_iff_toNat_lt

theorem bytesLess_dval : ∀ (a b : List UInt8), digs a → digs b → a.length = b.length → Go.Op.bytesLess a b = decide (dval a < dval b) := by
  intro a
  induction a with
  | nil => intro b _ _ h; have : b = [] := List.length_eq_zero_iff.1 h.symm
           subst this; rfl
  | cons x a ih =>
    intro b ha hb hl
    cases b with
    | nil => simp at hl
    | cons y b =>
      have hx := ha x (by simp)
      have hy := hb y (by simp)
      have ha' : digs a := fun c hc => ha c (List.mem_cons_of_mem _ hc)
      have hb' : digs b := fun c hc => hb c (List.mem_cons_of_mem _ hc)
      have hl' : a.length = b.length := by simpa using hl
      have e := ih b ha' hb' hl'
      have l1 := dval_lt ha'
      have l2 := dval_lt hb'
      simp only [Go.Op.bytesLess]
      rw [e, dval_cons, dval_cons, ← hl']
      rw [← hl'] at l2
      rw [Bool.eq_iff_iff]
      simp only [Bool.or_eq_true, Bool.and_eq_true, decide_eq_true_eq, beq_iff_eq, toNat_lt_iff]
      constructor
      · rintro (h | ⟨h, h2⟩)
        · have : (x.toNat - 48 + 1) * 10 ^ a.length ≤ (y.toNat - 48) * 10 ^ a.length := Nat.mul_le_mul_right _ (by omega)
          rw [Nat.add_mul] at this; omega
        · subst h; omega
      · intro h
        by_cases hxy : x.toNat < y.toNat
        · exact Or.inl hxy
        · right
          by_cases he : x.toNat = y.toNat
          · refine ⟨?_, ?_⟩
            · rw [← ofNat_toNat x, ← ofNat_toNat y, he]
            · rw [he] at h; omega
          · exfalso
            have : (y.toNat - 48 + 1) * 10 ^ a.length ≤ (x.toNat - 48) * 10 ^ a.length := Nat.mul_le_mul_right _ (by omega)
            rw [Nat.add_mul] at this; omega

theorem dval_inj {a b : List UInt8} (ha : isNat a) (hb : isNat b) (h : dval a = dval b) : a = b := by
  rw [← dec_dval _ a rfl ha, ← dec_dval _ b rfl hb, h]

theorem len_lt_dval {a b : List UInt8} (ha : isNat a) (hb : isNat b) (h : a.length < b.length) : dval a < dval b := by
  have h1 := dval_lt ha.1
  have h2 : 0 < a.length := List.length_pos_iff.2 ha.2.1
  have h3 := isNat_pos hb (by omega)
  have h4 : 10 ^ a.length ≤ 10 ^ (b.length - 1) := Nat.pow_le_pow_right (by decide) (by omega)
  omega

end Cub

/- nat.manySteps: steps of Euclid's told by the first digits. -/
import Derived.Test.YtijifpbpjinmhaaGreatDoorGcdFirst
import Derived.Deep.RegionHeld3
import Derived.Test.YtijifpbpjinmhaaGreatDoorGcdSmall
import Derived.Test.YtijifpbpjinmhaaGreatDoorMulMath
import Derived.Test.YtijifpbpjinmhaaGreatDoorOne
set_option maxHeartbeats 2000000
set_option maxRecDepth 100000
namespace Go.Proofs.YtijifpbpjinmhaaGreatDoor
open Go.RowKit
theorem OutU.on {w wr W : World} {a b : Value} {N : Nat} {O : List Nat} (h : OutU w wr a b N O) (hb : Below wr.heap.size wr W) : OutU w W a b N O :=
  ⟨h.own.later hb h.own.lt, h.len, h.box.on (hb.mono h.box.size)⟩
theorem together_any (x y : Value) (b c N k : Nat) (t m : Int) (w : World) (hx : IsBig w x b) (hy : IsBig w y c) (hcb : c ≤ b) (hk : k ≤ 1000000) (hbk : b < 1000000000 ^ k)
    (ht : -1000000000 ≤ t ∧ t ≤ 1000000000) (hm : -1000000000 ≤ m ∧ m ≤ 1000000000) (hs : (0 ≤ t ∧ m ≤ 0) ∨ (t ≤ 0 ∧ 0 ≤ m)) (hN : (N : Int) = t * (b : Int) + m * (c : Int)) (hNb : N ≤ b) :
    Calls Tryz.prog 202 #[x, y, .int .i64 t, .int .i64 m] w fun e w' => ∃ a n c, e = .returned (.agg #[.slice a n c]) ∧ IsBig w' (.agg #[.slice a n c]) N ∧ Below w.heap.size w w' := by
  obtain ⟨ap, lp, cp, rfl, hlp, hrp, hnp, rfl⟩ := hx.form
  obtain ⟨aq, lq, cq, rfl, hlq, hrq, hnq, rfl⟩ := hy.form
  have h1 := Cub.len_le hnp hbk
  have hvp := Cub.lval_lt hnp.1
  have h2 : lq.length ≤ lp.length := Cub.len_le hnq (by omega)
  have HP : Hid (Cub.limbs 1000000000 lp ∧ Cells w ap lp) := ⟨hnp.1, hrp.cells.2.2.2⟩
  have HQ : Hid (Cub.limbs 1000000000 lq ∧ Row w (.slice aq lq.length cq) lq) := ⟨hnq.1, hrq⟩
  have HN : Hid (∀ S k', Cub.TG lp lq S t m k' lp.length → Cub.lval 1000000000 S = N) := fun S k' h => h.done rfl h2 N hN (by omega)
  have HS := hide hs
  obtain ⟨np, hnp'⟩ : ∃ np, np = lp.length := ⟨_, rfl⟩
  rw [← hnp'] at h1 ⊢
  have HNP := hide hnp'
  have HT0 : Hid (Cub.TG lp lq (List.replicate np 0) t m 0 0) := by rw [hnp']; exact Cub.TG.start lp lq t m
  generalize hnq' : lq.length = nq at *
  have HNQ := hide hnq'
  clear hx hy hbk hlp hlq hrp hrq hnp hnq hnp' hnq' hN hNb hvp hcb hs h2
  obtain ⟨i0, hi, hz0, hz1, hz2⟩ := info_parts Tryz.info41
  obtain ⟨t1, t2⟩ := ht
  obtain ⟨m1, m2⟩ := hm
  go_enter Tryz.func202, Tryz.ntmps202
  go_wp2_with (first
    | (at_make; go_must (refine wpList_make_full _ rfl _ _ 49 rfl (w.heap.size + 3) 41 i0 (.int .u64 0) 1 Tryz.underlying49 hi hz0 hz1 .i64 .i64 _ _ np rfl rfl (by omega) (by omega) (by rw [hz2]; omega) (by unfold maxLen; omega) (by simp) ?_; intro w4 hown4 hgrow4; rw [u64s_made] at hown4; have hO4 : Own w4 (w.heap.size + 1 + 1 + 1) (List.replicate np 0) := (by have := Own.of_row hown4; simpa using this); have hB4 := boxes3 ((Below.refl (w.heap.size + 3) _).grown hgrow4 (by simp) (fun k hk => by cases hk)); have HO4 : Hid (OutU w w4 (.slice ap np cp) (.slice aq nq cq) np (List.replicate np 0)) := ⟨hO4, List.length_replicate .., hB4⟩; clear hown4 hgrow4 hO4 hB4)))
  go_loopw [10, 18] (fun u v wr => ∃ (k : Int) (i : Nat) (O : List Nat), u = .int .i64 k ∧ v = .int .i64 (i : Int) ∧ i ≤ np ∧ -1000000000 ≤ k ∧ k ≤ 999999999 ∧ Hid (OutU w wr (.slice ap np cp) (.slice aq nq cq) np O) ∧ Hid (Cub.TG lp lq O t m k i)) (fun _ v _ => np - (intOf v).toNat)
  case atStart => exact ⟨0, 0, _, rfl, rfl, by omega, by omega, by omega, HO4, HT0⟩
  case round =>
    obtain ⟨k, i, O, rfl, rfl, hi', k1, k2, HO, HG⟩ := hrel
    clear HO4 HT0
    by_cases hin : i < np
    · have hil : i < lp.length := by have := unhide HNP; omega
      obtain ⟨xb, hxb⟩ : ∃ xb, xb = lp[i] := ⟨_, rfl⟩
      have hxB : xb < 1000000000 := by rw [hxb]; exact (unhide HP).1 _ (List.getElem_mem hil)
      have hxb' : lp.getD i 0 = xb := by rw [hxb, List.getD_eq_getElem?_getD, List.getElem?_eq_getElem hil]; exact rfl
      obtain ⟨xc, hxc⟩ : ∃ xc, lq.getD i 0 = xc := ⟨_, rfl⟩
      have hcB : xc < 1000000000 := by
        rw [← hxc]
        by_cases hq : i < lq.length
        · rw [List.getD_eq_getElem?_getD, List.getElem?_eq_getElem hq]; exact (unhide HQ).1 _ (List.getElem_mem hq)
        · rw [List.getD_eq_getElem?_getD, List.getElem?_eq_none (by omega)]; decide
      obtain ⟨o1, o2, ⟨o3, o4⟩, ⟨o5, o6⟩⟩ := Cub.opp_bound (t := t) (m := m) (x := (xb : Int)) (z := (xc : Int)) ⟨t1, t2⟩ ⟨m1, m2⟩ (unhide HS) (by omega) (by omega)
      obtain ⟨s, hs⟩ : ∃ s, s = k + 1000000000000000000 + t * (xb : Int) + m * (xc : Int) := ⟨_, rfl⟩
      have s0 : 0 ≤ s := by omega
      have s1 : s ≤ 1999999999999999999 := by omega
      have HG' : Hid (Cub.TG lp lq (O.set i (s % 1000000000).toNat) t m (s / 1000000000 - 1000000000) (i + 1)) := (unhide HG).step hil (by rw [hxb', hxc]; exact hs) s0 s1
      have HSV : Hid (k + (1000000000000000000 + t * (xb : Int) + m * (xc : Int)) = s) := by show _ = _; omega
      obtain ⟨b1, p1, rfl, hcx⟩ := (unhide HP).2 wr (unhide HO).box.below i hil
      have hcx' : ∀ z : Later wr, z.world.cell? ⟨b1, p1 + i, none⟩ = some (.int .u64 (xb : Int)) := fun z => by
        obtain ⟨b2, p2, e2, hc2⟩ := (unhide HP).2 z.world ((unhide HO).box.below.trans (z.below.mono (unhide HO).box.below.size)) i hil
        simp only [Option.some.injEq, Addr.mk.injEq] at e2
        obtain ⟨rfl, rfl, _⟩ := e2
        rw [hc2, ← hxb]
      have HL : Hid (∀ z : Later wr, Calls Tryz.prog 224 #[.agg #[.slice aq nq cq], .int .i64 (i : Int)] z.world fun e w' => e = .returned (.int .u64 (xc : Int)) ∧ Below z.world.heap.size z.world w') := fun z => by
        have hnq := unhide HNQ
        have hr := (unhide HQ).2.later ((unhide HO).box.below.trans (z.below.mono (unhide HO).box.below.size))
        have := limb_any aq lq cq i z.world (by rw [hnq]; exact hr)
        rw [hxc, hnq] at this; exact this
      have c1 : ∀ z : Later wr, z.world.cell? ⟨w.heap.size, 0, none⟩ = some (.slice (some ⟨b1, p1, none⟩) np cp) := fun z => ((unhide HO).on z.below).box.c1
      have c2 : ∀ z : Later wr, z.world.cell? ⟨w.heap.size + 1, 0, none⟩ = some (.slice aq nq cq) := fun z => ((unhide HO).on z.below).box.c2
      have hin' : (i : Int) < (np : Int) := by omega
      clear hs hxb hxb' hxc hcx HG
      go_upto_region 6 with fail
      refine quiet_later (by kernel_rfl) (by kernel_rfl) ?_
      repeat (go_big_quiet_step ((rename_i xx; refine (unhide HL xx).mono ?_; rintro e w9 ⟨rfl, hb9⟩; have hz := xx.below.trans (hb9.mono xx.below.size); first | exact ⟨rfl, ⟨w9, hz⟩, rfl⟩ | exact ⟨rfl, hz⟩ | exact ⟨rfl, w9, hz, rfl⟩)))
      refine wpQuiet_nil ?_
      intro _ hw'
      obtain ⟨xz, hw''⟩ := hw'
      subst hw''
      rw [unhide HSV]
      obtain ⟨W, hW⟩ : ∃ W, W = xz.world := ⟨_, rfl⟩
      have HO2 : Hid (OutU w W (.slice (some ⟨b1, p1, none⟩) np cp) (.slice aq nq cq) np O) := by rw [hW]; exact (unhide HO).on xz.below
      rw [← hW]
      clear hW c1 c2 hcx' HL HSV HO o1 o2 o3 o4 o5 o6
      have hiO : i < O.length := by rw [(unhide HO2).len]; exact hin
      have hcO : W.cell? ⟨w.heap.size + 1 + 1 + 1, i, none⟩ = some (.int .u64 (O[i] : Int)) := (unhide HO2).own.cell i hiO
      have hfO := (unhide HO2).own.frozen i
      have hm0 : 0 ≤ s % 1000000000 := Int.emod_nonneg _ (by decide)
      have HO3 : Hid (OutU w (W.setCell ⟨w.heap.size + 1 + 1 + 1, i, none⟩ (.int .u64 (s % 1000000000))) (.slice (some ⟨b1, p1, none⟩) np cp) (.slice aq nq cq) np (O.set i (s % 1000000000).toNat)) := (unhide HO2).set i (s % 1000000000).toNat (s % 1000000000) (by omega)
      generalize O[i] = oi at *
      go_wp2_with fail
      go_roundw
      case rel => exact ⟨s / 1000000000 - 1000000000, i + 1, _, rfl, by go_num, by omega, (unhide HG').k1, (unhide HG').k2, HO3, HG'⟩
      case measure => simp [intOf]; omega
    · have hie : i = np := by omega
      subst hie
      obtain ⟨q1, q2, _⟩ := Cub.lval_trim 1000000000 _ O rfl
      have HF : Hid (Cub.normal 1000000000 (Cub.trimN O) ∧ Cub.lval 1000000000 (Cub.trimN O) = N) := by
        refine ⟨q2 (unhide HG).limbs, ?_⟩
        rw [q1]
        exact unhide HN O k (by rw [← unhide HNP]; exact unhide HG)
      have hsz := (unhide HO).box.size
      have br := (unhide HO).box.c3
      have fr := (unhide HO).box.f3
      clear q1 q2
      go_wp2_with (go_at_call 78; refine (trim_any _ O _ ((unhide HO).own.row i i (unhide HO).len.symm (Nat.le_refl _) (by unfold maxLen; omega))).mono ?_; rintro e w6 ⟨v', rfl, hrow6, hb6⟩; obtain ⟨a6, cap6, rfl, hcap6⟩ := hrow6.form; obtain ⟨hc6, hf6⟩ := box_later hb6 (g := w.heap.size + 1 + 1) (by omega) br fr)
      refine bodyPost_ret (v := .agg #[.slice a6 (Cub.trimN O).length cap6]) (by simp [results, Tryz.results202, go_sem, hc6]) rfl ⟨_, _, _, rfl, ?_, ?_⟩
      · exact ⟨_, _, rfl, hrow6.box _ hc6 (no_int _ _ _), (unhide HF).1, (unhide HF).2⟩
      · exact ((unhide HO).box.below.trans (hb6.mono (by omega))).setCell (p := ⟨w.heap.size + 1 + 1, 0, none⟩) (show w.heap.size ≤ w.heap.size + 1 + 1 by omega) _
/-- The steps, two numbers and two results in their boxes. -/
structure Use5 (w W : World) (A B C D : Int) (a b : Value) : Prop where
  s0 : W.cell? ⟨w.heap.size, 0, none⟩ = some (.int .i64 A)
  s1 : W.cell? ⟨w.heap.size, 1, none⟩ = some (.int .i64 B)
  s2 : W.cell? ⟨w.heap.size, 2, none⟩ = some (.int .i64 C)
  s3 : W.cell? ⟨w.heap.size, 3, none⟩ = some (.int .i64 D)
  c1 : W.cell? ⟨w.heap.size + 1, 0, none⟩ = some (a)
  c2 : W.cell? ⟨w.heap.size + 1 + 1, 0, none⟩ = some (b)
  r3 : W.cell? ⟨w.heap.size + 1 + 1 + 1, 0, none⟩ = some (.slice none 0 0)
  r4 : W.cell? ⟨w.heap.size + 1 + 1 + 1 + 1, 0, none⟩ = some (.slice none 0 0)
  f3 : W.frozen? ⟨w.heap.size + 1 + 1 + 1, 0, none⟩ = false
  f4 : W.frozen? ⟨w.heap.size + 1 + 1 + 1 + 1, 0, none⟩ = false
  below : Below w.heap.size w W
  size : w.heap.size + 5 ≤ W.heap.size
theorem Use5.on {w W V : World} {A B C D : Int} {a b : Value} (h : Use5 w W A B C D a b) (hb : Below W.heap.size W V) : Use5 w V A B C D a b := by
  have hz := h.size
  refine ⟨(hb.cell (p := ⟨w.heap.size, 0, none⟩) (show w.heap.size < W.heap.size by omega)).trans h.s0,
    (hb.cell (p := ⟨w.heap.size, 1, none⟩) (show w.heap.size < W.heap.size by omega)).trans h.s1,
    (hb.cell (p := ⟨w.heap.size, 2, none⟩) (show w.heap.size < W.heap.size by omega)).trans h.s2,
    (hb.cell (p := ⟨w.heap.size, 3, none⟩) (show w.heap.size < W.heap.size by omega)).trans h.s3,
    (hb.cell (p := ⟨w.heap.size + 1, 0, none⟩) (show w.heap.size + 1 < W.heap.size by omega)).trans h.c1,
    (hb.cell (p := ⟨w.heap.size + 1 + 1, 0, none⟩) (show w.heap.size + 1 + 1 < W.heap.size by omega)).trans h.c2,
    (hb.cell (p := ⟨w.heap.size + 1 + 1 + 1, 0, none⟩) (show w.heap.size + 1 + 1 + 1 < W.heap.size by omega)).trans h.r3,
    (hb.cell (p := ⟨w.heap.size + 1 + 1 + 1 + 1, 0, none⟩) (show w.heap.size + 1 + 1 + 1 + 1 < W.heap.size by omega)).trans h.r4,
    (hb.frozen (p := ⟨w.heap.size + 1 + 1 + 1, 0, none⟩) (show w.heap.size + 1 + 1 + 1 < W.heap.size by omega)).trans h.f3,
    (hb.frozen (p := ⟨w.heap.size + 1 + 1 + 1 + 1, 0, none⟩) (show w.heap.size + 1 + 1 + 1 + 1 < W.heap.size by omega)).trans h.f4,
    h.below.trans (hb.mono (by omega)),
    by have := hb.size; omega⟩
theorem Use5.done {w W : World} {A B C D : Int} {a b u v : Value} (h : Use5 w W A B C D a b) (n m : Nat) (hn : IsBig W (.agg #[u]) n) (hm : IsBig W (.agg #[v]) m) :
    IsBig ((W.setCell ⟨w.heap.size + 1 + 1 + 1, 0, none⟩ u).setCell ⟨w.heap.size + 1 + 1 + 1 + 1, 0, none⟩ v) (.agg #[u]) n ∧ IsBig ((W.setCell ⟨w.heap.size + 1 + 1 + 1, 0, none⟩ u).setCell ⟨w.heap.size + 1 + 1 + 1 + 1, 0, none⟩ v) (.agg #[v]) m ∧ Below w.heap.size w ((W.setCell ⟨w.heap.size + 1 + 1 + 1, 0, none⟩ u).setCell ⟨w.heap.size + 1 + 1 + 1 + 1, 0, none⟩ v) := by
  have hc : (W.setCell ⟨w.heap.size + 1 + 1 + 1, 0, none⟩ u).cell? ⟨w.heap.size + 1 + 1 + 1 + 1, 0, none⟩ = some (.slice none 0 0) := by
    rw [World.cell?_setCell_other _ _ _ _ (by simp)]; exact h.r4
  exact ⟨(hn.box _ h.r3 (no_int _ _ _)).box _ hc (no_int _ _ _), (hm.box _ h.r3 (no_int _ _ _)).box _ hc (no_int _ _ _), (h.below.setCell (by simp; omega) _).setCell (by simp; omega) _⟩
theorem use_any (x y : Value) (b c N M k : Nat) (A B C D : Int) (w : World) (hx : IsBig w x b) (hy : IsBig w y c) (hcb : c ≤ b) (hk : k ≤ 1000000) (hbk : b < 1000000000 ^ k)
    (hA : -1000000000 ≤ A ∧ A ≤ 1000000000) (hB : -1000000000 ≤ B ∧ B ≤ 1000000000) (hC : -1000000000 ≤ C ∧ C ≤ 1000000000) (hD : -1000000000 ≤ D ∧ D ≤ 1000000000) (hs : (0 ≤ A ∧ B ≤ 0) ∨ (A ≤ 0 ∧ 0 ≤ B)) (hs' : (0 ≤ C ∧ D ≤ 0) ∨ (C ≤ 0 ∧ 0 ≤ D))
    (hN : (N : Int) = A * (b : Int) + B * (c : Int)) (hNb : N ≤ b) (hM : (M : Int) = C * (b : Int) + D * (c : Int)) (hMb : M ≤ b) :
    Calls Tryz.prog 168 #[.agg #[.int .i64 A, .int .i64 B, .int .i64 C, .int .i64 D], x, y] w fun e w' => ∃ a1 n1 c1 a2 n2 c2, e = .returned (.tuple #[.agg #[.slice a1 n1 c1], .agg #[.slice a2 n2 c2]]) ∧ IsBig w' (.agg #[.slice a1 n1 c1]) N ∧ IsBig w' (.agg #[.slice a2 n2 c2]) M ∧ Below w.heap.size w w' := by
  have H1 := hide (fun W hx hy => together_any x y b c N k A B W hx hy hcb hk hbk hA hB hs hN hNb)
  have H2 := hide (fun W hx hy => together_any x y b c M k C D W hx hy hcb hk hbk hC hD hs' hM hMb)
  have HX := hide hx
  have HY := hide hy
  obtain ⟨ap, np, cp, rfl⟩ := hx.shape
  obtain ⟨aq, nq, cq, rfl⟩ := hy.shape
  clear hx hy hcb hk hbk hA hB hC hD hs hs' hN hNb hM hMb
  go_enter Tryz.func168, Tryz.ntmps168
  go_upto_region 1 with fail
  obtain ⟨W, hW⟩ : ∃ W, W = (((((w.alloc (.cells #[.int .i64 A, .int .i64 B, .int .i64 C, .int .i64 D] 184)).alloc (.cells #[.slice ap np cp] 51)).alloc (.cells #[.slice aq nq cq] 51)).alloc (.cells #[.slice none 0 0] 51)).alloc (.cells #[.slice none 0 0] 51)) := ⟨_, rfl⟩
  have HU : Hid (Use5 w W A B C D (.slice ap np cp) (.slice aq nq cq)) := by
    rw [hW]
    exact ⟨by simp [go_sem], by simp [go_sem], by simp [go_sem], by simp [go_sem], by simp [go_sem], by simp [go_sem], by simp [go_sem], by simp [go_sem], by simp [go_sem], by simp [go_sem], ((((((Below.refl _ _).alloc (Nat.le_refl _) _).alloc (by simp) _).alloc (by simp; omega) _).alloc (by simp; omega) _).alloc (by simp; omega) _), by simp⟩
  rw [← hW]
  clear hW
  have s0 := (unhide HU).s0; have s1 := (unhide HU).s1; have s2 := (unhide HU).s2; have s3 := (unhide HU).s3; have c1 := (unhide HU).c1; have c2 := (unhide HU).c2
  go_region_held3 (fun w' => w'.cell? ⟨w.heap.size, 0, none⟩ = some (.int .i64 A) ∧ w'.cell? ⟨w.heap.size, 1, none⟩ = some (.int .i64 B) ∧ w'.cell? ⟨w.heap.size, 2, none⟩ = some (.int .i64 C) ∧ w'.cell? ⟨w.heap.size, 3, none⟩ = some (.int .i64 D) ∧ w'.cell? ⟨w.heap.size + 1, 0, none⟩ = some (.slice ap np cp) ∧ w'.cell? ⟨w.heap.size + 1 + 1, 0, none⟩ = some (.slice aq nq cq)) (first | assumption | (refine ⟨?_, ?_, ?_, ?_, ?_, ?_⟩ <;> first | assumption | (simp [go_sem, *]; done)) | (simp [go_sem, *]; done))
    (first
      | (go_at_call_of 202 (Value.int IntKind.i64 A); refine (unhide H1 _ ((unhide HX).later ((unhide HU).below.trans ((Below.refl _ _).drew))) ((unhide HY).later ((unhide HU).below.trans ((Below.refl _ _).drew)))).mono ?_; rintro e wB ⟨a1, n1, k1, rfl, hr1, hbB⟩; have hbB' : Below W.heap.size W wB := (Below.refl _ _).drew.trans hbB; have HUB := hide ((unhide HU).on hbB'); have HR1 := hide hr1; clear hbB hbB' hr1; have t0 := (unhide HUB).s0; have t1 := (unhide HUB).s1; have t2 := (unhide HUB).s2; have t3 := (unhide HUB).s3; have d1 := (unhide HUB).c1; have d2 := (unhide HUB).c2)
      | (go_at_call_of 202 (Value.int IntKind.i64 C); refine (unhide H2 wB ((unhide HX).later (unhide HUB).below) ((unhide HY).later (unhide HUB).below)).mono ?_; rintro e wC ⟨a2, n2, k2, rfl, hr2, hbC⟩; have HUC := hide ((unhide HUB).on hbC); have HR2 := hide (And.intro ((unhide HR1).later hbC) hr2); clear hbC hr2; have v0 := (unhide HUC).s0; have v1 := (unhide HUC).s1; have v2 := (unhide HUC).s2; have v3 := (unhide HUC).s3; have g1 := (unhide HUC).c1; have g2 := (unhide HUC).c2; have r3 := (unhide HUC).r3; have r4 := (unhide HUC).r4; have f3 := (unhide HUC).f3; have f4 := (unhide HUC).f4))
  all_goals (
    obtain ⟨q1, q2, q3⟩ := (unhide HUC).done N M (unhide HR2).1 (unhide HR2).2
    go_wp2
    exact bodyPost_ret (v := .tuple #[.agg #[.slice a1 n1 k1], .agg #[.slice a2 n2 k2]]) (by simp [results, Tryz.results168, go_sem, r3, r4]) rfl ⟨_, _, _, _, _, _, rfl, q1, q2, q3⟩)
end Go.Proofs.YtijifpbpjinmhaaGreatDoor
namespace Cub
open Go.Lib
theorem getD9_lt {l : List Nat} (h : limbs 1000000000 l) (i : Nat) : l.getD i 0 < 1000000000 := by
  by_cases hq : i < l.length
  · rw [List.getD_eq_getElem?_getD, List.getElem?_eq_getElem hq]; exact h _ (List.getElem_mem hq)
  · rw [List.getD_eq_getElem?_getD, List.getElem?_eq_none (by omega)]; decide
theorem split3 (L : List Nat) (t : Nat) (h : L.length = t + 3) : L = L.take t ++ [L.getD t 0, L.getD (t + 1) 0, L.getD (t + 2) 0] := by
  have e1 := List.take_append_drop t L
  have e2 : L.drop t = [L.getD t 0, L.getD (t + 1) 0, L.getD (t + 2) 0] := by
    rw [List.drop_eq_getElem_cons (by omega), List.drop_eq_getElem_cons (by omega), List.drop_eq_getElem_cons (by omega), List.drop_of_length_le (by omega)]
    simp [List.getD, show t < L.length by omega, show t + 1 < L.length by omega, show t + 2 < L.length by omega]
  rw [e2] at e1
  exact e1.symm
theorem first_of (l : List Nat) (t up e f : Nat) (hl : limbs 1000000000 l) (hlen : l.length ≤ t + 3) (hue : up * e = 1000000000) (hV : lval 1000000000 l * up < 1000000000 ^ (t + 3))
    (hf : f = (l.getD (t + 2) 0 * 1000000000 + l.getD (t + 1) 0) * up + l.getD t 0 / e) :
    (∃ u, lval 1000000000 l * up = f * 1000000000 ^ (t + 1) + u ∧ u < 1000000000 ^ (t + 1)) ∧ f < 1000000000000000000 := by
  obtain ⟨L, hL⟩ : ∃ L, L = l ++ List.replicate (t + 3 - l.length) 0 := ⟨_, rfl⟩
  have hLl : L.length = t + 3 := by rw [hL]; simp; omega
  have hLv : lval 1000000000 L = lval 1000000000 l := by rw [hL, lval_append, lval_zeros, Nat.mul_zero, Nat.add_zero]
  have hLb : limbs 1000000000 L := by rw [hL]; exact limbs_append.2 ⟨hl, limbs_zeros _ _ (by decide)⟩
  have hg : ∀ i, L.getD i 0 = l.getD i 0 := fun i => by
    rw [hL]
    by_cases hi : i < l.length
    · simp [List.getD, List.getElem?_append_left hi]
    · simp only [List.getD]
      rw [List.getElem?_append_right (by omega), List.getElem?_eq_none (l := l) (by omega), List.getElem?_replicate]
      split <;> rfl
  obtain ⟨u, hu1, hu2⟩ := first_digits (L.take t) (L.getD t 0) (L.getD (t + 1) 0) (L.getD (t + 2) 0) up e (fun x hx => hLb x (List.mem_of_mem_take hx)) hue
  rw [← split3 L t hLl, hLv, hg, hg, hg, ← hf, List.length_take, hLl, Nat.min_eq_left (by omega)] at hu1
  rw [List.length_take, hLl, Nat.min_eq_left (by omega)] at hu2
  refine ⟨⟨u, hu1, hu2⟩, ?_⟩
  have h1 : f * 1000000000 ^ (t + 1) < 1000000000000000000 * 1000000000 ^ (t + 1) := by
    have e3 : (1000000000 : Nat) ^ (t + 3) = 1000000000000000000 * 1000000000 ^ (t + 1) := by
      rw [show t + 3 = (t + 1) + 2 by omega, Nat.pow_add, Nat.mul_comm]
    rw [← e3]
    omega
  exact Nat.lt_of_mul_lt_mul_right h1
/-- How far a number is moved up so that its first limb has nine digits. -/
theorem up_of {l : List Nat} {t : Nat} (h : normal 1000000000 l) (hl : l.length = t + 3) : ∃ d, 9 * (t + 3) = nDigits (lval 1000000000 l) + d ∧ d ≤ 8 ∧ lval 1000000000 l * 10 ^ d < 1000000000 ^ (t + 3) := by
  obtain ⟨s, x, rfl⟩ := split_last (l := l) (by intro e; rw [e] at hl; simp at hl)
  obtain ⟨h1, h2, h3⟩ := normal_last h
  have e := nDigits_top s x h1 h2
  have h9 := nDigits_le9 x h3
  have h0 : 1 ≤ nDigits x := by
    have := decDigits_length x
    have h' : (decDigits x).length ≠ 0 := fun e => dec_ne_nil x (List.length_eq_zero_iff.1 e)
    omega
  have hsl : s.length = t + 2 := by simpa using hl
  refine ⟨9 - nDigits x, by rw [e, hsl]; omega, by omega, ?_⟩
  have hlt := lt_pow_nDigits (lval 1000000000 (s ++ [x]))
  have hp : 0 < 10 ^ (9 - nDigits x) := Nat.pow_pos (by decide)
  have h4 := Nat.mul_lt_mul_of_pos_right hlt hp
  rw [← Nat.pow_add, e, hsl] at h4
  rw [← pow9, show 9 * (t + 3) = 9 * (t + 2) + nDigits x + (9 - nDigits x) by omega]
  exact h4
/-- What the steps have made, where there are any. -/
def Good (b c : Nat) (A B C D : Int) : Prop :=
  (-1000000000 ≤ A ∧ A ≤ 1000000000) ∧ (-1000000000 ≤ B ∧ B ≤ 1000000000) ∧ (-1000000000 ≤ C ∧ C ≤ 1000000000) ∧ (-1000000000 ≤ D ∧ D ≤ 1000000000) ∧ ((0 ≤ A ∧ B ≤ 0) ∨ (A ≤ 0 ∧ 0 ≤ B)) ∧ ((0 ≤ C ∧ D ≤ 0) ∨ (C ≤ 0 ∧ 0 ≤ D)) ∧
  (¬ B = 0 → ∃ N M : Nat, (N : Int) = A * (b : Int) + B * (c : Int) ∧ (M : Int) = C * (b : Int) + D * (c : Int) ∧ N ≤ c ∧ M ≤ N ∧ M < c ∧ Nat.gcd N M = Nat.gcd b c)
theorem LS.good {b c : Nat} {x0 y0 x y A B C D : Int} (h : LS (b : Int) (c : Int) x0 y0 x y A B C D) : Good b c A B C D := by
  obtain ⟨-, -, -, -, k1, k2, k3, k4, -, -, s1, s2⟩ := h.bounds
  refine ⟨k1, k2, k3, k4, s1, s2, fun hB => ?_⟩
  rcases h.now with ⟨_, hB', _⟩ | ⟨n1, n2⟩
  · exact absurd hB' hB
  · have lo := h.lo; have le := h.le; have g := h.gcd
    obtain ⟨N, hN⟩ := Int.eq_ofNat_of_zero_le (Int.le_trans lo le)
    obtain ⟨M, hM⟩ := Int.eq_ofNat_of_zero_le lo
    rw [hN, hM] at g
    refine ⟨N, M, hN.symm, hM.symm, by omega, by omega, by omega, ?_⟩
    simpa using g
end Cub
namespace Go.Proofs.YtijifpbpjinmhaaGreatDoor
open Go.RowKit
/-- Two numbers and the place of the result in their boxes. -/
structure Many3 (w W : World) (a b : Value) : Prop where
  c1 : W.cell? ⟨w.heap.size, 0, none⟩ = some a
  c2 : W.cell? ⟨w.heap.size + 1, 0, none⟩ = some b
  r0 : W.cell? ⟨w.heap.size + 1 + 1, 0, none⟩ = some (.int .i64 0)
  r1 : W.cell? ⟨w.heap.size + 1 + 1, 1, none⟩ = some (.int .i64 0)
  r2 : W.cell? ⟨w.heap.size + 1 + 1, 2, none⟩ = some (.int .i64 0)
  r3 : W.cell? ⟨w.heap.size + 1 + 1, 3, none⟩ = some (.int .i64 0)
  fr : ∀ i, W.frozen? ⟨w.heap.size + 1 + 1, i, none⟩ = false
  size : w.heap.size + 3 ≤ W.heap.size
theorem Many3.on {w W V : World} {a b : Value} (h : Many3 w W a b) (hb : Below W.heap.size W V) : Many3 w V a b := by
  have hz := h.size
  exact ⟨(hb.cell (p := ⟨w.heap.size, 0, none⟩) (show w.heap.size < W.heap.size by omega)).trans h.c1, (hb.cell (p := ⟨w.heap.size + 1, 0, none⟩) (show w.heap.size + 1 < W.heap.size by omega)).trans h.c2,
    (hb.cell (p := ⟨w.heap.size + 1 + 1, 0, none⟩) (show w.heap.size + 1 + 1 < W.heap.size by omega)).trans h.r0, (hb.cell (p := ⟨w.heap.size + 1 + 1, 1, none⟩) (show w.heap.size + 1 + 1 < W.heap.size by omega)).trans h.r1,
    (hb.cell (p := ⟨w.heap.size + 1 + 1, 2, none⟩) (show w.heap.size + 1 + 1 < W.heap.size by omega)).trans h.r2, (hb.cell (p := ⟨w.heap.size + 1 + 1, 3, none⟩) (show w.heap.size + 1 + 1 < W.heap.size by omega)).trans h.r3,
    fun i => (hb.frozen (p := ⟨w.heap.size + 1 + 1, i, none⟩) (show w.heap.size + 1 + 1 < W.heap.size by omega)).trans (h.fr i), by have := hb.size; omega⟩
/-- The steps so far, in their box, which came behind U. -/
structure St4 (U W : World) (A B C D : Int) : Prop where
  q0 : W.cell? ⟨U.heap.size, 0, none⟩ = some (.int .i64 A)
  q1 : W.cell? ⟨U.heap.size, 1, none⟩ = some (.int .i64 B)
  q2 : W.cell? ⟨U.heap.size, 2, none⟩ = some (.int .i64 C)
  q3 : W.cell? ⟨U.heap.size, 3, none⟩ = some (.int .i64 D)
  fr : ∀ i, W.frozen? ⟨U.heap.size, i, none⟩ = false
  below : Below U.heap.size U W
theorem cell_other (W : World) {g i j : Nat} {u v : Value} (h : W.cell? ⟨g, j, none⟩ = some v) (hij : i ≠ j) : (W.setCell ⟨g, i, none⟩ u).cell? ⟨g, j, none⟩ = some v := by
  rw [World.cell?_setCell_other _ _ _ _ (by intro e; simp only [Addr.mk.injEq] at e; exact hij e.2.1)]; exact h
theorem cell_same (W : World) {g i : Nat} {u v : Value} (h : W.cell? ⟨g, i, none⟩ = some v) : (W.setCell ⟨g, i, none⟩ u).cell? ⟨g, i, none⟩ = some u :=
  World.cell?_setCell_same' _ _ _ (by rw [h]; rfl)
theorem St4.set {U W : World} {A B C D : Int} (h : St4 U W A B C D) (a b c d : Int) :
    St4 U ((((W.setCell ⟨U.heap.size, 0, none⟩ (.int .i64 a)).setCell ⟨U.heap.size, 1, none⟩ (.int .i64 b)).setCell ⟨U.heap.size, 2, none⟩ (.int .i64 c)).setCell ⟨U.heap.size, 3, none⟩ (.int .i64 d)) a b c d := by
  refine ⟨?_, ?_, ?_, ?_, ?_, ?_⟩
  · exact cell_other _ (cell_other _ (cell_other _ (cell_same _ h.q0) (by decide)) (by decide)) (by decide)
  · exact cell_other _ (cell_other _ (cell_same _ (cell_other _ h.q1 (by decide))) (by decide)) (by decide)
  · exact cell_other _ (cell_same _ (cell_other _ (cell_other _ h.q2 (by decide)) (by decide))) (by decide)
  · exact cell_same _ (cell_other _ (cell_other _ (cell_other _ h.q3 (by decide)) (by decide)) (by decide))
  · intro i; simp only [World.frozen?_setCell]; exact h.fr i
  · exact (((h.below.setCell (Nat.le_refl _) _).setCell (Nat.le_refl _) _).setCell (Nat.le_refl _) _).setCell (Nat.le_refl _) _
theorem St4.first (U : World) : St4 U (U.alloc (.cells #[.int .i64 1, .int .i64 0, .int .i64 0, .int .i64 1] 184)) 1 0 0 1 :=
  ⟨by simp [go_sem], by simp [go_sem], by simp [go_sem], by simp [go_sem], fun i => by simp [go_sem], (Below.refl _ _).alloc (Nat.le_refl _) _⟩
theorem many_any (x y : Value) (b c k : Nat) (w : World) (hx : IsBig w x b) (hy : IsBig w y c) (hcb : c ≤ b) (hc : 1000000000000000000 ≤ c) (hk : k ≤ 100000) (hbk : b < 1000000000 ^ k) :
    Calls Tryz.prog 167 #[x, y] w fun e w' => ∃ A B C D : Int, e = .returned (.agg #[.int .i64 A, .int .i64 B, .int .i64 C, .int .i64 D]) ∧ Hid (Cub.Good b c A B C D) ∧ Below w.heap.size w w' := by
  have HX := hide hx
  have HY := hide hy
  obtain ⟨ap, lp, cp, rfl, hlp, hrp, hnp, hvp⟩ := hx.form
  obtain ⟨aq, lq, cq, rfl, hlq, hrq, hnq, hvq⟩ := hy.form
  have h1 : lp.length ≤ k := Cub.len_le hnp (by rw [hvp]; exact hbk)
  have h3 : ¬ lp.length ≤ 2 := fun h => by
    have := Cub.lval_lt hnp.1
    have h2 : (1000000000 : Nat) ^ lp.length ≤ 1000000000 ^ 2 := Nat.pow_le_pow_right (by decide) h
    omega
  obtain ⟨t, ht⟩ : ∃ t, lp.length = t + 3 := ⟨lp.length - 3, by omega⟩
  have h2 : lq.length ≤ t + 3 := by
    rw [← ht]
    exact Cub.len_le hnq (by have := Cub.lval_lt hnp.1; omega)
  obtain ⟨d, hd1, hd2, hd3⟩ := Cub.up_of hnp ht
  rw [hvp] at hd1 hd3
  obtain ⟨up, hup⟩ : ∃ up, up = 10 ^ d := ⟨_, rfl⟩
  rw [← hup] at hd3
  obtain ⟨e, he⟩ : ∃ e, e = 10 ^ (9 - d) := ⟨_, rfl⟩
  have hue : up * e = 1000000000 := by rw [hup, he, ← Nat.pow_add, show d + (9 - d) = 9 by omega]
  have hup0 : 0 < up := by rw [hup]; exact Nat.pow_pos (by decide)
  have he0 : 0 < e := by rw [he]; exact Nat.pow_pos (by decide)
  have hup9 : up ≤ 1000000000 := by rw [← hue]; exact Nat.le_mul_of_pos_right _ he0
  have hee : e = 1000000000 / up := by rw [← hue, Nat.mul_div_cancel_left _ hup0]
  obtain ⟨X, hX⟩ : ∃ X, X = (lp.getD (t + 2) 0 * 1000000000 + lp.getD (t + 1) 0) * up + lp.getD t 0 / e := ⟨_, rfl⟩
  obtain ⟨Y, hY⟩ : ∃ Y, Y = (lq.getD (t + 2) 0 * 1000000000 + lq.getD (t + 1) 0) * up + lq.getD t 0 / e := ⟨_, rfl⟩
  obtain ⟨⟨u, hu1, hu2⟩, hX18⟩ := Cub.first_of lp t up e X hnp.1 (by omega) hue (by rw [hvp]; exact hd3) hX
  obtain ⟨⟨v, hv1, hv2⟩, hY18⟩ := Cub.first_of lq t up e Y hnq.1 h2 hue (by rw [hvq]; exact Nat.lt_of_le_of_lt (Nat.mul_le_mul_right _ hcb) hd3) hY
  rw [hvp] at hu1
  rw [hvq] at hv1
  obtain ⟨P, hP⟩ : ∃ P, P = 1000000000 ^ (t + 1) := ⟨_, rfl⟩
  have hP0 : 0 < P := by rw [hP]; exact Nat.pow_pos (by decide)
  rw [← hP] at hu1 hu2 hv1 hv2
  have hXh := Nat.lt_of_le_of_lt (Nat.le_add_right _ _) (hX ▸ hX18)
  have hYh := Nat.lt_of_le_of_lt (Nat.le_add_right _ _) (hY ▸ hY18)
  have H69 := hide (fun W hW => len_any (.agg #[.slice ap lp.length cp]) b k W hW (by omega) hbk)
  have H109 := hide (fun W => tenTo_any d up W (by omega) hup)
  have H110x := hide (fun W (hW : Below w.heap.size w W) => first_any ap lp cp t up _ _ _ _ e X W (hrp.later hW) rfl rfl rfl (by omega) (Cub.getD9_lt hnp.1 _) (Cub.getD9_lt hnp.1 _) (Cub.getD9_lt hnp.1 _) rfl hup0 hup9 hee hX hXh)
  have H110y := hide (fun W (hW : Below w.heap.size w W) => first_any aq lq cq t up _ _ _ _ e Y W (hrq.later hW) rfl rfl rfl (by omega) (Cub.getD9_lt hnq.1 _) (Cub.getD9_lt hnq.1 _) (Cub.getD9_lt hnq.1 _) rfl hup0 hup9 hee hY hYh)
  have HLS : Hid (∀ x y A B C D q : Int, Cub.LS b c X Y x y A B C D → y + C ≠ 0 → y + D ≠ 0 → q = (x + A) / (y + C) → q = (x + B) / (y + D) → Cub.LS b c X Y y (x - q * y) C D (A - q * C) (B - q * D) ∧ x - q * y < y ∧ 0 ≤ q) := fun x y A B C D q h e1 e2 q1 q2 =>
    h.step (U := (up : Int)) (P := (P : Int)) (u := (u : Int)) (v := (v : Int)) e1 e2 q1 q2 (by omega) (by omega) (by exact_mod_cast hu1) (by exact_mod_cast hv1) (by omega) (by omega) (by omega) (by omega) (by omega) (by omega)
  have HL0 : Hid (Cub.LS b c X Y X Y 1 0 0 1) := Cub.LS.start (by omega) (by omega) (by omega) (by omega) (by omega) (by omega)
  rw [ht] at H69 H110x ⊢
  have HD : Hid ((9 * ((t : Int) + 3)) - ((Lib.nDigits b : Nat) : Int) = (d : Int)) := by show _ = _; omega
  have hnd : Lib.nDigits b ≤ 9 * (t + 3) := by omega
  generalize Lib.nDigits b = nd at *
  generalize lq.length = nq at *
  have htk : t ≤ 100000 := by omega
  have H109' : Hid (∀ W : World, Calls Tryz.prog 151 #[.int .i64 (9 * ((t : Int) + 3) - (nd : Int))] W fun e w' => e = .returned (.int .u64 (up : Int)) ∧ w' = W) := fun W => by rw [unhide HD]; exact unhide H109 W
  have H110x' : Hid (∀ W : World, Below w.heap.size w W → Calls Tryz.prog 201 #[.agg #[.slice ap (t + 3) cp], .int .i64 ((t : Int) + 3 - 1), .int .u64 (up : Int)] W fun e w' => e = .returned (.int .u64 (X : Int)) ∧ Below W.heap.size W w') := fun W hW => by
    have := unhide H110x W hW; rw [show ((t + 2 : Nat) : Int) = (t : Int) + 3 - 1 by omega] at this; exact this
  have H110y' : Hid (∀ W : World, Below w.heap.size w W → Calls Tryz.prog 201 #[.agg #[.slice aq nq cq], .int .i64 ((t : Int) + 3 - 1), .int .u64 (up : Int)] W fun e w' => e = .returned (.int .u64 (Y : Int)) ∧ Below W.heap.size W w') := fun W hW => by
    have := unhide H110y W hW; rw [show ((t + 2 : Nat) : Int) = (t : Int) + 3 - 1 by omega] at this; exact this
  clear H109 H110x H110y HD
  clear hx hy hcb hc hbk hlp hlq hrp hrq hnp hnq hvp hvq h1 h3 h2 hd1 hd3 hup he hue hup0 he0 hup9 hee hX hY hXh hYh hu1 hu2 hv1 hv2 hP hP0
  go_enter Tryz.func167, Tryz.ntmps167
  go_upto_region 2 with fail
  obtain ⟨W, hW⟩ : ∃ W, W = (((w.alloc (.cells #[.slice ap (t + 3) cp] 51)).alloc (.cells #[.slice aq nq cq] 51)).alloc (.cells #[.int .i64 0, .int .i64 0, .int .i64 0, .int .i64 0] 184)) := ⟨_, rfl⟩
  have HW : Hid (Below w.heap.size w W) := by rw [hW]; exact (((Below.refl _ _).alloc (Nat.le_refl _) _).alloc (by simp) _).alloc (by simp; omega) _
  have HM : Hid (Many3 w W (.slice ap (t + 3) cp) (.slice aq nq cq)) := by
    rw [hW]
    exact ⟨by simp [go_sem], by simp [go_sem], by simp [go_sem], by simp [go_sem], by simp [go_sem], by simp [go_sem], fun i => by simp [go_sem], by simp⟩
  rw [← hW]
  clear hW
  have c1 : ∀ z : Later W, z.world.cell? ⟨w.heap.size, 0, none⟩ = some (.slice ap (t + 3) cp) := fun z => ((unhide HM).on z.below).c1
  have c2 : ∀ z : Later W, z.world.cell? ⟨w.heap.size + 1, 0, none⟩ = some (.slice aq nq cq) := fun z => ((unhide HM).on z.below).c2
  have H69z : Hid (∀ z : Later W, Calls Tryz.prog 136 #[.agg #[.slice ap (t + 3) cp]] z.world fun e w' => e = .returned (.int .i64 (nd : Int)) ∧ Below z.world.heap.size z.world w') := fun z => unhide H69 _ (by have := (unhide HX).later ((unhide HW).trans (z.below.mono (unhide HW).size)); rw [ht] at this; exact this)
  clear H69
  refine quiet_later (by kernel_rfl) (by kernel_rfl) ?_
  iterate 6 (go_big_quiet_step ((rename_i xx; refine (unhide H69z xx).mono ?_; rintro e w9 ⟨rfl, hb9⟩; have hz := xx.below.trans (hb9.mono xx.below.size); first | exact ⟨rfl, ⟨w9, hz⟩, rfl⟩ | exact ⟨rfl, hz⟩ | exact ⟨rfl, w9, hz, rfl⟩)))
  repeat (go_big_quiet_step ((rename_i xx; refine (unhide H109' xx.world).mono ?_; rintro e w9 ⟨rfl, hb9⟩; have hz := xx.below; rw [← hb9] at hz; first | exact ⟨rfl, ⟨w9, hz⟩, rfl⟩ | exact ⟨rfl, hz⟩ | exact ⟨rfl, w9, hz, rfl⟩)))
  refine wpQuiet_nil ?_
  intro _ hw'
  obtain ⟨xz, hw''⟩ := hw'
  subst hw''
  obtain ⟨V, hV⟩ : ∃ V, V = xz.world := ⟨_, rfl⟩
  have HWV : Hid (Below W.heap.size W V) := by rw [hV]; exact xz.below
  rw [← hV]
  clear hV H69z H109'
  replace c1 : ∀ z : Later V, z.world.cell? ⟨w.heap.size, 0, none⟩ = some (.slice ap (t + 3) cp) := fun z => c1 ⟨z.world, (unhide HWV).trans (z.below.mono (unhide HWV).size)⟩
  replace c2 : ∀ z : Later V, z.world.cell? ⟨w.heap.size + 1, 0, none⟩ = some (.slice aq nq cq) := fun z => c2 ⟨z.world, (unhide HWV).trans (z.below.mono (unhide HWV).size)⟩
  have hXi : (X : Int) < 1000000000000000000 := by omega
  have hYi : (Y : Int) < 1000000000000000000 := by omega
  go_upto_region 3 with fail
  refine quiet_later (by kernel_rfl) (by kernel_rfl) ?_
  iterate 5 (go_big_quiet_step ((rename_i xx; refine (unhide H110x' _ ((unhide HW).trans (((unhide HWV).trans (xx.below.mono (unhide HWV).size)).mono (unhide HW).size))).mono ?_; rintro e w9 ⟨rfl, hb9⟩; have hz := xx.below.trans (hb9.mono xx.below.size); first | exact ⟨rfl, ⟨w9, hz⟩, rfl⟩ | exact ⟨rfl, hz⟩ | exact ⟨rfl, w9, hz, rfl⟩)))
  repeat (go_big_quiet_step ((rename_i xx; refine (unhide H110y' _ ((unhide HW).trans (((unhide HWV).trans (xx.below.mono (unhide HWV).size)).mono (unhide HW).size))).mono ?_; rintro e w9 ⟨rfl, hb9⟩; have hz := xx.below.trans (hb9.mono xx.below.size); first | exact ⟨rfl, ⟨w9, hz⟩, rfl⟩ | exact ⟨rfl, hz⟩ | exact ⟨rfl, w9, hz, rfl⟩)))
  refine wpQuiet_nil ?_
  intro _ hw'
  obtain ⟨xy, hw''⟩ := hw'
  subst hw''
  obtain ⟨U, hU⟩ : ∃ U, U = xy.world := ⟨_, rfl⟩
  have HWU : Hid (Below W.heap.size W U) := by rw [hU]; exact (unhide HWV).trans (xy.below.mono (unhide HWV).size)
  rw [← hU]
  clear hU H110x' H110y' c1 c2 HWV
  have HMU := hide ((unhide HM).on (unhide HWU))
  have HBU := hide ((unhide HW).trans ((unhide HWU).mono (unhide HW).size))
  clear HM HWU HW
  go_wp2_with fail
  go_loopw [7, 8] (fun v7 v8 wr => ∃ (x y A B C D : Int), v7 = .int .i64 x ∧ v8 = .int .i64 y ∧ Hid (Cub.LS b c X Y x y A B C D) ∧ Hid (St4 U wr A B C D)) (fun _ v8 _ => (intOf v8).toNat)
  case atStart => exact ⟨X, Y, 1, 0, 0, 1, rfl, rfl, HL0, St4.first U⟩
  case round =>
    obtain ⟨x, y, A, B, C, D, rfl, rfl, HL, HS⟩ := hrel
    clear HL0 hXi hYi hX18 hY18
    obtain ⟨x1, x2, y1, y2, ⟨a1, a2⟩, ⟨b1, b2⟩, ⟨c1, c2⟩, ⟨d1, d2⟩, x0, y0, -, -⟩ := (unhide HL).bounds
    have x3 := (unhide HL).hx
    have y3 := (unhide HL).hy
    have q0 := (unhide HS).q0; have q1 := (unhide HS).q1; have q2 := (unhide HS).q2; have q3 := (unhide HS).q3
    have r0 := ((unhide HMU).on (unhide HS).below).r0; have r1 := ((unhide HMU).on (unhide HS).below).r1; have r2 := ((unhide HMU).on (unhide HS).below).r2; have r3 := ((unhide HMU).on (unhide HS).below).r3
    have fr := ((unhide HMU).on (unhide HS).below).fr
    have HE : Hid (Cub.Good b c A B C D ∧ Below w.heap.size w wr) := ⟨(unhide HL).good, (unhide HBU).trans ((unhide HS).below.mono (unhide HBU).size)⟩
    by_cases h1 : y + C = 0
    · have e1 : ((y + C) != 0) = false := by rw [h1]; rfl
      clear h1
      go_wp2_with fail
      exact bodyPost_ret (v := .agg #[.int .i64 A, .int .i64 B, .int .i64 C, .int .i64 D]) (by simp [results, Tryz.results167, go_sem, r0, r1, r2, r3]) rfl ⟨A, B, C, D, rfl, (unhide HE).1, ((((unhide HE).2.setCell (by simp; omega) _).setCell (by simp; omega) _).setCell (by simp; omega) _).setCell (by simp; omega) _⟩
    · have e1 : ((y + C) != 0) = true := by rw [bne_iff_ne]; exact h1
      by_cases h2 : y + D = 0
      · have e2 : ((y + D) != 0) = false := by rw [h2]; rfl
        clear h1 h2
        go_wp2_with fail
        exact bodyPost_ret (v := .agg #[.int .i64 A, .int .i64 B, .int .i64 C, .int .i64 D]) (by simp [results, Tryz.results167, go_sem, r0, r1, r2, r3]) rfl ⟨A, B, C, D, rfl, (unhide HE).1, ((((unhide HE).2.setCell (by simp; omega) _).setCell (by simp; omega) _).setCell (by simp; omega) _).setCell (by simp; omega) _⟩
      · have e2 : ((y + D) != 0) = true := by rw [bne_iff_ne]; exact h2
        have y4 : 0 < y + C := by omega
        have y5 : 0 < y + D := by omega
        obtain ⟨q, hq⟩ : ∃ q, (x + A) / (y + C) = q := ⟨_, rfl⟩
        obtain ⟨p, hp⟩ : ∃ p, (x + B) / (y + D) = p := ⟨_, rfl⟩
        obtain ⟨q5, q6, -⟩ := Cub.quo_facts x1 y1 h1 hq.symm
        have q7 : q ≤ 1000000001000000000 := by
          have := Int.ediv_le_self (y + C) x1
          omega
        obtain ⟨p5, p6, -⟩ := Cub.quo_facts x2 y2 h2 hp.symm
        have p7 : p ≤ 1000000001000000000 := by
          have := Int.ediv_le_self (y + D) x2
          omega
        clear q6 p6
        by_cases hqp : q = p
        · subst hqp
          have HQ : Hid (q = (x + A) / (y + C) ∧ q = (x + B) / (y + D)) := ⟨hq.symm, hp.symm⟩
          obtain ⟨n1, n2, -⟩ := unhide HLS x y A B C D q (unhide HL) h1 h2 (unhide HQ).1 (unhide HQ).2
          have HN1 := hide n1
          obtain ⟨⟨t1, t2⟩, ⟨t3, t4⟩, t5, t6⟩ := (unhide HL).products (unhide HN1) q5
          obtain ⟨-, -, -, -, -, -, ⟨z1, z2⟩, ⟨z3, z4⟩, -, z5, -, -⟩ := (unhide HN1).bounds
          have HS' := hide ((unhide HS).set C D (A - q * C) (B - q * D))
          have fq := (unhide HS).fr
          clear h1 h2 HE HL n1 HLS
          go_wp2_with fail
          exact ⟨⟨y, x - q * y, C, D, A - q * C, B - q * D, rfl, rfl, HN1, HS'⟩, by simp only [intOf]; omega⟩
        · have e3 : (q != p) = true := by rw [bne_iff_ne]; exact hqp
          clear h1 h2 hqp
          go_wp2_with fail
          exact bodyPost_ret (v := .agg #[.int .i64 A, .int .i64 B, .int .i64 C, .int .i64 D]) (by simp [results, Tryz.results167, go_sem, r0, r1, r2, r3]) rfl ⟨A, B, C, D, rfl, (unhide HE).1, ((((unhide HE).2.setCell (by simp; omega) _).setCell (by simp; omega) _).setCell (by simp; omega) _).setCell (by simp; omega) _⟩
end Go.Proofs.YtijifpbpjinmhaaGreatDoor

/- nat.together: times one number and more times another. -/
import Derived.Test.YthcihkgellginaaDoorGcdFirst
namespace Go.Proofs.YthcihkgellginaaDoor
open Go.RowKit

theorem OutU.on {w wr W : World} {a b : Value} {N : Nat} {O : List Nat} (h : OutU w wr a b N O) (hb : Below wr.heap.size wr W) : OutU w W a b N O :=
  ⟨h.own.later hb h.own.lt, h.len, h.box.on (hb.mono h.box.size)⟩

set_option maxRecDepth 100000 in
set_option maxHeartbeats 2000000 in
theorem together_any (x y : Value) (b c N k : Nat) (t m : Int) (w : World) (hx : IsBig w x b) (hy : IsBig w y c) (hcb : c ≤ b) (hk : k ≤ 1000000) (hbk : b < 1000000000 ^ k)
    (ht : -1000000000 ≤ t ∧ t ≤ 1000000000) (hm : -1000000000 ≤ m ∧ m ≤ 1000000000) (hs : (0 ≤ t ∧ m ≤ 0) ∨ (t ≤ 0 ∧ 0 ≤ m)) (hN : (N : Int) = t * (b : Int) + m * (c : Int)) (hNb : N ≤ b) :
    Calls Tryd.prog 111 #[x, y, .int .i64 t, .int .i64 m] w fun e w' => ∃ a n c, e = .returned (.agg #[.slice a n c]) ∧ IsBig w' (.agg #[.slice a n c]) N ∧ Below w.heap.size w w' := by
  obtain ⟨ap, lp, cp, rfl, hlp, hrp, hnp, rfl⟩ := hx.form
  obtain ⟨aq, lq, cq, rfl, hlq, hrq, hnq, rfl⟩ := hy.form
  have h1 := Cub.len_le hnp hbk
  have hvp := Cub.lval_lt hnp.1
  have h2 : lq.length ≤ lp.length := Cub.len_le hnq (by omega)
  have HP : Hid (Cub.limbs 1000000000 lp ∧ Cells w ap lp) := ⟨hnp.1, hrp.cells.2.2.2⟩
  have HQ : Hid (Cub.limbs 1000000000 lq ∧ Row w (.slice aq lq.length cq) lq) := ⟨hnq.1, hrq⟩
  have HN : Hid (∀ S k', Cub.TG lp lq S t m k' lp.length → Cub.lval 1000000000 S = N) := fun S k' h => h.done rfl h2 N hN (by omega)
  have HS := hide hs
  obtain ⟨np, hnp'⟩ : ∃ np, np = lp.length := ⟨_, rfl⟩
  rw [← hnp'] at h1 ⊢
  have HNP := hide hnp'
  have HT0 : Hid (Cub.TG lp lq (List.replicate np 0) t m 0 0) := by rw [hnp']; exact Cub.TG.start lp lq t m
  generalize hnq' : lq.length = nq at *
  have HNQ := hide hnq'
  clear hx hy hbk hlp hlq hrp hrq hnp hnq hnp' hnq' hN hNb hvp hcb hs h2
  obtain ⟨i0, hi, hz0, hz1, hz2⟩ := info_parts Tryd.info22
  obtain ⟨t1, t2⟩ := ht
  obtain ⟨m1, m2⟩ := hm
  go_enter Tryd.func111, Tryd.ntmps111
  go_wp2_with (first
    | (at_make; go_must (refine wpList_make_full _ rfl _ _ 58 rfl (w.heap.size + 3) 22 i0 (.int .u64 0) 1 Tryd.underlying58 hi hz0 hz1 .i64 .i64 _ _ np rfl rfl (by omega) (by omega) (by rw [hz2]; omega) (by unfold maxLen; omega) (by simp) ?_; intro w4 hown4 hgrow4; rw [u64s_made] at hown4; have hO4 : Own w4 (w.heap.size + 1 + 1 + 1) (List.replicate np 0) := (by have := Own.of_row hown4; simpa using this); have hB4 := boxes3 ((Below.refl (w.heap.size + 3) _).grown hgrow4 (by simp) (fun k hk => by cases hk)); have HO4 : Hid (OutU w w4 (.slice ap np cp) (.slice aq nq cq) np (List.replicate np 0)) := ⟨hO4, List.length_replicate .., hB4⟩; clear hown4 hgrow4 hO4 hB4)))
  go_loopw [10, 18] (fun u v wr => ∃ (k : Int) (i : Nat) (O : List Nat), u = .int .i64 k ∧ v = .int .i64 (i : Int) ∧ i ≤ np ∧ -1000000000 ≤ k ∧ k ≤ 999999999 ∧ Hid (OutU w wr (.slice ap np cp) (.slice aq nq cq) np O) ∧ Hid (Cub.TG lp lq O t m k i)) (fun _ v _ => np - (intOf v).toNat)
  case atStart => exact ⟨0, 0, _, rfl, rfl, by omega, by omega, by omega, HO4, HT0⟩
  case round =>
    obtain ⟨k, i, O, rfl, rfl, hi', k1, k2, HO, HG⟩ := hrel
    clear HO4 HT0
    by_cases hin : i < np
    · have hil : i < lp.length := by have := unhide HNP; omega
      obtain ⟨xb, hxb⟩ : ∃ xb, xb = lp[i] := ⟨_, rfl⟩
      have hxB : xb < 1000000000 := by rw [hxb]; exact (unhide HP).1 _ (List.getElem_mem hil)
      have hxb' : lp.getD i 0 = xb := by rw [hxb, List.getD_eq_getElem?_getD, List.getElem?_eq_getElem hil]; exact rfl
      obtain ⟨xc, hxc⟩ : ∃ xc, lq.getD i 0 = xc := ⟨_, rfl⟩
      have hcB : xc < 1000000000 := by
        rw [← hxc]
        by_cases hq : i < lq.length
        · rw [List.getD_eq_getElem?_getD, List.getElem?_eq_getElem hq]; exact (unhide HQ).1 _ (List.getElem_mem hq)
        · rw [List.getD_eq_getElem?_getD, List.getElem?_eq_none (by omega)]; decide
      obtain ⟨o1, o2, ⟨o3, o4⟩, ⟨o5, o6⟩⟩ := Cub.opp_bound (t := t) (m := m) (x := (xb : Int)) (z := (xc : Int)) ⟨t1, t2⟩ ⟨m1, m2⟩ (unhide HS) (by omega) (by omega)
      obtain ⟨s, hs⟩ : ∃ s, s = k + 1000000000000000000 + t * (xb : Int) + m * (xc : Int) := ⟨_, rfl⟩
      have s0 : 0 ≤ s := by omega
      have s1 : s ≤ 1999999999999999999 := by omega
      have HG' : Hid (Cub.TG lp lq (O.set i (s % 1000000000).toNat) t m (s / 1000000000 - 1000000000) (i + 1)) := (unhide HG).step hil (by rw [hxb', hxc]; exact hs) s0 s1
      have HSV : Hid (k + (1000000000000000000 + t * (xb : Int) + m * (xc : Int)) = s) := by show _ = _; omega
      obtain ⟨b1, p1, rfl, hcx⟩ := (unhide HP).2 wr (unhide HO).box.below i hil
      have hcx' : ∀ z : Later wr, z.world.cell? ⟨b1, p1 + i, none⟩ = some (.int .u64 (xb : Int)) := fun z => by
        obtain ⟨b2, p2, e2, hc2⟩ := (unhide HP).2 z.world ((unhide HO).box.below.trans (z.below.mono (unhide HO).box.below.size)) i hil
        simp only [Option.some.injEq, Addr.mk.injEq] at e2
        obtain ⟨rfl, rfl, _⟩ := e2
        rw [hc2, ← hxb]
      have HL : Hid (∀ z : Later wr, Calls Tryd.prog 121 #[.agg #[.slice aq nq cq], .int .i64 (i : Int)] z.world fun e w' => e = .returned (.int .u64 (xc : Int)) ∧ Below z.world.heap.size z.world w') := fun z => by
        have hnq := unhide HNQ
        have hr := (unhide HQ).2.later ((unhide HO).box.below.trans (z.below.mono (unhide HO).box.below.size))
        have := limb_any aq lq cq i z.world (by rw [hnq]; exact hr)
        rw [hxc, hnq] at this; exact this
      have c1 : ∀ z : Later wr, z.world.cell? ⟨w.heap.size, 0, none⟩ = some (.slice (some ⟨b1, p1, none⟩) np cp) := fun z => ((unhide HO).on z.below).box.c1
      have c2 : ∀ z : Later wr, z.world.cell? ⟨w.heap.size + 1, 0, none⟩ = some (.slice aq nq cq) := fun z => ((unhide HO).on z.below).box.c2
      have hin' : (i : Int) < (np : Int) := by omega
      clear hs hxb hxb' hxc hcx HG
      go_upto_region 6 with fail
      refine quiet_later (by kernel_rfl) (by kernel_rfl) ?_
      repeat (go_big_quiet_step ((rename_i xx; refine (unhide HL xx).mono ?_; rintro e w9 ⟨rfl, hb9⟩; have hz := xx.below.trans (hb9.mono xx.below.size); first | exact ⟨rfl, ⟨w9, hz⟩, rfl⟩ | exact ⟨rfl, hz⟩ | exact ⟨rfl, w9, hz, rfl⟩)))
      refine wpQuiet_nil ?_
      intro _ hw'
      obtain ⟨xz, hw''⟩ := hw'
      subst hw''
      rw [unhide HSV]
      obtain ⟨W, hW⟩ : ∃ W, W = xz.world := ⟨_, rfl⟩
      have HO2 : Hid (OutU w W (.slice (some ⟨b1, p1, none⟩) np cp) (.slice aq nq cq) np O) := by rw [hW]; exact (unhide HO).on xz.below
      rw [← hW]
      clear hW c1 c2 hcx' HL HSV HO o1 o2 o3 o4 o5 o6
      have hiO : i < O.length := by rw [(unhide HO2).len]; exact hin
      have hcO : W.cell? ⟨w.heap.size + 1 + 1 + 1, i, none⟩ = some (.int .u64 (O[i] : Int)) := (unhide HO2).own.cell i hiO
      have hfO := (unhide HO2).own.frozen i
      have hm0 : 0 ≤ s % 1000000000 := Int.emod_nonneg _ (by decide)
      have HO3 : Hid (OutU w (W.setCell ⟨w.heap.size + 1 + 1 + 1, i, none⟩ (.int .u64 (s % 1000000000))) (.slice (some ⟨b1, p1, none⟩) np cp) (.slice aq nq cq) np (O.set i (s % 1000000000).toNat)) := (unhide HO2).set i (s % 1000000000).toNat (s % 1000000000) (by omega)
      generalize O[i] = oi at *
      go_wp2_with fail
      go_roundw
      case rel => exact ⟨s / 1000000000 - 1000000000, i + 1, _, rfl, by go_num, by omega, (unhide HG').k1, (unhide HG').k2, HO3, HG'⟩
      case measure => simp [intOf]; omega
    · have hie : i = np := by omega
      subst hie
      obtain ⟨q1, q2, _⟩ := Cub.lval_trim 1000000000 _ O rfl
      have HF : Hid (Cub.normal 1000000000 (Cub.trimN O) ∧ Cub.lval 1000000000 (Cub.trimN O) = N) := by
        refine ⟨q2 (unhide HG).limbs, ?_⟩
        rw [q1]
        exact unhide HN O k (by rw [← unhide HNP]; exact unhide HG)
      have hsz := (unhide HO).box.size
      have br := (unhide HO).box.c3
      have fr := (unhide HO).box.f3
      clear q1 q2
      go_wp2_with (go_at_call 74; refine (trim_any _ O _ ((unhide HO).own.row i i (unhide HO).len.symm (Nat.le_refl _) (by unfold maxLen; omega))).mono ?_; rintro e w6 ⟨v', rfl, hrow6, hb6⟩; obtain ⟨a6, cap6, rfl, hcap6⟩ := hrow6.form; obtain ⟨hc6, hf6⟩ := box_later hb6 (g := w.heap.size + 1 + 1) (by omega) br fr)
      refine bodyPost_ret (v := .agg #[.slice a6 (Cub.trimN O).length cap6]) (by simp [results, Tryd.results111, go_sem, hc6]) rfl ⟨_, _, _, rfl, ?_, ?_⟩
      · exact ⟨_, _, rfl, hrow6.box _ hc6 (no_int _ _ _), (unhide HF).1, (unhide HF).2⟩
      · exact ((unhide HO).box.below.trans (hb6.mono (by omega))).setCell (p := ⟨w.heap.size + 1 + 1, 0, none⟩) (show w.heap.size ≤ w.heap.size + 1 + 1 by omega) _
end Go.Proofs.YthcihkgellginaaDoor

/- (Big).Sub: the difference. -/
import Derived.Test.YthcihkgellginaaDoorTake
namespace Go.Proofs.YthcihkgellginaaDoor
open Go.RowKit

theorem splice_all (l : List Nat) (n : Nat) (h : n = l.length) : splice (u64s (List.replicate n 0)) 0 (u64s l) = u64s l := by
  subst h
  unfold splice u64s
  simp

theorem sub_last {n : Nat} {F lx ly : List Nat} {m : Nat} (hlim : Cub.limbs 1000000000 F) (hl : F.length = n) (h : Cub.lval 1000000000 F + 1 * Cub.lval 1000000000 ly = Cub.lval 1000000000 lx + 1000000000 ^ n * m)
    (hle : Cub.lval 1000000000 ly ≤ Cub.lval 1000000000 lx) : Cub.lval 1000000000 F = Cub.lval 1000000000 lx - Cub.lval 1000000000 ly := by
  have h1 := Cub.lval_lt hlim
  rw [hl] at h1
  rcases Nat.eq_zero_or_pos m with h0 | h0
  · subst h0; omega
  · have : 1000000000 ^ n * 1 ≤ 1000000000 ^ n * m := Nat.mul_le_mul_left _ h0
    omega

theorem norm9_len_le {x y : List Nat} (hx : Cub.limbs 1000000000 x) (hy : Cub.normal 1000000000 y) (h : Cub.lval 1000000000 y ≤ Cub.lval 1000000000 x) : y.length ≤ x.length :=
  Cub.len_le hy (Nat.lt_of_le_of_lt h (Cub.lval_lt hx))

set_option maxRecDepth 100000 in
set_option maxHeartbeats 1000000 in
theorem sub_any (x y : Value) (m n k : Nat) (w : World) (hx : IsBig w x m) (hy : IsBig w y n) (hk : k ≤ 1000000) (hm : m < 1000000000 ^ k) (hle : n ≤ m) :
    Calls Tryd.prog 52 #[x, y] w fun e w' => ∃ v, e = .returned v ∧ IsBig w' v (m - n) ∧ Below w.heap.size w w' := by
  obtain ⟨ap, lp, cp, rfl, hlp, hrp, hnp, rfl⟩ := hx.form
  obtain ⟨aq, lq, cq, rfl, hlq, hrq, hnq, rfl⟩ := hy.form
  have h1 := Cub.len_le hnp hm
  have h2 := norm9_len_le hnp.1 hnq hle
  have HP : Hid (lp.length = lp.length ∧ Cub.limbs 1000000000 lp ∧ Cells w ap lp) := ⟨rfl, hnp.1, hrp.cells.2.2.2⟩
  have HQ : Hid (Cub.limbs 1000000000 lq ∧ Cells w aq lq) := ⟨hnq.1, hrq.cells.2.2.2⟩
  have HLE := hide hle
  obtain ⟨np, hnp'⟩ : ∃ np, np = lp.length := ⟨_, rfl⟩
  obtain ⟨nq, hnq'⟩ : ∃ nq, nq = lq.length := ⟨_, rfl⟩
  rw [← hnp'] at h1 h2 ⊢
  rw [← hnq'] at h2 ⊢
  have HNP := hide hnp'
  have HNQ := hide hnq'
  clear hx hy hm hle hlp hlq hrp hrq hnp hnq hnp' hnq'
  obtain ⟨i0, hi, hz0, hz1, hz2⟩ := info_parts Tryd.info22
  go_enter Tryd.func52, Tryd.ntmps52
  go_wp2_with (first
    | (at_make; go_must (refine wpList_make_full _ rfl _ _ 58 rfl (w.heap.size + 3) 22 i0 (.int .u64 0) 1 Tryd.underlying58 hi hz0 hz1 .i64 .i64 _ _ np rfl rfl (by omega) (by omega) (by rw [hz2]; omega) (by unfold maxLen; omega) (by simp) ?_; intro w4 hown4 hgrow4; rw [u64s_made] at hown4; have hO4 : Own w4 (w.heap.size + 1 + 1 + 1) (List.replicate np 0) := (by have := Own.of_row hown4; simpa using this); have hB4 := boxes3 ((Below.refl (w.heap.size + 3) _).grown hgrow4 (by simp) (fun k hk => by cases hk)); have bp4 := hB4.c1; have HO4 := hide hO4; have HB4 := hide hB4; clear hown4 hgrow4 hO4 hB4))
    | (go_at_call 80; go_must (refine (takeAway_any (w.heap.size + 1 + 1 + 1) np np lp lq aq nq cq 1 _ (unhide HO5) (unhide HNP) (by omega) (unhide HP).2.1 (unhide HNQ) h2 (unhide HQ).1 (Nat.le_refl _) (by decide) (fun W hW i hi => (unhide HQ).2 W ((unhide HB5).below.trans (hW.mono (by omega))) i hi)).mono ?_; rintro e w6 ⟨mi, F, rfl, hO6, hF6, hlF6, hv6, hmi6, hb6⟩; have HB6 := hide ((unhide HB5).on (hb6.mono (show w.heap.size + 3 ≤ w.heap.size + 1 + 1 + 1 by omega))); have HO6 := hide (And.intro hO6 (And.intro hF6 hlF6)); have HV6 := hide hv6; clear hO6 hF6 hlF6 hv6 hb6 bp5 bq5))
    | (go_at_call 74; go_must (refine (trim_any _ F _ ((unhide HO6).1.row np np (unhide HO6).2.1.symm (Nat.le_refl _) (by unfold maxLen; omega))).mono ?_; rintro e w7 ⟨v', rfl, hrow7, hb7⟩; obtain ⟨a7, cap7, rfl, hcap7⟩ := hrow7.form; obtain ⟨hc7, hf7⟩ := box_later hb7 (g := w.heap.size + 1 + 1) (by have := (unhide HB6).size; omega) (unhide HB6).c3 (unhide HB6).f3))
    | (refine wpList_copy_splice rfl _ _ 58 58 rfl 22 Tryd.underlying58 Tryd.size22 _ _ _ _ _ _ rfl rfl (w.heap.size + 1 + 1 + 1) 0 (u64s (List.replicate np 0)) 22 (unhide HO4) (u64s lp) (by rw [u64s_length, ← unhide HNP]; exact (Nat.min_self np).symm) (fun h0 => ⟨by simp, (unhide HP).2.2.src (unhide HB4).below (by rw [u64s_length] at h0; exact h0)⟩) (by rw [u64s_length, u64s_length, List.length_replicate, ← unhide HNP]; omega) (u64s_one lp) (w.heap.size + 3) w4 (Below.refl _ _) (Nat.le_refl _) ?_; intro w5 hO5 hb5; rw [splice_all lp np (unhide HNP)] at hO5; have HO5 := hO5; have HB5 := hide ((unhide HB4).on hb5); have bp5 := (unhide HB5).c1; have bq5 := (unhide HB5).c2; clear hb5 HO4 HB4 bp4 hO5))
  obtain ⟨t1, t2, _⟩ := Cub.lval_trim 1000000000 _ F rfl
  refine bodyPost_ret (v := .agg #[.slice a7 (Cub.trimN F).length cap7]) (by simp [results, Tryd.results52, go_sem, hc7]) rfl ⟨_, rfl, ?_, ?_⟩
  · refine ⟨_, _, rfl, hrow7.box _ hc7 (no_int _ _ _), t2 (unhide HO6).2.2, ?_⟩
    rw [t1]; exact sub_last (unhide HO6).2.2 (unhide HO6).2.1 (unhide HV6) (unhide HLE)
  · exact ((unhide HB6).below.trans (hb7.mono (by have := (unhide HB6).size; omega))).setCell (p := ⟨w.heap.size + 1 + 1, 0, none⟩) (show w.heap.size ≤ w.heap.size + 1 + 1 by omega) _
end Go.Proofs.YthcihkgellginaaDoor

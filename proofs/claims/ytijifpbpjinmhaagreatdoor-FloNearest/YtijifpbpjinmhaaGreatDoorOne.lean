/- (Big).IsOne; boxes. -/
import Derived.Test.YtijifpbpjinmhaaGreatDoorMulMath
import Derived.Deep.QuietTactic
import Derived.BigQuiet
import Derived.Deep.RegionLaw
import Derived.Deep.Cut
import Derived.Test.YtijifpbpjinmhaaGreatDoorText
set_option maxHeartbeats 2000000
set_option maxRecDepth 100000
namespace Cub
/-- Division by one limb in the making: from place j on all is done. -/
structure ShortInv (by' : Nat) (l D : List Nat) (r j : Nat) : Prop where
  len : D.length = l.length
  lim : limbs 1000000000 D
  val : lval 1000000000 (D.drop j) * by' + r = lval 1000000000 (l.drop j)
  rest : r < by'
theorem ShortInv.start (by' : Nat) (l : List Nat) (h : 0 < by') : ShortInv by' l (List.replicate l.length 0) 0 l.length := by
  refine ⟨by simp, limbs_zeros _ _ (by decide), ?_, h⟩
  rw [List.drop_of_length_le (by simp), List.drop_of_length_le (by simp)]
  simp [lval]
theorem ShortInv.step {by' : Nat} {l D : List Nat} {r j : Nat} (h : ShortInv by' l D r (j + 1)) (hj : j < l.length) (hx : l[j] < 1000000000) :
    ShortInv by' l (D.set j ((r * 1000000000 + l[j]) / by')) ((r * 1000000000 + l[j]) % by') j := by
  have hjD : j < D.length := by rw [h.len]; exact hj
  have hr := h.rest
  have hq : (r * 1000000000 + l[j]) / by' < 1000000000 := by
    rw [Nat.div_lt_iff_lt_mul (by omega)]
    have : (r + 1) * 1000000000 ≤ by' * 1000000000 := Nat.mul_le_mul_right _ hr
    rw [Nat.mul_comm 1000000000 by']
    omega
  refine ⟨by rw [List.length_set]; exact h.len, limbs_set h.lim _ _ hq, ?_, Nat.mod_lt _ (by omega)⟩
  have e1 : (D.set j ((r * 1000000000 + l[j]) / by')).drop j = ((r * 1000000000 + l[j]) / by') :: D.drop (j + 1) := by
    rw [List.drop_eq_getElem_cons (by simpa using hjD)]
    congr 1
    · simp
    · rw [List.drop_set_of_lt (by omega)]
  rw [e1, List.drop_eq_getElem_cons hj]
  show ((r * 1000000000 + l[j]) / by' + 1000000000 * lval 1000000000 (D.drop (j + 1))) * by' + (r * 1000000000 + l[j]) % by' = l[j] + 1000000000 * lval 1000000000 (l.drop (j + 1))
  rw [← h.val]
  have e2 := Nat.div_add_mod (r * 1000000000 + l[j]) by'
  generalize (r * 1000000000 + l[j]) / by' = q at *
  generalize (r * 1000000000 + l[j]) % by' = s at *
  generalize lval 1000000000 (D.drop (j + 1)) = V at *
  rw [Nat.add_mul, Nat.mul_add, Nat.mul_assoc, Nat.mul_comm q by']
  omega
theorem ShortInv.last {by' : Nat} {l D : List Nat} {r : Nat} (h : ShortInv by' l D r 0) : lval 1000000000 D = lval 1000000000 l / by' ∧ r = lval 1000000000 l % by' := by
  have h1 := h.val
  rw [List.drop_zero, List.drop_zero] at h1
  have h2 := h.rest
  rw [← h1, Nat.mul_comm]
  refine ⟨?_, ?_⟩
  · rw [Nat.mul_add_div (by omega), Nat.div_eq_of_lt h2]; rfl
  · rw [Nat.mul_add_mod, Nat.mod_eq_of_lt h2]
end Cub
namespace Go.Proofs.YtijifpbpjinmhaaGreatDoor
open Go.RowKit
/-- A box, and two for results, kept. -/
structure Res2 (w w4 : World) (a : Value) : Prop where
  c1 : w4.cell? ⟨w.heap.size, 0, none⟩ = some a
  c2 : w4.cell? ⟨w.heap.size + 1, 0, none⟩ = some (.slice none 0 0)
  f2 : w4.frozen? ⟨w.heap.size + 1, 0, none⟩ = false
  c3 : w4.cell? ⟨w.heap.size + 1 + 1, 0, none⟩ = some (.slice none 0 0)
  f3 : w4.frozen? ⟨w.heap.size + 1 + 1, 0, none⟩ = false
  below : Below w.heap.size w w4
  size : w.heap.size + 3 ≤ w4.heap.size
theorem res2 {w w4 : World} {a : Value} (hb : Below (w.heap.size + 3) (((w.alloc (.cells #[a] 51)).alloc (.cells #[.slice none 0 0] 51)).alloc (.cells #[.slice none 0 0] 51)) w4) : Res2 w w4 a := by
  refine ⟨?_, ?_, ?_, ?_, ?_, ?_, ?_⟩
  · rw [hb.cell (p := ⟨w.heap.size, 0, none⟩) (show w.heap.size < w.heap.size + 3 by omega)]; simp [go_sem]
  · rw [hb.cell (p := ⟨w.heap.size + 1, 0, none⟩) (show w.heap.size + 1 < w.heap.size + 3 by omega)]; simp [go_sem]
  · rw [hb.frozen (p := ⟨w.heap.size + 1, 0, none⟩) (show w.heap.size + 1 < w.heap.size + 3 by omega)]; simp [go_sem]
  · rw [hb.cell (p := ⟨w.heap.size + 1 + 1, 0, none⟩) (show w.heap.size + 1 + 1 < w.heap.size + 3 by omega)]; simp [go_sem]
  · rw [hb.frozen (p := ⟨w.heap.size + 1 + 1, 0, none⟩) (show w.heap.size + 1 + 1 < w.heap.size + 3 by omega)]; simp [go_sem]
  · exact ((((Below.refl _ _).alloc (Nat.le_refl _) _).alloc (by simp) _).alloc (by simp; omega) _).trans (hb.mono (by omega))
  · have := hb.size; simp at this; omega
theorem Res2.on {w w4 w5 : World} {a : Value} (h : Res2 w w4 a) (hb : Below (w.heap.size + 3) w4 w5) : Res2 w w5 a :=
  ⟨(hb.cell (p := ⟨w.heap.size, 0, none⟩) (show w.heap.size < w.heap.size + 3 by omega)).trans h.c1, (hb.cell (p := ⟨w.heap.size + 1, 0, none⟩) (show w.heap.size + 1 < w.heap.size + 3 by omega)).trans h.c2,
    (hb.frozen (p := ⟨w.heap.size + 1, 0, none⟩) (show w.heap.size + 1 < w.heap.size + 3 by omega)).trans h.f2,
    (hb.cell (p := ⟨w.heap.size + 1 + 1, 0, none⟩) (show w.heap.size + 1 + 1 < w.heap.size + 3 by omega)).trans h.c3, (hb.frozen (p := ⟨w.heap.size + 1 + 1, 0, none⟩) (show w.heap.size + 1 + 1 < w.heap.size + 3 by omega)).trans h.f3,
    h.below.trans (hb.mono (by omega)), by have := hb.size; have := h.size; omega⟩
/-- What two stores into the results' boxes leave. -/
theorem Res2.done {w w4 : World} {a u v : Value} (h : Res2 w w4 a) (n m : Nat) (hn : IsBig w4 (.agg #[u]) n) (hm : IsBig w4 (.agg #[v]) m) :
    IsBig ((w4.setCell ⟨w.heap.size + 1, 0, none⟩ u).setCell ⟨w.heap.size + 1 + 1, 0, none⟩ v) (.agg #[u]) n ∧ IsBig ((w4.setCell ⟨w.heap.size + 1, 0, none⟩ u).setCell ⟨w.heap.size + 1 + 1, 0, none⟩ v) (.agg #[v]) m ∧ Below w.heap.size w ((w4.setCell ⟨w.heap.size + 1, 0, none⟩ u).setCell ⟨w.heap.size + 1 + 1, 0, none⟩ v) := by
  have hc : (w4.setCell ⟨w.heap.size + 1, 0, none⟩ u).cell? ⟨w.heap.size + 1 + 1, 0, none⟩ = some (.slice none 0 0) := by
    rw [World.cell?_setCell_other _ _ _ _ (by simp)]; exact h.c3
  exact ⟨(hn.box _ h.c2 (no_int _ _ _)).box _ hc (no_int _ _ _), (hm.box _ h.c2 (no_int _ _ _)).box _ hc (no_int _ _ _), (h.below.setCell (by simp) _).setCell (by simp; omega) _⟩
theorem div_cast (s x d : Nat) : (((s * 1000000000 + x) / d : Nat) : Int) = ((s : Int) * 1000000000 + (x : Int)) / (d : Int) := by
  rw [Int.natCast_ediv, Int.natCast_add, Int.natCast_mul]; rfl
theorem mod_cast' (s x d : Nat) : (((s * 1000000000 + x) % d : Nat) : Int) = ((s : Int) * 1000000000 + (x : Int)) % (d : Int) := by
  rw [Int.natCast_emod, Int.natCast_add, Int.natCast_mul]; rfl
theorem divShort_any (x : Value) (m d k : Nat) (w : World) (hx : IsBig w x m) (hk : k ≤ 1000000) (hm : m < 1000000000 ^ k) (hd : 0 < d) (hd2 : d < 1000000000) :
    Calls Tryz.prog 197 #[x, .int .u64 (d : Int)] w fun e w' => ∃ a1 n1 c1 a2 n2 c2, e = .returned (.tuple #[.agg #[.slice a1 n1 c1], .agg #[.slice a2 n2 c2]]) ∧ IsBig w' (.agg #[.slice a1 n1 c1]) (m / d) ∧ IsBig w' (.agg #[.slice a2 n2 c2]) (m % d) ∧ Below w.heap.size w w' := by
  obtain ⟨ap, lp, cp, rfl, hlp, hrp, hnp, rfl⟩ := hx.form
  have h1 := Cub.len_le hnp hm
  have HP : Hid (Cub.limbs 1000000000 lp ∧ Cells w ap lp) := ⟨hnp.1, hrp.cells.2.2.2⟩
  obtain ⟨np, hnp'⟩ : ∃ np, np = lp.length := ⟨_, rfl⟩
  rw [← hnp'] at h1 ⊢
  have HNP := hide hnp'
  have HS : Hid (Cub.ShortInv d lp (List.replicate np 0) 0 np) := by rw [hnp']; exact Cub.ShortInv.start d lp hd
  clear hx hm hlp hrp hnp hnp'
  obtain ⟨i0, hi, hz0, hz1, hz2⟩ := info_parts Tryz.info41
  go_enter Tryz.func197, Tryz.ntmps197
  go_wp2_with (first
    | (at_make; go_must (refine wpList_make_full _ rfl _ _ 49 rfl (w.heap.size + 3) 41 i0 (.int .u64 0) 1 Tryz.underlying49 hi hz0 hz1 .i64 .i64 _ _ np rfl rfl (by omega) (by omega) (by rw [hz2]; omega) (by unfold maxLen; omega) (by simp) ?_; intro w4 hown4 hgrow4; rw [u64s_made] at hown4; have hO4 : Own w4 (w.heap.size + 1 + 1 + 1) (List.replicate np 0) := (by have := Own.of_row hown4; simpa using this); have hB4 := res2 ((Below.refl (w.heap.size + 3) _).grown hgrow4 (by simp) (fun k hk => by cases hk)); have bp4 := hB4.c1; have HO4 := hide hO4; have HB4 := hide hB4; clear hown4 hgrow4 hO4 hB4)))
  go_loopw [7, 8] (fun r t wr => ∃ (s j : Nat) (D : List Nat), r = .int .u64 (s : Int) ∧ t = .int .i64 ((j : Int) - 1) ∧ j ≤ np ∧ s < d ∧ Hid (Cub.ShortInv d lp D s j) ∧ Hid (Own wr (w.heap.size + 1 + 1 + 1) D) ∧ Hid (Res2 w wr (.slice ap np cp))) (fun _ t _ => (intOf t + 1).toNat)
  case atStart => exact ⟨0, np, _, rfl, by go_num, Nat.le_refl _, hd, HS, HO4, HB4⟩
  case round =>
    obtain ⟨s, j, D, rfl, rfl, hj, hs, HI, HO, HB⟩ := hrel
    clear bp4
    have bp := (unhide HB).c1
    by_cases hj0 : j = 0
    · subst hj0
      obtain ⟨t1, t2, _⟩ := Cub.lval_trim 1000000000 _ D rfl
      have hlast := (unhide HI).last
      have HF : Hid (Cub.normal 1000000000 (Cub.trimN D) ∧ Cub.lval 1000000000 (Cub.trimN D) = Cub.lval 1000000000 lp / d ∧ s = Cub.lval 1000000000 lp % d) := ⟨t2 (unhide HI).lim, t1.trans hlast.1, hlast.2⟩
      have hsz := (unhide HB).size
      have HL : Hid (D.length = np) := by rw [(unhide HI).len, ← unhide HNP]; exact rfl
      clear t1 t2 hlast
      go_wp2_with (first
        | (go_at_call 78; go_must (refine (trim_any _ D _ ((unhide HO).row np np (unhide HL).symm (Nat.le_refl _) (by unfold maxLen; omega))).mono ?_; rintro e w6 ⟨v', rfl, hrow6, hb6⟩; obtain ⟨a6, cap6, rfl, hcap6⟩ := hrow6.form; have HB6 := hide ((unhide HB).on (hb6.mono hsz)); have HR6 : Hid (IsBig w6 (.agg #[.slice a6 (Cub.trimN D).length cap6]) (Cub.lval 1000000000 lp / d)) := ⟨_, _, rfl, hrow6, (unhide HF).1, (unhide HF).2.1⟩; clear hrow6 hb6 bp))
        | (go_at_call 73; go_must (refine (bigOf_any s _ (by omega)).mono ?_; rintro e w7 ⟨a7, n7, c7, rfl, hbig7, hb7⟩; have HB7 := hide ((unhide HB6).on (hb7.mono (unhide HB6).size)); have HR7 := hide ((unhide HR6).later hb7); have HS7 := hide hbig7; clear hbig7 hb7; have b2 := (unhide HB7).c2; have f2 := (unhide HB7).f2; have b3 := (unhide HB7).c3; have f3 := (unhide HB7).f3)))
      obtain ⟨r1, r2, r3⟩ := (unhide HB7).done _ _ (unhide HR7) (unhide HS7)
      refine bodyPost_ret (v := .tuple #[.agg #[.slice a6 (Cub.trimN D).length cap6], .agg #[.slice a7 n7 c7]]) (by simp [results, Tryz.results197, go_sem, b2, b3]) rfl ⟨_, _, _, _, _, _, rfl, r1, ?_, r3⟩
      rw [← (unhide HF).2.2]; exact r2
    · obtain ⟨i, rfl⟩ : ∃ i, j = i + 1 := ⟨j - 1, by omega⟩
      have hil : i < lp.length := by have := unhide HNP; omega
      have hiD : i < D.length := by rw [(unhide HI).len]; exact hil
      obtain ⟨xv, hxv⟩ : ∃ xv, xv = lp[i] := ⟨_, rfl⟩
      have hxB : xv < 1000000000 := by rw [hxv]; exact (unhide HP).1 _ (List.getElem_mem hil)
      obtain ⟨b1, o1, rfl, hcx⟩ := (unhide HP).2 wr (unhide HB).below i hil
      rw [← hxv] at hcx
      have HI' : Hid (Cub.ShortInv d lp (D.set i ((s * 1000000000 + xv) / d)) ((s * 1000000000 + xv) % d) i) := by
        have := (unhide HI).step hil (by rw [← hxv]; exact hxB)
        rw [← hxv] at this; exact this
      have hco := (unhide HO).cell i hiD
      have hfo := (unhide HO).frozen i
      have hsB : s * 1000000000 + xv < 1000000000000000000 := by omega
      have HO' : Hid (Own (wr.setCell ⟨w.heap.size + 1 + 1 + 1, i, none⟩ (.int .u64 (((s : Int) * 1000000000 + (xv : Int)) / (d : Int)))) (w.heap.size + 1 + 1 + 1) (D.set i ((s * 1000000000 + xv) / d))) := by
        have := (unhide HO).set i ((s * 1000000000 + xv) / d)
        rw [show (((s * 1000000000 + xv) / d : Nat) : Int) = ((s : Int) * 1000000000 + (xv : Int)) / (d : Int) from div_cast s xv d] at this
        exact this
      have HB' : Hid (Res2 w (wr.setCell ⟨w.heap.size + 1 + 1 + 1, i, none⟩ (.int .u64 (((s : Int) * 1000000000 + (xv : Int)) / (d : Int)))) (.slice (some ⟨b1, o1, none⟩) np cp)) :=
        (unhide HB).on ((Below.refl (w.heap.size + 3) wr).setCell (p := ⟨w.heap.size + 1 + 1 + 1, i, none⟩) (show w.heap.size + 3 ≤ w.heap.size + 1 + 1 + 1 by omega) _)
      have hmd : (s * 1000000000 + xv) % d < d := Nat.mod_lt _ hd
      rw [show (((i + 1 : Nat) : Int) - 1) = (i : Int) from by omega]
      clear hxv HI
      go_wp2
      go_roundw
      case rel => exact ⟨(s * 1000000000 + xv) % d, i, _, by rw [mod_cast'], by go_num, by omega, hmd, HI', HO', HB'⟩
      case measure => simp [intOf]
end Go.Proofs.YtijifpbpjinmhaaGreatDoor
namespace Go.Proofs.YtijifpbpjinmhaaGreatDoor
open Go.RowKit
/-- What stands of the product that is filled, and of the three boxes. -/
structure OutU (w wr : World) (a b : Value) (N : Nat) (O : List Nat) : Prop where
  own : Own wr (w.heap.size + 1 + 1 + 1) O
  len : O.length = N
  box : Boxes3 w wr a b (.slice none 0 0)
theorem OutU.set {w wr : World} {a b : Value} {N : Nat} {O : List Nat} (h : OutU w wr a b N O) (p x : Nat) (z : Int) (hz : z = (x : Int)) : OutU w (wr.setCell ⟨w.heap.size + 1 + 1 + 1, p, none⟩ (.int .u64 z)) a b N (O.set p x) := by
  subst hz
  exact ⟨h.own.set p x, by rw [List.length_set]; exact h.len, h.box.on ((Below.refl (w.heap.size + 3) wr).setCell (p := ⟨w.heap.size + 1 + 1 + 1, p, none⟩) (show w.heap.size + 3 ≤ w.heap.size + 1 + 1 + 1 by omega) _)⟩
theorem mul_any (x y : Value) (m n k : Nat) (w : World) (hx : IsBig w x m) (hy : IsBig w y n) (hk : k ≤ 1000000) (hm : m < 1000000000 ^ k) (hn : n < 1000000000 ^ k) :
    Calls Tryz.prog 99 #[x, y] w fun e w' => ∃ v, e = .returned v ∧ IsBig w' v (m * n) ∧ Below w.heap.size w w' := by
  obtain ⟨ap, lp, cp, rfl, hlp, hrp, hnp, rfl⟩ := hx.form
  obtain ⟨aq, lq, cq, rfl, hlq, hrq, hnq, rfl⟩ := hy.form
  have h1 := Cub.len_le hnp hm
  have h2 := Cub.len_le hnq hn
  have HP : Hid (Cub.limbs 1000000000 lp ∧ Cells w ap lp) := ⟨hnp.1, hrp.cells.2.2.2⟩
  have HQ : Hid (Cub.limbs 1000000000 lq ∧ Cells w aq lq) := ⟨hnq.1, hrq.cells.2.2.2⟩
  obtain ⟨np, hnp'⟩ : ∃ np, np = lp.length := ⟨_, rfl⟩
  obtain ⟨nq, hnq'⟩ : ∃ nq, nq = lq.length := ⟨_, rfl⟩
  rw [← hnp'] at h1 ⊢
  rw [← hnq'] at h2 ⊢
  have HNP := hide hnp'
  have HNQ := hide hnq'
  clear hx hy hm hn hlp hlq hrp hrq hnp hnq hnp' hnq'
  obtain ⟨i0, hi, hz0, hz1, hz2⟩ := info_parts Tryz.info41
  go_enter Tryz.func99, Tryz.ntmps99
  go_wp2_with (first
    | (at_make; go_must (refine wpList_make_full _ rfl _ _ 49 rfl (w.heap.size + 3) 41 i0 (.int .u64 0) 1 Tryz.underlying49 hi hz0 hz1 .i64 .i64 _ _ (np + nq) rfl rfl (by omega) (by omega) (by rw [hz2]; omega) (by unfold maxLen; omega) (by simp) ?_; intro w4 hown4 hgrow4; rw [u64s_made] at hown4; have hO4 : Own w4 (w.heap.size + 1 + 1 + 1) (List.replicate (np + nq) 0) := (by have := Own.of_row hown4; simpa using this); have hB4 := boxes3 ((Below.refl (w.heap.size + 3) _).grown hgrow4 (by simp) (fun k hk => by cases hk)); have bp4 := hB4.c1; have HO4 : Hid (OutU w w4 (.slice ap np cp) (.slice aq nq cq) (np + nq) (List.replicate (np + nq) 0)) := ⟨hO4, List.length_replicate .., hB4⟩; clear hown4 hgrow4 hO4 hB4)))
  go_loopw [22] (fun t wr => ∃ (i : Nat) (O : List Nat), t = .int .i64 (i : Int) ∧ i ≤ np ∧ Hid (OutU w wr (.slice ap np cp) (.slice aq nq cq) (np + nq) O) ∧ Hid (Cub.limbs 1000000000 O ∧ Cub.lval 1000000000 O = Cub.lval 1000000000 (lp.take i) * Cub.lval 1000000000 lq)) (fun t _ => np - (intOf t).toNat)
  case atStart => exact ⟨0, _, rfl, by omega, HO4, ⟨Cub.limbs_zeros _ _ (by decide), by rw [Cub.lval_zeros]; simp [Cub.lval]⟩⟩
  case round =>
    obtain ⟨i, O, rfl, hi', HO, HV⟩ := hrel
    clear bp4
    have bq := (unhide HO).box.c2
    by_cases hin : i < np
    · have hil : i < lp.length := by have := unhide HNP; omega
      obtain ⟨xv, hxv⟩ : ∃ xv, xv = lp[i] := ⟨_, rfl⟩
      have hxB : xv < 1000000000 := by rw [hxv]; exact (unhide HP).1 _ (List.getElem_mem hil)
      have HXV : Hid (lp.getD i 0 = xv) := by rw [hxv, List.getD_eq_getElem?_getD, List.getElem?_eq_getElem hil]; exact rfl
      obtain ⟨b1, o1, rfl, hcx⟩ := (unhide HP).2 wr (unhide HO).box.below i hil
      rw [← hxv] at hcx
      clear hxv
      by_cases hx0 : xv = 0
      · subst hx0
        have HVn : Hid (Cub.limbs 1000000000 O ∧ Cub.lval 1000000000 O = Cub.lval 1000000000 (lp.take (i + 1)) * Cub.lval 1000000000 lq) := by
          refine ⟨(unhide HV).1, ?_⟩
          rw [← Cub.val_outer, unhide HXV, (unhide HV).2]; simp
        go_wp2
        go_roundw
        case rel => exact ⟨i + 1, O, by go_num, by omega, HO, HVn⟩
        case measure => simp [intOf]; omega
      · have hxz : ((xv : Int) == 0) = false := by rw [beq_eq_false_iff_ne]; omega
        have HA0 : Hid (Cub.Acc 1000000000 O 0 (i + 0) (Cub.lval 1000000000 (lp.take i) * Cub.lval 1000000000 lq + 1000000000 ^ i * (xv * Cub.lval 1000000000 (lq.take 0)))) := by
          refine ⟨(unhide HV).1, ?_⟩
          rw [(unhide HV).2]; simp [Cub.lval]
        have HZ0 : Hid (∀ p (hp : p < O.length), i + nq ≤ p → O[p] = 0) := fun p hp hip => by
          apply Cub.get_zero (B := 1000000000) (p := p) _ hp
          rw [(unhide HV).2]
          rcases Cub.mul_lt 1000000000 lp lq (unhide HP).1 (unhide HQ).1 i with h | h
          · refine Nat.lt_of_lt_of_le h (Nat.pow_le_pow_right (by decide) ?_)
            have := unhide HNQ; omega
          · omega
        generalize hV0 : Cub.lval 1000000000 (lp.take i) * Cub.lval 1000000000 lq = V0 at *
        have HV0 := hide hV0
        clear hV0 hx0
        go_wp2
        go_loopw [8, 32] (fun c t wq => ∃ (k j : Nat) (P : List Nat), c = .int .u64 (k : Int) ∧ t = .int .i64 (j : Int) ∧ j ≤ nq ∧ k < 1000000000 ∧ Hid (OutU w wq (.slice (some ⟨b1, o1, none⟩) np cp) (.slice aq nq cq) (np + nq) P) ∧ Hid (∀ p (hp : p < P.length), i + nq ≤ p → P[p] = 0) ∧ Hid (Cub.Acc 1000000000 P k (i + j) (V0 + 1000000000 ^ i * (xv * Cub.lval 1000000000 (lq.take j))))) (fun _ t _ => nq - (intOf t).toNat)
        case atStart => exact ⟨0, 0, O, rfl, rfl, by omega, by omega, HO, HZ0, HA0⟩
        case round =>
          clear bq hcx
          obtain ⟨k, j, P, rfl, rfl, hj, hk, HP', HZ, HA⟩ := hrel
          have bq := (unhide HP').box.c2
          by_cases hjn : j < nq
          · have hpl : i + j < P.length := by rw [(unhide HP').len]; omega
            have hjl : j < lq.length := by have := unhide HNQ; omega
            obtain ⟨ov, hov⟩ : ∃ ov, ov = P[i + j] := ⟨_, rfl⟩
            have hoB : ov < 1000000000 := by rw [hov]; exact (unhide HA).lim _ (List.getElem_mem hpl)
            have hco := (unhide HP').own.cell (i + j) hpl
            rw [← hov] at hco
            have hfo := (unhide HP').own.frozen (i + j)
            obtain ⟨yv, hyv⟩ : ∃ yv, yv = lq[j] := ⟨_, rfl⟩
            have hyB : yv < 1000000000 := by rw [hyv]; exact (unhide HQ).1 _ (List.getElem_mem hjl)
            obtain ⟨b2, o2, rfl, hcy⟩ := (unhide HQ).2 wr (unhide HP').box.below j hjl
            rw [← hyv] at hcy
            have HYV : Hid (lq.getD j 0 = yv) := by rw [hyv, List.getD_eq_getElem?_getD, List.getElem?_eq_getElem hjl]; exact rfl
            obtain ⟨m, hm⟩ : ∃ m, m = xv * yv := ⟨_, rfl⟩
            have hmB : m ≤ 999999998000000001 := by rw [hm]; exact Nat.mul_le_mul (show xv ≤ 999999999 by omega) (show yv ≤ 999999999 by omega)
            have hmul : (xv : Int) * (yv : Int) = (m : Int) := by rw [hm]; simp
            have HA' : Hid (Cub.Acc 1000000000 (P.set (i + j) ((k + ov + m) % 1000000000)) ((k + ov + m) / 1000000000) (i + (j + 1)) (V0 + 1000000000 ^ i * (xv * Cub.lval 1000000000 (lq.take (j + 1))))) := by
              have h := (unhide HA).step (by decide) hpl (xv * lq.getD j 0)
              rw [Cub.val_inner, unhide HYV, ← hm, ← hov] at h
              exact h
            have hk' : (k + ov + m) / 1000000000 < 1000000000 := by rw [hm]; exact Cub.carry_lt 1000000000 k ov xv yv hk hoB hxB hyB
            have HZ' : Hid (∀ p (hp : p < (P.set (i + j) ((k + ov + m) % 1000000000)).length), i + nq ≤ p → (P.set (i + j) ((k + ov + m) % 1000000000))[p] = 0) := fun p hp hip => by
              rw [List.getElem_set_ne (by omega)]; exact unhide HZ p (by rw [List.length_set] at hp; exact hp) hip
            have HPn : Hid (OutU w (wr.setCell ⟨w.heap.size + 1 + 1 + 1, i + j, none⟩ (.int .u64 (((k : Int) + ((ov : Int) + (m : Int))) % 1000000000))) (.slice (some ⟨b1, o1, none⟩) np cp) (.slice (some ⟨b2, o2, none⟩) nq cq) (np + nq) (P.set (i + j) ((k + ov + m) % 1000000000))) := (unhide HP').set (i + j) ((k + ov + m) % 1000000000) _ (by omega)
            clear hov hyv hjl hm hpl HA HZ
            go_wp2
            go_roundw
            case rel => exact ⟨(k + ov + m) / 1000000000, j + 1, P.set (i + j) ((k + ov + m) % 1000000000), by go_num, by go_num, by omega, hk', HPn, HZ', HA'⟩
            case measure => simp [intOf]; omega
          · have hje : j = nq := by omega
            subst hje
            have hpl : i + j < P.length := by rw [(unhide HP').len]; omega
            have hz := unhide HZ (i + j) hpl (Nat.le_refl _)
            have hco := (unhide HP').own.cell (i + j) hpl
            rw [hz] at hco
            have hfo := (unhide HP').own.frozen (i + j)
            have HVn : Hid (Cub.limbs 1000000000 (P.set (i + j) k) ∧ Cub.lval 1000000000 (P.set (i + j) k) = Cub.lval 1000000000 (lp.take (i + 1)) * Cub.lval 1000000000 lq) := by
              have h := (unhide HA).val
              rw [List.take_of_length_le (by have := unhide HNQ; omega), ← unhide HV0, ← unhide HXV, Cub.val_outer] at h
              refine ⟨Cub.limbs_set (unhide HA).lim _ _ hk, ?_⟩
              have e := Cub.lval_set 1000000000 P (i + j) k hpl
              rw [hz] at e
              omega
            have HPn : Hid (OutU w (wr.setCell ⟨w.heap.size + 1 + 1 + 1, i + j, none⟩ (.int .u64 (k : Int))) (.slice (some ⟨b1, o1, none⟩) np cp) (.slice aq j cq) (np + j) (P.set (i + j) k)) := (unhide HP').set (i + j) k _ rfl
            clear hpl hz HA HZ
            go_wp2
            go_roundw
            case rel => exact ⟨i + 1, P.set (i + j) k, by go_num, by omega, HPn, HVn⟩
            case measure => simp [intOf]; omega
    · obtain ⟨t1, t2, _⟩ := Cub.lval_trim 1000000000 _ O rfl
      have HF : Hid (Cub.normal 1000000000 (Cub.trimN O) ∧ Cub.lval 1000000000 (Cub.trimN O) = Cub.lval 1000000000 lp * Cub.lval 1000000000 lq) := by
        refine ⟨t2 (unhide HV).1, ?_⟩
        rw [t1, (unhide HV).2, List.take_of_length_le (by have := unhide HNP; omega)]
      have hsz := (unhide HO).box.size
      have br := (unhide HO).box.c3
      have fr := (unhide HO).box.f3
      clear t1 t2
      go_wp2_with (go_at_call 78; refine (trim_any _ O _ ((unhide HO).own.row (np + nq) (np + nq) (unhide HO).len.symm (Nat.le_refl _) (by unfold maxLen; omega))).mono ?_; rintro e w6 ⟨v', rfl, hrow6, hb6⟩; obtain ⟨a6, cap6, rfl, hcap6⟩ := hrow6.form; obtain ⟨hc6, hf6⟩ := box_later hb6 (g := w.heap.size + 1 + 1) (by omega) br fr)
      refine bodyPost_ret (v := .agg #[.slice a6 (Cub.trimN O).length cap6]) (by simp [results, Tryz.results99, go_sem, hc6]) rfl ⟨_, rfl, ?_, ?_⟩
      · exact ⟨_, _, rfl, hrow6.box _ hc6 (no_int _ _ _), (unhide HF).1, (unhide HF).2⟩
      · exact ((unhide HO).box.below.trans (hb6.mono (by omega))).setCell (p := ⟨w.heap.size + 1 + 1, 0, none⟩) (show w.heap.size ≤ w.heap.size + 1 + 1 by omega) _
theorem mulS (x y : Value) (m n r k : Nat) (w : World) (hx : IsBig w x m) (hy : IsBig w y n) (hk : k ≤ 1000000) (hm : m < 1000000000 ^ k) (hn : n < 1000000000 ^ k) (hr : r = m * n) :
    Calls Tryz.prog 99 #[x, y] w fun e w' => ∃ a l c, e = .returned (.agg #[.slice a l c]) ∧ IsBig w' (.agg #[.slice a l c]) r ∧ Below w.heap.size w w' := by
  subst hr
  refine (mul_any x y m n k w hx hy hk hm hn).mono ?_
  rintro e w' ⟨v, rfl, hv, hb⟩
  obtain ⟨a, n, c, rfl⟩ := hv.shape
  exact ⟨a, n, c, rfl, hv, hb⟩
theorem ten_step (i n p : Nat) (hp : p = 10 ^ i) (h : i < n) (hn : n ≤ 18) : p * 10 ≤ 1000000000000000000 ∧ p * 10 = 10 ^ (i + 1) := by
  subst hp
  rw [← Nat.pow_succ]
  exact ⟨Nat.pow_le_pow_right (n := 10) (by decide) (show i + 1 ≤ 18 by omega), rfl⟩
theorem tenTo_any (n T : Nat) (w : World) (hn : n ≤ 18) (hT : T = 10 ^ n) :
    Calls Tryz.prog 151 #[.int .i64 (n : Int)] w fun e w' => e = .returned (.int .u64 (T : Int)) ∧ w' = w := by
  have HT := hide hT
  clear hT
  go_enter Tryz.func151, Tryz.ntmps151
  go_wp2
  go_loop [3, 5] (fun a t => ∃ p i : Nat, a = .int .u64 (p : Int) ∧ t = .int .i64 (i : Int) ∧ i ≤ n ∧ Hid (p = 10 ^ i)) (fun _ t => n - (intOf t).toNat)
  case atStart => exact ⟨1, 0, rfl, rfl, Nat.zero_le _, rfl⟩
  case round =>
    obtain ⟨p, i, rfl, rfl, hi, HP⟩ := hrel
    by_cases hin : i < n
    · obtain ⟨h1, h2⟩ := ten_step i n p (unhide HP) hin hn
      have HP' : Hid (p * 10 = 10 ^ (i + 1)) := h2
      clear h2
      go_wp2
      go_round
      case rel => exact ⟨p * 10, i + 1, by go_num, by go_num, by omega, HP'⟩
      case measure => simp [intOf]; omega
    · have hie : i = n := by omega
      subst hie
      go_wp2
      go_ret
      exact ⟨by rw [unhide HT, ← unhide HP]; rfl, rfl⟩
/-- A box, and one for the result, kept. -/
structure Res1 (w w4 : World) (a : Value) : Prop where
  c1 : w4.cell? ⟨w.heap.size, 0, none⟩ = some a
  c2 : w4.cell? ⟨w.heap.size + 1, 0, none⟩ = some (.slice none 0 0)
  f2 : w4.frozen? ⟨w.heap.size + 1, 0, none⟩ = false
  below : Below w.heap.size w w4
  size : w.heap.size + 2 ≤ w4.heap.size
theorem res1 {w w4 : World} {a : Value} (hb : Below (w.heap.size + 2) ((w.alloc (.cells #[a] 51)).alloc (.cells #[.slice none 0 0] 51)) w4) : Res1 w w4 a := by
  refine ⟨?_, ?_, ?_, ?_, ?_⟩
  · rw [hb.cell (p := ⟨w.heap.size, 0, none⟩) (show w.heap.size < w.heap.size + 2 by omega)]; simp [go_sem]
  · rw [hb.cell (p := ⟨w.heap.size + 1, 0, none⟩) (show w.heap.size + 1 < w.heap.size + 2 by omega)]; simp [go_sem]
  · rw [hb.frozen (p := ⟨w.heap.size + 1, 0, none⟩) (show w.heap.size + 1 < w.heap.size + 2 by omega)]; simp [go_sem]
  · exact (((Below.refl _ _).alloc (Nat.le_refl _) _).alloc (by simp) _).trans (hb.mono (by omega))
  · have := hb.size; simp at this; omega
theorem Res1.on {w w4 w5 : World} {a : Value} (h : Res1 w w4 a) (hb : Below (w.heap.size + 2) w4 w5) : Res1 w w5 a :=
  ⟨(hb.cell (p := ⟨w.heap.size, 0, none⟩) (show w.heap.size < w.heap.size + 2 by omega)).trans h.c1, (hb.cell (p := ⟨w.heap.size + 1, 0, none⟩) (show w.heap.size + 1 < w.heap.size + 2 by omega)).trans h.c2,
    (hb.frozen (p := ⟨w.heap.size + 1, 0, none⟩) (show w.heap.size + 1 < w.heap.size + 2 by omega)).trans h.f2,
    h.below.trans (hb.mono (by omega)), by have := hb.size; have := h.size; omega⟩
theorem Res1.done {w w4 : World} {a u : Value} (h : Res1 w w4 a) (n : Nat) (hn : IsBig w4 (.agg #[u]) n) :
    IsBig (w4.setCell ⟨w.heap.size + 1, 0, none⟩ u) (.agg #[u]) n ∧ Below w.heap.size w (w4.setCell ⟨w.heap.size + 1, 0, none⟩ u) :=
  ⟨hn.box _ h.c2 (no_int _ _ _), h.below.setCell (by simp) _⟩
theorem splice_high (l : List Nat) (n wh : Nat) (h : n = l.length) : splice (u64s (List.replicate (wh + n) 0)) wh (u64s l) = u64s (List.replicate wh 0 ++ l) := by
  subst h
  unfold splice u64s
  simp
theorem high_normal {l : List Nat} (wh : Nat) (h : Cub.normal 1000000000 l) (h0 : l ≠ []) : Cub.normal 1000000000 (List.replicate wh 0 ++ l) ∧ Cub.lval 1000000000 (List.replicate wh 0 ++ l) = 1000000000 ^ wh * Cub.lval 1000000000 l := by
  refine ⟨⟨Cub.limbs_append.2 ⟨Cub.limbs_zeros _ _ (by decide), h.1⟩, ?_⟩, ?_⟩
  · obtain ⟨t, x, rfl⟩ := Cub.split_last h0
    have := h.2
    simp at this ⊢
    exact this
  · rw [Cub.lval_append, Cub.lval_zeros, List.length_replicate, Nat.zero_add]
theorem shift_val (m p : Nat) : 1000000000 ^ (p / 9) * m * 10 ^ (p % 9) = m * 10 ^ p := by
  have e : (10 : Nat) ^ p = 1000000000 ^ (p / 9) * 10 ^ (p % 9) := by
    rw [← Cub.pow9, ← Nat.pow_add]; congr 1; omega
  rw [e, Nat.mul_comm _ m, Nat.mul_assoc]
theorem one_list {l : List Nat} (hn : Cub.normal 1000000000 l) : Cub.lval 1000000000 l = 1 ↔ l = [1] := by
  constructor
  · intro h
    match l, hn, h with
    | [], _, h => simp [Cub.lval] at h
    | [x], _, h => simp [Cub.lval] at h; rw [h]
    | x :: y :: t, hn, h =>
      have := Cub.normal_ge hn (by simp)
      have h2 : (1000000000 : Nat) ^ 1 ≤ 1000000000 ^ ((x :: y :: t).length - 1) := Nat.pow_le_pow_right (by decide) (by simp)
      omega
  · rintro rfl; rfl
theorem isOne_any (v : Value) (n : Nat) (w : World) (h : IsBig w v n) :
    Calls Tryz.prog 121 #[v] w fun e w' => e = .returned (.bool (n == 1)) ∧ Below w.heap.size w w' := by
  obtain ⟨a, l, cap, rfl, hl, hr, hn, rfl⟩ := h.form
  have h1 := one_list hn
  by_cases hlen : l.length = 1
  · match l, hlen with
    | [x], _ =>
      obtain ⟨a', cap', e, _, _, hc⟩ := hr
      simp only [Value.slice.injEq] at e
      obtain ⟨rfl, _, rfl⟩ := e
      obtain ⟨b, o, rfl, hb, hcell⟩ := hc (by simp)
      have c0 := hcell 0 (by simp)
      simp only [List.getElem_cons_zero, Nat.add_zero] at c0
      have ex : (Cub.lval 1000000000 [x] == 1) = ((x : Int) == 1) := by
        simp [Cub.lval]
        rw [Bool.eq_iff_iff]; simp; omega
      have hx : x < 18446744073709551616 := by have := hn.1 x (by simp); omega
      rw [ex]
      simp only [List.length_cons, List.length_nil, Nat.zero_add] at *
      clear ex h1 hn h hcell hc
      go_enter Tryz.func121, Tryz.ntmps121
      go_wp2
      go_ret
      exact ⟨rfl, (Below.refl _ _).alloc (Nat.le_refl _) _⟩
  · have ex : (Cub.lval 1000000000 l == 1) = false := by
      rw [beq_eq_false_iff_ne]; intro e; exact hlen (by rw [h1.1 e]; rfl)
    have el : ((l.length : Int) == 1) = false := by rw [beq_eq_false_iff_ne]; omega
    rw [ex]
    clear ex h1 hn h hr
    generalize l.length = len at *
    go_enter Tryz.func121, Tryz.ntmps121
    go_wp2
    go_ret
    exact ⟨rfl, (Below.refl _ _).alloc (Nat.le_refl _) _⟩
/-- A box that the call has made holds a value. -/
structure Box (W : World) (g : Nat) (u : Value) : Prop where
  c : W.cell? ⟨g, 0, none⟩ = some u
  f : W.frozen? ⟨g, 0, none⟩ = false
theorem Box.lt {W : World} {g : Nat} {u : Value} (h : Box W g u) : g < W.heap.size := World.block_lt_of_cell? _ _ h.c
theorem Box.later {W V : World} {g : Nat} {u : Value} (h : Box W g u) (hb : Below W.heap.size W V) : Box V g u :=
  ⟨(hb.cell (p := ⟨g, 0, none⟩) h.lt).trans h.c, (hb.frozen (p := ⟨g, 0, none⟩) h.lt).trans h.f⟩
theorem Box.set {W : World} {g : Nat} {u : Value} (h : Box W g u) (x : Value) : Box (W.setCell ⟨g, 0, none⟩ x) g x :=
  ⟨World.cell?_setCell_same _ _ _ h.c, by rw [World.frozen?_setCell]; exact h.f⟩
theorem Box.other {W : World} {g k : Nat} {u : Value} (h : Box W g u) (hk : g ≠ k) (x : Value) : Box (W.setCell ⟨k, 0, none⟩ x) g u :=
  ⟨by rw [World.cell?_setCell_other _ _ _ _ (by intro e; cases e; exact hk rfl)]; exact h.c, by rw [World.frozen?_setCell]; exact h.f⟩
end Go.Proofs.YtijifpbpjinmhaaGreatDoor

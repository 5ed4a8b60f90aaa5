/- nat.manySteps: steps of Euclid's told by the first digits. -/
import Derived.Test.YtijifpbpjinmhaaGreatDoorBigOf
import Derived.Test.YtijifpbpjinmhaaGreatDoorAdd
import Derived.Test.YtijifpbpjinmhaaGreatDoorGcdMath
import Derived.Deep.RegionLaw
import Derived.Deep.Cut
import Derived.Test.YtijifpbpjinmhaaGreatDoorGcdMath2
set_option maxHeartbeats 2000000
set_option maxRecDepth 100000
namespace Cub
/-- Division by one limb in the making: from place j on all is done. -/
structure ShortInv (by' : Nat) (l D : List Nat) (r j : Nat) : Prop where
  len : D.length = l.length
  lim : limbs 1000000000 D
  val : lval 1000000000 (D.drop j) * by' + r = lval 1000000000 (l.drop j)
  rest : r < by'
theorem ShortInv.start (by' : Nat) (l : List Nat) (h : 0 < by') : ShortInv by' l (List.replicate l.length 0) 0 l.length := by
  refine ⟨by simp, limbs_zeros _ _ (by decide), ?_, h⟩
  rw [List.drop_of_length_le (by simp), List.drop_of_length_le (by simp)]
  simp [lval]
theorem ShortInv.step {by' : Nat} {l D : List Nat} {r j : Nat} (h : ShortInv by' l D r (j + 1)) (hj : j < l.length) (hx : l[j] < 1000000000) :
    ShortInv by' l (D.set j ((r * 1000000000 + l[j]) / by')) ((r * 1000000000 + l[j]) % by') j := by
  have hjD : j < D.length := by rw [h.len]; exact hj
  have hr := h.rest
  have hq : (r * 1000000000 + l[j]) / by' < 1000000000 := by
    rw [Nat.div_lt_iff_lt_mul (by omega)]
    have : (r + 1) * 1000000000 ≤ by' * 1000000000 := Nat.mul_le_mul_right _ hr
    rw [Nat.mul_comm 1000000000 by']
    omega
  refine ⟨by rw [List.length_set]; exact h.len, limbs_set h.lim _ _ hq, ?_, Nat.mod_lt _ (by omega)⟩
  have e1 : (D.set j ((r * 1000000000 + l[j]) / by')).drop j = ((r * 1000000000 + l[j]) / by') :: D.drop (j + 1) := by
    rw [List.drop_eq_getElem_cons (by simpa using hjD)]
    congr 1
    · simp
    · rw [List.drop_set_of_lt (by omega)]
  rw [e1, List.drop_eq_getElem_cons hj]
  show ((r * 1000000000 + l[j]) / by' + 1000000000 * lval 1000000000 (D.drop (j + 1))) * by' + (r * 1000000000 + l[j]) % by' = l[j] + 1000000000 * lval 1000000000 (l.drop (j + 1))
  rw [← h.val]
  have e2 := Nat.div_add_mod (r * 1000000000 + l[j]) by'
  generalize (r * 1000000000 + l[j]) / by' = q at *
  generalize (r * 1000000000 + l[j]) % by' = s at *
  generalize lval 1000000000 (D.drop (j + 1)) = V at *
  rw [Nat.add_mul, Nat.mul_add, Nat.mul_assoc, Nat.mul_comm q by']
  omega
theorem ShortInv.last {by' : Nat} {l D : List Nat} {r : Nat} (h : ShortInv by' l D r 0) : lval 1000000000 D = lval 1000000000 l / by' ∧ r = lval 1000000000 l % by' := by
  have h1 := h.val
  rw [List.drop_zero, List.drop_zero] at h1
  have h2 := h.rest
  rw [← h1, Nat.mul_comm]
  refine ⟨?_, ?_⟩
  · rw [Nat.mul_add_div (by omega), Nat.div_eq_of_lt h2]; rfl
  · rw [Nat.mul_add_mod, Nat.mod_eq_of_lt h2]
end Cub
namespace Go.Proofs.YtijifpbpjinmhaaGreatDoor
open Go.RowKit
/-- A box, and two for results, kept. -/
structure Res2 (w w4 : World) (a : Value) : Prop where
  c1 : w4.cell? ⟨w.heap.size, 0, none⟩ = some a
  c2 : w4.cell? ⟨w.heap.size + 1, 0, none⟩ = some (.slice none 0 0)
  f2 : w4.frozen? ⟨w.heap.size + 1, 0, none⟩ = false
  c3 : w4.cell? ⟨w.heap.size + 1 + 1, 0, none⟩ = some (.slice none 0 0)
  f3 : w4.frozen? ⟨w.heap.size + 1 + 1, 0, none⟩ = false
  below : Below w.heap.size w w4
  size : w.heap.size + 3 ≤ w4.heap.size
theorem res2 {w w4 : World} {a : Value} (hb : Below (w.heap.size + 3) (((w.alloc (.cells #[a] 51)).alloc (.cells #[.slice none 0 0] 51)).alloc (.cells #[.slice none 0 0] 51)) w4) : Res2 w w4 a := by
  refine ⟨?_, ?_, ?_, ?_, ?_, ?_, ?_⟩
  · rw [hb.cell (p := ⟨w.heap.size, 0, none⟩) (show w.heap.size < w.heap.size + 3 by omega)]; simp [go_sem]
  · rw [hb.cell (p := ⟨w.heap.size + 1, 0, none⟩) (show w.heap.size + 1 < w.heap.size + 3 by omega)]; simp [go_sem]
  · rw [hb.frozen (p := ⟨w.heap.size + 1, 0, none⟩) (show w.heap.size + 1 < w.heap.size + 3 by omega)]; simp [go_sem]
  · rw [hb.cell (p := ⟨w.heap.size + 1 + 1, 0, none⟩) (show w.heap.size + 1 + 1 < w.heap.size + 3 by omega)]; simp [go_sem]
  · rw [hb.frozen (p := ⟨w.heap.size + 1 + 1, 0, none⟩) (show w.heap.size + 1 + 1 < w.heap.size + 3 by omega)]; simp [go_sem]
  · exact ((((Below.refl _ _).alloc (Nat.le_refl _) _).alloc (by simp) _).alloc (by simp; omega) _).trans (hb.mono (by omega))
  · have := hb.size; simp at this; omega
theorem Res2.on {w w4 w5 : World} {a : Value} (h : Res2 w w4 a) (hb : Below (w.heap.size + 3) w4 w5) : Res2 w w5 a :=
  ⟨(hb.cell (p := ⟨w.heap.size, 0, none⟩) (show w.heap.size < w.heap.size + 3 by omega)).trans h.c1, (hb.cell (p := ⟨w.heap.size + 1, 0, none⟩) (show w.heap.size + 1 < w.heap.size + 3 by omega)).trans h.c2,
    (hb.frozen (p := ⟨w.heap.size + 1, 0, none⟩) (show w.heap.size + 1 < w.heap.size + 3 by omega)).trans h.f2,
    (hb.cell (p := ⟨w.heap.size + 1 + 1, 0, none⟩) (show w.heap.size + 1 + 1 < w.heap.size + 3 by omega)).trans h.c3, (hb.frozen (p := ⟨w.heap.size + 1 + 1, 0, none⟩) (show w.heap.size + 1 + 1 < w.heap.size + 3 by omega)).trans h.f3,
    h.below.trans (hb.mono (by omega)), by have := hb.size; have := h.size; omega⟩
/-- What two stores into the results' boxes leave. -/
theorem Res2.done {w w4 : World} {a u v : Value} (h : Res2 w w4 a) (n m : Nat) (hn : IsBig w4 (.agg #[u]) n) (hm : IsBig w4 (.agg #[v]) m) :
    IsBig ((w4.setCell ⟨w.heap.size + 1, 0, none⟩ u).setCell ⟨w.heap.size + 1 + 1, 0, none⟩ v) (.agg #[u]) n ∧ IsBig ((w4.setCell ⟨w.heap.size + 1, 0, none⟩ u).setCell ⟨w.heap.size + 1 + 1, 0, none⟩ v) (.agg #[v]) m ∧ Below w.heap.size w ((w4.setCell ⟨w.heap.size + 1, 0, none⟩ u).setCell ⟨w.heap.size + 1 + 1, 0, none⟩ v) := by
  have hc : (w4.setCell ⟨w.heap.size + 1, 0, none⟩ u).cell? ⟨w.heap.size + 1 + 1, 0, none⟩ = some (.slice none 0 0) := by
    rw [World.cell?_setCell_other _ _ _ _ (by simp)]; exact h.c3
  exact ⟨(hn.box _ h.c2 (no_int _ _ _)).box _ hc (no_int _ _ _), (hm.box _ h.c2 (no_int _ _ _)).box _ hc (no_int _ _ _), (h.below.setCell (by simp) _).setCell (by simp; omega) _⟩
theorem div_cast (s x d : Nat) : (((s * 1000000000 + x) / d : Nat) : Int) = ((s : Int) * 1000000000 + (x : Int)) / (d : Int) := by
  rw [Int.natCast_ediv, Int.natCast_add, Int.natCast_mul]; rfl
theorem mod_cast' (s x d : Nat) : (((s * 1000000000 + x) % d : Nat) : Int) = ((s : Int) * 1000000000 + (x : Int)) % (d : Int) := by
  rw [Int.natCast_emod, Int.natCast_add, Int.natCast_mul]; rfl
theorem divShort_any (x : Value) (m d k : Nat) (w : World) (hx : IsBig w x m) (hk : k ≤ 1000000) (hm : m < 1000000000 ^ k) (hd : 0 < d) (hd2 : d < 1000000000) :
    Calls Tryz.prog 197 #[x, .int .u64 (d : Int)] w fun e w' => ∃ a1 n1 c1 a2 n2 c2, e = .returned (.tuple #[.agg #[.slice a1 n1 c1], .agg #[.slice a2 n2 c2]]) ∧ IsBig w' (.agg #[.slice a1 n1 c1]) (m / d) ∧ IsBig w' (.agg #[.slice a2 n2 c2]) (m % d) ∧ Below w.heap.size w w' := by
  obtain ⟨ap, lp, cp, rfl, hlp, hrp, hnp, rfl⟩ := hx.form
  have h1 := Cub.len_le hnp hm
  have HP : Hid (Cub.limbs 1000000000 lp ∧ Cells w ap lp) := ⟨hnp.1, hrp.cells.2.2.2⟩
  obtain ⟨np, hnp'⟩ : ∃ np, np = lp.length := ⟨_, rfl⟩
  rw [← hnp'] at h1 ⊢
  have HNP := hide hnp'
  have HS : Hid (Cub.ShortInv d lp (List.replicate np 0) 0 np) := by rw [hnp']; exact Cub.ShortInv.start d lp hd
  clear hx hm hlp hrp hnp hnp'
  obtain ⟨i0, hi, hz0, hz1, hz2⟩ := info_parts Tryz.info41
  go_enter Tryz.func197, Tryz.ntmps197
  go_wp2_with (first
    | (at_make; go_must (refine wpList_make_full _ rfl _ _ 49 rfl (w.heap.size + 3) 41 i0 (.int .u64 0) 1 Tryz.underlying49 hi hz0 hz1 .i64 .i64 _ _ np rfl rfl (by omega) (by omega) (by rw [hz2]; omega) (by unfold maxLen; omega) (by simp) ?_; intro w4 hown4 hgrow4; rw [u64s_made] at hown4; have hO4 : Own w4 (w.heap.size + 1 + 1 + 1) (List.replicate np 0) := (by have := Own.of_row hown4; simpa using this); have hB4 := res2 ((Below.refl (w.heap.size + 3) _).grown hgrow4 (by simp) (fun k hk => by cases hk)); have bp4 := hB4.c1; have HO4 := hide hO4; have HB4 := hide hB4; clear hown4 hgrow4 hO4 hB4)))
  go_loopw [7, 8] (fun r t wr => ∃ (s j : Nat) (D : List Nat), r = .int .u64 (s : Int) ∧ t = .int .i64 ((j : Int) - 1) ∧ j ≤ np ∧ s < d ∧ Hid (Cub.ShortInv d lp D s j) ∧ Hid (Own wr (w.heap.size + 1 + 1 + 1) D) ∧ Hid (Res2 w wr (.slice ap np cp))) (fun _ t _ => (intOf t + 1).toNat)
  case atStart => exact ⟨0, np, _, rfl, by go_num, Nat.le_refl _, hd, HS, HO4, HB4⟩
  case round =>
    obtain ⟨s, j, D, rfl, rfl, hj, hs, HI, HO, HB⟩ := hrel
    clear bp4
    have bp := (unhide HB).c1
    by_cases hj0 : j = 0
    · subst hj0
      obtain ⟨t1, t2, _⟩ := Cub.lval_trim 1000000000 _ D rfl
      have hlast := (unhide HI).last
      have HF : Hid (Cub.normal 1000000000 (Cub.trimN D) ∧ Cub.lval 1000000000 (Cub.trimN D) = Cub.lval 1000000000 lp / d ∧ s = Cub.lval 1000000000 lp % d) := ⟨t2 (unhide HI).lim, t1.trans hlast.1, hlast.2⟩
      have hsz := (unhide HB).size
      have HL : Hid (D.length = np) := by rw [(unhide HI).len, ← unhide HNP]; exact rfl
      clear t1 t2 hlast
      go_wp2_with (first
        | (go_at_call 78; go_must (refine (trim_any _ D _ ((unhide HO).row np np (unhide HL).symm (Nat.le_refl _) (by unfold maxLen; omega))).mono ?_; rintro e w6 ⟨v', rfl, hrow6, hb6⟩; obtain ⟨a6, cap6, rfl, hcap6⟩ := hrow6.form; have HB6 := hide ((unhide HB).on (hb6.mono hsz)); have HR6 : Hid (IsBig w6 (.agg #[.slice a6 (Cub.trimN D).length cap6]) (Cub.lval 1000000000 lp / d)) := ⟨_, _, rfl, hrow6, (unhide HF).1, (unhide HF).2.1⟩; clear hrow6 hb6 bp))
        | (go_at_call 73; go_must (refine (bigOf_any s _ (by omega)).mono ?_; rintro e w7 ⟨a7, n7, c7, rfl, hbig7, hb7⟩; have HB7 := hide ((unhide HB6).on (hb7.mono (unhide HB6).size)); have HR7 := hide ((unhide HR6).later hb7); have HS7 := hide hbig7; clear hbig7 hb7; have b2 := (unhide HB7).c2; have f2 := (unhide HB7).f2; have b3 := (unhide HB7).c3; have f3 := (unhide HB7).f3)))
      obtain ⟨r1, r2, r3⟩ := (unhide HB7).done _ _ (unhide HR7) (unhide HS7)
      refine bodyPost_ret (v := .tuple #[.agg #[.slice a6 (Cub.trimN D).length cap6], .agg #[.slice a7 n7 c7]]) (by simp [results, Tryz.results197, go_sem, b2, b3]) rfl ⟨_, _, _, _, _, _, rfl, r1, ?_, r3⟩
      rw [← (unhide HF).2.2]; exact r2
    · obtain ⟨i, rfl⟩ : ∃ i, j = i + 1 := ⟨j - 1, by omega⟩
      have hil : i < lp.length := by have := unhide HNP; omega
      have hiD : i < D.length := by rw [(unhide HI).len]; exact hil
      obtain ⟨xv, hxv⟩ : ∃ xv, xv = lp[i] := ⟨_, rfl⟩
      have hxB : xv < 1000000000 := by rw [hxv]; exact (unhide HP).1 _ (List.getElem_mem hil)
      obtain ⟨b1, o1, rfl, hcx⟩ := (unhide HP).2 wr (unhide HB).below i hil
      rw [← hxv] at hcx
      have HI' : Hid (Cub.ShortInv d lp (D.set i ((s * 1000000000 + xv) / d)) ((s * 1000000000 + xv) % d) i) := by
        have := (unhide HI).step hil (by rw [← hxv]; exact hxB)
        rw [← hxv] at this; exact this
      have hco := (unhide HO).cell i hiD
      have hfo := (unhide HO).frozen i
      have hsB : s * 1000000000 + xv < 1000000000000000000 := by omega
      have HO' : Hid (Own (wr.setCell ⟨w.heap.size + 1 + 1 + 1, i, none⟩ (.int .u64 (((s : Int) * 1000000000 + (xv : Int)) / (d : Int)))) (w.heap.size + 1 + 1 + 1) (D.set i ((s * 1000000000 + xv) / d))) := by
        have := (unhide HO).set i ((s * 1000000000 + xv) / d)
        rw [show (((s * 1000000000 + xv) / d : Nat) : Int) = ((s : Int) * 1000000000 + (xv : Int)) / (d : Int) from div_cast s xv d] at this
        exact this
      have HB' : Hid (Res2 w (wr.setCell ⟨w.heap.size + 1 + 1 + 1, i, none⟩ (.int .u64 (((s : Int) * 1000000000 + (xv : Int)) / (d : Int)))) (.slice (some ⟨b1, o1, none⟩) np cp)) :=
        (unhide HB).on ((Below.refl (w.heap.size + 3) wr).setCell (p := ⟨w.heap.size + 1 + 1 + 1, i, none⟩) (show w.heap.size + 3 ≤ w.heap.size + 1 + 1 + 1 by omega) _)
      have hmd : (s * 1000000000 + xv) % d < d := Nat.mod_lt _ hd
      rw [show (((i + 1 : Nat) : Int) - 1) = (i : Int) from by omega]
      clear hxv HI
      go_wp2
      go_roundw
      case rel => exact ⟨(s * 1000000000 + xv) % d, i, _, by rw [mod_cast'], by go_num, by omega, hmd, HI', HO', HB'⟩
      case measure => simp [intOf]
end Go.Proofs.YtijifpbpjinmhaaGreatDoor
namespace Go.Proofs.YtijifpbpjinmhaaGreatDoor
open Go.RowKit
theorem mulS (x y : Value) (m n r k : Nat) (w : World) (hx : IsBig w x m) (hy : IsBig w y n) (hk : k ≤ 1000000) (hm : m < 1000000000 ^ k) (hn : n < 1000000000 ^ k) (hr : r = m * n) :
    Calls Tryz.prog 99 #[x, y] w fun e w' => ∃ a l c, e = .returned (.agg #[.slice a l c]) ∧ IsBig w' (.agg #[.slice a l c]) r ∧ Below w.heap.size w w' := by
  subst hr
  refine (mul_any x y m n k w hx hy hk hm hn).mono ?_
  rintro e w' ⟨v, rfl, hv, hb⟩
  obtain ⟨a, n, c, rfl⟩ := hv.shape
  exact ⟨a, n, c, rfl, hv, hb⟩
theorem ten_step (i n p : Nat) (hp : p = 10 ^ i) (h : i < n) (hn : n ≤ 18) : p * 10 ≤ 1000000000000000000 ∧ p * 10 = 10 ^ (i + 1) := by
  subst hp
  rw [← Nat.pow_succ]
  exact ⟨Nat.pow_le_pow_right (n := 10) (by decide) (show i + 1 ≤ 18 by omega), rfl⟩
theorem tenTo_any (n T : Nat) (w : World) (hn : n ≤ 18) (hT : T = 10 ^ n) :
    Calls Tryz.prog 151 #[.int .i64 (n : Int)] w fun e w' => e = .returned (.int .u64 (T : Int)) ∧ w' = w := by
  have HT := hide hT
  clear hT
  go_enter Tryz.func151, Tryz.ntmps151
  go_wp2
  go_loop [3, 5] (fun a t => ∃ p i : Nat, a = .int .u64 (p : Int) ∧ t = .int .i64 (i : Int) ∧ i ≤ n ∧ Hid (p = 10 ^ i)) (fun _ t => n - (intOf t).toNat)
  case atStart => exact ⟨1, 0, rfl, rfl, Nat.zero_le _, rfl⟩
  case round =>
    obtain ⟨p, i, rfl, rfl, hi, HP⟩ := hrel
    by_cases hin : i < n
    · obtain ⟨h1, h2⟩ := ten_step i n p (unhide HP) hin hn
      have HP' : Hid (p * 10 = 10 ^ (i + 1)) := h2
      clear h2
      go_wp2
      go_round
      case rel => exact ⟨p * 10, i + 1, by go_num, by go_num, by omega, HP'⟩
      case measure => simp [intOf]; omega
    · have hie : i = n := by omega
      subst hie
      go_wp2
      go_ret
      exact ⟨by rw [unhide HT, ← unhide HP]; rfl, rfl⟩
/-- A box, and one for the result, kept. -/
structure Res1 (w w4 : World) (a : Value) : Prop where
  c1 : w4.cell? ⟨w.heap.size, 0, none⟩ = some a
  c2 : w4.cell? ⟨w.heap.size + 1, 0, none⟩ = some (.slice none 0 0)
  f2 : w4.frozen? ⟨w.heap.size + 1, 0, none⟩ = false
  below : Below w.heap.size w w4
  size : w.heap.size + 2 ≤ w4.heap.size
theorem res1 {w w4 : World} {a : Value} (hb : Below (w.heap.size + 2) ((w.alloc (.cells #[a] 51)).alloc (.cells #[.slice none 0 0] 51)) w4) : Res1 w w4 a := by
  refine ⟨?_, ?_, ?_, ?_, ?_⟩
  · rw [hb.cell (p := ⟨w.heap.size, 0, none⟩) (show w.heap.size < w.heap.size + 2 by omega)]; simp [go_sem]
  · rw [hb.cell (p := ⟨w.heap.size + 1, 0, none⟩) (show w.heap.size + 1 < w.heap.size + 2 by omega)]; simp [go_sem]
  · rw [hb.frozen (p := ⟨w.heap.size + 1, 0, none⟩) (show w.heap.size + 1 < w.heap.size + 2 by omega)]; simp [go_sem]
  · exact (((Below.refl _ _).alloc (Nat.le_refl _) _).alloc (by simp) _).trans (hb.mono (by omega))
  · have := hb.size; simp at this; omega
theorem Res1.on {w w4 w5 : World} {a : Value} (h : Res1 w w4 a) (hb : Below (w.heap.size + 2) w4 w5) : Res1 w w5 a :=
  ⟨(hb.cell (p := ⟨w.heap.size, 0, none⟩) (show w.heap.size < w.heap.size + 2 by omega)).trans h.c1, (hb.cell (p := ⟨w.heap.size + 1, 0, none⟩) (show w.heap.size + 1 < w.heap.size + 2 by omega)).trans h.c2,
    (hb.frozen (p := ⟨w.heap.size + 1, 0, none⟩) (show w.heap.size + 1 < w.heap.size + 2 by omega)).trans h.f2,
    h.below.trans (hb.mono (by omega)), by have := hb.size; have := h.size; omega⟩
theorem Res1.done {w w4 : World} {a u : Value} (h : Res1 w w4 a) (n : Nat) (hn : IsBig w4 (.agg #[u]) n) :
    IsBig (w4.setCell ⟨w.heap.size + 1, 0, none⟩ u) (.agg #[u]) n ∧ Below w.heap.size w (w4.setCell ⟨w.heap.size + 1, 0, none⟩ u) :=
  ⟨hn.box _ h.c2 (no_int _ _ _), h.below.setCell (by simp) _⟩
theorem splice_high (l : List Nat) (n wh : Nat) (h : n = l.length) : splice (u64s (List.replicate (wh + n) 0)) wh (u64s l) = u64s (List.replicate wh 0 ++ l) := by
  subst h
  unfold splice u64s
  simp
theorem high_normal {l : List Nat} (wh : Nat) (h : Cub.normal 1000000000 l) (h0 : l ≠ []) : Cub.normal 1000000000 (List.replicate wh 0 ++ l) ∧ Cub.lval 1000000000 (List.replicate wh 0 ++ l) = 1000000000 ^ wh * Cub.lval 1000000000 l := by
  refine ⟨⟨Cub.limbs_append.2 ⟨Cub.limbs_zeros _ _ (by decide), h.1⟩, ?_⟩, ?_⟩
  · obtain ⟨t, x, rfl⟩ := Cub.split_last h0
    have := h.2
    simp at this ⊢
    exact this
  · rw [Cub.lval_append, Cub.lval_zeros, List.length_replicate, Nat.zero_add]
theorem shift_val (m p : Nat) : 1000000000 ^ (p / 9) * m * 10 ^ (p % 9) = m * 10 ^ p := by
  have e : (10 : Nat) ^ p = 1000000000 ^ (p / 9) * 10 ^ (p % 9) := by
    rw [← Cub.pow9, ← Nat.pow_add]; congr 1; omega
  rw [e, Nat.mul_comm _ m, Nat.mul_assoc]
/-- Two numbers and the place of the result in their boxes. -/
structure Many3 (w W : World) (a b : Value) : Prop where
  c1 : W.cell? ⟨w.heap.size, 0, none⟩ = some a
  c2 : W.cell? ⟨w.heap.size + 1, 0, none⟩ = some b
  r0 : W.cell? ⟨w.heap.size + 1 + 1, 0, none⟩ = some (.int .i64 0)
  r1 : W.cell? ⟨w.heap.size + 1 + 1, 1, none⟩ = some (.int .i64 0)
  r2 : W.cell? ⟨w.heap.size + 1 + 1, 2, none⟩ = some (.int .i64 0)
  r3 : W.cell? ⟨w.heap.size + 1 + 1, 3, none⟩ = some (.int .i64 0)
  fr : ∀ i, W.frozen? ⟨w.heap.size + 1 + 1, i, none⟩ = false
  size : w.heap.size + 3 ≤ W.heap.size
theorem Many3.on {w W V : World} {a b : Value} (h : Many3 w W a b) (hb : Below W.heap.size W V) : Many3 w V a b := by
  have hz := h.size
  exact ⟨(hb.cell (p := ⟨w.heap.size, 0, none⟩) (show w.heap.size < W.heap.size by omega)).trans h.c1, (hb.cell (p := ⟨w.heap.size + 1, 0, none⟩) (show w.heap.size + 1 < W.heap.size by omega)).trans h.c2,
    (hb.cell (p := ⟨w.heap.size + 1 + 1, 0, none⟩) (show w.heap.size + 1 + 1 < W.heap.size by omega)).trans h.r0, (hb.cell (p := ⟨w.heap.size + 1 + 1, 1, none⟩) (show w.heap.size + 1 + 1 < W.heap.size by omega)).trans h.r1,
    (hb.cell (p := ⟨w.heap.size + 1 + 1, 2, none⟩) (show w.heap.size + 1 + 1 < W.heap.size by omega)).trans h.r2, (hb.cell (p := ⟨w.heap.size + 1 + 1, 3, none⟩) (show w.heap.size + 1 + 1 < W.heap.size by omega)).trans h.r3,
    fun i => (hb.frozen (p := ⟨w.heap.size + 1 + 1, i, none⟩) (show w.heap.size + 1 + 1 < W.heap.size by omega)).trans (h.fr i), by have := hb.size; omega⟩
/-- The steps so far, in their box, which came behind U. -/
structure St4 (U W : World) (A B C D : Int) : Prop where
  q0 : W.cell? ⟨U.heap.size, 0, none⟩ = some (.int .i64 A)
  q1 : W.cell? ⟨U.heap.size, 1, none⟩ = some (.int .i64 B)
  q2 : W.cell? ⟨U.heap.size, 2, none⟩ = some (.int .i64 C)
  q3 : W.cell? ⟨U.heap.size, 3, none⟩ = some (.int .i64 D)
  fr : ∀ i, W.frozen? ⟨U.heap.size, i, none⟩ = false
  below : Below U.heap.size U W
theorem cell_other (W : World) {g i j : Nat} {u v : Value} (h : W.cell? ⟨g, j, none⟩ = some v) (hij : i ≠ j) : (W.setCell ⟨g, i, none⟩ u).cell? ⟨g, j, none⟩ = some v := by
  rw [World.cell?_setCell_other _ _ _ _ (by intro e; simp only [Addr.mk.injEq] at e; exact hij e.2.1)]; exact h
theorem cell_same (W : World) {g i : Nat} {u v : Value} (h : W.cell? ⟨g, i, none⟩ = some v) : (W.setCell ⟨g, i, none⟩ u).cell? ⟨g, i, none⟩ = some u :=
  World.cell?_setCell_same' _ _ _ (by rw [h]; rfl)
theorem St4.set {U W : World} {A B C D : Int} (h : St4 U W A B C D) (a b c d : Int) :
    St4 U ((((W.setCell ⟨U.heap.size, 0, none⟩ (.int .i64 a)).setCell ⟨U.heap.size, 1, none⟩ (.int .i64 b)).setCell ⟨U.heap.size, 2, none⟩ (.int .i64 c)).setCell ⟨U.heap.size, 3, none⟩ (.int .i64 d)) a b c d := by
  refine ⟨?_, ?_, ?_, ?_, ?_, ?_⟩
  · exact cell_other _ (cell_other _ (cell_other _ (cell_same _ h.q0) (by decide)) (by decide)) (by decide)
  · exact cell_other _ (cell_other _ (cell_same _ (cell_other _ h.q1 (by decide))) (by decide)) (by decide)
  · exact cell_other _ (cell_same _ (cell_other _ (cell_other _ h.q2 (by decide)) (by decide))) (by decide)
  · exact cell_same _ (cell_other _ (cell_other _ (cell_other _ h.q3 (by decide)) (by decide)) (by decide))
  · intro i; simp only [World.frozen?_setCell]; exact h.fr i
  · exact (((h.below.setCell (Nat.le_refl _) _).setCell (Nat.le_refl _) _).setCell (Nat.le_refl _) _).setCell (Nat.le_refl _) _
theorem St4.first (U : World) : St4 U (U.alloc (.cells #[.int .i64 1, .int .i64 0, .int .i64 0, .int .i64 1] 184)) 1 0 0 1 :=
  ⟨by simp [go_sem], by simp [go_sem], by simp [go_sem], by simp [go_sem], fun i => by simp [go_sem], (Below.refl _ _).alloc (Nat.le_refl _) _⟩
theorem many_any (x y : Value) (b c k : Nat) (w : World) (hx : IsBig w x b) (hy : IsBig w y c) (hcb : c ≤ b) (hc : 1000000000000000000 ≤ c) (hk : k ≤ 100000) (hbk : b < 1000000000 ^ k) :
    Calls Tryz.prog 167 #[x, y] w fun e w' => ∃ A B C D : Int, e = .returned (.agg #[.int .i64 A, .int .i64 B, .int .i64 C, .int .i64 D]) ∧ Hid (Cub.Good b c A B C D) ∧ Below w.heap.size w w' := by
  have HX := hide hx
  have HY := hide hy
  obtain ⟨ap, lp, cp, rfl, hlp, hrp, hnp, hvp⟩ := hx.form
  obtain ⟨aq, lq, cq, rfl, hlq, hrq, hnq, hvq⟩ := hy.form
  have h1 : lp.length ≤ k := Cub.len_le hnp (by rw [hvp]; exact hbk)
  have h3 : ¬ lp.length ≤ 2 := fun h => by
    have := Cub.lval_lt hnp.1
    have h2 : (1000000000 : Nat) ^ lp.length ≤ 1000000000 ^ 2 := Nat.pow_le_pow_right (by decide) h
    omega
  obtain ⟨t, ht⟩ : ∃ t, lp.length = t + 3 := ⟨lp.length - 3, by omega⟩
  have h2 : lq.length ≤ t + 3 := by
    rw [← ht]
    exact Cub.len_le hnq (by have := Cub.lval_lt hnp.1; omega)
  obtain ⟨d, hd1, hd2, hd3⟩ := Cub.up_of hnp ht
  rw [hvp] at hd1 hd3
  obtain ⟨up, hup⟩ : ∃ up, up = 10 ^ d := ⟨_, rfl⟩
  rw [← hup] at hd3
  obtain ⟨e, he⟩ : ∃ e, e = 10 ^ (9 - d) := ⟨_, rfl⟩
  have hue : up * e = 1000000000 := by rw [hup, he, ← Nat.pow_add, show d + (9 - d) = 9 by omega]
  have hup0 : 0 < up := by rw [hup]; exact Nat.pow_pos (by decide)
  have he0 : 0 < e := by rw [he]; exact Nat.pow_pos (by decide)
  have hup9 : up ≤ 1000000000 := by rw [← hue]; exact Nat.le_mul_of_pos_right _ he0
  have hee : e = 1000000000 / up := by rw [← hue, Nat.mul_div_cancel_left _ hup0]
  obtain ⟨X, hX⟩ : ∃ X, X = (lp.getD (t + 2) 0 * 1000000000 + lp.getD (t + 1) 0) * up + lp.getD t 0 / e := ⟨_, rfl⟩
  obtain ⟨Y, hY⟩ : ∃ Y, Y = (lq.getD (t + 2) 0 * 1000000000 + lq.getD (t + 1) 0) * up + lq.getD t 0 / e := ⟨_, rfl⟩
  obtain ⟨⟨u, hu1, hu2⟩, hX18⟩ := Cub.first_of lp t up e X hnp.1 (by omega) hue (by rw [hvp]; exact hd3) hX
  obtain ⟨⟨v, hv1, hv2⟩, hY18⟩ := Cub.first_of lq t up e Y hnq.1 h2 hue (by rw [hvq]; exact Nat.lt_of_le_of_lt (Nat.mul_le_mul_right _ hcb) hd3) hY
  rw [hvp] at hu1
  rw [hvq] at hv1
  obtain ⟨P, hP⟩ : ∃ P, P = 1000000000 ^ (t + 1) := ⟨_, rfl⟩
  have hP0 : 0 < P := by rw [hP]; exact Nat.pow_pos (by decide)
  rw [← hP] at hu1 hu2 hv1 hv2
  have hXh := Nat.lt_of_le_of_lt (Nat.le_add_right _ _) (hX ▸ hX18)
  have hYh := Nat.lt_of_le_of_lt (Nat.le_add_right _ _) (hY ▸ hY18)
  have H69 := hide (fun W hW => len_any (.agg #[.slice ap lp.length cp]) b k W hW (by omega) hbk)
  have H109 := hide (fun W => tenTo_any d up W (by omega) hup)
  have H110x := hide (fun W (hW : Below w.heap.size w W) => first_any ap lp cp t up _ _ _ _ e X W (hrp.later hW) rfl rfl rfl (by omega) (Cub.getD9_lt hnp.1 _) (Cub.getD9_lt hnp.1 _) (Cub.getD9_lt hnp.1 _) rfl hup0 hup9 hee hX hXh)
  have H110y := hide (fun W (hW : Below w.heap.size w W) => first_any aq lq cq t up _ _ _ _ e Y W (hrq.later hW) rfl rfl rfl (by omega) (Cub.getD9_lt hnq.1 _) (Cub.getD9_lt hnq.1 _) (Cub.getD9_lt hnq.1 _) rfl hup0 hup9 hee hY hYh)
  have HLS : Hid (∀ x y A B C D q : Int, Cub.LS b c X Y x y A B C D → y + C ≠ 0 → y + D ≠ 0 → q = (x + A) / (y + C) → q = (x + B) / (y + D) → Cub.LS b c X Y y (x - q * y) C D (A - q * C) (B - q * D) ∧ x - q * y < y ∧ 0 ≤ q) := fun x y A B C D q h e1 e2 q1 q2 =>
    h.step (U := (up : Int)) (P := (P : Int)) (u := (u : Int)) (v := (v : Int)) e1 e2 q1 q2 (by omega) (by omega) (by exact_mod_cast hu1) (by exact_mod_cast hv1) (by omega) (by omega) (by omega) (by omega) (by omega) (by omega)
  have HL0 : Hid (Cub.LS b c X Y X Y 1 0 0 1) := Cub.LS.start (by omega) (by omega) (by omega) (by omega) (by omega) (by omega)
  rw [ht] at H69 H110x ⊢
  have HD : Hid ((9 * ((t : Int) + 3)) - ((Lib.nDigits b : Nat) : Int) = (d : Int)) := by show _ = _; omega
  have hnd : Lib.nDigits b ≤ 9 * (t + 3) := by omega
  generalize Lib.nDigits b = nd at *
  generalize lq.length = nq at *
  have htk : t ≤ 100000 := by omega
  have H109' : Hid (∀ W : World, Calls Tryz.prog 151 #[.int .i64 (9 * ((t : Int) + 3) - (nd : Int))] W fun e w' => e = .returned (.int .u64 (up : Int)) ∧ w' = W) := fun W => by rw [unhide HD]; exact unhide H109 W
  have H110x' : Hid (∀ W : World, Below w.heap.size w W → Calls Tryz.prog 201 #[.agg #[.slice ap (t + 3) cp], .int .i64 ((t : Int) + 3 - 1), .int .u64 (up : Int)] W fun e w' => e = .returned (.int .u64 (X : Int)) ∧ Below W.heap.size W w') := fun W hW => by
    have := unhide H110x W hW; rw [show ((t + 2 : Nat) : Int) = (t : Int) + 3 - 1 by omega] at this; exact this
  have H110y' : Hid (∀ W : World, Below w.heap.size w W → Calls Tryz.prog 201 #[.agg #[.slice aq nq cq], .int .i64 ((t : Int) + 3 - 1), .int .u64 (up : Int)] W fun e w' => e = .returned (.int .u64 (Y : Int)) ∧ Below W.heap.size W w') := fun W hW => by
    have := unhide H110y W hW; rw [show ((t + 2 : Nat) : Int) = (t : Int) + 3 - 1 by omega] at this; exact this
  clear H109 H110x H110y HD
  clear hx hy hcb hc hbk hlp hlq hrp hrq hnp hnq hvp hvq h1 h3 h2 hd1 hd3 hup he hue hup0 he0 hup9 hee hX hY hXh hYh hu1 hu2 hv1 hv2 hP hP0
  go_enter Tryz.func167, Tryz.ntmps167
  go_upto_region 2 with fail
  obtain ⟨W, hW⟩ : ∃ W, W = (((w.alloc (.cells #[.slice ap (t + 3) cp] 51)).alloc (.cells #[.slice aq nq cq] 51)).alloc (.cells #[.int .i64 0, .int .i64 0, .int .i64 0, .int .i64 0] 184)) := ⟨_, rfl⟩
  have HW : Hid (Below w.heap.size w W) := by rw [hW]; exact (((Below.refl _ _).alloc (Nat.le_refl _) _).alloc (by simp) _).alloc (by simp; omega) _
  have HM : Hid (Many3 w W (.slice ap (t + 3) cp) (.slice aq nq cq)) := by
    rw [hW]
    exact ⟨by simp [go_sem], by simp [go_sem], by simp [go_sem], by simp [go_sem], by simp [go_sem], by simp [go_sem], fun i => by simp [go_sem], by simp⟩
  rw [← hW]
  clear hW
  have c1 : ∀ z : Later W, z.world.cell? ⟨w.heap.size, 0, none⟩ = some (.slice ap (t + 3) cp) := fun z => ((unhide HM).on z.below).c1
  have c2 : ∀ z : Later W, z.world.cell? ⟨w.heap.size + 1, 0, none⟩ = some (.slice aq nq cq) := fun z => ((unhide HM).on z.below).c2
  have H69z : Hid (∀ z : Later W, Calls Tryz.prog 136 #[.agg #[.slice ap (t + 3) cp]] z.world fun e w' => e = .returned (.int .i64 (nd : Int)) ∧ Below z.world.heap.size z.world w') := fun z => unhide H69 _ (by have := (unhide HX).later ((unhide HW).trans (z.below.mono (unhide HW).size)); rw [ht] at this; exact this)
  clear H69
  refine quiet_later (by kernel_rfl) (by kernel_rfl) ?_
  iterate 6 (go_big_quiet_step ((rename_i xx; refine (unhide H69z xx).mono ?_; rintro e w9 ⟨rfl, hb9⟩; have hz := xx.below.trans (hb9.mono xx.below.size); first | exact ⟨rfl, ⟨w9, hz⟩, rfl⟩ | exact ⟨rfl, hz⟩ | exact ⟨rfl, w9, hz, rfl⟩)))
  repeat (go_big_quiet_step ((rename_i xx; refine (unhide H109' xx.world).mono ?_; rintro e w9 ⟨rfl, hb9⟩; have hz := xx.below; rw [← hb9] at hz; first | exact ⟨rfl, ⟨w9, hz⟩, rfl⟩ | exact ⟨rfl, hz⟩ | exact ⟨rfl, w9, hz, rfl⟩)))
  refine wpQuiet_nil ?_
  intro _ hw'
  obtain ⟨xz, hw''⟩ := hw'
  subst hw''
  obtain ⟨V, hV⟩ : ∃ V, V = xz.world := ⟨_, rfl⟩
  have HWV : Hid (Below W.heap.size W V) := by rw [hV]; exact xz.below
  rw [← hV]
  clear hV H69z H109'
  replace c1 : ∀ z : Later V, z.world.cell? ⟨w.heap.size, 0, none⟩ = some (.slice ap (t + 3) cp) := fun z => c1 ⟨z.world, (unhide HWV).trans (z.below.mono (unhide HWV).size)⟩
  replace c2 : ∀ z : Later V, z.world.cell? ⟨w.heap.size + 1, 0, none⟩ = some (.slice aq nq cq) := fun z => c2 ⟨z.world, (unhide HWV).trans (z.below.mono (unhide HWV).size)⟩
  have hXi : (X : Int) < 1000000000000000000 := by omega
  have hYi : (Y : Int) < 1000000000000000000 := by omega
  go_upto_region 3 with fail
  refine quiet_later (by kernel_rfl) (by kernel_rfl) ?_
  iterate 5 (go_big_quiet_step ((rename_i xx; refine (unhide H110x' _ ((unhide HW).trans (((unhide HWV).trans (xx.below.mono (unhide HWV).size)).mono (unhide HW).size))).mono ?_; rintro e w9 ⟨rfl, hb9⟩; have hz := xx.below.trans (hb9.mono xx.below.size); first | exact ⟨rfl, ⟨w9, hz⟩, rfl⟩ | exact ⟨rfl, hz⟩ | exact ⟨rfl, w9, hz, rfl⟩)))
  repeat (go_big_quiet_step ((rename_i xx; refine (unhide H110y' _ ((unhide HW).trans (((unhide HWV).trans (xx.below.mono (unhide HWV).size)).mono (unhide HW).size))).mono ?_; rintro e w9 ⟨rfl, hb9⟩; have hz := xx.below.trans (hb9.mono xx.below.size); first | exact ⟨rfl, ⟨w9, hz⟩, rfl⟩ | exact ⟨rfl, hz⟩ | exact ⟨rfl, w9, hz, rfl⟩)))
  refine wpQuiet_nil ?_
  intro _ hw'
  obtain ⟨xy, hw''⟩ := hw'
  subst hw''
  obtain ⟨U, hU⟩ : ∃ U, U = xy.world := ⟨_, rfl⟩
  have HWU : Hid (Below W.heap.size W U) := by rw [hU]; exact (unhide HWV).trans (xy.below.mono (unhide HWV).size)
  rw [← hU]
  clear hU H110x' H110y' c1 c2 HWV
  have HMU := hide ((unhide HM).on (unhide HWU))
  have HBU := hide ((unhide HW).trans ((unhide HWU).mono (unhide HW).size))
  clear HM HWU HW
  go_wp2_with fail
  go_loopw [7, 8] (fun v7 v8 wr => ∃ (x y A B C D : Int), v7 = .int .i64 x ∧ v8 = .int .i64 y ∧ Hid (Cub.LS b c X Y x y A B C D) ∧ Hid (St4 U wr A B C D)) (fun _ v8 _ => (intOf v8).toNat)
  case atStart => exact ⟨X, Y, 1, 0, 0, 1, rfl, rfl, HL0, St4.first U⟩
  case round =>
    obtain ⟨x, y, A, B, C, D, rfl, rfl, HL, HS⟩ := hrel
    clear HL0 hXi hYi hX18 hY18
    obtain ⟨x1, x2, y1, y2, ⟨a1, a2⟩, ⟨b1, b2⟩, ⟨c1, c2⟩, ⟨d1, d2⟩, x0, y0, -, -⟩ := (unhide HL).bounds
    have x3 := (unhide HL).hx
    have y3 := (unhide HL).hy
    have q0 := (unhide HS).q0; have q1 := (unhide HS).q1; have q2 := (unhide HS).q2; have q3 := (unhide HS).q3
    have r0 := ((unhide HMU).on (unhide HS).below).r0; have r1 := ((unhide HMU).on (unhide HS).below).r1; have r2 := ((unhide HMU).on (unhide HS).below).r2; have r3 := ((unhide HMU).on (unhide HS).below).r3
    have fr := ((unhide HMU).on (unhide HS).below).fr
    have HE : Hid (Cub.Good b c A B C D ∧ Below w.heap.size w wr) := ⟨(unhide HL).good, (unhide HBU).trans ((unhide HS).below.mono (unhide HBU).size)⟩
    by_cases h1 : y + C = 0
    · have e1 : ((y + C) != 0) = false := by rw [h1]; rfl
      clear h1
      go_wp2_with fail
      exact bodyPost_ret (v := .agg #[.int .i64 A, .int .i64 B, .int .i64 C, .int .i64 D]) (by simp [results, Tryz.results167, go_sem, r0, r1, r2, r3]) rfl ⟨A, B, C, D, rfl, (unhide HE).1, ((((unhide HE).2.setCell (by simp; omega) _).setCell (by simp; omega) _).setCell (by simp; omega) _).setCell (by simp; omega) _⟩
    · have e1 : ((y + C) != 0) = true := by rw [bne_iff_ne]; exact h1
      by_cases h2 : y + D = 0
      · have e2 : ((y + D) != 0) = false := by rw [h2]; rfl
        clear h1 h2
        go_wp2_with fail
        exact bodyPost_ret (v := .agg #[.int .i64 A, .int .i64 B, .int .i64 C, .int .i64 D]) (by simp [results, Tryz.results167, go_sem, r0, r1, r2, r3]) rfl ⟨A, B, C, D, rfl, (unhide HE).1, ((((unhide HE).2.setCell (by simp; omega) _).setCell (by simp; omega) _).setCell (by simp; omega) _).setCell (by simp; omega) _⟩
      · have e2 : ((y + D) != 0) = true := by rw [bne_iff_ne]; exact h2
        have y4 : 0 < y + C := by omega
        have y5 : 0 < y + D := by omega
        obtain ⟨q, hq⟩ : ∃ q, (x + A) / (y + C) = q := ⟨_, rfl⟩
        obtain ⟨p, hp⟩ : ∃ p, (x + B) / (y + D) = p := ⟨_, rfl⟩
        obtain ⟨q5, q6, -⟩ := Cub.quo_facts x1 y1 h1 hq.symm
        have q7 : q ≤ 1000000001000000000 := by
          have := Int.ediv_le_self (y + C) x1
          omega
        obtain ⟨p5, p6, -⟩ := Cub.quo_facts x2 y2 h2 hp.symm
        have p7 : p ≤ 1000000001000000000 := by
          have := Int.ediv_le_self (y + D) x2
          omega
        clear q6 p6
        by_cases hqp : q = p
        · subst hqp
          have HQ : Hid (q = (x + A) / (y + C) ∧ q = (x + B) / (y + D)) := ⟨hq.symm, hp.symm⟩
          obtain ⟨n1, n2, -⟩ := unhide HLS x y A B C D q (unhide HL) h1 h2 (unhide HQ).1 (unhide HQ).2
          have HN1 := hide n1
          obtain ⟨⟨t1, t2⟩, ⟨t3, t4⟩, t5, t6⟩ := (unhide HL).products (unhide HN1) q5
          obtain ⟨-, -, -, -, -, -, ⟨z1, z2⟩, ⟨z3, z4⟩, -, z5, -, -⟩ := (unhide HN1).bounds
          have HS' := hide ((unhide HS).set C D (A - q * C) (B - q * D))
          have fq := (unhide HS).fr
          clear h1 h2 HE HL n1 HLS
          go_wp2_with fail
          exact ⟨⟨y, x - q * y, C, D, A - q * C, B - q * D, rfl, rfl, HN1, HS'⟩, by simp only [intOf]; omega⟩
        · have e3 : (q != p) = true := by rw [bne_iff_ne]; exact hqp
          clear h1 h2 hqp
          go_wp2_with fail
          exact bodyPost_ret (v := .agg #[.int .i64 A, .int .i64 B, .int .i64 C, .int .i64 D]) (by simp [results, Tryz.results167, go_sem, r0, r1, r2, r3]) rfl ⟨A, B, C, D, rfl, (unhide HE).1, ((((unhide HE).2.setCell (by simp; omega) _).setCell (by simp; omega) _).setCell (by simp; omega) _).setCell (by simp; omega) _⟩
end Go.Proofs.YtijifpbpjinmhaaGreatDoor

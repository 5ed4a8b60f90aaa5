/- A float's parts, over all floats: flo.cut (66), IsInf (37) at 0, b < 0, b - b, the document's parts (41). -/
import Derived.Test.YtijifpbpjinmhaaGreatDoorRefPower
import Derived.Test.YtijifpbpjinmhaaGreatDoorCmpMath
import Derived.Test.YtijifpbpjinmhaaGreatDoorRefDivMath
import Derived.Test.YtijifpbpjinmhaaGreatDoorShelfB
import Derived.Deep.RegionLaw
import Derived.Deep.Cut
import Derived.Test.YtijifpbpjinmhaaGreatDoorSz
import Derived.WalkLawsBesides
import Derived.Test.YtijifpbpjinmhaaGreatDoorWords
set_option maxHeartbeats 4000000
set_option maxRecDepth 100000
namespace Cub
/-- Division by one limb in the making: from place j on all is done. -/
structure ShortInv (by' : Nat) (l D : List Nat) (r j : Nat) : Prop where
  len : D.length = l.length
  lim : limbs 1000000000 D
  val : lval 1000000000 (D.drop j) * by' + r = lval 1000000000 (l.drop j)
  rest : r < by'
theorem ShortInv.start (by' : Nat) (l : List Nat) (h : 0 < by') : ShortInv by' l (List.replicate l.length 0) 0 l.length := by
  refine ⟨by simp, limbs_zeros _ _ (by decide), ?_, h⟩
  rw [List.drop_of_length_le (by simp), List.drop_of_length_le (by simp)]
  simp [lval]
theorem ShortInv.step {by' : Nat} {l D : List Nat} {r j : Nat} (h : ShortInv by' l D r (j + 1)) (hj : j < l.length) (hx : l[j] < 1000000000) :
    ShortInv by' l (D.set j ((r * 1000000000 + l[j]) / by')) ((r * 1000000000 + l[j]) % by') j := by
  have hjD : j < D.length := by rw [h.len]; exact hj
  have hr := h.rest
  have hq : (r * 1000000000 + l[j]) / by' < 1000000000 := by
    rw [Nat.div_lt_iff_lt_mul (by omega)]
    have : (r + 1) * 1000000000 ≤ by' * 1000000000 := Nat.mul_le_mul_right _ hr
    rw [Nat.mul_comm 1000000000 by']
    omega
  refine ⟨by rw [List.length_set]; exact h.len, limbs_set h.lim _ _ hq, ?_, Nat.mod_lt _ (by omega)⟩
  have e1 : (D.set j ((r * 1000000000 + l[j]) / by')).drop j = ((r * 1000000000 + l[j]) / by') :: D.drop (j + 1) := by
    rw [List.drop_eq_getElem_cons (by simpa using hjD)]
    congr 1
    · simp
    · rw [List.drop_set_of_lt (by omega)]
  rw [e1, List.drop_eq_getElem_cons hj]
  show ((r * 1000000000 + l[j]) / by' + 1000000000 * lval 1000000000 (D.drop (j + 1))) * by' + (r * 1000000000 + l[j]) % by' = l[j] + 1000000000 * lval 1000000000 (l.drop (j + 1))
  rw [← h.val]
  have e2 := Nat.div_add_mod (r * 1000000000 + l[j]) by'
  generalize (r * 1000000000 + l[j]) / by' = q at *
  generalize (r * 1000000000 + l[j]) % by' = s at *
  generalize lval 1000000000 (D.drop (j + 1)) = V at *
  rw [Nat.add_mul, Nat.mul_add, Nat.mul_assoc, Nat.mul_comm q by']
  omega
theorem ShortInv.last {by' : Nat} {l D : List Nat} {r : Nat} (h : ShortInv by' l D r 0) : lval 1000000000 D = lval 1000000000 l / by' ∧ r = lval 1000000000 l % by' := by
  have h1 := h.val
  rw [List.drop_zero, List.drop_zero] at h1
  have h2 := h.rest
  rw [← h1, Nat.mul_comm]
  refine ⟨?_, ?_⟩
  · rw [Nat.mul_add_div (by omega), Nat.div_eq_of_lt h2]; rfl
  · rw [Nat.mul_add_mod, Nat.mod_eq_of_lt h2]
end Cub
namespace Go.Proofs.YtijifpbpjinmhaaGreatDoor
open Go.RowKit
/-- A box, and two for results, kept. -/
structure Res2 (w w4 : World) (a : Value) : Prop where
  c1 : w4.cell? ⟨w.heap.size, 0, none⟩ = some a
  c2 : w4.cell? ⟨w.heap.size + 1, 0, none⟩ = some (.slice none 0 0)
  f2 : w4.frozen? ⟨w.heap.size + 1, 0, none⟩ = false
  c3 : w4.cell? ⟨w.heap.size + 1 + 1, 0, none⟩ = some (.slice none 0 0)
  f3 : w4.frozen? ⟨w.heap.size + 1 + 1, 0, none⟩ = false
  below : Below w.heap.size w w4
  size : w.heap.size + 3 ≤ w4.heap.size
theorem res2 {w w4 : World} {a : Value} (hb : Below (w.heap.size + 3) (((w.alloc (.cells #[a] 51)).alloc (.cells #[.slice none 0 0] 51)).alloc (.cells #[.slice none 0 0] 51)) w4) : Res2 w w4 a := by
  refine ⟨?_, ?_, ?_, ?_, ?_, ?_, ?_⟩
  · rw [hb.cell (p := ⟨w.heap.size, 0, none⟩) (show w.heap.size < w.heap.size + 3 by omega)]; simp [go_sem]
  · rw [hb.cell (p := ⟨w.heap.size + 1, 0, none⟩) (show w.heap.size + 1 < w.heap.size + 3 by omega)]; simp [go_sem]
  · rw [hb.frozen (p := ⟨w.heap.size + 1, 0, none⟩) (show w.heap.size + 1 < w.heap.size + 3 by omega)]; simp [go_sem]
  · rw [hb.cell (p := ⟨w.heap.size + 1 + 1, 0, none⟩) (show w.heap.size + 1 + 1 < w.heap.size + 3 by omega)]; simp [go_sem]
  · rw [hb.frozen (p := ⟨w.heap.size + 1 + 1, 0, none⟩) (show w.heap.size + 1 + 1 < w.heap.size + 3 by omega)]; simp [go_sem]
  · exact ((((Below.refl _ _).alloc (Nat.le_refl _) _).alloc (by simp) _).alloc (by simp; omega) _).trans (hb.mono (by omega))
  · have := hb.size; simp at this; omega
theorem Res2.on {w w4 w5 : World} {a : Value} (h : Res2 w w4 a) (hb : Below (w.heap.size + 3) w4 w5) : Res2 w w5 a :=
  ⟨(hb.cell (p := ⟨w.heap.size, 0, none⟩) (show w.heap.size < w.heap.size + 3 by omega)).trans h.c1, (hb.cell (p := ⟨w.heap.size + 1, 0, none⟩) (show w.heap.size + 1 < w.heap.size + 3 by omega)).trans h.c2,
    (hb.frozen (p := ⟨w.heap.size + 1, 0, none⟩) (show w.heap.size + 1 < w.heap.size + 3 by omega)).trans h.f2,
    (hb.cell (p := ⟨w.heap.size + 1 + 1, 0, none⟩) (show w.heap.size + 1 + 1 < w.heap.size + 3 by omega)).trans h.c3, (hb.frozen (p := ⟨w.heap.size + 1 + 1, 0, none⟩) (show w.heap.size + 1 + 1 < w.heap.size + 3 by omega)).trans h.f3,
    h.below.trans (hb.mono (by omega)), by have := hb.size; have := h.size; omega⟩
/-- What two stores into the results' boxes leave. -/
theorem Res2.done {w w4 : World} {a u v : Value} (h : Res2 w w4 a) (n m : Nat) (hn : IsBig w4 (.agg #[u]) n) (hm : IsBig w4 (.agg #[v]) m) :
    IsBig ((w4.setCell ⟨w.heap.size + 1, 0, none⟩ u).setCell ⟨w.heap.size + 1 + 1, 0, none⟩ v) (.agg #[u]) n ∧ IsBig ((w4.setCell ⟨w.heap.size + 1, 0, none⟩ u).setCell ⟨w.heap.size + 1 + 1, 0, none⟩ v) (.agg #[v]) m ∧ Below w.heap.size w ((w4.setCell ⟨w.heap.size + 1, 0, none⟩ u).setCell ⟨w.heap.size + 1 + 1, 0, none⟩ v) := by
  have hc : (w4.setCell ⟨w.heap.size + 1, 0, none⟩ u).cell? ⟨w.heap.size + 1 + 1, 0, none⟩ = some (.slice none 0 0) := by
    rw [World.cell?_setCell_other _ _ _ _ (by simp)]; exact h.c3
  exact ⟨(hn.box _ h.c2 (no_int _ _ _)).box _ hc (no_int _ _ _), (hm.box _ h.c2 (no_int _ _ _)).box _ hc (no_int _ _ _), (h.below.setCell (by simp) _).setCell (by simp; omega) _⟩
theorem div_cast (s x d : Nat) : (((s * 1000000000 + x) / d : Nat) : Int) = ((s : Int) * 1000000000 + (x : Int)) / (d : Int) := by
  rw [Int.natCast_ediv, Int.natCast_add, Int.natCast_mul]; rfl
theorem mod_cast' (s x d : Nat) : (((s * 1000000000 + x) % d : Nat) : Int) = ((s : Int) * 1000000000 + (x : Int)) % (d : Int) := by
  rw [Int.natCast_emod, Int.natCast_add, Int.natCast_mul]; rfl
theorem divShort_any (x : Value) (m d k : Nat) (w : World) (hx : IsBig w x m) (hk : k ≤ 1000000) (hm : m < 1000000000 ^ k) (hd : 0 < d) (hd2 : d < 1000000000) :
    Calls Tryz.prog 197 #[x, .int .u64 (d : Int)] w fun e w' => ∃ a1 n1 c1 a2 n2 c2, e = .returned (.tuple #[.agg #[.slice a1 n1 c1], .agg #[.slice a2 n2 c2]]) ∧ IsBig w' (.agg #[.slice a1 n1 c1]) (m / d) ∧ IsBig w' (.agg #[.slice a2 n2 c2]) (m % d) ∧ Below w.heap.size w w' := by
  obtain ⟨ap, lp, cp, rfl, hlp, hrp, hnp, rfl⟩ := hx.form
  have h1 := Cub.len_le hnp hm
  have HP : Hid (Cub.limbs 1000000000 lp ∧ Cells w ap lp) := ⟨hnp.1, hrp.cells.2.2.2⟩
  obtain ⟨np, hnp'⟩ : ∃ np, np = lp.length := ⟨_, rfl⟩
  rw [← hnp'] at h1 ⊢
  have HNP := hide hnp'
  have HS : Hid (Cub.ShortInv d lp (List.replicate np 0) 0 np) := by rw [hnp']; exact Cub.ShortInv.start d lp hd
  clear hx hm hlp hrp hnp hnp'
  obtain ⟨i0, hi, hz0, hz1, hz2⟩ := info_parts Tryz.info41
  go_enter Tryz.func197, Tryz.ntmps197
  go_wp2_with (first
    | (at_make; go_must (refine wpList_make_full _ rfl _ _ 49 rfl (w.heap.size + 3) 41 i0 (.int .u64 0) 1 Tryz.underlying49 hi hz0 hz1 .i64 .i64 _ _ np rfl rfl (by omega) (by omega) (by rw [hz2]; omega) (by unfold maxLen; omega) (by simp) ?_; intro w4 hown4 hgrow4; rw [u64s_made] at hown4; have hO4 : Own w4 (w.heap.size + 1 + 1 + 1) (List.replicate np 0) := (by have := Own.of_row hown4; simpa using this); have hB4 := res2 ((Below.refl (w.heap.size + 3) _).grown hgrow4 (by simp) (fun k hk => by cases hk)); have bp4 := hB4.c1; have HO4 := hide hO4; have HB4 := hide hB4; clear hown4 hgrow4 hO4 hB4)))
  go_loopw [7, 8] (fun r t wr => ∃ (s j : Nat) (D : List Nat), r = .int .u64 (s : Int) ∧ t = .int .i64 ((j : Int) - 1) ∧ j ≤ np ∧ s < d ∧ Hid (Cub.ShortInv d lp D s j) ∧ Hid (Own wr (w.heap.size + 1 + 1 + 1) D) ∧ Hid (Res2 w wr (.slice ap np cp))) (fun _ t _ => (intOf t + 1).toNat)
  case atStart => exact ⟨0, np, _, rfl, by go_num, Nat.le_refl _, hd, HS, HO4, HB4⟩
  case round =>
    obtain ⟨s, j, D, rfl, rfl, hj, hs, HI, HO, HB⟩ := hrel
    clear bp4
    have bp := (unhide HB).c1
    by_cases hj0 : j = 0
    · subst hj0
      obtain ⟨t1, t2, _⟩ := Cub.lval_trim 1000000000 _ D rfl
      have hlast := (unhide HI).last
      have HF : Hid (Cub.normal 1000000000 (Cub.trimN D) ∧ Cub.lval 1000000000 (Cub.trimN D) = Cub.lval 1000000000 lp / d ∧ s = Cub.lval 1000000000 lp % d) := ⟨t2 (unhide HI).lim, t1.trans hlast.1, hlast.2⟩
      have hsz := (unhide HB).size
      have HL : Hid (D.length = np) := by rw [(unhide HI).len, ← unhide HNP]; exact rfl
      clear t1 t2 hlast
      go_wp2_with (first
        | (go_at_call 78; go_must (refine (trim_any _ D _ ((unhide HO).row np np (unhide HL).symm (Nat.le_refl _) (by unfold maxLen; omega))).mono ?_; rintro e w6 ⟨v', rfl, hrow6, hb6⟩; obtain ⟨a6, cap6, rfl, hcap6⟩ := hrow6.form; have HB6 := hide ((unhide HB).on (hb6.mono hsz)); have HR6 : Hid (IsBig w6 (.agg #[.slice a6 (Cub.trimN D).length cap6]) (Cub.lval 1000000000 lp / d)) := ⟨_, _, rfl, hrow6, (unhide HF).1, (unhide HF).2.1⟩; clear hrow6 hb6 bp))
        | (go_at_call 73; go_must (refine (bigOf_any s _ (by omega)).mono ?_; rintro e w7 ⟨a7, n7, c7, rfl, hbig7, hb7⟩; have HB7 := hide ((unhide HB6).on (hb7.mono (unhide HB6).size)); have HR7 := hide ((unhide HR6).later hb7); have HS7 := hide hbig7; clear hbig7 hb7; have b2 := (unhide HB7).c2; have f2 := (unhide HB7).f2; have b3 := (unhide HB7).c3; have f3 := (unhide HB7).f3)))
      obtain ⟨r1, r2, r3⟩ := (unhide HB7).done _ _ (unhide HR7) (unhide HS7)
      refine bodyPost_ret (v := .tuple #[.agg #[.slice a6 (Cub.trimN D).length cap6], .agg #[.slice a7 n7 c7]]) (by simp [results, Tryz.results197, go_sem, b2, b3]) rfl ⟨_, _, _, _, _, _, rfl, r1, ?_, r3⟩
      rw [← (unhide HF).2.2]; exact r2
    · obtain ⟨i, rfl⟩ : ∃ i, j = i + 1 := ⟨j - 1, by omega⟩
      have hil : i < lp.length := by have := unhide HNP; omega
      have hiD : i < D.length := by rw [(unhide HI).len]; exact hil
      obtain ⟨xv, hxv⟩ : ∃ xv, xv = lp[i] := ⟨_, rfl⟩
      have hxB : xv < 1000000000 := by rw [hxv]; exact (unhide HP).1 _ (List.getElem_mem hil)
      obtain ⟨b1, o1, rfl, hcx⟩ := (unhide HP).2 wr (unhide HB).below i hil
      rw [← hxv] at hcx
      have HI' : Hid (Cub.ShortInv d lp (D.set i ((s * 1000000000 + xv) / d)) ((s * 1000000000 + xv) % d) i) := by
        have := (unhide HI).step hil (by rw [← hxv]; exact hxB)
        rw [← hxv] at this; exact this
      have hco := (unhide HO).cell i hiD
      have hfo := (unhide HO).frozen i
      have hsB : s * 1000000000 + xv < 1000000000000000000 := by omega
      have HO' : Hid (Own (wr.setCell ⟨w.heap.size + 1 + 1 + 1, i, none⟩ (.int .u64 (((s : Int) * 1000000000 + (xv : Int)) / (d : Int)))) (w.heap.size + 1 + 1 + 1) (D.set i ((s * 1000000000 + xv) / d))) := by
        have := (unhide HO).set i ((s * 1000000000 + xv) / d)
        rw [show (((s * 1000000000 + xv) / d : Nat) : Int) = ((s : Int) * 1000000000 + (xv : Int)) / (d : Int) from div_cast s xv d] at this
        exact this
      have HB' : Hid (Res2 w (wr.setCell ⟨w.heap.size + 1 + 1 + 1, i, none⟩ (.int .u64 (((s : Int) * 1000000000 + (xv : Int)) / (d : Int)))) (.slice (some ⟨b1, o1, none⟩) np cp)) :=
        (unhide HB).on ((Below.refl (w.heap.size + 3) wr).setCell (p := ⟨w.heap.size + 1 + 1 + 1, i, none⟩) (show w.heap.size + 3 ≤ w.heap.size + 1 + 1 + 1 by omega) _)
      have hmd : (s * 1000000000 + xv) % d < d := Nat.mod_lt _ hd
      rw [show (((i + 1 : Nat) : Int) - 1) = (i : Int) from by omega]
      clear hxv HI
      go_wp2
      go_roundw
      case rel => exact ⟨(s * 1000000000 + xv) % d, i, _, by rw [mod_cast'], by go_num, by omega, hmd, HI', HO', HB'⟩
      case measure => simp [intOf]
end Go.Proofs.YtijifpbpjinmhaaGreatDoor
namespace Go.Proofs.YtijifpbpjinmhaaGreatDoor
open Go.RowKit
theorem mulS (x y : Value) (m n r k : Nat) (w : World) (hx : IsBig w x m) (hy : IsBig w y n) (hk : k ≤ 1000000) (hm : m < 1000000000 ^ k) (hn : n < 1000000000 ^ k) (hr : r = m * n) :
    Calls Tryz.prog 99 #[x, y] w fun e w' => ∃ a l c, e = .returned (.agg #[.slice a l c]) ∧ IsBig w' (.agg #[.slice a l c]) r ∧ Below w.heap.size w w' := by
  subst hr
  refine (mul_any x y m n k w hx hy hk hm hn).mono ?_
  rintro e w' ⟨v, rfl, hv, hb⟩
  obtain ⟨a, n, c, rfl⟩ := hv.shape
  exact ⟨a, n, c, rfl, hv, hb⟩
theorem ten_step (i n p : Nat) (hp : p = 10 ^ i) (h : i < n) (hn : n ≤ 18) : p * 10 ≤ 1000000000000000000 ∧ p * 10 = 10 ^ (i + 1) := by
  subst hp
  rw [← Nat.pow_succ]
  exact ⟨Nat.pow_le_pow_right (n := 10) (by decide) (show i + 1 ≤ 18 by omega), rfl⟩
theorem tenTo_any (n T : Nat) (w : World) (hn : n ≤ 18) (hT : T = 10 ^ n) :
    Calls Tryz.prog 151 #[.int .i64 (n : Int)] w fun e w' => e = .returned (.int .u64 (T : Int)) ∧ w' = w := by
  have HT := hide hT
  clear hT
  go_enter Tryz.func151, Tryz.ntmps151
  go_wp2
  go_loop [3, 5] (fun a t => ∃ p i : Nat, a = .int .u64 (p : Int) ∧ t = .int .i64 (i : Int) ∧ i ≤ n ∧ Hid (p = 10 ^ i)) (fun _ t => n - (intOf t).toNat)
  case atStart => exact ⟨1, 0, rfl, rfl, Nat.zero_le _, rfl⟩
  case round =>
    obtain ⟨p, i, rfl, rfl, hi, HP⟩ := hrel
    by_cases hin : i < n
    · obtain ⟨h1, h2⟩ := ten_step i n p (unhide HP) hin hn
      have HP' : Hid (p * 10 = 10 ^ (i + 1)) := h2
      clear h2
      go_wp2
      go_round
      case rel => exact ⟨p * 10, i + 1, by go_num, by go_num, by omega, HP'⟩
      case measure => simp [intOf]; omega
    · have hie : i = n := by omega
      subst hie
      go_wp2
      go_ret
      exact ⟨by rw [unhide HT, ← unhide HP]; rfl, rfl⟩
/-- A box, and one for the result, kept. -/
structure Res1 (w w4 : World) (a : Value) : Prop where
  c1 : w4.cell? ⟨w.heap.size, 0, none⟩ = some a
  c2 : w4.cell? ⟨w.heap.size + 1, 0, none⟩ = some (.slice none 0 0)
  f2 : w4.frozen? ⟨w.heap.size + 1, 0, none⟩ = false
  below : Below w.heap.size w w4
  size : w.heap.size + 2 ≤ w4.heap.size
theorem res1 {w w4 : World} {a : Value} (hb : Below (w.heap.size + 2) ((w.alloc (.cells #[a] 51)).alloc (.cells #[.slice none 0 0] 51)) w4) : Res1 w w4 a := by
  refine ⟨?_, ?_, ?_, ?_, ?_⟩
  · rw [hb.cell (p := ⟨w.heap.size, 0, none⟩) (show w.heap.size < w.heap.size + 2 by omega)]; simp [go_sem]
  · rw [hb.cell (p := ⟨w.heap.size + 1, 0, none⟩) (show w.heap.size + 1 < w.heap.size + 2 by omega)]; simp [go_sem]
  · rw [hb.frozen (p := ⟨w.heap.size + 1, 0, none⟩) (show w.heap.size + 1 < w.heap.size + 2 by omega)]; simp [go_sem]
  · exact (((Below.refl _ _).alloc (Nat.le_refl _) _).alloc (by simp) _).trans (hb.mono (by omega))
  · have := hb.size; simp at this; omega
theorem Res1.on {w w4 w5 : World} {a : Value} (h : Res1 w w4 a) (hb : Below (w.heap.size + 2) w4 w5) : Res1 w w5 a :=
  ⟨(hb.cell (p := ⟨w.heap.size, 0, none⟩) (show w.heap.size < w.heap.size + 2 by omega)).trans h.c1, (hb.cell (p := ⟨w.heap.size + 1, 0, none⟩) (show w.heap.size + 1 < w.heap.size + 2 by omega)).trans h.c2,
    (hb.frozen (p := ⟨w.heap.size + 1, 0, none⟩) (show w.heap.size + 1 < w.heap.size + 2 by omega)).trans h.f2,
    h.below.trans (hb.mono (by omega)), by have := hb.size; have := h.size; omega⟩
theorem Res1.done {w w4 : World} {a u : Value} (h : Res1 w w4 a) (n : Nat) (hn : IsBig w4 (.agg #[u]) n) :
    IsBig (w4.setCell ⟨w.heap.size + 1, 0, none⟩ u) (.agg #[u]) n ∧ Below w.heap.size w (w4.setCell ⟨w.heap.size + 1, 0, none⟩ u) :=
  ⟨hn.box _ h.c2 (no_int _ _ _), h.below.setCell (by simp) _⟩
theorem splice_high (l : List Nat) (n wh : Nat) (h : n = l.length) : splice (u64s (List.replicate (wh + n) 0)) wh (u64s l) = u64s (List.replicate wh 0 ++ l) := by
  subst h
  unfold splice u64s
  simp
theorem high_normal {l : List Nat} (wh : Nat) (h : Cub.normal 1000000000 l) (h0 : l ≠ []) : Cub.normal 1000000000 (List.replicate wh 0 ++ l) ∧ Cub.lval 1000000000 (List.replicate wh 0 ++ l) = 1000000000 ^ wh * Cub.lval 1000000000 l := by
  refine ⟨⟨Cub.limbs_append.2 ⟨Cub.limbs_zeros _ _ (by decide), h.1⟩, ?_⟩, ?_⟩
  · obtain ⟨t, x, rfl⟩ := Cub.split_last h0
    have := h.2
    simp at this ⊢
    exact this
  · rw [Cub.lval_append, Cub.lval_zeros, List.length_replicate, Nat.zero_add]
theorem shift_val (m p : Nat) : 1000000000 ^ (p / 9) * m * 10 ^ (p % 9) = m * 10 ^ p := by
  have e : (10 : Nat) ^ p = 1000000000 ^ (p / 9) * 10 ^ (p % 9) := by
    rw [← Cub.pow9, ← Nat.pow_add]; congr 1; omega
  rw [e, Nat.mul_comm _ m, Nat.mul_assoc]
theorem twoTo_pos (n P : Nat) (w : World) (hn : n ≤ 4000) (hpw : ∀ W x, IsBig W x 2 → Calls Tryz.prog 123 #[x, .int .i64 (n : Int)] W fun e w' => ∃ a l c, e = .returned (.agg #[.slice a l c]) ∧ IsBig w' (.agg #[.slice a l c]) P ∧ Below W.heap.size W w') :
    Calls Tryz.prog 74 #[.int .i64 ((n : Int))] w fun e w' => ∃ v, e = .returned v ∧ IsSz w' v P 1 ∧ Below w.heap.size w w' := by
  obtain ⟨V, hV⟩ : ∃ V, V = w.alloc (.cells #[.slice none 0 0, .slice none 0 0] 54) := ⟨_, rfl⟩
  have HR0 : Hid (OwnU V w.heap.size 54 #[.slice none 0 0, .slice none 0 0]) := by rw [hV]; exact OwnU.new _ _ _
  have HW0 : Hid (Below w.heap.size w V) := by rw [hV]; exact ((Below.refl _ _).alloc (by simp; try omega) _)
  have HV := hide hV
  have HPW := hide hpw
  have hnI : (n : Int) ≤ 4000 := by omega
  have hn0 : (0 : Int) ≤ n := by omega
  have HMX : Hid (max (n : Int) (-(n : Int)) = n ∧ max (-(n : Int)) (n : Int) = n) := ⟨by omega, by omega⟩
  clear hV hpw
  go_enter Tryz.func74, Tryz.ntmps74
  go_upto_region 1 with fail
  rw [← unhide HV]
  clear HV
  go_wp2_with (first
    | (have hchk := HW4; clear hchk; refine storeT 54 2 info59 rfl (.tmp 2) (.tmp 12) rfl w.heap.size #[.slice none 0 0, .slice none 0 0] #[.slice a5 l5 c5, .slice a6 l6 c6] rfl rfl rfl rfl (unhide HR4) (by kernel_rfl) ?_)
    | (have hchk := HW3; clear hchk; go_at_call 101; go_must (refine (turned_no _ _ _ _ _ _ P 1 _ (unhide HQ3) (unhide HO3)).mono ?_; rintro e U4 ⟨_, rfl, ⟨a5, l5, c5, a6, l6, c6, rfl, hv1, hv2⟩, hb⟩; have HR4 : Hid (OwnU U4 w.heap.size 54 #[.slice none 0 0, .slice none 0 0]) := (unhide HR3).later (hb); have HW4 : Hid (Below w.heap.size w U4) := (unhide HW3).trans ((hb).mono (unhide HW3).size); have HX4 : Hid (IsBig U4 (.agg #[.slice a1 l1 c1]) 2) := (unhide HX3).later (hb); have HP4 : Hid (IsBig U4 (.agg #[.slice a2 l2 c2]) P) := (unhide HP3).later (hb); have HQ4 : Hid (IsBig U4 (.agg #[.slice a3 l3 c3]) P) := (unhide HQ3).later (hb); have HO4 : Hid (IsBig U4 (.agg #[.slice a4 l4 c4]) 1) := (unhide HO3).later (hb); have HE4 : Hid (IsBig U4 (.agg #[.slice a5 l5 c5]) P) := hv1; have HF4 : Hid (IsBig U4 (.agg #[.slice a6 l6 c6]) 1) := hv2; clear HR3 HW3 HX3 HP3 HQ3 HO3 hv1 hv2 hb))
    | (have hchk := HW2; clear hchk; go_at_call 46; go_must (refine (whole_any _ _ _ P _ (unhide HP2)).mono ?_; rintro e U3 ⟨_, rfl, ⟨a3, l3, c3, a4, l4, c4, rfl, hv1, hv2⟩, hb⟩; have HR3 : Hid (OwnU U3 w.heap.size 54 #[.slice none 0 0, .slice none 0 0]) := (unhide HR2).later (hb); have HW3 : Hid (Below w.heap.size w U3) := (unhide HW2).trans ((hb).mono (unhide HW2).size); have HX3 : Hid (IsBig U3 (.agg #[.slice a1 l1 c1]) 2) := (unhide HX2).later (hb); have HP3 : Hid (IsBig U3 (.agg #[.slice a2 l2 c2]) P) := (unhide HP2).later (hb); have HQ3 : Hid (IsBig U3 (.agg #[.slice a3 l3 c3]) P) := hv1; have HO3 : Hid (IsBig U3 (.agg #[.slice a4 l4 c4]) 1) := hv2; clear HR2 HW2 HX2 HP2 hv1 hv2 hb))
    | (have hchk := HW1; clear hchk; go_at_call 123; (first | rw [(unhide HMX).1] | rw [(unhide HMX).2]); go_must (refine (unhide HPW _ _ (unhide HX1)).mono ?_; rintro e U2 ⟨a2, l2, c2, rfl, hv, hb⟩; have HR2 : Hid (OwnU U2 w.heap.size 54 #[.slice none 0 0, .slice none 0 0]) := (unhide HR1).later (hb); have HW2 : Hid (Below w.heap.size w U2) := (unhide HW1).trans ((hb).mono (unhide HW1).size); have HX2 : Hid (IsBig U2 (.agg #[.slice a1 l1 c1]) 2) := (unhide HX1).later (hb); have HP2 : Hid (IsBig U2 (.agg #[.slice a2 l2 c2]) P) := hv; clear HR1 HW1 HX1 hv hb))
    | (have hchk := HW0; clear hchk; go_at_call 73; go_must (refine (bigOf_any 2 _ (by decide)).mono ?_; rintro e U1 ⟨a1, l1, c1, rfl, hv, hb⟩; have HR1 : Hid (OwnU U1 w.heap.size 54 #[.slice none 0 0, .slice none 0 0]) := (unhide HR0).later (hb); have HW1 : Hid (Below w.heap.size w U1) := (unhide HW0).trans ((hb).mono (unhide HW0).size); have HX1 : Hid (IsBig U1 (.agg #[.slice a1 l1 c1]) 2) := hv; clear HR0 HW0 hv hb)))
  have hX : IsBig (U4.setRow w.heap.size #[.slice a5 l5 c5, .slice a6 l6 c6]) (.agg #[.slice a5 l5 c5]) P := (unhide HE4).setRow (unhide HR4) (nz2 _ _ _ _ _ _) _
  have hY : IsBig (U4.setRow w.heap.size #[.slice a5 l5 c5, .slice a6 l6 c6]) (.agg #[.slice a6 l6 c6]) 1 := (unhide HF4).setRow (unhide HR4) (nz2 _ _ _ _ _ _) _
  exact bodyPost_ret (v := .agg #[.slice a5 l5 c5, .slice a6 l6 c6]) (res59 Tryz.results74 _ _ w.heap.size _ rfl rfl ((unhide HR4).setRow _)) rfl ⟨_, rfl, IsSz.mk hX hY, below_setRow (unhide HW4) (Nat.le_refl _) _⟩
theorem twoTo_neg (n P : Nat) (w : World) (hp : 0 < n) (hn : n ≤ 4000) (hpw : ∀ W x, IsBig W x 2 → Calls Tryz.prog 123 #[x, .int .i64 (n : Int)] W fun e w' => ∃ a l c, e = .returned (.agg #[.slice a l c]) ∧ IsBig w' (.agg #[.slice a l c]) P ∧ Below W.heap.size W w') :
    Calls Tryz.prog 74 #[.int .i64 (-(n : Int))] w fun e w' => ∃ v, e = .returned v ∧ IsSz w' v 1 P ∧ Below w.heap.size w w' := by
  obtain ⟨V, hV⟩ : ∃ V, V = w.alloc (.cells #[.slice none 0 0, .slice none 0 0] 54) := ⟨_, rfl⟩
  have HR0 : Hid (OwnU V w.heap.size 54 #[.slice none 0 0, .slice none 0 0]) := by rw [hV]; exact OwnU.new _ _ _
  have HW0 : Hid (Below w.heap.size w V) := by rw [hV]; exact ((Below.refl _ _).alloc (by simp; try omega) _)
  have HV := hide hV
  have HPW := hide hpw
  have hnI : (n : Int) ≤ 4000 := by omega
  have hn0 : (0 : Int) ≤ n := by omega
  have HMX : Hid (max (n : Int) (-(n : Int)) = n ∧ max (-(n : Int)) (n : Int) = n) := ⟨by omega, by omega⟩
  have hnp : (0 : Int) < n := by omega
  clear hV hpw
  go_enter Tryz.func74, Tryz.ntmps74
  go_upto_region 1 with fail
  rw [← unhide HV]
  clear HV
  go_wp2_with (first
    | (have hchk := HW4; clear hchk; refine storeT 54 2 info59 rfl (.tmp 2) (.tmp 12) rfl w.heap.size #[.slice none 0 0, .slice none 0 0] #[.slice a5 l5 c5, .slice a6 l6 c6] rfl rfl rfl rfl (unhide HR4) (by kernel_rfl) ?_)
    | (have hchk := HW3; clear hchk; go_at_call 101; go_must (refine (turned_yes _ _ _ _ _ _ P 1 _ (unhide HQ3) (unhide HO3)).mono ?_; rintro e U4 ⟨_, rfl, ⟨a5, l5, c5, a6, l6, c6, rfl, hv1, hv2⟩, hb⟩; have HR4 : Hid (OwnU U4 w.heap.size 54 #[.slice none 0 0, .slice none 0 0]) := (unhide HR3).later (hb); have HW4 : Hid (Below w.heap.size w U4) := (unhide HW3).trans ((hb).mono (unhide HW3).size); have HX4 : Hid (IsBig U4 (.agg #[.slice a1 l1 c1]) 2) := (unhide HX3).later (hb); have HP4 : Hid (IsBig U4 (.agg #[.slice a2 l2 c2]) P) := (unhide HP3).later (hb); have HQ4 : Hid (IsBig U4 (.agg #[.slice a3 l3 c3]) P) := (unhide HQ3).later (hb); have HO4 : Hid (IsBig U4 (.agg #[.slice a4 l4 c4]) 1) := (unhide HO3).later (hb); have HE4 : Hid (IsBig U4 (.agg #[.slice a5 l5 c5]) 1) := hv1; have HF4 : Hid (IsBig U4 (.agg #[.slice a6 l6 c6]) P) := hv2; clear HR3 HW3 HX3 HP3 HQ3 HO3 hv1 hv2 hb))
    | (have hchk := HW2; clear hchk; go_at_call 46; go_must (refine (whole_any _ _ _ P _ (unhide HP2)).mono ?_; rintro e U3 ⟨_, rfl, ⟨a3, l3, c3, a4, l4, c4, rfl, hv1, hv2⟩, hb⟩; have HR3 : Hid (OwnU U3 w.heap.size 54 #[.slice none 0 0, .slice none 0 0]) := (unhide HR2).later (hb); have HW3 : Hid (Below w.heap.size w U3) := (unhide HW2).trans ((hb).mono (unhide HW2).size); have HX3 : Hid (IsBig U3 (.agg #[.slice a1 l1 c1]) 2) := (unhide HX2).later (hb); have HP3 : Hid (IsBig U3 (.agg #[.slice a2 l2 c2]) P) := (unhide HP2).later (hb); have HQ3 : Hid (IsBig U3 (.agg #[.slice a3 l3 c3]) P) := hv1; have HO3 : Hid (IsBig U3 (.agg #[.slice a4 l4 c4]) 1) := hv2; clear HR2 HW2 HX2 HP2 hv1 hv2 hb))
    | (have hchk := HW1; clear hchk; go_at_call 123; (first | rw [(unhide HMX).1] | rw [(unhide HMX).2]); go_must (refine (unhide HPW _ _ (unhide HX1)).mono ?_; rintro e U2 ⟨a2, l2, c2, rfl, hv, hb⟩; have HR2 : Hid (OwnU U2 w.heap.size 54 #[.slice none 0 0, .slice none 0 0]) := (unhide HR1).later (hb); have HW2 : Hid (Below w.heap.size w U2) := (unhide HW1).trans ((hb).mono (unhide HW1).size); have HX2 : Hid (IsBig U2 (.agg #[.slice a1 l1 c1]) 2) := (unhide HX1).later (hb); have HP2 : Hid (IsBig U2 (.agg #[.slice a2 l2 c2]) P) := hv; clear HR1 HW1 HX1 hv hb))
    | (have hchk := HW0; clear hchk; go_at_call 73; go_must (refine (bigOf_any 2 _ (by decide)).mono ?_; rintro e U1 ⟨a1, l1, c1, rfl, hv, hb⟩; have HR1 : Hid (OwnU U1 w.heap.size 54 #[.slice none 0 0, .slice none 0 0]) := (unhide HR0).later (hb); have HW1 : Hid (Below w.heap.size w U1) := (unhide HW0).trans ((hb).mono (unhide HW0).size); have HX1 : Hid (IsBig U1 (.agg #[.slice a1 l1 c1]) 2) := hv; clear HR0 HW0 hv hb)))
  have hX : IsBig (U4.setRow w.heap.size #[.slice a5 l5 c5, .slice a6 l6 c6]) (.agg #[.slice a5 l5 c5]) 1 := (unhide HE4).setRow (unhide HR4) (nz2 _ _ _ _ _ _) _
  have hY : IsBig (U4.setRow w.heap.size #[.slice a5 l5 c5, .slice a6 l6 c6]) (.agg #[.slice a6 l6 c6]) P := (unhide HF4).setRow (unhide HR4) (nz2 _ _ _ _ _ _) _
  exact bodyPost_ret (v := .agg #[.slice a5 l5 c5, .slice a6 l6 c6]) (res59 Tryz.results74 _ _ w.heap.size _ rfl rfl ((unhide HR4).setRow _)) rfl ⟨_, rfl, IsSz.mk hX hY, below_setRow (unhide HW4) (Nat.le_refl _) _⟩
theorem tenTo_neg (n P : Nat) (w : World) (hp : 0 < n) (hn : n ≤ 4000) (hpw : ∀ W x, IsBig W x 1 → Calls Tryz.prog 100 #[x, .int .i64 (n : Int)] W fun e w' => ∃ a l c, e = .returned (.agg #[.slice a l c]) ∧ IsBig w' (.agg #[.slice a l c]) P ∧ Below W.heap.size W w') :
    Calls Tryz.prog 48 #[.int .i64 (-(n : Int))] w fun e w' => ∃ v, e = .returned v ∧ IsSz w' v 1 P ∧ Below w.heap.size w w' := by
  obtain ⟨V, hV⟩ : ∃ V, V = w.alloc (.cells #[.slice none 0 0, .slice none 0 0] 54) := ⟨_, rfl⟩
  have HR0 : Hid (OwnU V w.heap.size 54 #[.slice none 0 0, .slice none 0 0]) := by rw [hV]; exact OwnU.new _ _ _
  have HW0 : Hid (Below w.heap.size w V) := by rw [hV]; exact ((Below.refl _ _).alloc (by simp; try omega) _)
  have HV := hide hV
  have HPW := hide hpw
  have hnI : (n : Int) ≤ 4000 := by omega
  have hn0 : (0 : Int) ≤ n := by omega
  have HMX : Hid (max (n : Int) (-(n : Int)) = n ∧ max (-(n : Int)) (n : Int) = n) := ⟨by omega, by omega⟩
  have hnp : (0 : Int) < n := by omega
  clear hV hpw
  go_enter Tryz.func48, Tryz.ntmps48
  go_upto_region 1 with fail
  rw [← unhide HV]
  clear HV
  go_wp2_with (first
    | (have hchk := HW4; clear hchk; refine storeT 54 2 info59 rfl (.tmp 2) (.tmp 12) rfl w.heap.size #[.slice none 0 0, .slice none 0 0] #[.slice a5 l5 c5, .slice a6 l6 c6] rfl rfl rfl rfl (unhide HR4) (by kernel_rfl) ?_)
    | (have hchk := HW3; clear hchk; go_at_call 101; go_must (refine (turned_yes _ _ _ _ _ _ P 1 _ (unhide HQ3) (unhide HO3)).mono ?_; rintro e U4 ⟨_, rfl, ⟨a5, l5, c5, a6, l6, c6, rfl, hv1, hv2⟩, hb⟩; have HR4 : Hid (OwnU U4 w.heap.size 54 #[.slice none 0 0, .slice none 0 0]) := (unhide HR3).later (hb); have HW4 : Hid (Below w.heap.size w U4) := (unhide HW3).trans ((hb).mono (unhide HW3).size); have HX4 : Hid (IsBig U4 (.agg #[.slice a1 l1 c1]) 1) := (unhide HX3).later (hb); have HP4 : Hid (IsBig U4 (.agg #[.slice a2 l2 c2]) P) := (unhide HP3).later (hb); have HQ4 : Hid (IsBig U4 (.agg #[.slice a3 l3 c3]) P) := (unhide HQ3).later (hb); have HO4 : Hid (IsBig U4 (.agg #[.slice a4 l4 c4]) 1) := (unhide HO3).later (hb); have HE4 : Hid (IsBig U4 (.agg #[.slice a5 l5 c5]) 1) := hv1; have HF4 : Hid (IsBig U4 (.agg #[.slice a6 l6 c6]) P) := hv2; clear HR3 HW3 HX3 HP3 HQ3 HO3 hv1 hv2 hb))
    | (have hchk := HW2; clear hchk; go_at_call 46; go_must (refine (whole_any _ _ _ P _ (unhide HP2)).mono ?_; rintro e U3 ⟨_, rfl, ⟨a3, l3, c3, a4, l4, c4, rfl, hv1, hv2⟩, hb⟩; have HR3 : Hid (OwnU U3 w.heap.size 54 #[.slice none 0 0, .slice none 0 0]) := (unhide HR2).later (hb); have HW3 : Hid (Below w.heap.size w U3) := (unhide HW2).trans ((hb).mono (unhide HW2).size); have HX3 : Hid (IsBig U3 (.agg #[.slice a1 l1 c1]) 1) := (unhide HX2).later (hb); have HP3 : Hid (IsBig U3 (.agg #[.slice a2 l2 c2]) P) := (unhide HP2).later (hb); have HQ3 : Hid (IsBig U3 (.agg #[.slice a3 l3 c3]) P) := hv1; have HO3 : Hid (IsBig U3 (.agg #[.slice a4 l4 c4]) 1) := hv2; clear HR2 HW2 HX2 HP2 hv1 hv2 hb))
    | (have hchk := HW1; clear hchk; go_at_call 100; (first | rw [(unhide HMX).1] | rw [(unhide HMX).2]); go_must (refine (unhide HPW _ _ (unhide HX1)).mono ?_; rintro e U2 ⟨a2, l2, c2, rfl, hv, hb⟩; have HR2 : Hid (OwnU U2 w.heap.size 54 #[.slice none 0 0, .slice none 0 0]) := (unhide HR1).later (hb); have HW2 : Hid (Below w.heap.size w U2) := (unhide HW1).trans ((hb).mono (unhide HW1).size); have HX2 : Hid (IsBig U2 (.agg #[.slice a1 l1 c1]) 1) := (unhide HX1).later (hb); have HP2 : Hid (IsBig U2 (.agg #[.slice a2 l2 c2]) P) := hv; clear HR1 HW1 HX1 hv hb))
    | (have hchk := HW0; clear hchk; go_at_call 73; go_must (refine (bigOf_any 1 _ (by decide)).mono ?_; rintro e U1 ⟨a1, l1, c1, rfl, hv, hb⟩; have HR1 : Hid (OwnU U1 w.heap.size 54 #[.slice none 0 0, .slice none 0 0]) := (unhide HR0).later (hb); have HW1 : Hid (Below w.heap.size w U1) := (unhide HW0).trans ((hb).mono (unhide HW0).size); have HX1 : Hid (IsBig U1 (.agg #[.slice a1 l1 c1]) 1) := hv; clear HR0 HW0 hv hb)))
  have hX : IsBig (U4.setRow w.heap.size #[.slice a5 l5 c5, .slice a6 l6 c6]) (.agg #[.slice a5 l5 c5]) 1 := (unhide HE4).setRow (unhide HR4) (nz2 _ _ _ _ _ _) _
  have hY : IsBig (U4.setRow w.heap.size #[.slice a5 l5 c5, .slice a6 l6 c6]) (.agg #[.slice a6 l6 c6]) P := (unhide HF4).setRow (unhide HR4) (nz2 _ _ _ _ _ _) _
  exact bodyPost_ret (v := .agg #[.slice a5 l5 c5, .slice a6 l6 c6]) (res59 Tryz.results48 _ _ w.heap.size _ rfl rfl ((unhide HR4).setRow _)) rfl ⟨_, rfl, IsSz.mk hX hY, below_setRow (unhide HW4) (Nat.le_refl _) _⟩
attribute [local go_sem] run_bits run_from
/-- What cut tells of a float. -/
def CutAns (b m : Nat) (e : Int) : Prop := ∀ w : World, Calls Tryz.prog 66 #[.float .f64 b] w fun r w' => r = .returned (.tuple #[.int .u64 (m : Int), .int .i64 e]) ∧ w' = w
theorem cut_lo : CutAns 4591870180066957721 7205759403792793 (-56) := by
  intro w
  have h1 : bits BinOp.and IntKind.u64 1019 2047 = 1019 := by decide +kernel
  go_enter Tryz.func66, Tryz.ntmps66
  go_wp2
  exact bodyPost_ret (v := .tuple #[.int .u64 (7205759403792793 : Nat), .int .i64 (-56)]) (by simp [results, Tryz.results66, go_sem]) rfl ⟨rfl, rfl⟩
theorem cut_hi : CutAns 4591870180066957722 7205759403792794 (-56) := by
  intro w
  have h1 : bits BinOp.and IntKind.u64 1019 2047 = 1019 := by decide +kernel
  go_enter Tryz.func66, Tryz.ntmps66
  go_wp2
  exact bodyPost_ret (v := .tuple #[.int .u64 (7205759403792794 : Nat), .int .i64 (-56)]) (by simp [results, Tryz.results66, go_sem]) rfl ⟨rfl, rfl⟩
theorem cut_zero : CutAns 0 0 (-1074) := by
  intro w
  have h1 : bits BinOp.and IntKind.u64 0 2047 = 0 := by decide +kernel
  go_enter Tryz.func66, Tryz.ntmps66
  go_wp2
  exact bodyPost_ret (v := .tuple #[.int .u64 (0 : Nat), .int .i64 (-1074)]) (by simp [results, Tryz.results66, go_sem]) rfl ⟨rfl, rfl⟩
end Go.Proofs.YtijifpbpjinmhaaGreatDoor
namespace Go.Proofs.YtijifpbpjinmhaaGreatDoor
open Go.RowKit
attribute [local go_sem] run_bits run_from
def xpB (b : Nat) : Nat := b / 4503599627370496 % 2048
def mtB (b : Nat) : Nat := b % 4503599627370496
def mvB (b : Nat) : Nat := if xpB b = 0 then mtB b else mtB b + 4503599627370496
def evB (b : Nat) : Int := if xpB b = 0 then -1074 else (xpB b : Int) - 1075
def infB (b : Nat) : Bool := decide (b % 9223372036854775808 = 9218868437227405312)
theorem and_2047 (b : Nat) (hb : b < 18446744073709551616) : bits BinOp.and IntKind.u64 ((b : Int) / 4503599627370496) 2047 = ((xpB b : Nat) : Int) := by
  have h := u64_and_nat (b / 4503599627370496) 2047 (by omega) (by decide)
  rw [Nat.and_two_pow_sub_one_eq_mod _ 11] at h
  refine Eq.trans ?_ h
  congr 1
theorem and_mant (b : Nat) (hb : b < 18446744073709551616) : bits BinOp.and IntKind.u64 (b : Int) 4503599627370495 = ((mtB b : Nat) : Int) := by
  have h := u64_and_nat b 4503599627370495 hb (by decide)
  rw [Nat.and_two_pow_sub_one_eq_mod _ 52] at h
  exact h
theorem or_mant (b : Nat) : bits BinOp.or IntKind.u64 ((mtB b : Nat) : Int) 4503599627370496 = ((mtB b + 4503599627370496 : Nat) : Int) := by
  have hm : mtB b < 4503599627370496 := Nat.mod_lt _ (by decide)
  have h := u64_or_nat (mtB b) 4503599627370496 (by omega) (by decide)
  have e : mtB b ||| 4503599627370496 = mtB b + 4503599627370496 := by
    rw [Nat.or_comm]
    have := Nat.two_pow_add_eq_or_of_lt (i := 52) hm 1
    simpa [Nat.add_comm] using this.symm
  rw [e] at h; exact h
theorem cut_any (b : Nat) (hb : b < 18446744073709551616) : CutAns b (mvB b) (evB b) := by
  intro w
  have hx := and_2047 b hb
  have hm : ((b : Int) % 4503599627370496) = ((mtB b : Nat) : Int) := by unfold mtB; omega
  have hx1 : xpB b < 2048 := Nat.mod_lt _ (by decide)
  have hm1 : mtB b < 4503599627370496 := Nat.mod_lt _ (by decide)
  unfold mvB evB
  generalize xpB b = x at *
  generalize mtB b = m at *
  by_cases h0 : x = 0
  · subst h0
    rw [if_pos rfl, if_pos rfl]
    go_enter Tryz.func66, Tryz.ntmps66
    go_wp2
    exact bodyPost_ret (v := .tuple #[.int .u64 (m : Int), .int .i64 (-1074)]) (by simp [results, Tryz.results66, go_sem]; exact hm) rfl ⟨rfl, rfl⟩
  · rw [if_neg h0, if_neg h0]
    have hxI : (x : Int) ≤ 2047 := by omega
    have hx0 : (0 : Int) ≤ (x : Int) := by omega
    have hxn : ((x : Int) == 0) = false := by rw [beq_eq_false_iff_ne]; omega
    have hmI : (m : Int) < 4503599627370496 := by omega
    have hm0 : (0 : Int) ≤ (m : Int) := by omega
    go_enter Tryz.func66, Tryz.ntmps66
    go_wp2
    exact bodyPost_ret (v := .tuple #[.int .u64 ((m + 4503599627370496 : Nat) : Int), .int .i64 ((x : Int) - 1075)]) (by simp [results, Tryz.results66, go_sem]; omega) rfl ⟨rfl, rfl⟩
theorem isInf_0 (b : Nat) (hb : b < 18446744073709551616) (w : World) : Calls Tryz.prog 37 #[.float .f64 b, .int .i64 0] w fun e w' => e = .returned (.bool (infB b)) ∧ w' = w := by
  have h := gt_max (b % 9223372036854775808) (by omega)
  have HA := hide (abs_any b hb w)
  have hd : decide (b % 9223372036854775808 = 9218868437227405312) = infB b := rfl
  rw [hd] at h
  generalize b % 9223372036854775808 = a at *
  generalize infB b = d at *
  clear hd
  go_enter Tryz.func37, Tryz.ntmps37
  go_wp2_with (go_at_call 65; refine (unhide HA).mono ?_; rintro e w1 ⟨rfl, hw⟩; obtain rfl : w = w1 := hw.symm)
  exact bodyPost_ret (v := .bool d) (by simp [results, Tryz.results37, go_sem]) rfl ⟨rfl, rfl⟩
/-- A finite float is a number. -/
theorem fin_read (b : Nat) (h : b % 9223372036854775808 < 9218868437227405312) : ∃ (m : Nat) (i : Int), Ieee.double.read b = .number (b / 9223372036854775808 % 2 == 1) m i ∧ (m = 0 ↔ b % 9223372036854775808 = 0) := by
  unfold Ieee.Format.read
  simp only [sign_lt, inf_is, binade_is, least_is]
  by_cases h1 : b % 9223372036854775808 < 4503599627370496
  · rw [if_pos h1]; exact ⟨_, _, rfl, Iff.rfl⟩
  · rw [if_neg h1, if_pos h]; exact ⟨_, _, rfl, ⟨fun e => by omega, fun e => by omega⟩⟩
theorem sub_fin (b : Nat) (h : b % 9223372036854775808 < 9218868437227405312) : floatBits .sub .f64 b b = some 0 := by
  obtain ⟨m, i, hr, _⟩ := fin_read b h
  show ((Ieee.double.read b).sum (Ieee.double.read b).opposite).map Ieee.double.write = some 0
  rw [hr]
  generalize (b / 9223372036854775808 % 2 == 1) = s
  have h0 : Ieee.signed s m 0 + Ieee.signed (!s) m 0 = 0 := by unfold Ieee.signed; cases s <;> simp <;> omega
  simp only [Ieee.Datum.opposite, Ieee.Datum.sum, Int.min_self, Int.sub_self, Int.toNat_zero, h0]
  cases s <;> rfl
/-- The document's parts. -/
theorem refParts_any (b : Nat) (hb : b < 18446744073709551616) (w : World) : Calls Tryz.prog 41 #[.float .f64 b] w fun e w' => e = .returned (.tuple #[.bool (decide (9223372036854775808 ≤ b)), .int .u64 (mvB b : Nat), .int .i64 (evB b)]) ∧ w' = w := by
  have hx := and_2047 b hb
  have hm := and_mant b hb
  have ho := or_mant b
  have hs : ((b : Int) / 9223372036854775808 == 1) = decide (9223372036854775808 ≤ b) := by
    rw [Bool.eq_iff_iff, beq_iff_eq, decide_eq_true_iff]; omega
  have hx1 : xpB b < 2048 := Nat.mod_lt _ (by decide)
  have hm1 : mtB b < 4503599627370496 := Nat.mod_lt _ (by decide)
  unfold mvB evB
  generalize xpB b = x at *
  generalize mtB b = m at *
  by_cases h0 : x = 0
  · subst h0
    rw [if_pos rfl, if_pos rfl]
    go_enter Tryz.func41, Tryz.ntmps41
    go_wp2
    exact bodyPost_ret (v := .tuple #[.bool (decide (9223372036854775808 ≤ b)), .int .u64 (m : Int), .int .i64 (-1074)]) (by simp [results, Tryz.results41, go_sem]) rfl ⟨rfl, rfl⟩
  · rw [if_neg h0, if_neg h0]
    have hxI : (x : Int) ≤ 2047 := by omega
    have hx0 : (0 : Int) ≤ (x : Int) := by omega
    have hxn : ((x : Int) == 0) = false := by rw [beq_eq_false_iff_ne]; omega
    have hmI : (m : Int) < 4503599627370496 := by omega
    have hm0 : (0 : Int) ≤ (m : Int) := by omega
    go_enter Tryz.func41, Tryz.ntmps41
    go_wp2
    exact bodyPost_ret (v := .tuple #[.bool (decide (9223372036854775808 ≤ b)), .int .u64 ((m + 4503599627370496 : Nat) : Int), .int .i64 ((x : Int) - 1075)]) (by simp [results, Tryz.results41, go_sem]) rfl ⟨rfl, rfl⟩
end Go.Proofs.YtijifpbpjinmhaaGreatDoor

/- The document's division of limbs of four digits: plain facts. No program is named here. -/
import Derived.Test.YtimihoonnglniaaGreatDoorRefPlus
import Derived.Test.YtimihoonnglniaaGreatDoorLimb5
import Derived.OneCell
import Derived.Test.YtimihoonnglniaaGreatDoorMulMath
namespace Cub
/-- A difference in the making: D is x with its first i limbs worked over, k what was borrowed. -/
structure MinusInv (B : Nat) (x y D : List Nat) (k i : Nat) : Prop where
  len : D.length = x.length
  lim : limbs B D
  rest : ∀ j (h : j < D.length), i ≤ j → D[j] = x[j]'(by omega)
  val : lval B D + lval B (y.take i) = lval B x + B ^ i * k
  borrow : k ≤ 1
theorem MinusInv.start {B : Nat} {x : List Nat} (y : List Nat) (hx : limbs B x) : MinusInv B x y x 0 0 := ⟨rfl, hx, fun _ _ _ => rfl, by simp [lval], by omega⟩
theorem MinusInv.step {B : Nat} {x y D : List Nat} {k i d k' : Nat} (h : MinusInv B x y D k i) (hi : i < D.length) (hd : d < B) (hk : k' ≤ 1)
    (he : d + k + y.getD i 0 = D[i] + B * k') : MinusInv B x y (D.set i d) k' (i + 1) := by
  refine ⟨by simp [h.len], limbs_set h.lim i _ hd, fun j hj hij => ?_, ?_, hk⟩
  · rw [List.getElem_set_ne (by omega)]
    exact h.rest j (by simpa using hj) (by omega)
  · have e1 := lval_set B D i d hi
    have e2 := h.val
    rw [takeB, Nat.pow_succ]
    have e3 := congrArg (B ^ i * ·) he
    simp only [Nat.mul_add] at e3
    have m1 : B ^ i * B * k' = B ^ i * (B * k') := Nat.mul_assoc _ _ _
    omega
theorem MinusInv.last {B : Nat} {x y D : List Nat} {k i : Nat} (h : MinusInv B x y D k i) (hi : i = x.length) (hy : y.length ≤ x.length) (hle : lval B y ≤ lval B x) : k = 0 ∧ lval B D = lval B x - lval B y := by
  have h1 := lval_lt h.lim
  have h2 := h.val
  rw [List.take_of_length_le (by omega), hi] at h2
  rw [h.len] at h1
  rcases Nat.eq_zero_or_pos k with h0 | h0
  · subst h0; exact ⟨rfl, by omega⟩
  · exfalso
    have : B ^ x.length * 1 ≤ B ^ x.length * k := Nat.mul_le_mul_left _ h0
    omega
theorem normal_len_le {B : Nat} (hB : 1 < B) {x y : List Nat} (hx : limbs B x) (hy : normal B y) (h : lval B y ≤ lval B x) : y.length ≤ x.length := by
  apply len_leB hB hy
  exact Nat.lt_of_le_of_lt h (lval_lt hx)
end Cub
namespace Go.Proofs.YtimihoonnglniaaGreatDoor
open Go.RowKit

theorem i64s_set (l : List Nat) (i x : Nat) : (i64s l).set i (.int .i64 (x : Int)) = i64s (l.set i x) := by simp [i64s, List.map_set]

set_option maxRecDepth 100000 in
set_option maxHeartbeats 1000000 in
theorem refMinus_any (s t : ByteArray) (w : World) (hs : s.size ≤ 100000) (ht : t.size ≤ 100000) (hds : Cub.digs s.data.toList) (hdt : Cub.digs t.data.toList) (hle : Cub.dval t.data.toList ≤ Cub.dval s.data.toList) :
    Calls Tryz.prog 38 #[.string s, .string t] w fun e w' => e = .returned (.string ⟨(Lib.decDigits (Cub.dval s.data.toList - Cub.dval t.data.toList)).toArray⟩) ∧ Below w.heap.size w w' := by
  have HDS := hide hds
  have HDT := hide hdt
  have HLE := hide hle
  clear hds hdt hle
  go_enter Tryz.func38, Tryz.ntmps38
  go_wp2_with (first
    | (go_at_call_of 56 s; refine (refLimbs_any s _ (by omega) (unhide HDS)).mono ?_; rintro e w1 ⟨vx, lx, rfl, hox, hnx, hvx, hb1⟩; have HX := hide (And.intro hnx (And.intro hvx hox)); clear hnx hvx hox)
    | (go_at_call_of 56 t; refine (refLimbs_any t _ (by omega) (unhide HDT)).mono ?_; rintro e w2 ⟨vy, ly, rfl, hoy, hny, hvy, hb2⟩; have HY := hide (And.intro hny (And.intro hvy hoy)); clear hny hvy hoy))
  have hbx : lx.length ≤ 100000 := by have := Cub.len_le4 (unhide HDS) (unhide HX).1 (unhide HX).2.1; rw [list_len] at this; omega
  have hyx : ly.length ≤ lx.length := Cub.normal_len_le (by decide) (unhide HX).1.1 (unhide HY).1 (by rw [(unhide HX).2.1, (unhide HY).2.1]; exact unhide HLE)
  have hox2 : OwnI w2 w.heap.size vx lx := (unhide HX).2.2.later hb2
  have hoy2 : OwnI w2 w1.heap.size vy ly := (unhide HY).2.2
  have HXb : Hid (∀ g, vx.ownBlock = some g → w.heap.size ≤ g ∧ g < w1.heap.size) := fun g hg => World.ownsRow.lt (unhide HX).2.2 g hg
  obtain ⟨nx, hnx⟩ : ∃ nx, nx = lx.length := ⟨_, rfl⟩
  obtain ⟨ny, hny⟩ : ∃ ny, ny = ly.length := ⟨_, rfl⟩
  obtain ⟨ax, cx, rfl, hcx, hmx, _⟩ := hox2.open
  obtain ⟨ay, cy, rfl, hcy, hmy, _⟩ := hoy2.open
  have HO2 := hide (And.intro hox2 hoy2)
  rw [← hnx] at hbx hyx HO2 HXb ⊢
  rw [← hny] at hyx HO2 ⊢
  have HNX := hide hnx
  have HNY := hide hny
  have hb12 : Below w.heap.size w w2 := hb1.trans (hb2.mono hb1.size)
  clear hnx hny hb2 hb1 hcx hcy hmx hmy hox2 hoy2
  go_loopw [7, 8] (fun c i wr => ∃ (D : List Nat) (k j : Nat), c = .int .i64 (k : Int) ∧ i = .int .i64 (j : Int) ∧ k ≤ 1 ∧ j ≤ nx ∧ Hid (Cub.MinusInv 10000 lx ly D k j) ∧ Hid (OwnI wr w.heap.size (.slice ax nx cx) D) ∧ Hid (OwnI wr w1.heap.size (.slice ay ny cy) ly) ∧ Hid (Below w.heap.size w wr)) (fun _ i _ => nx - (intOf i).toNat)
  case atStart => exact ⟨lx, 0, 0, rfl, rfl, by omega, by omega, Cub.MinusInv.start _ (unhide HX).1.1, (unhide HO2).1, (unhide HO2).2, hb12⟩
  case round =>
    obtain ⟨D, k, j, rfl, rfl, hk, hj, HI, HO, HOy, HB⟩ := hrel
    have hDn : nx = D.length := by rw [(unhide HI).len]; exact unhide HNX
    by_cases hjn : j < nx
    · have hjD : j < D.length := by omega
      have hoxn : wr.ownsRow w.heap.size 3 1 (.slice ax nx cx) nx (i64s D) := by have h := unhide HO; unfold OwnI at h; rw [← hDn] at h; exact h
      obtain ⟨g, cg, e⟩ := Joins.ownsRow_form hoxn (by omega)
      simp only [Value.slice.injEq, true_and] at e
      obtain ⟨rfl, rfl⟩ := e
      have hgb := unhide HXb g rfl
      obtain ⟨dv, hdv⟩ : ∃ dv, dv = D[j] := ⟨_, rfl⟩
      have hdB : dv < 10000 := by rw [hdv]; exact (unhide HI).lim _ (List.getElem_mem hjD)
      have hcd : wr.cell? ⟨g, j, none⟩ = some (.int .i64 (dv : Int)) := by rw [hoxn.cellAt j (by omega), i64s_get D j hjD, hdv]
      have hfd : wr.frozen? ⟨g, j, none⟩ = false := hoxn.frozenAt j
      have HDV := hide hdv
      obtain ⟨yv, hyv⟩ : ∃ yv, yv = ly.getD j 0 := ⟨_, rfl⟩
      have hyB : yv < 10000 := by rw [hyv]; exact Cub.getD_lt (unhide HY).1.1 (by decide) _
      have hoy := unhide HOy
      have hb := unhide HB
      have HYV := hide hyv
      by_cases hy : j < ny
      · have hjl : j < ly.length := by have := unhide HNY; omega
        obtain ⟨ay2, cy2, e2, _, _, hcy⟩ := hoy.open
        simp only [Value.slice.injEq] at e2
        obtain ⟨rfl, _, rfl⟩ := e2
        obtain ⟨b, rfl, hcb⟩ := hcy wr (Below.refl _ _) j hjl
        rw [show ly[j] = yv by rw [hyv, List.getD_eq_getElem?_getD, List.getElem?_eq_getElem hjl]; rfl] at hcb
        clear hdv hyv hcy HOy HO HB
        by_cases hneg : dv < k + yv
        · have hn' : (dv : Int) - (k : Int) - (yv : Int) < 0 := by omega
          have HI' : Hid (Cub.MinusInv 10000 lx ly (D.set j (dv + 10000 - k - yv)) 1 (j + 1)) := (unhide HI).step hjD (by omega) (by omega) (by rw [← unhide HYV, ← unhide HDV]; omega)
          have HO' : Hid (OwnI (wr.setCell ⟨g, j, none⟩ (.int .i64 ((dv : Int) - (k : Int) - (yv : Int) + 10000))) w.heap.size (.slice (some ⟨g, 0, none⟩) nx cx) (D.set j (dv + 10000 - k - yv))) := by
            have h := (World.ownsRow.stored hoxn j (.int .i64 (((dv + 10000 - k - yv : Nat)) : Int))).1
            rw [i64s_set] at h
            rw [show (((dv + 10000 - k - yv : Nat)) : Int) = (dv : Int) - (k : Int) - (yv : Int) + 10000 by omega] at h
            unfold OwnI
            rw [List.length_set, ← hDn]; exact h
          have HOy' : Hid (OwnI (wr.setCell ⟨g, j, none⟩ (.int .i64 ((dv : Int) - (k : Int) - (yv : Int) + 10000))) w1.heap.size (.slice (some ⟨b, 0, none⟩) ny cy) ly) := ownsRow_setCell_below hoy (by exact hgb.2) _
          have HB' : Hid (Below w.heap.size w (wr.setCell ⟨g, j, none⟩ (.int .i64 ((dv : Int) - (k : Int) - (yv : Int) + 10000)))) := hb.setCell (by exact hgb.1) _
          clear hoy hb hDn hoxn
          go_wp2
          go_roundw
          case rel => exact ⟨D.set j (dv + 10000 - k - yv), 1, j + 1, by go_num, by go_num, by omega, by omega, HI', HO', HOy', HB'⟩
          case measure => simp [intOf]; omega
        · have hn' : ¬ (dv : Int) - (k : Int) - (yv : Int) < 0 := by omega
          have HI' : Hid (Cub.MinusInv 10000 lx ly (D.set j (dv - k - yv)) 0 (j + 1)) := (unhide HI).step hjD (by omega) (by omega) (by rw [← unhide HYV, ← unhide HDV]; omega)
          have HO' : Hid (OwnI (wr.setCell ⟨g, j, none⟩ (.int .i64 ((dv : Int) - (k : Int) - (yv : Int)))) w.heap.size (.slice (some ⟨g, 0, none⟩) nx cx) (D.set j (dv - k - yv))) := by
            have h := (World.ownsRow.stored hoxn j (.int .i64 (((dv - k - yv : Nat)) : Int))).1
            rw [i64s_set] at h
            rw [show (((dv - k - yv : Nat)) : Int) = (dv : Int) - (k : Int) - (yv : Int) by omega] at h
            unfold OwnI
            rw [List.length_set, ← hDn]; exact h
          have HOy' : Hid (OwnI (wr.setCell ⟨g, j, none⟩ (.int .i64 ((dv : Int) - (k : Int) - (yv : Int)))) w1.heap.size (.slice (some ⟨b, 0, none⟩) ny cy) ly) := ownsRow_setCell_below hoy (by exact hgb.2) _
          have HB' : Hid (Below w.heap.size w (wr.setCell ⟨g, j, none⟩ (.int .i64 ((dv : Int) - (k : Int) - (yv : Int))))) := hb.setCell (by exact hgb.1) _
          clear hoy hb hDn hoxn
          go_wp2
          go_roundw
          case rel => exact ⟨D.set j (dv - k - yv), 0, j + 1, by go_num, by go_num, by omega, by omega, HI', HO', HOy', HB'⟩
          case measure => simp [intOf]; omega
      · have hy0 : yv = 0 := by rw [hyv, List.getD_eq_getElem?_getD, List.getElem?_eq_none (by have := unhide HNY; omega)]; rfl
        subst hy0
        clear hdv hyv HOy HO HB
        by_cases hneg : dv < k
        · have hn' : (dv : Int) - (k : Int) < 0 := by omega
          have HI' : Hid (Cub.MinusInv 10000 lx ly (D.set j (dv + 10000 - k)) 1 (j + 1)) := (unhide HI).step hjD (by omega) (by omega) (by rw [← unhide HYV, ← unhide HDV]; omega)
          have HO' : Hid (OwnI (wr.setCell ⟨g, j, none⟩ (.int .i64 ((dv : Int) - (k : Int) + 10000))) w.heap.size (.slice (some ⟨g, 0, none⟩) nx cx) (D.set j (dv + 10000 - k))) := by
            have h := (World.ownsRow.stored hoxn j (.int .i64 (((dv + 10000 - k : Nat)) : Int))).1
            rw [i64s_set] at h
            rw [show (((dv + 10000 - k : Nat)) : Int) = (dv : Int) - (k : Int) + 10000 by omega] at h
            unfold OwnI
            rw [List.length_set, ← hDn]; exact h
          have HOy' : Hid (OwnI (wr.setCell ⟨g, j, none⟩ (.int .i64 ((dv : Int) - (k : Int) + 10000))) w1.heap.size (.slice ay ny cy) ly) := ownsRow_setCell_below hoy (by exact hgb.2) _
          have HB' : Hid (Below w.heap.size w (wr.setCell ⟨g, j, none⟩ (.int .i64 ((dv : Int) - (k : Int) + 10000)))) := hb.setCell (by exact hgb.1) _
          clear hoy hb hDn hoxn
          go_wp2
          go_roundw
          case rel => exact ⟨D.set j (dv + 10000 - k), 1, j + 1, by go_num, by go_num, by omega, by omega, HI', HO', HOy', HB'⟩
          case measure => simp [intOf]; omega
        · have hn' : ¬ (dv : Int) - (k : Int) < 0 := by omega
          have HI' : Hid (Cub.MinusInv 10000 lx ly (D.set j (dv - k)) 0 (j + 1)) := (unhide HI).step hjD (by omega) (by omega) (by rw [← unhide HYV, ← unhide HDV]; omega)
          have HO' : Hid (OwnI (wr.setCell ⟨g, j, none⟩ (.int .i64 ((dv : Int) - (k : Int)))) w.heap.size (.slice (some ⟨g, 0, none⟩) nx cx) (D.set j (dv - k))) := by
            have h := (World.ownsRow.stored hoxn j (.int .i64 (((dv - k : Nat)) : Int))).1
            rw [i64s_set] at h
            rw [show (((dv - k : Nat)) : Int) = (dv : Int) - (k : Int) by omega] at h
            unfold OwnI
            rw [List.length_set, ← hDn]; exact h
          have HOy' : Hid (OwnI (wr.setCell ⟨g, j, none⟩ (.int .i64 ((dv : Int) - (k : Int)))) w1.heap.size (.slice ay ny cy) ly) := ownsRow_setCell_below hoy (by exact hgb.2) _
          have HB' : Hid (Below w.heap.size w (wr.setCell ⟨g, j, none⟩ (.int .i64 ((dv : Int) - (k : Int))))) := hb.setCell (by exact hgb.1) _
          clear hoy hb hDn hoxn
          go_wp2
          go_roundw
          case rel => exact ⟨D.set j (dv - k), 0, j + 1, by go_num, by go_num, by omega, by omega, HI', HO', HOy', HB'⟩
          case measure => simp [intOf]; omega
    · have hje : j = lx.length := by have := unhide HNX; omega
      obtain ⟨_, hfin⟩ := (unhide HI).last hje (by have := unhide HNX; have := unhide HNY; omega) (by rw [(unhide HX).2.1, (unhide HY).2.1]; exact unhide HLE)
      obtain ⟨t1, t2, t3⟩ := Cub.lval_trim 10000 _ D rfl
      have HF : Hid (Cub.lval 10000 (Cub.trimN D) = Cub.dval s.data.toList - Cub.dval t.data.toList ∧ Cub.normal 10000 (Cub.trimN D)) := by
        refine ⟨?_, t2 (unhide HI).lim⟩
        rw [t1, hfin, (unhide HX).2.1, (unhide HY).2.1]
      have hTl : (Cub.trimN D).length ≤ 1000000 := by
        obtain ⟨q, hq⟩ := t3
        have := congrArg List.length hq
        rw [List.length_append] at this; omega
      clear t1 t2 t3 hfin hje hDn
      go_wp2_with (first
        | (go_at_call 57; refine (refTrim_any _ _ D _ (unhide HO)).mono ?_; rintro e w5 ⟨v5, rfl, ho5, rfl⟩; have HO5 := hide ho5; clear ho5)
        | (go_at_call 54; refine (refText_any _ _ _ _ (unhide HO5) (unhide HF).2 hTl).mono ?_; rintro e w6 ⟨rfl, hb6⟩))
      go_ret
      exact ⟨by rw [(unhide HF).1]; rfl, (unhide HB).trans (hb6.mono (unhide HB).size)⟩
end Go.Proofs.YtimihoonnglniaaGreatDoor

namespace Cub

theorem lval_split4 (B : Nat) (l : List Nat) (i : Nat) (h : i ≤ l.length) : lval B l = lval B (l.take i) + B ^ i * lval B (l.drop i) := by
  have e := lval_append B (l.take i) (l.drop i)
  rw [List.take_append_drop, List.length_take, Nat.min_eq_left h] at e
  exact e
theorem lval_drop (B : Nat) (l : List Nat) (i : Nat) (h : i < l.length) : lval B (l.drop i) = l[i] + B * lval B (l.drop (i + 1)) := by
  rw [List.drop_eq_getElem_cons h]; rfl
theorem limbs_drop4 {B : Nat} {l : List Nat} (h : limbs B l) (i : Nat) : limbs B (l.drop i) := fun x hx => h x (List.mem_of_mem_drop hx)
theorem limbs_take4 {B : Nat} {l : List Nat} (h : limbs B l) (i : Nat) : limbs B (l.take i) := fun x hx => h x (List.mem_of_mem_take hx)

/-- Of two rows of one length, alike from i + 1 on, the limb at i tells. -/
theorem less_at {B : Nat} {x y : List Nat} {i : Nat} (hx : limbs B x) (hi : i < x.length) (hj : i < y.length) (hd : x.drop (i + 1) = y.drop (i + 1)) (h : x[i] < y[i]) : lval B x < lval B y := by
  rw [lval_split4 B x i (by omega), lval_split4 B y i (by omega), lval_drop B x i hi, lval_drop B y i hj, hd]
  have h1 := lval_lt (limbs_take4 hx i)
  rw [List.length_take, Nat.min_eq_left (by omega)] at h1
  have h2 : B ^ i * (x[i] + B * lval B (y.drop (i + 1))) + B ^ i ≤ B ^ i * (y[i] + B * lval B (y.drop (i + 1))) := by
    rw [← Nat.mul_succ]; exact Nat.mul_le_mul_left _ (by omega)
  omega
theorem drop_same {x y : List Nat} {i : Nat} (hi : i < x.length) (hj : i < y.length) (hd : x.drop (i + 1) = y.drop (i + 1)) (h : x[i] = y[i]) : x.drop i = y.drop i := by
  rw [List.drop_eq_getElem_cons hi, List.drop_eq_getElem_cons hj, hd, h]
/-- Of two rows without noughts at the top the longer one is the greater. -/
theorem less_len {B : Nat} {x y : List Nat} (hB : 1 < B) (hx : limbs B x) (hy : normal B y) (h : x.length < y.length) : lval B x < lval B y := by
  have h1 := lval_lt hx
  have h2 := normal_ge hy (by intro e; rw [e] at h; simp at h)
  have h3 : B ^ x.length ≤ B ^ (y.length - 1) := Nat.pow_le_pow_right (by omega) (by omega)
  omega

/-- How far one number has been taken q times from another, from place 'up' on: D is what stands, c is owed. -/
structure RefTakeInv (X Y D : List Nat) (up q c k : Nat) : Prop where
  len : D.length = X.length
  lim : limbs 10000 D
  low : D.take up = X.take up
  rest : D.drop (up + k) = X.drop (up + k)
  eq : lval 10000 ((D.drop up).take k) + q * lval 10000 (Y.take k) = lval 10000 ((X.drop up).take k) + c * 10000 ^ k
  owed : c ≤ 9999
theorem RefTakeInv.start {X : List Nat} (Y : List Nat) (up q : Nat) (hX : limbs 10000 X) : RefTakeInv X Y X up q 0 0 :=
  ⟨rfl, hX, rfl, rfl, by simp [lval], by omega⟩
theorem take_next (l : List Nat) (up k : Nat) (h : up + k < l.length) : lval 10000 ((l.drop up).take (k + 1)) = lval 10000 ((l.drop up).take k) + 10000 ^ k * l[up + k] := by
  have hk : k < (l.drop up).length := by rw [List.length_drop]; omega
  rw [List.take_succ_eq_append_getElem hk, lval_snoc, List.length_take, Nat.min_eq_left (Nat.le_of_lt hk), List.getElem_drop]
theorem take_getD4 (l : List Nat) (i : Nat) : lval 10000 (l.take (i + 1)) = lval 10000 (l.take i) + 10000 ^ i * l.getD i 0 := by
  by_cases h : i < l.length
  · rw [List.take_succ_eq_append_getElem h, lval_snoc, List.length_take, Nat.min_eq_left (by omega)]; simp [List.getD, h]
  · rw [List.take_of_length_le (by omega), List.take_of_length_le (by omega)]; simp [List.getD, List.getElem?_eq_none (Nat.le_of_not_lt h)]
theorem RefTakeInv.step {X Y D : List Nat} {up q c k d c' : Nat} (h : RefTakeInv X Y D up q c k) (hk : up + k < D.length) (hd : d < 10000) (hc : c' ≤ 9999)
    (he : D[up + k] + c' * 10000 = d + c + q * Y.getD k 0) : RefTakeInv X Y (D.set (up + k) d) up q c' (k + 1) := by
  have hl := h.len
  have hkX : up + k < X.length := by omega
  have hDX : D[up + k] = X[up + k] := by
    have := h.rest
    rw [List.drop_eq_getElem_cons hk, List.drop_eq_getElem_cons hkX] at this
    exact (List.cons.inj this).1
  refine ⟨by rw [List.length_set]; exact hl, limbs_set h.lim _ _ hd, ?_, ?_, ?_, hc⟩
  · rw [List.take_set_of_le (by omega)]; exact h.low
  · rw [List.drop_set_of_lt (by omega), ← Nat.add_assoc]
    have := h.rest
    rw [List.drop_eq_getElem_cons hk, List.drop_eq_getElem_cons hkX] at this
    exact (List.cons.inj this).2
  · have e1 : lval 10000 (((D.set (up + k) d).drop up).take (k + 1)) = lval 10000 ((D.drop up).take k) + 10000 ^ k * d := by
      rw [take_next _ up k (by rw [List.length_set]; exact hk), List.getElem_set_self]
      congr 2
      rw [List.drop_set]
      split
      · omega
      · rw [List.take_set_of_le (by omega)]
    rw [e1, take_getD4, take_next X up k hkX]
    have e := h.eq
    rw [hDX] at he
    generalize X[up + k] = xv at *
    generalize Y.getD k 0 = yv at *
    generalize lval 10000 ((D.drop up).take k) = a at *
    generalize lval 10000 (Y.take k) = b at *
    generalize lval 10000 ((X.drop up).take k) = x at *
    rw [Nat.pow_succ]
    generalize (10000 : Nat) ^ k = p at *
    have h1 : p * (xv + c' * 10000) = p * (d + c + q * yv) := by rw [he]
    have h2 : p * (xv + c' * 10000) = p * xv + c' * (p * 10000) := by grind
    have h3 : p * (d + c + q * yv) = p * d + c * p + q * (p * yv) := by grind
    rw [h2, h3] at h1
    rw [Nat.mul_add]
    omega
/-- The end: nothing is owed. -/
theorem RefTakeInv.done {X Y D : List Nat} {up q k : Nat} (h : RefTakeInv X Y D up q 0 k) (hk : Y.length ≤ k) (hup : up + k ≤ X.length) : lval 10000 (D.drop up) + q * lval 10000 Y = lval 10000 (X.drop up) := by
  have e := h.eq
  rw [List.take_of_length_le hk, Nat.zero_mul, Nat.add_zero] at e
  have hl := h.len
  rw [lval_split4 10000 (D.drop up) k (by rw [List.length_drop]; omega), lval_split4 10000 (X.drop up) k (by rw [List.length_drop]; omega), List.drop_drop, List.drop_drop, h.rest]
  omega
theorem RefTakeInv.owes {X Y D : List Nat} {up q c k : Nat} (h : RefTakeInv X Y D up q c k) (hk : Y.length ≤ k) (hup : up + k = X.length) (hle : q * lval 10000 Y ≤ lval 10000 (X.drop up)) : c = 0 := by
  have e := h.eq
  have hl := h.len
  rw [List.take_of_length_le hk, List.take_of_length_le (by rw [List.length_drop]; omega), List.take_of_length_le (by rw [List.length_drop]; omega)] at e
  have h1 := lval_lt (limbs_drop4 h.lim up)
  rw [List.length_drop, hl, show X.length - up = k by omega] at h1
  rcases Nat.eq_zero_or_pos c with hc | hc
  · exact hc
  · have : 10000 ^ k ≤ c * 10000 ^ k := Nat.le_mul_of_pos_left _ hc
    omega

/-- How far a number A has been divided by V: Q is found from 'up' on (the first 'up' are noughts), X is left. -/
structure DivInv (A V : Nat) (X Q : List Nat) (n up : Nat) : Prop where
  lenX : X.length = n
  lenQ : Q.length = n
  limX : limbs 10000 X
  limQ : limbs 10000 Q
  zero : ∀ i (h : i < Q.length), i < up → Q[i] = 0
  sum : lval 10000 X + V * lval 10000 Q = A
  rest : lval 10000 (X.drop up) < V
theorem DivInv.start {A V : Nat} {X : List Nat} {up : Nat} (hX : limbs 10000 X) (hA : lval 10000 X = A) (hr : lval 10000 (X.drop up) < V) : DivInv A V X (List.replicate X.length 0) X.length up :=
  ⟨rfl, by simp, hX, limbs_zeros _ _ (by decide), fun i h _ => by simp, by rw [lval_zeros, Nat.mul_zero, Nat.add_zero]; exact hA, hr⟩
theorem DivInv.quo {A V : Nat} {X Q : List Nat} {n up : Nat} (h : DivInv A V X Q n (up + 1)) (hup : up < n) : lval 10000 (X.drop up) / V ≤ 9999 := by
  have h1 : up < X.length := by rw [h.lenX]; exact hup
  rw [lval_drop 10000 X up h1]
  have h2 : X[up] < 10000 := h.limX _ (List.getElem_mem h1)
  have h3 := h.rest
  have h4 : X[up] + 10000 * lval 10000 (X.drop (up + 1)) < 10000 * V := by omega
  have := (Nat.div_lt_iff_lt_mul (by omega : 0 < V)).2 h4
  omega
theorem DivInv.step {A V : Nat} {X Q D : List Nat} {n up q : Nat} (h : DivInv A V X Q n (up + 1)) (hup : up < n) (hq : q = lval 10000 (X.drop up) / V)
    (hl : D.length = X.length) (hD : limbs 10000 D) (hlow : D.take up = X.take up) (hs : lval 10000 (D.drop up) + q * V = lval 10000 (X.drop up)) : DivInv A V D (Q.set up q) n up := by
  have hV : 0 < V := by have := h.rest; omega
  have h1 : up < X.length := by rw [h.lenX]; exact hup
  have h2 : up < Q.length := by rw [h.lenQ]; exact hup
  have h9 := h.quo hup
  refine ⟨hl.trans h.lenX, by rw [List.length_set]; exact h.lenQ, hD, limbs_set h.limQ _ _ (by omega), ?_, ?_, ?_⟩
  · intro i hi hlt
    rw [List.getElem_set_ne (by omega)]
    exact h.zero i (by rw [List.length_set] at hi; exact hi) (by omega)
  · have e1 := lval_set 10000 Q up q h2
    rw [h.zero up h2 (by omega), Nat.mul_zero, Nat.add_zero] at e1
    have e2 := h.sum
    rw [lval_split4 10000 X up (by omega)] at e2
    rw [lval_split4 10000 D up (by omega), hlow, e1]
    have e3 : 10000 ^ up * lval 10000 (X.drop up) = 10000 ^ up * lval 10000 (D.drop up) + V * (10000 ^ up * q) := by rw [← hs]; grind
    rw [Nat.mul_add]
    omega
  · have := Nat.div_add_mod (lval 10000 (X.drop up)) V
    have hm := Nat.mod_lt (lval 10000 (X.drop up)) hV
    rw [← hq, Nat.mul_comm V q] at this
    omega
theorem DivInv.done {A V : Nat} {X Q : List Nat} {n : Nat} (h : DivInv A V X Q n 0) : lval 10000 Q = A / V ∧ lval 10000 X = A % V := by
  have h1 := h.sum
  have h2 := h.rest
  rw [List.drop_zero] at h2
  have hV : 0 < V := by omega
  have e := (Nat.div_mod_unique hV (a := A) (d := lval 10000 Q) (c := lval 10000 X)).2 ⟨h1, h2⟩
  exact ⟨e.1.symm, e.2.symm⟩
end Cub

/- The document's own difference. -/
import Derived.Test.YtoinadnpdbaamaaGreatDoorRefPlus
import Derived.Test.YtoinadnpdbaamaaGreatDoorPlain
import Derived.OneCell
namespace Cub
/-- A difference in the making: D is x with its first i limbs worked over, k what was borrowed. -/
structure MinusInv (B : Nat) (x y D : List Nat) (k i : Nat) : Prop where
  len : D.length = x.length
  lim : limbs B D
  rest : ∀ j (h : j < D.length), i ≤ j → D[j] = x[j]'(by omega)
  val : lval B D + lval B (y.take i) = lval B x + B ^ i * k
  borrow : k ≤ 1
theorem MinusInv.start {B : Nat} {x : List Nat} (y : List Nat) (hx : limbs B x) : MinusInv B x y x 0 0 := ⟨rfl, hx, fun _ _ _ => rfl, by simp [lval], by omega⟩
theorem MinusInv.step {B : Nat} {x y D : List Nat} {k i d k' : Nat} (h : MinusInv B x y D k i) (hi : i < D.length) (hd : d < B) (hk : k' ≤ 1)
    (he : d + k + y.getD i 0 = D[i] + B * k') : MinusInv B x y (D.set i d) k' (i + 1) := by
  refine ⟨by simp [h.len], limbs_set h.lim i _ hd, fun j hj hij => ?_, ?_, hk⟩
  · rw [List.getElem_set_ne (by omega)]
    exact h.rest j (by simpa using hj) (by omega)
  · have e1 := lval_set B D i d hi
    have e2 := h.val
    rw [takeB, Nat.pow_succ]
    have e3 := congrArg (B ^ i * ·) he
    simp only [Nat.mul_add] at e3
    have m1 : B ^ i * B * k' = B ^ i * (B * k') := Nat.mul_assoc _ _ _
    omega
theorem MinusInv.last {B : Nat} {x y D : List Nat} {k i : Nat} (h : MinusInv B x y D k i) (hi : i = x.length) (hy : y.length ≤ x.length) (hle : lval B y ≤ lval B x) : k = 0 ∧ lval B D = lval B x - lval B y := by
  have h1 := lval_lt h.lim
  have h2 := h.val
  rw [List.take_of_length_le (by omega), hi] at h2
  rw [h.len] at h1
  rcases Nat.eq_zero_or_pos k with h0 | h0
  · subst h0; exact ⟨rfl, by omega⟩
  · exfalso
    have : B ^ x.length * 1 ≤ B ^ x.length * k := Nat.mul_le_mul_left _ h0
    omega
theorem normal_len_le {B : Nat} (hB : 1 < B) {x y : List Nat} (hx : limbs B x) (hy : normal B y) (h : lval B y ≤ lval B x) : y.length ≤ x.length := by
  apply len_leB hB hy
  exact Nat.lt_of_le_of_lt h (lval_lt hx)
end Cub
namespace Go.Proofs.YtoinadnpdbaamaaGreatDoor
open Go.RowKit

theorem i64s_set (l : List Nat) (i x : Nat) : (i64s l).set i (.int .i64 (x : Int)) = i64s (l.set i x) := by simp [i64s, List.map_set]

set_option maxRecDepth 100000 in
set_option maxHeartbeats 1000000 in
theorem refMinus_any (s t : ByteArray) (w : World) (hs : s.size ≤ 100000) (ht : t.size ≤ 100000) (hds : Cub.digs s.data.toList) (hdt : Cub.digs t.data.toList) (hle : Cub.dval t.data.toList ≤ Cub.dval s.data.toList) :
    Calls Tryz.prog 121 #[.string s, .string t] w fun e w' => e = .returned (.string ⟨(Lib.decDigits (Cub.dval s.data.toList - Cub.dval t.data.toList)).toArray⟩) ∧ Below w.heap.size w w' := by
  have HDS := hide hds
  have HDT := hide hdt
  have HLE := hide hle
  clear hds hdt hle
  go_enter Tryz.func121, Tryz.ntmps121
  go_wp2_with (first
    | (go_at_call_of 157 s; refine (refLimbs_any s _ (by omega) (unhide HDS)).mono ?_; rintro e w1 ⟨vx, lx, rfl, hox, hnx, hvx, hb1⟩; have HX := hide (And.intro hnx (And.intro hvx hox)); clear hnx hvx hox)
    | (go_at_call_of 157 t; refine (refLimbs_any t _ (by omega) (unhide HDT)).mono ?_; rintro e w2 ⟨vy, ly, rfl, hoy, hny, hvy, hb2⟩; have HY := hide (And.intro hny (And.intro hvy hoy)); clear hny hvy hoy))
  have hbx : lx.length ≤ 100000 := by have := Cub.len_le4 (unhide HDS) (unhide HX).1 (unhide HX).2.1; rw [list_len] at this; omega
  have hyx : ly.length ≤ lx.length := Cub.normal_len_le (by decide) (unhide HX).1.1 (unhide HY).1 (by rw [(unhide HX).2.1, (unhide HY).2.1]; exact unhide HLE)
  have hox2 : OwnI w2 w.heap.size vx lx := (unhide HX).2.2.later hb2
  have hoy2 : OwnI w2 w1.heap.size vy ly := (unhide HY).2.2
  have HXb : Hid (∀ g, vx.ownBlock = some g → w.heap.size ≤ g ∧ g < w1.heap.size) := fun g hg => World.ownsRow.lt (unhide HX).2.2 g hg
  obtain ⟨nx, hnx⟩ : ∃ nx, nx = lx.length := ⟨_, rfl⟩
  obtain ⟨ny, hny⟩ : ∃ ny, ny = ly.length := ⟨_, rfl⟩
  obtain ⟨ax, cx, rfl, hcx, hmx, _⟩ := hox2.open
  obtain ⟨ay, cy, rfl, hcy, hmy, _⟩ := hoy2.open
  have HO2 := hide (And.intro hox2 hoy2)
  rw [← hnx] at hbx hyx HO2 HXb ⊢
  rw [← hny] at hyx HO2 ⊢
  have HNX := hide hnx
  have HNY := hide hny
  have hb12 : Below w.heap.size w w2 := hb1.trans (hb2.mono hb1.size)
  clear hnx hny hb2 hb1 hcx hcy hmx hmy hox2 hoy2
  go_loopw [7, 8] (fun c i wr => ∃ (D : List Nat) (k j : Nat), c = .int .i64 (k : Int) ∧ i = .int .i64 (j : Int) ∧ k ≤ 1 ∧ j ≤ nx ∧ Hid (Cub.MinusInv 10000 lx ly D k j) ∧ Hid (OwnI wr w.heap.size (.slice ax nx cx) D) ∧ Hid (OwnI wr w1.heap.size (.slice ay ny cy) ly) ∧ Hid (Below w.heap.size w wr)) (fun _ i _ => nx - (intOf i).toNat)
  case atStart => exact ⟨lx, 0, 0, rfl, rfl, by omega, by omega, Cub.MinusInv.start _ (unhide HX).1.1, (unhide HO2).1, (unhide HO2).2, hb12⟩
  case round =>
    obtain ⟨D, k, j, rfl, rfl, hk, hj, HI, HO, HOy, HB⟩ := hrel
    have hDn : nx = D.length := by rw [(unhide HI).len]; exact unhide HNX
    by_cases hjn : j < nx
    · have hjD : j < D.length := by omega
      have hoxn : wr.ownsRow w.heap.size 3 1 (.slice ax nx cx) nx (i64s D) := by have h := unhide HO; unfold OwnI at h; rw [← hDn] at h; exact h
      obtain ⟨g, cg, e⟩ := Joins.ownsRow_form hoxn (by omega)
      simp only [Value.slice.injEq, true_and] at e
      obtain ⟨rfl, rfl⟩ := e
      have hgb := unhide HXb g rfl
      obtain ⟨dv, hdv⟩ : ∃ dv, dv = D[j] := ⟨_, rfl⟩
      have hdB : dv < 10000 := by rw [hdv]; exact (unhide HI).lim _ (List.getElem_mem hjD)
      have hcd : wr.cell? ⟨g, j, none⟩ = some (.int .i64 (dv : Int)) := by rw [hoxn.cellAt j (by omega), i64s_get D j hjD, hdv]
      have hfd : wr.frozen? ⟨g, j, none⟩ = false := hoxn.frozenAt j
      have HDV := hide hdv
      obtain ⟨yv, hyv⟩ : ∃ yv, yv = ly.getD j 0 := ⟨_, rfl⟩
      have hyB : yv < 10000 := by rw [hyv]; exact Cub.getD_lt (unhide HY).1.1 (by decide) _
      have hoy := unhide HOy
      have hb := unhide HB
      have HYV := hide hyv
      by_cases hy : j < ny
      · have hjl : j < ly.length := by have := unhide HNY; omega
        obtain ⟨ay2, cy2, e2, _, _, hcy⟩ := hoy.open
        simp only [Value.slice.injEq] at e2
        obtain ⟨rfl, _, rfl⟩ := e2
        obtain ⟨b, rfl, hcb⟩ := hcy wr (Below.refl _ _) j hjl
        rw [show ly[j] = yv by rw [hyv, List.getD_eq_getElem?_getD, List.getElem?_eq_getElem hjl]; rfl] at hcb
        clear hdv hyv hcy HOy HO HB
        by_cases hneg : dv < k + yv
        · have hn' : (dv : Int) - (k : Int) - (yv : Int) < 0 := by omega
          have HI' : Hid (Cub.MinusInv 10000 lx ly (D.set j (dv + 10000 - k - yv)) 1 (j + 1)) := (unhide HI).step hjD (by omega) (by omega) (by rw [← unhide HYV, ← unhide HDV]; omega)
          have HO' : Hid (OwnI (wr.setCell ⟨g, j, none⟩ (.int .i64 ((dv : Int) - (k : Int) - (yv : Int) + 10000))) w.heap.size (.slice (some ⟨g, 0, none⟩) nx cx) (D.set j (dv + 10000 - k - yv))) := by
            have h := (World.ownsRow.stored hoxn j (.int .i64 (((dv + 10000 - k - yv : Nat)) : Int))).1
            rw [i64s_set] at h
            rw [show (((dv + 10000 - k - yv : Nat)) : Int) = (dv : Int) - (k : Int) - (yv : Int) + 10000 by omega] at h
            unfold OwnI
            rw [List.length_set, ← hDn]; exact h
          have HOy' : Hid (OwnI (wr.setCell ⟨g, j, none⟩ (.int .i64 ((dv : Int) - (k : Int) - (yv : Int) + 10000))) w1.heap.size (.slice (some ⟨b, 0, none⟩) ny cy) ly) := ownsRow_setCell_below hoy (by exact hgb.2) _
          have HB' : Hid (Below w.heap.size w (wr.setCell ⟨g, j, none⟩ (.int .i64 ((dv : Int) - (k : Int) - (yv : Int) + 10000)))) := hb.setCell (by exact hgb.1) _
          clear hoy hb hDn hoxn
          go_wp2
          go_roundw
          case rel => exact ⟨D.set j (dv + 10000 - k - yv), 1, j + 1, by go_num, by go_num, by omega, by omega, HI', HO', HOy', HB'⟩
          case measure => simp [intOf]; omega
        · have hn' : ¬ (dv : Int) - (k : Int) - (yv : Int) < 0 := by omega
          have HI' : Hid (Cub.MinusInv 10000 lx ly (D.set j (dv - k - yv)) 0 (j + 1)) := (unhide HI).step hjD (by omega) (by omega) (by rw [← unhide HYV, ← unhide HDV]; omega)
          have HO' : Hid (OwnI (wr.setCell ⟨g, j, none⟩ (.int .i64 ((dv : Int) - (k : Int) - (yv : Int)))) w.heap.size (.slice (some ⟨g, 0, none⟩) nx cx) (D.set j (dv - k - yv))) := by
            have h := (World.ownsRow.stored hoxn j (.int .i64 (((dv - k - yv : Nat)) : Int))).1
            rw [i64s_set] at h
            rw [show (((dv - k - yv : Nat)) : Int) = (dv : Int) - (k : Int) - (yv : Int) by omega] at h
            unfold OwnI
            rw [List.length_set, ← hDn]; exact h
          have HOy' : Hid (OwnI (wr.setCell ⟨g, j, none⟩ (.int .i64 ((dv : Int) - (k : Int) - (yv : Int)))) w1.heap.size (.slice (some ⟨b, 0, none⟩) ny cy) ly) := ownsRow_setCell_below hoy (by exact hgb.2) _
          have HB' : Hid (Below w.heap.size w (wr.setCell ⟨g, j, none⟩ (.int .i64 ((dv : Int) - (k : Int) - (yv : Int))))) := hb.setCell (by exact hgb.1) _
          clear hoy hb hDn hoxn
          go_wp2
          go_roundw
          case rel => exact ⟨D.set j (dv - k - yv), 0, j + 1, by go_num, by go_num, by omega, by omega, HI', HO', HOy', HB'⟩
          case measure => simp [intOf]; omega
      · have hy0 : yv = 0 := by rw [hyv, List.getD_eq_getElem?_getD, List.getElem?_eq_none (by have := unhide HNY; omega)]; rfl
        subst hy0
        clear hdv hyv HOy HO HB
        by_cases hneg : dv < k
        · have hn' : (dv : Int) - (k : Int) < 0 := by omega
          have HI' : Hid (Cub.MinusInv 10000 lx ly (D.set j (dv + 10000 - k)) 1 (j + 1)) := (unhide HI).step hjD (by omega) (by omega) (by rw [← unhide HYV, ← unhide HDV]; omega)
          have HO' : Hid (OwnI (wr.setCell ⟨g, j, none⟩ (.int .i64 ((dv : Int) - (k : Int) + 10000))) w.heap.size (.slice (some ⟨g, 0, none⟩) nx cx) (D.set j (dv + 10000 - k))) := by
            have h := (World.ownsRow.stored hoxn j (.int .i64 (((dv + 10000 - k : Nat)) : Int))).1
            rw [i64s_set] at h
            rw [show (((dv + 10000 - k : Nat)) : Int) = (dv : Int) - (k : Int) + 10000 by omega] at h
            unfold OwnI
            rw [List.length_set, ← hDn]; exact h
          have HOy' : Hid (OwnI (wr.setCell ⟨g, j, none⟩ (.int .i64 ((dv : Int) - (k : Int) + 10000))) w1.heap.size (.slice ay ny cy) ly) := ownsRow_setCell_below hoy (by exact hgb.2) _
          have HB' : Hid (Below w.heap.size w (wr.setCell ⟨g, j, none⟩ (.int .i64 ((dv : Int) - (k : Int) + 10000)))) := hb.setCell (by exact hgb.1) _
          clear hoy hb hDn hoxn
          go_wp2
          go_roundw
          case rel => exact ⟨D.set j (dv + 10000 - k), 1, j + 1, by go_num, by go_num, by omega, by omega, HI', HO', HOy', HB'⟩
          case measure => simp [intOf]; omega
        · have hn' : ¬ (dv : Int) - (k : Int) < 0 := by omega
          have HI' : Hid (Cub.MinusInv 10000 lx ly (D.set j (dv - k)) 0 (j + 1)) := (unhide HI).step hjD (by omega) (by omega) (by rw [← unhide HYV, ← unhide HDV]; omega)
          have HO' : Hid (OwnI (wr.setCell ⟨g, j, none⟩ (.int .i64 ((dv : Int) - (k : Int)))) w.heap.size (.slice (some ⟨g, 0, none⟩) nx cx) (D.set j (dv - k))) := by
            have h := (World.ownsRow.stored hoxn j (.int .i64 (((dv - k : Nat)) : Int))).1
            rw [i64s_set] at h
            rw [show (((dv - k : Nat)) : Int) = (dv : Int) - (k : Int) by omega] at h
            unfold OwnI
            rw [List.length_set, ← hDn]; exact h
          have HOy' : Hid (OwnI (wr.setCell ⟨g, j, none⟩ (.int .i64 ((dv : Int) - (k : Int)))) w1.heap.size (.slice ay ny cy) ly) := ownsRow_setCell_below hoy (by exact hgb.2) _
          have HB' : Hid (Below w.heap.size w (wr.setCell ⟨g, j, none⟩ (.int .i64 ((dv : Int) - (k : Int))))) := hb.setCell (by exact hgb.1) _
          clear hoy hb hDn hoxn
          go_wp2
          go_roundw
          case rel => exact ⟨D.set j (dv - k), 0, j + 1, by go_num, by go_num, by omega, by omega, HI', HO', HOy', HB'⟩
          case measure => simp [intOf]; omega
    · have hje : j = lx.length := by have := unhide HNX; omega
      obtain ⟨_, hfin⟩ := (unhide HI).last hje (by have := unhide HNX; have := unhide HNY; omega) (by rw [(unhide HX).2.1, (unhide HY).2.1]; exact unhide HLE)
      obtain ⟨t1, t2, t3⟩ := Cub.lval_trim 10000 _ D rfl
      have HF : Hid (Cub.lval 10000 (Cub.trimN D) = Cub.dval s.data.toList - Cub.dval t.data.toList ∧ Cub.normal 10000 (Cub.trimN D)) := by
        refine ⟨?_, t2 (unhide HI).lim⟩
        rw [t1, hfin, (unhide HX).2.1, (unhide HY).2.1]
      have hTl : (Cub.trimN D).length ≤ 1000000 := by
        obtain ⟨q, hq⟩ := t3
        have := congrArg List.length hq
        rw [List.length_append] at this; omega
      clear t1 t2 t3 hfin hje hDn
      go_wp2_with (first
        | (go_at_call 162; refine (refTrim_any _ _ D _ (unhide HO)).mono ?_; rintro e w5 ⟨v5, rfl, ho5, rfl⟩; have HO5 := hide ho5; clear ho5)
        | (go_at_call 161; refine (refText_any _ _ _ _ (unhide HO5) (unhide HF).2 hTl).mono ?_; rintro e w6 ⟨rfl, hb6⟩))
      go_ret
      exact ⟨by rw [(unhide HF).1]; rfl, (unhide HB).trans (hb6.mono (unhide HB).size)⟩
end Go.Proofs.YtoinadnpdbaamaaGreatDoor

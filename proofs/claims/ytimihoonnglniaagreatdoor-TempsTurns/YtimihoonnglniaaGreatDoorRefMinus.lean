/- The document's own difference. -/
import Derived.Test.YtimihoonnglniaaGreatDoorLehmer
import Derived.Test.YtimihoonnglniaaGreatDoorRefText2
import Derived.Test.YtimihoonnglniaaGreatDoorAdd
import Derived.OneCell
namespace Cub
/-- A sum in the making, least limb first: S what is written, k what is carried. -/
structure PlusInv (B : Nat) (x y S : List Nat) (k : Nat) : Prop where
  lim : limbs B S
  val : lval B S + B ^ S.length * k = lval B (x.take S.length) + lval B (y.take S.length)
  carry : k ≤ 1
theorem PlusInv.start (B : Nat) (x y : List Nat) : PlusInv B x y [] 0 := ⟨fun _ h => (by cases h), by simp [lval], by omega⟩
theorem PlusInv.step {B : Nat} {x y S : List Nat} {k : Nat} (h : PlusInv B x y S k) (hB : 1 < B) (hx : x.getD S.length 0 < B) (hy : y.getD S.length 0 < B) :
    PlusInv B x y (S ++ [(k + x.getD S.length 0 + y.getD S.length 0) % B]) ((k + x.getD S.length 0 + y.getD S.length 0) / B) := by
  have hk := h.carry
  refine ⟨limbs_append.2 ⟨h.lim, fun z hz => ?_⟩, ?_, ?_⟩
  · rw [List.mem_singleton] at hz; subst hz; exact Nat.mod_lt _ (by omega)
  · rw [lval_snoc, List.length_append, List.length_singleton, takeB, takeB, Nat.pow_succ]
    have e := h.val
    generalize x.getD S.length 0 = a at *
    generalize y.getD S.length 0 = b at *
    have e3 : k + a + b = B * ((k + a + b) / B) + (k + a + b) % B := (Nat.div_add_mod _ _).symm
    generalize (k + a + b) / B = q at *
    generalize (k + a + b) % B = r at *
    have e4 := congrArg (B ^ S.length * ·) e3
    simp only [Nat.mul_add] at e4
    have m1 : B ^ S.length * B * q = B ^ S.length * (B * q) := Nat.mul_assoc _ _ _
    omega
  · have : (k + x.getD S.length 0 + y.getD S.length 0) < 2 * B := by omega
    have := Nat.div_lt_of_lt_mul (show (k + x.getD S.length 0 + y.getD S.length 0) < B * 2 by omega)
    omega
theorem PlusInv.sum {B : Nat} {x y S : List Nat} (h : PlusInv B x y S 0) (h1 : x.length ≤ S.length) (h2 : y.length ≤ S.length) : lval B S = lval B x + lval B y := by
  have := h.val
  rw [List.take_of_length_le h1, List.take_of_length_le h2] at this
  simpa using this
theorem getD_lt {B : Nat} {l : List Nat} (h : limbs B l) (hB : 0 < B) (i : Nat) : l.getD i 0 < B := by
  by_cases hi : i < l.length
  · simp only [List.getD, List.getElem?_eq_getElem hi, Option.getD_some]; exact h _ (List.getElem_mem hi)
  · simpa [List.getD, Nat.le_of_not_lt hi] using hB
theorem len_leB {B : Nat} (hB : 1 < B) {l : List Nat} {k : Nat} (h : normal B l) (hk : lval B l < B ^ k) : l.length ≤ k := by
  by_cases hne : l = []
  · subst hne; simp
  · have h1 := normal_ge h hne
    have h2 := (Nat.pow_lt_pow_iff_right hB).1 (Nat.lt_of_le_of_lt h1 hk)
    omega
theorem len_le4 {l : List Nat} {d : List UInt8} (hd : digs d) (h : normal 10000 l) (hv : lval 10000 l = dval d) : l.length ≤ d.length := by
  apply len_leB (by decide) h
  rw [hv]
  have h1 := dval_lt hd
  have h2 : 10 ^ d.length ≤ 10000 ^ d.length := Nat.pow_le_pow_left (by decide) _
  omega
end Cub
namespace Go.Proofs.YtimihoonnglniaaGreatDoor
open Go.RowKit

set_option maxRecDepth 100000 in
set_option maxHeartbeats 1000000 in
theorem refPlus_any (s t : ByteArray) (w : World) (hs : s.size ≤ 100000) (ht : t.size ≤ 100000) (hds : Cub.digs s.data.toList) (hdt : Cub.digs t.data.toList) :
    Calls Tryz.prog 36 #[.string s, .string t] w fun e w' => e = .returned (.string ⟨(Lib.decDigits (Cub.dval s.data.toList + Cub.dval t.data.toList)).toArray⟩) ∧ Below w.heap.size w w' := by
  have HDS := hide hds
  have HDT := hide hdt
  clear hds hdt
  obtain ⟨i0, hi, hz0, hz1, hz2⟩ := info_parts Tryz.info3
  go_enter Tryz.func36, Tryz.ntmps36
  go_wp2_with (first
    | (go_at_call_of 56 s; refine (refLimbs_any s _ (by omega) (unhide HDS)).mono ?_; rintro e w1 ⟨vx, lx, rfl, hox, hnx, hvx, hb1⟩; obtain ⟨ax, cx, rfl, hcx, hmx, hcellx⟩ := hox.open; have HX := hide (And.intro hnx (And.intro hvx hcellx)); clear hnx hvx hcellx hox)
    | (go_at_call_of 56 t; refine (refLimbs_any t _ (by omega) (unhide HDT)).mono ?_; rintro e w2 ⟨vy, ly, rfl, hoy, hny, hvy, hb2⟩; obtain ⟨ay, cy, rfl, hcy, hmy, hcelly⟩ := hoy.open; have HY := hide (And.intro hny (And.intro hvy hcelly)); clear hny hvy hcelly hoy))
  have hbx : lx.length ≤ 100000 := by have := Cub.len_le4 (unhide HDS) (unhide HX).1 (unhide HX).2.1; rw [list_len] at this; omega
  have hby : ly.length ≤ 100000 := by have := Cub.len_le4 (unhide HDT) (unhide HY).1 (unhide HY).2.1; rw [list_len] at this; omega
  obtain ⟨nx, hnx⟩ : ∃ nx, nx = lx.length := ⟨_, rfl⟩
  obtain ⟨ny, hny⟩ : ∃ ny, ny = ly.length := ⟨_, rfl⟩
  rw [← hnx] at hbx ⊢
  rw [← hny] at hby ⊢
  have HNX := hide hnx
  have HNY := hide hny
  have hb12 : Below w.heap.size w w2 := hb1.trans (hb2.mono hb1.size)
  have HB2 := hide (And.intro hb12 hb2)
  clear hnx hny hb12 hb2 hb1 hcx hcy hmx hmy
  go_loopw [7, 8, 9] (fun v c i wr => ∃ (S : List Nat) (k j : Nat), c = .int .i64 (k : Int) ∧ i = .int .i64 (j : Int) ∧ k ≤ 1 ∧ j ≤ nx + ny + 1 ∧ Hid (j = S.length ∧ (k = 0 ∨ j ≤ nx ∨ j ≤ ny)) ∧ Hid (Cub.PlusInv 10000 lx ly S k) ∧ wr.ownsRow w2.heap.size 3 1 v j (i64s S) ∧ Below w2.heap.size w2 wr) (fun _ _ i _ => nx + ny + 2 - (intOf i).toNat)
  case atStart => exact ⟨[], 0, 0, rfl, rfl, by omega, by omega, ⟨rfl, Or.inl rfl⟩, Cub.PlusInv.start _ _ _, World.ownsRow_nil _ _ _ _, Below.refl _ _⟩
  case round =>
    obtain ⟨S, k, j, rfl, rfl, hk, hj, HJ, HI, hown, hb⟩ := hrel
    obtain ⟨xv, hxv⟩ : ∃ xv, xv = lx.getD j 0 := ⟨_, rfl⟩
    obtain ⟨yv, hyv⟩ : ∃ yv, yv = ly.getD j 0 := ⟨_, rfl⟩
    have hxB : xv < 10000 := by rw [hxv]; exact Cub.getD_lt (unhide HX).1.1 (by decide) _
    have hyB : yv < 10000 := by rw [hyv]; exact Cub.getD_lt (unhide HY).1.1 (by decide) _
    have HI' : Hid (Cub.PlusInv 10000 lx ly (S ++ [(k + xv + yv) % 10000]) ((k + xv + yv) / 10000)) := by
      have := (unhide HI).step (by decide) (by rw [← (unhide HJ).1, ← hxv]; exact hxB) (by rw [← (unhide HJ).1, ← hyv]; exact hyB)
      rw [← (unhide HJ).1, ← hxv, ← hyv] at this; exact this
    have hX0 : ¬ j < nx → xv = 0 := fun h => by rw [hxv, List.getD_eq_getElem?_getD, List.getElem?_eq_none (by have := unhide HNX; omega)]; rfl
    have hY0 : ¬ j < ny → yv = 0 := fun h => by rw [hyv, List.getD_eq_getElem?_getD, List.getElem?_eq_none (by have := unhide HNY; omega)]; rfl
    have hXc : j < nx → ∃ b, ax = some ⟨b, 0, none⟩ ∧ wr.cell? ⟨b, j, none⟩ = some (.int .i64 (xv : Int)) := fun h => by
      have hl : j < lx.length := by have := unhide HNX; omega
      obtain ⟨b, e, hc⟩ := (unhide HX).2.2 wr ((unhide HB2).2.trans (hb.mono (unhide HB2).2.size)) j hl
      refine ⟨b, e, ?_⟩
      rw [hc, hxv, List.getD_eq_getElem?_getD, List.getElem?_eq_getElem hl]; rfl
    have hYc : j < ny → ∃ b, ay = some ⟨b, 0, none⟩ ∧ wr.cell? ⟨b, j, none⟩ = some (.int .i64 (yv : Int)) := fun h => by
      have hl : j < ly.length := by have := unhide HNY; omega
      obtain ⟨b, e, hc⟩ := (unhide HY).2.2 wr hb j hl
      refine ⟨b, e, ?_⟩
      rw [hc, hyv, List.getD_eq_getElem?_getD, List.getElem?_eq_getElem hl]; rfl
    have hsz := hb.size
    clear hxv hyv
    by_cases hx : j < nx
    · obtain ⟨bx, rfl, hcx⟩ := hXc hx
      by_cases hy : j < ny
      · obtain ⟨by', rfl, hcy⟩ := hYc hy
        clear hXc hYc hX0 hY0
        go_wp2_with (at_builtin; refine wpList_append_own _ rfl _ _ 79 rfl w2.heap.size 3 i0 (.int .i64 0) 1 8 Tryz.underlying79 hi hz0 hz1 hz2 rfl (by decide) _ _ _ rfl (hown.alloc _) ⟨wr.heap.size, 0, none⟩ 1 1 [.int .i64 (((k : Int) + (xv : Int) + (yv : Int)) % 10000)] rfl rfl (cell_one_new _ _ _) (fun x hx => by simp at hx; subst hx; rfl) (by unfold maxLen; omega) (by omega) (by simp; omega) ?_; intro v' w3 hown' hgrow _)
        have hb3 : Below w2.heap.size w2 w3 := (hb.alloc hsz _).grown hgrow (by simp; omega) (fun q hq => (hown.lt q hq).1)
        have hownN : w3.ownsRow w2.heap.size 3 1 v' (j + 1) (i64s (S ++ [(k + xv + yv) % 10000])) := by
          have e : i64s (S ++ [(k + xv + yv) % 10000]) = i64s S ++ [.int .i64 (((k : Int) + (xv : Int) + (yv : Int)) % 10000)] := by
            simp only [i64s, List.map_append, List.map_cons, List.map_nil]
            rw [show ((((k + xv + yv) % 10000 : Nat)) : Int) = ((k : Int) + (xv : Int) + (yv : Int)) % 10000 by omega]
          rw [e]; exact hown'
        clear hown' hgrow hown hb
        go_wp2
        go_roundw
        case rel => exact ⟨S ++ [(k + xv + yv) % 10000], (k + xv + yv) / 10000, j + 1, by go_num, by go_num, (unhide HI').carry, by omega, ⟨by rw [List.length_append, (unhide HJ).1]; rfl, by have := (unhide HJ).2; omega⟩, HI', hownN, hb3⟩
        case measure => simp [intOf]; omega
      · have hy0 := hY0 hy
        subst hy0
        clear hXc hYc hX0 hY0
        go_wp2_with (at_builtin; refine wpList_append_own _ rfl _ _ 79 rfl w2.heap.size 3 i0 (.int .i64 0) 1 8 Tryz.underlying79 hi hz0 hz1 hz2 rfl (by decide) _ _ _ rfl (hown.alloc _) ⟨wr.heap.size, 0, none⟩ 1 1 [.int .i64 (((k : Int) + (xv : Int)) % 10000)] rfl rfl (cell_one_new _ _ _) (fun x hx => by simp at hx; subst hx; rfl) (by unfold maxLen; omega) (by omega) (by simp; omega) ?_; intro v' w3 hown' hgrow _)
        have hb3 : Below w2.heap.size w2 w3 := (hb.alloc hsz _).grown hgrow (by simp; omega) (fun q hq => (hown.lt q hq).1)
        have hownN : w3.ownsRow w2.heap.size 3 1 v' (j + 1) (i64s (S ++ [(k + xv + 0) % 10000])) := by
          have e : i64s (S ++ [(k + xv + 0) % 10000]) = i64s S ++ [.int .i64 (((k : Int) + (xv : Int)) % 10000)] := by
            simp only [i64s, List.map_append, List.map_cons, List.map_nil]
            rw [show ((((k + xv + 0) % 10000 : Nat)) : Int) = ((k : Int) + (xv : Int)) % 10000 by omega]
          rw [e]; exact hown'
        clear hown' hgrow hown hb
        go_wp2
        go_roundw
        case rel => exact ⟨S ++ [(k + xv + 0) % 10000], (k + xv + 0) / 10000, j + 1, by go_num, by go_num, (unhide HI').carry, by omega, ⟨by rw [List.length_append, (unhide HJ).1]; rfl, by have := (unhide HJ).2; omega⟩, HI', hownN, hb3⟩
        case measure => simp [intOf]; omega
    · have hx0 := hX0 hx
      subst hx0
      by_cases hy : j < ny
      · obtain ⟨by', rfl, hcy⟩ := hYc hy
        clear hXc hYc hX0 hY0
        go_wp2_with (at_builtin; refine wpList_append_own _ rfl _ _ 79 rfl w2.heap.size 3 i0 (.int .i64 0) 1 8 Tryz.underlying79 hi hz0 hz1 hz2 rfl (by decide) _ _ _ rfl (hown.alloc _) ⟨wr.heap.size, 0, none⟩ 1 1 [.int .i64 (((k : Int) + (yv : Int)) % 10000)] rfl rfl (cell_one_new _ _ _) (fun x hx => by simp at hx; subst hx; rfl) (by unfold maxLen; omega) (by omega) (by simp; omega) ?_; intro v' w3 hown' hgrow _)
        have hb3 : Below w2.heap.size w2 w3 := (hb.alloc hsz _).grown hgrow (by simp; omega) (fun q hq => (hown.lt q hq).1)
        have hownN : w3.ownsRow w2.heap.size 3 1 v' (j + 1) (i64s (S ++ [(k + 0 + yv) % 10000])) := by
          have e : i64s (S ++ [(k + 0 + yv) % 10000]) = i64s S ++ [.int .i64 (((k : Int) + (yv : Int)) % 10000)] := by
            simp only [i64s, List.map_append, List.map_cons, List.map_nil]
            rw [show ((((k + 0 + yv) % 10000 : Nat)) : Int) = ((k : Int) + (yv : Int)) % 10000 by omega]
          rw [e]; exact hown'
        clear hown' hgrow hown hb
        go_wp2
        go_roundw
        case rel => exact ⟨S ++ [(k + 0 + yv) % 10000], (k + 0 + yv) / 10000, j + 1, by go_num, by go_num, (unhide HI').carry, by omega, ⟨by rw [List.length_append, (unhide HJ).1]; rfl, by have := (unhide HJ).2; omega⟩, HI', hownN, hb3⟩
        case measure => simp [intOf]; omega
      · have hy0 := hY0 hy
        subst hy0
        clear hXc hYc hX0 hY0
        by_cases hk0 : k = 0
        · subst hk0
          obtain ⟨t1, t2, _⟩ := Cub.lval_trim 10000 _ S rfl
          have HF : Hid (Cub.lval 10000 (Cub.trimN S) = Cub.dval s.data.toList + Cub.dval t.data.toList ∧ Cub.normal 10000 (Cub.trimN S)) := by
            refine ⟨?_, t2 (unhide HI).lim⟩
            rw [t1, (unhide HI).sum (by have := unhide HNX; have := (unhide HJ).1; omega) (by have := unhide HNY; have := (unhide HJ).1; omega), (unhide HX).2.1, (unhide HY).2.1]
          have hSl : S.length ≤ 300000 := by have := (unhide HJ).1; omega
          have hTl : (Cub.trimN S).length ≤ 1000000 := by
            obtain ⟨q, hq⟩ := (Cub.lval_trim 10000 _ S rfl).2.2
            have := congrArg List.length hq
            rw [List.length_append] at this; omega
          have HO : Hid (OwnI wr w2.heap.size u7 S) := by have h := hown; rw [(unhide HJ).1] at h; exact h
          have hb5 : Below w.heap.size w wr := (unhide HB2).1.trans (hb.mono (unhide HB2).1.size)
          clear t1 t2 hown
          go_wp2_with (first
            | (go_at_call 57; refine (refTrim_any _ _ S _ (unhide HO)).mono ?_; rintro e w5 ⟨v5, rfl, ho5, rfl⟩; have HO5 := hide ho5; clear ho5)
            | (go_at_call 54; refine (refText_any _ _ _ _ (unhide HO5) (unhide HF).2 hTl).mono ?_; rintro e w6 ⟨rfl, hb6⟩))
          go_ret
          exact ⟨by rw [(unhide HF).1]; rfl, hb5.trans (hb6.mono hb5.size)⟩
        · have hk1 : 0 < k := by omega
          go_wp2_with (at_builtin; refine wpList_append_own _ rfl _ _ 79 rfl w2.heap.size 3 i0 (.int .i64 0) 1 8 Tryz.underlying79 hi hz0 hz1 hz2 rfl (by decide) _ _ _ rfl (hown.alloc _) ⟨wr.heap.size, 0, none⟩ 1 1 [.int .i64 (((k : Int)) % 10000)] rfl rfl (cell_one_new _ _ _) (fun x hx => by simp at hx; subst hx; rfl) (by unfold maxLen; omega) (by omega) (by simp; omega) ?_; intro v' w3 hown' hgrow _)
          have hb3 : Below w2.heap.size w2 w3 := (hb.alloc hsz _).grown hgrow (by simp; omega) (fun q hq => (hown.lt q hq).1)
          have hownN : w3.ownsRow w2.heap.size 3 1 v' (j + 1) (i64s (S ++ [(k + 0 + 0) % 10000])) := by
            have e : i64s (S ++ [(k + 0 + 0) % 10000]) = i64s S ++ [.int .i64 (((k : Int)) % 10000)] := by
              simp only [i64s, List.map_append, List.map_cons, List.map_nil]
              rw [show ((((k + 0 + 0) % 10000 : Nat)) : Int) = ((k : Int)) % 10000 by omega]
            rw [e]; exact hown'
          clear hown' hgrow hown hb
          go_wp2
          go_roundw
          case rel => exact ⟨S ++ [(k + 0 + 0) % 10000], (k + 0 + 0) / 10000, j + 1, by go_num, by go_num, (unhide HI').carry, by have := (unhide HJ).2; omega, ⟨by rw [List.length_append, (unhide HJ).1]; rfl, by have := (unhide HJ).2; omega⟩, HI', hownN, hb3⟩
          case measure => simp [intOf]; omega
end Go.Proofs.YtimihoonnglniaaGreatDoor

namespace Cub
/-- A difference in the making: D is x with its first i limbs worked over, k what was borrowed. -/
structure MinusInv (B : Nat) (x y D : List Nat) (k i : Nat) : Prop where
  len : D.length = x.length
  lim : limbs B D
  rest : ∀ j (h : j < D.length), i ≤ j → D[j] = x[j]'(by omega)
  val : lval B D + lval B (y.take i) = lval B x + B ^ i * k
  borrow : k ≤ 1
theorem MinusInv.start {B : Nat} {x : List Nat} (y : List Nat) (hx : limbs B x) : MinusInv B x y x 0 0 := ⟨rfl, hx, fun _ _ _ => rfl, by simp [lval], by omega⟩
theorem MinusInv.step {B : Nat} {x y D : List Nat} {k i d k' : Nat} (h : MinusInv B x y D k i) (hi : i < D.length) (hd : d < B) (hk : k' ≤ 1)
    (he : d + k + y.getD i 0 = D[i] + B * k') : MinusInv B x y (D.set i d) k' (i + 1) := by
  refine ⟨by simp [h.len], limbs_set h.lim i _ hd, fun j hj hij => ?_, ?_, hk⟩
  · rw [List.getElem_set_ne (by omega)]
    exact h.rest j (by simpa using hj) (by omega)
  · have e1 := lval_set B D i d hi
    have e2 := h.val
    rw [takeB, Nat.pow_succ]
    have e3 := congrArg (B ^ i * ·) he
    simp only [Nat.mul_add] at e3
    have m1 : B ^ i * B * k' = B ^ i * (B * k') := Nat.mul_assoc _ _ _
    omega
theorem MinusInv.last {B : Nat} {x y D : List Nat} {k i : Nat} (h : MinusInv B x y D k i) (hi : i = x.length) (hy : y.length ≤ x.length) (hle : lval B y ≤ lval B x) : k = 0 ∧ lval B D = lval B x - lval B y := by
  have h1 := lval_lt h.lim
  have h2 := h.val
  rw [List.take_of_length_le (by omega), hi] at h2
  rw [h.len] at h1
  rcases Nat.eq_zero_or_pos k with h0 | h0
  · subst h0; exact ⟨rfl, by omega⟩
  · exfalso
    have : B ^ x.length * 1 ≤ B ^ x.length * k := Nat.mul_le_mul_left _ h0
    omega
theorem normal_len_le {B : Nat} (hB : 1 < B) {x y : List Nat} (hx : limbs B x) (hy : normal B y) (h : lval B y ≤ lval B x) : y.length ≤ x.length := by
  apply len_leB hB hy
  exact Nat.lt_of_le_of_lt h (lval_lt hx)
end Cub
namespace Go.Proofs.YtimihoonnglniaaGreatDoor
open Go.RowKit

theorem i64s_set (l : List Nat) (i x : Nat) : (i64s l).set i (.int .i64 (x : Int)) = i64s (l.set i x) := by simp [i64s, List.map_set]

set_option maxRecDepth 100000 in
set_option maxHeartbeats 1000000 in
theorem refMinus_any (s t : ByteArray) (w : World) (hs : s.size ≤ 100000) (ht : t.size ≤ 100000) (hds : Cub.digs s.data.toList) (hdt : Cub.digs t.data.toList) (hle : Cub.dval t.data.toList ≤ Cub.dval s.data.toList) :
    Calls Tryz.prog 38 #[.string s, .string t] w fun e w' => e = .returned (.string ⟨(Lib.decDigits (Cub.dval s.data.toList - Cub.dval t.data.toList)).toArray⟩) ∧ Below w.heap.size w w' := by
  have HDS := hide hds
  have HDT := hide hdt
  have HLE := hide hle
  clear hds hdt hle
  go_enter Tryz.func38, Tryz.ntmps38
  go_wp2_with (first
    | (go_at_call_of 56 s; refine (refLimbs_any s _ (by omega) (unhide HDS)).mono ?_; rintro e w1 ⟨vx, lx, rfl, hox, hnx, hvx, hb1⟩; have HX := hide (And.intro hnx (And.intro hvx hox)); clear hnx hvx hox)
    | (go_at_call_of 56 t; refine (refLimbs_any t _ (by omega) (unhide HDT)).mono ?_; rintro e w2 ⟨vy, ly, rfl, hoy, hny, hvy, hb2⟩; have HY := hide (And.intro hny (And.intro hvy hoy)); clear hny hvy hoy))
  have hbx : lx.length ≤ 100000 := by have := Cub.len_le4 (unhide HDS) (unhide HX).1 (unhide HX).2.1; rw [list_len] at this; omega
  have hyx : ly.length ≤ lx.length := Cub.normal_len_le (by decide) (unhide HX).1.1 (unhide HY).1 (by rw [(unhide HX).2.1, (unhide HY).2.1]; exact unhide HLE)
  have hox2 : OwnI w2 w.heap.size vx lx := (unhide HX).2.2.later hb2
  have hoy2 : OwnI w2 w1.heap.size vy ly := (unhide HY).2.2
  have HXb : Hid (∀ g, vx.ownBlock = some g → w.heap.size ≤ g ∧ g < w1.heap.size) := fun g hg => World.ownsRow.lt (unhide HX).2.2 g hg
  obtain ⟨nx, hnx⟩ : ∃ nx, nx = lx.length := ⟨_, rfl⟩
  obtain ⟨ny, hny⟩ : ∃ ny, ny = ly.length := ⟨_, rfl⟩
  obtain ⟨ax, cx, rfl, hcx, hmx, _⟩ := hox2.open
  obtain ⟨ay, cy, rfl, hcy, hmy, _⟩ := hoy2.open
  have HO2 := hide (And.intro hox2 hoy2)
  rw [← hnx] at hbx hyx HO2 HXb ⊢
  rw [← hny] at hyx HO2 ⊢
  have HNX := hide hnx
  have HNY := hide hny
  have hb12 : Below w.heap.size w w2 := hb1.trans (hb2.mono hb1.size)
  clear hnx hny hb2 hb1 hcx hcy hmx hmy hox2 hoy2
  go_loopw [7, 8] (fun c i wr => ∃ (D : List Nat) (k j : Nat), c = .int .i64 (k : Int) ∧ i = .int .i64 (j : Int) ∧ k ≤ 1 ∧ j ≤ nx ∧ Hid (Cub.MinusInv 10000 lx ly D k j) ∧ Hid (OwnI wr w.heap.size (.slice ax nx cx) D) ∧ Hid (OwnI wr w1.heap.size (.slice ay ny cy) ly) ∧ Hid (Below w.heap.size w wr)) (fun _ i _ => nx - (intOf i).toNat)
  case atStart => exact ⟨lx, 0, 0, rfl, rfl, by omega, by omega, Cub.MinusInv.start _ (unhide HX).1.1, (unhide HO2).1, (unhide HO2).2, hb12⟩
  case round =>
    obtain ⟨D, k, j, rfl, rfl, hk, hj, HI, HO, HOy, HB⟩ := hrel
    have hDn : nx = D.length := by rw [(unhide HI).len]; exact unhide HNX
    by_cases hjn : j < nx
    · have hjD : j < D.length := by omega
      have hoxn : wr.ownsRow w.heap.size 3 1 (.slice ax nx cx) nx (i64s D) := by have h := unhide HO; unfold OwnI at h; rw [← hDn] at h; exact h
      obtain ⟨g, cg, e⟩ := Joins.ownsRow_form hoxn (by omega)
      simp only [Value.slice.injEq, true_and] at e
      obtain ⟨rfl, rfl⟩ := e
      have hgb := unhide HXb g rfl
      obtain ⟨dv, hdv⟩ : ∃ dv, dv = D[j] := ⟨_, rfl⟩
      have hdB : dv < 10000 := by rw [hdv]; exact (unhide HI).lim _ (List.getElem_mem hjD)
      have hcd : wr.cell? ⟨g, j, none⟩ = some (.int .i64 (dv : Int)) := by rw [hoxn.cellAt j (by omega), i64s_get D j hjD, hdv]
      have hfd : wr.frozen? ⟨g, j, none⟩ = false := hoxn.frozenAt j
      have HDV := hide hdv
      obtain ⟨yv, hyv⟩ : ∃ yv, yv = ly.getD j 0 := ⟨_, rfl⟩
      have hyB : yv < 10000 := by rw [hyv]; exact Cub.getD_lt (unhide HY).1.1 (by decide) _
      have hoy := unhide HOy
      have hb := unhide HB
      have HYV := hide hyv
      by_cases hy : j < ny
      · have hjl : j < ly.length := by have := unhide HNY; omega
        obtain ⟨ay2, cy2, e2, _, _, hcy⟩ := hoy.open
        simp only [Value.slice.injEq] at e2
        obtain ⟨rfl, _, rfl⟩ := e2
        obtain ⟨b, rfl, hcb⟩ := hcy wr (Below.refl _ _) j hjl
        rw [show ly[j] = yv by rw [hyv, List.getD_eq_getElem?_getD, List.getElem?_eq_getElem hjl]; rfl] at hcb
        clear hdv hyv hcy HOy HO HB
        by_cases hneg : dv < k + yv
        · have hn' : (dv : Int) - (k : Int) - (yv : Int) < 0 := by omega
          have HI' : Hid (Cub.MinusInv 10000 lx ly (D.set j (dv + 10000 - k - yv)) 1 (j + 1)) := (unhide HI).step hjD (by omega) (by omega) (by rw [← unhide HYV, ← unhide HDV]; omega)
          have HO' : Hid (OwnI (wr.setCell ⟨g, j, none⟩ (.int .i64 ((dv : Int) - (k : Int) - (yv : Int) + 10000))) w.heap.size (.slice (some ⟨g, 0, none⟩) nx cx) (D.set j (dv + 10000 - k - yv))) := by
            have h := (World.ownsRow.stored hoxn j (.int .i64 (((dv + 10000 - k - yv : Nat)) : Int))).1
            rw [i64s_set] at h
            rw [show (((dv + 10000 - k - yv : Nat)) : Int) = (dv : Int) - (k : Int) - (yv : Int) + 10000 by omega] at h
            unfold OwnI
            rw [List.length_set, ← hDn]; exact h
          have HOy' : Hid (OwnI (wr.setCell ⟨g, j, none⟩ (.int .i64 ((dv : Int) - (k : Int) - (yv : Int) + 10000))) w1.heap.size (.slice (some ⟨b, 0, none⟩) ny cy) ly) := ownsRow_setCell_below hoy (by exact hgb.2) _
          have HB' : Hid (Below w.heap.size w (wr.setCell ⟨g, j, none⟩ (.int .i64 ((dv : Int) - (k : Int) - (yv : Int) + 10000)))) := hb.setCell (by exact hgb.1) _
          clear hoy hb hDn hoxn
          go_wp2
          go_roundw
          case rel => exact ⟨D.set j (dv + 10000 - k - yv), 1, j + 1, by go_num, by go_num, by omega, by omega, HI', HO', HOy', HB'⟩
          case measure => simp [intOf]; omega
        · have hn' : ¬ (dv : Int) - (k : Int) - (yv : Int) < 0 := by omega
          have HI' : Hid (Cub.MinusInv 10000 lx ly (D.set j (dv - k - yv)) 0 (j + 1)) := (unhide HI).step hjD (by omega) (by omega) (by rw [← unhide HYV, ← unhide HDV]; omega)
          have HO' : Hid (OwnI (wr.setCell ⟨g, j, none⟩ (.int .i64 ((dv : Int) - (k : Int) - (yv : Int)))) w.heap.size (.slice (some ⟨g, 0, none⟩) nx cx) (D.set j (dv - k - yv))) := by
            have h := (World.ownsRow.stored hoxn j (.int .i64 (((dv - k - yv : Nat)) : Int))).1
            rw [i64s_set] at h
            rw [show (((dv - k - yv : Nat)) : Int) = (dv : Int) - (k : Int) - (yv : Int) by omega] at h
            unfold OwnI
            rw [List.length_set, ← hDn]; exact h
          have HOy' : Hid (OwnI (wr.setCell ⟨g, j, none⟩ (.int .i64 ((dv : Int) - (k : Int) - (yv : Int)))) w1.heap.size (.slice (some ⟨b, 0, none⟩) ny cy) ly) := ownsRow_setCell_below hoy (by exact hgb.2) _
          have HB' : Hid (Below w.heap.size w (wr.setCell ⟨g, j, none⟩ (.int .i64 ((dv : Int) - (k : Int) - (yv : Int))))) := hb.setCell (by exact hgb.1) _
          clear hoy hb hDn hoxn
          go_wp2
          go_roundw
          case rel => exact ⟨D.set j (dv - k - yv), 0, j + 1, by go_num, by go_num, by omega, by omega, HI', HO', HOy', HB'⟩
          case measure => simp [intOf]; omega
      · have hy0 : yv = 0 := by rw [hyv, List.getD_eq_getElem?_getD, List.getElem?_eq_none (by have := unhide HNY; omega)]; rfl
        subst hy0
        clear hdv hyv HOy HO HB
        by_cases hneg : dv < k
        · have hn' : (dv : Int) - (k : Int) < 0 := by omega
          have HI' : Hid (Cub.MinusInv 10000 lx ly (D.set j (dv + 10000 - k)) 1 (j + 1)) := (unhide HI).step hjD (by omega) (by omega) (by rw [← unhide HYV, ← unhide HDV]; omega)
          have HO' : Hid (OwnI (wr.setCell ⟨g, j, none⟩ (.int .i64 ((dv : Int) - (k : Int) + 10000))) w.heap.size (.slice (some ⟨g, 0, none⟩) nx cx) (D.set j (dv + 10000 - k))) := by
            have h := (World.ownsRow.stored hoxn j (.int .i64 (((dv + 10000 - k : Nat)) : Int))).1
            rw [i64s_set] at h
            rw [show (((dv + 10000 - k : Nat)) : Int) = (dv : Int) - (k : Int) + 10000 by omega] at h
            unfold OwnI
            rw [List.length_set, ← hDn]; exact h
          have HOy' : Hid (OwnI (wr.setCell ⟨g, j, none⟩ (.int .i64 ((dv : Int) - (k : Int) + 10000))) w1.heap.size (.slice ay ny cy) ly) := ownsRow_setCell_below hoy (by exact hgb.2) _
          have HB' : Hid (Below w.heap.size w (wr.setCell ⟨g, j, none⟩ (.int .i64 ((dv : Int) - (k : Int) + 10000)))) := hb.setCell (by exact hgb.1) _
          clear hoy hb hDn hoxn
          go_wp2
          go_roundw
          case rel => exact ⟨D.set j (dv + 10000 - k), 1, j + 1, by go_num, by go_num, by omega, by omega, HI', HO', HOy', HB'⟩
          case measure => simp [intOf]; omega
        · have hn' : ¬ (dv : Int) - (k : Int) < 0 := by omega
          have HI' : Hid (Cub.MinusInv 10000 lx ly (D.set j (dv - k)) 0 (j + 1)) := (unhide HI).step hjD (by omega) (by omega) (by rw [← unhide HYV, ← unhide HDV]; omega)
          have HO' : Hid (OwnI (wr.setCell ⟨g, j, none⟩ (.int .i64 ((dv : Int) - (k : Int)))) w.heap.size (.slice (some ⟨g, 0, none⟩) nx cx) (D.set j (dv - k))) := by
            have h := (World.ownsRow.stored hoxn j (.int .i64 (((dv - k : Nat)) : Int))).1
            rw [i64s_set] at h
            rw [show (((dv - k : Nat)) : Int) = (dv : Int) - (k : Int) by omega] at h
            unfold OwnI
            rw [List.length_set, ← hDn]; exact h
          have HOy' : Hid (OwnI (wr.setCell ⟨g, j, none⟩ (.int .i64 ((dv : Int) - (k : Int)))) w1.heap.size (.slice ay ny cy) ly) := ownsRow_setCell_below hoy (by exact hgb.2) _
          have HB' : Hid (Below w.heap.size w (wr.setCell ⟨g, j, none⟩ (.int .i64 ((dv : Int) - (k : Int))))) := hb.setCell (by exact hgb.1) _
          clear hoy hb hDn hoxn
          go_wp2
          go_roundw
          case rel => exact ⟨D.set j (dv - k), 0, j + 1, by go_num, by go_num, by omega, by omega, HI', HO', HOy', HB'⟩
          case measure => simp [intOf]; omega
    · have hje : j = lx.length := by have := unhide HNX; omega
      obtain ⟨_, hfin⟩ := (unhide HI).last hje (by have := unhide HNX; have := unhide HNY; omega) (by rw [(unhide HX).2.1, (unhide HY).2.1]; exact unhide HLE)
      obtain ⟨t1, t2, t3⟩ := Cub.lval_trim 10000 _ D rfl
      have HF : Hid (Cub.lval 10000 (Cub.trimN D) = Cub.dval s.data.toList - Cub.dval t.data.toList ∧ Cub.normal 10000 (Cub.trimN D)) := by
        refine ⟨?_, t2 (unhide HI).lim⟩
        rw [t1, hfin, (unhide HX).2.1, (unhide HY).2.1]
      have hTl : (Cub.trimN D).length ≤ 1000000 := by
        obtain ⟨q, hq⟩ := t3
        have := congrArg List.length hq
        rw [List.length_append] at this; omega
      clear t1 t2 t3 hfin hje hDn
      go_wp2_with (first
        | (go_at_call 57; refine (refTrim_any _ _ D _ (unhide HO)).mono ?_; rintro e w5 ⟨v5, rfl, ho5, rfl⟩; have HO5 := hide ho5; clear ho5)
        | (go_at_call 54; refine (refText_any _ _ _ _ (unhide HO5) (unhide HF).2 hTl).mono ?_; rintro e w6 ⟨rfl, hb6⟩))
      go_ret
      exact ⟨by rw [(unhide HF).1]; rfl, (unhide HB).trans (hb6.mono (unhide HB).size)⟩
end Go.Proofs.YtimihoonnglniaaGreatDoor

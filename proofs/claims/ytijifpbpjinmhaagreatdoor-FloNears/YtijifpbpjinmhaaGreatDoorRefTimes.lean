/- The document's own product of limbs. -/
import Derived.Test.YtijifpbpjinmhaaGreatDoorMulMath
import Derived.Test.YtijifpbpjinmhaaGreatDoorRefText2
import Derived.OneCell
import Derived.Deep.QuietTactic
import Derived.BigQuiet
set_option maxHeartbeats 2000000
set_option maxRecDepth 100000
namespace Cub
/-- A sum in the making, least limb first: S what is written, k what is carried. -/
structure PlusInv (B : Nat) (x y S : List Nat) (k : Nat) : Prop where
  lim : limbs B S
  val : lval B S + B ^ S.length * k = lval B (x.take S.length) + lval B (y.take S.length)
  carry : k ≤ 1
theorem PlusInv.start (B : Nat) (x y : List Nat) : PlusInv B x y [] 0 := ⟨fun _ h => (by cases h), by simp [lval], by omega⟩
theorem PlusInv.step {B : Nat} {x y S : List Nat} {k : Nat} (h : PlusInv B x y S k) (hB : 1 < B) (hx : x.getD S.length 0 < B) (hy : y.getD S.length 0 < B) :
    PlusInv B x y (S ++ [(k + x.getD S.length 0 + y.getD S.length 0) % B]) ((k + x.getD S.length 0 + y.getD S.length 0) / B) := by
  have hk := h.carry
  refine ⟨limbs_append.2 ⟨h.lim, fun z hz => ?_⟩, ?_, ?_⟩
  · rw [List.mem_singleton] at hz; subst hz; exact Nat.mod_lt _ (by omega)
  · rw [lval_snoc, List.length_append, List.length_singleton, takeB, takeB, Nat.pow_succ]
    have e := h.val
    generalize x.getD S.length 0 = a at *
    generalize y.getD S.length 0 = b at *
    have e3 : k + a + b = B * ((k + a + b) / B) + (k + a + b) % B := (Nat.div_add_mod _ _).symm
    generalize (k + a + b) / B = q at *
    generalize (k + a + b) % B = r at *
    have e4 := congrArg (B ^ S.length * ·) e3
    simp only [Nat.mul_add] at e4
    have m1 : B ^ S.length * B * q = B ^ S.length * (B * q) := Nat.mul_assoc _ _ _
    omega
  · have : (k + x.getD S.length 0 + y.getD S.length 0) < 2 * B := by omega
    have := Nat.div_lt_of_lt_mul (show (k + x.getD S.length 0 + y.getD S.length 0) < B * 2 by omega)
    omega
theorem PlusInv.sum {B : Nat} {x y S : List Nat} (h : PlusInv B x y S 0) (h1 : x.length ≤ S.length) (h2 : y.length ≤ S.length) : lval B S = lval B x + lval B y := by
  have := h.val
  rw [List.take_of_length_le h1, List.take_of_length_le h2] at this
  simpa using this
theorem getD_lt {B : Nat} {l : List Nat} (h : limbs B l) (hB : 0 < B) (i : Nat) : l.getD i 0 < B := by
  by_cases hi : i < l.length
  · simp only [List.getD, List.getElem?_eq_getElem hi, Option.getD_some]; exact h _ (List.getElem_mem hi)
  · simpa [List.getD, Nat.le_of_not_lt hi] using hB
theorem len_leB {B : Nat} (hB : 1 < B) {l : List Nat} {k : Nat} (h : normal B l) (hk : lval B l < B ^ k) : l.length ≤ k := by
  by_cases hne : l = []
  · subst hne; simp
  · have h1 := normal_ge h hne
    have h2 := (Nat.pow_lt_pow_iff_right hB).1 (Nat.lt_of_le_of_lt h1 hk)
    omega
theorem len_le4 {l : List Nat} {d : List UInt8} (hd : digs d) (h : normal 10000 l) (hv : lval 10000 l = dval d) : l.length ≤ d.length := by
  apply len_leB (by decide) h
  rw [hv]
  have h1 := dval_lt hd
  have h2 : 10 ^ d.length ≤ 10000 ^ d.length := Nat.pow_le_pow_left (by decide) _
  omega
end Cub
namespace Go.Proofs.YtijifpbpjinmhaaGreatDoor
open Go.RowKit
theorem refPlus_any (s t : ByteArray) (w : World) (hs : s.size ≤ 100000) (ht : t.size ≤ 100000) (hds : Cub.digs s.data.toList) (hdt : Cub.digs t.data.toList) :
    Calls Tryz.prog 84 #[.string s, .string t] w fun e w' => e = .returned (.string ⟨(Lib.decDigits (Cub.dval s.data.toList + Cub.dval t.data.toList)).toArray⟩) ∧ Below w.heap.size w w' := by
  have HDS := hide hds
  have HDT := hide hdt
  clear hds hdt
  obtain ⟨i0, hi, hz0, hz1, hz2⟩ := info_parts Tryz.info3
  go_enter Tryz.func84, Tryz.ntmps84
  go_wp2_with (first
    | (go_at_call_of 119 s; refine (refLimbs_any s _ (by omega) (unhide HDS)).mono ?_; rintro e w1 ⟨vx, lx, rfl, hox, hnx, hvx, hb1⟩; obtain ⟨ax, cx, rfl, hcx, hmx, hcellx⟩ := hox.open; have HX := hide (And.intro hnx (And.intro hvx hcellx)); clear hnx hvx hcellx hox)
    | (go_at_call_of 119 t; refine (refLimbs_any t _ (by omega) (unhide HDT)).mono ?_; rintro e w2 ⟨vy, ly, rfl, hoy, hny, hvy, hb2⟩; obtain ⟨ay, cy, rfl, hcy, hmy, hcelly⟩ := hoy.open; have HY := hide (And.intro hny (And.intro hvy hcelly)); clear hny hvy hcelly hoy))
  have hbx : lx.length ≤ 100000 := by have := Cub.len_le4 (unhide HDS) (unhide HX).1 (unhide HX).2.1; rw [list_len] at this; omega
  have hby : ly.length ≤ 100000 := by have := Cub.len_le4 (unhide HDT) (unhide HY).1 (unhide HY).2.1; rw [list_len] at this; omega
  obtain ⟨nx, hnx⟩ : ∃ nx, nx = lx.length := ⟨_, rfl⟩
  obtain ⟨ny, hny⟩ : ∃ ny, ny = ly.length := ⟨_, rfl⟩
  rw [← hnx] at hbx ⊢
  rw [← hny] at hby ⊢
  have HNX := hide hnx
  have HNY := hide hny
  have hb12 : Below w.heap.size w w2 := hb1.trans (hb2.mono hb1.size)
  have HB2 := hide (And.intro hb12 hb2)
  clear hnx hny hb12 hb2 hb1 hcx hcy hmx hmy
  go_loopw [7, 8, 9] (fun v c i wr => ∃ (S : List Nat) (k j : Nat), c = .int .i64 (k : Int) ∧ i = .int .i64 (j : Int) ∧ k ≤ 1 ∧ j ≤ nx + ny + 1 ∧ Hid (j = S.length ∧ (k = 0 ∨ j ≤ nx ∨ j ≤ ny)) ∧ Hid (Cub.PlusInv 10000 lx ly S k) ∧ wr.ownsRow w2.heap.size 3 1 v j (i64s S) ∧ Below w2.heap.size w2 wr) (fun _ _ i _ => nx + ny + 2 - (intOf i).toNat)
  case atStart => exact ⟨[], 0, 0, rfl, rfl, by omega, by omega, ⟨rfl, Or.inl rfl⟩, Cub.PlusInv.start _ _ _, World.ownsRow_nil _ _ _ _, Below.refl _ _⟩
  case round =>
    obtain ⟨S, k, j, rfl, rfl, hk, hj, HJ, HI, hown, hb⟩ := hrel
    obtain ⟨xv, hxv⟩ : ∃ xv, xv = lx.getD j 0 := ⟨_, rfl⟩
    obtain ⟨yv, hyv⟩ : ∃ yv, yv = ly.getD j 0 := ⟨_, rfl⟩
    have hxB : xv < 10000 := by rw [hxv]; exact Cub.getD_lt (unhide HX).1.1 (by decide) _
    have hyB : yv < 10000 := by rw [hyv]; exact Cub.getD_lt (unhide HY).1.1 (by decide) _
    have HI' : Hid (Cub.PlusInv 10000 lx ly (S ++ [(k + xv + yv) % 10000]) ((k + xv + yv) / 10000)) := by
      have := (unhide HI).step (by decide) (by rw [← (unhide HJ).1, ← hxv]; exact hxB) (by rw [← (unhide HJ).1, ← hyv]; exact hyB)
      rw [← (unhide HJ).1, ← hxv, ← hyv] at this; exact this
    have hX0 : ¬ j < nx → xv = 0 := fun h => by rw [hxv, List.getD_eq_getElem?_getD, List.getElem?_eq_none (by have := unhide HNX; omega)]; rfl
    have hY0 : ¬ j < ny → yv = 0 := fun h => by rw [hyv, List.getD_eq_getElem?_getD, List.getElem?_eq_none (by have := unhide HNY; omega)]; rfl
    have hXc : j < nx → ∃ b, ax = some ⟨b, 0, none⟩ ∧ wr.cell? ⟨b, j, none⟩ = some (.int .i64 (xv : Int)) := fun h => by
      have hl : j < lx.length := by have := unhide HNX; omega
      obtain ⟨b, e, hc⟩ := (unhide HX).2.2 wr ((unhide HB2).2.trans (hb.mono (unhide HB2).2.size)) j hl
      refine ⟨b, e, ?_⟩
      rw [hc, hxv, List.getD_eq_getElem?_getD, List.getElem?_eq_getElem hl]; rfl
    have hYc : j < ny → ∃ b, ay = some ⟨b, 0, none⟩ ∧ wr.cell? ⟨b, j, none⟩ = some (.int .i64 (yv : Int)) := fun h => by
      have hl : j < ly.length := by have := unhide HNY; omega
      obtain ⟨b, e, hc⟩ := (unhide HY).2.2 wr hb j hl
      refine ⟨b, e, ?_⟩
      rw [hc, hyv, List.getD_eq_getElem?_getD, List.getElem?_eq_getElem hl]; rfl
    have hsz := hb.size
    clear hxv hyv
    by_cases hx : j < nx
    · obtain ⟨bx, rfl, hcx⟩ := hXc hx
      by_cases hy : j < ny
      · obtain ⟨by', rfl, hcy⟩ := hYc hy
        clear hXc hYc hX0 hY0
        go_wp2_with (at_builtin; refine wpList_append_own _ rfl _ _ 138 rfl w2.heap.size 3 i0 (.int .i64 0) 1 8 Tryz.underlying138 hi hz0 hz1 hz2 rfl (by decide) _ _ _ rfl (hown.alloc _) ⟨wr.heap.size, 0, none⟩ 1 1 [.int .i64 (((k : Int) + (xv : Int) + (yv : Int)) % 10000)] rfl rfl (cell_one_new _ _ _) (fun x hx => by simp at hx; subst hx; rfl) (by unfold maxLen; omega) (by omega) (by simp; omega) ?_; intro v' w3 hown' hgrow _)
        have hb3 : Below w2.heap.size w2 w3 := (hb.alloc hsz _).grown hgrow (by simp; omega) (fun q hq => (hown.lt q hq).1)
        have hownN : w3.ownsRow w2.heap.size 3 1 v' (j + 1) (i64s (S ++ [(k + xv + yv) % 10000])) := by
          have e : i64s (S ++ [(k + xv + yv) % 10000]) = i64s S ++ [.int .i64 (((k : Int) + (xv : Int) + (yv : Int)) % 10000)] := by
            simp only [i64s, List.map_append, List.map_cons, List.map_nil]
            rw [show ((((k + xv + yv) % 10000 : Nat)) : Int) = ((k : Int) + (xv : Int) + (yv : Int)) % 10000 by omega]
          rw [e]; exact hown'
        clear hown' hgrow hown hb
        go_wp2
        go_roundw
        case rel => exact ⟨S ++ [(k + xv + yv) % 10000], (k + xv + yv) / 10000, j + 1, by go_num, by go_num, (unhide HI').carry, by omega, ⟨by rw [List.length_append, (unhide HJ).1]; rfl, by have := (unhide HJ).2; omega⟩, HI', hownN, hb3⟩
        case measure => simp [intOf]; omega
      · have hy0 := hY0 hy
        subst hy0
        clear hXc hYc hX0 hY0
        go_wp2_with (at_builtin; refine wpList_append_own _ rfl _ _ 138 rfl w2.heap.size 3 i0 (.int .i64 0) 1 8 Tryz.underlying138 hi hz0 hz1 hz2 rfl (by decide) _ _ _ rfl (hown.alloc _) ⟨wr.heap.size, 0, none⟩ 1 1 [.int .i64 (((k : Int) + (xv : Int)) % 10000)] rfl rfl (cell_one_new _ _ _) (fun x hx => by simp at hx; subst hx; rfl) (by unfold maxLen; omega) (by omega) (by simp; omega) ?_; intro v' w3 hown' hgrow _)
        have hb3 : Below w2.heap.size w2 w3 := (hb.alloc hsz _).grown hgrow (by simp; omega) (fun q hq => (hown.lt q hq).1)
        have hownN : w3.ownsRow w2.heap.size 3 1 v' (j + 1) (i64s (S ++ [(k + xv + 0) % 10000])) := by
          have e : i64s (S ++ [(k + xv + 0) % 10000]) = i64s S ++ [.int .i64 (((k : Int) + (xv : Int)) % 10000)] := by
            simp only [i64s, List.map_append, List.map_cons, List.map_nil]
            rw [show ((((k + xv + 0) % 10000 : Nat)) : Int) = ((k : Int) + (xv : Int)) % 10000 by omega]
          rw [e]; exact hown'
        clear hown' hgrow hown hb
        go_wp2
        go_roundw
        case rel => exact ⟨S ++ [(k + xv + 0) % 10000], (k + xv + 0) / 10000, j + 1, by go_num, by go_num, (unhide HI').carry, by omega, ⟨by rw [List.length_append, (unhide HJ).1]; rfl, by have := (unhide HJ).2; omega⟩, HI', hownN, hb3⟩
        case measure => simp [intOf]; omega
    · have hx0 := hX0 hx
      subst hx0
      by_cases hy : j < ny
      · obtain ⟨by', rfl, hcy⟩ := hYc hy
        clear hXc hYc hX0 hY0
        go_wp2_with (at_builtin; refine wpList_append_own _ rfl _ _ 138 rfl w2.heap.size 3 i0 (.int .i64 0) 1 8 Tryz.underlying138 hi hz0 hz1 hz2 rfl (by decide) _ _ _ rfl (hown.alloc _) ⟨wr.heap.size, 0, none⟩ 1 1 [.int .i64 (((k : Int) + (yv : Int)) % 10000)] rfl rfl (cell_one_new _ _ _) (fun x hx => by simp at hx; subst hx; rfl) (by unfold maxLen; omega) (by omega) (by simp; omega) ?_; intro v' w3 hown' hgrow _)
        have hb3 : Below w2.heap.size w2 w3 := (hb.alloc hsz _).grown hgrow (by simp; omega) (fun q hq => (hown.lt q hq).1)
        have hownN : w3.ownsRow w2.heap.size 3 1 v' (j + 1) (i64s (S ++ [(k + 0 + yv) % 10000])) := by
          have e : i64s (S ++ [(k + 0 + yv) % 10000]) = i64s S ++ [.int .i64 (((k : Int) + (yv : Int)) % 10000)] := by
            simp only [i64s, List.map_append, List.map_cons, List.map_nil]
            rw [show ((((k + 0 + yv) % 10000 : Nat)) : Int) = ((k : Int) + (yv : Int)) % 10000 by omega]
          rw [e]; exact hown'
        clear hown' hgrow hown hb
        go_wp2
        go_roundw
        case rel => exact ⟨S ++ [(k + 0 + yv) % 10000], (k + 0 + yv) / 10000, j + 1, by go_num, by go_num, (unhide HI').carry, by omega, ⟨by rw [List.length_append, (unhide HJ).1]; rfl, by have := (unhide HJ).2; omega⟩, HI', hownN, hb3⟩
        case measure => simp [intOf]; omega
      · have hy0 := hY0 hy
        subst hy0
        clear hXc hYc hX0 hY0
        by_cases hk0 : k = 0
        · subst hk0
          obtain ⟨t1, t2, _⟩ := Cub.lval_trim 10000 _ S rfl
          have HF : Hid (Cub.lval 10000 (Cub.trimN S) = Cub.dval s.data.toList + Cub.dval t.data.toList ∧ Cub.normal 10000 (Cub.trimN S)) := by
            refine ⟨?_, t2 (unhide HI).lim⟩
            rw [t1, (unhide HI).sum (by have := unhide HNX; have := (unhide HJ).1; omega) (by have := unhide HNY; have := (unhide HJ).1; omega), (unhide HX).2.1, (unhide HY).2.1]
          have hSl : S.length ≤ 300000 := by have := (unhide HJ).1; omega
          have hTl : (Cub.trimN S).length ≤ 1000000 := by
            obtain ⟨q, hq⟩ := (Cub.lval_trim 10000 _ S rfl).2.2
            have := congrArg List.length hq
            rw [List.length_append] at this; omega
          have HO : Hid (OwnI wr w2.heap.size u7 S) := by have h := hown; rw [(unhide HJ).1] at h; exact h
          have hb5 : Below w.heap.size w wr := (unhide HB2).1.trans (hb.mono (unhide HB2).1.size)
          clear t1 t2 hown
          go_wp2_with (first
            | (go_at_call 133; refine (refTrim_any _ _ S _ (unhide HO)).mono ?_; rintro e w5 ⟨v5, rfl, ho5, rfl⟩; have HO5 := hide ho5; clear ho5)
            | (go_at_call 117; refine (refText_any _ _ _ _ (unhide HO5) (unhide HF).2 hTl).mono ?_; rintro e w6 ⟨rfl, hb6⟩))
          go_ret
          exact ⟨by rw [(unhide HF).1]; rfl, hb5.trans (hb6.mono hb5.size)⟩
        · have hk1 : 0 < k := by omega
          go_wp2_with (at_builtin; refine wpList_append_own _ rfl _ _ 138 rfl w2.heap.size 3 i0 (.int .i64 0) 1 8 Tryz.underlying138 hi hz0 hz1 hz2 rfl (by decide) _ _ _ rfl (hown.alloc _) ⟨wr.heap.size, 0, none⟩ 1 1 [.int .i64 (((k : Int)) % 10000)] rfl rfl (cell_one_new _ _ _) (fun x hx => by simp at hx; subst hx; rfl) (by unfold maxLen; omega) (by omega) (by simp; omega) ?_; intro v' w3 hown' hgrow _)
          have hb3 : Below w2.heap.size w2 w3 := (hb.alloc hsz _).grown hgrow (by simp; omega) (fun q hq => (hown.lt q hq).1)
          have hownN : w3.ownsRow w2.heap.size 3 1 v' (j + 1) (i64s (S ++ [(k + 0 + 0) % 10000])) := by
            have e : i64s (S ++ [(k + 0 + 0) % 10000]) = i64s S ++ [.int .i64 (((k : Int)) % 10000)] := by
              simp only [i64s, List.map_append, List.map_cons, List.map_nil]
              rw [show ((((k + 0 + 0) % 10000 : Nat)) : Int) = ((k : Int)) % 10000 by omega]
            rw [e]; exact hown'
          clear hown' hgrow hown hb
          go_wp2
          go_roundw
          case rel => exact ⟨S ++ [(k + 0 + 0) % 10000], (k + 0 + 0) / 10000, j + 1, by go_num, by go_num, (unhide HI').carry, by have := (unhide HJ).2; omega, ⟨by rw [List.length_append, (unhide HJ).1]; rfl, by have := (unhide HJ).2; omega⟩, HI', hownN, hb3⟩
          case measure => simp [intOf]; omega
end Go.Proofs.YtijifpbpjinmhaaGreatDoor
namespace Cub
theorem normal_len_le {B : Nat} (hB : 1 < B) {x y : List Nat} (hx : limbs B x) (hy : normal B y) (h : lval B y ≤ lval B x) : y.length ≤ x.length := by
  apply len_leB hB hy
  exact Nat.lt_of_le_of_lt h (lval_lt hx)
end Cub
namespace Go.Proofs.YtijifpbpjinmhaaGreatDoor
open Go.RowKit
theorem i64s_set (l : List Nat) (i x : Nat) : (i64s l).set i (.int .i64 (x : Int)) = i64s (l.set i x) := by simp [i64s, List.map_set]
end Go.Proofs.YtijifpbpjinmhaaGreatDoor
namespace Cub
theorem lval_split4 (B : Nat) (l : List Nat) (i : Nat) (h : i ≤ l.length) : lval B l = lval B (l.take i) + B ^ i * lval B (l.drop i) := by
  have e := lval_append B (l.take i) (l.drop i)
  rw [List.take_append_drop, List.length_take, Nat.min_eq_left h] at e
  exact e
theorem lval_drop (B : Nat) (l : List Nat) (i : Nat) (h : i < l.length) : lval B (l.drop i) = l[i] + B * lval B (l.drop (i + 1)) := by
  rw [List.drop_eq_getElem_cons h]; rfl
theorem limbs_drop4 {B : Nat} {l : List Nat} (h : limbs B l) (i : Nat) : limbs B (l.drop i) := fun x hx => h x (List.mem_of_mem_drop hx)
theorem limbs_take4 {B : Nat} {l : List Nat} (h : limbs B l) (i : Nat) : limbs B (l.take i) := fun x hx => h x (List.mem_of_mem_take hx)
/-- Of two rows of one length, alike from i + 1 on, the limb at i tells. -/
theorem less_at {B : Nat} {x y : List Nat} {i : Nat} (hx : limbs B x) (hi : i < x.length) (hj : i < y.length) (hd : x.drop (i + 1) = y.drop (i + 1)) (h : x[i] < y[i]) : lval B x < lval B y := by
  rw [lval_split4 B x i (by omega), lval_split4 B y i (by omega), lval_drop B x i hi, lval_drop B y i hj, hd]
  have h1 := lval_lt (limbs_take4 hx i)
  rw [List.length_take, Nat.min_eq_left (by omega)] at h1
  have h2 : B ^ i * (x[i] + B * lval B (y.drop (i + 1))) + B ^ i ≤ B ^ i * (y[i] + B * lval B (y.drop (i + 1))) := by
    rw [← Nat.mul_succ]; exact Nat.mul_le_mul_left _ (by omega)
  omega
theorem drop_same {x y : List Nat} {i : Nat} (hi : i < x.length) (hj : i < y.length) (hd : x.drop (i + 1) = y.drop (i + 1)) (h : x[i] = y[i]) : x.drop i = y.drop i := by
  rw [List.drop_eq_getElem_cons hi, List.drop_eq_getElem_cons hj, hd, h]
/-- Of two rows without noughts at the top the longer one is the greater. -/
theorem less_len {B : Nat} {x y : List Nat} (hB : 1 < B) (hx : limbs B x) (hy : normal B y) (h : x.length < y.length) : lval B x < lval B y := by
  have h1 := lval_lt hx
  have h2 := normal_ge hy (by intro e; rw [e] at h; simp at h)
  have h3 : B ^ x.length ≤ B ^ (y.length - 1) := Nat.pow_le_pow_right (by omega) (by omega)
  omega
/-- How far one number has been taken q times from another, from place 'up' on: D is what stands, c is owed. -/
structure RefTakeInv (X Y D : List Nat) (up q c k : Nat) : Prop where
  len : D.length = X.length
  lim : limbs 10000 D
  low : D.take up = X.take up
  rest : D.drop (up + k) = X.drop (up + k)
  eq : lval 10000 ((D.drop up).take k) + q * lval 10000 (Y.take k) = lval 10000 ((X.drop up).take k) + c * 10000 ^ k
  owed : c ≤ 9999
theorem RefTakeInv.start {X : List Nat} (Y : List Nat) (up q : Nat) (hX : limbs 10000 X) : RefTakeInv X Y X up q 0 0 :=
  ⟨rfl, hX, rfl, rfl, by simp [lval], by omega⟩
theorem take_next (l : List Nat) (up k : Nat) (h : up + k < l.length) : lval 10000 ((l.drop up).take (k + 1)) = lval 10000 ((l.drop up).take k) + 10000 ^ k * l[up + k] := by
  have hk : k < (l.drop up).length := by rw [List.length_drop]; omega
  rw [List.take_succ_eq_append_getElem hk, lval_snoc, List.length_take, Nat.min_eq_left (Nat.le_of_lt hk), List.getElem_drop]
theorem take_getD4 (l : List Nat) (i : Nat) : lval 10000 (l.take (i + 1)) = lval 10000 (l.take i) + 10000 ^ i * l.getD i 0 := by
  by_cases h : i < l.length
  · rw [List.take_succ_eq_append_getElem h, lval_snoc, List.length_take, Nat.min_eq_left (by omega)]; simp [List.getD, h]
  · rw [List.take_of_length_le (by omega), List.take_of_length_le (by omega)]; simp [List.getD, List.getElem?_eq_none (Nat.le_of_not_lt h)]
theorem RefTakeInv.step {X Y D : List Nat} {up q c k d c' : Nat} (h : RefTakeInv X Y D up q c k) (hk : up + k < D.length) (hd : d < 10000) (hc : c' ≤ 9999)
    (he : D[up + k] + c' * 10000 = d + c + q * Y.getD k 0) : RefTakeInv X Y (D.set (up + k) d) up q c' (k + 1) := by
  have hl := h.len
  have hkX : up + k < X.length := by omega
  have hDX : D[up + k] = X[up + k] := by
    have := h.rest
    rw [List.drop_eq_getElem_cons hk, List.drop_eq_getElem_cons hkX] at this
    exact (List.cons.inj this).1
  refine ⟨by rw [List.length_set]; exact hl, limbs_set h.lim _ _ hd, ?_, ?_, ?_, hc⟩
  · rw [List.take_set_of_le (by omega)]; exact h.low
  · rw [List.drop_set_of_lt (by omega), ← Nat.add_assoc]
    have := h.rest
    rw [List.drop_eq_getElem_cons hk, List.drop_eq_getElem_cons hkX] at this
    exact (List.cons.inj this).2
  · have e1 : lval 10000 (((D.set (up + k) d).drop up).take (k + 1)) = lval 10000 ((D.drop up).take k) + 10000 ^ k * d := by
      rw [take_next _ up k (by rw [List.length_set]; exact hk), List.getElem_set_self]
      congr 2
      rw [List.drop_set]
      split
      · omega
      · rw [List.take_set_of_le (by omega)]
    rw [e1, take_getD4, take_next X up k hkX]
    have e := h.eq
    rw [hDX] at he
    generalize X[up + k] = xv at *
    generalize Y.getD k 0 = yv at *
    generalize lval 10000 ((D.drop up).take k) = a at *
    generalize lval 10000 (Y.take k) = b at *
    generalize lval 10000 ((X.drop up).take k) = x at *
    rw [Nat.pow_succ]
    generalize (10000 : Nat) ^ k = p at *
    have h1 : p * (xv + c' * 10000) = p * (d + c + q * yv) := by rw [he]
    have h2 : p * (xv + c' * 10000) = p * xv + c' * (p * 10000) := by grind
    have h3 : p * (d + c + q * yv) = p * d + c * p + q * (p * yv) := by grind
    rw [h2, h3] at h1
    rw [Nat.mul_add]
    omega
/-- The end: nothing is owed. -/
theorem RefTakeInv.done {X Y D : List Nat} {up q k : Nat} (h : RefTakeInv X Y D up q 0 k) (hk : Y.length ≤ k) (hup : up + k ≤ X.length) : lval 10000 (D.drop up) + q * lval 10000 Y = lval 10000 (X.drop up) := by
  have e := h.eq
  rw [List.take_of_length_le hk, Nat.zero_mul, Nat.add_zero] at e
  have hl := h.len
  rw [lval_split4 10000 (D.drop up) k (by rw [List.length_drop]; omega), lval_split4 10000 (X.drop up) k (by rw [List.length_drop]; omega), List.drop_drop, List.drop_drop, h.rest]
  omega
theorem RefTakeInv.owes {X Y D : List Nat} {up q c k : Nat} (h : RefTakeInv X Y D up q c k) (hk : Y.length ≤ k) (hup : up + k = X.length) (hle : q * lval 10000 Y ≤ lval 10000 (X.drop up)) : c = 0 := by
  have e := h.eq
  have hl := h.len
  rw [List.take_of_length_le hk, List.take_of_length_le (by rw [List.length_drop]; omega), List.take_of_length_le (by rw [List.length_drop]; omega)] at e
  have h1 := lval_lt (limbs_drop4 h.lim up)
  rw [List.length_drop, hl, show X.length - up = k by omega] at h1
  rcases Nat.eq_zero_or_pos c with hc | hc
  · exact hc
  · have : 10000 ^ k ≤ c * 10000 ^ k := Nat.le_mul_of_pos_left _ hc
    omega
/-- How far a number A has been divided by V: Q is found from 'up' on (the first 'up' are noughts), X is left. -/
structure DivInv (A V : Nat) (X Q : List Nat) (n up : Nat) : Prop where
  lenX : X.length = n
  lenQ : Q.length = n
  limX : limbs 10000 X
  limQ : limbs 10000 Q
  zero : ∀ i (h : i < Q.length), i < up → Q[i] = 0
  sum : lval 10000 X + V * lval 10000 Q = A
  rest : lval 10000 (X.drop up) < V
theorem DivInv.start {A V : Nat} {X : List Nat} {up : Nat} (hX : limbs 10000 X) (hA : lval 10000 X = A) (hr : lval 10000 (X.drop up) < V) : DivInv A V X (List.replicate X.length 0) X.length up :=
  ⟨rfl, by simp, hX, limbs_zeros _ _ (by decide), fun i h _ => by simp, by rw [lval_zeros, Nat.mul_zero, Nat.add_zero]; exact hA, hr⟩
theorem DivInv.quo {A V : Nat} {X Q : List Nat} {n up : Nat} (h : DivInv A V X Q n (up + 1)) (hup : up < n) : lval 10000 (X.drop up) / V ≤ 9999 := by
  have h1 : up < X.length := by rw [h.lenX]; exact hup
  rw [lval_drop 10000 X up h1]
  have h2 : X[up] < 10000 := h.limX _ (List.getElem_mem h1)
  have h3 := h.rest
  have h4 : X[up] + 10000 * lval 10000 (X.drop (up + 1)) < 10000 * V := by omega
  have := (Nat.div_lt_iff_lt_mul (by omega : 0 < V)).2 h4
  omega
theorem DivInv.step {A V : Nat} {X Q D : List Nat} {n up q : Nat} (h : DivInv A V X Q n (up + 1)) (hup : up < n) (hq : q = lval 10000 (X.drop up) / V)
    (hl : D.length = X.length) (hD : limbs 10000 D) (hlow : D.take up = X.take up) (hs : lval 10000 (D.drop up) + q * V = lval 10000 (X.drop up)) : DivInv A V D (Q.set up q) n up := by
  have hV : 0 < V := by have := h.rest; omega
  have h1 : up < X.length := by rw [h.lenX]; exact hup
  have h2 : up < Q.length := by rw [h.lenQ]; exact hup
  have h9 := h.quo hup
  refine ⟨hl.trans h.lenX, by rw [List.length_set]; exact h.lenQ, hD, limbs_set h.limQ _ _ (by omega), ?_, ?_, ?_⟩
  · intro i hi hlt
    rw [List.getElem_set_ne (by omega)]
    exact h.zero i (by rw [List.length_set] at hi; exact hi) (by omega)
  · have e1 := lval_set 10000 Q up q h2
    rw [h.zero up h2 (by omega), Nat.mul_zero, Nat.add_zero] at e1
    have e2 := h.sum
    rw [lval_split4 10000 X up (by omega)] at e2
    rw [lval_split4 10000 D up (by omega), hlow, e1]
    have e3 : 10000 ^ up * lval 10000 (X.drop up) = 10000 ^ up * lval 10000 (D.drop up) + V * (10000 ^ up * q) := by rw [← hs]; grind
    rw [Nat.mul_add]
    omega
  · have := Nat.div_add_mod (lval 10000 (X.drop up)) V
    have hm := Nat.mod_lt (lval 10000 (X.drop up)) hV
    rw [← hq, Nat.mul_comm V q] at this
    omega
theorem DivInv.done {A V : Nat} {X Q : List Nat} {n : Nat} (h : DivInv A V X Q n 0) : lval 10000 Q = A / V ∧ lval 10000 X = A % V := by
  have h1 := h.sum
  have h2 := h.rest
  rw [List.drop_zero] at h2
  have hV : 0 < V := by omega
  have e := (Nat.div_mod_unique hV (a := A) (d := lval 10000 Q) (c := lval 10000 X)).2 ⟨h1, h2⟩
  exact ⟨e.1.symm, e.2.symm⟩
end Cub
namespace Go.Proofs.YtijifpbpjinmhaaGreatDoor
open Go.RowKit
theorem i64s_made (n : Nat) : (madeCells (Value.int .i64 0).cells (n * 1)).toList = i64s (List.replicate n 0) := by
  rw [show (Value.int .i64 0).cells = #[Value.int .i64 0] from rfl, toList_madeCells_one]
  simp [i64s]
/-- What stands of the row that is filled. -/
structure OutI (w wr : World) (g N : Nat) (O : List Nat) : Prop where
  own : wr.ownsRow w.heap.size 3 1 (.slice (some ⟨g, 0, none⟩) N N) N (i64s O)
  len : O.length = N
  low : w.heap.size ≤ g
  below : Below w.heap.size w wr
theorem OutI.cell {w wr : World} {g N : Nat} {O : List Nat} (h : OutI w wr g N O) (p : Nat) (hp : p < O.length) : wr.cell? ⟨g, p, none⟩ = some (.int .i64 (O[p] : Int)) := by
  rw [h.own.cellAt p (by have := h.len; omega), i64s_get O p hp]
theorem OutI.frozen {w wr : World} {g N : Nat} {O : List Nat} (h : OutI w wr g N O) (p : Nat) : wr.frozen? ⟨g, p, none⟩ = false := h.own.frozenAt p
theorem OutI.set {w wr : World} {g N : Nat} {O : List Nat} (h : OutI w wr g N O) (p x : Nat) (z : Int) (hz : z = (x : Int)) : OutI w (wr.setCell ⟨g, p, none⟩ (.int .i64 z)) g N (O.set p x) := by
  subst hz
  refine ⟨?_, by rw [List.length_set]; exact h.len, h.low, h.below.setCell (by exact h.low) _⟩
  have := (World.ownsRow.stored h.own p (.int .i64 (x : Int))).1
  rw [i64s_set] at this
  exact this
theorem OutI.drew {w wr : World} {g N : Nat} {O : List Nat} (h : OutI w wr g N O) (k : Nat) : OutI w (wr.drewN k) g N O := ⟨h.own, h.len, h.low, below_drewN h.below k⟩
theorem refTimes_any (vx vy : Value) (bx by' : Nat) (lx ly : List Nat) (w : World) (hox : OwnI w bx vx lx) (hoy : OwnI w by' vy ly) (hlx : Cub.limbs 10000 lx) (hly : Cub.limbs 10000 ly) (hnx : lx.length ≤ 1000000) (hny : ly.length ≤ 1000000) :
    Calls Tryz.prog 118 #[vx, vy] w fun e w' => ∃ v l, e = .returned v ∧ OwnI w' w.heap.size v l ∧ Cub.normal 10000 l ∧ Cub.lval 10000 l = Cub.lval 10000 lx * Cub.lval 10000 ly ∧ l.length ≤ lx.length + ly.length ∧ Below w.heap.size w w' := by
  obtain ⟨ax, cx, rfl, _, _, hcx⟩ := hox.open
  obtain ⟨ay, cy, rfl, _, _, hcy⟩ := hoy.open
  have HX := hide (And.intro hlx hcx)
  have HY := hide (And.intro hly hcy)
  obtain ⟨nx, hnx'⟩ : ∃ nx, nx = lx.length := ⟨_, rfl⟩
  obtain ⟨ny, hny'⟩ : ∃ ny, ny = ly.length := ⟨_, rfl⟩
  rw [← hnx'] at hnx ⊢
  rw [← hny'] at hny ⊢
  have HNX := hide hnx'
  have HNY := hide hny'
  clear hox hoy hlx hly hcx hcy hnx' hny'
  obtain ⟨i0, hi, hz0, hz1, hz2⟩ := info_parts Tryz.info3
  go_enter Tryz.func118, Tryz.ntmps118
  go_wp2_with (at_make; refine wpList_make_full _ rfl _ _ 138 rfl w.heap.size 3 i0 (.int .i64 0) 1 Tryz.underlying138 hi hz0 hz1 .i64 .i64 _ _ (nx + ny) rfl rfl (by omega) (by omega) (by rw [hz2]; omega) (by unfold maxLen; omega) (Nat.le_refl _) ?_; intro w3 hown3 hgrow3)
  have hO3 : OutI w w3 w.heap.size (nx + ny) (List.replicate (nx + ny) 0) := by
    refine ⟨?_, List.length_replicate .., Nat.le_refl _, (Below.refl _ _).grown hgrow3 (Nat.le_refl _) (fun k hk => by cases hk)⟩
    rw [i64s_made] at hown3
    exact hown3
  have HO3 := hide hO3
  clear hown3 hgrow3 hO3
  generalize hg : w.heap.size = g at *
  have HG := hide hg
  clear hg
  go_loopw [6] (fun t wr => ∃ (i : Nat) (O : List Nat), t = .int .i64 (i : Int) ∧ i ≤ nx ∧ Hid (OutI w wr g (nx + ny) O) ∧ Hid (Cub.limbs 10000 O ∧ Cub.lval 10000 O = Cub.lval 10000 (lx.take i) * Cub.lval 10000 ly)) (fun t _ => nx - (intOf t).toNat)
  case atStart => exact ⟨0, _, rfl, by omega, HO3, ⟨Cub.limbs_zeros _ _ (by decide), by rw [Cub.lval_zeros]; simp [Cub.lval]⟩⟩
  case round =>
    obtain ⟨i, O, rfl, hi', HO, HV⟩ := hrel
    by_cases hin : i < nx
    · have hil : i < lx.length := by have := unhide HNX; omega
      obtain ⟨xv, hxv⟩ : ∃ xv, xv = lx[i] := ⟨_, rfl⟩
      have hxB : xv < 10000 := by rw [hxv]; exact (unhide HX).1 _ (List.getElem_mem hil)
      have HXV : Hid (lx.getD i 0 = xv) := by rw [hxv, List.getD_eq_getElem?_getD, List.getElem?_eq_getElem hil]; exact rfl
      obtain ⟨bx', rfl, _⟩ := (unhide HX).2 w (Below.refl _ _) i hil
      have HXC : Hid (∀ W, Below w.heap.size w W → W.cell? ⟨bx', i, none⟩ = some (.int .i64 (xv : Int))) := fun W hW => by
        obtain ⟨b, e, hc⟩ := (unhide HX).2 W hW i hil
        simp only [Option.some.injEq, Addr.mk.injEq, and_true] at e
        subst e
        rw [hxv]; exact hc
      have HA0 : Hid (Cub.Acc 10000 O 0 (i + 0) (Cub.lval 10000 (lx.take i) * Cub.lval 10000 ly + 10000 ^ i * (xv * Cub.lval 10000 (ly.take 0)))) := by
        refine ⟨(unhide HV).1, ?_⟩
        rw [(unhide HV).2]; simp [Cub.lval]
      generalize hV0 : Cub.lval 10000 (lx.take i) * Cub.lval 10000 ly = V0 at *
      have HV0 := hide hV0
      clear hxv hV0
      go_wp2
      go_loopw [7, 8] (fun c t wq => ∃ (k j : Nat) (P : List Nat), c = .int .i64 (k : Int) ∧ t = .int .i64 (j : Int) ∧ j ≤ ny ∧ k < 10000 ∧ Hid (OutI w wq g (nx + ny) P) ∧ Hid (Cub.Acc 10000 P k (i + j) (V0 + 10000 ^ i * (xv * Cub.lval 10000 (ly.take j))))) (fun _ t _ => ny - (intOf t).toNat)
      case atStart => exact ⟨0, 0, O, rfl, rfl, by omega, by omega, HO, HA0⟩
      case round =>
        obtain ⟨k, j, P, rfl, rfl, hj, hk, HP, HA⟩ := hrel
        by_cases hjn : j < ny
        · have hpl : i + j < P.length := by rw [(unhide HP).len]; omega
          have hjl : j < ly.length := by have := unhide HNY; omega
          obtain ⟨ov, hov⟩ : ∃ ov, ov = P[i + j] := ⟨_, rfl⟩
          have hoB : ov < 10000 := by rw [hov]; exact (unhide HA).lim _ (List.getElem_mem hpl)
          have hco := (unhide HP).cell (i + j) hpl
          rw [← hov] at hco
          have hfo := (unhide HP).frozen (i + j)
          have hcx := unhide HXC wr (unhide HP).below
          obtain ⟨yv, hyv⟩ : ∃ yv, yv = ly[j] := ⟨_, rfl⟩
          have hyB : yv < 10000 := by rw [hyv]; exact (unhide HY).1 _ (List.getElem_mem hjl)
          obtain ⟨by2, rfl, hcy⟩ := (unhide HY).2 wr (unhide HP).below j hjl
          rw [← hyv] at hcy
          have HYV : Hid (ly.getD j 0 = yv) := by rw [hyv, List.getD_eq_getElem?_getD, List.getElem?_eq_getElem hjl]; exact rfl
          have hin' : (i : Int) < (nx : Int) := by omega
          have hjn' : (j : Int) < (ny : Int) := by omega
          obtain ⟨m, hm⟩ : ∃ m, m = xv * yv := ⟨_, rfl⟩
          have hmB : m ≤ 99980001 := by rw [hm]; exact Nat.mul_le_mul (show xv ≤ 9999 by omega) (show yv ≤ 9999 by omega)
          have hmul : (xv : Int) * (yv : Int) = (m : Int) := by rw [hm]; simp
          have HA' : Hid (Cub.Acc 10000 (P.set (i + j) ((k + ov + m) % 10000)) ((k + ov + m) / 10000) (i + (j + 1)) (V0 + 10000 ^ i * (xv * Cub.lval 10000 (ly.take (j + 1))))) := by
            have h := (unhide HA).step (by decide) hpl (xv * ly.getD j 0)
            rw [Cub.val_inner, unhide HYV, ← hm, ← hov] at h
            exact h
          have hk' : (k + ov + m) / 10000 < 10000 := by rw [hm]; exact Cub.carry_lt 10000 k ov xv yv hk hoB hxB hyB
          clear hov hyv hjl hm hpl
          go_wp2
          go_quiet (fail)
          go_wp2
          go_roundw
          case rel => exact ⟨(k + ov + m) / 10000, j + 1, P.set (i + j) ((k + ov + m) % 10000), by go_num, by go_num, by omega, hk', ((unhide HP).set (i + j) ((k + ov + m) % 10000) _ (by omega)).drew _, HA'⟩
          case measure => simp [intOf]; omega
        · have hje : j = ny := by omega
          subst hje
          have HA1 : Hid (Cub.Acc 10000 P k (i + j) (Cub.lval 10000 (lx.take (i + 1)) * Cub.lval 10000 ly)) := by
            have h := unhide HA
            rw [List.take_of_length_le (by have := unhide HNY; omega), ← unhide HV0, ← unhide HXV, Cub.val_outer] at h
            exact h
          have HVB : Hid (Cub.lval 10000 (lx.take (i + 1)) * Cub.lval 10000 ly < 10000 ^ (nx + j)) := by
            rcases Cub.mul_lt 10000 lx ly (unhide HX).1 (unhide HY).1 (i + 1) with h | h
            · refine Nat.lt_of_lt_of_le h (Nat.pow_le_pow_right (by decide) ?_)
              have := unhide HNY; omega
            · omega
          generalize hV1 : Cub.lval 10000 (lx.take (i + 1)) * Cub.lval 10000 ly = V1 at *
          have HV1 := hide hV1
          clear HA hV1
          go_wp2
          go_loopw [7, 9] (fun c t wq => ∃ (k p : Nat) (P : List Nat), c = .int .i64 (k : Int) ∧ t = .int .i64 (p : Int) ∧ p ≤ nx + j ∧ k < 10000 ∧ Hid (OutI w wq g (nx + j) P) ∧ Hid (Cub.Acc 10000 P k p V1)) (fun _ t _ => nx + j - (intOf t).toNat)
          case atStart => exact ⟨k, i + j, P, rfl, by go_num, by omega, hk, HP, HA1⟩
          case round =>
            clear HP HA1 hk
            obtain ⟨k, p, P, rfl, rfl, hp, hk, HP, HA⟩ := hrel
            by_cases hk0 : k = 0
            · subst hk0
              have HVn : Hid (Cub.limbs 10000 P ∧ Cub.lval 10000 P = Cub.lval 10000 (lx.take (i + 1)) * Cub.lval 10000 ly) := ⟨(unhide HA).lim, by rw [unhide HV1]; have := (unhide HA).val; simpa using this⟩
              go_wp2
              go_roundw
              case rel => exact ⟨i + 1, P, by go_num, by omega, HP, HVn⟩
              case measure => simp [intOf]; omega
            · have hpn : p < nx + j := by
                rcases Nat.lt_or_ge p (nx + j) with h | h
                · exact h
                · exfalso
                  have e : p = nx + j := by omega
                  have h2 := unhide HA
                  rw [e] at h2
                  exact hk0 (h2.none (unhide HVB))
              have hpl : p < P.length := by rw [(unhide HP).len]; omega
              obtain ⟨ov, hov⟩ : ∃ ov, ov = P[p] := ⟨_, rfl⟩
              have hoB : ov < 10000 := by rw [hov]; exact (unhide HA).lim _ (List.getElem_mem hpl)
              have hco := (unhide HP).cell p hpl
              rw [← hov] at hco
              have hfo := (unhide HP).frozen p
              have HA' : Hid (Cub.Acc 10000 (P.set p ((k + ov) % 10000)) ((k + ov) / 10000) (p + 1) V1) := by
                have h := (unhide HA).step (by decide) hpl 0
                rw [← hov, Nat.add_zero, Nat.mul_zero, Nat.add_zero] at h
                exact h
              have hk' : (k + ov) / 10000 < 10000 := Cub.carry_lt' 10000 k ov hk hoB (by decide)
              have HP' : Hid (OutI w (wr.setCell ⟨g, p, none⟩ (.int .i64 (((k : Int) + (ov : Int)) % 10000))) g (nx + j) (P.set p ((k + ov) % 10000))) := (unhide HP).set p ((k + ov) % 10000) _ (by omega)
              clear hov hpl
              go_wp2
              go_roundw
              case rel => exact ⟨(k + ov) / 10000, p + 1, P.set p ((k + ov) % 10000), by go_num, by go_num, by omega, hk', HP', HA'⟩
              case measure => simp [intOf]; omega
    · obtain ⟨t1, t2, t3⟩ := Cub.lval_trim 10000 _ O rfl
      have HF : Hid (Cub.normal 10000 (Cub.trimN O) ∧ Cub.lval 10000 (Cub.trimN O) = Cub.lval 10000 lx * Cub.lval 10000 ly ∧ (Cub.trimN O).length ≤ nx + ny) := by
        refine ⟨t2 (unhide HV).1, ?_, ?_⟩
        · rw [t1, (unhide HV).2, List.take_of_length_le (by have := unhide HNX; omega)]
        · obtain ⟨q, hq⟩ := t3
          have := congrArg List.length hq
          rw [List.length_append, (unhide HO).len] at this; omega
      have HOw : Hid (OwnI wr w.heap.size (.slice (some ⟨g, 0, none⟩) (nx + ny) (nx + ny)) O) := by
        have h := (unhide HO).own
        unfold OwnI Hid
        rw [(unhide HO).len]; exact h
      clear t1 t2 t3
      go_wp2_with (go_at_call 133; refine (refTrim_any _ _ O _ (unhide HOw)).mono ?_; rintro e w5 ⟨v5, rfl, ho5, rfl⟩)
      go_ret
      exact ⟨v5, _, rfl, ho5, (unhide HF).1, (unhide HF).2.1, (unhide HF).2.2, (unhide HO).below⟩
end Go.Proofs.YtijifpbpjinmhaaGreatDoor

/- The document's division of limbs of four digits: plain facts. No program is named here. -/
import Derived.Test.YtijifpbpjinmhaaGreatDoorTakeB
import Derived.Test.YtijifpbpjinmhaaGreatDoorRefText2
import Derived.OneCell
set_option maxHeartbeats 1000000
set_option maxRecDepth 100000
namespace Cub
/-- A sum in the making, least limb first: S what is written, k what is carried. -/
structure PlusInv (B : Nat) (x y S : List Nat) (k : Nat) : Prop where
  lim : limbs B S
  val : lval B S + B ^ S.length * k = lval B (x.take S.length) + lval B (y.take S.length)
  carry : k ≤ 1
theorem PlusInv.start (B : Nat) (x y : List Nat) : PlusInv B x y [] 0 := ⟨fun _ h => (by cases h), by simp [lval], by omega⟩
theorem PlusInv.step {B : Nat} {x y S : List Nat} {k : Nat} (h : PlusInv B x y S k) (hB : 1 < B) (hx : x.getD S.length 0 < B) (hy : y.getD S.length 0 < B) :
    PlusInv B x y (S ++ [(k + x.getD S.length 0 + y.getD S.length 0) % B]) ((k + x.getD S.length 0 + y.getD S.length 0) / B) := by
  have hk := h.carry
  refine ⟨limbs_append.2 ⟨h.lim, fun z hz => ?_⟩, ?_, ?_⟩
  · rw [List.mem_singleton] at hz; subst hz; exact Nat.mod_lt _ (by omega)
  · rw [lval_snoc, List.length_append, List.length_singleton, takeB, takeB, Nat.pow_succ]
    have e := h.val
    generalize x.getD S.length 0 = a at *
    generalize y.getD S.length 0 = b at *
    have e3 : k + a + b = B * ((k + a + b) / B) + (k + a + b) % B := (Nat.div_add_mod _ _).symm
    generalize (k + a + b) / B = q at *
    generalize (k + a + b) % B = r at *
    have e4 := congrArg (B ^ S.length * ·) e3
    simp only [Nat.mul_add] at e4
    have m1 : B ^ S.length * B * q = B ^ S.length * (B * q) := Nat.mul_assoc _ _ _
    omega
  · have : (k + x.getD S.length 0 + y.getD S.length 0) < 2 * B := by omega
    have := Nat.div_lt_of_lt_mul (show (k + x.getD S.length 0 + y.getD S.length 0) < B * 2 by omega)
    omega
theorem PlusInv.sum {B : Nat} {x y S : List Nat} (h : PlusInv B x y S 0) (h1 : x.length ≤ S.length) (h2 : y.length ≤ S.length) : lval B S = lval B x + lval B y := by
  have := h.val
  rw [List.take_of_length_le h1, List.take_of_length_le h2] at this
  simpa using this
theorem getD_lt {B : Nat} {l : List Nat} (h : limbs B l) (hB : 0 < B) (i : Nat) : l.getD i 0 < B := by
  by_cases hi : i < l.length
  · simp only [List.getD, List.getElem?_eq_getElem hi, Option.getD_some]; exact h _ (List.getElem_mem hi)
  · simpa [List.getD, Nat.le_of_not_lt hi] using hB
theorem len_leB {B : Nat} (hB : 1 < B) {l : List Nat} {k : Nat} (h : normal B l) (hk : lval B l < B ^ k) : l.length ≤ k := by
  by_cases hne : l = []
  · subst hne; simp
  · have h1 := normal_ge h hne
    have h2 := (Nat.pow_lt_pow_iff_right hB).1 (Nat.lt_of_le_of_lt h1 hk)
    omega
theorem len_le4 {l : List Nat} {d : List UInt8} (hd : digs d) (h : normal 10000 l) (hv : lval 10000 l = dval d) : l.length ≤ d.length := by
  apply len_leB (by decide) h
  rw [hv]
  have h1 := dval_lt hd
  have h2 : 10 ^ d.length ≤ 10000 ^ d.length := Nat.pow_le_pow_left (by decide) _
  omega
end Cub
namespace Go.Proofs.YtijifpbpjinmhaaGreatDoor
open Go.RowKit
theorem refPlus_any (s t : ByteArray) (w : World) (hs : s.size ≤ 100000) (ht : t.size ≤ 100000) (hds : Cub.digs s.data.toList) (hdt : Cub.digs t.data.toList) :
    Calls Tryz.prog 84 #[.string s, .string t] w fun e w' => e = .returned (.string ⟨(Lib.decDigits (Cub.dval s.data.toList + Cub.dval t.data.toList)).toArray⟩) ∧ Below w.heap.size w w' := by
  have HDS := hide hds
  have HDT := hide hdt
  clear hds hdt
  obtain ⟨i0, hi, hz0, hz1, hz2⟩ := info_parts Tryz.info3
  go_enter Tryz.func84, Tryz.ntmps84
  go_wp2_with (first
    | (go_at_call_of 119 s; refine (refLimbs_any s _ (by omega) (unhide HDS)).mono ?_; rintro e w1 ⟨vx, lx, rfl, hox, hnx, hvx, hb1⟩; obtain ⟨ax, cx, rfl, hcx, hmx, hcellx⟩ := hox.open; have HX := hide (And.intro hnx (And.intro hvx hcellx)); clear hnx hvx hcellx hox)
    | (go_at_call_of 119 t; refine (refLimbs_any t _ (by omega) (unhide HDT)).mono ?_; rintro e w2 ⟨vy, ly, rfl, hoy, hny, hvy, hb2⟩; obtain ⟨ay, cy, rfl, hcy, hmy, hcelly⟩ := hoy.open; have HY := hide (And.intro hny (And.intro hvy hcelly)); clear hny hvy hcelly hoy))
  have hbx : lx.length ≤ 100000 := by have := Cub.len_le4 (unhide HDS) (unhide HX).1 (unhide HX).2.1; rw [list_len] at this; omega
  have hby : ly.length ≤ 100000 := by have := Cub.len_le4 (unhide HDT) (unhide HY).1 (unhide HY).2.1; rw [list_len] at this; omega
  obtain ⟨nx, hnx⟩ : ∃ nx, nx = lx.length := ⟨_, rfl⟩
  obtain ⟨ny, hny⟩ : ∃ ny, ny = ly.length := ⟨_, rfl⟩
  rw [← hnx] at hbx ⊢
  rw [← hny] at hby ⊢
  have HNX := hide hnx
  have HNY := hide hny
  have hb12 : Below w.heap.size w w2 := hb1.trans (hb2.mono hb1.size)
  have HB2 := hide (And.intro hb12 hb2)
  clear hnx hny hb12 hb2 hb1 hcx hcy hmx hmy
  go_loopw [7, 8, 9] (fun v c i wr => ∃ (S : List Nat) (k j : Nat), c = .int .i64 (k : Int) ∧ i = .int .i64 (j : Int) ∧ k ≤ 1 ∧ j ≤ nx + ny + 1 ∧ Hid (j = S.length ∧ (k = 0 ∨ j ≤ nx ∨ j ≤ ny)) ∧ Hid (Cub.PlusInv 10000 lx ly S k) ∧ wr.ownsRow w2.heap.size 3 1 v j (i64s S) ∧ Below w2.heap.size w2 wr) (fun _ _ i _ => nx + ny + 2 - (intOf i).toNat)
  case atStart => exact ⟨[], 0, 0, rfl, rfl, by omega, by omega, ⟨rfl, Or.inl rfl⟩, Cub.PlusInv.start _ _ _, World.ownsRow_nil _ _ _ _, Below.refl _ _⟩
  case round =>
    obtain ⟨S, k, j, rfl, rfl, hk, hj, HJ, HI, hown, hb⟩ := hrel
    obtain ⟨xv, hxv⟩ : ∃ xv, xv = lx.getD j 0 := ⟨_, rfl⟩
    obtain ⟨yv, hyv⟩ : ∃ yv, yv = ly.getD j 0 := ⟨_, rfl⟩
    have hxB : xv < 10000 := by rw [hxv]; exact Cub.getD_lt (unhide HX).1.1 (by decide) _
    have hyB : yv < 10000 := by rw [hyv]; exact Cub.getD_lt (unhide HY).1.1 (by decide) _
    have HI' : Hid (Cub.PlusInv 10000 lx ly (S ++ [(k + xv + yv) % 10000]) ((k + xv + yv) / 10000)) := by
      have := (unhide HI).step (by decide) (by rw [← (unhide HJ).1, ← hxv]; exact hxB) (by rw [← (unhide HJ).1, ← hyv]; exact hyB)
      rw [← (unhide HJ).1, ← hxv, ← hyv] at this; exact this
    have hX0 : ¬ j < nx → xv = 0 := fun h => by rw [hxv, List.getD_eq_getElem?_getD, List.getElem?_eq_none (by have := unhide HNX; omega)]; rfl
    have hY0 : ¬ j < ny → yv = 0 := fun h => by rw [hyv, List.getD_eq_getElem?_getD, List.getElem?_eq_none (by have := unhide HNY; omega)]; rfl
    have hXc : j < nx → ∃ b, ax = some ⟨b, 0, none⟩ ∧ wr.cell? ⟨b, j, none⟩ = some (.int .i64 (xv : Int)) := fun h => by
      have hl : j < lx.length := by have := unhide HNX; omega
      obtain ⟨b, e, hc⟩ := (unhide HX).2.2 wr ((unhide HB2).2.trans (hb.mono (unhide HB2).2.size)) j hl
      refine ⟨b, e, ?_⟩
      rw [hc, hxv, List.getD_eq_getElem?_getD, List.getElem?_eq_getElem hl]; rfl
    have hYc : j < ny → ∃ b, ay = some ⟨b, 0, none⟩ ∧ wr.cell? ⟨b, j, none⟩ = some (.int .i64 (yv : Int)) := fun h => by
      have hl : j < ly.length := by have := unhide HNY; omega
      obtain ⟨b, e, hc⟩ := (unhide HY).2.2 wr hb j hl
      refine ⟨b, e, ?_⟩
      rw [hc, hyv, List.getD_eq_getElem?_getD, List.getElem?_eq_getElem hl]; rfl
    have hsz := hb.size
    clear hxv hyv
    by_cases hx : j < nx
    · obtain ⟨bx, rfl, hcx⟩ := hXc hx
      by_cases hy : j < ny
      · obtain ⟨by', rfl, hcy⟩ := hYc hy
        clear hXc hYc hX0 hY0
        go_wp2_with (at_builtin; refine wpList_append_own _ rfl _ _ 138 rfl w2.heap.size 3 i0 (.int .i64 0) 1 8 Tryz.underlying138 hi hz0 hz1 hz2 rfl (by decide) _ _ _ rfl (hown.alloc _) ⟨wr.heap.size, 0, none⟩ 1 1 [.int .i64 (((k : Int) + (xv : Int) + (yv : Int)) % 10000)] rfl rfl (cell_one_new _ _ _) (fun x hx => by simp at hx; subst hx; rfl) (by unfold maxLen; omega) (by omega) (by simp; omega) ?_; intro v' w3 hown' hgrow _)
        have hb3 : Below w2.heap.size w2 w3 := (hb.alloc hsz _).grown hgrow (by simp; omega) (fun q hq => (hown.lt q hq).1)
        have hownN : w3.ownsRow w2.heap.size 3 1 v' (j + 1) (i64s (S ++ [(k + xv + yv) % 10000])) := by
          have e : i64s (S ++ [(k + xv + yv) % 10000]) = i64s S ++ [.int .i64 (((k : Int) + (xv : Int) + (yv : Int)) % 10000)] := by
            simp only [i64s, List.map_append, List.map_cons, List.map_nil]
            rw [show ((((k + xv + yv) % 10000 : Nat)) : Int) = ((k : Int) + (xv : Int) + (yv : Int)) % 10000 by omega]
          rw [e]; exact hown'
        clear hown' hgrow hown hb
        go_wp2
        go_roundw
        case rel => exact ⟨S ++ [(k + xv + yv) % 10000], (k + xv + yv) / 10000, j + 1, by go_num, by go_num, (unhide HI').carry, by omega, ⟨by rw [List.length_append, (unhide HJ).1]; rfl, by have := (unhide HJ).2; omega⟩, HI', hownN, hb3⟩
        case measure => simp [intOf]; omega
      · have hy0 := hY0 hy
        subst hy0
        clear hXc hYc hX0 hY0
        go_wp2_with (at_builtin; refine wpList_append_own _ rfl _ _ 138 rfl w2.heap.size 3 i0 (.int .i64 0) 1 8 Tryz.underlying138 hi hz0 hz1 hz2 rfl (by decide) _ _ _ rfl (hown.alloc _) ⟨wr.heap.size, 0, none⟩ 1 1 [.int .i64 (((k : Int) + (xv : Int)) % 10000)] rfl rfl (cell_one_new _ _ _) (fun x hx => by simp at hx; subst hx; rfl) (by unfold maxLen; omega) (by omega) (by simp; omega) ?_; intro v' w3 hown' hgrow _)
        have hb3 : Below w2.heap.size w2 w3 := (hb.alloc hsz _).grown hgrow (by simp; omega) (fun q hq => (hown.lt q hq).1)
        have hownN : w3.ownsRow w2.heap.size 3 1 v' (j + 1) (i64s (S ++ [(k + xv + 0) % 10000])) := by
          have e : i64s (S ++ [(k + xv + 0) % 10000]) = i64s S ++ [.int .i64 (((k : Int) + (xv : Int)) % 10000)] := by
            simp only [i64s, List.map_append, List.map_cons, List.map_nil]
            rw [show ((((k + xv + 0) % 10000 : Nat)) : Int) = ((k : Int) + (xv : Int)) % 10000 by omega]
          rw [e]; exact hown'
        clear hown' hgrow hown hb
        go_wp2
        go_roundw
        case rel => exact ⟨S ++ [(k + xv + 0) % 10000], (k + xv + 0) / 10000, j + 1, by go_num, by go_num, (unhide HI').carry, by omega, ⟨by rw [List.length_append, (unhide HJ).1]; rfl, by have := (unhide HJ).2; omega⟩, HI', hownN, hb3⟩
        case measure => simp [intOf]; omega
    · have hx0 := hX0 hx
      subst hx0
      by_cases hy : j < ny
      · obtain ⟨by', rfl, hcy⟩ := hYc hy
        clear hXc hYc hX0 hY0
        go_wp2_with (at_builtin; refine wpList_append_own _ rfl _ _ 138 rfl w2.heap.size 3 i0 (.int .i64 0) 1 8 Tryz.underlying138 hi hz0 hz1 hz2 rfl (by decide) _ _ _ rfl (hown.alloc _) ⟨wr.heap.size, 0, none⟩ 1 1 [.int .i64 (((k : Int) + (yv : Int)) % 10000)] rfl rfl (cell_one_new _ _ _) (fun x hx => by simp at hx; subst hx; rfl) (by unfold maxLen; omega) (by omega) (by simp; omega) ?_; intro v' w3 hown' hgrow _)
        have hb3 : Below w2.heap.size w2 w3 := (hb.alloc hsz _).grown hgrow (by simp; omega) (fun q hq => (hown.lt q hq).1)
        have hownN : w3.ownsRow w2.heap.size 3 1 v' (j + 1) (i64s (S ++ [(k + 0 + yv) % 10000])) := by
          have e : i64s (S ++ [(k + 0 + yv) % 10000]) = i64s S ++ [.int .i64 (((k : Int) + (yv : Int)) % 10000)] := by
            simp only [i64s, List.map_append, List.map_cons, List.map_nil]
            rw [show ((((k + 0 + yv) % 10000 : Nat)) : Int) = ((k : Int) + (yv : Int)) % 10000 by omega]
          rw [e]; exact hown'
        clear hown' hgrow hown hb
        go_wp2
        go_roundw
        case rel => exact ⟨S ++ [(k + 0 + yv) % 10000], (k + 0 + yv) / 10000, j + 1, by go_num, by go_num, (unhide HI').carry, by omega, ⟨by rw [List.length_append, (unhide HJ).1]; rfl, by have := (unhide HJ).2; omega⟩, HI', hownN, hb3⟩
        case measure => simp [intOf]; omega
      · have hy0 := hY0 hy
        subst hy0
        clear hXc hYc hX0 hY0
        by_cases hk0 : k = 0
        · subst hk0
          obtain ⟨t1, t2, _⟩ := Cub.lval_trim 10000 _ S rfl
          have HF : Hid (Cub.lval 10000 (Cub.trimN S) = Cub.dval s.data.toList + Cub.dval t.data.toList ∧ Cub.normal 10000 (Cub.trimN S)) := by
            refine ⟨?_, t2 (unhide HI).lim⟩
            rw [t1, (unhide HI).sum (by have := unhide HNX; have := (unhide HJ).1; omega) (by have := unhide HNY; have := (unhide HJ).1; omega), (unhide HX).2.1, (unhide HY).2.1]
          have hSl : S.length ≤ 300000 := by have := (unhide HJ).1; omega
          have hTl : (Cub.trimN S).length ≤ 1000000 := by
            obtain ⟨q, hq⟩ := (Cub.lval_trim 10000 _ S rfl).2.2
            have := congrArg List.length hq
            rw [List.length_append] at this; omega
          have HO : Hid (OwnI wr w2.heap.size u7 S) := by have h := hown; rw [(unhide HJ).1] at h; exact h
          have hb5 : Below w.heap.size w wr := (unhide HB2).1.trans (hb.mono (unhide HB2).1.size)
          clear t1 t2 hown
          go_wp2_with (first
            | (go_at_call 133; refine (refTrim_any _ _ S _ (unhide HO)).mono ?_; rintro e w5 ⟨v5, rfl, ho5, rfl⟩; have HO5 := hide ho5; clear ho5)
            | (go_at_call 117; refine (refText_any _ _ _ _ (unhide HO5) (unhide HF).2 hTl).mono ?_; rintro e w6 ⟨rfl, hb6⟩))
          go_ret
          exact ⟨by rw [(unhide HF).1]; rfl, hb5.trans (hb6.mono hb5.size)⟩
        · have hk1 : 0 < k := by omega
          go_wp2_with (at_builtin; refine wpList_append_own _ rfl _ _ 138 rfl w2.heap.size 3 i0 (.int .i64 0) 1 8 Tryz.underlying138 hi hz0 hz1 hz2 rfl (by decide) _ _ _ rfl (hown.alloc _) ⟨wr.heap.size, 0, none⟩ 1 1 [.int .i64 (((k : Int)) % 10000)] rfl rfl (cell_one_new _ _ _) (fun x hx => by simp at hx; subst hx; rfl) (by unfold maxLen; omega) (by omega) (by simp; omega) ?_; intro v' w3 hown' hgrow _)
          have hb3 : Below w2.heap.size w2 w3 := (hb.alloc hsz _).grown hgrow (by simp; omega) (fun q hq => (hown.lt q hq).1)
          have hownN : w3.ownsRow w2.heap.size 3 1 v' (j + 1) (i64s (S ++ [(k + 0 + 0) % 10000])) := by
            have e : i64s (S ++ [(k + 0 + 0) % 10000]) = i64s S ++ [.int .i64 (((k : Int)) % 10000)] := by
              simp only [i64s, List.map_append, List.map_cons, List.map_nil]
              rw [show ((((k + 0 + 0) % 10000 : Nat)) : Int) = ((k : Int)) % 10000 by omega]
            rw [e]; exact hown'
          clear hown' hgrow hown hb
          go_wp2
          go_roundw
          case rel => exact ⟨S ++ [(k + 0 + 0) % 10000], (k + 0 + 0) / 10000, j + 1, by go_num, by go_num, (unhide HI').carry, by have := (unhide HJ).2; omega, ⟨by rw [List.length_append, (unhide HJ).1]; rfl, by have := (unhide HJ).2; omega⟩, HI', hownN, hb3⟩
          case measure => simp [intOf]; omega
end Go.Proofs.YtijifpbpjinmhaaGreatDoor
namespace Cub
theorem normal_len_le {B : Nat} (hB : 1 < B) {x y : List Nat} (hx : limbs B x) (hy : normal B y) (h : lval B y ≤ lval B x) : y.length ≤ x.length := by
  apply len_leB hB hy
  exact Nat.lt_of_le_of_lt h (lval_lt hx)
end Cub
namespace Go.Proofs.YtijifpbpjinmhaaGreatDoor
open Go.RowKit
theorem i64s_set (l : List Nat) (i x : Nat) : (i64s l).set i (.int .i64 (x : Int)) = i64s (l.set i x) := by simp [i64s, List.map_set]
end Go.Proofs.YtijifpbpjinmhaaGreatDoor
namespace Cub
/-- A list in the making, with what is carried to place p: together they are V. -/
structure Acc (B : Nat) (O : List Nat) (c p V : Nat) : Prop where
  lim : limbs B O
  val : lval B O + B ^ p * c = V
theorem Acc.step {B : Nat} {O : List Nat} {c p V : Nat} (h : Acc B O c p V) (hB : 0 < B) (hp : p < O.length) (t : Nat) :
    Acc B (O.set p ((c + O[p] + t) % B)) ((c + O[p] + t) / B) (p + 1) (V + B ^ p * t) := by
  refine ⟨limbs_set h.lim p _ (Nat.mod_lt _ hB), ?_⟩
  have e1 := lval_set B O p ((c + O[p] + t) % B) hp
  have e2 := h.val
  have e3 : c + O[p] + t = B * ((c + O[p] + t) / B) + (c + O[p] + t) % B := (Nat.div_add_mod _ _).symm
  generalize (c + O[p] + t) / B = q at *
  generalize (c + O[p] + t) % B = r at *
  have e4 := congrArg (B ^ p * ·) e3
  simp only [Nat.mul_add] at e4
  rw [Nat.pow_succ]
  have m1 : B ^ p * B * q = B ^ p * (B * q) := Nat.mul_assoc _ _ _
  omega
theorem Acc.none {B : Nat} {O : List Nat} {c p V : Nat} (h : Acc B O c p V) (hV : V < B ^ p) : c = 0 := by
  rcases Nat.eq_zero_or_pos c with h0 | h0
  · exact h0
  · have : B ^ p * 1 ≤ B ^ p * c := Nat.mul_le_mul_left _ h0
    have := h.val
    omega
theorem carry_lt (B c o x y : Nat) (hc : c < B) (ho : o < B) (hx : x < B) (hy : y < B) : (c + o + x * y) / B < B := by
  apply Nat.div_lt_of_lt_mul
  obtain ⟨b, rfl⟩ : ∃ b, B = b + 1 := ⟨B - 1, by omega⟩
  have h1 : x * y ≤ b * b := Nat.mul_le_mul (by omega) (by omega)
  have h2 : (b + 1) * (b + 1) = b * b + b + b + 1 := by rw [Nat.add_mul, Nat.mul_add]; omega
  omega
theorem carry_lt' (B c o : Nat) (hc : c < B) (ho : o < B) (hB : 2 ≤ B) : (c + o) / B < B := by
  apply Nat.div_lt_of_lt_mul
  have : B * 2 ≤ B * B := Nat.mul_le_mul_left _ hB
  omega
theorem get_zero {B : Nat} {O : List Nat} {p : Nat} (h : lval B O < B ^ p) (hp : p < O.length) : O[p] = 0 := by
  rcases Nat.eq_zero_or_pos O[p] with h0 | h0
  · exact h0
  · have e := lval_set B O p 0 hp
    have : B ^ p * 1 ≤ B ^ p * O[p] := Nat.mul_le_mul_left _ h0
    omega
theorem mul_lt (B : Nat) (x y : List Nat) (hx : limbs B x) (hy : limbs B y) (i : Nat) : lval B (x.take i) * lval B y < B ^ (i + y.length) ∨ B = 0 := by
  rcases Nat.eq_zero_or_pos B with h0 | h0
  · exact Or.inr h0
  · left
    have h1 := lval_lt (B := B) (l := x.take i) (fun z hz => hx z (List.mem_of_mem_take hz))
    have h2 := lval_lt hy
    have h3 : B ^ (x.take i).length ≤ B ^ i := Nat.pow_le_pow_right h0 (List.length_take_le _ _)
    rw [Nat.pow_add]
    exact Nat.mul_lt_mul'' (by omega) h2
theorem lval_zeros (B n : Nat) : lval B (List.replicate n 0) = 0 := by
  induction n with
  | zero => rfl
  | succ n ih => simp [List.replicate_succ, lval, ih]
theorem limbs_zeros (B n : Nat) (hB : 0 < B) : limbs B (List.replicate n 0) := fun x hx => by
  rw [List.mem_replicate] at hx; omega
/-- One more limb of y. -/
theorem val_inner (B a i k : Nat) (y : List Nat) (V : Nat) : V + B ^ i * (a * lval B (y.take k)) + B ^ (i + k) * (a * y.getD k 0) = V + B ^ i * (a * lval B (y.take (k + 1))) := by
  rw [takeB, Nat.mul_add, Nat.mul_add, Nat.pow_add]
  have : B ^ i * (a * (B ^ k * y.getD k 0)) = B ^ i * B ^ k * (a * y.getD k 0) := by
    rw [Nat.mul_left_comm a, ← Nat.mul_assoc]
  omega
theorem val_outer (B i : Nat) (x y : List Nat) : lval B (x.take i) * lval B y + B ^ i * (x.getD i 0 * lval B y) = lval B (x.take (i + 1)) * lval B y := by
  rw [takeB, Nat.add_mul, Nat.mul_assoc]
theorem lval_split4 (B : Nat) (l : List Nat) (i : Nat) (h : i ≤ l.length) : lval B l = lval B (l.take i) + B ^ i * lval B (l.drop i) := by
  have e := lval_append B (l.take i) (l.drop i)
  rw [List.take_append_drop, List.length_take, Nat.min_eq_left h] at e
  exact e
theorem lval_drop (B : Nat) (l : List Nat) (i : Nat) (h : i < l.length) : lval B (l.drop i) = l[i] + B * lval B (l.drop (i + 1)) := by
  rw [List.drop_eq_getElem_cons h]; rfl
theorem limbs_drop4 {B : Nat} {l : List Nat} (h : limbs B l) (i : Nat) : limbs B (l.drop i) := fun x hx => h x (List.mem_of_mem_drop hx)
theorem limbs_take4 {B : Nat} {l : List Nat} (h : limbs B l) (i : Nat) : limbs B (l.take i) := fun x hx => h x (List.mem_of_mem_take hx)
/-- Of two rows of one length, alike from i + 1 on, the limb at i tells. -/
theorem less_at {B : Nat} {x y : List Nat} {i : Nat} (hx : limbs B x) (hi : i < x.length) (hj : i < y.length) (hd : x.drop (i + 1) = y.drop (i + 1)) (h : x[i] < y[i]) : lval B x < lval B y := by
  rw [lval_split4 B x i (by omega), lval_split4 B y i (by omega), lval_drop B x i hi, lval_drop B y i hj, hd]
  have h1 := lval_lt (limbs_take4 hx i)
  rw [List.length_take, Nat.min_eq_left (by omega)] at h1
  have h2 : B ^ i * (x[i] + B * lval B (y.drop (i + 1))) + B ^ i ≤ B ^ i * (y[i] + B * lval B (y.drop (i + 1))) := by
    rw [← Nat.mul_succ]; exact Nat.mul_le_mul_left _ (by omega)
  omega
theorem drop_same {x y : List Nat} {i : Nat} (hi : i < x.length) (hj : i < y.length) (hd : x.drop (i + 1) = y.drop (i + 1)) (h : x[i] = y[i]) : x.drop i = y.drop i := by
  rw [List.drop_eq_getElem_cons hi, List.drop_eq_getElem_cons hj, hd, h]
/-- Of two rows without noughts at the top the longer one is the greater. -/
theorem less_len {B : Nat} {x y : List Nat} (hB : 1 < B) (hx : limbs B x) (hy : normal B y) (h : x.length < y.length) : lval B x < lval B y := by
  have h1 := lval_lt hx
  have h2 := normal_ge hy (by intro e; rw [e] at h; simp at h)
  have h3 : B ^ x.length ≤ B ^ (y.length - 1) := Nat.pow_le_pow_right (by omega) (by omega)
  omega
/-- How far one number has been taken q times from another, from place 'up' on: D is what stands, c is owed. -/
structure RefTakeInv (X Y D : List Nat) (up q c k : Nat) : Prop where
  len : D.length = X.length
  lim : limbs 10000 D
  low : D.take up = X.take up
  rest : D.drop (up + k) = X.drop (up + k)
  eq : lval 10000 ((D.drop up).take k) + q * lval 10000 (Y.take k) = lval 10000 ((X.drop up).take k) + c * 10000 ^ k
  owed : c ≤ 9999
theorem RefTakeInv.start {X : List Nat} (Y : List Nat) (up q : Nat) (hX : limbs 10000 X) : RefTakeInv X Y X up q 0 0 :=
  ⟨rfl, hX, rfl, rfl, by simp [lval], by omega⟩
theorem take_next (l : List Nat) (up k : Nat) (h : up + k < l.length) : lval 10000 ((l.drop up).take (k + 1)) = lval 10000 ((l.drop up).take k) + 10000 ^ k * l[up + k] := by
  have hk : k < (l.drop up).length := by rw [List.length_drop]; omega
  rw [List.take_succ_eq_append_getElem hk, lval_snoc, List.length_take, Nat.min_eq_left (Nat.le_of_lt hk), List.getElem_drop]
theorem take_getD4 (l : List Nat) (i : Nat) : lval 10000 (l.take (i + 1)) = lval 10000 (l.take i) + 10000 ^ i * l.getD i 0 := by
  by_cases h : i < l.length
  · rw [List.take_succ_eq_append_getElem h, lval_snoc, List.length_take, Nat.min_eq_left (by omega)]; simp [List.getD, h]
  · rw [List.take_of_length_le (by omega), List.take_of_length_le (by omega)]; simp [List.getD, List.getElem?_eq_none (Nat.le_of_not_lt h)]
theorem RefTakeInv.step {X Y D : List Nat} {up q c k d c' : Nat} (h : RefTakeInv X Y D up q c k) (hk : up + k < D.length) (hd : d < 10000) (hc : c' ≤ 9999)
    (he : D[up + k] + c' * 10000 = d + c + q * Y.getD k 0) : RefTakeInv X Y (D.set (up + k) d) up q c' (k + 1) := by
  have hl := h.len
  have hkX : up + k < X.length := by omega
  have hDX : D[up + k] = X[up + k] := by
    have := h.rest
    rw [List.drop_eq_getElem_cons hk, List.drop_eq_getElem_cons hkX] at this
    exact (List.cons.inj this).1
  refine ⟨by rw [List.length_set]; exact hl, limbs_set h.lim _ _ hd, ?_, ?_, ?_, hc⟩
  · rw [List.take_set_of_le (by omega)]; exact h.low
  · rw [List.drop_set_of_lt (by omega), ← Nat.add_assoc]
    have := h.rest
    rw [List.drop_eq_getElem_cons hk, List.drop_eq_getElem_cons hkX] at this
    exact (List.cons.inj this).2
  · have e1 : lval 10000 (((D.set (up + k) d).drop up).take (k + 1)) = lval 10000 ((D.drop up).take k) + 10000 ^ k * d := by
      rw [take_next _ up k (by rw [List.length_set]; exact hk), List.getElem_set_self]
      congr 2
      rw [List.drop_set]
      split
      · omega
      · rw [List.take_set_of_le (by omega)]
    rw [e1, take_getD4, take_next X up k hkX]
    have e := h.eq
    rw [hDX] at he
    generalize X[up + k] = xv at *
    generalize Y.getD k 0 = yv at *
    generalize lval 10000 ((D.drop up).take k) = a at *
    generalize lval 10000 (Y.take k) = b at *
    generalize lval 10000 ((X.drop up).take k) = x at *
    rw [Nat.pow_succ]
    generalize (10000 : Nat) ^ k = p at *
    have h1 : p * (xv + c' * 10000) = p * (d + c + q * yv) := by rw [he]
    have h2 : p * (xv + c' * 10000) = p * xv + c' * (p * 10000) := by grind
    have h3 : p * (d + c + q * yv) = p * d + c * p + q * (p * yv) := by grind
    rw [h2, h3] at h1
    rw [Nat.mul_add]
    omega
/-- The end: nothing is owed. -/
theorem RefTakeInv.done {X Y D : List Nat} {up q k : Nat} (h : RefTakeInv X Y D up q 0 k) (hk : Y.length ≤ k) (hup : up + k ≤ X.length) : lval 10000 (D.drop up) + q * lval 10000 Y = lval 10000 (X.drop up) := by
  have e := h.eq
  rw [List.take_of_length_le hk, Nat.zero_mul, Nat.add_zero] at e
  have hl := h.len
  rw [lval_split4 10000 (D.drop up) k (by rw [List.length_drop]; omega), lval_split4 10000 (X.drop up) k (by rw [List.length_drop]; omega), List.drop_drop, List.drop_drop, h.rest]
  omega
theorem RefTakeInv.owes {X Y D : List Nat} {up q c k : Nat} (h : RefTakeInv X Y D up q c k) (hk : Y.length ≤ k) (hup : up + k = X.length) (hle : q * lval 10000 Y ≤ lval 10000 (X.drop up)) : c = 0 := by
  have e := h.eq
  have hl := h.len
  rw [List.take_of_length_le hk, List.take_of_length_le (by rw [List.length_drop]; omega), List.take_of_length_le (by rw [List.length_drop]; omega)] at e
  have h1 := lval_lt (limbs_drop4 h.lim up)
  rw [List.length_drop, hl, show X.length - up = k by omega] at h1
  rcases Nat.eq_zero_or_pos c with hc | hc
  · exact hc
  · have : 10000 ^ k ≤ c * 10000 ^ k := Nat.le_mul_of_pos_left _ hc
    omega
/-- How far a number A has been divided by V: Q is found from 'up' on (the first 'up' are noughts), X is left. -/
structure DivInv (A V : Nat) (X Q : List Nat) (n up : Nat) : Prop where
  lenX : X.length = n
  lenQ : Q.length = n
  limX : limbs 10000 X
  limQ : limbs 10000 Q
  zero : ∀ i (h : i < Q.length), i < up → Q[i] = 0
  sum : lval 10000 X + V * lval 10000 Q = A
  rest : lval 10000 (X.drop up) < V
theorem DivInv.start {A V : Nat} {X : List Nat} {up : Nat} (hX : limbs 10000 X) (hA : lval 10000 X = A) (hr : lval 10000 (X.drop up) < V) : DivInv A V X (List.replicate X.length 0) X.length up :=
  ⟨rfl, by simp, hX, limbs_zeros _ _ (by decide), fun i h _ => by simp, by rw [lval_zeros, Nat.mul_zero, Nat.add_zero]; exact hA, hr⟩
theorem DivInv.quo {A V : Nat} {X Q : List Nat} {n up : Nat} (h : DivInv A V X Q n (up + 1)) (hup : up < n) : lval 10000 (X.drop up) / V ≤ 9999 := by
  have h1 : up < X.length := by rw [h.lenX]; exact hup
  rw [lval_drop 10000 X up h1]
  have h2 : X[up] < 10000 := h.limX _ (List.getElem_mem h1)
  have h3 := h.rest
  have h4 : X[up] + 10000 * lval 10000 (X.drop (up + 1)) < 10000 * V := by omega
  have := (Nat.div_lt_iff_lt_mul (by omega : 0 < V)).2 h4
  omega
theorem DivInv.step {A V : Nat} {X Q D : List Nat} {n up q : Nat} (h : DivInv A V X Q n (up + 1)) (hup : up < n) (hq : q = lval 10000 (X.drop up) / V)
    (hl : D.length = X.length) (hD : limbs 10000 D) (hlow : D.take up = X.take up) (hs : lval 10000 (D.drop up) + q * V = lval 10000 (X.drop up)) : DivInv A V D (Q.set up q) n up := by
  have hV : 0 < V := by have := h.rest; omega
  have h1 : up < X.length := by rw [h.lenX]; exact hup
  have h2 : up < Q.length := by rw [h.lenQ]; exact hup
  have h9 := h.quo hup
  refine ⟨hl.trans h.lenX, by rw [List.length_set]; exact h.lenQ, hD, limbs_set h.limQ _ _ (by omega), ?_, ?_, ?_⟩
  · intro i hi hlt
    rw [List.getElem_set_ne (by omega)]
    exact h.zero i (by rw [List.length_set] at hi; exact hi) (by omega)
  · have e1 := lval_set 10000 Q up q h2
    rw [h.zero up h2 (by omega), Nat.mul_zero, Nat.add_zero] at e1
    have e2 := h.sum
    rw [lval_split4 10000 X up (by omega)] at e2
    rw [lval_split4 10000 D up (by omega), hlow, e1]
    have e3 : 10000 ^ up * lval 10000 (X.drop up) = 10000 ^ up * lval 10000 (D.drop up) + V * (10000 ^ up * q) := by rw [← hs]; grind
    rw [Nat.mul_add]
    omega
  · have := Nat.div_add_mod (lval 10000 (X.drop up)) V
    have hm := Nat.mod_lt (lval 10000 (X.drop up)) hV
    rw [← hq, Nat.mul_comm V q] at this
    omega
theorem DivInv.done {A V : Nat} {X Q : List Nat} {n : Nat} (h : DivInv A V X Q n 0) : lval 10000 Q = A / V ∧ lval 10000 X = A % V := by
  have h1 := h.sum
  have h2 := h.rest
  rw [List.drop_zero] at h2
  have hV : 0 < V := by omega
  have e := (Nat.div_mod_unique hV (a := A) (d := lval 10000 Q) (c := lval 10000 X)).2 ⟨h1, h2⟩
  exact ⟨e.1.symm, e.2.symm⟩
end Cub

/- The library contracts that the proofs use, laid at this program: each is the contract itself at the numbers of this program. -/
import Derived.Test.YthcbhnggphdflaaGreatDoorLimb2
import Derived.Lib.AppendIntMem
import Derived.Shelf.Small.Bits
import Derived.Shelf.Small.Wraps
import Derived.Shelf.Strconv.Itoa0
import Derived.Shelf.Strconv.Itoa1
import Derived.Shelf.LaysM
import Derived.Shelf.Strconv.Itoa2
import Derived.Shelf.Strconv.AppendUint10
import Derived.Shelf.Strconv.AppendInt10
import Derived.Shelf.Strings.Prefix
import Derived.Ground.Names2Prog
import Derived.Shelf.Slices.SearchI
import Derived.Test.YthcbhnggphdflaaGreatDoorProg
namespace Go.Proofs.YthcbhnggphdflaaGreatDoor
open Go.RowKit
theorem Tryz.info138 : (Tryz.prog.info? 138).map (fun i => (i.zero, i.size, i.bytes)) = some (some (.int .u64 0), 1, 8) := by kernel_rfl
theorem cut_start (l : List UInt8) (n : Nat) (h : l.length = n) : (n : Int) = (n : Int) - 9 * (([] : List Nat).length : Int) ∧ Cub.limbs 1000000000 [] ∧ Cub.lval 1000000000 [] = Cub.dval (l.drop (n - 9 * ([] : List Nat).length)) := by
 subst h
 refine ⟨by simp, fun _ h => (by cases h), ?_⟩
 simp [Cub.lval, Cub.dval]
set_option maxRecDepth 100000 in
set_option maxHeartbeats 800000 in
theorem bigText_any (s : ByteArray) (w : World) (hs : s.size ≤ 1000000000) (hd : Cub.digs s.data.toList) :
  Calls Tryz.prog 124 #[.string s] w fun e w' => ∃ v, e = .returned v ∧ IsBig w' v (Cub.dval s.data.toList) ∧ Below w.heap.size w w' := by
 have HD := hide hd
 clear hd
 obtain ⟨i0, hi, hz0, hz1, hz2⟩ := info_parts Tryz.info138
 go_enter Tryz.func124, Tryz.ntmps124
 go_wp2_with (at_make; refine wpList_make_own _ rfl _ _ 114 rfl (w.heap.size + 1) 138 i0 (.int .u64 0) 1 Tryz.underlying114 hi hz0 hz1 .i64 .i64 _ (s.size / 9 + 1) rfl rfl (by omega) (by rw [hz2]; omega) (by unfold maxLen; omega) (by simp) ?_; intro w0 hown0 hgrow0)
 have hown1 : w0.ownsRow (w.heap.size + 1) 138 1 (.slice (some ⟨w.heap.size + 1, 0, none⟩) 0 (s.size / 9 + 1)) 0 (u64s []) := by simpa [u64s] using hown0
 have hb0 : Below (w.heap.size + 1) (w.alloc (.cells #[.slice none 0 0] 116)) w0 := (Below.refl _ _).grown hgrow0 (by simp) (fun k hk => by cases hk)
 clear hown0 hgrow0
 go_loopw [3, 4] (fun v i wr => ∃ (L : List Nat) (x : Int), i = I x ∧ x ≤ 1000000000 ∧ -9 < x ∧ L.length ≤ 200000000 ∧ Hid (x = (s.size : Int) - 9 * (L.length : Int) ∧ Cub.limbs 1000000000 L ∧ Cub.lval 1000000000 L = Cub.dval (s.data.toList.drop (s.size - 9 * L.length))) ∧
   wr.ownsRow (w.heap.size + 1) 138 1 v L.length (u64s L) ∧ Below (w.heap.size + 1) (w.alloc (.cells #[.slice none 0 0] 116)) wr) (fun _ i _ => (intOf i).toNat)
 case atStart => exact ⟨[], (s.size : Int), rfl, by omega, by omega, by simp, cut_start _ _ (list_len s), hown1, hb0⟩
 case round =>
  obtain ⟨L, x, rfl, hx1, hx9, hLl, HX, hown, hb⟩ := hrel
  clear hown1 hb0
  by_cases hx : 0 < x
  ·obtain ⟨e, rfl⟩ := Int.eq_ofNat_of_zero_le (Int.le_of_lt hx)
   have he0 : Hid (e + 9 * L.length = s.size) := by have := (un HX).1; exact (by omega : e + 9 * L.length = s.size)
   have hes : e ≤ s.size := by have := un he0; omega
   have HDs : Hid (∀ k (hk : k < s.size), 48 ≤ s[k].toNat ∧ s[k].toNat ≤ 57) := fun k hk => un HD s[k] (by rw [← list_get s k hk]; exact List.getElem_mem _)
   by_cases h9 : 9 ≤ e
   all_goals
    go_wp2
    go_loop [5, 6] (fun y i => ∃ (k n : Nat), e - 9 ≤ k ∧ k ≤ e ∧ i = I k ∧ y = .int .u64 n ∧ n < 1000000000 ∧ Hid (n = Cub.dval ((s.data.toList.drop (e - 9)).take (k - (e - 9))))) (fun _ i => e - (intOf i).toNat)
    case atStart => exact ⟨e - 9, 0, Nat.le_refl _, by omega, by go_num, rfl, by omega, by rw [Nat.sub_self]; exact rfl⟩
    case round =>
     obtain ⟨k, n, hk1, hk2, rfl, rfl, hn, HN⟩ := hrel
     by_cases hlt : k < e
     ·have hks : k < s.size := by omega
      obtain ⟨d1, d2⟩ := un HDs k hks
      have hn' : n < 100000000 := by rw [un HN]; exact Cub.seg_lt' (un HD) _ _ (by omega)
      have HN' : Hid (n * 10 + (s[k].toNat - 48) = Cub.dval ((s.data.toList.drop (e - 9)).take (k + 1 - (e - 9)))) := by
       rw [Cub.seg_succ _ _ _ hk1 (by rw [list_len]; exact hks), ← un HN]; exact rfl
      go_wp2
      go_round
      case rel => exact ⟨k + 1, n * 10 + (s[k].toNat - 48), by omega, by omega, by go_num, by go_num, by omega, HN'⟩
      case measure => simp [intOf]; omega
     ·have hke : k = e := by omega
      subst hke
      clear hlt
      go_wp2_with (at_builtin; refine wpList_append_own _ rfl _ _ 114 rfl (w.heap.size + 1) 138 i0 (.int .u64 0) 1 8 Tryz.underlying114 hi hz0 hz1 hz2 rfl (by decide) _ _ _ rfl (hown.alloc _) ⟨wr.heap.size, 0, none⟩ 1 1 [.int .u64 (n : Int)] rfl rfl (cell_one_new _ _ _) (fun x hx => by simp at hx; subst hx; rfl) (by unfold maxLen; omega) (by omega) (by have := hb.size; simp at this ⊢; omega) ?_; intro v' w1 hown' hgrow _)
      have hsz := hb.size
      have hb' : Below (w.heap.size + 1) (w.alloc (.cells #[.slice none 0 0] 116)) w1 := (hb.alloc (by simp at hsz; omega) _).grown hgrow (by simp at hsz ⊢; omega) (fun j hj => (hown.lt j hj).1)
      have hown2 : w1.ownsRow (w.heap.size + 1) 138 1 v' (L ++ [n]).length (u64s (L ++ [n])) := by simpa [u64s] using hown'
      have HS := Cub.cut_step s.data.toList L k (k - 9) (by rw [list_len]; exact un he0) rfl (un HD) (un HX).2.1 (by have := (un HX).2.2; rw [this]; congr 2; have := un he0; omega)
      rw [← un HN] at HS
      have HS' := hide HS
      clear hgrow hown' HS hown hsz
      go_wp2
      go_roundw
      case rel => exact ⟨L ++ [n], (k : Int) - 9, rfl, by omega, by omega, by have := un he0; simp; omega, ⟨by have := un he0; simp; omega, (un HS').1, by rw [(un HS').2]; congr 2; have := un he0; simp; omega⟩, hown2, hb'⟩
      case measure => simp [intOf]; omega
  ·have hfin : Cub.lval 1000000000 (Cub.trimN L) = Cub.dval s.data.toList ∧ Cub.normal 1000000000 (Cub.trimN L) := by
    obtain ⟨h1, h2, h3⟩ := un HX
    obtain ⟨t1, t2, _⟩ := Cub.lval_trim 1000000000 _ L rfl
    refine ⟨?_, t2 h2⟩
    rw [t1, h3, show s.size - 9 * L.length = 0 by omega, List.drop_zero]
   have HF := hide hfin
   have hrow := Row.of_own hown
   have HRow := hide hrow
   have HOwn := hide hown
   have hsz : w.heap.size + 1 ≤ wr.heap.size := by have := hb.size; simpa using this
   have hc0 : wr.cell? ⟨w.heap.size, 0, none⟩ = some (.slice none 0 0) := by rw [hb.cell (p := ⟨w.heap.size, 0, none⟩) (by simp)]; simp
   have hf0 : wr.frozen? ⟨w.heap.size, 0, none⟩ = false := by rw [hb.frozen (p := ⟨w.heap.size, 0, none⟩) (by simp)]; simp
   clear hfin hrow hown
   go_wp2_with (go_at_call 170; refine (trim_any _ L _ (un HRow)).mono ?_; rintro e w2 ⟨v', rfl, hrow2, hb2⟩; obtain ⟨a2, cap2, rfl, hcap2⟩ := hrow2.form; obtain ⟨hc2, hf2⟩ := box_later hb2 hsz hc0 hf0)
   refine bodyPost_ret (v := .agg #[.slice a2 (Cub.trimN L).length cap2]) (by simp [results, Tryz.results124, go_sem, hc2]) rfl ⟨_, rfl, ?_, ?_⟩
   ·exact ⟨_, _, rfl, hrow2.box _ hc2 (fun _ _ h => by cases h), (un HF).2, (un HF).1⟩
   ·exact (((Below.refl _ _).alloc (Nat.le_refl _) _).trans ((hb.trans (hb2.mono hsz)).mono (Nat.le_succ _))).setCell (Nat.le_refl _) _
end Go.Proofs.YthcbhnggphdflaaGreatDoor

namespace Cub
open Go.Lib (nDigits decDigits)
def dcount (y : Nat) : Nat := if y = 0 then 0 else nDigits y
theorem dcount_zero : dcount 0 = 0 := rfl
theorem dcount_step (y : Nat) (h : 0 < y) : dcount y = dcount (y / 10) + 1 := by
 unfold dcount
 rw [if_neg (by omega)]
 by_cases h10 : y < 10
 ·rw [Go.Lib.nDigits_small h10, if_pos (by omega)]
 ·rw [Go.Lib.nDigits_big h10, if_neg (by omega)]
theorem dcount_pos (y : Nat) (h : 0 < y) : dcount y = nDigits y := by unfold dcount; rw [if_neg (by omega)]
theorem nDigits_ge (x : Nat) (h : 0 < x) : 10 ^ (nDigits x - 1) ≤ x := by
 have h1 := isNat_dec x
 by_cases h2 : 2 ≤ (decDigits x).length
 ·have := isNat_pos h1 h2
  rw [dval_dec, Go.Lib.decDigits_length] at this; exact this
 ·rw [Go.Lib.decDigits_length] at h2
  have : nDigits x - 1 = 0 := by omega
  rw [this]; omega
theorem nDigits_top (t : List Nat) (x : Nat) (ht : limbs 1000000000 t) (hx : 0 < x) : nDigits (lval 1000000000 (t ++ [x])) = 9 * t.length + nDigits x := by
 have h1 := nDigits_ge x hx
 have h2 := Go.Lib.lt_pow_nDigits x
 have h3 := lval_lt ht
 have h4 := Go.Lib.nDigits_pos x
 rw [show 9 * t.length + nDigits x = (9 * t.length + (nDigits x - 1)) + 1 by omega]
 rw [lval_snoc]
 have p1 : 10 ^ (9 * t.length + (nDigits x - 1)) = 1000000000 ^ t.length * 10 ^ (nDigits x - 1) := by rw [Nat.pow_add, pow9]
 have p2 : 10 ^ (9 * t.length + (nDigits x - 1) + 1) = 1000000000 ^ t.length * 10 ^ (nDigits x) := by
  rw [show 9 * t.length + (nDigits x - 1) + 1 = 9 * t.length + nDigits x by omega, Nat.pow_add, pow9]
 apply Go.Lib.nDigits_unique
 ·rw [p1]
  have := Nat.mul_le_mul_left (1000000000 ^ t.length) h1
  omega
 ·rw [p2]
  have : 1000000000 ^ t.length * (x + 1) ≤ 1000000000 ^ t.length * 10 ^ (nDigits x) := Nat.mul_le_mul_left _ h2
  rw [Nat.mul_add] at this
  omega
theorem nDigits_le9 (x : Nat) (h : x < 1000000000) : nDigits x ≤ 9 := by
 have := (dec_len_lt x 9 (by decide)).2 (by simpa using h)
 rwa [Go.Lib.decDigits_length] at this
theorem len_le {l : List Nat} {k : Nat} (h : normal 1000000000 l) (hk : lval 1000000000 l < 1000000000 ^ k) : l.length ≤ k := by
 by_cases hne : l = []
 ·subst hne; simp
 ·have h1 := normal_ge h hne
  have h2 := (Nat.pow_lt_pow_iff_right (by decide : 1 < 1000000000)).1 (Nat.lt_of_le_of_lt h1 hk)
  omega
theorem split_last {l : List Nat} (h : l ≠ []) : ∃ t x, l = t ++ [x] := by
 rcases List.eq_nil_or_concat l with h0 | ⟨t, c, rfl⟩
 ·exact absurd h0 h
 ·exact ⟨t, c, by rw [List.concat_eq_append]⟩
theorem normal_last {t : List Nat} {x : Nat} (h : normal 1000000000 (t ++ [x])) : limbs 1000000000 t ∧ 0 < x ∧ x < 1000000000 := by
 refine ⟨(limbs_append.1 h.1).1, ?_, (limbs_append.1 h.1).2 x (by simp)⟩
 have : x ≠ 0 := by intro e; apply h.2; simp [e]
 omega
end Cub

namespace Go.Proofs.YthcbhnggphdflaaGreatDoor
open Go.RowKit
theorem IsBig.form {w : World} {v : Value} {n : Nat} (h : IsBig w v n) : ∃ a l cap, v = .agg #[.slice a l.length cap] ∧ l.length ≤ 9223372036854775807 ∧ Row w (.slice a l.length cap) l ∧ Cub.normal 1000000000 l ∧ Cub.lval 1000000000 l = n := by
 obtain ⟨s, l, rfl, hr, hn, hv⟩ := h
 obtain ⟨a, cap, rfl, hc, hm⟩ := hr.form
 exact ⟨a, l, cap, rfl, by omega, hr, hn, hv⟩
theorem big_zero {l : List Nat} (hn : Cub.normal 1000000000 l) : (Cub.lval 1000000000 l == 0) = ((l.length : Int) == 0) := by
 rw [Bool.eq_iff_iff, beq_iff_eq, beq_iff_eq, Cub.normal_zero hn (by decide), ← List.length_eq_zero_iff]; omega
theorem isZero_any (v : Value) (n : Nat) (w : World) (h : IsBig w v n) :
  Calls Tryz.prog 94 #[v] w fun e w' => e = .returned (.bool (n == 0)) ∧ Below w.heap.size w w' := by
 obtain ⟨a, l, cap, rfl, hl, hr, hn, rfl⟩ := h.form
 rw [big_zero hn]
 clear h hr hn
 go_enter Tryz.func94, Tryz.ntmps94
 go_wp2
 go_ret
 exact ⟨rfl, (Below.refl _ _).alloc (Nat.le_refl _) _⟩
set_option maxRecDepth 100000 in
set_option maxHeartbeats 400000 in
theorem len_any (v : Value) (n k : Nat) (w : World) (h : IsBig w v n) (hk : k ≤ 1000000) (hn : n < 1000000000 ^ k) :
  Calls Tryz.prog 97 #[v] w fun e w' => e = .returned (I (Lib.nDigits n : Nat)) ∧ Below w.heap.size w w' := by
 have H := hide h
 obtain ⟨a, l, cap, rfl, hl, hr, hnm, rfl⟩ := h.form
 have hlk := Cub.len_le hnm hn
 clear hn hl h
 by_cases h0 : l = []
 ·subst h0
  have e1 : Lib.nDigits (Cub.lval 1000000000 []) = 1 := Lib.nDigits_small (by decide)
  rw [e1]
  clear e1
  go_enter Tryz.func97, Tryz.ntmps97
  go_wp2_with (go_at_call 94; refine (isZero_any _ _ _ ((un H).later ((Below.refl _ _).alloc (Nat.le_refl _) _))).mono ?_; rintro e w2 ⟨rfl, hb2⟩)
  go_ret
  exact ⟨rfl, ((Below.refl _ _).alloc (Nat.le_refl _) _).trans (hb2.mono (by simp))⟩
 ·obtain ⟨t, x, rfl⟩ := Cub.split_last h0
  obtain ⟨ht, hx0, hxB⟩ := Cub.normal_last hnm
  have hz : (Cub.lval 1000000000 (t ++ [x]) == 0) = false := by
   rw [beq_eq_false_iff_ne]; intro e; exact h0 ((Cub.normal_zero hnm (by decide)).1 e)
  have HD := hide (Cub.nDigits_top t x ht hx0)
  have HL := hide (Cub.nDigits_le9 x hxB)
  obtain ⟨a', cap', ev, hc, hm, hcells⟩ := hr
  simp only [Value.slice.injEq] at ev
  obtain ⟨rfl, _, rfl⟩ := ev
  obtain ⟨b, o, rfl, hbw, hcell⟩ := hcells h0
  have hx := hcell t.length (by simp)
  simp only [List.getElem_concat_length] at hx
  have htk : t.length + 1 ≤ k := by simpa using hlk
  have hlen : (t ++ [x]).length = t.length + 1 := by simp
  have HZ := hide hz
  rw [hlen] at H ⊢
  clear hcell hcells hnm ht hlk hz h0 hlen
  have HX : Hid (∀ W, Below w.heap.size w W → W.cell? ⟨b, o + t.length, none⟩ = some (.int .u64 (x : Int))) := fun W hW => (hW.cell (p := ⟨b, o + t.length, none⟩) hbw).trans hx
  clear hx
  go_enter Tryz.func97, Tryz.ntmps97
  go_wp2_with (go_at_call 94; refine (isZero_any _ _ _ ((un H).later ((Below.refl _ _).alloc (Nat.le_refl _) _))).mono ?_; rintro e w2 ⟨rfl, hb2⟩; rw [un HZ]; obtain ⟨hcb, _⟩ := box_later hb2 (g := w.heap.size) (x := .slice (some ⟨b, o, none⟩) (t.length + 1) cap) (by simp) (by simp) (by simp); have hb3 := ((Below.refl w.heap.size w).alloc (Nat.le_refl _) (.cells #[.slice (some ⟨b, o, none⟩) (t.length + 1) cap] 116)).trans (hb2.mono (by simp)); have hx2 := un HX w2 hb3; clear hb2)
  go_loop [4, 5] (fun m y => ∃ (c z : Nat), m = I ((t.length : Int) * 9 + (c : Int)) ∧ y = .int .u64 (z : Int) ∧ z < 1000000000 ∧ c ≤ 9 ∧ Hid (c + Cub.dcount z = Lib.nDigits x)) (fun _ y => (intOf y).toNat)
  case atStart => exact ⟨0, x, by simp, rfl, hxB, by omega, by rw [Cub.dcount_pos x hx0]; exact Nat.zero_add _⟩
  case round =>
   obtain ⟨c, z, rfl, rfl, hz, hc9, HC⟩ := hrel
   by_cases hz0 : 0 < z
   ·have hC : Hid (c + 1 + Cub.dcount (z / 10) = Lib.nDigits x) := by rw [← un HC, Cub.dcount_step z hz0]; exact (by omega : c + 1 + Cub.dcount (z / 10) = c + (Cub.dcount (z / 10) + 1))
    have hc8 : c + 1 ≤ 9 := by have := un hC; have := un HL; omega
    go_wp2
    go_round
    case rel => exact ⟨c + 1, z / 10, by go_num, by go_num, by omega, hc8, hC⟩
    case measure => simp [intOf]; omega
   ·have : z = 0 := by omega
    subst this
    have hfin : (t.length : Int) * 9 + (c : Int) = ((9 * t.length + Lib.nDigits x : Nat) : Int) := by have := un HC; rw [Cub.dcount_zero] at this; omega
    have HF := hide hfin
    clear hfin
    go_wp2
    go_ret
    exact ⟨by rw [un HD, ← un HF]; rfl, hb3⟩
end Go.Proofs.YthcbhnggphdflaaGreatDoor

namespace Cub
open Go.Lib (nDigits decDigits)
/-- The last k digits of d, each one told. -/
def padn : Nat → Nat → List UInt8
  | 0, _ => []
  | k + 1, d => padn k (d / 10) ++ [UInt8.ofNat (48 + d % 10)]
theorem dec_pad (k : Nat) : ∀ (q r : Nat), 0 < q → r < 10 ^ k → decDigits (10 ^ k * q + r) = decDigits q ++ padn k r := by
  induction k with
  | zero => intro q r hq hr; have : r = 0 := by simpa using hr
            subst this; simp [padn]
  | succ k ih =>
    intro q r hq hr
    have hp : 0 < 10 ^ k := Nat.pow_pos (by decide)
    have h1 : 10 ≤ 10 ^ (k + 1) * q + r := by
      rw [Nat.pow_succ]
      have : 10 ^ k * 10 * 1 ≤ 10 ^ k * 10 * q := Nat.mul_le_mul_left _ hq
      omega
    have e : 10 ^ (k + 1) * q + r = 10 * (10 ^ k * q) + r := by rw [Nat.pow_succ, Nat.mul_comm (10 ^ k) 10, Nat.mul_assoc]
    rw [decDigits, dif_neg (by omega)]
    have d1 : (10 ^ (k + 1) * q + r) / 10 = 10 ^ k * q + r / 10 := by rw [e]; omega
    have d2 : (10 ^ (k + 1) * q + r) % 10 = r % 10 := by rw [e]; omega
    rw [d1, d2, ih q (r / 10) hq (by rw [Nat.pow_succ] at hr; omega)]
    simp [padn]
theorem pad_step (d j : Nat) (hj : j + 1 ≤ 9) : padn (9 - (j + 1)) (d / 10 ^ (j + 1)) ++ [UInt8.ofNat (48 + d / 10 ^ j % 10)] = padn (9 - j) (d / 10 ^ j) := by
  rw [show 9 - j = (9 - (j + 1)) + 1 by omega]
  simp only [padn]
  rw [Nat.div_div_eq_div_mul, ← Nat.pow_succ]
theorem pad_all (d : Nat) : padn (9 - 0) (d / 10 ^ 0) = padn 9 d := by simp
/-- One limb more of the text. -/
theorem dec_limb (l : List Nat) (i : Nat) (hi : i < l.length) (hl : limbs 1000000000 l) (hq : 0 < lval 1000000000 (l.drop (i + 1))) :
    decDigits (lval 1000000000 (l.drop i)) = decDigits (lval 1000000000 (l.drop (i + 1))) ++ padn 9 l[i] := by
  have hx := hl l[i] (List.getElem_mem hi)
  rw [List.drop_eq_getElem_cons hi]
  simp only [lval]
  rw [Nat.add_comm]
  exact dec_pad 9 _ _ hq hx
theorem drop_pos {l : List Nat} (h : normal 1000000000 l) (i : Nat) (hi : i < l.length) : 0 < lval 1000000000 (l.drop i) := by
  have hne : l.drop i ≠ [] := by intro e; have := congrArg List.length e; simp at this; omega
  have hn : normal 1000000000 (l.drop i) := by
    refine ⟨fun x hx => h.1 x (List.mem_of_mem_drop hx), ?_⟩
    rw [List.getLast?_drop, if_neg (by omega)]; exact h.2
  have h1 := normal_ge hn hne
  have : 0 < 1000000000 ^ ((l.drop i).length - 1) := Nat.pow_pos (by decide)
  omega
/-- The unit that goes with j digits to be told. -/
def unitOf (j : Nat) : Nat := if j = 0 then 0 else 10 ^ (j - 1)
theorem unit_div (j : Nat) : unitOf (j + 1) / 10 = unitOf j := by
  unfold unitOf
  rw [if_neg (by omega)]
  cases j with
  | zero => rfl
  | succ k => rw [if_neg (by omega)]; simp [Nat.pow_succ]
theorem unit_pos (j : Nat) : 0 < unitOf j ↔ 0 < j := by
  unfold unitOf
  by_cases h : j = 0
  · simp [h]
  · rw [if_neg h]; exact ⟨fun _ => by omega, fun _ => Nat.pow_pos (by decide)⟩
theorem unit_at (j : Nat) : unitOf (j + 1) = 10 ^ j := by unfold unitOf; rw [if_neg (by omega)]; rfl
end Cub

namespace Go.Proofs.YthcbhnggphdflaaGreatDoor
open Go.RowKit
theorem Tryz.info5 : (Tryz.prog.info? 5).map (fun i => (i.zero, i.size, i.bytes)) = some (some (.int .u8 0), 1, 1) := by kernel_rfl
theorem byteCells_snoc (l : List UInt8) (c : Nat) (hc : c < 10) : Lib.byteCells l ++ [.int .u8 (48 + (c : Int))] = Lib.byteCells (l ++ [UInt8.ofNat (48 + c)]) := by
 rw [Lib.byteCells_append]
 congr 1
 simp only [Lib.byteCells, List.map_cons, List.map_nil]
 rw [Cub.toNat_dig c hc]; rfl
/-- What is told of a number: its text, or ErrLarge (7). -/
def toldText (n : Nat) : List UInt8 := if n < 10 ^ 600 then Lib.decDigits n else []
theorem len600 (n : Nat) : Lib.nDigits n ≤ 600 ↔ n < 10 ^ 600 := by
 rw [← Lib.decDigits_length]; exact Cub.dec_len_lt n 600 (by decide)
theorem right_digs {s : ByteArray} (h : Cub.rightB s.data.toList = true) : Cub.digs s.data.toList ∧ s.size ≤ 600 := by
 obtain ⟨h1, h2⟩ := (Cub.rightB_iff _).1 h
 exact ⟨h1.1, by rw [list_len] at h2; exact h2⟩
theorem mk_list (l : List UInt8) : (⟨l.toArray⟩ : ByteArray).data.toList = l := rfl
theorem toldText_pos (n : Nat) (h : n < 10 ^ 600) : toldText n = Lib.decDigits n := by
 unfold toldText; rw [if_pos h]
/-- The text of a number, or the empty one where it is too large. -/
def tb (n : Nat) : ByteArray := ⟨(toldText n).toArray⟩
theorem tb_list (n : Nat) (h : n < 10 ^ 600) : (tb n).data.toList = Lib.decDigits n := by
 exact (mk_list (toldText n)).trans (toldText_pos n h)
theorem tb_right (n : Nat) (h : n < 10 ^ 600) : Cub.rightB (tb n).data.toList = true ∧ Cub.dval (tb n).data.toList = n := by
 rw [tb_list n h]
 refine ⟨(Cub.rightB_iff _).2 ⟨Cub.isNat_dec n, ?_⟩, Cub.dval_dec n⟩
 rw [Lib.decDigits_length]; exact (len600 n).2 h
theorem tb_of {s : ByteArray} (h : Cub.rightB s.data.toList = true) : ∃ n, n < 10 ^ 600 ∧ s = tb n := by
 obtain ⟨h1, h2⟩ := (Cub.rightB_iff _).1 h
 have h3 := Nat.lt_of_lt_of_le (Cub.dval_lt h1.1) (Nat.pow_le_pow_right (n := 10) (by decide) h2)
 refine ⟨Cub.dval s.data.toList, h3, ?_⟩
 have e : s.data.toList = (tb (Cub.dval s.data.toList)).data.toList := by rw [tb_list _ h3]; exact (Cub.dec_dval _ _ rfl h1).symm
 apply ByteArray.ext
 exact Array.ext' e
theorem tb_size (n : Nat) (h : n < 10 ^ 600) : (tb n).size ≤ maxLen := by
 have h1 := ((Cub.rightB_iff _).1 (tb_right n h).1).2
 rw [list_len] at h1
 unfold maxLen; omega
def val (s : ByteArray) : Nat := Cub.dval s.data.toList
theorem pow_nine (c k : Nat) (h : c ≤ 9 * k) : (10 : Nat) ^ c ≤ 1000000000 ^ k := by
 have e : (1000000000 : Nat) ^ k = 10 ^ (9 * k) := by rw [Nat.pow_mul]
 rw [e]; exact Nat.pow_le_pow_right (by decide) h
theorem dec_zero : Lib.decDigits 0 = [48] := by rw [Lib.decDigits]; simp
theorem zero_val {s : ByteArray} (h : s.data.toList = [48]) : val s = 0 := by
 unfold val; rw [h]; decide
end Go.Proofs.YthcbhnggphdflaaGreatDoor

namespace Go.Proofs
open Go.Shelf
def Tryz.lays103_ren : Go.Shelf.Ren := ⟨fun | 103 => 169 | 210 => 187 | 206 => 206 | n => n, fun | 9 => 9 | 4 => 4 | 24 => 187 | 3 => 3 | n => n, fun | n => n⟩
theorem Tryz.lays103 : Go.Proofs.Lays.n103 Tryz.prog Tryz.lays103_ren := {
 mixed := by kernel_rfl
 f103 := Tryz.func169.trans (congrArg some (by kernel_rfl))
 f206 := Tryz.func206.trans (congrArg some (by kernel_rfl))
 f210 := Tryz.func187.trans (congrArg some (by kernel_rfl))
 t3 := Tryz.underlying3
 a3 := Tryz.isAgg3
 z3 := Tryz.sizeOf3
 v3 := Tryz.zeroValue3
 t4 := Tryz.underlying4
 a4 := Tryz.isAgg4
 z4 := Tryz.sizeOf4
 v4 := Tryz.zeroValue4
 t9 := Tryz.underlying9
 a9 := Tryz.isAgg9
 z9 := Tryz.sizeOf9
 v9 := Tryz.zeroValue9
 t24 := Tryz.underlying187
 a24 := Tryz.isAgg187
 z24 := Tryz.sizeOf187
 v24 := Tryz.zeroValue187 }
open Go.RowKit in
theorem Tryz.strings_CutPrefix (s p : ByteArray) (w : World) :
  Calls Tryz.prog 169 #[.string s, .string p] w fun e w' => e = .returned (.tuple #[.string ⟨(Lib.trimPrefix s.data.toList p.data.toList).toArray⟩, .bool (Lib.hasPrefix s.data.toList p.data.toList)]) ∧ w' = w := Any.strings_CutPrefix Tryz.lays103 s p w
def Tryz.lays283_ren : Go.Shelf.Ren := ⟨fun | 283 => 183 | n => n, fun | 3 => 3 | 9 => 9 | 4 => 4 | n => n, fun | n => n⟩
theorem Tryz.lays283 : Go.Proofs.Lays.n283 Tryz.prog Tryz.lays283_ren := {
 mixed := by kernel_rfl
 f283 := Tryz.func183.trans (congrArg some (by kernel_rfl))
 t3 := Tryz.underlying3
 a3 := Tryz.isAgg3
 z3 := Tryz.sizeOf3
 v3 := Tryz.zeroValue3
 t4 := Tryz.underlying4
 a4 := Tryz.isAgg4
 z4 := Tryz.sizeOf4
 v4 := Tryz.zeroValue4
 t9 := Tryz.underlying9
 a9 := Tryz.isAgg9
 z9 := Tryz.sizeOf9
 v9 := Tryz.zeroValue9 }
open Go.Lib in
theorem Tryz.internal_strconv_small (i : Nat) (h : i < 100) (w : World) :
  Calls Tryz.prog 183 #[.int .i64 i] w fun e w' => e = .returned (.string ⟨(Lib.decDigits i).toArray⟩) ∧ w' = w := Any.internal_strconv_small Tryz.lays283 i h w
def Tryz.laysM284_ren : Go.Shelf.Ren := ⟨fun | 284 => 184 | 129 => 202 | 317 => 201 | 318 => 203 | n => n, fun | 53 => 138 | 3 => 3 | 212 => 228 | 0 => 0 | 4 => 4 | 46 => 225 | 5 => 5 | 9 => 9 | n => n, fun | 17 => 0 | n => n⟩
theorem Tryz.laysM284 : Go.Proofs.LaysM.n284 Tryz.prog Tryz.laysM284_ren := {
 mixed := by kernel_rfl
 f129 := Tryz.func202.trans (congrArg some (by kernel_rfl))
 f284 := Tryz.func184.trans (congrArg some (by kernel_rfl))
 f317 := Tryz.func201.trans (congrArg some (by kernel_rfl))
 f318 := Tryz.func203.trans (congrArg some (by kernel_rfl))
 t0 := Tryz.underlying0
 a0 := Tryz.isAgg0
 z0 := Tryz.sizeOf0
 v0 := Tryz.zeroValue0
 t3 := Tryz.underlying3
 a3 := Tryz.isAgg3
 z3 := Tryz.sizeOf3
 v3 := Tryz.zeroValue3
 t4 := Tryz.underlying4
 a4 := Tryz.isAgg4
 z4 := Tryz.sizeOf4
 v4 := Tryz.zeroValue4
 t5 := Tryz.underlying5
 a5 := Tryz.isAgg5
 z5 := Tryz.sizeOf5
 v5 := Tryz.zeroValue5
 t9 := Tryz.underlying9
 a9 := Tryz.isAgg9
 z9 := Tryz.sizeOf9
 v9 := Tryz.zeroValue9
 t46 := Tryz.underlying225
 a46 := Tryz.isAgg225
 z46 := Tryz.sizeOf225
 v46 := Tryz.zeroValue225
 t53 := Tryz.underlying138
 a53 := Tryz.isAgg138
 z53 := Tryz.sizeOf138
 v53 := Tryz.zeroValue138
 t212 := Tryz.underlying228
 a212 := Tryz.isAgg228
 z212 := Tryz.sizeOf228
 v212 := Tryz.zeroValue228
 g17 := by kernel_rfl
 i0 := by kernel_rfl
 i3 := by kernel_rfl
 i4 := by kernel_rfl
 i5 := by kernel_rfl
 i9 := by kernel_rfl
 i46 := by kernel_rfl
 i53 := by kernel_rfl
 i212 := by kernel_rfl
 m17 := by kernel_rfl }
open Go.Lib in
theorem Tryz.internal_strconv_numDigits (u : Nat) (h1 : 1 ≤ u) (h2 : u < 18446744073709551616) (w : World) (htab : Lib.TabIs Tryz.prog w "internal/strconv.uint64pow10" .u64 Lib.pow10Tab) :
  Calls Tryz.prog 184 #[.int .u64 u] w fun e w' => e = .returned (.int .i64 (Lib.nDigits u)) ∧ w' = w := Any.internal_strconv_numDigits Tryz.laysM284 u h1 h2 w htab
def Tryz.lays285_ren : Go.Shelf.Ren := ⟨fun | 285 => 185 | n => n, fun | 37 => 179 | 53 => 138 | 3 => 3 | 4 => 4 | 51 => 229 | 9 => 9 | 5 => 5 | 0 => 0 | n => n, fun | n => n⟩
theorem Tryz.lays285 : Go.Proofs.Lays.n285 Tryz.prog Tryz.lays285_ren := {
 mixed := by kernel_rfl
 f285 := Tryz.func185.trans (congrArg some (by kernel_rfl))
 t0 := Tryz.underlying0
 a0 := Tryz.isAgg0
 z0 := Tryz.sizeOf0
 v0 := Tryz.zeroValue0
 t3 := Tryz.underlying3
 a3 := Tryz.isAgg3
 z3 := Tryz.sizeOf3
 v3 := Tryz.zeroValue3
 t4 := Tryz.underlying4
 a4 := Tryz.isAgg4
 z4 := Tryz.sizeOf4
 v4 := Tryz.zeroValue4
 t5 := Tryz.underlying5
 a5 := Tryz.isAgg5
 z5 := Tryz.sizeOf5
 v5 := Tryz.zeroValue5
 t9 := Tryz.underlying9
 a9 := Tryz.isAgg9
 z9 := Tryz.sizeOf9
 v9 := Tryz.zeroValue9
 t37 := Tryz.underlying179
 a37 := Tryz.isAgg179
 z37 := Tryz.sizeOf179
 v37 := Tryz.zeroValue179
 t51 := Tryz.underlying229
 a51 := Tryz.isAgg229
 z51 := Tryz.sizeOf229
 v51 := Tryz.zeroValue229
 t53 := Tryz.underlying138
 a53 := Tryz.isAgg138
 z53 := Tryz.sizeOf138
 v53 := Tryz.zeroValue138 }
open Go.RowKit Go.Sort Go.Lib in
theorem Tryz.internal_strconv_formatBase10 (blk off cap : Nat) (u : Nat) (d : Array UInt8) (w : World) (hH : Holds (fun (b : UInt8) => Value.int .u8 (b.toNat : Int)) w blk off d) (hu : u < 10 ^ d.size) (hu64 : u < 18446744073709551616) (hsz : d.size < 4611686018427387904) :
  Calls Tryz.prog 185 #[.slice (some ⟨blk, off, none⟩) d.size cap, .int .u64 u] w fun e w' =>
   e = .returned (.tuple #[]) ∧ ∃ (n v' : Nat) (dk : Array UInt8), w' = (putRow (fun (b : UInt8) => Value.int .u8 (b.toNat : Int)) w blk off dk).drewN n ∧ FmtInv d.size u 0 v' dk := Any.internal_strconv_formatBase10 Tryz.lays285 blk off cap u d w hH hu hu64 hsz
def Tryz.laysM288_ren : Go.Shelf.Ren := ⟨fun | 288 => 178 | 283 => 183 | 284 => 184 | 285 => 185 | 286 => 186 | 129 => 202 | 317 => 201 | 318 => 203 | 319 => 204 | 320 => 205 | 337 => 216 | 338 => 217 | n => n, fun | 37 => 179 | 53 => 138 | 3 => 3 | 4 => 4 | 9 => 9 | 171 => 203 | 0 => 0 | 173 => 206 | 212 => 228 | 51 => 229 | 5 => 5 | 20 => 20 | 213 => 230 | 46 => 225 | 232 => 241 | 233 => 242 | n => n, fun | 17 => 0 | 18 => 1 | 19 => 2 | n => n⟩
theorem Tryz.laysM288 : Go.Proofs.LaysM.n288 Tryz.prog Tryz.laysM288_ren := {
 mixed := by kernel_rfl
 f129 := Tryz.func202.trans (congrArg some (by kernel_rfl))
 f283 := Tryz.func183.trans (congrArg some (by kernel_rfl))
 f284 := Tryz.func184.trans (congrArg some (by kernel_rfl))
 f285 := Tryz.func185.trans (congrArg some (by kernel_rfl))
 f286 := Tryz.func186.trans (congrArg some (by kernel_rfl))
 f288 := Tryz.func178.trans (congrArg some (by kernel_rfl))
 f317 := Tryz.func201.trans (congrArg some (by kernel_rfl))
 f318 := Tryz.func203.trans (congrArg some (by kernel_rfl))
 f319 := Tryz.func204.trans (congrArg some (by kernel_rfl))
 f320 := Tryz.func205.trans (congrArg some (by kernel_rfl))
 f337 := Tryz.func216.trans (congrArg some (by kernel_rfl))
 f338 := Tryz.func217.trans (congrArg some (by kernel_rfl))
 t0 := Tryz.underlying0
 a0 := Tryz.isAgg0
 z0 := Tryz.sizeOf0
 v0 := Tryz.zeroValue0
 t3 := Tryz.underlying3
 a3 := Tryz.isAgg3
 z3 := Tryz.sizeOf3
 v3 := Tryz.zeroValue3
 t4 := Tryz.underlying4
 a4 := Tryz.isAgg4
 z4 := Tryz.sizeOf4
 v4 := Tryz.zeroValue4
 t5 := Tryz.underlying5
 a5 := Tryz.isAgg5
 z5 := Tryz.sizeOf5
 v5 := Tryz.zeroValue5
 t9 := Tryz.underlying9
 a9 := Tryz.isAgg9
 z9 := Tryz.sizeOf9
 v9 := Tryz.zeroValue9
 t20 := Tryz.underlying20
 a20 := Tryz.isAgg20
 z20 := Tryz.sizeOf20
 v20 := Tryz.zeroValue20
 t37 := Tryz.underlying179
 a37 := Tryz.isAgg179
 z37 := Tryz.sizeOf179
 v37 := Tryz.zeroValue179
 t46 := Tryz.underlying225
 a46 := Tryz.isAgg225
 z46 := Tryz.sizeOf225
 v46 := Tryz.zeroValue225
 t51 := Tryz.underlying229
 a51 := Tryz.isAgg229
 z51 := Tryz.sizeOf229
 v51 := Tryz.zeroValue229
 t53 := Tryz.underlying138
 a53 := Tryz.isAgg138
 z53 := Tryz.sizeOf138
 v53 := Tryz.zeroValue138
 t171 := Tryz.underlying203
 a171 := Tryz.isAgg203
 z171 := Tryz.sizeOf203
 v171 := Tryz.zeroValue203
 t173 := Tryz.underlying206
 a173 := Tryz.isAgg206
 z173 := Tryz.sizeOf206
 v173 := Tryz.zeroValue206
 t212 := Tryz.underlying228
 a212 := Tryz.isAgg228
 z212 := Tryz.sizeOf228
 v212 := Tryz.zeroValue228
 t213 := Tryz.underlying230
 a213 := Tryz.isAgg230
 z213 := Tryz.sizeOf230
 t232 := Tryz.underlying241
 a232 := Tryz.isAgg241
 z232 := Tryz.sizeOf241
 v232 := Tryz.zeroValue241
 t233 := Tryz.underlying242
 a233 := Tryz.isAgg242
 z233 := Tryz.sizeOf242
 v233 := Tryz.zeroValue242
 g17 := by kernel_rfl
 g18 := by kernel_rfl
 g19 := by kernel_rfl
 i0 := by kernel_rfl
 i3 := by kernel_rfl
 i4 := by kernel_rfl
 i5 := by kernel_rfl
 i9 := by kernel_rfl
 i20 := by kernel_rfl
 i37 := by kernel_rfl
 i46 := by kernel_rfl
 i51 := by kernel_rfl
 i53 := by kernel_rfl
 i171 := by kernel_rfl
 i173 := by kernel_rfl
 i212 := by kernel_rfl
 i232 := by kernel_rfl
 i233 := by kernel_rfl
 m17 := by kernel_rfl
 m18 := by kernel_rfl
 m19 := by kernel_rfl }
open Go.RowKit Go.Sort Go.Lib in
theorem Tryz.internal_strconv_AppendUint_10 (B n u : Nat) (hu64 : u < 18446744073709551616) (sv : Value) (xs : List Value) (w : World) (hown : w.ownsRow B 5 1 sv n xs) (hBw : B ≤ w.heap.size) (hlim : n + 20 ≤ 140737488355328) (htab : Lib.TabIs Tryz.prog w "internal/strconv.uint64pow10" .u64 Lib.pow10Tab) :
  Calls Tryz.prog 178 #[sv, .int .u64 u, .int .i64 10] w fun e w' => ∃ v', e = .returned v' ∧ w'.ownsRow B 5 1 v' (n + (Lib.decDigits u).length) (xs ++ Lib.byteCells (Lib.decDigits u)) ∧ Below B w w' ∧ Lib.OthersKept 5 none w w' := Any.internal_strconv_AppendUint_10 Tryz.laysM288 B n u hu64 sv xs w hown hBw hlim htab
end Go.Proofs

/- (Big).Text: the decimal digits of a number. -/
import Derived.Test.YtijifpbpjinmhaaGreatDoorLimb2
import Derived.Lib.AppendIntMem
import Derived.Shelf.Small.Bits
import Derived.Shelf.Small.Wraps
import Derived.Shelf.Strconv.Itoa0
import Derived.Shelf.Strconv.Itoa1
import Derived.Shelf.LaysM
import Derived.Shelf.Strconv.Itoa2
import Derived.Shelf.Strconv.AppendUint10
import Derived.Shelf.Strconv.AppendInt10
import Derived.Shelf.Strings.Prefix
import Derived.Ground.Names2Prog
import Derived.Shelf.Slices.SearchI
import Derived.Test.YtijifpbpjinmhaaGreatDoorProg
set_option maxHeartbeats 1000000
set_option maxRecDepth 100000
namespace Go.Proofs.YtijifpbpjinmhaaGreatDoor
open Go.RowKit
theorem Tryz.info41 : (Tryz.prog.info? 41).map (fun i => (i.zero, i.size, i.bytes)) = some (some (.int .u64 0), 1, 8) := by kernel_rfl
theorem cut_start (l : List UInt8) (n : Nat) (h : l.length = n) : (n : Int) = (n : Int) - 9 * (([] : List Nat).length : Int) ∧ Cub.limbs 1000000000 [] ∧ Cub.lval 1000000000 [] = Cub.dval (l.drop (n - 9 * ([] : List Nat).length)) := by
  subst h
  refine ⟨by simp, fun _ h => (by cases h), ?_⟩
  simp [Cub.lval, Cub.dval]
theorem bigText_any (s : ByteArray) (w : World) (hs : s.size ≤ 1000000000) (hd : Cub.digs s.data.toList) :
    Calls Tryz.prog 32 #[.string s] w fun e w' => ∃ v, e = .returned v ∧ IsBig w' v (Cub.dval s.data.toList) ∧ Below w.heap.size w w' := by
  have HD := hide hd
  clear hd
  obtain ⟨i0, hi, hz0, hz1, hz2⟩ := info_parts Tryz.info41
  go_enter Tryz.func32, Tryz.ntmps32
  go_wp2_with (at_make; refine wpList_make_own _ rfl _ _ 49 rfl (w.heap.size + 1) 41 i0 (.int .u64 0) 1 Tryz.underlying49 hi hz0 hz1 .i64 .i64 _ (s.size / 9 + 1) rfl rfl (by omega) (by rw [hz2]; omega) (by unfold maxLen; omega) (by simp) ?_; intro w0 hown0 hgrow0)
  have hown1 : w0.ownsRow (w.heap.size + 1) 41 1 (.slice (some ⟨w.heap.size + 1, 0, none⟩) 0 (s.size / 9 + 1)) 0 (u64s []) := by simpa [u64s] using hown0
  have hb0 : Below (w.heap.size + 1) (w.alloc (.cells #[.slice none 0 0] 51)) w0 := (Below.refl _ _).grown hgrow0 (by simp) (fun k hk => by cases hk)
  clear hown0 hgrow0
  go_loopw [3, 4] (fun v i wr => ∃ (L : List Nat) (x : Int), i = .int .i64 x ∧ x ≤ 1000000000 ∧ -9 < x ∧ L.length ≤ 200000000 ∧ Hid (x = (s.size : Int) - 9 * (L.length : Int) ∧ Cub.limbs 1000000000 L ∧ Cub.lval 1000000000 L = Cub.dval (s.data.toList.drop (s.size - 9 * L.length))) ∧
      wr.ownsRow (w.heap.size + 1) 41 1 v L.length (u64s L) ∧ Below (w.heap.size + 1) (w.alloc (.cells #[.slice none 0 0] 51)) wr) (fun _ i _ => (intOf i).toNat)
  case atStart => exact ⟨[], (s.size : Int), rfl, by omega, by omega, by simp, cut_start _ _ (list_len s), hown1, hb0⟩
  case round =>
    obtain ⟨L, x, rfl, hx1, hx9, hLl, HX, hown, hb⟩ := hrel
    clear hown1 hb0
    by_cases hx : 0 < x
    · obtain ⟨e, rfl⟩ := Int.eq_ofNat_of_zero_le (Int.le_of_lt hx)
      have he0 : Hid (e + 9 * L.length = s.size) := by have := (unhide HX).1; exact (by omega : e + 9 * L.length = s.size)
      have hes : e ≤ s.size := by have := unhide he0; omega
      have HDs : Hid (∀ k (hk : k < s.size), 48 ≤ s[k].toNat ∧ s[k].toNat ≤ 57) := fun k hk => unhide HD s[k] (by rw [← list_get s k hk]; exact List.getElem_mem _)
      by_cases h9 : 9 ≤ e
      all_goals
        go_wp2
        go_loop [5, 6] (fun y i => ∃ (k n : Nat), e - 9 ≤ k ∧ k ≤ e ∧ i = .int .i64 k ∧ y = .int .u64 n ∧ n < 1000000000 ∧ Hid (n = Cub.dval ((s.data.toList.drop (e - 9)).take (k - (e - 9))))) (fun _ i => e - (intOf i).toNat)
        case atStart => exact ⟨e - 9, 0, Nat.le_refl _, by omega, by go_num, rfl, by omega, by rw [Nat.sub_self]; exact rfl⟩
        case round =>
          obtain ⟨k, n, hk1, hk2, rfl, rfl, hn, HN⟩ := hrel
          by_cases hlt : k < e
          · have hks : k < s.size := by omega
            obtain ⟨d1, d2⟩ := unhide HDs k hks
            have hn' : n < 100000000 := by rw [unhide HN]; exact Cub.seg_lt' (unhide HD) _ _ (by omega)
            have HN' : Hid (n * 10 + (s[k].toNat - 48) = Cub.dval ((s.data.toList.drop (e - 9)).take (k + 1 - (e - 9)))) := by
              rw [Cub.seg_succ _ _ _ hk1 (by rw [list_len]; exact hks), ← unhide HN]; exact rfl
            go_wp2
            go_round
            case rel => exact ⟨k + 1, n * 10 + (s[k].toNat - 48), by omega, by omega, by go_num, by go_num, by omega, HN'⟩
            case measure => simp [intOf]; omega
          · have hke : k = e := by omega
            subst hke
            clear hlt
            go_wp2_with (at_builtin; refine wpList_append_own _ rfl _ _ 49 rfl (w.heap.size + 1) 41 i0 (.int .u64 0) 1 8 Tryz.underlying49 hi hz0 hz1 hz2 rfl (by decide) _ _ _ rfl (hown.alloc _) ⟨wr.heap.size, 0, none⟩ 1 1 [.int .u64 (n : Int)] rfl rfl (cell_one_new _ _ _) (fun x hx => by simp at hx; subst hx; rfl) (by unfold maxLen; omega) (by omega) (by have := hb.size; simp at this ⊢; omega) ?_; intro v' w1 hown' hgrow _)
            have hsz := hb.size
            have hb' : Below (w.heap.size + 1) (w.alloc (.cells #[.slice none 0 0] 51)) w1 := (hb.alloc (by simp at hsz; omega) _).grown hgrow (by simp at hsz ⊢; omega) (fun j hj => (hown.lt j hj).1)
            have hown2 : w1.ownsRow (w.heap.size + 1) 41 1 v' (L ++ [n]).length (u64s (L ++ [n])) := by simpa [u64s] using hown'
            have HS := Cub.cut_step s.data.toList L k (k - 9) (by rw [list_len]; exact unhide he0) rfl (unhide HD) (unhide HX).2.1 (by have := (unhide HX).2.2; rw [this]; congr 2; have := unhide he0; omega)
            rw [← unhide HN] at HS
            have HS' := hide HS
            clear hgrow hown' HS hown hsz
            go_wp2
            go_roundw
            case rel => exact ⟨L ++ [n], (k : Int) - 9, rfl, by omega, by omega, by have := unhide he0; simp; omega, ⟨by have := unhide he0; simp; omega, (unhide HS').1, by rw [(unhide HS').2]; congr 2; have := unhide he0; simp; omega⟩, hown2, hb'⟩
            case measure => simp [intOf]; omega
    · have hfin : Cub.lval 1000000000 (Cub.trimN L) = Cub.dval s.data.toList ∧ Cub.normal 1000000000 (Cub.trimN L) := by
        obtain ⟨h1, h2, h3⟩ := unhide HX
        obtain ⟨t1, t2, _⟩ := Cub.lval_trim 1000000000 _ L rfl
        refine ⟨?_, t2 h2⟩
        rw [t1, h3, show s.size - 9 * L.length = 0 by omega, List.drop_zero]
      have HF := hide hfin
      have hrow := Row.of_own hown
      have HRow := hide hrow
      have HOwn := hide hown
      have hsz : w.heap.size + 1 ≤ wr.heap.size := by have := hb.size; simpa using this
      have hc0 : wr.cell? ⟨w.heap.size, 0, none⟩ = some (.slice none 0 0) := by rw [hb.cell (p := ⟨w.heap.size, 0, none⟩) (by simp)]; simp
      have hf0 : wr.frozen? ⟨w.heap.size, 0, none⟩ = false := by rw [hb.frozen (p := ⟨w.heap.size, 0, none⟩) (by simp)]; simp
      clear hfin hrow hown
      go_wp2_with (go_at_call 78; refine (trim_any _ L _ (unhide HRow)).mono ?_; rintro e w2 ⟨v', rfl, hrow2, hb2⟩; obtain ⟨a2, cap2, rfl, hcap2⟩ := hrow2.form; obtain ⟨hc2, hf2⟩ := box_later hb2 hsz hc0 hf0)
      refine bodyPost_ret (v := .agg #[.slice a2 (Cub.trimN L).length cap2]) (by simp [results, Tryz.results32, go_sem, hc2]) rfl ⟨_, rfl, ?_, ?_⟩
      · exact ⟨_, _, rfl, hrow2.box _ hc2 (fun _ _ h => by cases h), (unhide HF).2, (unhide HF).1⟩
      · exact (((Below.refl _ _).alloc (Nat.le_refl _) _).trans ((hb.trans (hb2.mono hsz)).mono (Nat.le_succ _))).setCell (Nat.le_refl _) _
end Go.Proofs.YtijifpbpjinmhaaGreatDoor
namespace Cub
open Go.Lib (nDigits decDigits)
def dcount (y : Nat) : Nat := if y = 0 then 0 else nDigits y
theorem dcount_zero : dcount 0 = 0 := rfl
theorem dcount_step (y : Nat) (h : 0 < y) : dcount y = dcount (y / 10) + 1 := by
  unfold dcount
  rw [if_neg (by omega)]
  by_cases h10 : y < 10
  · rw [Go.Lib.nDigits_small h10, if_pos (by omega)]
  · rw [Go.Lib.nDigits_big h10, if_neg (by omega)]
theorem dcount_pos (y : Nat) (h : 0 < y) : dcount y = nDigits y := by unfold dcount; rw [if_neg (by omega)]
theorem nDigits_ge (x : Nat) (h : 0 < x) : 10 ^ (nDigits x - 1) ≤ x := by
  have h1 := isNat_dec x
  by_cases h2 : 2 ≤ (decDigits x).length
  · have := isNat_pos h1 h2
    rw [dval_dec, Go.Lib.decDigits_length] at this; exact this
  · rw [Go.Lib.decDigits_length] at h2
    have : nDigits x - 1 = 0 := by omega
    rw [this]; omega
theorem nDigits_top (t : List Nat) (x : Nat) (ht : limbs 1000000000 t) (hx : 0 < x) : nDigits (lval 1000000000 (t ++ [x])) = 9 * t.length + nDigits x := by
  have h1 := nDigits_ge x hx
  have h2 := Go.Lib.lt_pow_nDigits x
  have h3 := lval_lt ht
  have h4 := Go.Lib.nDigits_pos x
  rw [show 9 * t.length + nDigits x = (9 * t.length + (nDigits x - 1)) + 1 by omega]
  rw [lval_snoc]
  have p1 : 10 ^ (9 * t.length + (nDigits x - 1)) = 1000000000 ^ t.length * 10 ^ (nDigits x - 1) := by rw [Nat.pow_add, pow9]
  have p2 : 10 ^ (9 * t.length + (nDigits x - 1) + 1) = 1000000000 ^ t.length * 10 ^ (nDigits x) := by
    rw [show 9 * t.length + (nDigits x - 1) + 1 = 9 * t.length + nDigits x by omega, Nat.pow_add, pow9]
  apply Go.Lib.nDigits_unique
  · rw [p1]
    have := Nat.mul_le_mul_left (1000000000 ^ t.length) h1
    omega
  · rw [p2]
    have : 1000000000 ^ t.length * (x + 1) ≤ 1000000000 ^ t.length * 10 ^ (nDigits x) := Nat.mul_le_mul_left _ h2
    rw [Nat.mul_add] at this
    omega
theorem nDigits_le9 (x : Nat) (h : x < 1000000000) : nDigits x ≤ 9 := by
  have := (dec_len_lt x 9 (by decide)).2 (by simpa using h)
  rwa [Go.Lib.decDigits_length] at this
theorem len_le {l : List Nat} {k : Nat} (h : normal 1000000000 l) (hk : lval 1000000000 l < 1000000000 ^ k) : l.length ≤ k := by
  by_cases hne : l = []
  · subst hne; simp
  · have h1 := normal_ge h hne
    have h2 := (Nat.pow_lt_pow_iff_right (by decide : 1 < 1000000000)).1 (Nat.lt_of_le_of_lt h1 hk)
    omega
theorem split_last {l : List Nat} (h : l ≠ []) : ∃ t x, l = t ++ [x] := by
  rcases List.eq_nil_or_concat l with h0 | ⟨t, c, rfl⟩
  · exact absurd h0 h
  · exact ⟨t, c, by rw [List.concat_eq_append]⟩
theorem normal_last {t : List Nat} {x : Nat} (h : normal 1000000000 (t ++ [x])) : limbs 1000000000 t ∧ 0 < x ∧ x < 1000000000 := by
  refine ⟨(limbs_append.1 h.1).1, ?_, (limbs_append.1 h.1).2 x (by simp)⟩
  have : x ≠ 0 := by intro e; apply h.2; simp [e]
  omega
end Cub
namespace Go.Proofs.YtijifpbpjinmhaaGreatDoor
open Go.RowKit
theorem IsBig.form {w : World} {v : Value} {n : Nat} (h : IsBig w v n) : ∃ a l cap, v = .agg #[.slice a l.length cap] ∧ l.length ≤ 9223372036854775807 ∧ Row w (.slice a l.length cap) l ∧ Cub.normal 1000000000 l ∧ Cub.lval 1000000000 l = n := by
  obtain ⟨s, l, rfl, hr, hn, hv⟩ := h
  obtain ⟨a, cap, rfl, hc, hm⟩ := hr.form
  exact ⟨a, l, cap, rfl, by omega, hr, hn, hv⟩
theorem big_zero {l : List Nat} (hn : Cub.normal 1000000000 l) : (Cub.lval 1000000000 l == 0) = ((l.length : Int) == 0) := by
  rw [Bool.eq_iff_iff, beq_iff_eq, beq_iff_eq, Cub.normal_zero hn (by decide), ← List.length_eq_zero_iff]; omega
theorem isZero_any (v : Value) (n : Nat) (w : World) (h : IsBig w v n) :
    Calls Tryz.prog 85 #[v] w fun e w' => e = .returned (.bool (n == 0)) ∧ Below w.heap.size w w' := by
  obtain ⟨a, l, cap, rfl, hl, hr, hn, rfl⟩ := h.form
  rw [big_zero hn]
  clear h hr hn
  go_enter Tryz.func85, Tryz.ntmps85
  go_wp2
  go_ret
  exact ⟨rfl, (Below.refl _ _).alloc (Nat.le_refl _) _⟩
theorem len_any (v : Value) (n k : Nat) (w : World) (h : IsBig w v n) (hk : k ≤ 1000000) (hn : n < 1000000000 ^ k) :
    Calls Tryz.prog 136 #[v] w fun e w' => e = .returned (.int .i64 (Lib.nDigits n : Nat)) ∧ Below w.heap.size w w' := by
  have H := hide h
  obtain ⟨a, l, cap, rfl, hl, hr, hnm, rfl⟩ := h.form
  have hlk := Cub.len_le hnm hn
  clear hn hl h
  by_cases h0 : l = []
  · subst h0
    have e1 : Lib.nDigits (Cub.lval 1000000000 []) = 1 := Lib.nDigits_small (by decide)
    rw [e1]
    clear e1
    go_enter Tryz.func136, Tryz.ntmps136
    go_wp2_with (go_at_call 85; refine (isZero_any _ _ _ ((unhide H).later ((Below.refl _ _).alloc (Nat.le_refl _) _))).mono ?_; rintro e w2 ⟨rfl, hb2⟩)
    go_ret
    exact ⟨rfl, ((Below.refl _ _).alloc (Nat.le_refl _) _).trans (hb2.mono (by simp))⟩
  · obtain ⟨t, x, rfl⟩ := Cub.split_last h0
    obtain ⟨ht, hx0, hxB⟩ := Cub.normal_last hnm
    have hz : (Cub.lval 1000000000 (t ++ [x]) == 0) = false := by
      rw [beq_eq_false_iff_ne]; intro e; exact h0 ((Cub.normal_zero hnm (by decide)).1 e)
    have HD := hide (Cub.nDigits_top t x ht hx0)
    have HL := hide (Cub.nDigits_le9 x hxB)
    obtain ⟨a', cap', ev, hc, hm, hcells⟩ := hr
    simp only [Value.slice.injEq] at ev
    obtain ⟨rfl, _, rfl⟩ := ev
    obtain ⟨b, o, rfl, hbw, hcell⟩ := hcells h0
    have hx := hcell t.length (by simp)
    simp only [List.getElem_concat_length] at hx
    have htk : t.length + 1 ≤ k := by simpa using hlk
    have hlen : (t ++ [x]).length = t.length + 1 := by simp
    have HZ := hide hz
    rw [hlen] at H ⊢
    clear hcell hcells hnm ht hlk hz h0 hlen
    have HX : Hid (∀ W, Below w.heap.size w W → W.cell? ⟨b, o + t.length, none⟩ = some (.int .u64 (x : Int))) := fun W hW => (hW.cell (p := ⟨b, o + t.length, none⟩) hbw).trans hx
    clear hx
    go_enter Tryz.func136, Tryz.ntmps136
    go_wp2_with (go_at_call 85; refine (isZero_any _ _ _ ((unhide H).later ((Below.refl _ _).alloc (Nat.le_refl _) _))).mono ?_; rintro e w2 ⟨rfl, hb2⟩; rw [unhide HZ]; obtain ⟨hcb, _⟩ := box_later hb2 (g := w.heap.size) (x := .slice (some ⟨b, o, none⟩) (t.length + 1) cap) (by simp) (by simp) (by simp); have hb3 := ((Below.refl w.heap.size w).alloc (Nat.le_refl _) (.cells #[.slice (some ⟨b, o, none⟩) (t.length + 1) cap] 51)).trans (hb2.mono (by simp)); have hx2 := unhide HX w2 hb3; clear hb2)
    go_loop [4, 5] (fun m y => ∃ (c z : Nat), m = .int .i64 ((t.length : Int) * 9 + (c : Int)) ∧ y = .int .u64 (z : Int) ∧ z < 1000000000 ∧ c ≤ 9 ∧ Hid (c + Cub.dcount z = Lib.nDigits x)) (fun _ y => (intOf y).toNat)
    case atStart => exact ⟨0, x, by simp, rfl, hxB, by omega, by rw [Cub.dcount_pos x hx0]; exact Nat.zero_add _⟩
    case round =>
      obtain ⟨c, z, rfl, rfl, hz, hc9, HC⟩ := hrel
      by_cases hz0 : 0 < z
      · have hC : Hid (c + 1 + Cub.dcount (z / 10) = Lib.nDigits x) := by rw [← unhide HC, Cub.dcount_step z hz0]; exact (by omega : c + 1 + Cub.dcount (z / 10) = c + (Cub.dcount (z / 10) + 1))
        have hc8 : c + 1 ≤ 9 := by have := unhide hC; have := unhide HL; omega
        go_wp2
        go_round
        case rel => exact ⟨c + 1, z / 10, by go_num, by go_num, by omega, hc8, hC⟩
        case measure => simp [intOf]; omega
      · have : z = 0 := by omega
        subst this
        have hfin : (t.length : Int) * 9 + (c : Int) = ((9 * t.length + Lib.nDigits x : Nat) : Int) := by have := unhide HC; rw [Cub.dcount_zero] at this; omega
        have HF := hide hfin
        clear hfin
        go_wp2
        go_ret
        exact ⟨by rw [unhide HD, ← unhide HF]; rfl, hb3⟩
end Go.Proofs.YtijifpbpjinmhaaGreatDoor
namespace Cub
open Go.Lib (nDigits decDigits)
/-- The last k digits of d, each one told. -/
def padn : Nat → Nat → List UInt8
  | 0, _ => []
  | k + 1, d => padn k (d / 10) ++ [UInt8.ofNat (48 + d % 10)]
theorem dec_pad (k : Nat) : ∀ (q r : Nat), 0 < q → r < 10 ^ k → decDigits (10 ^ k * q + r) = decDigits q ++ padn k r := by
  induction k with
  | zero => intro q r hq hr; have : r = 0 := by simpa using hr
            subst this; simp [padn]
  | succ k ih =>
    intro q r hq hr
    have hp : 0 < 10 ^ k := Nat.pow_pos (by decide)
    have h1 : 10 ≤ 10 ^ (k + 1) * q + r := by
      rw [Nat.pow_succ]
      have : 10 ^ k * 10 * 1 ≤ 10 ^ k * 10 * q := Nat.mul_le_mul_left _ hq
      omega
    have e : 10 ^ (k + 1) * q + r = 10 * (10 ^ k * q) + r := by rw [Nat.pow_succ, Nat.mul_comm (10 ^ k) 10, Nat.mul_assoc]
    rw [decDigits, dif_neg (by omega)]
    have d1 : (10 ^ (k + 1) * q + r) / 10 = 10 ^ k * q + r / 10 := by rw [e]; omega
    have d2 : (10 ^ (k + 1) * q + r) % 10 = r % 10 := by rw [e]; omega
    rw [d1, d2, ih q (r / 10) hq (by rw [Nat.pow_succ] at hr; omega)]
    simp [padn]
theorem pad_step (d j : Nat) (hj : j + 1 ≤ 9) : padn (9 - (j + 1)) (d / 10 ^ (j + 1)) ++ [UInt8.ofNat (48 + d / 10 ^ j % 10)] = padn (9 - j) (d / 10 ^ j) := by
  rw [show 9 - j = (9 - (j + 1)) + 1 by omega]
  simp only [padn]
  rw [Nat.div_div_eq_div_mul, ← Nat.pow_succ]
theorem pad_all (d : Nat) : padn (9 - 0) (d / 10 ^ 0) = padn 9 d := by simp
/-- One limb more of the text. -/
theorem dec_limb (l : List Nat) (i : Nat) (hi : i < l.length) (hl : limbs 1000000000 l) (hq : 0 < lval 1000000000 (l.drop (i + 1))) :
    decDigits (lval 1000000000 (l.drop i)) = decDigits (lval 1000000000 (l.drop (i + 1))) ++ padn 9 l[i] := by
  have hx := hl l[i] (List.getElem_mem hi)
  rw [List.drop_eq_getElem_cons hi]
  simp only [lval]
  rw [Nat.add_comm]
  exact dec_pad 9 _ _ hq hx
theorem drop_pos {l : List Nat} (h : normal 1000000000 l) (i : Nat) (hi : i < l.length) : 0 < lval 1000000000 (l.drop i) := by
  have hne : l.drop i ≠ [] := by intro e; have := congrArg List.length e; simp at this; omega
  have hn : normal 1000000000 (l.drop i) := by
    refine ⟨fun x hx => h.1 x (List.mem_of_mem_drop hx), ?_⟩
    rw [List.getLast?_drop, if_neg (by omega)]; exact h.2
  have h1 := normal_ge hn hne
  have : 0 < 1000000000 ^ ((l.drop i).length - 1) := Nat.pow_pos (by decide)
  omega
/-- The unit that goes with j digits to be told. -/
def unitOf (j : Nat) : Nat := if j = 0 then 0 else 10 ^ (j - 1)
theorem unit_div (j : Nat) : unitOf (j + 1) / 10 = unitOf j := by
  unfold unitOf
  rw [if_neg (by omega)]
  cases j with
  | zero => rfl
  | succ k => rw [if_neg (by omega)]; simp [Nat.pow_succ]
theorem unit_pos (j : Nat) : 0 < unitOf j ↔ 0 < j := by
  unfold unitOf
  by_cases h : j = 0
  · simp [h]
  · rw [if_neg h]; exact ⟨fun _ => by omega, fun _ => Nat.pow_pos (by decide)⟩
theorem unit_at (j : Nat) : unitOf (j + 1) = 10 ^ j := by unfold unitOf; rw [if_neg (by omega)]; rfl
end Cub
namespace Go.Proofs.YtijifpbpjinmhaaGreatDoor
open Go.RowKit
theorem Tryz.info5 : (Tryz.prog.info? 5).map (fun i => (i.zero, i.size, i.bytes)) = some (some (.int .u8 0), 1, 1) := by kernel_rfl
theorem byteCells_snoc (l : List UInt8) (c : Nat) (hc : c < 10) : Lib.byteCells l ++ [.int .u8 (48 + (c : Int))] = Lib.byteCells (l ++ [UInt8.ofNat (48 + c)]) := by
  rw [Lib.byteCells_append]
  congr 1
  simp only [Lib.byteCells, List.map_cons, List.map_nil]
  rw [Cub.toNat_dig c hc]; rfl
/-- What is told of a number: its text, or ErrLarge (7). -/
def toldText (n : Nat) : List UInt8 := if n < 10 ^ 600 then Lib.decDigits n else []
theorem len600 (n : Nat) : Lib.nDigits n ≤ 600 ↔ n < 10 ^ 600 := by
  rw [← Lib.decDigits_length]; exact Cub.dec_len_lt n 600 (by decide)
theorem right_digs {s : ByteArray} (h : Cub.rightB s.data.toList = true) : Cub.digs s.data.toList ∧ s.size ≤ 600 := by
  obtain ⟨h1, h2⟩ := (Cub.rightB_iff _).1 h
  exact ⟨h1.1, by rw [list_len] at h2; exact h2⟩
theorem mk_list (l : List UInt8) : (⟨l.toArray⟩ : ByteArray).data.toList = l := rfl
theorem toldText_pos (n : Nat) (h : n < 10 ^ 600) : toldText n = Lib.decDigits n := by
  unfold toldText; rw [if_pos h]
/-- The text of a number, or the empty one where it is too large. -/
def tb (n : Nat) : ByteArray := ⟨(toldText n).toArray⟩
theorem tb_list (n : Nat) (h : n < 10 ^ 600) : (tb n).data.toList = Lib.decDigits n := by
  exact (mk_list (toldText n)).trans (toldText_pos n h)
theorem tb_right (n : Nat) (h : n < 10 ^ 600) : Cub.rightB (tb n).data.toList = true ∧ Cub.dval (tb n).data.toList = n := by
  rw [tb_list n h]
  refine ⟨(Cub.rightB_iff _).2 ⟨Cub.isNat_dec n, ?_⟩, Cub.dval_dec n⟩
  rw [Lib.decDigits_length]; exact (len600 n).2 h
theorem tb_size (n : Nat) (h : n < 10 ^ 600) : (tb n).size ≤ maxLen := by
  have h1 := ((Cub.rightB_iff _).1 (tb_right n h).1).2
  rw [list_len] at h1
  unfold maxLen; omega
def val (s : ByteArray) : Nat := Cub.dval s.data.toList
theorem pow_nine (c k : Nat) (h : c ≤ 9 * k) : (10 : Nat) ^ c ≤ 1000000000 ^ k := by
  have e : (1000000000 : Nat) ^ k = 10 ^ (9 * k) := by rw [Nat.pow_mul]
  rw [e]; exact Nat.pow_le_pow_right (by decide) h
theorem dec_zero : Lib.decDigits 0 = [48] := by rw [Lib.decDigits]; simp
theorem zero_val {s : ByteArray} (h : s.data.toList = [48]) : val s = 0 := by
  unfold val; rw [h]; decide
end Go.Proofs.YtijifpbpjinmhaaGreatDoor
namespace Go.Proofs
open Go.Shelf
def Tryz.lays103_ren : Go.Shelf.Ren := ⟨fun | 103 => 30 | 210 => 72 | 206 => 122 | n => n, fun | 9 => 9 | 4 => 4 | 24 => 44 | 3 => 3 | n => n, fun | n => n⟩
theorem Tryz.lays103 : Go.Proofs.Lays.n103 Tryz.prog Tryz.lays103_ren := {
  mixed := by kernel_rfl
  f103 := Tryz.func30.trans (congrArg some (by kernel_rfl))
  f206 := Tryz.func122.trans (congrArg some (by kernel_rfl))
  f210 := Tryz.func72.trans (congrArg some (by kernel_rfl))
  t3 := Tryz.underlying3
  a3 := Tryz.isAgg3
  z3 := Tryz.sizeOf3
  v3 := Tryz.zeroValue3
  t4 := Tryz.underlying4
  a4 := Tryz.isAgg4
  z4 := Tryz.sizeOf4
  v4 := Tryz.zeroValue4
  t9 := Tryz.underlying9
  a9 := Tryz.isAgg9
  z9 := Tryz.sizeOf9
  v9 := Tryz.zeroValue9
  t24 := Tryz.underlying44
  a24 := Tryz.isAgg44
  z24 := Tryz.sizeOf44
  v24 := Tryz.zeroValue44 }
open Go.RowKit in
theorem Tryz.strings_CutPrefix (s p : ByteArray) (w : World) :
    Calls Tryz.prog 30 #[.string s, .string p] w fun e w' => e = .returned (.tuple #[.string ⟨(Lib.trimPrefix s.data.toList p.data.toList).toArray⟩, .bool (Lib.hasPrefix s.data.toList p.data.toList)]) ∧ w' = w := Any.strings_CutPrefix Tryz.lays103 s p w
def Tryz.laysM288_ren : Go.Shelf.Ren := ⟨fun | 288 => 134 | 283 => 175 | 284 => 176 | 285 => 177 | 286 => 178 | 129 => 204 | 317 => 209 | 318 => 210 | 319 => 211 | 320 => 212 | 337 => 226 | 338 => 227 | n => n, fun | 37 => 46 | 53 => 41 | 3 => 3 | 4 => 4 | 9 => 9 | 171 => 190 | 0 => 0 | 173 => 193 | 212 => 221 | 51 => 205 | 5 => 5 | 20 => 20 | 213 => 222 | 46 => 109 | 232 => 243 | 233 => 244 | n => n, fun | 17 => 1 | 18 => 7 | 19 => 8 | n => n⟩
theorem Tryz.laysM288 : Go.Proofs.LaysM.n288 Tryz.prog Tryz.laysM288_ren := {
  mixed := by kernel_rfl
  f129 := Tryz.func204.trans (congrArg some (by kernel_rfl))
  f283 := Tryz.func175.trans (congrArg some (by kernel_rfl))
  f284 := Tryz.func176.trans (congrArg some (by kernel_rfl))
  f285 := Tryz.func177.trans (congrArg some (by kernel_rfl))
  f286 := Tryz.func178.trans (congrArg some (by kernel_rfl))
  f288 := Tryz.func134.trans (congrArg some (by kernel_rfl))
  f317 := Tryz.func209.trans (congrArg some (by kernel_rfl))
  f318 := Tryz.func210.trans (congrArg some (by kernel_rfl))
  f319 := Tryz.func211.trans (congrArg some (by kernel_rfl))
  f320 := Tryz.func212.trans (congrArg some (by kernel_rfl))
  f337 := Tryz.func226.trans (congrArg some (by kernel_rfl))
  f338 := Tryz.func227.trans (congrArg some (by kernel_rfl))
  t0 := Tryz.underlying0
  a0 := Tryz.isAgg0
  z0 := Tryz.sizeOf0
  v0 := Tryz.zeroValue0
  t3 := Tryz.underlying3
  a3 := Tryz.isAgg3
  z3 := Tryz.sizeOf3
  v3 := Tryz.zeroValue3
  t4 := Tryz.underlying4
  a4 := Tryz.isAgg4
  z4 := Tryz.sizeOf4
  v4 := Tryz.zeroValue4
  t5 := Tryz.underlying5
  a5 := Tryz.isAgg5
  z5 := Tryz.sizeOf5
  v5 := Tryz.zeroValue5
  t9 := Tryz.underlying9
  a9 := Tryz.isAgg9
  z9 := Tryz.sizeOf9
  v9 := Tryz.zeroValue9
  t20 := Tryz.underlying20
  a20 := Tryz.isAgg20
  z20 := Tryz.sizeOf20
  v20 := Tryz.zeroValue20
  t37 := Tryz.underlying46
  a37 := Tryz.isAgg46
  z37 := Tryz.sizeOf46
  v37 := Tryz.zeroValue46
  t46 := Tryz.underlying109
  a46 := Tryz.isAgg109
  z46 := Tryz.sizeOf109
  v46 := Tryz.zeroValue109
  t51 := Tryz.underlying205
  a51 := Tryz.isAgg205
  z51 := Tryz.sizeOf205
  v51 := Tryz.zeroValue205
  t53 := Tryz.underlying41
  a53 := Tryz.isAgg41
  z53 := Tryz.sizeOf41
  v53 := Tryz.zeroValue41
  t171 := Tryz.underlying190
  a171 := Tryz.isAgg190
  z171 := Tryz.sizeOf190
  v171 := Tryz.zeroValue190
  t173 := Tryz.underlying193
  a173 := Tryz.isAgg193
  z173 := Tryz.sizeOf193
  v173 := Tryz.zeroValue193
  t212 := Tryz.underlying221
  a212 := Tryz.isAgg221
  z212 := Tryz.sizeOf221
  v212 := Tryz.zeroValue221
  t213 := Tryz.underlying222
  a213 := Tryz.isAgg222
  z213 := Tryz.sizeOf222
  t232 := Tryz.underlying243
  a232 := Tryz.isAgg243
  z232 := Tryz.sizeOf243
  v232 := Tryz.zeroValue243
  t233 := Tryz.underlying244
  a233 := Tryz.isAgg244
  z233 := Tryz.sizeOf244
  v233 := Tryz.zeroValue244
  g17 := by kernel_rfl
  g18 := by kernel_rfl
  g19 := by kernel_rfl
  i0 := by kernel_rfl
  i3 := by kernel_rfl
  i4 := by kernel_rfl
  i5 := by kernel_rfl
  i9 := by kernel_rfl
  i20 := by kernel_rfl
  i37 := by kernel_rfl
  i46 := by kernel_rfl
  i51 := by kernel_rfl
  i53 := by kernel_rfl
  i171 := by kernel_rfl
  i173 := by kernel_rfl
  i212 := by kernel_rfl
  i232 := by kernel_rfl
  i233 := by kernel_rfl
  m17 := by kernel_rfl
  m18 := by kernel_rfl
  m19 := by kernel_rfl }
open Go.RowKit Go.Sort Go.Lib in
theorem Tryz.internal_strconv_AppendUint_10 (B n u : Nat) (hu64 : u < 18446744073709551616) (sv : Value) (xs : List Value) (w : World) (hown : w.ownsRow B 5 1 sv n xs) (hBw : B ≤ w.heap.size) (hlim : n + 20 ≤ 140737488355328) (htab : Lib.TabIs Tryz.prog w "internal/strconv.uint64pow10" .u64 Lib.pow10Tab) :
    Calls Tryz.prog 134 #[sv, .int .u64 u, .int .i64 10] w fun e w' => ∃ v', e = .returned v' ∧ w'.ownsRow B 5 1 v' (n + (Lib.decDigits u).length) (xs ++ Lib.byteCells (Lib.decDigits u)) ∧ Below B w w' ∧ Lib.OthersKept 5 none w w' := Any.internal_strconv_AppendUint_10 Tryz.laysM288 B n u hu64 sv xs w hown hBw hlim htab
end Go.Proofs
namespace Go.Proofs.YtijifpbpjinmhaaGreatDoor
open Go.RowKit
/-- The table of the powers of ten lies as its initialiser lays it. -/
def Tab (w : World) : Prop := Lib.TabIs Tryz.prog w "internal/strconv.uint64pow10" .u64 Lib.pow10Tab
theorem Tab.later {w w' : World} (h : Tab w) (hb : Below w.heap.size w w') : Tab w' := Lib.tabBelow_of_tabIs h w' hb
theorem appendUint_any (B n u : Nat) (hu : u < 18446744073709551616) (sv : Value) (xs : List Value) (w : World) (hown : w.ownsRow B 5 1 sv n xs) (hBw : B ≤ w.heap.size) (hlim : n + 20 ≤ 140737488355328) (htab : Tab w) :
    Calls Tryz.prog 86 #[sv, .int .u64 u, .int .i64 10] w fun e w' => ∃ v', e = .returned v' ∧ w'.ownsRow B 5 1 v' (n + (Lib.decDigits u).length) (xs ++ Lib.byteCells (Lib.decDigits u)) ∧ Below B w w' := by
  have HO := hide hown
  have HT := hide htab
  clear hown htab
  go_enter Tryz.func86, Tryz.ntmps86
  go_wp2_with (go_at_call 134; refine (Tryz.internal_strconv_AppendUint_10 B n u hu sv xs _ (unhide HO) hBw hlim (unhide HT)).mono ?_; rintro e w2 ⟨v', rfl, h1, h2, _⟩)
  go_ret
  exact ⟨v', rfl, h1, h2⟩
theorem text_any (v : Value) (n k : Nat) (w : World) (h : IsBig w v n) (hk : k ≤ 1000000) (hn : n < 1000000000 ^ k) (htab : Tab w) :
    Calls Tryz.prog 39 #[v] w fun e w' => e = .returned (.string ⟨(Lib.decDigits n).toArray⟩) ∧ Below w.heap.size w w' := by
  have H := hide h
  have HT := hide htab
  obtain ⟨a, l, cap, rfl, hl, hr, hnm, rfl⟩ := h.form
  have hlk := Cub.len_le hnm hn
  clear hn hl h htab
  by_cases h0 : l = []
  · subst h0
    have e1 : Lib.decDigits (Cub.lval 1000000000 []) = [48] := by decide +kernel
    rw [e1]
    clear e1
    go_enter Tryz.func39, Tryz.ntmps39
    go_wp2_with (go_at_call 85; refine (isZero_any _ _ _ ((unhide H).later ((Below.refl _ _).alloc (Nat.le_refl _) _))).mono ?_; rintro e w2 ⟨rfl, hb2⟩)
    go_ret
    exact ⟨rfl, ((Below.refl _ _).alloc (Nat.le_refl _) _).trans (hb2.mono (by simp))⟩
  · have hlp : 0 < l.length := by cases l with | nil => exact absurd rfl h0 | cons a t => simp
    obtain ⟨len, hlen⟩ : ∃ len, len = l.length := ⟨_, rfl⟩
    rw [← hlen] at H hr hlk hlp ⊢
    have hz : (Cub.lval 1000000000 l == 0) = false := by
      rw [beq_eq_false_iff_ne]; intro e; exact h0 ((Cub.normal_zero hnm (by decide)).1 e)
    obtain ⟨a', cap', ev, hc, hm, hcells⟩ := hr
    simp only [Value.slice.injEq] at ev
    obtain ⟨rfl, hdum, rfl⟩ := ev
    clear hdum
    obtain ⟨b, o, rfl, hbw, hcell⟩ := hcells h0
    have HC : Hid (∀ W, Below w.heap.size w W → ∀ i (hi : i < l.length), W.cell? ⟨b, o + i, none⟩ = some (.int .u64 (l[i] : Int))) := fun W hW i hi => (hW.cell (p := ⟨b, o + i, none⟩) hbw).trans (hcell i hi)
    have HZ := hide hz
    have HN := hide hnm
    have HLen := hide hlen
    clear hcell hcells hz h0 hnm hlen hc hm
    obtain ⟨m, rfl⟩ : ∃ m, len = m + 1 := ⟨len - 1, by omega⟩
    have hml : m < l.length := by have := unhide HLen; omega
    obtain ⟨x, hx⟩ : ∃ x, x = l[m] := ⟨_, rfl⟩
    have hxB : x < 1000000000 := by rw [hx]; exact (unhide HN).1 _ (List.getElem_mem hml)
    have HX : Hid (∀ W, Below w.heap.size w W → W.cell? ⟨b, o + m, none⟩ = some (.int .u64 (x : Int))) := fun W hW => by rw [hx]; exact unhide HC W hW m hml
    have HXl := hide hx
    clear hx hlp
    obtain ⟨i5, hi5, hz50, hz51, hz52⟩ := info_parts Tryz.info5
    go_enter Tryz.func39, Tryz.ntmps39
    go_wp2_with (first
      | (go_at_call 85; refine (isZero_any _ _ _ ((unhide H).later ((Below.refl _ _).alloc (Nat.le_refl _) _))).mono ?_; rintro e w2 ⟨rfl, hb2⟩; rw [unhide HZ]; obtain ⟨hcb, _⟩ := box_later hb2 (g := w.heap.size) (x := .slice (some ⟨b, o, none⟩) (m + 1) cap) (by simp) (by simp) (by simp); have hb3 := ((Below.refl w.heap.size w).alloc (Nat.le_refl _) (.cells #[.slice (some ⟨b, o, none⟩) (m + 1) cap] 51)).trans (hb2.mono (by simp)); have hs2 : w.heap.size + 1 ≤ w2.heap.size := (by have := hb2.size; simpa using this); clear hb2)
      | (at_make; refine wpList_make_own _ rfl _ _ 46 rfl (w.heap.size + 1) 5 i5 (.int .u8 0) 1 Tryz.underlying46 hi5 hz50 hz51 .i64 .i64 _ ((m + 1) * 9) rfl rfl (by omega) (by rw [hz52]; omega) (by unfold maxLen; omega) hs2 ?_; intro w3 hown3 hgrow3; have hb4 : Below (w.heap.size + 1) w2 w3 := (Below.refl _ _).grown hgrow3 hs2 (fun k hk => by cases hk); have hcb3 := (hb4.cell (p := ⟨w.heap.size, 0, none⟩) (Nat.lt_succ_self _)).trans hcb; have hb5 := hb3.trans (hb4.mono (Nat.le_succ _)); have hx3 := unhide HX w3 hb5; have hs3 : w.heap.size + 1 ≤ w3.heap.size := (by have := hb4.size; omega); have HO3 := hide hown3; clear hown3 hgrow3 hb4 hcb)
      | (go_at_call 86; refine (appendUint_any (w.heap.size + 1) 0 x (by omega) _ [] _ (unhide HO3) hs3 (by omega) ((unhide HT).later hb5)).mono ?_; rintro e w4 ⟨v4, rfl, hown4, hb6⟩; have hcb4 := (hb6.cell (p := ⟨w.heap.size, 0, none⟩) (Nat.lt_succ_self _)).trans hcb3; have hb7 := hb5.trans (hb6.mono (Nat.le_succ _)); have hs4 : w.heap.size + 1 ≤ w4.heap.size := (by have := hb6.size; omega); have HO4 := hide hown4; clear hown4 hb6 hcb3))
    have hT0 : (Lib.decDigits x).length ≤ 9 := by rw [Lib.decDigits_length]; exact Cub.nDigits_le9 x hxB
    have hst : w4.ownsRow (w.heap.size + 1) 5 1 v4 (Lib.decDigits x).length (Lib.byteCells (Lib.decDigits x)) := by simpa using unhide HO4
    have HT0 : Hid (Lib.decDigits x = Lib.decDigits (Cub.lval 1000000000 (l.drop m))) := by
      have e : l.drop m = [x] := by
        rw [List.drop_eq_getElem_cons hml, ← unhide HXl, List.drop_of_length_le (by have := unhide HLen; omega)]
      rw [e]; exact (by simp [Cub.lval] : Lib.decDigits x = Lib.decDigits (Cub.lval 1000000000 [x]))
    clear HO4 hx3
    go_loopw [4, 5] (fun v i wr => ∃ (j : Nat) (T : List UInt8), j ≤ m ∧ i = .int .i64 ((j : Int) - 1) ∧ T.length ≤ 9 * (m + 1 - j) ∧ Hid (T = Lib.decDigits (Cub.lval 1000000000 (l.drop j))) ∧
        wr.ownsRow (w.heap.size + 1) 5 1 v T.length (Lib.byteCells T) ∧ wr.cell? ⟨w.heap.size, 0, none⟩ = some (.slice (some ⟨b, o, none⟩) (m + 1) cap) ∧ Below w.heap.size w wr ∧ w.heap.size + 1 ≤ wr.heap.size)
      (fun _ i _ => (intOf i + 1).toNat)
    case atStart => exact ⟨m, Lib.decDigits x, Nat.le_refl _, rfl, by omega, HT0, hst, hcb4, hb7, hs4⟩
    case round =>
      obtain ⟨j, T, hjm, rfl, hTl, HTd, hown, hbox, hbl, hsz⟩ := hrel
      clear hst hcb4 hb7 hs4 hT0 HT0
      by_cases hj0 : j = 0
      · subst hj0
        have hTpos : 0 < T.length := by
          rw [unhide HTd]
          cases e : Lib.decDigits (Cub.lval 1000000000 (l.drop 0)) with
          | nil => exact absurd e (Cub.dec_ne_nil _)
          | cons a t => simp
        obtain ⟨g, cg, rfl⟩ := Joins.ownsRow_form hown hTpos
        have hcv := run_convert_bytes_back (P := Tryz.prog) wr 46 9 5 ⟨g, 0, none⟩ cg T Tryz.underlying46 Tryz.underlying5 Tryz.underlying9 (fun q hq => by
          have := hown.cellAt q (by simpa using hq)
          rw [Lib.add_plain, Nat.zero_add, this]
          simp [Lib.byteCells, hq])
        have HTd' : Hid (T = Lib.decDigits (Cub.lval 1000000000 l)) := by have := unhide HTd; rwa [List.drop_zero] at this
        clear hown HTd
        go_wp2
        go_ret
        exact ⟨by rw [← unhide HTd']; rfl, hbl⟩
      · obtain ⟨i, rfl⟩ : ∃ i, j = i + 1 := ⟨j - 1, by omega⟩
        have hil : i < l.length := by have := unhide HLen; omega
        obtain ⟨d, hd⟩ : ∃ d, d = l[i] := ⟨_, rfl⟩
        have hdB : d < 1000000000 := by rw [hd]; exact (unhide HN).1 _ (List.getElem_mem hil)
        have HXd : Hid (∀ W, Below w.heap.size w W → W.cell? ⟨b, o + i, none⟩ = some (.int .u64 (d : Int))) := fun W hW => by rw [hd]; exact unhide HC W hW i hil
        have HDd := hide hd
        clear hd hj0
        rw [show (((i + 1 : Nat) : Int) - 1) = (i : Int) from by omega]
        go_wp2
        go_loopw [4, 6] (fun v u wq => ∃ (q y : Nat) (T' : List UInt8), q ≤ 9 ∧ u = .int .u64 (y : Int) ∧ y ≤ 100000000 ∧ Hid (y = Cub.unitOf q) ∧ T'.length + q ≤ T.length + 9 ∧ Hid (T' = T ++ Cub.padn (9 - q) (d / 10 ^ q)) ∧
            wq.ownsRow (w.heap.size + 1) 5 1 v T'.length (Lib.byteCells T') ∧ wq.cell? ⟨w.heap.size, 0, none⟩ = some (.slice (some ⟨b, o, none⟩) (m + 1) cap) ∧ Below w.heap.size w wq ∧ w.heap.size + 1 ≤ wq.heap.size)
          (fun _ u _ => (intOf u).toNat)
        case atStart => exact ⟨9, 100000000, T, Nat.le_refl _, rfl, Nat.le_refl _, rfl, Nat.le_refl _, (List.append_nil T).symm, hown, hbox, hbl, hsz⟩
        case round =>
          obtain ⟨q, y, T', hq9, rfl, hy, HY, hTl', HT', hown', hbox', hbl', hsz'⟩ := hrel
          clear hown hbox hbl hsz
          by_cases hq0 : q = 0
          · subst hq0
            have hy0 : y = 0 := unhide HY
            subst hy0
            have HTn : Hid (T' = Lib.decDigits (Cub.lval 1000000000 (l.drop i))) := by
              rw [Cub.dec_limb l i hil (unhide HN).1 (Cub.drop_pos (unhide HN) (i + 1) (by have := unhide HLen; omega)), ← unhide HDd, ← unhide HTd, unhide HT', Cub.pad_all]; exact rfl
            go_wp2
            go_roundw
            case rel => exact ⟨i, T', by omega, rfl, by omega, HTn, hown', hbox', hbl', hsz'⟩
            case measure => simp [intOf]
          · obtain ⟨p, rfl⟩ : ∃ p, q = p + 1 := ⟨q - 1, by omega⟩
            have hyp : 0 < y := by rw [unhide HY]; exact (Cub.unit_pos _).2 (by omega)
            have hyz : ((y : Int) == 0) = false := by rw [beq_eq_false_iff_ne]; omega
            have hxd := unhide HXd wr hbl'
            clear hq0
            obtain ⟨z, hz⟩ : ∃ z, z = d / y := ⟨_, rfl⟩
            have hzd : z < 1000000000 := by rw [hz]; exact Nat.lt_of_le_of_lt (Nat.div_le_self _ _) hdB
            have hq : (d : Int) / (y : Int) = (z : Int) := by rw [hz]; simp
            have HZd : Hid (z = d / 10 ^ p) := by rw [hz, unhide HY, Cub.unit_at]; exact rfl
            clear hz
            go_wp2_with (at_builtin; refine wpList_append_own _ rfl _ _ 46 rfl (w.heap.size + 1) 5 i5 (.int .u8 0) 1 1 Tryz.underlying46 hi5 hz50 hz51 hz52 rfl (by decide) _ _ _ rfl (hown'.alloc _) ⟨wr.heap.size, 0, none⟩ 1 1 [.int .u8 (48 + (z : Int) % 10)] rfl rfl (cell_one_new _ _ _) (fun x hx => by simp at hx; subst hx; rfl) (by unfold maxLen; omega) (by omega) (by simp; omega) ?_; intro v' w1 hownN hgrow _)
            have hsN : w.heap.size + 1 ≤ w1.heap.size := by have := hgrow.size; simp at this; omega
            have hbN : Below (w.heap.size + 1) wr w1 := ((Below.refl _ _).alloc (by omega) _).grown hgrow (by simp; omega) (fun k hk => (hown'.lt k hk).1)
            have hboxN := (hbN.cell (p := ⟨w.heap.size, 0, none⟩) (Nat.lt_succ_self _)).trans hbox'
            have hblN := hbl'.trans (hbN.mono (Nat.le_succ _))
            have hown2 : w1.ownsRow (w.heap.size + 1) 5 1 v' (T' ++ [UInt8.ofNat (48 + z % 10)]).length (Lib.byteCells (T' ++ [UInt8.ofNat (48 + z % 10)])) := by
              rw [← byteCells_snoc _ _ (Nat.mod_lt _ (by decide))]
              simpa using hownN
            have HTn : Hid (T' ++ [UInt8.ofNat (48 + z % 10)] = T ++ Cub.padn (9 - p) (d / 10 ^ p)) := by
              rw [unhide HT', List.append_assoc, unhide HZd, Cub.pad_step d p (by omega)]; exact rfl
            have HYn : Hid (y / 10 = Cub.unitOf p) := by rw [unhide HY, Cub.unit_div]; exact rfl
            clear hownN hgrow hown' hbox' hbl' hbN hxd hq
            go_wp2
            go_roundw
            case rel => exact ⟨p, y / 10, T' ++ [UInt8.ofNat (48 + z % 10)], by omega, by go_num, by omega, HYn, by simp; omega, HTn, hown2, hboxN, hblN, hsN⟩
            case measure => simp [intOf]; omega
end Go.Proofs.YtijifpbpjinmhaaGreatDoor

/- The document's own Root: plain. -/
import Derived.Test.YtlodfcdckeiafaaDoorRefPower
import Derived.Test.YtlodfcdckeiafaaDoorRefText2
import Derived.Test.YtlodfcdckeiafaaDoorPlain
import Derived.Test.YtlodfcdckeiafaaDoorInt
namespace Cub
open Go.Lib (decDigits)
/-- Noughts ahead left out, but for the last digit. -/
theorem plain_list (P : List UInt8) (k : Nat) (hk : k < P.length) (hd : digs P) (h0 : ∀ j (hj : j < P.length), j < k → P[j] = 48) (h1 : k + 1 = P.length ∨ P[k] ≠ 48) : P.drop k = decDigits (dval P) := by
  by_cases h48 : P[k] = 48
  · rcases h1 with h1 | h1
    · have e1 : P = List.replicate P.length 48 := by
        apply List.ext_getElem
        · simp
        · intro j h2 h3
          rw [List.getElem_replicate]
          by_cases hj : j < k
          · exact h0 j h2 hj
          · have : j = k := by omega
            subst this; exact h48
      have e2 : dval P = 0 := by rw [e1]; exact dval_noughts _
      rw [e2]
      have e3 : P.drop k = [P[k]] := by
        rw [List.drop_eq_getElem_cons hk, List.drop_of_length_le (by omega)]
      rw [e3, h48, Go.Lib.decDigits]; simp
    · exact absurd h48 h1
  · exact strip_noughts P k hk hd h0 h48
theorem dval_set (P : List UInt8) (i : Nat) (c : UInt8) (hi : i < P.length) : dval (P.set i c) + (P[i].toNat - 48) * 10 ^ (P.length - 1 - i) = dval P + (c.toNat - 48) * 10 ^ (P.length - 1 - i) := by
  have e1 : P = P.take i ++ P[i] :: P.drop (i + 1) := by
    rw [← List.drop_eq_getElem_cons hi, List.take_append_drop]
  have e2 : P.set i c = P.take i ++ c :: P.drop (i + 1) := by
    rw [List.set_eq_take_append_cons_drop, if_pos hi]
  have l1 : (P.drop (i + 1)).length = P.length - 1 - i := by rw [List.length_drop]; omega
  have d1 : dval P = dval (P.take i) * 10 ^ (P.length - 1 - i + 1) + ((P[i].toNat - 48) * 10 ^ (P.length - 1 - i) + dval (P.drop (i + 1))) := by
    have h := dval_append (P.take i) (P[i] :: P.drop (i + 1))
    rw [← e1, dval_cons, List.length_cons, l1] at h
    exact h
  have d2 : dval (P.set i c) = dval (P.take i) * 10 ^ (P.length - 1 - i + 1) + ((c.toNat - 48) * 10 ^ (P.length - 1 - i) + dval (P.drop (i + 1))) := by
    have h := dval_append (P.take i) (c :: P.drop (i + 1))
    rw [← e2, dval_cons, List.length_cons, l1] at h
    exact h
  omega
theorem digs_set {P : List UInt8} (h : digs P) (i : Nat) (c : UInt8) (hc : 48 ≤ c.toNat ∧ c.toNat ≤ 57) : digs (P.set i c) := by
  intro x hx
  rcases List.mem_or_eq_of_mem_set hx with h1 | h1
  · exact h x h1
  · subst h1; exact hc

/-- Digit by digit: the digits ahead of place i are found. -/
structure FoundTo (m n size : Nat) (P : List UInt8) (i : Nat) : Prop where
  len : P.length = size
  dig : digs P
  rest : ∀ j (hj : j < P.length), i ≤ j → P[j] = 48
  low : dval P ^ n ≤ m
  high : m < (dval P + 10 ^ (size - i)) ^ n
/-- Digit i is at d. -/
structure AtDigit (m n size : Nat) (P : List UInt8) (i d : Nat) : Prop where
  len : P.length = size
  dig : digs P
  lt : i < size
  nine : d ≤ 9
  here : P[i]? = some (UInt8.ofNat (48 + d))
  rest : ∀ j (hj : j < P.length), i + 1 ≤ j → P[j] = 48
  low : dval P ^ n ≤ m
  high : m < (dval P + (10 - d) * 10 ^ (size - 1 - i)) ^ n
theorem FoundTo.start (m n size L : Nat) (hn : 1 ≤ n) (hm : m < 10 ^ L) (hs : L ≤ size * n) : FoundTo m n size (List.replicate size 48) 0 := by
  refine ⟨by simp, ?_, ?_, ?_, ?_⟩
  · intro c hc; rw [List.mem_replicate] at hc; rw [hc.2]; decide
  · intro j hj _; rw [List.getElem_replicate]
  · rw [dval_noughts, Nat.zero_pow (by omega)]; omega
  · rw [dval_noughts, Nat.zero_add, Nat.sub_zero, ← Nat.pow_mul]
    exact Nat.lt_of_lt_of_le hm (Nat.pow_le_pow_right (by decide) hs)
theorem FoundTo.digit {m n size : Nat} {P : List UInt8} {i : Nat} (h : FoundTo m n size P i) (hi : i < size) : AtDigit m n size P i 0 := by
  refine ⟨h.len, h.dig, hi, by omega, ?_, fun j hj hij => h.rest j hj (by omega), h.low, ?_⟩
  · rw [List.getElem?_eq_getElem (by rw [h.len]; exact hi), h.rest i (by rw [h.len]; exact hi) (Nat.le_refl _)]; rfl
  · have e : (10 : Nat) ^ (size - i) = (10 - 0) * 10 ^ (size - 1 - i) := by
      rw [Nat.sub_zero, Nat.mul_comm, ← Nat.pow_succ]; congr 1; omega
    rw [← e]; exact h.high
/-- What one more at digit i comes to. -/
theorem AtDigit.more {m n size : Nat} {P : List UInt8} {i d : Nat} (h : AtDigit m n size P i d) (hd : d < 9) : dval (P.set i (UInt8.ofNat (48 + (d + 1)))) = dval P + 10 ^ (size - 1 - i) := by
  have hi : i < P.length := by rw [h.len]; exact h.lt
  have e := dval_set P i (UInt8.ofNat (48 + (d + 1))) hi
  have hh := h.here
  rw [List.getElem?_eq_getElem hi, Option.some.injEq] at hh
  rw [hh, toNat_dig d (by omega), toNat_dig (d + 1) (by omega), h.len] at e
  rw [show 48 + (d + 1) - 48 = d + 1 by omega, show 48 + d - 48 = d by omega, Nat.add_mul] at e
  omega
theorem AtDigit.up {m n size : Nat} {P : List UInt8} {i d : Nat} (h : AtDigit m n size P i d) (hd : d < 9) (hlow : dval (P.set i (UInt8.ofNat (48 + (d + 1)))) ^ n ≤ m) : AtDigit m n size (P.set i (UInt8.ofNat (48 + (d + 1)))) i (d + 1) := by
  have hi : i < P.length := by rw [h.len]; exact h.lt
  refine ⟨by rw [List.length_set]; exact h.len, digs_set h.dig _ _ (by rw [toNat_dig (d + 1) (by omega)]; omega), h.lt, by omega, by simp [hi], fun j hj hij => ?_, hlow, ?_⟩
  · rw [List.getElem_set_ne (by omega)]; exact h.rest j (by rw [List.length_set] at hj; exact hj) hij
  · rw [h.more hd]
    have e : dval P + 10 ^ (size - 1 - i) + (10 - (d + 1)) * 10 ^ (size - 1 - i) = dval P + (10 - d) * 10 ^ (size - 1 - i) := by
      rw [show 10 - d = (10 - (d + 1)) + 1 by omega, Nat.add_mul, Nat.one_mul]; omega
    rw [e]; exact h.high
theorem AtDigit.nineDone {m n size : Nat} {P : List UInt8} {i : Nat} (h : AtDigit m n size P i 9) : FoundTo m n size P (i + 1) := by
  refine ⟨h.len, h.dig, h.rest, h.low, ?_⟩
  have := h.high
  rw [show 10 - 9 = 1 by rfl, Nat.one_mul] at this
  rw [show size - (i + 1) = size - 1 - i by omega]; exact this
theorem AtDigit.done {m n size : Nat} {P : List UInt8} {i d : Nat} (h : AtDigit m n size P i d) (hd : d < 9) (hhigh : m < dval (P.set i (UInt8.ofNat (48 + (d + 1)))) ^ n) : FoundTo m n size P (i + 1) := by
  rw [h.more hd] at hhigh
  refine ⟨h.len, h.dig, h.rest, h.low, ?_⟩
  rw [show size - (i + 1) = size - 1 - i by omega]; exact hhigh
theorem FoundTo.last {m n size : Nat} {P : List UInt8} (h : FoundTo m n size P size) (hn : 1 ≤ n) : dval P = rootOf m n := by
  refine root_eq hn h.low ?_
  have := h.high
  rwa [Nat.sub_self, Nat.pow_zero] at this
theorem set_back (P : List UInt8) (i : Nat) (c : UInt8) (x : UInt8) (h : P[i]? = some x) : (P.set i c).set i x = P := by
  rw [List.set_set]
  apply List.ext_getElem?
  intro j
  rw [List.getElem?_set]
  split
  · rename_i e; subst e
    have := (List.getElem?_eq_some_iff.1 h).1
    simp [this]
    exact ((List.getElem?_eq_some_iff.1 h).2).symm
  · rfl
end Cub
namespace Go.Proofs.YtlodfcdckeiafaaDoor
open Go.RowKit

/-- Block g holds just these bytes. -/
def OwnB (w : World) (g : Nat) (l : List UInt8) : Prop := w.heap[g]? = some (.cells (Lib.byteCells l).toArray 5 (0, 0))
theorem OwnB.lt {w : World} {g : Nat} {l : List UInt8} (h : OwnB w g l) : g < w.heap.size := (Array.getElem?_eq_some_iff.1 h).1
theorem OwnB.cell {w : World} {g : Nat} {l : List UInt8} (h : OwnB w g l) (i : Nat) (hi : i < l.length) : w.cell? ⟨g, i, none⟩ = some (.int .u8 (l[i].toNat : Int)) := by
  unfold OwnB at h
  simp [World.cell?, h, Lib.byteCells, hi]
theorem OwnB.frozen {w : World} {g : Nat} {l : List UInt8} (h : OwnB w g l) (i : Nat) : w.frozen? ⟨g, i, none⟩ = false := by
  unfold OwnB at h
  simp [World.frozen?, h]
theorem OwnB.set {w : World} {g : Nat} {l : List UInt8} (h : OwnB w g l) (i : Nat) (x : UInt8) (z : Int) (hz : z = (x.toNat : Int)) : OwnB (w.setCell ⟨g, i, none⟩ (.int .u8 z)) g (l.set i x) := by
  subst hz
  unfold OwnB at h ⊢
  simp only [World.setCell, Array.getElem?_modify, h, Option.map_some]
  simp [Lib.byteCells, List.map_set]
theorem OwnB.later {w w' : World} {g : Nat} {l : List UInt8} (h : OwnB w g l) (hb : Below w.heap.size w w') : OwnB w' g l := (hb.block g h.lt).trans h

set_option maxRecDepth 100000 in
set_option maxHeartbeats 400000 in
theorem plain_any (g n : Nat) (P : List UInt8) (w : World) (h : OwnB w g P) (hn : n = P.length) (h1 : 1 ≤ n) (h2 : n ≤ 1000000) (hd : Cub.digs P) :
    Calls Tryd.prog 94 #[.slice (some ⟨g, 0, none⟩) n n] w fun e w' => e = .returned (.string (nb (Cub.dval P))) ∧ w' = w := by
  have HO := hide h
  have HN := hide hn
  have HD := hide hd
  clear h hn hd
  go_enter Tryd.func94, Tryd.ntmps94
  go_wp2
  go_loop [3] (fun t => ∃ k : Nat, k < n ∧ t = .int .i64 (k : Int) ∧ Hid (∀ j (hj : j < P.length), j < k → P[j] = 48)) (fun t => n - (intOf t).toNat)
  case atStart => exact ⟨0, h1, rfl, fun j _ hj => absurd hj (Nat.not_lt_zero _)⟩
  case round =>
    obtain ⟨k, hk, rfl, HK⟩ := hrel
    have hkP : k < P.length := by have := unhide HN; omega
    have hcell := (unhide HO).cell k hkP
    by_cases hlast : k + 1 = n
    · have HE : Hid (P.drop k = Lib.decDigits (Cub.dval P)) := Cub.plain_list P k hkP (unhide HD) (unhide HK) (Or.inl (by have := unhide HN; omega))
      have hcv := run_convert_bytes_back (P := Tryd.prog) w 54 9 5 ⟨g, k, none⟩ (n - k) (P.drop k) Tryd.underlying54 Tryd.underlying5 Tryd.underlying9 (fun q hq => by
        rw [Lib.add_plain, (unhide HO).cell (k + q) (by rw [List.length_drop] at hq; omega), List.getElem_drop])
      rw [List.length_drop, ← unhide HN] at hcv
      have hlt : ¬ ((k : Int) < (n : Int) - 1) := by omega
      generalize P[k].toNat = c at *
      go_wp2
      go_ret
      exact ⟨by rw [unhide HE]; rfl, rfl⟩
    · have hlt : (k : Int) < (n : Int) - 1 := by omega
      by_cases h48 : P[k] = 48
      · have h48' : ((P[k].toNat : Int) == 48) = true := by rw [beq_iff_eq]; exact (byte_48 _).2 h48
        have HK' : Hid (∀ j (hj : j < P.length), j < k + 1 → P[j] = 48) := fun j hj h => by
          by_cases e : j < k
          · exact unhide HK j hj e
          · have : j = k := by omega
            subst this; exact h48
        clear h48
        go_wp2
        go_round
        case rel => exact ⟨k + 1, by omega, by go_num, HK'⟩
        case measure => simp [intOf]; omega
      · have h48' : ((P[k].toNat : Int) == 48) = false := by rw [beq_eq_false_iff_ne]; exact fun h => h48 ((byte_48 _).1 h)
        have HE : Hid (P.drop k = Lib.decDigits (Cub.dval P)) := Cub.plain_list P k hkP (unhide HD) (unhide HK) (Or.inr h48)
        have hcv := run_convert_bytes_back (P := Tryd.prog) w 54 9 5 ⟨g, k, none⟩ (n - k) (P.drop k) Tryd.underlying54 Tryd.underlying5 Tryd.underlying9 (fun q hq => by
          rw [Lib.add_plain, (unhide HO).cell (k + q) (by rw [List.length_drop] at hq; omega), List.getElem_drop])
        rw [List.length_drop, ← unhide HN] at hcv
        clear h48
        go_wp2
        go_ret
        exact ⟨by rw [unhide HE]; rfl, rfl⟩
end Go.Proofs.YtlodfcdckeiafaaDoor

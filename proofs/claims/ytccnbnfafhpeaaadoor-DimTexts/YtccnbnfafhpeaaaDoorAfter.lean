/- A term's end: what the reader does there, plain. -/
import Derived.Test.YtccnbnfafhpeaaaDoorScan
import Derived.Test.YtccnbnfafhpeaaaDoorBackMath
namespace Go.Proofs.YtccnbnfafhpeaaaDoor
open Go.RowKit

def sgn (u : Bool) (n : Int) : Int := if u = true then -n else n
/-- Behind a term. -/
def afterTerm (s : ByteArray) (p : Nat) (d : List Int) (u : Bool) (k : Nat) (n : Int) (q : Nat) : Out :=
  if okB (d.getD k 0 + sgn u n) = false then .err 51 (p : Int)
  else if q = s.size then .done (d.set k (d.getD k 0 + sgn u n))
  else if byteAt s q = 32 ∨ byteAt s q = 47 then scan s (q + 1) (fresh (d.set k (d.getD k 0 + sgn u n)) (byteAt s q == 47)) else .err 3 (q : Int)
def TermOK (s : ByteArray) (p : Nat) (k n q e : Int) : Prop :=
  (e = 0 ∧ ∃ (kk qq : Nat), k = kk ∧ q = qq ∧ kk < 8 ∧ -99 ≤ n ∧ n ≤ 99 ∧ p < qq ∧ qq ≤ s.size ∧ ∀ d u, d.length = 8 → rightB d = true → scan s p (fresh d u) = afterTerm s p d u kk n qq) ∨
  ((e = 3 ∨ e = 51) ∧ ∀ d u, d.length = 8 → rightB d = true → scan s p (fresh d u) = .err e q)
theorem right_of_set {d : List Int} {k : Nat} (hl : d.length = 8) (hk : k < 8) (hr : rightB d = true) (x : Int) : rightB (d.set k x) = okB x := by
  cases h : okB x with
  | true => exact right_set hr (okB_out h)
  | false => exact rightB_false k x (by rw [List.getElem?_set_self (by omega)]) h
theorem prodOf_eq (d : List Int) (nx : Int) (u : Bool) (k : Nat) (la na : Int) (b : Bool) (z : Int) : prodOf ⟨d, nx, u, k, la, na, b, z⟩ = d.set k (d.getD k 0 + sgn u (if b = true then -z else z)) := by
  unfold prodOf sgn
  cases b <;> cases u <;> simp
theorem finish_after (s : ByteArray) (p q : Nat) (hq : q ≤ s.size) (d : List Int) (nx : Int) (u : Bool) (k : Nat) (na : Int) (b : Bool) (z : Int) (st : Rd) (hd : d.length = 8) (hr : rightB d = true) (hk : k < 8) (hz : z ≤ 99)
    (h : ∀ c : Int, (q = s.size ∧ c = -1) ∨ (q < s.size ∧ c = (byteAt s q : Int)) → takeE st (q : Int) c = finishE ⟨d, nx, u, k, (p : Int), na, b, z⟩ (q : Int) c) :
    scan s q st = afterTerm s p d u k (if b = true then -z else z) q := by
  have hF : ∀ c : Int, finishE ⟨d, nx, u, k, (p : Int), na, b, z⟩ (q : Int) c = (if okB (d.getD k 0 + sgn u (if b = true then -z else z)) = false then .err 51 (p : Int) else if c = 32 ∨ c = 47 ∨ c = -1 then .ok ⟨d.set k (d.getD k 0 + sgn u (if b = true then -z else z)), 0, c == 47, 0, 0, 0, false, 0⟩ else .err 3 (q : Int)) := fun c => by
    unfold finishE
    rw [if_neg (show ¬ (99 : Int) < z by omega), prodOf_eq, right_of_set hd hk hr]
  unfold afterTerm
  by_cases he : q = s.size
  · have h1 := (h (-1) (.inl ⟨he, rfl⟩)).trans (hF (-1))
    rw [if_pos (show (-1 : Int) = 32 ∨ (-1 : Int) = 47 ∨ (-1 : Int) = -1 by omega)] at h1
    rw [if_pos he]
    rw [he] at h1 ⊢
    rw [scan_end, h1]
    by_cases ho : okB (d.getD k 0 + sgn u (if b = true then -z else z)) = false
    · rw [if_pos ho, if_pos ho]
    · rw [if_neg ho, if_neg ho]
  · have hlt : q < s.size := by omega
    have h1 := (h (byteAt s q : Int) (.inr ⟨hlt, rfl⟩)).trans (hF _)
    rw [if_neg he, scan_step s q hlt, h1]
    have hc : ((byteAt s q : Int) = 32 ∨ (byteAt s q : Int) = 47 ∨ (byteAt s q : Int) = -1) ↔ (byteAt s q = 32 ∨ byteAt s q = 47) := by omega
    by_cases ho : okB (d.getD k 0 + sgn u (if b = true then -z else z)) = false
    · rw [if_pos ho, if_pos ho]
    · rw [if_neg ho, if_neg ho]
      by_cases hb : byteAt s q = 32 ∨ byteAt s q = 47
      · rw [if_pos (hc.2 hb), if_pos hb]
        have : ((byteAt s q : Int) == 47) = (byteAt s q == 47) := by
          rw [Bool.eq_iff_iff, beq_iff_eq, beq_iff_eq]; omega
        rw [this]
        rfl
      · rw [if_neg (fun x => hb (hc.1 x)), if_neg hb]
/-- The state ahead of a number's digit. -/
def numSt (d : List Int) (u : Bool) (k p : Nat) (neg : Bool) (first q : Nat) (n : Int) : Rd := ⟨d, if q = first then (if neg = true then 3 else 2) else 4, u, k, (p : Int), ((p + 2 : Nat) : Int), neg, min n 100⟩
theorem num_digit (s : ByteArray) (d : List Int) (u : Bool) (k p : Nat) (neg : Bool) (first q : Nat) (n : Int) (hf : first ≤ q) (hq : q < s.size) (h1 : 48 ≤ byteAt s q) (h2 : byteAt s q ≤ 57) (hn : 0 ≤ n) :
    scan s q (numSt d u k p neg first q n) = scan s (q + 1) (numSt d u k p neg first (q + 1) (if n < 1000 then 10 * n + ((byteAt s q : Int) - 48) else n)) := by
  apply scan_ok hq
  unfold takeE numSt
  have e0 : ¬ (if q = first then (if neg = true then 3 else 2) else 4 : Int) = 0 := by split <;> (try split) <;> omega
  have e1 : ¬ (if q = first then (if neg = true then 3 else 2) else 4 : Int) = 1 := by split <;> (try split) <;> omega
  simp only [e0, e1, if_false]
  rw [if_neg (by omega), if_pos (by omega), if_neg (show ¬ q + 1 = first by omega)]
  have : min (min n 100 * 10 + ((byteAt s q : Int) - 48)) 100 = min (if n < 1000 then 10 * n + ((byteAt s q : Int) - 48) else n) 100 := by
    split <;> omega
  rw [this]
/-- Where no digit stands. -/
theorem num_none (s : ByteArray) (d : List Int) (u : Bool) (k p : Nat) (neg : Bool) (first : Nat) (n : Int) (hq : first ≤ s.size) (h : first < s.size → ¬ (48 ≤ byteAt s first ∧ byteAt s first ≤ 57) ∧ (neg = false → byteAt s first ≠ 45)) :
    scan s first (numSt d u k p neg first first n) = .err 3 (first : Int) := by
  have key : ∀ c : Int, (first = s.size ∧ c = -1) ∨ (first < s.size ∧ c = (byteAt s first : Int)) → takeE (numSt d u k p neg first first n) (first : Int) c = .err 3 (first : Int) := fun c hc => by
    unfold takeE numSt
    rw [if_pos rfl]
    cases neg with
    | true =>
      simp only [if_true]
      rw [if_neg (by omega), if_neg (by omega), if_neg (by omega), if_neg (by
        rintro ⟨h1, h2⟩
        rcases hc with ⟨_, rfl⟩ | ⟨hl, rfl⟩
        · omega
        · exact (h hl).1 (by omega)), if_neg (by omega)]
    | false =>
      simp only [Bool.false_eq_true, if_false]
      rw [if_neg (by omega), if_neg (by omega), if_neg (by
        rintro ⟨_, h2⟩
        rcases hc with ⟨_, rfl⟩ | ⟨hl, rfl⟩
        · omega
        · exact (h hl).2 rfl (by omega)), if_neg (by
        rintro ⟨h1, h2⟩
        rcases hc with ⟨_, rfl⟩ | ⟨hl, rfl⟩
        · omega
        · exact (h hl).1 (by omega)), if_neg (by omega)]
  by_cases he : first = s.size
  · rw [he] at key ⊢
    exact scan_end_err (key (-1) (.inl ⟨rfl, rfl⟩))
  · exact scan_err (by omega) (key _ (.inr ⟨by omega, rfl⟩))
/-- Behind a number. -/
theorem num_after (s : ByteArray) (d : List Int) (u : Bool) (k p : Nat) (neg : Bool) (first q : Nat) (n : Int) (hf : first < q) (hq : q ≤ s.size) (h : q < s.size → ¬ (48 ≤ byteAt s q ∧ byteAt s q ≤ 57)) (hd : d.length = 8) (hr : rightB d = true) (hk : k < 8) :
    scan s q (numSt d u k p neg first q n) = if 99 < n then .err 51 ((p + 2 : Nat) : Int) else afterTerm s p d u k (if neg = true then -n else n) q := by
  have key : ∀ c : Int, (q = s.size ∧ c = -1) ∨ (q < s.size ∧ c = (byteAt s q : Int)) → takeE (numSt d u k p neg first q n) (q : Int) c = finishE ⟨d, 4, u, k, (p : Int), ((p + 2 : Nat) : Int), neg, min n 100⟩ (q : Int) c := fun c hc => by
    unfold takeE numSt
    rw [if_neg (show ¬ q = first by omega)]
    simp only
    rw [if_neg (by omega), if_neg (by omega), if_neg (by omega), if_neg (by
        rintro ⟨h1, h2⟩
        rcases hc with ⟨_, rfl⟩ | ⟨hl, rfl⟩
        · omega
        · exact (h hl) (by omega)), if_pos trivial]
  by_cases hn : 99 < n
  · rw [if_pos hn]
    have key2 : ∀ c : Int, finishE ⟨d, 4, u, k, (p : Int), ((p + 2 : Nat) : Int), neg, min n 100⟩ (q : Int) c = .err 51 ((p + 2 : Nat) : Int) := fun c => by
      unfold finishE
      rw [if_pos (show 99 < min n 100 by omega)]
    by_cases he : q = s.size
    · rw [he] at key key2 ⊢
      exact scan_end_err ((key (-1) (.inl ⟨rfl, rfl⟩)).trans (key2 _))
    · exact scan_err (by omega) ((key _ (.inr ⟨by omega, rfl⟩)).trans (key2 _))
  · rw [if_neg hn, show (if neg = true then -n else n) = (if neg = true then -(min n 100) else min n 100) by rw [show min n 100 = n by omega]]
    exact finish_after s p q hq d 4 u k _ neg (min n 100) _ hd hr hk (by omega) key
/-- A letter is begun with. -/
theorem scan_letter (s : ByteArray) (p : Nat) (hp : p < s.size) (d : List Int) (u : Bool) (k : Nat) (h : placeOf (byteAt s p : Int) = some k) : scan s p (fresh d u) = scan s (p + 1) ⟨d, 1, u, k, (p : Int), 0, false, 0⟩ := by
  apply scan_ok hp
  unfold takeE fresh
  rw [if_pos rfl, h]
theorem scan_bare (s : ByteArray) (p : Nat) (hp : p < s.size) (k : Nat) (h : placeOf (byteAt s p : Int) = some k) (h2 : p + 1 < s.size → byteAt s (p + 1) ≠ 94) (d : List Int) (u : Bool) (hd : d.length = 8) (hr : rightB d = true) : scan s p (fresh d u) = afterTerm s p d u k 1 (p + 1) := by
  rw [scan_letter s p hp d u k h]
  refine finish_after s p (p + 1) (by omega) d 1 u k 0 false 1 _ hd hr (placeOf_lt h) (by omega) ?_
  intro c hc
  unfold takeE
  simp only
  rw [if_neg (by omega), if_pos trivial, if_neg (by
    rcases hc with ⟨_, rfl⟩ | ⟨hl, rfl⟩
    · omega
    · have := h2 hl; omega)]
theorem scan_raise (s : ByteArray) (p : Nat) (hp : p + 1 < s.size) (k : Nat) (h : placeOf (byteAt s p : Int) = some k) (h2 : byteAt s (p + 1) = 94) (d : List Int) (u : Bool) : scan s p (fresh d u) = scan s (p + 2) (numSt d u k p false (p + 2) (p + 2) 0) := by
  rw [scan_letter s p (by omega) d u k h]
  apply scan_ok hp
  unfold takeE numSt
  simp only
  rw [if_neg (by omega), if_pos trivial, if_pos (by omega)]
  simp
  omega
theorem scan_minus (s : ByteArray) (p : Nat) (hp : p + 2 < s.size) (h2 : byteAt s (p + 2) = 45) (d : List Int) (u : Bool) (k : Nat) : scan s (p + 2) (numSt d u k p false (p + 2) (p + 2) 0) = scan s (p + 3) (numSt d u k p true (p + 3) (p + 3) 0) := by
  apply scan_ok hp
  unfold takeE numSt
  simp [h2]
theorem scan_noletter (s : ByteArray) (p : Nat) (hp : p < s.size) (h : placeOf (byteAt s p : Int) = none) (d : List Int) (u : Bool) : scan s p (fresh d u) = .err 3 (p : Int) := by
  apply scan_err hp
  unfold takeE fresh
  rw [if_pos rfl, h]
theorem scan_nothing (s : ByteArray) (d : List Int) (u : Bool) : scan s s.size (fresh d u) = .err 3 (s.size : Int) := by
  apply scan_end_err
  unfold takeE fresh
  rw [if_pos rfl]
  have : placeOf (-1) = none := by decide
  rw [this]
end Go.Proofs.YtccnbnfafhpeaaaDoor

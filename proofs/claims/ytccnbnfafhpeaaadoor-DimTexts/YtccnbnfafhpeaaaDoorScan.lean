/- A dimension's text, read byte by byte: plain. -/
import Derived.Test.YtccnbnfafhpeaaaDoorReader
namespace Go.Proofs.YtccnbnfafhpeaaaDoor
open Go.RowKit

inductive TR | err (e pl : Int) | ok (s : Rd)
/-- The product with the last term. -/
def prodOf (s : Rd) : List Int := s.prod.set s.place (s.prod.getD s.place 0 + (if (s.below == s.under) = true then s.size else -s.size))
def finishE (s : Rd) (at_ c : Int) : TR :=
  if 99 < s.size then .err 51 s.numberAt else
  if rightB (prodOf s) = false then .err 51 s.letterAt else
  if c = 32 ∨ c = 47 ∨ c = -1 then .ok ⟨prodOf s, 0, c == 47, 0, 0, 0, false, 0⟩ else .err 3 at_
/-- One rune more. -/
def takeE (s : Rd) (at_ c : Int) : TR :=
  if s.next = 0 then (match placeOf c with | some k => .ok { s with next := 1, place := k, letterAt := at_ } | none => .err 3 at_)
  else if s.next = 1 then (if c = 94 then .ok { s with next := 2, numberAt := at_ + 1 } else finishE { s with size := 1 } at_ c)
  else if s.next = 2 ∧ c = 45 then .ok { s with next := 3, below := true }
  else if 48 ≤ c ∧ c ≤ 57 then .ok { s with next := 4, size := min (s.size * 10 + (c - 48)) 100 }
  else if s.next = 4 then finishE s at_ c
  else .err 3 at_
/-- What comes of a text: a fault with its place, or the dimension. -/
inductive Out | err (e pl : Int) | done (l : List Int)
def scanN (s : ByteArray) : Nat → Nat → Rd → Out
  | 0, _, st => (match takeE st (s.size : Int) (-1) with | .err e pl => .err e pl | .ok st' => .done st'.prod)
  | n + 1, p, st => (match takeE st (p : Int) ((s.data.toList.getD p 0).toNat : Int) with | .err e pl => .err e pl | .ok st' => scanN s n (p + 1) st')
/-- From place p on. -/
def scan (s : ByteArray) (p : Nat) (st : Rd) : Out := scanN s (s.size - p) p st
def byteAt (s : ByteArray) (p : Nat) : Nat := (s.data.toList.getD p 0).toNat
theorem byteAt_eq (s : ByteArray) (p : Nat) (h : p < s.size) : byteAt s p = (s[p]'h).toNat := by
  unfold byteAt
  rw [List.getD_eq_getElem?_getD, List.getElem?_eq_getElem (by simpa using h)]
  rfl
theorem byteAt_lt (s : ByteArray) (p : Nat) : byteAt s p < 256 := UInt8.toNat_lt _
theorem scan_end (s : ByteArray) (st : Rd) : scan s s.size st = (match takeE st (s.size : Int) (-1) with | .err e pl => .err e pl | .ok st' => .done st'.prod) := by
  unfold scan; rw [Nat.sub_self]; rfl
theorem scan_step (s : ByteArray) (p : Nat) (h : p < s.size) (st : Rd) : scan s p st = (match takeE st (p : Int) (byteAt s p : Int) with | .err e pl => .err e pl | .ok st' => scan s (p + 1) st') := by
  unfold scan
  obtain ⟨n, hn⟩ : ∃ n, s.size - p = n + 1 := ⟨s.size - p - 1, by omega⟩
  rw [hn, show s.size - (p + 1) = n by omega]
  rfl
theorem scan_ok {s : ByteArray} {p : Nat} (h : p < s.size) {st st' : Rd} (ht : takeE st (p : Int) (byteAt s p : Int) = .ok st') : scan s p st = scan s (p + 1) st' := by rw [scan_step s p h, ht]
theorem scan_err {s : ByteArray} {p : Nat} (h : p < s.size) {st : Rd} {e pl : Int} (ht : takeE st (p : Int) (byteAt s p : Int) = .err e pl) : scan s p st = .err e pl := by rw [scan_step s p h, ht]
theorem scan_end_err {s : ByteArray} {st : Rd} {e pl : Int} (ht : takeE st (s.size : Int) (-1) = .err e pl) : scan s s.size st = .err e pl := by rw [scan_end s, ht]
theorem scan_end_ok {s : ByteArray} {st st' : Rd} (ht : takeE st (s.size : Int) (-1) = .ok st') : scan s s.size st = .done st'.prod := by rw [scan_end s, ht]
/-- A reader that stands ahead of a term. -/
def fresh (d : List Int) (u : Bool) : Rd := ⟨d, 0, u, 0, 0, 0, false, 0⟩
/-- What a reader keeps to. -/
structure Good (s : Rd) : Prop where
  len : s.prod.length = 8
  right : rightB s.prod = true
  place : s.place < 8
  lo : 0 ≤ s.size
  hi : s.size ≤ 100
  next : s.next = 0 ∨ s.next = 1 ∨ s.next = 2 ∨ s.next = 3 ∨ s.next = 4
theorem Good.at {s : Rd} (h : Good s) : ∃ x, s.prod[s.place]? = some x ∧ s.prod.getD s.place 0 = x ∧ -99 ≤ x ∧ x ≤ 99 := by
  have hl : s.place < s.prod.length := by rw [h.len]; exact h.place
  refine ⟨s.prod[s.place], List.getElem?_eq_getElem hl, by simp [List.getD_eq_getElem?_getD, hl], rightB_get h.right _ _ (List.getElem?_eq_getElem hl)⟩
theorem good_fresh {d : List Int} (u : Bool) (h1 : d.length = 8) (h2 : rightB d = true) : Good (fresh d u) := ⟨h1, h2, by show 0 < 8; omega, by show (0 : Int) ≤ 0; omega, by show (0 : Int) ≤ 100; omega, .inl rfl⟩
theorem placeOf_lt {c : Int} {k : Nat} (h : placeOf c = some k) : k < 8 := by
  unfold placeOf at h
  have := (List.findIdx?_eq_some_iff_getElem.1 h).1
  simpa [lettersL] using this
theorem finishE_good {s s' : Rd} {at_ c : Int} (h : Good s) (ht : finishE s at_ c = .ok s') : Good s' := by
  unfold finishE at ht
  split at ht
  · cases ht
  · split at ht
    · cases ht
    · rename_i hr
      split at ht
      · injection ht with ht
        subst ht
        exact ⟨by simpa [prodOf] using h.len, by simpa using hr, by show 0 < 8; omega, by show (0 : Int) ≤ 0; omega, by show (0 : Int) ≤ 100; omega, .inl rfl⟩
      · cases ht
theorem takeE_good {s s' : Rd} {at_ c : Int} (h : Good s) (ht : takeE s at_ c = .ok s') : Good s' := by
  unfold takeE at ht
  split at ht
  · split at ht
    · rename_i k hk
      injection ht with ht
      subst ht
      exact ⟨h.len, h.right, placeOf_lt hk, h.lo, h.hi, .inr (.inl rfl)⟩
    · cases ht
  · split at ht
    · split at ht
      · injection ht with ht
        subst ht
        exact ⟨h.len, h.right, h.place, h.lo, h.hi, .inr (.inr (.inl rfl))⟩
      · exact finishE_good (s := { s with size := 1 }) ⟨h.len, h.right, h.place, by show (0 : Int) ≤ 1; omega, by show (1 : Int) ≤ 100; omega, h.next⟩ ht
    · split at ht
      · injection ht with ht
        subst ht
        exact ⟨h.len, h.right, h.place, h.lo, h.hi, .inr (.inr (.inr (.inl rfl)))⟩
      · split at ht
        · rename_i hd
          injection ht with ht
          subst ht
          have h1 := h.lo
          refine ⟨h.len, h.right, h.place, ?_, ?_, .inr (.inr (.inr (.inr rfl)))⟩
          · show 0 ≤ min (s.size * 10 + (c - 48)) 100
            omega
          · show min (s.size * 10 + (c - 48)) 100 ≤ 100
            omega
        · split at ht
          · exact finishE_good h ht
          · cases ht
/-- The eight letters. -/
theorem placeOf_none {c : Int} (h : placeOf c = none) : c ≠ 76 ∧ c ≠ 77 ∧ c ≠ 84 ∧ c ≠ 73 ∧ c ≠ 72 ∧ c ≠ 78 ∧ c ≠ 74 ∧ c ≠ 66 := by
  unfold placeOf at h
  rw [List.findIdx?_eq_none_iff] at h
  have g := fun r hr => h r hr
  simp only [beq_eq_false_iff_ne, ne_eq] at g
  have e := fun r (hr : r ∈ lettersL) => fun hc : c = (r : Int) => g r hr hc.symm
  exact ⟨e 76 (by decide), e 77 (by decide), e 84 (by decide), e 73 (by decide), e 72 (by decide), e 78 (by decide), e 74 (by decide), e 66 (by decide)⟩
theorem placeOf_is {c : Int} {k : Nat} (h : placeOf c = some k) : k < 8 ∧ c = ((lettersL.getD k 0 : Nat) : Int) := by
  refine ⟨placeOf_lt h, ?_⟩
  unfold placeOf at h
  obtain ⟨h1, h2, _⟩ := List.findIdx?_eq_some_iff_getElem.1 h
  rw [List.getD_eq_getElem?_getD, List.getElem?_eq_getElem h1]
  simp only [beq_iff_eq] at h2
  exact h2.symm
theorem placeOf_big {c : Int} (h : 128 ≤ c) : placeOf c = none := by
  cases hc : placeOf c with
  | none => rfl
  | some k =>
    obtain ⟨hk, rfl⟩ := placeOf_is hc
    exfalso
    rcases eight (Nat.le_of_lt hk) with rfl | rfl | rfl | rfl | rfl | rfl | rfl | rfl | rfl <;> simp [lettersL] at h
/-- Beyond ASCII every rune is the same fault. -/
theorem finishE_big {s : Rd} {at_ c r : Int} (hc : 128 ≤ c) (hr : 128 ≤ r) : finishE s at_ c = finishE s at_ r ∧ ∃ e pl, finishE s at_ r = .err e pl := by
  unfold finishE
  rw [if_neg (show ¬ (c = 32 ∨ c = 47 ∨ c = -1) by omega), if_neg (show ¬ (r = 32 ∨ r = 47 ∨ r = -1) by omega)]
  refine ⟨rfl, ?_⟩
  split
  · exact ⟨_, _, rfl⟩
  · split
    · exact ⟨_, _, rfl⟩
    · exact ⟨_, _, rfl⟩
theorem takeE_big {s : Rd} {at_ c r : Int} (hc : 128 ≤ c) (hr : 128 ≤ r) : takeE s at_ c = takeE s at_ r ∧ ∃ e pl, takeE s at_ r = .err e pl := by
  unfold takeE
  rw [placeOf_big hc, placeOf_big hr]
  have a1 : ¬ c = 94 := by omega
  have a2 : ¬ r = 94 := by omega
  have a3 : ¬ (s.next = 2 ∧ c = 45) := by omega
  have a4 : ¬ (s.next = 2 ∧ r = 45) := by omega
  have a5 : ¬ (48 ≤ c ∧ c ≤ 57) := by omega
  have a6 : ¬ (48 ≤ r ∧ r ≤ 57) := by omega
  simp only [a1, a2, a3, a4, a5, a6, if_false]
  split
  · exact ⟨rfl, _, _, rfl⟩
  · split
    · exact finishE_big hc hr
    · split
      · exact finishE_big hc hr
      · exact ⟨rfl, _, _, rfl⟩
end Go.Proofs.YtccnbnfafhpeaaaDoor

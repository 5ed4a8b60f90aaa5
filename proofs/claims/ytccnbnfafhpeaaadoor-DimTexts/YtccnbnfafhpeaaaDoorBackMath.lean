/- What is printed of a dimension is read as that dimension: plain. -/
import Derived.Test.YtccnbnfafhpeaaaDoorParse
namespace Go.Proofs.YtccnbnfafhpeaaaDoor
open Go.RowKit

def ready (prod : List Int) : Rd := ⟨prod, 0, false, 0, 0, 0, false, 0⟩
theorem digits_small : ∀ n : Nat, n < 100 → Lib.decDigits n = if n < 10 then [UInt8.ofNat (48 + n)] else [UInt8.ofNat (48 + n / 10), UInt8.ofNat (48 + n % 10)] := by decide +kernel
theorem byte_of (n : Nat) (h : n < 256) : (UInt8.ofNat n).toNat = n := by simp [Nat.mod_eq_of_lt h]
theorem steps_one {c : UInt8} {p : Nat} {s s1 : Rd} (h : TakeOK s (p : Int) (c.toNat : Int) s1) : Steps [c] p s s1 := Steps.cons c [] p s s1 s1 h (Steps.nil _ _)
theorem digits_steps (n : Nat) (h1 : 1 ≤ n) (h2 : n ≤ 99) (s : Rd) (hn : s.next = 2 ∨ s.next = 3) (hs : s.size = 0) (p : Nat) : Steps (Lib.decDigits n) p s { s with next := 4, size := n } := by
  rw [digits_small n (by omega)]
  by_cases h10 : n < 10
  · rw [if_pos h10]
    refine steps_one ?_
    rw [byte_of _ (by omega)]
    have h := take_digit s (p : Int) ((48 + n : Nat) : Int) s.next rfl (by omega) (by omega) (by omega) (by omega)
    have e : min (s.size * 10 + (((48 + n : Nat) : Int) - 48)) 100 = (n : Int) := by rw [hs]; omega
    rw [e] at h
    exact h
  · rw [if_neg h10]
    refine Steps.cons _ _ _ _ { s with next := 4, size := ((n / 10 : Nat) : Int) } _ ?_ (steps_one ?_)
    · rw [byte_of _ (by omega)]
      have h := take_digit s (p : Int) ((48 + n / 10 : Nat) : Int) s.next rfl (by omega) (by omega) (by omega) (by omega)
      have e : min (s.size * 10 + (((48 + n / 10 : Nat) : Int) - 48)) 100 = ((n / 10 : Nat) : Int) := by rw [hs]; omega
      rw [e] at h
      exact h
    · rw [byte_of _ (by omega)]
      have h := take_digit { s with next := 4, size := ((n / 10 : Nat) : Int) } ((p + 1 : Nat) : Int) ((48 + n % 10 : Nat) : Int) 4 rfl (by omega) (by omega) (by show (0 : Int) ≤ ((n / 10 : Nat) : Int); omega) (by show ((n / 10 : Nat) : Int) ≤ 100; omega)
      have e : min (((n / 10 : Nat) : Int) * 10 + (((48 + n % 10 : Nat) : Int) - 48)) 100 = (n : Int) := by omega
      simp only [e] at h
      exact h
theorem begin_at (k : Nat) (hk : k < 8) : BeginOK k ((lettersL.getD k 0 : Nat) : Int) ∧ 66 ≤ lettersL.getD k 0 ∧ lettersL.getD k 0 ≤ 84 := by
  rcases eight (Nat.le_of_lt hk) with rfl | rfl | rfl | rfl | rfl | rfl | rfl | rfl | rfl
  · exact ⟨begin0, by decide, by decide⟩
  · exact ⟨begin1, by decide, by decide⟩
  · exact ⟨begin2, by decide, by decide⟩
  · exact ⟨begin3, by decide, by decide⟩
  · exact ⟨begin4, by decide, by decide⟩
  · exact ⟨begin5, by decide, by decide⟩
  · exact ⟨begin6, by decide, by decide⟩
  · exact ⟨begin7, by decide, by decide⟩
  · omega
theorem itoa_pos (x : Int) (h : 0 ≤ x) : Lib.itoa x = Lib.decDigits x.toNat := by unfold Lib.itoa; rw [if_neg (by omega)]
theorem itoa_neg (x : Int) (h : x < 0) : Lib.itoa x = 45 :: Lib.decDigits x.natAbs := by unfold Lib.itoa; rw [if_pos h]
/-- A term is read. -/
theorem term_steps (k : Nat) (hk : k < 8) (x : Int) (hx : -99 ≤ x ∧ x ≤ 99) (hx0 : x ≠ 0) (prod : List Int) (hp0 : prod[k]? = some 0) (hr : rightB (prod.set k x) = true) (p : Nat) (hpb : p ≤ 1000000) :
    ∃ sP, Steps (termText (lettersL.getD k 0) x) p (ready prod) sP ∧ ∀ (q c : Int), (c = 32 ∨ c = -1) → TakeOK sP q c (ready (prod.set k x)) := by
  obtain ⟨hb, hb1, hb2⟩ := begin_at k hk
  have hlet : TakeOK (ready prod) (p : Int) (((UInt8.ofNat (lettersL.getD k 0)).toNat : Nat) : Int) { ready prod with next := 1, place := k, letterAt := (p : Int) } := by
    rw [byte_of _ (by omega)]
    exact take_letter (ready prod) (p : Int) _ k rfl hb (by omega) (by omega)
  have h47 : ∀ c : Int, (c = 32 ∨ c = -1) → (c == 47) = false := by intro c hc; rcases hc with rfl | rfl <;> rfl
  unfold termText
  by_cases h1 : x = 1
  · subst h1
    rw [if_pos rfl]
    refine ⟨_, steps_one hlet, fun q c hc => ?_⟩
    have h := take_end1 { ready prod with next := 1, place := k, letterAt := (p : Int) } q c 1 0 rfl rfl hk hp0 (by omega) (by rw [Int.zero_add]; exact hr) (by omega)
    rw [h47 c hc] at h
    simpa [ready] using h
  · rw [if_neg h1]
    have hra : TakeOK { ready prod with next := 1, place := k, letterAt := (p : Int) } ((p + 1 : Nat) : Int) (((94 : UInt8).toNat : Nat) : Int) { ready prod with next := 2, place := k, letterAt := (p : Int), numberAt := ((p + 1 : Nat) : Int) + 1 } :=
      take_raise { ready prod with next := 1, place := k, letterAt := (p : Int) } ((p + 1 : Nat) : Int) rfl (by omega)
    by_cases hneg : x < 0
    · rw [itoa_neg x hneg]
      refine ⟨{ ready prod with next := 4, place := k, letterAt := (p : Int), numberAt := ((p + 1 : Nat) : Int) + 1, below := true, size := ((x.natAbs : Nat) : Int) }, Steps.cons _ _ _ _ _ _ hlet (Steps.cons _ _ _ _ _ _ hra (Steps.cons _ _ _ _ _ _ (take_minus { ready prod with next := 2, place := k, letterAt := (p : Int), numberAt := ((p + 1 : Nat) : Int) + 1 } ((p + 1 + 1 : Nat) : Int) rfl) (digits_steps x.natAbs (by omega) (by omega) { ready prod with next := 3, place := k, letterAt := (p : Int), numberAt := ((p + 1 : Nat) : Int) + 1, below := true } (Or.inr rfl) rfl _))), fun q c hc => ?_⟩
      have h := take_end4 { ready prod with next := 4, place := k, letterAt := (p : Int), numberAt := ((p + 1 : Nat) : Int) + 1, below := true, size := ((x.natAbs : Nat) : Int) } q c x 0 rfl (by show (0 : Int) ≤ ((x.natAbs : Nat) : Int) ∧ ((x.natAbs : Nat) : Int) ≤ 99; omega) (by show x = -((x.natAbs : Nat) : Int); omega) hk hp0 (by omega) (by rw [Int.zero_add]; exact hr) (by omega)
      rw [h47 c hc] at h
      simpa [ready] using h
    · rw [itoa_pos x (by omega)]
      refine ⟨{ ready prod with next := 4, place := k, letterAt := (p : Int), numberAt := ((p + 1 : Nat) : Int) + 1, size := ((x.toNat : Nat) : Int) }, Steps.cons _ _ _ _ _ _ hlet (Steps.cons _ _ _ _ _ _ hra (digits_steps x.toNat (by omega) (by omega) { ready prod with next := 2, place := k, letterAt := (p : Int), numberAt := ((p + 1 : Nat) : Int) + 1 } (Or.inl rfl) rfl _)), fun q c hc => ?_⟩
      have h := take_end4 { ready prod with next := 4, place := k, letterAt := (p : Int), numberAt := ((p + 1 : Nat) : Int) + 1, size := ((x.toNat : Nat) : Int) } q c x 0 rfl (by show (0 : Int) ≤ ((x.toNat : Nat) : Int) ∧ ((x.toNat : Nat) : Int) ≤ 99; omega) (by show x = ((x.toNat : Nat) : Int); omega) hk hp0 (by omega) (by rw [Int.zero_add]; exact hr) (by omega)
      rw [h47 c hc] at h
      simpa [ready] using h

/-! ### All terms -/
/-- The exponents that are not 0, each with its place. -/
def itemsTo (l : List Int) : Nat → List (Nat × Int)
  | 0 => []
  | k + 1 => itemsTo l k ++ (match l[k]? with | some x => if x = 0 then [] else [(k, x)] | none => [])
theorem terms_items (l : List Int) (k : Nat) : termsTo l k = (itemsTo l k).map fun i => termText (lettersL.getD i.1 0) i.2 := by
  induction k with
  | zero => rfl
  | succ k ih =>
    unfold termsTo itemsTo termAt
    rw [ih, List.map_append]
    cases hq : l[k]? with
    | none => rfl
    | some x =>
      by_cases h0 : x = 0
      · simp [h0]
      · simp [h0]
def applyAll (prod : List Int) (it : List (Nat × Int)) : List Int := it.foldl (fun p i => p.set i.1 i.2) prod
theorem right_set {l : List Int} {k : Nat} {x : Int} (h : rightB l = true) (hx : -99 ≤ x ∧ x ≤ 99) : rightB (l.set k x) = true := by
  unfold rightB at h ⊢
  rw [List.all_eq_true] at h ⊢
  intro y hy
  rcases List.mem_or_eq_of_mem_set hy with h1 | rfl
  · exact h y h1
  · exact okB_yes hx.1 hx.2
theorem join_cons2 (x y : List UInt8) (r : List (List UInt8)) : Lib.join (x :: y :: r) [32] = x ++ 32 :: Lib.join (y :: r) [32] := by simp [Lib.join, List.intercalate, List.intersperse]
/-- Items that are read one after another. -/
def ItemsOk (prod : List Int) (it : List (Nat × Int)) : Prop := (∀ i ∈ it, i.1 < 8 ∧ -99 ≤ i.2 ∧ i.2 ≤ 99 ∧ i.2 ≠ 0 ∧ prod[i.1]? = some 0) ∧ it.Pairwise fun a b => a.1 < b.1
theorem ItemsOk.tail {prod : List Int} {i : Nat × Int} {it : List (Nat × Int)} (h : ItemsOk prod (i :: it)) : ItemsOk (prod.set i.1 i.2) it := by
  obtain ⟨h1, h2⟩ := h
  rw [List.pairwise_cons] at h2
  refine ⟨fun j hj => ?_, h2.2⟩
  obtain ⟨a, b, c, d, e⟩ := h1 j (by simp [hj])
  refine ⟨a, b, c, d, ?_⟩
  rw [List.getElem?_set_ne (by have := h2.1 j hj; omega)]
  exact e
theorem items_steps : ∀ (it : List (Nat × Int)) (prod : List Int) (p : Nat), it ≠ [] → rightB prod = true → ItemsOk prod it → p + 101 * it.length ≤ 1000000 →
    ∃ sE, Steps (Lib.join (it.map fun i => termText (lettersL.getD i.1 0) i.2) [32]) p (ready prod) sE ∧ ∀ q : Int, TakeOK sE q (-1) (ready (applyAll prod it))
  | [], _, _, h, _, _, _ => absurd rfl h
  | [i], prod, p, _, hr, ho, hp => by
    obtain ⟨a, b, c, d, e⟩ := ho.1 i (by simp)
    obtain ⟨sP, h1, h2⟩ := term_steps i.1 a i.2 ⟨b, c⟩ d prod e (right_set hr ⟨b, c⟩) p (by omega)
    refine ⟨sP, ?_, fun q => h2 q (-1) (Or.inr rfl)⟩
    rw [List.map_cons, List.map_nil, Lib.join_one]
    exact h1
  | i :: j :: it, prod, p, _, hr, ho, hp => by
    obtain ⟨a, b, c, d, e⟩ := ho.1 i (by simp)
    obtain ⟨sP, h1, h2⟩ := term_steps i.1 a i.2 ⟨b, c⟩ d prod e (right_set hr ⟨b, c⟩) p (by simp at hp; omega)
    have hlen := termText_len (lettersL.getD i.1 0) i.2 ⟨b, c⟩
    obtain ⟨sE, h3, h4⟩ := items_steps (j :: it) (prod.set i.1 i.2) (p + (termText (lettersL.getD i.1 0) i.2).length + 1) (by simp) (right_set hr ⟨b, c⟩) ho.tail (by simp only [List.length_cons] at hp ⊢; omega)
    refine ⟨sE, ?_, h4⟩
    rw [List.map_cons, List.map_cons, join_cons2]
    refine Steps.append h1 (Steps.cons 32 _ _ _ _ _ (h2 _ 32 (Or.inl rfl)) ?_)
    exact h3
theorem items_ok (l : List Int) (hl : l.length = 8) (hr : rightB l = true) (k : Nat) (hk : k ≤ 8) : (∀ i ∈ itemsTo l k, i.1 < k ∧ -99 ≤ i.2 ∧ i.2 ≤ 99 ∧ i.2 ≠ 0) ∧ (itemsTo l k).Pairwise fun a b => a.1 < b.1 := by
  induction k with
  | zero => exact ⟨fun i hi => (by cases hi), List.Pairwise.nil⟩
  | succ k ih =>
    obtain ⟨h1, h2⟩ := ih (by omega)
    obtain ⟨x, hx⟩ : ∃ x, l[k]? = some x := ⟨_, List.getElem?_eq_getElem (by omega)⟩
    unfold itemsTo
    rw [hx]
    simp only
    have hb := rightB_get hr k x hx
    by_cases h0 : x = 0
    · rw [if_pos h0, List.append_nil]
      exact ⟨fun i hi => by have := h1 i hi; omega, h2⟩
    · rw [if_neg h0]
      refine ⟨fun i hi => ?_, ?_⟩
      · rcases List.mem_append.1 hi with h | h
        · have := h1 i h; omega
        · simp at h; subst h; exact ⟨by show k < k + 1; omega, hb.1, hb.2, h0⟩
      · rw [List.pairwise_append]
        exact ⟨h2, List.pairwise_singleton _ _, fun a ha b hb => by simp at hb; subst hb; exact (h1 a ha).1⟩
theorem apply_items (l : List Int) (hl : l.length = 8) (k : Nat) (hk : k ≤ 8) : applyAll [0, 0, 0, 0, 0, 0, 0, 0] (itemsTo l k) = l.take k ++ List.replicate (8 - k) 0 := by
  induction k with
  | zero => rfl
  | succ k ih =>
    obtain ⟨x, hx⟩ : ∃ x, l[k]? = some x := ⟨_, List.getElem?_eq_getElem (by omega)⟩
    obtain ⟨hk', hxe⟩ := List.getElem?_eq_some_iff.1 hx
    unfold itemsTo
    rw [hx]
    simp only
    have hrep : List.replicate (8 - k) (0 : Int) = 0 :: List.replicate (8 - (k + 1)) 0 := by rw [show 8 - k = (8 - (k + 1)) + 1 by omega]; rfl
    have htake : l.take (k + 1) = l.take k ++ [x] := by rw [List.take_add_one, hx]; rfl
    have hlt : (l.take k).length = k := by simp; omega
    by_cases h0 : x = 0
    · rw [if_pos h0, List.append_nil, ih (by omega), htake, hrep, h0]
      simp
    · rw [if_neg h0]
      unfold applyAll at ih ⊢
      rw [List.foldl_append, ih (by omega), htake, hrep]
      simp only [List.foldl_cons, List.foldl_nil]
      rw [List.set_append_right _ _ (by rw [hlt]; exact Nat.le_refl _), hlt, Nat.sub_self, List.set_cons_zero]
      simp
end Go.Proofs.YtccnbnfafhpeaaaDoor

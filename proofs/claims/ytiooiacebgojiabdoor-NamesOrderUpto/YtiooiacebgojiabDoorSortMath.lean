/- Sorted lists of texts: inserting one more; two sorted lists of the same texts are one. -/
import Derived.Test.YtiooiacebgojiabDoorOrderMath
namespace Go.Proofs.YtiooiacebgojiabDoor
open Go.RowKit

/-- In order: none is less than one ahead of it. -/
def Asc (l : List ByteArray) : Prop := l.Pairwise fun x y => ltC y x = false
theorem ltC_asymm {x y : ByteArray} (h : ltC x y = true) : ltC y x = false := by
  cases h2 : ltC y x with
  | false => rfl
  | true => have := ltC_swo.trans x y x h h2; rw [ltC_swo.irrefl] at this; exact this.symm
theorem asc_at {l : List ByteArray} (h : Asc l) {i j : Nat} (hij : i < j) (hj : j < l.length) : ltC l[j] (l[i]'(by omega)) = false :=
  List.pairwise_iff_getElem.1 h i j (by omega) hj hij
theorem asc_insert {os : List ByteArray} {s : ByteArray} {k : Nat} (h : Asc os) (hk : k ≤ os.length) (h1 : ∀ j, j + 1 = k → ∀ hj : j < os.length, ltC s os[j] = false) (h2 : ∀ j, k ≤ j → ∀ hj : j < os.length, ltC s os[j] = true) :
    Asc (os.take k ++ s :: os.drop k) := by
  have hs : ∀ x ∈ os.take k, ltC s x = false := fun x hx => by
    obtain ⟨i, hi, rfl⟩ := List.mem_iff_getElem.1 hx
    rw [List.length_take, Nat.min_eq_left hk] at hi
    rw [List.getElem_take]
    have e := h1 (k - 1) (by omega) (by omega)
    rcases Nat.lt_or_ge i (k - 1) with hlt | hge
    · exact ltC_swo.ntrans _ _ _ e (asc_at h hlt (by omega))
    · have : i = k - 1 := by omega
      subst this; exact e
  have hd : ∀ y ∈ os.drop k, ltC s y = true := fun y hy => by
    obtain ⟨i, hi, rfl⟩ := List.mem_iff_getElem.1 hy
    rw [List.getElem_drop]
    rw [List.length_drop] at hi
    exact h2 (k + i) (by omega) (by omega)
  have hsp := h
  unfold Asc at hsp
  rw [← List.take_append_drop k os, List.pairwise_append] at hsp
  refine List.pairwise_append.2 ⟨hsp.1, List.pairwise_cons.2 ⟨fun y hy => ltC_asymm (hd y hy), hsp.2.1⟩, fun x hx y hy => ?_⟩
  rcases List.mem_cons.1 hy with rfl | hy
  · exact hs x hx
  · exact hsp.2.2 x hx y hy
theorem perm_insert (os : List ByteArray) (s : ByteArray) (k : Nat) : (os.take k ++ s :: os.drop k).Perm (os ++ [s]) := by
  have h1 : (os.take k ++ s :: os.drop k).Perm (s :: (os.take k ++ os.drop k)) := List.perm_middle
  rw [List.take_append_drop] at h1
  exact h1.trans (List.perm_append_singleton s os).symm
theorem asc_unique {l m : List ByteArray} (hp : l.Perm m) (hl : Asc l) (hm : Asc m) : l = m :=
  List.Perm.eq_of_pairwise (fun a b _ _ h1 h2 => ltC_total a b h2 h1) hl hm hp
theorem asc_merge (l : List ByteArray) : Asc (l.mergeSort fun x y => !(ltC y x)) := by
  have h := List.pairwise_mergeSort (le := fun x y : ByteArray => !(ltC y x)) (fun a b c h1 h2 => by
    simp only [Bool.not_eq_true'] at h1 h2 ⊢
    exact ltC_swo.ntrans _ _ _ h2 h1) (fun a b => by
    cases h : ltC b a with
    | false => simp
    | true => simp [ltC_asymm h]) l
  refine h.imp ?_
  intro a b h
  simpa using h
theorem merge_unique {l m : List ByteArray} (hp : m.Perm l) (hm : Asc m) : (l.mergeSort fun x y => !(ltC y x)) = m :=
  asc_unique ((List.mergeSort_perm l _).trans hp.symm) (asc_merge l) hm
end Go.Proofs.YtiooiacebgojiabDoor

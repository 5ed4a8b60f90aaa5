/- Those nearest: the lists that the program and the document gather, and why they come out alike. -/
import Derived.Test.YtiooiacebgojiaaDoorSortMath
import Derived.Test.YtiooiacebgojiaaDoorFar
import Derived.Lib.SlicesCompact
namespace Go.Proofs.YtiooiacebgojiaaDoor
open Go.RowKit

attribute [local instance] Classical.propDecidable
/-- A text is passed over: too long, or farther than the most. -/
def skipT (s t : ByteArray) (M : Int) : Prop := (40 < s.size ∨ 40 < t.size) ∨ M < farN s t
noncomputable def nStep (s : ByteArray) (st : Int × List ByteArray) (t : ByteArray) : Int × List ByteArray :=
  if skipT s t st.1 then st else if farN s t < st.1 then (farN s t, [t]) else (st.1, st.2 ++ [t])
noncomputable def dKeep (s : ByteArray) (st : Int × List ByteArray) (t : ByteArray) : List ByteArray := if farN s t < st.1 then [] else st.2
noncomputable def dStep (s : ByteArray) (st : Int × List ByteArray) (t : ByteArray) : Int × List ByteArray :=
  if skipT s t st.1 then st else (farN s t, if t ∈ dKeep s st t then dKeep s st t else dKeep s st t ++ [t])
noncomputable def nGo (s : ByteArray) (l : List ByteArray) (M : Int) (i : Nat) : Int × List ByteArray := (l.take i).foldl (nStep s) (M, [])
noncomputable def dGo (s : ByteArray) (l : List ByteArray) (M : Int) (i : Nat) : Int × List ByteArray := (l.take i).foldl (dStep s) (M, [])
theorem nGo_succ (s : ByteArray) (l : List ByteArray) (M : Int) (i : Nat) (h : i < l.length) : nGo s l M (i + 1) = nStep s (nGo s l M i) l[i] := by
  unfold nGo
  rw [List.take_succ_eq_append_getElem h, List.foldl_append]; rfl
theorem dGo_succ (s : ByteArray) (l : List ByteArray) (M : Int) (i : Nat) (h : i < l.length) : dGo s l M (i + 1) = dStep s (dGo s l M i) l[i] := by
  unfold dGo
  rw [List.take_succ_eq_append_getElem h, List.foldl_append]; rfl
/-- As far as it goes both hold the same texts, the document's each once; none longer than 40. -/
theorem near_rel (s : ByteArray) (l : List ByteArray) (M : Int) : ∀ i, i ≤ l.length → (nGo s l M i).1 = (dGo s l M i).1 ∧ (∀ x, x ∈ (nGo s l M i).2 ↔ x ∈ (dGo s l M i).2) ∧ (dGo s l M i).2.Nodup ∧ (∀ x ∈ (nGo s l M i).2, x.size ≤ 40) ∧ (nGo s l M i).2.length ≤ i ∧ (dGo s l M i).2.length ≤ i
  | 0, _ => ⟨rfl, fun x => Iff.rfl, List.nodup_nil, fun x h => by simp [nGo] at h, Nat.le_refl _, Nat.le_refl _⟩
  | i + 1, h => by
    obtain ⟨h1, h2, h3, h4, h5, h6⟩ := near_rel s l M i (by omega)
    rw [nGo_succ s l M i (by omega), dGo_succ s l M i (by omega)]
    generalize nGo s l M i = a at *
    generalize dGo s l M i = b at *
    obtain ⟨am, an⟩ := a
    obtain ⟨bm, bn⟩ := b
    simp only at h1 h2 h3 h4 h5 h6
    subst h1
    generalize l[i] = t at *
    unfold nStep dStep
    by_cases hs : skipT s t am
    · rw [if_pos hs, if_pos hs]
      exact ⟨rfl, h2, h3, h4, by simp only; omega, by simp only; omega⟩
    · rw [if_neg hs, if_neg hs]
      have hle : farN s t ≤ am := by unfold skipT at hs; omega
      have hmem : t.size ≤ 40 := by unfold skipT at hs; omega
      unfold dKeep
      by_cases hlt : farN s t < am
      · simp only [if_pos hlt]
        refine ⟨trivial, fun x => by simp, by simp, fun x hx => by simp at hx; subst hx; exact hmem, by simp, by simp⟩
      · simp only [if_neg hlt]
        have he : farN s t = am := by omega
        refine ⟨by simp [he], fun x => ?_, ?_, fun x hx => ?_, by simp; omega, ?_⟩
        · by_cases ht : t ∈ bn
          · simp only [if_pos ht, List.mem_append, List.mem_singleton]
            rw [h2 x]
            exact ⟨fun h => h.elim id (fun e => e ▸ ht), Or.inl⟩
          · simp only [if_neg ht, List.mem_append, List.mem_singleton]
            rw [h2 x]
        · by_cases ht : t ∈ bn
          · simp only [if_pos ht]; exact h3
          · simp only [if_neg ht]
            rw [List.nodup_append]
            exact ⟨h3, by simp, fun a ha b hb => by simp at hb; subst hb; exact fun e => ht (e ▸ ha)⟩
        · simp only [List.mem_append, List.mem_singleton] at hx
          rcases hx with hx | rfl
          · exact h4 x hx
          · exact hmem
        · by_cases ht : t ∈ bn
          · simp only [if_pos ht]; omega
          · simp only [if_neg ht]; simp; omega
/-- Two lists in order, each text once, with the same texts, are one. -/
theorem asc_same {l m : List ByteArray} (hl : Asc l) (hm : Asc m) (dl : l.Nodup) (dm : m.Nodup) (h : ∀ x, x ∈ l ↔ x ∈ m) : l = m := by
  letI : BEq ByteArray := instBEqOfDecidableEq
  refine asc_unique (List.perm_iff_count.2 fun x => ?_) hl hm
  by_cases hx : x ∈ l
  · rw [dl.count, dm.count, if_pos hx, if_pos ((h x).1 hx)]
  · rw [dl.count, dm.count, if_neg hx, if_neg (fun hy => hx ((h x).2 hy))]
def bytesL (b : ByteArray) : List UInt8 := b.data.toList
theorem bytesL_inj {a b : ByteArray} (h : bytesL a = bytesL b) : a = b := ByteArray.ext (Array.toList_inj.1 h)
theorem at_map (ts : List ByteArray) (i : Nat) (h : i < ts.length) : (ts.map bytesL).toArray[i]! = bytesL ts[i] := by
  rw [getElem!_pos _ i (by simpa using h)]; simp
/-- Neighbours that are equal taken together: of a list in order each text stays once. -/
theorem compact_asc (ts : List ByteArray) (ha : Asc ts) : ∀ m, m ≤ ts.length → ∃ us : List ByteArray, Lib.compactUpTo (ts.map bytesL).toArray m = us.map bytesL ∧ (∀ x, x ∈ us ↔ x ∈ ts.take m) ∧ us.Nodup ∧ Asc us ∧ us.length ≤ m
  | 0, _ => ⟨[], by simp [Lib.compactUpTo], fun x => by simp, List.nodup_nil, List.Pairwise.nil, Nat.le_refl _⟩
  | m + 1, h => by
    obtain ⟨us, e, h1, h2, h3, h4⟩ := compact_asc ts ha m (by omega)
    have hm : m < ts.length := by omega
    rw [Lib.compactUpTo_succ, e, List.take_succ_eq_append_getElem hm]
    by_cases hk : Lib.keeps (ts.map bytesL).toArray m = true
    · rw [if_pos hk, at_map ts m hm]
      have hno : ts[m] ∉ ts.take m := fun hx => by
        obtain ⟨i, hi, he⟩ := List.mem_iff_getElem.1 hx
        rw [List.length_take] at hi
        rw [List.getElem_take] at he
        unfold Lib.keeps at hk
        rw [decide_eq_true_iff] at hk
        rcases hk with rfl | hk
        · omega
        · apply hk
          rw [at_map ts m hm, at_map ts (m - 1) (by omega)]
          congr 1
          apply ltC_total
          · exact asc_at ha (by omega) hm
          · rcases Nat.lt_or_ge i (m - 1) with hlt | hge
            · rw [← he]; exact asc_at ha hlt (by omega)
            · have : i = m - 1 := by omega
              subst this
              rw [he]; exact ltC_swo.irrefl _
      refine ⟨us ++ [ts[m]], by simp, fun x => by rw [List.mem_append, List.mem_append, h1 x], ?_, ?_, by simp; omega⟩
      · rw [List.nodup_append]
        exact ⟨h2, by simp, fun a hx b hb => by simp at hb; subst hb; exact fun e => hno (e ▸ (h1 a).1 hx)⟩
      · refine List.pairwise_append.2 ⟨h3, by simp, fun x hx y hy => ?_⟩
        simp at hy; subst hy
        obtain ⟨i, hi, rfl⟩ := List.mem_iff_getElem.1 ((h1 x).1 hx)
        rw [List.length_take] at hi
        rw [List.getElem_take]
        exact asc_at ha (by omega) hm
    · rw [if_neg hk, List.append_nil]
      refine ⟨us, rfl, fun x => ?_, h2, h3, by omega⟩
      rw [h1 x, List.mem_append, List.mem_singleton]
      refine ⟨Or.inl, fun h => h.elim id fun e => ?_⟩
      unfold Lib.keeps at hk
      rw [decide_eq_true_iff] at hk
      have hm0 : m ≠ 0 := fun e => hk (.inl e)
      have he : ¬ ((ts.map bytesL).toArray[m]! ≠ (ts.map bytesL).toArray[m - 1]!) := fun e => hk (.inr e)
      rw [at_map ts m hm, at_map ts (m - 1) (by omega)] at he
      have he' := bytesL_inj (Decidable.not_not.1 he)
      rw [e, he']
      exact List.mem_iff_getElem.2 ⟨m - 1, by rw [List.length_take]; omega, by rw [List.getElem_take]⟩
end Go.Proofs.YtiooiacebgojiaaDoor

/- What a word that was read is made of, and that it is read again as it is. -/
import Derived.Test.YtiooiacebgojiabDoorText
import Derived.Test.YtiooiacebgojiabDoorFold
namespace Go.Proofs.YtiooiacebgojiabDoor
open Go.RowKit

theorem dec_enc (r : Nat) (hr : r < 55296) (y : List UInt8) : Lib.decodeL (Lib.encodeRune (r : Int) ++ y) = (r, (Lib.encodeRune (r : Int)).length) ∧ 0 < (Lib.encodeRune (r : Int)).length := by
  unfold Lib.encodeRune
  rw [Lib.decodeL_N]
  by_cases c1 : r < 128
  · rw [Lib.encodeRuneZ_one (by omega) (by omega)]
    have e : (UInt8.ofNat r).toNat = r := by rw [UInt8.toNat_ofNat']; omega
    simp [Lib.decodeN, e, c1]
  by_cases c2 : r < 2048
  · rw [Lib.encodeRuneZ_two (by omega) (by omega)]
    have t1 : ((192 : Int) + (r : Int) / 64).toNat = 192 + r / 64 := by omega
    have t2 : ((128 : Int) + (r : Int) % 64).toNat = 128 + r % 64 := by omega
    have e1 : (UInt8.ofNat (192 + r / 64)).toNat = 192 + r / 64 := by rw [UInt8.toNat_ofNat']; omega
    have e2 : (UInt8.ofNat (128 + r % 64)).toNat = 128 + r % 64 := by rw [UInt8.toNat_ofNat']; omega
    have h1 : ¬ 192 + r / 64 < 128 := by omega
    have h2 : (192 + r / 64) / 32 = 6 := by omega
    have h3 : (128 + r % 64) / 64 = 2 := by omega
    have h4 : (192 + r / 64) % 32 * 64 + (128 + r % 64) % 64 = r := by omega
    have h5 : 128 ≤ r := by omega
    simp only [List.map_cons, List.map_nil, t1, t2, Nat.toUInt8, List.cons_append, List.nil_append, List.getD_cons_zero, List.getD_cons_succ, e1, e2, List.length_cons, Lib.decodeN]
    rw [if_neg h1, if_pos ⟨h2, by omega, h3⟩, h4, if_pos h5]
    exact ⟨rfl, by decide⟩
  · rw [Lib.encodeRuneZ_three (by omega)]
    have t1 : ((224 : Int) + (r : Int) / 4096).toNat = 224 + r / 4096 := by omega
    have t2 : ((128 : Int) + (r : Int) / 64 % 64).toNat = 128 + r / 64 % 64 := by omega
    have t3 : ((128 : Int) + (r : Int) % 64).toNat = 128 + r % 64 := by omega
    have e1 : (UInt8.ofNat (224 + r / 4096)).toNat = 224 + r / 4096 := by rw [UInt8.toNat_ofNat']; omega
    have e2 : (UInt8.ofNat (128 + r / 64 % 64)).toNat = 128 + r / 64 % 64 := by rw [UInt8.toNat_ofNat']; omega
    have e3 : (UInt8.ofNat (128 + r % 64)).toNat = 128 + r % 64 := by rw [UInt8.toNat_ofNat']; omega
    have h1 : ¬ 224 + r / 4096 < 128 := by omega
    have h2 : ¬ (224 + r / 4096) / 32 = 6 := by omega
    have h3 : (224 + r / 4096) / 16 = 14 := by omega
    have h4 : (128 + r / 64 % 64) / 64 = 2 := by omega
    have h5 : (128 + r % 64) / 64 = 2 := by omega
    have h6 : (224 + r / 4096) % 16 * 4096 + (128 + r / 64 % 64) % 64 * 64 + (128 + r % 64) % 64 = r := by omega
    simp only [List.map_cons, List.map_nil, t1, t2, t3, Nat.toUInt8, List.cons_append, List.nil_append, List.getD_cons_zero, List.getD_cons_succ, e1, e2, e3, List.length_cons, Lib.decodeN]
    rw [if_neg h1, if_neg (fun h => h2 h.1), if_pos ⟨h3, ⟨by omega, h4⟩, by omega, h5⟩, h6, if_pos ⟨by omega, .inl (by omega)⟩]
    exact ⟨rfl, by decide⟩
theorem fold_fold (r : Int) : foldR (foldR r) = foldR r := by
  by_cases h : r = 181 ∨ r = 8486 ∨ r = 8491 ∨ r = 8490 ∨ r = 8242 ∨ r = 8217 ∨ r = 8243
  · rcases h with rfl | rfl | rfl | rfl | rfl | rfl | rfl <;> decide
  · have e : foldR r = r := by unfold foldR; rw [if_neg (by omega), if_neg (by omega), if_neg (by omega), if_neg (by omega), if_neg (by omega), if_neg (by omega), if_neg (by omega)]
    rw [e, e]
theorem class_fold (r : Int) : classOf (foldR r) = classOf r := by unfold classOf; rw [fold_fold]
theorem fold_degree (r : Int) : (foldR r == 176) = (r == 176) := by
  by_cases h : r = 181 ∨ r = 8486 ∨ r = 8491 ∨ r = 8490 ∨ r = 8242 ∨ r = 8217 ∨ r = 8243
  · rcases h with rfl | rfl | rfl | rfl | rfl | rfl | rfl <;> decide
  · have e : foldR r = r := by unfold foldR; rw [if_neg (by omega), if_neg (by omega), if_neg (by omega), if_neg (by omega), if_neg (by omega), if_neg (by omega), if_neg (by omega)]
    rw [e]
theorem goes_fold (a r : Int) : goesB (foldR a) (foldR r) = goesB a r := by unfold goesB; rw [class_fold, class_fold, fold_degree]
theorem classF_range (r : Int) (h : classF r ≠ 0) : 0 ≤ r ∧ r < 10000 := by
  unfold classF at h
  split at h
  · rename_i q; unfold letterP at q; omega
  · split at h
    · omega
    · split at h
      · rename_i q; unfold raisedP at q; omega
      · split at h
        · rename_i q; unfold signP at q; omega
        · exact absurd rfl h
theorem goes_class (a r : Int) (h : goesB a r = true) : classOf r = 1 ∨ classOf r = 2 := by
  unfold goesB at h
  split at h
  · simp at h; exact .inl h.2
  · simpa using h
/-- The runes of a word, folded: the first one may begin one, the others go on. -/
structure IsWord (F : List Int) : Prop where
  folded : ∀ f ∈ F, foldR f = f
  classes : ∀ f ∈ F, classOf f = 1 ∨ classOf f = 2 ∨ classOf f = 4
  shape : ∃ f0 T, F = f0 :: T ∧ (classOf f0 = 1 ∨ classOf f0 = 4) ∧ ∀ t ∈ T, goesB f0 t = true
def encL (F : List Int) : List UInt8 := F.flatMap Lib.encodeRune
theorem encL_cons (f : Int) (F : List Int) : encL (f :: F) = Lib.encodeRune f ++ encL F := by simp [encL]
theorem IsWord.range {F : List Int} (h : IsWord F) (f : Int) (hf : f ∈ F) : ∃ k : Nat, f = (k : Int) ∧ k < 10000 := by
  have hc := h.classes f hf
  have h2 : classF (foldR f) ≠ 0 := by
    show classOf f ≠ 0
    rcases hc with e | e | e <;> rw [e] <;> decide
  rw [h.folded f hf] at h2
  have := classF_range f h2
  exact ⟨f.toNat, by omega, by omega⟩
theorem lt_of_drop' {s : ByteArray} {p : Nat} {l : List UInt8} (h : s.data.toList.drop p = l) (h0 : 0 < l.length) : p < s.size := by
  have h1 := congrArg List.length h
  rw [List.length_drop, toL] at h1
  omega
/-- Where the runes stand in a text, they are read. -/
theorem read_one {s : ByteArray} {p : Nat} {f : Int} {F : List Int} {k : Nat} (hk : f = (k : Int)) (hk2 : k < 10000) (h : s.data.toList.drop p = encL (f :: F)) : p < s.size ∧ Utf8.decode s p = (k, (Lib.encodeRune f).length) ∧ s.data.toList.drop (p + (Lib.encodeRune f).length) = encL F := by
  rw [encL_cons] at h
  subst hk
  obtain ⟨hd, hl⟩ := dec_enc k (by omega) (encL F)
  refine ⟨lt_of_drop' h (by rw [List.length_append]; omega), ?_, ?_⟩
  · rw [← decodeL_at, h, hd]
  · rw [← List.drop_drop, h, List.drop_left]
theorem read_none {s : ByteArray} {p : Nat} (h : s.data.toList.drop p = encL []) : ¬ p < s.size := by
  have h1 := congrArg List.length h
  rw [List.length_drop, toL] at h1
  simp [encL] at h1
  omega
theorem enc_pos (f : Int) (k : Nat) (hk : f = (k : Int)) (hk2 : k < 10000) : 0 < (Lib.encodeRune f).length := by
  subst hk; exact (dec_enc k (by omega) []).2
/-- What goes on is read to its end. -/
theorem lg_rest (s : ByteArray) (f0 : Int) : ∀ (T : List Int) (p : Nat) (acc : List UInt8), (∀ t ∈ T, goesB f0 t = true ∧ foldR t = t ∧ ∃ k : Nat, t = (k : Int) ∧ k < 10000) → 0 < p → s.data.toList.drop p = encL T → Lg s p f0 acc (acc ++ encL T) s.size
  | [], p, acc, _, _, h => by
    rw [show acc ++ encL [] = acc by simp [encL]]
    exact .done p f0 acc (read_none h)
  | t :: T, p, acc, hT, hp, h => by
    obtain ⟨hg, hf, k, hk, hk2⟩ := hT t (by simp)
    obtain ⟨hlt, hdec, hdrop⟩ := read_one hk hk2 h
    refine .step p f0 acc _ _ hlt ?_ ?_
    · unfold contB; rw [if_neg (by omega), hdec]; show goesB f0 ((k : Nat) : Int) = true; rw [← hk]; exact hg
    · rw [hdec]
      show Lg s (p + (Lib.encodeRune t).length) (firstOf p f0 ((k : Nat) : Int)) (acc ++ Lib.encodeRune (foldR ((k : Nat) : Int))) _ _
      unfold firstOf
      rw [if_neg (by omega), ← hk, hf, encL_cons, ← List.append_assoc]
      exact lg_rest s f0 T _ _ (fun x hx => hT x (by simp [hx])) (by omega) hdrop
/-- A word is read as it is. -/
theorem lg_again {F : List Int} (h : IsWord F) : Lg ⟨(encL F).toArray⟩ 0 0 [] (encL F) (⟨(encL F).toArray⟩ : ByteArray).size := by
  obtain ⟨f0, T, hF, hc0, hg⟩ := h.shape
  obtain ⟨k, hk, hk2⟩ := h.range f0 (by rw [hF]; simp)
  obtain ⟨hlt, hdec, hdrop⟩ := read_one (s := ⟨(encL F).toArray⟩) (p := 0) (F := T) hk hk2 (by rw [← hF]; simp)
  have hpos := enc_pos f0 k hk hk2
  refine .step 0 0 [] _ _ hlt ?_ ?_
  · unfold contB; rw [if_pos rfl, hdec]; show (classOf ((k : Nat) : Int) == 1 || classOf ((k : Nat) : Int) == 4) = true; rw [← hk]; rcases hc0 with e | e <;> rw [e] <;> decide
  · rw [hdec]
    show Lg _ (0 + (Lib.encodeRune f0).length) (firstOf 0 0 ((k : Nat) : Int)) ([] ++ Lib.encodeRune (foldR ((k : Nat) : Int))) _ _
    unfold firstOf
    rw [if_pos rfl, ← hk, h.folded f0 (by rw [hF]; simp), List.nil_append]
    have h2 := lg_rest ⟨(encL F).toArray⟩ f0 T (0 + (Lib.encodeRune f0).length) (Lib.encodeRune f0) (fun t ht => ⟨hg t ht, h.folded t (by rw [hF]; simp [ht]), h.range t (by rw [hF]; simp [ht])⟩) (by omega) hdrop
    rw [← encL_cons, ← hF] at h2
    exact h2
/-- What was read behind the first rune. -/
theorem lg_tail {s : ByteArray} {p : Nat} {f : Int} {acc out : List UInt8} {q : Nat} (h : Lg s p f acc out q) : 0 < p → p ≤ s.size → ∃ T : List Int, out = acc ++ encL (T.map foldR) ∧ (∀ t ∈ T, goesB f t = true) ∧ p ≤ q ∧ q ≤ s.size ∧ (q < s.size → goesB f (Utf8.decode s q).1 = false) := by
  induction h with
  | stop p f acc hp hc =>
    intro h0 h1
    unfold contB at hc
    rw [if_neg (by omega)] at hc
    exact ⟨[], by simp [encL], by simp, Nat.le_refl _, h1, fun _ => hc⟩
  | done p f acc hn =>
    intro h0 h1
    exact ⟨[], by simp [encL], by simp, h1, Nat.le_refl _, fun h => absurd h (by omega)⟩
  | step p f acc out q hp hc _ ih =>
    intro h0 h1
    unfold contB at hc
    rw [if_neg (by omega)] at hc
    have hw := width_le s p hp
    obtain ⟨T, ho, hT, ha, hb, hs⟩ := ih (by omega) hw
    have hf : firstOf p f ((Utf8.decode s p).1 : Nat) = f := by unfold firstOf; rw [if_neg (by omega)]
    rw [hf] at hT hs
    refine ⟨((Utf8.decode s p).1 : Nat) :: T, ?_, ?_, by omega, hb, hs⟩
    · rw [ho, List.map_cons, encL_cons, List.append_assoc]
    · intro t ht
      rcases List.mem_cons.1 ht with rfl | ht
      · exact hc
      · exact hT t ht
/-- What was read: nothing, or a word. -/
theorem lg_word {s : ByteArray} {out : List UInt8} {q : Nat} (h : Lg s 0 0 [] out q) : (out = [] ∧ q = 0 ∧ (0 < s.size → contB 0 0 (Utf8.decode s 0).1 = false)) ∨ (0 < q ∧ q ≤ s.size ∧ ∃ (r0 : Int) (F : List Int), r0 = ((Utf8.decode s 0).1 : Nat) ∧ IsWord F ∧ out = encL F ∧ F.head? = some (foldR r0) ∧ (q < s.size → goesB r0 (Utf8.decode s q).1 = false)) := by
  cases h with
  | stop _ _ _ hp hc => exact .inl ⟨rfl, rfl, fun _ => hc⟩
  | done _ _ _ hn => exact .inl ⟨rfl, by omega, fun h => absurd h hn⟩
  | step _ _ _ _ _ hp hc h2 =>
    right
    have hw := width_le s 0 hp
    have hw0 := Lib.decode_width_pos s 0 hp
    obtain ⟨T, ho, hT, ha, hb, hs⟩ := lg_tail h2 (by omega) (by simpa using hw)
    have hf : firstOf 0 0 ((Utf8.decode s 0).1 : Nat) = ((Utf8.decode s 0).1 : Nat) := rfl
    rw [hf] at hT hs
    unfold contB at hc
    rw [if_pos rfl] at hc
    have hc0 : classOf ((Utf8.decode s 0).1 : Nat) = 1 ∨ classOf ((Utf8.decode s 0).1 : Nat) = 4 := by simpa using hc
    refine ⟨by omega, hb, ((Utf8.decode s 0).1 : Nat), foldR ((Utf8.decode s 0).1 : Nat) :: T.map foldR, rfl, ?_, ?_, rfl, hs⟩
    · refine ⟨?_, ?_, _, _, rfl, by rw [class_fold]; exact hc0, ?_⟩
      · intro f hf
        rcases List.mem_cons.1 hf with rfl | hf
        · exact fold_fold _
        · obtain ⟨t, _, rfl⟩ := List.mem_map.1 hf
          exact fold_fold _
      · intro f hf
        rcases List.mem_cons.1 hf with rfl | hf
        · rw [class_fold]; rcases hc0 with e | e <;> rw [e] <;> simp
        · obtain ⟨t, ht, rfl⟩ := List.mem_map.1 hf
          rw [class_fold]
          rcases goes_class _ _ (hT t ht) with e | e <;> rw [e] <;> simp
      · intro t ht
        obtain ⟨u, hu, rfl⟩ := List.mem_map.1 ht
        rw [goes_fold]
        exact hT u hu
    · rw [ho, encL_cons]
      rfl
end Go.Proofs.YtiooiacebgojiabDoor

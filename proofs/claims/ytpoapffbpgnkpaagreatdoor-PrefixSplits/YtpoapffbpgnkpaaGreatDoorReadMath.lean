/- The readings of a word, by the program's cuts and by the document's words: the plain part. -/
import Derived.Test.YtpoapffbpgnkpaaGreatDoorRefReads
namespace Go.Proofs.YtpoapffbpgnkpaaGreatDoor
open Go.RowKit Go.Maps Go.ChangeMaps Go.WideMaps
theorem sym_find {t : ByteArray} {q : List UInt8 × Nat} (hq : keysN.find? (fun q => q.1 == t.data.toList) = some q) : symH t = true ∧ symC t = (q.2 : Int) := by
  constructor
  · unfold symH
    rw [symAll_eq, has_eq, List.any_map, List.any_eq_true]
    exact ⟨q, List.mem_of_find?_eq_some hq, by have := List.find?_some hq; exact this⟩
  · unfold symC
    rw [symAll_eq]
    unfold DataW.atKey
    dsimp only
    rw [List.find?_map]
    have e : ((fun p : Lit × DataW Unit => p.1.sameKey (.string t.data.toList)) ∘ entN) = (fun q => q.1 == t.data.toList) := rfl
    rw [e, hq]
    rfl
theorem sym_found {t : ByteArray} (h : symH t = true) : ∃ q, keysN.find? (fun q => q.1 == t.data.toList) = some q := by
  unfold symH at h
  rw [symAll_eq, has_eq, List.any_map] at h
  have hf : (keysN.find? (fun q => q.1 == t.data.toList)).isSome = true := by
    rw [List.find?_isSome]
    obtain ⟨q, hq, h2⟩ := List.any_eq_true.1 h
    exact ⟨q, hq, h2⟩
  exact Option.isSome_iff_exists.1 hf
def okS (q : List UInt8 × Nat) : Bool := decide (q.2 < 32) && symB ⟨q.1.toArray⟩ (tbl q.2).nm (tbl q.2).sy
theorem keys_okS : keysN.all okS = true := by decide +kernel
theorem keys_at : (List.range 32).all (fun p => keysN.find? (fun q => q.1 == (tbl p).sy.data.toList) == some ((tbl p).sy.data.toList, p)) = true := by decide +kernel
theorem micro_only : (List.range 32).all (fun p => !((tbl p).nm.data.toList == [109, 105, 99, 114, 111]) || p == 15) = true := by decide +kernel
theorem nm_pos : (List.range 32).all (fun p => decide (0 < (tbl p).nm.data.size)) = true := by decide +kernel
/-- A text is a symbol of a prefix: by the map, and by the document's words. -/
theorem sym_iff (t : ByteArray) (p : Nat) : (symH t = true ∧ symN t = p) ↔ (p < 32 ∧ symB t (tbl p).nm (tbl p).sy = true) := by
  constructor
  · rintro ⟨h, rfl⟩
    obtain ⟨q, hq⟩ := sym_found h
    have hc := (sym_find hq).2
    have he : q.1 = t.data.toList := by have := List.find?_some hq; simpa using this
    have ho := List.all_eq_true.1 keys_okS q (List.mem_of_find?_eq_some hq)
    simp only [okS, Bool.and_eq_true, decide_eq_true_eq] at ho
    have hs : (⟨q.1.toArray⟩ : ByteArray) = t := by rw [he]
    have hn : symN t = q.2 := by unfold symN; rw [hc]; rfl
    rw [hn, ← hs]
    exact ho
  · rintro ⟨hp, h⟩
    unfold symB at h
    simp only [Bool.or_eq_true, Bool.and_eq_true, beq_iff_eq, ByteArray.toList_eq] at h
    have key : ∃ q : List UInt8 × Nat, keysN.find? (fun q => q.1 == t.data.toList) = some q ∧ q.2 = p := by
      rcases h with h | ⟨hm, h | h⟩
      · have := List.all_eq_true.1 keys_at p (by simpa using hp)
        rw [h]
        exact ⟨_, by simpa using this, rfl⟩
      · have h15 := List.all_eq_true.1 micro_only p (by simpa using hp)
        rw [hm] at h15
        have : p = 15 := by simpa using h15
        rw [h, this]
        exact ⟨([117], 15), by decide +kernel, rfl⟩
      · have h15 := List.all_eq_true.1 micro_only p (by simpa using hp)
        rw [hm] at h15
        have : p = 15 := by simpa using h15
        rw [h, this]
        exact ⟨([194, 181], 15), by decide +kernel, rfl⟩
    obtain ⟨q, hq, rfl⟩ := key
    obtain ⟨h1, h2⟩ := sym_find hq
    exact ⟨h1, by unfold symN; rw [h2]; rfl⟩
/-- The document's readings. -/
def RefRd (s : ByteArray) (us : Nat → UV) (n p i : Nat) : Prop := p < 32 ∧ i < n ∧ takesB (us i).tk (tbl p).bi = true ∧ ∃ e, 1 ≤ e ∧ e < s.size ∧ (((s.extract 0 e).toList = (tbl p).nm.toList ∧ (s.extract e s.size).toList = (us i).nm.toList) ∨ (symB (s.extract 0 e) (tbl p).nm (tbl p).sy = true ∧ (s.extract e s.size).toList = (us i).sy.toList))
theorem mem_cutsN {s : ByteArray} {c : CV} : c ∈ cutsN s 32 ↔ ∃ k, k < 32 ∧ beginsN s k = true ∧ (restN s k).toList.isEmpty = false ∧ c = ⟨k, (tbl k).bi, restN s k, ⟨#[]⟩⟩ := by
  unfold cutsN
  rw [List.mem_flatMap]
  constructor
  · rintro ⟨k, hk, hc⟩
    unfold cutN at hc
    split at hc
    · rename_i h
      simp only [Bool.and_eq_true, Bool.not_eq_true'] at h
      exact ⟨k, by simpa using hk, h.1, h.2, List.mem_singleton.1 hc⟩
    · cases hc
  · rintro ⟨k, hk, h1, h2, rfl⟩
    refine ⟨k, by simpa using hk, ?_⟩
    unfold cutN
    rw [h1, h2]
    simp
theorem mem_cutsS {s : ByteArray} {c : CV} : c ∈ cutsS s s.size ↔ ∃ e, 1 ≤ e ∧ e < s.size ∧ symH (s.extract 0 e) = true ∧ c = ⟨symN (s.extract 0 e), (tbl (symN (s.extract 0 e))).bi, ⟨#[]⟩, s.extract e s.size⟩ := by
  unfold cutsS
  rw [List.mem_flatMap]
  constructor
  · rintro ⟨e, he, hc⟩
    unfold cutS at hc
    split at hc
    · cases hc
    · split at hc
      · exact ⟨e, by omega, by simpa using he, by assumption, List.mem_singleton.1 hc⟩
      · cases hc
  · rintro ⟨e, h1, h2, h3, rfl⟩
    refine ⟨e, by simpa using h2, ?_⟩
    unfold cutS
    rw [if_neg (by omega), if_pos h3]
    simp
theorem rdgs_mem {s : ByteArray} {us : Nat → UV} {n p i : Nat} : Rdgs s us n p i ↔ ∃ c ∈ cutsE s s.size, c.p = p ∧ i < n ∧ rdB c (us i) = true := by
  unfold Rdgs
  rw [seen_end]
  constructor
  · rintro ⟨c, hc, h⟩
    refine ⟨csOf s c, ?_, h⟩
    unfold csOf
    rw [List.getElem?_eq_getElem hc]
    exact List.getElem_mem hc
  · rintro ⟨c, hc, h⟩
    obtain ⟨k, hk, rfl⟩ := List.getElem_of_mem hc
    refine ⟨k, hk, ?_⟩
    have : csOf s k = (cutsE s s.size)[k] := by unfold csOf; rw [List.getElem?_eq_getElem hk]; rfl
    rw [this]
    exact h
theorem pre_rest {l p : List UInt8} (h : Lib.hasPrefix l p = true) : l = p ++ Lib.trimPrefix l p := by
  unfold Lib.trimPrefix
  rw [if_pos h]
  unfold Lib.hasPrefix at h
  obtain ⟨t, ht⟩ := List.isPrefixOf_iff_prefix.1 h
  rw [← ht]
  simp
theorem ext_take (s : ByteArray) (e : Nat) (_he : e ≤ s.size) : (s.extract 0 e).data.toList = s.data.toList.take e := by
  simp [ByteArray.data_extract]
theorem ext_drop (s : ByteArray) (e : Nat) : (s.extract e s.size).data.toList = s.data.toList.drop e := by
  rw [ByteArray.data_extract, show s.size = s.data.size from rfl]
  simp
  exact List.take_of_length_le (by rw [List.length_drop]; have : s.data.toList.length = s.size := by simp
                                   omega)
theorem empty_iff (b : ByteArray) : b.toList.isEmpty = false ↔ b.data.toList ≠ [] := by
  rw [ByteArray.toList_eq]
  cases b.data.toList <;> simp
theorem rdgs_iff {s : ByteArray} {us : Nat → UV} {n : Nat} (p i : Nat) : Rdgs s us n p i ↔ RefRd s us n p i := by
  rw [rdgs_mem]
  have hsz : s.data.toList.length = s.size := by simp
  constructor
  · rintro ⟨c, hc, hp, hi, hr⟩
    unfold cutsE at hc
    rcases List.mem_append.1 hc with hc | hc
    · obtain ⟨k, hk, hb, hne, rfl⟩ := mem_cutsN.1 hc
      have hp' : k = p := hp
      subst hp'
      have hr' : readsB (restN s k) ⟨#[]⟩ (us i).nm (us i).sy (tbl k).bi (us i).tk = true := hr
      unfold readsB calledB at hr'
      rw [hne] at hr'
      have e0 : (⟨#[]⟩ : ByteArray).toList.isEmpty = true := by rw [ByteArray.toList_eq]; rfl
      rw [e0] at hr'
      simp only [Bool.not_false, Bool.not_true, Bool.true_and, Bool.false_and, Bool.or_false, Bool.and_eq_true, beq_iff_eq] at hr'
      have hpre := pre_rest (l := s.data.toList) (p := (tbl k).nm.data.toList) hb
      have hrest : (restN s k).data.toList = Lib.trimPrefix s.data.toList (tbl k).nm.data.toList := by simp [restN]
      have hlen := congrArg List.length hpre
      rw [List.length_append, hsz] at hlen
      have hr0 : 0 < (Lib.trimPrefix s.data.toList (tbl k).nm.data.toList).length := by
        rw [← hrest]
        exact List.length_pos_iff.2 ((empty_iff _).1 hne)
      have hn0 : 0 < (tbl k).nm.data.toList.length := by
        have := List.all_eq_true.1 nm_pos k (by simpa using hk)
        simpa using this
      refine ⟨hk, hi, hr'.2, (tbl k).nm.data.toList.length, by omega, by omega, Or.inl ⟨?_, ?_⟩⟩
      · rw [ByteArray.toList_eq, ByteArray.toList_eq, ext_take s _ (by omega)]
        conv => lhs; rw [hpre]
        simp
      · rw [← hr'.1, ByteArray.toList_eq, ByteArray.toList_eq, ext_drop, hrest]
        conv => lhs; rw [hpre]
        simp
    · obtain ⟨e, h1, h2, hH, rfl⟩ := mem_cutsS.1 hc
      have hp' : symN (s.extract 0 e) = p := hp
      obtain ⟨hp32, hsy⟩ := (sym_iff (s.extract 0 e) p).1 ⟨hH, hp'⟩
      have hr' : readsB ⟨#[]⟩ (s.extract e s.size) (us i).nm (us i).sy (tbl (symN (s.extract 0 e))).bi (us i).tk = true := hr
      rw [hp'] at hr'
      unfold readsB calledB at hr'
      have e0 : (⟨#[]⟩ : ByteArray).toList.isEmpty = true := by rw [ByteArray.toList_eq]; rfl
      rw [e0] at hr'
      simp only [Bool.not_true, Bool.false_and, Bool.false_or, Bool.and_eq_true, beq_iff_eq] at hr'
      exact ⟨hp32, hi, hr'.2, e, h1, h2, Or.inr ⟨hsy, hr'.1.2⟩⟩
  · rintro ⟨hp, hi, ht, e, h1, h2, h | h⟩
    · obtain ⟨ha, hb⟩ := h
      rw [ByteArray.toList_eq, ByteArray.toList_eq] at ha hb
      rw [ext_take s e (by omega)] at ha
      rw [ext_drop] at hb
      have hpre : s.data.toList = (tbl p).nm.data.toList ++ s.data.toList.drop e := by rw [← ha, List.take_append_drop]
      have hbeg : beginsN s p = true := by
        unfold beginsN Lib.hasPrefix
        exact List.isPrefixOf_iff_prefix.2 ⟨_, hpre.symm⟩
      have hnl : (tbl p).nm.data.toList.length = e := by rw [← ha, List.length_take, hsz]; omega
      have hrest : (restN s p).data.toList = s.data.toList.drop e := by
        have : (restN s p).data.toList = Lib.trimPrefix s.data.toList (tbl p).nm.data.toList := by simp [restN]
        rw [this]
        unfold Lib.trimPrefix
        rw [if_pos (show Lib.hasPrefix s.data.toList (tbl p).nm.data.toList = true from hbeg), hnl]
      have hne : (restN s p).toList.isEmpty = false := by
        rw [empty_iff, hrest]
        intro e0
        have := congrArg List.length e0
        rw [List.length_drop, hsz] at this
        simp at this
        omega
      refine ⟨⟨p, (tbl p).bi, restN s p, ⟨#[]⟩⟩, List.mem_append_left _ (mem_cutsN.2 ⟨p, hp, hbeg, hne, rfl⟩), rfl, hi, ?_⟩
      show readsB (restN s p) ⟨#[]⟩ (us i).nm (us i).sy (tbl p).bi (us i).tk = true
      unfold readsB calledB
      rw [hne, ht]
      have : (restN s p).toList = (us i).nm.toList := by rw [ByteArray.toList_eq, ByteArray.toList_eq, hrest, hb]
      rw [this]
      simp
    · obtain ⟨hsy, hb⟩ := h
      obtain ⟨hH, hN⟩ := (sym_iff (s.extract 0 e) p).2 ⟨hp, hsy⟩
      refine ⟨⟨symN (s.extract 0 e), (tbl (symN (s.extract 0 e))).bi, ⟨#[]⟩, s.extract e s.size⟩, List.mem_append_right _ (mem_cutsS.2 ⟨e, h1, h2, hH, rfl⟩), hN, hi, ?_⟩
      show readsB ⟨#[]⟩ (s.extract e s.size) (us i).nm (us i).sy (tbl (symN (s.extract 0 e))).bi (us i).tk = true
      rw [hN]
      unfold readsB calledB
      have hne : (s.extract e s.size).toList.isEmpty = false := by
        rw [empty_iff, ext_drop]
        intro e0
        have := congrArg List.length e0
        rw [List.length_drop, hsz] at this
        simp at this
        omega
      rw [hne, ht, hb]
      simp
end Go.Proofs.YtpoapffbpgnkpaaGreatDoor

/- PrefixReads answers true. -/
import Derived.Test.YtpoapffbpgnkpaaGreatDoorSplit
namespace Go.Proofs.YtpoapffbpgnkpaaGreatDoor
open Go.RowKit Go.Maps Go.ChangeMaps Go.WideMaps
theorem sym_find {t : ByteArray} {q : List UInt8 × Nat} (hq : keysN.find? (fun q => q.1 == t.data.toList) = some q) : symH t = true ∧ symC t = (q.2 : Int) := by
  constructor
  · unfold symH
    rw [symAll_eq, has_eq, List.any_map, List.any_eq_true]
    exact ⟨q, List.mem_of_find?_eq_some hq, by have := List.find?_some hq; exact this⟩
  · unfold symC
    rw [symAll_eq]
    unfold DataW.atKey
    dsimp only
    rw [List.find?_map]
    have e : ((fun p : Lit × DataW Unit => p.1.sameKey (.string t.data.toList)) ∘ entN) = (fun q => q.1 == t.data.toList) := rfl
    rw [e, hq]
    rfl
theorem sym_found {t : ByteArray} (h : symH t = true) : ∃ q, keysN.find? (fun q => q.1 == t.data.toList) = some q := by
  unfold symH at h
  rw [symAll_eq, has_eq, List.any_map] at h
  have hf : (keysN.find? (fun q => q.1 == t.data.toList)).isSome = true := by
    rw [List.find?_isSome]
    obtain ⟨q, hq, h2⟩ := List.any_eq_true.1 h
    exact ⟨q, hq, h2⟩
  exact Option.isSome_iff_exists.1 hf
def okS (q : List UInt8 × Nat) : Bool := decide (q.2 < 32) && symB ⟨q.1.toArray⟩ (tbl q.2).nm (tbl q.2).sy
theorem keys_okS : keysN.all okS = true := by decide +kernel
theorem keys_at : (List.range 32).all (fun p => keysN.find? (fun q => q.1 == (tbl p).sy.data.toList) == some ((tbl p).sy.data.toList, p)) = true := by decide +kernel
theorem micro_only : (List.range 32).all (fun p => !((tbl p).nm.data.toList == [109, 105, 99, 114, 111]) || p == 15) = true := by decide +kernel
theorem nm_pos : (List.range 32).all (fun p => decide (0 < (tbl p).nm.data.size)) = true := by decide +kernel
/-- A text is a symbol of a prefix: by the map, and by the document's words. -/
theorem sym_iff (t : ByteArray) (p : Nat) : (symH t = true ∧ symN t = p) ↔ (p < 32 ∧ symB t (tbl p).nm (tbl p).sy = true) := by
  constructor
  · rintro ⟨h, rfl⟩
    obtain ⟨q, hq⟩ := sym_found h
    have hc := (sym_find hq).2
    have he : q.1 = t.data.toList := by have := List.find?_some hq; simpa using this
    have ho := List.all_eq_true.1 keys_okS q (List.mem_of_find?_eq_some hq)
    simp only [okS, Bool.and_eq_true, decide_eq_true_eq] at ho
    have hs : (⟨q.1.toArray⟩ : ByteArray) = t := by rw [he]
    have hn : symN t = q.2 := by unfold symN; rw [hc]; rfl
    rw [hn, ← hs]
    exact ho
  · rintro ⟨hp, h⟩
    unfold symB at h
    simp only [Bool.or_eq_true, Bool.and_eq_true, beq_iff_eq, ByteArray.toList_eq] at h
    have key : ∃ q : List UInt8 × Nat, keysN.find? (fun q => q.1 == t.data.toList) = some q ∧ q.2 = p := by
      rcases h with h | ⟨hm, h | h⟩
      · have := List.all_eq_true.1 keys_at p (by simpa using hp)
        rw [h]
        exact ⟨_, by simpa using this, rfl⟩
      · have h15 := List.all_eq_true.1 micro_only p (by simpa using hp)
        rw [hm] at h15
        have : p = 15 := by simpa using h15
        rw [h, this]
        exact ⟨([117], 15), by decide +kernel, rfl⟩
      · have h15 := List.all_eq_true.1 micro_only p (by simpa using hp)
        rw [hm] at h15
        have : p = 15 := by simpa using h15
        rw [h, this]
        exact ⟨([194, 181], 15), by decide +kernel, rfl⟩
    obtain ⟨q, hq, rfl⟩ := key
    obtain ⟨h1, h2⟩ := sym_find hq
    exact ⟨h1, by unfold symN; rw [h2]; rfl⟩
/-- The document's readings. -/
def RefRd (s : ByteArray) (us : Nat → UV) (n p i : Nat) : Prop := p < 32 ∧ i < n ∧ takesB (us i).tk (tbl p).bi = true ∧ ∃ e, 1 ≤ e ∧ e < s.size ∧ (((s.extract 0 e).toList = (tbl p).nm.toList ∧ (s.extract e s.size).toList = (us i).nm.toList) ∨ (symB (s.extract 0 e) (tbl p).nm (tbl p).sy = true ∧ (s.extract e s.size).toList = (us i).sy.toList))
theorem mem_cutsN {s : ByteArray} {c : CV} : c ∈ cutsN s 32 ↔ ∃ k, k < 32 ∧ beginsN s k = true ∧ (restN s k).toList.isEmpty = false ∧ c = ⟨k, (tbl k).bi, restN s k, ⟨#[]⟩⟩ := by
  unfold cutsN
  rw [List.mem_flatMap]
  constructor
  · rintro ⟨k, hk, hc⟩
    unfold cutN at hc
    split at hc
    · rename_i h
      simp only [Bool.and_eq_true, Bool.not_eq_true'] at h
      exact ⟨k, by simpa using hk, h.1, h.2, List.mem_singleton.1 hc⟩
    · cases hc
  · rintro ⟨k, hk, h1, h2, rfl⟩
    refine ⟨k, by simpa using hk, ?_⟩
    unfold cutN
    rw [h1, h2]
    simp
theorem mem_cutsS {s : ByteArray} {c : CV} : c ∈ cutsS s s.size ↔ ∃ e, 1 ≤ e ∧ e < s.size ∧ symH (s.extract 0 e) = true ∧ c = ⟨symN (s.extract 0 e), (tbl (symN (s.extract 0 e))).bi, ⟨#[]⟩, s.extract e s.size⟩ := by
  unfold cutsS
  rw [List.mem_flatMap]
  constructor
  · rintro ⟨e, he, hc⟩
    unfold cutS at hc
    split at hc
    · cases hc
    · split at hc
      · exact ⟨e, by omega, by simpa using he, by assumption, List.mem_singleton.1 hc⟩
      · cases hc
  · rintro ⟨e, h1, h2, h3, rfl⟩
    refine ⟨e, by simpa using h2, ?_⟩
    unfold cutS
    rw [if_neg (by omega), if_pos h3]
    simp
theorem rdgs_mem {s : ByteArray} {us : Nat → UV} {n p i : Nat} : Rdgs s us n p i ↔ ∃ c ∈ cutsE s s.size, c.p = p ∧ i < n ∧ rdB c (us i) = true := by
  unfold Rdgs
  rw [seen_end]
  constructor
  · rintro ⟨c, hc, h⟩
    refine ⟨csOf s c, ?_, h⟩
    unfold csOf
    rw [List.getElem?_eq_getElem hc]
    exact List.getElem_mem hc
  · rintro ⟨c, hc, h⟩
    obtain ⟨k, hk, rfl⟩ := List.getElem_of_mem hc
    refine ⟨k, hk, ?_⟩
    have : csOf s k = (cutsE s s.size)[k] := by unfold csOf; rw [List.getElem?_eq_getElem hk]; rfl
    rw [this]
    exact h
theorem pre_rest {l p : List UInt8} (h : Lib.hasPrefix l p = true) : l = p ++ Lib.trimPrefix l p := by
  unfold Lib.trimPrefix
  rw [if_pos h]
  unfold Lib.hasPrefix at h
  obtain ⟨t, ht⟩ := List.isPrefixOf_iff_prefix.1 h
  rw [← ht]
  simp
theorem ext_take (s : ByteArray) (e : Nat) (_he : e ≤ s.size) : (s.extract 0 e).data.toList = s.data.toList.take e := by
  simp [ByteArray.data_extract]
theorem ext_drop (s : ByteArray) (e : Nat) : (s.extract e s.size).data.toList = s.data.toList.drop e := by
  rw [ByteArray.data_extract, show s.size = s.data.size from rfl]
  simp
  exact List.take_of_length_le (by rw [List.length_drop]; have : s.data.toList.length = s.size := by simp
                                   omega)
theorem empty_iff (b : ByteArray) : b.toList.isEmpty = false ↔ b.data.toList ≠ [] := by
  rw [ByteArray.toList_eq]
  cases b.data.toList <;> simp
theorem rdgs_iff {s : ByteArray} {us : Nat → UV} {n : Nat} (p i : Nat) : Rdgs s us n p i ↔ RefRd s us n p i := by
  rw [rdgs_mem]
  have hsz : s.data.toList.length = s.size := by simp
  constructor
  · rintro ⟨c, hc, hp, hi, hr⟩
    unfold cutsE at hc
    rcases List.mem_append.1 hc with hc | hc
    · obtain ⟨k, hk, hb, hne, rfl⟩ := mem_cutsN.1 hc
      have hp' : k = p := hp
      subst hp'
      have hr' : readsB (restN s k) ⟨#[]⟩ (us i).nm (us i).sy (tbl k).bi (us i).tk = true := hr
      unfold readsB calledB at hr'
      rw [hne] at hr'
      have e0 : (⟨#[]⟩ : ByteArray).toList.isEmpty = true := by rw [ByteArray.toList_eq]; rfl
      rw [e0] at hr'
      simp only [Bool.not_false, Bool.not_true, Bool.true_and, Bool.false_and, Bool.or_false, Bool.and_eq_true, beq_iff_eq] at hr'
      have hpre := pre_rest (l := s.data.toList) (p := (tbl k).nm.data.toList) hb
      have hrest : (restN s k).data.toList = Lib.trimPrefix s.data.toList (tbl k).nm.data.toList := by simp [restN]
      have hlen := congrArg List.length hpre
      rw [List.length_append, hsz] at hlen
      have hr0 : 0 < (Lib.trimPrefix s.data.toList (tbl k).nm.data.toList).length := by
        rw [← hrest]
        exact List.length_pos_iff.2 ((empty_iff _).1 hne)
      have hn0 : 0 < (tbl k).nm.data.toList.length := by
        have := List.all_eq_true.1 nm_pos k (by simpa using hk)
        simpa using this
      refine ⟨hk, hi, hr'.2, (tbl k).nm.data.toList.length, by omega, by omega, Or.inl ⟨?_, ?_⟩⟩
      · rw [ByteArray.toList_eq, ByteArray.toList_eq, ext_take s _ (by omega)]
        conv => lhs; rw [hpre]
        simp
      · rw [← hr'.1, ByteArray.toList_eq, ByteArray.toList_eq, ext_drop, hrest]
        conv => lhs; rw [hpre]
        simp
    · obtain ⟨e, h1, h2, hH, rfl⟩ := mem_cutsS.1 hc
      have hp' : symN (s.extract 0 e) = p := hp
      obtain ⟨hp32, hsy⟩ := (sym_iff (s.extract 0 e) p).1 ⟨hH, hp'⟩
      have hr' : readsB ⟨#[]⟩ (s.extract e s.size) (us i).nm (us i).sy (tbl (symN (s.extract 0 e))).bi (us i).tk = true := hr
      rw [hp'] at hr'
      unfold readsB calledB at hr'
      have e0 : (⟨#[]⟩ : ByteArray).toList.isEmpty = true := by rw [ByteArray.toList_eq]; rfl
      rw [e0] at hr'
      simp only [Bool.not_true, Bool.false_and, Bool.false_or, Bool.and_eq_true, beq_iff_eq] at hr'
      exact ⟨hp32, hi, hr'.2, e, h1, h2, Or.inr ⟨hsy, hr'.1.2⟩⟩
  · rintro ⟨hp, hi, ht, e, h1, h2, h | h⟩
    · obtain ⟨ha, hb⟩ := h
      rw [ByteArray.toList_eq, ByteArray.toList_eq] at ha hb
      rw [ext_take s e (by omega)] at ha
      rw [ext_drop] at hb
      have hpre : s.data.toList = (tbl p).nm.data.toList ++ s.data.toList.drop e := by rw [← ha, List.take_append_drop]
      have hbeg : beginsN s p = true := by
        unfold beginsN Lib.hasPrefix
        exact List.isPrefixOf_iff_prefix.2 ⟨_, hpre.symm⟩
      have hnl : (tbl p).nm.data.toList.length = e := by rw [← ha, List.length_take, hsz]; omega
      have hrest : (restN s p).data.toList = s.data.toList.drop e := by
        have : (restN s p).data.toList = Lib.trimPrefix s.data.toList (tbl p).nm.data.toList := by simp [restN]
        rw [this]
        unfold Lib.trimPrefix
        rw [if_pos (show Lib.hasPrefix s.data.toList (tbl p).nm.data.toList = true from hbeg), hnl]
      have hne : (restN s p).toList.isEmpty = false := by
        rw [empty_iff, hrest]
        intro e0
        have := congrArg List.length e0
        rw [List.length_drop, hsz] at this
        simp at this
        omega
      refine ⟨⟨p, (tbl p).bi, restN s p, ⟨#[]⟩⟩, List.mem_append_left _ (mem_cutsN.2 ⟨p, hp, hbeg, hne, rfl⟩), rfl, hi, ?_⟩
      show readsB (restN s p) ⟨#[]⟩ (us i).nm (us i).sy (tbl p).bi (us i).tk = true
      unfold readsB calledB
      rw [hne, ht]
      have : (restN s p).toList = (us i).nm.toList := by rw [ByteArray.toList_eq, ByteArray.toList_eq, hrest, hb]
      rw [this]
      simp
    · obtain ⟨hsy, hb⟩ := h
      obtain ⟨hH, hN⟩ := (sym_iff (s.extract 0 e) p).2 ⟨hp, hsy⟩
      refine ⟨⟨symN (s.extract 0 e), (tbl (symN (s.extract 0 e))).bi, ⟨#[]⟩, s.extract e s.size⟩, List.mem_append_right _ (mem_cutsS.2 ⟨e, h1, h2, hH, rfl⟩), hN, hi, ?_⟩
      show readsB ⟨#[]⟩ (s.extract e s.size) (us i).nm (us i).sy (tbl (symN (s.extract 0 e))).bi (us i).tk = true
      rw [hN]
      unfold readsB calledB
      have hne : (s.extract e s.size).toList.isEmpty = false := by
        rw [empty_iff, ext_drop]
        intro e0
        have := congrArg List.length e0
        rw [List.length_drop, hsz] at this
        simp at this
        omega
      rw [hne, ht, hb]
      simp
/-- What a reading says of the word. -/
theorem reading_word {s : ByteArray} {us : Nat → UV} {n p i : Nat} (h : Rdgs s us n p i) :
    ((tbl p).nm ++ (us i).nm).toList = s.toList ∨ ((tbl p).sy ++ (us i).sy).toList = s.toList ∨ ((tbl p).nm.toList = [109, 105, 99, 114, 111] ∧ ((⟨#[117]⟩ ++ (us i).sy : ByteArray).toList = s.toList ∨ (⟨#[194, 181]⟩ ++ (us i).sy : ByteArray).toList = s.toList)) := by
  obtain ⟨hp, hi, ht, e, h1, h2, h⟩ := (rdgs_iff p i).1 h
  have happ : ∀ a b : ByteArray, (a ++ b).toList = a.toList ++ b.toList := fun a b => by simp [ByteArray.toList_eq]
  have hspl : s.toList = (s.extract 0 e).toList ++ (s.extract e s.size).toList := by
    rw [ByteArray.toList_eq, ByteArray.toList_eq, ByteArray.toList_eq, ext_take s e (by omega), ext_drop, List.take_append_drop]
  rcases h with ⟨ha, hb⟩ | ⟨ha, hb⟩
  · left
    rw [happ, hspl, ha, hb]
  · right
    unfold symB at ha
    simp only [Bool.or_eq_true, Bool.and_eq_true, beq_iff_eq] at ha
    rcases ha with ha | ⟨hm, ha | ha⟩
    · left; rw [happ, hspl, ha, hb]
    · right; refine ⟨hm, Or.inl ?_⟩; rw [happ, hspl, ha, hb, ByteArray.toList_eq]
    · right; refine ⟨hm, Or.inr ?_⟩; rw [happ, hspl, ha, hb, ByteArray.toList_eq]
end Go.Proofs.YtpoapffbpgnkpaaGreatDoor

namespace Go.Proofs.YtpoapffbpgnkpaaGreatDoor
open Go.RowKit
theorem nm_len (p : Nat) (hp : p < 32) : (tbl p).nm.size ≤ 100 ∧ (tbl p).sy.size ≤ 100 ∧ (tbl p).nm.toList.isEmpty = false := by
  have h : (List.range 32).all (fun p => decide ((tbl p).nm.data.size ≤ 100) && decide ((tbl p).sy.data.size ≤ 100) && !(tbl p).nm.data.toList.isEmpty) = true := by decide +kernel
  have := List.all_eq_true.1 h p (by simpa using hp)
  simp only [Bool.and_eq_true, decide_eq_true_eq, Bool.not_eq_true'] at this
  exact ⟨this.1.1, this.1.2, by rw [ByteArray.toList_eq]; exact this.2⟩
theorem splitR_cases {s : ByteArray} {us : Nat → UV} {n : Nat} {v : Value} (h : SplitR (Rdgs s us n) s us n v) :
    (∃ e : Int, e ≠ 0 ∧ v = .tuple #[.agg #[.string ⟨#[]⟩, .string ⟨#[]⟩, .string ⟨#[]⟩, .string ⟨#[]⟩, .bool false], .int .i64 0, .int .i64 e]) ∨ (∃ k : Nat, k < n ∧ plainU s us k = true ∧ v = .tuple #[.agg #[.string ⟨#[]⟩, .string ⟨#[]⟩, .string ⟨#[]⟩, .string ⟨#[]⟩, .bool false], .int .i64 (k : Int), .int .i64 0]) ∨ (∃ p i : Nat, p < 32 ∧ i < n ∧ Rdgs s us n p i ∧ v = .tuple #[.agg #[.string (tbl p).nm, .string (tbl p).sy, .string (tbl p).fn, .string (tbl p).fd, .bool (tbl p).bi], .int .i64 (i : Int), .int .i64 0]) := by
  rcases h with ⟨_, rfl⟩ | ⟨_, _, k, hk, hf, rfl⟩ | ⟨_, _, _, e, p, i, ho, rfl⟩
  · exact Or.inl ⟨3, by decide, rfl⟩
  · refine Or.inr (Or.inl ⟨k, hk, ?_, rfl⟩)
    rcases hf with ⟨j, hj, e, h1, _⟩ | ⟨e, _⟩
    · have : k = j := by omega
      rw [this]; exact h1
    · omega
  · by_cases he : e = 0
    · subst he
      obtain ⟨hp, hi⟩ := rout_p ho
      refine Or.inr (Or.inr ⟨p, i, hp, hi, ?_, by unfold resV; rw [if_pos rfl]; rfl⟩)
      rcases ho with (⟨h, _⟩ | ⟨_, h, _⟩) | ⟨h, _⟩
      · cases h
      · exact h
      · cases h
    · exact Or.inl ⟨e, he, by unfold resV; rw [if_neg he]; rfl⟩
set_option maxRecDepth 100000 in
set_option maxHeartbeats 4000000 in
theorem readsLaw_any (s : ByteArray) (hs : s.size ≤ maxLen) (a : Option Addr) (n cap : Nat) (us : Nat → UV) (w : World) (hU : InU w a n us) (hn : n ≤ maxLen) (hz : ∀ i, i < n → (us i).nm.size ≤ 140737488355328 ∧ (us i).sy.size ≤ 140737488355328) (htab : Tab w) :
    Calls Tryz.prog 5 #[.string s, .slice a n cap] w fun r w' => r = .returned (.bool true) ∧ Below w.heap.size w w' := by
  have HU := hide hU; have HTW := hide htab; have HZ := hide hz
  have HSP := hide (split_any s hs a n cap us w hU hn htab)
  unfold maxLen at hn hs
  clear hU htab hz
  go_enter Tryz.func5, Tryz.ntmps5
  go_upto_region 2 with (go_at_call 7; go_must (refine (unhide HSP).mono ?_; rintro e w1 ⟨v, rfl, hv, hb1⟩; have HB1 := hide hb1; have HR := hide (splitR_cases hv); clear hb1 hv; rcases unhide HR with ⟨e1, he1, rfl⟩ | ⟨k, hk, hk1, rfl⟩ | ⟨p, k, hp, hk, hrd, rfl⟩))
  · have he' : (e1 == 0) = false := by simpa using he1
    have HTV : Hid (∀ O, Tab (w1.alloc O)) := fun O => (unhide HTW).later ((unhide HB1).alloc (unhide HB1).size O)
    go_wp2_with (go_at_call 9; go_must (refine (known_any _ (unhide HTV _)).mono ?_; rintro e wk ⟨rfl, hbk⟩; have HBK := hide hbk; clear hbk))
    go_ret
    exact ⟨rfl, bel_al (unhide HB1) (unhide HBK)⟩
  · have hk0 : (0 : Int) ≤ (k : Int) := by omega
    have hkI : (k : Int) < (n : Int) := by omega
    obtain ⟨g, o, rfl, hg, hr⟩ := ((unhide HU).later (unhide HB1)) (by omega)
    have hrow := hr k hk
    clear hr
    have HPL : Hid (plainB s (us k).nm (us k).sy = true) := hk1
    clear hk1 HR
    have c0 := hrow.c0; have c1 := hrow.c1; have c2 := hrow.c2; have c3 := hrow.c3; have c4 := hrow.c4; have c5 := hrow.c5; have c6 := hrow.c6; have c7 := hrow.c7; have c8 := hrow.c8; have c9 := hrow.c9; have c10 := hrow.c10; have c11 := hrow.c11; have c12 := hrow.c12; have c13 := hrow.c13; have c14 := hrow.c14
    clear hrow
    generalize us k = u at c0 c1 c2 c3 c4 c5 c6 c7 c8 c9 c10 c11 c12 c13 c14 HPL
    obtain ⟨nm, sy, d0, d1, d2, d3, d4, d5, d6, d7, fn, fd, on, od, tk⟩ := u
    have hpl := unhide HPL
    unfold plainB at hpl
    have HTV : Hid (∀ O O', Tab ((w1.alloc O).alloc O')) := fun O O' => (unhide HTW).later (((unhide HB1).alloc (unhide HB1).size O).alloc (by have h := (unhide HB1).size; simp; omega) O')
    have HFIN : Hid (∀ O O' wk, Below ((w1.alloc O).alloc O').heap.size ((w1.alloc O).alloc O') wk → Below w.heap.size w wk) := fun O O' wk hb => (((unhide HB1).alloc (unhide HB1).size O).alloc (by have h := (unhide HB1).size; simp; omega) O').trans (hb.mono (by have h := (unhide HB1).size; simp; omega))
    cases h1 : (nm.toList == s.toList) <;> cases h2 : (sy.toList == s.toList)
    · rw [h1, h2] at hpl; cases hpl
    all_goals
      clear hpl HPL
      go_wp2_with (go_at_call 9; go_must (refine (known_any _ (unhide HTV _ _)).mono ?_; rintro e wk ⟨rfl, hbk⟩; have HBK := hide (unhide HFIN _ _ _ hbk); clear hbk))
      go_ret
      exact ⟨rfl, unhide HBK⟩
  · have hk0 : (0 : Int) ≤ (k : Int) := by omega
    have hkI : (k : Int) < (n : Int) := by omega
    obtain ⟨g, o, rfl, hg, hr⟩ := ((unhide HU).later (unhide HB1)) (by omega)
    have hrow := hr k hk
    clear hr HR
    obtain ⟨hl1, hl2, hne⟩ := nm_len p hp
    have HW := hide (reading_word hrd)
    obtain ⟨hz1, hz2⟩ := unhide HZ k hk
    clear hrd
    have c0 := hrow.c0; have c1 := hrow.c1; have c2 := hrow.c2; have c3 := hrow.c3; have c4 := hrow.c4; have c5 := hrow.c5; have c6 := hrow.c6; have c7 := hrow.c7; have c8 := hrow.c8; have c9 := hrow.c9; have c10 := hrow.c10; have c11 := hrow.c11; have c12 := hrow.c12; have c13 := hrow.c13; have c14 := hrow.c14
    clear hrow
    generalize us k = u at c0 c1 c2 c3 c4 c5 c6 c7 c8 c9 c10 c11 c12 c13 c14 HW hz1 hz2
    obtain ⟨nm, sy, d0, d1, d2, d3, d4, d5, d6, d7, fn, fd, on, od, tk⟩ := u
    generalize (tbl p).nm = pn at *
    generalize (tbl p).sy = ps at *
    generalize (tbl p).fn = pf at *
    generalize (tbl p).fd = pd at *
    generalize (tbl p).bi = pb at *
    have hz1' : nm.size ≤ 140737488355328 := hz1
    have hz2' : sy.size ≤ 140737488355328 := hz2
    have HW' : Hid (((pn ++ nm).toList == s.toList || (ps ++ sy).toList == s.toList || (pn.toList == [109, 105, 99, 114, 111] && ((⟨#[117]⟩ ++ sy : ByteArray).toList == s.toList || (⟨#[194, 181]⟩ ++ sy : ByteArray).toList == s.toList))) = true) := by
      show _ = true
      simp only [Bool.or_eq_true, Bool.and_eq_true, beq_iff_eq]
      rcases unhide HW with h | h | h
      · exact Or.inl (Or.inl h)
      · exact Or.inl (Or.inr h)
      · exact Or.inr h
    clear HW hz1 hz2
    have HTV : Hid (∀ O O', Tab ((w1.alloc O).alloc O')) := fun O O' => (unhide HTW).later (((unhide HB1).alloc (unhide HB1).size O).alloc (by have h := (unhide HB1).size; simp; omega) O')
    have HFIN : Hid (∀ O O' wk, Below ((w1.alloc O).alloc O').heap.size ((w1.alloc O).alloc O') wk → Below w.heap.size w wk) := fun O O' wk hb => (((unhide HB1).alloc (unhide HB1).size O).alloc (by have h := (unhide HB1).size; simp; omega) O').trans (hb.mono (by have h := (unhide HB1).size; simp; omega))
    go_upto_region 9 with fail
    cases b1 : ((pn ++ nm).toList == s.toList) <;> cases b2 : ((ps ++ sy).toList == s.toList) <;> cases b3 : (pn.toList == [109, 105, 99, 114, 111]) <;> cases b4 : ((⟨#[117]⟩ ++ sy : ByteArray).toList == s.toList) <;> cases b5 : ((⟨#[194, 181]⟩ ++ sy : ByteArray).toList == s.toList)
    all_goals
      first
      | (have h := unhide HW'; rw [b1, b2, b3, b4, b5] at h; cases h; done)
      | (clear HW'
         go_wp2_with (go_at_call 9; go_must (refine (known_any _ (unhide HTV _ _)).mono ?_; rintro e wk ⟨rfl, hbk⟩; have HBK := hide (unhide HFIN _ _ _ hbk); clear hbk))
         go_ret
         exact ⟨rfl, unhide HBK⟩)
end Go.Proofs.YtpoapffbpgnkpaaGreatDoor

/- NamesWords: true, whatever the input, as long as the text is not too great. -/
import Derived.Test.YtiooiacebgojiabDoorCut
import Derived.Test.YtiooiacebgojiabDoorClass3
import Derived.Test.YtiooiacebgojiabDoorAwake
import Derived.Laws.IdiomStrings
import Derived.Laws.RangeAny
import Derived.WalkSmall
import Derived.Deep.Cut
import Derived.Deep.CutRange
namespace Go.Proofs.YtiooiacebgojiabDoor
open Go.RowKit

theorem runesFrom_keep (s : ByteArray) : ∀ (b i : Nat) (acc : Array Value) (j : Nat) (v : Value), acc[j]? = some v → (Conv.runesFrom s b i acc)[j]? = some v
  | 0, _, acc, j, v, h => by simpa [Conv.runesFrom] using h
  | b + 1, i, acc, j, v, h => by
    unfold Conv.runesFrom
    split
    · refine runesFrom_keep s b _ _ j v ?_
      have hj : j < acc.size := (Array.getElem?_eq_some_iff.1 h).1
      rw [Array.getElem?_push_lt hj]
      exact (Array.getElem?_eq_some_iff.1 h).2 ▸ rfl
    · exact h
theorem runesFrom_first (s : ByteArray) (hs : 0 < s.size) : (Conv.runesFrom s s.size 0 #[])[0]? = some (.int .i32 ((Utf8.decode s 0).1 : Nat)) := by
  obtain ⟨b, hb⟩ : ∃ b, s.size = b + 1 := ⟨s.size - 1, by omega⟩
  rw [hb]
  unfold Conv.runesFrom
  rw [if_pos (by omega)]
  exact runesFrom_keep s b _ _ 0 _ rfl
/-- A text as its runes: the first one. -/
theorem runes_conv (s : ByteArray) (hs : 0 < s.size) (hmax : s.size ≤ 70368744177664) (W : World) : ∃ (n cap : Nat) (W' : World), 0 < n ∧ (convert 9 30 (.string s)).run Tryd.prog W = .ok (.slice (some ⟨W.heap.size, 0, none⟩) n cap) W' ∧ W'.cell? ⟨W.heap.size, 0, none⟩ = some (.int .i32 ((Utf8.decode s 0).1 : Nat)) ∧ Below W.heap.size W W' := by
  have hf := runesFrom_first s hs
  have hn : 0 < (Conv.runesFrom s s.size 0 #[]).size := (Array.getElem?_eq_some_iff.1 hf).1
  have hle : (Conv.runesFrom s s.size 0 #[]).size ≤ 70368744177664 := by
    have := size_runesFrom s s.size 0 #[]
    simp at this
    omega
  refine ⟨_, _, _, hn, run_runes_of_string W 9 30 21 s Tryd.underlying9 Tryd.underlying30 Tryd.underlying21 hle, ?_, (Below.refl _ _).drew.alloc (Nat.le_refl _) _⟩
  rw [cell_of_row _ W.heap.size 0 _ 21 (0, 0) (heap_alloc_new W.drew _), Array.getElem?_append_left hn]
  exact hf
theorem tail_list (s : ByteArray) (k : Nat) : (s.extract k s.size).data.toList = s.data.toList.drop k := by
  have hl : s.data.toList.length = s.size := by simp
  simp only [ByteArray.extract, ByteArray.copySlice]
  simp
  exact List.take_of_length_le (by rw [List.length_drop, hl]; exact Nat.le_refl _)
theorem tail_size (s : ByteArray) (k : Nat) : (s.extract k s.size).size = s.size - k := by
  rw [← toL, tail_list, List.length_drop, toL]
theorem tail_decode (s : ByteArray) (k p : Nat) : Utf8.decode (s.extract k s.size) p = Utf8.decode s (k + p) := by
  rw [← decodeL_at, tail_list, List.drop_drop, decodeL_at]
theorem lg_len {s : ByteArray} {p : Nat} {f : Int} {acc out : List UInt8} {q : Nat} (h : Lg s p f acc out q) : p ≤ s.size → out.length + 4 * p ≤ acc.length + 4 * q ∧ p ≤ q := by
  induction h with
  | stop p f acc hp hc => intro h1; omega
  | done p f acc hn => intro h1; omega
  | step p f acc out q hp hc _ ih =>
    intro h1
    have hw := width_le s p hp
    have hw0 := Lib.decode_width_pos s p hp
    obtain ⟨h2, h3⟩ := ih hw
    have h4 := (Lib.runeCells_le (foldR ((Utf8.decode s p).1 : Nat))).2
    rw [Lib.runeCells_length] at h4
    rw [List.length_append] at h2
    omega
theorem encL_pos {F : List Int} (h : IsWord F) : 0 < (encL F).length := by
  obtain ⟨f0, T, hF, _, _⟩ := h.shape
  obtain ⟨k, hk, hk2⟩ := h.range f0 (by rw [hF]; simp)
  rw [hF, encL_cons, List.length_append]
  have := enc_pos f0 k hk hk2
  omega
theorem len_text (l : List UInt8) : (⟨l.toArray⟩ : ByteArray).size = l.length := by simp [ByteArray.size]
/-- A word that was cut out. -/
structure CutW (s : ByteArray) (a : Int) (k q : Nat) (F : List Int) (r0 : Int) : Prop where
  place : a = (k : Int)
  fits : k + q ≤ s.size
  pos : 0 < q
  word : IsWord F
  head : F.head? = some (foldR r0)
  first : r0 = ((Utf8.decode s k).1 : Nat)
  begins : classOf r0 = 1 ∨ classOf r0 = 4
  ends : k + q < s.size → goesB r0 (Utf8.decode s (k + q)).1 = false
  short : (encL F).length ≤ 4 * s.size
/-- What Cut tells: an error, or a word. -/
theorem cut_fix (s : ByteArray) (a : Int) (hs : s.size ≤ 1000000000000) : (∃ x : Int, (x == 0) = false ∧ ∀ w, Calls Tryd.prog 9 #[.string s, .int .i64 a] w fun e w' => e = .returned (.tuple #[.string ⟨#[]⟩, .int .i64 0, .int .i64 x]) ∧ Below w.heap.size w w') ∨
    ∃ (k q : Nat) (F : List Int) (r0 : Int), CutW s a k q F r0 ∧ ∀ w, Calls Tryd.prog 9 #[.string s, .int .i64 a] w fun e w' => e = .returned (.tuple #[.string ⟨(encL F).toArray⟩, .int .i64 (q : Nat), .int .i64 0]) ∧ Below w.heap.size w w' := by
  by_cases h : a < 0 ∨ (s.size : Int) < a
  · refine .inl ⟨1, rfl, fun w => (cut_out s a h w).mono ?_⟩
    rintro e w' ⟨rfl, rfl⟩
    exact ⟨rfl, Below.refl _ _⟩
  obtain ⟨k, rfl⟩ : ∃ k : Nat, a = (k : Int) := ⟨a.toNat, by omega⟩
  have hk : k ≤ s.size := by omega
  by_cases hex : ∃ out q, Lg (s.extract k s.size) 0 0 [] out q
  · obtain ⟨out, q, hl⟩ := hex
    have hcall : ∀ w, Calls Tryd.prog 9 #[.string s, .int .i64 (k : Int)] w fun e w' => e = .returned (cutV out q) ∧ Below w.heap.size w w' := fun w => (cut_at s _ k hk rfl w hs).mono fun e w' ⟨hf, hb⟩ => by
      obtain ⟨o', q', rfl, hl'⟩ := hf
      obtain ⟨rfl, rfl⟩ := hl.det hl'
      exact ⟨rfl, hb⟩
    rcases lg_word hl with ⟨rfl, rfl, _⟩ | ⟨hq, hqs, r0, F, hr0, hF, rfl, hh, hend⟩
    · refine .inl ⟨60, rfl, fun w => (hcall w).mono ?_⟩
      rintro e w' ⟨rfl, hb⟩
      exact ⟨rfl, hb⟩
    · rw [tail_size s k] at hqs hend
      rw [tail_decode] at hr0 hend
      have hlen := (lg_len hl (Nat.zero_le _)).1
      refine .inr ⟨k, q, F, r0, ⟨rfl, by omega, hq, hF, hh, by simpa using hr0, ?_, fun h => hend (by omega), by simp at hlen; omega⟩, fun w => (hcall w).mono ?_⟩
      · obtain ⟨f0, T, hFF, hc, _⟩ := hF.shape
        rw [hFF] at hh
        have : f0 = foldR r0 := by simpa using hh
        rw [this, class_fold] at hc
        exact hc
      · rintro e w' ⟨rfl, hb⟩
        exact ⟨by rw [cutV_ok _ q (by omega)], hb⟩
  · refine .inl ⟨1, rfl, fun w => (cut_at s _ k hk rfl w hs).mono ?_⟩
    rintro e w' ⟨hf, hb⟩
    obtain ⟨o', q', rfl, hl'⟩ := hf
    exact absurd ⟨o', q', hl'⟩ hex
/-- A word is cut out whole. -/
theorem cut_again {F : List Int} (h : IsWord F) (hs : (encL F).length ≤ 1000000000000) (w : World) : Calls Tryd.prog 9 #[.string ⟨(encL F).toArray⟩, .int .i64 0] w fun e w' => e = .returned (.tuple #[.string ⟨(encL F).toArray⟩, .int .i64 ((encL F).length : Nat), .int .i64 0]) ∧ Below w.heap.size w w' := by
  have hx : (⟨(encL F).toArray⟩ : ByteArray).extract 0 (⟨(encL F).toArray⟩ : ByteArray).size = ⟨(encL F).toArray⟩ := by
    apply ByteArray.ext
    simp
  refine (cut_at _ _ 0 (Nat.zero_le _) hx w (by rw [len_text]; exact hs)).mono ?_
  rintro e w' ⟨hf, hb⟩
  obtain ⟨o', q', rfl, hl'⟩ := hf
  obtain ⟨rfl, rfl⟩ := (lg_again h).det hl'
  have := encL_pos h
  rw [cutV_ok _ _ (by rw [len_text]; omega), len_text]
  exact ⟨rfl, hb⟩
/-- What Fold tells: an error, or a word. -/
theorem fold_fix2 (s : ByteArray) (hs : s.size ≤ 1000000000000) : (∃ (t : ByteArray) (x y : Int), (x == 0) = false ∧ ∀ w, Calls Tryd.prog 7 #[.string s] w fun e w' => e = .returned (.tuple #[.string t, .int .i64 x, .int .i64 y]) ∧ Below w.heap.size w w') ∨
    ∃ F : List Int, IsWord F ∧ (encL F).length ≤ 40 ∧ encL F ≠ [105, 110] ∧ ∀ w, Calls Tryd.prog 7 #[.string s] w fun e w' => e = .returned (.tuple #[.string ⟨(encL F).toArray⟩, .int .i64 0, .int .i64 0]) ∧ Below w.heap.size w w' := by
  by_cases hex : ∃ out q, Lg s 0 0 [] out q
  · obtain ⟨out, q, hl⟩ := hex
    have hcall : ∀ w, Calls Tryd.prog 7 #[.string s] w fun e w' => e = .returned (foldV s out q) ∧ Below w.heap.size w w' := fun w => (fold_any s w hs).mono fun e w' ⟨⟨o', q', he, hl'⟩, hb⟩ => by
      obtain ⟨rfl, rfl⟩ := hl.det hl'
      exact ⟨he, hb⟩
    by_cases h1 : s.size = 0 ∨ q < s.size
    · exact .inl ⟨⟨#[]⟩, 60, (q : Nat), rfl, fun w => (hcall w).mono fun e w' ⟨he, hb⟩ => ⟨by rw [he]; unfold foldV; rw [if_pos h1], hb⟩⟩
    by_cases h2 : 40 < out.length
    · exact .inl ⟨⟨#[]⟩, 4, 0, rfl, fun w => (hcall w).mono fun e w' ⟨he, hb⟩ => ⟨by rw [he]; unfold foldV; rw [if_neg h1, if_pos h2], hb⟩⟩
    by_cases h3 : out = [105, 110]
    · exact .inl ⟨⟨#[]⟩, 201, 0, rfl, fun w => (hcall w).mono fun e w' ⟨he, hb⟩ => ⟨by rw [he]; unfold foldV; rw [if_neg h1, if_neg h2, if_pos h3], hb⟩⟩
    rcases lg_word hl with ⟨rfl, rfl, _⟩ | ⟨hq, hqs, r0, F, hr0, hF, rfl, hh, hend⟩
    · exfalso; omega
    · exact .inr ⟨F, hF, by omega, h3, fun w => (hcall w).mono fun e w' ⟨he, hb⟩ => ⟨by rw [he]; unfold foldV; rw [if_neg h1, if_neg h2, if_neg h3], hb⟩⟩
  · refine .inl ⟨⟨#[]⟩, 1, 0, rfl, fun w => (fold_any s w hs).mono ?_⟩
    rintro e w' ⟨⟨o', q', he, hl'⟩, hb⟩
    exact absurd ⟨o', q', hl'⟩ hex
theorem fold_again {F : List Int} (h : IsWord F) (h40 : (encL F).length ≤ 40) (hin : encL F ≠ [105, 110]) (w : World) : Calls Tryd.prog 7 #[.string ⟨(encL F).toArray⟩] w fun e w' => e = .returned (.tuple #[.string ⟨(encL F).toArray⟩, .int .i64 0, .int .i64 0]) ∧ Below w.heap.size w w' := by
  refine (fold_any _ w (by rw [len_text]; omega)).mono ?_
  rintro e w' ⟨⟨o', q', rfl, hl'⟩, hb⟩
  obtain ⟨rfl, rfl⟩ := (lg_again h).det hl'
  have := encL_pos h
  refine ⟨?_, hb⟩
  unfold foldV
  rw [len_text, if_neg (by omega), if_neg (by omega), if_neg hin]
theorem right_again {F : List Int} (h : IsWord F) (h40 : (encL F).length ≤ 40) (hin : encL F ≠ [105, 110]) (w : World) : Calls Tryd.prog 8 #[.string ⟨(encL F).toArray⟩] w fun e w' => e = .returned (.bool true) ∧ Below w.heap.size w w' :=
  (right_of _ _ 0 0 w (fold_again h h40 hin w)).mono fun e w' ⟨he, hb⟩ => ⟨by rw [he]; simp, hb⟩
end Go.Proofs.YtiooiacebgojiabDoor

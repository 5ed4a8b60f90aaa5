/- nat.tell and nat.readTwo: what is told, and what is read. -/
import Derived.Test.YthcihkgellginaaDoorText
import Derived.Deep.RegionWith
namespace Go.Proofs.YthcihkgellginaaDoor
open Go.RowKit

/-- What is told of a number: its text, or ErrLarge (7). -/
def toldText (n : Nat) : List UInt8 := if n < 10 ^ 600 then Lib.decDigits n else []
def toldErr (n : Nat) : Int := if n < 10 ^ 600 then 0 else 7

theorem len600 (n : Nat) : Lib.nDigits n ≤ 600 ↔ n < 10 ^ 600 := by
  rw [← Lib.decDigits_length]; exact Cub.dec_len_lt n 600 (by decide)

set_option maxRecDepth 100000 in
set_option maxHeartbeats 400000 in
theorem tell_any (v : Value) (n k : Nat) (w : World) (h : IsBig w v n) (hk : k ≤ 1000000) (hn : n < 1000000000 ^ k) (htab : Tab w) :
    Calls Tryd.prog 51 #[v] w fun e w' => e = .returned (.tuple #[.string ⟨(toldText n).toArray⟩, .int .i64 (toldErr n)]) ∧ Below w.heap.size w w' := by
  have H := hide h
  have HT := hide htab
  have HN := hide hn
  obtain ⟨a, l, cap, rfl, hl, hr, hnm, hv⟩ := h.form
  clear hn h htab hr hnm hv hl
  obtain ⟨len, hlen⟩ : ∃ len, len = l.length := ⟨_, rfl⟩
  rw [← hlen] at H ⊢
  clear hlen
  obtain ⟨q, hq⟩ : ∃ q, q = Lib.nDigits n := ⟨_, rfl⟩
  have hLen := fun W hW => len_any (.agg #[.slice a len cap]) n k W hW hk (unhide HN)
  rw [← hq] at hLen
  have HL := hide hLen
  clear hLen
  by_cases h6 : q ≤ 600
  · have e1 : toldText n = Lib.decDigits n := if_pos ((len600 n).1 (hq ▸ h6))
    have e2 : toldErr n = 0 := if_pos ((len600 n).1 (hq ▸ h6))
    rw [e1, e2]
    clear e1 e2 hq
    go_enter Tryd.func51, Tryd.ntmps51
    go_wp2_with (first
      | (go_at_call 69; refine (unhide HL _ ((unhide H).later ((Below.refl _ _).alloc (Nat.le_refl _) _))).mono ?_; rintro e w2 ⟨rfl, hb2⟩; obtain ⟨hcb, _⟩ := box_later hb2 (g := w.heap.size) (x := .slice a len cap) (by simp) (by simp) (by simp); have hb3 := ((Below.refl w.heap.size w).alloc (Nat.le_refl _) (.cells #[.slice a len cap] 60)).trans (hb2.mono (by simp)); clear hb2)
      | (go_at_call 58; refine (text_any _ n k _ ((unhide H).later hb3) hk (unhide HN) ((unhide HT).later hb3)).mono ?_; rintro e w4 ⟨rfl, hb4⟩; have hb5 := hb3.trans (hb4.mono hb3.size); clear hb4))
    go_ret2
    exact ⟨rfl, hb5⟩
  · have e1 : toldText n = [] := if_neg (fun hh => h6 (hq ▸ (len600 n).2 hh))
    have e2 : toldErr n = 7 := if_neg (fun hh => h6 (hq ▸ (len600 n).2 hh))
    rw [e1, e2]
    clear e1 e2 hq
    go_enter Tryd.func51, Tryd.ntmps51
    go_wp2_with (first
      | (go_at_call 69; refine (unhide HL _ ((unhide H).later ((Below.refl _ _).alloc (Nat.le_refl _) _))).mono ?_; rintro e w2 ⟨rfl, hb2⟩; have hb3 := ((Below.refl w.heap.size w).alloc (Nat.le_refl _) (.cells #[.slice a len cap] 60)).trans (hb2.mono (by simp)); clear hb2))
    go_ret2
    exact ⟨rfl, hb3⟩

theorem right_digs {s : ByteArray} (h : Cub.rightB s.data.toList = true) : Cub.digs s.data.toList ∧ s.size ≤ 600 := by
  obtain ⟨h1, h2⟩ := (Cub.rightB_iff _).1 h
  exact ⟨h1.1, by rw [list_len] at h2; exact h2⟩

set_option maxRecDepth 100000 in
set_option maxHeartbeats 400000 in
/-- Both are right: their numbers. -/
theorem readTwo_ok (s t : ByteArray) (w : World) (hs : Cub.rightB s.data.toList = true) (ht : Cub.rightB t.data.toList = true) :
    Calls Tryd.prog 49 #[.string s, .string t] w fun e w' => ∃ x y, e = .returned (.tuple #[x, y, .int .i64 0]) ∧ IsBig w' x (Cub.dval s.data.toList) ∧ IsBig w' y (Cub.dval t.data.toList) ∧ Below w.heap.size w w' := by
  obtain ⟨hds, hls⟩ := right_digs hs
  obtain ⟨hdt, hlt⟩ := right_digs ht
  have r1 := fun W => right_any s W (by unfold maxLen; omega)
  have r2 := fun W => right_any t W (by unfold maxLen; omega)
  rw [hs] at r1
  rw [ht] at r2
  have R1 := hide r1
  have R2 := hide r2
  have HDS := hide hds
  have HDT := hide hdt
  clear r1 r2 hds hdt hs ht
  go_enter Tryd.func49, Tryd.ntmps49
  go_wp2_with (first
    | (go_at_call_of 13 s; refine (unhide R1 _).mono ?_; rintro e w' ⟨rfl, rfl⟩)
    | (go_at_call_of 13 t; refine (unhide R2 _).mono ?_; rintro e w' ⟨rfl, rfl⟩)
    | (go_at_call_of 62 s; refine (bigText_any s _ (by omega) (unhide HDS)).mono ?_; rintro e w2 ⟨x, rfl, hx, hb2⟩; obtain ⟨xa, xn, xc, rfl⟩ := hx.shape; obtain ⟨bx2, fx2⟩ := box_later hb2 (g := w.heap.size) (x := .slice none 0 0) (by simp; omega) (by simp) (by simp); obtain ⟨by2, fy2⟩ := box_later hb2 (g := w.heap.size + 1) (x := .slice none 0 0) (by simp) (by simp) (by simp); have hs2 : w.heap.size + 2 ≤ w2.heap.size := (by have := hb2.size; simpa using this); have hb2' : Below w.heap.size w w2 := (((Below.refl _ _).alloc (Nat.le_refl _) _).alloc (by simp) _).trans (hb2.mono (by simp; omega)); clear hb2)
    | (go_at_call_of 62 t; refine (bigText_any t _ (by omega) (unhide HDT)).mono ?_; rintro e w3 ⟨y, rfl, hy, hb3⟩; obtain ⟨ya, yn, yc, rfl⟩ := hy.shape; obtain ⟨bx3, fx3⟩ := box_later hb3 (g := w.heap.size) (by omega) bx2 fx2; obtain ⟨by3, fy3⟩ := box_later hb3 (g := w.heap.size + 1) (by omega) by2 fy2; have hx3 := hx.later hb3; have hb4 : Below w.heap.size w w3 := hb2'.trans (hb3.mono (by omega)); clear hb3 hx bx2 fx2 by2 fy2 hb2'))
  have hyc : (w3.setCell ⟨w.heap.size, 0, none⟩ (.slice xa xn xc)).cell? ⟨w.heap.size + 1, 0, none⟩ = some (.slice none 0 0) := by
    rw [World.cell?_setCell_other _ _ _ _ (by simp)]; exact by3
  refine bodyPost_ret (v := .tuple #[.agg #[.slice xa xn xc], .agg #[.slice ya yn yc], .int .i64 0]) (by simp [results, Tryd.results49, go_sem, bx3, by3]) rfl ⟨_, _, rfl, (hx3.box _ bx3 (no_int _ _ _)).box _ hyc (no_int _ _ _), (hy.box _ bx3 (no_int _ _ _)).box _ hyc (no_int _ _ _), ?_⟩
  exact (hb4.setCell (Nat.le_refl _) _).setCell (by simp) _

set_option maxRecDepth 100000 in
set_option maxHeartbeats 400000 in
/-- One of them is not: ErrForm (3). -/
theorem readTwo_no (s t : ByteArray) (w : World) (hs : s.size ≤ maxLen) (ht : t.size ≤ maxLen) (h : (Cub.rightB s.data.toList && Cub.rightB t.data.toList) = false) :
    Calls Tryd.prog 49 #[.string s, .string t] w fun e w' => e = .returned (.tuple #[.agg #[.slice none 0 0], .agg #[.slice none 0 0], .int .i64 3]) ∧ Below w.heap.size w w' := by
  have r1 := fun W => right_any s W hs
  have r2 := fun W => right_any t W ht
  cases h1 : Cub.rightB s.data.toList with
  | false =>
    rw [h1] at r1
    have R1 := hide r1
    clear r1 r2 h h1
    go_enter Tryd.func49, Tryd.ntmps49
    go_wp2_with (first
      | (go_at_call_of 13 s; refine (unhide R1 _).mono ?_; rintro e w' ⟨rfl, rfl⟩))
    refine bodyPost_ret (v := .tuple #[.agg #[.slice none 0 0], .agg #[.slice none 0 0], .int .i64 3]) (by simp [results, Tryd.results49, go_sem]) rfl ⟨rfl, ?_⟩
    exact ((Below.refl _ _).alloc (Nat.le_refl _) _).alloc (by simp) _
  | true =>
    have h2 : Cub.rightB t.data.toList = false := by rw [h1] at h; simpa using h
    rw [h1] at r1
    rw [h2] at r2
    have R1 := hide r1
    have R2 := hide r2
    clear r1 r2 h h1 h2
    go_enter Tryd.func49, Tryd.ntmps49
    go_wp2_with (first
      | (go_at_call_of 13 s; refine (unhide R1 _).mono ?_; rintro e w' ⟨rfl, rfl⟩)
      | (go_at_call_of 13 t; refine (unhide R2 _).mono ?_; rintro e w' ⟨rfl, rfl⟩))
    refine bodyPost_ret (v := .tuple #[.agg #[.slice none 0 0], .agg #[.slice none 0 0], .int .i64 3]) (by simp [results, Tryd.results49, go_sem]) rfl ⟨rfl, ?_⟩
    exact ((Below.refl _ _).alloc (Nat.le_refl _) _).alloc (by simp) _
end Go.Proofs.YthcihkgellginaaDoor

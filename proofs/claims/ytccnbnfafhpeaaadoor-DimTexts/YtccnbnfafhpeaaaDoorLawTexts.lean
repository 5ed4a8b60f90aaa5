/- The law DimTexts: any dimension, any text. -/
import Derived.Test.YtccnbnfafhpeaaaDoorKnown
import Derived.Test.YtccnbnfafhpeaaaDoorRefPrint
import Derived.Test.YtccnbnfafhpeaaaDoorRefParse2
namespace Go.Proofs.YtccnbnfafhpeaaaDoor
open Go.RowKit

theorem scanN_len (s : ByteArray) : ∀ (n p : Nat) (st : Rd), Good st → ∀ l, scanN s n p st = .done l → l.length = 8
  | 0, _, st, hg, l, h => by
    unfold scanN at h
    cases ht : takeE st (s.size : Int) (-1) with
    | err e pl => rw [ht] at h; cases h
    | ok st' => rw [ht] at h; injection h with h; rw [← h]; exact (takeE_good hg ht).len
  | n + 1, p, st, hg, l, h => by
    unfold scanN at h
    cases ht : takeE st (p : Int) ((s.data.toList.getD p 0).toNat : Int) with
    | err e pl => rw [ht] at h; cases h
    | ok st' => rw [ht] at h; exact scanN_len s n (p + 1) st' (takeE_good hg ht) l h
theorem out_shape (s : ByteArray) : ∃ e0 e1 e2 e3 e4 e5 e6 e7 en pl : Int, outV (parseOut s) = .tuple #[.agg #[.int .i64 e0, .int .i64 e1, .int .i64 e2, .int .i64 e3, .int .i64 e4, .int .i64 e5, .int .i64 e6, .int .i64 e7], .int .i64 en, .int .i64 pl] := by
  cases h : parseOut s with
  | err e pl => exact ⟨0, 0, 0, 0, 0, 0, 0, 0, e, pl, rfl⟩
  | done l =>
    have hl : l.length = 8 := by
      unfold parseOut at h
      split at h
      · split at h
        · injection h with h; rw [← h]; rfl
        · cases h
      · exact scanN_len s _ 0 rd0 (good_fresh (d := zeros) false rfl (by decide)) l h
    obtain ⟨r0, r1, r2, r3, r4, r5, r6, r7, rfl⟩ := list8 l hl
    exact ⟨r0, r1, r2, r3, r4, r5, r6, r7, 0, 0, rfl⟩

set_option maxRecDepth 100000 in
set_option maxHeartbeats 1000000 in
theorem dimTexts_any (x0 x1 x2 x3 x4 x5 x6 x7 : Int) (s : ByteArray) (hs : s.size ≤ 9223372036854775807) (w : World) (ht : Tab w) :
    Calls Tryd.prog 4 #[.agg #[.int .i64 x0, .int .i64 x1, .int .i64 x2, .int .i64 x3, .int .i64 x4, .int .i64 x5, .int .i64 x6, .int .i64 x7], .string s] w fun e w' => e = .returned (.bool true) ∧ Below w.heap.size w w' := by
  have HT := hide ht
  have H1 := hide (fun w ht => print_any itoa_ok join_ok x0 x1 x2 x3 x4 x5 x6 x7 w ht)
  have H2 := hide (fun w ht => refPrint_any itoa_ok x0 x1 x2 x3 x4 x5 x6 x7 w ht)
  have H3 := hide (fun w => parse_any s w hs)
  have H4 := hide (fun w => refParse_any s w hs)
  clear ht
  obtain ⟨e0, e1, e2, e3, e4, e5, e6, e7, en, pl, he⟩ := out_shape s
  rw [he] at H3 H4
  clear he hs
  have heq := eqIn24 e0 e1 e2 e3 e4 e5 e6 e7 e0 e1 e2 e3 e4 e5 e6 e7
  rw [eqB_self] at heq
  generalize (⟨(if rightB [x0, x1, x2, x3, x4, x5, x6, x7] = true then dimText [x0, x1, x2, x3, x4, x5, x6, x7] else []).toArray⟩ : ByteArray) = N at *
  generalize errOf (rightB [x0, x1, x2, x3, x4, x5, x6, x7]) 1 = B1 at *
  have hN : (N.toList == N.toList) = true := by simp
  have hB1 : (B1 == B1) = true := by simp
  have hB2 : (en == en) = true := by simp
  have hB3 : (pl == pl) = true := by simp
  have HW1 : Hid (Tab (w.alloc (.cells #[.int .i64 x0, .int .i64 x1, .int .i64 x2, .int .i64 x3, .int .i64 x4, .int .i64 x5, .int .i64 x6, .int .i64 x7] 24))) := (unhide HT).later ((Below.refl _ _).alloc (Nat.le_refl _) _)
  go_enter Tryd.func4, Tryd.ntmps4
  go_wp2_with (first
    | (go_at_call 22; refine (unhide H1 _ (unhide HW1)).mono ?_; rintro e w1 ⟨rfl, hb1⟩; obtain ⟨hc1, hf1⟩ := bcell hb1; have hz1 : w.heap.size + 1 ≤ w1.heap.size := by have := hb1.size; simp at this; omega)
    | (go_at_call 23; refine (unhide H2 _ ((unhide HW1).later hb1)).mono ?_; rintro e w2 ⟨rfl, hb2⟩)
    | (go_at_call 24; refine (unhide H3 _).mono ?_; rintro e w3 ⟨rfl, hb3⟩)
    | (go_at_call 25; refine (unhide H4 _).mono ?_; rintro e w4 ⟨rfl, hb4⟩; obtain ⟨hc4, hf4⟩ := bcell hb4; have hz4 : w3.heap.size < w4.heap.size := by have := hb4.size; simp at this; omega)
    | (go_at_call 21; have hbz : Below w.heap.size w (w4.alloc (.cells #[.int .i64 e0, .int .i64 e1, .int .i64 e2, .int .i64 e3, .int .i64 e4, .int .i64 e5, .int .i64 e6, .int .i64 e7] 24)) := (((((Below.refl _ _).alloc (Nat.le_refl _) _).trans (hb1.mono (by simp))).trans (hb2.mono (by omega))).trans ((hb3.mono (by have := hb2.size; omega)).alloc (by have := hb2.size; have := hb3.size; omega) _)).trans ((hb4.mono (by have := hb2.size; have := hb3.size; simp; omega)).alloc (by have := hb2.size; have := hb3.size; have := hb4.size; simp at *; omega) _); go_must (refine (known_any _ ((unhide HT).later hbz)).mono ?_; rintro e w5 ⟨rfl, hb5⟩)))
  go_ret
  exact ⟨rfl, hbz.trans (hb5.mono hbz.size)⟩
end Go.Proofs.YtccnbnfafhpeaaaDoor

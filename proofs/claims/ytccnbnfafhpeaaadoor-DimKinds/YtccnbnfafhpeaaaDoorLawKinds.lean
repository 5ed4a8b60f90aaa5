/- The law DimKinds: any dimension, any name. -/
import Derived.Test.YtccnbnfafhpeaaaDoorKnown
import Derived.Test.YtccnbnfafhpeaaaDoorRefKind
namespace Go.Proofs.YtccnbnfafhpeaaaDoor
open Go.RowKit

theorem kindDim_shape (o : Option (List UInt8 × List Int)) (h : ∀ x, o = some x → x.2.length = 8) : ∃ e0 e1 e2 e3 e4 e5 e6 e7 : Int, cells8 (kindDim o) = #[.int .i64 e0, .int .i64 e1, .int .i64 e2, .int .i64 e3, .int .i64 e4, .int .i64 e5, .int .i64 e6, .int .i64 e7] := by
  have hl : (kindDim o).length = 8 := by
    cases o with
    | none => rfl
    | some x => exact h x rfl
  match kindDim o, hl with
  | [a0, a1, a2, a3, a4, a5, a6, a7], _ => exact ⟨a0, a1, a2, a3, a4, a5, a6, a7, rfl⟩
theorem kindNamed_eight (s : List UInt8) (x : List UInt8 × List Int) (h : kindNamed s = some x) : x.2.length = 8 := tab_eight x (List.mem_of_find?_eq_some h)

set_option maxRecDepth 100000 in
set_option maxHeartbeats 1000000 in
theorem dimKinds_any (x0 x1 x2 x3 x4 x5 x6 x7 : Int) (s : ByteArray) (w : World) (ht : Tab w) :
    Calls Tryd.prog 5 #[.agg #[.int .i64 x0, .int .i64 x1, .int .i64 x2, .int .i64 x3, .int .i64 x4, .int .i64 x5, .int .i64 x6, .int .i64 x7], .string s] w fun e w' => e = .returned (.bool true) ∧ Below w.heap.size w w' := by
  have HT := hide ht
  have H1 := hide (kind_any x0 x1 x2 x3 x4 x5 x6 x7)
  have H2 := hide (rkind_any x0 x1 x2 x3 x4 x5 x6 x7)
  have H3 := hide (of_any s)
  have H4 := hide (rof_any s)
  clear ht
  obtain ⟨e0, e1, e2, e3, e4, e5, e6, e7, he⟩ := kindDim_shape (kindNamed s.data.toList) (kindNamed_eight s.data.toList)
  rw [he] at H3 H4
  clear he
  have heq := eqIn24 e0 e1 e2 e3 e4 e5 e6 e7 e0 e1 e2 e3 e4 e5 e6 e7
  rw [eqB_self] at heq
  generalize kindName (kindOf [x0, x1, x2, x3, x4, x5, x6, x7]) = N at *
  generalize (kindOf [x0, x1, x2, x3, x4, x5, x6, x7]).isSome = B1 at *
  generalize (kindNamed s.data.toList).isSome = B2 at *
  have hN : (N.toList == N.toList) = true := by simp
  have hB1 : (B1 == B1) = true := by simp
  have hB2 : (B2 == B2) = true := by simp
  go_enter Tryd.func5, Tryd.ntmps5
  go_wp2_with (first
    | (go_at_call 26; refine (unhide H1 _).mono ?_; rintro e w1 ⟨rfl, hb1⟩; obtain ⟨hc1, hf1⟩ := bcell hb1; have hz1 : w.heap.size + 1 ≤ w1.heap.size := by have := hb1.size; simp at this; omega)
    | (go_at_call 27; refine (unhide H2 _).mono ?_; rintro e w2 ⟨rfl, hb2⟩)
    | (go_at_call 28; refine (unhide H3 _).mono ?_; rintro e w3 ⟨rfl, hb3⟩)
    | (go_at_call 29; refine (unhide H4 _).mono ?_; rintro e w4 ⟨rfl, hb4⟩; obtain ⟨hc4, hf4⟩ := bcell hb4; have hz4 : w3.heap.size < w4.heap.size := by have := hb4.size; simp at this; omega)
    | (go_at_call 21; have hbz : Below w.heap.size w (w4.alloc (.cells #[.int .i64 e0, .int .i64 e1, .int .i64 e2, .int .i64 e3, .int .i64 e4, .int .i64 e5, .int .i64 e6, .int .i64 e7] 24)) := (((((Below.refl _ _).alloc (Nat.le_refl _) _).trans (hb1.mono (by simp))).trans (hb2.mono (by omega))).trans ((hb3.mono (by have := hb2.size; omega)).alloc (by have := hb2.size; have := hb3.size; omega) _)).trans ((hb4.mono (by have := hb2.size; have := hb3.size; simp; omega)).alloc (by have := hb2.size; have := hb3.size; have := hb4.size; simp at *; omega) _); go_must (refine (known_any _ ((unhide HT).later hbz)).mono ?_; rintro e w5 ⟨rfl, hb5⟩)))
  go_ret
  exact ⟨rfl, hbz.trans (hb5.mono hbz.size)⟩
end Go.Proofs.YtccnbnfafhpeaaaDoor

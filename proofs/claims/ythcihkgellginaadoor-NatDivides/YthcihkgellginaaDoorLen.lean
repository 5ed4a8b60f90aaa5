/- (Big).IsZero and (Big).Len. -/
import Derived.Test.YthcihkgellginaaDoorBigText
import Derived.Test.YthcihkgellginaaDoorPlain
namespace Go.Proofs.YthcihkgellginaaDoor
open Go.RowKit

theorem IsBig.form {w : World} {v : Value} {n : Nat} (h : IsBig w v n) : ∃ a l cap, v = .agg #[.slice a l.length cap] ∧ l.length ≤ 9223372036854775807 ∧ Row w (.slice a l.length cap) l ∧ Cub.normal 1000000000 l ∧ Cub.lval 1000000000 l = n := by
  obtain ⟨s, l, rfl, hr, hn, hv⟩ := h
  obtain ⟨a, cap, rfl, hc, hm⟩ := hr.form
  exact ⟨a, l, cap, rfl, by omega, hr, hn, hv⟩

theorem big_zero {l : List Nat} (hn : Cub.normal 1000000000 l) : (Cub.lval 1000000000 l == 0) = ((l.length : Int) == 0) := by
  rw [Bool.eq_iff_iff, beq_iff_eq, beq_iff_eq, Cub.normal_zero hn (by decide), ← List.length_eq_zero_iff]; omega

theorem isZero_any (v : Value) (n : Nat) (w : World) (h : IsBig w v n) :
    Calls Tryd.prog 56 #[v] w fun e w' => e = .returned (.bool (n == 0)) ∧ Below w.heap.size w w' := by
  obtain ⟨a, l, cap, rfl, hl, hr, hn, rfl⟩ := h.form
  rw [big_zero hn]
  clear h hr hn
  go_enter Tryd.func56, Tryd.ntmps56
  go_wp2
  go_ret
  exact ⟨rfl, (Below.refl _ _).alloc (Nat.le_refl _) _⟩

set_option maxRecDepth 100000 in
set_option maxHeartbeats 400000 in
theorem len_any (v : Value) (n k : Nat) (w : World) (h : IsBig w v n) (hk : k ≤ 1000000) (hn : n < 1000000000 ^ k) :
    Calls Tryd.prog 69 #[v] w fun e w' => e = .returned (.int .i64 (Lib.nDigits n : Nat)) ∧ Below w.heap.size w w' := by
  have H := hide h
  obtain ⟨a, l, cap, rfl, hl, hr, hnm, rfl⟩ := h.form
  have hlk := Cub.len_le hnm hn
  clear hn hl h
  by_cases h0 : l = []
  · subst h0
    have e1 : Lib.nDigits (Cub.lval 1000000000 []) = 1 := Lib.nDigits_small (by decide)
    rw [e1]
    clear e1
    go_enter Tryd.func69, Tryd.ntmps69
    go_wp2_with (go_at_call 56; refine (isZero_any _ _ _ ((unhide H).later ((Below.refl _ _).alloc (Nat.le_refl _) _))).mono ?_; rintro e w2 ⟨rfl, hb2⟩)
    go_ret
    exact ⟨rfl, ((Below.refl _ _).alloc (Nat.le_refl _) _).trans (hb2.mono (by simp))⟩
  · obtain ⟨t, x, rfl⟩ := Cub.split_last h0
    obtain ⟨ht, hx0, hxB⟩ := Cub.normal_last hnm
    have hz : (Cub.lval 1000000000 (t ++ [x]) == 0) = false := by
      rw [beq_eq_false_iff_ne]; intro e; exact h0 ((Cub.normal_zero hnm (by decide)).1 e)
    have HD := hide (Cub.nDigits_top t x ht hx0)
    have HL := hide (Cub.nDigits_le9 x hxB)
    obtain ⟨a', cap', ev, hc, hm, hcells⟩ := hr
    simp only [Value.slice.injEq] at ev
    obtain ⟨rfl, _, rfl⟩ := ev
    obtain ⟨b, o, rfl, hbw, hcell⟩ := hcells h0
    have hx := hcell t.length (by simp)
    simp only [List.getElem_concat_length] at hx
    have htk : t.length + 1 ≤ k := by simpa using hlk
    have hlen : (t ++ [x]).length = t.length + 1 := by simp
    have HZ := hide hz
    rw [hlen] at H ⊢
    clear hcell hcells hnm ht hlk hz h0 hlen
    have HX : Hid (∀ W, Below w.heap.size w W → W.cell? ⟨b, o + t.length, none⟩ = some (.int .u64 (x : Int))) := fun W hW => (hW.cell (p := ⟨b, o + t.length, none⟩) hbw).trans hx
    clear hx
    go_enter Tryd.func69, Tryd.ntmps69
    go_wp2_with (go_at_call 56; refine (isZero_any _ _ _ ((unhide H).later ((Below.refl _ _).alloc (Nat.le_refl _) _))).mono ?_; rintro e w2 ⟨rfl, hb2⟩; rw [unhide HZ]; obtain ⟨hcb, _⟩ := box_later hb2 (g := w.heap.size) (x := .slice (some ⟨b, o, none⟩) (t.length + 1) cap) (by simp) (by simp) (by simp); have hb3 := ((Below.refl w.heap.size w).alloc (Nat.le_refl _) (.cells #[.slice (some ⟨b, o, none⟩) (t.length + 1) cap] 60)).trans (hb2.mono (by simp)); have hx2 := unhide HX w2 hb3; clear hb2)
    go_loop [4, 5] (fun m y => ∃ (c z : Nat), m = .int .i64 ((t.length : Int) * 9 + (c : Int)) ∧ y = .int .u64 (z : Int) ∧ z < 1000000000 ∧ c ≤ 9 ∧ Hid (c + Cub.dcount z = Lib.nDigits x)) (fun _ y => (intOf y).toNat)
    case atStart => exact ⟨0, x, by simp, rfl, hxB, by omega, by rw [Cub.dcount_pos x hx0]; exact Nat.zero_add _⟩
    case round =>
      obtain ⟨c, z, rfl, rfl, hz, hc9, HC⟩ := hrel
      by_cases hz0 : 0 < z
      · have hC : Hid (c + 1 + Cub.dcount (z / 10) = Lib.nDigits x) := by rw [← unhide HC, Cub.dcount_step z hz0]; exact (by omega : c + 1 + Cub.dcount (z / 10) = c + (Cub.dcount (z / 10) + 1))
        have hc8 : c + 1 ≤ 9 := by have := unhide hC; have := unhide HL; omega
        go_wp2
        go_round
        case rel => exact ⟨c + 1, z / 10, by go_num, by go_num, by omega, hc8, hC⟩
        case measure => simp [intOf]; omega
      · have : z = 0 := by omega
        subst this
        have hfin : (t.length : Int) * 9 + (c : Int) = ((9 * t.length + Lib.nDigits x : Nat) : Int) := by have := unhide HC; rw [Cub.dcount_zero] at this; omega
        have HF := hide hfin
        clear hfin
        go_wp2
        go_ret
        exact ⟨by rw [unhide HD, ← unhide HF]; rfl, hb3⟩
end Go.Proofs.YthcihkgellginaaDoor

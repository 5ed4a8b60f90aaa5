/- (*dim.reader).finish: a term, by the rune behind it. -/
import Derived.Test.YtccnbnfafhpeaaaDoorReader
import Derived.Deep.Cut
namespace Go.Proofs.YtccnbnfafhpeaaaDoor
open Go.RowKit

theorem list8 (l : List Int) (h : l.length = 8) : ∃ r0 r1 r2 r3 r4 r5 r6 r7 : Int, l = [r0, r1, r2, r3, r4, r5, r6, r7] := by
  match l, h with
  | [a0, a1, a2, a3, a4, a5, a6, a7], _ => exact ⟨a0, a1, a2, a3, a4, a5, a6, a7, rfl⟩
theorem info60 : (Tryd.prog.info? 60).map (·.size) = some 15 := by kernel_rfl
theorem Rd.size_cells (m : Rd) (h : m.prod.length = 8) : m.cells.toArray.size = 15 := by simp [Rd.cells, Rd.tail, h]
theorem Rd.ones (m : Rd) : m.cells.toArray.all (·.oneCell') = true := by
  rw [Array.all_eq_true_iff_forall_mem]
  intro v hv
  simp only [List.mem_toArray, Rd.cells, Rd.tail, List.mem_append, List.mem_map, List.mem_cons, List.not_mem_nil, or_false] at hv
  rcases hv with ⟨x, _, rfl⟩ | rfl | rfl | rfl | rfl | rfl | rfl | rfl <;> rfl
/-- The reader is written anew. -/
theorem storeR {ops : Array Oper} {rest : List Oper} {o : Oper} {a : Act} {w : World} {Q : Exit → Act → World → Prop} (hgd : o.guard = none) (x y : Operand) (ho : o.op = .store 60 x y)
    (g : Nat) (s m : Rd) (hm : m.prod.length = 8) (hx : a.eval x = .pointer (some ⟨g, 0, none⟩)) (hy : a.eval y = .agg m.cells.toArray) (hg : OwnR w g s)
    (h : wpList Tryd.prog ops Q rest (a.put o.dst undef) (w.setRow g m.cells.toArray)) : wpList Tryd.prog ops Q (o :: rest) a w :=
  wpList_store_row hgd 60 x y ho g m.cells.toArray hx hy 60 _ hg.2 (by rw [info60, m.size_cells hm]) (by rw [s.size_cells hg.1, m.size_cells hm]) m.ones h

set_option maxRecDepth 100000 in
set_option maxHeartbeats 2000000 in
theorem finish_ok (g : Nat) (s : Rd) (at_ c z x : Int) (w : World) (h : OwnR w g s) (hsz : 0 ≤ s.size ∧ s.size ≤ 99) (hz : z = if (s.below == s.under) = true then s.size else -s.size) (hpl : s.place < 8) (hx : s.prod[s.place]? = some x) (hxb : -99 ≤ x ∧ x ≤ 99)
    (hr : rightB (s.prod.set s.place (x + z)) = true) (hc : c = 32 ∨ c = 47 ∨ c = -1) :
    Calls Tryd.prog 66 #[.pointer (some ⟨g, 0, none⟩), .int .i64 at_, .int .i32 c] w fun e w' => e = .returned (.tuple #[.int .i64 0, .int .i64 0]) ∧ OwnR w' g ⟨s.prod.set s.place (x + z), 0, c == 47, 0, 0, 0, false, 0⟩ ∧ Others g w w' := by
  have H := hide h
  obtain ⟨t8, t9, t10, t11, t12, t13, t14⟩ := h.tailCell
  have hf := h.frozen
  clear h
  cases hbu : (s.below == s.under) with
  | false =>
    rw [hbu, if_neg (by simp)] at hz
    go_enter Tryd.func66, Tryd.ntmps66
    go_upto_region 3 with fail
    go_region
    go_upto_region 5 with fail
    obtain ⟨W1, hW1⟩ : ∃ W1, W1 = (w.setCell ⟨g, 14, none⟩ (.int .i64 (-s.size))).drew := ⟨_, rfl⟩
    rw [← hW1]
    have Q1 : Hid (OwnR W1 g { s with size := z }) := by show OwnR W1 _ _; rw [hW1, hz]; exact (unhide H).setSize _
    have T1 : Hid (Others g w W1) := by show Others _ _ W1; rw [hW1]; exact ((Others.refl g w).setCell _ _).drew
    obtain ⟨u8, u9, u10, u11, u12, u13, u14⟩ := (unhide Q1).tailCell
    have hpx := (unhide Q1).cell s.place _ (cells_prod s.place x hx)
    have hf1 := (unhide Q1).frozen
    have hzz : -99 ≤ z ∧ z ≤ 99 := by omega
    have hp0 : (0 : Int) ≤ (s.place : Int) := by omega
    have hp8 : (s.place : Int) < 8 := by omega
    clear hW1 t8 t9 t10 t11 t12 t13 t14 hf hz
    go_region
    go_upto_region 6 with fail
    obtain ⟨W2, hW2⟩ : ∃ W2, W2 = (W1.setCell ⟨g, s.place, none⟩ (.int .i64 (x + z))).drew := ⟨_, rfl⟩
    rw [← hW2]
    have Q2 : Hid (OwnR W2 g { s with size := z, prod := s.prod.set s.place (x + z) }) := by show OwnR W2 _ _; rw [hW2]; exact (unhide Q1).setProd s.place hpl (x + z)
    have T2 : Hid (Others g w W2) := by show Others _ _ W2; rw [hW2]; exact ((unhide T1).setCell _ _).drew
    obtain ⟨r0, r1, r2, r3, r4, r5, r6, r7, hR⟩ := list8 (s.prod.set s.place (x + z)) (unhide Q2).1
    rw [hR] at hr Q2
    have HR := hide (right_any r0 r1 r2 r3 r4 r5 r6 r7)
    rw [hr] at HR
    have HRT : Hid (s.prod.set s.place (x + z) = [r0, r1, r2, r3, r4, r5, r6, r7]) := hR
    obtain ⟨c0, c1, c2, c3, c4, c5, c6, c7⟩ : W2.cell? ⟨g, 0, none⟩ = some (.int .i64 r0) ∧ W2.cell? ⟨g, 1, none⟩ = some (.int .i64 r1) ∧ W2.cell? ⟨g, 2, none⟩ = some (.int .i64 r2) ∧ W2.cell? ⟨g, 3, none⟩ = some (.int .i64 r3) ∧ W2.cell? ⟨g, 4, none⟩ = some (.int .i64 r4) ∧ W2.cell? ⟨g, 5, none⟩ = some (.int .i64 r5) ∧ W2.cell? ⟨g, 6, none⟩ = some (.int .i64 r6) ∧ W2.cell? ⟨g, 7, none⟩ = some (.int .i64 r7) := by
      have hh := fun i y hi => (unhide Q2).cell i _ (cells_prod i y hi)
      exact ⟨hh 0 _ rfl, hh 1 _ rfl, hh 2 _ rfl, hh 3 _ rfl, hh 4 _ rfl, hh 5 _ rfl, hh 6 _ rfl, hh 7 _ rfl⟩
    have hlt2 := (unhide Q2).lt
    clear hW2 Q1 T1 u8 u9 u10 u11 u12 u13 u14 hpx hf1 hR hr
    rcases hc with rfl | rfl | rfl
    all_goals
      go_wp2_with (first
        | (go_at_call 13; refine (unhide HR _).mono ?_; rintro e w' ⟨rfl, rfl⟩)
        | (refine storeR rfl (.tmp 80) (.tmp 79) rfl g _ ⟨[r0, r1, r2, r3, r4, r5, r6, r7], 0, _, 0, 0, 0, false, 0⟩ rfl rfl rfl ((unhide Q2).alloc _) ?_))
      go_ret2
      rw [unhide HRT]
      exact ⟨rfl, ⟨rfl, setRow_heap _ _ _ _ _ _ ((unhide Q2).alloc _).2⟩, ((unhide T2).alloc (Nat.le_of_lt (by have := (unhide T2).1.size; omega)) _).setRow _⟩
  | true =>
    rw [hbu, if_pos rfl] at hz
    go_enter Tryd.func66, Tryd.ntmps66
    go_upto_region 3 with fail
    go_region
    go_upto_region 5 with fail
    obtain ⟨W1, hW1⟩ : ∃ W1, W1 = w.drew := ⟨_, rfl⟩
    rw [← hW1]
    have Q1 : Hid (OwnR W1 g { s with size := z }) := by show OwnR W1 _ _; rw [hW1, hz]; exact unhide H
    have T1 : Hid (Others g w W1) := by show Others _ _ W1; rw [hW1]; exact (Others.refl g w).drew
    obtain ⟨u8, u9, u10, u11, u12, u13, u14⟩ := (unhide Q1).tailCell
    have hpx := (unhide Q1).cell s.place _ (cells_prod s.place x hx)
    have hf1 := (unhide Q1).frozen
    have hzz : -99 ≤ z ∧ z ≤ 99 := by omega
    have hp0 : (0 : Int) ≤ (s.place : Int) := by omega
    have hp8 : (s.place : Int) < 8 := by omega
    clear hW1 t8 t9 t10 t11 t12 t13 t14 hf hz
    go_region
    go_upto_region 6 with fail
    obtain ⟨W2, hW2⟩ : ∃ W2, W2 = (W1.setCell ⟨g, s.place, none⟩ (.int .i64 (x + z))).drew := ⟨_, rfl⟩
    rw [← hW2]
    have Q2 : Hid (OwnR W2 g { s with size := z, prod := s.prod.set s.place (x + z) }) := by show OwnR W2 _ _; rw [hW2]; exact (unhide Q1).setProd s.place hpl (x + z)
    have T2 : Hid (Others g w W2) := by show Others _ _ W2; rw [hW2]; exact ((unhide T1).setCell _ _).drew
    obtain ⟨r0, r1, r2, r3, r4, r5, r6, r7, hR⟩ := list8 (s.prod.set s.place (x + z)) (unhide Q2).1
    rw [hR] at hr Q2
    have HR := hide (right_any r0 r1 r2 r3 r4 r5 r6 r7)
    rw [hr] at HR
    have HRT : Hid (s.prod.set s.place (x + z) = [r0, r1, r2, r3, r4, r5, r6, r7]) := hR
    obtain ⟨c0, c1, c2, c3, c4, c5, c6, c7⟩ : W2.cell? ⟨g, 0, none⟩ = some (.int .i64 r0) ∧ W2.cell? ⟨g, 1, none⟩ = some (.int .i64 r1) ∧ W2.cell? ⟨g, 2, none⟩ = some (.int .i64 r2) ∧ W2.cell? ⟨g, 3, none⟩ = some (.int .i64 r3) ∧ W2.cell? ⟨g, 4, none⟩ = some (.int .i64 r4) ∧ W2.cell? ⟨g, 5, none⟩ = some (.int .i64 r5) ∧ W2.cell? ⟨g, 6, none⟩ = some (.int .i64 r6) ∧ W2.cell? ⟨g, 7, none⟩ = some (.int .i64 r7) := by
      have hh := fun i y hi => (unhide Q2).cell i _ (cells_prod i y hi)
      exact ⟨hh 0 _ rfl, hh 1 _ rfl, hh 2 _ rfl, hh 3 _ rfl, hh 4 _ rfl, hh 5 _ rfl, hh 6 _ rfl, hh 7 _ rfl⟩
    have hlt2 := (unhide Q2).lt
    clear hW2 Q1 T1 u8 u9 u10 u11 u12 u13 u14 hpx hf1 hR hr
    rcases hc with rfl | rfl | rfl
    all_goals
      go_wp2_with (first
        | (go_at_call 13; refine (unhide HR _).mono ?_; rintro e w' ⟨rfl, rfl⟩)
        | (refine storeR rfl (.tmp 80) (.tmp 79) rfl g _ ⟨[r0, r1, r2, r3, r4, r5, r6, r7], 0, _, 0, 0, 0, false, 0⟩ rfl rfl rfl ((unhide Q2).alloc _) ?_))
      go_ret2
      rw [unhide HRT]
      exact ⟨rfl, ⟨rfl, setRow_heap _ _ _ _ _ _ ((unhide Q2).alloc _).2⟩, ((unhide T2).alloc (Nat.le_of_lt (by have := (unhide T2).1.size; omega)) _).setRow _⟩
end Go.Proofs.YtccnbnfafhpeaaaDoor

/- (*dim.reader).take, begin, finish: the ways out with a fault. -/
import Derived.Test.YtccnbnfafhpeaaaDoorBegin
import Derived.Test.YtccnbnfafhpeaaaDoorFinish
import Derived.Test.YtccnbnfafhpeaaaDoorTake
namespace Go.Proofs.YtccnbnfafhpeaaaDoor
open Go.RowKit

/-- A rune is met with a fault. -/
def TakeErr (s : Rd) (at_ c e pl : Int) : Prop := ∀ (g : Nat) (w : World), OwnR w g s →
    Calls Tryd.prog 45 #[.pointer (some ⟨g, 0, none⟩), .int .i64 at_, .int .i32 c] w fun en w' => en = .returned (.tuple #[.int .i64 e, .int .i64 pl]) ∧ Others g w w'
def FinErr (s : Rd) (at_ c e pl : Int) : Prop := ∀ (g : Nat) (w : World), OwnR w g s →
    Calls Tryd.prog 66 #[.pointer (some ⟨g, 0, none⟩), .int .i64 at_, .int .i32 c] w fun en w' => en = .returned (.tuple #[.int .i64 e, .int .i64 pl]) ∧ Others g w w'
def NoLetter (c : Int) : Prop := c ≠ 76 ∧ c ≠ 77 ∧ c ≠ 84 ∧ c ≠ 73 ∧ c ≠ 72 ∧ c ≠ 78 ∧ c ≠ 74 ∧ c ≠ 66

set_option maxRecDepth 100000 in
set_option maxHeartbeats 1000000 in
theorem begin_err (c at_ : Int) (hc : NoLetter c) (g : Nat) (s : Rd) (w : World) (h0 : OwnR w g s) :
    Calls Tryd.prog 65 #[.pointer (some ⟨g, 0, none⟩), .int .i64 at_, .int .i32 c] w fun en w' => en = .returned (.tuple #[.int .i64 3, .int .i64 at_]) ∧ Others g w w' := by
  obtain ⟨V, hV⟩ : ∃ V, V = w.iter ⟨#[76, 77, 84, 73, 72, 78, 74, 66]⟩ 8 := ⟨_, rfl⟩
  have HF : Hid (Others g w V) := by rw [hV]; exact (iter_own h0 ⟨#[76, 77, 84, 73, 72, 78, 74, 66]⟩ 8).2
  have n0 : ∀ ty, (Instr.next (.pointer (some ⟨w.heap.size, 0, none⟩)) true ty).run Tryd.prog (w.iter ⟨#[76, 77, 84, 73, 72, 78, 74, 66]⟩ 0) = .ok (.tuple #[.bool true, .int .i64 0, .int .i32 76]) (w.iter ⟨#[76, 77, 84, 73, 72, 78, 74, 66]⟩ 1) := next_letter w 0 (by omega) 76 rfl
  have n1 : ∀ ty, (Instr.next (.pointer (some ⟨w.heap.size, 0, none⟩)) true ty).run Tryd.prog (w.iter ⟨#[76, 77, 84, 73, 72, 78, 74, 66]⟩ 1) = .ok (.tuple #[.bool true, .int .i64 1, .int .i32 77]) (w.iter ⟨#[76, 77, 84, 73, 72, 78, 74, 66]⟩ 2) := next_letter w 1 (by omega) 77 rfl
  have n2 : ∀ ty, (Instr.next (.pointer (some ⟨w.heap.size, 0, none⟩)) true ty).run Tryd.prog (w.iter ⟨#[76, 77, 84, 73, 72, 78, 74, 66]⟩ 2) = .ok (.tuple #[.bool true, .int .i64 2, .int .i32 84]) (w.iter ⟨#[76, 77, 84, 73, 72, 78, 74, 66]⟩ 3) := next_letter w 2 (by omega) 84 rfl
  have n3 : ∀ ty, (Instr.next (.pointer (some ⟨w.heap.size, 0, none⟩)) true ty).run Tryd.prog (w.iter ⟨#[76, 77, 84, 73, 72, 78, 74, 66]⟩ 3) = .ok (.tuple #[.bool true, .int .i64 3, .int .i32 73]) (w.iter ⟨#[76, 77, 84, 73, 72, 78, 74, 66]⟩ 4) := next_letter w 3 (by omega) 73 rfl
  have n4 : ∀ ty, (Instr.next (.pointer (some ⟨w.heap.size, 0, none⟩)) true ty).run Tryd.prog (w.iter ⟨#[76, 77, 84, 73, 72, 78, 74, 66]⟩ 4) = .ok (.tuple #[.bool true, .int .i64 4, .int .i32 72]) (w.iter ⟨#[76, 77, 84, 73, 72, 78, 74, 66]⟩ 5) := next_letter w 4 (by omega) 72 rfl
  have n5 : ∀ ty, (Instr.next (.pointer (some ⟨w.heap.size, 0, none⟩)) true ty).run Tryd.prog (w.iter ⟨#[76, 77, 84, 73, 72, 78, 74, 66]⟩ 5) = .ok (.tuple #[.bool true, .int .i64 5, .int .i32 78]) (w.iter ⟨#[76, 77, 84, 73, 72, 78, 74, 66]⟩ 6) := next_letter w 5 (by omega) 78 rfl
  have n6 : ∀ ty, (Instr.next (.pointer (some ⟨w.heap.size, 0, none⟩)) true ty).run Tryd.prog (w.iter ⟨#[76, 77, 84, 73, 72, 78, 74, 66]⟩ 6) = .ok (.tuple #[.bool true, .int .i64 6, .int .i32 74]) (w.iter ⟨#[76, 77, 84, 73, 72, 78, 74, 66]⟩ 7) := next_letter w 6 (by omega) 74 rfl
  have n7 : ∀ ty, (Instr.next (.pointer (some ⟨w.heap.size, 0, none⟩)) true ty).run Tryd.prog (w.iter ⟨#[76, 77, 84, 73, 72, 78, 74, 66]⟩ 7) = .ok (.tuple #[.bool true, .int .i64 7, .int .i32 66]) V := by rw [hV]; exact next_letter w 7 (by omega) 66 rfl
  have n8 : ∀ ty, (Instr.next (.pointer (some ⟨w.heap.size, 0, none⟩)) true ty).run Tryd.prog V = .ok (.tuple #[.bool false]) V := fun ty => by rw [hV]; exact run_next_end w ⟨#[76, 77, 84, 73, 72, 78, 74, 66]⟩ 8 ty (by decide)
  have e0 : ((76 : Int) == c) = false := by rw [beq_eq_false_iff_ne]; have := hc; unfold NoLetter at this; omega
  have e1 : ((77 : Int) == c) = false := by rw [beq_eq_false_iff_ne]; have := hc; unfold NoLetter at this; omega
  have e2 : ((84 : Int) == c) = false := by rw [beq_eq_false_iff_ne]; have := hc; unfold NoLetter at this; omega
  have e3 : ((73 : Int) == c) = false := by rw [beq_eq_false_iff_ne]; have := hc; unfold NoLetter at this; omega
  have e4 : ((72 : Int) == c) = false := by rw [beq_eq_false_iff_ne]; have := hc; unfold NoLetter at this; omega
  have e5 : ((78 : Int) == c) = false := by rw [beq_eq_false_iff_ne]; have := hc; unfold NoLetter at this; omega
  have e6 : ((74 : Int) == c) = false := by rw [beq_eq_false_iff_ne]; have := hc; unfold NoLetter at this; omega
  have e7 : ((66 : Int) == c) = false := by rw [beq_eq_false_iff_ne]; have := hc; unfold NoLetter at this; omega
  clear h0 hV hc
  go_enter Tryd.func65, Tryd.ntmps65
  go_wp2
  refine wp_loop_rounds 9 ?_
  repeat any_goals (rw [rounds_succ]; go_wp2)
  go_ret2
  exact ⟨rfl, unhide HF⟩

set_option maxRecDepth 100000 in
set_option maxHeartbeats 1000000 in
theorem finish_big (s : Rd) (at_ c : Int) (hsz : 99 < s.size) : FinErr s at_ c 51 s.numberAt := by
  intro g w h
  obtain ⟨t8, t9, t10, t11, t12, t13, t14⟩ := h.tailCell
  clear h
  go_enter Tryd.func66, Tryd.ntmps66
  go_wp2
  go_region
  go_wp2
  go_ret2
  exact ⟨rfl, (Others.refl g w).drew⟩

set_option maxRecDepth 100000 in
set_option maxHeartbeats 2000000 in
theorem finish_out (s : Rd) (at_ c z x : Int) (hsz : 0 ≤ s.size ∧ s.size ≤ 99) (hz : z = if (s.below == s.under) = true then s.size else -s.size) (hpl : s.place < 8) (hx : s.prod[s.place]? = some x) (hxb : -99 ≤ x ∧ x ≤ 99)
    (hr : rightB (s.prod.set s.place (x + z)) = false) : FinErr s at_ c 51 s.letterAt := by
  intro g w h
  have H := hide h
  obtain ⟨t8, t9, t10, t11, t12, t13, t14⟩ := h.tailCell
  have hf := h.frozen
  clear h
  cases hbu : (s.below == s.under) with
  | false =>
    rw [hbu, if_neg (by simp)] at hz
    go_enter Tryd.func66, Tryd.ntmps66
    go_upto_region 3 with fail
    go_region
    go_upto_region 5 with fail
    obtain ⟨W1, hW1⟩ : ∃ W1, W1 = (w.setCell ⟨g, 14, none⟩ (.int .i64 (-s.size))).drew := ⟨_, rfl⟩
    rw [← hW1]
    have Q1 : Hid (OwnR W1 g { s with size := z }) := by show OwnR W1 _ _; rw [hW1, hz]; exact (unhide H).setSize _
    have T1 : Hid (Others g w W1) := by show Others _ _ W1; rw [hW1]; exact ((Others.refl g w).setCell _ _).drew
    obtain ⟨u8, u9, u10, u11, u12, u13, u14⟩ := (unhide Q1).tailCell
    have hpx := (unhide Q1).cell s.place _ (cells_prod s.place x hx)
    have hf1 := (unhide Q1).frozen
    have hzz : -99 ≤ z ∧ z ≤ 99 := by omega
    have hp0 : (0 : Int) ≤ (s.place : Int) := by omega
    have hp8 : (s.place : Int) < 8 := by omega
    clear hW1 t8 t9 t10 t11 t12 t13 t14 hf hz
    go_region
    go_upto_region 6 with fail
    obtain ⟨W2, hW2⟩ : ∃ W2, W2 = (W1.setCell ⟨g, s.place, none⟩ (.int .i64 (x + z))).drew := ⟨_, rfl⟩
    rw [← hW2]
    have Q2 : Hid (OwnR W2 g { s with size := z, prod := s.prod.set s.place (x + z) }) := by show OwnR W2 _ _; rw [hW2]; exact (unhide Q1).setProd s.place hpl (x + z)
    have T2 : Hid (Others g w W2) := by show Others _ _ W2; rw [hW2]; exact ((unhide T1).setCell _ _).drew
    obtain ⟨r0, r1, r2, r3, r4, r5, r6, r7, hR⟩ := list8 (s.prod.set s.place (x + z)) (unhide Q2).1
    rw [hR] at hr Q2
    have HR := hide (right_any r0 r1 r2 r3 r4 r5 r6 r7)
    rw [hr] at HR
    have HRT : Hid (s.prod.set s.place (x + z) = [r0, r1, r2, r3, r4, r5, r6, r7]) := hR
    obtain ⟨c0, c1, c2, c3, c4, c5, c6, c7⟩ : W2.cell? ⟨g, 0, none⟩ = some (.int .i64 r0) ∧ W2.cell? ⟨g, 1, none⟩ = some (.int .i64 r1) ∧ W2.cell? ⟨g, 2, none⟩ = some (.int .i64 r2) ∧ W2.cell? ⟨g, 3, none⟩ = some (.int .i64 r3) ∧ W2.cell? ⟨g, 4, none⟩ = some (.int .i64 r4) ∧ W2.cell? ⟨g, 5, none⟩ = some (.int .i64 r5) ∧ W2.cell? ⟨g, 6, none⟩ = some (.int .i64 r6) ∧ W2.cell? ⟨g, 7, none⟩ = some (.int .i64 r7) := by
      have hh := fun i y hi => (unhide Q2).cell i _ (cells_prod i y hi)
      exact ⟨hh 0 _ rfl, hh 1 _ rfl, hh 2 _ rfl, hh 3 _ rfl, hh 4 _ rfl, hh 5 _ rfl, hh 6 _ rfl, hh 7 _ rfl⟩
    have hlt2 := (unhide Q2).lt
    have hl11 := (unhide Q2).tailCell.2.2.2.1
    clear hW2 Q1 T1 u8 u9 u10 u11 u12 u13 u14 hpx hf1 hR hr
    go_wp2_with (go_at_call 13; refine (unhide HR _).mono ?_; rintro e w' ⟨rfl, rfl⟩)
    go_region
    go_wp2
    go_ret2
    exact ⟨rfl, ((unhide T2).alloc (Nat.le_of_lt (by have := (unhide T2).1.size; omega)) _).drew⟩
  | true =>
    rw [hbu, if_pos rfl] at hz
    go_enter Tryd.func66, Tryd.ntmps66
    go_upto_region 3 with fail
    go_region
    go_upto_region 5 with fail
    obtain ⟨W1, hW1⟩ : ∃ W1, W1 = w.drew := ⟨_, rfl⟩
    rw [← hW1]
    have Q1 : Hid (OwnR W1 g { s with size := z }) := by show OwnR W1 _ _; rw [hW1, hz]; exact unhide H
    have T1 : Hid (Others g w W1) := by show Others _ _ W1; rw [hW1]; exact (Others.refl g w).drew
    obtain ⟨u8, u9, u10, u11, u12, u13, u14⟩ := (unhide Q1).tailCell
    have hpx := (unhide Q1).cell s.place _ (cells_prod s.place x hx)
    have hf1 := (unhide Q1).frozen
    have hzz : -99 ≤ z ∧ z ≤ 99 := by omega
    have hp0 : (0 : Int) ≤ (s.place : Int) := by omega
    have hp8 : (s.place : Int) < 8 := by omega
    clear hW1 t8 t9 t10 t11 t12 t13 t14 hf hz
    go_region
    go_upto_region 6 with fail
    obtain ⟨W2, hW2⟩ : ∃ W2, W2 = (W1.setCell ⟨g, s.place, none⟩ (.int .i64 (x + z))).drew := ⟨_, rfl⟩
    rw [← hW2]
    have Q2 : Hid (OwnR W2 g { s with size := z, prod := s.prod.set s.place (x + z) }) := by show OwnR W2 _ _; rw [hW2]; exact (unhide Q1).setProd s.place hpl (x + z)
    have T2 : Hid (Others g w W2) := by show Others _ _ W2; rw [hW2]; exact ((unhide T1).setCell _ _).drew
    obtain ⟨r0, r1, r2, r3, r4, r5, r6, r7, hR⟩ := list8 (s.prod.set s.place (x + z)) (unhide Q2).1
    rw [hR] at hr Q2
    have HR := hide (right_any r0 r1 r2 r3 r4 r5 r6 r7)
    rw [hr] at HR
    have HRT : Hid (s.prod.set s.place (x + z) = [r0, r1, r2, r3, r4, r5, r6, r7]) := hR
    obtain ⟨c0, c1, c2, c3, c4, c5, c6, c7⟩ : W2.cell? ⟨g, 0, none⟩ = some (.int .i64 r0) ∧ W2.cell? ⟨g, 1, none⟩ = some (.int .i64 r1) ∧ W2.cell? ⟨g, 2, none⟩ = some (.int .i64 r2) ∧ W2.cell? ⟨g, 3, none⟩ = some (.int .i64 r3) ∧ W2.cell? ⟨g, 4, none⟩ = some (.int .i64 r4) ∧ W2.cell? ⟨g, 5, none⟩ = some (.int .i64 r5) ∧ W2.cell? ⟨g, 6, none⟩ = some (.int .i64 r6) ∧ W2.cell? ⟨g, 7, none⟩ = some (.int .i64 r7) := by
      have hh := fun i y hi => (unhide Q2).cell i _ (cells_prod i y hi)
      exact ⟨hh 0 _ rfl, hh 1 _ rfl, hh 2 _ rfl, hh 3 _ rfl, hh 4 _ rfl, hh 5 _ rfl, hh 6 _ rfl, hh 7 _ rfl⟩
    have hlt2 := (unhide Q2).lt
    have hl11 := (unhide Q2).tailCell.2.2.2.1
    clear hW2 Q1 T1 u8 u9 u10 u11 u12 u13 u14 hpx hf1 hR hr
    go_wp2_with (go_at_call 13; refine (unhide HR _).mono ?_; rintro e w' ⟨rfl, rfl⟩)
    go_region
    go_wp2
    go_ret2
    exact ⟨rfl, ((unhide T2).alloc (Nat.le_of_lt (by have := (unhide T2).1.size; omega)) _).drew⟩

set_option maxRecDepth 100000 in
set_option maxHeartbeats 2000000 in
theorem finish_form (s : Rd) (at_ c z x : Int) (hsz : 0 ≤ s.size ∧ s.size ≤ 99) (hz : z = if (s.below == s.under) = true then s.size else -s.size) (hpl : s.place < 8) (hx : s.prod[s.place]? = some x) (hxb : -99 ≤ x ∧ x ≤ 99)
    (hr : rightB (s.prod.set s.place (x + z)) = true) (hc : c ≠ 32 ∧ c ≠ 47 ∧ c ≠ -1) : FinErr s at_ c 3 at_ := by
  intro g w h
  have H := hide h
  obtain ⟨t8, t9, t10, t11, t12, t13, t14⟩ := h.tailCell
  have hf := h.frozen
  clear h
  have hc1 : (c != 32) = true := by simp [hc.1]
  have hc2 : (c != 47) = true := by simp [hc.2.1]
  have hc3 : (c != -1) = true := by simp [hc.2.2]
  clear hc
  cases hbu : (s.below == s.under) with
  | false =>
    rw [hbu, if_neg (by simp)] at hz
    go_enter Tryd.func66, Tryd.ntmps66
    go_upto_region 3 with fail
    go_region
    go_upto_region 5 with fail
    obtain ⟨W1, hW1⟩ : ∃ W1, W1 = (w.setCell ⟨g, 14, none⟩ (.int .i64 (-s.size))).drew := ⟨_, rfl⟩
    rw [← hW1]
    have Q1 : Hid (OwnR W1 g { s with size := z }) := by show OwnR W1 _ _; rw [hW1, hz]; exact (unhide H).setSize _
    have T1 : Hid (Others g w W1) := by show Others _ _ W1; rw [hW1]; exact ((Others.refl g w).setCell _ _).drew
    obtain ⟨u8, u9, u10, u11, u12, u13, u14⟩ := (unhide Q1).tailCell
    have hpx := (unhide Q1).cell s.place _ (cells_prod s.place x hx)
    have hf1 := (unhide Q1).frozen
    have hzz : -99 ≤ z ∧ z ≤ 99 := by omega
    have hp0 : (0 : Int) ≤ (s.place : Int) := by omega
    have hp8 : (s.place : Int) < 8 := by omega
    clear hW1 t8 t9 t10 t11 t12 t13 t14 hf hz
    go_region
    go_upto_region 6 with fail
    obtain ⟨W2, hW2⟩ : ∃ W2, W2 = (W1.setCell ⟨g, s.place, none⟩ (.int .i64 (x + z))).drew := ⟨_, rfl⟩
    rw [← hW2]
    have Q2 : Hid (OwnR W2 g { s with size := z, prod := s.prod.set s.place (x + z) }) := by show OwnR W2 _ _; rw [hW2]; exact (unhide Q1).setProd s.place hpl (x + z)
    have T2 : Hid (Others g w W2) := by show Others _ _ W2; rw [hW2]; exact ((unhide T1).setCell _ _).drew
    obtain ⟨r0, r1, r2, r3, r4, r5, r6, r7, hR⟩ := list8 (s.prod.set s.place (x + z)) (unhide Q2).1
    rw [hR] at hr Q2
    have HR := hide (right_any r0 r1 r2 r3 r4 r5 r6 r7)
    rw [hr] at HR
    have HRT : Hid (s.prod.set s.place (x + z) = [r0, r1, r2, r3, r4, r5, r6, r7]) := hR
    obtain ⟨c0, c1, c2, c3, c4, c5, c6, c7⟩ : W2.cell? ⟨g, 0, none⟩ = some (.int .i64 r0) ∧ W2.cell? ⟨g, 1, none⟩ = some (.int .i64 r1) ∧ W2.cell? ⟨g, 2, none⟩ = some (.int .i64 r2) ∧ W2.cell? ⟨g, 3, none⟩ = some (.int .i64 r3) ∧ W2.cell? ⟨g, 4, none⟩ = some (.int .i64 r4) ∧ W2.cell? ⟨g, 5, none⟩ = some (.int .i64 r5) ∧ W2.cell? ⟨g, 6, none⟩ = some (.int .i64 r6) ∧ W2.cell? ⟨g, 7, none⟩ = some (.int .i64 r7) := by
      have hh := fun i y hi => (unhide Q2).cell i _ (cells_prod i y hi)
      exact ⟨hh 0 _ rfl, hh 1 _ rfl, hh 2 _ rfl, hh 3 _ rfl, hh 4 _ rfl, hh 5 _ rfl, hh 6 _ rfl, hh 7 _ rfl⟩
    have hlt2 := (unhide Q2).lt
    clear hW2 Q1 T1 u8 u9 u10 u11 u12 u13 u14 hpx hf1 hR hr
    go_wp2_with (go_at_call 13; refine (unhide HR _).mono ?_; rintro e w' ⟨rfl, rfl⟩)
    go_ret2
    exact ⟨rfl, (unhide T2).alloc (Nat.le_of_lt (by have := (unhide T2).1.size; omega)) _⟩
  | true =>
    rw [hbu, if_pos rfl] at hz
    go_enter Tryd.func66, Tryd.ntmps66
    go_upto_region 3 with fail
    go_region
    go_upto_region 5 with fail
    obtain ⟨W1, hW1⟩ : ∃ W1, W1 = w.drew := ⟨_, rfl⟩
    rw [← hW1]
    have Q1 : Hid (OwnR W1 g { s with size := z }) := by show OwnR W1 _ _; rw [hW1, hz]; exact unhide H
    have T1 : Hid (Others g w W1) := by show Others _ _ W1; rw [hW1]; exact (Others.refl g w).drew
    obtain ⟨u8, u9, u10, u11, u12, u13, u14⟩ := (unhide Q1).tailCell
    have hpx := (unhide Q1).cell s.place _ (cells_prod s.place x hx)
    have hf1 := (unhide Q1).frozen
    have hzz : -99 ≤ z ∧ z ≤ 99 := by omega
    have hp0 : (0 : Int) ≤ (s.place : Int) := by omega
    have hp8 : (s.place : Int) < 8 := by omega
    clear hW1 t8 t9 t10 t11 t12 t13 t14 hf hz
    go_region
    go_upto_region 6 with fail
    obtain ⟨W2, hW2⟩ : ∃ W2, W2 = (W1.setCell ⟨g, s.place, none⟩ (.int .i64 (x + z))).drew := ⟨_, rfl⟩
    rw [← hW2]
    have Q2 : Hid (OwnR W2 g { s with size := z, prod := s.prod.set s.place (x + z) }) := by show OwnR W2 _ _; rw [hW2]; exact (unhide Q1).setProd s.place hpl (x + z)
    have T2 : Hid (Others g w W2) := by show Others _ _ W2; rw [hW2]; exact ((unhide T1).setCell _ _).drew
    obtain ⟨r0, r1, r2, r3, r4, r5, r6, r7, hR⟩ := list8 (s.prod.set s.place (x + z)) (unhide Q2).1
    rw [hR] at hr Q2
    have HR := hide (right_any r0 r1 r2 r3 r4 r5 r6 r7)
    rw [hr] at HR
    have HRT : Hid (s.prod.set s.place (x + z) = [r0, r1, r2, r3, r4, r5, r6, r7]) := hR
    obtain ⟨c0, c1, c2, c3, c4, c5, c6, c7⟩ : W2.cell? ⟨g, 0, none⟩ = some (.int .i64 r0) ∧ W2.cell? ⟨g, 1, none⟩ = some (.int .i64 r1) ∧ W2.cell? ⟨g, 2, none⟩ = some (.int .i64 r2) ∧ W2.cell? ⟨g, 3, none⟩ = some (.int .i64 r3) ∧ W2.cell? ⟨g, 4, none⟩ = some (.int .i64 r4) ∧ W2.cell? ⟨g, 5, none⟩ = some (.int .i64 r5) ∧ W2.cell? ⟨g, 6, none⟩ = some (.int .i64 r6) ∧ W2.cell? ⟨g, 7, none⟩ = some (.int .i64 r7) := by
      have hh := fun i y hi => (unhide Q2).cell i _ (cells_prod i y hi)
      exact ⟨hh 0 _ rfl, hh 1 _ rfl, hh 2 _ rfl, hh 3 _ rfl, hh 4 _ rfl, hh 5 _ rfl, hh 6 _ rfl, hh 7 _ rfl⟩
    have hlt2 := (unhide Q2).lt
    clear hW2 Q1 T1 u8 u9 u10 u11 u12 u13 u14 hpx hf1 hR hr
    go_wp2_with (go_at_call 13; refine (unhide HR _).mono ?_; rintro e w' ⟨rfl, rfl⟩)
    go_ret2
    exact ⟨rfl, (unhide T2).alloc (Nat.le_of_lt (by have := (unhide T2).1.size; omega)) _⟩

set_option maxRecDepth 100000 in
set_option maxHeartbeats 1000000 in
theorem take_begin_err (s : Rd) (at_ c : Int) (hn : s.next = 0) (hc : NoLetter c) : TakeErr s at_ c 3 at_ := by
  intro g w h
  have HB := hide (begin_err c at_ hc g s w h)
  obtain ⟨t8, t9, t10, t11, t12, t13, t14⟩ := h.tailCell
  rw [hn] at t8
  clear h hn hc
  by_cases h1 : 48 ≤ c
  · by_cases h2 : c ≤ 57
    · go_enter Tryd.func45, Tryd.ntmps45
      go_wp2_with (go_at_call 65; refine (unhide HB).mono ?_; rintro e w' ⟨rfl, hk⟩)
      go_ret2
      exact ⟨rfl, hk⟩
    · go_enter Tryd.func45, Tryd.ntmps45
      go_wp2_with (go_at_call 65; refine (unhide HB).mono ?_; rintro e w' ⟨rfl, hk⟩)
      go_ret2
      exact ⟨rfl, hk⟩
  · go_enter Tryd.func45, Tryd.ntmps45
    go_wp2_with (go_at_call 65; refine (unhide HB).mono ?_; rintro e w' ⟨rfl, hk⟩)
    go_ret2
    exact ⟨rfl, hk⟩
set_option maxRecDepth 100000 in
set_option maxHeartbeats 1000000 in
theorem take_fin1_err (s : Rd) (at_ c e0 pl : Int) (hn : s.next = 1) (hc : c ≠ 94) (hF : FinErr { s with size := 1 } at_ c e0 pl) : TakeErr s at_ c e0 pl := by
  intro g w h
  have HB := hide (hF g (w.setCell ⟨g, 14, none⟩ (.int .i64 1)) (h.setSize 1))
  obtain ⟨t8, t9, t10, t11, t12, t13, t14⟩ := h.tailCell
  have hf := h.frozen
  have h94 : (c == 94) = false := by simp [hc]
  rw [hn] at t8
  clear h hn hc hF
  by_cases h1 : 48 ≤ c
  · by_cases h2 : c ≤ 57
    · go_enter Tryd.func45, Tryd.ntmps45
      go_wp2_with (go_at_call 66; refine (unhide HB).mono ?_; rintro e w' ⟨rfl, hk⟩)
      go_ret2
      exact ⟨rfl, ((Others.refl g w).setCell _ _).trans hk⟩
    · go_enter Tryd.func45, Tryd.ntmps45
      go_wp2_with (go_at_call 66; refine (unhide HB).mono ?_; rintro e w' ⟨rfl, hk⟩)
      go_ret2
      exact ⟨rfl, ((Others.refl g w).setCell _ _).trans hk⟩
  · go_enter Tryd.func45, Tryd.ntmps45
    go_wp2_with (go_at_call 66; refine (unhide HB).mono ?_; rintro e w' ⟨rfl, hk⟩)
    go_ret2
    exact ⟨rfl, ((Others.refl g w).setCell _ _).trans hk⟩
set_option maxRecDepth 100000 in
set_option maxHeartbeats 1000000 in
theorem take_fin4_err (s : Rd) (at_ c e0 pl : Int) (hn : s.next = 4) (hc : ¬ (48 ≤ c ∧ c ≤ 57)) (hF : FinErr s at_ c e0 pl) : TakeErr s at_ c e0 pl := by
  intro g w h
  have HB := hide (hF g w h)
  obtain ⟨t8, t9, t10, t11, t12, t13, t14⟩ := h.tailCell
  rw [hn] at t8
  clear h hn hF
  by_cases h1 : 48 ≤ c
  · have h2 : 57 < c := by omega
    clear hc
    go_enter Tryd.func45, Tryd.ntmps45
    go_wp2_with (go_at_call 66; refine (unhide HB).mono ?_; rintro e w' ⟨rfl, hk⟩)
    go_ret2
    exact ⟨rfl, hk⟩
  · clear hc
    go_enter Tryd.func45, Tryd.ntmps45
    go_wp2_with (go_at_call 66; refine (unhide HB).mono ?_; rintro e w' ⟨rfl, hk⟩)
    go_ret2
    exact ⟨rfl, hk⟩
set_option maxRecDepth 100000 in
set_option maxHeartbeats 1000000 in
theorem take_none (s : Rd) (at_ c n : Int) (hn : s.next = n) (hnn : (n = 2 ∧ c ≠ 45) ∨ n = 3) (hc : ¬ (48 ≤ c ∧ c ≤ 57)) : TakeErr s at_ c 3 at_ := by
  intro g w h
  obtain ⟨t8, t9, t10, t11, t12, t13, t14⟩ := h.tailCell
  rw [hn] at t8
  clear h hn
  rcases hnn with ⟨rfl, h45⟩ | rfl
  · have h45' : (c == 45) = false := by simp [h45]
    clear h45
    by_cases h1 : 48 ≤ c
    · have h2 : 57 < c := by omega
      clear hc
      go_enter Tryd.func45, Tryd.ntmps45
      go_wp2
      go_ret2
      exact ⟨rfl, Others.refl g w⟩
    · clear hc
      go_enter Tryd.func45, Tryd.ntmps45
      go_wp2
      go_ret2
      exact ⟨rfl, Others.refl g w⟩
  · by_cases h1 : 48 ≤ c
    · have h2 : 57 < c := by omega
      clear hc
      go_enter Tryd.func45, Tryd.ntmps45
      go_wp2
      go_ret2
      exact ⟨rfl, Others.refl g w⟩
    · clear hc
      go_enter Tryd.func45, Tryd.ntmps45
      go_wp2
      go_ret2
      exact ⟨rfl, Others.refl g w⟩
end Go.Proofs.YtccnbnfafhpeaaaDoor

/- (*dim.reader).begin: a term, by its letter. -/
import Derived.Test.YtccnbnfafhpeaaaDoorReader
import Derived.Test.YtccnbnfafhpeaaaDoorPrint
import Derived.Handy
namespace Go.Proofs.YtccnbnfafhpeaaaDoor
open Go.RowKit

theorem next_letter (w : World) (j : Nat) (hj : j < 8) (r : Nat) (hr : lettersL[j]? = some r) (ty : TypeId) : (Instr.next (.pointer (some ⟨w.heap.size, 0, none⟩)) true ty).run Tryd.prog (w.iter ⟨#[76, 77, 84, 73, 72, 78, 74, 66]⟩ j) = .ok (.tuple #[.bool true, .int .i64 j, .int .i32 (r : Int)]) (w.iter ⟨#[76, 77, 84, 73, 72, 78, 74, 66]⟩ (j + 1)) := by
  obtain ⟨r', h1, h2, h3, h4⟩ := letter_get j hj
  have hrr : r' = r := by rw [← h1, List.getD_eq_getElem?_getD, hr]; rfl
  subst hrr
  have h := run_next_ascii (P := Tryd.prog) w letters8 j ty hj (by rw [h3]; exact h4)
  rw [h3] at h
  exact h

/-- The letter stands at place k: the reader goes on. -/
def BeginOK (k : Nat) (c : Int) : Prop := ∀ (g : Nat) (s : Rd) (at_ : Int) (w : World), OwnR w g s →
    Calls Tryd.prog 65 #[.pointer (some ⟨g, 0, none⟩), .int .i64 at_, .int .i32 c] w fun e w' => e = .returned (.tuple #[.int .i64 0, .int .i64 0]) ∧ OwnR w' g { s with next := 1, place := k, letterAt := at_ } ∧ Others g w w'

theorem iter_own {w : World} {g : Nat} {s : Rd} (h : OwnR w g s) (S : ByteArray) (p : Nat) : OwnR (w.iter S p) g s ∧ Others g w (w.iter S p) := ⟨h.alloc _, (Others.refl g w).alloc (Nat.le_of_lt h.lt) _⟩

set_option maxRecDepth 100000 in
set_option maxHeartbeats 1000000 in
theorem begin0 : BeginOK 0 76 := by
  intro g s at_ w h0
  obtain ⟨V, hV⟩ : ∃ V, V = w.iter ⟨#[76, 77, 84, 73, 72, 78, 74, 66]⟩ 1 := ⟨_, rfl⟩
  obtain ⟨h, ho⟩ := iter_own h0 ⟨#[76, 77, 84, 73, 72, 78, 74, 66]⟩ 1
  rw [← hV] at h ho
  obtain ⟨t8, t9, t10, t11, t12, t13, t14⟩ := h.tailCell
  have hf := h.frozen
  have HF : Hid (OwnR (((V.setCell ⟨g, 8, none⟩ (.int .i64 1)).setCell ⟨g, 10, none⟩ (.int .i64 0)).setCell ⟨g, 11, none⟩ (.int .i64 at_)) g { s with next := 1, place := 0, letterAt := at_ } ∧ Others g w (((V.setCell ⟨g, 8, none⟩ (.int .i64 1)).setCell ⟨g, 10, none⟩ (.int .i64 0)).setCell ⟨g, 11, none⟩ (.int .i64 at_))) :=
    ⟨((h.setNext 1).setPlace 0).setLetter at_, ((ho.setCell 8 _).setCell 10 _).setCell 11 _⟩
  have n0 : ∀ ty, (Instr.next (.pointer (some ⟨w.heap.size, 0, none⟩)) true ty).run Tryd.prog (w.iter ⟨#[76, 77, 84, 73, 72, 78, 74, 66]⟩ 0) = .ok (.tuple #[.bool true, .int .i64 0, .int .i32 76]) V := by rw [hV]; exact next_letter w 0 (by omega) 76 rfl
  clear h h0 ho hV
  go_enter Tryd.func65, Tryd.ntmps65
  go_wp2
  refine wp_loop_rounds 1 ?_
  repeat any_goals (rw [rounds_succ]; go_wp2)
  go_ret2
  exact ⟨rfl, unhide HF⟩

set_option maxRecDepth 100000 in
set_option maxHeartbeats 1000000 in
theorem begin1 : BeginOK 1 77 := by
  intro g s at_ w h0
  obtain ⟨V, hV⟩ : ∃ V, V = w.iter ⟨#[76, 77, 84, 73, 72, 78, 74, 66]⟩ 2 := ⟨_, rfl⟩
  obtain ⟨h, ho⟩ := iter_own h0 ⟨#[76, 77, 84, 73, 72, 78, 74, 66]⟩ 2
  rw [← hV] at h ho
  obtain ⟨t8, t9, t10, t11, t12, t13, t14⟩ := h.tailCell
  have hf := h.frozen
  have HF : Hid (OwnR (((V.setCell ⟨g, 8, none⟩ (.int .i64 1)).setCell ⟨g, 10, none⟩ (.int .i64 1)).setCell ⟨g, 11, none⟩ (.int .i64 at_)) g { s with next := 1, place := 1, letterAt := at_ } ∧ Others g w (((V.setCell ⟨g, 8, none⟩ (.int .i64 1)).setCell ⟨g, 10, none⟩ (.int .i64 1)).setCell ⟨g, 11, none⟩ (.int .i64 at_))) :=
    ⟨((h.setNext 1).setPlace 1).setLetter at_, ((ho.setCell 8 _).setCell 10 _).setCell 11 _⟩
  have n0 : ∀ ty, (Instr.next (.pointer (some ⟨w.heap.size, 0, none⟩)) true ty).run Tryd.prog (w.iter ⟨#[76, 77, 84, 73, 72, 78, 74, 66]⟩ 0) = .ok (.tuple #[.bool true, .int .i64 0, .int .i32 76]) (w.iter ⟨#[76, 77, 84, 73, 72, 78, 74, 66]⟩ 1) := next_letter w 0 (by omega) 76 rfl
  have n1 : ∀ ty, (Instr.next (.pointer (some ⟨w.heap.size, 0, none⟩)) true ty).run Tryd.prog (w.iter ⟨#[76, 77, 84, 73, 72, 78, 74, 66]⟩ 1) = .ok (.tuple #[.bool true, .int .i64 1, .int .i32 77]) V := by rw [hV]; exact next_letter w 1 (by omega) 77 rfl
  clear h h0 ho hV
  go_enter Tryd.func65, Tryd.ntmps65
  go_wp2
  refine wp_loop_rounds 2 ?_
  repeat any_goals (rw [rounds_succ]; go_wp2)
  go_ret2
  exact ⟨rfl, unhide HF⟩

set_option maxRecDepth 100000 in
set_option maxHeartbeats 1000000 in
theorem begin2 : BeginOK 2 84 := by
  intro g s at_ w h0
  obtain ⟨V, hV⟩ : ∃ V, V = w.iter ⟨#[76, 77, 84, 73, 72, 78, 74, 66]⟩ 3 := ⟨_, rfl⟩
  obtain ⟨h, ho⟩ := iter_own h0 ⟨#[76, 77, 84, 73, 72, 78, 74, 66]⟩ 3
  rw [← hV] at h ho
  obtain ⟨t8, t9, t10, t11, t12, t13, t14⟩ := h.tailCell
  have hf := h.frozen
  have HF : Hid (OwnR (((V.setCell ⟨g, 8, none⟩ (.int .i64 1)).setCell ⟨g, 10, none⟩ (.int .i64 2)).setCell ⟨g, 11, none⟩ (.int .i64 at_)) g { s with next := 1, place := 2, letterAt := at_ } ∧ Others g w (((V.setCell ⟨g, 8, none⟩ (.int .i64 1)).setCell ⟨g, 10, none⟩ (.int .i64 2)).setCell ⟨g, 11, none⟩ (.int .i64 at_))) :=
    ⟨((h.setNext 1).setPlace 2).setLetter at_, ((ho.setCell 8 _).setCell 10 _).setCell 11 _⟩
  have n0 : ∀ ty, (Instr.next (.pointer (some ⟨w.heap.size, 0, none⟩)) true ty).run Tryd.prog (w.iter ⟨#[76, 77, 84, 73, 72, 78, 74, 66]⟩ 0) = .ok (.tuple #[.bool true, .int .i64 0, .int .i32 76]) (w.iter ⟨#[76, 77, 84, 73, 72, 78, 74, 66]⟩ 1) := next_letter w 0 (by omega) 76 rfl
  have n1 : ∀ ty, (Instr.next (.pointer (some ⟨w.heap.size, 0, none⟩)) true ty).run Tryd.prog (w.iter ⟨#[76, 77, 84, 73, 72, 78, 74, 66]⟩ 1) = .ok (.tuple #[.bool true, .int .i64 1, .int .i32 77]) (w.iter ⟨#[76, 77, 84, 73, 72, 78, 74, 66]⟩ 2) := next_letter w 1 (by omega) 77 rfl
  have n2 : ∀ ty, (Instr.next (.pointer (some ⟨w.heap.size, 0, none⟩)) true ty).run Tryd.prog (w.iter ⟨#[76, 77, 84, 73, 72, 78, 74, 66]⟩ 2) = .ok (.tuple #[.bool true, .int .i64 2, .int .i32 84]) V := by rw [hV]; exact next_letter w 2 (by omega) 84 rfl
  clear h h0 ho hV
  go_enter Tryd.func65, Tryd.ntmps65
  go_wp2
  refine wp_loop_rounds 3 ?_
  repeat any_goals (rw [rounds_succ]; go_wp2)
  go_ret2
  exact ⟨rfl, unhide HF⟩

set_option maxRecDepth 100000 in
set_option maxHeartbeats 1000000 in
theorem begin3 : BeginOK 3 73 := by
  intro g s at_ w h0
  obtain ⟨V, hV⟩ : ∃ V, V = w.iter ⟨#[76, 77, 84, 73, 72, 78, 74, 66]⟩ 4 := ⟨_, rfl⟩
  obtain ⟨h, ho⟩ := iter_own h0 ⟨#[76, 77, 84, 73, 72, 78, 74, 66]⟩ 4
  rw [← hV] at h ho
  obtain ⟨t8, t9, t10, t11, t12, t13, t14⟩ := h.tailCell
  have hf := h.frozen
  have HF : Hid (OwnR (((V.setCell ⟨g, 8, none⟩ (.int .i64 1)).setCell ⟨g, 10, none⟩ (.int .i64 3)).setCell ⟨g, 11, none⟩ (.int .i64 at_)) g { s with next := 1, place := 3, letterAt := at_ } ∧ Others g w (((V.setCell ⟨g, 8, none⟩ (.int .i64 1)).setCell ⟨g, 10, none⟩ (.int .i64 3)).setCell ⟨g, 11, none⟩ (.int .i64 at_))) :=
    ⟨((h.setNext 1).setPlace 3).setLetter at_, ((ho.setCell 8 _).setCell 10 _).setCell 11 _⟩
  have n0 : ∀ ty, (Instr.next (.pointer (some ⟨w.heap.size, 0, none⟩)) true ty).run Tryd.prog (w.iter ⟨#[76, 77, 84, 73, 72, 78, 74, 66]⟩ 0) = .ok (.tuple #[.bool true, .int .i64 0, .int .i32 76]) (w.iter ⟨#[76, 77, 84, 73, 72, 78, 74, 66]⟩ 1) := next_letter w 0 (by omega) 76 rfl
  have n1 : ∀ ty, (Instr.next (.pointer (some ⟨w.heap.size, 0, none⟩)) true ty).run Tryd.prog (w.iter ⟨#[76, 77, 84, 73, 72, 78, 74, 66]⟩ 1) = .ok (.tuple #[.bool true, .int .i64 1, .int .i32 77]) (w.iter ⟨#[76, 77, 84, 73, 72, 78, 74, 66]⟩ 2) := next_letter w 1 (by omega) 77 rfl
  have n2 : ∀ ty, (Instr.next (.pointer (some ⟨w.heap.size, 0, none⟩)) true ty).run Tryd.prog (w.iter ⟨#[76, 77, 84, 73, 72, 78, 74, 66]⟩ 2) = .ok (.tuple #[.bool true, .int .i64 2, .int .i32 84]) (w.iter ⟨#[76, 77, 84, 73, 72, 78, 74, 66]⟩ 3) := next_letter w 2 (by omega) 84 rfl
  have n3 : ∀ ty, (Instr.next (.pointer (some ⟨w.heap.size, 0, none⟩)) true ty).run Tryd.prog (w.iter ⟨#[76, 77, 84, 73, 72, 78, 74, 66]⟩ 3) = .ok (.tuple #[.bool true, .int .i64 3, .int .i32 73]) V := by rw [hV]; exact next_letter w 3 (by omega) 73 rfl
  clear h h0 ho hV
  go_enter Tryd.func65, Tryd.ntmps65
  go_wp2
  refine wp_loop_rounds 4 ?_
  repeat any_goals (rw [rounds_succ]; go_wp2)
  go_ret2
  exact ⟨rfl, unhide HF⟩

set_option maxRecDepth 100000 in
set_option maxHeartbeats 1000000 in
theorem begin4 : BeginOK 4 72 := by
  intro g s at_ w h0
  obtain ⟨V, hV⟩ : ∃ V, V = w.iter ⟨#[76, 77, 84, 73, 72, 78, 74, 66]⟩ 5 := ⟨_, rfl⟩
  obtain ⟨h, ho⟩ := iter_own h0 ⟨#[76, 77, 84, 73, 72, 78, 74, 66]⟩ 5
  rw [← hV] at h ho
  obtain ⟨t8, t9, t10, t11, t12, t13, t14⟩ := h.tailCell
  have hf := h.frozen
  have HF : Hid (OwnR (((V.setCell ⟨g, 8, none⟩ (.int .i64 1)).setCell ⟨g, 10, none⟩ (.int .i64 4)).setCell ⟨g, 11, none⟩ (.int .i64 at_)) g { s with next := 1, place := 4, letterAt := at_ } ∧ Others g w (((V.setCell ⟨g, 8, none⟩ (.int .i64 1)).setCell ⟨g, 10, none⟩ (.int .i64 4)).setCell ⟨g, 11, none⟩ (.int .i64 at_))) :=
    ⟨((h.setNext 1).setPlace 4).setLetter at_, ((ho.setCell 8 _).setCell 10 _).setCell 11 _⟩
  have n0 : ∀ ty, (Instr.next (.pointer (some ⟨w.heap.size, 0, none⟩)) true ty).run Tryd.prog (w.iter ⟨#[76, 77, 84, 73, 72, 78, 74, 66]⟩ 0) = .ok (.tuple #[.bool true, .int .i64 0, .int .i32 76]) (w.iter ⟨#[76, 77, 84, 73, 72, 78, 74, 66]⟩ 1) := next_letter w 0 (by omega) 76 rfl
  have n1 : ∀ ty, (Instr.next (.pointer (some ⟨w.heap.size, 0, none⟩)) true ty).run Tryd.prog (w.iter ⟨#[76, 77, 84, 73, 72, 78, 74, 66]⟩ 1) = .ok (.tuple #[.bool true, .int .i64 1, .int .i32 77]) (w.iter ⟨#[76, 77, 84, 73, 72, 78, 74, 66]⟩ 2) := next_letter w 1 (by omega) 77 rfl
  have n2 : ∀ ty, (Instr.next (.pointer (some ⟨w.heap.size, 0, none⟩)) true ty).run Tryd.prog (w.iter ⟨#[76, 77, 84, 73, 72, 78, 74, 66]⟩ 2) = .ok (.tuple #[.bool true, .int .i64 2, .int .i32 84]) (w.iter ⟨#[76, 77, 84, 73, 72, 78, 74, 66]⟩ 3) := next_letter w 2 (by omega) 84 rfl
  have n3 : ∀ ty, (Instr.next (.pointer (some ⟨w.heap.size, 0, none⟩)) true ty).run Tryd.prog (w.iter ⟨#[76, 77, 84, 73, 72, 78, 74, 66]⟩ 3) = .ok (.tuple #[.bool true, .int .i64 3, .int .i32 73]) (w.iter ⟨#[76, 77, 84, 73, 72, 78, 74, 66]⟩ 4) := next_letter w 3 (by omega) 73 rfl
  have n4 : ∀ ty, (Instr.next (.pointer (some ⟨w.heap.size, 0, none⟩)) true ty).run Tryd.prog (w.iter ⟨#[76, 77, 84, 73, 72, 78, 74, 66]⟩ 4) = .ok (.tuple #[.bool true, .int .i64 4, .int .i32 72]) V := by rw [hV]; exact next_letter w 4 (by omega) 72 rfl
  clear h h0 ho hV
  go_enter Tryd.func65, Tryd.ntmps65
  go_wp2
  refine wp_loop_rounds 5 ?_
  repeat any_goals (rw [rounds_succ]; go_wp2)
  go_ret2
  exact ⟨rfl, unhide HF⟩

set_option maxRecDepth 100000 in
set_option maxHeartbeats 1000000 in
theorem begin5 : BeginOK 5 78 := by
  intro g s at_ w h0
  obtain ⟨V, hV⟩ : ∃ V, V = w.iter ⟨#[76, 77, 84, 73, 72, 78, 74, 66]⟩ 6 := ⟨_, rfl⟩
  obtain ⟨h, ho⟩ := iter_own h0 ⟨#[76, 77, 84, 73, 72, 78, 74, 66]⟩ 6
  rw [← hV] at h ho
  obtain ⟨t8, t9, t10, t11, t12, t13, t14⟩ := h.tailCell
  have hf := h.frozen
  have HF : Hid (OwnR (((V.setCell ⟨g, 8, none⟩ (.int .i64 1)).setCell ⟨g, 10, none⟩ (.int .i64 5)).setCell ⟨g, 11, none⟩ (.int .i64 at_)) g { s with next := 1, place := 5, letterAt := at_ } ∧ Others g w (((V.setCell ⟨g, 8, none⟩ (.int .i64 1)).setCell ⟨g, 10, none⟩ (.int .i64 5)).setCell ⟨g, 11, none⟩ (.int .i64 at_))) :=
    ⟨((h.setNext 1).setPlace 5).setLetter at_, ((ho.setCell 8 _).setCell 10 _).setCell 11 _⟩
  have n0 : ∀ ty, (Instr.next (.pointer (some ⟨w.heap.size, 0, none⟩)) true ty).run Tryd.prog (w.iter ⟨#[76, 77, 84, 73, 72, 78, 74, 66]⟩ 0) = .ok (.tuple #[.bool true, .int .i64 0, .int .i32 76]) (w.iter ⟨#[76, 77, 84, 73, 72, 78, 74, 66]⟩ 1) := next_letter w 0 (by omega) 76 rfl
  have n1 : ∀ ty, (Instr.next (.pointer (some ⟨w.heap.size, 0, none⟩)) true ty).run Tryd.prog (w.iter ⟨#[76, 77, 84, 73, 72, 78, 74, 66]⟩ 1) = .ok (.tuple #[.bool true, .int .i64 1, .int .i32 77]) (w.iter ⟨#[76, 77, 84, 73, 72, 78, 74, 66]⟩ 2) := next_letter w 1 (by omega) 77 rfl
  have n2 : ∀ ty, (Instr.next (.pointer (some ⟨w.heap.size, 0, none⟩)) true ty).run Tryd.prog (w.iter ⟨#[76, 77, 84, 73, 72, 78, 74, 66]⟩ 2) = .ok (.tuple #[.bool true, .int .i64 2, .int .i32 84]) (w.iter ⟨#[76, 77, 84, 73, 72, 78, 74, 66]⟩ 3) := next_letter w 2 (by omega) 84 rfl
  have n3 : ∀ ty, (Instr.next (.pointer (some ⟨w.heap.size, 0, none⟩)) true ty).run Tryd.prog (w.iter ⟨#[76, 77, 84, 73, 72, 78, 74, 66]⟩ 3) = .ok (.tuple #[.bool true, .int .i64 3, .int .i32 73]) (w.iter ⟨#[76, 77, 84, 73, 72, 78, 74, 66]⟩ 4) := next_letter w 3 (by omega) 73 rfl
  have n4 : ∀ ty, (Instr.next (.pointer (some ⟨w.heap.size, 0, none⟩)) true ty).run Tryd.prog (w.iter ⟨#[76, 77, 84, 73, 72, 78, 74, 66]⟩ 4) = .ok (.tuple #[.bool true, .int .i64 4, .int .i32 72]) (w.iter ⟨#[76, 77, 84, 73, 72, 78, 74, 66]⟩ 5) := next_letter w 4 (by omega) 72 rfl
  have n5 : ∀ ty, (Instr.next (.pointer (some ⟨w.heap.size, 0, none⟩)) true ty).run Tryd.prog (w.iter ⟨#[76, 77, 84, 73, 72, 78, 74, 66]⟩ 5) = .ok (.tuple #[.bool true, .int .i64 5, .int .i32 78]) V := by rw [hV]; exact next_letter w 5 (by omega) 78 rfl
  clear h h0 ho hV
  go_enter Tryd.func65, Tryd.ntmps65
  go_wp2
  refine wp_loop_rounds 6 ?_
  repeat any_goals (rw [rounds_succ]; go_wp2)
  go_ret2
  exact ⟨rfl, unhide HF⟩

set_option maxRecDepth 100000 in
set_option maxHeartbeats 1000000 in
theorem begin6 : BeginOK 6 74 := by
  intro g s at_ w h0
  obtain ⟨V, hV⟩ : ∃ V, V = w.iter ⟨#[76, 77, 84, 73, 72, 78, 74, 66]⟩ 7 := ⟨_, rfl⟩
  obtain ⟨h, ho⟩ := iter_own h0 ⟨#[76, 77, 84, 73, 72, 78, 74, 66]⟩ 7
  rw [← hV] at h ho
  obtain ⟨t8, t9, t10, t11, t12, t13, t14⟩ := h.tailCell
  have hf := h.frozen
  have HF : Hid (OwnR (((V.setCell ⟨g, 8, none⟩ (.int .i64 1)).setCell ⟨g, 10, none⟩ (.int .i64 6)).setCell ⟨g, 11, none⟩ (.int .i64 at_)) g { s with next := 1, place := 6, letterAt := at_ } ∧ Others g w (((V.setCell ⟨g, 8, none⟩ (.int .i64 1)).setCell ⟨g, 10, none⟩ (.int .i64 6)).setCell ⟨g, 11, none⟩ (.int .i64 at_))) :=
    ⟨((h.setNext 1).setPlace 6).setLetter at_, ((ho.setCell 8 _).setCell 10 _).setCell 11 _⟩
  have n0 : ∀ ty, (Instr.next (.pointer (some ⟨w.heap.size, 0, none⟩)) true ty).run Tryd.prog (w.iter ⟨#[76, 77, 84, 73, 72, 78, 74, 66]⟩ 0) = .ok (.tuple #[.bool true, .int .i64 0, .int .i32 76]) (w.iter ⟨#[76, 77, 84, 73, 72, 78, 74, 66]⟩ 1) := next_letter w 0 (by omega) 76 rfl
  have n1 : ∀ ty, (Instr.next (.pointer (some ⟨w.heap.size, 0, none⟩)) true ty).run Tryd.prog (w.iter ⟨#[76, 77, 84, 73, 72, 78, 74, 66]⟩ 1) = .ok (.tuple #[.bool true, .int .i64 1, .int .i32 77]) (w.iter ⟨#[76, 77, 84, 73, 72, 78, 74, 66]⟩ 2) := next_letter w 1 (by omega) 77 rfl
  have n2 : ∀ ty, (Instr.next (.pointer (some ⟨w.heap.size, 0, none⟩)) true ty).run Tryd.prog (w.iter ⟨#[76, 77, 84, 73, 72, 78, 74, 66]⟩ 2) = .ok (.tuple #[.bool true, .int .i64 2, .int .i32 84]) (w.iter ⟨#[76, 77, 84, 73, 72, 78, 74, 66]⟩ 3) := next_letter w 2 (by omega) 84 rfl
  have n3 : ∀ ty, (Instr.next (.pointer (some ⟨w.heap.size, 0, none⟩)) true ty).run Tryd.prog (w.iter ⟨#[76, 77, 84, 73, 72, 78, 74, 66]⟩ 3) = .ok (.tuple #[.bool true, .int .i64 3, .int .i32 73]) (w.iter ⟨#[76, 77, 84, 73, 72, 78, 74, 66]⟩ 4) := next_letter w 3 (by omega) 73 rfl
  have n4 : ∀ ty, (Instr.next (.pointer (some ⟨w.heap.size, 0, none⟩)) true ty).run Tryd.prog (w.iter ⟨#[76, 77, 84, 73, 72, 78, 74, 66]⟩ 4) = .ok (.tuple #[.bool true, .int .i64 4, .int .i32 72]) (w.iter ⟨#[76, 77, 84, 73, 72, 78, 74, 66]⟩ 5) := next_letter w 4 (by omega) 72 rfl
  have n5 : ∀ ty, (Instr.next (.pointer (some ⟨w.heap.size, 0, none⟩)) true ty).run Tryd.prog (w.iter ⟨#[76, 77, 84, 73, 72, 78, 74, 66]⟩ 5) = .ok (.tuple #[.bool true, .int .i64 5, .int .i32 78]) (w.iter ⟨#[76, 77, 84, 73, 72, 78, 74, 66]⟩ 6) := next_letter w 5 (by omega) 78 rfl
  have n6 : ∀ ty, (Instr.next (.pointer (some ⟨w.heap.size, 0, none⟩)) true ty).run Tryd.prog (w.iter ⟨#[76, 77, 84, 73, 72, 78, 74, 66]⟩ 6) = .ok (.tuple #[.bool true, .int .i64 6, .int .i32 74]) V := by rw [hV]; exact next_letter w 6 (by omega) 74 rfl
  clear h h0 ho hV
  go_enter Tryd.func65, Tryd.ntmps65
  go_wp2
  refine wp_loop_rounds 7 ?_
  repeat any_goals (rw [rounds_succ]; go_wp2)
  go_ret2
  exact ⟨rfl, unhide HF⟩

set_option maxRecDepth 100000 in
set_option maxHeartbeats 1000000 in
theorem begin7 : BeginOK 7 66 := by
  intro g s at_ w h0
  obtain ⟨V, hV⟩ : ∃ V, V = w.iter ⟨#[76, 77, 84, 73, 72, 78, 74, 66]⟩ 8 := ⟨_, rfl⟩
  obtain ⟨h, ho⟩ := iter_own h0 ⟨#[76, 77, 84, 73, 72, 78, 74, 66]⟩ 8
  rw [← hV] at h ho
  obtain ⟨t8, t9, t10, t11, t12, t13, t14⟩ := h.tailCell
  have hf := h.frozen
  have HF : Hid (OwnR (((V.setCell ⟨g, 8, none⟩ (.int .i64 1)).setCell ⟨g, 10, none⟩ (.int .i64 7)).setCell ⟨g, 11, none⟩ (.int .i64 at_)) g { s with next := 1, place := 7, letterAt := at_ } ∧ Others g w (((V.setCell ⟨g, 8, none⟩ (.int .i64 1)).setCell ⟨g, 10, none⟩ (.int .i64 7)).setCell ⟨g, 11, none⟩ (.int .i64 at_))) :=
    ⟨((h.setNext 1).setPlace 7).setLetter at_, ((ho.setCell 8 _).setCell 10 _).setCell 11 _⟩
  have n0 : ∀ ty, (Instr.next (.pointer (some ⟨w.heap.size, 0, none⟩)) true ty).run Tryd.prog (w.iter ⟨#[76, 77, 84, 73, 72, 78, 74, 66]⟩ 0) = .ok (.tuple #[.bool true, .int .i64 0, .int .i32 76]) (w.iter ⟨#[76, 77, 84, 73, 72, 78, 74, 66]⟩ 1) := next_letter w 0 (by omega) 76 rfl
  have n1 : ∀ ty, (Instr.next (.pointer (some ⟨w.heap.size, 0, none⟩)) true ty).run Tryd.prog (w.iter ⟨#[76, 77, 84, 73, 72, 78, 74, 66]⟩ 1) = .ok (.tuple #[.bool true, .int .i64 1, .int .i32 77]) (w.iter ⟨#[76, 77, 84, 73, 72, 78, 74, 66]⟩ 2) := next_letter w 1 (by omega) 77 rfl
  have n2 : ∀ ty, (Instr.next (.pointer (some ⟨w.heap.size, 0, none⟩)) true ty).run Tryd.prog (w.iter ⟨#[76, 77, 84, 73, 72, 78, 74, 66]⟩ 2) = .ok (.tuple #[.bool true, .int .i64 2, .int .i32 84]) (w.iter ⟨#[76, 77, 84, 73, 72, 78, 74, 66]⟩ 3) := next_letter w 2 (by omega) 84 rfl
  have n3 : ∀ ty, (Instr.next (.pointer (some ⟨w.heap.size, 0, none⟩)) true ty).run Tryd.prog (w.iter ⟨#[76, 77, 84, 73, 72, 78, 74, 66]⟩ 3) = .ok (.tuple #[.bool true, .int .i64 3, .int .i32 73]) (w.iter ⟨#[76, 77, 84, 73, 72, 78, 74, 66]⟩ 4) := next_letter w 3 (by omega) 73 rfl
  have n4 : ∀ ty, (Instr.next (.pointer (some ⟨w.heap.size, 0, none⟩)) true ty).run Tryd.prog (w.iter ⟨#[76, 77, 84, 73, 72, 78, 74, 66]⟩ 4) = .ok (.tuple #[.bool true, .int .i64 4, .int .i32 72]) (w.iter ⟨#[76, 77, 84, 73, 72, 78, 74, 66]⟩ 5) := next_letter w 4 (by omega) 72 rfl
  have n5 : ∀ ty, (Instr.next (.pointer (some ⟨w.heap.size, 0, none⟩)) true ty).run Tryd.prog (w.iter ⟨#[76, 77, 84, 73, 72, 78, 74, 66]⟩ 5) = .ok (.tuple #[.bool true, .int .i64 5, .int .i32 78]) (w.iter ⟨#[76, 77, 84, 73, 72, 78, 74, 66]⟩ 6) := next_letter w 5 (by omega) 78 rfl
  have n6 : ∀ ty, (Instr.next (.pointer (some ⟨w.heap.size, 0, none⟩)) true ty).run Tryd.prog (w.iter ⟨#[76, 77, 84, 73, 72, 78, 74, 66]⟩ 6) = .ok (.tuple #[.bool true, .int .i64 6, .int .i32 74]) (w.iter ⟨#[76, 77, 84, 73, 72, 78, 74, 66]⟩ 7) := next_letter w 6 (by omega) 74 rfl
  have n7 : ∀ ty, (Instr.next (.pointer (some ⟨w.heap.size, 0, none⟩)) true ty).run Tryd.prog (w.iter ⟨#[76, 77, 84, 73, 72, 78, 74, 66]⟩ 7) = .ok (.tuple #[.bool true, .int .i64 7, .int .i32 66]) V := by rw [hV]; exact next_letter w 7 (by omega) 66 rfl
  clear h h0 ho hV
  go_enter Tryd.func65, Tryd.ntmps65
  go_wp2
  refine wp_loop_rounds 8 ?_
  repeat any_goals (rw [rounds_succ]; go_wp2)
  go_ret2
  exact ⟨rfl, unhide HF⟩
end Go.Proofs.YtccnbnfafhpeaaaDoor

/- (*dim.reader).take: one rune more, where it is no fault. -/
import Derived.Test.YtccnbnfafhpeaaaDoorBegin
import Derived.Test.YtccnbnfafhpeaaaDoorFinish
namespace Go.Proofs.YtccnbnfafhpeaaaDoor
open Go.RowKit

/-- What holds of a reader. -/
structure RdOk (s : Rd) : Prop where
  len : s.prod.length = 8
  right : rightB s.prod = true
  place : s.place < 8
  lo : 0 ≤ s.size
  hi : s.size ≤ 100
theorem placeOf_some {c : Int} {k : Nat} (h : placeOf c = some k) : k < 8 ∧ BeginOK k c ∧ 66 ≤ c ∧ c ≤ 84 := by
  unfold placeOf at h
  obtain ⟨hk, hc, _⟩ := List.findIdx?_eq_some_iff_getElem.1 h
  have hk8 : k < 8 := hk
  have hc' : ((lettersL[k] : Nat) : Int) = c := beq_iff_eq.1 hc
  refine ⟨hk8, ?_⟩
  rcases eight (Nat.le_of_lt hk8) with rfl | rfl | rfl | rfl | rfl | rfl | rfl | rfl | rfl
  · have : c = 76 := hc'.symm
    subst this; exact ⟨begin0, by omega, by omega⟩
  · have : c = 77 := hc'.symm
    subst this; exact ⟨begin1, by omega, by omega⟩
  · have : c = 84 := hc'.symm
    subst this; exact ⟨begin2, by omega, by omega⟩
  · have : c = 73 := hc'.symm
    subst this; exact ⟨begin3, by omega, by omega⟩
  · have : c = 72 := hc'.symm
    subst this; exact ⟨begin4, by omega, by omega⟩
  · have : c = 78 := hc'.symm
    subst this; exact ⟨begin5, by omega, by omega⟩
  · have : c = 74 := hc'.symm
    subst this; exact ⟨begin6, by omega, by omega⟩
  · have : c = 66 := hc'.symm
    subst this; exact ⟨begin7, by omega, by omega⟩
  · omega
def TakeOK (s : Rd) (at_ c : Int) (s' : Rd) : Prop := ∀ (g : Nat) (w : World), OwnR w g s →
    Calls Tryd.prog 45 #[.pointer (some ⟨g, 0, none⟩), .int .i64 at_, .int .i32 c] w fun e w' => e = .returned (.tuple #[.int .i64 0, .int .i64 0]) ∧ OwnR w' g s' ∧ Others g w w'

set_option maxRecDepth 100000 in
set_option maxHeartbeats 1000000 in
theorem take_letter (s : Rd) (at_ c : Int) (k : Nat) (hn : s.next = 0) (hb : BeginOK k c) (h1 : 66 ≤ c) (h2 : c ≤ 84) : TakeOK s at_ c { s with next := 1, place := k, letterAt := at_ } := by
  intro g w h
  have HB := hide (hb g s at_ w h)
  obtain ⟨t8, t9, t10, t11, t12, t13, t14⟩ := h.tailCell
  rw [hn] at t8
  clear h hb hn
  go_enter Tryd.func45, Tryd.ntmps45
  go_wp2_with (go_at_call 65; refine (unhide HB).mono ?_; rintro e w' ⟨rfl, ho, hk⟩)
  go_ret2
  exact ⟨rfl, ho, hk⟩
set_option maxRecDepth 100000 in
set_option maxHeartbeats 1000000 in
theorem take_raise (s : Rd) (at_ : Int) (hn : s.next = 1) (ha : 0 ≤ at_ ∧ at_ ≤ 140737488355328) : TakeOK s at_ 94 { s with next := 2, numberAt := at_ + 1 } := by
  intro g w h
  obtain ⟨t8, t9, t10, t11, t12, t13, t14⟩ := h.tailCell
  have hf := h.frozen
  have HF : Hid (OwnR ((w.setCell ⟨g, 8, none⟩ (.int .i64 2)).setCell ⟨g, 12, none⟩ (.int .i64 (at_ + 1))) g { s with next := 2, numberAt := at_ + 1 }) := (h.setNext 2).setNumber _
  rw [hn] at t8
  clear h hn
  go_enter Tryd.func45, Tryd.ntmps45
  go_wp2
  go_ret2
  exact ⟨rfl, unhide HF, ((Others.refl g w).setCell _ _).setCell _ _⟩
set_option maxRecDepth 100000 in
set_option maxHeartbeats 1000000 in
theorem take_minus (s : Rd) (at_ : Int) (hn : s.next = 2) : TakeOK s at_ 45 { s with next := 3, below := true } := by
  intro g w h
  obtain ⟨t8, t9, t10, t11, t12, t13, t14⟩ := h.tailCell
  have hf := h.frozen
  have HF : Hid (OwnR ((w.setCell ⟨g, 8, none⟩ (.int .i64 3)).setCell ⟨g, 13, none⟩ (.bool true)) g { s with next := 3, below := true }) := (h.setNext 3).setBelow _
  rw [hn] at t8
  clear h hn
  go_enter Tryd.func45, Tryd.ntmps45
  go_wp2
  go_ret2
  exact ⟨rfl, unhide HF, ((Others.refl g w).setCell _ _).setCell _ _⟩
set_option maxRecDepth 100000 in
set_option maxHeartbeats 1000000 in
theorem take_digit (s : Rd) (at_ c : Int) (n : Int) (hn : s.next = n) (hnn : n = 2 ∨ n = 3 ∨ n = 4) (hc : 48 ≤ c ∧ c ≤ 57) (hlo : 0 ≤ s.size) (hhi : s.size ≤ 100) : TakeOK s at_ c { s with next := 4, size := min (s.size * 10 + (c - 48)) 100 } := by
  intro g w h
  obtain ⟨t8, t9, t10, t11, t12, t13, t14⟩ := h.tailCell
  have hf := h.frozen
  have HF : Hid (OwnR ((w.setCell ⟨g, 8, none⟩ (.int .i64 4)).setCell ⟨g, 14, none⟩ (.int .i64 (min (s.size * 10 + (c - 48)) 100))) g { s with next := 4, size := min (s.size * 10 + (c - 48)) 100 }) := (h.setNext 4).setSize _
  rw [hn] at t8
  obtain ⟨hc1, hc2⟩ := hc
  have h45 : (c == 45) = false := by rw [beq_eq_false_iff_ne]; omega
  clear h hn
  by_cases hm : s.size * 10 + (c - 48) ≤ 100
  · rw [Int.min_eq_left hm] at HF ⊢
    rcases hnn with rfl | rfl | rfl
    all_goals
      go_enter Tryd.func45, Tryd.ntmps45
      go_wp2
      go_ret2
      exact ⟨rfl, unhide HF, ((Others.refl g w).setCell _ _).setCell _ _⟩
  · rw [Int.min_eq_right (by omega)] at HF ⊢
    rcases hnn with rfl | rfl | rfl
    all_goals
      go_enter Tryd.func45, Tryd.ntmps45
      go_wp2
      go_ret2
      exact ⟨rfl, unhide HF, ((Others.refl g w).setCell _ _).setCell _ _⟩
set_option maxRecDepth 100000 in
set_option maxHeartbeats 1000000 in
theorem take_end1 (s : Rd) (at_ c z x : Int) (hn : s.next = 1) (hz : z = if (s.below == s.under) = true then 1 else -1) (hpl : s.place < 8) (hx : s.prod[s.place]? = some x) (hxb : -99 ≤ x ∧ x ≤ 99)
    (hr : rightB (s.prod.set s.place (x + z)) = true) (hc : c = 32 ∨ c = 47 ∨ c = -1) : TakeOK s at_ c ⟨s.prod.set s.place (x + z), 0, c == 47, 0, 0, 0, false, 0⟩ := by
  intro g w h
  obtain ⟨t8, t9, t10, t11, t12, t13, t14⟩ := h.tailCell
  have hf := h.frozen
  have HC := hide (finish_ok g { s with size := 1 } at_ c z x (w.setCell ⟨g, 14, none⟩ (.int .i64 1)) (h.setSize 1) (by show (0 : Int) ≤ 1 ∧ (1 : Int) ≤ 99; omega) hz hpl hx hxb hr hc)
  have h94 : (c == 94) = false := by rw [beq_eq_false_iff_ne]; omega
  rw [hn] at t8
  clear h hn hz hr hx
  go_enter Tryd.func45, Tryd.ntmps45
  rcases hc with rfl | rfl | rfl
  all_goals
    go_wp2_with (go_at_call 66; refine (unhide HC).mono ?_; rintro e w' ⟨rfl, ho, hk⟩)
    go_ret2
    exact ⟨rfl, ho, ((Others.refl g w).setCell _ _).trans hk⟩
set_option maxRecDepth 100000 in
set_option maxHeartbeats 1000000 in
theorem take_end4 (s : Rd) (at_ c z x : Int) (hn : s.next = 4) (hsz : 0 ≤ s.size ∧ s.size ≤ 99) (hz : z = if (s.below == s.under) = true then s.size else -s.size) (hpl : s.place < 8) (hx : s.prod[s.place]? = some x) (hxb : -99 ≤ x ∧ x ≤ 99)
    (hr : rightB (s.prod.set s.place (x + z)) = true) (hc : c = 32 ∨ c = 47 ∨ c = -1) : TakeOK s at_ c ⟨s.prod.set s.place (x + z), 0, c == 47, 0, 0, 0, false, 0⟩ := by
  intro g w h
  obtain ⟨t8, t9, t10, t11, t12, t13, t14⟩ := h.tailCell
  have HC := hide (finish_ok g s at_ c z x w h hsz hz hpl hx hxb hr hc)
  rw [hn] at t8
  clear h hn hz hr hx
  go_enter Tryd.func45, Tryd.ntmps45
  rcases hc with rfl | rfl | rfl
  all_goals
    go_wp2_with (go_at_call 66; refine (unhide HC).mono ?_; rintro e w' ⟨rfl, ho, hk⟩)
    go_ret2
    exact ⟨rfl, ho, hk⟩
end Go.Proofs.YtccnbnfafhpeaaaDoor

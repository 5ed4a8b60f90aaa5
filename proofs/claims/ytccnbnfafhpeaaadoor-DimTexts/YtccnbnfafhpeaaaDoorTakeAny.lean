/- (*dim.reader).take, at every rune. -/
import Derived.Test.YtccnbnfafhpeaaaDoorFault
import Derived.Test.YtccnbnfafhpeaaaDoorScan
import Derived.Test.YtccnbnfafhpeaaaDoorBackMath
namespace Go.Proofs.YtccnbnfafhpeaaaDoor
open Go.RowKit

set_option maxRecDepth 100000 in
set_option maxHeartbeats 1000000 in
theorem take_raise2 (s : Rd) (at_ : Int) (hn : s.next = 1) (ha : 0 ≤ at_ ∧ at_ < 9223372036854775807) : TakeOK s at_ 94 { s with next := 2, numberAt := at_ + 1 } := by
  intro g w h
  obtain ⟨t8, t9, t10, t11, t12, t13, t14⟩ := h.tailCell
  have hf := h.frozen
  have HF : Hid (OwnR ((w.setCell ⟨g, 8, none⟩ (.int .i64 2)).setCell ⟨g, 12, none⟩ (.int .i64 (at_ + 1))) g { s with next := 2, numberAt := at_ + 1 }) := (h.setNext 2).setNumber _
  rw [hn] at t8
  clear h hn
  go_enter Tryd.func45, Tryd.ntmps45
  go_wp2
  go_ret2
  exact ⟨rfl, unhide HF, ((Others.refl g w).setCell _ _).setCell _ _⟩
def TakeAny (st : Rd) (at_ c : Int) : TR → Prop
  | .err e pl => TakeErr st at_ c e pl
  | .ok st' => TakeOK st at_ c st'
theorem finish1_any (st : Rd) (hg : Good st) (hn : st.next = 1) (at_ c : Int) (hc : c ≠ 94) : TakeAny st at_ c (finishE { st with size := 1 } at_ c) := by
  obtain ⟨x, hx, hxd, hx1, hx2⟩ := hg.at
  have hp : prodOf { st with size := 1 } = st.prod.set st.place (x + if (st.below == st.under) = true then 1 else -1) := by simp only [prodOf, hxd]
  unfold finishE
  rw [if_neg (show ¬ (99 : Int) < 1 by omega), hp]
  cases hr : rightB (st.prod.set st.place (x + if (st.below == st.under) = true then 1 else -1)) with
  | false =>
    rw [if_pos rfl]
    exact take_fin1_err st at_ c 51 st.letterAt hn hc (finish_out { st with size := 1 } at_ c _ x (by show (0 : Int) ≤ 1 ∧ (1 : Int) ≤ 99; omega) rfl hg.place hx ⟨hx1, hx2⟩ hr)
  | true =>
    rw [if_neg (by simp)]
    by_cases h : c = 32 ∨ c = 47 ∨ c = -1
    · rw [if_pos h]
      exact take_end1 st at_ c _ x hn rfl hg.place hx ⟨hx1, hx2⟩ hr h
    · rw [if_neg h]
      exact take_fin1_err st at_ c 3 at_ hn hc (finish_form { st with size := 1 } at_ c _ x (by show (0 : Int) ≤ 1 ∧ (1 : Int) ≤ 99; omega) rfl hg.place hx ⟨hx1, hx2⟩ hr ⟨fun e => h (.inl e), fun e => h (.inr (.inl e)), fun e => h (.inr (.inr e))⟩)
theorem finish4_any (st : Rd) (hg : Good st) (hn : st.next = 4) (at_ c : Int) (hc : ¬ (48 ≤ c ∧ c ≤ 57)) : TakeAny st at_ c (finishE st at_ c) := by
  obtain ⟨x, hx, hxd, hx1, hx2⟩ := hg.at
  have hp : prodOf st = st.prod.set st.place (x + if (st.below == st.under) = true then st.size else -st.size) := by simp only [prodOf, hxd]
  unfold finishE
  by_cases hs : 99 < st.size
  · rw [if_pos hs]
    exact take_fin4_err st at_ c 51 st.numberAt hn hc (finish_big st at_ c hs)
  · rw [if_neg hs, hp]
    have hsz : 0 ≤ st.size ∧ st.size ≤ 99 := ⟨hg.lo, by omega⟩
    cases hr : rightB (st.prod.set st.place (x + if (st.below == st.under) = true then st.size else -st.size)) with
    | false =>
      rw [if_pos rfl]
      exact take_fin4_err st at_ c 51 st.letterAt hn hc (finish_out st at_ c _ x hsz rfl hg.place hx ⟨hx1, hx2⟩ hr)
    | true =>
      rw [if_neg (by simp)]
      by_cases h : c = 32 ∨ c = 47 ∨ c = -1
      · rw [if_pos h]
        exact take_end4 st at_ c _ x hn hsz rfl hg.place hx ⟨hx1, hx2⟩ hr h
      · rw [if_neg h]
        exact take_fin4_err st at_ c 3 at_ hn hc (finish_form st at_ c _ x hsz rfl hg.place hx ⟨hx1, hx2⟩ hr ⟨fun e => h (.inl e), fun e => h (.inr (.inl e)), fun e => h (.inr (.inr e))⟩)
theorem take_any (st : Rd) (hg : Good st) (at_ c : Int) (ha : c = 94 → 0 ≤ at_ ∧ at_ < 9223372036854775807) : TakeAny st at_ c (takeE st at_ c) := by
  unfold takeE
  by_cases h0 : st.next = 0
  · rw [if_pos h0]
    cases hp : placeOf c with
    | none => exact take_begin_err st at_ c h0 (placeOf_none hp)
    | some k =>
      obtain ⟨hk, rfl⟩ := placeOf_is hp
      obtain ⟨hb, h1, h2⟩ := begin_at k hk
      exact take_letter st at_ _ k h0 hb (by omega) (by omega)
  · rw [if_neg h0]
    by_cases h1 : st.next = 1
    · rw [if_pos h1]
      by_cases hc : c = 94
      · rw [if_pos hc]
        subst hc
        exact take_raise2 st at_ h1 (ha rfl)
      · rw [if_neg hc]
        exact finish1_any st hg h1 at_ c hc
    · rw [if_neg h1]
      by_cases h2 : st.next = 2 ∧ c = 45
      · rw [if_pos h2]
        obtain ⟨h2, rfl⟩ := h2
        exact take_minus st at_ h2
      · rw [if_neg h2]
        have hn : st.next = 2 ∨ st.next = 3 ∨ st.next = 4 := by have := hg.next; omega
        by_cases hd : 48 ≤ c ∧ c ≤ 57
        · rw [if_pos hd]
          exact take_digit st at_ c st.next rfl hn hd hg.lo hg.hi
        · rw [if_neg hd]
          by_cases h4 : st.next = 4
          · rw [if_pos h4]
            exact finish4_any st hg h4 at_ c hd
          · rw [if_neg h4]
            exact take_none st at_ c st.next rfl (by omega) hd
theorem finishE_err {s : Rd} {at_ c e pl : Int} (h : finishE s at_ c = .err e pl) : e = 3 ∨ e = 51 := by
  unfold finishE at h
  split at h
  · injection h with h; omega
  · split at h
    · injection h with h; omega
    · split at h
      · cases h
      · injection h with h; omega
theorem takeE_err {s : Rd} {at_ c e pl : Int} (h : takeE s at_ c = .err e pl) : e = 3 ∨ e = 51 := by
  unfold takeE at h
  split at h
  · split at h
    · cases h
    · injection h with h; omega
  · split at h
    · split at h
      · cases h
      · exact finishE_err h
    · split at h
      · cases h
      · split at h
        · cases h
        · split at h
          · exact finishE_err h
          · injection h with h; omega
end Go.Proofs.YtccnbnfafhpeaaaDoor

/- (nat) nat.tell and nat.readTwo: what is told, and what is read. -/
import Derived.Test.YtoinadnpdbaamaaGreatDoorText
import Derived.Test.YtoinadnpdbaamaaGreatDoorTb
import Derived.Deep.RegionWith
namespace Go.Proofs.YtoinadnpdbaamaaGreatDoor
open Go.RowKit

set_option maxRecDepth 100000 in
set_option maxHeartbeats 400000 in
theorem tell_any (v : Value) (n k : Nat) (w : World) (h : IsBig w v n) (hk : k ≤ 1000000) (hn : n < 1000000000 ^ k) (htab : Tab w) :
    Calls Tryz.prog 149 #[v] w fun e w' => e = .returned (.tuple #[.string ⟨(toldText n).toArray⟩, .int .i64 (toldErr n)]) ∧ Below w.heap.size w w' := by
  have H := hide h
  have HT := hide htab
  have HN := hide hn
  obtain ⟨a, l, cap, rfl, hl, hr, hnm, hv⟩ := h.form
  clear hn h htab hr hnm hv hl
  obtain ⟨len, hlen⟩ : ∃ len, len = l.length := ⟨_, rfl⟩
  rw [← hlen] at H ⊢
  clear hlen
  obtain ⟨q, hq⟩ : ∃ q, q = Lib.nDigits n := ⟨_, rfl⟩
  have hLen := fun W hW => len_any (.agg #[.slice a len cap]) n k W hW hk (unhide HN)
  rw [← hq] at hLen
  have HL := hide hLen
  clear hLen
  by_cases h6 : q ≤ 600
  · have e1 : toldText n = Lib.decDigits n := if_pos ((len600 n).1 (hq ▸ h6))
    have e2 : toldErr n = 0 := if_pos ((len600 n).1 (hq ▸ h6))
    rw [e1, e2]
    clear e1 e2 hq
    go_enter Tryz.func149, Tryz.ntmps149
    go_wp2_with (first
      | (go_at_call 87; refine (unhide HL _ ((unhide H).later ((Below.refl _ _).alloc (Nat.le_refl _) _))).mono ?_; rintro e w2 ⟨rfl, hb2⟩; obtain ⟨hcb, _⟩ := box_later hb2 (g := w.heap.size) (x := .slice a len cap) (by simp) (by simp) (by simp); have hb3 := ((Below.refl w.heap.size w).alloc (Nat.le_refl _) (.cells #[.slice a len cap] 72)).trans (hb2.mono (by simp)); clear hb2)
      | (go_at_call 90; refine (text_any _ n k _ ((unhide H).later hb3) hk (unhide HN) ((unhide HT).later hb3)).mono ?_; rintro e w4 ⟨rfl, hb4⟩; have hb5 := hb3.trans (hb4.mono hb3.size); clear hb4))
    go_ret2
    exact ⟨rfl, hb5⟩
  · have e1 : toldText n = [] := if_neg (fun hh => h6 (hq ▸ (len600 n).2 hh))
    have e2 : toldErr n = 7 := if_neg (fun hh => h6 (hq ▸ (len600 n).2 hh))
    rw [e1, e2]
    clear e1 e2 hq
    go_enter Tryz.func149, Tryz.ntmps149
    go_wp2_with (first
      | (go_at_call 87; refine (unhide HL _ ((unhide H).later ((Below.refl _ _).alloc (Nat.le_refl _) _))).mono ?_; rintro e w2 ⟨rfl, hb2⟩; have hb3 := ((Below.refl w.heap.size w).alloc (Nat.le_refl _) (.cells #[.slice a len cap] 72)).trans (hb2.mono (by simp)); clear hb2))
    go_ret2
    exact ⟨rfl, hb3⟩

end Go.Proofs.YtoinadnpdbaamaaGreatDoor

/- The law's kept: what was lent is as it was. -/
import Derived.Test.YtccnbnfafhpeaaaDoorLent
import Derived.Test.YtccnbnfafhpeaaaDoorEq
namespace Go.Proofs.YtccnbnfafhpeaaaDoor
open Go.RowKit

theorem LentD.later {w w' : World} {v : Value} {n : Nat} {X : Nat → Nat → Int} (h : LentD w v n X) (hb : Below w.heap.size w w') : LentD w' v n X := by
  obtain ⟨g, cap, rfl, h1, h2, hd, hm⟩ := h
  exact ⟨g, cap, rfl, h1, h2, hd.later hb, fun j u hu => (hb.cell (p := ⟨g, n * 8 + j, none⟩) hd.1).trans (hm j u hu)⟩
theorem Dims.eight {w : World} {b o n : Nat} {X : Nat → Nat → Int} (h : Dims w b o n X) (k : Nat) (hk : k < n) : w.cell? ⟨b, o + k * 8, none⟩ = some (.int .i64 (X k 0)) ∧ w.cell? ⟨b, o + k * 8 + 1, none⟩ = some (.int .i64 (X k 1)) ∧ w.cell? ⟨b, o + k * 8 + 2, none⟩ = some (.int .i64 (X k 2)) ∧ w.cell? ⟨b, o + k * 8 + 3, none⟩ = some (.int .i64 (X k 3)) ∧ w.cell? ⟨b, o + k * 8 + 4, none⟩ = some (.int .i64 (X k 4)) ∧ w.cell? ⟨b, o + k * 8 + 5, none⟩ = some (.int .i64 (X k 5)) ∧ w.cell? ⟨b, o + k * 8 + 6, none⟩ = some (.int .i64 (X k 6)) ∧ w.cell? ⟨b, o + k * 8 + 7, none⟩ = some (.int .i64 (X k 7)) := by
  have h := h.2 k hk
  exact ⟨h 0 (by omega), h 1 (by omega), h 2 (by omega), h 3 (by omega), h 4 (by omega), h 5 (by omega), h 6 (by omega), h 7 (by omega)⟩
set_option maxRecDepth 100000 in
set_option maxHeartbeats 1000000 in
theorem kept_any (v : Value) (a : Option Addr) (n cap : Nat) (X : Nat → Nat → Int) (w : World) (hmax : n ≤ 2199023255500) (hv : LentD w v n X) (ha : InD w a n X) :
    Calls Tryd.prog 12 #[v, .slice a n cap] w fun e w' => e = .returned (.bool true) ∧ Below w.heap.size w w' := by
  have HV := hide hv
  obtain ⟨g, cap2, rfl, h1, h2, _, _⟩ := hv
  have HA := hide ha
  have heq0 := eqIn24 0 0 0 0 0 0 0 4321 0 0 0 0 0 0 0 4321
  rw [eqB_self] at heq0
  clear ha
  go_enter Tryd.func12, Tryd.ntmps12
  go_wp2
  go_loopw [5] (fun t wr => ∃ k : Nat, k ≤ n ∧ t = .int .i64 (k : Int) ∧ Hid (Below w.heap.size w wr)) (fun t _ => n - (intOf t).toNat)
  case atStart => exact ⟨0, Nat.zero_le _, rfl, Below.refl _ _⟩
  case round =>
    obtain ⟨k, hk, rfl, HB⟩ := hrel
    by_cases hkn : k < n
    · obtain ⟨g', cap', e, _, _, hd1, _⟩ := (unhide HV).later (unhide HB)
      cases e
      obtain ⟨b2, o2, e2, hd2⟩ := ((unhide HA).later (unhide HB)) (by omega)
      cases e2
      obtain ⟨p0, p1, p2, p3, p4, p5, p6, p7⟩ := hd1.eight k hkn
      obtain ⟨q0, q1, q2, q3, q4, q5, q6, q7⟩ := hd2.eight k hkn
      simp only [Nat.zero_add] at p0 p1 p2 p3 p4 p5 p6 p7
      have heq := eqIn24 (X k 0) (X k 1) (X k 2) (X k 3) (X k 4) (X k 5) (X k 6) (X k 7) (X k 0) (X k 1) (X k 2) (X k 3) (X k 4) (X k 5) (X k 6) (X k 7)
      rw [eqB_self] at heq
      clear hd1 hd2
      go_upto_region 4 with fail
      go_region
      all_goals go_wp2
      all_goals (go_roundw; (case rel => exact ⟨k + 1, by omega, by go_num, (unhide HB).drew⟩); (case measure => simp [intOf]; omega))
    · obtain rfl : k = n := by omega
      obtain ⟨g', cap', e, _, _, _, hm⟩ := (unhide HV).later (unhide HB)
      cases e
      obtain ⟨m0, m1, m2, m3, m4, m5, m6, m7⟩ : wr.cell? ⟨g, k * 8, none⟩ = some (.int .i64 0) ∧ wr.cell? ⟨g, k * 8 + 1, none⟩ = some (.int .i64 0) ∧ wr.cell? ⟨g, k * 8 + 2, none⟩ = some (.int .i64 0) ∧ wr.cell? ⟨g, k * 8 + 3, none⟩ = some (.int .i64 0) ∧ wr.cell? ⟨g, k * 8 + 4, none⟩ = some (.int .i64 0) ∧ wr.cell? ⟨g, k * 8 + 5, none⟩ = some (.int .i64 0) ∧ wr.cell? ⟨g, k * 8 + 6, none⟩ = some (.int .i64 0) ∧ wr.cell? ⟨g, k * 8 + 7, none⟩ = some (.int .i64 4321) := ⟨hm 0 _ rfl, hm 1 _ rfl, hm 2 _ rfl, hm 3 _ rfl, hm 4 _ rfl, hm 5 _ rfl, hm 6 _ rfl, hm 7 _ rfl⟩
      clear hm
      go_wp2
      go_ret
      exact ⟨rfl, unhide HB⟩
end Go.Proofs.YtccnbnfafhpeaaaDoor

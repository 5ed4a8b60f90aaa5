/- The document's own Kind and Of. -/
import Derived.Test.YtccnbnfafhpeaaaDoorRefKinds
import Derived.Test.YtccnbnfafhpeaaaDoorKind
import Derived.Deep.QuietTactic
import Derived.BigQuiet
import Derived.Deep.Cut
namespace Go.Proofs.YtccnbnfafhpeaaaDoor
open Go.RowKit

theorem Own8.drewN {w : World} {g n : Nat} {l : List Int} (h : Own8 w g l) : Own8 (w.drewN n) g l := by unfold Own8 at h ⊢; simpa using h
theorem Tab30.drewN {w : World} {g t n : Nat} (h : Tab30 w g t) : Tab30 (w.drewN n) g t := by unfold Tab30 at h ⊢; simpa using h

set_option maxRecDepth 100000 in
set_option maxHeartbeats 1000000 in
theorem rkind_any (x0 x1 x2 x3 x4 x5 x6 x7 : Int) (w : World) : Calls Tryd.prog 27 #[.agg #[.int .i64 x0, .int .i64 x1, .int .i64 x2, .int .i64 x3, .int .i64 x4, .int .i64 x5, .int .i64 x6, .int .i64 x7]] w fun e w' => e = .returned (.tuple #[.string (kindName (kindOf [x0, x1, x2, x3, x4, x5, x6, x7])), .bool (kindOf [x0, x1, x2, x3, x4, x5, x6, x7]).isSome]) ∧ Below w.heap.size w w' := by
  have HEQ := hide (fun e0 e1 e2 e3 e4 e5 e6 e7 => eqIn24 e0 e1 e2 e3 e4 e5 e6 e7 x0 x1 x2 x3 x4 x5 x6 x7)
  generalize hl : [x0, x1, x2, x3, x4, x5, x6, x7] = l at HEQ
  have HL := hide hl
  clear hl
  go_enter Tryd.func27, Tryd.ntmps27
  go_wp2_with (go_at_call 48; refine (rkinds_any _).mono ?_; rintro e w' ⟨rfl, rfl⟩)
  go_loopw [5] (fun i wr => ∃ k : Nat, i = .int .i64 k ∧ k ≤ 30 ∧ Hid ((kindTab.take k).find? (fun x => eqB x.2 l) = none) ∧ Hid (Own8 wr w.heap.size l) ∧ Hid (Tab30 wr (w.heap.size + 1) 72) ∧ Hid (Below w.heap.size w wr)) (fun i _ => 30 - (intOf i).toNat)
  case atStart => exact ⟨0, rfl, Nat.zero_le _, rfl, (by rw [← unhide HL]; exact (Own8.new w [x0, x1, x2, x3, x4, x5, x6, x7]).alloc _), (by have h := Tab30.new (w.alloc (.cells #[.int .i64 x0, .int .i64 x1, .int .i64 x2, .int .i64 x3, .int .i64 x4, .int .i64 x5, .int .i64 x6, .int .i64 x7] 24)) 72; rw [size_alloc] at h; exact h), ((Below.refl _ _).alloc (Nat.le_refl _) _).alloc (by simp) _⟩
  case round =>
    obtain ⟨k, rfl, hk, HN, HO, HK, HB⟩ := hrel
    have hsz := (unhide HK).lt
    have hsz0 : w.heap.size < wr.heap.size := by omega
    by_cases hlt : k < 30
    · obtain ⟨s, e0, e1, e2, e3, e4, e5, e6, e7, hrow, hval⟩ := kind_shape k hlt
      obtain ⟨t0, t1, t2, t3, t4, t5, t6, t7, t8⟩ := (unhide HK).cells k s e0 e1 e2 e3 e4 e5 e6 e7 hrow hval
      have HROW := hide hrow
      clear hval hrow
      obtain ⟨c0, c1, c2, c3, c4, c5, c6, c7⟩ : wr.cell? ⟨w.heap.size, 0, none⟩ = some (.int .i64 x0) ∧ wr.cell? ⟨w.heap.size, 1, none⟩ = some (.int .i64 x1) ∧ wr.cell? ⟨w.heap.size, 2, none⟩ = some (.int .i64 x2) ∧ wr.cell? ⟨w.heap.size, 3, none⟩ = some (.int .i64 x3) ∧ wr.cell? ⟨w.heap.size, 4, none⟩ = some (.int .i64 x4) ∧ wr.cell? ⟨w.heap.size, 5, none⟩ = some (.int .i64 x5) ∧ wr.cell? ⟨w.heap.size, 6, none⟩ = some (.int .i64 x6) ∧ wr.cell? ⟨w.heap.size, 7, none⟩ = some (.int .i64 x7) := by
        have h := (unhide HO).cell
        rw [← unhide HL] at h
        exact ⟨h 0 _ rfl, h 1 _ rfl, h 2 _ rfl, h 3 _ rfl, h 4 _ rfl, h 5 _ rfl, h 6 _ rfl, h 7 _ rfl⟩
      have heq := unhide HEQ e0 e1 e2 e3 e4 e5 e6 e7
      cases hq : eqB [e0, e1, e2, e3, e4, e5, e6, e7] l with
      | true =>
        have HF : Hid (kindOf l = some (s.data.toList, [e0, e1, e2, e3, e4, e5, e6, e7])) := find_take (fun x : List UInt8 × List Int => eqB x.2 l) kindTab k _ (unhide HN) (unhide HROW) hq
        rw [hq] at heq
        clear hq
        go_upto_region 5 with fail
        go_quiet (fail)
        go_wp2
        go_ret2
        exact ⟨by rw [unhide HF]; rfl, below_drewN (unhide HB) _⟩
      | false =>
        have HN2 := hide (find_step (fun x : List UInt8 × List Int => eqB x.2 l) kindTab k _ (unhide HN) (unhide HROW) hq)
        rw [hq] at heq
        clear hq
        go_upto_region 5 with fail
        go_quiet (fail)
        go_wp2
        go_roundw
        case rel => exact ⟨k + 1, by go_num, by omega, HN2, (unhide HO).drewN, (unhide HK).drewN, below_drewN (unhide HB) _⟩
        case measure => simp [intOf]; omega
    · obtain rfl : k = 30 := by omega
      have HF : Hid (kindOf l = none) := unhide HN
      go_wp2
      go_ret2
      exact ⟨by rw [unhide HF]; rfl, unhide HB⟩

set_option maxRecDepth 100000 in
set_option maxHeartbeats 1000000 in
theorem rof_any (t : ByteArray) (w : World) : Calls Tryd.prog 29 #[.string t] w fun e w' => e = .returned (.tuple #[.agg (cells8 (kindDim (kindNamed t.data.toList))), .bool (kindNamed t.data.toList).isSome]) ∧ Below w.heap.size w w' := by
  go_enter Tryd.func29, Tryd.ntmps29
  go_wp2_with (go_at_call 48; refine (rkinds_any _).mono ?_; rintro e w' ⟨rfl, rfl⟩)
  go_loopw [5] (fun i wr => ∃ k : Nat, i = .int .i64 k ∧ k ≤ 30 ∧ Hid ((kindTab.take k).find? (fun x => x.1 == t.data.toList) = none) ∧ Hid (Own8 wr w.heap.size [0, 0, 0, 0, 0, 0, 0, 0]) ∧ Hid (Tab30 wr (w.heap.size + 1) 72) ∧ Hid (Below w.heap.size w wr)) (fun i _ => 30 - (intOf i).toNat)
  case atStart => exact ⟨0, rfl, Nat.zero_le _, rfl, (Own8.new w [0, 0, 0, 0, 0, 0, 0, 0]).alloc _, (by have h := Tab30.new (w.alloc (.cells #[.int .i64 0, .int .i64 0, .int .i64 0, .int .i64 0, .int .i64 0, .int .i64 0, .int .i64 0, .int .i64 0] 24)) 72; rw [size_alloc] at h; exact h), ((Below.refl _ _).alloc (Nat.le_refl _) _).alloc (by simp) _⟩
  case round =>
    obtain ⟨k, rfl, hk, HN, HO, HK, HB⟩ := hrel
    have hsz := (unhide HK).lt
    have hsz0 : w.heap.size < wr.heap.size := by omega
    by_cases hlt : k < 30
    · obtain ⟨s, e0, e1, e2, e3, e4, e5, e6, e7, hrow, hval⟩ := kind_shape k hlt
      obtain ⟨t0, t1, t2, t3, t4, t5, t6, t7, t8⟩ := (unhide HK).cells k s e0 e1 e2 e3 e4 e5 e6 e7 hrow hval
      have HROW := hide hrow
      clear hval hrow
      cases hq : (s.data.toList == t.data.toList) with
      | true =>
        have HF : Hid (kindNamed t.data.toList = some (s.data.toList, [e0, e1, e2, e3, e4, e5, e6, e7])) := find_take (fun x : List UInt8 × List Int => x.1 == t.data.toList) kindTab k _ (unhide HN) (unhide HROW) hq
        have hq' : (s.toList == t.toList) = true := by rw [ByteArray.toList_eq, ByteArray.toList_eq]; exact hq
        clear hq
        go_wp2_with (refine store8 rfl (.tmp 2) (.tmp 24) rfl w.heap.size _ [e0, e1, e2, e3, e4, e5, e6, e7] rfl rfl rfl rfl (unhide HO) ?_)
        refine bodyPost_ret (v := .tuple #[.agg (cells8 [e0, e1, e2, e3, e4, e5, e6, e7]), .bool true]) (res2 Tryd.results29 _ _ w.heap.size _ rfl rfl ((unhide HO).setRow _)) rfl ⟨?_, ?_⟩
        · rw [unhide HF]; rfl
        · exact below_setRow (unhide HB) (Nat.le_refl _) _
      | false =>
        have HN2 := hide (find_step (fun x : List UInt8 × List Int => x.1 == t.data.toList) kindTab k _ (unhide HN) (unhide HROW) hq)
        have hq' : (s.toList == t.toList) = false := by rw [ByteArray.toList_eq, ByteArray.toList_eq]; exact hq
        clear hq
        go_wp2
        go_roundw
        case rel => exact ⟨k + 1, by go_num, by omega, HN2, HO, HK, HB⟩
        case measure => simp [intOf]; omega
    · obtain rfl : k = 30 := by omega
      have HF : Hid (kindNamed t.data.toList = none) := unhide HN
      go_wp2_with (refine store8 rfl (.tmp 2) (.tmp 25) rfl w.heap.size _ [0, 0, 0, 0, 0, 0, 0, 0] rfl rfl rfl rfl (unhide HO) ?_)
      refine bodyPost_ret (v := .tuple #[.agg (cells8 [0, 0, 0, 0, 0, 0, 0, 0]), .bool false]) (res2 Tryd.results29 _ _ w.heap.size _ rfl rfl ((unhide HO).setRow _)) rfl ⟨?_, ?_⟩
      · rw [unhide HF]; rfl
      · exact below_setRow (unhide HB) (Nat.le_refl _) _
end Go.Proofs.YtccnbnfafhpeaaaDoor

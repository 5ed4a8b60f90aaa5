/- dim.Mul: of any number of dimensions. -/
import Derived.Test.YtccnbnfafhpeaaaDoorMem
namespace Go.Proofs.YtccnbnfafhpeaaaDoor
open Go.RowKit

set_option maxRecDepth 100000 in
set_option maxHeartbeats 1000000 in
theorem mul_any (b o n c : Nat) (X : Nat → Nat → Int) (w : World) (hn : n ≤ 9223372036854775807) (hd : Dims w b o n X) : Calls Tryd.prog 10 #[.slice (some ⟨b, o, none⟩) n c] w fun e w' => e = .returned (.tuple #[.agg #[.int .i64 (sel (allB X n && rightB (sumL X n)) (sumD X n 0)), .int .i64 (sel (allB X n && rightB (sumL X n)) (sumD X n 1)), .int .i64 (sel (allB X n && rightB (sumL X n)) (sumD X n 2)), .int .i64 (sel (allB X n && rightB (sumL X n)) (sumD X n 3)), .int .i64 (sel (allB X n && rightB (sumL X n)) (sumD X n 4)), .int .i64 (sel (allB X n && rightB (sumL X n)) (sumD X n 5)), .int .i64 (sel (allB X n && rightB (sumL X n)) (sumD X n 6)), .int .i64 (sel (allB X n && rightB (sumL X n)) (sumD X n 7))], .int .i64 (mulErr X n)]) ∧ Below w.heap.size w w' := by
  have HD := hide hd
  have hbw := hd.1
  clear hd
  go_enter Tryd.func10, Tryd.ntmps10
  go_wp2_with fail
  go_loopw [12] (fun i wr => ∃ k : Nat, i = .int .i64 k ∧ k ≤ n ∧ Hid (allB X k = true) ∧ Hid (Own8 wr w.heap.size [0, 0, 0, 0, 0, 0, 0, 0]) ∧ Hid (Own8 wr (w.heap.size + 1) (sumL X k)) ∧ Hid (Below w.heap.size w wr)) (fun i _ => n - (intOf i).toNat)
  case atStart => exact ⟨0, rfl, Nat.zero_le _, rfl, (Own8.new w [0, 0, 0, 0, 0, 0, 0, 0]).alloc _, (by have h := Own8.new (w.alloc (.cells #[.int .i64 0, .int .i64 0, .int .i64 0, .int .i64 0, .int .i64 0, .int .i64 0, .int .i64 0, .int .i64 0] 24)) [0, 0, 0, 0, 0, 0, 0, 0]; rw [size_alloc] at h; exact h), ((Below.refl _ _).alloc (Nat.le_refl _) _).alloc (by simp) _⟩
  case round =>
    obtain ⟨k, rfl, hk, HA, HR, HP, HB⟩ := hrel
    by_cases hlt : k < n
    · obtain ⟨c0, c1, c2, c3, c4, c5, c6, c7⟩ : wr.cell? ⟨b, o + k * 8, none⟩ = some (.int .i64 (X k 0)) ∧ wr.cell? ⟨b, o + k * 8 + 1, none⟩ = some (.int .i64 (X k 1)) ∧ wr.cell? ⟨b, o + k * 8 + 2, none⟩ = some (.int .i64 (X k 2)) ∧ wr.cell? ⟨b, o + k * 8 + 3, none⟩ = some (.int .i64 (X k 3)) ∧ wr.cell? ⟨b, o + k * 8 + 4, none⟩ = some (.int .i64 (X k 4)) ∧ wr.cell? ⟨b, o + k * 8 + 5, none⟩ = some (.int .i64 (X k 5)) ∧ wr.cell? ⟨b, o + k * 8 + 6, none⟩ = some (.int .i64 (X k 6)) ∧ wr.cell? ⟨b, o + k * 8 + 7, none⟩ = some (.int .i64 (X k 7)) := by
        have h := ((unhide HD).later (unhide HB)).2 k hlt
        exact ⟨h 0 (by omega), h 1 (by omega), h 2 (by omega), h 3 (by omega), h 4 (by omega), h 5 (by omega), h 6 (by omega), h 7 (by omega)⟩
      have HC := hide (right_any (X k 0) (X k 1) (X k 2) (X k 3) (X k 4) (X k 5) (X k 6) (X k 7))
      have hsz := (unhide HP).lt
      have hsz0 : w.heap.size < wr.heap.size := by omega
      cases hr : rightB [X k 0, X k 1, X k 2, X k 3, X k 4, X k 5, X k 6, X k 7] with
      | false =>
        rw [hr] at HC
        have HF := hide (allB_false X k n hlt hr)
        clear hr
        go_wp2_with (first
          | (go_at_call 13; refine (unhide HC _).mono ?_; rintro e w' ⟨rfl, rfl⟩)
          | (refine store8 rfl (.tmp 2) (.tmp 19) rfl w.heap.size _ [0, 0, 0, 0, 0, 0, 0, 0] rfl rfl rfl rfl (((unhide HR).alloc _).alloc _) ?_))
        refine bodyPost_ret (v := .tuple #[.agg (cells8 [0, 0, 0, 0, 0, 0, 0, 0]), .int .i64 1]) (res2 Tryd.results10 _ _ w.heap.size _ rfl rfl ((((unhide HR).alloc _).alloc _).setRow _)) rfl ⟨?_, ?_⟩
        · unfold mulErr; rw [unhide HF]; rfl
        · exact below_setRow (((unhide HB).alloc (by omega) _).alloc (by simp; omega) _) (Nat.le_refl _) _
      | true =>
        rw [hr] at HC
        have HA' : Hid (allB X (k + 1) = true) := by show allB X (k + 1) = true; unfold allB; rw [unhide HA]; exact hr
        clear hr
        go_wp2_with (go_at_call 13; refine (unhide HC _).mono ?_; rintro e w' ⟨rfl, rfl⟩)
        go_loopw [21] (fun i w2 => ∃ j : Nat, i = .int .i64 j ∧ j ≤ 8 ∧ Hid (Own8 w2 (w.heap.size + 1) (mixL X k j)) ∧ Hid (Own8 w2 w.heap.size [0, 0, 0, 0, 0, 0, 0, 0]) ∧ Hid (Below w.heap.size w w2)) (fun i _ => 8 - (intOf i).toNat)
        case atStart => exact ⟨0, rfl, Nat.zero_le _, ((unhide HP).alloc _).alloc _, ((unhide HR).alloc _).alloc _, ((unhide HB).alloc (by omega) _).alloc (by simp; omega) _⟩
        case round =>
          obtain ⟨j, rfl, hj, HP2, HR2, HB2⟩ := hrel
          clear c0 c1 c2 c3 c4 c5 c6 c7 HC
          by_cases hj8 : j < 8
          · have hix := fun w => idxN (X k 0) (X k 1) (X k 2) (X k 3) (X k 4) (X k 5) (X k 6) (X k 7) j (X k j) (dimAt_get X k j hj8) w
            have hcj := (unhide HP2).cell j _ (mixL_get X k j hj8)
            have hff := (unhide HP2).frozen j
            have HP3 : Hid (Own8 (wr.setCell ⟨w.heap.size + 1, j, none⟩ (.int .i64 (wrap64 (sumD X k j + X k j)))) (w.heap.size + 1) (mixL X k (j + 1))) := by
              have h := (unhide HP2).set j (wrap64 (sumD X k j + X k j))
              rw [mixL_set X k j hj8] at h
              exact h
            have HR3 : Hid (Own8 (wr.setCell ⟨w.heap.size + 1, j, none⟩ (.int .i64 (wrap64 (sumD X k j + X k j)))) w.heap.size [0, 0, 0, 0, 0, 0, 0, 0]) := (unhide HR2).other (by simp) _
            have HB3 : Hid (Below w.heap.size w (wr.setCell ⟨w.heap.size + 1, j, none⟩ (.int .i64 (wrap64 (sumD X k j + X k j))))) := (unhide HB2).setCell (by simp) _
            go_wp2
            go_roundw
            case rel => exact ⟨j + 1, by go_num, by omega, HP3, HR3, HB3⟩
            case measure => simp [intOf]; omega
          · obtain rfl : j = 8 := by omega
            have HP3 : Hid (Own8 wr (w.heap.size + 1) (sumL X (k + 1))) := unhide HP2
            go_wp2
            go_roundw
            case rel => exact ⟨k + 1, by go_num, by omega, HA', HR2, HP3, HB2⟩
            case measure => simp [intOf]; omega
    · obtain rfl : k = n := by omega
      obtain ⟨p0, p1, p2, p3, p4, p5, p6, p7⟩ : wr.cell? ⟨w.heap.size + 1, 0, none⟩ = some (.int .i64 (sumD X k 0)) ∧ wr.cell? ⟨w.heap.size + 1, 1, none⟩ = some (.int .i64 (sumD X k 1)) ∧ wr.cell? ⟨w.heap.size + 1, 2, none⟩ = some (.int .i64 (sumD X k 2)) ∧ wr.cell? ⟨w.heap.size + 1, 3, none⟩ = some (.int .i64 (sumD X k 3)) ∧ wr.cell? ⟨w.heap.size + 1, 4, none⟩ = some (.int .i64 (sumD X k 4)) ∧ wr.cell? ⟨w.heap.size + 1, 5, none⟩ = some (.int .i64 (sumD X k 5)) ∧ wr.cell? ⟨w.heap.size + 1, 6, none⟩ = some (.int .i64 (sumD X k 6)) ∧ wr.cell? ⟨w.heap.size + 1, 7, none⟩ = some (.int .i64 (sumD X k 7)) := by
        have h := (unhide HP).cell
        exact ⟨h 0 _ rfl, h 1 _ rfl, h 2 _ rfl, h 3 _ rfl, h 4 _ rfl, h 5 _ rfl, h 6 _ rfl, h 7 _ rfl⟩
      have hsz := (unhide HP).lt
      have HT := hide (told_any (sumD X k 0) (sumD X k 1) (sumD X k 2) (sumD X k 3) (sumD X k 4) (sumD X k 5) (sumD X k 6) (sumD X k 7))
      have HM : Hid (mulErr X k = errOf (rightB [sumD X k 0, sumD X k 1, sumD X k 2, sumD X k 3, sumD X k 4, sumD X k 5, sumD X k 6, sumD X k 7]) 51) := by show mulErr X k = _; unfold mulErr; rw [unhide HA]; rfl
      have HS : Hid ((allB X k && rightB (sumL X k)) = rightB [sumD X k 0, sumD X k 1, sumD X k 2, sumD X k 3, sumD X k 4, sumD X k 5, sumD X k 6, sumD X k 7]) := by show (allB X k && _) = _; rw [unhide HA]; rfl
      generalize rightB [sumD X k 0, sumD X k 1, sumD X k 2, sumD X k 3, sumD X k 4, sumD X k 5, sumD X k 6, sumD X k 7] = rq at HT HM HS
      go_wp2_with (first
          | (go_at_call 39; refine (unhide HT _).mono ?_; rintro e w' ⟨rfl, rfl⟩)
          | (refine store8 rfl (.tmp 2) (.tmp 35) rfl w.heap.size _ [sel rq (sumD X k 0), sel rq (sumD X k 1), sel rq (sumD X k 2), sel rq (sumD X k 3), sel rq (sumD X k 4), sel rq (sumD X k 5), sel rq (sumD X k 6), sel rq (sumD X k 7)] rfl rfl rfl rfl ((((unhide HR).alloc _).alloc _).alloc _) ?_))
      refine bodyPost_ret (v := .tuple #[.agg (cells8 [sel rq (sumD X k 0), sel rq (sumD X k 1), sel rq (sumD X k 2), sel rq (sumD X k 3), sel rq (sumD X k 4), sel rq (sumD X k 5), sel rq (sumD X k 6), sel rq (sumD X k 7)]), .int .i64 (errOf rq 51)]) (res2 Tryd.results10 _ _ w.heap.size _ rfl rfl (((((unhide HR).alloc _).alloc _).alloc _).setRow _)) rfl ⟨?_, ?_⟩
      · rw [unhide HM, unhide HS]; rfl
      · exact below_setRow ((((unhide HB).alloc (by omega) _).alloc (by simp; omega) _).alloc (by simp; omega) _) (Nat.le_refl _) _
end Go.Proofs.YtccnbnfafhpeaaaDoor

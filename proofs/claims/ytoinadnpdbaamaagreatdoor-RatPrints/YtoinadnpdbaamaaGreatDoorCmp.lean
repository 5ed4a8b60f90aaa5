/- (Big).Cmp and nat.Cmp. -/
import Derived.Test.YtoinadnpdbaamaaGreatDoorSub
import Derived.Test.YtoinadnpdbaamaaGreatDoorPlain
import Derived.Deep.QuietTactic
import Derived.BigQuiet
namespace Cub
theorem lval_split (B : Nat) (a : List Nat) (j : Nat) (h : j < a.length) : lval B a = lval B (a.take j) + B ^ j * (a[j] + B * lval B (a.drop (j + 1))) := by
  have e := lval_append B (a.take j) (a.drop j)
  rw [List.take_append_drop, List.length_take, Nat.min_eq_left (by omega), List.drop_eq_getElem_cons h] at e
  exact e
theorem cmp_at {B : Nat} {a b : List Nat} (ha : limbs B a) (hl : a.length = b.length) (j : Nat) (h : j < a.length) (hd : a.drop (j + 1) = b.drop (j + 1)) (hlt : a[j] < b[j]) : lval B a < lval B b := by
  rw [lval_split B a j h, lval_split B b j (by omega), hd]
  have h1 : lval B (a.take j) < B ^ j := by
    have := lval_lt (B := B) (l := a.take j) (fun z hz => ha z (List.mem_of_mem_take hz))
    rwa [List.length_take, Nat.min_eq_left (by omega)] at this
  have h2 : B ^ j * (a[j] + B * lval B (b.drop (j + 1)) + 1) ≤ B ^ j * (b[j] + B * lval B (b.drop (j + 1))) := Nat.mul_le_mul_left _ (by omega)
  rw [Nat.mul_add (B ^ j) (a[j] + B * lval B (b.drop (j + 1))) 1] at h2
  omega
theorem cmp_len {a b : List Nat} (ha : limbs 1000000000 a) (hb : normal 1000000000 b) (h : a.length < b.length) : lval 1000000000 a < lval 1000000000 b := by
  have h1 := lval_lt ha
  have hne : b ≠ [] := by intro e; rw [e] at h; simp at h
  have h2 := normal_ge hb hne
  have h3 : 1000000000 ^ a.length ≤ 1000000000 ^ (b.length - 1) := Nat.pow_le_pow_right (by decide) (by omega)
  omega
theorem cmpN_lt {m n : Nat} (h : m < n) : cmpN m n = -1 := if_pos h
theorem cmpN_gt {m n : Nat} (h : n < m) : cmpN m n = 1 := by unfold cmpN; rw [if_neg (by omega), if_pos h]
theorem cmpN_eq (m : Nat) : cmpN m m = 0 := by unfold cmpN; rw [if_neg (by omega), if_neg (by omega)]
end Cub
namespace Go.Proofs.YtoinadnpdbaamaaGreatDoor
open Go.RowKit

theorem isNaN64_any (a : Int) (w : World) : Calls Tryz.prog 205 #[.int .u64 a] w fun e w' => e = .returned (.bool false) ∧ w' = w := by
  go_enter Tryz.func205, Tryz.ntmps205
  go_wp2
  go_ret
  exact ⟨rfl, rfl⟩

theorem cmp64_any (a b : Nat) (w : World) :
    Calls Tryz.prog 175 #[.int .u64 (a : Int), .int .u64 (b : Int)] w fun e w' => e = .returned (.int .i64 (Cub.cmpN a b)) ∧ w' = w := by
  rcases Nat.lt_trichotomy a b with h | h | h
  · rw [Cub.cmpN_lt h]
    have h1 : (a : Int) < (b : Int) := by omega
    go_enter Tryz.func175, Tryz.ntmps175
    go_wp2_with (go_at_call 205; refine (isNaN64_any _ _).mono ?_; rintro e w' ⟨rfl, rfl⟩)
    go_ret
    exact ⟨rfl, rfl⟩
  · subst h
    rw [Cub.cmpN_eq]
    go_enter Tryz.func175, Tryz.ntmps175
    go_wp2_with (go_at_call 205; refine (isNaN64_any _ _).mono ?_; rintro e w' ⟨rfl, rfl⟩)
    go_ret
    exact ⟨rfl, rfl⟩
  · rw [Cub.cmpN_gt h]
    have h1 : (b : Int) < (a : Int) := by omega
    go_enter Tryz.func175, Tryz.ntmps175
    go_wp2_with (go_at_call 205; refine (isNaN64_any _ _).mono ?_; rintro e w' ⟨rfl, rfl⟩)
    go_ret
    exact ⟨rfl, rfl⟩

theorem isNaNi_any (a : Int) (w : World) : Calls Tryz.prog 204 #[.int .i64 a] w fun e w' => e = .returned (.bool false) ∧ w' = w := by
  go_enter Tryz.func204, Tryz.ntmps204
  go_wp2
  go_ret
  exact ⟨rfl, rfl⟩
theorem cmpi_any (a b : Nat) (w : World) :
    Calls Tryz.prog 174 #[.int .i64 (a : Int), .int .i64 (b : Int)] w fun e w' => e = .returned (.int .i64 (Cub.cmpN a b)) ∧ w' = w := by
  rcases Nat.lt_trichotomy a b with h | h | h
  · rw [Cub.cmpN_lt h]
    have h1 : (a : Int) < (b : Int) := by omega
    go_enter Tryz.func174, Tryz.ntmps174
    go_wp2_with (go_at_call 204; refine (isNaNi_any _ _).mono ?_; rintro e w' ⟨rfl, rfl⟩)
    go_ret
    exact ⟨rfl, rfl⟩
  · subst h
    rw [Cub.cmpN_eq]
    go_enter Tryz.func174, Tryz.ntmps174
    go_wp2_with (go_at_call 204; refine (isNaNi_any _ _).mono ?_; rintro e w' ⟨rfl, rfl⟩)
    go_ret
    exact ⟨rfl, rfl⟩
  · rw [Cub.cmpN_gt h]
    have h1 : (b : Int) < (a : Int) := by omega
    go_enter Tryz.func174, Tryz.ntmps174
    go_wp2_with (go_at_call 204; refine (isNaNi_any _ _).mono ?_; rintro e w' ⟨rfl, rfl⟩)
    go_ret
    exact ⟨rfl, rfl⟩

set_option maxRecDepth 100000 in
set_option maxHeartbeats 1000000 in
theorem cmp_any (x y : Value) (m n : Nat) (w : World) (hx : IsBig w x m) (hy : IsBig w y n) :
    Calls Tryz.prog 141 #[x, y] w fun e w' => e = .returned (.int .i64 (Cub.cmpN m n)) ∧ Below w.heap.size w w' := by
  obtain ⟨ap, lp, cp, rfl, hlp, hrp, hnp, rfl⟩ := hx.form
  obtain ⟨aq, lq, cq, rfl, hlq, hrq, hnq, rfl⟩ := hy.form
  have HP : Hid (Cub.normal 1000000000 lp ∧ Cells w ap lp) := ⟨hnp, hrp.cells.2.2.2⟩
  have HQ : Hid (Cub.normal 1000000000 lq ∧ Cells w aq lq) := ⟨hnq, hrq.cells.2.2.2⟩
  obtain ⟨np, hnp'⟩ : ∃ np, np = lp.length := ⟨_, rfl⟩
  obtain ⟨nq, hnq'⟩ : ∃ nq, nq = lq.length := ⟨_, rfl⟩
  rw [← hnp'] at hlp ⊢
  rw [← hnq'] at hlq ⊢
  have HNP := hide hnp'
  have HNQ := hide hnq'
  clear hx hy hrp hrq hnp hnq hnp' hnq'
  by_cases hne : np = nq
  · subst hne
    have C78 : Hid (∀ W, Calls Tryz.prog 174 #[.int .i64 (np : Int), .int .i64 (np : Int)] W fun e w' => e = .returned (.int .i64 0) ∧ w' = W) := fun W => by have h := cmpi_any np np W; rw [Cub.cmpN_eq] at h; exact h
    go_enter Tryz.func141, Tryz.ntmps141
    go_wp2_with (go_at_call 174; refine (unhide C78 _).mono ?_; rintro e w' ⟨rfl, rfl⟩)
    go_loopw [6] (fun t wr => ∃ j : Nat, j ≤ np ∧ t = .int .i64 ((j : Int) - 1) ∧ Hid (lp.drop j = lq.drop j) ∧ wr.cell? ⟨w.heap.size, 0, none⟩ = some (.slice ap np cp) ∧ wr.cell? ⟨w.heap.size + 1, 0, none⟩ = some (.slice aq np cq) ∧ Below w.heap.size w wr) (fun t _ => (intOf t + 1).toNat)
    case atStart => exact ⟨np, Nat.le_refl _, rfl, by rw [List.drop_of_length_le (by have := unhide HNP; omega), List.drop_of_length_le (by have := unhide HNQ; omega)]; exact rfl, by simp [go_sem], by simp [go_sem], ((Below.refl _ _).alloc (Nat.le_refl _) _).alloc (by simp) _⟩
    case round =>
      obtain ⟨j, hj, rfl, HD, hb1, hb2, hbl⟩ := hrel
      by_cases hj0 : j = 0
      · subst hj0
        have HF : Hid (Cub.cmpN (Cub.lval 1000000000 lp) (Cub.lval 1000000000 lq) = 0) := by
          have h := unhide HD
          rw [List.drop_zero, List.drop_zero] at h
          rw [h, Cub.cmpN_eq]; exact rfl
        go_wp2
        go_ret
        exact ⟨by rw [unhide HF]; rfl, hbl⟩
      · obtain ⟨i, rfl⟩ : ∃ i, j = i + 1 := ⟨j - 1, by omega⟩
        have hip : i < lp.length := by have := unhide HNP; omega
        have hiq : i < lq.length := by have := unhide HNQ; omega
        obtain ⟨b1, o1, rfl, hc1⟩ := (unhide HP).2 wr hbl i hip
        obtain ⟨b2, o2, rfl, hc2⟩ := (unhide HQ).2 wr hbl i hiq
        obtain ⟨xv, hxv⟩ : ∃ xv, xv = lp[i] := ⟨_, rfl⟩
        obtain ⟨yv, hyv⟩ : ∃ yv, yv = lq[i] := ⟨_, rfl⟩
        rw [← hxv] at hc1
        rw [← hyv] at hc2
        obtain ⟨c, hc⟩ : ∃ c, c = Cub.cmpN xv yv := ⟨_, rfl⟩
        have C79 : Hid (∀ W, Calls Tryz.prog 175 #[.int .u64 (xv : Int), .int .u64 (yv : Int)] W fun e w' => e = .returned (.int .i64 c) ∧ w' = W) := fun W => by have h := cmp64_any xv yv W; rw [← hc] at h; exact h
        have hin' : (i : Int) < (np : Int) := by omega
        rw [show (((i + 1 : Nat) : Int) - 1) = (i : Int) from by omega]
        by_cases hxy : xv = yv
        · have hc0 : c = 0 := by rw [hc, hxy, Cub.cmpN_eq]
          subst hc0
          have HD' : Hid (lp.drop i = lq.drop i) := by
            rw [List.drop_eq_getElem_cons hip, List.drop_eq_getElem_cons hiq, unhide HD, ← hxv, ← hyv, hxy]; exact rfl
          clear hc hxy hxv hyv hj0
          go_wp2
          go_quiet ((go_at_call 175; exact Calls.quiet_of_same (unhide C79 _)))
          go_wp2
          go_roundw
          case rel => exact ⟨i, by omega, rfl, HD', hb1, hb2, below_drewN hbl _⟩
          case measure => simp [intOf]
        · have hcz : (c != 0) = true := by
            rw [hc, bne_iff_ne]
            rcases Nat.lt_or_ge xv yv with h | h
            · rw [Cub.cmpN_lt h]; omega
            · rw [Cub.cmpN_gt (show yv < xv by omega)]; omega
          have HF : Hid (Cub.cmpN (Cub.lval 1000000000 lp) (Cub.lval 1000000000 lq) = c) := by
            have hl : lp.length = lq.length := by rw [← unhide HNP, ← unhide HNQ]
            rw [hc]
            rcases Nat.lt_or_ge xv yv with h | h
            · rw [Cub.cmpN_lt h, Cub.cmpN_lt (Cub.cmp_at (unhide HP).1.1 hl i hip (unhide HD) (by rw [← hxv, ← hyv]; exact h))]; exact rfl
            · have h' : yv < xv := by omega
              rw [Cub.cmpN_gt h', Cub.cmpN_gt (Cub.cmp_at (unhide HQ).1.1 hl.symm i hiq (unhide HD).symm (by rw [← hxv, ← hyv]; exact h'))]; exact rfl
          clear hc hxy hxv hyv hj0
          go_wp2
          go_quiet ((go_at_call 175; exact Calls.quiet_of_same (unhide C79 _)))
          go_wp2
          go_ret
          exact ⟨by rw [unhide HF]; rfl, below_drewN hbl _⟩
  · obtain ⟨c, hc⟩ : ∃ c, c = Cub.cmpN np nq := ⟨_, rfl⟩
    have hfin : Cub.cmpN (Cub.lval 1000000000 lp) (Cub.lval 1000000000 lq) = c := by
      rw [hc]
      rcases Nat.lt_or_ge np nq with h | h
      · rw [Cub.cmpN_lt h, Cub.cmpN_lt (Cub.cmp_len (unhide HP).1.1 (unhide HQ).1 (by have := unhide HNP; have := unhide HNQ; omega))]
      · rw [Cub.cmpN_gt (show nq < np by omega), Cub.cmpN_gt (Cub.cmp_len (unhide HQ).1.1 (unhide HP).1 (by have := unhide HNP; have := unhide HNQ; omega))]
    have hc0 : (c != 0) = true := by
      rw [hc, bne_iff_ne]
      rcases Nat.lt_or_ge np nq with h | h
      · rw [Cub.cmpN_lt h]; omega
      · rw [Cub.cmpN_gt (show nq < np by omega)]; omega
    have C78 : Hid (∀ W, Calls Tryz.prog 174 #[.int .i64 (np : Int), .int .i64 (nq : Int)] W fun e w' => e = .returned (.int .i64 c) ∧ w' = W) := fun W => by have h := cmpi_any np nq W; rw [← hc] at h; exact h
    rw [hfin]
    clear hfin hc
    go_enter Tryz.func141, Tryz.ntmps141
    go_wp2_with (go_at_call 174; refine (unhide C78 _).mono ?_; rintro e w' ⟨rfl, rfl⟩)
    go_ret
    exact ⟨rfl, ((Below.refl _ _).alloc (Nat.le_refl _) _).alloc (by simp) _⟩
end Go.Proofs.YtoinadnpdbaamaaGreatDoor

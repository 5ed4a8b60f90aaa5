/- nat.gcdSmall, (Big).small, (Big).limb, (Big).first. -/
import Derived.Test.YtpoapffbpgnkpaaGreatDoorCmpMath
import Derived.Deep.QuietTactic
import Derived.BigQuiet
import Derived.Test.YtpoapffbpgnkpaaGreatDoorLimb5
import Derived.WalkSmall
import Derived.Deep.Cut
import Derived.Deep.CutRange
import Derived.Deep.RegionWith
namespace Cub
theorem lval_split (B : Nat) (a : List Nat) (j : Nat) (h : j < a.length) : lval B a = lval B (a.take j) + B ^ j * (a[j] + B * lval B (a.drop (j + 1))) := by
  have e := lval_append B (a.take j) (a.drop j)
  rw [List.take_append_drop, List.length_take, Nat.min_eq_left (by omega), List.drop_eq_getElem_cons h] at e
  exact e
theorem cmp_at {B : Nat} {a b : List Nat} (ha : limbs B a) (hl : a.length = b.length) (j : Nat) (h : j < a.length) (hd : a.drop (j + 1) = b.drop (j + 1)) (hlt : a[j] < b[j]) : lval B a < lval B b := by
  rw [lval_split B a j h, lval_split B b j (by omega), hd]
  have h1 : lval B (a.take j) < B ^ j := by
    have := lval_lt (B := B) (l := a.take j) (fun z hz => ha z (List.mem_of_mem_take hz))
    rwa [List.length_take, Nat.min_eq_left (by omega)] at this
  have h2 : B ^ j * (a[j] + B * lval B (b.drop (j + 1)) + 1) ≤ B ^ j * (b[j] + B * lval B (b.drop (j + 1))) := Nat.mul_le_mul_left _ (by omega)
  rw [Nat.mul_add (B ^ j) (a[j] + B * lval B (b.drop (j + 1))) 1] at h2
  omega
theorem cmp_len {a b : List Nat} (ha : limbs 1000000000 a) (hb : normal 1000000000 b) (h : a.length < b.length) : lval 1000000000 a < lval 1000000000 b := by
  have h1 := lval_lt ha
  have hne : b ≠ [] := by intro e; rw [e] at h; simp at h
  have h2 := normal_ge hb hne
  have h3 : 1000000000 ^ a.length ≤ 1000000000 ^ (b.length - 1) := Nat.pow_le_pow_right (by decide) (by omega)
  omega
theorem cmpN_lt {m n : Nat} (h : m < n) : cmpN m n = -1 := if_pos h
theorem cmpN_gt {m n : Nat} (h : n < m) : cmpN m n = 1 := by unfold cmpN; rw [if_neg (by omega), if_pos h]
theorem cmpN_eq (m : Nat) : cmpN m m = 0 := by unfold cmpN; rw [if_neg (by omega), if_neg (by omega)]
end Cub
namespace Go.Proofs.YtpoapffbpgnkpaaGreatDoor
open Go.RowKit

theorem isNaN64_any (a : Int) (w : World) : Calls Tryz.prog 170 #[.int .u64 a] w fun e w' => e = .returned (.bool false) ∧ w' = w := by
  go_enter Tryz.func170, Tryz.ntmps170
  go_wp2
  go_ret
  exact ⟨rfl, rfl⟩

theorem cmp64_any (a b : Nat) (w : World) :
    Calls Tryz.prog 149 #[.int .u64 (a : Int), .int .u64 (b : Int)] w fun e w' => e = .returned (.int .i64 (Cub.cmpN a b)) ∧ w' = w := by
  rcases Nat.lt_trichotomy a b with h | h | h
  · rw [Cub.cmpN_lt h]
    have h1 : (a : Int) < (b : Int) := by omega
    go_enter Tryz.func149, Tryz.ntmps149
    go_wp2_with (go_at_call 170; refine (isNaN64_any _ _).mono ?_; rintro e w' ⟨rfl, rfl⟩)
    go_ret
    exact ⟨rfl, rfl⟩
  · subst h
    rw [Cub.cmpN_eq]
    go_enter Tryz.func149, Tryz.ntmps149
    go_wp2_with (go_at_call 170; refine (isNaN64_any _ _).mono ?_; rintro e w' ⟨rfl, rfl⟩)
    go_ret
    exact ⟨rfl, rfl⟩
  · rw [Cub.cmpN_gt h]
    have h1 : (b : Int) < (a : Int) := by omega
    go_enter Tryz.func149, Tryz.ntmps149
    go_wp2_with (go_at_call 170; refine (isNaN64_any _ _).mono ?_; rintro e w' ⟨rfl, rfl⟩)
    go_ret
    exact ⟨rfl, rfl⟩

theorem isNaNi_any (a : Int) (w : World) : Calls Tryz.prog 140 #[.int .i64 a] w fun e w' => e = .returned (.bool false) ∧ w' = w := by
  go_enter Tryz.func140, Tryz.ntmps140
  go_wp2
  go_ret
  exact ⟨rfl, rfl⟩
theorem cmpi_any (a b : Nat) (w : World) :
    Calls Tryz.prog 109 #[.int .i64 (a : Int), .int .i64 (b : Int)] w fun e w' => e = .returned (.int .i64 (Cub.cmpN a b)) ∧ w' = w := by
  rcases Nat.lt_trichotomy a b with h | h | h
  · rw [Cub.cmpN_lt h]
    have h1 : (a : Int) < (b : Int) := by omega
    go_enter Tryz.func109, Tryz.ntmps109
    go_wp2_with (go_at_call 140; refine (isNaNi_any _ _).mono ?_; rintro e w' ⟨rfl, rfl⟩)
    go_ret
    exact ⟨rfl, rfl⟩
  · subst h
    rw [Cub.cmpN_eq]
    go_enter Tryz.func109, Tryz.ntmps109
    go_wp2_with (go_at_call 140; refine (isNaNi_any _ _).mono ?_; rintro e w' ⟨rfl, rfl⟩)
    go_ret
    exact ⟨rfl, rfl⟩
  · rw [Cub.cmpN_gt h]
    have h1 : (b : Int) < (a : Int) := by omega
    go_enter Tryz.func109, Tryz.ntmps109
    go_wp2_with (go_at_call 140; refine (isNaNi_any _ _).mono ?_; rintro e w' ⟨rfl, rfl⟩)
    go_ret
    exact ⟨rfl, rfl⟩

set_option maxRecDepth 100000 in
set_option maxHeartbeats 1000000 in
theorem cmp_any (x y : Value) (m n : Nat) (w : World) (hx : IsBig w x m) (hy : IsBig w y n) :
    Calls Tryz.prog 129 #[x, y] w fun e w' => e = .returned (.int .i64 (Cub.cmpN m n)) ∧ Below w.heap.size w w' := by
  obtain ⟨ap, lp, cp, rfl, hlp, hrp, hnp, rfl⟩ := hx.form
  obtain ⟨aq, lq, cq, rfl, hlq, hrq, hnq, rfl⟩ := hy.form
  have HP : Hid (Cub.normal 1000000000 lp ∧ Cells w ap lp) := ⟨hnp, hrp.cells.2.2.2⟩
  have HQ : Hid (Cub.normal 1000000000 lq ∧ Cells w aq lq) := ⟨hnq, hrq.cells.2.2.2⟩
  obtain ⟨np, hnp'⟩ : ∃ np, np = lp.length := ⟨_, rfl⟩
  obtain ⟨nq, hnq'⟩ : ∃ nq, nq = lq.length := ⟨_, rfl⟩
  rw [← hnp'] at hlp ⊢
  rw [← hnq'] at hlq ⊢
  have HNP := hide hnp'
  have HNQ := hide hnq'
  clear hx hy hrp hrq hnp hnq hnp' hnq'
  by_cases hne : np = nq
  · subst hne
    have C78 : Hid (∀ W, Calls Tryz.prog 109 #[.int .i64 (np : Int), .int .i64 (np : Int)] W fun e w' => e = .returned (.int .i64 0) ∧ w' = W) := fun W => by have h := cmpi_any np np W; rw [Cub.cmpN_eq] at h; exact h
    go_enter Tryz.func129, Tryz.ntmps129
    go_wp2_with (go_at_call 109; refine (unhide C78 _).mono ?_; rintro e w' ⟨rfl, rfl⟩)
    go_loopw [6] (fun t wr => ∃ j : Nat, j ≤ np ∧ t = .int .i64 ((j : Int) - 1) ∧ Hid (lp.drop j = lq.drop j) ∧ wr.cell? ⟨w.heap.size, 0, none⟩ = some (.slice ap np cp) ∧ wr.cell? ⟨w.heap.size + 1, 0, none⟩ = some (.slice aq np cq) ∧ Below w.heap.size w wr) (fun t _ => (intOf t + 1).toNat)
    case atStart => exact ⟨np, Nat.le_refl _, rfl, by rw [List.drop_of_length_le (by have := unhide HNP; omega), List.drop_of_length_le (by have := unhide HNQ; omega)]; exact rfl, by simp [go_sem], by simp [go_sem], ((Below.refl _ _).alloc (Nat.le_refl _) _).alloc (by simp) _⟩
    case round =>
      obtain ⟨j, hj, rfl, HD, hb1, hb2, hbl⟩ := hrel
      by_cases hj0 : j = 0
      · subst hj0
        have HF : Hid (Cub.cmpN (Cub.lval 1000000000 lp) (Cub.lval 1000000000 lq) = 0) := by
          have h := unhide HD
          rw [List.drop_zero, List.drop_zero] at h
          rw [h, Cub.cmpN_eq]; exact rfl
        go_wp2
        go_ret
        exact ⟨by rw [unhide HF]; rfl, hbl⟩
      · obtain ⟨i, rfl⟩ : ∃ i, j = i + 1 := ⟨j - 1, by omega⟩
        have hip : i < lp.length := by have := unhide HNP; omega
        have hiq : i < lq.length := by have := unhide HNQ; omega
        obtain ⟨b1, o1, rfl, hc1⟩ := (unhide HP).2 wr hbl i hip
        obtain ⟨b2, o2, rfl, hc2⟩ := (unhide HQ).2 wr hbl i hiq
        obtain ⟨xv, hxv⟩ : ∃ xv, xv = lp[i] := ⟨_, rfl⟩
        obtain ⟨yv, hyv⟩ : ∃ yv, yv = lq[i] := ⟨_, rfl⟩
        rw [← hxv] at hc1
        rw [← hyv] at hc2
        obtain ⟨c, hc⟩ : ∃ c, c = Cub.cmpN xv yv := ⟨_, rfl⟩
        have C79 : Hid (∀ W, Calls Tryz.prog 149 #[.int .u64 (xv : Int), .int .u64 (yv : Int)] W fun e w' => e = .returned (.int .i64 c) ∧ w' = W) := fun W => by have h := cmp64_any xv yv W; rw [← hc] at h; exact h
        have hin' : (i : Int) < (np : Int) := by omega
        rw [show (((i + 1 : Nat) : Int) - 1) = (i : Int) from by omega]
        by_cases hxy : xv = yv
        · have hc0 : c = 0 := by rw [hc, hxy, Cub.cmpN_eq]
          subst hc0
          have HD' : Hid (lp.drop i = lq.drop i) := by
            rw [List.drop_eq_getElem_cons hip, List.drop_eq_getElem_cons hiq, unhide HD, ← hxv, ← hyv, hxy]; exact rfl
          clear hc hxy hxv hyv hj0
          go_wp2
          go_quiet ((go_at_call 149; exact Calls.quiet_of_same (unhide C79 _)))
          go_wp2
          go_roundw
          case rel => exact ⟨i, by omega, rfl, HD', hb1, hb2, below_drewN hbl _⟩
          case measure => simp [intOf]
        · have hcz : (c != 0) = true := by
            rw [hc, bne_iff_ne]
            rcases Nat.lt_or_ge xv yv with h | h
            · rw [Cub.cmpN_lt h]; omega
            · rw [Cub.cmpN_gt (show yv < xv by omega)]; omega
          have HF : Hid (Cub.cmpN (Cub.lval 1000000000 lp) (Cub.lval 1000000000 lq) = c) := by
            have hl : lp.length = lq.length := by rw [← unhide HNP, ← unhide HNQ]
            rw [hc]
            rcases Nat.lt_or_ge xv yv with h | h
            · rw [Cub.cmpN_lt h, Cub.cmpN_lt (Cub.cmp_at (unhide HP).1.1 hl i hip (unhide HD) (by rw [← hxv, ← hyv]; exact h))]; exact rfl
            · have h' : yv < xv := by omega
              rw [Cub.cmpN_gt h', Cub.cmpN_gt (Cub.cmp_at (unhide HQ).1.1 hl.symm i hiq (unhide HD).symm (by rw [← hxv, ← hyv]; exact h'))]; exact rfl
          clear hc hxy hxv hyv hj0
          go_wp2
          go_quiet ((go_at_call 149; exact Calls.quiet_of_same (unhide C79 _)))
          go_wp2
          go_ret
          exact ⟨by rw [unhide HF]; rfl, below_drewN hbl _⟩
  · obtain ⟨c, hc⟩ : ∃ c, c = Cub.cmpN np nq := ⟨_, rfl⟩
    have hfin : Cub.cmpN (Cub.lval 1000000000 lp) (Cub.lval 1000000000 lq) = c := by
      rw [hc]
      rcases Nat.lt_or_ge np nq with h | h
      · rw [Cub.cmpN_lt h, Cub.cmpN_lt (Cub.cmp_len (unhide HP).1.1 (unhide HQ).1 (by have := unhide HNP; have := unhide HNQ; omega))]
      · rw [Cub.cmpN_gt (show nq < np by omega), Cub.cmpN_gt (Cub.cmp_len (unhide HQ).1.1 (unhide HP).1 (by have := unhide HNP; have := unhide HNQ; omega))]
    have hc0 : (c != 0) = true := by
      rw [hc, bne_iff_ne]
      rcases Nat.lt_or_ge np nq with h | h
      · rw [Cub.cmpN_lt h]; omega
      · rw [Cub.cmpN_gt (show nq < np by omega)]; omega
    have C78 : Hid (∀ W, Calls Tryz.prog 109 #[.int .i64 (np : Int), .int .i64 (nq : Int)] W fun e w' => e = .returned (.int .i64 c) ∧ w' = W) := fun W => by have h := cmpi_any np nq W; rw [← hc] at h; exact h
    rw [hfin]
    clear hfin hc
    go_enter Tryz.func129, Tryz.ntmps129
    go_wp2_with (go_at_call 109; refine (unhide C78 _).mono ?_; rintro e w' ⟨rfl, rfl⟩)
    go_ret
    exact ⟨rfl, ((Below.refl _ _).alloc (Nat.le_refl _) _).alloc (by simp) _⟩
end Go.Proofs.YtpoapffbpgnkpaaGreatDoor

namespace Cub
theorem takeB (B : Nat) (l : List Nat) (i : Nat) : lval B (l.take (i + 1)) = lval B (l.take i) + B ^ i * l.getD i 0 := by
  by_cases h : i < l.length
  · rw [List.take_succ_eq_append_getElem h, lval_snoc, List.length_take, Nat.min_eq_left (by omega)]
    simp [List.getD, h]
  · rw [List.take_of_length_le (by omega), List.take_of_length_le (by omega)]
    simp [List.getD, Nat.le_of_not_lt h]
end Cub

namespace Cub
/-- A list in the making, with what is carried to place p: together they are V. -/
structure Acc (B : Nat) (O : List Nat) (c p V : Nat) : Prop where
  lim : limbs B O
  val : lval B O + B ^ p * c = V

theorem Acc.step {B : Nat} {O : List Nat} {c p V : Nat} (h : Acc B O c p V) (hB : 0 < B) (hp : p < O.length) (t : Nat) :
    Acc B (O.set p ((c + O[p] + t) % B)) ((c + O[p] + t) / B) (p + 1) (V + B ^ p * t) := by
  refine ⟨limbs_set h.lim p _ (Nat.mod_lt _ hB), ?_⟩
  have e1 := lval_set B O p ((c + O[p] + t) % B) hp
  have e2 := h.val
  have e3 : c + O[p] + t = B * ((c + O[p] + t) / B) + (c + O[p] + t) % B := (Nat.div_add_mod _ _).symm
  generalize (c + O[p] + t) / B = q at *
  generalize (c + O[p] + t) % B = r at *
  have e4 := congrArg (B ^ p * ·) e3
  simp only [Nat.mul_add] at e4
  rw [Nat.pow_succ]
  have m1 : B ^ p * B * q = B ^ p * (B * q) := Nat.mul_assoc _ _ _
  omega

theorem Acc.none {B : Nat} {O : List Nat} {c p V : Nat} (h : Acc B O c p V) (hV : V < B ^ p) : c = 0 := by
  rcases Nat.eq_zero_or_pos c with h0 | h0
  · exact h0
  · have : B ^ p * 1 ≤ B ^ p * c := Nat.mul_le_mul_left _ h0
    have := h.val
    omega

theorem carry_lt (B c o x y : Nat) (hc : c < B) (ho : o < B) (hx : x < B) (hy : y < B) : (c + o + x * y) / B < B := by
  apply Nat.div_lt_of_lt_mul
  obtain ⟨b, rfl⟩ : ∃ b, B = b + 1 := ⟨B - 1, by omega⟩
  have h1 : x * y ≤ b * b := Nat.mul_le_mul (by omega) (by omega)
  have h2 : (b + 1) * (b + 1) = b * b + b + b + 1 := by rw [Nat.add_mul, Nat.mul_add]; omega
  omega
theorem carry_lt' (B c o : Nat) (hc : c < B) (ho : o < B) (hB : 2 ≤ B) : (c + o) / B < B := by
  apply Nat.div_lt_of_lt_mul
  have : B * 2 ≤ B * B := Nat.mul_le_mul_left _ hB
  omega

theorem get_zero {B : Nat} {O : List Nat} {p : Nat} (h : lval B O < B ^ p) (hp : p < O.length) : O[p] = 0 := by
  rcases Nat.eq_zero_or_pos O[p] with h0 | h0
  · exact h0
  · have e := lval_set B O p 0 hp
    have : B ^ p * 1 ≤ B ^ p * O[p] := Nat.mul_le_mul_left _ h0
    omega

theorem mul_lt (B : Nat) (x y : List Nat) (hx : limbs B x) (hy : limbs B y) (i : Nat) : lval B (x.take i) * lval B y < B ^ (i + y.length) ∨ B = 0 := by
  rcases Nat.eq_zero_or_pos B with h0 | h0
  · exact Or.inr h0
  · left
    have h1 := lval_lt (B := B) (l := x.take i) (fun z hz => hx z (List.mem_of_mem_take hz))
    have h2 := lval_lt hy
    have h3 : B ^ (x.take i).length ≤ B ^ i := Nat.pow_le_pow_right h0 (List.length_take_le _ _)
    rw [Nat.pow_add]
    exact Nat.mul_lt_mul'' (by omega) h2

theorem lval_zeros (B n : Nat) : lval B (List.replicate n 0) = 0 := by
  induction n with
  | zero => rfl
  | succ n ih => simp [List.replicate_succ, lval, ih]
theorem limbs_zeros (B n : Nat) (hB : 0 < B) : limbs B (List.replicate n 0) := fun x hx => by
  rw [List.mem_replicate] at hx; omega

/-- One more limb of y. -/
theorem val_inner (B a i k : Nat) (y : List Nat) (V : Nat) : V + B ^ i * (a * lval B (y.take k)) + B ^ (i + k) * (a * y.getD k 0) = V + B ^ i * (a * lval B (y.take (k + 1))) := by
  rw [takeB, Nat.mul_add, Nat.mul_add, Nat.pow_add]
  have : B ^ i * (a * (B ^ k * y.getD k 0)) = B ^ i * B ^ k * (a * y.getD k 0) := by
    rw [Nat.mul_left_comm a, ← Nat.mul_assoc]
  omega
theorem val_outer (B i : Nat) (x y : List Nat) : lval B (x.take i) * lval B y + B ^ i * (x.getD i 0 * lval B y) = lval B (x.take (i + 1)) * lval B y := by
  rw [takeB, Nat.add_mul, Nat.mul_assoc]
end Cub

namespace Go.Proofs.YtpoapffbpgnkpaaGreatDoor
open Go.RowKit

/-- What stands of the product that is filled, and of the three boxes. -/
structure OutU (w wr : World) (a b : Value) (N : Nat) (O : List Nat) : Prop where
  own : Own wr (w.heap.size + 1 + 1 + 1) O
  len : O.length = N
  box : Boxes3 w wr a b (.slice none 0 0)
theorem OutU.set {w wr : World} {a b : Value} {N : Nat} {O : List Nat} (h : OutU w wr a b N O) (p x : Nat) (z : Int) (hz : z = (x : Int)) : OutU w (wr.setCell ⟨w.heap.size + 1 + 1 + 1, p, none⟩ (.int .u64 z)) a b N (O.set p x) := by
  subst hz
  exact ⟨h.own.set p x, by rw [List.length_set]; exact h.len, h.box.on ((Below.refl (w.heap.size + 3) wr).setCell (p := ⟨w.heap.size + 1 + 1 + 1, p, none⟩) (show w.heap.size + 3 ≤ w.heap.size + 1 + 1 + 1 by omega) _)⟩
theorem OutU.drew {w wr : World} {a b : Value} {N : Nat} {O : List Nat} (h : OutU w wr a b N O) (k : Nat) : OutU w (wr.drewN k) a b N O :=
  ⟨h.own, h.len, h.box.on (below_drewN (Below.refl _ _) k)⟩

set_option maxRecDepth 100000 in
set_option maxHeartbeats 2000000 in
theorem mul_any (x y : Value) (m n k : Nat) (w : World) (hx : IsBig w x m) (hy : IsBig w y n) (hk : k ≤ 1000000) (hm : m < 1000000000 ^ k) (hn : n < 1000000000 ^ k) :
    Calls Tryz.prog 126 #[x, y] w fun e w' => ∃ v, e = .returned v ∧ IsBig w' v (m * n) ∧ Below w.heap.size w w' := by
  obtain ⟨ap, lp, cp, rfl, hlp, hrp, hnp, rfl⟩ := hx.form
  obtain ⟨aq, lq, cq, rfl, hlq, hrq, hnq, rfl⟩ := hy.form
  have h1 := Cub.len_le hnp hm
  have h2 := Cub.len_le hnq hn
  have HP : Hid (Cub.limbs 1000000000 lp ∧ Cells w ap lp) := ⟨hnp.1, hrp.cells.2.2.2⟩
  have HQ : Hid (Cub.limbs 1000000000 lq ∧ Cells w aq lq) := ⟨hnq.1, hrq.cells.2.2.2⟩
  obtain ⟨np, hnp'⟩ : ∃ np, np = lp.length := ⟨_, rfl⟩
  obtain ⟨nq, hnq'⟩ : ∃ nq, nq = lq.length := ⟨_, rfl⟩
  rw [← hnp'] at h1 ⊢
  rw [← hnq'] at h2 ⊢
  have HNP := hide hnp'
  have HNQ := hide hnq'
  clear hx hy hm hn hlp hlq hrp hrq hnp hnq hnp' hnq'
  obtain ⟨i0, hi, hz0, hz1, hz2⟩ := info_parts Tryz.info130
  go_enter Tryz.func126, Tryz.ntmps126
  go_wp2_with (first
    | (at_make; go_must (refine wpList_make_full _ rfl _ _ 79 rfl (w.heap.size + 3) 130 i0 (.int .u64 0) 1 Tryz.underlying79 hi hz0 hz1 .i64 .i64 _ _ (np + nq) rfl rfl (by omega) (by omega) (by rw [hz2]; omega) (by unfold maxLen; omega) (by simp) ?_; intro w4 hown4 hgrow4; rw [u64s_made] at hown4; have hO4 : Own w4 (w.heap.size + 1 + 1 + 1) (List.replicate (np + nq) 0) := (by have := Own.of_row hown4; simpa using this); have hB4 := boxes3 ((Below.refl (w.heap.size + 3) _).grown hgrow4 (by simp) (fun k hk => by cases hk)); have bp4 := hB4.c1; have HO4 : Hid (OutU w w4 (.slice ap np cp) (.slice aq nq cq) (np + nq) (List.replicate (np + nq) 0)) := ⟨hO4, List.length_replicate .., hB4⟩; clear hown4 hgrow4 hO4 hB4)))
  go_loopw [22] (fun t wr => ∃ (i : Nat) (O : List Nat), t = .int .i64 (i : Int) ∧ i ≤ np ∧ Hid (OutU w wr (.slice ap np cp) (.slice aq nq cq) (np + nq) O) ∧ Hid (Cub.limbs 1000000000 O ∧ Cub.lval 1000000000 O = Cub.lval 1000000000 (lp.take i) * Cub.lval 1000000000 lq)) (fun t _ => np - (intOf t).toNat)
  case atStart => exact ⟨0, _, rfl, by omega, HO4, ⟨Cub.limbs_zeros _ _ (by decide), by rw [Cub.lval_zeros]; simp [Cub.lval]⟩⟩
  case round =>
    obtain ⟨i, O, rfl, hi', HO, HV⟩ := hrel
    clear bp4
    have bq := (unhide HO).box.c2
    by_cases hin : i < np
    · have hil : i < lp.length := by have := unhide HNP; omega
      obtain ⟨xv, hxv⟩ : ∃ xv, xv = lp[i] := ⟨_, rfl⟩
      have hxB : xv < 1000000000 := by rw [hxv]; exact (unhide HP).1 _ (List.getElem_mem hil)
      have HXV : Hid (lp.getD i 0 = xv) := by rw [hxv, List.getD_eq_getElem?_getD, List.getElem?_eq_getElem hil]; exact rfl
      obtain ⟨b1, o1, rfl, hcx⟩ := (unhide HP).2 wr (unhide HO).box.below i hil
      rw [← hxv] at hcx
      clear hxv
      by_cases hx0 : xv = 0
      · subst hx0
        have HVn : Hid (Cub.limbs 1000000000 O ∧ Cub.lval 1000000000 O = Cub.lval 1000000000 (lp.take (i + 1)) * Cub.lval 1000000000 lq) := by
          refine ⟨(unhide HV).1, ?_⟩
          rw [← Cub.val_outer, unhide HXV, (unhide HV).2]; simp
        go_wp2
        go_roundw
        case rel => exact ⟨i + 1, O, by go_num, by omega, HO, HVn⟩
        case measure => simp [intOf]; omega
      · have hxz : ((xv : Int) == 0) = false := by rw [beq_eq_false_iff_ne]; omega
        have HA0 : Hid (Cub.Acc 1000000000 O 0 (i + 0) (Cub.lval 1000000000 (lp.take i) * Cub.lval 1000000000 lq + 1000000000 ^ i * (xv * Cub.lval 1000000000 (lq.take 0)))) := by
          refine ⟨(unhide HV).1, ?_⟩
          rw [(unhide HV).2]; simp [Cub.lval]
        have HZ0 : Hid (∀ p (hp : p < O.length), i + nq ≤ p → O[p] = 0) := fun p hp hip => by
          apply Cub.get_zero (B := 1000000000) (p := p) _ hp
          rw [(unhide HV).2]
          rcases Cub.mul_lt 1000000000 lp lq (unhide HP).1 (unhide HQ).1 i with h | h
          · refine Nat.lt_of_lt_of_le h (Nat.pow_le_pow_right (by decide) ?_)
            have := unhide HNQ; omega
          · omega
        generalize hV0 : Cub.lval 1000000000 (lp.take i) * Cub.lval 1000000000 lq = V0 at *
        have HV0 := hide hV0
        clear hV0 hx0
        go_wp2
        go_loopw [8, 32] (fun c t wq => ∃ (k j : Nat) (P : List Nat), c = .int .u64 (k : Int) ∧ t = .int .i64 (j : Int) ∧ j ≤ nq ∧ k < 1000000000 ∧ Hid (OutU w wq (.slice (some ⟨b1, o1, none⟩) np cp) (.slice aq nq cq) (np + nq) P) ∧ Hid (∀ p (hp : p < P.length), i + nq ≤ p → P[p] = 0) ∧ Hid (Cub.Acc 1000000000 P k (i + j) (V0 + 1000000000 ^ i * (xv * Cub.lval 1000000000 (lq.take j))))) (fun _ t _ => nq - (intOf t).toNat)
        case atStart => exact ⟨0, 0, O, rfl, rfl, by omega, by omega, HO, HZ0, HA0⟩
        case round =>
          clear bq hcx
          obtain ⟨k, j, P, rfl, rfl, hj, hk, HP', HZ, HA⟩ := hrel
          have bq := (unhide HP').box.c2
          by_cases hjn : j < nq
          · have hpl : i + j < P.length := by rw [(unhide HP').len]; omega
            have hjl : j < lq.length := by have := unhide HNQ; omega
            obtain ⟨ov, hov⟩ : ∃ ov, ov = P[i + j] := ⟨_, rfl⟩
            have hoB : ov < 1000000000 := by rw [hov]; exact (unhide HA).lim _ (List.getElem_mem hpl)
            have hco := (unhide HP').own.cell (i + j) hpl
            rw [← hov] at hco
            have hfo := (unhide HP').own.frozen (i + j)
            obtain ⟨yv, hyv⟩ : ∃ yv, yv = lq[j] := ⟨_, rfl⟩
            have hyB : yv < 1000000000 := by rw [hyv]; exact (unhide HQ).1 _ (List.getElem_mem hjl)
            obtain ⟨b2, o2, rfl, hcy⟩ := (unhide HQ).2 wr (unhide HP').box.below j hjl
            rw [← hyv] at hcy
            have HYV : Hid (lq.getD j 0 = yv) := by rw [hyv, List.getD_eq_getElem?_getD, List.getElem?_eq_getElem hjl]; exact rfl
            obtain ⟨m, hm⟩ : ∃ m, m = xv * yv := ⟨_, rfl⟩
            have hmB : m ≤ 999999998000000001 := by rw [hm]; exact Nat.mul_le_mul (show xv ≤ 999999999 by omega) (show yv ≤ 999999999 by omega)
            have hmul : (xv : Int) * (yv : Int) = (m : Int) := by rw [hm]; simp
            have HA' : Hid (Cub.Acc 1000000000 (P.set (i + j) ((k + ov + m) % 1000000000)) ((k + ov + m) / 1000000000) (i + (j + 1)) (V0 + 1000000000 ^ i * (xv * Cub.lval 1000000000 (lq.take (j + 1))))) := by
              have h := (unhide HA).step (by decide) hpl (xv * lq.getD j 0)
              rw [Cub.val_inner, unhide HYV, ← hm, ← hov] at h
              exact h
            have hk' : (k + ov + m) / 1000000000 < 1000000000 := by rw [hm]; exact Cub.carry_lt 1000000000 k ov xv yv hk hoB hxB hyB
            have HZ' : Hid (∀ p (hp : p < (P.set (i + j) ((k + ov + m) % 1000000000)).length), i + nq ≤ p → (P.set (i + j) ((k + ov + m) % 1000000000))[p] = 0) := fun p hp hip => by
              rw [List.getElem_set_ne (by omega)]; exact unhide HZ p (by rw [List.length_set] at hp; exact hp) hip
            have HPn : Hid (OutU w (wr.setCell ⟨w.heap.size + 1 + 1 + 1, i + j, none⟩ (.int .u64 (((k : Int) + ((ov : Int) + (m : Int))) % 1000000000))) (.slice (some ⟨b1, o1, none⟩) np cp) (.slice (some ⟨b2, o2, none⟩) nq cq) (np + nq) (P.set (i + j) ((k + ov + m) % 1000000000))) := (unhide HP').set (i + j) ((k + ov + m) % 1000000000) _ (by omega)
            clear hov hyv hjl hm hpl HA HZ
            go_wp2
            go_roundw
            case rel => exact ⟨(k + ov + m) / 1000000000, j + 1, P.set (i + j) ((k + ov + m) % 1000000000), by go_num, by go_num, by omega, hk', HPn, HZ', HA'⟩
            case measure => simp [intOf]; omega
          · have hje : j = nq := by omega
            subst hje
            have hpl : i + j < P.length := by rw [(unhide HP').len]; omega
            have hz := unhide HZ (i + j) hpl (Nat.le_refl _)
            have hco := (unhide HP').own.cell (i + j) hpl
            rw [hz] at hco
            have hfo := (unhide HP').own.frozen (i + j)
            have HVn : Hid (Cub.limbs 1000000000 (P.set (i + j) k) ∧ Cub.lval 1000000000 (P.set (i + j) k) = Cub.lval 1000000000 (lp.take (i + 1)) * Cub.lval 1000000000 lq) := by
              have h := (unhide HA).val
              rw [List.take_of_length_le (by have := unhide HNQ; omega), ← unhide HV0, ← unhide HXV, Cub.val_outer] at h
              refine ⟨Cub.limbs_set (unhide HA).lim _ _ hk, ?_⟩
              have e := Cub.lval_set 1000000000 P (i + j) k hpl
              rw [hz] at e
              omega
            have HPn : Hid (OutU w (wr.setCell ⟨w.heap.size + 1 + 1 + 1, i + j, none⟩ (.int .u64 (k : Int))) (.slice (some ⟨b1, o1, none⟩) np cp) (.slice aq j cq) (np + j) (P.set (i + j) k)) := (unhide HP').set (i + j) k _ rfl
            clear hpl hz HA HZ
            go_wp2
            go_roundw
            case rel => exact ⟨i + 1, P.set (i + j) k, by go_num, by omega, HPn, HVn⟩
            case measure => simp [intOf]; omega
    · obtain ⟨t1, t2, _⟩ := Cub.lval_trim 1000000000 _ O rfl
      have HF : Hid (Cub.normal 1000000000 (Cub.trimN O) ∧ Cub.lval 1000000000 (Cub.trimN O) = Cub.lval 1000000000 lp * Cub.lval 1000000000 lq) := by
        refine ⟨t2 (unhide HV).1, ?_⟩
        rw [t1, (unhide HV).2, List.take_of_length_le (by have := unhide HNP; omega)]
      have hsz := (unhide HO).box.size
      have br := (unhide HO).box.c3
      have fr := (unhide HO).box.f3
      clear t1 t2
      go_wp2_with (go_at_call 128; refine (trim_any _ O _ ((unhide HO).own.row (np + nq) (np + nq) (unhide HO).len.symm (Nat.le_refl _) (by unfold maxLen; omega))).mono ?_; rintro e w6 ⟨v', rfl, hrow6, hb6⟩; obtain ⟨a6, cap6, rfl, hcap6⟩ := hrow6.form; obtain ⟨hc6, hf6⟩ := box_later hb6 (g := w.heap.size + 1 + 1) (by omega) br fr)
      refine bodyPost_ret (v := .agg #[.slice a6 (Cub.trimN O).length cap6]) (by simp [results, Tryz.results126, go_sem, hc6]) rfl ⟨_, rfl, ?_, ?_⟩
      · exact ⟨_, _, rfl, hrow6.box _ hc6 (no_int _ _ _), (unhide HF).1, (unhide HF).2⟩
      · exact ((unhide HO).box.below.trans (hb6.mono (by omega))).setCell (p := ⟨w.heap.size + 1 + 1, 0, none⟩) (show w.heap.size ≤ w.heap.size + 1 + 1 by omega) _
end Go.Proofs.YtpoapffbpgnkpaaGreatDoor

namespace Go.Proofs.YtpoapffbpgnkpaaGreatDoor
open Go.RowKit

/-- The worlds that come behind one. -/
structure Later (w : World) where
  world : World
  below : Below w.heap.size w world
instance (w : World) : Nonempty (Later w) := ⟨⟨w, Below.refl _ _⟩⟩
/-- A region that draws its order, whose callees make new memory alone: one walk. -/
theorem quiet_later {P : Program} {id : Nat} {Q : Exit → Act → World → Prop} {a : Act} {w : World} {l : List Oper} (hm : P.follows .mixedOrders = true) (hB : Region.lexB .any l.toArray = true)
    (h : wpQuiet P l.toArray (fun w' => ∃ x : Later w, w' = x.world) (fun a' => ∀ w', (∃ x : Later w, w' = x.world) → Q .normal a' w') l a) : (Code.region id l.toArray true).wp P Q a w :=
  wp_region_quiet (C := fun w' => ∃ x : Later w, w' = x.world) hm hB ⟨⟨_, (Below.refl w.heap.size w).drew⟩, rfl⟩ (by simpa using h)

theorem gcdSmall_any (a b : Nat) (w : World) (ha : a < 18446744073709551616) (hb : b < 18446744073709551616) :
    Calls Tryz.prog 134 #[.int .u64 (a : Int), .int .u64 (b : Int)] w fun e w' => e = .returned (.int .u64 ((Nat.gcd a b : Nat) : Int)) ∧ Below w.heap.size w w' := by
  go_enter Tryz.func134, Tryz.ntmps134
  go_wp2
  go_loopw [0, 1] (fun u v wr => ∃ x y : Nat, u = .int .u64 (x : Int) ∧ v = .int .u64 (y : Int) ∧ x < 18446744073709551616 ∧ y < 18446744073709551616 ∧ Hid (Nat.gcd x y = Nat.gcd a b) ∧ Hid (Below w.heap.size w wr)) (fun _ v _ => (intOf v).toNat)
  case atStart => exact ⟨a, b, rfl, rfl, ha, hb, rfl, Below.refl _ _⟩
  case round =>
    obtain ⟨x, y, rfl, rfl, hx, hy, HG, HB⟩ := hrel
    by_cases h0 : 0 < y
    · have hy0 : ¬ y = 0 := by omega
      have h0' : (0 : Int) < (y : Int) := by omega
      have hlt : x % y < y := Nat.mod_lt _ h0
      have HG' : Hid (Nat.gcd y (x % y) = Nat.gcd a b) := by
        show _ = _
        rw [← unhide HG, Nat.gcd_comm x y, Nat.gcd_rec y x, Nat.gcd_comm (x % y) y]
      go_upto_region 2 with fail
      go_quiet (fail)
      go_wp2
      go_roundw
      case rel => exact ⟨y, x % y, rfl, by go_num, hy, by omega, HG', below_drewN (unhide HB) _⟩
      case measure => simp [intOf]; omega
    · have hy0 : y = 0 := by omega
      subst hy0
      have HV : Hid (x = Nat.gcd a b) := by show _ = _; rw [← unhide HG, Nat.gcd_zero_right]
      clear HG
      go_wp2
      go_ret
      exact ⟨by rw [← unhide HV]; rfl, unhide HB⟩

set_option maxRecDepth 100000 in
theorem bigSmall_any (x : Value) (m : Nat) (w : World) (hx : IsBig w x m) (hm : m < 1000000000000000000) :
    Calls Tryz.prog 135 #[x] w fun e w' => e = .returned (.int .u64 (m : Int)) ∧ Below w.heap.size w w' := by
  obtain ⟨ap, lp, cp, rfl, hlp, hrp, hnp, hv⟩ := hx.form
  have h2 : lp.length ≤ 2 := Cub.len_le hnp (by rw [hv]; omega)
  have HP : Hid (Cells w ap lp) := hrp.cells.2.2.2
  have hcs : lp = [] ∨ (∃ a, lp = [a]) ∨ ∃ a b, lp = [a, b] := by
    match lp, h2 with
    | [], _ => exact .inl rfl
    | [a], _ => exact .inr (.inl ⟨a, rfl⟩)
    | [a, b], _ => exact .inr (.inr ⟨a, b, rfl⟩)
  rcases hcs with rfl | ⟨a, rfl⟩ | ⟨a, b, rfl⟩
  · have HV : Hid (m = 0) := hv.symm
    clear hv hx hrp hnp HP hm
    simp only [List.length_nil]
    go_enter Tryz.func135, Tryz.ntmps135
    go_wp2
    refine wp_loop_rounds 1 ?_
    rw [rounds_succ]
    go_wp2
    go_ret
    exact ⟨by rw [unhide HV]; rfl, (Below.refl _ _).alloc (Nat.le_refl _) _⟩
  · have HV : Hid (m = a) := by show _ = _; rw [← hv]; simp [Cub.lval]
    have ha : a < 1000000000 := hnp.1 a (by simp)
    obtain ⟨b0, o0, rfl, hc0⟩ := unhide HP (w.alloc (.cells #[.slice ap 1 cp] 81)) ((Below.refl _ _).alloc (Nat.le_refl _) _) 0 (by simp)
    simp only [List.length_singleton, List.getElem_cons_zero, Nat.add_zero] at hc0 ⊢
    clear hv hx hrp hnp HP hm
    go_enter Tryz.func135, Tryz.ntmps135
    go_wp2
    refine wp_loop_rounds 2 ?_
    rw [rounds_succ]
    go_wp2
    rw [rounds_succ]
    go_wp2
    go_ret
    exact ⟨by rw [unhide HV]; first | rfl | (simp; done) | go_num, (Below.refl _ _).alloc (Nat.le_refl _) _⟩
  · have HV : Hid (m = b * 1000000000 + a) := by show _ = _; rw [← hv]; simp [Cub.lval]; omega
    have ha : a < 1000000000 := hnp.1 a (by simp)
    have hb : b < 1000000000 := hnp.1 b (by simp)
    have hW : Below w.heap.size w (w.alloc (.cells #[.slice ap 2 cp] 81)) := (Below.refl _ _).alloc (Nat.le_refl _) _
    obtain ⟨b0, o0, rfl, hc0⟩ := unhide HP _ hW 0 (by simp)
    obtain ⟨b1, o1, e1, hc1⟩ := unhide HP _ hW 1 (by simp)
    simp only [Option.some.injEq, Addr.mk.injEq] at e1
    obtain ⟨rfl, rfl, _⟩ := e1
    simp only [List.length_cons, List.length_nil, List.getElem_cons_zero, List.getElem_cons_succ, Nat.add_zero, Nat.zero_add, Nat.reduceAdd] at hc0 hc1 ⊢
    clear hv hx hrp hnp HP hm hW
    go_enter Tryz.func135, Tryz.ntmps135
    go_wp2
    refine wp_loop_rounds 3 ?_
    rw [rounds_succ]
    go_wp2
    rw [rounds_succ]
    go_wp2
    rw [rounds_succ]
    go_wp2
    go_ret
    exact ⟨by rw [unhide HV]; first | rfl | (simp; done) | go_num, (Below.refl _ _).alloc (Nat.le_refl _) _⟩

theorem limb_any (ap : Option Addr) (l : List Nat) (cap i : Nat) (w : World) (hr : Row w (.slice ap l.length cap) l) :
    Calls Tryz.prog 171 #[.agg #[.slice ap l.length cap], .int .i64 (i : Int)] w fun e w' => e = .returned (.int .u64 ((l.getD i 0 : Nat) : Int)) ∧ Below w.heap.size w w' := by
  have HP : Hid (Cells w ap l) := hr.cells.2.2.2
  have hl : l.length ≤ 9223372036854775807 := by have := hr.cells.2; omega
  have hW : Below w.heap.size w (w.alloc (.cells #[.slice ap l.length cap] 81)) := (Below.refl _ _).alloc (Nat.le_refl _) _
  by_cases h : i < l.length
  · obtain ⟨b, o, rfl, hc⟩ := unhide HP _ hW i h
    have HV : Hid (l.getD i 0 = l[i]) := by show _ = _; simp [List.getD, h]
    generalize l[i] = x at *
    generalize l.getD i 0 = y at *
    generalize l.length = n at *
    clear HP hr hW
    go_enter Tryz.func171, Tryz.ntmps171
    go_wp2
    go_ret
    exact ⟨by rw [unhide HV]; rfl, (Below.refl _ _).alloc (Nat.le_refl _) _⟩
  · have HV : Hid (l.getD i 0 = 0) := by show _ = _; simp [List.getD, List.getElem?_eq_none (Nat.le_of_not_lt h)]
    generalize l.getD i 0 = y at *
    generalize l.length = n at *
    clear HP hr hW
    go_enter Tryz.func171, Tryz.ntmps171
    go_wp2
    go_ret
    exact ⟨by rw [unhide HV]; rfl, (Below.refl _ _).alloc (Nat.le_refl _) _⟩
end Go.Proofs.YtpoapffbpgnkpaaGreatDoor

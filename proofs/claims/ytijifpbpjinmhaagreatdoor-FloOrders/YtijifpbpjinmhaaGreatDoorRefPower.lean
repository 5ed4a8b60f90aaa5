/- The document's own Power. -/
import Derived.Test.YtijifpbpjinmhaaGreatDoorCmpMath
import Derived.Deep.QuietTactic
import Derived.BigQuiet
import Derived.Test.YtijifpbpjinmhaaGreatDoorBigText
import Derived.Deep.RegionHeld3
import Derived.Test.YtijifpbpjinmhaaGreatDoorTakeB
import Derived.Test.YtijifpbpjinmhaaGreatDoorRefDivide
import Derived.Test.YtijifpbpjinmhaaGreatDoorRefDivMath
set_option maxHeartbeats 1000000
set_option maxRecDepth 100000
namespace Cub
theorem lval_split (B : Nat) (a : List Nat) (j : Nat) (h : j < a.length) : lval B a = lval B (a.take j) + B ^ j * (a[j] + B * lval B (a.drop (j + 1))) := by
  have e := lval_append B (a.take j) (a.drop j)
  rw [List.take_append_drop, List.length_take, Nat.min_eq_left (by omega), List.drop_eq_getElem_cons h] at e
  exact e
theorem cmp_at {B : Nat} {a b : List Nat} (ha : limbs B a) (hl : a.length = b.length) (j : Nat) (h : j < a.length) (hd : a.drop (j + 1) = b.drop (j + 1)) (hlt : a[j] < b[j]) : lval B a < lval B b := by
  rw [lval_split B a j h, lval_split B b j (by omega), hd]
  have h1 : lval B (a.take j) < B ^ j := by
    have := lval_lt (B := B) (l := a.take j) (fun z hz => ha z (List.mem_of_mem_take hz))
    rwa [List.length_take, Nat.min_eq_left (by omega)] at this
  have h2 : B ^ j * (a[j] + B * lval B (b.drop (j + 1)) + 1) ≤ B ^ j * (b[j] + B * lval B (b.drop (j + 1))) := Nat.mul_le_mul_left _ (by omega)
  rw [Nat.mul_add (B ^ j) (a[j] + B * lval B (b.drop (j + 1))) 1] at h2
  omega
theorem cmp_len {a b : List Nat} (ha : limbs 1000000000 a) (hb : normal 1000000000 b) (h : a.length < b.length) : lval 1000000000 a < lval 1000000000 b := by
  have h1 := lval_lt ha
  have hne : b ≠ [] := by intro e; rw [e] at h; simp at h
  have h2 := normal_ge hb hne
  have h3 : 1000000000 ^ a.length ≤ 1000000000 ^ (b.length - 1) := Nat.pow_le_pow_right (by decide) (by omega)
  omega
theorem cmpN_lt {m n : Nat} (h : m < n) : cmpN m n = -1 := if_pos h
theorem cmpN_gt {m n : Nat} (h : n < m) : cmpN m n = 1 := by unfold cmpN; rw [if_neg (by omega), if_pos h]
theorem cmpN_eq (m : Nat) : cmpN m m = 0 := by unfold cmpN; rw [if_neg (by omega), if_neg (by omega)]
end Cub
namespace Go.Proofs.YtijifpbpjinmhaaGreatDoor
open Go.RowKit
theorem isNaN64_any (a : Int) (w : World) : Calls Tryz.prog 114 #[.int .u64 a] w fun e w' => e = .returned (.bool false) ∧ w' = w := by
  go_enter Tryz.func114, Tryz.ntmps114
  go_wp2
  go_ret
  exact ⟨rfl, rfl⟩
theorem cmp64_any (a b : Nat) (w : World) :
    Calls Tryz.prog 60 #[.int .u64 (a : Int), .int .u64 (b : Int)] w fun e w' => e = .returned (.int .i64 (Cub.cmpN a b)) ∧ w' = w := by
  rcases Nat.lt_trichotomy a b with h | h | h
  · rw [Cub.cmpN_lt h]
    have h1 : (a : Int) < (b : Int) := by omega
    go_enter Tryz.func60, Tryz.ntmps60
    go_wp2_with (go_at_call 114; refine (isNaN64_any _ _).mono ?_; rintro e w' ⟨rfl, rfl⟩)
    go_ret
    exact ⟨rfl, rfl⟩
  · subst h
    rw [Cub.cmpN_eq]
    go_enter Tryz.func60, Tryz.ntmps60
    go_wp2_with (go_at_call 114; refine (isNaN64_any _ _).mono ?_; rintro e w' ⟨rfl, rfl⟩)
    go_ret
    exact ⟨rfl, rfl⟩
  · rw [Cub.cmpN_gt h]
    have h1 : (b : Int) < (a : Int) := by omega
    go_enter Tryz.func60, Tryz.ntmps60
    go_wp2_with (go_at_call 114; refine (isNaN64_any _ _).mono ?_; rintro e w' ⟨rfl, rfl⟩)
    go_ret
    exact ⟨rfl, rfl⟩
theorem isNaNi_any (a : Int) (w : World) : Calls Tryz.prog 205 #[.int .i64 a] w fun e w' => e = .returned (.bool false) ∧ w' = w := by
  go_enter Tryz.func205, Tryz.ntmps205
  go_wp2
  go_ret
  exact ⟨rfl, rfl⟩
theorem cmpi_any (a b : Nat) (w : World) :
    Calls Tryz.prog 172 #[.int .i64 (a : Int), .int .i64 (b : Int)] w fun e w' => e = .returned (.int .i64 (Cub.cmpN a b)) ∧ w' = w := by
  rcases Nat.lt_trichotomy a b with h | h | h
  · rw [Cub.cmpN_lt h]
    have h1 : (a : Int) < (b : Int) := by omega
    go_enter Tryz.func172, Tryz.ntmps172
    go_wp2_with (go_at_call 205; refine (isNaNi_any _ _).mono ?_; rintro e w' ⟨rfl, rfl⟩)
    go_ret
    exact ⟨rfl, rfl⟩
  · subst h
    rw [Cub.cmpN_eq]
    go_enter Tryz.func172, Tryz.ntmps172
    go_wp2_with (go_at_call 205; refine (isNaNi_any _ _).mono ?_; rintro e w' ⟨rfl, rfl⟩)
    go_ret
    exact ⟨rfl, rfl⟩
  · rw [Cub.cmpN_gt h]
    have h1 : (b : Int) < (a : Int) := by omega
    go_enter Tryz.func172, Tryz.ntmps172
    go_wp2_with (go_at_call 205; refine (isNaNi_any _ _).mono ?_; rintro e w' ⟨rfl, rfl⟩)
    go_ret
    exact ⟨rfl, rfl⟩
theorem cmp_any (x y : Value) (m n : Nat) (w : World) (hx : IsBig w x m) (hy : IsBig w y n) :
    Calls Tryz.prog 124 #[x, y] w fun e w' => e = .returned (.int .i64 (Cub.cmpN m n)) ∧ Below w.heap.size w w' := by
  obtain ⟨ap, lp, cp, rfl, hlp, hrp, hnp, rfl⟩ := hx.form
  obtain ⟨aq, lq, cq, rfl, hlq, hrq, hnq, rfl⟩ := hy.form
  have HP : Hid (Cub.normal 1000000000 lp ∧ Cells w ap lp) := ⟨hnp, hrp.cells.2.2.2⟩
  have HQ : Hid (Cub.normal 1000000000 lq ∧ Cells w aq lq) := ⟨hnq, hrq.cells.2.2.2⟩
  obtain ⟨np, hnp'⟩ : ∃ np, np = lp.length := ⟨_, rfl⟩
  obtain ⟨nq, hnq'⟩ : ∃ nq, nq = lq.length := ⟨_, rfl⟩
  rw [← hnp'] at hlp ⊢
  rw [← hnq'] at hlq ⊢
  have HNP := hide hnp'
  have HNQ := hide hnq'
  clear hx hy hrp hrq hnp hnq hnp' hnq'
  by_cases hne : np = nq
  · subst hne
    have C78 : Hid (∀ W, Calls Tryz.prog 172 #[.int .i64 (np : Int), .int .i64 (np : Int)] W fun e w' => e = .returned (.int .i64 0) ∧ w' = W) := fun W => by have h := cmpi_any np np W; rw [Cub.cmpN_eq] at h; exact h
    go_enter Tryz.func124, Tryz.ntmps124
    go_wp2_with (go_at_call 172; refine (unhide C78 _).mono ?_; rintro e w' ⟨rfl, rfl⟩)
    go_loopw [6] (fun t wr => ∃ j : Nat, j ≤ np ∧ t = .int .i64 ((j : Int) - 1) ∧ Hid (lp.drop j = lq.drop j) ∧ wr.cell? ⟨w.heap.size, 0, none⟩ = some (.slice ap np cp) ∧ wr.cell? ⟨w.heap.size + 1, 0, none⟩ = some (.slice aq np cq) ∧ Below w.heap.size w wr) (fun t _ => (intOf t + 1).toNat)
    case atStart => exact ⟨np, Nat.le_refl _, rfl, by rw [List.drop_of_length_le (by have := unhide HNP; omega), List.drop_of_length_le (by have := unhide HNQ; omega)]; exact rfl, by simp [go_sem], by simp [go_sem], ((Below.refl _ _).alloc (Nat.le_refl _) _).alloc (by simp) _⟩
    case round =>
      obtain ⟨j, hj, rfl, HD, hb1, hb2, hbl⟩ := hrel
      by_cases hj0 : j = 0
      · subst hj0
        have HF : Hid (Cub.cmpN (Cub.lval 1000000000 lp) (Cub.lval 1000000000 lq) = 0) := by
          have h := unhide HD
          rw [List.drop_zero, List.drop_zero] at h
          rw [h, Cub.cmpN_eq]; exact rfl
        go_wp2
        go_ret
        exact ⟨by rw [unhide HF]; rfl, hbl⟩
      · obtain ⟨i, rfl⟩ : ∃ i, j = i + 1 := ⟨j - 1, by omega⟩
        have hip : i < lp.length := by have := unhide HNP; omega
        have hiq : i < lq.length := by have := unhide HNQ; omega
        obtain ⟨b1, o1, rfl, hc1⟩ := (unhide HP).2 wr hbl i hip
        obtain ⟨b2, o2, rfl, hc2⟩ := (unhide HQ).2 wr hbl i hiq
        obtain ⟨xv, hxv⟩ : ∃ xv, xv = lp[i] := ⟨_, rfl⟩
        obtain ⟨yv, hyv⟩ : ∃ yv, yv = lq[i] := ⟨_, rfl⟩
        rw [← hxv] at hc1
        rw [← hyv] at hc2
        obtain ⟨c, hc⟩ : ∃ c, c = Cub.cmpN xv yv := ⟨_, rfl⟩
        have C79 : Hid (∀ W, Calls Tryz.prog 60 #[.int .u64 (xv : Int), .int .u64 (yv : Int)] W fun e w' => e = .returned (.int .i64 c) ∧ w' = W) := fun W => by have h := cmp64_any xv yv W; rw [← hc] at h; exact h
        have hin' : (i : Int) < (np : Int) := by omega
        rw [show (((i + 1 : Nat) : Int) - 1) = (i : Int) from by omega]
        by_cases hxy : xv = yv
        · have hc0 : c = 0 := by rw [hc, hxy, Cub.cmpN_eq]
          subst hc0
          have HD' : Hid (lp.drop i = lq.drop i) := by
            rw [List.drop_eq_getElem_cons hip, List.drop_eq_getElem_cons hiq, unhide HD, ← hxv, ← hyv, hxy]; exact rfl
          clear hc hxy hxv hyv hj0
          go_wp2
          go_quiet ((go_at_call 60; exact Calls.quiet_of_same (unhide C79 _)))
          go_wp2
          go_roundw
          case rel => exact ⟨i, by omega, rfl, HD', hb1, hb2, below_drewN hbl _⟩
          case measure => simp [intOf]
        · have hcz : (c != 0) = true := by
            rw [hc, bne_iff_ne]
            rcases Nat.lt_or_ge xv yv with h | h
            · rw [Cub.cmpN_lt h]; omega
            · rw [Cub.cmpN_gt (show yv < xv by omega)]; omega
          have HF : Hid (Cub.cmpN (Cub.lval 1000000000 lp) (Cub.lval 1000000000 lq) = c) := by
            have hl : lp.length = lq.length := by rw [← unhide HNP, ← unhide HNQ]
            rw [hc]
            rcases Nat.lt_or_ge xv yv with h | h
            · rw [Cub.cmpN_lt h, Cub.cmpN_lt (Cub.cmp_at (unhide HP).1.1 hl i hip (unhide HD) (by rw [← hxv, ← hyv]; exact h))]; exact rfl
            · have h' : yv < xv := by omega
              rw [Cub.cmpN_gt h', Cub.cmpN_gt (Cub.cmp_at (unhide HQ).1.1 hl.symm i hiq (unhide HD).symm (by rw [← hxv, ← hyv]; exact h'))]; exact rfl
          clear hc hxy hxv hyv hj0
          go_wp2
          go_quiet ((go_at_call 60; exact Calls.quiet_of_same (unhide C79 _)))
          go_wp2
          go_ret
          exact ⟨by rw [unhide HF]; rfl, below_drewN hbl _⟩
  · obtain ⟨c, hc⟩ : ∃ c, c = Cub.cmpN np nq := ⟨_, rfl⟩
    have hfin : Cub.cmpN (Cub.lval 1000000000 lp) (Cub.lval 1000000000 lq) = c := by
      rw [hc]
      rcases Nat.lt_or_ge np nq with h | h
      · rw [Cub.cmpN_lt h, Cub.cmpN_lt (Cub.cmp_len (unhide HP).1.1 (unhide HQ).1 (by have := unhide HNP; have := unhide HNQ; omega))]
      · rw [Cub.cmpN_gt (show nq < np by omega), Cub.cmpN_gt (Cub.cmp_len (unhide HQ).1.1 (unhide HP).1 (by have := unhide HNP; have := unhide HNQ; omega))]
    have hc0 : (c != 0) = true := by
      rw [hc, bne_iff_ne]
      rcases Nat.lt_or_ge np nq with h | h
      · rw [Cub.cmpN_lt h]; omega
      · rw [Cub.cmpN_gt (show nq < np by omega)]; omega
    have C78 : Hid (∀ W, Calls Tryz.prog 172 #[.int .i64 (np : Int), .int .i64 (nq : Int)] W fun e w' => e = .returned (.int .i64 c) ∧ w' = W) := fun W => by have h := cmpi_any np nq W; rw [← hc] at h; exact h
    rw [hfin]
    clear hfin hc
    go_enter Tryz.func124, Tryz.ntmps124
    go_wp2_with (go_at_call 172; refine (unhide C78 _).mono ?_; rintro e w' ⟨rfl, rfl⟩)
    go_ret
    exact ⟨rfl, ((Below.refl _ _).alloc (Nat.le_refl _) _).alloc (by simp) _⟩
end Go.Proofs.YtijifpbpjinmhaaGreatDoor
namespace Cub
/-- In the one form: coprime, not over 0, no sign at 0. -/
structure Low (b : Bool) (n d : Nat) : Prop where
  pos : 0 < d
  cop : Nat.gcd n d = 1
  sign : b = true → n ≠ 0
/-- A size with its sign. -/
def sg (b : Bool) (n : Nat) : Int := if b then -(n : Int) else n
def valQ (b : Bool) (n d : Nat) : Rat := ((sg b n : Int) : Rat) / ((d : Nat) : Rat)
end Cub
namespace Go.Proofs.YtijifpbpjinmhaaGreatDoor
open Go.RowKit
/-- A Frac holds a sign and two numbers (its cells lie flat). -/
def IsFrac (w : World) (v : Value) (b : Bool) (n d : Nat) : Prop := ∃ s t, v = .agg #[.bool b, s, t] ∧ IsBig w (.agg #[s]) n ∧ IsBig w (.agg #[t]) d
theorem IsFrac.form {w : World} {v : Value} {b : Bool} {n d : Nat} (h : IsFrac w v b n d) : ∃ a1 l1 c1 a2 l2 c2, v = .agg #[.bool b, .slice a1 l1 c1, .slice a2 l2 c2] ∧ IsBig w (.agg #[.slice a1 l1 c1]) n ∧ IsBig w (.agg #[.slice a2 l2 c2]) d := by
  obtain ⟨s, t, rfl, h1, h2⟩ := h
  obtain ⟨a1, l1, c1, e1⟩ := h1.shape
  obtain ⟨a2, l2, c2, e2⟩ := h2.shape
  simp only [Value.agg.injEq, Array.mk.injEq, List.cons.injEq, and_true] at e1 e2
  subst e1 e2
  exact ⟨a1, l1, c1, a2, l2, c2, rfl, h1, h2⟩
/-- How far BigOf has come: what is told already, and what is left. -/
def OfInv (u : Nat) (L : List Nat) (q : Nat) : Prop := Cub.limbs 1000000000 L ∧ Cub.lval 1000000000 L + 1000000000 ^ L.length * q = u ∧ (q = 0 → Cub.normal 1000000000 L)
theorem OfInv.start (u : Nat) : OfInv u [] u := ⟨fun _ h => (by cases h), by simp [Cub.lval], fun _ => Cub.normal_nil _⟩
theorem OfInv.step {u : Nat} {L : List Nat} {q : Nat} (h : OfInv u L q) (hq : 0 < q) : OfInv u (L ++ [q % 1000000000]) (q / 1000000000) := by
  obtain ⟨h1, h2, h3⟩ := h
  have hl : Cub.limbs 1000000000 (L ++ [q % 1000000000]) := Cub.limbs_append.2 ⟨h1, fun x hx => by simp at hx; subst hx; exact Nat.mod_lt _ (by decide)⟩
  refine ⟨hl, ?_, fun h0 => ⟨hl, ?_⟩⟩
  · rw [Cub.lval_snoc, List.length_append, List.length_singleton, Nat.pow_succ, Nat.mul_assoc, Nat.add_assoc, ← Nat.mul_add]
    rw [Nat.mod_add_div]; exact h2
  · rw [List.getLast?_append]
    simp
    omega
theorem OfInv.short {u : Nat} {L : List Nat} {q : Nat} (h : OfInv u L q) (hq : 0 < q) (hu : u < 18446744073709551616) : L.length ≤ 2 := by
  have h2 := h.2.1
  have h3 : 1000000000 ^ L.length ≤ 1000000000 ^ L.length * q := Nat.le_mul_of_pos_right _ hq
  apply Decidable.byContradiction
  intro hc
  have h4 : 1000000000 ^ 3 ≤ 1000000000 ^ L.length := Nat.pow_le_pow_right (by decide) (by omega)
  omega
theorem bigOf_any (u : Nat) (w : World) (hu : u < 18446744073709551616) :
    Calls Tryz.prog 73 #[.int .u64 (u : Int)] w fun e w' => ∃ a n c, e = .returned (.agg #[.slice a n c]) ∧ IsBig w' (.agg #[.slice a n c]) u ∧ Below w.heap.size w w' := by
  obtain ⟨i0, hi, hz0, hz1, hz2⟩ := info_parts Tryz.info41
  go_enter Tryz.func73, Tryz.ntmps73
  go_wp2
  go_loopw [0, 3] (fun t v wr => ∃ (q : Nat) (L : List Nat), t = .int .u64 (q : Int) ∧ q < 18446744073709551616 ∧ L.length ≤ 3 ∧ Hid (OfInv u L q) ∧ wr.ownsRow (w.heap.size + 1) 41 1 v L.length (u64s L) ∧ Below (w.heap.size + 1) (w.alloc (.cells #[.slice none 0 0] 51)) wr) (fun t _ _ => (intOf t).toNat)
  case atStart => exact ⟨u, [], rfl, hu, by simp, OfInv.start u, ⟨rfl, Or.inl ⟨rfl, rfl⟩⟩, Below.refl _ _⟩
  case round =>
    obtain ⟨q, L, rfl, hq, hL, HI, hown, hb⟩ := hrel
    by_cases h0 : 0 < q
    · have hL2 := (unhide HI).short h0 hu
      have HI' := hide ((unhide HI).step h0)
      have hr : q % 1000000000 < 1000000000 := Nat.mod_lt _ (by decide)
      go_wp2_with (at_builtin; refine wpList_append_own _ rfl _ _ 49 rfl (w.heap.size + 1) 41 i0 (.int .u64 0) 1 8 Tryz.underlying49 hi hz0 hz1 hz2 rfl (by decide) _ _ _ rfl (hown.alloc _) ⟨wr.heap.size, 0, none⟩ 1 1 [.int .u64 ((q % 1000000000 : Nat) : Int)] rfl rfl (cell_one_new _ _ _) (fun x hx => by simp at hx; subst hx; rfl) (by unfold maxLen; omega) (by omega) (by have := hb.size; simp at this ⊢; omega) ?_; intro v' w1 hown' hgrow _)
      have hsz := hb.size
      have hb' : Below (w.heap.size + 1) (w.alloc (.cells #[.slice none 0 0] 51)) w1 := (hb.alloc (by simp at hsz; omega) _).grown hgrow (by simp at hsz ⊢; omega) (fun j hj => (hown.lt j hj).1)
      have hown2 : w1.ownsRow (w.heap.size + 1) 41 1 v' (L ++ [q % 1000000000]).length (u64s (L ++ [q % 1000000000])) := by simpa [u64s] using hown'
      clear hgrow hown' hown hsz
      go_wp2
      go_roundw
      case rel => exact ⟨q / 1000000000, L ++ [q % 1000000000], by go_num, by omega, by simp; omega, HI', hown2, hb'⟩
      case measure => simp [intOf]; omega
    · have hq0 : q = 0 := by omega
      subst hq0
      have hrow := Row.of_own hown
      have HF : Hid (Cub.lval 1000000000 L = u ∧ Cub.normal 1000000000 L) := ⟨by have := (unhide HI).2.1; simpa using this, (unhide HI).2.2 rfl⟩
      have hsz : w.heap.size + 1 ≤ wr.heap.size := by have := hb.size; simpa using this
      have hc0 : wr.cell? ⟨w.heap.size, 0, none⟩ = some (.slice none 0 0) := by rw [hb.cell (p := ⟨w.heap.size, 0, none⟩) (by simp)]; simp
      have hf0 : wr.frozen? ⟨w.heap.size, 0, none⟩ = false := by rw [hb.frozen (p := ⟨w.heap.size, 0, none⟩) (by simp)]; simp
      obtain ⟨a2, cap2, rfl, hcap2⟩ := hrow.form
      have HRow := hide hrow
      clear hrow hown
      go_wp2
      refine bodyPost_ret (v := .agg #[.slice a2 L.length cap2]) (by simp [results, Tryz.results73, go_sem, hc0]) rfl ⟨_, _, _, rfl, ?_, ?_⟩
      · exact ⟨_, _, rfl, (unhide HRow).box _ hc0 (fun _ _ h => by cases h), (unhide HF).2, (unhide HF).1⟩
      · exact (((Below.refl _ _).alloc (Nat.le_refl _) _).trans (hb.mono (Nat.le_succ _))).setCell (Nat.le_refl _) _
/-- A Frac's box: three cells. -/
structure FBox (W : World) (g : Nat) (x y z : Value) : Prop where
  c0 : W.cell? ⟨g, 0, none⟩ = some x
  c1 : W.cell? ⟨g, 1, none⟩ = some y
  c2 : W.cell? ⟨g, 2, none⟩ = some z
  f0 : W.frozen? ⟨g, 0, none⟩ = false
  f1 : W.frozen? ⟨g, 1, none⟩ = false
  f2 : W.frozen? ⟨g, 2, none⟩ = false
theorem FBox.lt {W : World} {g : Nat} {x y z : Value} (h : FBox W g x y z) : g < W.heap.size := World.block_lt_of_cell? _ _ h.c0
theorem FBox.later {W V : World} {g : Nat} {x y z : Value} (h : FBox W g x y z) (hb : Below W.heap.size W V) : FBox V g x y z :=
  ⟨(hb.cell (p := ⟨g, 0, none⟩) h.lt).trans h.c0, (hb.cell (p := ⟨g, 1, none⟩) h.lt).trans h.c1, (hb.cell (p := ⟨g, 2, none⟩) h.lt).trans h.c2,
    (hb.frozen (p := ⟨g, 0, none⟩) h.lt).trans h.f0, (hb.frozen (p := ⟨g, 1, none⟩) h.lt).trans h.f1, (hb.frozen (p := ⟨g, 2, none⟩) h.lt).trans h.f2⟩
/-- A whole Frac stored into its box. -/
def store3 (W : World) (g : Nat) (x y z : Value) : World := ((W.setCell ⟨g, 0, none⟩ x).setCell ⟨g, 1, none⟩ y).setCell ⟨g, 2, none⟩ z
theorem FBox.store {W : World} {g : Nat} {x y z : Value} (h : FBox W g x y z) (x' y' z' : Value) : FBox (store3 W g x' y' z') g x' y' z' := by
  have a1 : (W.setCell ⟨g, 0, none⟩ x').cell? ⟨g, 1, none⟩ = some y := by rw [World.cell?_setCell_other _ _ _ _ (by simp)]; exact h.c1
  have a2 : ((W.setCell ⟨g, 0, none⟩ x').setCell ⟨g, 1, none⟩ y').cell? ⟨g, 2, none⟩ = some z := by rw [World.cell?_setCell_other _ _ _ _ (by simp), World.cell?_setCell_other _ _ _ _ (by simp)]; exact h.c2
  unfold store3
  refine ⟨?_, ?_, World.cell?_setCell_same _ _ _ a2, ?_, ?_, ?_⟩
  · rw [World.cell?_setCell_other _ _ _ _ (by simp), World.cell?_setCell_other _ _ _ _ (by simp)]; exact World.cell?_setCell_same _ _ _ h.c0
  · rw [World.cell?_setCell_other _ _ _ _ (by simp)]; exact World.cell?_setCell_same _ _ _ a1
  · rw [World.frozen?_setCell, World.frozen?_setCell, World.frozen?_setCell]; exact h.f0
  · rw [World.frozen?_setCell, World.frozen?_setCell, World.frozen?_setCell]; exact h.f1
  · rw [World.frozen?_setCell, World.frozen?_setCell, World.frozen?_setCell]; exact h.f2
theorem FBox.big {W : World} {g : Nat} {b : Bool} {a1 a2 : Option Addr} {l1 c1 l2 c2 : Nat} (h : FBox W g (.bool b) (.slice a1 l1 c1) (.slice a2 l2 c2)) (x' y' z' : Value) {v : Value} {n : Nat} (hv : IsBig W v n) : IsBig (store3 W g x' y' z') v n := by
  have e1 : (W.setCell ⟨g, 0, none⟩ x').cell? ⟨g, 1, none⟩ = some (.slice a1 l1 c1) := by rw [World.cell?_setCell_other _ _ _ _ (by simp)]; exact h.c1
  have e2 : ((W.setCell ⟨g, 0, none⟩ x').setCell ⟨g, 1, none⟩ y').cell? ⟨g, 2, none⟩ = some (.slice a2 l2 c2) := by rw [World.cell?_setCell_other _ _ _ _ (by simp), World.cell?_setCell_other _ _ _ _ (by simp)]; exact h.c2
  exact ((hv.box _ h.c0 (fun _ _ e => by cases e)).box _ e1 (not_int _ _ _)).box _ e2 (not_int _ _ _)
theorem below_store3 {B g : Nat} {w W : World} (h : Below B w W) (hg : B ≤ g) (x y z : Value) : Below B w (store3 W g x y z) :=
  ((h.setCell (p := ⟨g, 0, none⟩) hg x).setCell (p := ⟨g, 1, none⟩) hg y).setCell (p := ⟨g, 2, none⟩) hg z
theorem lit_tb (s : ByteArray) (n : Nat) (h : Cub.rightB s.data.toList = true) (hv : Cub.dval s.data.toList = n) : s = tb n ∧ n < 10 ^ 600 := by
  obtain ⟨m, hm, rfl⟩ := tb_of h
  have := (tb_right m hm).2
  have e : m = n := this.symm.trans hv
  subst e
  exact ⟨rfl, hm⟩
/-- A number's text. -/
def tx (n : Nat) : ByteArray := ⟨(Lib.decDigits n).toArray⟩
theorem tx_list (n : Nat) : (tx n).data.toList = Lib.decDigits n := rfl
theorem tx_val (n : Nat) : val (tx n) = n := Cub.dval_dec n
theorem tx_nat (n : Nat) : Cub.isNat (tx n).data.toList := Cub.isNat_dec n
theorem tx_tb (n : Nat) (h : n < 10 ^ 600) : tb n = tx n := (mk_tb n h).symm
theorem tx_size {d n : Nat} (hd : 1 ≤ d) (h : n < 10 ^ d) : (tx n).size ≤ d := by
  have := (Cub.dec_len_lt n d hd).2 h
  rw [← tx_list, list_len] at this
  exact this
theorem tx_zero : ((tx 0).toList == [48]) = true := by
  rw [Lib.toList_data, tx_list, dec_zero]; rfl
theorem tx_pos (n : Nat) (h0 : 0 < n) : ((tx n).toList == [48]) = false := by
  rw [Lib.toList_data, tx_list, beq_eq_false_iff_ne]
  intro e
  rw [← dec_zero] at e
  have := Cub.dec_inj e
  omega
theorem refDivideM (d m n : Nat) (w : World) (hd1 : 1 ≤ d) (hd : d ≤ 5000) (hm : m < 10 ^ d) (hn : n < 10 ^ d) (h0 : 0 < n) :
    Calls Tryz.prog 83 #[.string (tx m), .string (tx n)] w fun e w' => e = .returned (.tuple #[.string (tx (m / n)), .string (tx (m % n))]) ∧ Below w.heap.size w w' := by
  have h := refDivideG (tx m) (tx n) w (tx_nat m) (tx_nat n) (Nat.le_trans (tx_size hd1 hm) hd) (Nat.le_trans (tx_size hd1 hn) hd) (by rw [tx_val]; exact h0)
  rw [tx_val, tx_val] at h
  exact h
theorem refPlusM (d m n : Nat) (w : World) (hd1 : 1 ≤ d) (hd : d ≤ 5000) (hm : m < 10 ^ d) (hn : n < 10 ^ d) :
    Calls Tryz.prog 84 #[.string (tx m), .string (tx n)] w fun e w' => e = .returned (.string (tx (m + n))) ∧ Below w.heap.size w w' := by
  have s1 := tx_size hd1 hm
  have s2 := tx_size hd1 hn
  have h := refPlus_any (tx m) (tx n) w (by omega) (by omega) (tx_nat m).1 (tx_nat n).1
  rw [show Cub.dval (tx m).data.toList = m from tx_val m, show Cub.dval (tx n).data.toList = n from tx_val n] at h
  exact h
theorem refTimesS_any (s t : ByteArray) (w : World) (hs : s.size ≤ 100000) (ht : t.size ≤ 100000) (hds : Cub.digs s.data.toList) (hdt : Cub.digs t.data.toList) :
    Calls Tryz.prog 70 #[.string s, .string t] w fun e w' => e = .returned (.string ⟨(Lib.decDigits (Cub.dval s.data.toList * Cub.dval t.data.toList)).toArray⟩) ∧ Below w.heap.size w w' := by
  have HDS := hide hds
  have HDT := hide hdt
  clear hds hdt
  go_enter Tryz.func70, Tryz.ntmps70
  go_wp2_with (first
    | (go_at_call_of 119 s; refine (refLimbs_any s _ (by omega) (unhide HDS)).mono ?_; rintro e w1 ⟨vx, lx, rfl, hox, hnx, hvx, hb1⟩; have HX := hide (And.intro hnx (And.intro hvx hox)); have hbx : lx.length ≤ 100000 := (by have := Cub.len_le4 (unhide HDS) hnx hvx; rw [list_len] at this; omega); clear hnx hvx hox)
    | (go_at_call_of 119 t; refine (refLimbs_any t _ (by omega) (unhide HDT)).mono ?_; rintro e w2 ⟨vy, ly, rfl, hoy, hny, hvy, hb2⟩; have HY := hide (And.intro hny (And.intro hvy hoy)); have hby : ly.length ≤ 100000 := (by have := Cub.len_le4 (unhide HDT) hny hvy; rw [list_len] at this; omega); clear hny hvy hoy)
    | (go_at_call 118; refine (refTimes_any vx vy _ _ lx ly _ ((unhide HX).2.2.later hb2) (unhide HY).2.2 (unhide HX).1.1 (unhide HY).1.1 (by omega) (by omega)).mono ?_; rintro e w3 ⟨vz, lz, rfl, hoz, hnz, hvz, hlz, hb3⟩; have HZ := hide (And.intro hnz (And.intro hvz hoz)); clear hnz hvz hoz)
    | (go_at_call 117; refine (refText_any _ _ _ _ (unhide HZ).2.2 (unhide HZ).1 (by omega)).mono ?_; rintro e w4 ⟨rfl, hb4⟩))
  go_ret
  have hb12 := hb1.trans (hb2.mono hb1.size)
  have hb13 := hb12.trans (hb3.mono hb12.size)
  exact ⟨by rw [← (unhide HX).2.1, ← (unhide HY).2.1, ← (unhide HZ).2.1]; rfl, hb13.trans (hb4.mono hb13.size)⟩
theorem refTimesM (d m n : Nat) (w : World) (hd1 : 1 ≤ d) (hd : d ≤ 5000) (hm : m < 10 ^ d) (hn : n < 10 ^ d) :
    Calls Tryz.prog 70 #[.string (tx m), .string (tx n)] w fun e w' => e = .returned (.string (tx (m * n))) ∧ Below w.heap.size w w' := by
  have s1 := tx_size hd1 hm
  have s2 := tx_size hd1 hn
  have h := refTimesS_any (tx m) (tx n) w (by omega) (by omega) (tx_nat m).1 (tx_nat n).1
  rw [show Cub.dval (tx m).data.toList = m from tx_val m, show Cub.dval (tx n).data.toList = n from tx_val n] at h
  exact h
/-- How far Euclid's steps have come. -/
def ComInvM (d M N m n : Nat) (a b : ByteArray) : Prop := a = tx m ∧ b = tx n ∧ m < 10 ^ d ∧ n < 10 ^ d ∧ Nat.gcd m n = Nat.gcd M N
theorem refCommonM (d M N : Nat) (w : World) (hd1 : 1 ≤ d) (hd : d ≤ 5000) (hM : M < 10 ^ d) (hN : N < 10 ^ d) :
    Calls Tryz.prog 80 #[.string (tx M), .string (tx N)] w fun e w' => e = .returned (.string (tx (Nat.gcd M N))) ∧ Below w.heap.size w w' := by
  have HI : Hid (ComInvM d M N M N (tx M) (tx N)) := ⟨rfl, rfl, hM, hN, rfl⟩
  have HD : Hid (∀ m n (a b : ByteArray), ComInvM d M N m n a b → 0 < n → ∃ c r : ByteArray, ComInvM d M N n (m % n) b r ∧ ∀ W, Calls Tryz.prog 83 #[.string a, .string b] W fun e w' => e = .returned (.tuple #[.string c, .string r]) ∧ Below W.heap.size W w') := fun m n a b h h0 => by
    obtain ⟨rfl, rfl, hm, hn, hg⟩ := h
    refine ⟨tx (m / n), tx (m % n), ⟨rfl, rfl, hn, mod_lt' m n d hm, ?_⟩, fun W => refDivideM d m n W hd1 hd hm hn h0⟩
    rw [← hg, Nat.gcd_comm m n, Nat.gcd_rec n m, Nat.gcd_comm]
  have HZ : Hid (∀ m n (a b : ByteArray), ComInvM d M N m n a b → 0 < n → (b.toList == [48]) = false) := fun m n a b h h0 => by
    obtain ⟨rfl, rfl, hm, hn, hg⟩ := h
    exact tx_pos n h0
  have HE : Hid (∀ m (a b : ByteArray), ComInvM d M N m 0 a b → (b.toList == [48]) = true ∧ a = tx (Nat.gcd M N)) := fun m a b h => by
    obtain ⟨rfl, rfl, hm, hn, hg⟩ := h
    rw [Nat.gcd_zero_right] at hg
    exact ⟨tx_zero, by rw [← hg]⟩
  generalize tx M = a0 at *
  generalize tx N = b0 at *
  clear hM hN hd1 hd
  go_enter Tryz.func80, Tryz.ntmps80
  go_wp2
  go_loopg [0, 1] N (fun z v0 v1 wr => ∃ (m n : Nat) (a b : ByteArray), v0 = .string a ∧ v1 = .string b ∧ Hid (z = n) ∧ Hid (ComInvM d M N m n a b) ∧ Hid (Below w.heap.size w wr))
  case atStart => exact ⟨M, N, a0, b0, rfl, rfl, rfl, HI, Below.refl _ _⟩
  case round =>
    obtain ⟨m, n, a, b, rfl, rfl, HK, HC, HW⟩ := hrel
    clear HI
    rcases Nat.eq_zero_or_pos n with h0 | h0
    · subst h0
      obtain ⟨e1, e2⟩ := unhide HE m a b (unhide HC)
      have HV := hide e2
      clear e2 HE HD HZ HC
      go_wp2_with fail
      go_ret
      exact ⟨by rw [← unhide HV]; rfl, unhide HW⟩
    · have e1 := unhide HZ m n a b (unhide HC) h0
      obtain ⟨c, r, hc, hd⟩ := unhide HD m n a b (unhide HC) h0
      have HC2 := hide hc
      have HD2 := hide hd
      have HLT : Hid (m % n < n) := Nat.mod_lt _ h0
      clear hc hd HE HD HZ HC h0
      go_wp2_with (go_at_call 83; go_must (refine (unhide HD2 wr).mono ?_; rintro e w2 ⟨rfl, hb2⟩; have HW2 := hide ((unhide HW).trans (hb2.mono (unhide HW).size)); clear hb2))
      go_roundg (m % n)
      case measure => have := unhide HK; have := unhide HLT; omega
      case rel => exact ⟨n, m % n, b, r, rfl, rfl, rfl, HC2, HW2⟩
theorem toList_less (s t : ByteArray) (hs : Cub.isNat s.data.toList) (ht : Cub.isNat t.data.toList) (hl : s.size = t.size) : Op.bytesLess s.toList t.toList = decide (Cub.dval s.data.toList < Cub.dval t.data.toList) := by
  rw [Lib.toList_data, Lib.toList_data]
  exact Cub.bytesLess_dval _ _ hs.1 ht.1 (by rw [list_len, list_len]; exact hl)
theorem toList_same (s t : ByteArray) (hs : Cub.isNat s.data.toList) (ht : Cub.isNat t.data.toList) : (s.toList == t.toList) = decide (Cub.dval s.data.toList = Cub.dval t.data.toList) := by
  rw [Lib.toList_data, Lib.toList_data, Bool.eq_iff_iff, beq_iff_eq, decide_eq_true_eq]
  exact ⟨fun h => by rw [h], fun h => Cub.dval_inj hs ht h⟩
theorem compare_any (s t : ByteArray) (w : World) (hs : Cub.isNat s.data.toList) (ht : Cub.isNat t.data.toList) :
    Calls Tryz.prog 69 #[.string s, .string t] w fun e w' => e = .returned (.int .i64 (Cub.cmpN (Cub.dval s.data.toList) (Cub.dval t.data.toList))) ∧ w' = w := by
  by_cases hl : s.size = t.size
  · have hne : ((s.size : Int) != (t.size : Int)) = false := by rw [hl]; simp
    have hless := toList_less s t hs ht hl
    have hsame := toList_same s t hs ht
    by_cases hc : Cub.dval s.data.toList < Cub.dval t.data.toList
    · have e : Cub.cmpN (Cub.dval s.data.toList) (Cub.dval t.data.toList) = -1 := if_pos hc
      rw [e]
      rw [decide_eq_true hc] at hless
      clear hsame hs ht hl e hc
      go_enter Tryz.func69, Tryz.ntmps69
      go_wp2
      go_ret
      exact ⟨rfl, rfl⟩
    · rw [decide_eq_false hc] at hless
      by_cases hc2 : Cub.dval t.data.toList < Cub.dval s.data.toList
      · have e : Cub.cmpN (Cub.dval s.data.toList) (Cub.dval t.data.toList) = 1 := by unfold Cub.cmpN; rw [if_neg hc, if_pos hc2]
        rw [e]
        rw [decide_eq_false (by omega)] at hsame
        clear hs ht hl e hc hc2
        go_enter Tryz.func69, Tryz.ntmps69
        go_wp2
        go_ret
        exact ⟨rfl, rfl⟩
      · have e : Cub.cmpN (Cub.dval s.data.toList) (Cub.dval t.data.toList) = 0 := by unfold Cub.cmpN; rw [if_neg hc, if_neg hc2]
        rw [e]
        rw [decide_eq_true (by omega)] at hsame
        clear hs ht hl e hc hc2
        go_enter Tryz.func69, Tryz.ntmps69
        go_wp2
        go_ret
        exact ⟨rfl, rfl⟩
  · have hne : ((s.size : Int) != (t.size : Int)) = true := by rw [bne_iff_ne]; omega
    by_cases hlt : s.size < t.size
    · have e : Cub.cmpN (Cub.dval s.data.toList) (Cub.dval t.data.toList) = -1 := if_pos (Cub.len_lt_dval hs ht (by rw [list_len, list_len]; exact hlt))
      rw [e]
      clear hs ht hl e
      go_enter Tryz.func69, Tryz.ntmps69
      go_wp2
      go_ret
      exact ⟨rfl, rfl⟩
    · have e0 := Cub.len_lt_dval ht hs (by rw [list_len, list_len]; omega)
      have e : Cub.cmpN (Cub.dval s.data.toList) (Cub.dval t.data.toList) = 1 := by unfold Cub.cmpN; rw [if_neg (by omega), if_pos e0]
      rw [e]
      clear hs ht hl e e0
      go_enter Tryz.func69, Tryz.ntmps69
      go_wp2
      go_ret
      exact ⟨rfl, rfl⟩
theorem refCompareM (m n : Nat) (w : World) : Calls Tryz.prog 69 #[.string (tx m), .string (tx n)] w fun e w' => e = .returned (.int .i64 (Cub.cmpN m n)) ∧ w' = w := by
  have h := compare_any (tx m) (tx n) w (tx_nat m) (tx_nat n)
  rw [show Cub.dval (tx m).data.toList = m from tx_val m, show Cub.dval (tx n).data.toList = n from tx_val n] at h
  exact h
/-- How far Power has come: what is there times what is still to come is the power; nothing on the way is M or above. -/
def PowInv (P M out a q : Nat) : Prop := out * a ^ q = P ∧ out < M ∧ (0 < q → a < M) ∧ (out = 0 → a = 0)
theorem PowInv.start (m n M : Nat) (h : m ^ n < M) (h1 : 1 < M) : PowInv (m ^ n) M 1 m n := by
  refine ⟨Nat.one_mul _, h1, fun hn => ?_, fun h => by omega⟩
  by_cases h0 : m = 0
  · omega
  · have : m ^ 1 ≤ m ^ n := Nat.pow_le_pow_right (by omega) hn
    rw [Nat.pow_one] at this; omega
theorem PowInv.last {P M out a : Nat} (h : PowInv P M out a 0) : out = P := by
  have := h.1; rw [Nat.pow_zero, Nat.mul_one] at this; exact this
theorem sq_pow (a q : Nat) : (a * a) ^ (q / 2) * a ^ (q % 2) = a ^ q := by
  rw [← Nat.pow_two, ← Nat.pow_mul, ← Nat.pow_add]
  congr 1; omega
theorem PowInv.outLt {P M out a q : Nat} (h : PowInv P M out a q) (hP : P < M) (hq : 0 < q) : out * a < M := by
  by_cases h0 : a = 0
  · subst h0; have := h.2.1; omega
  · have h1 : a ^ 1 ≤ a ^ q := Nat.pow_le_pow_right (by omega) hq
    rw [Nat.pow_one] at h1
    have h2 : out * a ≤ out * a ^ q := Nat.mul_le_mul_left _ h1
    have := h.1; omega
theorem PowInv.sqLt {P M out a q : Nat} (h : PowInv P M out a q) (hP : P < M) (hq : 2 ≤ q) : a * a < M := by
  by_cases h0 : a = 0
  · subst h0; have := h.2.1; omega
  · have h1 : a ^ 2 ≤ a ^ q := Nat.pow_le_pow_right (by omega) hq
    rw [Nat.pow_two] at h1
    have h2 : 0 < out := Nat.pos_of_ne_zero fun e => h0 (h.2.2.2 e)
    have h3 : a ^ q ≤ out * a ^ q := Nat.le_mul_of_pos_left _ h2
    have := h.1; omega
theorem PowInv.odd {P M out a q : Nat} (h : PowInv P M out a q) (hP : P < M) (hq : q % 2 = 1) : PowInv P M (out * a) (a * a) (q / 2) := by
  refine ⟨?_, h.outLt hP (by omega), fun h2 => h.sqLt hP (by omega), fun e => ?_⟩
  · rw [← h.1, ← sq_pow a q, hq, Nat.pow_one, Nat.mul_assoc, Nat.mul_comm a]
  · rcases Nat.mul_eq_zero.1 e with e | e
    · rw [h.2.2.2 e]
    · rw [e]
theorem PowInv.even {P M out a q : Nat} (h : PowInv P M out a q) (hP : P < M) (hq : q % 2 = 0) (h0 : 0 < q) : PowInv P M out (a * a) (q / 2) := by
  refine ⟨?_, h.2.1, fun h2 => h.sqLt hP (by omega), fun e => ?_⟩
  · rw [← h.1, ← sq_pow a q, hq, Nat.pow_zero, Nat.mul_one]
  · rw [h.2.2.2 e]
/-- The last square is not taken. -/
theorem PowInv.any {P M out a q b : Nat} (h : PowInv P M out a q) (hq : q = 0) (hb : out = 0 → b = 0) : PowInv P M out b q := by
  subst hq
  exact ⟨h.1, h.2.1, fun h => by omega, hb⟩
theorem tx_one : tx 1 = ⟨#[49]⟩ := by rw [← tx_tb 1 (lit_tb ⟨#[49]⟩ 1 (by decide) (by decide)).2]; exact (lit_tb ⟨#[49]⟩ 1 (by decide) (by decide)).1.symm
theorem timesNN (m n r K : Nat) (w : World) (hK : 1 ≤ K) (hK2 : K ≤ 100000) (hm : m < 10 ^ K) (hn : n < 10 ^ K) (hr : r = m * n) :
    Calls Tryz.prog 70 #[.string (tx m), .string (tx n)] w fun e w' => e = .returned (.string (tx r)) ∧ Below w.heap.size w w' := by
  subst hr
  have h := refTimesS_any (tx m) (tx n) w (Nat.le_trans (tx_size hK hm) hK2) (Nat.le_trans (tx_size hK hn) hK2) (tx_nat m).1 (tx_nat n).1
  rw [show Cub.dval (tx m).data.toList = m from tx_val m, show Cub.dval (tx n).data.toList = n from tx_val n] at h
  exact h
theorem refPower_any (m n K : Nat) (w : World) (hn : n ≤ 9223372036854775807) (hK : 1 ≤ K) (hK2 : K ≤ 100000) (hP : m ^ n < 10 ^ K) :
    Calls Tryz.prog 103 #[.string (tx m), .int .i64 (n : Int)] w fun e w' => e = .returned (.string (tx (m ^ n))) ∧ Below w.heap.size w w' := by
  have HS := hide (PowInv.start m n (10 ^ K) hP (Nat.one_lt_pow (by omega) (by decide)))
  have HP := hide hP
  clear hP
  go_enter Tryz.func103, Tryz.ntmps103
  go_wp2
  go_loopw [0, 1, 5] (fun a t o wr => ∃ (av q ov : Nat), a = .string (tx av) ∧ t = .int .i64 (q : Int) ∧ o = .string (tx ov) ∧ q ≤ 9223372036854775807 ∧ Hid (PowInv (m ^ n) (10 ^ K) ov av q) ∧ Below w.heap.size w wr) (fun _ t _ _ => (intOf t).toNat)
  case atStart => exact ⟨m, n, 1, rfl, rfl, by rw [tx_one], hn, HS, Below.refl _ _⟩
  case round =>
    obtain ⟨av, q, ov, rfl, rfl, rfl, hq, HI, hbl⟩ := hrel
    by_cases h0 : 0 < q
    · have H1 := hide (fun W => timesNN ov av (ov * av) K W hK hK2 (unhide HI).2.1 ((unhide HI).2.2.1 h0) rfl)
      have H2 := hide (fun W => timesNN av av (av * av) K W hK hK2 ((unhide HI).2.2.1 h0) ((unhide HI).2.2.1 h0) rfl)
      have HO := hide (fun h => (unhide HI).odd (unhide HP) h)
      have HE := hide (fun h => (unhide HI).even (unhide HP) h h0)
      generalize hA : tx av = A at *
      generalize hO : tx ov = O at *
      generalize hAA : tx (av * av) = AA at *
      generalize hOA : tx (ov * av) = OA at *
      have HEQ := hide (And.intro (And.intro hA hO) (And.intro hAA hOA))
      clear hA hO hAA hOA
      by_cases h1 : q % 2 = 1
      · by_cases h2 : 2 ≤ q
        · go_wp2_with (first
            | (go_at_call_of 70 O; refine (unhide H1 _).mono ?_; rintro e w2 ⟨rfl, hc2⟩; have hb2 := hbl.trans (hc2.mono hbl.size); clear hc2)
            | (go_at_call_of 70 A; refine (unhide H2 _).mono ?_; rintro e w3 ⟨rfl, hc3⟩; have hb3 := hb2.trans (hc3.mono hb2.size); clear hc3))
          go_roundw
          case rel => exact ⟨av * av, q / 2, ov * av, by rw [(unhide HEQ).2.1], by go_num, by rw [(unhide HEQ).2.2], by omega, unhide HO h1, hb3⟩
          case measure => simp [intOf]; omega
        · have hq1 : q = 1 := by omega
          subst hq1
          have HI1 : Hid (PowInv (m ^ n) (10 ^ K) (ov * av) av 0) := (unhide HO (by decide)).any (by decide) (fun e => by
            rcases Nat.mul_eq_zero.1 e with e | e
            · exact (unhide HI).2.2.2 e
            · exact e)
          go_wp2_with (go_at_call_of 70 O; refine (unhide H1 _).mono ?_; rintro e w2 ⟨rfl, hc2⟩; have hb2 := hbl.trans (hc2.mono hbl.size); clear hc2)
          go_roundw
          case rel => exact ⟨av, 0, ov * av, by rw [(unhide HEQ).1.1], by go_num, by rw [(unhide HEQ).2.2], by omega, HI1, hb2⟩
          case measure => simp [intOf]
      · have h2 : 2 ≤ q := by omega
        have h3 : q % 2 = 0 := by omega
        go_wp2_with (go_at_call_of 70 A; refine (unhide H2 _).mono ?_; rintro e w2 ⟨rfl, hc2⟩; have hb2 := hbl.trans (hc2.mono hbl.size); clear hc2)
        go_roundw
        case rel => exact ⟨av * av, q / 2, ov, by rw [(unhide HEQ).2.1], by go_num, by rw [(unhide HEQ).1.2], by omega, unhide HE h3, hb2⟩
        case measure => simp [intOf]; omega
    · have hq0 : q = 0 := by omega
      subst hq0
      have HL := hide (unhide HI).last
      go_wp2
      go_ret
      exact ⟨by rw [unhide HL]; rfl, hbl⟩
end Go.Proofs.YtijifpbpjinmhaaGreatDoor

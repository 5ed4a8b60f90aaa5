/- nat.guess: never too few. -/
import Derived.Test.YthcihkgellginaaDoorDivMod
import Derived.Deep.QuietTactic
import Derived.BigQuiet
namespace Cub
/-- How far the guess has come: d is not too few; r is what is left of the head. -/
structure GuessInv (h w0 y1 y2 d r : Nat) : Prop where
  lt : d < 1000000000
  sum : r + d * y1 = h
  few : ∀ q, q < 1000000000 → q * y1 ≤ h → q * (y1 * 1000000000 + y2) ≤ h * 1000000000 + w0 → q ≤ d
theorem GuessInv.start (h w0 y1 y2 : Nat) (hy : 0 < y1) : GuessInv h w0 y1 y2 (min (h / y1) 999999999) (h - min (h / y1) 999999999 * y1) := by
  have h1 : min (h / y1) 999999999 * y1 ≤ h := Nat.le_trans (Nat.mul_le_mul_right _ (Nat.min_le_left _ _)) (Nat.div_mul_le_self h y1)
  refine ⟨by omega, by omega, fun q hq hqh _ => ?_⟩
  have h2 : q ≤ h / y1 := (Nat.le_div_iff_mul_le hy).2 hqh
  omega
theorem GuessInv.step {h w0 y1 y2 d r : Nat} (i : GuessInv h w0 y1 y2 d r) (hgt : r * 1000000000 + w0 < d * y2) : 1 ≤ d ∧ GuessInv h w0 y1 y2 (d - 1) (r + y1) := by
  have hd : 1 ≤ d := by
    rcases Nat.eq_zero_or_pos d with e | e
    · subst e; omega
    · exact e
  obtain ⟨e, rfl⟩ : ∃ e, d = e + 1 := ⟨d - 1, by omega⟩
  have h1 := i.sum
  have h2 := i.lt
  refine ⟨hd, by omega, ?_, fun q hq hqh hqm => ?_⟩
  · rw [Nat.add_sub_cancel]
    rw [Nat.add_mul, Nat.one_mul] at h1
    omega
  · have h3 := i.few q hq hqh hqm
    rcases Nat.lt_or_ge e q with h4 | h4
    · have h5 : q = e + 1 := by omega
      subst h5
      rw [Nat.mul_add, ← Nat.mul_assoc] at hqm
      have h6 := congrArg (· * 1000000000) h1
      simp only [Nat.add_mul (_ : Nat) _ 1000000000] at h6
      omega
    · omega
end Cub
namespace Go.Proofs.YthcihkgellginaaDoor
open Go.RowKit

theorem guess_min (h y d : Nat) (hB : h < 1000000000000000000) (hd : d = min (h / y) 999999999) :
    (if 999999999 < IntKind.u64.wrap ((h : Int) / (y : Int)) then (999999999 : Int) else IntKind.u64.wrap ((h : Int) / (y : Int))) = (d : Int) := by
  have h1 := Nat.div_le_self h y
  have e : (h : Int) / (y : Int) = ((h / y : Nat) : Int) := (Int.natCast_ediv h y).symm
  rw [e]
  generalize h / y = q at *
  have w1 : IntKind.u64.wrap (q : Int) = (q : Int) := by rw [IntKind.wrap_u64]; omega
  rw [w1, hd]
  split <;> omega

theorem guess_min' (h y d : Nat) (hB : h < 1000000000000000000) (hd : d = min (h / y) 999999999) :
    min (IntKind.u64.wrap ((h : Int) / (y : Int))) 999999999 = (d : Int) := by
  have h1 := guess_min h y d hB hd
  rw [← h1]
  split <;> omega

set_option maxRecDepth 100000 in
set_option maxHeartbeats 1000000 in
theorem guess_any (gw ow n cw : Nat) (ab : Option Addr) (cb w0 w1 w2 y1 y2 : Nat) (gb ob : Nat) (w : World) (hn : 2 ≤ n) (hn2 : n ≤ 10000000) (hcw : n + 1 ≤ cw)
    (hab : ab = some ⟨gb, ob, none⟩) (h2 : w.cell? ⟨gw, ow + n, none⟩ = some (.int .u64 (w2 : Int))) (h1 : w.cell? ⟨gw, ow + (n - 1), none⟩ = some (.int .u64 (w1 : Int))) (h0 : w.cell? ⟨gw, ow + (n - 2), none⟩ = some (.int .u64 (w0 : Int)))
    (k1 : w.cell? ⟨gb, ob + (n - 1), none⟩ = some (.int .u64 (y1 : Int))) (k2 : w.cell? ⟨gb, ob + (n - 2), none⟩ = some (.int .u64 (y2 : Int)))
    (l0 : w0 < 1000000000) (l1 : w1 < 1000000000) (l2 : w2 < 1000000000) (m1 : y1 < 1000000000) (m2 : y2 < 1000000000) (hy : 0 < y1) :
    Calls Tryd.prog 107 #[.slice (some ⟨gw, ow, none⟩) (n + 1) cw, .slice ab n cb] w fun e w' => ∃ d : Nat, e = .returned (.int .u64 (d : Int)) ∧ d < 1000000000 ∧ (∀ q, q < 1000000000 → q * y1 ≤ w2 * 1000000000 + w1 → q * (y1 * 1000000000 + y2) ≤ (w2 * 1000000000 + w1) * 1000000000 + w0 → q ≤ d) ∧ Below w.heap.size w w' := by
  subst hab
  obtain ⟨p, rfl⟩ : ∃ p, n = p + 2 := ⟨n - 2, by omega⟩
  rw [show p + 2 - 1 = p + 1 by omega] at h1 k1
  rw [show p + 2 - 2 = p by omega] at h0 k2
  obtain ⟨h, hh⟩ : ∃ h, h = w2 * 1000000000 + w1 := ⟨_, rfl⟩
  have hB : h < 1000000000000000000 := by omega
  have hhI : (w2 : Int) * 1000000000 + (w1 : Int) = (h : Int) := by omega
  have HG := hide (Cub.GuessInv.start h w0 y1 y2 hy)
  rw [← hh]
  have HHI := hide hhI
  clear hh hhI
  go_enter Tryd.func107, Tryd.ntmps107
  go_wp2
  have j1 : (p : Int) + 2 < (p : Int) + 2 + 1 := by omega
  have j2 : (p : Int) + 1 < (p : Int) + 2 + 1 := by omega
  have j3 : (p : Int) < (p : Int) + 2 + 1 := by omega
  have j4 : (p : Int) + 1 < (p : Int) + 2 := by omega
  have j5 : (p : Int) < (p : Int) + 2 := by omega
  go_quiet (fail)
  rw [unhide HHI]
  have hy0 : ¬ y1 = 0 := by omega
  go_upto_region 4 with fail
  obtain ⟨d0, hd0⟩ : ∃ d0, d0 = min (h / y1) 999999999 := ⟨_, rfl⟩
  first | rw [guess_min h y1 d0 hB hd0] | rw [guess_min' h y1 d0 hB hd0]
  rw [← hd0] at HG
  obtain ⟨m0, hm0⟩ : ∃ m0, m0 = d0 * y1 := ⟨_, rfl⟩
  have hmI : (d0 : Int) * (y1 : Int) = (m0 : Int) := by rw [hm0]; simp
  have hmh : m0 ≤ h := by have := (unhide HG).sum; rw [← hm0] at this; omega
  rw [← hm0] at HG
  clear hd0 hm0
  go_wp2
  go_loopw [7, 8] (fun a b wr => ∃ d r : Nat, a = .int .u64 (d : Int) ∧ b = .int .u64 (r : Int) ∧ r ≤ h ∧ Hid (Cub.GuessInv h w0 y1 y2 d r) ∧ Below w.heap.size w wr) (fun a _ _ => (intOf a).toNat)
  case atStart => exact ⟨d0, h - m0, rfl, by go_num, by omega, HG, below_drewN (Below.refl _ _) _⟩
  case round =>
    obtain ⟨d, r, rfl, rfl, hr, HI, hbl⟩ := hrel
    have h0' := (hbl.cell (p := ⟨gw, ow + p, none⟩) (World.block_lt_of_cell? _ _ h0)).trans h0
    have k1' := (hbl.cell (p := ⟨gb, ob + (p + 1), none⟩) (World.block_lt_of_cell? _ _ k1)).trans k1
    have k2' := (hbl.cell (p := ⟨gb, ob + p, none⟩) (World.block_lt_of_cell? _ _ k2)).trans k2
    clear hmI hmh HG
    have hdl := (unhide HI).lt
    obtain ⟨dy, hdy⟩ : ∃ dy, dy = d * y2 := ⟨_, rfl⟩
    have hdyI : (d : Int) * (y2 : Int) = (dy : Int) := by rw [hdy]; simp
    have hdyB : dy ≤ 999999999 * 999999999 := by rw [hdy]; exact Nat.mul_le_mul (by omega) (by omega)
    by_cases hrB : r < 1000000000
    · have hrd : decide ((r : Int) < 1000000000) = true := by rw [decide_eq_true_eq]; omega
      by_cases hgt : r * 1000000000 + w0 < dy
      · obtain ⟨hd1, hI'⟩ := (unhide HI).step (by rw [← hdy]; exact hgt)
        have HI' := hide hI'
        have hs := hI'.sum
        have hgI : decide ((r : Int) * 1000000000 + (w0 : Int) < (dy : Int)) = true := by rw [decide_eq_true_eq]; omega
        clear hI' hdy
        have hr2 : r + y1 ≤ h := by omega
        clear hs
        go_upto_region 5 with fail
        go_quiet (fail)
        go_wp2
        go_roundw
        case rel => exact ⟨d - 1, r + y1, by go_num, by go_num, hr2, HI', below_drewN hbl _⟩
        case measure => simp [intOf]; omega
      · have hgI : decide ((r : Int) * 1000000000 + (w0 : Int) < (dy : Int)) = false := by rw [decide_eq_false_iff_not]; omega
        clear hdy
        go_upto_region 5 with fail
        go_quiet (fail)
        go_wp2
        go_ret
        exact ⟨d, rfl, hdl, (unhide HI).few, below_drewN hbl _⟩
    · have hrd : decide ((r : Int) < 1000000000) = false := by rw [decide_eq_false_iff_not]; omega
      clear hdy
      go_upto_region 5 with fail
      go_quiet (fail)
      go_wp2
      go_ret
      exact ⟨d, rfl, hdl, (unhide HI).few, below_drewN hbl _⟩
end Go.Proofs.YthcihkgellginaaDoor

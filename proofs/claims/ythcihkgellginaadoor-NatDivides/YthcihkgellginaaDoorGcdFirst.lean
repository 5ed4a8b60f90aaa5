/- (Big).first: the first digits. -/
import Derived.Test.YthcihkgellginaaDoorGcdSmall
namespace Go.Proofs.YthcihkgellginaaDoor
open Go.RowKit

set_option maxRecDepth 100000 in
set_option maxHeartbeats 1000000 in
theorem first_any (ap : Option Addr) (l : List Nat) (cap t up x2 x1 x0 h e f : Nat) (w : World) (hr : Row w (.slice ap l.length cap) l) (e2 : l.getD (t + 2) 0 = x2) (e1 : l.getD (t + 1) 0 = x1) (e0 : l.getD t 0 = x0) (ht : t ≤ 1000000)
    (b2 : x2 < 1000000000) (b1 : x1 < 1000000000) (b0 : x0 < 1000000000) (hh : h = x2 * 1000000000 + x1) (hu : 1 ≤ up) (hu2 : up ≤ 1000000000) (he : e = 1000000000 / up) (hf : f = h * up + x0 / e) (hb : h * up < 1000000000000000000) :
    Calls Tryd.prog 110 #[.agg #[.slice ap l.length cap], .int .i64 ((t + 2 : Nat) : Int), .int .u64 (up : Int)] w fun e w' => e = .returned (.int .u64 (f : Int)) ∧ Below w.heap.size w w' := by
  have HX2 : Hid (∀ W : World, Below w.heap.size w W → Calls Tryd.prog 121 #[.agg #[.slice ap l.length cap], .int .i64 ((t + 2 : Nat) : Int)] W fun e w' => e = .returned (.int .u64 (x2 : Int)) ∧ Below W.heap.size W w') := fun W hW => by
    have := limb_any ap l cap (t + 2) W (hr.later hW); rw [e2] at this; exact this
  have HX1 : Hid (∀ W : World, Below w.heap.size w W → Calls Tryd.prog 121 #[.agg #[.slice ap l.length cap], .int .i64 ((t : Int) + 2 - 1)] W fun e w' => e = .returned (.int .u64 (x1 : Int)) ∧ Below W.heap.size W w') := fun W hW => by
    have := limb_any ap l cap (t + 1) W (hr.later hW); rw [e1, show ((t + 1 : Nat) : Int) = (t : Int) + 2 - 1 by omega] at this; exact this
  have HX0 : Hid (∀ W : World, Below w.heap.size w W → Calls Tryd.prog 121 #[.agg #[.slice ap l.length cap], .int .i64 (t : Int)] W fun e w' => e = .returned (.int .u64 (x0 : Int)) ∧ Below W.heap.size W w') := fun W hW => by
    have := limb_any ap l cap t W (hr.later hW); rw [e0] at this; exact this
  generalize l.length = n at *
  clear e2 e1 e0 hr
  have HHI : Hid ((x2 : Int) * 1000000000 + (x1 : Int) = (h : Int)) := by show _ = _; omega
  have hB : h < 1000000000000000000 := by omega
  have hup0 : ¬ up = 0 := by omega
  have he1 : 1 ≤ e := by rw [he]; exact (Nat.le_div_iff_mul_le (by omega)).2 (by omega)
  have he2 : e ≤ 1000000000 := by rw [he]; exact Nat.div_le_self _ _
  have he0 : ¬ e = 0 := by omega
  have hE : (1000000000 : Int) / (up : Int) = (e : Int) := by rw [he]; exact (Int.natCast_ediv 1000000000 up).symm
  have hxe : x0 / e ≤ x0 := Nat.div_le_self _ _
  have HF : Hid (IntKind.u64.wrap ((h : Int) * (up : Int) + IntKind.u64.wrap ((x0 : Int) / (e : Int))) = (f : Int)) := by
    show _ = _
    rw [← Int.natCast_ediv, ← Int.natCast_mul, IntKind.wrap_u64, IntKind.wrap_u64]
    generalize x0 / e = q at *
    generalize h * up = g at *
    omega
  clear he hf
  go_enter Tryd.func110, Tryd.ntmps110
  go_upto_region 1 with fail
  obtain ⟨W, hW⟩ : ∃ W, W = w.alloc (.cells #[.slice ap n cap] 60) := ⟨_, rfl⟩
  have HW : Hid (Below w.heap.size w W) := by rw [hW]; exact (Below.refl _ _).alloc (Nat.le_refl _) _
  have hsz : W.heap.size = w.heap.size + 1 := by rw [hW]; simp
  have hc : ∀ x : Later W, x.world.cell? ⟨w.heap.size, 0, none⟩ = some (.slice ap n cap) := fun x => by
    rw [x.below.cell (p := ⟨w.heap.size, 0, none⟩) (by rw [hsz]; exact Nat.lt_succ_self _), hW]; simp [go_sem]
  rw [← hW]
  clear hW hh
  refine quiet_later (by kernel_rfl) (by kernel_rfl) ?_
  iterate 4 (go_big_quiet_step ((rename_i xx; refine (unhide HX2 _ ((unhide HW).trans (xx.below.mono (unhide HW).size))).mono ?_; rintro e w9 ⟨rfl, hb9⟩; have hz := xx.below.trans (hb9.mono xx.below.size); first | exact ⟨rfl, ⟨w9, hz⟩, rfl⟩ | exact ⟨rfl, hz⟩ | exact ⟨rfl, w9, hz, rfl⟩)))
  repeat (go_big_quiet_step ((rename_i xx; refine (unhide HX1 _ ((unhide HW).trans (xx.below.mono (unhide HW).size))).mono ?_; rintro e w9 ⟨rfl, hb9⟩; have hz := xx.below.trans (hb9.mono xx.below.size); first | exact ⟨rfl, ⟨w9, hz⟩, rfl⟩ | exact ⟨rfl, hz⟩ | exact ⟨rfl, w9, hz, rfl⟩)))
  refine wpQuiet_nil ?_
  intro _ hw'
  obtain ⟨xz, hw''⟩ := hw'
  subst hw''
  rw [unhide HHI]
  obtain ⟨W2, hW2⟩ : ∃ W2, W2 = xz.world := ⟨_, rfl⟩
  have HW2 : Hid (Below W.heap.size W W2) := by rw [hW2]; exact xz.below
  have hc2 : ∀ x : Later W2, x.world.cell? ⟨w.heap.size, 0, none⟩ = some (.slice ap n cap) := fun x =>
    hc ⟨x.world, (unhide HW2).trans (x.below.mono (unhide HW2).size)⟩
  rw [← hW2]
  clear hW2 hc
  go_upto_region 2 with fail
  refine quiet_later (by kernel_rfl) (by kernel_rfl) ?_
  repeat (go_big_quiet_step ((rename_i xx; refine (unhide HX0 _ ((unhide HW).trans (((unhide HW2).trans (xx.below.mono (unhide HW2).size)).mono (unhide HW).size))).mono ?_; rintro e w9 ⟨rfl, hb9⟩; have hz := xx.below.trans (hb9.mono xx.below.size); first | exact ⟨rfl, ⟨w9, hz⟩, rfl⟩ | exact ⟨rfl, hz⟩ | exact ⟨rfl, w9, hz, rfl⟩)))
  refine wpQuiet_nil ?_
  intro _ hw'
  obtain ⟨xy, hw''⟩ := hw'
  subst hw''
  rw [unhide HF]
  go_wp2_with fail
  go_ret
  exact ⟨rfl, (unhide HW).trans (((unhide HW2).trans (xy.below.mono (unhide HW2).size)).mono (unhide HW).size)⟩
end Go.Proofs.YthcihkgellginaaDoor

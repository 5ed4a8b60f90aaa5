/- Frac.Cmp. -/
import Derived.Test.YtimihoonnglniaaGreatDoorGcdMath
import Derived.Test.YtimihoonnglniaaGreatDoorAddSigned
import Derived.Deep.QuietTactic
import Derived.BigQuiet
import Derived.WalkSmall
import Derived.Deep.Cut
import Derived.Deep.CutRange
import Derived.Deep.RegionWith
import Derived.Test.YtimihoonnglniaaGreatDoorMulMath
namespace Go.Proofs.YtimihoonnglniaaGreatDoor
open Go.RowKit

/-- The worlds that come behind one. -/
structure Later (w : World) where
  world : World
  below : Below w.heap.size w world
instance (w : World) : Nonempty (Later w) := ⟨⟨w, Below.refl _ _⟩⟩
/-- A region that draws its order, whose callees make new memory alone: one walk. -/
theorem quiet_later {P : Program} {id : Nat} {Q : Exit → Act → World → Prop} {a : Act} {w : World} {l : List Oper} (hm : P.follows .mixedOrders = true) (hB : Region.lexB .any l.toArray = true)
    (h : wpQuiet P l.toArray (fun w' => ∃ x : Later w, w' = x.world) (fun a' => ∀ w', (∃ x : Later w, w' = x.world) → Q .normal a' w') l a) : (Code.region id l.toArray true).wp P Q a w :=
  wp_region_quiet (C := fun w' => ∃ x : Later w, w' = x.world) hm hB ⟨⟨_, (Below.refl w.heap.size w).drew⟩, rfl⟩ (by simpa using h)

theorem gcdSmall_any (a b : Nat) (w : World) (ha : a < 18446744073709551616) (hb : b < 18446744073709551616) :
    Calls Tryz.prog 85 #[.int .u64 (a : Int), .int .u64 (b : Int)] w fun e w' => e = .returned (.int .u64 ((Nat.gcd a b : Nat) : Int)) ∧ Below w.heap.size w w' := by
  go_enter Tryz.func85, Tryz.ntmps85
  go_wp2
  go_loopw [0, 1] (fun u v wr => ∃ x y : Nat, u = .int .u64 (x : Int) ∧ v = .int .u64 (y : Int) ∧ x < 18446744073709551616 ∧ y < 18446744073709551616 ∧ Hid (Nat.gcd x y = Nat.gcd a b) ∧ Hid (Below w.heap.size w wr)) (fun _ v _ => (intOf v).toNat)
  case atStart => exact ⟨a, b, rfl, rfl, ha, hb, rfl, Below.refl _ _⟩
  case round =>
    obtain ⟨x, y, rfl, rfl, hx, hy, HG, HB⟩ := hrel
    by_cases h0 : 0 < y
    · have hy0 : ¬ y = 0 := by omega
      have h0' : (0 : Int) < (y : Int) := by omega
      have hlt : x % y < y := Nat.mod_lt _ h0
      have HG' : Hid (Nat.gcd y (x % y) = Nat.gcd a b) := by
        show _ = _
        rw [← unhide HG, Nat.gcd_comm x y, Nat.gcd_rec y x, Nat.gcd_comm (x % y) y]
      go_upto_region 2 with fail
      go_quiet (fail)
      go_wp2
      go_roundw
      case rel => exact ⟨y, x % y, rfl, by go_num, hy, by omega, HG', below_drewN (unhide HB) _⟩
      case measure => simp [intOf]; omega
    · have hy0 : y = 0 := by omega
      subst hy0
      have HV : Hid (x = Nat.gcd a b) := by show _ = _; rw [← unhide HG, Nat.gcd_zero_right]
      clear HG
      go_wp2
      go_ret
      exact ⟨by rw [← unhide HV]; rfl, unhide HB⟩

set_option maxRecDepth 100000 in
theorem bigSmall_any (x : Value) (m : Nat) (w : World) (hx : IsBig w x m) (hm : m < 1000000000000000000) :
    Calls Tryz.prog 86 #[x] w fun e w' => e = .returned (.int .u64 (m : Int)) ∧ Below w.heap.size w w' := by
  obtain ⟨ap, lp, cp, rfl, hlp, hrp, hnp, hv⟩ := hx.form
  have h2 : lp.length ≤ 2 := Cub.len_le hnp (by rw [hv]; omega)
  have HP : Hid (Cells w ap lp) := hrp.cells.2.2.2
  have hcs : lp = [] ∨ (∃ a, lp = [a]) ∨ ∃ a b, lp = [a, b] := by
    match lp, h2 with
    | [], _ => exact .inl rfl
    | [a], _ => exact .inr (.inl ⟨a, rfl⟩)
    | [a, b], _ => exact .inr (.inr ⟨a, b, rfl⟩)
  rcases hcs with rfl | ⟨a, rfl⟩ | ⟨a, b, rfl⟩
  · have HV : Hid (m = 0) := hv.symm
    clear hv hx hrp hnp HP hm
    simp only [List.length_nil]
    go_enter Tryz.func86, Tryz.ntmps86
    go_wp2
    refine wp_loop_rounds 1 ?_
    rw [rounds_succ]
    go_wp2
    go_ret
    exact ⟨by rw [unhide HV]; rfl, (Below.refl _ _).alloc (Nat.le_refl _) _⟩
  · have HV : Hid (m = a) := by show _ = _; rw [← hv]; simp [Cub.lval]
    have ha : a < 1000000000 := hnp.1 a (by simp)
    obtain ⟨b0, o0, rfl, hc0⟩ := unhide HP (w.alloc (.cells #[.slice ap 1 cp] 43)) ((Below.refl _ _).alloc (Nat.le_refl _) _) 0 (by simp)
    simp only [List.length_singleton, List.getElem_cons_zero, Nat.add_zero] at hc0 ⊢
    clear hv hx hrp hnp HP hm
    go_enter Tryz.func86, Tryz.ntmps86
    go_wp2
    refine wp_loop_rounds 2 ?_
    rw [rounds_succ]
    go_wp2
    rw [rounds_succ]
    go_wp2
    go_ret
    exact ⟨by rw [unhide HV]; first | rfl | (simp; done) | go_num, (Below.refl _ _).alloc (Nat.le_refl _) _⟩
  · have HV : Hid (m = b * 1000000000 + a) := by show _ = _; rw [← hv]; simp [Cub.lval]; omega
    have ha : a < 1000000000 := hnp.1 a (by simp)
    have hb : b < 1000000000 := hnp.1 b (by simp)
    have hW : Below w.heap.size w (w.alloc (.cells #[.slice ap 2 cp] 43)) := (Below.refl _ _).alloc (Nat.le_refl _) _
    obtain ⟨b0, o0, rfl, hc0⟩ := unhide HP _ hW 0 (by simp)
    obtain ⟨b1, o1, e1, hc1⟩ := unhide HP _ hW 1 (by simp)
    simp only [Option.some.injEq, Addr.mk.injEq] at e1
    obtain ⟨rfl, rfl, _⟩ := e1
    simp only [List.length_cons, List.length_nil, List.getElem_cons_zero, List.getElem_cons_succ, Nat.add_zero, Nat.zero_add, Nat.reduceAdd] at hc0 hc1 ⊢
    clear hv hx hrp hnp HP hm hW
    go_enter Tryz.func86, Tryz.ntmps86
    go_wp2
    refine wp_loop_rounds 3 ?_
    rw [rounds_succ]
    go_wp2
    rw [rounds_succ]
    go_wp2
    rw [rounds_succ]
    go_wp2
    go_ret
    exact ⟨by rw [unhide HV]; first | rfl | (simp; done) | go_num, (Below.refl _ _).alloc (Nat.le_refl _) _⟩

theorem limb_any (ap : Option Addr) (l : List Nat) (cap i : Nat) (w : World) (hr : Row w (.slice ap l.length cap) l) :
    Calls Tryz.prog 117 #[.agg #[.slice ap l.length cap], .int .i64 (i : Int)] w fun e w' => e = .returned (.int .u64 ((l.getD i 0 : Nat) : Int)) ∧ Below w.heap.size w w' := by
  have HP : Hid (Cells w ap l) := hr.cells.2.2.2
  have hl : l.length ≤ 9223372036854775807 := by have := hr.cells.2; omega
  have hW : Below w.heap.size w (w.alloc (.cells #[.slice ap l.length cap] 43)) := (Below.refl _ _).alloc (Nat.le_refl _) _
  by_cases h : i < l.length
  · obtain ⟨b, o, rfl, hc⟩ := unhide HP _ hW i h
    have HV : Hid (l.getD i 0 = l[i]) := by show _ = _; simp [List.getD, h]
    generalize l[i] = x at *
    generalize l.getD i 0 = y at *
    generalize l.length = n at *
    clear HP hr hW
    go_enter Tryz.func117, Tryz.ntmps117
    go_wp2
    go_ret
    exact ⟨by rw [unhide HV]; rfl, (Below.refl _ _).alloc (Nat.le_refl _) _⟩
  · have HV : Hid (l.getD i 0 = 0) := by show _ = _; simp [List.getD, List.getElem?_eq_none (Nat.le_of_not_lt h)]
    generalize l.getD i 0 = y at *
    generalize l.length = n at *
    clear HP hr hW
    go_enter Tryz.func117, Tryz.ntmps117
    go_wp2
    go_ret
    exact ⟨by rw [unhide HV]; rfl, (Below.refl _ _).alloc (Nat.le_refl _) _⟩
end Go.Proofs.YtimihoonnglniaaGreatDoor

namespace Go.Proofs.YtimihoonnglniaaGreatDoor
open Go.RowKit

/-- Two Fracs in their boxes. -/
structure F2 (w W : World) (x0 x1 x2 y0 y1 y2 : Value) : Prop where
  x : FBox W w.heap.size x0 x1 x2
  y : FBox W (w.heap.size + 1) y0 y1 y2
  below : Below w.heap.size w W
theorem F2.later {w W V : World} {x0 x1 x2 y0 y1 y2 : Value} (s : F2 w W x0 x1 x2 y0 y1 y2) (hb : Below W.heap.size W V) : F2 w V x0 x1 x2 y0 y1 y2 :=
  ⟨s.x.later hb, s.y.later hb, s.below.trans (hb.mono s.below.size)⟩
theorem F2.first (w : World) (x0 x1 x2 y0 y1 y2 : Value) : F2 w ((w.alloc (.cells #[x0, x1, x2] 45)).alloc (.cells #[y0, y1, y2] 45)) x0 x1 x2 y0 y1 y2 :=
  ⟨⟨by simp [go_sem], by simp [go_sem], by simp [go_sem], by simp [go_sem], by simp [go_sem], by simp [go_sem]⟩, ⟨by simp [go_sem], by simp [go_sem], by simp [go_sem], by simp [go_sem], by simp [go_sem], by simp [go_sem]⟩,
    ((Below.refl _ _).alloc (Nat.le_refl _) _).alloc (by simp) _⟩
theorem signI_val {b : Bool} {n d : Nat} (h : Cub.Low b n d) : signI b n = Cub.cmpQ (Cub.valQ b n d) 0 := Cub.sign_val h

end Go.Proofs.YtimihoonnglniaaGreatDoor

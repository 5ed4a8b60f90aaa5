/- A copy of elements of several cells. -/
import Derived.Test.YthcbhnggphdflaaGreatDoorLimb2
import Derived.Test.YthcbhnggphdflaaGreatDoorGcdMath
import Derived.Test.YthcbhnggphdflaaGreatDoorCmp
import Derived.Deep.QuietTactic
import Derived.BigQuiet
import Derived.WalkSmall
import Derived.Deep.Cut
import Derived.Deep.CutRange
import Derived.Deep.RegionWith
import Derived.Test.YthcbhnggphdflaaGreatDoorMulMath
import Derived.Laws.IdiomCopy
namespace Go.Proofs.YthcbhnggphdflaaGreatDoor
open Go.RowKit
/-- The worlds that come behind one. -/
structure Later (w : World) where
 world : World
 below : Below w.heap.size w world
instance (w : World) : Nonempty (Later w) := ⟨⟨w, Below.refl _ _⟩⟩
/-- A region that draws its order, whose callees make new memory alone: one walk. -/
theorem quiet_later {P : Program} {id : Nat} {Q : Exit → Act → World → Prop} {a : Act} {w : World} {l : List Oper} (hm : P.follows .mixedOrders = true) (hB : Region.lexB .any l.toArray = true)
  (h : wpQuiet P l.toArray (fun w' => ∃ x : Later w, w' = x.world) (fun a' => ∀ w', (∃ x : Later w, w' = x.world) → Q .normal a' w') l a) : (Code.region id l.toArray true).wp P Q a w :=
 wp_region_quiet (C := fun w' => ∃ x : Later w, w' = x.world) hm hB ⟨⟨_, (Below.refl w.heap.size w).drew⟩, rfl⟩ (by simpa using h)
theorem gcdSmall_any (a b : Nat) (w : World) (ha : a < 18446744073709551616) (hb : b < 18446744073709551616) :
  Calls Tryz.prog 176 #[.int .u64 (a : Int), .int .u64 (b : Int)] w fun e w' => e = .returned (.int .u64 ((Nat.gcd a b : Nat) : Int)) ∧ Below w.heap.size w w' := by
 go_enter Tryz.func176, Tryz.ntmps176
 go_wp2
 go_loopw [0, 1] (fun u v wr => ∃ x y : Nat, u = .int .u64 (x : Int) ∧ v = .int .u64 (y : Int) ∧ x < 18446744073709551616 ∧ y < 18446744073709551616 ∧ Hid (Nat.gcd x y = Nat.gcd a b) ∧ Hid (Below w.heap.size w wr)) (fun _ v _ => (intOf v).toNat)
 case atStart => exact ⟨a, b, rfl, rfl, ha, hb, rfl, Below.refl _ _⟩
 case round =>
  obtain ⟨x, y, rfl, rfl, hx, hy, HG, HB⟩ := hrel
  by_cases h0 : 0 < y
  ·have hy0 : ¬ y = 0 := by omega
   have h0' : (0 : Int) < (y : Int) := by omega
   have hlt : x % y < y := Nat.mod_lt _ h0
   have HG' : Hid (Nat.gcd y (x % y) = Nat.gcd a b) := by
    show _ = _
    rw [← un HG, Nat.gcd_comm x y, Nat.gcd_rec y x, Nat.gcd_comm (x % y) y]
   go_upto_region 2 with fail
   go_quiet (fail)
   go_wp2
   go_roundw
   case rel => exact ⟨y, x % y, rfl, by go_num, hy, by omega, HG', below_drewN (un HB) _⟩
   case measure => simp [intOf]; omega
  ·have hy0 : y = 0 := by omega
   subst hy0
   have HV : Hid (x = Nat.gcd a b) := by show _ = _; rw [← un HG, Nat.gcd_zero_right]
   clear HG
   go_wp2
   go_ret
   exact ⟨by rw [← un HV]; rfl, un HB⟩
set_option maxRecDepth 100000 in
theorem bigSmall_any (x : Value) (m : Nat) (w : World) (hx : IsBig w x m) (hm : m < 1000000000000000000) :
  Calls Tryz.prog 177 #[x] w fun e w' => e = .returned (.int .u64 (m : Int)) ∧ Below w.heap.size w w' := by
 obtain ⟨ap, lp, cp, rfl, hlp, hrp, hnp, hv⟩ := hx.form
 have h2 : lp.length ≤ 2 := Cub.len_le hnp (by rw [hv]; omega)
 have HP : Hid (Cells w ap lp) := hrp.cells.2.2.2
 have hcs : lp = [] ∨ (∃ a, lp = [a]) ∨ ∃ a b, lp = [a, b] := by
  match lp, h2 with
  | [], _ => exact .inl rfl
  | [a], _ => exact .inr (.inl ⟨a, rfl⟩)
  | [a, b], _ => exact .inr (.inr ⟨a, b, rfl⟩)
 rcases hcs with rfl | ⟨a, rfl⟩ | ⟨a, b, rfl⟩
 ·have HV : Hid (m = 0) := hv.symm
  clear hv hx hrp hnp HP hm
  simp only [List.length_nil]
  go_enter Tryz.func177, Tryz.ntmps177
  go_wp2
  refine wp_loop_rounds 1 ?_
  rw [rounds_succ]
  go_wp2
  go_ret
  exact ⟨by rw [un HV]; rfl, (Below.refl _ _).alloc (Nat.le_refl _) _⟩
 ·have HV : Hid (m = a) := by show _ = _; rw [← hv]; simp [Cub.lval]
  have ha : a < 1000000000 := hnp.1 a (by simp)
  obtain ⟨b0, o0, rfl, hc0⟩ := un HP (w.alloc (.cells #[.slice ap 1 cp] 116)) ((Below.refl _ _).alloc (Nat.le_refl _) _) 0 (by simp)
  simp only [List.length_singleton, List.getElem_cons_zero, Nat.add_zero] at hc0 ⊢
  clear hv hx hrp hnp HP hm
  go_enter Tryz.func177, Tryz.ntmps177
  go_wp2
  refine wp_loop_rounds 2 ?_
  rw [rounds_succ]
  go_wp2
  rw [rounds_succ]
  go_wp2
  go_ret
  exact ⟨by rw [un HV]; first | rfl | (simp; done) | go_num, (Below.refl _ _).alloc (Nat.le_refl _) _⟩
 ·have HV : Hid (m = b * 1000000000 + a) := by show _ = _; rw [← hv]; simp [Cub.lval]; omega
  have ha : a < 1000000000 := hnp.1 a (by simp)
  have hb : b < 1000000000 := hnp.1 b (by simp)
  have hW : Below w.heap.size w (w.alloc (.cells #[.slice ap 2 cp] 116)) := (Below.refl _ _).alloc (Nat.le_refl _) _
  obtain ⟨b0, o0, rfl, hc0⟩ := un HP _ hW 0 (by simp)
  obtain ⟨b1, o1, e1, hc1⟩ := un HP _ hW 1 (by simp)
  simp only [Option.some.injEq, Addr.mk.injEq] at e1
  obtain ⟨rfl, rfl, _⟩ := e1
  simp only [List.length_cons, List.length_nil, List.getElem_cons_zero, List.getElem_cons_succ, Nat.add_zero, Nat.zero_add, Nat.reduceAdd] at hc0 hc1 ⊢
  clear hv hx hrp hnp HP hm hW
  go_enter Tryz.func177, Tryz.ntmps177
  go_wp2
  refine wp_loop_rounds 3 ?_
  rw [rounds_succ]
  go_wp2
  rw [rounds_succ]
  go_wp2
  rw [rounds_succ]
  go_wp2
  go_ret
  exact ⟨by rw [un HV]; first | rfl | (simp; done) | go_num, (Below.refl _ _).alloc (Nat.le_refl _) _⟩
theorem limb_any (ap : Option Addr) (l : List Nat) (cap i : Nat) (w : World) (hr : Row w (.slice ap l.length cap) l) :
  Calls Tryz.prog 209 #[.agg #[.slice ap l.length cap], I (i : Int)] w fun e w' => e = .returned (.int .u64 ((l.getD i 0 : Nat) : Int)) ∧ Below w.heap.size w w' := by
 have HP : Hid (Cells w ap l) := hr.cells.2.2.2
 have hl : l.length ≤ 9223372036854775807 := by have := hr.cells.2; omega
 have hW : Below w.heap.size w (w.alloc (.cells #[.slice ap l.length cap] 116)) := (Below.refl _ _).alloc (Nat.le_refl _) _
 by_cases h : i < l.length
 ·obtain ⟨b, o, rfl, hc⟩ := un HP _ hW i h
  have HV : Hid (l.getD i 0 = l[i]) := by show _ = _; simp [List.getD, h]
  generalize l[i] = x at *
  generalize l.getD i 0 = y at *
  generalize l.length = n at *
  clear HP hr hW
  go_enter Tryz.func209, Tryz.ntmps209
  go_wp2
  go_ret
  exact ⟨by rw [un HV]; rfl, (Below.refl _ _).alloc (Nat.le_refl _) _⟩
 ·have HV : Hid (l.getD i 0 = 0) := by show _ = _; simp [List.getD, List.getElem?_eq_none (Nat.le_of_not_lt h)]
  generalize l.getD i 0 = y at *
  generalize l.length = n at *
  clear HP hr hW
  go_enter Tryz.func209, Tryz.ntmps209
  go_wp2
  go_ret
  exact ⟨by rw [un HV]; rfl, (Below.refl _ _).alloc (Nat.le_refl _) _⟩
end Go.Proofs.YthcbhnggphdflaaGreatDoor

namespace Go.Proofs.YthcbhnggphdflaaGreatDoor
open Go.RowKit
/-- Two Fracs in their boxes. -/
structure F2 (w W : World) (x0 x1 x2 y0 y1 y2 : Value) : Prop where
 x : FBox W w.heap.size x0 x1 x2
 y : FBox W (w.heap.size + 1) y0 y1 y2
 below : Below w.heap.size w W
theorem F2.later {w W V : World} {x0 x1 x2 y0 y1 y2 : Value} (s : F2 w W x0 x1 x2 y0 y1 y2) (hb : Below W.heap.size W V) : F2 w V x0 x1 x2 y0 y1 y2 :=
 ⟨s.x.later hb, s.y.later hb, s.below.trans (hb.mono s.below.size)⟩
theorem F2.first (w : World) (x0 x1 x2 y0 y1 y2 : Value) : F2 w ((w.alloc (.cells #[x0, x1, x2] 118)).alloc (.cells #[y0, y1, y2] 118)) x0 x1 x2 y0 y1 y2 :=
 ⟨⟨by simp [go_sem], by simp [go_sem], by simp [go_sem], by simp [go_sem], by simp [go_sem], by simp [go_sem]⟩, ⟨by simp [go_sem], by simp [go_sem], by simp [go_sem], by simp [go_sem], by simp [go_sem], by simp [go_sem]⟩,
  ((Below.refl _ _).alloc (Nat.le_refl _) _).alloc (by simp) _⟩
theorem signI_val {b : Bool} {n d : Nat} (h : Cub.Low b n d) : signI b n = Cub.cmpQ (Cub.valQ b n d) 0 := Cub.sign_val h
end Go.Proofs.YthcbhnggphdflaaGreatDoor

namespace Go.Proofs.YthcbhnggphdflaaGreatDoor
open Go.RowKit
theorem Box.new (W : World) (v : Value) : Box (W.alloc (.cells #[v] 116)) W.heap.size v := ⟨by simp [go_sem], by simp [go_sem]⟩
/-- Two Fracs, a Frac's box for the result, and boxes of one cell besides. -/
structure AS (w W : World) (x0 x1 x2 y0 y1 y2 : Value) (L : List (Nat × Value)) : Prop where
 x : FBox W w.heap.size x0 x1 x2
 y : FBox W (w.heap.size + 1) y0 y1 y2
 r : FBox W (w.heap.size + 1 + 1) (.bool false) (.slice none 0 0) (.slice none 0 0)
 bx : ∀ p ∈ L, Box W p.1 p.2
 gt : ∀ p ∈ L, w.heap.size + 1 + 1 < p.1
 below : Below w.heap.size w W
theorem AS.later {w W V : World} {x0 x1 x2 y0 y1 y2 : Value} {L : List (Nat × Value)} (s : AS w W x0 x1 x2 y0 y1 y2 L) (hb : Below W.heap.size W V) : AS w V x0 x1 x2 y0 y1 y2 L :=
 ⟨s.x.later hb, s.y.later hb, s.r.later hb, fun p hp => (s.bx p hp).later hb, s.gt, s.below.trans (hb.mono s.below.size)⟩
theorem AS.first (w : World) (x0 x1 x2 y0 y1 y2 : Value) : AS w (((w.alloc (.cells #[x0, x1, x2] 118)).alloc (.cells #[y0, y1, y2] 118)).alloc (.cells #[.bool false, .slice none 0 0, .slice none 0 0] 118)) x0 x1 x2 y0 y1 y2 [] :=
 ⟨⟨by simp [go_sem], by simp [go_sem], by simp [go_sem], by simp [go_sem], by simp [go_sem], by simp [go_sem]⟩, ⟨by simp [go_sem], by simp [go_sem], by simp [go_sem], by simp [go_sem], by simp [go_sem], by simp [go_sem]⟩,
  ⟨by simp [go_sem], by simp [go_sem], by simp [go_sem], by simp [go_sem], by simp [go_sem], by simp [go_sem]⟩, (fun _ h => by cases h), (fun _ h => by cases h),
  (((Below.refl _ _).alloc (Nat.le_refl _) _).alloc (by simp) _).alloc (by simp; omega) _⟩
theorem AS.push {w W : World} {x0 x1 x2 y0 y1 y2 : Value} {L : List (Nat × Value)} (s : AS w W x0 x1 x2 y0 y1 y2 L) (v : Value) : AS w (W.alloc (.cells #[v] 116)) x0 x1 x2 y0 y1 y2 ((W.heap.size, v) :: L) := by
 have t := s.later ((Below.refl W.heap.size W).alloc (Nat.le_refl _) (.cells #[v] 116))
 refine ⟨t.x, t.y, t.r, ?_, ?_, t.below⟩
 ·intro p hp
  rcases List.mem_cons.1 hp with rfl | hp
  ·exact ⟨by simp [go_sem], by simp [go_sem]⟩
  ·exact t.bx p hp
 ·intro p hp
  rcases List.mem_cons.1 hp with rfl | hp
  ·exact s.r.lt
  ·exact t.gt p hp
theorem AS.add {w W : World} {x0 x1 x2 y0 y1 y2 v : Value} {g : Nat} {L : List (Nat × Value)} (s : AS w W x0 x1 x2 y0 y1 y2 L) (hb : Box W g v) (hg : w.heap.size + 1 + 1 < g) : AS w W x0 x1 x2 y0 y1 y2 ((g, v) :: L) := by
 refine ⟨s.x, s.y, s.r, ?_, ?_, s.below⟩
 ·intro p hp
  rcases List.mem_cons.1 hp with rfl | hp
  ·exact hb
  ·exact s.bx p hp
 ·intro p hp
  rcases List.mem_cons.1 hp with rfl | hp
  ·exact hg
  ·exact s.gt p hp
theorem AS.set {w W : World} {x0 x1 x2 y0 y1 y2 v : Value} {g : Nat} {L : List (Nat × Value)} (s : AS w W x0 x1 x2 y0 y1 y2 ((g, v) :: L)) (h : ∀ p ∈ L, p.1 ≠ g) (u : Value) : AS w (W.setCell ⟨g, 0, none⟩ u) x0 x1 x2 y0 y1 y2 ((g, u) :: L) := by
 have hg : w.heap.size + 1 + 1 < g := s.gt (g, v) (by simp)
 refine ⟨s.x.other (by omega) u, s.y.other (by omega) u, s.r.other (by omega) u, ?_, ?_, s.below.setCell (by show w.heap.size ≤ g; omega) _⟩
 ·intro p hp
  rcases List.mem_cons.1 hp with rfl | hp
  ·exact (s.bx (g, v) (by simp)).set u
  ·exact (s.bx p (by simp [hp])).other (h p hp) u
 ·intro p hp
  rcases List.mem_cons.1 hp with rfl | hp
  ·exact hg
  ·exact s.gt p (by simp [hp])
end Go.Proofs.YthcbhnggphdflaaGreatDoor

namespace Go.Proofs.YthcbhnggphdflaaGreatDoor
open Go.RowKit
theorem run_copy_size {P : Program} (w : World) (dT sT ty elem : TypeId) (b o dLen dCap : Nat) (a : Addr) (sLen sCap S : Nat) (cs : List Value)
  (hu : P.underlying dT = some (.slice elem)) (hs : (P.info? elem).map (·.size) = some S) (hn : cs.length = Nat.min sLen dLen * S)
  (hsrc : ∀ j v, cs[j]? = some v → w.cell? (a.add j) = some v) (hc : ∀ j, j < cs.length → (w.cell? ⟨b, o + j, none⟩).isSome = true) (hf : ∀ j, j < cs.length → w.frozen? ⟨b, o + j, none⟩ = false) (h1 : ∀ v ∈ cs, v.oneCell' = true) :
  (Builtin.copy_ #[dT, sT] ty #[.slice (some ⟨b, o, none⟩) dLen dCap, .slice (some a) sLen sCap]).run P w = .ok (goInt (Nat.min sLen dLen)) (w.setCells b o cs) := by
 have hl := run_loadCells_list (P := P) w a cs hsrc
 have hst := run_storeCells_cells (P := P) b o cs 0 w (by simpa using hc) (by simpa using hf) h1
 cases hq : P.info? elem with
 | none => simp [hq] at hs
 | some i =>
  have hi : i.size = S := by simpa [hq] using hs
  simp [Builtin.copy_, run_underlying hu, Builtin.lenOf, Builtin.firstCells, sizeOf, typeInfo, hq, hi, ← hn, hl, hst]
theorem Tryz.elem111 : Tryz.prog.underlying 175 = some (.slice 118) := by kernel_rfl
theorem Tryz.size118 : (Tryz.prog.info? 118).map (·.size) = some 3 := by kernel_rfl
/-- Two Fracs of a slice copied into a new one. -/
theorem copy_two (B : Nat) (b c : Bool) (a1 a2 a3 a4 : Option Addr) (l1 d1 l2 d2 l3 d3 l4 d4 : Nat) (w : World)
  (c0 : w.cell? ⟨B, 0, none⟩ = some (.bool b)) (c1 : w.cell? ⟨B, 1, none⟩ = some (.slice a1 l1 d1)) (c2 : w.cell? ⟨B, 2, none⟩ = some (.slice a2 l2 d2)) (c3 : w.cell? ⟨B, 3, none⟩ = some (.bool c)) (c4 : w.cell? ⟨B, 4, none⟩ = some (.slice a3 l3 d3)) (c5 : w.cell? ⟨B, 5, none⟩ = some (.slice a4 l4 d4)) :
  (Builtin.copy_ #[175, 175] 3 #[.slice (some ⟨w.heap.size, 0, none⟩) 2 2, .slice (some ⟨B, 0, none⟩) 2 2]).run Tryz.prog (w.alloc (.cells #[.bool false, .slice none 0 0, .slice none 0 0, .bool false, .slice none 0 0, .slice none 0 0] 118)) =
   .ok (I 2) (w.alloc (.cells #[.bool b, .slice a1 l1 d1, .slice a2 l2 d2, .bool c, .slice a3 l3 d3, .slice a4 l4 d4] 118)) := by
 have hB : B < w.heap.size := World.block_lt_of_cell? _ _ c0
 have hne : ∀ k, (w.alloc (.cells #[.bool false, .slice none 0 0, .slice none 0 0, .bool false, .slice none 0 0, .slice none 0 0] 118)).cell? ⟨B, k, none⟩ = w.cell? ⟨B, k, none⟩ := fun k =>
  ((Below.refl w.heap.size w).alloc (Nat.le_refl _) _).cell (p := ⟨B, k, none⟩) hB
 have := run_copy_size (P := Tryz.prog) (w.alloc (.cells #[.bool false, .slice none 0 0, .slice none 0 0, .bool false, .slice none 0 0, .slice none 0 0] 118)) 175 175 3 118 w.heap.size 0 2 2 ⟨B, 0, none⟩ 2 2 3 [.bool b, .slice a1 l1 d1, .slice a2 l2 d2, .bool c, .slice a3 l3 d3, .slice a4 l4 d4] Tryz.elem111 Tryz.size118 rfl
  (by
   intro j v hv
   have hj : j < 6 := by have := (List.getElem?_eq_some_iff.1 hv).1; simpa using this
   have e : (⟨B, 0, none⟩ : Addr).add j = ⟨B, j, none⟩ := by unfold Addr.add; split <;> simp_all
   rw [e, hne]
   match j, hj with
   | 0, _ => rw [c0]; exact hv
   | 1, _ => rw [c1]; exact hv
   | 2, _ => rw [c2]; exact hv
   | 3, _ => rw [c3]; exact hv
   | 4, _ => rw [c4]; exact hv
   | 5, _ => rw [c5]; exact hv)
  (by
   intro j hj
   have hj : j < 6 := by simpa using hj
   match j, hj with
   | 0, _ => simp [go_sem]
   | 1, _ => simp [go_sem]
   | 2, _ => simp [go_sem]
   | 3, _ => simp [go_sem]
   | 4, _ => simp [go_sem]
   | 5, _ => simp [go_sem])
  (by intro j hj; simp [go_sem])
  (by intro v hv; simp at hv; rcases hv with rfl | rfl | rfl | rfl | rfl | rfl <;> rfl)
 rw [this]
 simp [World.setCells, go_sem, goInt]
end Go.Proofs.YthcbhnggphdflaaGreatDoor

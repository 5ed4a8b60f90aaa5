/- The first digits of two numbers, and what stands behind the steps: plain facts. No program is named here. -/
import Derived.Test.YtijifpbpjinmhaaGreatDoorGcdMath
import Derived.Test.YtijifpbpjinmhaaGreatDoorBigOf
import Derived.Deep.QuietTactic
import Derived.BigQuiet
import Derived.WalkSmall
import Derived.Deep.Cut
import Derived.Deep.CutRange
import Derived.Deep.RegionWith
import Derived.Laws.IdiomCopy
import Derived.OwnWalk
import Derived.WalkMore
import Derived.LoopN
import Derived.Deep.RegionHeld3
set_option maxHeartbeats 2000000
set_option maxRecDepth 100000
namespace Go.Proofs.YtijifpbpjinmhaaGreatDoor
open Go.RowKit
/-- The worlds that come behind one. -/
structure Later (w : World) where
  world : World
  below : Below w.heap.size w world
instance (w : World) : Nonempty (Later w) := ⟨⟨w, Below.refl _ _⟩⟩
/-- A region that draws its order, whose callees make new memory alone: one walk. -/
theorem quiet_later {P : Program} {id : Nat} {Q : Exit → Act → World → Prop} {a : Act} {w : World} {l : List Oper} (hm : P.follows .mixedOrders = true) (hB : Region.lexB .any l.toArray = true)
    (h : wpQuiet P l.toArray (fun w' => ∃ x : Later w, w' = x.world) (fun a' => ∀ w', (∃ x : Later w, w' = x.world) → Q .normal a' w') l a) : (Code.region id l.toArray true).wp P Q a w :=
  wp_region_quiet (C := fun w' => ∃ x : Later w, w' = x.world) hm hB ⟨⟨_, (Below.refl w.heap.size w).drew⟩, rfl⟩ (by simpa using h)
theorem gcdSmall_any (a b : Nat) (w : World) (ha : a < 18446744073709551616) (hb : b < 18446744073709551616) :
    Calls Tryz.prog 169 #[.int .u64 (a : Int), .int .u64 (b : Int)] w fun e w' => e = .returned (.int .u64 ((Nat.gcd a b : Nat) : Int)) ∧ Below w.heap.size w w' := by
  go_enter Tryz.func169, Tryz.ntmps169
  go_wp2
  go_loopw [0, 1] (fun u v wr => ∃ x y : Nat, u = .int .u64 (x : Int) ∧ v = .int .u64 (y : Int) ∧ x < 18446744073709551616 ∧ y < 18446744073709551616 ∧ Hid (Nat.gcd x y = Nat.gcd a b) ∧ Hid (Below w.heap.size w wr)) (fun _ v _ => (intOf v).toNat)
  case atStart => exact ⟨a, b, rfl, rfl, ha, hb, rfl, Below.refl _ _⟩
  case round =>
    obtain ⟨x, y, rfl, rfl, hx, hy, HG, HB⟩ := hrel
    by_cases h0 : 0 < y
    · have hy0 : ¬ y = 0 := by omega
      have h0' : (0 : Int) < (y : Int) := by omega
      have hlt : x % y < y := Nat.mod_lt _ h0
      have HG' : Hid (Nat.gcd y (x % y) = Nat.gcd a b) := by
        show _ = _
        rw [← unhide HG, Nat.gcd_comm x y, Nat.gcd_rec y x, Nat.gcd_comm (x % y) y]
      go_upto_region 2 with fail
      go_quiet (fail)
      go_wp2
      go_roundw
      case rel => exact ⟨y, x % y, rfl, by go_num, hy, by omega, HG', below_drewN (unhide HB) _⟩
      case measure => simp [intOf]; omega
    · have hy0 : y = 0 := by omega
      subst hy0
      have HV : Hid (x = Nat.gcd a b) := by show _ = _; rw [← unhide HG, Nat.gcd_zero_right]
      clear HG
      go_wp2
      go_ret
      exact ⟨by rw [← unhide HV]; rfl, unhide HB⟩
theorem bigSmall_any (x : Value) (m : Nat) (w : World) (hx : IsBig w x m) (hm : m < 1000000000000000000) :
    Calls Tryz.prog 170 #[x] w fun e w' => e = .returned (.int .u64 (m : Int)) ∧ Below w.heap.size w w' := by
  obtain ⟨ap, lp, cp, rfl, hlp, hrp, hnp, hv⟩ := hx.form
  have h2 : lp.length ≤ 2 := Cub.len_le hnp (by rw [hv]; omega)
  have HP : Hid (Cells w ap lp) := hrp.cells.2.2.2
  have hcs : lp = [] ∨ (∃ a, lp = [a]) ∨ ∃ a b, lp = [a, b] := by
    match lp, h2 with
    | [], _ => exact .inl rfl
    | [a], _ => exact .inr (.inl ⟨a, rfl⟩)
    | [a, b], _ => exact .inr (.inr ⟨a, b, rfl⟩)
  rcases hcs with rfl | ⟨a, rfl⟩ | ⟨a, b, rfl⟩
  · have HV : Hid (m = 0) := hv.symm
    clear hv hx hrp hnp HP hm
    simp only [List.length_nil]
    go_enter Tryz.func170, Tryz.ntmps170
    go_wp2
    refine wp_loop_rounds 1 ?_
    rw [rounds_succ]
    go_wp2
    go_ret
    exact ⟨by rw [unhide HV]; rfl, (Below.refl _ _).alloc (Nat.le_refl _) _⟩
  · have HV : Hid (m = a) := by show _ = _; rw [← hv]; simp [Cub.lval]
    have ha : a < 1000000000 := hnp.1 a (by simp)
    obtain ⟨b0, o0, rfl, hc0⟩ := unhide HP (w.alloc (.cells #[.slice ap 1 cp] 51)) ((Below.refl _ _).alloc (Nat.le_refl _) _) 0 (by simp)
    simp only [List.length_singleton, List.getElem_cons_zero, Nat.add_zero] at hc0 ⊢
    clear hv hx hrp hnp HP hm
    go_enter Tryz.func170, Tryz.ntmps170
    go_wp2
    refine wp_loop_rounds 2 ?_
    rw [rounds_succ]
    go_wp2
    rw [rounds_succ]
    go_wp2
    go_ret
    exact ⟨by rw [unhide HV]; first | rfl | (simp; done) | go_num, (Below.refl _ _).alloc (Nat.le_refl _) _⟩
  · have HV : Hid (m = b * 1000000000 + a) := by show _ = _; rw [← hv]; simp [Cub.lval]; omega
    have ha : a < 1000000000 := hnp.1 a (by simp)
    have hb : b < 1000000000 := hnp.1 b (by simp)
    have hW : Below w.heap.size w (w.alloc (.cells #[.slice ap 2 cp] 51)) := (Below.refl _ _).alloc (Nat.le_refl _) _
    obtain ⟨b0, o0, rfl, hc0⟩ := unhide HP _ hW 0 (by simp)
    obtain ⟨b1, o1, e1, hc1⟩ := unhide HP _ hW 1 (by simp)
    simp only [Option.some.injEq, Addr.mk.injEq] at e1
    obtain ⟨rfl, rfl, _⟩ := e1
    simp only [List.length_cons, List.length_nil, List.getElem_cons_zero, List.getElem_cons_succ, Nat.add_zero, Nat.zero_add, Nat.reduceAdd] at hc0 hc1 ⊢
    clear hv hx hrp hnp HP hm hW
    go_enter Tryz.func170, Tryz.ntmps170
    go_wp2
    refine wp_loop_rounds 3 ?_
    rw [rounds_succ]
    go_wp2
    rw [rounds_succ]
    go_wp2
    rw [rounds_succ]
    go_wp2
    go_ret
    exact ⟨by rw [unhide HV]; first | rfl | (simp; done) | go_num, (Below.refl _ _).alloc (Nat.le_refl _) _⟩
theorem limb_any (ap : Option Addr) (l : List Nat) (cap i : Nat) (w : World) (hr : Row w (.slice ap l.length cap) l) :
    Calls Tryz.prog 224 #[.agg #[.slice ap l.length cap], .int .i64 (i : Int)] w fun e w' => e = .returned (.int .u64 ((l.getD i 0 : Nat) : Int)) ∧ Below w.heap.size w w' := by
  have HP : Hid (Cells w ap l) := hr.cells.2.2.2
  have hl : l.length ≤ 9223372036854775807 := by have := hr.cells.2; omega
  have hW : Below w.heap.size w (w.alloc (.cells #[.slice ap l.length cap] 51)) := (Below.refl _ _).alloc (Nat.le_refl _) _
  by_cases h : i < l.length
  · obtain ⟨b, o, rfl, hc⟩ := unhide HP _ hW i h
    have HV : Hid (l.getD i 0 = l[i]) := by show _ = _; simp [List.getD, h]
    generalize l[i] = x at *
    generalize l.getD i 0 = y at *
    generalize l.length = n at *
    clear HP hr hW
    go_enter Tryz.func224, Tryz.ntmps224
    go_wp2
    go_ret
    exact ⟨by rw [unhide HV]; rfl, (Below.refl _ _).alloc (Nat.le_refl _) _⟩
  · have HV : Hid (l.getD i 0 = 0) := by show _ = _; simp [List.getD, List.getElem?_eq_none (Nat.le_of_not_lt h)]
    generalize l.getD i 0 = y at *
    generalize l.length = n at *
    clear HP hr hW
    go_enter Tryz.func224, Tryz.ntmps224
    go_wp2
    go_ret
    exact ⟨by rw [unhide HV]; rfl, (Below.refl _ _).alloc (Nat.le_refl _) _⟩
theorem Box.new (W : World) (v : Value) : Box (W.alloc (.cells #[v] 51)) W.heap.size v := ⟨by simp [go_sem], by simp [go_sem]⟩
theorem FBox.otherAt {W : World} {g k o : Nat} {x y z : Value} (h : FBox W g x y z) (hk : g ≠ k) (u : Value) : FBox (W.setCell ⟨k, o, none⟩ u) g x y z :=
  ⟨by rw [World.cell?_setCell_other _ _ _ _ (by intro e; exact hk (congrArg Addr.block e).symm)]; exact h.c0, by rw [World.cell?_setCell_other _ _ _ _ (by intro e; exact hk (congrArg Addr.block e).symm)]; exact h.c1, by rw [World.cell?_setCell_other _ _ _ _ (by intro e; exact hk (congrArg Addr.block e).symm)]; exact h.c2,
    by rw [World.frozen?_setCell]; exact h.f0, by rw [World.frozen?_setCell]; exact h.f1, by rw [World.frozen?_setCell]; exact h.f2⟩
theorem FBox.new (W : World) (x y z : Value) : FBox (W.alloc (.cells #[x, y, z] 98)) W.heap.size x y z :=
  ⟨by simp [go_sem], by simp [go_sem], by simp [go_sem], by simp [go_sem], by simp [go_sem], by simp [go_sem]⟩
theorem first_any (ap : Option Addr) (l : List Nat) (cap t up x2 x1 x0 h e f : Nat) (w : World) (hr : Row w (.slice ap l.length cap) l) (e2 : l.getD (t + 2) 0 = x2) (e1 : l.getD (t + 1) 0 = x1) (e0 : l.getD t 0 = x0) (ht : t ≤ 1000000)
    (b2 : x2 < 1000000000) (b1 : x1 < 1000000000) (b0 : x0 < 1000000000) (hh : h = x2 * 1000000000 + x1) (hu : 1 ≤ up) (hu2 : up ≤ 1000000000) (he : e = 1000000000 / up) (hf : f = h * up + x0 / e) (hb : h * up < 1000000000000000000) :
    Calls Tryz.prog 201 #[.agg #[.slice ap l.length cap], .int .i64 ((t + 2 : Nat) : Int), .int .u64 (up : Int)] w fun e w' => e = .returned (.int .u64 (f : Int)) ∧ Below w.heap.size w w' := by
  have HX2 : Hid (∀ W : World, Below w.heap.size w W → Calls Tryz.prog 224 #[.agg #[.slice ap l.length cap], .int .i64 ((t + 2 : Nat) : Int)] W fun e w' => e = .returned (.int .u64 (x2 : Int)) ∧ Below W.heap.size W w') := fun W hW => by
    have := limb_any ap l cap (t + 2) W (hr.later hW); rw [e2] at this; exact this
  have HX1 : Hid (∀ W : World, Below w.heap.size w W → Calls Tryz.prog 224 #[.agg #[.slice ap l.length cap], .int .i64 ((t : Int) + 2 - 1)] W fun e w' => e = .returned (.int .u64 (x1 : Int)) ∧ Below W.heap.size W w') := fun W hW => by
    have := limb_any ap l cap (t + 1) W (hr.later hW); rw [e1, show ((t + 1 : Nat) : Int) = (t : Int) + 2 - 1 by omega] at this; exact this
  have HX0 : Hid (∀ W : World, Below w.heap.size w W → Calls Tryz.prog 224 #[.agg #[.slice ap l.length cap], .int .i64 (t : Int)] W fun e w' => e = .returned (.int .u64 (x0 : Int)) ∧ Below W.heap.size W w') := fun W hW => by
    have := limb_any ap l cap t W (hr.later hW); rw [e0] at this; exact this
  generalize l.length = n at *
  clear e2 e1 e0 hr
  have HHI : Hid ((x2 : Int) * 1000000000 + (x1 : Int) = (h : Int)) := by show _ = _; omega
  have hB : h < 1000000000000000000 := by omega
  have hup0 : ¬ up = 0 := by omega
  have he1 : 1 ≤ e := by rw [he]; exact (Nat.le_div_iff_mul_le (by omega)).2 (by omega)
  have he2 : e ≤ 1000000000 := by rw [he]; exact Nat.div_le_self _ _
  have he0 : ¬ e = 0 := by omega
  have hE : (1000000000 : Int) / (up : Int) = (e : Int) := by rw [he]; exact (Int.natCast_ediv 1000000000 up).symm
  have hxe : x0 / e ≤ x0 := Nat.div_le_self _ _
  have HF : Hid (IntKind.u64.wrap ((h : Int) * (up : Int) + IntKind.u64.wrap ((x0 : Int) / (e : Int))) = (f : Int)) := by
    show _ = _
    rw [← Int.natCast_ediv, ← Int.natCast_mul, IntKind.wrap_u64, IntKind.wrap_u64]
    generalize x0 / e = q at *
    generalize h * up = g at *
    omega
  clear he hf
  go_enter Tryz.func201, Tryz.ntmps201
  go_upto_region 1 with fail
  obtain ⟨W, hW⟩ : ∃ W, W = w.alloc (.cells #[.slice ap n cap] 51) := ⟨_, rfl⟩
  have HW : Hid (Below w.heap.size w W) := by rw [hW]; exact (Below.refl _ _).alloc (Nat.le_refl _) _
  have hsz : W.heap.size = w.heap.size + 1 := by rw [hW]; simp
  have hc : ∀ x : Later W, x.world.cell? ⟨w.heap.size, 0, none⟩ = some (.slice ap n cap) := fun x => by
    rw [x.below.cell (p := ⟨w.heap.size, 0, none⟩) (by rw [hsz]; exact Nat.lt_succ_self _), hW]; simp [go_sem]
  rw [← hW]
  clear hW hh
  refine quiet_later (by kernel_rfl) (by kernel_rfl) ?_
  iterate 4 (go_big_quiet_step ((rename_i xx; refine (unhide HX2 _ ((unhide HW).trans (xx.below.mono (unhide HW).size))).mono ?_; rintro e w9 ⟨rfl, hb9⟩; have hz := xx.below.trans (hb9.mono xx.below.size); first | exact ⟨rfl, ⟨w9, hz⟩, rfl⟩ | exact ⟨rfl, hz⟩ | exact ⟨rfl, w9, hz, rfl⟩)))
  repeat (go_big_quiet_step ((rename_i xx; refine (unhide HX1 _ ((unhide HW).trans (xx.below.mono (unhide HW).size))).mono ?_; rintro e w9 ⟨rfl, hb9⟩; have hz := xx.below.trans (hb9.mono xx.below.size); first | exact ⟨rfl, ⟨w9, hz⟩, rfl⟩ | exact ⟨rfl, hz⟩ | exact ⟨rfl, w9, hz, rfl⟩)))
  refine wpQuiet_nil ?_
  intro _ hw'
  obtain ⟨xz, hw''⟩ := hw'
  subst hw''
  rw [unhide HHI]
  obtain ⟨W2, hW2⟩ : ∃ W2, W2 = xz.world := ⟨_, rfl⟩
  have HW2 : Hid (Below W.heap.size W W2) := by rw [hW2]; exact xz.below
  have hc2 : ∀ x : Later W2, x.world.cell? ⟨w.heap.size, 0, none⟩ = some (.slice ap n cap) := fun x =>
    hc ⟨x.world, (unhide HW2).trans (x.below.mono (unhide HW2).size)⟩
  rw [← hW2]
  clear hW2 hc
  go_upto_region 2 with fail
  refine quiet_later (by kernel_rfl) (by kernel_rfl) ?_
  repeat (go_big_quiet_step ((rename_i xx; refine (unhide HX0 _ ((unhide HW).trans (((unhide HW2).trans (xx.below.mono (unhide HW2).size)).mono (unhide HW).size))).mono ?_; rintro e w9 ⟨rfl, hb9⟩; have hz := xx.below.trans (hb9.mono xx.below.size); first | exact ⟨rfl, ⟨w9, hz⟩, rfl⟩ | exact ⟨rfl, hz⟩ | exact ⟨rfl, w9, hz, rfl⟩)))
  refine wpQuiet_nil ?_
  intro _ hw'
  obtain ⟨xy, hw''⟩ := hw'
  subst hw''
  rw [unhide HF]
  go_wp2_with fail
  go_ret
  exact ⟨rfl, (unhide HW).trans (((unhide HW2).trans (xy.below.mono (unhide HW2).size)).mono (unhide HW).size)⟩
theorem OutU.on {w wr W : World} {a b : Value} {N : Nat} {O : List Nat} (h : OutU w wr a b N O) (hb : Below wr.heap.size wr W) : OutU w W a b N O :=
  ⟨h.own.later hb h.own.lt, h.len, h.box.on (hb.mono h.box.size)⟩
theorem together_any (x y : Value) (b c N k : Nat) (t m : Int) (w : World) (hx : IsBig w x b) (hy : IsBig w y c) (hcb : c ≤ b) (hk : k ≤ 1000000) (hbk : b < 1000000000 ^ k)
    (ht : -1000000000 ≤ t ∧ t ≤ 1000000000) (hm : -1000000000 ≤ m ∧ m ≤ 1000000000) (hs : (0 ≤ t ∧ m ≤ 0) ∨ (t ≤ 0 ∧ 0 ≤ m)) (hN : (N : Int) = t * (b : Int) + m * (c : Int)) (hNb : N ≤ b) :
    Calls Tryz.prog 202 #[x, y, .int .i64 t, .int .i64 m] w fun e w' => ∃ a n c, e = .returned (.agg #[.slice a n c]) ∧ IsBig w' (.agg #[.slice a n c]) N ∧ Below w.heap.size w w' := by
  obtain ⟨ap, lp, cp, rfl, hlp, hrp, hnp, rfl⟩ := hx.form
  obtain ⟨aq, lq, cq, rfl, hlq, hrq, hnq, rfl⟩ := hy.form
  have h1 := Cub.len_le hnp hbk
  have hvp := Cub.lval_lt hnp.1
  have h2 : lq.length ≤ lp.length := Cub.len_le hnq (by omega)
  have HP : Hid (Cub.limbs 1000000000 lp ∧ Cells w ap lp) := ⟨hnp.1, hrp.cells.2.2.2⟩
  have HQ : Hid (Cub.limbs 1000000000 lq ∧ Row w (.slice aq lq.length cq) lq) := ⟨hnq.1, hrq⟩
  have HN : Hid (∀ S k', Cub.TG lp lq S t m k' lp.length → Cub.lval 1000000000 S = N) := fun S k' h => h.done rfl h2 N hN (by omega)
  have HS := hide hs
  obtain ⟨np, hnp'⟩ : ∃ np, np = lp.length := ⟨_, rfl⟩
  rw [← hnp'] at h1 ⊢
  have HNP := hide hnp'
  have HT0 : Hid (Cub.TG lp lq (List.replicate np 0) t m 0 0) := by rw [hnp']; exact Cub.TG.start lp lq t m
  generalize hnq' : lq.length = nq at *
  have HNQ := hide hnq'
  clear hx hy hbk hlp hlq hrp hrq hnp hnq hnp' hnq' hN hNb hvp hcb hs h2
  obtain ⟨i0, hi, hz0, hz1, hz2⟩ := info_parts Tryz.info41
  obtain ⟨t1, t2⟩ := ht
  obtain ⟨m1, m2⟩ := hm
  go_enter Tryz.func202, Tryz.ntmps202
  go_wp2_with (first
    | (at_make; go_must (refine wpList_make_full _ rfl _ _ 49 rfl (w.heap.size + 3) 41 i0 (.int .u64 0) 1 Tryz.underlying49 hi hz0 hz1 .i64 .i64 _ _ np rfl rfl (by omega) (by omega) (by rw [hz2]; omega) (by unfold maxLen; omega) (by simp) ?_; intro w4 hown4 hgrow4; rw [u64s_made] at hown4; have hO4 : Own w4 (w.heap.size + 1 + 1 + 1) (List.replicate np 0) := (by have := Own.of_row hown4; simpa using this); have hB4 := boxes3 ((Below.refl (w.heap.size + 3) _).grown hgrow4 (by simp) (fun k hk => by cases hk)); have HO4 : Hid (OutU w w4 (.slice ap np cp) (.slice aq nq cq) np (List.replicate np 0)) := ⟨hO4, List.length_replicate .., hB4⟩; clear hown4 hgrow4 hO4 hB4)))
  go_loopw [10, 18] (fun u v wr => ∃ (k : Int) (i : Nat) (O : List Nat), u = .int .i64 k ∧ v = .int .i64 (i : Int) ∧ i ≤ np ∧ -1000000000 ≤ k ∧ k ≤ 999999999 ∧ Hid (OutU w wr (.slice ap np cp) (.slice aq nq cq) np O) ∧ Hid (Cub.TG lp lq O t m k i)) (fun _ v _ => np - (intOf v).toNat)
  case atStart => exact ⟨0, 0, _, rfl, rfl, by omega, by omega, by omega, HO4, HT0⟩
  case round =>
    obtain ⟨k, i, O, rfl, rfl, hi', k1, k2, HO, HG⟩ := hrel
    clear HO4 HT0
    by_cases hin : i < np
    · have hil : i < lp.length := by have := unhide HNP; omega
      obtain ⟨xb, hxb⟩ : ∃ xb, xb = lp[i] := ⟨_, rfl⟩
      have hxB : xb < 1000000000 := by rw [hxb]; exact (unhide HP).1 _ (List.getElem_mem hil)
      have hxb' : lp.getD i 0 = xb := by rw [hxb, List.getD_eq_getElem?_getD, List.getElem?_eq_getElem hil]; exact rfl
      obtain ⟨xc, hxc⟩ : ∃ xc, lq.getD i 0 = xc := ⟨_, rfl⟩
      have hcB : xc < 1000000000 := by
        rw [← hxc]
        by_cases hq : i < lq.length
        · rw [List.getD_eq_getElem?_getD, List.getElem?_eq_getElem hq]; exact (unhide HQ).1 _ (List.getElem_mem hq)
        · rw [List.getD_eq_getElem?_getD, List.getElem?_eq_none (by omega)]; decide
      obtain ⟨o1, o2, ⟨o3, o4⟩, ⟨o5, o6⟩⟩ := Cub.opp_bound (t := t) (m := m) (x := (xb : Int)) (z := (xc : Int)) ⟨t1, t2⟩ ⟨m1, m2⟩ (unhide HS) (by omega) (by omega)
      obtain ⟨s, hs⟩ : ∃ s, s = k + 1000000000000000000 + t * (xb : Int) + m * (xc : Int) := ⟨_, rfl⟩
      have s0 : 0 ≤ s := by omega
      have s1 : s ≤ 1999999999999999999 := by omega
      have HG' : Hid (Cub.TG lp lq (O.set i (s % 1000000000).toNat) t m (s / 1000000000 - 1000000000) (i + 1)) := (unhide HG).step hil (by rw [hxb', hxc]; exact hs) s0 s1
      have HSV : Hid (k + (1000000000000000000 + t * (xb : Int) + m * (xc : Int)) = s) := by show _ = _; omega
      obtain ⟨b1, p1, rfl, hcx⟩ := (unhide HP).2 wr (unhide HO).box.below i hil
      have hcx' : ∀ z : Later wr, z.world.cell? ⟨b1, p1 + i, none⟩ = some (.int .u64 (xb : Int)) := fun z => by
        obtain ⟨b2, p2, e2, hc2⟩ := (unhide HP).2 z.world ((unhide HO).box.below.trans (z.below.mono (unhide HO).box.below.size)) i hil
        simp only [Option.some.injEq, Addr.mk.injEq] at e2
        obtain ⟨rfl, rfl, _⟩ := e2
        rw [hc2, ← hxb]
      have HL : Hid (∀ z : Later wr, Calls Tryz.prog 224 #[.agg #[.slice aq nq cq], .int .i64 (i : Int)] z.world fun e w' => e = .returned (.int .u64 (xc : Int)) ∧ Below z.world.heap.size z.world w') := fun z => by
        have hnq := unhide HNQ
        have hr := (unhide HQ).2.later ((unhide HO).box.below.trans (z.below.mono (unhide HO).box.below.size))
        have := limb_any aq lq cq i z.world (by rw [hnq]; exact hr)
        rw [hxc, hnq] at this; exact this
      have c1 : ∀ z : Later wr, z.world.cell? ⟨w.heap.size, 0, none⟩ = some (.slice (some ⟨b1, p1, none⟩) np cp) := fun z => ((unhide HO).on z.below).box.c1
      have c2 : ∀ z : Later wr, z.world.cell? ⟨w.heap.size + 1, 0, none⟩ = some (.slice aq nq cq) := fun z => ((unhide HO).on z.below).box.c2
      have hin' : (i : Int) < (np : Int) := by omega
      clear hs hxb hxb' hxc hcx HG
      go_upto_region 6 with fail
      refine quiet_later (by kernel_rfl) (by kernel_rfl) ?_
      repeat (go_big_quiet_step ((rename_i xx; refine (unhide HL xx).mono ?_; rintro e w9 ⟨rfl, hb9⟩; have hz := xx.below.trans (hb9.mono xx.below.size); first | exact ⟨rfl, ⟨w9, hz⟩, rfl⟩ | exact ⟨rfl, hz⟩ | exact ⟨rfl, w9, hz, rfl⟩)))
      refine wpQuiet_nil ?_
      intro _ hw'
      obtain ⟨xz, hw''⟩ := hw'
      subst hw''
      rw [unhide HSV]
      obtain ⟨W, hW⟩ : ∃ W, W = xz.world := ⟨_, rfl⟩
      have HO2 : Hid (OutU w W (.slice (some ⟨b1, p1, none⟩) np cp) (.slice aq nq cq) np O) := by rw [hW]; exact (unhide HO).on xz.below
      rw [← hW]
      clear hW c1 c2 hcx' HL HSV HO o1 o2 o3 o4 o5 o6
      have hiO : i < O.length := by rw [(unhide HO2).len]; exact hin
      have hcO : W.cell? ⟨w.heap.size + 1 + 1 + 1, i, none⟩ = some (.int .u64 (O[i] : Int)) := (unhide HO2).own.cell i hiO
      have hfO := (unhide HO2).own.frozen i
      have hm0 : 0 ≤ s % 1000000000 := Int.emod_nonneg _ (by decide)
      have HO3 : Hid (OutU w (W.setCell ⟨w.heap.size + 1 + 1 + 1, i, none⟩ (.int .u64 (s % 1000000000))) (.slice (some ⟨b1, p1, none⟩) np cp) (.slice aq nq cq) np (O.set i (s % 1000000000).toNat)) := (unhide HO2).set i (s % 1000000000).toNat (s % 1000000000) (by omega)
      generalize O[i] = oi at *
      go_wp2_with fail
      go_roundw
      case rel => exact ⟨s / 1000000000 - 1000000000, i + 1, _, rfl, by go_num, by omega, (unhide HG').k1, (unhide HG').k2, HO3, HG'⟩
      case measure => simp [intOf]; omega
    · have hie : i = np := by omega
      subst hie
      obtain ⟨q1, q2, _⟩ := Cub.lval_trim 1000000000 _ O rfl
      have HF : Hid (Cub.normal 1000000000 (Cub.trimN O) ∧ Cub.lval 1000000000 (Cub.trimN O) = N) := by
        refine ⟨q2 (unhide HG).limbs, ?_⟩
        rw [q1]
        exact unhide HN O k (by rw [← unhide HNP]; exact unhide HG)
      have hsz := (unhide HO).box.size
      have br := (unhide HO).box.c3
      have fr := (unhide HO).box.f3
      clear q1 q2
      go_wp2_with (go_at_call 78; refine (trim_any _ O _ ((unhide HO).own.row i i (unhide HO).len.symm (Nat.le_refl _) (by unfold maxLen; omega))).mono ?_; rintro e w6 ⟨v', rfl, hrow6, hb6⟩; obtain ⟨a6, cap6, rfl, hcap6⟩ := hrow6.form; obtain ⟨hc6, hf6⟩ := box_later hb6 (g := w.heap.size + 1 + 1) (by omega) br fr)
      refine bodyPost_ret (v := .agg #[.slice a6 (Cub.trimN O).length cap6]) (by simp [results, Tryz.results202, go_sem, hc6]) rfl ⟨_, _, _, rfl, ?_, ?_⟩
      · exact ⟨_, _, rfl, hrow6.box _ hc6 (no_int _ _ _), (unhide HF).1, (unhide HF).2⟩
      · exact ((unhide HO).box.below.trans (hb6.mono (by omega))).setCell (p := ⟨w.heap.size + 1 + 1, 0, none⟩) (show w.heap.size ≤ w.heap.size + 1 + 1 by omega) _
/-- The steps, two numbers and two results in their boxes. -/
structure Use5 (w W : World) (A B C D : Int) (a b : Value) : Prop where
  s0 : W.cell? ⟨w.heap.size, 0, none⟩ = some (.int .i64 A)
  s1 : W.cell? ⟨w.heap.size, 1, none⟩ = some (.int .i64 B)
  s2 : W.cell? ⟨w.heap.size, 2, none⟩ = some (.int .i64 C)
  s3 : W.cell? ⟨w.heap.size, 3, none⟩ = some (.int .i64 D)
  c1 : W.cell? ⟨w.heap.size + 1, 0, none⟩ = some (a)
  c2 : W.cell? ⟨w.heap.size + 1 + 1, 0, none⟩ = some (b)
  r3 : W.cell? ⟨w.heap.size + 1 + 1 + 1, 0, none⟩ = some (.slice none 0 0)
  r4 : W.cell? ⟨w.heap.size + 1 + 1 + 1 + 1, 0, none⟩ = some (.slice none 0 0)
  f3 : W.frozen? ⟨w.heap.size + 1 + 1 + 1, 0, none⟩ = false
  f4 : W.frozen? ⟨w.heap.size + 1 + 1 + 1 + 1, 0, none⟩ = false
  below : Below w.heap.size w W
  size : w.heap.size + 5 ≤ W.heap.size
theorem Use5.on {w W V : World} {A B C D : Int} {a b : Value} (h : Use5 w W A B C D a b) (hb : Below W.heap.size W V) : Use5 w V A B C D a b := by
  have hz := h.size
  refine ⟨(hb.cell (p := ⟨w.heap.size, 0, none⟩) (show w.heap.size < W.heap.size by omega)).trans h.s0,
    (hb.cell (p := ⟨w.heap.size, 1, none⟩) (show w.heap.size < W.heap.size by omega)).trans h.s1,
    (hb.cell (p := ⟨w.heap.size, 2, none⟩) (show w.heap.size < W.heap.size by omega)).trans h.s2,
    (hb.cell (p := ⟨w.heap.size, 3, none⟩) (show w.heap.size < W.heap.size by omega)).trans h.s3,
    (hb.cell (p := ⟨w.heap.size + 1, 0, none⟩) (show w.heap.size + 1 < W.heap.size by omega)).trans h.c1,
    (hb.cell (p := ⟨w.heap.size + 1 + 1, 0, none⟩) (show w.heap.size + 1 + 1 < W.heap.size by omega)).trans h.c2,
    (hb.cell (p := ⟨w.heap.size + 1 + 1 + 1, 0, none⟩) (show w.heap.size + 1 + 1 + 1 < W.heap.size by omega)).trans h.r3,
    (hb.cell (p := ⟨w.heap.size + 1 + 1 + 1 + 1, 0, none⟩) (show w.heap.size + 1 + 1 + 1 + 1 < W.heap.size by omega)).trans h.r4,
    (hb.frozen (p := ⟨w.heap.size + 1 + 1 + 1, 0, none⟩) (show w.heap.size + 1 + 1 + 1 < W.heap.size by omega)).trans h.f3,
    (hb.frozen (p := ⟨w.heap.size + 1 + 1 + 1 + 1, 0, none⟩) (show w.heap.size + 1 + 1 + 1 + 1 < W.heap.size by omega)).trans h.f4,
    h.below.trans (hb.mono (by omega)),
    by have := hb.size; omega⟩
theorem Use5.done {w W : World} {A B C D : Int} {a b u v : Value} (h : Use5 w W A B C D a b) (n m : Nat) (hn : IsBig W (.agg #[u]) n) (hm : IsBig W (.agg #[v]) m) :
    IsBig ((W.setCell ⟨w.heap.size + 1 + 1 + 1, 0, none⟩ u).setCell ⟨w.heap.size + 1 + 1 + 1 + 1, 0, none⟩ v) (.agg #[u]) n ∧ IsBig ((W.setCell ⟨w.heap.size + 1 + 1 + 1, 0, none⟩ u).setCell ⟨w.heap.size + 1 + 1 + 1 + 1, 0, none⟩ v) (.agg #[v]) m ∧ Below w.heap.size w ((W.setCell ⟨w.heap.size + 1 + 1 + 1, 0, none⟩ u).setCell ⟨w.heap.size + 1 + 1 + 1 + 1, 0, none⟩ v) := by
  have hc : (W.setCell ⟨w.heap.size + 1 + 1 + 1, 0, none⟩ u).cell? ⟨w.heap.size + 1 + 1 + 1 + 1, 0, none⟩ = some (.slice none 0 0) := by
    rw [World.cell?_setCell_other _ _ _ _ (by simp)]; exact h.r4
  exact ⟨(hn.box _ h.r3 (no_int _ _ _)).box _ hc (no_int _ _ _), (hm.box _ h.r3 (no_int _ _ _)).box _ hc (no_int _ _ _), (h.below.setCell (by simp; omega) _).setCell (by simp; omega) _⟩
theorem use_any (x y : Value) (b c N M k : Nat) (A B C D : Int) (w : World) (hx : IsBig w x b) (hy : IsBig w y c) (hcb : c ≤ b) (hk : k ≤ 1000000) (hbk : b < 1000000000 ^ k)
    (hA : -1000000000 ≤ A ∧ A ≤ 1000000000) (hB : -1000000000 ≤ B ∧ B ≤ 1000000000) (hC : -1000000000 ≤ C ∧ C ≤ 1000000000) (hD : -1000000000 ≤ D ∧ D ≤ 1000000000) (hs : (0 ≤ A ∧ B ≤ 0) ∨ (A ≤ 0 ∧ 0 ≤ B)) (hs' : (0 ≤ C ∧ D ≤ 0) ∨ (C ≤ 0 ∧ 0 ≤ D))
    (hN : (N : Int) = A * (b : Int) + B * (c : Int)) (hNb : N ≤ b) (hM : (M : Int) = C * (b : Int) + D * (c : Int)) (hMb : M ≤ b) :
    Calls Tryz.prog 168 #[.agg #[.int .i64 A, .int .i64 B, .int .i64 C, .int .i64 D], x, y] w fun e w' => ∃ a1 n1 c1 a2 n2 c2, e = .returned (.tuple #[.agg #[.slice a1 n1 c1], .agg #[.slice a2 n2 c2]]) ∧ IsBig w' (.agg #[.slice a1 n1 c1]) N ∧ IsBig w' (.agg #[.slice a2 n2 c2]) M ∧ Below w.heap.size w w' := by
  have H1 := hide (fun W hx hy => together_any x y b c N k A B W hx hy hcb hk hbk hA hB hs hN hNb)
  have H2 := hide (fun W hx hy => together_any x y b c M k C D W hx hy hcb hk hbk hC hD hs' hM hMb)
  have HX := hide hx
  have HY := hide hy
  obtain ⟨ap, np, cp, rfl⟩ := hx.shape
  obtain ⟨aq, nq, cq, rfl⟩ := hy.shape
  clear hx hy hcb hk hbk hA hB hC hD hs hs' hN hNb hM hMb
  go_enter Tryz.func168, Tryz.ntmps168
  go_upto_region 1 with fail
  obtain ⟨W, hW⟩ : ∃ W, W = (((((w.alloc (.cells #[.int .i64 A, .int .i64 B, .int .i64 C, .int .i64 D] 184)).alloc (.cells #[.slice ap np cp] 51)).alloc (.cells #[.slice aq nq cq] 51)).alloc (.cells #[.slice none 0 0] 51)).alloc (.cells #[.slice none 0 0] 51)) := ⟨_, rfl⟩
  have HU : Hid (Use5 w W A B C D (.slice ap np cp) (.slice aq nq cq)) := by
    rw [hW]
    exact ⟨by simp [go_sem], by simp [go_sem], by simp [go_sem], by simp [go_sem], by simp [go_sem], by simp [go_sem], by simp [go_sem], by simp [go_sem], by simp [go_sem], by simp [go_sem], ((((((Below.refl _ _).alloc (Nat.le_refl _) _).alloc (by simp) _).alloc (by simp; omega) _).alloc (by simp; omega) _).alloc (by simp; omega) _), by simp⟩
  rw [← hW]
  clear hW
  have s0 := (unhide HU).s0; have s1 := (unhide HU).s1; have s2 := (unhide HU).s2; have s3 := (unhide HU).s3; have c1 := (unhide HU).c1; have c2 := (unhide HU).c2
  go_region_held3 (fun w' => w'.cell? ⟨w.heap.size, 0, none⟩ = some (.int .i64 A) ∧ w'.cell? ⟨w.heap.size, 1, none⟩ = some (.int .i64 B) ∧ w'.cell? ⟨w.heap.size, 2, none⟩ = some (.int .i64 C) ∧ w'.cell? ⟨w.heap.size, 3, none⟩ = some (.int .i64 D) ∧ w'.cell? ⟨w.heap.size + 1, 0, none⟩ = some (.slice ap np cp) ∧ w'.cell? ⟨w.heap.size + 1 + 1, 0, none⟩ = some (.slice aq nq cq)) (first | assumption | (refine ⟨?_, ?_, ?_, ?_, ?_, ?_⟩ <;> first | assumption | (simp [go_sem, *]; done)) | (simp [go_sem, *]; done))
    (first
      | (go_at_call_of 202 (Value.int IntKind.i64 A); refine (unhide H1 _ ((unhide HX).later ((unhide HU).below.trans ((Below.refl _ _).drew))) ((unhide HY).later ((unhide HU).below.trans ((Below.refl _ _).drew)))).mono ?_; rintro e wB ⟨a1, n1, k1, rfl, hr1, hbB⟩; have hbB' : Below W.heap.size W wB := (Below.refl _ _).drew.trans hbB; have HUB := hide ((unhide HU).on hbB'); have HR1 := hide hr1; clear hbB hbB' hr1; have t0 := (unhide HUB).s0; have t1 := (unhide HUB).s1; have t2 := (unhide HUB).s2; have t3 := (unhide HUB).s3; have d1 := (unhide HUB).c1; have d2 := (unhide HUB).c2)
      | (go_at_call_of 202 (Value.int IntKind.i64 C); refine (unhide H2 wB ((unhide HX).later (unhide HUB).below) ((unhide HY).later (unhide HUB).below)).mono ?_; rintro e wC ⟨a2, n2, k2, rfl, hr2, hbC⟩; have HUC := hide ((unhide HUB).on hbC); have HR2 := hide (And.intro ((unhide HR1).later hbC) hr2); clear hbC hr2; have v0 := (unhide HUC).s0; have v1 := (unhide HUC).s1; have v2 := (unhide HUC).s2; have v3 := (unhide HUC).s3; have g1 := (unhide HUC).c1; have g2 := (unhide HUC).c2; have r3 := (unhide HUC).r3; have r4 := (unhide HUC).r4; have f3 := (unhide HUC).f3; have f4 := (unhide HUC).f4))
  all_goals (
    obtain ⟨q1, q2, q3⟩ := (unhide HUC).done N M (unhide HR2).1 (unhide HR2).2
    go_wp2
    exact bodyPost_ret (v := .tuple #[.agg #[.slice a1 n1 k1], .agg #[.slice a2 n2 k2]]) (by simp [results, Tryz.results168, go_sem, r3, r4]) rfl ⟨_, _, _, _, _, _, rfl, q1, q2, q3⟩)
end Go.Proofs.YtijifpbpjinmhaaGreatDoor
namespace Cub
open Go.Lib
theorem getD9_lt {l : List Nat} (h : limbs 1000000000 l) (i : Nat) : l.getD i 0 < 1000000000 := by
  by_cases hq : i < l.length
  · rw [List.getD_eq_getElem?_getD, List.getElem?_eq_getElem hq]; exact h _ (List.getElem_mem hq)
  · rw [List.getD_eq_getElem?_getD, List.getElem?_eq_none (by omega)]; decide
theorem split3 (L : List Nat) (t : Nat) (h : L.length = t + 3) : L = L.take t ++ [L.getD t 0, L.getD (t + 1) 0, L.getD (t + 2) 0] := by
  have e1 := List.take_append_drop t L
  have e2 : L.drop t = [L.getD t 0, L.getD (t + 1) 0, L.getD (t + 2) 0] := by
    rw [List.drop_eq_getElem_cons (by omega), List.drop_eq_getElem_cons (by omega), List.drop_eq_getElem_cons (by omega), List.drop_of_length_le (by omega)]
    simp [List.getD, show t < L.length by omega, show t + 1 < L.length by omega, show t + 2 < L.length by omega]
  rw [e2] at e1
  exact e1.symm
theorem first_of (l : List Nat) (t up e f : Nat) (hl : limbs 1000000000 l) (hlen : l.length ≤ t + 3) (hue : up * e = 1000000000) (hV : lval 1000000000 l * up < 1000000000 ^ (t + 3))
    (hf : f = (l.getD (t + 2) 0 * 1000000000 + l.getD (t + 1) 0) * up + l.getD t 0 / e) :
    (∃ u, lval 1000000000 l * up = f * 1000000000 ^ (t + 1) + u ∧ u < 1000000000 ^ (t + 1)) ∧ f < 1000000000000000000 := by
  obtain ⟨L, hL⟩ : ∃ L, L = l ++ List.replicate (t + 3 - l.length) 0 := ⟨_, rfl⟩
  have hLl : L.length = t + 3 := by rw [hL]; simp; omega
  have hLv : lval 1000000000 L = lval 1000000000 l := by rw [hL, lval_append, lval_zeros, Nat.mul_zero, Nat.add_zero]
  have hLb : limbs 1000000000 L := by rw [hL]; exact limbs_append.2 ⟨hl, limbs_zeros _ _ (by decide)⟩
  have hg : ∀ i, L.getD i 0 = l.getD i 0 := fun i => by
    rw [hL]
    by_cases hi : i < l.length
    · simp [List.getD, List.getElem?_append_left hi]
    · simp only [List.getD]
      rw [List.getElem?_append_right (by omega), List.getElem?_eq_none (l := l) (by omega), List.getElem?_replicate]
      split <;> rfl
  obtain ⟨u, hu1, hu2⟩ := first_digits (L.take t) (L.getD t 0) (L.getD (t + 1) 0) (L.getD (t + 2) 0) up e (fun x hx => hLb x (List.mem_of_mem_take hx)) hue
  rw [← split3 L t hLl, hLv, hg, hg, hg, ← hf, List.length_take, hLl, Nat.min_eq_left (by omega)] at hu1
  rw [List.length_take, hLl, Nat.min_eq_left (by omega)] at hu2
  refine ⟨⟨u, hu1, hu2⟩, ?_⟩
  have h1 : f * 1000000000 ^ (t + 1) < 1000000000000000000 * 1000000000 ^ (t + 1) := by
    have e3 : (1000000000 : Nat) ^ (t + 3) = 1000000000000000000 * 1000000000 ^ (t + 1) := by
      rw [show t + 3 = (t + 1) + 2 by omega, Nat.pow_add, Nat.mul_comm]
    rw [← e3]
    omega
  exact Nat.lt_of_mul_lt_mul_right h1
/-- How far a number is moved up so that its first limb has nine digits. -/
theorem up_of {l : List Nat} {t : Nat} (h : normal 1000000000 l) (hl : l.length = t + 3) : ∃ d, 9 * (t + 3) = nDigits (lval 1000000000 l) + d ∧ d ≤ 8 ∧ lval 1000000000 l * 10 ^ d < 1000000000 ^ (t + 3) := by
  obtain ⟨s, x, rfl⟩ := split_last (l := l) (by intro e; rw [e] at hl; simp at hl)
  obtain ⟨h1, h2, h3⟩ := normal_last h
  have e := nDigits_top s x h1 h2
  have h9 := nDigits_le9 x h3
  have h0 : 1 ≤ nDigits x := by
    have := decDigits_length x
    have h' : (decDigits x).length ≠ 0 := fun e => dec_ne_nil x (List.length_eq_zero_iff.1 e)
    omega
  have hsl : s.length = t + 2 := by simpa using hl
  refine ⟨9 - nDigits x, by rw [e, hsl]; omega, by omega, ?_⟩
  have hlt := lt_pow_nDigits (lval 1000000000 (s ++ [x]))
  have hp : 0 < 10 ^ (9 - nDigits x) := Nat.pow_pos (by decide)
  have h4 := Nat.mul_lt_mul_of_pos_right hlt hp
  rw [← Nat.pow_add, e, hsl] at h4
  rw [← pow9, show 9 * (t + 3) = 9 * (t + 2) + nDigits x + (9 - nDigits x) by omega]
  exact h4
/-- What the steps have made, where there are any. -/
def Good (b c : Nat) (A B C D : Int) : Prop :=
  (-1000000000 ≤ A ∧ A ≤ 1000000000) ∧ (-1000000000 ≤ B ∧ B ≤ 1000000000) ∧ (-1000000000 ≤ C ∧ C ≤ 1000000000) ∧ (-1000000000 ≤ D ∧ D ≤ 1000000000) ∧ ((0 ≤ A ∧ B ≤ 0) ∨ (A ≤ 0 ∧ 0 ≤ B)) ∧ ((0 ≤ C ∧ D ≤ 0) ∨ (C ≤ 0 ∧ 0 ≤ D)) ∧
  (¬ B = 0 → ∃ N M : Nat, (N : Int) = A * (b : Int) + B * (c : Int) ∧ (M : Int) = C * (b : Int) + D * (c : Int) ∧ N ≤ c ∧ M ≤ N ∧ M < c ∧ Nat.gcd N M = Nat.gcd b c)
theorem LS.good {b c : Nat} {x0 y0 x y A B C D : Int} (h : LS (b : Int) (c : Int) x0 y0 x y A B C D) : Good b c A B C D := by
  obtain ⟨-, -, -, -, k1, k2, k3, k4, -, -, s1, s2⟩ := h.bounds
  refine ⟨k1, k2, k3, k4, s1, s2, fun hB => ?_⟩
  rcases h.now with ⟨_, hB', _⟩ | ⟨n1, n2⟩
  · exact absurd hB' hB
  · have lo := h.lo; have le := h.le; have g := h.gcd
    obtain ⟨N, hN⟩ := Int.eq_ofNat_of_zero_le (Int.le_trans lo le)
    obtain ⟨M, hM⟩ := Int.eq_ofNat_of_zero_le lo
    rw [hN, hM] at g
    refine ⟨N, M, hN.symm, hM.symm, by omega, by omega, by omega, ?_⟩
    simpa using g
end Cub

/- rat.power (167): a natural number to a power, where it is not too large. -/
import Derived.Shelf.Small.Bits
import Derived.Shelf.Small.Wraps
import Derived.Shelf.Strconv.Itoa0
import Derived.Shelf.Strconv.Itoa1
import Derived.Shelf.LaysM
import Derived.Shelf.Strconv.Itoa2
import Derived.Shelf.Strconv.AppendUint10
import Derived.Shelf.Strconv.AppendInt10
import Derived.Shelf.Strings.Prefix
import Derived.Ground.Names2Prog
import Derived.Shelf.Slices.SearchI
import Derived.Test.YthcbhnggphdflaaGreatDoorProg
import Derived.Test.YthcbhnggphdflaaGreatDoorMul
import Derived.Test.YthcbhnggphdflaaGreatDoorShelf
import Derived.Laws.Bits128
import Derived.OrdersHeld
import Derived.Deep.RegionHeld3
import Derived.Test.YthcbhnggphdflaaGreatDoorCopy
namespace Go.Proofs
open Go.Shelf
def Tryz.lays125_ren : Go.Shelf.Ren := ⟨fun | 125 => 200 | 128 => 215 | 129 => 202 | n => n, fun | 46 => 225 | 3 => 3 | 51 => 229 | 53 => 138 | 4 => 4 | 5 => 5 | 9 => 9 | n => n, fun | n => n⟩
theorem Tryz.lays125 : Go.Proofs.Lays.n125 Tryz.prog Tryz.lays125_ren := {
  mixed := by kernel_rfl
  f125 := Tryz.func200.trans (congrArg some (by kernel_rfl))
  f128 := Tryz.func215.trans (congrArg some (by kernel_rfl))
  f129 := Tryz.func202.trans (congrArg some (by kernel_rfl))
  t3 := Tryz.underlying3
  a3 := Tryz.isAgg3
  z3 := Tryz.sizeOf3
  v3 := Tryz.zeroValue3
  t4 := Tryz.underlying4
  a4 := Tryz.isAgg4
  z4 := Tryz.sizeOf4
  v4 := Tryz.zeroValue4
  t5 := Tryz.underlying5
  a5 := Tryz.isAgg5
  z5 := Tryz.sizeOf5
  v5 := Tryz.zeroValue5
  t9 := Tryz.underlying9
  a9 := Tryz.isAgg9
  z9 := Tryz.sizeOf9
  v9 := Tryz.zeroValue9
  t46 := Tryz.underlying225
  a46 := Tryz.isAgg225
  z46 := Tryz.sizeOf225
  v46 := Tryz.zeroValue225
  t51 := Tryz.underlying229
  a51 := Tryz.isAgg229
  z51 := Tryz.sizeOf229
  v51 := Tryz.zeroValue229
  t53 := Tryz.underlying138
  a53 := Tryz.isAgg138
  z53 := Tryz.sizeOf138
  v53 := Tryz.zeroValue138 }
theorem Tryz.bits_Len (x : Int) (w : World) (h0 : 0 ≤ x) (h1 : x ≤ 18446744073709551615) :
    Calls Tryz.prog 200 #[.int .u64 x] w fun e w' => e = .returned (.int .i64 (Lib.bitLen x.toNat)) ∧ w' = w := Any.bits_Len Tryz.lays125 x w h0 h1
end Go.Proofs

namespace Go.Proofs.YthcbhnggphdflaaGreatDoor
open Go.RowKit

theorem mulB (x y : Value) (m n r k : Nat) (w : World) (hx : IsBig w x m) (hy : IsBig w y n) (hk : k ≤ 1000000) (hm : m < 1000000000 ^ k) (hn : n < 1000000000 ^ k) (hr : r = m * n) :
    Calls Tryz.prog 129 #[x, y] w fun e w' => ∃ a l c, e = .returned (.agg #[.slice a l c]) ∧ IsBig w' (.agg #[.slice a l c]) r ∧ Below w.heap.size w w' := by
  subst hr
  refine (mul_any x y m n k w hx hy hk hm hn).mono ?_
  rintro e w' ⟨v, rfl, hv, hb⟩
  obtain ⟨a, n, c, rfl⟩ := hv.shape
  exact ⟨a, n, c, rfl, hv, hb⟩
theorem powLt (m n q M : Nat) (h : q ≤ n) (hM : m ^ n < M) (h1 : 1 < M) : m ^ q < M := by
  by_cases h0 : m = 0
  · subst h0
    cases q with
    | zero => simpa using h1
    | succ q => rw [Nat.zero_pow (by omega)]; omega
  · exact Nat.lt_of_le_of_lt (Nat.pow_le_pow_right (by omega) h) hM
theorem half_step (n i : Nat) : n / 2 ^ i = 2 * (n / 2 ^ (i + 1)) + (n / 2 ^ i) % 2 := by
  rw [Nat.pow_succ, ← Nat.div_div_eq_div_mul]; omega
theorem pow_even (m n i : Nat) (h : (n / 2 ^ i) % 2 = 0) : m ^ (n / 2 ^ i) = m ^ (n / 2 ^ (i + 1)) * m ^ (n / 2 ^ (i + 1)) := by
  rw [← Nat.pow_add]; congr 1; have := half_step n i; omega
theorem pow_odd (m n i : Nat) (h : (n / 2 ^ i) % 2 = 1) : m ^ (n / 2 ^ i) = m ^ (n / 2 ^ (i + 1)) * m ^ (n / 2 ^ (i + 1)) * m := by
  rw [← Nat.pow_add, ← Nat.pow_succ]; congr 1; have := half_step n i; omega

theorem bitLen_ok (n : Nat) (hn : n ≤ 9223372036854775807) : Lib.bitLen n ≤ 64 ∧ n / 2 ^ Lib.bitLen n = 0 := by
  by_cases h0 : n = 0
  · subst h0
    exact ⟨by decide, by simp⟩
  · obtain ⟨h1, h2, h3⟩ := Lib.bitLenAux_bounds 64 n (by omega) h0
    have e : Lib.bitLen n = Lib.bitLenAux 64 n := rfl
    rw [e]
    refine ⟨?_, Nat.div_eq_of_lt (by simpa using h3)⟩
    apply Decidable.byContradiction
    intro hc
    have h4 : 2 ^ 64 ≤ 2 ^ (Lib.bitLenAux 64 n - 1) := Nat.pow_le_pow_right (by decide) (by omega)
    omega

theorem and_one' (x : Int) : bits .and .i64 x 1 = x % 2 := by
  have h1 : (BitVec.ofInt 64 1).toNat = 2 ^ 1 - 1 := by decide
  have key : (BitVec.ofInt 64 x &&& BitVec.ofInt 64 1).toNat = (x % ((2 ^ 64 : Nat) : Int)).toNat % 2 ^ 1 := by
    rw [BitVec.toNat_and, BitVec.toNat_ofInt, h1, Nat.and_two_pow_sub_one_eq_mod]
  show IntKind.i64.wrap ((BitVec.ofInt 64 x &&& BitVec.ofInt 64 1).toNat : Nat) = x % 2
  rw [key, IntKind.wrap_i64]
  omega
theorem and_one (n j : Nat) : bits BinOp.and IntKind.i64 ((n : Int) / 2 ^ j) 1 = (((n / 2 ^ j) % 2 : Nat) : Int) := by
  rw [and_one']
  push_cast
  rfl

set_option maxRecDepth 100000 in
set_option maxHeartbeats 800000 in
theorem bigPow_any (x : Value) (m n k : Nat) (w : World) (hx : IsBig w x m) (hn : n ≤ 9223372036854775807) (hk1 : 1 ≤ k) (hk : k ≤ 1000000) (hP : m ^ n < 1000000000 ^ k) (hm : m < 1000000000 ^ k) :
    Calls Tryz.prog 182 #[x, .int .i64 (n : Int)] w fun e w' => ∃ a l c, e = .returned (.agg #[.slice a l c]) ∧ IsBig w' (.agg #[.slice a l c]) (m ^ n) ∧ Below w.heap.size w w' := by
  obtain ⟨xa, xn, xc, rfl⟩ := hx.shape
  have HX := hide hx
  have HP := hide hP
  have HM := hide hm
  have H92 := hide (fun W => Tryz.bits_Len (n : Int) W (by omega) (by omega))
  clear hx hP hm
  obtain ⟨hL, hL0⟩ := bitLen_ok n hn
  have e9 : ((n : Int)).toNat = n := by simp
  rw [e9] at H92
  clear e9
  generalize Lib.bitLen n = L at *
  have HL0 := hide hL0
  clear hL0
  go_enter Tryz.func182, Tryz.ntmps182
  go_wp2_with (first
    | (go_at_call 175; refine (bigOf_any 1 _ (by decide)).mono ?_; rintro e w2 ⟨ba, bn, bc, rfl, hbig, hb2⟩; have HBIG := hide hbig; clear hbig)
    | (go_at_call 200; refine (un H92 _).mono ?_; rintro e w' ⟨rfl, rfl⟩))
  have hs2 : w.heap.size + 2 ≤ w2.heap.size := by have := hb2.size; simpa using this
  have hc0 : w2.cell? ⟨w.heap.size, 0, none⟩ = some (.slice xa xn xc) := by rw [hb2.cell (p := ⟨w.heap.size, 0, none⟩) (by simp; omega)]; simp
  have hc1 : w2.cell? ⟨w.heap.size + 1, 0, none⟩ = some (.slice none 0 0) := by rw [hb2.cell (p := ⟨w.heap.size + 1, 0, none⟩) (by simp)]; simp
  have hf1 : w2.frozen? ⟨w.heap.size + 1, 0, none⟩ = false := by rw [hb2.frozen (p := ⟨w.heap.size + 1, 0, none⟩) (by simp)]; simp
  have hbw : Below w.heap.size w w2 := (((Below.refl _ _).alloc (Nat.le_refl _) _).alloc (by simp) _).trans (hb2.mono (by simp; omega))
  have HX2 := hide ((un HX).later hbw)
  go_loopw [6] (fun t wr => ∃ (i : Nat) (pa : Option Addr) (pn pc : Nat), i ≤ 64 ∧ t = .int .i64 ((i : Int) - 1) ∧ wr.cell? ⟨w2.heap.size, 0, none⟩ = some (.slice pa pn pc) ∧ wr.frozen? ⟨w2.heap.size, 0, none⟩ = false ∧ Hid (IsBig wr (.agg #[.slice pa pn pc]) (m ^ (n / 2 ^ i))) ∧ Below w2.heap.size w2 wr) (fun t _ => (intOf t + 1).toNat)
  case atStart => exact ⟨L, ba, bn, bc, hL, by go_num, World.cell?_alloc_at _ _ _ _ rfl, World.frozen?_alloc_at _ _ _ _ rfl, by rw [un HL0]; exact (un HBIG).later ((Below.refl _ _).alloc (Nat.le_refl _) _), (Below.refl _ _).alloc (Nat.le_refl _) _⟩
  case round =>
    obtain ⟨i, pa, pn, pc, hi, rfl, hcell, hfr, HB, hbl⟩ := hrel
    by_cases h0 : 0 < i
    · obtain ⟨j, rfl⟩ : ∃ j, i = j + 1 := ⟨i - 1, by omega⟩
      have e6 : ((j + 1 : Nat) : Int) - 1 = (j : Int) := by omega
      rw [e6]
      clear e6
      have h1 : 1 < 1000000000 ^ k := Nat.one_lt_pow (by omega) (by decide)
      have hst := half_step n j
      have hdl : n / 2 ^ j ≤ n := Nat.div_le_self _ _
      have B1 := powLt m n (n / 2 ^ (j + 1)) _ (by omega) (un HP) h1
      have B2 : m ^ (n / 2 ^ (j + 1)) * m ^ (n / 2 ^ (j + 1)) < 1000000000 ^ k := by rw [← Nat.pow_add]; exact powLt m n _ _ (by omega) (un HP) h1
      have HE := hide (pow_even m n j)
      have HO := hide (pow_odd m n j)
      generalize m ^ (n / 2 ^ (j + 1)) = Q at *
      have H1 := hide (fun W v (hv : IsBig W v Q) => mulB v v Q Q (Q * Q) k W hv hv hk B1 B1 rfl)
      have H2 := hide (fun W v x (hv : IsBig W v (Q * Q)) (hx : IsBig W x m) => mulB v x (Q * Q) m (Q * Q * m) k W hv hx hk B2 (un HM) rfl)
      clear B1 B2 h1 hst hdl
      have hg : w2.heap.size < wr.heap.size := World.block_lt_of_cell? _ _ hcell
      have hc0r := (hbl.cell (p := ⟨w.heap.size, 0, none⟩) (by simp; omega)).trans hc0
      have hand := and_one n j
      by_cases hbit : (n / 2 ^ j) % 2 = 1
      · rw [hbit] at hand
        rw [← un HO hbit] at H2
        go_wp2_with (first
          | (go_at_call_of 129 (Value.agg #[Value.slice pa pn pc]); refine (un H1 _ _ (un HB)).mono ?_; rintro e w3 ⟨ya, yn, yc, rfl, hy, hb3⟩; have HY := hide (hy.box (.slice ya yn yc) (box_later hb3 hg hcell hfr).1 (no_int _ _ _)); clear hy; obtain ⟨hcell3, hfr3⟩ := box_later hb3 hg hcell hfr; have hcell4 := World.cell?_setCell_same w3 ⟨w2.heap.size, 0, none⟩ (.slice ya yn yc) hcell3; have hfr4 : (w3.setCell ⟨w2.heap.size, 0, none⟩ (.slice ya yn yc)).frozen? ⟨w2.heap.size, 0, none⟩ = false := by rw [World.frozen?_setCell]; exact hfr3
             have hb4 : Below w2.heap.size w2 (w3.setCell ⟨w2.heap.size, 0, none⟩ (.slice ya yn yc)) := (hbl.trans (hb3.mono hbl.size)).setCell (Nat.le_refl _) _
             have hc04 := (hb4.cell (p := ⟨w.heap.size, 0, none⟩) (by simp; omega)).trans hc0)
          | (go_at_call_of 129 (Value.agg #[Value.slice xa xn xc]); refine (un H2 _ _ _ (un HY) ((un HX2).later hb4)).mono ?_; rintro e w5 ⟨za, zn, zc, rfl, hz, hb5⟩; obtain ⟨hcell5, hfr5⟩ := box_later hb5 (World.block_lt_of_cell? _ _ hcell4) hcell4 hfr4; have HZ := hide (hz.box (.slice za zn zc) hcell5 (no_int _ _ _)); clear hz))
        go_roundw
        case rel => exact ⟨j, za, zn, zc, by omega, by go_num, World.cell?_setCell_same _ _ _ hcell5, by rw [World.frozen?_setCell]; exact hfr5, HZ, (hb4.trans (hb5.mono hb4.size)).setCell (Nat.le_refl _) _⟩
        case measure => simp [intOf]
      · have hbit0 : (n / 2 ^ j) % 2 = 0 := by omega
        rw [hbit0] at hand
        rw [← un HE hbit0] at H1
        go_wp2_with (first
          | (go_at_call_of 129 (Value.agg #[Value.slice pa pn pc]); refine (un H1 _ _ (un HB)).mono ?_; rintro e w3 ⟨ya, yn, yc, rfl, hy, hb3⟩; have HY := hide (hy.box (.slice ya yn yc) (box_later hb3 hg hcell hfr).1 (no_int _ _ _)); clear hy; obtain ⟨hcell3, hfr3⟩ := box_later hb3 hg hcell hfr))
        go_roundw
        case rel => exact ⟨j, ya, yn, yc, by omega, by go_num, World.cell?_setCell_same _ _ _ hcell3, by rw [World.frozen?_setCell]; exact hfr3, HY, (hbl.trans (hb3.mono hbl.size)).setCell (Nat.le_refl _) _⟩
        case measure => simp [intOf]
    · have hi0 : i = 0 := by omega
      subst hi0
      have HB' : Hid (IsBig wr (.agg #[.slice pa pn pc]) (m ^ n)) := by have := un HB; rw [Nat.pow_zero, Nat.div_one] at this; exact this
      have hc1r := (hbl.cell (p := ⟨w.heap.size + 1, 0, none⟩) (by simp; omega)).trans hc1
      have hf1r := (hbl.frozen (p := ⟨w.heap.size + 1, 0, none⟩) (by simp; omega)).trans hf1
      go_wp2
      refine bodyPost_ret (v := .agg #[.slice pa pn pc]) (by simp [results, Tryz.results182, go_sem, hc1r]) rfl ⟨_, _, _, rfl, ?_, ?_⟩
      · exact (un HB').box _ hc1r (no_int _ _ _)
      · exact (hbw.trans (hbl.mono (by omega))).setCell (by simp) _
end Go.Proofs.YthcbhnggphdflaaGreatDoor

namespace Go.Proofs.YthcbhnggphdflaaGreatDoor
section
variable {P : Program} {ops : Array Oper} {Q : Exit → Act → World → Prop} {md : Region.Mode} {S S7 : World → Prop} {k : Nat}

/-- What stands once these have come. -/
def Inv (k : Nat) (S S7 : World → Prop) (l : Array Bool) (w : World) : Prop := (l.getD k false = false → S w) ∧ S7 w
/-- Whatever order: what stands does so behind each operation. -/
def wpR (P : Program) (md : Region.Mode) (ops : Array Oper) (Q : Exit → Act → World → Prop) (k : Nat) (S S7 : World → Prop) : Nat → Array Bool → Act → World → Prop
  | 0, l, a, w => Region.ready md ops l = [] ∧ Q .normal a w
  | n + 1, l, a, w => (Region.ready md ops l = [] → Q .normal a w) ∧ ∀ j ∈ Region.ready md ops l, wpOp P ops Q j (fun a' w' => Inv k S S7 (l.setIfInBounds j true) w' ∧ wpR P md ops Q k S S7 n (l.setIfInBounds j true) a' w') a w
theorem wpR_any : ∀ (n : Nat) (l : Array Bool) (a : Act) (w : World), wpR P md ops Q k S S7 n l a w → wpAny P md ops Q n l a w
  | 0, _, _, _, h => h
  | n + 1, _, _, _, h => ⟨h.1, fun j hj => wpOp_mono (fun a' w' h' => wpR_any n _ a' w' h'.2) (h.2 j hj)⟩
/-- What has come, came behind all that it waits for. -/
def Closed (md : Region.Mode) (ops : Array Oper) (l : Array Bool) : Prop := ∀ (j : Nat) (o : Oper), ops[j]? = some o → l.getD j false = true → ∀ e ∈ o.after, Region.binds md e = true → l.getD e.on false = true
theorem Closed.step {l : Array Bool} {j : Nat} (h : Closed md ops l) (hj : j ∈ Region.ready md ops l) : Closed md ops (l.setIfInBounds j true) := by
  obtain ⟨_, o, ho, hall⟩ := mem_ready.1 hj
  intro q oq hq hl e he hb
  rcases Decidable.em (j = q) with rfl | hne
  · obtain rfl : o = oq := Option.some.inj (ho.symm.trans hq)
    exact getD_set_true (hall e he hb)
  · rw [getD_set_ne false hne] at hl
    exact getD_set_true (h q oq hq hl e he hb)
def closedB (md : Region.Mode) (ops : Array Oper) (l : Array Bool) : Bool :=
  (List.range ops.size).all fun j => !l.getD j false || match ops[j]? with
    | some o => o.after.all fun e => !Region.binds md e || l.getD e.on false
    | none => true
theorem closed_of {l : Array Bool} (h : closedB md ops l = true) : Closed md ops l := by
  intro j o ho hl e he hb
  unfold closedB at h
  have h1 := List.all_eq_true.1 h j (List.mem_range.2 (Array.getElem?_eq_some_iff.1 ho).1)
  simp only [ho, hl, Bool.not_true, Bool.false_or] at h1
  have h2 := Array.all_eq_true_iff_forall_mem.1 h1 e he
  simpa [hb] using h2
/-- Does operation k wait for this one? -/
def waits (md : Region.Mode) (ops : Array Oper) (k i : Nat) : Bool := match ops[k]? with
  | some o => o.after.any fun e => Region.binds md e && e.on == i
  | none => true
theorem unlisted {l : Array Bool} {i : Nat} {b : Bool} (h : l.getD i true = false) (h1 : l.getD i b = true) : False := by
  rcases Nat.lt_or_ge i l.size with h2 | h2
  · simp [h2] at h h1; rw [h] at h1; cases h1
  · simp [Array.getElem?_eq_none h2] at h
theorem not_yet {i : Nat} {l : Array Bool} (hc : Closed md ops l) (hz : l.size = ops.size) (hw : waits md ops k i = true) (hi : l.getD i true = false) : l.getD k false = false := by
  cases hl : l.getD k false with
  | false => rfl
  | true =>
    exfalso
    unfold waits at hw
    cases ho : ops[k]? with
    | none =>
      have : ops.size ≤ k := Array.getElem?_eq_none_iff.1 ho
      have h2 : l[k]? = none := Array.getElem?_eq_none (by omega)
      simp [h2] at hl
    | some o =>
      simp only [ho] at hw
      obtain ⟨e, he, h2⟩ := Array.any_eq_true'.1 hw
      simp only [Bool.and_eq_true, beq_iff_eq] at h2
      have h3 := hc k o ho hl e he h2.1
      rw [h2.2] at h3
      exact unlisted hi h3
theorem Inv.set {l : Array Bool} {w : World} {i : Nat} (h : Inv k S S7 l w) (hne : i ≠ k) : Inv k S S7 (l.setIfInBounds i true) w := ⟨fun h0 => h.1 (by rwa [getD_set_ne false hne] at h0), h.2⟩
theorem wpR_first {i : Nat} {oi : Oper} {v : Value} {T : World → Prop} (hi : ops[i]? = some oi) (hs : Region.noSelect ops = true) (hik : i ≠ k)
    (hT : ∀ (l : Array Bool) (w : World), Closed md ops l → l.size = ops.size → l.getD i true = false → Inv k S S7 l w → T w)
    (hQ : ∀ c a w, Q (.panic c) (a.put oi.dst v) w → Q (.panic c) a w) (n : Nat) :
    ∀ (l : Array Bool) (a : Act) (w : World), Closed md ops l → l.size = ops.size → (∀ j oj, ops[j]? = some oj → j ≠ i → l.getD j true = false → (∀ e ∈ oj.after, Region.binds md e = true → e.on ≠ i) → oi.apart ops oj = true) →
      i ∈ Region.ready md ops l → YieldsIf P ops T oi v a → Inv k S S7 l w → wpR P md ops Q k S S7 n (l.setIfInBounds i true) (a.put oi.dst v) w → wpR P md ops Q k S S7 (n + 1) l a w := by
  have hsel := Region.noSelect_spec hs
  induction n with
  | zero =>
    intro l a w hc hz _ hr hy hS H
    refine ⟨fun h => absurd hr (by rw [h]; simp), fun j hj => ?_⟩
    rcases Decidable.em (j = i) with rfl | hne
    · exact hy.wpOp hi (hT l w hc hz (mem_ready.1 hr).1 hS) ⟨hS.set hik, H⟩
    · have := ready_mono hj hne
      rw [H.1] at this
      exact absurd this (by simp)
  | succ n ih =>
    intro l a w hc hz hfree hr hy hS H
    refine ⟨fun h => absurd hr (by rw [h]; simp), fun j hj => ?_⟩
    have hiu := (mem_ready.1 hr).1
    rcases Decidable.em (j = i) with rfl | hne
    · exact hy.wpOp hi (hT l w hc hz hiu hS) ⟨hS.set hik, H⟩
    · obtain ⟨hju, oj, hoj, hall⟩ := mem_ready.1 hj
      have hno : ∀ e ∈ oj.after, Region.binds md e = true → e.on ≠ i := fun e he hb heq => by
        have h1 := hall e he hb
        rw [heq] at h1
        exact unlisted hiu h1
      have h2 := wpOp_putIf hoj (hfree j oj hoj hne hju hno) (fun cs b => hsel i oi cs b hi) (fun cs b => hsel j oj cs b hoj) hQ hy (H.2 j (ready_mono hj hne))
      refine wpOp_mono (fun a' w' q => ?_) h2
      obtain ⟨q1, q2, q3⟩ := q
      rw [Array.setIfInBounds_comm _ _ (Ne.symm hne)] at q2 q3
      have hI : Inv k S S7 (l.setIfInBounds j true) w' := ⟨fun h0 => q2.1 (by rwa [getD_set_ne false hik]), q2.2⟩
      refine ⟨hI, ih (l.setIfInBounds j true) a' w' (hc.step hj) (by rw [Array.size_setIfInBounds]; exact hz) (fun q oq hq hqi hun hn => hfree q oq hq hqi ?_ hn) (ready_mono hr (Ne.symm hne)) q1 hI q3⟩
      rcases Decidable.em (j = q) with rfl | hjq
      · exact hju
      · rwa [getD_set_ne true hjq] at hun
/-- A read that store k waits for. -/
theorem wpR_take {i : Nat} {oi : Oper} {v : Value} {n : Nat} {l : Array Bool} {a : Act} {w : World} (hi : ops[i]? = some oi)
    (hs : Region.noSelect ops = true) (hw : (waits md ops k i && closedB md ops l && (l.size == ops.size) && (i != k)) = true) (hf : Region.free md ops l i = true) (hr : (Region.ready md ops l).contains i = true)
    (hQ : ∀ c a w, Q (.panic c) (a.put oi.dst v) w → Q (.panic c) a w) (hy : YieldsIf P ops S oi v a) (hS : S w ∧ S7 w)
    (h : wpR P md ops Q k S S7 n (l.setIfInBounds i true) (a.put oi.dst v) w) : wpR P md ops Q k S S7 (n + 1) l a w := by
  simp only [Bool.and_eq_true, beq_iff_eq, bne_iff_ne, ne_eq] at hw
  obtain ⟨⟨⟨w1, w2⟩, w3⟩, w4⟩ := hw
  exact wpR_first hi hs w4 (fun l' w' hc hz hu hI => hI.1 (not_yet hc hz w1 hu)) hQ n l a w (closed_of w2) w3 (Region.free_spec hi hf) (by simpa using hr) hy ⟨fun _ => hS.1, hS.2⟩ h
/-- A read that nothing disturbs. -/
theorem wpR_take7 {i : Nat} {oi : Oper} {v : Value} {n : Nat} {l : Array Bool} {a : Act} {w : World} (hi : ops[i]? = some oi)
    (hs : Region.noSelect ops = true) (hw : (closedB md ops l && (l.size == ops.size) && (i != k)) = true) (hf : Region.free md ops l i = true) (hr : (Region.ready md ops l).contains i = true)
    (hQ : ∀ c a w, Q (.panic c) (a.put oi.dst v) w → Q (.panic c) a w) (hy : YieldsIf P ops S7 oi v a) (hS : S w ∧ S7 w)
    (h : wpR P md ops Q k S S7 n (l.setIfInBounds i true) (a.put oi.dst v) w) : wpR P md ops Q k S S7 (n + 1) l a w := by
  simp only [Bool.and_eq_true, beq_iff_eq, bne_iff_ne, ne_eq] at hw
  obtain ⟨⟨w2, w3⟩, w4⟩ := hw
  exact wpR_first hi hs w4 (fun l' w' hc hz hu hI => hI.2) hQ n l a w (closed_of w2) w3 (Region.free_spec hi hf) (by simpa using hr) hy ⟨fun _ => hS.1, hS.2⟩ h
theorem wpR_op {i : Nat} {o : Oper} {n : Nat} {l : Array Bool} {a : Act} {w : World} (hr : Region.ready md ops l = [i]) (ho : ops[i]? = some o) (hg : o.guard = none)
    (h : ∀ K : Act → World → Prop, (∀ a' w', S w' ∧ S7 w' → wpR P md ops Q k S S7 n (l.setIfInBounds i true) a' w' → K a' w') → Oper.wp P o a w K Q) : wpR P md ops Q k S S7 (n + 1) l a w := by
  refine ⟨fun h0 => absurd h0 (by rw [hr]; simp), fun j hj => ?_⟩
  rw [hr] at hj
  obtain rfl := List.mem_singleton.1 hj
  unfold wpOp
  simp only [ho]
  have hw : Region.wanted o (yielded ops a.tmps) = true := by simp [Region.wanted, hg]
  rw [if_pos hw]
  exact Or.inl (h _ fun a' w' h1 h2 => ⟨⟨fun _ => h1.1, h1.2⟩, h2⟩)
/-- Store k, or one behind it. -/
theorem wpR_late {i : Nat} {o : Oper} {n : Nat} {l : Array Bool} {a : Act} {w : World} (hr : Region.ready md ops l = [i]) (ho : ops[i]? = some o) (hg : o.guard = none) (hl : (l.setIfInBounds i true).getD k false = true)
    (h : ∀ K : Act → World → Prop, (∀ a' w', S7 w' → wpR P md ops Q k S S7 n (l.setIfInBounds i true) a' w' → K a' w') → Oper.wp P o a w K Q) : wpR P md ops Q k S S7 (n + 1) l a w := by
  refine ⟨fun h0 => absurd h0 (by rw [hr]; simp), fun j hj => ?_⟩
  rw [hr] at hj
  obtain rfl := List.mem_singleton.1 hj
  unfold wpOp
  simp only [ho]
  have hw : Region.wanted o (yielded ops a.tmps) = true := by simp [Region.wanted, hg]
  rw [if_pos hw]
  exact Or.inl (h _ fun a' w' h1 h2 => ⟨⟨fun h0 => (by rw [hl] at h0; cases h0), h1⟩, h2⟩)
theorem wpR_done {n : Nat} {l : Array Bool} {a : Act} {w : World} (hr : Region.ready md ops l = []) (h : Q .normal a w) : wpR P md ops Q k S S7 n l a w := by
  cases n with
  | zero => exact ⟨hr, h⟩
  | succ n => exact ⟨fun _ => h, by rw [hr]; simp⟩
theorem region_reads {id : Nat} {a : Act} {w : World} (k : Nat) (S S7 : World → Prop) (n : Nat) (hn : ops.size = n) (hm : P.follows .mixedOrders = true)
    (h : wpR P .any ops Q k S S7 n (Array.replicate n false) a w.drew) : (Code.region id ops true).wp P Q a w := by
  subst hn
  exact wp_region_any hm (wpR_any _ _ _ _ h)
end
end Go.Proofs.YthcbhnggphdflaaGreatDoor

namespace Go.Proofs.YthcbhnggphdflaaGreatDoor
open Go.RowKit
set_option maxRecDepth 100000 in
set_option maxHeartbeats 2000000 in
theorem power_of (x : Value) (m n M L1 L2 : Nat) (w : World) (hx : IsBig w x m) (hn : n ≤ 4096) (hM : m ^ n = M) (h67 : m < 1000000000 ^ 67) (hP67 : m ^ n < 1000000000 ^ 67) (hL1 : Lib.nDigits m = L1) (hL2 : Lib.nDigits M = L2) (hl1 : L1 ≤ 600) (hl2 : L2 ≤ 600) (hq : ((L1 : Int) - 1) * (n : Int) < 600) (hq0 : -5000 ≤ ((L1 : Int) - 1) * (n : Int)) :
    Calls Tryz.prog 167 #[x, .int .i64 (n : Int)] w fun e w' => ∃ a l c, e = .returned (.tuple #[.agg #[.slice a l c], .bool true]) ∧ IsBig w' (.agg #[.slice a l c]) M ∧ Below w.heap.size w w' := by
  obtain ⟨xa, xn, xc, rfl⟩ := hx.shape
  have HLN : Hid (∀ W, IsBig W (.agg #[.slice xa xn xc]) m → Calls Tryz.prog 97 #[.agg #[.slice xa xn xc]] W fun e w' => e = .returned (.int .i64 (L1 : Int)) ∧ Below W.heap.size W w') := fun W h => by have := len_any _ m 67 W h (by decide) h67; rw [hL1] at this; exact this
  have HLM : Hid (∀ W v, IsBig W v M → Calls Tryz.prog 97 #[v] W fun e w' => e = .returned (.int .i64 (L2 : Int)) ∧ Below W.heap.size W w') := fun W v h => by have := len_any v M 67 W h (by decide) (by rw [← hM]; exact hP67); rw [hL2] at this; exact this
  have HPW : Hid (∀ W, IsBig W (.agg #[.slice xa xn xc]) m → Calls Tryz.prog 182 #[.agg #[.slice xa xn xc], .int .i64 (n : Int)] W fun e w' => ∃ a l c, e = .returned (.agg #[.slice a l c]) ∧ IsBig w' (.agg #[.slice a l c]) M ∧ Below W.heap.size W w') := fun W h => by have := bigPow_any _ m n 67 W h (by omega) (by decide) (by decide) hP67 h67; rw [hM] at this; exact this
  obtain ⟨V, hV⟩ : ∃ V, V = (w.alloc (.cells #[.slice xa xn xc] 116)).alloc (.cells #[.slice none 0 0] 116) := ⟨_, rfl⟩
  have HW : Hid (Below w.heap.size w V) := by rw [hV]; exact ((Below.refl _ _).alloc (Nat.le_refl _) _).alloc (by simp) _
  have HA : Hid (Box V w.heap.size (.slice xa xn xc)) := by rw [hV]; exact ⟨by simp [go_sem], by simp [go_sem]⟩
  have HR : Hid (Box V (w.heap.size + 1) (.slice none 0 0)) := by rw [hV]; exact ⟨by simp [go_sem], by simp [go_sem]⟩
  have HX := hide (hx.later (un HW))
  have HV := hide hV
  clear hV hx hM h67 hP67 hL1 hL2
  go_enter Tryz.func167, Tryz.ntmps167
  go_upto_region 1 with fail
  rw [← un HV]
  clear HV
  have a0 := (un HA).c
  go_upto_region 3 with (go_at_call 97; go_must (refine (un HLN _ (un HX)).mono ?_; rintro e w1 ⟨rfl, hb⟩; have HX1 := hide ((un HX).later hb); have HA1 := hide ((un HA).later hb); have HR1 := hide ((un HR).later hb); have HW1 : Hid (Below w.heap.size w w1) := (un HW).trans (hb.mono (un HW).size); clear hb a0))
  clear HX HA HR HW HLN hq hq0
  have a0 := (un HA1).c
  go_upto_region 4 with (go_at_call 182; go_must (refine (un HPW _ (un HX1)).mono ?_; rintro e w2 ⟨pa, pn, pc, rfl, hp, hb⟩; have HP2 := hide hp; have HR2 := hide ((un HR1).later hb); have HW2 : Hid (Below w.heap.size w w2) := (un HW1).trans (hb.mono (un HW1).size); clear hb hp a0))
  obtain ⟨V3, hV3⟩ : ∃ V3, V3 = w2.alloc (.cells #[.slice pa pn pc] 116) := ⟨_, rfl⟩
  have hb3 : Below w2.heap.size w2 V3 := by rw [hV3]; exact (Below.refl _ _).alloc (Nat.le_refl _) _
  have HB3 : Hid (Box V3 w2.heap.size (.slice pa pn pc)) := by rw [hV3]; exact ⟨by simp [go_sem], by simp [go_sem]⟩
  have HP3 := hide ((un HP2).later hb3); have HR3 := hide ((un HR2).later hb3); have HW3 : Hid (Below w.heap.size w V3) := (un HW2).trans (hb3.mono (un HW2).size)
  have HNE : Hid (¬ w.heap.size + 1 = w2.heap.size) := (by have := (un HR2).lt; show ¬ _; omega)
  rw [← hV3]
  clear hV3 hb3 HP2 HR2 HW2 HX1 HA1 HR1 HW1
  generalize w2.heap.size = g6 at *
  have HS0 : Hid (V3.drew.cell? ⟨g6, 0, none⟩ = some (.slice pa pn pc)) := (un HB3).c
  refine region_reads 4 (fun _ => True) (fun W' => W'.cell? ⟨g6, 0, none⟩ = some (.slice pa pn pc)) 6 rfl (by kernel_rfl) ?_
  refine wpR_take7 (i := 0) (oi := _) (v := .agg #[.slice pa pn pc]) rfl (by kernel_rfl) (by kernel_rfl) (by kernel_rfl) (by kernel_rfl) (fun _ _ _ h => h) (Or.inl ⟨by rfl, ?_⟩) ⟨trivial, un HS0⟩ ?_
  · intro W' hW
    go_simp
  refine wpR_take7 (i := 1) (oi := _) (v := .agg #[.slice pa pn pc]) rfl (by kernel_rfl) (by kernel_rfl) (by kernel_rfl) (by kernel_rfl) (fun _ _ _ h => h) (Or.inl ⟨by rfl, ?_⟩) ⟨trivial, un HS0⟩ ?_
  · intro W' hW
    go_simp
  have HP4 : Hid (IsBig V3.drew (.agg #[.slice pa pn pc]) M) := (un HP3).later ((Below.refl _ _).drew)
  have HR4 : Hid (Box V3.drew (w.heap.size + 1) (.slice none 0 0)) := (un HR3).later ((Below.refl _ _).drew)
  have HB4 : Hid (Box V3.drew g6 (.slice pa pn pc)) := (un HB3).later ((Below.refl _ _).drew)
  have HW4 : Hid (Below w.heap.size w V3.drew) := (un HW3).drew
  clear HP3 HR3 HB3 HW3 HS0
  generalize V3.drew = U at *
  refine wpR_op (i := 2) (o := _) (by kernel_rfl) rfl rfl (fun K hK => ?_)
  go_simp
  refine (un HLM _ _ (un HP4)).mono ?_
  rintro e U2 ⟨rfl, hb⟩
  have HP5 := hide ((un HP4).later hb); have HR5 := hide ((un HR4).later hb); have HB5 := hide ((un HB4).later hb); have HW5 : Hid (Below w.heap.size w U2) := (un HW4).trans (hb.mono (un HW4).size)
  clear hb HP4 HR4 HB4 HW4
  refine hK _ _ ⟨trivial, (un HB5).c⟩ ?_
  clear hK K
  have hl2I : (L2 : Int) ≤ 600 := by omega
  refine wpR_take7 (i := 3) (oi := _) (v := .bool true) rfl (by kernel_rfl) (by kernel_rfl) (by kernel_rfl) (by kernel_rfl) (fun _ _ _ h => h) (Or.inl ⟨by rfl, ?_⟩) ⟨trivial, (un HB5).c⟩ ?_
  · intro W' hW
    go_simp
  have r0 := (un HR5).c; have r1 := (un HR5).f
  refine wpR_late (i := 4) (o := _) (by kernel_rfl) rfl rfl (by kernel_rfl) (fun K hK => ?_)
  go_simp
  have hne : ¬ w.heap.size + 1 = g6 := un HNE
  have HB6 := hide ((un HB5).other (fun h => hne h.symm) (.slice pa pn pc))
  refine hK _ _ (un HB6).c ?_
  clear hK K
  refine wpR_late (i := 5) (o := _) (by kernel_rfl) rfl rfl (by kernel_rfl) (fun K hK => ?_)
  go_simp
  refine hK _ _ (un HB6).c ?_
  clear hK K
  refine wpR_done (by kernel_rfl) ?_
  go_wp2_with fail
  have hs := (un HR5).set (.slice pa pn pc)
  have u0 := hs.c
  refine bodyPost_ret (v := .tuple #[.agg #[.slice pa pn pc], .bool true]) (by simp [results, Tryz.results167, go_sem, u0]) rfl ⟨_, _, _, rfl, ?_, ?_⟩
  · exact (un HP5).box _ (un HR5).c (no_int _ _ _)
  · exact (un HW5).setCell (by simp) _
end Go.Proofs.YthcbhnggphdflaaGreatDoor

/- flo: NaN (48), Inf (49), words (33): a map that is made at each call. -/
import Derived.Test.YtijifpbpjinmhaaGreatDoorGcdSmall
import Derived.Test.YtijifpbpjinmhaaGreatDoorRefPower
import Derived.Laws.Tables
import Derived.Laws.CopyOwn
import Derived.Laws.ResultCell
import Derived.Deep.Cut
import Derived.Deep.RegionHeld3
import Derived.Deep.QuietTactic
import Derived.WalkMore
import Derived.LoopN
import Derived.Laws.Externs
import Derived.Laws.BitsAllLaws
import Derived.WalkLawsBesides
import Derived.Test.YtijifpbpjinmhaaGreatDoorCmpMath
import Derived.Maps.OwnSet
import Derived.Maps.RangeWalk
import Derived.Laws.EntriesVeiled
set_option maxHeartbeats 2000000
set_option maxRecDepth 100000
namespace Go.Proofs.YtijifpbpjinmhaaGreatDoor
open Go.RowKit
structure UB (W : World) (g : Nat) (vs : Array Value) : Prop where
  lt : g < W.heap.size
  c : ∀ i v, vs[i]? = some v → W.cell? ⟨g, i, none⟩ = some v
  f : ∀ i v, vs[i]? = some v → W.frozen? ⟨g, i, none⟩ = false
/-- A block that holds just these cells. -/
def OwnU (W : World) (g ty : Nat) (vs : Array Value) : Prop := W.heap[g]? = some (.cells vs ty (0, 0))
theorem OwnU.lt {W : World} {g ty : Nat} {vs : Array Value} (h : OwnU W g ty vs) : g < W.heap.size := (Array.getElem?_eq_some_iff.1 h).1
theorem OwnU.ub {W : World} {g ty : Nat} {vs : Array Value} (h : OwnU W g ty vs) : UB W g vs := by
  have hl := h.lt
  unfold OwnU at h
  exact ⟨hl, fun i v e => by simp [World.cell?, h, e], fun i v e => by simp [World.frozen?, h]⟩
theorem OwnU.alloc {W : World} {g ty : Nat} {vs : Array Value} (h : OwnU W g ty vs) (o : Obj) : OwnU (W.alloc o) g ty vs := (Below.heap_alloc W o g h.lt).trans h
theorem OwnU.later {W V : World} {g ty : Nat} {vs : Array Value} (h : OwnU W g ty vs) (hb : Below W.heap.size W V) : OwnU V g ty vs := (hb.block g h.lt).trans h
theorem OwnU.new (W : World) (vs : Array Value) (ty : Nat) : OwnU (W.alloc (.cells vs ty)) W.heap.size ty vs := heap_alloc_new W _
theorem OwnU.setRow {W : World} {g ty : Nat} {vs : Array Value} (h : OwnU W g ty vs) (us : Array Value) : OwnU (W.setRow g us) g ty us := setRow_heap W g _ _ ty (0, 0) h
theorem OwnU.other {W : World} {g k ty : Nat} {vs : Array Value} (h : OwnU W g ty vs) (hk : g ≠ k) (us : Array Value) : OwnU (W.setRow k us) g ty vs := (setRow_other W k g us hk).trans h
theorem OwnU.set1 {W : World} {g ty : Nat} {v : Value} (h : OwnU W g ty #[v]) (u : Value) : W.setCell ⟨g, 0, none⟩ u = W.setRow g #[u] := setCell_eq_setRow W g 0 _ _ _ u h
theorem storeT {ops : Array Oper} {rest : List Oper} {o : Oper} {a : Act} {w : World} {Q : Exit → Act → World → Prop} (ty sz : Nat) (hinfo : (Tryz.prog.info? ty).map (·.size) = some sz) (hgd : o.guard = none) (x y : Operand) (ho : o.op = .store ty x y)
    (g : Nat) (vs us : Array Value) (hv : vs.size = sz) (hu : us.size = sz) (hx : a.eval x = .pointer (some ⟨g, 0, none⟩)) (hy : a.eval y = .agg us) (hg : OwnU w g ty vs) (h1 : us.all (·.oneCell') = true)
    (h : wpList Tryz.prog ops Q rest (a.put o.dst undef) (w.setRow g us)) : wpList Tryz.prog ops Q (o :: rest) a w :=
  wpList_store_row hgd ty x y ho g us hx hy ty _ hg (by rw [hinfo, hu]) (by rw [hv, hu]) h1 h
theorem results_cell1 {fn : Func} {p : Tmp} {ty : TypeId} (h : fn.results = #[.cell p ty]) (tmps : Array Value) (P : Program) (w : World) :
    (results fn tmps).run P w = ((asAddr (tmps.getD p undef)).run P w).andThen fun a w' => (loadVar ty a).run P w' := by
  simp [results, h, go_sem]
theorem albel (W : World) (o : Obj) : Below W.heap.size W (W.alloc o) := (Below.refl _ _).alloc (Nat.le_refl _) _
theorem Row.setRow {w : World} {v : Value} {l : List Nat} (h : Row w v l) {g ty : Nat} {vs : Array Value} (ho : OwnU w g ty vs) (hn : ∀ (i : Nat) x, vs[i]? = some x → ∀ k n, x ≠ .int k n) (us : Array Value) : Row (w.setRow g us) v l := by
  obtain ⟨a, cap, rfl, hc, hm, hr⟩ := h
  refine ⟨a, cap, rfl, hc, hm, fun h0 => ?_⟩
  obtain ⟨b, o, rfl, hlt, hcell⟩ := hr h0
  have hb : b ≠ g := by
    rintro rfl
    have h1 := hcell 0 (List.length_pos_iff.2 h0)
    unfold OwnU at ho
    simp only [World.cell?, ho] at h1
    exact hn _ _ h1 _ _ rfl
  exact ⟨b, o, rfl, by simpa using hlt, fun i hi => by rw [cell_setRow_other _ _ _ _ hb]; exact hcell i hi⟩
theorem IsBig.setRow {w : World} {v : Value} {m : Nat} (h : IsBig w v m) {g ty : Nat} {vs : Array Value} (ho : OwnU w g ty vs) (hn : ∀ (i : Nat) x, vs[i]? = some x → ∀ k n, x ≠ .int k n) (us : Array Value) : IsBig (w.setRow g us) v m := by
  obtain ⟨s, l, rfl, hr, hl, hv⟩ := h
  exact ⟨s, l, rfl, hr.setRow ho hn us, hl, hv⟩
theorem nints1 (s : Value) (hs : ∀ k n, s ≠ .int k n) : ∀ (i : Nat) x, (#[s] : Array Value)[i]? = some x → ∀ k n, x ≠ .int k n
  | 0, _, h => by cases h; exact hs
  | i + 1, _, h => by simp at h
theorem nints2 (s t : Value) (hs : ∀ k n, s ≠ .int k n) (ht : ∀ k n, t ≠ .int k n) : ∀ (i : Nat) x, (#[s, t] : Array Value)[i]? = some x → ∀ k n, x ≠ .int k n
  | 0, _, h => by cases h; exact hs
  | 1, _, h => by cases h; exact ht
  | i + 2, _, h => by simp at h
/-- A size holds a numerator and a denominator. -/
def IsSz (w : World) (v : Value) (p q : Nat) : Prop := ∃ a1 l1 c1 a2 l2 c2, v = .agg #[.slice a1 l1 c1, .slice a2 l2 c2] ∧ IsBig w (.agg #[.slice a1 l1 c1]) p ∧ IsBig w (.agg #[.slice a2 l2 c2]) q
theorem IsSz.mk {w : World} {a1 a2 : Option Addr} {l1 c1 l2 c2 p q : Nat} (h1 : IsBig w (.agg #[.slice a1 l1 c1]) p) (h2 : IsBig w (.agg #[.slice a2 l2 c2]) q) : IsSz w (.agg #[.slice a1 l1 c1, .slice a2 l2 c2]) p q := ⟨_, _, _, _, _, _, rfl, h1, h2⟩
section
variable {P : Program} {ops : Array Oper} {Q : Exit → Act → World → Prop} {md : Region.Mode} {S S7 : World → Prop} {k : Nat}
theorem wpR_three {i j m n : Nat} {oi oj om : Oper} {l : Array Bool} {a : Act} {w : World} (hr : Region.ready md ops l = [i, j, m]) (hi : ops[i]? = some oi) (gi : oi.guard = none) (hj : ops[j]? = some oj) (gj : oj.guard = none) (hm : ops[m]? = some om) (gm : om.guard = none)
    (si : ∀ K : Act → World → Prop, (∀ a' w', S w' ∧ S7 w' → wpR P md ops Q k S S7 n (l.setIfInBounds i true) a' w' → K a' w') → Oper.wp P oi a w K Q)
    (sj : ∀ K : Act → World → Prop, (∀ a' w', S w' ∧ S7 w' → wpR P md ops Q k S S7 n (l.setIfInBounds j true) a' w' → K a' w') → Oper.wp P oj a w K Q)
    (sm : ∀ K : Act → World → Prop, (∀ a' w', S w' ∧ S7 w' → wpR P md ops Q k S S7 n (l.setIfInBounds m true) a' w' → K a' w') → Oper.wp P om a w K Q) : wpR P md ops Q k S S7 (n + 1) l a w := by
  refine wpR_some [i, j, m] hr (by simp) fun q hq => ?_
  rcases List.mem_cons.1 hq with rfl | hq
  · exact ⟨oi, hi, gi, si⟩
  · rcases List.mem_cons.1 hq with rfl | hq
    · exact ⟨oj, hj, gj, sj⟩
    · obtain rfl := List.mem_singleton.1 hq
      exact ⟨om, hm, gm, sm⟩
end
theorem run_bits (b : Nat) (w : World) : (callFunc 26 #[.float .f64 b]).run Tryz.prog w = .ok (.value (.int .u64 b)) w :=
  (run_callFunc_extern Tryz.func26 (by kernel_rfl) (by kernel_rfl) (by kernel_rfl) (show Extern.find Tryz.f26 = some Extern.MathFloatBits.float64bits by kernel_rfl) _ _).trans rfl
theorem run_from (b : Int) (w : World) : (callFunc 35 #[.int .u64 b]).run Tryz.prog w = .ok (.value (.float .f64 b.toNat)) w :=
  (run_callFunc_extern Tryz.func35 (by kernel_rfl) (by kernel_rfl) (by kernel_rfl) (show Extern.find Tryz.f35 = some Extern.MathFloatBits.float64frombits by kernel_rfl) _ _).trans rfl
/-- No number: by its bits. -/
def nanB (b : Nat) : Bool := decide (9218868437227405312 < b % 9223372036854775808)
theorem sign_lt : Ieee.double.signWeight = 9223372036854775808 := by decide +kernel
theorem inf_is : Ieee.double.infRung = 9218868437227405312 := by decide +kernel
theorem binade_is : Ieee.double.binade = 4503599627370496 := by decide +kernel
theorem least_is : Ieee.double.leastPlace = -1074 := by decide +kernel
theorem order_self (b : Nat) : (FloatKind.f64.format.order b b == some Ordering.eq) = !nanB b := by
  show ((Ieee.double.read b).order (Ieee.double.read b) == some Ordering.eq) = _
  unfold nanB Ieee.Format.read
  simp only [sign_lt, inf_is, binade_is]
  by_cases h1 : b % 9223372036854775808 < 4503599627370496
  · rw [if_pos h1]
    have h : ¬ 9218868437227405312 < b % 9223372036854775808 := by omega
    simp [Ieee.Datum.order, h]
  · rw [if_neg h1]
    by_cases h2 : b % 9223372036854775808 < 9218868437227405312
    · rw [if_pos h2]
      have h : ¬ 9218868437227405312 < b % 9223372036854775808 := by omega
      simp [Ieee.Datum.order, h]
    · rw [if_neg h2]
      by_cases h3 : b % 9223372036854775808 = 9218868437227405312
      · rw [if_pos h3]; simp [Ieee.Datum.order, h3]
      · rw [if_neg h3]
        have h : 9218868437227405312 < b % 9223372036854775808 := by omega
        simp [Ieee.Datum.order, h]
theorem order_neq (b : Nat) : (FloatKind.f64.format.order b b != some Ordering.eq) = nanB b := by unfold bne; rw [order_self]; simp
/-- None is above the greatest finite one but what is infinite. -/
theorem gt_max (b : Nat) (hb : b < 18446744073709551616) : (FloatKind.f64.format.order b 9218868437227405311 == some Ordering.gt) = decide (b = 9218868437227405312) := by
  have hm : Ieee.double.read 9218868437227405311 = .number false 9007199254740991 971 := by decide +kernel
  show ((Ieee.double.read b).order (Ieee.double.read 9218868437227405311) == some Ordering.gt) = _
  rw [hm]
  have hfin : ∀ (s : Bool) (m : Nat) (i : Int), m ≤ 9007199254740991 → i ≤ 971 → ((Ieee.Datum.number s m i).order (.number false 9007199254740991 971) == some Ordering.gt) = false := by
    intro s m i hm hi
    have hmin : min i 971 = i := by omega
    simp only [Ieee.Datum.order, hmin, Int.sub_self, Int.toNat_zero]
    have h1 : Ieee.signed s m 0 ≤ (m : Int) := by unfold Ieee.signed; split <;> simp <;> omega
    have h2 : (m : Int) ≤ Ieee.signed false 9007199254740991 (971 - i).toNat := by
      unfold Ieee.signed
      rw [if_neg (by simp), Nat.shiftLeft_eq]
      have := Nat.le_mul_of_pos_right 9007199254740991 (Nat.two_pow_pos (971 - i).toNat)
      omega
    have h3 : Ieee.signed s m 0 ≤ Ieee.signed false 9007199254740991 (971 - i).toNat := Int.le_trans h1 h2
    generalize Ieee.signed s m 0 = x at *
    generalize Ieee.signed false 9007199254740991 (971 - i).toNat = y at *
    have : compare x y ≠ Ordering.gt := by
      simp only [compare, compareOfLessAndEq]
      split
      · simp
      · split
        · simp
        · omega
    cases h : compare x y <;> simp_all
  unfold Ieee.Format.read
  simp only [sign_lt, inf_is, binade_is, least_is]
  by_cases h1 : b % 9223372036854775808 < 4503599627370496
  · rw [if_pos h1, hfin _ _ _ (by omega) (by omega)]
    exact (decide_eq_false (by omega)).symm
  · rw [if_neg h1]
    by_cases h2 : b % 9223372036854775808 < 9218868437227405312
    · rw [if_pos h2, hfin _ _ _ (by omega) (by omega)]
      exact (decide_eq_false (by omega)).symm
    · rw [if_neg h2]
      by_cases h3 : b % 9223372036854775808 = 9218868437227405312
      · rw [if_pos h3]
        by_cases h4 : b = 9218868437227405312
        · subst h4; decide +kernel
        · have : (b / 9223372036854775808 % 2 == 1) = true := by rw [beq_iff_eq]; omega
          rw [this]
          simp [Ieee.Datum.order, h4]
      · rw [if_neg h3]
        have h4 : b ≠ 9218868437227405312 := by omega
        simp [Ieee.Datum.order, h4]
theorem and_low (b : Nat) : b &&& 9223372036854775807 = b % 9223372036854775808 := Nat.and_two_pow_sub_one_eq_mod b 63
theorem and_top (b : Nat) (hb : b < 18446744073709551616) : b &&& 9223372036854775808 = if b < 9223372036854775808 then 0 else 9223372036854775808 := by
  have e : (9223372036854775808 : Nat) = 2 ^ 63 := rfl
  apply Nat.eq_of_testBit_eq
  intro i
  rw [Nat.testBit_and]
  by_cases hi : 63 = i
  · subst hi
    rw [Nat.testBit_eq_decide_div_mod_eq]
    split
    · have h1 : b / 2 ^ 63 = 0 := by omega
      simp [h1]
    · have h1 : b / 2 ^ 63 = 1 := by omega
      simp [h1]
  · have h0 : (9223372036854775808 : Nat).testBit i = false := by rw [e, Nat.testBit_two_pow]; simpa using hi
    rw [h0, Bool.and_false]
    split
    · simp
    · exact h0.symm
theorem or_top (b : Nat) (hb : b < 9223372036854775808) : b ||| 9223372036854775808 = b + 9223372036854775808 := by
  have := Nat.two_pow_add_eq_or_of_lt (i := 63) (b := b) (by simpa using hb) 1
  rw [Nat.or_comm]
  simp at this
  first | omega | (rw [← this]; omega) | skip
theorem xor_all (b : Nat) (hb : b < 18446744073709551616) : b ^^^ 18446744073709551615 = 18446744073709551615 - b := by
  apply Nat.eq_of_testBit_eq
  intro i
  have e : 18446744073709551615 - b = 2 ^ 64 - (b + 1) := by omega
  rw [e, Nat.testBit_two_pow_sub_succ (by simpa using hb), Nat.testBit_xor]
  have e2 : (18446744073709551615 : Nat) = 2 ^ 64 - 1 := rfl
  rw [e2, Nat.testBit_two_pow_sub_one]
  by_cases hi : i < 64
  · simp [hi]
  · have : b.testBit i = false := Nat.testBit_lt_two_pow (Nat.lt_of_lt_of_le (by simpa using hb) (Nat.pow_le_pow_right (n := 2) (i := 64) (by decide) (by omega)))
    simp [hi, this]
theorem xor_top (b : Nat) (hb : b < 9223372036854775808) : b ^^^ 9223372036854775808 = b + 9223372036854775808 := by
  have h : b &&& 9223372036854775808 = 0 := by rw [and_top b (by omega), if_pos hb]
  have h2 := or_top b hb
  rw [← h2]
  apply Nat.eq_of_testBit_eq
  intro i
  have h3 : (b &&& 9223372036854775808).testBit i = false := by rw [h]; simp
  rw [Nat.testBit_and] at h3
  rw [Nat.testBit_xor, Nat.testBit_or]
  revert h3
  cases b.testBit i <;> cases (9223372036854775808 : Nat).testBit i <;> simp
attribute [local go_sem] run_bits run_from
theorem isNaN_any (b : Nat) (w : World) : Calls Tryz.prog 36 #[.float .f64 b] w fun e w' => e = .returned (.bool (nanB b)) ∧ w' = w := by
  have h2 := order_neq b
  go_enter Tryz.func36, Tryz.ntmps36
  go_wp2
  go_ret
  exact ⟨rfl, rfl⟩
theorem andNot_top (b : Nat) (hb : b < 18446744073709551616) : bits BinOp.andNot IntKind.u64 (b : Int) 9223372036854775808 = ((b % 9223372036854775808 : Nat) : Int) := by
  have := u64_andNot_nat b 9223372036854775808 hb (by decide)
  rw [← and_low]; exact this
theorem andI_top (b : Nat) (hb : b < 18446744073709551616) : bits BinOp.and IntKind.u64 (b : Int) 9223372036854775808 = if b < 9223372036854775808 then 0 else 9223372036854775808 := by
  have := u64_and_nat b 9223372036854775808 hb (by decide)
  rw [and_top b hb] at this
  refine this.trans ?_
  split <;> rfl
theorem orI_top (b : Nat) (hb : b < 9223372036854775808) : bits BinOp.or IntKind.u64 (b : Int) 9223372036854775808 = ((b + 9223372036854775808 : Nat) : Int) := by
  have := u64_or_nat b 9223372036854775808 (by omega) (by decide)
  rw [or_top b hb] at this; exact this
theorem abs_any (b : Nat) (hb : b < 18446744073709551616) (w : World) : Calls Tryz.prog 65 #[.float .f64 b] w fun e w' => e = .returned (.float .f64 (b % 9223372036854775808)) ∧ w' = w := by
  have h := andNot_top b hb
  go_enter Tryz.func65, Tryz.ntmps65
  go_wp2
  go_ret
  exact ⟨rfl, rfl⟩
/-- A number that rises with the order. -/
def rk (b : Nat) : Nat := if nanB b then 18446744073709551615 else if b < 9223372036854775808 then b + 9223372036854775808 else 18446744073709551615 - b
theorem rank_any (b : Nat) (hb : b < 18446744073709551616) (w : World) : Calls Tryz.prog 61 #[.float .f64 b] w fun e w' => e = .returned (.int .u64 (rk b : Nat)) ∧ w' = w := by
  have h := andI_top b hb
  unfold rk
  by_cases hn : nanB b = true
  · rw [if_pos hn]
    go_enter Tryz.func61, Tryz.ntmps61
    go_wp2_with (go_at_call 36; refine (isNaN_any b _).mono ?_; rintro e w' ⟨rfl, rfl⟩)
    go_ret
    exact ⟨rfl, rfl⟩
  · have hn' : nanB b = false := by simpa using hn
    rw [if_neg hn]
    by_cases hs : b < 9223372036854775808
    · rw [if_pos hs] at h ⊢
      have h3 := orI_top b hs
      go_enter Tryz.func61, Tryz.ntmps61
      go_wp2_with (go_at_call 36; refine (isNaN_any b _).mono ?_; rintro e w' ⟨rfl, rfl⟩)
      go_ret
      exact ⟨rfl, rfl⟩
    · rw [if_neg hs] at h ⊢
      have h3 : bits BinOp.xor IntKind.u64 IntKind.u64.max (b : Int) = ((18446744073709551615 - b : Nat) : Int) := by
        have := u64_xor_nat 18446744073709551615 b (by decide) hb
        rw [Nat.xor_comm, xor_all b hb] at this; exact this
      go_enter Tryz.func61, Tryz.ntmps61
      go_wp2_with (go_at_call 36; refine (isNaN_any b _).mono ?_; rintro e w' ⟨rfl, rfl⟩)
      go_ret
      exact ⟨rfl, rfl⟩
theorem rk_lt (b : Nat) : rk b < 18446744073709551616 := by
  unfold rk
  split
  · decide
  · split <;> omega
end Go.Proofs.YtijifpbpjinmhaaGreatDoor
namespace Go.Proofs.YtijifpbpjinmhaaGreatDoor
open Go.RowKit
theorem run_negF (b : Nat) : Op.unary .neg (.float .f64 b) = (pure (.float .f64 (Op.negFloat .f64 b)) : Sem Value) := rfl
attribute [local go_sem] run_bits run_from run_negF
theorem xorF (b : Nat) : Op.negFloat .f64 b = b ^^^ 9223372036854775808 := rfl
theorem xor_off (b : Nat) (h1 : 9223372036854775808 ≤ b) (hb : b < 18446744073709551616) : b ^^^ 9223372036854775808 = b - 9223372036854775808 := by
  have h := xor_top (b - 9223372036854775808) (by omega)
  have e : b = (b - 9223372036854775808) ^^^ 9223372036854775808 := by rw [h]; omega
  conv => lhs; rw [e]
  rw [Nat.xor_assoc, Nat.xor_self, Nat.xor_zero]
theorem gt_max_neg (b : Nat) (hb : b < 18446744073709551616) : (FloatKind.f64.format.order (Op.negFloat .f64 b) 9218868437227405311 == some Ordering.gt) = decide (b = 18442240474082181120) := by
  rw [xorF]
  rcases Nat.lt_or_ge b 9223372036854775808 with h | h
  · rw [xor_top b h, gt_max _ (by omega)]
    rw [Bool.eq_iff_iff, decide_eq_true_eq, decide_eq_true_eq]; omega
  · rw [xor_off b h hb, gt_max _ (by omega)]
    rw [Bool.eq_iff_iff, decide_eq_true_eq, decide_eq_true_eq]; omega
theorem isInf_posC (b : Nat) (d : Bool) (h : (FloatKind.f64.format.order b 9218868437227405311 == some Ordering.gt) = d) (w : World) : Calls Tryz.prog 37 #[.float .f64 b, .int .i64 1] w fun e w' => e = .returned (.bool d) ∧ w' = w := by
  go_enter Tryz.func37, Tryz.ntmps37
  go_wp2
  exact bodyPost_ret (v := .bool d) (by simp [results, Tryz.results37, go_sem]) rfl ⟨rfl, rfl⟩
theorem isInf_pos (b : Nat) (hb : b < 18446744073709551616) (w : World) : Calls Tryz.prog 37 #[.float .f64 b, .int .i64 1] w fun e w' => e = .returned (.bool (decide (b = 9218868437227405312))) ∧ w' = w := isInf_posC b _ (gt_max b hb) w
theorem isInf_negC (b c : Nat) (d : Bool) (hc : Op.negFloat .f64 b = c) (h : (FloatKind.f64.format.order c 9218868437227405311 == some Ordering.gt) = d) (w : World) : Calls Tryz.prog 37 #[.float .f64 b, .int .i64 (-1)] w fun e w' => e = .returned (.bool d) ∧ w' = w := by
  go_enter Tryz.func37, Tryz.ntmps37
  go_wp2
  exact bodyPost_ret (v := .bool d) (by simp [results, Tryz.results37, go_sem]) rfl ⟨rfl, rfl⟩
theorem isInf_neg (b : Nat) (hb : b < 18446744073709551616) (w : World) : Calls Tryz.prog 37 #[.float .f64 b, .int .i64 (-1)] w fun e w' => e = .returned (.bool (decide (b = 18442240474082181120))) ∧ w' = w := isInf_negC b _ _ rfl (gt_max_neg b hb) w
def orF (n : Nat) : Nat := if n < 9223372036854775808 then 18446744073709551615 - n else n - 9223372036854775808
theorem ofRank_low (n m : Nat) (h : bits BinOp.and IntKind.u64 (n : Int) 9223372036854775808 = 0) (h3 : bits BinOp.xor IntKind.u64 IntKind.u64.max (n : Int) = (m : Int)) (w : World) : Calls Tryz.prog 63 #[.int .u64 (n : Int)] w fun e w' => e = .returned (.float .f64 m) ∧ w' = w := by
  go_enter Tryz.func63, Tryz.ntmps63
  go_wp2
  go_ret
  exact ⟨by simp, rfl⟩
theorem ofRank_high (n m : Nat) (h : bits BinOp.and IntKind.u64 (n : Int) 9223372036854775808 = 9223372036854775808) (h3 : bits BinOp.andNot IntKind.u64 (n : Int) 9223372036854775808 = (m : Int)) (w : World) : Calls Tryz.prog 63 #[.int .u64 (n : Int)] w fun e w' => e = .returned (.float .f64 m) ∧ w' = w := by
  go_enter Tryz.func63, Tryz.ntmps63
  go_wp2
  go_ret
  exact ⟨by simp, rfl⟩
theorem ofRank_any (n : Nat) (hb : n < 18446744073709551616) (w : World) : Calls Tryz.prog 63 #[.int .u64 (n : Int)] w fun e w' => e = .returned (.float .f64 (orF n)) ∧ w' = w := by
  have h := andI_top n hb
  by_cases hs : n < 9223372036854775808
  · rw [if_pos hs] at h
    have e : orF n = 18446744073709551615 - n := if_pos hs
    have h3 := u64_xor_nat 18446744073709551615 n (by decide) hb
    rw [Nat.xor_comm, xor_all n hb] at h3
    rw [e]
    exact ofRank_low n _ h h3 w
  · rw [if_neg hs] at h
    have e : orF n = n - 9223372036854775808 := if_neg hs
    have h3 := andNot_top n hb
    rw [show n % 9223372036854775808 = n - 9223372036854775808 by omega] at h3
    rw [e]
    exact ofRank_high n _ h h3 w
theorem isNaNu_any (a : Int) (w : World) : Calls Tryz.prog 114 #[.int .u64 a] w fun e w' => e = .returned (.bool false) ∧ w' = w := by
  go_enter Tryz.func114, Tryz.ntmps114
  go_wp2
  go_ret
  exact ⟨rfl, rfl⟩
theorem cmpu_any (a b : Nat) (w : World) : Calls Tryz.prog 60 #[.int .u64 (a : Int), .int .u64 (b : Int)] w fun e w' => e = .returned (.int .i64 (Cub.cmpN a b)) ∧ w' = w := by
  unfold Cub.cmpN
  by_cases h : a < b
  · rw [if_pos h]
    have h1 : (a : Int) < (b : Int) := by omega
    go_enter Tryz.func60, Tryz.ntmps60
    go_wp2_with (go_at_call 114; refine (isNaNu_any _ _).mono ?_; rintro e w' ⟨rfl, rfl⟩)
    go_ret
    exact ⟨rfl, rfl⟩
  · rw [if_neg h]
    by_cases h2 : b < a
    · rw [if_pos h2]
      have h1 : ¬ (a : Int) < (b : Int) := by omega
      have h3 : (b : Int) < (a : Int) := by omega
      go_enter Tryz.func60, Tryz.ntmps60
      go_wp2_with (go_at_call 114; refine (isNaNu_any _ _).mono ?_; rintro e w' ⟨rfl, rfl⟩)
      go_ret
      exact ⟨rfl, rfl⟩
    · rw [if_neg h2]
      have h1 : ¬ (a : Int) < (b : Int) := by omega
      have h3 : ¬ (b : Int) < (a : Int) := by omega
      go_enter Tryz.func60, Tryz.ntmps60
      go_wp2_with (go_at_call 114; refine (isNaNu_any _ _).mono ?_; rintro e w' ⟨rfl, rfl⟩)
      go_ret
      exact ⟨rfl, rfl⟩
theorem order_any (a b : Nat) (ha : a < 18446744073709551616) (hb : b < 18446744073709551616) (w : World) : Calls Tryz.prog 20 #[.float .f64 a, .float .f64 b] w fun e w' => e = .returned (.int .i64 (Cub.cmpN (rk a) (rk b))) ∧ w' = w := by
  go_enter Tryz.func20, Tryz.ntmps20
  go_wp2_with (first
    | (go_at_call_of 61 (Value.float FloatKind.f64 a); refine (rank_any a ha _).mono ?_; rintro e w' ⟨rfl, rfl⟩)
    | (go_at_call 61; refine (rank_any b hb _).mono ?_; rintro e w' ⟨rfl, rfl⟩)
    | (go_at_call 60; refine (cmpu_any (rk a) (rk b) _).mono ?_; rintro e w' ⟨rfl, rfl⟩))
  go_ret
  exact ⟨rfl, rfl⟩
/-- The next one, up or down. -/
def nextF (b : Nat) (up : Bool) : Nat := if nanB b || (up && decide (b = 9218868437227405312)) || (!up && decide (b = 18442240474082181120)) then b else if up then orF ((rk b + 1) % 18446744073709551616) else orF ((rk b + 18446744073709551615) % 18446744073709551616)
theorem next_core (b : Nat) (up n1 n2 n3 : Bool) (r r1 r2 o1 o2 : Nat) (w : World) (h1 : ∀ W, Calls Tryz.prog 36 #[.float .f64 b] W fun e w' => e = .returned (.bool n1) ∧ w' = W)
    (h2 : ∀ W, Calls Tryz.prog 37 #[.float .f64 b, .int .i64 1] W fun e w' => e = .returned (.bool n2) ∧ w' = W) (h3 : ∀ W, Calls Tryz.prog 37 #[.float .f64 b, .int .i64 (-1)] W fun e w' => e = .returned (.bool n3) ∧ w' = W)
    (hr : ∀ W, Calls Tryz.prog 61 #[.float .f64 b] W fun e w' => e = .returned (.int .u64 (r : Int)) ∧ w' = W) (e1 : IntKind.u64.wrap ((r : Int) + 1) = (r1 : Int)) (e2 : IntKind.u64.wrap ((r : Int) - 1) = (r2 : Int))
    (ho1 : ∀ W, Calls Tryz.prog 63 #[.int .u64 (r1 : Int)] W fun e w' => e = .returned (.float .f64 o1) ∧ w' = W) (ho2 : ∀ W, Calls Tryz.prog 63 #[.int .u64 (r2 : Int)] W fun e w' => e = .returned (.float .f64 o2) ∧ w' = W) :
    Calls Tryz.prog 22 #[.float .f64 b, .bool up] w fun e w' => e = .returned (.float .f64 (if n1 || (up && n2) || (!up && n3) then b else if up then o1 else o2)) ∧ w' = w := by
  have H1 := hide h1
  have H2 := hide h2
  have H3 := hide h3
  have HR := hide hr
  have HO1 := hide ho1
  have HO2 := hide ho2
  clear h1 h2 h3 hr ho1 ho2
  cases n1
  · cases up
    · cases n3
      · go_enter Tryz.func22, Tryz.ntmps22
        go_wp2_with (first
          | (go_at_call 36; refine (unhide H1 _).mono ?_; rintro e w' ⟨rfl, rfl⟩)
          | (go_at_call 37; refine (unhide H3 _).mono ?_; rintro e w' ⟨rfl, rfl⟩)
          | (go_at_call 61; refine (unhide HR _).mono ?_; rintro e w' ⟨rfl, rfl⟩)
          | (go_at_call 63; refine (unhide HO2 _).mono ?_; rintro e w' ⟨rfl, rfl⟩))
        go_ret
        exact ⟨by simp, rfl⟩
      · go_enter Tryz.func22, Tryz.ntmps22
        go_wp2_with (first
          | (go_at_call 36; refine (unhide H1 _).mono ?_; rintro e w' ⟨rfl, rfl⟩)
          | (go_at_call 37; refine (unhide H3 _).mono ?_; rintro e w' ⟨rfl, rfl⟩))
        go_ret
        exact ⟨by simp, rfl⟩
    · cases n2
      · go_enter Tryz.func22, Tryz.ntmps22
        go_wp2_with (first
          | (go_at_call 36; refine (unhide H1 _).mono ?_; rintro e w' ⟨rfl, rfl⟩)
          | (go_at_call 37; refine (unhide H2 _).mono ?_; rintro e w' ⟨rfl, rfl⟩)
          | (go_at_call 61; refine (unhide HR _).mono ?_; rintro e w' ⟨rfl, rfl⟩)
          | (go_at_call 63; refine (unhide HO1 _).mono ?_; rintro e w' ⟨rfl, rfl⟩))
        go_ret
        exact ⟨by simp, rfl⟩
      · go_enter Tryz.func22, Tryz.ntmps22
        go_wp2_with (first
          | (go_at_call 36; refine (unhide H1 _).mono ?_; rintro e w' ⟨rfl, rfl⟩)
          | (go_at_call 37; refine (unhide H2 _).mono ?_; rintro e w' ⟨rfl, rfl⟩))
        go_ret
        exact ⟨by simp, rfl⟩
  · go_enter Tryz.func22, Tryz.ntmps22
    go_wp2_with (go_at_call 36; refine (unhide H1 _).mono ?_; rintro e w' ⟨rfl, rfl⟩)
    go_ret
    exact ⟨by simp, rfl⟩
theorem next_any (b : Nat) (up : Bool) (hb : b < 18446744073709551616) (w : World) : Calls Tryz.prog 22 #[.float .f64 b, .bool up] w fun e w' => e = .returned (.float .f64 (nextF b up)) ∧ w' = w := by
  have hr := rk_lt b
  exact next_core b up _ _ _ (rk b) ((rk b + 1) % 18446744073709551616) ((rk b + 18446744073709551615) % 18446744073709551616) _ _ w (isNaN_any b) (isInf_pos b hb) (isInf_neg b hb) (rank_any b hb) (by rw [IntKind.wrap_u64]; omega) (by rw [IntKind.wrap_u64]; omega) (fun W => ofRank_any _ (Nat.mod_lt _ (by decide)) W) (fun W => ofRank_any _ (Nat.mod_lt _ (by decide)) W)
end Go.Proofs.YtijifpbpjinmhaaGreatDoor
namespace Go.Proofs.YtijifpbpjinmhaaGreatDoor
open Go.RowKit
attribute [local go_sem] run_bits run_from
/-- The same: to the bit, or both no number. -/
def sameB (a b : Nat) : Bool := (nanB a && nanB b) || decide (a = b)
theorem same_core (a b : Nat) (x y : Bool) (h1 : (FloatKind.f64.format.order a a != some Ordering.eq) = x) (h2 : (FloatKind.f64.format.order b b != some Ordering.eq) = y) (w : World) : Calls Tryz.prog 12 #[.float .f64 a, .float .f64 b] w fun e w' => e = .returned (.bool ((x && y) || ((a : Int) == (b : Int)))) ∧ w' = w := by
  cases x <;> cases y
  all_goals
    go_enter Tryz.func12, Tryz.ntmps12
    go_wp2
    go_ret
    exact ⟨by simp, rfl⟩
theorem same_any (a b : Nat) (w : World) : Calls Tryz.prog 12 #[.float .f64 a, .float .f64 b] w fun e w' => e = .returned (.bool (sameB a b)) ∧ w' = w := by
  have h := same_core a b (nanB a) (nanB b) (order_neq a) (order_neq b) w
  have e : ((a : Int) == (b : Int)) = decide (a = b) := by
    rw [Bool.eq_iff_iff]
    simp only [beq_iff_eq, decide_eq_true_eq]
    omega
  rw [e] at h
  exact h
/-- What the model may choose for 'no number'. -/
def nanC (t : Nat) : Nat := t % 2 * 2 ^ 63 + 0x7ff0000000000000 + 1 + t / 2 % (2 ^ 52 - 1)
theorem nanC_nan (t : Nat) : nanB (nanC t) = true := by
  have h2 : t / 2 % (2 ^ 52 - 1) < 2 ^ 52 - 1 := Nat.mod_lt _ (by decide)
  unfold nanB nanC
  simp only [decide_eq_true_eq]
  generalize t / 2 % (2 ^ 52 - 1) = k at *
  rcases Nat.mod_two_eq_zero_or_one t with h | h <;> rw [h] <;> omega
/-- No number reads as such. -/
theorem read_nan (b : Nat) (h : nanB b = true) : ∃ s p, Ieee.double.read b = .nan s p := by
  have h' : 9218868437227405312 < b % 9223372036854775808 := by simpa [nanB] using h
  unfold Ieee.Format.read
  simp only [sign_lt, inf_is, binade_is]
  rw [if_neg (by omega), if_neg (by omega), if_neg (by omega)]
  exact ⟨_, _, rfl⟩
theorem order_nan_l (b c : Nat) (h : nanB b = true) : FloatKind.f64.format.order b c = none := by
  show (Ieee.double.read b).order (Ieee.double.read c) = none
  obtain ⟨s, p, e⟩ := read_nan b h
  rw [e]
  rfl
theorem order_nanC (t : Nat) : (FloatKind.f64.format.order (nanC t) 0 != some Ordering.eq) = true := by rw [order_nan_l _ _ (nanC_nan t)]; rfl
end Go.Proofs.YtijifpbpjinmhaaGreatDoor
namespace Go.Proofs.YtijifpbpjinmhaaGreatDoor
open Go.RowKit Go.Maps Go.ChangeMaps Go.WideMaps
attribute [local go_sem] run_bits run_from
theorem nan_any (w : World) : Calls Tryz.prog 49 #[] w fun e w' => e = .returned (.float .f64 9221120237041090561) ∧ w' = w := by
  go_enter Tryz.func49, Tryz.ntmps49
  go_wp2
  go_ret
  exact ⟨by simp, rfl⟩
theorem inf_pos (w : World) : Calls Tryz.prog 50 #[.int .i64 1] w fun e w' => e = .returned (.float .f64 9218868437227405312) ∧ w' = w := by
  go_enter Tryz.func50, Tryz.ntmps50
  go_wp2
  go_ret
  exact ⟨by simp, rfl⟩
theorem inf_neg (w : World) : Calls Tryz.prog 50 #[.int .i64 (-1)] w fun e w' => e = .returned (.float .f64 18442240474082181120) ∧ w' = w := by
  go_enter Tryz.func50, Tryz.ntmps50
  go_wp2
  go_ret
  exact ⟨by simp, rfl⟩
/-- A float reads by its bits. -/
def wR : Value → Option (DataW Unit × List MemPlace)
  | .float .f64 b => some (.lit (.int .i64 (b : Int)), [])
  | _ => none
def wD0 : DataW Unit := .map []
def wD1 : DataW Unit := wD0.put (.string [78, 97, 78]) (.lit (.int .i64 9221120237041090561))
def wD2 : DataW Unit := wD1.put (.string [43, 73, 110, 102]) (.lit (.int .i64 9218868437227405312))
def wD3 : DataW Unit := wD2.put (.string [45, 73, 110, 102]) (.lit (.int .i64 18442240474082181120))
def wD : Nat → DataW Unit
  | 0 => wD0
  | 1 => wD1
  | 2 => wD2
  | _ => wD3
theorem underM : Tryz.prog.underlying 70 = some (.map 9 24) := by kernel_rfl
theorem key_of (s : ByteArray) (h : s.size ≤ 20) : keyOf Tryz.prog 9 (.string s) = some (.string s.data.toList) := keyOf_string_mk Tryz.underlying9 (by unfold maxLen; omega)
theorem words_any (w : World) : Calls Tryz.prog 43 #[] w fun r w' => r = .returned (.map (some w.heap.size)) ∧ w'.ownsMap Tryz.prog 9 wR w.heap.size 3 (wD 3) ∧ Below w.heap.size w w' := by
  have hmm := @run_makeMap Tryz.prog
  obtain ⟨W1, hW1⟩ : ∃ W1, W1 = w.alloc (.map #[] 0) := ⟨_, rfl⟩
  have HO : Hid (W1.ownsMap Tryz.prog 9 wR w.heap.size 0 (wD 0)) := by rw [hW1]; exact World.ownsMap_made w Tryz.prog 9 wR
  have HB : Hid (Below w.heap.size w W1 ∧ w.heap.size + 1 ≤ W1.heap.size) := by rw [hW1]; exact ⟨(Below.refl _ _).alloc (Nat.le_refl _) _, by simp⟩
  go_enter Tryz.func43, Tryz.ntmps43
  go_wp2_with (go_at_call 49; go_must (refine (nan_any _).mono ?_; rintro e ww ⟨rfl, hw⟩; have hw2 := hw.symm; subst hw2; clear hw))
  rw [← hW1]
  clear hW1
  obtain ⟨wu0, hrun, r1, r2⟩ := (unhide HO).update (string_keyed Tryz.underlying9) underM (by unfold maxLen; omega) (key_of ⟨#[78, 97, 78]⟩ (by decide)) (show wR (.float .f64 9221120237041090561) = some (.lit (.int .i64 9221120237041090561), []) from rfl)
  rw [hrun]
  clear hrun HO
  have HO : Hid (wu0.ownsMap Tryz.prog 9 wR w.heap.size 1 (wD 1)) := r1
  replace HB : Hid (Below w.heap.size w wu0 ∧ w.heap.size + 1 ≤ wu0.heap.size) := ⟨(unhide HB).1.grown r2 (by have h := (unhide HB).2; omega) (fun j hj => by cases hj; exact Nat.le_refl _), Nat.le_trans (unhide HB).2 r2.size⟩
  clear r1 r2
  go_wp2_with (go_at_call 50; go_must (refine (inf_pos _).mono ?_; rintro e ww ⟨rfl, hw⟩; have hw2 := hw.symm; subst hw2; clear hw))
  obtain ⟨wu1, hrun, r1, r2⟩ := (unhide HO).update (string_keyed Tryz.underlying9) underM (by unfold maxLen; omega) (key_of ⟨#[43, 73, 110, 102]⟩ (by decide)) (show wR (.float .f64 9218868437227405312) = some (.lit (.int .i64 9218868437227405312), []) from rfl)
  rw [hrun]
  clear hrun HO
  have HO : Hid (wu1.ownsMap Tryz.prog 9 wR w.heap.size 2 (wD 2)) := r1
  replace HB : Hid (Below w.heap.size w wu1 ∧ w.heap.size + 1 ≤ wu1.heap.size) := ⟨(unhide HB).1.grown r2 (by have h := (unhide HB).2; omega) (fun j hj => by cases hj; exact Nat.le_refl _), Nat.le_trans (unhide HB).2 r2.size⟩
  clear r1 r2
  go_wp2_with (go_at_call 50; go_must (refine (inf_neg _).mono ?_; rintro e ww ⟨rfl, hw⟩; have hw2 := hw.symm; subst hw2; clear hw))
  obtain ⟨wu2, hrun, r1, r2⟩ := (unhide HO).update (string_keyed Tryz.underlying9) underM (by unfold maxLen; omega) (key_of ⟨#[45, 73, 110, 102]⟩ (by decide)) (show wR (.float .f64 18442240474082181120) = some (.lit (.int .i64 18442240474082181120), []) from rfl)
  rw [hrun]
  clear hrun HO
  have HO : Hid (wu2.ownsMap Tryz.prog 9 wR w.heap.size 3 (wD 3)) := r1
  replace HB : Hid (Below w.heap.size w wu2 ∧ w.heap.size + 1 ≤ wu2.heap.size) := ⟨(unhide HB).1.grown r2 (by have h := (unhide HB).2; omega) (fun j hj => by cases hj; exact Nat.le_refl _), Nat.le_trans (unhide HB).2 r2.size⟩
  clear r1 r2
  go_wp2_with fail
  go_ret
  exact ⟨rfl, unhide HO, (unhide HB).1⟩
theorem wD_at : ∀ kl zd, Maps.has (wD 3) kl = true → (wD 3).atKey kl zd = .lit (.int .i64 9221120237041090561) ∨ (wD 3).atKey kl zd = .lit (.int .i64 9218868437227405312) ∨ (wD 3).atKey kl zd = .lit (.int .i64 18442240474082181120) := by
  intro kl zd h
  by_cases e2 : kl = .string [45, 73, 110, 102]
  · subst e2; right; right; kernel_rfl
  · rw [show wD 3 = (wD 2).put (.string [45, 73, 110, 102]) (.lit (.int .i64 18442240474082181120)) from rfl, Maps.has_put_other e2] at h
    by_cases e1 : kl = .string [43, 73, 110, 102]
    · subst e1; right; left; kernel_rfl
    · rw [show wD 2 = (wD 1).put (.string [43, 73, 110, 102]) (.lit (.int .i64 9218868437227405312)) from rfl, Maps.has_put_other e1] at h
      by_cases e0 : kl = .string [78, 97, 78]
      · subst e0; left; kernel_rfl
      · rw [show wD 1 = (wD 0).put (.string [78, 97, 78]) (.lit (.int .i64 9221120237041090561)) from rfl, Maps.has_put_other e0] at h
        exact absurd h (by simp [wD, wD0, Maps.has])
theorem wR_inv {v : Value} {p : Int} {ps : List MemPlace} (h : wR v = some (.lit (.int .i64 p), ps)) : ∃ b : Nat, v = .float .f64 b ∧ (b : Int) = p := by
  unfold wR at h
  split at h
  · cases h; exact ⟨_, rfl, rfl⟩
  · cases h
end Go.Proofs.YtijifpbpjinmhaaGreatDoor

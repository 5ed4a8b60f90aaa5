/- The document's two (92), value (42). -/
import Derived.Test.YtijifpbpjinmhaaGreatDoorTakeB
import Derived.Lib.ItoaLen
import Derived.OrdersHeld
import Derived.Deep.RegionHeld3
import Derived.Test.YtijifpbpjinmhaaGreatDoorProg
import Derived.Test.YtijifpbpjinmhaaGreatDoorRefPower
set_option maxHeartbeats 4000000
set_option maxRecDepth 100000
namespace Go.Proofs.YtijifpbpjinmhaaGreatDoor
open Go.RowKit
theorem one_byte (wr : World) (c : Nat) (hc : c < 10) : (convert 46 9 (.slice (some ⟨wr.heap.size, 0, none⟩) 1 1)).run Tryz.prog (wr.alloc (.cells #[.int .u8 (48 + (c : Int))] 5)) = .ok (.string ⟨#[UInt8.ofNat (48 + c)]⟩) (wr.alloc (.cells #[.int .u8 (48 + (c : Int))] 5)) := by
  have h := run_convert_bytes_back (P := Tryz.prog) (wr.alloc (.cells #[.int .u8 (48 + (c : Int))] 5)) 46 9 5 ⟨wr.heap.size, 0, none⟩ 1 [UInt8.ofNat (48 + c)] Tryz.underlying46 Tryz.underlying5 Tryz.underlying9 (fun j hj => by
    have : j = 0 := by simpa using hj
    subst this
    rw [Lib.add_plain]
    simp only [List.getElem_cons_zero, Cub.toNat_dig c hc]
    simp [go_sem])
  exact h
theorem append_one (b : UInt8) (T : List UInt8) : (⟨([b] ++ T).toArray⟩ : ByteArray) = ⟨#[b]⟩ ++ ⟨T.toArray⟩ := by
  apply ByteArray.ext
  simp
theorem dval_take (l : List UInt8) (k : Nat) : Cub.dval (l.take k) ≤ Cub.dval l := by
  have h := Cub.dval_append (l.take k) (l.drop k)
  rw [List.take_append_drop] at h
  have : Cub.dval (l.take k) * 1 ≤ Cub.dval (l.take k) * 10 ^ (l.drop k).length := Nat.mul_le_mul_left _ (Nat.one_le_pow _ _ (by decide))
  omega
theorem refOf_any (u : Nat) (hu : u < 18446744073709551616) (w : World) :
    Calls Tryz.prog 91 #[.int .u64 u] w fun e w' => e = .returned (.string ⟨(Lib.decDigits u).toArray⟩) ∧ Below w.heap.size w w' := by
  go_enter Tryz.func91, Tryz.ntmps91
  go_wp2
  go_loopw [0, 3] (fun n s wr => ∃ (q : Nat) (T : List UInt8), n = .int .u64 (q : Int) ∧ s = .string ⟨T.toArray⟩ ∧ q < 18446744073709551616 ∧ T.length ≤ 30 ∧ Hid (Lib.decDigits u = Lib.decDigits q ++ T) ∧ Below w.heap.size w wr) (fun n _ _ => (intOf n).toNat)
  case atStart => exact ⟨u, [], rfl, rfl, hu, by simp, (List.append_nil _).symm, Below.refl _ _⟩
  case round =>
    obtain ⟨q, T, rfl, rfl, hq, hT, HT, hb⟩ := hrel
    by_cases h9 : 9 < q
    · have hcv := one_byte wr (q % 10) (Nat.mod_lt _ (by decide))
      rw [show (((q % 10 : Nat)) : Int) = (q : Int) % 10 from by omega] at hcv
      have HB : Hid (Lib.decDigits u = Lib.decDigits (q / 10) ++ ([UInt8.ofNat (48 + q % 10)] ++ T)) := by
        rw [unhide HT, ← List.append_assoc]
        rw [show Lib.decDigits q = Lib.decDigits (q / 10) ++ [UInt8.ofNat (48 + q % 10)] from by rw [Lib.decDigits, dif_neg (by omega)]]
        exact rfl
      have hT' : T.length + 1 ≤ 30 := by
        have h1 := congrArg List.length (unhide HB)
        simp only [List.length_append, List.length_cons, List.length_nil, Lib.decDigits_length] at h1
        have h2 := Lib.nDigits_le20 u hu
        omega
      generalize UInt8.ofNat (48 + q % 10) = b at *
      go_wp2
      go_roundw
      case rel => exact ⟨q / 10, [b] ++ T, by go_num, by rw [append_one], by omega, by simpa using hT', HB, hb.alloc hb.size _⟩
      case measure => simp [intOf]; omega
    · have hcv := one_byte wr q (by omega)
      have HB : Hid (Lib.decDigits u = [UInt8.ofNat (48 + q)] ++ T) := by
        rw [unhide HT, Lib.decDigits_one (by omega)]; exact rfl
      generalize UInt8.ofNat (48 + q) = b at *
      go_wp2
      go_ret
      exact ⟨by rw [unhide HB, append_one]; rfl, hb.alloc hb.size _⟩
end Go.Proofs.YtijifpbpjinmhaaGreatDoor
namespace Go.Proofs.YtijifpbpjinmhaaGreatDoor
section
variable {P : Program} {ops : Array Oper} {Q : Exit → Act → World → Prop} {md : Region.Mode} {S S7 : World → Prop} {k : Nat}
/-- What stands once these have come. -/
def Inv (k : Nat) (S S7 : World → Prop) (l : Array Bool) (w : World) : Prop := (l.getD k false = false → S w) ∧ S7 w
/-- Whatever order: what stands does so behind each operation. -/
def wpR (P : Program) (md : Region.Mode) (ops : Array Oper) (Q : Exit → Act → World → Prop) (k : Nat) (S S7 : World → Prop) : Nat → Array Bool → Act → World → Prop
  | 0, l, a, w => Region.ready md ops l = [] ∧ Q .normal a w
  | n + 1, l, a, w => (Region.ready md ops l = [] → Q .normal a w) ∧ ∀ j ∈ Region.ready md ops l, wpOp P ops Q j (fun a' w' => Inv k S S7 (l.setIfInBounds j true) w' ∧ wpR P md ops Q k S S7 n (l.setIfInBounds j true) a' w') a w
theorem wpR_any : ∀ (n : Nat) (l : Array Bool) (a : Act) (w : World), wpR P md ops Q k S S7 n l a w → wpAny P md ops Q n l a w
  | 0, _, _, _, h => h
  | n + 1, _, _, _, h => ⟨h.1, fun j hj => wpOp_mono (fun a' w' h' => wpR_any n _ a' w' h'.2) (h.2 j hj)⟩
/-- What has come, came behind all that it waits for. -/
def Closed (md : Region.Mode) (ops : Array Oper) (l : Array Bool) : Prop := ∀ (j : Nat) (o : Oper), ops[j]? = some o → l.getD j false = true → ∀ e ∈ o.after, Region.binds md e = true → l.getD e.on false = true
theorem Closed.step {l : Array Bool} {j : Nat} (h : Closed md ops l) (hj : j ∈ Region.ready md ops l) : Closed md ops (l.setIfInBounds j true) := by
  obtain ⟨_, o, ho, hall⟩ := mem_ready.1 hj
  intro q oq hq hl e he hb
  rcases Decidable.em (j = q) with rfl | hne
  · obtain rfl : o = oq := Option.some.inj (ho.symm.trans hq)
    exact getD_set_true (hall e he hb)
  · rw [getD_set_ne false hne] at hl
    exact getD_set_true (h q oq hq hl e he hb)
def closedB (md : Region.Mode) (ops : Array Oper) (l : Array Bool) : Bool :=
  (List.range ops.size).all fun j => !l.getD j false || match ops[j]? with
    | some o => o.after.all fun e => !Region.binds md e || l.getD e.on false
    | none => true
theorem closed_of {l : Array Bool} (h : closedB md ops l = true) : Closed md ops l := by
  intro j o ho hl e he hb
  unfold closedB at h
  have h1 := List.all_eq_true.1 h j (List.mem_range.2 (Array.getElem?_eq_some_iff.1 ho).1)
  simp only [ho, hl, Bool.not_true, Bool.false_or] at h1
  have h2 := Array.all_eq_true_iff_forall_mem.1 h1 e he
  simpa [hb] using h2
/-- Does operation k wait for this one? -/
def waits (md : Region.Mode) (ops : Array Oper) (k i : Nat) : Bool := match ops[k]? with
  | some o => o.after.any fun e => Region.binds md e && e.on == i
  | none => true
theorem unlisted {l : Array Bool} {i : Nat} {b : Bool} (h : l.getD i true = false) (h1 : l.getD i b = true) : False := by
  rcases Nat.lt_or_ge i l.size with h2 | h2
  · simp [h2] at h h1; rw [h] at h1; cases h1
  · simp [Array.getElem?_eq_none h2] at h
theorem not_yet {i : Nat} {l : Array Bool} (hc : Closed md ops l) (hz : l.size = ops.size) (hw : waits md ops k i = true) (hi : l.getD i true = false) : l.getD k false = false := by
  cases hl : l.getD k false with
  | false => rfl
  | true =>
    exfalso
    unfold waits at hw
    cases ho : ops[k]? with
    | none =>
      have : ops.size ≤ k := Array.getElem?_eq_none_iff.1 ho
      have h2 : l[k]? = none := Array.getElem?_eq_none (by omega)
      simp [h2] at hl
    | some o =>
      simp only [ho] at hw
      obtain ⟨e, he, h2⟩ := Array.any_eq_true'.1 hw
      simp only [Bool.and_eq_true, beq_iff_eq] at h2
      have h3 := hc k o ho hl e he h2.1
      rw [h2.2] at h3
      exact unlisted hi h3
theorem Inv.set {l : Array Bool} {w : World} {i : Nat} (h : Inv k S S7 l w) (hne : i ≠ k) : Inv k S S7 (l.setIfInBounds i true) w := ⟨fun h0 => h.1 (by rwa [getD_set_ne false hne] at h0), h.2⟩
theorem wpR_first {i : Nat} {oi : Oper} {v : Value} {T : World → Prop} (hi : ops[i]? = some oi) (hs : Region.noSelect ops = true) (hik : i ≠ k)
    (hT : ∀ (l : Array Bool) (w : World), Closed md ops l → l.size = ops.size → l.getD i true = false → Inv k S S7 l w → T w)
    (hQ : ∀ c a w, Q (.panic c) (a.put oi.dst v) w → Q (.panic c) a w) (n : Nat) :
    ∀ (l : Array Bool) (a : Act) (w : World), Closed md ops l → l.size = ops.size → (∀ j oj, ops[j]? = some oj → j ≠ i → l.getD j true = false → (∀ e ∈ oj.after, Region.binds md e = true → e.on ≠ i) → oi.apart ops oj = true) →
      i ∈ Region.ready md ops l → YieldsIf P ops T oi v a → Inv k S S7 l w → wpR P md ops Q k S S7 n (l.setIfInBounds i true) (a.put oi.dst v) w → wpR P md ops Q k S S7 (n + 1) l a w := by
  have hsel := Region.noSelect_spec hs
  induction n with
  | zero =>
    intro l a w hc hz _ hr hy hS H
    refine ⟨fun h => absurd hr (by rw [h]; simp), fun j hj => ?_⟩
    rcases Decidable.em (j = i) with rfl | hne
    · exact hy.wpOp hi (hT l w hc hz (mem_ready.1 hr).1 hS) ⟨hS.set hik, H⟩
    · have := ready_mono hj hne
      rw [H.1] at this
      exact absurd this (by simp)
  | succ n ih =>
    intro l a w hc hz hfree hr hy hS H
    refine ⟨fun h => absurd hr (by rw [h]; simp), fun j hj => ?_⟩
    have hiu := (mem_ready.1 hr).1
    rcases Decidable.em (j = i) with rfl | hne
    · exact hy.wpOp hi (hT l w hc hz hiu hS) ⟨hS.set hik, H⟩
    · obtain ⟨hju, oj, hoj, hall⟩ := mem_ready.1 hj
      have hno : ∀ e ∈ oj.after, Region.binds md e = true → e.on ≠ i := fun e he hb heq => by
        have h1 := hall e he hb
        rw [heq] at h1
        exact unlisted hiu h1
      have h2 := wpOp_putIf hoj (hfree j oj hoj hne hju hno) (fun cs b => hsel i oi cs b hi) (fun cs b => hsel j oj cs b hoj) hQ hy (H.2 j (ready_mono hj hne))
      refine wpOp_mono (fun a' w' q => ?_) h2
      obtain ⟨q1, q2, q3⟩ := q
      rw [Array.setIfInBounds_comm _ _ (Ne.symm hne)] at q2 q3
      have hI : Inv k S S7 (l.setIfInBounds j true) w' := ⟨fun h0 => q2.1 (by rwa [getD_set_ne false hik]), q2.2⟩
      refine ⟨hI, ih (l.setIfInBounds j true) a' w' (hc.step hj) (by rw [Array.size_setIfInBounds]; exact hz) (fun q oq hq hqi hun hn => hfree q oq hq hqi ?_ hn) (ready_mono hr (Ne.symm hne)) q1 hI q3⟩
      rcases Decidable.em (j = q) with rfl | hjq
      · exact hju
      · rwa [getD_set_ne true hjq] at hun
/-- A read that store k waits for. -/
theorem wpR_take {i : Nat} {oi : Oper} {v : Value} {n : Nat} {l : Array Bool} {a : Act} {w : World} (hi : ops[i]? = some oi)
    (hs : Region.noSelect ops = true) (hw : (waits md ops k i && closedB md ops l && (l.size == ops.size) && (i != k)) = true) (hf : Region.free md ops l i = true) (hr : (Region.ready md ops l).contains i = true)
    (hQ : ∀ c a w, Q (.panic c) (a.put oi.dst v) w → Q (.panic c) a w) (hy : YieldsIf P ops S oi v a) (hS : S w ∧ S7 w)
    (h : wpR P md ops Q k S S7 n (l.setIfInBounds i true) (a.put oi.dst v) w) : wpR P md ops Q k S S7 (n + 1) l a w := by
  simp only [Bool.and_eq_true, beq_iff_eq, bne_iff_ne, ne_eq] at hw
  obtain ⟨⟨⟨w1, w2⟩, w3⟩, w4⟩ := hw
  exact wpR_first hi hs w4 (fun l' w' hc hz hu hI => hI.1 (not_yet hc hz w1 hu)) hQ n l a w (closed_of w2) w3 (Region.free_spec hi hf) (by simpa using hr) hy ⟨fun _ => hS.1, hS.2⟩ h
/-- A read that nothing disturbs. -/
theorem wpR_take7 {i : Nat} {oi : Oper} {v : Value} {n : Nat} {l : Array Bool} {a : Act} {w : World} (hi : ops[i]? = some oi)
    (hs : Region.noSelect ops = true) (hw : (closedB md ops l && (l.size == ops.size) && (i != k)) = true) (hf : Region.free md ops l i = true) (hr : (Region.ready md ops l).contains i = true)
    (hQ : ∀ c a w, Q (.panic c) (a.put oi.dst v) w → Q (.panic c) a w) (hy : YieldsIf P ops S7 oi v a) (hS : S w ∧ S7 w)
    (h : wpR P md ops Q k S S7 n (l.setIfInBounds i true) (a.put oi.dst v) w) : wpR P md ops Q k S S7 (n + 1) l a w := by
  simp only [Bool.and_eq_true, beq_iff_eq, bne_iff_ne, ne_eq] at hw
  obtain ⟨⟨w2, w3⟩, w4⟩ := hw
  exact wpR_first hi hs w4 (fun l' w' hc hz hu hI => hI.2) hQ n l a w (closed_of w2) w3 (Region.free_spec hi hf) (by simpa using hr) hy ⟨fun _ => hS.1, hS.2⟩ h
theorem wpR_op {i : Nat} {o : Oper} {n : Nat} {l : Array Bool} {a : Act} {w : World} (hr : Region.ready md ops l = [i]) (ho : ops[i]? = some o) (hg : o.guard = none)
    (h : ∀ K : Act → World → Prop, (∀ a' w', S w' ∧ S7 w' → wpR P md ops Q k S S7 n (l.setIfInBounds i true) a' w' → K a' w') → Oper.wp P o a w K Q) : wpR P md ops Q k S S7 (n + 1) l a w := by
  refine ⟨fun h0 => absurd h0 (by rw [hr]; simp), fun j hj => ?_⟩
  rw [hr] at hj
  obtain rfl := List.mem_singleton.1 hj
  unfold wpOp
  simp only [ho]
  have hw : Region.wanted o (yielded ops a.tmps) = true := by simp [Region.wanted, hg]
  rw [if_pos hw]
  exact Or.inl (h _ fun a' w' h1 h2 => ⟨⟨fun _ => h1.1, h1.2⟩, h2⟩)
/-- Store k, or one behind it. -/
theorem wpR_late {i : Nat} {o : Oper} {n : Nat} {l : Array Bool} {a : Act} {w : World} (hr : Region.ready md ops l = [i]) (ho : ops[i]? = some o) (hg : o.guard = none) (hl : (l.setIfInBounds i true).getD k false = true)
    (h : ∀ K : Act → World → Prop, (∀ a' w', S7 w' → wpR P md ops Q k S S7 n (l.setIfInBounds i true) a' w' → K a' w') → Oper.wp P o a w K Q) : wpR P md ops Q k S S7 (n + 1) l a w := by
  refine ⟨fun h0 => absurd h0 (by rw [hr]; simp), fun j hj => ?_⟩
  rw [hr] at hj
  obtain rfl := List.mem_singleton.1 hj
  unfold wpOp
  simp only [ho]
  have hw : Region.wanted o (yielded ops a.tmps) = true := by simp [Region.wanted, hg]
  rw [if_pos hw]
  exact Or.inl (h _ fun a' w' h1 h2 => ⟨⟨fun h0 => (by rw [hl] at h0; cases h0), h1⟩, h2⟩)
theorem wpR_done {n : Nat} {l : Array Bool} {a : Act} {w : World} (hr : Region.ready md ops l = []) (h : Q .normal a w) : wpR P md ops Q k S S7 n l a w := by
  cases n with
  | zero => exact ⟨hr, h⟩
  | succ n => exact ⟨fun _ => h, by rw [hr]; simp⟩
theorem region_reads {id : Nat} {a : Act} {w : World} (k : Nat) (S S7 : World → Prop) (n : Nat) (hn : ops.size = n) (hm : P.follows .mixedOrders = true)
    (h : wpR P .any ops Q k S S7 n (Array.replicate n false) a w.drew) : (Code.region id ops true).wp P Q a w := by
  subst hn
  exact wp_region_any hm (wpR_any _ _ _ _ h)
end
end Go.Proofs.YtijifpbpjinmhaaGreatDoor
namespace Go.Proofs.YtijifpbpjinmhaaGreatDoor
open Go.RowKit
theorem pow2_le (n k : Nat) (h : n ≤ 3 * k) : 2 ^ n ≤ 10 ^ k := by
  refine Nat.le_trans (Nat.pow_le_pow_right (by decide) h) ?_
  rw [Nat.pow_mul]
  exact Nat.pow_le_pow_left (by decide) k
theorem pow2_lt (n K : Nat) (h : n + 3 ≤ 3 * K) : 2 ^ n < 10 ^ K := by
  refine Nat.lt_of_lt_of_le (Nat.pow_lt_pow_right (by decide) (by omega : n < n + 3)) ?_
  exact pow2_le (n + 3) K h
theorem mulp_lt (m n K : Nat) (hm : m < 18446744073709551616) (h : n + 3 ≤ 3 * K) : m * 2 ^ n < 10 ^ (20 + K) := by
  rw [Nat.pow_add]
  exact Nat.mul_lt_mul'' (by omega) (pow2_lt n K h)
theorem bnd (m n D : Nat) (hD : D = 420) (hm : m < 18446744073709551616) (hn : n ≤ 1100) : m < 10 ^ D ∧ 2 ^ n < 10 ^ D := by
  obtain ⟨K, hK⟩ : ∃ K, K = 400 := ⟨_, rfl⟩
  have e : D = 20 + K := by omega
  rw [e]
  refine ⟨?_, Nat.lt_of_lt_of_le (pow2_lt n K (by omega)) (Nat.pow_le_pow_right (by decide) (by omega))⟩
  have := mulp_lt m 0 K hm (by omega)
  rwa [Nat.pow_zero, Nat.mul_one] at this
theorem tx_two : tx 2 = ⟨#[50]⟩ := by rw [← tx_tb 2 (lit_tb ⟨#[50]⟩ 2 (by decide) (by decide)).2]; exact (lit_tb ⟨#[50]⟩ 2 (by decide) (by decide)).1.symm
theorem two_any (n K : Nat) (hK : K = 400) (hn : n ≤ 1100) (w : World) : Calls Tryz.prog 92 #[.int .i64 (n : Int)] w fun e w' => e = .returned (.string (tx (2 ^ n))) ∧ Below w.heap.size w w' := by
  have h := refPower_any 2 n K w (by omega) (by omega) (by omega) (pow2_lt n K (by omega))
  rw [tx_two] at h
  have H := hide h
  clear h
  generalize tx (2 ^ n) = p at *
  go_enter Tryz.func92, Tryz.ntmps92
  go_wp2_with (go_at_call 103; refine (unhide H).mono ?_; rintro e w1 ⟨rfl, hb⟩; have HB := hide hb; clear hb)
  go_ret
  exact ⟨rfl, unhide HB⟩
theorem FBox.setm {W : World} {g : Nat} {x y z : Value} (h : FBox W g x y z) (u : Value) : FBox (W.setCell ⟨g, 1, none⟩ u) g x u z := by
  have c0 := h.c0; have c1 := h.c1; have c2 := h.c2; have f0 := h.f0; have f1 := h.f1; have f2 := h.f2
  exact ⟨by simp [go_sem, *], by simp [go_sem, *], by simp [go_sem, *], by simp [go_sem, *], by simp [go_sem, *], by simp [go_sem, *]⟩
theorem FBox.setd {W : World} {g : Nat} {x y z : Value} (h : FBox W g x y z) (u : Value) : FBox (W.setCell ⟨g, 2, none⟩ u) g x y u := by
  have c0 := h.c0; have c1 := h.c1; have c2 := h.c2; have f0 := h.f0; have f1 := h.f1; have f2 := h.f2
  exact ⟨by simp [go_sem, *], by simp [go_sem, *], by simp [go_sem, *], by simp [go_sem, *], by simp [go_sem, *], by simp [go_sem, *]⟩
theorem FBox.offset {W : World} {g k o : Nat} {x y z : Value} (h : FBox W g x y z) (hk : g ≠ k) (u : Value) : FBox (W.setCell ⟨k, o, none⟩ u) g x y z :=
  ⟨(World.cell?_setCell_other _ _ _ _ (by intro e; simp only [Addr.mk.injEq] at e; omega)).trans h.c0, (World.cell?_setCell_other _ _ _ _ (by intro e; simp only [Addr.mk.injEq] at e; omega)).trans h.c1, (World.cell?_setCell_other _ _ _ _ (by intro e; simp only [Addr.mk.injEq] at e; omega)).trans h.c2, by rw [World.frozen?_setCell]; exact h.f0, by rw [World.frozen?_setCell]; exact h.f1, by rw [World.frozen?_setCell]; exact h.f2⟩
/-- What value holds: its answer's box, and the number's. -/
structure VS (w W : World) (g : Nat) (a b : ByteArray) : Prop where
  r : FBox W w.heap.size (.bool false) (.string ⟨#[]⟩) (.string ⟨#[]⟩)
  x : FBox W g (.bool false) (.string a) (.string b)
  b : Below w.heap.size w W
  n : w.heap.size < g
theorem VS.later {w W V : World} {g : Nat} {a b : ByteArray} (h : VS w W g a b) (hb : Below W.heap.size W V) : VS w V g a b := ⟨h.r.later hb, h.x.later hb, h.b.trans (hb.mono h.b.size), h.n⟩
theorem VS.set1 {w W : World} {g : Nat} {a b : ByteArray} (h : VS w W g a b) (u : ByteArray) : VS w (W.setCell ⟨g, 1, none⟩ (.string u)) g u b := ⟨h.r.offset (Nat.ne_of_lt h.n) _, h.x.setm _, h.b.setCell (p := ⟨g, 1, none⟩) (Nat.le_of_lt h.n) _, h.n⟩
theorem VS.set2 {w W : World} {g : Nat} {a b : ByteArray} (h : VS w W g a b) (u : ByteArray) : VS w (W.setCell ⟨g, 2, none⟩ (.string u)) g a u := ⟨h.r.offset (Nat.ne_of_lt h.n) _, h.x.setd _, h.b.setCell (p := ⟨g, 2, none⟩) (Nat.le_of_lt h.n) _, h.n⟩
theorem VS.new (w W : World) (a b : ByteArray) (hr : FBox W w.heap.size (.bool false) (.string ⟨#[]⟩) (.string ⟨#[]⟩)) (hb : Below w.heap.size w W) (hn : w.heap.size < W.heap.size) : VS w (W.alloc (.cells #[.bool false, .string a, .string b] 56)) W.heap.size a b :=
  ⟨hr.later ((Below.refl _ _).alloc (Nat.le_refl _) _), ⟨by simp [go_sem], by simp [go_sem], by simp [go_sem], by simp [go_sem], by simp [go_sem], by simp [go_sem]⟩, hb.alloc hb.size _, hn⟩
theorem value_pos (m n : Nat) (w : World) (hm : m < 18446744073709551616) (hn : n ≤ 1100) :
    Calls Tryz.prog 42 #[.int .u64 (m : Int), .int .i64 (n : Int)] w fun r w' => r = .returned (.agg #[.bool false, .string (tx (m * 2 ^ n)), .string ⟨#[49]⟩]) ∧ Below w.heap.size w w' := by
  obtain ⟨V, hV⟩ : ∃ V, V = w.alloc (.cells #[.bool false, .string ⟨#[]⟩, .string ⟨#[]⟩] 56) := ⟨_, rfl⟩
  have HR : Hid (FBox V w.heap.size (.bool false) (.string ⟨#[]⟩) (.string ⟨#[]⟩)) := by rw [hV]; exact ⟨by simp [go_sem], by simp [go_sem], by simp [go_sem], by simp [go_sem], by simp [go_sem], by simp [go_sem]⟩
  have HB : Hid (Below w.heap.size w V) := by rw [hV]; exact (Below.refl _ _).alloc (Nat.le_refl _) _
  have HL : Hid (w.heap.size < V.heap.size) := (unhide HR).lt
  have HO := hide (fun W => refOf_any m hm W)
  have H2 := hide (fun W => two_any n 400 rfl hn W)
  obtain ⟨D, hD⟩ : ∃ D, D = 420 := ⟨_, rfl⟩
  obtain ⟨bm, bn⟩ := bnd m n D hD hm hn
  have HT := hide (fun W => refTimesM D m (2 ^ n) W (by omega) (by omega) bm bn)
  clear bm bn hD
  have hd : (⟨(Lib.decDigits m).toArray⟩ : ByteArray) = tx m := rfl
  rw [hd] at HO
  have hn0 : (0 : Int) ≤ (n : Int) := by omega
  have HV := hide hV
  clear hV hm hn hd
  generalize tx (m * 2 ^ n) = sp at *
  generalize tx m = sm at *
  generalize tx (2 ^ n) = sq at *
  go_enter Tryz.func42, Tryz.ntmps42
  go_upto_region 1 with fail
  rw [← unhide HV]
  clear HV
  go_upto_region 2 with (go_at_call 91; refine (unhide HO _).mono ?_; rintro e W1 ⟨rfl, hb⟩; have HR1 := hide ((unhide HR).later hb); have HB1 : Hid (Below w.heap.size w W1) := (unhide HB).trans (hb.mono (unhide HB).size); have HL1 : Hid (w.heap.size < W1.heap.size) := Nat.lt_of_lt_of_le (unhide HL) hb.size; clear hb HR HB HL)
  have HS0 := hide (VS.new w W1 sm ⟨#[49]⟩ (unhide HR1) (unhide HB1) (unhide HL1))
  generalize W1.alloc (.cells #[.bool false, .string sm, .string ⟨#[49]⟩] 56) = A at *
  generalize W1.heap.size = g at *
  clear HR1 HB1 HL1
  go_upto_region 3 with fail
  have HSS : Hid (∀ W' : World, VS w W' g sm ⟨#[49]⟩ → W'.cell? ⟨g, 0, none⟩ = some (.bool false) ∧ W'.cell? ⟨g, 1, none⟩ = some (.string sm) ∧ W'.cell? ⟨g, 2, none⟩ = some (.string ⟨#[49]⟩)) := fun W' h => ⟨h.x.c0, h.x.c1, h.x.c2⟩
  have HS1 := hide ((unhide HS0).later (Below.refl _ _).drew)
  have HC1 := hide (unhide HSS _ (unhide HS1))
  refine region_reads 6 (fun W' => W'.cell? ⟨g, 0, none⟩ = some (.bool false) ∧ W'.cell? ⟨g, 1, none⟩ = some (.string sm) ∧ W'.cell? ⟨g, 2, none⟩ = some (.string ⟨#[49]⟩)) (fun _ => True) 7 rfl (by kernel_rfl) ?_
  clear HS0
  generalize A.drew = U1 at *
  refine wpR_take (i := 0) (oi := _) (v := .pointer (some ⟨g, 1, none⟩)) rfl (by kernel_rfl) (by kernel_rfl) (by kernel_rfl) (by kernel_rfl) (fun _ _ _ h => h) (Or.inl ⟨by rfl, ?_⟩) ⟨unhide HC1, trivial⟩ ?_
  · intro W hW
    go_split_ands
    go_simp
  refine wpR_take (i := 1) (oi := _) (v := .string sm) rfl (by kernel_rfl) (by kernel_rfl) (by kernel_rfl) (by kernel_rfl) (fun _ _ _ h => h) (Or.inl ⟨by rfl, ?_⟩) ⟨unhide HC1, trivial⟩ ?_
  · intro W hW
    go_split_ands
    go_simp
  refine wpR_take (i := 2) (oi := _) (v := .int .i64 (n : Int)) rfl (by kernel_rfl) (by kernel_rfl) (by kernel_rfl) (by kernel_rfl) (fun _ _ _ h => h) (Or.inl ⟨by rfl, ?_⟩) ⟨unhide HC1, trivial⟩ ?_
  · intro W hW
    go_split_ands
    go_simp
  refine wpR_op (i := 3) (o := _) (by kernel_rfl) rfl rfl (fun K hK => ?_)
  go_simp
  refine (unhide H2 _).mono ?_
  rintro e U2 ⟨rfl, hb⟩
  have HS2 := hide ((unhide HS1).later hb)
  clear hb HS1
  refine hK _ _ ⟨unhide HSS _ (unhide HS2), trivial⟩ ?_
  clear hK K
  refine wpR_op (i := 4) (o := _) (by kernel_rfl) rfl rfl (fun K hK => ?_)
  go_simp
  refine (unhide HT _).mono ?_
  rintro e U3 ⟨rfl, hb⟩
  have HS3 := hide ((unhide HS2).later hb)
  clear hb HS2
  refine hK _ _ ⟨unhide HSS _ (unhide HS3), trivial⟩ ?_
  clear hK K
  refine wpR_take (i := 5) (oi := _) (v := .pointer (some ⟨g, 1, none⟩)) rfl (by kernel_rfl) (by kernel_rfl) (by kernel_rfl) (by kernel_rfl) (fun _ _ _ h => h) (Or.inl ⟨by rfl, ?_⟩) ⟨unhide HSS _ (unhide HS3), trivial⟩ ?_
  · intro W hW
    go_split_ands
    go_simp
  have c0 := (unhide HS3).x.c0; have c1 := (unhide HS3).x.c1; have c2 := (unhide HS3).x.c2; have f1 := (unhide HS3).x.f1
  refine wpR_late (i := 6) (o := _) (by kernel_rfl) rfl rfl (by kernel_rfl) (fun K hK => ?_)
  go_simp
  refine hK _ _ trivial ?_
  clear hK K
  refine wpR_done (by kernel_rfl) ?_
  have HS4 := hide ((unhide HS3).set1 sp)
  generalize U3.setCell ⟨g, 1, none⟩ (.string sp) = U4 at *
  clear HS3 c0 c1 c2 f1
  have c0 := (unhide HS4).x.c0; have c1 := (unhide HS4).x.c1; have c2 := (unhide HS4).x.c2
  have r0 := (unhide HS4).r.c0; have r1 := (unhide HS4).r.c1; have r2 := (unhide HS4).r.c2; have f0 := (unhide HS4).r.f0; have f1 := (unhide HS4).r.f1; have f2 := (unhide HS4).r.f2
  go_wp2_with fail
  have hS := (unhide HS4).r.store (.bool false) (.string sp) (.string ⟨#[49]⟩)
  have v0 := hS.c0; have v1 := hS.c1; have v2 := hS.c2
  exact bodyPost_ret (v := .agg #[.bool false, .string sp, .string ⟨#[49]⟩]) (w := store3 U4 w.heap.size (.bool false) (.string sp) (.string ⟨#[49]⟩)) (by simp [results, Tryz.results42, go_sem, v0, v1, v2]) rfl ⟨rfl, below_store3 (unhide HS4).b (Nat.le_refl _) _ _ _⟩
theorem value_neg (m n : Nat) (w : World) (hm : m < 18446744073709551616) (hm0 : 0 < m) (hn : n ≤ 1100) (hp : 0 < n) :
    Calls Tryz.prog 42 #[.int .u64 (m : Int), .int .i64 (-(n : Int))] w fun r w' => r = .returned (.agg #[.bool false, .string (tx (m / Nat.gcd m (2 ^ n))), .string (tx (2 ^ n / Nat.gcd m (2 ^ n)))]) ∧ Below w.heap.size w w' := by
  obtain ⟨V, hV⟩ : ∃ V, V = w.alloc (.cells #[.bool false, .string ⟨#[]⟩, .string ⟨#[]⟩] 56) := ⟨_, rfl⟩
  have HR : Hid (FBox V w.heap.size (.bool false) (.string ⟨#[]⟩) (.string ⟨#[]⟩)) := by rw [hV]; exact ⟨by simp [go_sem], by simp [go_sem], by simp [go_sem], by simp [go_sem], by simp [go_sem], by simp [go_sem]⟩
  have HB : Hid (Below w.heap.size w V) := by rw [hV]; exact (Below.refl _ _).alloc (Nat.le_refl _) _
  have HL : Hid (w.heap.size < V.heap.size) := (unhide HR).lt
  have hg : 0 < Nat.gcd m (2 ^ n) := Nat.gcd_pos_of_pos_left _ hm0
  obtain ⟨D, hD⟩ : ∃ D, D = 420 := ⟨_, rfl⟩
  obtain ⟨bm, bn⟩ := bnd m n D hD hm hn
  have bg : Nat.gcd m (2 ^ n) < 10 ^ D := Nat.lt_of_le_of_lt (Nat.gcd_le_left _ hm0) bm
  have HO := hide (fun W => refOf_any m hm W)
  have H2 := hide (fun W => two_any n 400 rfl hn W)
  have HG := hide (fun W => refCommonM D m (2 ^ n) W (by omega) (by omega) bm bn)
  have HD1 := hide (fun W => refDivideM D m (Nat.gcd m (2 ^ n)) W (by omega) (by omega) bm bg hg)
  have HD2 := hide (fun W => refDivideM D (2 ^ n) (Nat.gcd m (2 ^ n)) W (by omega) (by omega) bn bg hg)
  have hd : (⟨(Lib.decDigits m).toArray⟩ : ByteArray) = tx m := rfl
  rw [hd] at HO
  have hn0 : ¬ (0 : Int) ≤ -(n : Int) := by omega
  have hn1 : (0 : Int) < (n : Int) := by omega
  have hn2 : (n : Int) ≤ 1100 := by omega
  have HV := hide hV
  clear hV hm hn hd bm bn bg hg hm0 hD
  generalize tx (m / Nat.gcd m (2 ^ n)) = qa at *
  generalize tx (m % Nat.gcd m (2 ^ n)) = ra at *
  generalize tx (2 ^ n / Nat.gcd m (2 ^ n)) = qb at *
  generalize tx (2 ^ n % Nat.gcd m (2 ^ n)) = rb at *
  generalize tx (Nat.gcd m (2 ^ n)) = sg at *
  generalize tx m = sm at *
  generalize tx (2 ^ n) = sq at *
  go_enter Tryz.func42, Tryz.ntmps42
  go_upto_region 1 with fail
  rw [← unhide HV]
  clear HV
  go_upto_region 2 with (go_at_call 91; refine (unhide HO _).mono ?_; rintro e W1 ⟨rfl, hb⟩; have HR1 := hide ((unhide HR).later hb); have HB1 : Hid (Below w.heap.size w W1) := (unhide HB).trans (hb.mono (unhide HB).size); have HL1 : Hid (w.heap.size < W1.heap.size) := Nat.lt_of_lt_of_le (unhide HL) hb.size; clear hb HR HB HL)
  have HS0 := hide (VS.new w W1 sm ⟨#[49]⟩ (unhide HR1) (unhide HB1) (unhide HL1))
  generalize W1.alloc (.cells #[.bool false, .string sm, .string ⟨#[49]⟩] 56) = A at *
  generalize W1.heap.size = g at *
  clear HR1 HB1 HL1
  have c1 := (unhide HS0).x.c1; have c2 := (unhide HS0).x.c2; have d1 := (unhide HS0).x.f1; have d2 := (unhide HS0).x.f2
  go_upto_region 6 with (go_at_call 92; refine (unhide H2 _).mono ?_; rintro e W2 ⟨rfl, hb⟩; have HS1 := hide ((unhide HS0).later hb); clear hb HS0 c1 c2 d1 d2; have c1 := (unhide HS1).x.c1; have c2 := (unhide HS1).x.c2; have d1 := (unhide HS1).x.f1; have d2 := (unhide HS1).x.f2)
  have HS2 := hide ((unhide HS1).set2 sq)
  generalize W2.setCell ⟨g, 2, none⟩ (.string sq) = W3 at *
  clear HS1 c1 c2 d1 d2
  have c1 := (unhide HS2).x.c1; have c2 := (unhide HS2).x.c2
  go_upto_region 7 with (go_at_call 80; refine (unhide HG _).mono ?_; rintro e W4 ⟨rfl, hb⟩; have HS3 := hide ((unhide HS2).later hb); clear hb HS2 c1 c2)
  have c1 := (unhide HS3).x.c1; have c2 := (unhide HS3).x.c2; have d1 := (unhide HS3).x.f1; have d2 := (unhide HS3).x.f2
  go_upto_region 8 with (go_at_call 83; refine (unhide HD1 _).mono ?_; rintro e W5 ⟨rfl, hb⟩; have HS4 := hide ((unhide HS3).later hb); clear hb HS3 c1 c2 d1 d2; have c1 := (unhide HS4).x.c1; have c2 := (unhide HS4).x.c2; have d1 := (unhide HS4).x.f1; have d2 := (unhide HS4).x.f2)
  have HS5 := hide ((unhide HS4).set1 qa)
  generalize W5.setCell ⟨g, 1, none⟩ (.string qa) = W6 at *
  clear HS4 c1 c2 d1 d2
  have c1 := (unhide HS5).x.c1; have c2 := (unhide HS5).x.c2; have d1 := (unhide HS5).x.f1; have d2 := (unhide HS5).x.f2
  go_upto_region 9 with (go_at_call 83; refine (unhide HD2 _).mono ?_; rintro e W7 ⟨rfl, hb⟩; have HS6 := hide ((unhide HS5).later hb); clear hb HS5 c1 c2 d1 d2; have c1 := (unhide HS6).x.c1; have c2 := (unhide HS6).x.c2; have d1 := (unhide HS6).x.f1; have d2 := (unhide HS6).x.f2)
  have HS7 := hide ((unhide HS6).set2 qb)
  generalize W7.setCell ⟨g, 2, none⟩ (.string qb) = W8 at *
  clear HS6 c1 c2 d1 d2
  have c0 := (unhide HS7).x.c0; have c1 := (unhide HS7).x.c1; have c2 := (unhide HS7).x.c2
  have r0 := (unhide HS7).r.c0; have r1 := (unhide HS7).r.c1; have r2 := (unhide HS7).r.c2; have f0 := (unhide HS7).r.f0; have f1 := (unhide HS7).r.f1; have f2 := (unhide HS7).r.f2
  go_wp2_with fail
  have hS := (unhide HS7).r.store (.bool false) (.string qa) (.string qb)
  have v0 := hS.c0; have v1 := hS.c1; have v2 := hS.c2
  exact bodyPost_ret (v := .agg #[.bool false, .string qa, .string qb]) (w := store3 W8 w.heap.size (.bool false) (.string qa) (.string qb)) (by simp [results, Tryz.results42, go_sem, v0, v1, v2]) rfl ⟨rfl, below_store3 (unhide HS7).b (Nat.le_refl _) _ _ _⟩
end Go.Proofs.YtijifpbpjinmhaaGreatDoor

/- A region that draws its order, in which reads come ahead of stores into what they read: the reads are taken first. What they read (S) must stand till store number k has come; what those read that store k does not wait for (S7) must stand throughout. -/
import Derived.OrdersHeld
import Derived.Deep.RegionHeld3
import Derived.Test.YtndhinoomlofgaaGreatDoorProg
namespace Go.Proofs.YtndhinoomlofgaaGreatDoor
section
variable {P : Program} {ops : Array Oper} {Q : Exit → Act → World → Prop} {md : Region.Mode} {S S7 : World → Prop} {k : Nat}

/-- What stands once these have come. -/
def Inv (k : Nat) (S S7 : World → Prop) (l : Array Bool) (w : World) : Prop := (l.getD k false = false → S w) ∧ S7 w
/-- Whatever order: what stands does so behind each operation. -/
def wpR (P : Program) (md : Region.Mode) (ops : Array Oper) (Q : Exit → Act → World → Prop) (k : Nat) (S S7 : World → Prop) : Nat → Array Bool → Act → World → Prop
  | 0, l, a, w => Region.ready md ops l = [] ∧ Q .normal a w
  | n + 1, l, a, w => (Region.ready md ops l = [] → Q .normal a w) ∧ ∀ j ∈ Region.ready md ops l, wpOp P ops Q j (fun a' w' => Inv k S S7 (l.setIfInBounds j true) w' ∧ wpR P md ops Q k S S7 n (l.setIfInBounds j true) a' w') a w
theorem wpR_any : ∀ (n : Nat) (l : Array Bool) (a : Act) (w : World), wpR P md ops Q k S S7 n l a w → wpAny P md ops Q n l a w
  | 0, _, _, _, h => h
  | n + 1, _, _, _, h => ⟨h.1, fun j hj => wpOp_mono (fun a' w' h' => wpR_any n _ a' w' h'.2) (h.2 j hj)⟩
/-- What has come, came behind all that it waits for. -/
def Closed (md : Region.Mode) (ops : Array Oper) (l : Array Bool) : Prop := ∀ (j : Nat) (o : Oper), ops[j]? = some o → l.getD j false = true → ∀ e ∈ o.after, Region.binds md e = true → l.getD e.on false = true
theorem Closed.step {l : Array Bool} {j : Nat} (h : Closed md ops l) (hj : j ∈ Region.ready md ops l) : Closed md ops (l.setIfInBounds j true) := by
  obtain ⟨_, o, ho, hall⟩ := mem_ready.1 hj
  intro q oq hq hl e he hb
  rcases Decidable.em (j = q) with rfl | hne
  · obtain rfl : o = oq := Option.some.inj (ho.symm.trans hq)
    exact getD_set_true (hall e he hb)
  · rw [getD_set_ne false hne] at hl
    exact getD_set_true (h q oq hq hl e he hb)
def closedB (md : Region.Mode) (ops : Array Oper) (l : Array Bool) : Bool :=
  (List.range ops.size).all fun j => !l.getD j false || match ops[j]? with
    | some o => o.after.all fun e => !Region.binds md e || l.getD e.on false
    | none => true
theorem closed_of {l : Array Bool} (h : closedB md ops l = true) : Closed md ops l := by
  intro j o ho hl e he hb
  unfold closedB at h
  have h1 := List.all_eq_true.1 h j (List.mem_range.2 (Array.getElem?_eq_some_iff.1 ho).1)
  simp only [ho, hl, Bool.not_true, Bool.false_or] at h1
  have h2 := Array.all_eq_true_iff_forall_mem.1 h1 e he
  simpa [hb] using h2
/-- Does operation k wait for this one? -/
def waits (md : Region.Mode) (ops : Array Oper) (k i : Nat) : Bool := match ops[k]? with
  | some o => o.after.any fun e => Region.binds md e && e.on == i
  | none => true
theorem unlisted {l : Array Bool} {i : Nat} {b : Bool} (h : l.getD i true = false) (h1 : l.getD i b = true) : False := by
  rcases Nat.lt_or_ge i l.size with h2 | h2
  · simp [h2] at h h1; rw [h] at h1; cases h1
  · simp [Array.getElem?_eq_none h2] at h
theorem not_yet {i : Nat} {l : Array Bool} (hc : Closed md ops l) (hz : l.size = ops.size) (hw : waits md ops k i = true) (hi : l.getD i true = false) : l.getD k false = false := by
  cases hl : l.getD k false with
  | false => rfl
  | true =>
    exfalso
    unfold waits at hw
    cases ho : ops[k]? with
    | none =>
      have : ops.size ≤ k := Array.getElem?_eq_none_iff.1 ho
      have h2 : l[k]? = none := Array.getElem?_eq_none (by omega)
      simp [h2] at hl
    | some o =>
      simp only [ho] at hw
      obtain ⟨e, he, h2⟩ := Array.any_eq_true'.1 hw
      simp only [Bool.and_eq_true, beq_iff_eq] at h2
      have h3 := hc k o ho hl e he h2.1
      rw [h2.2] at h3
      exact unlisted hi h3
theorem Inv.set {l : Array Bool} {w : World} {i : Nat} (h : Inv k S S7 l w) (hne : i ≠ k) : Inv k S S7 (l.setIfInBounds i true) w := ⟨fun h0 => h.1 (by rwa [getD_set_ne false hne] at h0), h.2⟩
theorem wpR_first {i : Nat} {oi : Oper} {v : Value} {T : World → Prop} (hi : ops[i]? = some oi) (hs : Region.noSelect ops = true) (hik : i ≠ k)
    (hT : ∀ (l : Array Bool) (w : World), Closed md ops l → l.size = ops.size → l.getD i true = false → Inv k S S7 l w → T w)
    (hQ : ∀ c a w, Q (.panic c) (a.put oi.dst v) w → Q (.panic c) a w) (n : Nat) :
    ∀ (l : Array Bool) (a : Act) (w : World), Closed md ops l → l.size = ops.size → (∀ j oj, ops[j]? = some oj → j ≠ i → l.getD j true = false → (∀ e ∈ oj.after, Region.binds md e = true → e.on ≠ i) → oi.apart ops oj = true) →
      i ∈ Region.ready md ops l → YieldsIf P ops T oi v a → Inv k S S7 l w → wpR P md ops Q k S S7 n (l.setIfInBounds i true) (a.put oi.dst v) w → wpR P md ops Q k S S7 (n + 1) l a w := by
  have hsel := Region.noSelect_spec hs
  induction n with
  | zero =>
    intro l a w hc hz _ hr hy hS H
    refine ⟨fun h => absurd hr (by rw [h]; simp), fun j hj => ?_⟩
    rcases Decidable.em (j = i) with rfl | hne
    · exact hy.wpOp hi (hT l w hc hz (mem_ready.1 hr).1 hS) ⟨hS.set hik, H⟩
    · have := ready_mono hj hne
      rw [H.1] at this
      exact absurd this (by simp)
  | succ n ih =>
    intro l a w hc hz hfree hr hy hS H
    refine ⟨fun h => absurd hr (by rw [h]; simp), fun j hj => ?_⟩
    have hiu := (mem_ready.1 hr).1
    rcases Decidable.em (j = i) with rfl | hne
    · exact hy.wpOp hi (hT l w hc hz hiu hS) ⟨hS.set hik, H⟩
    · obtain ⟨hju, oj, hoj, hall⟩ := mem_ready.1 hj
      have hno : ∀ e ∈ oj.after, Region.binds md e = true → e.on ≠ i := fun e he hb heq => by
        have h1 := hall e he hb
        rw [heq] at h1
        exact unlisted hiu h1
      have h2 := wpOp_putIf hoj (hfree j oj hoj hne hju hno) (fun cs b => hsel i oi cs b hi) (fun cs b => hsel j oj cs b hoj) hQ hy (H.2 j (ready_mono hj hne))
      refine wpOp_mono (fun a' w' q => ?_) h2
      obtain ⟨q1, q2, q3⟩ := q
      rw [Array.setIfInBounds_comm _ _ (Ne.symm hne)] at q2 q3
      have hI : Inv k S S7 (l.setIfInBounds j true) w' := ⟨fun h0 => q2.1 (by rwa [getD_set_ne false hik]), q2.2⟩
      refine ⟨hI, ih (l.setIfInBounds j true) a' w' (hc.step hj) (by rw [Array.size_setIfInBounds]; exact hz) (fun q oq hq hqi hun hn => hfree q oq hq hqi ?_ hn) (ready_mono hr (Ne.symm hne)) q1 hI q3⟩
      rcases Decidable.em (j = q) with rfl | hjq
      · exact hju
      · rwa [getD_set_ne true hjq] at hun
/-- A read that store k waits for. -/
theorem wpR_take {i : Nat} {oi : Oper} {v : Value} {n : Nat} {l : Array Bool} {a : Act} {w : World} (hi : ops[i]? = some oi)
    (hs : Region.noSelect ops = true) (hw : (waits md ops k i && closedB md ops l && (l.size == ops.size) && (i != k)) = true) (hf : Region.free md ops l i = true) (hr : (Region.ready md ops l).contains i = true)
    (hQ : ∀ c a w, Q (.panic c) (a.put oi.dst v) w → Q (.panic c) a w) (hy : YieldsIf P ops S oi v a) (hS : S w ∧ S7 w)
    (h : wpR P md ops Q k S S7 n (l.setIfInBounds i true) (a.put oi.dst v) w) : wpR P md ops Q k S S7 (n + 1) l a w := by
  simp only [Bool.and_eq_true, beq_iff_eq, bne_iff_ne, ne_eq] at hw
  obtain ⟨⟨⟨w1, w2⟩, w3⟩, w4⟩ := hw
  exact wpR_first hi hs w4 (fun l' w' hc hz hu hI => hI.1 (not_yet hc hz w1 hu)) hQ n l a w (closed_of w2) w3 (Region.free_spec hi hf) (by simpa using hr) hy ⟨fun _ => hS.1, hS.2⟩ h
/-- A read that nothing disturbs. -/
theorem wpR_take7 {i : Nat} {oi : Oper} {v : Value} {n : Nat} {l : Array Bool} {a : Act} {w : World} (hi : ops[i]? = some oi)
    (hs : Region.noSelect ops = true) (hw : (closedB md ops l && (l.size == ops.size) && (i != k)) = true) (hf : Region.free md ops l i = true) (hr : (Region.ready md ops l).contains i = true)
    (hQ : ∀ c a w, Q (.panic c) (a.put oi.dst v) w → Q (.panic c) a w) (hy : YieldsIf P ops S7 oi v a) (hS : S w ∧ S7 w)
    (h : wpR P md ops Q k S S7 n (l.setIfInBounds i true) (a.put oi.dst v) w) : wpR P md ops Q k S S7 (n + 1) l a w := by
  simp only [Bool.and_eq_true, beq_iff_eq, bne_iff_ne, ne_eq] at hw
  obtain ⟨⟨w2, w3⟩, w4⟩ := hw
  exact wpR_first hi hs w4 (fun l' w' hc hz hu hI => hI.2) hQ n l a w (closed_of w2) w3 (Region.free_spec hi hf) (by simpa using hr) hy ⟨fun _ => hS.1, hS.2⟩ h
theorem wpR_op {i : Nat} {o : Oper} {n : Nat} {l : Array Bool} {a : Act} {w : World} (hr : Region.ready md ops l = [i]) (ho : ops[i]? = some o) (hg : o.guard = none)
    (h : ∀ K : Act → World → Prop, (∀ a' w', S w' ∧ S7 w' → wpR P md ops Q k S S7 n (l.setIfInBounds i true) a' w' → K a' w') → Oper.wp P o a w K Q) : wpR P md ops Q k S S7 (n + 1) l a w := by
  refine ⟨fun h0 => absurd h0 (by rw [hr]; simp), fun j hj => ?_⟩
  rw [hr] at hj
  obtain rfl := List.mem_singleton.1 hj
  unfold wpOp
  simp only [ho]
  have hw : Region.wanted o (yielded ops a.tmps) = true := by simp [Region.wanted, hg]
  rw [if_pos hw]
  exact Or.inl (h _ fun a' w' h1 h2 => ⟨⟨fun _ => h1.1, h1.2⟩, h2⟩)
/-- Store k, or one behind it. -/
theorem wpR_late {i : Nat} {o : Oper} {n : Nat} {l : Array Bool} {a : Act} {w : World} (hr : Region.ready md ops l = [i]) (ho : ops[i]? = some o) (hg : o.guard = none) (hl : (l.setIfInBounds i true).getD k false = true)
    (h : ∀ K : Act → World → Prop, (∀ a' w', S7 w' → wpR P md ops Q k S S7 n (l.setIfInBounds i true) a' w' → K a' w') → Oper.wp P o a w K Q) : wpR P md ops Q k S S7 (n + 1) l a w := by
  refine ⟨fun h0 => absurd h0 (by rw [hr]; simp), fun j hj => ?_⟩
  rw [hr] at hj
  obtain rfl := List.mem_singleton.1 hj
  unfold wpOp
  simp only [ho]
  have hw : Region.wanted o (yielded ops a.tmps) = true := by simp [Region.wanted, hg]
  rw [if_pos hw]
  exact Or.inl (h _ fun a' w' h1 h2 => ⟨⟨fun h0 => (by rw [hl] at h0; cases h0), h1⟩, h2⟩)
theorem wpR_done {n : Nat} {l : Array Bool} {a : Act} {w : World} (hr : Region.ready md ops l = []) (h : Q .normal a w) : wpR P md ops Q k S S7 n l a w := by
  cases n with
  | zero => exact ⟨hr, h⟩
  | succ n => exact ⟨fun _ => h, by rw [hr]; simp⟩
theorem region_reads {id : Nat} {a : Act} {w : World} (k : Nat) (S S7 : World → Prop) (n : Nat) (hn : ops.size = n) (hm : P.follows .mixedOrders = true)
    (h : wpR P .any ops Q k S S7 n (Array.replicate n false) a w.drew) : (Code.region id ops true).wp P Q a w := by
  subst hn
  exact wp_region_any hm (wpR_any _ _ _ _ h)
end
end Go.Proofs.YtndhinoomlofgaaGreatDoor

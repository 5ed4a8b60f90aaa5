/- The document's own text of limbs. -/
import Derived.Test.YthcihkgellginaaDoorRefLimbs
import Derived.Deep.RegionHeldLaw
namespace Cub
open Go.Lib (decDigits)
/-- All four digits of each limb, the last limb ahead. -/
def padAll : List Nat → List UInt8
  | [] => []
  | x :: t => padAll t ++ padn 4 x
theorem padAll_drop (l : List Nat) (i : Nat) (hi : i < l.length) : padAll (l.drop i) = padAll (l.drop (i + 1)) ++ padn 4 l[i] := by
  rw [List.drop_eq_getElem_cons hi]; rfl
theorem padAll_length (l : List Nat) : (padAll l).length = 4 * l.length := by
  induction l with
  | nil => rfl
  | cons x t ih => simp [padAll, ih, padn_length]; omega
theorem padn_digs (k : Nat) : ∀ d, digs (padn k d) := by
  induction k with
  | zero => intro d; exact digs_nil
  | succ k ih =>
    intro d
    refine digs_append.2 ⟨ih _, fun c hc => ?_⟩
    rw [List.mem_singleton] at hc; subst hc; rw [toNat_dig _ (by omega)]; omega
theorem padAll_digs (l : List Nat) : digs (padAll l) := by
  induction l with
  | nil => exact digs_nil
  | cons x t ih => exact digs_append.2 ⟨ih, padn_digs 4 x⟩
theorem padn_val (k : Nat) : ∀ d, d < 10 ^ k → dval (padn k d) = d := by
  induction k with
  | zero => intro d h; have : d = 0 := by simpa using h
            subst this; rfl
  | succ k ih =>
    intro d h
    simp only [padn]
    rw [dval_snoc, ih _ (by rw [Nat.pow_succ] at h; omega), toNat_dig _ (by omega)]; omega
theorem padAll_val (l : List Nat) (h : limbs 10000 l) : dval (padAll l) = lval 10000 l := by
  induction l with
  | nil => rfl
  | cons x t ih =>
    simp only [padAll, lval]
    rw [dval_append, padn_length, ih (fun y hy => h y (List.mem_cons_of_mem _ hy)), padn_val 4 x (h x (by simp))]; omega
theorem pad4 (x : Nat) (h : x < 10000) : padn 4 x = [UInt8.ofNat (48 + x / 1000), UInt8.ofNat (48 + x / 100 % 10), UInt8.ofNat (48 + x / 10 % 10), UInt8.ofNat (48 + x % 10)] := by
  simp only [padn, List.nil_append, List.cons_append, Nat.div_div_eq_div_mul]
  rw [show x / (10 * (10 * 10)) % 10 = x / 1000 from by omega]
theorem dval_noughts (k : Nat) : dval (List.replicate k 48) = 0 := by
  induction k with
  | zero => rfl
  | succ k ih => rw [List.replicate_succ, dval_cons, ih]; simp
/-- Noughts ahead left out. -/
theorem strip_noughts (P : List UInt8) (k : Nat) (hk : k < P.length) (hd : digs P) (h0 : ∀ j (hj : j < P.length), j < k → P[j] = 48) (h1 : P[k] ≠ 48) : P.drop k = decDigits (dval P) := by
  have e1 : dval P = dval (P.drop k) := by
    have e2 : P.take k = List.replicate k 48 := by
      apply List.ext_getElem
      · simp; omega
      · intro j h1 h2
        simp only [List.getElem_take, List.getElem_replicate]
        exact h0 j (by simp at h1; omega) (by simp at h1; omega)
    have e3 := dval_noughts k
    have := dval_append (P.take k) (P.drop k)
    rw [List.take_append_drop, e2, e3] at this
    simpa using this
  rw [e1]
  refine (dec_dval _ _ rfl ⟨fun c hc => hd c (List.mem_of_mem_drop hc), ?_, fun h => ?_⟩).symm
  · intro e; have := congrArg List.length e; simp at this; omega
  · rw [List.head?_drop, List.getElem?_eq_getElem hk, Option.some.injEq] at h; exact absurd h h1
theorem some_digit (P : List UInt8) (h : 0 < dval P) : ∃ j, ∃ hj : j < P.length, P[j] ≠ 48 := by
  apply Decidable.byContradiction
  intro hn
  have h0 : ∀ j (hj : j < P.length), P[j] = 48 := fun j hj => Decidable.byContradiction fun h1 => hn ⟨j, hj, h1⟩
  have : dval P = 0 := by
    clear h hn
    induction P with
    | nil => rfl
    | cons x t ih =>
      rw [dval_cons, ih (fun j hj => h0 (j + 1) (by simpa using hj))]
      have := h0 0 (by simp)
      simp at this; subst this; simp
  omega
end Cub
namespace Go.Proofs.YthcihkgellginaaDoor
open Go.RowKit

theorem step_append_own {P : Program} {ops : Array Oper} {o : Oper} {a : Act} {w : World} {K : Act → World → Prop} {Q : Exit → Act → World → Prop} {E : Prop}
    (hg : o.guard = none) (s x : Operand) (t : TypeId) (ho : o.op = .call { callee := .builtin .append, args := #[s, x], argTypes := #[t, t] })
    (base : Nat) (e : TypeId) (i : TypeInfo) (z : Value) (size bytes : Nat) (ht : P.underlying t = some (.slice e)) (hi : P.info? e = some i) (hz : i.zero = some z)
    (hsize : i.size = size) (hby : i.bytes = bytes) (hzs : z.cells.size = size) (hsz : 0 < size)
    (v : Value) (n : Nat) (xs : List Value) (hs : a.eval s = v) (hown : w.ownsRow base e size v n xs)
    (ad : Addr) (m c : Nat) (news : List Value) (hx : a.eval x = .slice (some ad) m c) (hl : news.length = m * size) (hnews : ∀ j u, news[j]? = some u → w.cell? (ad.add j) = some u) (h1 : ∀ u ∈ news, u.oneCell' = true)
    (h63 : n + m ≤ maxLen) (hbytes : (n + m) * bytes ≤ 140737488355328) (hbase : base ≤ w.heap.size)
    (h : ∀ v' w', w'.ownsRow base e size v' (n + m) (xs ++ news) → w.grownBy w' v.ownBlock → K (a.put o.dst v') w') :
    if Region.wanted o (yielded ops a.tmps) = true then Oper.wp P o a w K Q else E := by
  have hw : Region.wanted o (yielded ops a.tmps) = true := by simp [Region.wanted, hg]
  rw [if_pos hw]
  exact wp_append_own w s x t ho base e i z size bytes ht hi hz hsize hby hzs hsz v n xs hs hown ad m c news hx hl hnews h1 h63 hbytes hbase fun v' w' h2 h3 _ => h v' w' h2 h3
end Go.Proofs.YthcihkgellginaaDoor

/- nat.divideLong. -/
import Derived.Test.YthcihkgellginaaDoorGuess
import Derived.Test.YthcihkgellginaaDoorPlain
import Derived.Test.YthcihkgellginaaDoorShift
import Derived.Test.YthcihkgellginaaDoorSub
import Derived.Deep.RegionHeld3
namespace Go
open Go.RowKit in
theorem wpList_copy_far {P : Program} {w : World} {ops : Array Oper} {rest : List Oper} {o : Oper} {a : Act} {Q : Exit → Act → World → Prop} (hgd : o.guard = none) (d s : Operand) (dT sT : TypeId)
    (ho : o.op = .call { callee := .builtin .copy, args := #[d, s], argTypes := #[dT, sT] }) (elem : TypeId) (hu : P.underlying dT = some (.slice elem)) (hsz : (P.info? elem).map (·.size) = some 1)
    (dp sp : Option Addr) (dLen dCap sLen sCap : Nat) (hd : a.eval d = .slice dp dLen dCap) (hs : a.eval s = .slice sp sLen sCap)
    (g off : Nat) (cur : List Value) (t : TypeId) (hg : w.heap[g]? = some (.cells cur.toArray t (0, 0))) (cs : List Value) (hn : cs.length = Nat.min sLen dLen)
    (hpos : 0 < cs.length → dp = some ⟨g, off, none⟩ ∧ ∃ ad, sp = some ad ∧ ∀ j v, cs[j]? = some v → w.cell? (ad.add j) = some v)
    (hfit : off + cs.length ≤ cur.length) (h1 : ∀ v ∈ cs, v.oneCell' = true)
    (h : ∀ w', Hid (w'.heap[g]? = some (.cells (splice cur off cs).toArray t (0, 0))) → Hid (Below g w w' ∧ ∀ k, k ≠ g → w'.heap[k]? = w.heap[k]?) → wpList P ops Q rest (a.put o.dst (goInt cs.length)) w') :
    wpList P ops Q (o :: rest) a w := by
  by_cases h0 : cs.length = 0
  · obtain rfl : cs = [] := List.eq_nil_of_length_eq_zero h0
    refine wpList_copy_nothing hgd d s dT sT ho elem hu hsz dp sp dLen dCap sLen sCap hd hs (by simpa using hn.symm) ?_
    exact h w (show _ = _ by simpa [splice] using hg) ⟨Below.refl _ _, fun _ _ => rfl⟩
  · obtain ⟨rfl, ad, rfl, hsrc⟩ := hpos (by omega)
    refine wpList_copy_own hgd d s dT sT ho elem hu hsz g off dLen dCap ad sLen sCap hd hs cur.toArray t hg cs hn hsrc (by simpa using hfit) h1 ?_
    exact h _ (show _ = _ by simpa [splice] using setRow_heap w g _ _ t _ hg) ⟨below_setRow (Below.refl _ _) (Nat.le_refl _) _, fun k hk => setRow_other w g k _ hk⟩
end Go
namespace Go.Proofs.YthcihkgellginaaDoor
open Go.RowKit

theorem Own.setOther {w : World} {g : Nat} {l : List Nat} {p : Addr} {v : Value} (h : Own w g l) (hne : p.block ≠ g) : Own (w.setCell p v) g l := by
  unfold Own at h ⊢
  simp only [World.setCell, Array.getElem?_modify, h]
  simp [hne]
/-- What stands in the long division: blocks below that of the rest as they were, the rest, the digits, the window. -/
structure LongSt (w2 wr : World) (gd gn : Nat) (R D N : List Nat) : Prop where
  old : Below w2.heap.size w2 wr
  rest : Own wr w2.heap.size R
  digs : Own wr gd D
  win : Own wr gn N
theorem LongSt.later {w2 wr wr' : World} {gd gn : Nat} {R D N : List Nat} (h : LongSt w2 wr gd gn R D N) (hb : Below wr.heap.size wr wr') : LongSt w2 wr' gd gn R D N :=
  ⟨h.old.trans (hb.mono h.old.size), h.rest.later hb h.rest.lt, h.digs.later hb h.digs.lt, h.win.later hb h.win.lt⟩
theorem LongSt.window {w2 wr wr' : World} {gd gn : Nat} {R D N N' : List Nat} (h : LongSt w2 wr gd gn R D N) (h1 : w2.heap.size < gn) (h2 : gd < gn) (hb : Below gn wr wr') (hN : Own wr' gn N') : LongSt w2 wr' gd gn R D N' :=
  ⟨h.old.trans (hb.mono (by omega)), h.rest.below hb h1, h.digs.below hb h2, hN⟩
theorem LongSt.fill {w2 wr wr' : World} {gd gn : Nat} {R R' D N : List Nat} (h : LongSt w2 wr gd gn R D N) (h1 : w2.heap.size ≠ gn) (h2 : gd ≠ w2.heap.size) (hb : Below w2.heap.size wr wr' ∧ ∀ k, k ≠ w2.heap.size → wr'.heap[k]? = wr.heap[k]?) (hR : Own wr' w2.heap.size R') : LongSt w2 wr' gd gn R' D N :=
  ⟨h.old.trans hb.1, hR, (hb.2 gd h2).trans h.digs, (hb.2 gn (fun e => h1 e.symm)).trans h.win⟩
theorem LongSt.digit {w2 wr : World} {gd gn : Nat} {R D N : List Nat} (h : LongSt w2 wr gd gn R D N) (h1 : w2.heap.size < gd) (h2 : gd ≠ gn) (t q : Nat) (z : Int) (hz : z = (q : Int)) : LongSt w2 (wr.setCell ⟨gd, t, none⟩ (.int .u64 z)) gd gn R (D.set t q) N := by
  subst hz
  exact ⟨h.old.setCell (by simp; omega) _, h.rest.setOther (by simp; omega), h.digs.set t q, h.win.setOther (by simp; omega)⟩

theorem long_scale (n top nq : Nat) (l : List Nat) (hl : Cub.normal 1000000000 l) (hv : Cub.lval 1000000000 l = n) (hq : l.length = nq + 1) (ht : top = l.getD nq 0) :
    0 < top ∧ top < 1000000000 ∧ 0 < 1000000000 / (top + 1) ∧ 1000000000 / (top + 1) < 1000000000 ∧ n * (1000000000 / (top + 1)) < 1000000000 ^ (nq + 1) ∧ 1000000000 ^ nq ≤ n * (1000000000 / (top + 1)) := by
  obtain ⟨t, x, rfl⟩ := Cub.split_last (show l ≠ [] by intro e; rw [e] at hq; simp at hq)
  obtain ⟨h1, h2, h3⟩ := Cub.normal_last hl
  have hlen : t.length = nq := by simpa using hq
  have hx : top = x := by rw [ht, ← hlen]; simp [List.getD]
  subst hx
  have hs : 0 < 1000000000 / (top + 1) := Nat.div_pos (by omega) (by omega)
  have hs2 : 1000000000 / (top + 1) * (top + 1) ≤ 1000000000 := Nat.div_mul_le_self _ _
  have hs3 : 1000000000 / (top + 1) < 1000000000 := Nat.div_lt_self (by decide) (by omega)
  have hn : n = Cub.lval 1000000000 t + 1000000000 ^ nq * top := by rw [← hv, Cub.lval_snoc, hlen]
  have htl := Cub.lval_lt h1
  rw [hlen] at htl
  generalize 1000000000 / (top + 1) = s at *
  refine ⟨h2, h3, hs, hs3, ?_, ?_⟩
  · have h4 : n + 1 ≤ 1000000000 ^ nq * (top + 1) := by rw [Nat.mul_add, Nat.mul_one]; omega
    have h5 : (n + 1) * s ≤ 1000000000 ^ nq * (top + 1) * s := Nat.mul_le_mul_right _ h4
    have h6 : 1000000000 ^ nq * (top + 1) * s ≤ 1000000000 ^ nq * 1000000000 := by
      rw [Nat.mul_assoc, Nat.mul_comm (top + 1)]
      exact Nat.mul_le_mul_left _ hs2
    rw [Nat.add_mul, Nat.one_mul] at h5
    rw [Nat.pow_succ]
    omega
  · have h4 : 1000000000 ^ nq * 1 ≤ 1000000000 ^ nq * top := Nat.mul_le_mul_left _ h2
    have h5 : n * 1 ≤ n * s := Nat.mul_le_mul_left _ hs
    omega
theorem len_between {l : List Nat} {n k : Nat} (h : Cub.normal 1000000000 l) (hv : Cub.lval 1000000000 l = n) (h1 : 1000000000 ^ k ≤ n) (h2 : n < 1000000000 ^ (k + 1)) : l.length = k + 1 := by
  have a := Cub.len_le h (by rw [hv]; exact h2)
  apply Decidable.byContradiction
  intro hc
  have b := Cub.lval_lt h.1
  have c : 1000000000 ^ l.length ≤ 1000000000 ^ k := Nat.pow_le_pow_right (by decide) (by omega)
  omega
theorem IsBig.at {w : World} {a : Option Addr} {n c : Nat} {v : Nat} (h : IsBig w (.agg #[.slice a n c]) v) : ∃ l, n = l.length ∧ l.length ≤ c ∧ c ≤ 9223372036854775807 ∧ Cub.normal 1000000000 l ∧ Cub.lval 1000000000 l = v ∧ Cells w a l := by
  obtain ⟨s, l, e, hr, hn, hv⟩ := h
  simp only [Value.agg.injEq, Array.mk.injEq, List.cons.injEq, and_true] at e
  subst e
  obtain ⟨h1, h2, h3, h4⟩ := hr.cells
  exact ⟨l, h1, by omega, h3, hn, hv, h4⟩
end Go.Proofs.YthcihkgellginaaDoor

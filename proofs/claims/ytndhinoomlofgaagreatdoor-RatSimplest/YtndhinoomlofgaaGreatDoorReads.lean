/- A region that draws its order, in which reads come ahead of stores into what they read: the reads are taken first. What they read (S) must stand till store number k has come; what those read that store k does not wait for (S7) must stand throughout. -/
import Derived.Test.YtndhinoomlofgaaGreatDoorNeg
import Derived.Test.YtndhinoomlofgaaGreatDoorOne
import Derived.Laws.AppendOwnNone
import Derived.OwnWalk
import Derived.OrdersHeld
import Derived.Deep.RegionHeld3
import Derived.Test.YtndhinoomlofgaaGreatDoorProg
namespace Cub
/-- The whole parts that two numbers a / b, c / d share, and the least whole number where they part. -/
inductive CF : Nat → Nat → Nat → Nat → List Nat → Prop
  | whole {a b c d : Nat} (h : a % b = 0) : CF a b c d [a / b]
  | least {a b c d : Nat} (h : a % b ≠ 0) (h2 : a / b < c / d) : CF a b c d [a / b + 1]
  | on {a b c d : Nat} {ts : List Nat} (h : a % b ≠ 0) (h2 : ¬ a / b < c / d) (r : CF d (c % d) b (a % b) ts) : CF a b c d (a / b :: ts)
/-- What a chain comes to: above and below. -/
def pr : List Nat → Nat × Nat
  | [] => (1, 0)
  | t :: ts => (t * (pr ts).1 + (pr ts).2, (pr ts).1)
theorem CF.ne {a b c d : Nat} {ts : List Nat} (h : CF a b c d ts) : ts ≠ [] := by cases h <;> simp
/-- The two are in their order. -/
structure Ord (a b c d : Nat) : Prop where
  b0 : 0 < b
  d0 : 0 < d
  le : a * d ≤ c * b
theorem Ord.div {a b c d : Nat} (h : Ord a b c d) : a / b ≤ c / d := by
  rw [Nat.le_div_iff_mul_le h.d0]
  have h1 : a / b * b ≤ a := Nat.div_mul_le_self a b
  refine Nat.le_of_mul_le_mul_right ?_ h.b0
  calc a / b * d * b = a / b * b * d := by rw [Nat.mul_assoc, Nat.mul_comm d b, ← Nat.mul_assoc]
    _ ≤ a * d := Nat.mul_le_mul_right d h1
    _ ≤ c * b := h.le
theorem Ord.on {a b c d : Nat} (h : Ord a b c d) (h1 : a % b ≠ 0) (h2 : ¬ a / b < c / d) : Ord d (c % d) b (a % b) ∧ a / b = c / d ∧ c % d < d ∧ a % b < b := by
  have e : a / b = c / d := Nat.le_antisymm h.div (Nat.le_of_not_lt h2)
  have ha := Nat.div_add_mod a b
  have hc := Nat.div_add_mod c d
  have hle := h.le
  obtain ⟨q, hq⟩ : ∃ q, q = a / b := ⟨_, rfl⟩
  obtain ⟨r, hr⟩ : ∃ r, r = a % b := ⟨_, rfl⟩
  obtain ⟨s, hs⟩ : ∃ s, s = c % d := ⟨_, rfl⟩
  rw [← hq, ← hr] at ha
  rw [← e, ← hq, ← hs] at hc
  have hle2 : r * d ≤ s * b := by
    have h3 : (b * q + r) * d ≤ (d * q + s) * b := by rw [ha, hc]; exact hle
    rw [Nat.add_mul, Nat.add_mul] at h3
    have h4 : b * q * d = d * q * b := by rw [Nat.mul_comm (d * q) b, ← Nat.mul_assoc, Nat.mul_comm (b * d) q, Nat.mul_assoc b, Nat.mul_comm q d, ← Nat.mul_assoc, Nat.mul_comm (b * d) q]
    omega
  have hr0 : 0 < r := by rw [hr]; omega
  have hs0 : 0 < s := by
    rcases Nat.eq_zero_or_pos s with h0 | h0
    · rw [h0, Nat.zero_mul] at hle2
      have := Nat.mul_pos hr0 h.d0
      omega
    · exact h0
  rw [← hr, ← hs, ← e]
  exact ⟨⟨hs0, hr0, by rw [Nat.mul_comm d r, Nat.mul_comm b s]; exact hle2⟩, rfl, by rw [hs]; exact Nat.mod_lt _ h.d0, by rw [hr]; exact Nat.mod_lt _ h.b0⟩
theorem CF.some {a b c d : Nat} (h : Ord a b c d) : ∃ ts, CF a b c d ts := by
  obtain ⟨n, hn⟩ : ∃ n, n = b + d := ⟨_, rfl⟩
  induction n using Nat.strongRecOn generalizing a b c d with
  | ind n ih =>
    by_cases h1 : a % b = 0
    · exact ⟨_, .whole h1⟩
    · by_cases h2 : a / b < c / d
      · exact ⟨_, .least h1 h2⟩
      · obtain ⟨h3, _, l1, l2⟩ := h.on h1 h2
        obtain ⟨ts, ht⟩ := ih (c % d + a % b) (by omega) h3 rfl
        exact ⟨_, .on h1 h2 ht⟩
/-- It is no greater than any of the four. -/
theorem CF.bound {a b c d : Nat} {ts : List Nat} (r : CF a b c d ts) : Ord a b c d → (pr ts).1 ≤ a ∧ (pr ts).1 ≤ c ∧ (pr ts).2 ≤ b ∧ (pr ts).2 ≤ d ∧ 0 < (pr ts).2 := by
  induction r with
  | whole h =>
    rename_i a b c d
    intro o
    have h1 := o.div
    have h2 := Nat.div_le_self a b
    have h3 := Nat.div_le_self c d
    have := o.b0; have := o.d0
    simp only [pr, Nat.mul_one, Nat.add_zero]
    omega
  | least h h2 =>
    rename_i a b c d
    intro o
    have h3 := Nat.div_le_self c d
    have h4 := Nat.div_add_mod a b
    have h5 := Nat.mod_lt a o.b0
    have := o.b0; have := o.d0
    have h6 : a / b ≤ b * (a / b) := Nat.le_mul_of_pos_left _ o.b0
    simp only [pr, Nat.mul_one, Nat.add_zero]
    omega
  | on h h2 r ih =>
    rename_i a b c d ts
    intro o
    obtain ⟨o2, e, l1, l2⟩ := o.on h h2
    obtain ⟨k1, k2, k3, k4, k5⟩ := ih o2
    have ha := Nat.div_add_mod a b
    have hc := Nat.div_add_mod c d
    rw [← e] at hc
    obtain ⟨q, hq⟩ : ∃ q, q = a / b := ⟨_, rfl⟩
    rw [← hq] at ha hc
    simp only [pr]
    rw [← hq]
    have m1 : q * (pr ts).1 ≤ b * q := by rw [Nat.mul_comm]; exact Nat.mul_le_mul_right q k2
    have m2 : q * (pr ts).1 ≤ d * q := by rw [Nat.mul_comm]; exact Nat.mul_le_mul_right q k1
    refine ⟨by omega, by omega, k2, k1, ?_⟩
    rcases Nat.eq_zero_or_pos (pr ts).1 with h0 | h0
    · exfalso
      -- the chain's first whole part is above 0
      cases r with
      | whole h' =>
        simp only [pr, Nat.mul_one, Nat.add_zero] at h0
        have : 0 < d / (c % d) := Nat.div_pos (by omega) o2.b0
        omega
      | least h' h2' =>
        simp only [pr, Nat.mul_one, Nat.add_zero] at h0
        exact absurd h0 (Nat.succ_ne_zero _)
      | on h' h2' r' =>
        simp only [pr] at h0 k5
        have : 0 < d / (c % d) := Nat.div_pos (by omega) o2.b0
        have := Nat.mul_pos this k5
        omega
    · exact h0
theorem pr_gcd : ∀ ts : List Nat, Nat.gcd (pr ts).1 (pr ts).2 = 1
  | [] => by simp [pr]
  | t :: ts => by
    have ih := pr_gcd ts
    simp only [pr]
    rw [Nat.gcd_comm, Nat.gcd_mul_right_add_right, ih]
/-- All whole parts behind the first are above 0. -/
theorem CF.pos {a b c d : Nat} {ts : List Nat} (r : CF a b c d ts) : Ord a b c d → b < a → ∀ t ∈ ts, 0 < t := by
  induction r with
  | whole h =>
    rename_i a b c d
    intro o hl t ht
    rw [List.mem_singleton.1 ht]
    exact Nat.div_pos (by omega) o.b0
  | least h h2 =>
    intro o hl t ht
    rw [List.mem_singleton.1 ht]; exact Nat.succ_pos _
  | on h h2 r ih =>
    rename_i a b c d ts
    intro o hl t ht
    obtain ⟨o2, e, l1, l2⟩ := o.on h h2
    rcases List.mem_cons.1 ht with rfl | ht
    · exact Nat.div_pos (by omega) o.b0
    · exact ih o2 l1 t ht
theorem CF.tail_pos {a b c d : Nat} {ts : List Nat} (r : CF a b c d ts) (o : Ord a b c d) : ∀ t ∈ ts.tail, 0 < t := by
  cases r with
  | whole h => intro t ht; cases ht
  | least h h2 => intro t ht; cases ht
  | on h h2 r => obtain ⟨o2, e, l1, l2⟩ := o.on h h2; exact r.pos o2 l1
/-- A chain worked out from the front: (above, the one ahead; below, the one ahead). -/
def uf : List Nat → Nat × Nat → Nat × Nat → (Nat × Nat) × (Nat × Nat)
  | [], p, q => (p, q)
  | c :: cs, p, q => uf cs (p.1 * c + p.2, p.1) (q.1 * c + q.2, q.1)
theorem uf_val : ∀ (ts : List Nat) (p q : Nat × Nat), (uf ts p q).1.1 = p.1 * (pr ts).1 + p.2 * (pr ts).2 ∧ (uf ts p q).2.1 = q.1 * (pr ts).1 + q.2 * (pr ts).2
  | [], p, q => by simp [uf, pr]
  | c :: cs, p, q => by
    have ih := uf_val cs (p.1 * c + p.2, p.1) (q.1 * c + q.2, q.1)
    simp only [uf, pr]
    rw [ih.1, ih.2]
    constructor <;> simp only [] <;> grind
theorem uf_snoc : ∀ (ts : List Nat) (c : Nat) (p q : Nat × Nat), uf (ts ++ [c]) p q = (((uf ts p q).1.1 * c + (uf ts p q).1.2, (uf ts p q).1.1), ((uf ts p q).2.1 * c + (uf ts p q).2.2, (uf ts p q).2.1))
  | [], _, _, _ => rfl
  | _ :: ts, c, _, _ => uf_snoc ts c _ _
/-- As unfold begins. -/
def un (ts : List Nat) : (Nat × Nat) × (Nat × Nat) := uf ts (0, 1) (1, 0)
theorem un_val (ts : List Nat) : (un ts).1.1 = (pr ts).2 ∧ (un ts).2.1 = (pr ts).1 := by
  have := uf_val ts (0, 1) (1, 0)
  unfold un
  rw [this.1, this.2]
  constructor <;> simp
theorem un_snoc (ts : List Nat) (c : Nat) : un (ts ++ [c]) = (((un ts).1.1 * c + (un ts).1.2, (un ts).1.1), ((un ts).2.1 * c + (un ts).2.2, (un ts).2.1)) := uf_snoc ts c _ _
/-- What is behind never falls, and what is above it is no greater. -/
theorem un_le (ts : List Nat) (h : ∀ t ∈ ts, 0 < t) : (un ts).1.1 ≤ (un ts).2.1 ∧ (un ts).1.2 ≤ (un ts).2.1 ∧ (un ts).2.2 ≤ (un ts).2.1 ∧ ((un ts).1.2 ≤ (un ts).2.2 ∨ ts.length ≤ 0) := by
  obtain ⟨n, hn⟩ : ∃ n, n = ts.length := ⟨_, rfl⟩
  induction n generalizing ts with
  | zero =>
    obtain rfl : ts = [] := List.length_eq_zero_iff.1 hn.symm
    simp [un, uf]
  | succ n ih =>
    obtain ⟨us, c, rfl⟩ : ∃ us c, ts = us ++ [c] := ⟨ts.dropLast, ts.getLast (by intro e; subst e; simp at hn), (List.dropLast_concat_getLast _).symm⟩
    have hc : 0 < c := h c (by simp)
    obtain ⟨i1, i2, i3, i4⟩ := ih us (fun t ht => h t (by simp [ht])) (by simp at hn; omega)
    rw [un_snoc]
    simp only []
    have m1 : (un us).1.1 * c ≤ (un us).2.1 * c := Nat.mul_le_mul_right c i1
    have m2 : (un us).2.1 ≤ (un us).2.1 * c := Nat.le_mul_of_pos_right _ hc
    refine ⟨?_, by omega, by omega, Or.inl i1⟩
    rcases i4 with i4 | i4
    · omega
    · obtain rfl : us = [] := List.length_eq_zero_iff.1 (by omega)
      simp [un, uf]
      omega
theorem un_mono (ts us : List Nat) (h : ∀ t ∈ us, 0 < t) : (un ts).2.1 ≤ (un (ts ++ us)).2.1 := by
  induction us generalizing ts with
  | nil => simp
  | cons c us ih =>
    have hc : 0 < c := h c (by simp)
    have h1 := ih (ts ++ [c]) (fun t ht => h t (by simp [ht]))
    rw [List.append_assoc, List.singleton_append] at h1
    refine Nat.le_trans ?_ h1
    rw [un_snoc]
    have m2 : (un ts).2.1 ≤ (un ts).2.1 * c := Nat.le_mul_of_pos_right _ hc
    simp only []
    omega
end Cub

namespace Go.Proofs.YtndhinoomlofgaaGreatDoor
open Go.RowKit

theorem info72 : (Tryz.prog.info? 72).map (fun i => (i.zero, i.size, i.bytes)) = some (some (.agg #[.slice none 0 0]), 1, 24) := by kernel_rfl
theorem under126 : Tryz.prog.underlying 126 = some (.slice 72) := by kernel_rfl
def NoInt (u : Value) : Prop := ∀ k m, u ≠ .int k m
/-- The call owns a row whose block holds no integer. -/
def OwnN (w : World) (base : Nat) (v : Value) (xs : List Value) : Prop :=
  (v = .slice none 0 0 ∧ xs = []) ∨ ∃ g cap cur, v = .slice (some ⟨g, 0, none⟩) xs.length cap ∧ base ≤ g ∧ w.heap[g]? = some (.cells cur 72 (0, 0)) ∧ xs.length ≤ cap ∧ cap ≤ maxLen ∧ cur.size = cap ∧ cur.toList.take xs.length = xs ∧ ∀ u ∈ cur.toList, NoInt u
theorem OwnN.nil (w : World) (base : Nat) : OwnN w base (.slice none 0 0) [] := Or.inl ⟨rfl, rfl⟩
theorem OwnN.row {w : World} {base : Nat} {v : Value} {xs : List Value} (h : OwnN w base v xs) : w.ownsRow base 72 1 v xs.length xs := by
  rcases h with ⟨rfl, rfl⟩ | ⟨g, cap, cur, rfl, h1, h2, h3, h4, h5, h6, _⟩
  · exact World.ownsRow_nil _ _ _ _
  · exact ⟨by rw [Nat.mul_one], Or.inr ⟨g, cap, cur, rfl, h1, h2, h3, h4, by rw [Nat.mul_one]; exact h5, by rw [Nat.mul_one]; exact h6⟩⟩
theorem OwnN.later {w w' : World} {base : Nat} {v : Value} {xs : List Value} (h : OwnN w base v xs) (hb : Below w.heap.size w w') : OwnN w' base v xs := by
  rcases h with h | ⟨g, cap, cur, h0, h1, h2, r⟩
  · exact Or.inl h
  · exact Or.inr ⟨g, cap, cur, h0, h1, (hb.block g (Array.getElem?_eq_some_iff.1 h2).1).trans h2, r⟩
theorem OwnN.lt {w : World} {base : Nat} {v : Value} {xs : List Value} (h : OwnN w base v xs) : ∀ k, v.ownBlock = some k → base ≤ k ∧ k < w.heap.size := h.row.lt
/-- A store into a block that is not the row's leaves it. -/
theorem OwnN.other {w : World} {base : Nat} {v : Value} {xs : List Value} (h : OwnN w base v xs) (p : Addr) (u : Value) (hp : p.block < base) : OwnN (w.setCell p u) base v xs := by
  rcases h with h | ⟨g, cap, cur, h0, h1, h2, r⟩
  · exact Or.inl h
  · refine Or.inr ⟨g, cap, cur, h0, h1, ?_, r⟩
    rw [← h2]
    exact heap_setCell_other _ _ _ _ (by omega)
theorem OwnN.cells {w : World} {base : Nat} {v : Value} {xs : List Value} (h : OwnN w base v xs) (i : Nat) (hi : i < xs.length) : ∃ g cap, v = .slice (some ⟨g, 0, none⟩) xs.length cap ∧ xs.length ≤ cap ∧ cap ≤ maxLen ∧ w.cell? ⟨g, i, none⟩ = some xs[i] := by
  rcases h with ⟨rfl, rfl⟩ | ⟨g, cap, cur, h0, h1, h2, h3, h4, h5, h6, h7⟩
  · exact absurd hi (by simp)
  · subst h0
    refine ⟨g, cap, rfl, h3, h4, ?_⟩
    have hr : w.ownsRow base 72 1 (.slice (some ⟨g, 0, none⟩) xs.length cap) xs.length xs := OwnN.row (Or.inr ⟨g, cap, cur, rfl, h1, h2, h3, h4, h5, h6, h7⟩)
    have := hr.cells (g := g) rfl i xs[i] (List.getElem?_eq_getElem hi)
    simpa [Addr.add_lit] using this
/-- A number's limbs lie elsewhere. -/
theorem IsBig.apart {w w' : World} {v : Value} {n : Nat} {row : Option Nat} (h : IsBig w v n) (hg : w.grownBy w' row) (hr : ∀ g, row = some g → ∃ cur, w.heap[g]? = some (.cells cur 72 (0, 0)) ∧ ∀ u ∈ cur.toList, NoInt u) : IsBig w' v n := by
  obtain ⟨s, l, rfl, ⟨a, cap, rfl, hc, hm, hrow⟩, hn, hv⟩ := h
  refine ⟨_, l, rfl, ⟨a, cap, rfl, hc, hm, fun hne => ?_⟩, hn, hv⟩
  obtain ⟨b, o, rfl, hlt, hcell⟩ := hrow hne
  have hl0 : 0 < l.length := List.length_pos_iff.2 hne
  have hb : some b ≠ row := by
    intro e
    obtain ⟨cur, hcur, hno⟩ := hr b e.symm
    have h0 := hcell 0 hl0
    rw [World.cell?] at h0
    simp only [hcur] at h0
    have h1 : cur[o]? = some (.int .u64 (l[0] : Int)) := by simpa using h0
    exact hno _ (Array.mem_toList_iff.2 (Array.mem_of_getElem? h1)) _ _ rfl
  obtain ⟨_, _, _, h4, h5⟩ := hg
  refine ⟨b, o, rfl, by omega, fun i hi => ?_⟩
  rw [← hcell i hi]
  exact World.cell?_of_block (a := ⟨b, o + i, none⟩) (h5 b hlt hb)

theorem zero_no (n : Nat) : ∀ u ∈ (Builtin.zeroCells (Value.agg #[.slice none 0 0]).cells n).toList, NoInt u := by
  intro u hu k m e
  subst e
  simp [Builtin.zeroCells, Value.cells, Nat.mod_one] at hu
theorem run_appendN {w : World} (base : Nat) (i : TypeInfo) (hi : Tryz.prog.info? 72 = some i) (hz : i.zero = some (.agg #[.slice none 0 0])) (hs : i.size = 1) (hby : i.bytes = 24) (ty : TypeId)
    (v : Value) (xs : List Value) (hown : OwnN w base v xs) (ad : Addr) (c : Nat) (x : Value) (hx : w.cell? ad = some x) (h1 : x.oneCell' = true) (hno : NoInt x) (hl : xs.length ≤ 1000000) (hbase : base ≤ w.heap.size) (had : ad.add 0 = ad) :
    ∃ v' w', (Builtin.append_ #[126, 126] ty #[v, .slice (some ad) 1 c]).run Tryz.prog w = .ok v' w' ∧ OwnN w' base v' (xs ++ [x]) ∧ w.grownBy w' v.ownBlock := by
  have hnews : ∀ j u, [x][j]? = some u → w.cell? (ad.add j) = some u := fun j u hu => by
    cases j with
    | zero => simp at hu; subst hu; rw [had]; exact hx
    | succ j => simp at hu
  have hone : ∀ u ∈ [x], u.oneCell' = true := fun u hu => by rw [List.mem_singleton.1 hu]; exact h1
  have hln : [x].length = 1 * i.size := by rw [hs]; rfl
  have mk : ∀ old, ∃ cap, grownCap w (xs.length + 1) old 72 = cap ∧ xs.length + 1 ≤ cap ∧ cap ≤ maxLen := fun old =>
    ⟨_, rfl, grownCap_ge _ _ _ _, grownCap_le_maxLen _ _ _ _ (by simp only [maxLen]; omega)⟩
  have fin : ∀ cap, xs.length + 1 ≤ cap → cap ≤ maxLen → OwnN (w.drew.alloc (.cells (xs.toArray ++ [x].toArray ++ Builtin.zeroCells (Value.agg #[.slice none 0 0]).cells (cap - (xs.length + 1))) 72)) base (.slice (some ⟨w.heap.size, 0, none⟩) (xs.length + 1) cap) (xs ++ [x]) ∨ ¬ ∀ u ∈ xs, NoInt u := fun cap h2 h3 => by
    by_cases hxs : ∀ u ∈ xs, NoInt u
    · refine Or.inl (Or.inr ⟨w.heap.size, cap, _, by simp, hbase, heap_alloc_new w.drew _, by simpa using h2, h3, ?_, ?_, ?_⟩)
      · simp only [Array.size_append, List.size_toArray, size_zeroCells, List.length_singleton]
        have : (Value.agg #[.slice none 0 0]).cells.size = 1 := rfl
        rw [this]; omega
      · simp only [Array.toList_append, List.length_append, List.length_singleton]
        rw [← List.length_singleton (a := x), ← List.length_append]
        exact List.take_left
      · intro u hu
        simp only [Array.toList_append, List.mem_append] at hu
        rcases hu with (hu | hu) | hu
        · exact hxs u hu
        · rw [List.mem_singleton.1 hu]; exact hno
        · exact zero_no _ u hu
    · exact Or.inr hxs
  have hgr : ∀ (o : Obj) (row : Option Nat), w.grownBy (w.drew.alloc o) row := fun o row => ⟨rfl, rfl, rfl, by simp, fun k hk _ => heap_alloc_old w.drew o hk⟩
  rcases hown with ⟨rfl, rfl⟩ | ⟨g, cap, cur, rfl, hbg, hg, hnc, hcm, hcs, htake, hni⟩
  · have hr := run_append_nil (P := Tryz.prog) w 126 ty 72 i _ under126 hi hz ad 1 c [x] hln hnews (by decide) (by decide) (by rw [hby]; decide)
    obtain ⟨cp, e, c1, c2⟩ := mk 0
    simp only [List.length_nil, Nat.zero_add] at e
    rw [e] at hr
    rcases fin cp c1 c2 with hf | hf
    · exact ⟨_, _, hr, by simpa using hf, hgr _ _⟩
    · exact absurd (fun u hu => by cases hu) hf
  · have hxs : ∀ u ∈ xs, NoInt u := fun u hu => hni u (List.mem_of_mem_take (by rw [htake]; exact hu))
    by_cases hroom : xs.length + 1 ≤ cap
    · have hfit : xs.length * i.size + [x].length ≤ cur.size := by rw [hs, hcs]; simpa using hroom
      have hr := run_append_room (P := Tryz.prog) w 126 ty 72 i under126 hi g xs.length cap cur hg ad 1 c [x] hln hnews hone hroom hfit
      rw [hs, Nat.mul_one] at hr
      refine ⟨_, _, hr, Or.inr ⟨g, cap, _, by simp, hbg, setRow_heap w g cur _ 72 _ hg, by simpa using hroom, hcm, ?_, ?_, ?_⟩, ⟨rfl, rfl, rfl, by simp, fun k _ hk => setRow_other w g k _ (fun e => hk (by simp [Value.ownBlock, e]))⟩⟩
      · simp only [List.size_toArray, List.length_append, List.length_take, List.length_drop, Array.length_toList, List.length_singleton]
        omega
      · rw [htake, List.length_append]
        show List.take (xs.length + [x].length) (xs ++ [x] ++ List.drop (xs.length + [x].length) cur.toList) = xs ++ [x]
        rw [← List.length_append]
        exact List.take_left
      · intro u hu
        simp only [List.mem_append] at hu
        rcases hu with (hu | hu) | hu
        · rw [htake] at hu; exact hxs u hu
        · rw [List.mem_singleton.1 hu]; exact hno
        · exact hni u (List.mem_of_mem_drop hu)
    · have hown' : w.ownsRow base 72 1 (.slice (some ⟨g, 0, none⟩) xs.length cap) xs.length xs := OwnN.row (Or.inr ⟨g, cap, cur, rfl, hbg, hg, hnc, hcm, hcs, htake, hni⟩)
      have holds : ∀ j u, xs[j]? = some u → w.cell? ((⟨g, 0, none⟩ : Addr).add j) = some u := hown'.cells (g := g) rfl
      have hr := run_append_grow (P := Tryz.prog) w 126 ty 72 i _ under126 hi hz ⟨g, 0, none⟩ xs.length cap xs (by rw [hs, Nat.mul_one]) holds ad 1 c [x] hln hnews (by omega) (by omega) (growslice_fits (by omega) (by rw [hby]; omega))
      obtain ⟨cp, e, c1, c2⟩ := mk cap
      rw [e] at hr
      rcases fin cp c1 c2 with hf | hf
      · exact ⟨_, _, hr, hf, hgr _ _⟩
      · exact absurd hxs hf
/-- What an append leaves. -/
structure AppN (w w' : World) (base : Nat) (v v' : Value) (xs : List Value) (x : Value) : Prop where
  own : OwnN w' base v' (xs ++ [x])
  grown : w.grownBy w' v.ownBlock
  big : ∀ y n, IsBig w y n → IsBig w' y n
theorem AppN.of {w w' : World} {base : Nat} {v v' : Value} {xs : List Value} {x : Value} (h : OwnN w base v xs) (h1 : OwnN w' base v' (xs ++ [x])) (h2 : w.grownBy w' v.ownBlock) : AppN w w' base v v' xs x := by
  refine ⟨h1, h2, fun y n hy => hy.apart h2 fun g hg => ?_⟩
  rcases h with ⟨rfl, rfl⟩ | ⟨g', cap, cur, rfl, _, h3, _, _, _, _, h4⟩
  · cases hg
  · simp only [Value.ownBlock, Option.some.injEq] at hg
    subst hg
    exact ⟨cur, h3, h4⟩
theorem AppN.box {w w' : World} {base : Nat} {v v' : Value} {xs : List Value} {x : Value} (h : AppN w w' base v v' xs x) {k : Nat} (hk : k < w.heap.size) (hne : some k ≠ v.ownBlock) (o : Nat) : w'.cell? ⟨k, o, none⟩ = w.cell? ⟨k, o, none⟩ ∧ w'.frozen? ⟨k, o, none⟩ = w.frozen? ⟨k, o, none⟩ := by
  obtain ⟨_, _, _, _, h5⟩ := h.grown
  exact ⟨World.cell?_of_block (a := ⟨k, o, none⟩) (h5 k hk hne), World.frozen?_of_block (a := ⟨k, o, none⟩) (h5 k hk hne)⟩
theorem AppN.below {w0 w w' : World} {base : Nat} {v v' : Value} {xs : List Value} {x : Value} (h : AppN w w' base v v' xs x) (ho : OwnN w base v xs) {B : Nat} (hb : Below B w0 w) (hB : B ≤ base) (hs : B ≤ w.heap.size) : Below B w0 w' :=
  hb.grown h.grown hs (fun k hk => Nat.le_trans hB (ho.lt k hk).1)
theorem wpList_appendN {ops : Array Oper} {rest : List Oper} {o : Oper} {a : Act} {Q : Exit → Act → World → Prop} {w : World} (hgd : o.guard = none) (s y : Operand)
    (ho : o.op = .call { callee := .builtin .append, args := #[s, y], argTypes := #[126, 126] }) (base : Nat)
    (v : Value) (xs : List Value) (hv : a.eval s = v) (hown : OwnN w base v xs) (ad : Addr) (c : Nat) (x : Value) (hy : a.eval y = .slice (some ad) 1 c) (hx : w.cell? ad = some x) (h1 : x.oneCell' = true) (hno : NoInt x) (hl : xs.length ≤ 1000000) (hbase : base ≤ w.heap.size) (had : ad.add 0 = ad)
    (h : ∀ v' w', AppN w w' base v v' xs x → wpList Tryz.prog ops Q rest (a.put o.dst v') w') : wpList Tryz.prog ops Q (o :: rest) a w := by
  obtain ⟨i, hi, hz, hs, hby⟩ := info_parts info72
  obtain ⟨v', w', hr, h2, h3⟩ := run_appendN (w := w) base i hi hz hs hby o.type v xs hown ad c x hx h1 hno hl hbase had
  refine wpList_plain hgd fun _ hK => ?_
  unfold Oper.wp execOp
  simp only [ho, resolve, invoke, builtin, Sem.run_bind, Sem.run_pure, Result.andThen_ok, List.map_toArray, List.map_cons, List.map_nil, hv, hy, hr]
  exact hK _ _ (h v' w' (AppN.of hown h2 h3))
theorem wp_appendN {o : Oper} {a : Act} {w : World} {K : Act → World → Prop} {Q : Exit → Act → World → Prop}
    (s y : Operand) (ho : o.op = .call { callee := .builtin .append, args := #[s, y], argTypes := #[126, 126] }) (base : Nat)
    (v : Value) (xs : List Value) (hv : a.eval s = v) (hown : OwnN w base v xs) (ad : Addr) (c : Nat) (x : Value) (hy : a.eval y = .slice (some ad) 1 c) (hx : w.cell? ad = some x) (h1 : x.oneCell' = true) (hno : NoInt x) (hl : xs.length ≤ 1000000) (hbase : base ≤ w.heap.size) (had : ad.add 0 = ad)
    (h : ∀ v' w', AppN w w' base v v' xs x → K (a.put o.dst v') w') : Oper.wp Tryz.prog o a w K Q := by
  obtain ⟨i, hi, hz, hs, hby⟩ := info_parts info72
  obtain ⟨v', w', hr, h2, h3⟩ := run_appendN (w := w) base i hi hz hs hby o.type v xs hown ad c x hx h1 hno hl hbase had
  unfold Oper.wp execOp
  simp only [ho, resolve, invoke, builtin, Sem.run_bind, Sem.run_pure, Result.andThen_ok, List.map_toArray, List.map_cons, List.map_nil, hv, hy, hr]
  exact h v' w' (AppN.of hown h2 h3)
end Go.Proofs.YtndhinoomlofgaaGreatDoor

namespace Go.Proofs.YtndhinoomlofgaaGreatDoor
section
variable {P : Program} {ops : Array Oper} {Q : Exit → Act → World → Prop} {md : Region.Mode} {S S7 : World → Prop} {k : Nat}

/-- What stands once these have come. -/
def Inv (k : Nat) (S S7 : World → Prop) (l : Array Bool) (w : World) : Prop := (l.getD k false = false → S w) ∧ S7 w
/-- Whatever order: what stands does so behind each operation. -/
def wpR (P : Program) (md : Region.Mode) (ops : Array Oper) (Q : Exit → Act → World → Prop) (k : Nat) (S S7 : World → Prop) : Nat → Array Bool → Act → World → Prop
  | 0, l, a, w => Region.ready md ops l = [] ∧ Q .normal a w
  | n + 1, l, a, w => (Region.ready md ops l = [] → Q .normal a w) ∧ ∀ j ∈ Region.ready md ops l, wpOp P ops Q j (fun a' w' => Inv k S S7 (l.setIfInBounds j true) w' ∧ wpR P md ops Q k S S7 n (l.setIfInBounds j true) a' w') a w
theorem wpR_any : ∀ (n : Nat) (l : Array Bool) (a : Act) (w : World), wpR P md ops Q k S S7 n l a w → wpAny P md ops Q n l a w
  | 0, _, _, _, h => h
  | n + 1, _, _, _, h => ⟨h.1, fun j hj => wpOp_mono (fun a' w' h' => wpR_any n _ a' w' h'.2) (h.2 j hj)⟩
/-- What has come, came behind all that it waits for. -/
def Closed (md : Region.Mode) (ops : Array Oper) (l : Array Bool) : Prop := ∀ (j : Nat) (o : Oper), ops[j]? = some o → l.getD j false = true → ∀ e ∈ o.after, Region.binds md e = true → l.getD e.on false = true
theorem Closed.step {l : Array Bool} {j : Nat} (h : Closed md ops l) (hj : j ∈ Region.ready md ops l) : Closed md ops (l.setIfInBounds j true) := by
  obtain ⟨_, o, ho, hall⟩ := mem_ready.1 hj
  intro q oq hq hl e he hb
  rcases Decidable.em (j = q) with rfl | hne
  · obtain rfl : o = oq := Option.some.inj (ho.symm.trans hq)
    exact getD_set_true (hall e he hb)
  · rw [getD_set_ne false hne] at hl
    exact getD_set_true (h q oq hq hl e he hb)
def closedB (md : Region.Mode) (ops : Array Oper) (l : Array Bool) : Bool :=
  (List.range ops.size).all fun j => !l.getD j false || match ops[j]? with
    | some o => o.after.all fun e => !Region.binds md e || l.getD e.on false
    | none => true
theorem closed_of {l : Array Bool} (h : closedB md ops l = true) : Closed md ops l := by
  intro j o ho hl e he hb
  unfold closedB at h
  have h1 := List.all_eq_true.1 h j (List.mem_range.2 (Array.getElem?_eq_some_iff.1 ho).1)
  simp only [ho, hl, Bool.not_true, Bool.false_or] at h1
  have h2 := Array.all_eq_true_iff_forall_mem.1 h1 e he
  simpa [hb] using h2
/-- Does operation k wait for this one? -/
def waits (md : Region.Mode) (ops : Array Oper) (k i : Nat) : Bool := match ops[k]? with
  | some o => o.after.any fun e => Region.binds md e && e.on == i
  | none => true
theorem unlisted {l : Array Bool} {i : Nat} {b : Bool} (h : l.getD i true = false) (h1 : l.getD i b = true) : False := by
  rcases Nat.lt_or_ge i l.size with h2 | h2
  · simp [h2] at h h1; rw [h] at h1; cases h1
  · simp [Array.getElem?_eq_none h2] at h
theorem not_yet {i : Nat} {l : Array Bool} (hc : Closed md ops l) (hz : l.size = ops.size) (hw : waits md ops k i = true) (hi : l.getD i true = false) : l.getD k false = false := by
  cases hl : l.getD k false with
  | false => rfl
  | true =>
    exfalso
    unfold waits at hw
    cases ho : ops[k]? with
    | none =>
      have : ops.size ≤ k := Array.getElem?_eq_none_iff.1 ho
      have h2 : l[k]? = none := Array.getElem?_eq_none (by omega)
      simp [h2] at hl
    | some o =>
      simp only [ho] at hw
      obtain ⟨e, he, h2⟩ := Array.any_eq_true'.1 hw
      simp only [Bool.and_eq_true, beq_iff_eq] at h2
      have h3 := hc k o ho hl e he h2.1
      rw [h2.2] at h3
      exact unlisted hi h3
theorem Inv.set {l : Array Bool} {w : World} {i : Nat} (h : Inv k S S7 l w) (hne : i ≠ k) : Inv k S S7 (l.setIfInBounds i true) w := ⟨fun h0 => h.1 (by rwa [getD_set_ne false hne] at h0), h.2⟩
theorem wpR_first {i : Nat} {oi : Oper} {v : Value} {T : World → Prop} (hi : ops[i]? = some oi) (hs : Region.noSelect ops = true) (hik : i ≠ k)
    (hT : ∀ (l : Array Bool) (w : World), Closed md ops l → l.size = ops.size → l.getD i true = false → Inv k S S7 l w → T w)
    (hQ : ∀ c a w, Q (.panic c) (a.put oi.dst v) w → Q (.panic c) a w) (n : Nat) :
    ∀ (l : Array Bool) (a : Act) (w : World), Closed md ops l → l.size = ops.size → (∀ j oj, ops[j]? = some oj → j ≠ i → l.getD j true = false → (∀ e ∈ oj.after, Region.binds md e = true → e.on ≠ i) → oi.apart ops oj = true) →
      i ∈ Region.ready md ops l → YieldsIf P ops T oi v a → Inv k S S7 l w → wpR P md ops Q k S S7 n (l.setIfInBounds i true) (a.put oi.dst v) w → wpR P md ops Q k S S7 (n + 1) l a w := by
  have hsel := Region.noSelect_spec hs
  induction n with
  | zero =>
    intro l a w hc hz _ hr hy hS H
    refine ⟨fun h => absurd hr (by rw [h]; simp), fun j hj => ?_⟩
    rcases Decidable.em (j = i) with rfl | hne
    · exact hy.wpOp hi (hT l w hc hz (mem_ready.1 hr).1 hS) ⟨hS.set hik, H⟩
    · have := ready_mono hj hne
      rw [H.1] at this
      exact absurd this (by simp)
  | succ n ih =>
    intro l a w hc hz hfree hr hy hS H
    refine ⟨fun h => absurd hr (by rw [h]; simp), fun j hj => ?_⟩
    have hiu := (mem_ready.1 hr).1
    rcases Decidable.em (j = i) with rfl | hne
    · exact hy.wpOp hi (hT l w hc hz hiu hS) ⟨hS.set hik, H⟩
    · obtain ⟨hju, oj, hoj, hall⟩ := mem_ready.1 hj
      have hno : ∀ e ∈ oj.after, Region.binds md e = true → e.on ≠ i := fun e he hb heq => by
        have h1 := hall e he hb
        rw [heq] at h1
        exact unlisted hiu h1
      have h2 := wpOp_putIf hoj (hfree j oj hoj hne hju hno) (fun cs b => hsel i oi cs b hi) (fun cs b => hsel j oj cs b hoj) hQ hy (H.2 j (ready_mono hj hne))
      refine wpOp_mono (fun a' w' q => ?_) h2
      obtain ⟨q1, q2, q3⟩ := q
      rw [Array.setIfInBounds_comm _ _ (Ne.symm hne)] at q2 q3
      have hI : Inv k S S7 (l.setIfInBounds j true) w' := ⟨fun h0 => q2.1 (by rwa [getD_set_ne false hik]), q2.2⟩
      refine ⟨hI, ih (l.setIfInBounds j true) a' w' (hc.step hj) (by rw [Array.size_setIfInBounds]; exact hz) (fun q oq hq hqi hun hn => hfree q oq hq hqi ?_ hn) (ready_mono hr (Ne.symm hne)) q1 hI q3⟩
      rcases Decidable.em (j = q) with rfl | hjq
      · exact hju
      · rwa [getD_set_ne true hjq] at hun
/-- A read that store k waits for. -/
theorem wpR_take {i : Nat} {oi : Oper} {v : Value} {n : Nat} {l : Array Bool} {a : Act} {w : World} (hi : ops[i]? = some oi)
    (hs : Region.noSelect ops = true) (hw : (waits md ops k i && closedB md ops l && (l.size == ops.size) && (i != k)) = true) (hf : Region.free md ops l i = true) (hr : (Region.ready md ops l).contains i = true)
    (hQ : ∀ c a w, Q (.panic c) (a.put oi.dst v) w → Q (.panic c) a w) (hy : YieldsIf P ops S oi v a) (hS : S w ∧ S7 w)
    (h : wpR P md ops Q k S S7 n (l.setIfInBounds i true) (a.put oi.dst v) w) : wpR P md ops Q k S S7 (n + 1) l a w := by
  simp only [Bool.and_eq_true, beq_iff_eq, bne_iff_ne, ne_eq] at hw
  obtain ⟨⟨⟨w1, w2⟩, w3⟩, w4⟩ := hw
  exact wpR_first hi hs w4 (fun l' w' hc hz hu hI => hI.1 (not_yet hc hz w1 hu)) hQ n l a w (closed_of w2) w3 (Region.free_spec hi hf) (by simpa using hr) hy ⟨fun _ => hS.1, hS.2⟩ h
/-- A read that nothing disturbs. -/
theorem wpR_take7 {i : Nat} {oi : Oper} {v : Value} {n : Nat} {l : Array Bool} {a : Act} {w : World} (hi : ops[i]? = some oi)
    (hs : Region.noSelect ops = true) (hw : (closedB md ops l && (l.size == ops.size) && (i != k)) = true) (hf : Region.free md ops l i = true) (hr : (Region.ready md ops l).contains i = true)
    (hQ : ∀ c a w, Q (.panic c) (a.put oi.dst v) w → Q (.panic c) a w) (hy : YieldsIf P ops S7 oi v a) (hS : S w ∧ S7 w)
    (h : wpR P md ops Q k S S7 n (l.setIfInBounds i true) (a.put oi.dst v) w) : wpR P md ops Q k S S7 (n + 1) l a w := by
  simp only [Bool.and_eq_true, beq_iff_eq, bne_iff_ne, ne_eq] at hw
  obtain ⟨⟨w2, w3⟩, w4⟩ := hw
  exact wpR_first hi hs w4 (fun l' w' hc hz hu hI => hI.2) hQ n l a w (closed_of w2) w3 (Region.free_spec hi hf) (by simpa using hr) hy ⟨fun _ => hS.1, hS.2⟩ h
theorem wpR_op {i : Nat} {o : Oper} {n : Nat} {l : Array Bool} {a : Act} {w : World} (hr : Region.ready md ops l = [i]) (ho : ops[i]? = some o) (hg : o.guard = none)
    (h : ∀ K : Act → World → Prop, (∀ a' w', S w' ∧ S7 w' → wpR P md ops Q k S S7 n (l.setIfInBounds i true) a' w' → K a' w') → Oper.wp P o a w K Q) : wpR P md ops Q k S S7 (n + 1) l a w := by
  refine ⟨fun h0 => absurd h0 (by rw [hr]; simp), fun j hj => ?_⟩
  rw [hr] at hj
  obtain rfl := List.mem_singleton.1 hj
  unfold wpOp
  simp only [ho]
  have hw : Region.wanted o (yielded ops a.tmps) = true := by simp [Region.wanted, hg]
  rw [if_pos hw]
  exact Or.inl (h _ fun a' w' h1 h2 => ⟨⟨fun _ => h1.1, h1.2⟩, h2⟩)
/-- Store k, or one behind it. -/
theorem wpR_late {i : Nat} {o : Oper} {n : Nat} {l : Array Bool} {a : Act} {w : World} (hr : Region.ready md ops l = [i]) (ho : ops[i]? = some o) (hg : o.guard = none) (hl : (l.setIfInBounds i true).getD k false = true)
    (h : ∀ K : Act → World → Prop, (∀ a' w', S7 w' → wpR P md ops Q k S S7 n (l.setIfInBounds i true) a' w' → K a' w') → Oper.wp P o a w K Q) : wpR P md ops Q k S S7 (n + 1) l a w := by
  refine ⟨fun h0 => absurd h0 (by rw [hr]; simp), fun j hj => ?_⟩
  rw [hr] at hj
  obtain rfl := List.mem_singleton.1 hj
  unfold wpOp
  simp only [ho]
  have hw : Region.wanted o (yielded ops a.tmps) = true := by simp [Region.wanted, hg]
  rw [if_pos hw]
  exact Or.inl (h _ fun a' w' h1 h2 => ⟨⟨fun h0 => (by rw [hl] at h0; cases h0), h1⟩, h2⟩)
theorem wpR_done {n : Nat} {l : Array Bool} {a : Act} {w : World} (hr : Region.ready md ops l = []) (h : Q .normal a w) : wpR P md ops Q k S S7 n l a w := by
  cases n with
  | zero => exact ⟨hr, h⟩
  | succ n => exact ⟨fun _ => h, by rw [hr]; simp⟩
theorem region_reads {id : Nat} {a : Act} {w : World} (k : Nat) (S S7 : World → Prop) (n : Nat) (hn : ops.size = n) (hm : P.follows .mixedOrders = true)
    (h : wpR P .any ops Q k S S7 n (Array.replicate n false) a w.drew) : (Code.region id ops true).wp P Q a w := by
  subst hn
  exact wp_region_any hm (wpR_any _ _ _ _ h)
end
end Go.Proofs.YtndhinoomlofgaaGreatDoor

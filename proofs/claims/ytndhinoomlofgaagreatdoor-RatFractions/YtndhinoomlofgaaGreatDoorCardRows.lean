/- A list of texts that is handed in, opened: what it holds, and how long it can be. -/
import Derived.Test.YtndhinoomlofgaaGreatDoorRowB
import Derived.Laws.AppendOwnNone
import Derived.OwnWalk
import Derived.Sort.OwnSorted
import Derived.WalkSmall
import Derived.BigQuiet
import Derived.Deep.Cut
import Derived.Lib.SmallJoins
import Derived.SizedLaws
import Derived.SliceStrings
import Derived.Carry
namespace Go.Proofs.YtndhinoomlofgaaGreatDoor
open Go.RowKit

theorem info9 : (Tryz.prog.info? 9).map (fun i => (i.zero, i.size, i.bytes)) = some (some (.string ⟨#[]⟩), 1, 16) := by kernel_rfl
theorem under50 : Tryz.prog.underlying 50 = some (.slice 9) := by kernel_rfl
/-- The call owns a row whose block holds no integer. -/
def OwnT (w : World) (base : Nat) (v : Value) (xs : List Value) : Prop :=
  (v = .slice none 0 0 ∧ xs = []) ∨ ∃ g cap cur, v = .slice (some ⟨g, 0, none⟩) xs.length cap ∧ base ≤ g ∧ w.heap[g]? = some (.cells cur 9 (0, 0)) ∧ xs.length ≤ cap ∧ cap ≤ maxLen ∧ cur.size = cap ∧ cur.toList.take xs.length = xs ∧ ∀ u ∈ cur.toList, NoInt u
theorem OwnT.nil (w : World) (base : Nat) : OwnT w base (.slice none 0 0) [] := Or.inl ⟨rfl, rfl⟩
theorem OwnT.row {w : World} {base : Nat} {v : Value} {xs : List Value} (h : OwnT w base v xs) : w.ownsRow base 9 1 v xs.length xs := by
  rcases h with ⟨rfl, rfl⟩ | ⟨g, cap, cur, rfl, h1, h2, h3, h4, h5, h6, _⟩
  · exact World.ownsRow_nil _ _ _ _
  · exact ⟨by rw [Nat.mul_one], Or.inr ⟨g, cap, cur, rfl, h1, h2, h3, h4, by rw [Nat.mul_one]; exact h5, by rw [Nat.mul_one]; exact h6⟩⟩
theorem OwnT.later {w w' : World} {base : Nat} {v : Value} {xs : List Value} (h : OwnT w base v xs) (hb : Below w.heap.size w w') : OwnT w' base v xs := by
  rcases h with h | ⟨g, cap, cur, h0, h1, h2, r⟩
  · exact Or.inl h
  · exact Or.inr ⟨g, cap, cur, h0, h1, (hb.block g (Array.getElem?_eq_some_iff.1 h2).1).trans h2, r⟩
theorem OwnT.lt {w : World} {base : Nat} {v : Value} {xs : List Value} (h : OwnT w base v xs) : ∀ k, v.ownBlock = some k → base ≤ k ∧ k < w.heap.size := h.row.lt
/-- A store into a block that is not the row's leaves it. -/
theorem OwnT.other {w : World} {base : Nat} {v : Value} {xs : List Value} (h : OwnT w base v xs) (p : Addr) (u : Value) (hp : p.block < base) : OwnT (w.setCell p u) base v xs := by
  rcases h with h | ⟨g, cap, cur, h0, h1, h2, r⟩
  · exact Or.inl h
  · refine Or.inr ⟨g, cap, cur, h0, h1, ?_, r⟩
    rw [← h2]
    exact heap_setCell_other _ _ _ _ (by omega)
theorem OwnT.cells {w : World} {base : Nat} {v : Value} {xs : List Value} (h : OwnT w base v xs) (i : Nat) (hi : i < xs.length) : ∃ g cap, v = .slice (some ⟨g, 0, none⟩) xs.length cap ∧ xs.length ≤ cap ∧ cap ≤ maxLen ∧ w.cell? ⟨g, i, none⟩ = some xs[i] := by
  rcases h with ⟨rfl, rfl⟩ | ⟨g, cap, cur, h0, h1, h2, h3, h4, h5, h6, h7⟩
  · exact absurd hi (by simp)
  · subst h0
    refine ⟨g, cap, rfl, h3, h4, ?_⟩
    have hr : w.ownsRow base 9 1 (.slice (some ⟨g, 0, none⟩) xs.length cap) xs.length xs := OwnT.row (Or.inr ⟨g, cap, cur, rfl, h1, h2, h3, h4, h5, h6, h7⟩)
    have := hr.cells (g := g) rfl i xs[i] (List.getElem?_eq_getElem hi)
    simpa [Addr.add_lit] using this
/-- A number's limbs lie elsewhere. -/
theorem IsBig.apartT {w w' : World} {v : Value} {n : Nat} {row : Option Nat} (h : IsBig w v n) (hg : w.grownBy w' row) (hr : ∀ g, row = some g → ∃ cur, w.heap[g]? = some (.cells cur 9 (0, 0)) ∧ ∀ u ∈ cur.toList, NoInt u) : IsBig w' v n := by
  obtain ⟨s, l, rfl, ⟨a, cap, rfl, hc, hm, hrow⟩, hn, hv⟩ := h
  refine ⟨_, l, rfl, ⟨a, cap, rfl, hc, hm, fun hne => ?_⟩, hn, hv⟩
  obtain ⟨b, o, rfl, hlt, hcell⟩ := hrow hne
  have hl0 : 0 < l.length := List.length_pos_iff.2 hne
  have hb : some b ≠ row := by
    intro e
    obtain ⟨cur, hcur, hno⟩ := hr b e.symm
    have h0 := hcell 0 hl0
    rw [World.cell?] at h0
    simp only [hcur] at h0
    have h1 : cur[o]? = some (.int .u64 (l[0] : Int)) := by simpa using h0
    exact hno _ (Array.mem_toList_iff.2 (Array.mem_of_getElem? h1)) _ _ rfl
  obtain ⟨_, _, _, h4, h5⟩ := hg
  refine ⟨b, o, rfl, by omega, fun i hi => ?_⟩
  rw [← hcell i hi]
  exact World.cell?_of_block (a := ⟨b, o + i, none⟩) (h5 b hlt hb)

theorem zero_noT (n : Nat) : ∀ u ∈ (Builtin.zeroCells (Value.string ⟨#[]⟩).cells n).toList, NoInt u := by
  intro u hu k m e
  subst e
  simp [Builtin.zeroCells, Value.cells, Nat.mod_one] at hu
theorem run_appendT {w : World} (base : Nat) (i : TypeInfo) (hi : Tryz.prog.info? 9 = some i) (hz : i.zero = some (.string ⟨#[]⟩)) (hs : i.size = 1) (hby : i.bytes = 16) (ty : TypeId)
    (v : Value) (xs : List Value) (hown : OwnT w base v xs) (ad : Addr) (c : Nat) (x : Value) (hx : w.cell? ad = some x) (h1 : x.oneCell' = true) (hno : NoInt x) (hl : xs.length ≤ 1000000) (hbase : base ≤ w.heap.size) (had : ad.add 0 = ad) :
    ∃ v' w', (Builtin.append_ #[50, 50] ty #[v, .slice (some ad) 1 c]).run Tryz.prog w = .ok v' w' ∧ OwnT w' base v' (xs ++ [x]) ∧ w.grownBy w' v.ownBlock := by
  have hnews : ∀ j u, [x][j]? = some u → w.cell? (ad.add j) = some u := fun j u hu => by
    cases j with
    | zero => simp at hu; subst hu; rw [had]; exact hx
    | succ j => simp at hu
  have hone : ∀ u ∈ [x], u.oneCell' = true := fun u hu => by rw [List.mem_singleton.1 hu]; exact h1
  have hln : [x].length = 1 * i.size := by rw [hs]; rfl
  have mk : ∀ old, ∃ cap, grownCap w (xs.length + 1) old 9 = cap ∧ xs.length + 1 ≤ cap ∧ cap ≤ maxLen := fun old =>
    ⟨_, rfl, grownCap_ge _ _ _ _, grownCap_le_maxLen _ _ _ _ (by simp only [maxLen]; omega)⟩
  have fin : ∀ cap, xs.length + 1 ≤ cap → cap ≤ maxLen → OwnT (w.drew.alloc (.cells (xs.toArray ++ [x].toArray ++ Builtin.zeroCells (Value.string ⟨#[]⟩).cells (cap - (xs.length + 1))) 9)) base (.slice (some ⟨w.heap.size, 0, none⟩) (xs.length + 1) cap) (xs ++ [x]) ∨ ¬ ∀ u ∈ xs, NoInt u := fun cap h2 h3 => by
    by_cases hxs : ∀ u ∈ xs, NoInt u
    · refine Or.inl (Or.inr ⟨w.heap.size, cap, _, by simp, hbase, heap_alloc_new w.drew _, by simpa using h2, h3, ?_, ?_, ?_⟩)
      · simp only [Array.size_append, List.size_toArray, size_zeroCells, List.length_singleton]
        have : (Value.string ⟨#[]⟩).cells.size = 1 := rfl
        rw [this]; omega
      · simp only [Array.toList_append, List.length_append, List.length_singleton]
        rw [← List.length_singleton (a := x), ← List.length_append]
        exact List.take_left
      · intro u hu
        simp only [Array.toList_append, List.mem_append] at hu
        rcases hu with (hu | hu) | hu
        · exact hxs u hu
        · rw [List.mem_singleton.1 hu]; exact hno
        · exact zero_noT _ u hu
    · exact Or.inr hxs
  have hgr : ∀ (o : Obj) (row : Option Nat), w.grownBy (w.drew.alloc o) row := fun o row => ⟨rfl, rfl, rfl, by simp, fun k hk _ => heap_alloc_old w.drew o hk⟩
  rcases hown with ⟨rfl, rfl⟩ | ⟨g, cap, cur, rfl, hbg, hg, hnc, hcm, hcs, htake, hni⟩
  · have hr := run_append_nil (P := Tryz.prog) w 50 ty 9 i _ under50 hi hz ad 1 c [x] hln hnews (by decide) (by decide) (by rw [hby]; decide)
    obtain ⟨cp, e, c1, c2⟩ := mk 0
    simp only [List.length_nil, Nat.zero_add] at e
    rw [e] at hr
    rcases fin cp c1 c2 with hf | hf
    · exact ⟨_, _, hr, by simpa using hf, hgr _ _⟩
    · exact absurd (fun u hu => by cases hu) hf
  · have hxs : ∀ u ∈ xs, NoInt u := fun u hu => hni u (List.mem_of_mem_take (by rw [htake]; exact hu))
    by_cases hroom : xs.length + 1 ≤ cap
    · have hfit : xs.length * i.size + [x].length ≤ cur.size := by rw [hs, hcs]; simpa using hroom
      have hr := run_append_room (P := Tryz.prog) w 50 ty 9 i under50 hi g xs.length cap cur hg ad 1 c [x] hln hnews hone hroom hfit
      rw [hs, Nat.mul_one] at hr
      refine ⟨_, _, hr, Or.inr ⟨g, cap, _, by simp, hbg, setRow_heap w g cur _ 9 _ hg, by simpa using hroom, hcm, ?_, ?_, ?_⟩, ⟨rfl, rfl, rfl, by simp, fun k _ hk => setRow_other w g k _ (fun e => hk (by simp [Value.ownBlock, e]))⟩⟩
      · simp only [List.size_toArray, List.length_append, List.length_take, List.length_drop, Array.length_toList, List.length_singleton]
        omega
      · rw [htake, List.length_append]
        show List.take (xs.length + [x].length) (xs ++ [x] ++ List.drop (xs.length + [x].length) cur.toList) = xs ++ [x]
        rw [← List.length_append]
        exact List.take_left
      · intro u hu
        simp only [List.mem_append] at hu
        rcases hu with (hu | hu) | hu
        · rw [htake] at hu; exact hxs u hu
        · rw [List.mem_singleton.1 hu]; exact hno
        · exact hni u (List.mem_of_mem_drop hu)
    · have hown' : w.ownsRow base 9 1 (.slice (some ⟨g, 0, none⟩) xs.length cap) xs.length xs := OwnT.row (Or.inr ⟨g, cap, cur, rfl, hbg, hg, hnc, hcm, hcs, htake, hni⟩)
      have holds : ∀ j u, xs[j]? = some u → w.cell? ((⟨g, 0, none⟩ : Addr).add j) = some u := hown'.cells (g := g) rfl
      have hr := run_append_grow (P := Tryz.prog) w 50 ty 9 i _ under50 hi hz ⟨g, 0, none⟩ xs.length cap xs (by rw [hs, Nat.mul_one]) holds ad 1 c [x] hln hnews (by omega) (by omega) (growslice_fits (by omega) (by rw [hby]; omega))
      obtain ⟨cp, e, c1, c2⟩ := mk cap
      rw [e] at hr
      rcases fin cp c1 c2 with hf | hf
      · exact ⟨_, _, hr, hf, hgr _ _⟩
      · exact absurd hxs hf
/-- What an append leaves. -/
structure AppT (w w' : World) (base : Nat) (v v' : Value) (xs : List Value) (x : Value) : Prop where
  own : OwnT w' base v' (xs ++ [x])
  grown : w.grownBy w' v.ownBlock
  big : ∀ y n, IsBig w y n → IsBig w' y n
theorem AppT.of {w w' : World} {base : Nat} {v v' : Value} {xs : List Value} {x : Value} (h : OwnT w base v xs) (h1 : OwnT w' base v' (xs ++ [x])) (h2 : w.grownBy w' v.ownBlock) : AppT w w' base v v' xs x := by
  refine ⟨h1, h2, fun y n hy => hy.apartT h2 fun g hg => ?_⟩
  rcases h with ⟨rfl, rfl⟩ | ⟨g', cap, cur, rfl, _, h3, _, _, _, _, h4⟩
  · cases hg
  · simp only [Value.ownBlock, Option.some.injEq] at hg
    subst hg
    exact ⟨cur, h3, h4⟩
theorem AppT.box {w w' : World} {base : Nat} {v v' : Value} {xs : List Value} {x : Value} (h : AppT w w' base v v' xs x) {k : Nat} (hk : k < w.heap.size) (hne : some k ≠ v.ownBlock) (o : Nat) : w'.cell? ⟨k, o, none⟩ = w.cell? ⟨k, o, none⟩ ∧ w'.frozen? ⟨k, o, none⟩ = w.frozen? ⟨k, o, none⟩ := by
  obtain ⟨_, _, _, _, h5⟩ := h.grown
  exact ⟨World.cell?_of_block (a := ⟨k, o, none⟩) (h5 k hk hne), World.frozen?_of_block (a := ⟨k, o, none⟩) (h5 k hk hne)⟩
theorem AppT.below {w0 w w' : World} {base : Nat} {v v' : Value} {xs : List Value} {x : Value} (h : AppT w w' base v v' xs x) (ho : OwnT w base v xs) {B : Nat} (hb : Below B w0 w) (hB : B ≤ base) (hs : B ≤ w.heap.size) : Below B w0 w' :=
  hb.grown h.grown hs (fun k hk => Nat.le_trans hB (ho.lt k hk).1)
theorem wpList_appendT {ops : Array Oper} {rest : List Oper} {o : Oper} {a : Act} {Q : Exit → Act → World → Prop} {w : World} (hgd : o.guard = none) (s y : Operand)
    (ho : o.op = .call { callee := .builtin .append, args := #[s, y], argTypes := #[50, 50] }) (base : Nat)
    (v : Value) (xs : List Value) (hv : a.eval s = v) (hown : OwnT w base v xs) (ad : Addr) (c : Nat) (x : Value) (hy : a.eval y = .slice (some ad) 1 c) (hx : w.cell? ad = some x) (h1 : x.oneCell' = true) (hno : NoInt x) (hl : xs.length ≤ 1000000) (hbase : base ≤ w.heap.size) (had : ad.add 0 = ad)
    (h : ∀ v' w', AppT w w' base v v' xs x → wpList Tryz.prog ops Q rest (a.put o.dst v') w') : wpList Tryz.prog ops Q (o :: rest) a w := by
  obtain ⟨i, hi, hz, hs, hby⟩ := info_parts info9
  obtain ⟨v', w', hr, h2, h3⟩ := run_appendT (w := w) base i hi hz hs hby o.type v xs hown ad c x hx h1 hno hl hbase had
  refine wpList_plain hgd fun _ hK => ?_
  unfold Oper.wp execOp
  simp only [ho, resolve, invoke, builtin, Sem.run_bind, Sem.run_pure, Result.andThen_ok, List.map_toArray, List.map_cons, List.map_nil, hv, hy, hr]
  exact hK _ _ (h v' w' (AppT.of hown h2 h3))
end Go.Proofs.YtndhinoomlofgaaGreatDoor

namespace Go.Proofs.YtndhinoomlofgaaGreatDoor
open Go.RowKit

def strsV (ss : List ByteArray) : List Value := ss.map Value.string
theorem strsV_length (ss : List ByteArray) : (strsV ss).length = ss.length := by simp [strsV]
theorem strsV_get (ss : List ByteArray) (i : Nat) (h : i < ss.length) : (strsV ss)[i]? = some (.string ss[i]) := by simp [strsV, h]
theorem strsV_one (ss : List ByteArray) : ∀ u ∈ strsV ss, u.oneCell' = true := by
  intro u hu
  unfold strsV at hu
  obtain ⟨s, _, rfl⟩ := List.mem_map.1 hu
  rfl
/-- The call owns a row of these texts. -/
def OwnS (w : World) (base : Nat) (v : Value) (l : List ByteArray) : Prop := w.ownsRow base 9 1 v l.length (strsV l)
/-- A slice value holds these texts, at whatever place of its block. -/
def RowS (w : World) (v : Value) (l : List ByteArray) : Prop :=
  ∃ a cap, v = .slice a l.length cap ∧ l.length ≤ cap ∧ cap ≤ 9223372036854775807 ∧ (a = none → cap = 0) ∧ ∀ i (h : i < l.length), ∃ b o, a = some ⟨b, o, none⟩ ∧ b < w.heap.size ∧ w.cell? ⟨b, o + i, none⟩ = some (.string l[i])
theorem RowS.later {w w' : World} {v : Value} {l : List ByteArray} (h : RowS w v l) (hb : Below w.heap.size w w') : RowS w' v l := by
  obtain ⟨a, cap, rfl, hc, hm, hn, hr⟩ := h
  refine ⟨a, cap, rfl, hc, hm, hn, fun i hi => ?_⟩
  obtain ⟨b, o, rfl, hlt, hcell⟩ := hr i hi
  have := hb.size
  exact ⟨b, o, rfl, by omega, (hb.cell (p := ⟨b, o + i, none⟩) hlt).trans hcell⟩
theorem RowS.of_own {w : World} {base : Nat} {v : Value} {l : List ByteArray} (h : OwnS w base v l) : RowS w v l := by
  have h' : w.ownsRow base 9 1 v l.length (strsV l) := h
  rcases Joins.ownsRow_forms h' with ⟨rfl, h0⟩ | ⟨g, cap, rfl⟩
  · exact ⟨none, 0, by rw [h0], by omega, by omega, fun _ => rfl, fun i hi => by omega⟩
  · obtain ⟨hx, h2⟩ := id h'
    rcases h2 with ⟨e, _⟩ | ⟨g', cap', cur, e, hb, hg, hcap, hmax, hsz, htk⟩
    · cases e
    · simp only [Value.slice.injEq, Option.some.injEq, Addr.mk.injEq] at e
      obtain ⟨⟨rfl, _⟩, _, rfl⟩ := e
      refine ⟨some ⟨g, 0, none⟩, cap, rfl, hcap, hmax, fun e => (by cases e), fun i hi => ⟨g, 0, rfl, (Array.getElem?_eq_some_iff.1 hg).1, ?_⟩⟩
      rw [Nat.zero_add, h'.cellAt i (by omega), strsV_get l i hi]
theorem OwnS.later {w w' : World} {base : Nat} {v : Value} {l : List ByteArray} (h : OwnS w base v l) (hb : Below w.heap.size w w') : OwnS w' base v l := by
  obtain ⟨hx, h2⟩ := h
  refine ⟨hx, ?_⟩
  rcases h2 with h2 | ⟨g, cap, cur, e, hbs, hg, r⟩
  · exact Or.inl h2
  · exact Or.inr ⟨g, cap, cur, e, hbs, (hb.block g (Array.getElem?_eq_some_iff.1 hg).1).trans hg, r⟩
theorem OwnS.mono {w : World} {base base' : Nat} {v : Value} {l : List ByteArray} (h : OwnS w base v l) (hb : base' ≤ base) : OwnS w base' v l := Joins.ownsRow_le h hb
theorem RowS.take {w : World} {a : Option Addr} {n cap : Nat} {l : List ByteArray} (h : RowS w (.slice a n cap) l) (k : Nat) (hk : k ≤ n) : RowS w (.slice a k cap) (l.take k) := by
  obtain ⟨a', cap', e, hc, hm, hn, hr⟩ := h
  simp only [Value.slice.injEq] at e
  obtain ⟨rfl, rfl, rfl⟩ := e
  have hl : (l.take k).length = k := by rw [List.length_take]; omega
  refine ⟨a, cap, by rw [hl], by omega, hm, hn, fun i hi => ?_⟩
  rw [List.getElem_take]
  exact hr i (by omega)
theorem RowS.drop {w : World} {b n cap : Nat} {l : List ByteArray} (h : RowS w (.slice (some ⟨b, 0, none⟩) n cap) l) (k : Nat) (hk : k ≤ n) : RowS w (.slice (some ⟨b, k, none⟩) (n - k) (cap - k)) (l.drop k) := by
  obtain ⟨a', cap', e, hc, hm, hn, hr⟩ := h
  simp only [Value.slice.injEq] at e
  obtain ⟨rfl, rfl, rfl⟩ := e
  have hl : (l.drop k).length = l.length - k := List.length_drop ..
  refine ⟨_, _, by rw [hl], by rw [hl]; omega, by omega, fun e => by (cases e), fun i hi => ?_⟩
  rw [List.getElem_drop]
  obtain ⟨b', o, e, hlt, hcell⟩ := hr (k + i) (by rw [hl] at hi; omega)
  simp only [Option.some.injEq, Addr.mk.injEq] at e
  obtain ⟨rfl, rfl, _⟩ := e
  rw [Nat.zero_add] at hcell
  exact ⟨b, k, rfl, hlt, hcell⟩
/-- What an append takes of it. -/
theorem RowS.news {w : World} {ad : Addr} {n cap : Nat} {l : List ByteArray} (h : RowS w (.slice (some ad) n cap) l) : n = l.length ∧ ∀ j u, (strsV l)[j]? = some u → w.cell? (ad.add j) = some u := by
  obtain ⟨a', cap', e, hc, hm, hn, hr⟩ := h
  simp only [Value.slice.injEq] at e
  obtain ⟨rfl, rfl, rfl⟩ := e
  refine ⟨rfl, fun j u hu => ?_⟩
  unfold strsV at hu
  rw [List.getElem?_map, Option.map_eq_some_iff] at hu
  obtain ⟨s, hs, rfl⟩ := hu
  obtain ⟨hj, rfl⟩ := List.getElem?_eq_some_iff.1 hs
  obtain ⟨b, o, e, _, hcell⟩ := hr j hj
  cases e
  simp only [Addr.add]
  split
  · rename_i hj0; subst hj0; exact hcell
  · exact hcell

set_option maxRecDepth 100000 in
set_option maxHeartbeats 400000 in
/-- The law's own texts: are two lists the same? -/
theorem texts_any (va vb : Value) (x y : List ByteArray) (w : World) (hx : RowS w va x) (hy : RowS w vb y) :
    Calls Tryz.prog 61 #[va, vb] w fun e w' => e = .returned (.bool (decide (x = y))) ∧ Below w.heap.size w w' := by
  obtain ⟨ax, cx, rfl, hcx, hmx, hnx, hrx⟩ := hx
  obtain ⟨ay, cy, rfl, hcy, hmy, hny, hry⟩ := hy
  by_cases hlen : x.length = y.length
  · have HRX := hide hrx
    have HRY := hide hry
    have HL := hide hlen
    obtain ⟨n, hn⟩ : ∃ n, n = x.length := ⟨_, rfl⟩
    rw [← hlen] at hcy ⊢
    rw [← hn] at hcx hcy ⊢
    have HN := hide hn
    have e0 : ((n : Int) != (n : Int)) = false := by simp
    clear hrx hry hlen hn
    go_enter Tryz.func61, Tryz.ntmps61
    go_wp2
    go_loopw [13] (fun t wr => ∃ k : Nat, k ≤ n ∧ t = .int .i64 (k : Int) ∧ Hid (x.take k = y.take k) ∧ Hid (Below w.heap.size w wr)) (fun t _ => n - (intOf t).toNat)
    case atStart => exact ⟨0, Nat.zero_le _, rfl, rfl, Below.refl _ _⟩
    case round =>
      obtain ⟨k, hk, rfl, HT, HW⟩ := hrel
      by_cases hkn : k < n
      · have hkx : k < x.length := by have := unhide HN; omega
        have hky : k < y.length := by have := unhide HL; omega
        obtain ⟨bx, ox, rfl, hbx, hcellx⟩ := unhide HRX k hkx
        obtain ⟨by', oy, rfl, hby, hcelly⟩ := unhide HRY k hky
        obtain ⟨xv, hxv⟩ : ∃ xv, xv = x[k] := ⟨_, rfl⟩
        obtain ⟨yv, hyv⟩ : ∃ yv, yv = y[k] := ⟨_, rfl⟩
        have c1 : wr.cell? ⟨bx, ox + k, none⟩ = some (.string xv) := by rw [(unhide HW).cell (p := ⟨bx, ox + k, none⟩) hbx, hcellx, hxv]
        have c2 : wr.cell? ⟨by', oy + k, none⟩ = some (.string yv) := by rw [(unhide HW).cell (p := ⟨by', oy + k, none⟩) hby, hcelly, hyv]
        have hkI : (k : Int) < (n : Int) := by omega
        by_cases he : xv = yv
        · have HT2 : Hid (x.take (k + 1) = y.take (k + 1)) := by
            show _ = _
            rw [List.take_succ_eq_append_getElem hkx, List.take_succ_eq_append_getElem hky, unhide HT, ← hxv, ← hyv, he]
          subst he
          clear hcellx hcelly hxv hyv hkx hky HT
          go_upto_region 6 with fail
          go_quiet (fail)
          go_wp2_with fail
          go_roundw
          case rel => exact ⟨k + 1, by omega, by go_num, HT2, below_drewN (unhide HW) _⟩
          case measure => simp [intOf]; omega
        · have HV : Hid (decide (x = y) = false) := by
            show _ = _
            rw [decide_eq_false_iff_not]
            intro e
            subst e
            exact he (hxv.trans hyv.symm)
          have e2 : (xv.toList == yv.toList) = false := by
            rw [beq_eq_false_iff_ne, Lib.toList_data, Lib.toList_data]
            intro e
            exact he (ByteArray.ext (Array.toList_inj.1 e))
          clear hcellx hcelly hxv hyv hkx hky HT he
          go_upto_region 6 with fail
          go_quiet (fail)
          go_wp2_with fail
          go_ret
          exact ⟨by rw [unhide HV]; rfl, below_drewN (unhide HW) _⟩
      · have HV : Hid (decide (x = y) = true) := by
          show _ = _
          rw [decide_eq_true_iff]
          have := unhide HT
          rw [List.take_of_length_le (by have := unhide HN; omega), List.take_of_length_le (by have := unhide HN; have := unhide HL; omega)] at this
          exact this
        go_wp2_with fail
        go_ret
        exact ⟨by rw [unhide HV]; rfl, unhide HW⟩
  · have HV : Hid (decide (x = y) = false) := by
      show _ = _
      rw [decide_eq_false_iff_not]
      intro e
      exact hlen (by rw [e])
    have e : ((x.length : Int) != (y.length : Int)) = true := by rw [bne_iff_ne]; omega
    rw [unhide HV]
    clear hlen HV hrx hry
    generalize x.length = nx at *
    generalize y.length = ny at *
    go_enter Tryz.func61, Tryz.ntmps61
    go_wp2
    go_ret
    exact ⟨rfl, Below.refl _ _⟩
end Go.Proofs.YtndhinoomlofgaaGreatDoor

namespace Go.Proofs.YtndhinoomlofgaaGreatDoor
open Go.ChangeShapes Go.WideShapes Go.ChangeAt Go.RowKit

theorem cellsOf9 : Tryz.prog.cellsOf 9 = 1 := by kernel_rfl
theorem bytesOf9 : Tryz.prog.bytesOf 9 = 16 := by kernel_rfl
set_option maxRecDepth 100000 in
theorem open_row {H : Type} {enc : TypeId × Value → H} {W : World} {base : Nat} {v : Value} {d : DataW H} {p : List MemPlace} (hval : Value.okWide Tryz.prog W .any base 50 v)
    (h : DataW.Trod enc Tryz.prog W 0 (fun _ => true) true 50 v d p) : ∃ ss, RowS W v ss ∧ True ∧ ∀ s ∈ ss, s.size ≤ maxLen := by
  obtain ⟨a0, len, cap, rfl⟩ := okWide_slice under50 hval
  obtain ⟨fuel, hf⟩ := h
  rcases open_strings under50 Tryz.underlying9 cellsOf9 hf with ⟨hcs, hx⟩ | ⟨a, len', cap', ss, hcs, _, hl, hm, hz, hx, hcell, hws⟩
  · simp [Value.cells] at hcs
    obtain ⟨rfl, rfl, rfl⟩ := hcs
    exact ⟨[], ⟨none, 0, rfl, by simp, by omega, fun _ => rfl, fun i hi => absurd hi (Nat.not_lt_zero _)⟩, trivial, fun s hs => by cases hs⟩
  · simp [Value.cells] at hcs
    obtain ⟨rfl, rfl, rfl⟩ := hcs
    simp only [Prod.mk.injEq] at hx
    obtain ⟨rfl, rfl⟩ := hx
    simp only [if_true] at hz
    have hlen : (ss.take len).length = len := by rw [List.length_take]; omega
    refine ⟨ss.take len, ⟨some a, cap, by rw [hlen], by omega, hm, fun e => (by cases e), fun i hi => ?_⟩, trivial, fun s hs => hws s (List.mem_of_mem_take hs)⟩
    have h1 := hcell i (by omega)
    have hsp := World.cell?_spot (hcell 0 (by omega))
    obtain ⟨b, off, spot⟩ := a
    have hspot : spot = none := by simpa [Addr.add] using hsp
    subst hspot
    rw [add_plain] at h1
    refine ⟨b, off, rfl, World.block_lt_of_cell? _ _ h1, ?_⟩
    rw [List.getElem_take, h1]
    simp [List.getD_eq_getElem?_getD, show i < ss.length by omega]
theorem row_len {H : Type} {enc : TypeId × Value → H} {W : World} {v : Value} {d : DataW H} {p : List MemPlace} {ss : List ByteArray} (hr : RowS W v ss) (h : DataW.Trod enc Tryz.prog W 0 (fun _ => true) true 50 v d p)
    {ts : List TypeId} {ds : List (DataW H)} {j : Nat} (hz : (DataW.weightsEach Tryz.prog ts ds).all (· ≤ reachBytes) = true) (ht : ts[j]? = some 50) (hd : ds[j]? = some d) : ss.length ≤ 8796093022208 := by
  obtain ⟨a0, cap, rfl, hc, hm, hn, _⟩ := hr
  obtain ⟨fuel, hf⟩ := h
  rcases open_strings under50 Tryz.underlying9 cellsOf9 hf with ⟨hcs, hx⟩ | ⟨a, len', cap', xs, hcs, _, hl, hm', hz', hx, hcell, hws⟩
  · simp [Value.cells] at hcs
    have : ss.length = 0 := by rw [hcs.2.1]; rfl
    omega
  · simp [Value.cells] at hcs
    obtain ⟨rfl, rfl, rfl⟩ := hcs
    simp only [Prod.mk.injEq] at hx
    obtain ⟨rfl, rfl⟩ := hx
    simp only [if_true] at hz'
    have := sized_slice hz ht hd under50
    rw [bytesOf9] at this
    simp only [strs, List.length_map, List.length_take, List.length_drop, reachBytes] at this
    omega
end Go.Proofs.YtndhinoomlofgaaGreatDoor

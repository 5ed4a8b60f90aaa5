/- What Mul of two, Quo, Pow and Root answer where nothing leaves its bounds. -/
import Derived.Test.YtccnbnfafhpeaaaDoorMul
import Derived.Test.YtccnbnfafhpeaaaDoorKinds
namespace Go.Proofs.YtccnbnfafhpeaaaDoor
open Go.RowKit

/-- Each is from -k to k. -/
def Sm (k : Int) (l : List Int) : Prop := ∀ x ∈ l, -k ≤ x ∧ x ≤ k
theorem Sm.right {k : Int} {l : List Int} (h : Sm k l) (hk : k ≤ 99) : rightB l = true := rightB_true fun j x hx => by
  have := h x (List.mem_of_getElem? hx)
  exact okB_yes (by omega) (by omega)
theorem Sm.mk8 {k : Int} {x0 x1 x2 x3 x4 x5 x6 x7 : Int} (h : (-k ≤ x0 ∧ x0 ≤ k) ∧ (-k ≤ x1 ∧ x1 ≤ k) ∧ (-k ≤ x2 ∧ x2 ≤ k) ∧ (-k ≤ x3 ∧ x3 ≤ k) ∧ (-k ≤ x4 ∧ x4 ≤ k) ∧ (-k ≤ x5 ∧ x5 ≤ k) ∧ (-k ≤ x6 ∧ x6 ≤ k) ∧ (-k ≤ x7 ∧ x7 ≤ k)) : Sm k [x0, x1, x2, x3, x4, x5, x6, x7] := by
  intro x hx
  simp only [List.mem_cons, List.not_mem_nil, or_false] at hx
  obtain ⟨h0, h1, h2, h3, h4, h5, h6, h7⟩ := h
  rcases hx with rfl | rfl | rfl | rfl | rfl | rfl | rfl | rfl <;> assumption
theorem Sm.out8 {k : Int} {x0 x1 x2 x3 x4 x5 x6 x7 : Int} (h : Sm k [x0, x1, x2, x3, x4, x5, x6, x7]) : (-k ≤ x0 ∧ x0 ≤ k) ∧ (-k ≤ x1 ∧ x1 ≤ k) ∧ (-k ≤ x2 ∧ x2 ≤ k) ∧ (-k ≤ x3 ∧ x3 ≤ k) ∧ (-k ≤ x4 ∧ x4 ≤ k) ∧ (-k ≤ x5 ∧ x5 ≤ k) ∧ (-k ≤ x6 ∧ x6 ≤ k) ∧ (-k ≤ x7 ∧ x7 ≤ k) := ⟨h _ (by simp), h _ (by simp), h _ (by simp), h _ (by simp), h _ (by simp), h _ (by simp), h _ (by simp), h _ (by simp)⟩
theorem Sm.add8 {j k : Int} {x0 x1 x2 x3 x4 x5 x6 x7 y0 y1 y2 y3 y4 y5 y6 y7 : Int} (hx : Sm j [x0, x1, x2, x3, x4, x5, x6, x7]) (hy : Sm k [y0, y1, y2, y3, y4, y5, y6, y7]) : Sm (j + k) [x0 + y0, x1 + y1, x2 + y2, x3 + y3, x4 + y4, x5 + y5, x6 + y6, x7 + y7] := by
  obtain ⟨bx0, bx1, bx2, bx3, bx4, bx5, bx6, bx7⟩ := hx.out8
  obtain ⟨bz0, bz1, bz2, bz3, bz4, bz5, bz6, bz7⟩ := hy.out8
  exact Sm.mk8 ⟨(by omega), (by omega), (by omega), (by omega), (by omega), (by omega), (by omega), (by omega)⟩
theorem Sm.mono {k k' : Int} {l : List Int} (h : Sm k l) (hk : k ≤ k') : Sm k' l := fun x hx => by have := h x hx; omega

/-- Boxes: each block holds its exponents. -/
def Bxs (w : World) (L : List (Nat × List Int)) : Prop := ∀ p ∈ L, Own8 w p.1 p.2
theorem Bxs.get {w : World} {L : List (Nat × List Int)} (h : Bxs w L) (i g : Nat) (l : List Int) (hi : L[i]? = some (g, l)) : Own8 w g l := h _ (List.mem_of_getElem? hi)
theorem Bxs.later {w w' : World} {L : List (Nat × List Int)} (h : Bxs w L) (hb : Below w.heap.size w w') : Bxs w' L := fun p hp => (h p hp).later hb (h p hp).lt
theorem Bxs.alloc {w : World} {L : List (Nat × List Int)} (h : Bxs w L) (o : Obj) : Bxs (w.alloc o) L := fun p hp => (h p hp).alloc o
theorem Bxs.new {w : World} {L : List (Nat × List Int)} (h : Bxs w L) (l : List Int) : Bxs (w.alloc (.cells (cells8 l) 24)) ((w.heap.size, l) :: L) := by
  intro p hp
  rcases List.mem_cons.1 hp with rfl | hp
  · exact Own8.new w l
  · exact (h p hp).alloc _
/-- Behind a slice literal and a call, a new box. -/
theorem Bxs.next {w w' : World} {o : Obj} {L : List (Nat × List Int)} (h : Bxs w L) (hb : Below (w.alloc o).heap.size (w.alloc o) w') (l : List Int) : Bxs (w'.alloc (.cells (cells8 l) 24)) ((w'.heap.size, l) :: L) := ((h.alloc o).later hb).new l
theorem Bxs.next0 {w w' : World} {L : List (Nat × List Int)} (h : Bxs w L) (hb : Below w.heap.size w w') (l : List Int) : Bxs (w'.alloc (.cells (cells8 l) 24)) ((w'.heap.size, l) :: L) := (h.later hb).new l
theorem below_next {w0 w w' : World} {o o' : Obj} (h : Below w0.heap.size w0 w) (hb : Below (w.alloc o).heap.size (w.alloc o) w') : Below w0.heap.size w0 (w'.alloc o') := by
  have h1 := h.size
  have h2 := hb.size
  have h3 := size_alloc w o
  exact ((h.alloc h1 o).trans (hb.mono (by omega))).alloc (by omega) o'
theorem below_next0 {w0 w w' : World} {o' : Obj} (h : Below w0.heap.size w0 w) (hb : Below w.heap.size w w') : Below w0.heap.size w0 (w'.alloc o') := by
  have h1 := h.size
  have h2 := hb.size
  exact (h.trans (hb.mono h1)).alloc (by omega) o'
/-- One box is written. -/
theorem Bxs.set3 {w : World} {g : Nat} {l0 l1 l2 : List Int} (h : Bxs w [(g, l0), (g + 1, l1), (g + 2, l2)]) (m : List Int) : Bxs (w.setRow g (cells8 m)) [(g, m), (g + 1, l1), (g + 2, l2)] := by
  intro p hp
  simp only [List.mem_cons, List.not_mem_nil, or_false] at hp
  rcases hp with rfl | rfl | rfl
  · exact (h.get 0 _ _ rfl).setRow m
  · exact (setRow_other w g (g + 1) _ (by omega)).trans (h.get 1 _ _ rfl)
  · exact (setRow_other w g (g + 2) _ (by omega)).trans (h.get 2 _ _ rfl)
theorem Bxs.set3b {w : World} {g : Nat} {l0 l1 l2 : List Int} (h : Bxs w [(g, l0), (g + 1, l1), (g + 2, l2)]) (m : List Int) : Bxs (w.setRow (g + 1) (cells8 m)) [(g, l0), (g + 1, m), (g + 2, l2)] := by
  intro p hp
  simp only [List.mem_cons, List.not_mem_nil, or_false] at hp
  rcases hp with rfl | rfl | rfl
  · exact (setRow_other w (g + 1) g _ (by omega)).trans (h.get 0 _ _ rfl)
  · exact (h.get 1 _ _ rfl).setRow m
  · exact (setRow_other w (g + 1) (g + 2) _ (by omega)).trans (h.get 2 _ _ rfl)
theorem Bxs.set3c {w : World} {g : Nat} {l0 l1 l2 : List Int} (h : Bxs w [(g, l0), (g + 1, l1), (g + 2, l2)]) (m : List Int) : Bxs (w.setRow (g + 2) (cells8 m)) [(g, l0), (g + 1, l1), (g + 2, m)] := by
  intro p hp
  simp only [List.mem_cons, List.not_mem_nil, or_false] at hp
  rcases hp with rfl | rfl | rfl
  · exact (setRow_other w (g + 2) g _ (by omega)).trans (h.get 0 _ _ rfl)
  · exact (setRow_other w (g + 2) (g + 1) _ (by omega)).trans (h.get 1 _ _ rfl)
  · exact (h.get 2 _ _ rfl).setRow m
/-- A box is read. -/
theorem load8 {ops : Array Oper} {rest : List Oper} {o : Oper} {a : Act} {w : World} {Q : Exit → Act → World → Prop} (hgd : o.guard = none) (t : Operand) (ho : o.op = .load 24 t)
    (g : Nat) (x0 x1 x2 x3 x4 x5 x6 x7 : Int) (ht : a.eval t = .pointer (some ⟨g, 0, none⟩)) (hg : Own8 w g [x0, x1, x2, x3, x4, x5, x6, x7])
    (h : wpList Tryd.prog ops Q rest (a.put o.dst (.agg #[.int .i64 x0, .int .i64 x1, .int .i64 x2, .int .i64 x3, .int .i64 x4, .int .i64 x5, .int .i64 x6, .int .i64 x7])) w) : wpList Tryd.prog ops Q (o :: rest) a w :=
  wpList_load_row hgd 24 t ho g ht 24 (cells8 [x0, x1, x2, x3, x4, x5, x6, x7]) (0, 0) _ hg Tryd.underlying24 rfl info24 h
/-- A slice literal of two dimensions. -/
theorem build2 {ops : Array Oper} {rest : List Oper} {o : Oper} {a : Act} {w : World} {Q : Exit → Act → World → Prop} (hg : o.guard = none) (s t : Operand) (ho : o.op = .buildSlice 22 2 #[(0, s), (1, t)])
    (x0 x1 x2 x3 x4 x5 x6 x7 y0 y1 y2 y3 y4 y5 y6 y7 : Int) (d : Option Tmp) (hd : o.dst = d) (hs : a.eval s = .agg #[.int .i64 x0, .int .i64 x1, .int .i64 x2, .int .i64 x3, .int .i64 x4, .int .i64 x5, .int .i64 x6, .int .i64 x7]) (ht : a.eval t = .agg #[.int .i64 y0, .int .i64 y1, .int .i64 y2, .int .i64 y3, .int .i64 y4, .int .i64 y5, .int .i64 y6, .int .i64 y7])
    (h : wpList Tryd.prog ops Q rest (a.put d (.slice (some ⟨w.heap.size, 0, none⟩) 2 2)) (w.alloc (.cells #[.int .i64 x0, .int .i64 x1, .int .i64 x2, .int .i64 x3, .int .i64 x4, .int .i64 x5, .int .i64 x6, .int .i64 x7, .int .i64 y0, .int .i64 y1, .int .i64 y2, .int .i64 y3, .int .i64 y4, .int .i64 y5, .int .i64 y6, .int .i64 y7] 24))) : wpList Tryd.prog ops Q (o :: rest) a w := by
  subst hd
  obtain ⟨ie, hie, hz, hsz⟩ : ∃ ie, Tryd.prog.info? 24 = some ie ∧ ie.zero = some (.agg #[.int .i64 0, .int .i64 0, .int .i64 0, .int .i64 0, .int .i64 0, .int .i64 0, .int .i64 0, .int .i64 0]) ∧ ie.size = 8 := by
    have h1 : (Tryd.prog.info? 24).bind (·.zero) = some (.agg #[.int .i64 0, .int .i64 0, .int .i64 0, .int .i64 0, .int .i64 0, .int .i64 0, .int .i64 0, .int .i64 0]) := by kernel_rfl
    have h2 := info24
    cases hq : Tryd.prog.info? 24 with
    | none => simp [hq] at h2
    | some i => simp only [hq, Option.bind_some, Option.map_some, Option.some.injEq] at h1 h2; exact ⟨i, rfl, h1, h2⟩
  refine wpList_buildSlice hg 22 24 2 _ ho _ ie _ Tryd.underlying22 hie hz (by rw [hsz]; decide) (by rw [hsz]; decide) ?_ h
  rw [hsz]
  simp only [List.map_toArray, List.map_cons, List.map_nil, hs, ht]
  kernel_rfl

section
variable (x0 x1 x2 x3 x4 x5 x6 x7 y0 y1 y2 y3 y4 y5 y6 y7 : Int)
set_option maxRecDepth 100000 in
theorem mul2_ok (g : Nat) (w : World) (hg : w.heap[g]? = some (.cells #[.int .i64 x0, .int .i64 x1, .int .i64 x2, .int .i64 x3, .int .i64 x4, .int .i64 x5, .int .i64 x6, .int .i64 x7, .int .i64 y0, .int .i64 y1, .int .i64 y2, .int .i64 y3, .int .i64 y4, .int .i64 y5, .int .i64 y6, .int .i64 y7] 24 (0, 0))) (hx : Sm 99 [x0, x1, x2, x3, x4, x5, x6, x7]) (hy : Sm 99 [y0, y1, y2, y3, y4, y5, y6, y7]) (hz : Sm 99 [x0 + y0, x1 + y1, x2 + y2, x3 + y3, x4 + y4, x5 + y5, x6 + y6, x7 + y7]) :
    Calls Tryd.prog 10 #[.slice (some ⟨g, 0, none⟩) 2 2] w fun e w' => e = .returned (.tuple #[.agg #[.int .i64 (x0 + y0), .int .i64 (x1 + y1), .int .i64 (x2 + y2), .int .i64 (x3 + y3), .int .i64 (x4 + y4), .int .i64 (x5 + y5), .int .i64 (x6 + y6), .int .i64 (x7 + y7)], .int .i64 0]) ∧ Below w.heap.size w w' := by
  have hlt : g < w.heap.size := (Array.getElem?_eq_some_iff.1 hg).1
  obtain ⟨X, hX0, hX1⟩ : ∃ X : Nat → Nat → Int, dimAt X 0 = [x0, x1, x2, x3, x4, x5, x6, x7] ∧ dimAt X 1 = [y0, y1, y2, y3, y4, y5, y6, y7] := ⟨fun i j => if i = 0 then [x0, x1, x2, x3, x4, x5, x6, x7].getD j 0 else [y0, y1, y2, y3, y4, y5, y6, y7].getD j 0, rfl, rfl⟩
  have hd : Dims w g 0 2 X := by
    refine ⟨hlt, fun i hi j hj => ?_⟩
    have h0 := dimAt_get X i j hj
    have hi2 : i = 0 ∨ i = 1 := by omega
    rcases hi2 with rfl | rfl
    · rw [hX0] at h0
      rcases eight (Nat.le_of_lt hj) with rfl | rfl | rfl | rfl | rfl | rfl | rfl | rfl | rfl
      all_goals first | omega | (simp only [List.getElem?_cons_zero, List.getElem?_cons_succ, Option.some.injEq] at h0; rw [← h0]; simp [World.cell?, hg])
    · rw [hX1] at h0
      rcases eight (Nat.le_of_lt hj) with rfl | rfl | rfl | rfl | rfl | rfl | rfl | rfl | rfl
      all_goals first | omega | (simp only [List.getElem?_cons_zero, List.getElem?_cons_succ, Option.some.injEq] at h0; rw [← h0]; simp [World.cell?, hg])
  have h := mul_any g 0 2 2 X w (by omega) hd
  have bx := hx.out8
  have bzz := hy.out8
  have hs : ∀ j u v, (dimAt X 0)[j]? = some u → (dimAt X 1)[j]? = some v → -99 ≤ u ∧ u ≤ 99 → -99 ≤ v ∧ v ≤ 99 → j < 8 → sumD X 2 j = u + v := by
    intro j u v h0 h1 bu bv hj
    rw [dimAt_get X 0 j hj, Option.some.injEq] at h0
    rw [dimAt_get X 1 j hj, Option.some.injEq] at h1
    show wrap64 (wrap64 (0 + X 0 j) + X 1 j) = _
    rw [h0, h1]
    unfold wrap64; omega
  rw [hX0, hX1] at hs
  obtain ⟨bx0, bx1, bx2, bx3, bx4, bx5, bx6, bx7⟩ := bx
  obtain ⟨bz0, bz1, bz2, bz3, bz4, bz5, bz6, bz7⟩ := bzz
  have s0 := hs 0 x0 y0 rfl rfl bx0 bz0 (by omega)
  have s1 := hs 1 x1 y1 rfl rfl bx1 bz1 (by omega)
  have s2 := hs 2 x2 y2 rfl rfl bx2 bz2 (by omega)
  have s3 := hs 3 x3 y3 rfl rfl bx3 bz3 (by omega)
  have s4 := hs 4 x4 y4 rfl rfl bx4 bz4 (by omega)
  have s5 := hs 5 x5 y5 rfl rfl bx5 bz5 (by omega)
  have s6 := hs 6 x6 y6 rfl rfl bx6 bz6 (by omega)
  have s7 := hs 7 x7 y7 rfl rfl bx7 bz7 (by omega)
  have hall : allB X 2 = true := by
    show ((true && rightB (dimAt X 0)) && rightB (dimAt X 1)) = true
    rw [hX0, hX1, hx.right (by omega), hy.right (by omega)]; rfl
  have hsum : rightB (sumL X 2) = true := by
    show rightB [sumD X 2 0, sumD X 2 1, sumD X 2 2, sumD X 2 3, sumD X 2 4, sumD X 2 5, sumD X 2 6, sumD X 2 7] = true
    rw [s0, s1, s2, s3, s4, s5, s6, s7]
    exact hz.right (by omega)
  have herr : mulErr X 2 = 0 := by unfold mulErr; rw [hall, hsum]; rfl
  simp only [hall, hsum, herr, Bool.and_self, sel_true, s0, s1, s2, s3, s4, s5, s6, s7] at h
  exact h
theorem quo_ok (w : World) (hx : Sm 48 [x0, x1, x2, x3, x4, x5, x6, x7]) (hy : Sm 48 [y0, y1, y2, y3, y4, y5, y6, y7]) : Calls Tryd.prog 15 #[.agg #[.int .i64 x0, .int .i64 x1, .int .i64 x2, .int .i64 x3, .int .i64 x4, .int .i64 x5, .int .i64 x6, .int .i64 x7], .agg #[.int .i64 y0, .int .i64 y1, .int .i64 y2, .int .i64 y3, .int .i64 y4, .int .i64 y5, .int .i64 y6, .int .i64 y7]] w fun e w' => e = .returned (.tuple #[.agg #[.int .i64 (x0 - y0), .int .i64 (x1 - y1), .int .i64 (x2 - y2), .int .i64 (x3 - y3), .int .i64 (x4 - y4), .int .i64 (x5 - y5), .int .i64 (x6 - y6), .int .i64 (x7 - y7)], .int .i64 0]) ∧ Below w.heap.size w w' := by
  have h := quo_any x0 x1 x2 x3 x4 x5 x6 x7 y0 y1 y2 y3 y4 y5 y6 y7 w
  obtain ⟨bx0, bx1, bx2, bx3, bx4, bx5, bx6, bx7⟩ := hx.out8
  obtain ⟨bz0, bz1, bz2, bz3, bz4, bz5, bz6, bz7⟩ := hy.out8
  have q0 : wrap64 (x0 - y0) = x0 - y0 := by unfold wrap64; omega
  have q1 : wrap64 (x1 - y1) = x1 - y1 := by unfold wrap64; omega
  have q2 : wrap64 (x2 - y2) = x2 - y2 := by unfold wrap64; omega
  have q3 : wrap64 (x3 - y3) = x3 - y3 := by unfold wrap64; omega
  have q4 : wrap64 (x4 - y4) = x4 - y4 := by unfold wrap64; omega
  have q5 : wrap64 (x5 - y5) = x5 - y5 := by unfold wrap64; omega
  have q6 : wrap64 (x6 - y6) = x6 - y6 := by unfold wrap64; omega
  have q7 : wrap64 (x7 - y7) = x7 - y7 := by unfold wrap64; omega
  rw [q0, q1, q2, q3, q4, q5, q6, q7] at h
  have hr : rightB [x0 - y0, x1 - y1, x2 - y2, x3 - y3, x4 - y4, x5 - y5, x6 - y6, x7 - y7] = true := (Sm.mk8 (k := 96) (by omega)).right (by omega)
  have hx' := hx.right (by omega)
  have hy' := hy.right (by omega)
  simp only [hx', hy', hr, quoOk, quoErr, Bool.and_self, sel_true, if_true, errOf_true] at h
  exact h
variable (n : Int)
theorem mul_bd {x n : Int} {p q : Nat} (h1 : -(p : Int) ≤ x ∧ x ≤ p) (h2 : -(q : Int) ≤ n ∧ n ≤ q) : -((p * q : Nat) : Int) ≤ x * n ∧ x * n ≤ ((p * q : Nat) : Int) := by
  have := mul_abs (x := x) (n := n) (p := p) (q := q) (by omega) (by omega)
  omega
theorem Sm.mulq {x0 x1 x2 x3 x4 x5 x6 x7 n : Int} {p q : Nat} (hx : Sm p [x0, x1, x2, x3, x4, x5, x6, x7]) (hn : -(q : Int) ≤ n ∧ n ≤ q) : Sm ((p * q : Nat) : Int) [x0 * n, x1 * n, x2 * n, x3 * n, x4 * n, x5 * n, x6 * n, x7 * n] := by
  obtain ⟨bx0, bx1, bx2, bx3, bx4, bx5, bx6, bx7⟩ := hx.out8
  exact Sm.mk8 ⟨mul_bd bx0 hn, mul_bd bx1 hn, mul_bd bx2 hn, mul_bd bx3 hn, mul_bd bx4 hn, mul_bd bx5 hn, mul_bd bx6 hn, mul_bd bx7 hn⟩
theorem Sm.times {x0 x1 x2 x3 x4 x5 x6 x7 n : Int} (hx : Sm 16 [x0, x1, x2, x3, x4, x5, x6, x7]) (hn : -6 ≤ n ∧ n ≤ 6) : Sm 96 [x0 * n, x1 * n, x2 * n, x3 * n, x4 * n, x5 * n, x6 * n, x7 * n] := by
  obtain ⟨bx0, bx1, bx2, bx3, bx4, bx5, bx6, bx7⟩ := hx.out8
  exact Sm.mk8 ⟨mul_bd (p := 16) (q := 6) bx0 hn, mul_bd (p := 16) (q := 6) bx1 hn, mul_bd (p := 16) (q := 6) bx2 hn, mul_bd (p := 16) (q := 6) bx3 hn, mul_bd (p := 16) (q := 6) bx4 hn, mul_bd (p := 16) (q := 6) bx5 hn, mul_bd (p := 16) (q := 6) bx6 hn, mul_bd (p := 16) (q := 6) bx7 hn⟩
theorem pow_ok (w : World) (hx : Sm 16 [x0, x1, x2, x3, x4, x5, x6, x7]) (hn : -6 ≤ n ∧ n ≤ 6) : Calls Tryd.prog 17 #[.agg #[.int .i64 x0, .int .i64 x1, .int .i64 x2, .int .i64 x3, .int .i64 x4, .int .i64 x5, .int .i64 x6, .int .i64 x7], .int .i64 n] w fun e w' => e = .returned (.tuple #[.agg #[.int .i64 (x0 * n), .int .i64 (x1 * n), .int .i64 (x2 * n), .int .i64 (x3 * n), .int .i64 (x4 * n), .int .i64 (x5 * n), .int .i64 (x6 * n), .int .i64 (x7 * n)], .int .i64 0]) ∧ Below w.heap.size w w' := by
  have h := pow_any x0 x1 x2 x3 x4 x5 x6 x7 n w
  have hx' := hx.right (by omega)
  have hr := (hx.times hn).right (by omega)
  simp only [hx', hr, powErr, Bool.and_self, sel_true, if_true, errOf_true] at h
  exact h
theorem root_ok (w : World) (hx : Sm 16 [x0, x1, x2, x3, x4, x5, x6, x7]) (hn : 1 ≤ n ∧ n ≤ 4) : Calls Tryd.prog 19 #[.agg #[.int .i64 (x0 * n), .int .i64 (x1 * n), .int .i64 (x2 * n), .int .i64 (x3 * n), .int .i64 (x4 * n), .int .i64 (x5 * n), .int .i64 (x6 * n), .int .i64 (x7 * n)], .int .i64 n] w fun e w' => e = .returned (.tuple #[.agg #[.int .i64 x0, .int .i64 x1, .int .i64 x2, .int .i64 x3, .int .i64 x4, .int .i64 x5, .int .i64 x6, .int .i64 x7], .int .i64 0]) ∧ Below w.heap.size w w' := by
  have h := root_any (x0 * n) (x1 * n) (x2 * n) (x3 * n) (x4 * n) (x5 * n) (x6 * n) (x7 * n) n w
  have hr := (hx.times (n := n) (by omega)).right (by omega)
  have hd : divB [x0 * n, x1 * n, x2 * n, x3 * n, x4 * n, x5 * n, x6 * n, x7 * n] n = true := by
    unfold divB
    rw [List.all_eq_true]
    intro z hz
    simp only [List.mem_cons, List.not_mem_nil, or_false] at hz
    rcases hz with rfl | rfl | rfl | rfl | rfl | rfl | rfl | rfl <;> simp
  have hq : ∀ z : Int, (z * n).tdiv n = z := fun z => Int.mul_tdiv_cancel z (by omega)
  have h1 : decide (1 ≤ n) = true := by simp; omega
  simp only [hr, hd, h1, rootOk, rootErr, Bool.and_self, sel_true, if_true, errOf_true, hq] at h
  exact h
end
end Go.Proofs.YtccnbnfafhpeaaaDoor

/- PrefixSplits answers true. -/
import Derived.Test.YtpoapffbpgnkpaaGreatDoorBigOf
import Derived.ChangeKeysEq
import Derived.Laws.StructEq
import Derived.Test.YtpoapffbpgnkpaaGreatDoorRefSplit
import Derived.Laws.AppendOwnNone
namespace Go.Proofs.YtpoapffbpgnkpaaGreatDoor
open Go.RowKit
theorem info3U : ∃ i, Tryz.prog.info? 3 = some i := Option.isSome_iff_exists.1 (by kernel_rfl)
theorem cells3U : Tryz.prog.cellsOf 3 = 1 := by kernel_rfl
section
variable (nm sy : ByteArray) (d0 d1 d2 d3 d4 d5 d6 d7 : Int) (fn fd on od : ByteArray) (tk : Int)
theorem eqD (d : Nat) (w : World) : (Op.equalIn (d + 2) 24 (.agg #[.int .i64 d0, .int .i64 d1, .int .i64 d2, .int .i64 d3, .int .i64 d4, .int .i64 d5, .int .i64 d6, .int .i64 d7]) (.agg #[.int .i64 d0, .int .i64 d1, .int .i64 d2, .int .i64 d3, .int .i64 d4, .int .i64 d5, .int .i64 d6, .int .i64 d7])).run Tryz.prog w = .ok true w := by
  obtain ⟨inf, hinf⟩ := info3U
  rw [show d + 2 = (d + 1) + 1 from rfl, run_equalIn_array w (d + 1) _ _ Tryz.underlying24 hinf, cells3U, show List.range 8 = [0, 1, 2, 3, 4, 5, 6, 7] from rfl]
  have p0 : ∀ w : World, (part 3 #[.int .i64 d0, .int .i64 d1, .int .i64 d2, .int .i64 d3, .int .i64 d4, .int .i64 d5, .int .i64 d6, .int .i64 d7] (0 * 1)).run Tryz.prog w = .ok (.int .i64 d0) w := fun _ => by kernel_rfl
  have p1 : ∀ w : World, (part 3 #[.int .i64 d0, .int .i64 d1, .int .i64 d2, .int .i64 d3, .int .i64 d4, .int .i64 d5, .int .i64 d6, .int .i64 d7] (1 * 1)).run Tryz.prog w = .ok (.int .i64 d1) w := fun _ => by kernel_rfl
  have p2 : ∀ w : World, (part 3 #[.int .i64 d0, .int .i64 d1, .int .i64 d2, .int .i64 d3, .int .i64 d4, .int .i64 d5, .int .i64 d6, .int .i64 d7] (2 * 1)).run Tryz.prog w = .ok (.int .i64 d2) w := fun _ => by kernel_rfl
  have p3 : ∀ w : World, (part 3 #[.int .i64 d0, .int .i64 d1, .int .i64 d2, .int .i64 d3, .int .i64 d4, .int .i64 d5, .int .i64 d6, .int .i64 d7] (3 * 1)).run Tryz.prog w = .ok (.int .i64 d3) w := fun _ => by kernel_rfl
  have p4 : ∀ w : World, (part 3 #[.int .i64 d0, .int .i64 d1, .int .i64 d2, .int .i64 d3, .int .i64 d4, .int .i64 d5, .int .i64 d6, .int .i64 d7] (4 * 1)).run Tryz.prog w = .ok (.int .i64 d4) w := fun _ => by kernel_rfl
  have p5 : ∀ w : World, (part 3 #[.int .i64 d0, .int .i64 d1, .int .i64 d2, .int .i64 d3, .int .i64 d4, .int .i64 d5, .int .i64 d6, .int .i64 d7] (5 * 1)).run Tryz.prog w = .ok (.int .i64 d5) w := fun _ => by kernel_rfl
  have p6 : ∀ w : World, (part 3 #[.int .i64 d0, .int .i64 d1, .int .i64 d2, .int .i64 d3, .int .i64 d4, .int .i64 d5, .int .i64 d6, .int .i64 d7] (6 * 1)).run Tryz.prog w = .ok (.int .i64 d6) w := fun _ => by kernel_rfl
  have p7 : ∀ w : World, (part 3 #[.int .i64 d0, .int .i64 d1, .int .i64 d2, .int .i64 d3, .int .i64 d4, .int .i64 d5, .int .i64 d6, .int .i64 d7] (7 * 1)).run Tryz.prog w = .ok (.int .i64 d7) w := fun _ => by kernel_rfl
  have e := fun w a b => run_equalIn_int (P := Tryz.prog) w d 3 .i64 .i64 a b Tryz.underlying3
  simp only [Op.eqItems, Sem.run_bind, p0, p1, p2, p3, p4, p5, p6, p7, Result.andThen_ok, e, Sem.run_ite, Sem.run_pure]
  simp
theorem fieldsQ : ∃ f0 f1, (Tryz.prog.fieldsOf 26).toList = [f0, f1] ∧ f0.type = 9 ∧ f0.offset = 0 ∧ f0.name ≠ "_" ∧ f1.type = 9 ∧ f1.offset = 1 ∧ f1.name ≠ "_" := by
  unfold Program.fieldsOf
  rw [Tryz.underlying26]
  exact ⟨_, _, rfl, rfl, rfl, by decide +kernel, rfl, rfl, by decide +kernel⟩
theorem eqQ (d : Nat) (w : World) : (Op.equalIn (d + 2) 26 (.agg #[.string fn, .string fd]) (.agg #[.string fn, .string fd])).run Tryz.prog w = .ok true w := by
  rw [show d + 2 = (d + 1) + 1 from rfl, run_equalIn_struct w (d + 1) 26 _ _ (by kernel_rfl) (by kernel_rfl)]
  obtain ⟨f0, f1, hf, t0, o0, n0, t1, o1, n1⟩ := fieldsQ
  rw [hf]
  have p0 : ∀ w : World, (part 9 #[.string fn, .string fd] 0).run Tryz.prog w = .ok (.string fn) w := fun _ => by kernel_rfl
  have p1 : ∀ w : World, (part 9 #[.string fn, .string fd] 1).run Tryz.prog w = .ok (.string fd) w := fun _ => by kernel_rfl
  have e := fun w a b => run_equalIn_string (P := Tryz.prog) w d 9 a b Tryz.underlying9
  simp only [Op.eqFields, n0, n1, t0, t1, o0, o1, Sem.run_bind, p0, p1, Result.andThen_ok, e, Sem.run_ite, Sem.run_pure, ne_eq, not_false_eq_true, if_true]
  simp
theorem fieldsU : ∃ f0 f1 f2 f3 f4 f5, (Tryz.prog.fieldsOf 28).toList = [f0, f1, f2, f3, f4, f5] ∧ (f0.type = 9 ∧ f0.offset = 0 ∧ f0.name ≠ "_") ∧ (f1.type = 9 ∧ f1.offset = 1 ∧ f1.name ≠ "_") ∧ (f2.type = 24 ∧ f2.offset = 2 ∧ f2.name ≠ "_") ∧ (f3.type = 26 ∧ f3.offset = 10 ∧ f3.name ≠ "_") ∧ (f4.type = 26 ∧ f4.offset = 12 ∧ f4.name ≠ "_") ∧ (f5.type = 3 ∧ f5.offset = 14 ∧ f5.name ≠ "_") := by
  unfold Program.fieldsOf
  rw [Tryz.underlying28]
  exact ⟨_, _, _, _, _, _, rfl, ⟨rfl, rfl, by decide +kernel⟩, ⟨rfl, rfl, by decide +kernel⟩, ⟨rfl, rfl, by decide +kernel⟩, ⟨rfl, rfl, by decide +kernel⟩, ⟨rfl, rfl, by decide +kernel⟩, ⟨rfl, rfl, by decide +kernel⟩⟩
theorem eqU (w : World) : (Op.equalIn 10000 28 (.agg #[.string nm, .string sy, .int .i64 d0, .int .i64 d1, .int .i64 d2, .int .i64 d3, .int .i64 d4, .int .i64 d5, .int .i64 d6, .int .i64 d7, .string fn, .string fd, .string on, .string od, .int .i64 tk]) (.agg #[.string nm, .string sy, .int .i64 d0, .int .i64 d1, .int .i64 d2, .int .i64 d3, .int .i64 d4, .int .i64 d5, .int .i64 d6, .int .i64 d7, .string fn, .string fd, .string on, .string od, .int .i64 tk])).run Tryz.prog w = .ok true w := by
  rw [show (10000 : Nat) = 9999 + 1 from rfl, run_equalIn_struct w 9999 28 _ _ (by kernel_rfl) (by kernel_rfl)]
  obtain ⟨f0, f1, f2, f3, f4, f5, hf, ⟨t0, o0, n0⟩, ⟨t1, o1, n1⟩, ⟨t2, o2, n2⟩, ⟨t3, o3, n3⟩, ⟨t4, o4, n4⟩, ⟨t5, o5, n5⟩⟩ := fieldsU
  rw [hf]
  have p0 : ∀ w : World, (part 9 #[.string nm, .string sy, .int .i64 d0, .int .i64 d1, .int .i64 d2, .int .i64 d3, .int .i64 d4, .int .i64 d5, .int .i64 d6, .int .i64 d7, .string fn, .string fd, .string on, .string od, .int .i64 tk] 0).run Tryz.prog w = .ok (.string nm) w := fun _ => by kernel_rfl
  have p1 : ∀ w : World, (part 9 #[.string nm, .string sy, .int .i64 d0, .int .i64 d1, .int .i64 d2, .int .i64 d3, .int .i64 d4, .int .i64 d5, .int .i64 d6, .int .i64 d7, .string fn, .string fd, .string on, .string od, .int .i64 tk] 1).run Tryz.prog w = .ok (.string sy) w := fun _ => by kernel_rfl
  have p2 : ∀ w : World, (part 24 #[.string nm, .string sy, .int .i64 d0, .int .i64 d1, .int .i64 d2, .int .i64 d3, .int .i64 d4, .int .i64 d5, .int .i64 d6, .int .i64 d7, .string fn, .string fd, .string on, .string od, .int .i64 tk] 2).run Tryz.prog w = .ok (.agg #[.int .i64 d0, .int .i64 d1, .int .i64 d2, .int .i64 d3, .int .i64 d4, .int .i64 d5, .int .i64 d6, .int .i64 d7]) w := fun _ => by kernel_rfl
  have p3 : ∀ w : World, (part 26 #[.string nm, .string sy, .int .i64 d0, .int .i64 d1, .int .i64 d2, .int .i64 d3, .int .i64 d4, .int .i64 d5, .int .i64 d6, .int .i64 d7, .string fn, .string fd, .string on, .string od, .int .i64 tk] 10).run Tryz.prog w = .ok (.agg #[.string fn, .string fd]) w := fun _ => by kernel_rfl
  have p4 : ∀ w : World, (part 26 #[.string nm, .string sy, .int .i64 d0, .int .i64 d1, .int .i64 d2, .int .i64 d3, .int .i64 d4, .int .i64 d5, .int .i64 d6, .int .i64 d7, .string fn, .string fd, .string on, .string od, .int .i64 tk] 12).run Tryz.prog w = .ok (.agg #[.string on, .string od]) w := fun _ => by kernel_rfl
  have p5 : ∀ w : World, (part 3 #[.string nm, .string sy, .int .i64 d0, .int .i64 d1, .int .i64 d2, .int .i64 d3, .int .i64 d4, .int .i64 d5, .int .i64 d6, .int .i64 d7, .string fn, .string fd, .string on, .string od, .int .i64 tk] 14).run Tryz.prog w = .ok (.int .i64 tk) w := fun _ => by kernel_rfl
  have e := fun w a b => run_equalIn_string (P := Tryz.prog) w 9998 9 a b Tryz.underlying9
  have e3 := fun w a b => run_equalIn_int (P := Tryz.prog) w 9998 3 .i64 .i64 a b Tryz.underlying3
  have ed := eqD d0 d1 d2 d3 d4 d5 d6 d7 9997
  have eq1 := eqQ fn fd 9997
  have eq2 := eqQ on od 9997
  simp only [Op.eqFields, n0, n1, n2, n3, n4, n5, t0, t1, t2, t3, t4, t5, o0, o1, o2, o3, o4, o5, Sem.run_bind, p0, p1, p2, p3, p4, p5, Result.andThen_ok, e, e3, ed, eq1, eq2, Sem.run_ite, Sem.run_pure, ne_eq, not_false_eq_true, if_true]
  simp
theorem neqU (w : World) : (binOp .neq 28 (.agg #[.string nm, .string sy, .int .i64 d0, .int .i64 d1, .int .i64 d2, .int .i64 d3, .int .i64 d4, .int .i64 d5, .int .i64 d6, .int .i64 d7, .string fn, .string fd, .string on, .string od, .int .i64 tk]) (.agg #[.string nm, .string sy, .int .i64 d0, .int .i64 d1, .int .i64 d2, .int .i64 d3, .int .i64 d4, .int .i64 d5, .int .i64 d6, .int .i64 d7, .string fn, .string fd, .string on, .string od, .int .i64 tk])).run Tryz.prog w = .ok (.bool false) w := by
  rw [run_neq_struct, eqU]
  rfl
end
end Go.Proofs.YtpoapffbpgnkpaaGreatDoor

namespace Go.Proofs.YtpoapffbpgnkpaaGreatDoor
open Go.RowKit
/-- Both answers are one. -/
theorem split_same {s : ByteArray} {us : Nat → UV} {n : Nat} {v v' : Value} (h : SplitR (Rdgs s us n) s us n v) (h' : SplitR (RefRd s us n) s us n v') : v = v' := by
  rcases h with ⟨h1, rfl⟩ | ⟨h1, h2, k, hk, hf, rfl⟩ | ⟨h1, h2, hf, e, p, i, ho, rfl⟩ <;> rcases h' with ⟨g1, rfl⟩ | ⟨g1, g2, l, hl, gf, rfl⟩ | ⟨g1, g2, gf, e', p', i', go, rfl⟩
  · rfl
  · omega
  · omega
  · omega
  · have := firstU_unique hf gf
    rw [this]
  · have := firstU_unique hf gf
    omega
  · omega
  · have := firstU_unique hf gf
    omega
  · have ho' : ROut (RefRd s us n) e p i := ho.congr fun a b => rdgs_iff a b
    obtain ⟨rfl, rfl, rfl⟩ := ho'.det go
    rfl
theorem splitR_form {S : Nat → Nat → Prop} {s : ByteArray} {us : Nat → UV} {n : Nat} {v : Value} (h : SplitR S s us n v) : ∃ (x1 x2 x3 x4 : ByteArray) (x5 : Bool) (k e : Int), v = .tuple #[.agg #[.string x1, .string x2, .string x3, .string x4, .bool x5], .int .i64 k, .int .i64 e] := by
  rcases h with ⟨h1, rfl⟩ | ⟨h1, h2, k, hk, hf, rfl⟩ | ⟨h1, h2, hf, e, p, i, ho, rfl⟩
  · exact ⟨_, _, _, _, _, _, _, rfl⟩
  · exact ⟨_, _, _, _, _, _, _, rfl⟩
  · unfold resV
    split
    · exact ⟨_, _, _, _, _, _, _, rfl⟩
    · exact ⟨_, _, _, _, _, _, _, rfl⟩
def flatU (us : Nat → UV) (n : Nat) : List Value := (List.range n).flatMap fun i => (us i).cells
theorem flatU_succ (us : Nat → UV) (n : Nat) : flatU us (n + 1) = flatU us n ++ (us n).cells := by simp [flatU, List.range_succ, List.flatMap_append]
theorem flatU_len (us : Nat → UV) (n : Nat) : (flatU us n).length = n * 15 := by
  induction n with
  | zero => rfl
  | succ n ih => rw [flatU_succ, List.length_append, ih, Nat.succ_mul]; rfl
theorem flatU_get (us : Nat → UV) (n i j : Nat) (hi : i < n) (hj : j < 15) : (flatU us n)[i * 15 + j]? = (us i).cells[j]? := by
  induction n with
  | zero => omega
  | succ n ih =>
    rw [flatU_succ]
    by_cases h : i < n
    · rw [List.getElem?_append_left (by rw [flatU_len]; omega)]; exact ih h
    · have e : i = n := by omega
      subst e
      rw [List.getElem?_append_right (by rw [flatU_len]; omega), flatU_len, show i * 15 + j - i * 15 = j by omega]
theorem UV.one (u : UV) : ∀ x ∈ u.cells, x.oneCell' = true := by
  intro x hx
  unfold UV.cells at hx
  simp only [List.mem_cons, List.not_mem_nil, or_false] at hx
  rcases hx with rfl | rfl | rfl | rfl | rfl | rfl | rfl | rfl | rfl | rfl | rfl | rfl | rfl | rfl | rfl <;> rfl
theorem flatU_one (us : Nat → UV) (n : Nat) : ∀ x ∈ flatU us n, x.oneCell' = true := by
  intro x hx
  obtain ⟨i, _, h⟩ := List.mem_flatMap.1 hx
  exact (us i).one x h
def markU : UV := ⟨⟨#[52, 51, 50, 49]⟩, ⟨#[]⟩, 0, 0, 0, 0, 0, 0, 0, 0, ⟨#[]⟩, ⟨#[]⟩, ⟨#[]⟩, ⟨#[]⟩, 0⟩
theorem UAt.cell {W : World} {b o : Nat} {u : UV} (h : UAt W b o u) : ∀ j x, u.cells[j]? = some x → W.cell? ⟨b, o + j, none⟩ = some x := by
  intro j x hx
  match j with
  | 0 => cases hx; exact h.c0
  | 1 => cases hx; exact h.c1
  | 2 => cases hx; exact h.c2
  | 3 => cases hx; exact h.c3
  | 4 => cases hx; exact h.c4
  | 5 => cases hx; exact h.c5
  | 6 => cases hx; exact h.c6
  | 7 => cases hx; exact h.c7
  | 8 => cases hx; exact h.c8
  | 9 => cases hx; exact h.c9
  | 10 => cases hx; exact h.c10
  | 11 => cases hx; exact h.c11
  | 12 => cases hx; exact h.c12
  | 13 => cases hx; exact h.c13
  | 14 => cases hx; exact h.c14
  | j + 15 => cases hx
theorem inU_news {W : World} {ad : Addr} {n : Nat} {us : Nat → UV} (h : InU W (some ad) n us) : ∀ j x, (flatU us n)[j]? = some x → W.cell? (ad.add j) = some x := by
  intro j x hx
  have hj : j < n * 15 := by have := (List.getElem?_eq_some_iff.1 hx).1; rw [flatU_len] at this; exact this
  obtain ⟨b, o, e, hl, hd⟩ := h (by omega)
  cases e
  have hq := flatU_get us n (j / 15) (j % 15) (by omega) (by omega)
  rw [show j / 15 * 15 + j % 15 = j by omega, hx] at hq
  have hc := (hd (j / 15) (by omega)).cell (j % 15) x hq.symm
  rw [show o + j / 15 * 15 + j % 15 = o + j by omega] at hc
  rw [← hc]
  simp only [Addr.add]
  split
  · rename_i hj0; subst hj0; rfl
  · rfl
theorem uAt_of {W : World} {b o : Nat} {u : UV} (h : ∀ j x, u.cells[j]? = some x → W.cell? ⟨b, o + j, none⟩ = some x) : UAt W b o u :=
  ⟨h 0 _ rfl, h 1 _ rfl, h 2 _ rfl, h 3 _ rfl, h 4 _ rfl, h 5 _ rfl, h 6 _ rfl, h 7 _ rfl, h 8 _ rfl, h 9 _ rfl, h 10 _ rfl, h 11 _ rfl, h 12 _ rfl, h 13 _ rfl, h 14 _ rfl⟩
/-- What was lent: the units, and the mark behind them. -/
theorem lentU {W : World} {base : Nat} {v : Value} {n : Nat} {us : Nat → UV} (h : W.ownsRow base 28 15 v (n + 1) (flatU us n ++ markU.cells)) :
    ∃ g cap, v = .slice (some ⟨g, 0, none⟩) (n + 1) cap ∧ n + 1 ≤ cap ∧ cap ≤ 9223372036854775807 ∧ g < W.heap.size ∧ (∀ i, i < n → UAt W g (0 + i * 15) (us i)) ∧ W.cell? ⟨g, n * 15, none⟩ = some (.string ⟨#[52, 51, 50, 49]⟩) := by
  obtain ⟨hx, h2⟩ := h
  rcases h2 with ⟨e, h0⟩ | ⟨g, cap, cur, rfl, hb, hg, hcap, hmax, hsz, htk⟩
  · omega
  · have hcell : ∀ q u, (flatU us n ++ markU.cells)[q]? = some u → W.cell? ⟨g, q, none⟩ = some u := by
      intro q u hu
      rw [← htk, List.getElem?_take] at hu
      split at hu
      · simp [World.cell?, hg]; simpa using hu
      · cases hu
    refine ⟨g, cap, rfl, hcap, hmax, (Array.getElem?_eq_some_iff.1 hg).1, fun i hi => uAt_of fun j x hj => ?_, ?_⟩
    · have hj15 : j < 15 := by have := (List.getElem?_eq_some_iff.1 hj).1; exact this
      rw [Nat.zero_add]
      refine hcell _ _ ?_
      rw [List.getElem?_append_left (by rw [flatU_len]; omega), flatU_get us n i j hi hj15]
      exact hj
    · refine hcell _ _ ?_
      rw [List.getElem?_append_right (by rw [flatU_len]; omega), flatU_len, Nat.sub_self]
      rfl
theorem info28U : (Tryz.prog.info? 28).map (fun i => (i.zero, i.size, i.bytes)) = some (some (.agg #[.string ⟨#[]⟩, .string ⟨#[]⟩, .int .i64 0, .int .i64 0, .int .i64 0, .int .i64 0, .int .i64 0, .int .i64 0, .int .i64 0, .int .i64 0, .string ⟨#[]⟩, .string ⟨#[]⟩, .string ⟨#[]⟩, .string ⟨#[]⟩, .int .i64 0]), 15, 168) := by kernel_rfl
theorem cell_markU (w : World) : ∀ j u, markU.cells[j]? = some u → (w.alloc (.cells #[.string ⟨#[52, 51, 50, 49]⟩, .string ⟨#[]⟩, .int .i64 0, .int .i64 0, .int .i64 0, .int .i64 0, .int .i64 0, .int .i64 0, .int .i64 0, .int .i64 0, .string ⟨#[]⟩, .string ⟨#[]⟩, .string ⟨#[]⟩, .string ⟨#[]⟩, .int .i64 0] 28)).cell? ((⟨w.heap.size, 0, none⟩ : Addr).add j) = some u := by
  intro j u hu
  rw [Go.WideShapes.add_plain, Nat.zero_add]
  have h : (w.alloc (.cells #[.string ⟨#[52, 51, 50, 49]⟩, .string ⟨#[]⟩, .int .i64 0, .int .i64 0, .int .i64 0, .int .i64 0, .int .i64 0, .int .i64 0, .int .i64 0, .int .i64 0, .string ⟨#[]⟩, .string ⟨#[]⟩, .string ⟨#[]⟩, .string ⟨#[]⟩, .int .i64 0] 28)).heap[w.heap.size]? = _ := heap_alloc_new w _
  simp only [World.cell?, h]
  simpa [markU, UV.cells] using hu
set_option maxRecDepth 100000 in
set_option maxHeartbeats 8000000 in
theorem splitsLaw_any (s : ByteArray) (hs : s.size ≤ maxLen) (a : Option Addr) (n cap : Nat) (us : Nat → UV) (w : World) (hU : InU w a n us) (hn : n * 168 ≤ 140737488351232) (hnil : a = none → n = 0 ∧ cap = 0) (htab : Tab w) :
    Calls Tryz.prog 3 #[.string s, .slice a n cap] w fun r w' => r = .returned (.bool true) ∧ Below w.heap.size w w' := by
  obtain ⟨i0, hi, hz0, hz1, hz2⟩ := info_parts info28U
  have HU := hide hU; have HTW := hide htab; have HS := hide hs
  have hn1 : n ≤ 1000000000000 := by omega
  clear hU htab hs
  have HAP : Hid (∀ (g cap2 : Nat) (w2 : World), n + 1 ≤ cap2 → cap2 ≤ 9223372036854775807 → g < w2.heap.size → (∀ i, i < n → UAt w2 g (0 + i * 15) (us i)) → w2.cell? ⟨g, n * 15, none⟩ = some (.string ⟨#[52, 51, 50, 49]⟩) → Below w.heap.size w w2 → True) := fun _ _ _ _ _ _ _ _ _ => trivial
  clear HAP
  cases a with
  | none =>
    obtain ⟨rfl, rfl⟩ := hnil rfl
    clear hnil
    go_enter Tryz.func3, Tryz.ntmps3
    go_upto_region 4 with (first
      | (at_builtin; refine wpList_append_own_none rfl _ _ 22 rfl w.heap.size 28 i0 15 Tryz.underlying22 hi _ 0 [] rfl (World.ownsRow_nil _ _ _ _) rfl ?_)
      | (at_builtin; go_must (refine wpList_append_own _ rfl _ _ 22 rfl w.heap.size 28 i0 _ 15 168 Tryz.underlying22 hi hz0 hz1 hz2 rfl (by decide) _ 0 [] rfl (World.ownsRow_nil _ _ _ _) ⟨w.heap.size, 0, none⟩ 1 1 markU.cells rfl rfl (cell_markU _) markU.one (by unfold maxLen; omega) (by omega) (by simp) ?_; intro v' w2 hown hgrow hnil; obtain ⟨g, cap2, rfl, hg1, hg2, hg3, hd, hmk⟩ := lentU (us := us) (n := 0) hown; have HB2 : Hid (Below w.heap.size w w2) := ((Below.refl _ _).alloc (Nat.le_refl _) _).grown hgrow (by simp) (fun k hk => by cases hk); clear hown hgrow hnil)))
    have HI2 : Hid (InU w2 (some ⟨g, 0, none⟩) 0 us) := fun _ => ⟨g, 0, rfl, hg3, hd⟩
    have HMK := hide hmk; have HD := hide hd; have HG3 := hide hg3
    have HTB : Hid (∀ W, Below w2.heap.size w2 W → Tab W) := fun W hb => (unhide HTW).later ((unhide HB2).trans (hb.mono (unhide HB2).size))
    have HUW : Hid (∀ W, Below w2.heap.size w2 W → InU W (none) 0 us) := fun W hb => (unhide HU).later ((unhide HB2).trans (hb.mono (unhide HB2).size))
    have hgI : (0 : Int) ≤ (cap2 : Int) := by omega
    have hgN : 0 ≤ cap2 := by omega
    clear hmk hd hg3
    go_upto_region 5 with (go_at_call 7; go_must (refine (split_any s (unhide HS) (some ⟨g, 0, none⟩) 0 cap2 us _ (unhide HI2) (by unfold maxLen; omega) (unhide HTB _ (Below.refl _ _))).mono ?_; rintro e w3 ⟨v3, rfl, hv3, hb3⟩; have HV3 := hide hv3; obtain ⟨x1, x2, x3, x4, x5, k3, e3, rfl⟩ := splitR_form hv3; have HB3 := hide hb3; clear hv3 hb3))
    obtain ⟨U, hUU⟩ : ∃ U, U = w3.alloc (.cells #[.string x1, .string x2, .string x3, .string x4, .bool x5] 30) := ⟨_, rfl⟩
    have HPX : Hid (T5 U w3.heap.size (.string x1) (.string x2) (.string x3) (.string x4) (.bool x5)) := by rw [hUU]; exact ⟨by simp [go_sem], by simp [go_sem], by simp [go_sem], by simp [go_sem], by simp [go_sem], by simp [go_sem], by simp [go_sem], by simp [go_sem], by simp [go_sem], by simp [go_sem]⟩
    have HBU : Hid (Below w2.heap.size w2 U) := by rw [hUU]; exact (unhide HB3).alloc (unhide HB3).size _
    rw [← hUU]
    clear hUU HB3
    generalize w3.heap.size = gp at *
    go_upto_region 6 with (go_at_call 8; go_must (refine (refSplit_any s (unhide HS) (none) 0 0 us _ (unhide HUW _ (unhide HBU)) (by omega)).mono ?_; rintro e w4 ⟨v4, rfl, hv4, hb4⟩; obtain rfl := split_same (unhide HV3) hv4; have HB4 := hide hb4; clear hv4 hb4))
    obtain ⟨Y, hY⟩ : ∃ Y, Y = w4.alloc (.cells #[.string x1, .string x2, .string x3, .string x4, .bool x5] 30) := ⟨_, rfl⟩
    have HQY : Hid (T5 Y w4.heap.size (.string x1) (.string x2) (.string x3) (.string x4) (.bool x5)) := by rw [hY]; exact ⟨by simp [go_sem], by simp [go_sem], by simp [go_sem], by simp [go_sem], by simp [go_sem], by simp [go_sem], by simp [go_sem], by simp [go_sem], by simp [go_sem], by simp [go_sem]⟩
    have HBUY : Hid (Below U.heap.size U Y) := by rw [hY]; exact (unhide HB4).alloc (unhide HB4).size _
    rw [← hY]
    clear hY HB4
    generalize w4.heap.size = gq at *
    have HBY : Hid (Below w2.heap.size w2 Y) := (unhide HBU).trans ((unhide HBUY).mono (unhide HBU).size)
    have HPY := hide ((unhide HPX).later (unhide HBUY))
    clear HPX HBU HBUY HV3 HI2
    go_wp2_with fail
    go_loopw [12] (fun s12 wr => ∃ (k : Nat), k ≤ 0 ∧ s12 = .int .i64 (k : Int) ∧ Hid (Below Y.heap.size Y wr)) (fun s12 _ => 0 - (intOf s12).toNat)
    case atStart => exact ⟨0, by omega, rfl, Below.refl _ _⟩
    case round =>
      obtain ⟨k, hk, rfl, HB⟩ := hrel
      have HBR : Hid (Below w2.heap.size w2 wr) := (unhide HBY).trans ((unhide HB).mono (unhide HBY).size)
      by_cases hkn : k < 0
      · omega
      · have hkI : ¬ (k : Int) < (0 : Int) := by omega
        have HPR := hide ((unhide HPY).later (unhide HB))
        have HQR := hide ((unhide HQY).later (unhide HB))
        have hmk : wr.cell? ⟨g, 0 * 15, none⟩ = some (.string ⟨#[52, 51, 50, 49]⟩) := ((unhide HBR).cell (p := ⟨g, 0 * 15, none⟩) (unhide HG3)).trans (unhide HMK)
        have p0 := (unhide HPR).c0; have p1 := (unhide HPR).c1; have p2 := (unhide HPR).c2; have p3 := (unhide HPR).c3; have p4 := (unhide HPR).c4
        have q0 := (unhide HQR).c0; have q1 := (unhide HQR).c1; have q2 := (unhide HQR).c2; have q3 := (unhide HQR).c3; have q4 := (unhide HQR).c4
        have HFI : Hid (Below w.heap.size w wr) := (unhide HB2).trans ((unhide HBR).mono (unhide HB2).size)
        rw [Nat.zero_mul] at hmk
        go_wp2_with (go_at_call 9; go_must (refine (known_any _ (unhide HTB _ (unhide HBR))).mono ?_; rintro e wk ⟨rfl, hbk⟩; have HBK := hide hbk; clear hbk))
        go_ret
        exact ⟨rfl, (unhide HFI).trans ((unhide HBK).mono (unhide HFI).size)⟩
  | some ad =>
    have HNew := hide (inU_news (unhide HU))
    clear hnil
    go_enter Tryz.func3, Tryz.ntmps3
    go_upto_region 4 with (first
      | (at_builtin; refine wpList_append_own _ rfl _ _ 22 rfl w.heap.size 28 i0 _ 15 168 Tryz.underlying22 hi hz0 hz1 hz2 rfl (by decide) (.slice none 0 0) 0 [] rfl (World.ownsRow_nil _ _ _ _) ad n cap (flatU us n) rfl (flatU_len us n) (unhide HNew) (flatU_one us n) (by unfold maxLen; omega) (by omega) (Nat.le_refl _) ?_; intro v1 w1 hown1 hgrow1 hnil1; simp only [Nat.zero_add, List.nil_append] at hown1; have hb1 : Below w.heap.size w w1 := (Below.refl _ _).grown hgrow1 (Nat.le_refl _) (fun k hk => by cases hk); clear hnil1 hgrow1)
      | (at_builtin; go_must (refine wpList_append_own _ rfl _ _ 22 rfl w.heap.size 28 i0 _ 15 168 Tryz.underlying22 hi hz0 hz1 hz2 rfl (by decide) _ n (flatU us n) rfl (hown1.alloc _) ⟨w1.heap.size, 0, none⟩ 1 1 markU.cells rfl rfl (cell_markU _) markU.one (by unfold maxLen; omega) (by omega) (by have := hb1.size; simp at this ⊢; omega) ?_; intro v' w2 hown hgrow hnil; have HB2 := hide ((hb1.alloc hb1.size _).grown hgrow (by have := hb1.size; simp at this ⊢; omega) (fun j hj => (hown1.lt j hj).1)); obtain ⟨g, cap2, rfl, hg1, hg2, hg3, hd, hmk⟩ := lentU hown; clear hnil hgrow hown hown1 hb1)))
    have HI2 : Hid (InU w2 (some ⟨g, 0, none⟩) n us) := fun _ => ⟨g, 0, rfl, hg3, hd⟩
    have HMK := hide hmk; have HD := hide hd; have HG3 := hide hg3
    have HTB : Hid (∀ W, Below w2.heap.size w2 W → Tab W) := fun W hb => (unhide HTW).later ((unhide HB2).trans (hb.mono (unhide HB2).size))
    have HUW : Hid (∀ W, Below w2.heap.size w2 W → InU W (some ad) n us) := fun W hb => (unhide HU).later ((unhide HB2).trans (hb.mono (unhide HB2).size))
    have hgI : (n : Int) ≤ (cap2 : Int) := by omega
    have hgN : n ≤ cap2 := by omega
    clear hmk hd hg3
    go_upto_region 5 with (go_at_call 7; go_must (refine (split_any s (unhide HS) (some ⟨g, 0, none⟩) n cap2 us _ (unhide HI2) (by unfold maxLen; omega) (unhide HTB _ (Below.refl _ _))).mono ?_; rintro e w3 ⟨v3, rfl, hv3, hb3⟩; have HV3 := hide hv3; obtain ⟨x1, x2, x3, x4, x5, k3, e3, rfl⟩ := splitR_form hv3; have HB3 := hide hb3; clear hv3 hb3))
    obtain ⟨U, hUU⟩ : ∃ U, U = w3.alloc (.cells #[.string x1, .string x2, .string x3, .string x4, .bool x5] 30) := ⟨_, rfl⟩
    have HPX : Hid (T5 U w3.heap.size (.string x1) (.string x2) (.string x3) (.string x4) (.bool x5)) := by rw [hUU]; exact ⟨by simp [go_sem], by simp [go_sem], by simp [go_sem], by simp [go_sem], by simp [go_sem], by simp [go_sem], by simp [go_sem], by simp [go_sem], by simp [go_sem], by simp [go_sem]⟩
    have HBU : Hid (Below w2.heap.size w2 U) := by rw [hUU]; exact (unhide HB3).alloc (unhide HB3).size _
    rw [← hUU]
    clear hUU HB3
    generalize w3.heap.size = gp at *
    go_upto_region 6 with (go_at_call 8; go_must (refine (refSplit_any s (unhide HS) (some ad) n cap us _ (unhide HUW _ (unhide HBU)) (by omega)).mono ?_; rintro e w4 ⟨v4, rfl, hv4, hb4⟩; obtain rfl := split_same (unhide HV3) hv4; have HB4 := hide hb4; clear hv4 hb4))
    obtain ⟨Y, hY⟩ : ∃ Y, Y = w4.alloc (.cells #[.string x1, .string x2, .string x3, .string x4, .bool x5] 30) := ⟨_, rfl⟩
    have HQY : Hid (T5 Y w4.heap.size (.string x1) (.string x2) (.string x3) (.string x4) (.bool x5)) := by rw [hY]; exact ⟨by simp [go_sem], by simp [go_sem], by simp [go_sem], by simp [go_sem], by simp [go_sem], by simp [go_sem], by simp [go_sem], by simp [go_sem], by simp [go_sem], by simp [go_sem]⟩
    have HBUY : Hid (Below U.heap.size U Y) := by rw [hY]; exact (unhide HB4).alloc (unhide HB4).size _
    rw [← hY]
    clear hY HB4
    generalize w4.heap.size = gq at *
    have HBY : Hid (Below w2.heap.size w2 Y) := (unhide HBU).trans ((unhide HBUY).mono (unhide HBU).size)
    have HPY := hide ((unhide HPX).later (unhide HBUY))
    clear HPX HBU HBUY HV3 HI2
    go_wp2_with fail
    go_loopw [12] (fun s12 wr => ∃ (k : Nat), k ≤ n ∧ s12 = .int .i64 (k : Int) ∧ Hid (Below Y.heap.size Y wr)) (fun s12 _ => n - (intOf s12).toNat)
    case atStart => exact ⟨0, by omega, rfl, Below.refl _ _⟩
    case round =>
      obtain ⟨k, hk, rfl, HB⟩ := hrel
      have HBR : Hid (Below w2.heap.size w2 wr) := (unhide HBY).trans ((unhide HB).mono (unhide HBY).size)
      by_cases hkn : k < n
      · skip
        have hkI : (k : Int) < (n : Int) := by omega
        have hk0 : (0 : Int) ≤ (k : Int) := by omega
        have hkg : (k : Int) < (n : Int) + 1 := by omega
        obtain ⟨gu, ou, had, hgu, hru⟩ := (unhide HUW _ (unhide HBR)) (by omega)
        obtain rfl : ad = ⟨gu, ou, none⟩ := Option.some.inj had
        clear had
        have hrow := hru k hkn
        have hown := (unhide HD k hkn).later (unhide HBR)
        rw [Nat.zero_add] at hown
        clear hru hgu
        have c0 := hrow.c0; have c1 := hrow.c1; have c2 := hrow.c2; have c3 := hrow.c3; have c4 := hrow.c4; have c5 := hrow.c5; have c6 := hrow.c6; have c7 := hrow.c7; have c8 := hrow.c8; have c9 := hrow.c9; have c10 := hrow.c10; have c11 := hrow.c11; have c12 := hrow.c12; have c13 := hrow.c13; have c14 := hrow.c14
        have o0 := hown.c0; have o1 := hown.c1; have o2 := hown.c2; have o3 := hown.c3; have o4 := hown.c4; have o5 := hown.c5; have o6 := hown.c6; have o7 := hown.c7; have o8 := hown.c8; have o9 := hown.c9; have o10 := hown.c10; have o11 := hown.c11; have o12 := hown.c12; have o13 := hown.c13; have o14 := hown.c14
        clear hrow hown
        generalize us k = u at c0 c1 c2 c3 c4 c5 c6 c7 c8 c9 c10 c11 c12 c13 c14 o0 o1 o2 o3 o4 o5 o6 o7 o8 o9 o10 o11 o12 o13 o14
        obtain ⟨nm, sy, d0, d1, d2, d3, d4, d5, d6, d7, fn, fd, on, od, tk⟩ := u
        have hnq := neqU nm sy d0 d1 d2 d3 d4 d5 d6 d7 fn fd on od tk
        have heq := eqU nm sy d0 d1 d2 d3 d4 d5 d6 d7 fn fd on od tk
        go_upto_region 9 with fail
        go_region_held3 (fun w' => w'.cell? ⟨g, k * 15, none⟩ = some (.string nm) ∧ w'.cell? ⟨g, k * 15 + 1, none⟩ = some (.string sy) ∧ w'.cell? ⟨g, k * 15 + 2, none⟩ = some (.int .i64 d0) ∧ w'.cell? ⟨g, k * 15 + 3, none⟩ = some (.int .i64 d1) ∧ w'.cell? ⟨g, k * 15 + 4, none⟩ = some (.int .i64 d2) ∧ w'.cell? ⟨g, k * 15 + 5, none⟩ = some (.int .i64 d3) ∧ w'.cell? ⟨g, k * 15 + 6, none⟩ = some (.int .i64 d4) ∧ w'.cell? ⟨g, k * 15 + 7, none⟩ = some (.int .i64 d5) ∧ w'.cell? ⟨g, k * 15 + 8, none⟩ = some (.int .i64 d6) ∧ w'.cell? ⟨g, k * 15 + 9, none⟩ = some (.int .i64 d7) ∧ w'.cell? ⟨g, k * 15 + 10, none⟩ = some (.string fn) ∧ w'.cell? ⟨g, k * 15 + 11, none⟩ = some (.string fd) ∧ w'.cell? ⟨g, k * 15 + 12, none⟩ = some (.string on) ∧ w'.cell? ⟨g, k * 15 + 13, none⟩ = some (.string od) ∧ w'.cell? ⟨g, k * 15 + 14, none⟩ = some (.int .i64 tk) ∧ w'.cell? ⟨gu, ou + k * 15, none⟩ = some (.string nm) ∧ w'.cell? ⟨gu, ou + k * 15 + 1, none⟩ = some (.string sy) ∧ w'.cell? ⟨gu, ou + k * 15 + 2, none⟩ = some (.int .i64 d0) ∧ w'.cell? ⟨gu, ou + k * 15 + 3, none⟩ = some (.int .i64 d1) ∧ w'.cell? ⟨gu, ou + k * 15 + 4, none⟩ = some (.int .i64 d2) ∧ w'.cell? ⟨gu, ou + k * 15 + 5, none⟩ = some (.int .i64 d3) ∧ w'.cell? ⟨gu, ou + k * 15 + 6, none⟩ = some (.int .i64 d4) ∧ w'.cell? ⟨gu, ou + k * 15 + 7, none⟩ = some (.int .i64 d5) ∧ w'.cell? ⟨gu, ou + k * 15 + 8, none⟩ = some (.int .i64 d6) ∧ w'.cell? ⟨gu, ou + k * 15 + 9, none⟩ = some (.int .i64 d7) ∧ w'.cell? ⟨gu, ou + k * 15 + 10, none⟩ = some (.string fn) ∧ w'.cell? ⟨gu, ou + k * 15 + 11, none⟩ = some (.string fd) ∧ w'.cell? ⟨gu, ou + k * 15 + 12, none⟩ = some (.string on) ∧ w'.cell? ⟨gu, ou + k * 15 + 13, none⟩ = some (.string od) ∧ w'.cell? ⟨gu, ou + k * 15 + 14, none⟩ = some (.int .i64 tk)) (first | assumption | (simp [go_sem, *]; done)) (fail)
        go_wp2_with fail
        go_roundw
        case rel => exact ⟨k + 1, by omega, by go_num, (unhide HB).drew⟩
        case measure => simp [intOf]; omega
      · have hkI : ¬ (k : Int) < (n : Int) := by omega
        have HPR := hide ((unhide HPY).later (unhide HB))
        have HQR := hide ((unhide HQY).later (unhide HB))
        have hmk : wr.cell? ⟨g, n * 15, none⟩ = some (.string ⟨#[52, 51, 50, 49]⟩) := ((unhide HBR).cell (p := ⟨g, n * 15, none⟩) (unhide HG3)).trans (unhide HMK)
        have p0 := (unhide HPR).c0; have p1 := (unhide HPR).c1; have p2 := (unhide HPR).c2; have p3 := (unhide HPR).c3; have p4 := (unhide HPR).c4
        have q0 := (unhide HQR).c0; have q1 := (unhide HQR).c1; have q2 := (unhide HQR).c2; have q3 := (unhide HQR).c3; have q4 := (unhide HQR).c4
        have HFI : Hid (Below w.heap.size w wr) := (unhide HB2).trans ((unhide HBR).mono (unhide HB2).size)
        skip
        go_wp2_with (go_at_call 9; go_must (refine (known_any _ (unhide HTB _ (unhide HBR))).mono ?_; rintro e wk ⟨rfl, hbk⟩; have HBK := hide hbk; clear hbk))
        go_ret
        exact ⟨rfl, (unhide HFI).trans ((unhide HBK).mono (unhide HFI).size)⟩
end Go.Proofs.YtpoapffbpgnkpaaGreatDoor

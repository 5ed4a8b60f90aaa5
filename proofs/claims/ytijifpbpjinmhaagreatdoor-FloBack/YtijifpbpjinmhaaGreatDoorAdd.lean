/- (Big).Add: the sum. -/
import Derived.Test.YtijifpbpjinmhaaGreatDoorCards
import Derived.Test.YtijifpbpjinmhaaGreatDoorTie
import Derived.Test.YtijifpbpjinmhaaGreatDoorText
import Derived.WalkKit
import Derived.ProofKit
import Derived.OpenShut
import Derived.ChangeSame
import Derived.Deep.DeepHandedRow
import Derived.Lib.LaidTab
import Derived.LaidSub
import Derived.LaidLaws
import Derived.Carry
import Derived.Laws.Cover2
import Derived.BigQuiet
import Derived.Deep.Cut
import Derived.WalkSmall
import Derived.Deep.RegionWith
import Derived.Lib.ItoaMem
set_option maxHeartbeats 2000000
set_option maxRecDepth 100000
namespace Go.Proofs.YtijifpbpjinmhaaGreatDoor
open Go.ChangeShapes Go.WideShapes Go.ChangeAt Go.RowKit
theorem own : ownKnob Tryz.prog.godebug = none := by kernel_rfl
theorem gPow : Tryz.prog.globalNamed "internal/strconv.uint64pow10" = some 1 := by kernel_rfl
theorem gPowType : (Tryz.prog.globals[1]?).map (·.type) = some 221 := by kernel_rfl
theorem cells221 : Tryz.prog.cellsOf 221 = 20 := by kernel_rfl
theorem cells41 : Tryz.prog.cellsOf 41 = 1 := by kernel_rfl
theorem tab_of {W : World} {l : List (String × DataW Unit)} (h : laidMet Tryz.prog l W) (e : l.filter (fun x => x.1 == "internal/strconv.uint64pow10") = [("internal/strconv.uint64pow10", Rows.laid_internal_strconv_uint64pow10)]) : Tab W := by
  have h1 := laidMet.filter (fun x => x.1 == "internal/strconv.uint64pow10") h
  rw [e] at h1
  exact Lib.tabIs_of_head (rest := []) gPow gPowType Tryz.underlying221 Tryz.underlying41 cells41 cells221 h1
/-- A table's cells, off its datum. -/
def cellsOf1 : DataW Unit → List Value
  | .lit (.int k n) => [Value.int k n]
  | .agg l => l.map fun | .lit (.int k n) => Value.int k n | _ => .nilIface
  | _ => []
def cellsOfData : DataW Unit → Array Value
  | .agg l => (l.flatMap cellsOf1).toArray
  | _ => #[]
def putObj (h : Array Obj) (g : Nat) (c : Array Value) : Array Obj := h.modify g fun
  | .cells _ t frozen => .cells c t frozen
  | o => o
def synS : ByteArray := ⟨#[105, 110, 118, 97, 108, 105, 100, 32, 115, 121, 110, 116, 97, 120]⟩
def rngS : ByteArray := ⟨#[118, 97, 108, 117, 101, 32, 111, 117, 116, 32, 111, 102, 32, 114, 97, 110, 103, 101]⟩
noncomputable def low : Nat := (World.holding Tryz.prog default ⟨#[], #[], []⟩).heap.size
/-- A world for the witness: the settled one, the variables holding what their initialisers lay. -/
noncomputable def laidWorld (os : Os) : World :=
  let w0 := World.holding Tryz.prog os ⟨#[.cells #[.string synS] 248, .cells #[.string rngS] 248], #[], []⟩
  { w0 with heap := putObj (putObj (putObj (putObj (putObj w0.heap 3 #[.iface 246 (.pointer (some ⟨low, 0, none⟩))]) 4 #[.iface 246 (.pointer (some ⟨low + 1, 0, none⟩))]) 1 (cellsOfData Rows.laid_internal_strconv_uint64pow10)) 7 (cellsOfData Rows.laid_math_bits_deBruijn32tab)) 8 (cellsOfData Rows.laid_math_bits_deBruijn64tab) }
end Go.Proofs.YtijifpbpjinmhaaGreatDoor
namespace Go.Proofs.YtijifpbpjinmhaaGreatDoor
open Go.RowKit
theorem one_list {l : List Nat} (hn : Cub.normal 1000000000 l) : Cub.lval 1000000000 l = 1 ↔ l = [1] := by
  constructor
  · intro h
    match l, hn, h with
    | [], _, h => simp [Cub.lval] at h
    | [x], _, h => simp [Cub.lval] at h; rw [h]
    | x :: y :: t, hn, h =>
      have := Cub.normal_ge hn (by simp)
      have h2 : (1000000000 : Nat) ^ 1 ≤ 1000000000 ^ ((x :: y :: t).length - 1) := Nat.pow_le_pow_right (by decide) (by simp)
      omega
  · rintro rfl; rfl
theorem isOne_any (v : Value) (n : Nat) (w : World) (h : IsBig w v n) :
    Calls Tryz.prog 121 #[v] w fun e w' => e = .returned (.bool (n == 1)) ∧ Below w.heap.size w w' := by
  obtain ⟨a, l, cap, rfl, hl, hr, hn, rfl⟩ := h.form
  have h1 := one_list hn
  by_cases hlen : l.length = 1
  · match l, hlen with
    | [x], _ =>
      obtain ⟨a', cap', e, _, _, hc⟩ := hr
      simp only [Value.slice.injEq] at e
      obtain ⟨rfl, _, rfl⟩ := e
      obtain ⟨b, o, rfl, hb, hcell⟩ := hc (by simp)
      have c0 := hcell 0 (by simp)
      simp only [List.getElem_cons_zero, Nat.add_zero] at c0
      have ex : (Cub.lval 1000000000 [x] == 1) = ((x : Int) == 1) := by
        simp [Cub.lval]
        rw [Bool.eq_iff_iff]; simp; omega
      have hx : x < 18446744073709551616 := by have := hn.1 x (by simp); omega
      rw [ex]
      simp only [List.length_cons, List.length_nil, Nat.zero_add] at *
      clear ex h1 hn h hcell hc
      go_enter Tryz.func121, Tryz.ntmps121
      go_wp2
      go_ret
      exact ⟨rfl, (Below.refl _ _).alloc (Nat.le_refl _) _⟩
  · have ex : (Cub.lval 1000000000 l == 1) = false := by
      rw [beq_eq_false_iff_ne]; intro e; exact hlen (by rw [h1.1 e]; rfl)
    have el : ((l.length : Int) == 1) = false := by rw [beq_eq_false_iff_ne]; omega
    rw [ex]
    clear ex h1 hn h hr
    generalize l.length = len at *
    go_enter Tryz.func121, Tryz.ntmps121
    go_wp2
    go_ret
    exact ⟨rfl, (Below.refl _ _).alloc (Nat.le_refl _) _⟩
/-- A box that the call has made holds a value. -/
structure Box (W : World) (g : Nat) (u : Value) : Prop where
  c : W.cell? ⟨g, 0, none⟩ = some u
  f : W.frozen? ⟨g, 0, none⟩ = false
theorem Box.lt {W : World} {g : Nat} {u : Value} (h : Box W g u) : g < W.heap.size := World.block_lt_of_cell? _ _ h.c
theorem Box.later {W V : World} {g : Nat} {u : Value} (h : Box W g u) (hb : Below W.heap.size W V) : Box V g u :=
  ⟨(hb.cell (p := ⟨g, 0, none⟩) h.lt).trans h.c, (hb.frozen (p := ⟨g, 0, none⟩) h.lt).trans h.f⟩
theorem Box.set {W : World} {g : Nat} {u : Value} (h : Box W g u) (x : Value) : Box (W.setCell ⟨g, 0, none⟩ x) g x :=
  ⟨World.cell?_setCell_same _ _ _ h.c, by rw [World.frozen?_setCell]; exact h.f⟩
theorem Box.other {W : World} {g k : Nat} {u : Value} (h : Box W g u) (hk : g ≠ k) (x : Value) : Box (W.setCell ⟨k, 0, none⟩ x) g u :=
  ⟨by rw [World.cell?_setCell_other _ _ _ _ (by intro e; cases e; exact hk rfl)]; exact h.c, by rw [World.frozen?_setCell]; exact h.f⟩
/-- What the division and the greatest common divisor must answer. -/
def DivAns (k : Nat) : Prop := ∀ (W : World) (x y : Value) (m n : Nat), IsBig W x m → IsBig W y n → m < 1000000000 ^ k → 0 < n →
  Calls Tryz.prog 161 #[x, y] W fun e w' => ∃ a1 n1 c1 a2 n2 c2, e = .returned (.tuple #[.agg #[.slice a1 n1 c1], .agg #[.slice a2 n2 c2]]) ∧ IsBig w' (.agg #[.slice a1 n1 c1]) (m / n) ∧ IsBig w' (.agg #[.slice a2 n2 c2]) (m % n) ∧ Below W.heap.size W w'
def GcdAns (k : Nat) : Prop := ∀ (W : World) (x y : Value) (m n : Nat), IsBig W x m → IsBig W y n → m < 1000000000 ^ k → n < 1000000000 ^ k →
  Calls Tryz.prog 120 #[x, y] W fun e w' => ∃ a l c, e = .returned (.agg #[.slice a l c]) ∧ IsBig w' (.agg #[.slice a l c]) (Nat.gcd m n) ∧ Below W.heap.size W w'
/-- Two numbers in their boxes, and the boxes of the results. -/
structure LwSt (w W : World) (u v p q : Value) : Prop where
  b1 : Box W w.heap.size u
  b2 : Box W (w.heap.size + 1) v
  b3 : Box W (w.heap.size + 1 + 1) p
  b4 : Box W (w.heap.size + 1 + 1 + 1) q
  below : Below w.heap.size w W
theorem LwSt.later {w W V : World} {u v p q : Value} (s : LwSt w W u v p q) (hb : Below W.heap.size W V) : LwSt w V u v p q :=
  ⟨s.b1.later hb, s.b2.later hb, s.b3.later hb, s.b4.later hb, s.below.trans (hb.mono s.below.size)⟩
theorem LwSt.first (w : World) (u v p q : Value) : LwSt w ((((w.alloc (.cells #[u] 51)).alloc (.cells #[v] 51)).alloc (.cells #[p] 51)).alloc (.cells #[q] 51)) u v p q :=
  ⟨⟨by simp [go_sem], by simp [go_sem]⟩, ⟨by simp [go_sem], by simp [go_sem]⟩, ⟨by simp [go_sem], by simp [go_sem]⟩, ⟨by simp [go_sem], by simp [go_sem]⟩,
    ((((Below.refl _ _).alloc (Nat.le_refl _) _).alloc (by simp) _).alloc (by simp; omega) _).alloc (by simp; omega) _⟩
theorem LwSt.set3 {w W : World} {u v p q : Value} (s : LwSt w W u v p q) (x : Value) : LwSt w (W.setCell ⟨w.heap.size + 1 + 1, 0, none⟩ x) u v x q :=
  ⟨s.b1.other (by omega) x, s.b2.other (by omega) x, s.b3.set x, s.b4.other (by omega) x, s.below.setCell (by simp; omega) _⟩
theorem LwSt.set4 {w W : World} {u v p q : Value} (s : LwSt w W u v p q) (x : Value) : LwSt w (W.setCell ⟨w.heap.size + 1 + 1 + 1, 0, none⟩ x) u v p x :=
  ⟨s.b1.other (by omega) x, s.b2.other (by omega) x, s.b3.other (by omega) x, s.b4.set x, s.below.setCell (by simp; omega) _⟩
theorem LwSt.set1 {w W : World} {u v p q : Value} (s : LwSt w W u v p q) (x : Value) : LwSt w (W.setCell ⟨w.heap.size, 0, none⟩ x) x v p q :=
  ⟨s.b1.set x, s.b2.other (by omega) x, s.b3.other (by omega) x, s.b4.other (by omega) x, s.below.setCell (by simp) _⟩
theorem LwSt.set2 {w W : World} {u v p q : Value} (s : LwSt w W u v p q) (x : Value) : LwSt w (W.setCell ⟨w.heap.size + 1, 0, none⟩ x) u x p q :=
  ⟨s.b1.other (by omega) x, s.b2.set x, s.b3.other (by omega) x, s.b4.other (by omega) x, s.below.setCell (by simp) _⟩
theorem not_int (a : Option Addr) (l c : Nat) : ∀ k n, (Value.slice a l c) ≠ .int k n := fun _ _ e => by cases e
theorem lowest_any (x y : Value) (m n k : Nat) (w : World) (hx : IsBig w x m) (hy : IsBig w y n) (hm : m < 1000000000 ^ k) (hn : n < 1000000000 ^ k) (h0 : 0 < n) (hD : DivAns k) (hG : GcdAns k) :
    Calls Tryz.prog 135 #[x, y] w fun e w' => ∃ a1 l1 c1 a2 l2 c2, e = .returned (.tuple #[.agg #[.slice a1 l1 c1], .agg #[.slice a2 l2 c2]]) ∧ IsBig w' (.agg #[.slice a1 l1 c1]) (m / Nat.gcd m n) ∧ IsBig w' (.agg #[.slice a2 l2 c2]) (n / Nat.gcd m n) ∧ Below w.heap.size w w' := by
  have HX := hide hx
  have HY := hide hy
  obtain ⟨ap, np, cp, rfl⟩ := hx.shape
  obtain ⟨aq, nq, cq, rfl⟩ := hy.shape
  have H51x : Hid (∀ W, IsBig W (.agg #[.slice ap np cp]) m → Calls Tryz.prog 121 #[.agg #[.slice ap np cp]] W fun e w' => e = .returned (.bool (m == 1)) ∧ Below W.heap.size W w') := fun W h => isOne_any _ m W h
  have H51y : Hid (∀ W, IsBig W (.agg #[.slice aq nq cq]) n → Calls Tryz.prog 121 #[.agg #[.slice aq nq cq]] W fun e w' => e = .returned (.bool (n == 1)) ∧ Below W.heap.size W w') := fun W h => isOne_any _ n W h
  have HD := hide hD
  have HG := hide hG
  have HM := hide hm
  have HNN := hide hn
  have H0 := hide h0
  clear hx hy hm hn h0 hD hG
  have HS0 := hide (LwSt.first w (.slice ap np cp) (.slice aq nq cq) (.slice none 0 0) (.slice none 0 0))
  go_enter Tryz.func135, Tryz.ntmps135
  by_cases h1 : m = 1
  · have hg : m / Nat.gcd m n = m ∧ n / Nat.gcd m n = n := by rw [h1]; simp
    rw [hg.1, hg.2]
    rw [show (m == 1) = true by rw [h1]; rfl] at H51x
    clear hg h1
    go_upto_region 2 with (go_at_call_of 121 (Value.agg #[Value.slice ap np cp]); go_must (refine (unhide H51x _ ((unhide HX).later (unhide HS0).below)).mono ?_; rintro e w1 ⟨rfl, hb1⟩; have HS := hide ((unhide HS0).later hb1); have HX1 := hide (((unhide HX).later (unhide HS0).below).later hb1); have HY1 := hide (((unhide HY).later (unhide HS0).below).later hb1); have b1 := (unhide HS).b1.c; have b2 := (unhide HS).b2.c; clear hb1))
    clear HS0 b1 b2
    have b1 := (unhide HS).b1.c; have b2 := (unhide HS).b2.c; have b3 := (unhide HS).b3.c; have b4 := (unhide HS).b4.c
    have f3 := (unhide HS).b3.f; have f4 := (unhide HS).b4.f
    go_region
    obtain ⟨V, hV⟩ : ∃ V, V = (((w1.setCell ⟨w.heap.size + 1 + 1, 0, none⟩ (.slice ap np cp)).setCell ⟨w.heap.size + 1 + 1 + 1, 0, none⟩ (.slice aq nq cq)).drew) := ⟨_, rfl⟩
    have HE : Hid (LwSt w V (.slice ap np cp) (.slice aq nq cq) (.slice ap np cp) (.slice aq nq cq) ∧ IsBig V (.agg #[.slice ap np cp]) m ∧ IsBig V (.agg #[.slice aq nq cq]) n) := by
      rw [hV]
      refine ⟨(((unhide HS).set3 _).set4 _).later ((Below.refl _ _).drew), ?_, ?_⟩
      · exact (((unhide HX1).box _ (unhide HS).b3.c (not_int _ _ _)).box _ ((unhide HS).set3 _).b4.c (not_int _ _ _)).later ((Below.refl _ _).drew)
      · exact (((unhide HY1).box _ (unhide HS).b3.c (not_int _ _ _)).box _ ((unhide HS).set3 _).b4.c (not_int _ _ _)).later ((Below.refl _ _).drew)
    rw [← hV]
    clear hV b1 b2 b3 b4 f3 f4
    have d3 := (unhide HE).1.b3.c; have d4 := (unhide HE).1.b4.c
    go_wp2_with fail
    exact bodyPost_ret (v := .tuple #[.agg #[.slice ap np cp], .agg #[.slice aq nq cq]]) (by simp [results, Tryz.results135, go_sem, d3, d4]) rfl ⟨_, _, _, _, _, _, rfl, (unhide HE).2.1, (unhide HE).2.2, (unhide HE).1.below⟩
  · rw [show (m == 1) = false by rw [beq_eq_false_iff_ne]; exact h1] at H51x
    by_cases h2 : n = 1
    · have hg : m / Nat.gcd m n = m ∧ n / Nat.gcd m n = n := by rw [h2]; simp
      rw [hg.1, hg.2]
      rw [show (n == 1) = true by rw [h2]; rfl] at H51y
      clear hg h1 h2
      go_upto_region 2 with (first
        | (go_at_call_of 121 (Value.agg #[Value.slice ap np cp]); go_must (refine (unhide H51x _ ((unhide HX).later (unhide HS0).below)).mono ?_; rintro e w1 ⟨rfl, hb1⟩; have HS := hide ((unhide HS0).later hb1); have HX1 := hide (((unhide HX).later (unhide HS0).below).later hb1); have HY1 := hide (((unhide HY).later (unhide HS0).below).later hb1); have b1 := (unhide HS).b1.c; have b2 := (unhide HS).b2.c; clear hb1))
        | (go_at_call_of 121 (Value.agg #[Value.slice aq nq cq]); go_must (refine (unhide H51y w1 (unhide HY1)).mono ?_; rintro e w2 ⟨rfl, hb2⟩; have HS2 := hide ((unhide HS).later hb2); have HX2 := hide ((unhide HX1).later hb2); have HY2 := hide ((unhide HY1).later hb2); clear b1 b2 hb2; have b1 := (unhide HS2).b1.c; have b2 := (unhide HS2).b2.c)))
      clear HS0 b1 b2
      have b1 := (unhide HS2).b1.c; have b2 := (unhide HS2).b2.c; have b3 := (unhide HS2).b3.c; have b4 := (unhide HS2).b4.c
      have f3 := (unhide HS2).b3.f; have f4 := (unhide HS2).b4.f
      go_region
      obtain ⟨V, hV⟩ : ∃ V, V = (((w2.setCell ⟨w.heap.size + 1 + 1, 0, none⟩ (.slice ap np cp)).setCell ⟨w.heap.size + 1 + 1 + 1, 0, none⟩ (.slice aq nq cq)).drew) := ⟨_, rfl⟩
      have HE : Hid (LwSt w V (.slice ap np cp) (.slice aq nq cq) (.slice ap np cp) (.slice aq nq cq) ∧ IsBig V (.agg #[.slice ap np cp]) m ∧ IsBig V (.agg #[.slice aq nq cq]) n) := by
        rw [hV]
        refine ⟨(((unhide HS2).set3 _).set4 _).later ((Below.refl _ _).drew), ?_, ?_⟩
        · exact (((unhide HX2).box _ (unhide HS2).b3.c (not_int _ _ _)).box _ ((unhide HS2).set3 _).b4.c (not_int _ _ _)).later ((Below.refl _ _).drew)
        · exact (((unhide HY2).box _ (unhide HS2).b3.c (not_int _ _ _)).box _ ((unhide HS2).set3 _).b4.c (not_int _ _ _)).later ((Below.refl _ _).drew)
      rw [← hV]
      clear hV b1 b2 b3 b4 f3 f4
      have d3 := (unhide HE).1.b3.c; have d4 := (unhide HE).1.b4.c
      go_wp2_with fail
      exact bodyPost_ret (v := .tuple #[.agg #[.slice ap np cp], .agg #[.slice aq nq cq]]) (by simp [results, Tryz.results135, go_sem, d3, d4]) rfl ⟨_, _, _, _, _, _, rfl, (unhide HE).2.1, (unhide HE).2.2, (unhide HE).1.below⟩
    · rw [show (n == 1) = false by rw [beq_eq_false_iff_ne]; exact h2] at H51y
      clear h1 h2
      go_upto_region 4 with (first
        | (go_at_call_of 121 (Value.agg #[Value.slice ap np cp]); go_must (refine (unhide H51x _ ((unhide HX).later (unhide HS0).below)).mono ?_; rintro e w1 ⟨rfl, hb1⟩; have HS := hide ((unhide HS0).later hb1); have HX1 := hide (((unhide HX).later (unhide HS0).below).later hb1); have HY1 := hide (((unhide HY).later (unhide HS0).below).later hb1); have b1 := (unhide HS).b1.c; have b2 := (unhide HS).b2.c; clear hb1))
        | (go_at_call_of 121 (Value.agg #[Value.slice aq nq cq]); go_must (refine (unhide H51y w1 (unhide HY1)).mono ?_; rintro e w2 ⟨rfl, hb2⟩; have HS2 := hide ((unhide HS).later hb2); have HX2 := hide ((unhide HX1).later hb2); have HY2 := hide ((unhide HY1).later hb2); clear b1 b2 hb2; have b1 := (unhide HS2).b1.c; have b2 := (unhide HS2).b2.c))
        | (go_at_call 120; go_must (refine (unhide HG w2 _ _ m n (unhide HX2) (unhide HY2) (unhide HM) (unhide HNN)).mono ?_; rintro e w3 ⟨ag, lg, cg, rfl, hg3, hb3⟩; have HS3 := hide ((unhide HS2).later hb3); have HX3 := hide ((unhide HX2).later hb3); have HY3 := hide ((unhide HY2).later hb3); have HG3 := hide hg3; clear b1 b2 hg3 hb3)))
      clear HS0
      obtain ⟨V, hV⟩ : ∃ V, V = w3.alloc (.cells #[.slice ag lg cg] 51) := ⟨_, rfl⟩
      have hbV : Below w3.heap.size w3 V := by rw [hV]; exact (Below.refl _ _).alloc (Nat.le_refl _) _
      have HS4 := hide ((unhide HS3).later hbV); have HX4 := hide ((unhide HX3).later hbV); have HY4 := hide ((unhide HY3).later hbV); have HG4 := hide ((unhide HG3).later hbV)
      have HB4 : Hid (Box V w3.heap.size (.slice ag lg cg)) := by rw [hV]; exact ⟨by simp [go_sem], by simp [go_sem]⟩
      have hlt : w.heap.size + 1 + 1 + 1 < w3.heap.size := (unhide HS3).b4.lt
      rw [← hV]
      clear hV hbV HS3 HX3 HY3 HG3 HS2 HX2 HY2 HS HX1 HY1
      generalize hgb : w3.heap.size = gb at *
      clear hgb
      have H51g : Hid (∀ W, IsBig W (.agg #[.slice ag lg cg]) (Nat.gcd m n) → Calls Tryz.prog 121 #[.agg #[.slice ag lg cg]] W fun e w' => e = .returned (.bool (Nat.gcd m n == 1)) ∧ Below W.heap.size W w') := fun W h => isOne_any _ _ W h
      have q6 := (unhide HB4).c
      by_cases h3 : Nat.gcd m n = 1
      · have HGE : Hid (m / Nat.gcd m n = m ∧ n / Nat.gcd m n = n) := ⟨by rw [h3]; simp, by rw [h3]; simp⟩
        rw [show (Nat.gcd m n == 1) = true by rw [h3]; rfl] at H51g
        clear h3
        go_upto_region 5 with (go_at_call 121; go_must (refine (unhide H51g V (unhide HG4)).mono ?_; rintro e w4 ⟨rfl, hb4⟩; have HS5 := hide ((unhide HS4).later hb4); have HX5 := hide ((unhide HX4).later hb4); have HY5 := hide ((unhide HY4).later hb4); clear hb4 q6))
        clear HS4 HX4 HY4 HG4 HB4
        have b1 := (unhide HS5).b1.c; have b2 := (unhide HS5).b2.c; have b3 := (unhide HS5).b3.c; have b4 := (unhide HS5).b4.c
        have f3 := (unhide HS5).b3.f; have f4 := (unhide HS5).b4.f
        go_region
        obtain ⟨V, hV⟩ : ∃ V, V = (((w4.setCell ⟨w.heap.size + 1 + 1, 0, none⟩ (.slice ap np cp)).setCell ⟨w.heap.size + 1 + 1 + 1, 0, none⟩ (.slice aq nq cq)).drew) := ⟨_, rfl⟩
        have HE : Hid (LwSt w V (.slice ap np cp) (.slice aq nq cq) (.slice ap np cp) (.slice aq nq cq) ∧ IsBig V (.agg #[.slice ap np cp]) m ∧ IsBig V (.agg #[.slice aq nq cq]) n) := by
          rw [hV]
          refine ⟨(((unhide HS5).set3 _).set4 _).later ((Below.refl _ _).drew), ?_, ?_⟩
          · exact (((unhide HX5).box _ (unhide HS5).b3.c (not_int _ _ _)).box _ ((unhide HS5).set3 _).b4.c (not_int _ _ _)).later ((Below.refl _ _).drew)
          · exact (((unhide HY5).box _ (unhide HS5).b3.c (not_int _ _ _)).box _ ((unhide HS5).set3 _).b4.c (not_int _ _ _)).later ((Below.refl _ _).drew)
        rw [← hV]
        clear hV b1 b2 b3 b4 f3 f4
        have d3 := (unhide HE).1.b3.c; have d4 := (unhide HE).1.b4.c
        go_wp2_with fail
        exact bodyPost_ret (v := .tuple #[.agg #[.slice ap np cp], .agg #[.slice aq nq cq]]) (by simp [results, Tryz.results135, go_sem, d3, d4]) rfl ⟨_, _, _, _, _, _, rfl, (by rw [(unhide HGE).1]; exact (unhide HE).2.1), (by rw [(unhide HGE).2]; exact (unhide HE).2.2), (unhide HE).1.below⟩
      · have HGP : Hid (0 < Nat.gcd m n) := Nat.gcd_pos_of_pos_right _ (unhide H0)
        rw [show (Nat.gcd m n == 1) = false by rw [beq_eq_false_iff_ne]; exact h3] at H51g
        clear h3
        go_upto_region 6 with (go_at_call 121; go_must (refine (unhide H51g V (unhide HG4)).mono ?_; rintro e w4 ⟨rfl, hb4⟩; have HS5 := hide ((unhide HS4).later hb4); have HX5 := hide ((unhide HX4).later hb4); have HY5 := hide ((unhide HY4).later hb4); have HG5 := hide ((unhide HG4).later hb4); have HB5 := hide ((unhide HB4).later hb4); clear hb4 q6))
        clear HS4 HX4 HY4 HG4 HB4
        have b1 := (unhide HS5).b1.c; have b2 := (unhide HS5).b2.c; have q6 := (unhide HB5).c
        go_upto_region 7 with (go_at_call 161; go_must (refine (unhide HD w4 _ _ m (Nat.gcd m n) (unhide HX5) (unhide HG5) (unhide HM) (unhide HGP)).mono ?_; rintro e w5 ⟨a1, l1, c1, a2, l2, c2, rfl, hq, hr, hb5⟩; have HS6 := hide ((unhide HS5).later hb5); have HY6 := hide ((unhide HY5).later hb5); have HG6 := hide ((unhide HG5).later hb5); have HB6 := hide ((unhide HB5).later hb5); have HQ6 := hide hq; clear hb5 hq hr b1 b2 q6; have b1 := (unhide HS6).b1.c; have f1 := (unhide HS6).b1.f))
        obtain ⟨V6, hV6⟩ : ∃ V6, V6 = w5.setCell ⟨w.heap.size, 0, none⟩ (.slice a1 l1 c1) := ⟨_, rfl⟩
        have HS7 : Hid (LwSt w V6 (.slice a1 l1 c1) (.slice aq nq cq) (.slice none 0 0) (.slice none 0 0)) := by rw [hV6]; exact (unhide HS6).set1 _
        have HY7 : Hid (IsBig V6 (.agg #[.slice aq nq cq]) n) := by rw [hV6]; exact (unhide HY6).box _ b1 (not_int _ _ _)
        have HG7 : Hid (IsBig V6 (.agg #[.slice ag lg cg]) (Nat.gcd m n)) := by rw [hV6]; exact (unhide HG6).box _ b1 (not_int _ _ _)
        have HQ7 : Hid (IsBig V6 (.agg #[.slice a1 l1 c1]) (m / Nat.gcd m n)) := by rw [hV6]; exact (unhide HQ6).box _ b1 (not_int _ _ _)
        have HB7 : Hid (Box V6 gb (.slice ag lg cg)) := by rw [hV6]; exact (unhide HB6).other (by omega) _
        rw [← hV6]
        clear hV6 HS6 HY6 HG6 HQ6 HB6 HS5 HX5 HY5 HG5 HB5 b1 f1
        have b2 := (unhide HS7).b2.c; have q6 := (unhide HB7).c
        go_upto_region 8 with (go_at_call 161; go_must (refine (unhide HD V6 _ _ n (Nat.gcd m n) (unhide HY7) (unhide HG7) (unhide HNN) (unhide HGP)).mono ?_; rintro e w7 ⟨a3, l3, c3, a4, l4, c4, rfl, hq, hr, hb7⟩; have HS8 := hide ((unhide HS7).later hb7); have HQ8 := hide ((unhide HQ7).later hb7); have HR8 := hide hq; clear hb7 hq hr b2 q6; have b2 := (unhide HS8).b2.c; have f2 := (unhide HS8).b2.f))
        obtain ⟨V8, hV8⟩ : ∃ V8, V8 = w7.setCell ⟨w.heap.size + 1, 0, none⟩ (.slice a3 l3 c3) := ⟨_, rfl⟩
        have HS9 : Hid (LwSt w V8 (.slice a1 l1 c1) (.slice a3 l3 c3) (.slice none 0 0) (.slice none 0 0)) := by rw [hV8]; exact (unhide HS8).set2 _
        have HQ9 : Hid (IsBig V8 (.agg #[.slice a1 l1 c1]) (m / Nat.gcd m n)) := by rw [hV8]; exact (unhide HQ8).box _ b2 (not_int _ _ _)
        have HR9 : Hid (IsBig V8 (.agg #[.slice a3 l3 c3]) (n / Nat.gcd m n)) := by rw [hV8]; exact (unhide HR8).box _ b2 (not_int _ _ _)
        rw [← hV8]
        clear hV8 HS8 HQ8 HR8 HS7 HY7 HG7 HQ7 HB7 b2 f2
        have b1 := (unhide HS9).b1.c; have b2 := (unhide HS9).b2.c; have b3 := (unhide HS9).b3.c; have b4 := (unhide HS9).b4.c
        have f3 := (unhide HS9).b3.f; have f4 := (unhide HS9).b4.f
        go_region
        obtain ⟨V, hV⟩ : ∃ V, V = (((V8.setCell ⟨w.heap.size + 1 + 1, 0, none⟩ (.slice a1 l1 c1)).setCell ⟨w.heap.size + 1 + 1 + 1, 0, none⟩ (.slice a3 l3 c3)).drew) := ⟨_, rfl⟩
        have HE : Hid (LwSt w V (.slice a1 l1 c1) (.slice a3 l3 c3) (.slice a1 l1 c1) (.slice a3 l3 c3) ∧ IsBig V (.agg #[.slice a1 l1 c1]) (m / Nat.gcd m n) ∧ IsBig V (.agg #[.slice a3 l3 c3]) (n / Nat.gcd m n)) := by
          rw [hV]
          refine ⟨(((unhide HS9).set3 _).set4 _).later ((Below.refl _ _).drew), ?_, ?_⟩
          · exact (((unhide HQ9).box _ (unhide HS9).b3.c (not_int _ _ _)).box _ ((unhide HS9).set3 _).b4.c (not_int _ _ _)).later ((Below.refl _ _).drew)
          · exact (((unhide HR9).box _ (unhide HS9).b3.c (not_int _ _ _)).box _ ((unhide HS9).set3 _).b4.c (not_int _ _ _)).later ((Below.refl _ _).drew)
        rw [← hV]
        clear hV b1 b2 b3 b4 f3 f4
        have d3 := (unhide HE).1.b3.c; have d4 := (unhide HE).1.b4.c
        go_wp2_with fail
        exact bodyPost_ret (v := .tuple #[.agg #[.slice a1 l1 c1], .agg #[.slice a3 l3 c3]]) (by simp [results, Tryz.results135, go_sem, d3, d4]) rfl ⟨_, _, _, _, _, _, rfl, (unhide HE).2.1, (unhide HE).2.2, (unhide HE).1.below⟩
end Go.Proofs.YtijifpbpjinmhaaGreatDoor
namespace Cub
theorem lval_set (B : Nat) : ∀ (l : List Nat) (i : Nat) (x : Nat) (h : i < l.length), lval B (l.set i x) + B ^ i * l[i] = lval B l + B ^ i * x := by
  intro l
  induction l with
  | nil => intro i x h; simp at h
  | cons a l ih =>
    intro i x h
    cases i with
    | zero => simp [lval]; omega
    | succ i =>
      have hi : i < l.length := by simpa using h
      have e := ih i x hi
      simp only [List.set_cons_succ, lval, List.getElem_cons_succ, Nat.pow_succ]
      have e2 := congrArg (B * ·) e
      simp only [Nat.mul_add] at e2
      have m1 : B ^ i * B * l[i] = B * (B ^ i * l[i]) := by rw [Nat.mul_comm (B ^ i) B, Nat.mul_assoc]
      have m2 : B ^ i * B * x = B * (B ^ i * x) := by rw [Nat.mul_comm (B ^ i) B, Nat.mul_assoc]
      omega
theorem limbs_set {B : Nat} {l : List Nat} (h : limbs B l) (i x : Nat) (hx : x < B) : limbs B (l.set i x) := by
  intro y hy
  rcases List.mem_or_eq_of_mem_set hy with h1 | h1
  · exact h y h1
  · omega
/-- What holds of a sum in the making: S the list (so long as the greater one, and one more), k what is carried, i the place. -/
structure AddInv (lp lq : List Nat) (S : List Nat) (k i : Nat) : Prop where
  len : S.length = lp.length + 1
  lim : limbs 1000000000 S
  rest : ∀ j (h : j < S.length), i ≤ j → S[j] = (lp ++ [0])[j]'(by simp; omega)
  val : lval 1000000000 S + 1000000000 ^ i * k = lval 1000000000 lp + lval 1000000000 (lq.take i)
  carry : k ≤ 1
  place : i ≤ lp.length + 1
theorem AddInv.start {lp lq : List Nat} (hp : limbs 1000000000 lp) : AddInv lp lq (lp ++ [0]) 0 0 :=
  ⟨by simp, limbs_append.2 ⟨hp, fun x hx => by rw [List.mem_singleton] at hx; omega⟩, fun j h _ => rfl, by rw [lval_snoc]; simp [lval], by omega, by omega⟩
theorem take_val (l : List Nat) (i : Nat) (h : i < l.length) : lval 1000000000 (l.take (i + 1)) = lval 1000000000 (l.take i) + 1000000000 ^ i * l[i] := by
  rw [List.take_succ_eq_append_getElem h, lval_snoc, List.length_take, Nat.min_eq_left (by omega)]
theorem take_val' (l : List Nat) (i : Nat) (h : l.length ≤ i) : lval 1000000000 (l.take (i + 1)) = lval 1000000000 (l.take i) := by
  rw [List.take_of_length_le (by omega), List.take_of_length_le h]
/-- One place more; c is the other one's limb there, or 0. -/
theorem AddInv.step {lp lq S : List Nat} {k i c : Nat} (h : AddInv lp lq S k i) (hi : i < S.length) (hc : c < 1000000000)
    (hcv : lval 1000000000 (lq.take (i + 1)) = lval 1000000000 (lq.take i) + 1000000000 ^ i * c) :
    AddInv lp lq (S.set i ((k + S[i] + c) % 1000000000)) ((k + S[i] + c) / 1000000000) (i + 1) := by
  have hS := h.lim S[i] (List.getElem_mem hi)
  have hk := h.carry
  have hl := h.len
  refine ⟨by simp [h.len], limbs_set h.lim i _ (Nat.mod_lt _ (by decide)), ?_, ?_, by omega, by omega⟩
  · intro j hj hij
    rw [List.getElem_set_ne (by omega)]
    exact h.rest j (by simpa using hj) (by omega)
  · have e1 := lval_set 1000000000 S i ((k + S[i] + c) % 1000000000) hi
    have e2 := h.val
    have e3 : k + S[i] + c = 1000000000 * ((k + S[i] + c) / 1000000000) + (k + S[i] + c) % 1000000000 := (Nat.div_add_mod _ _).symm
    generalize (k + S[i] + c) / 1000000000 = q at *
    generalize (k + S[i] + c) % 1000000000 = r at *
    rw [hcv, Nat.pow_succ]
    have e4 := congrArg (1000000000 ^ i * ·) e3
    simp only [Nat.mul_add] at e4
    have m1 : 1000000000 ^ i * 1000000000 * q = 1000000000 ^ i * (1000000000 * q) := Nat.mul_assoc _ _ _
    omega
/-- At the end nothing is carried. -/
theorem AddInv.last {lp lq S : List Nat} {k i : Nat} (h : AddInv lp lq S k i) (hp : limbs 1000000000 lp) (hq : limbs 1000000000 lq) (hl : lq.length ≤ lp.length) (hi : i = lp.length + 1) : k = 0 := by
  have h1 := lval_lt hp
  have h2 : lval 1000000000 (lq.take i) < 1000000000 ^ lp.length := by
    have := lval_lt (B := 1000000000) (l := lq.take i) (fun x hx => hq x (List.mem_of_mem_take hx))
    exact Nat.lt_of_lt_of_le this (Nat.pow_le_pow_right (by decide) (by rw [List.length_take]; omega))
  have h3 := h.val
  rw [hi, Nat.pow_succ] at h3
  rcases Nat.eq_zero_or_pos k with h0 | h0
  · exact h0
  · have : 1000000000 ^ lp.length * 1000000000 * 1 ≤ 1000000000 ^ lp.length * 1000000000 * k := Nat.mul_le_mul_left _ h0
    rw [hi] at h2
    omega
theorem AddInv.sum {lp lq S : List Nat} {i : Nat} (h : AddInv lp lq S 0 i) (hi : lq.length ≤ i) : lval 1000000000 S = lval 1000000000 lp + lval 1000000000 lq := by
  have := h.val
  rw [List.take_of_length_le hi] at this
  simpa using this
end Cub
namespace Go.Proofs.YtijifpbpjinmhaaGreatDoor
open Go.RowKit
theorem Tryz.size41 : (Tryz.prog.info? 41).map (·.size) = some 1 := by kernel_rfl
/-- What is read of a row in every later world. -/
def Cells (w : World) (a : Option Addr) (l : List Nat) : Prop :=
  ∀ W, Below w.heap.size w W → ∀ i (hi : i < l.length), ∃ b o, a = some ⟨b, o, none⟩ ∧ W.cell? ⟨b, o + i, none⟩ = some (.int .u64 (l[i] : Int))
theorem Row.cells {w : World} {a : Option Addr} {n cap : Nat} {l : List Nat} (h : Row w (.slice a n cap) l) : n = l.length ∧ n ≤ cap ∧ cap ≤ 9223372036854775807 ∧ Cells w a l := by
  obtain ⟨a', cap', e, hc, hm, hr⟩ := h
  simp only [Value.slice.injEq] at e
  obtain ⟨rfl, rfl, rfl⟩ := e
  refine ⟨rfl, hc, hm, fun W hW i hi => ?_⟩
  obtain ⟨b, o, rfl, hlt, hcell⟩ := hr (fun e => by rw [e] at hi; simp at hi)
  exact ⟨b, o, rfl, (hW.cell (p := ⟨b, o + i, none⟩) hlt).trans (hcell i hi)⟩
/-- The source of a copy. -/
theorem Cells.src {w W : World} {a : Option Addr} {l : List Nat} (h : Cells w a l) (hW : Below w.heap.size w W) (h0 : 0 < l.length) :
    ∃ ad, a = some ad ∧ ∀ j v, (u64s l)[j]? = some v → W.cell? (ad.add j) = some v := by
  obtain ⟨b, o, rfl, _⟩ := h W hW 0 h0
  refine ⟨⟨b, o, none⟩, rfl, fun j v hj => ?_⟩
  have hjl : j < l.length := by
    have := (List.getElem?_eq_some_iff.1 hj).1
    rwa [u64s_length] at this
  rw [u64s_get l j hjl, Option.some.injEq] at hj
  obtain ⟨b', o', e, hc⟩ := h W hW j hjl
  simp only [Option.some.injEq, Addr.mk.injEq] at e
  obtain ⟨rfl, rfl, _⟩ := e
  rw [Lib.add_plain, hc, hj]
theorem splice_sum (l : List Nat) (n : Nat) (h : n = l.length) : splice (u64s (List.replicate (n + 1) 0)) 0 (u64s l) = u64s (l ++ [0]) := by
  subst h
  unfold splice u64s
  simp
theorem u64s_one (l : List Nat) : ∀ v ∈ u64s l, v.oneCell' = true := by
  intro v hv
  simp only [u64s, List.mem_map] at hv
  obtain ⟨x, _, rfl⟩ := hv
  rfl
/-- Three boxes, kept. -/
structure Boxes3 (w w4 : World) (a b c : Value) : Prop where
  c1 : w4.cell? ⟨w.heap.size, 0, none⟩ = some a
  c2 : w4.cell? ⟨w.heap.size + 1, 0, none⟩ = some b
  c3 : w4.cell? ⟨w.heap.size + 1 + 1, 0, none⟩ = some c
  f3 : w4.frozen? ⟨w.heap.size + 1 + 1, 0, none⟩ = false
  below : Below w.heap.size w w4
  size : w.heap.size + 3 ≤ w4.heap.size
theorem boxes3 {w w4 : World} {a b c : Value} (hb : Below (w.heap.size + 3) (((w.alloc (.cells #[a] 51)).alloc (.cells #[b] 51)).alloc (.cells #[c] 51)) w4) : Boxes3 w w4 a b c := by
  refine ⟨?_, ?_, ?_, ?_, ?_, ?_⟩
  · rw [hb.cell (p := ⟨w.heap.size, 0, none⟩) (show w.heap.size < w.heap.size + 3 by omega)]; simp [go_sem]
  · rw [hb.cell (p := ⟨w.heap.size + 1, 0, none⟩) (show w.heap.size + 1 < w.heap.size + 3 by omega)]; simp [go_sem]
  · rw [hb.cell (p := ⟨w.heap.size + 1 + 1, 0, none⟩) (show w.heap.size + 1 + 1 < w.heap.size + 3 by omega)]; simp [go_sem]
  · rw [hb.frozen (p := ⟨w.heap.size + 1 + 1, 0, none⟩) (show w.heap.size + 1 + 1 < w.heap.size + 3 by omega)]; simp [go_sem]
  · exact ((((Below.refl _ _).alloc (Nat.le_refl _) _).alloc (by simp) _).alloc (by simp; omega) _).trans (hb.mono (by omega))
  · have := hb.size; simp at this; omega
theorem Boxes3.on {w w4 w5 : World} {a b c : Value} (h : Boxes3 w w4 a b c) (hb : Below (w.heap.size + 3) w4 w5) : Boxes3 w w5 a b c :=
  ⟨(hb.cell (p := ⟨w.heap.size, 0, none⟩) (show w.heap.size < w.heap.size + 3 by omega)).trans h.c1, (hb.cell (p := ⟨w.heap.size + 1, 0, none⟩) (show w.heap.size + 1 < w.heap.size + 3 by omega)).trans h.c2,
    (hb.cell (p := ⟨w.heap.size + 1 + 1, 0, none⟩) (show w.heap.size + 1 + 1 < w.heap.size + 3 by omega)).trans h.c3, (hb.frozen (p := ⟨w.heap.size + 1 + 1, 0, none⟩) (show w.heap.size + 1 + 1 < w.heap.size + 3 by omega)).trans h.f3,
    h.below.trans (hb.mono (by omega)), by have := hb.size; have := h.size; omega⟩
end Go.Proofs.YtijifpbpjinmhaaGreatDoor

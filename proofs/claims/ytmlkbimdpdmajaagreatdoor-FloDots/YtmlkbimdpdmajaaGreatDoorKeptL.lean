/- flo: the law's kept (13): what was lent is as it was; FloSums (3): true, whatever the floats. -/
import Derived.Test.YtmlkbimdpdmajaaGreatDoorWords
import Derived.Laws.FloatArith
import Derived.Sort.OwnSorted
import Derived.Laws.AppendOwnNone
import Derived.WalkSmall
import Derived.BigQuiet
import Derived.Lib.SmallJoins
import Derived.OwnWalk
import Derived.Test.YtmlkbimdpdmajaaGreatDoorLimb5
import Derived.SizedLaws
import Derived.Carry
import Derived.Laws.Cover2
import Derived.Test.YtmlkbimdpdmajaaGreatDoorTextT
namespace Go.Proofs.YtmlkbimdpdmajaaGreatDoor
open Go.RowKit
attribute [local go_sem] run_bits run_from
set_option maxRecDepth 100000 in
theorem abs_any (b : Nat) (hb : b < 18446744073709551616) (w : World) : Calls Tryz.prog 20 #[.float .f64 b] w fun e w' => e = .returned (.float .f64 (b % 9223372036854775808)) ∧ w' = w := by
  have h := andNot_top b hb
  go_enter Tryz.func20, Tryz.ntmps20
  go_wp2
  go_ret
  exact ⟨rfl, rfl⟩
theorem nanC_lt (t : Nat) : nanC t < 18446744073709551616 := by unfold nanC; omega
theorem order_nan_r (b c : Nat) (h : nanB c = true) : FloatKind.f64.format.order b c = none := by
  show (Ieee.double.read b).order (Ieee.double.read c) = none
  obtain ⟨s, p, e⟩ := read_nan c h
  rw [e]
  cases Ieee.double.read b <;> rfl
/-- The bits, all that are no number read as one. -/
def nm (b : Nat) : Nat := if nanB b then 9221120237041090561 else b
/-- What an operation gives, read so. -/
def opN (op : BinOp) (x y : Nat) : Nat := match floatBits op .f64 x y with
  | some r => nm r
  | none => 9221120237041090561
/-- What it gives in a world, and the world behind it. -/
def vA (op : BinOp) (x y : Nat) (w : World) : Nat := match floatBits op .f64 x y with
  | some r => r
  | none => nanC (w.tape w.drawn (.nanBits .f64 x y))
def wA (op : BinOp) (x y : Nat) (w : World) : World := match floatBits op .f64 x y with
  | some _ => w
  | none => w.drew
theorem below_wA (op : BinOp) (x y : Nat) {B : Nat} {w W : World} (h : Below B w W) : Below B w (wA op x y W) := by
  unfold wA
  split
  · exact h
  · exact h.drew
theorem vA_lt (op : BinOp) (x y : Nat) (w : World) : vA op x y w < 18446744073709551616 := by
  unfold vA
  split
  · rename_i h
    have := floatBits_wf h
    simpa [Lit.wf] using this
  · exact nanC_lt _
theorem qnan_nan : nanB 9221120237041090561 = true := by decide +kernel
theorem nm_nan {b : Nat} (h : nanB b = true) : nm b = 9221120237041090561 := by unfold nm; rw [if_pos h]
theorem nm_num {b : Nat} (h : nanB b = false) : nm b = b := by unfold nm; rw [if_neg (by rw [h]; decide)]
theorem fb_nan_l (op : BinOp) (x y : Nat) (hop : op = .add ∨ op = .sub ∨ op = .mul) (h : nanB x = true) : floatBits op .f64 x y = none := by
  obtain ⟨s, p, e⟩ := read_nan x h
  rcases hop with rfl | rfl | rfl
  · show ((Ieee.double.read x).sum (Ieee.double.read y)).map _ = none
    rw [e]; rfl
  · show ((Ieee.double.read x).sum (Ieee.double.read y).opposite).map _ = none
    rw [e]; rfl
  · show ((Ieee.double.read x).product (Ieee.double.read y)).map _ = none
    rw [e]; rfl
theorem fb_nan_r (op : BinOp) (x y : Nat) (hop : op = .add ∨ op = .sub ∨ op = .mul) (h : nanB y = true) : floatBits op .f64 x y = none := by
  obtain ⟨s, p, e⟩ := read_nan y h
  rcases hop with rfl | rfl | rfl
  · show ((Ieee.double.read x).sum (Ieee.double.read y)).map _ = none
    rw [e]; cases Ieee.double.read x <;> rfl
  · show ((Ieee.double.read x).sum (Ieee.double.read y).opposite).map _ = none
    rw [e]; cases Ieee.double.read x <;> rfl
  · show ((Ieee.double.read x).product (Ieee.double.read y)).map _ = none
    rw [e]; cases Ieee.double.read x <;> rfl
theorem nm_vA (op : BinOp) (x y : Nat) (w : World) (hop : op = .add ∨ op = .sub ∨ op = .mul) : nm (vA op x y w) = opN op (nm x) (nm y) := by
  cases hx : nanB x
  · cases hy : nanB y
    · rw [nm_num hx, nm_num hy]
      unfold vA opN
      split
      · rfl
      · exact nm_nan (nanC_nan _)
    · rw [nm_nan hy]
      unfold vA opN
      rw [fb_nan_r op x y hop hy, fb_nan_r op _ _ hop qnan_nan]
      exact nm_nan (nanC_nan _)
  · rw [nm_nan hx]
    unfold vA opN
    rw [fb_nan_l op x y hop hx, fb_nan_l op _ _ hop qnan_nan]
    exact nm_nan (nanC_nan _)
theorem run_arith (op : BinOp) (t : TypeId) (P : Program) (w : World) (x y : Nat) (hop : op = .add ∨ op = .sub ∨ op = .mul) : (binOp op t (.float .f64 x) (.float .f64 y)).run P w = .ok (.float .f64 (vA op x y w)) (wA op x y w) := by
  unfold vA wA
  cases e : floatBits op .f64 x y with
  | some r => exact run_float_arith w op t .f64 x y r e
  | none =>
    rcases hop with rfl | rfl | rfl
    all_goals
      simp only [floatBits] at e
      first
      | show (Op.floatArith .add .f64 x y).run P w = _
      | show (Op.floatArith .sub .f64 x y).run P w = _
      | show (Op.floatArith .mul .f64 x y).run P w = _
      unfold Op.floatArith
      simp [e, Question.forced, Question.cut, nanC]
theorem run_add (t : TypeId) (P : Program) (w : World) (x y : Nat) : (binOp .add t (.float .f64 x) (.float .f64 y)).run P w = .ok (.float .f64 (vA .add x y w)) (wA .add x y w) := run_arith _ _ _ _ _ _ (Or.inl rfl)
theorem run_sub (t : TypeId) (P : Program) (w : World) (x y : Nat) : (binOp .sub t (.float .f64 x) (.float .f64 y)).run P w = .ok (.float .f64 (vA .sub x y w)) (wA .sub x y w) := run_arith _ _ _ _ _ _ (Or.inr (Or.inl rfl))
theorem run_mul (t : TypeId) (P : Program) (w : World) (x y : Nat) : (binOp .mul t (.float .f64 x) (.float .f64 y)).run P w = .ok (.float .f64 (vA .mul x y w)) (wA .mul x y w) := run_arith _ _ _ _ _ _ (Or.inr (Or.inr rfl))
theorem nm_add (x y : Nat) (w : World) : nm (vA .add x y w) = opN .add (nm x) (nm y) := nm_vA _ _ _ _ (Or.inl rfl)
theorem nm_sub (x y : Nat) (w : World) : nm (vA .sub x y w) = opN .sub (nm x) (nm y) := nm_vA _ _ _ _ (Or.inr (Or.inl rfl))
theorem nm_mul (x y : Nat) (w : World) : nm (vA .mul x y w) = opN .mul (nm x) (nm y) := nm_vA _ _ _ _ (Or.inr (Or.inr rfl))
theorem same_nm (a b : Nat) : sameB a b = decide (nm a = nm b) := by
  unfold sameB nm
  cases h1 : nanB a <;> cases h2 : nanB b
  · simp
  · have : a ≠ 9221120237041090561 := by rintro rfl; rw [qnan_nan] at h1; cases h1
    have h3 : a ≠ b := by rintro rfl; rw [h1] at h2; cases h2
    simp [this, h3]
  · have : b ≠ 9221120237041090561 := by rintro rfl; rw [qnan_nan] at h2; cases h2
    have h3 : a ≠ b := by rintro rfl; rw [h1] at h2; cases h2
    simp [Ne.symm this, h3]
  · simp
/-- Rows of floats. -/
def fV (l : List Nat) : List Value := l.map (Value.float .f64)
theorem fV_get (l : List Nat) (i : Nat) (h : i < l.length) : (fV l)[i]? = some (.float .f64 l[i]) := by simp [fV, h]
theorem fV_one (l : List Nat) : ∀ u ∈ fV l, u.oneCell' = true := by
  intro u hu
  unfold fV at hu
  obtain ⟨s, _, rfl⟩ := List.mem_map.1 hu
  rfl
def OwnF (w : World) (base : Nat) (v : Value) (l : List Nat) : Prop := w.ownsRow base 25 1 v l.length (fV l)
def RowF (w : World) (v : Value) (l : List Nat) : Prop :=
  ∃ a cap, v = .slice a l.length cap ∧ l.length ≤ cap ∧ cap ≤ 9223372036854775807 ∧ (a = none → cap = 0) ∧ ∀ i (h : i < l.length), ∃ b o, a = some ⟨b, o, none⟩ ∧ b < w.heap.size ∧ w.cell? ⟨b, o + i, none⟩ = some (.float .f64 l[i])
theorem RowF.later {w w' : World} {v : Value} {l : List Nat} (h : RowF w v l) (hb : Below w.heap.size w w') : RowF w' v l := by
  obtain ⟨a, cap, rfl, hc, hm, hn, hr⟩ := h
  refine ⟨a, cap, rfl, hc, hm, hn, fun i hi => ?_⟩
  obtain ⟨b, o, rfl, hlt, hcell⟩ := hr i hi
  have := hb.size
  exact ⟨b, o, rfl, by omega, (hb.cell (p := ⟨b, o + i, none⟩) hlt).trans hcell⟩
theorem OwnF.later {w w' : World} {base : Nat} {v : Value} {l : List Nat} (h : OwnF w base v l) (hb : Below w.heap.size w w') : OwnF w' base v l := by
  obtain ⟨hx, h2⟩ := h
  refine ⟨hx, ?_⟩
  rcases h2 with h2 | ⟨g, cap, cur, e, hbs, hg, r⟩
  · exact Or.inl h2
  · exact Or.inr ⟨g, cap, cur, e, hbs, (hb.block g (Array.getElem?_eq_some_iff.1 hg).1).trans hg, r⟩
theorem RowF.of_own {w : World} {base : Nat} {v : Value} {l : List Nat} (h : OwnF w base v l) : RowF w v l := by
  have h' : w.ownsRow base 25 1 v l.length (fV l) := h
  rcases Joins.ownsRow_forms h' with ⟨rfl, h0⟩ | ⟨g, cap, rfl⟩
  · exact ⟨none, 0, by rw [h0], by omega, by omega, fun _ => rfl, fun i hi => by omega⟩
  · obtain ⟨hx, h2⟩ := id h'
    rcases h2 with ⟨e, _⟩ | ⟨g', cap', cur, e, hb, hg, hcap, hmax, hsz, htk⟩
    · cases e
    · simp only [Value.slice.injEq, Option.some.injEq, Addr.mk.injEq] at e
      obtain ⟨⟨rfl, _⟩, _, rfl⟩ := e
      refine ⟨some ⟨g, 0, none⟩, cap, rfl, hcap, hmax, fun e => (by cases e), fun i hi => ⟨g, 0, rfl, (Array.getElem?_eq_some_iff.1 hg).1, ?_⟩⟩
      rw [Nat.zero_add, h'.cellAt i (by omega), fV_get l i hi]
theorem RowF.take {w : World} {a : Option Addr} {n cap : Nat} {l : List Nat} (h : RowF w (.slice a n cap) l) (k : Nat) (hk : k ≤ n) : RowF w (.slice a k cap) (l.take k) := by
  obtain ⟨a', cap', e, hc, hm, hn, hr⟩ := h
  simp only [Value.slice.injEq] at e
  obtain ⟨rfl, rfl, rfl⟩ := e
  have hl : (l.take k).length = k := by rw [List.length_take]; omega
  refine ⟨a, cap, by rw [hl], by omega, hm, hn, fun i hi => ?_⟩
  rw [List.getElem_take]
  exact hr i (by omega)
end Go.Proofs.YtmlkbimdpdmajaaGreatDoor

namespace Go.Proofs.YtmlkbimdpdmajaaGreatDoor
open Go.ChangeShapes Go.WideShapes Go.ChangeAt Go.RowKit
theorem laidOut : laidOutB Tryz.prog = true := by kernel_rfl
theorem under22 : Tryz.prog.underlying 22 = some (.slice 25) := by kernel_rfl
theorem cellsOf25 : Tryz.prog.cellsOf 25 = 1 := by kernel_rfl
theorem bytesOf25 : Tryz.prog.bytesOf 25 = 8 := by kernel_rfl
set_option maxRecDepth 100000 in
theorem flo_cell {H : Type} {enc : TypeId × Value → H} {W : World} {base : Nat} {sp : Nat → Bool} {held : Bool} {n : Nat} {cs : List Value} {y : DataW H × List MemPlace} (h : DataW.trod enc Tryz.prog W base sp held n 25 cs = some y) : ∃ b : Nat, cs = [.float .f64 b] ∧ b < 18446744073709551616 := by
  cases n with
  | zero => simp [DataW.trod] at h
  | succ n =>
    have hs : ∃ (k : FloatKind) (b : Nat), cs = [.float k b] := by
      unfold DataW.trod at h
      rw [Tryz.underlying25] at h
      simp only at h
      split at h
      all_goals first
        | exact ⟨_, _, rfl⟩
        | simp_all
    obtain ⟨k, b, rfl⟩ := hs
    simp only [DataW.trod, Tryz.underlying25] at h
    by_cases hk : FloatKind.f64 = k ∧ (Lit.float k b).wf = true
    · obtain ⟨rfl, hw⟩ := hk
      exact ⟨b, rfl, by simpa [Lit.wf] using hw⟩
    · cases k
      · simp at h
      · rw [if_neg (by simpa using hk)] at h
        cases h
def bitsAt (W : World) (a : Addr) (i : Nat) : Nat := match W.cell? (a.add i) with
  | some (.float _ b) => b
  | _ => 0
set_option maxRecDepth 100000 in
theorem open_row {H : Type} {enc : TypeId × Value → H} {W : World} {base : Nat} {v : Value} {d : DataW H} {p : List MemPlace} (hval : Value.okWide Tryz.prog W .any base 22 v)
    (h : DataW.Trod enc Tryz.prog W 0 (fun _ => true) true 22 v d p) : ∃ l, RowF W v l ∧ (∀ x ∈ l, x < 18446744073709551616) ∧ (l = [] ∨ ∃ es rs, d = .slice es rs ∧ es.length = l.length) := by
  obtain ⟨a0, len, cap, rfl⟩ := okWide_slice under22 hval
  obtain ⟨fuel, hf⟩ := h
  rcases DataW.trod_slice under22 hf with ⟨hcs, hx⟩ | ⟨a, len', cap', elems, rest, n, _, hcs, hx, _, hl, hm, hlen, hel, _, _⟩
  · simp [Value.cells] at hcs
    obtain ⟨rfl, rfl, rfl⟩ := hcs
    exact ⟨[], ⟨none, 0, rfl, by simp, by omega, fun _ => rfl, fun i hi => absurd hi (Nat.not_lt_zero _)⟩, fun x hx => (by cases hx), Or.inl rfl⟩
  · simp [Value.cells] at hcs
    obtain ⟨rfl, rfl, rfl⟩ := hcs
    simp only [Prod.mk.injEq] at hx
    obtain ⟨rfl, rfl⟩ := hx
    have each : ∀ i, i < len → ∃ b : Nat, W.cell? (a.add i) = some (.float .f64 b) ∧ b < 18446744073709551616 := by
      intro i hi
      have h1 := hel i hi
      rw [cellsOf25, Nat.mul_one, List.getElem?_eq_getElem (by omega), Option.bind_eq_some_iff] at h1
      obtain ⟨cs, hc, hy⟩ := h1
      obtain ⟨b, rfl, hb⟩ := flo_cell hy
      exact ⟨b, cell_of_cells?_one hc, hb⟩
    refine ⟨(List.range len).map (bitsAt W a), ⟨some a, cap, by simp, by simpa using hl, by unfold maxLen at hm; omega, fun e => (by cases e), fun i hi => ?_⟩, fun x hx => ?_, Or.inr ⟨_, _, rfl, by simp [hlen]⟩⟩
    · have hi' : i < len := by simpa using hi
      obtain ⟨b, hb, _⟩ := each i hi'
      obtain ⟨b0, hb0, _⟩ := each 0 (by omega)
      have hsp := World.cell?_spot hb0
      obtain ⟨g, off, spot⟩ := a
      have hspot : spot = none := by simpa [Addr.add] using hsp
      subst hspot
      have hgt : (List.map (bitsAt W ⟨g, off, none⟩) (List.range len))[i] = b := by
        simp [bitsAt, hb]
      rw [hgt]
      rw [add_plain] at hb
      exact ⟨g, off, rfl, World.block_lt_of_cell? _ _ hb, hb⟩
    · obtain ⟨i, hi, rfl⟩ := List.mem_map.1 hx
      obtain ⟨b, hb, hlt⟩ := each i (List.mem_range.1 hi)
      unfold bitsAt
      rw [hb]
      exact hlt
theorem row_len {H : Type} {l : List Nat} {d : DataW H} (h : l = [] ∨ ∃ es rs, d = .slice es rs ∧ es.length = l.length)
    {ts : List TypeId} {ds : List (DataW H)} {j : Nat} (hz : (DataW.weightsEach Tryz.prog ts ds).all (· ≤ reachBytes) = true) (ht : ts[j]? = some 22) (hd : ds[j]? = some d) : l.length ≤ 17592186044415 := by
  rcases h with rfl | ⟨es, rs, rfl, e⟩
  · simp
  · have := sized_slice hz ht hd under22
    rw [bytesOf25] at this
    unfold reachBytes at this
    omega
end Go.Proofs.YtmlkbimdpdmajaaGreatDoor

namespace Go.Proofs.YtmlkbimdpdmajaaGreatDoor
open Go.RowKit
attribute [local go_sem] run_add run_sub run_mul
def sumN (l : List Nat) : Nat := l.foldl (fun s x => opN .add s (nm x)) 0
theorem sumN_take (l : List Nat) (k : Nat) (h : k < l.length) : sumN (l.take (k + 1)) = opN .add (sumN (l.take k)) (nm l[k]) := by
  unfold sumN
  rw [List.take_succ_eq_append_getElem h, List.foldl_append]
  rfl
theorem nm_zero : nm 0 = 0 := by decide +kernel
set_option maxRecDepth 100000 in
set_option maxHeartbeats 1000000 in
theorem sum_any (v : Value) (l : List Nat) (w : World) (h : RowF w v l) : Calls Tryz.prog 9 #[v] w fun e w' => ∃ r : Nat, e = .returned (.float .f64 r) ∧ nm r = sumN l ∧ r < 18446744073709551616 ∧ Below w.heap.size w w' := by
  obtain ⟨a, cap, rfl, hc, hm, hn, hr⟩ := h
  have HR := hide hr
  obtain ⟨n, hl⟩ : ∃ n, n = l.length := ⟨_, rfl⟩
  rw [← hl] at hc ⊢
  have HL := hide hl
  clear hr hl hn
  go_enter Tryz.func9, Tryz.ntmps9
  go_wp2
  go_loopw [3, 5, 8] (fun s3 _ s8 wr => ∃ k r : Nat, k ≤ n ∧ s8 = .int .i64 (k : Int) ∧ s3 = .float .f64 r ∧ Hid (nm r = sumN (l.take k)) ∧ Hid (r < 18446744073709551616) ∧ Hid (Below w.heap.size w wr)) (fun _ _ s8 _ => n - (intOf s8).toNat)
  case atStart => exact ⟨0, 0, Nat.zero_le _, rfl, rfl, nm_zero, by show _ < _; decide, Below.refl _ _⟩
  case round =>
    obtain ⟨k, r, hk, rfl, rfl, HT, HB, HW⟩ := hrel
    by_cases hkn : k < n
    · have hkl : k < l.length := by have := unhide HL; omega
      obtain ⟨b, o, rfl, hb, hcell⟩ := unhide HR k hkl
      obtain ⟨x, hx⟩ : ∃ x, x = l[k] := ⟨_, rfl⟩
      have c1 : wr.cell? ⟨b, o + k, none⟩ = some (.float .f64 x) := by rw [(unhide HW).cell (p := ⟨b, o + k, none⟩) hb, hcell, hx]
      have hkI : (k : Int) < (n : Int) := by omega
      have HT2 : Hid (∀ W, nm (vA .add r x W) = sumN (l.take (k + 1))) := fun W => by rw [nm_add, unhide HT, sumN_take l k hkl, hx]
      clear hcell hx hkl HT
      go_wp2_with fail
      go_roundw
      case rel => exact ⟨k + 1, _, by omega, by go_num, rfl, unhide HT2 _, vA_lt _ _ _ _, below_wA _ _ _ (unhide HW)⟩
      case measure => simp [intOf]; omega
    · have hkI : ¬ (k : Int) < (n : Int) := by omega
      have HT2 : Hid (nm r = sumN l) := by
        have e := unhide HT
        rw [List.take_of_length_le (by have := unhide HL; omega)] at e
        exact e
      clear HT
      go_wp2_with fail
      go_ret
      exact ⟨r, rfl, unhide HT2, unhide HB, unhide HW⟩
set_option maxRecDepth 100000 in
set_option maxHeartbeats 1000000 in
theorem sumr_any (v : Value) (l : List Nat) (w : World) (h : RowF w v l) : Calls Tryz.prog 10 #[v] w fun e w' => ∃ r : Nat, e = .returned (.float .f64 r) ∧ nm r = sumN l ∧ r < 18446744073709551616 ∧ Below w.heap.size w w' := by
  obtain ⟨a, cap, rfl, hc, hm, hn, hr⟩ := h
  have HR := hide hr
  obtain ⟨n, hl⟩ : ∃ n, n = l.length := ⟨_, rfl⟩
  rw [← hl] at hc ⊢
  have HL := hide hl
  clear hr hl hn
  go_enter Tryz.func10, Tryz.ntmps10
  go_wp2
  go_loopw [3, 4] (fun s3 s4 wr => ∃ k r : Nat, k ≤ n ∧ s4 = .int .i64 (k : Int) ∧ s3 = .float .f64 r ∧ Hid (nm r = sumN (l.take k)) ∧ Hid (r < 18446744073709551616) ∧ Hid (Below w.heap.size w wr)) (fun _ s4 _ => n - (intOf s4).toNat)
  case atStart => exact ⟨0, 0, Nat.zero_le _, rfl, rfl, nm_zero, by show _ < _; decide, Below.refl _ _⟩
  case round =>
    obtain ⟨k, r, hk, rfl, rfl, HT, HB, HW⟩ := hrel
    by_cases hkn : k < n
    · have hkl : k < l.length := by have := unhide HL; omega
      obtain ⟨b, o, rfl, hb, hcell⟩ := unhide HR k hkl
      obtain ⟨x, hx⟩ : ∃ x, x = l[k] := ⟨_, rfl⟩
      have c1 : wr.cell? ⟨b, o + k, none⟩ = some (.float .f64 x) := by rw [(unhide HW).cell (p := ⟨b, o + k, none⟩) hb, hcell, hx]
      have hkI : (k : Int) < (n : Int) := by omega
      have HT2 : Hid (∀ W, nm (vA .add r x W) = sumN (l.take (k + 1))) := fun W => by rw [nm_add, unhide HT, sumN_take l k hkl, hx]
      clear hcell hx hkl HT
      go_wp2_with fail
      go_roundw
      case rel => exact ⟨k + 1, _, by omega, by go_num, rfl, unhide HT2 _, vA_lt _ _ _ _, below_wA _ _ _ (unhide HW)⟩
      case measure => simp [intOf]; omega
    · have hkI : ¬ (k : Int) < (n : Int) := by omega
      have HT2 : Hid (nm r = sumN l) := by
        have e := unhide HT
        rw [List.take_of_length_le (by have := unhide HL; omega)] at e
        exact e
      clear HT
      go_wp2_with fail
      go_ret
      exact ⟨r, rfl, unhide HT2, unhide HB, unhide HW⟩
end Go.Proofs.YtmlkbimdpdmajaaGreatDoor

namespace Go.Proofs.YtmlkbimdpdmajaaGreatDoor
open Go.RowKit
attribute [local go_sem] run_add run_sub run_mul
/-- The first's size is not below the second's. -/
def geB (s x : Nat) : Bool := FloatKind.f64.format.order (s % 9223372036854775808) (x % 9223372036854775808) == some Ordering.gt || FloatKind.f64.format.order (s % 9223372036854775808) (x % 9223372036854775808) == some Ordering.eq
theorem nan_mod {b : Nat} (h : nanB b = true) : nanB (b % 9223372036854775808) = true := by unfold nanB at h ⊢; rw [Nat.mod_mod]; exact h
theorem geB_nm (s x : Nat) : geB s x = geB (nm s) (nm x) := by
  cases hs : nanB s
  · cases hx : nanB x
    · rw [nm_num hs, nm_num hx]
    · rw [nm_nan hx]
      unfold geB
      rw [order_nan_r _ _ (nan_mod hx), order_nan_r _ _ (nan_mod qnan_nan)]
  · rw [nm_nan hs]
    unfold geB
    rw [order_nan_l _ _ (nan_mod hs), order_nan_l _ _ (nan_mod qnan_nan)]
def stepK (p : Nat × Nat) (x : Nat) : Nat × Nat :=
  (opN .add p.1 x, if geB p.1 x then opN .add p.2 (opN .add (opN .sub p.1 (opN .add p.1 x)) x) else opN .add p.2 (opN .add (opN .sub x (opN .add p.1 x)) p.1))
def pairK (l : List Nat) : Nat × Nat := l.foldl (fun p x => stepK p (nm x)) (0, 0)
def keptN (l : List Nat) : Nat := opN .add (pairK l).1 (pairK l).2
theorem pairK_take (l : List Nat) (k : Nat) (h : k < l.length) : pairK (l.take (k + 1)) = stepK (pairK (l.take k)) (nm l[k]) := by
  unfold pairK
  rw [List.take_succ_eq_append_getElem h, List.foldl_append]
  rfl
theorem step_ge (r c x : Nat) (p : Nat × Nat) (h1 : nm r = p.1) (h2 : nm c = p.2) (hg : geB r x = true) (W0 W1 W2 W3 : World) : nm (vA .add r x W0) = (stepK p (nm x)).1 ∧ nm (vA .add c (vA .add (vA .sub r (vA .add r x W0) W1) x W2) W3) = (stepK p (nm x)).2 := by
  have hg2 : geB p.1 (nm x) = true := by rw [← h1, ← geB_nm]; exact hg
  refine ⟨by rw [nm_add, h1]; rfl, ?_⟩
  rw [nm_add, nm_add, nm_sub, nm_add, h1, h2]
  unfold stepK
  rw [if_pos hg2]
theorem step_lt (r c x : Nat) (p : Nat × Nat) (h1 : nm r = p.1) (h2 : nm c = p.2) (hg : geB r x = false) (W0 W1 W2 W3 : World) : nm (vA .add r x W0) = (stepK p (nm x)).1 ∧ nm (vA .add c (vA .add (vA .sub x (vA .add r x W0) W1) r W2) W3) = (stepK p (nm x)).2 := by
  have hg2 : geB p.1 (nm x) = false := by rw [← h1, ← geB_nm]; exact hg
  refine ⟨by rw [nm_add, h1]; rfl, ?_⟩
  rw [nm_add, nm_add, nm_sub, nm_add, h1, h2]
  unfold stepK
  rw [if_neg (by rw [hg2]; decide)]
set_option maxRecDepth 100000 in
set_option maxHeartbeats 1000000 in
theorem kept_any (v : Value) (l : List Nat) (w : World) (h : RowF w v l) (hlt : ∀ x ∈ l, x < 18446744073709551616) : Calls Tryz.prog 11 #[v] w fun e w' => ∃ r : Nat, e = .returned (.float .f64 r) ∧ nm r = keptN l ∧ r < 18446744073709551616 ∧ Below w.heap.size w w' := by
  obtain ⟨a, cap, rfl, hc, hm, hn, hr⟩ := h
  have HR := hide hr
  have HLT := hide hlt
  obtain ⟨n, hl⟩ : ∃ n, n = l.length := ⟨_, rfl⟩
  rw [← hl] at hc ⊢
  have HL := hide hl
  clear hr hl hn hlt
  go_enter Tryz.func11, Tryz.ntmps11
  go_wp2
  go_loopw [3, 4, 6, 7, 10] (fun s3 s4 _ _ s10 wr => ∃ k r c : Nat, k ≤ n ∧ s10 = .int .i64 (k : Int) ∧ s3 = .float .f64 r ∧ s4 = .float .f64 c ∧ Hid (nm r = (pairK (l.take k)).1 ∧ nm c = (pairK (l.take k)).2) ∧ Hid (r < 18446744073709551616) ∧ Hid (Below w.heap.size w wr)) (fun _ _ _ _ s10 _ => n - (intOf s10).toNat)
  case atStart => exact ⟨0, 0, 0, Nat.zero_le _, rfl, rfl, rfl, ⟨nm_zero, nm_zero⟩, by show _ < _; decide, Below.refl _ _⟩
  case round =>
    obtain ⟨k, r, c, hk, rfl, rfl, rfl, HT, HB, HW⟩ := hrel
    by_cases hkn : k < n
    · have hkl : k < l.length := by have := unhide HL; omega
      obtain ⟨b, o, rfl, hb, hcell⟩ := unhide HR k hkl
      obtain ⟨x, hx⟩ : ∃ x, x = l[k] := ⟨_, rfl⟩
      have HX : Hid (x < 18446744073709551616) := by rw [hx]; exact unhide HLT _ (List.getElem_mem hkl)
      have c1 : wr.cell? ⟨b, o + k, none⟩ = some (.float .f64 x) := by rw [(unhide HW).cell (p := ⟨b, o + k, none⟩) hb, hcell, hx]
      have hkI : (k : Int) < (n : Int) := by omega
      cases hg : geB r x
      · skip
        have HT2 : Hid (∀ W0 W1 W2 W3, _) := step_lt r c x _ (unhide HT).1 (unhide HT).2 hg
        have HPT : Hid (pairK (l.take (k + 1)) = stepK (pairK (l.take k)) (nm x)) := by show _ = _; rw [pairK_take l k hkl, hx]
        unfold geB at hg
        clear hcell hx hkl HT
        go_wp2_with (first
          | (go_at_call 20; with_reducible refine (abs_any r (unhide HB) _).mono ?_; rintro e wq ⟨rfl, hw⟩; have hw2 := hw.symm; subst hw2; clear hw)
          | (go_at_call 20; with_reducible refine (abs_any x (unhide HX) _).mono ?_; rintro e wq ⟨rfl, hw⟩; have hw2 := hw.symm; subst hw2; clear hw))
        go_roundw
        case rel => exact ⟨k + 1, _, _, by omega, by go_num, rfl, rfl, by rw [unhide HPT]; exact unhide HT2 _ _ _ _, vA_lt _ _ _ _, below_wA _ _ _ (below_wA _ _ _ (below_wA _ _ _ (below_wA _ _ _ (unhide HW))))⟩
        case measure => simp [intOf]; omega
      · skip
        have HT2 : Hid (∀ W0 W1 W2 W3, _) := step_ge r c x _ (unhide HT).1 (unhide HT).2 hg
        have HPT : Hid (pairK (l.take (k + 1)) = stepK (pairK (l.take k)) (nm x)) := by show _ = _; rw [pairK_take l k hkl, hx]
        unfold geB at hg
        clear hcell hx hkl HT
        go_wp2_with (first
          | (go_at_call 20; with_reducible refine (abs_any r (unhide HB) _).mono ?_; rintro e wq ⟨rfl, hw⟩; have hw2 := hw.symm; subst hw2; clear hw)
          | (go_at_call 20; with_reducible refine (abs_any x (unhide HX) _).mono ?_; rintro e wq ⟨rfl, hw⟩; have hw2 := hw.symm; subst hw2; clear hw))
        go_roundw
        case rel => exact ⟨k + 1, _, _, by omega, by go_num, rfl, rfl, by rw [unhide HPT]; exact unhide HT2 _ _ _ _, vA_lt _ _ _ _, below_wA _ _ _ (below_wA _ _ _ (below_wA _ _ _ (below_wA _ _ _ (unhide HW))))⟩
        case measure => simp [intOf]; omega
    · have hkI : ¬ (k : Int) < (n : Int) := by omega
      have HT2 : Hid (∀ W, nm (vA .add r c W) = keptN l) := fun W => by
        have e := unhide HT
        rw [List.take_of_length_le (by have := unhide HL; omega)] at e
        rw [nm_add, e.1, e.2]
        rfl
      clear HT
      go_wp2_with fail
      go_ret
      exact ⟨_, rfl, unhide HT2 _, vA_lt _ _ _ _, below_wA _ _ _ (unhide HW)⟩
set_option maxRecDepth 100000 in
set_option maxHeartbeats 1000000 in
theorem keptr_any (v : Value) (l : List Nat) (w : World) (h : RowF w v l) (hlt : ∀ x ∈ l, x < 18446744073709551616) : Calls Tryz.prog 12 #[v] w fun e w' => ∃ r : Nat, e = .returned (.float .f64 r) ∧ nm r = keptN l ∧ r < 18446744073709551616 ∧ Below w.heap.size w w' := by
  obtain ⟨a, cap, rfl, hc, hm, hn, hr⟩ := h
  have HR := hide hr
  have HLT := hide hlt
  obtain ⟨n, hl⟩ : ∃ n, n = l.length := ⟨_, rfl⟩
  rw [← hl] at hc ⊢
  have HL := hide hl
  clear hr hl hn hlt
  go_enter Tryz.func12, Tryz.ntmps12
  go_wp2
  go_loopw [3, 4, 5, 6, 7] (fun s3 s4 s5 _ _ wr => ∃ k r c : Nat, k ≤ n ∧ s5 = .int .i64 (k : Int) ∧ s3 = .float .f64 r ∧ s4 = .float .f64 c ∧ Hid (nm r = (pairK (l.take k)).1 ∧ nm c = (pairK (l.take k)).2) ∧ Hid (r < 18446744073709551616) ∧ Hid (Below w.heap.size w wr)) (fun _ _ s5 _ _ _ => n - (intOf s5).toNat)
  case atStart => exact ⟨0, 0, 0, Nat.zero_le _, rfl, rfl, rfl, ⟨nm_zero, nm_zero⟩, by show _ < _; decide, Below.refl _ _⟩
  case round =>
    obtain ⟨k, r, c, hk, rfl, rfl, rfl, HT, HB, HW⟩ := hrel
    by_cases hkn : k < n
    · have hkl : k < l.length := by have := unhide HL; omega
      obtain ⟨b, o, rfl, hb, hcell⟩ := unhide HR k hkl
      obtain ⟨x, hx⟩ : ∃ x, x = l[k] := ⟨_, rfl⟩
      have HX : Hid (x < 18446744073709551616) := by rw [hx]; exact unhide HLT _ (List.getElem_mem hkl)
      have c1 : wr.cell? ⟨b, o + k, none⟩ = some (.float .f64 x) := by rw [(unhide HW).cell (p := ⟨b, o + k, none⟩) hb, hcell, hx]
      have hkI : (k : Int) < (n : Int) := by omega
      cases hg : geB r x
      · skip
        have HT2 : Hid (∀ W0 W1 W2 W3, _) := step_lt r c x _ (unhide HT).1 (unhide HT).2 hg
        have HPT : Hid (pairK (l.take (k + 1)) = stepK (pairK (l.take k)) (nm x)) := by show _ = _; rw [pairK_take l k hkl, hx]
        unfold geB at hg
        clear hcell hx hkl HT
        go_wp2_with (first
          | (go_at_call 20; with_reducible refine (abs_any r (unhide HB) _).mono ?_; rintro e wq ⟨rfl, hw⟩; have hw2 := hw.symm; subst hw2; clear hw)
          | (go_at_call 20; with_reducible refine (abs_any x (unhide HX) _).mono ?_; rintro e wq ⟨rfl, hw⟩; have hw2 := hw.symm; subst hw2; clear hw))
        go_roundw
        case rel => exact ⟨k + 1, _, _, by omega, by go_num, rfl, rfl, by rw [unhide HPT]; exact unhide HT2 _ _ _ _, vA_lt _ _ _ _, below_wA _ _ _ (below_wA _ _ _ (below_wA _ _ _ (below_wA _ _ _ (unhide HW))))⟩
        case measure => simp [intOf]; omega
      · skip
        have HT2 : Hid (∀ W0 W1 W2 W3, _) := step_ge r c x _ (unhide HT).1 (unhide HT).2 hg
        have HPT : Hid (pairK (l.take (k + 1)) = stepK (pairK (l.take k)) (nm x)) := by show _ = _; rw [pairK_take l k hkl, hx]
        unfold geB at hg
        clear hcell hx hkl HT
        go_wp2_with (first
          | (go_at_call 20; with_reducible refine (abs_any r (unhide HB) _).mono ?_; rintro e wq ⟨rfl, hw⟩; have hw2 := hw.symm; subst hw2; clear hw)
          | (go_at_call 20; with_reducible refine (abs_any x (unhide HX) _).mono ?_; rintro e wq ⟨rfl, hw⟩; have hw2 := hw.symm; subst hw2; clear hw))
        go_roundw
        case rel => exact ⟨k + 1, _, _, by omega, by go_num, rfl, rfl, by rw [unhide HPT]; exact unhide HT2 _ _ _ _, vA_lt _ _ _ _, below_wA _ _ _ (below_wA _ _ _ (below_wA _ _ _ (below_wA _ _ _ (unhide HW))))⟩
        case measure => simp [intOf]; omega
    · have hkI : ¬ (k : Int) < (n : Int) := by omega
      have HT2 : Hid (∀ W, nm (vA .add r c W) = keptN l) := fun W => by
        have e := unhide HT
        rw [List.take_of_length_le (by have := unhide HL; omega)] at e
        rw [nm_add, e.1, e.2]
        rfl
      clear HT
      go_wp2_with fail
      go_ret
      exact ⟨_, rfl, unhide HT2 _, vA_lt _ _ _ _, below_wA _ _ _ (unhide HW)⟩
end Go.Proofs.YtmlkbimdpdmajaaGreatDoor

namespace Go.Proofs.YtmlkbimdpdmajaaGreatDoor
open Go.RowKit

theorem Tryz.info25x : (Tryz.prog.info? 25).map (fun i => (i.zero, i.size, i.bytes)) = some (some (.float .f64 0), 1, 8) := by kernel_rfl
theorem Tryz.underlying22x : Tryz.prog.underlying 22 = some (.slice 25) := by kernel_rfl

def InMem (w : World) (a : Option Addr) (l : List Nat) : Prop := ∀ i (h : i < l.length), ∃ b o, a = some ⟨b, o, none⟩ ∧ w.cell? ⟨b, o + i, none⟩ = some (.float .f64 l[i])
theorem info_parts {P : Program} {t : TypeId} {z : Option Value} {s b : Nat} (h : (P.info? t).map (fun i => (i.zero, i.size, i.bytes)) = some (z, s, b)) : ∃ i, P.info? t = some i ∧ i.zero = z ∧ i.size = s ∧ i.bytes = b := by
  cases e : P.info? t with
  | none => rw [e] at h; cases h
  | some i =>
    rw [e] at h
    simp only [Option.map_some, Option.some.injEq, Prod.mk.injEq] at h
    exact ⟨i, rfl, h.1, h.2.1, h.2.2⟩
theorem inMem_news {w : World} {ad : Addr} {ss : List Nat} (h : InMem w (some ad) ss) : ∀ j u, (fV ss)[j]? = some u → w.cell? (ad.add j) = some u := by
  intro j u hu
  unfold fV at hu
  rw [List.getElem?_map, Option.map_eq_some_iff] at hu
  obtain ⟨s, hs, rfl⟩ := hu
  obtain ⟨hj, rfl⟩ := List.getElem?_eq_some_iff.1 hs
  obtain ⟨b, o, e, hc⟩ := h j hj
  cases e
  simp only [Addr.add]
  split
  · rename_i hj0; subst hj0; exact hc
  · exact hc
/-- What the list is, and the mark behind it. -/
def Lent (w : World) (base : Nat) (v : Value) (n : Nat) (ss : List Nat) : Prop := ∃ g cap, v = .slice (some ⟨g, 0, none⟩) n cap ∧ n + 1 ≤ cap ∧ cap ≤ 9223372036854775807 ∧ base ≤ g ∧ InMem w (some ⟨g, 0, none⟩) ss ∧ w.cell? ⟨g, n, none⟩ = some (.float .f64 4661473004444712960)

theorem lent_of {w : World} {base : Nat} {v : Value} {n : Nat} {ss : List Nat} (h : w.ownsRow base 25 1 v (n + 1) (fV ss ++ [.float .f64 4661473004444712960])) (hn : n = ss.length) :
    ∃ g cap, v = .slice (some ⟨g, 0, none⟩) (n + 1) cap ∧ n + 1 ≤ cap ∧ cap ≤ 9223372036854775807 ∧ base ≤ g ∧ InMem w (some ⟨g, 0, none⟩) ss ∧ w.cell? ⟨g, n, none⟩ = some (.float .f64 4661473004444712960) := by
  rcases Joins.ownsRow_forms h with ⟨rfl, h0⟩ | ⟨g, cap, rfl⟩
  · omega
  · obtain ⟨hx, h2⟩ := id h
    rcases h2 with ⟨e, _⟩ | ⟨g', cap', cur, e, hb, hg, hcap, hmax, hsz, htk⟩
    · cases e
    · simp only [Value.slice.injEq, Option.some.injEq, Addr.mk.injEq] at e
      obtain ⟨⟨rfl, _⟩, _, rfl⟩ := e
      refine ⟨g, cap, rfl, by omega, hmax, hb, fun i hi => ⟨g, 0, rfl, ?_⟩, ?_⟩
      · have := h.cellAt i (by omega)
        rw [List.getElem?_append_left (by unfold fV; simpa using hi)] at this
        unfold fV at this
        simpa [hi] using this
      · have := h.cellAt n (by omega)
        rw [List.getElem?_append_right (by unfold fV; simp [hn])] at this
        unfold fV at this
        simpa [hn] using this

set_option maxRecDepth 100000 in
set_option maxHeartbeats 800000 in
theorem lent_any (a : Option Addr) (n cap : Nat) (ss : List Nat) (w : World) (hn : n = ss.length) (hmax : n ≤ 17592186044415) (hcap : a = none → cap = 0)
    (hc : InMem w a ss) :
    Calls Tryz.prog 7 #[.slice a n cap] w fun e w' => ∃ v, e = .returned v ∧ Lent w' w.heap.size v n ss ∧ Below w.heap.size w w' := by
  obtain ⟨i0, hi, hz0, hz1, hz2⟩ := info_parts Tryz.info25x
  cases a with
  | none =>
    have h0 : ss = [] := by
      cases ss with
      | nil => rfl
      | cons s t => obtain ⟨b, o, e, _⟩ := hc 0 (by simp); cases e
    subst h0
    have hn0 : n = 0 := hn
    subst hn0
    have hc0 := hcap rfl
    subst hc0
    clear hc hn hcap
    go_enter Tryz.func7, Tryz.ntmps7
    go_wp2_with (first
      | (at_builtin; refine wpList_append_own_none rfl _ _ 22 rfl w.heap.size 25 i0 1 Tryz.underlying22x hi _ 0 [] rfl (World.ownsRow_nil _ _ _ _) rfl ?_)
      | (at_builtin; refine wpList_append_own _ rfl _ _ 22 rfl w.heap.size 25 i0 (.float .f64 0) 1 8 Tryz.underlying22x hi hz0 hz1 hz2 rfl (by decide) _ 0 [] rfl (World.ownsRow_nil _ _ _ _) ⟨w.heap.size, 0, none⟩ 1 1 [.float .f64 4661473004444712960] rfl rfl (cell_one_new _ _ _) (fun x hx => by simp at hx; subst hx; rfl) (by unfold maxLen; omega) (by omega) (by simp) ?_; intro v' w1 hown hgrow hnil; obtain ⟨g, cap2, rfl, hg1, hg2, hg3, hin, hmk⟩ := lent_of (n := 0) (ss := []) (by simpa [fV] using hown) rfl; clear hnil))
    go_ret
    exact ⟨_, rfl, ⟨g, cap2, rfl, hg1, hg2, hg3, hin, hmk⟩, ((Below.refl _ _).alloc (Nat.le_refl _) _).grown hgrow (by simp) (fun k hk => by cases hk)⟩
  | some ad =>
    have HNew := hide (inMem_news hc)
    have HN := hide hn
    clear hc hn hcap
    go_enter Tryz.func7, Tryz.ntmps7
    go_wp2_with (first
      | (at_builtin; refine wpList_append_own _ rfl _ _ 22 rfl w.heap.size 25 i0 (.float .f64 0) 1 8 Tryz.underlying22x hi hz0 hz1 hz2 rfl (by decide) (.slice none 0 0) 0 [] rfl (World.ownsRow_nil _ _ _ _) ad n cap (fV ss) rfl (by unfold fV; rw [List.length_map, Nat.mul_one]; exact (unhide HN).symm) (unhide HNew) (fV_one ss) (by unfold maxLen; omega) (by omega) (Nat.le_refl _) ?_; intro v1 w1 hown1 hgrow1 hnil1; simp only [Nat.zero_add, List.nil_append] at hown1; have hb1 : Below w.heap.size w w1 := (Below.refl _ _).grown hgrow1 (Nat.le_refl _) (fun k hk => by cases hk); clear hnil1 hgrow1)
      | (at_builtin; refine wpList_append_own _ rfl _ _ 22 rfl w.heap.size 25 i0 (.float .f64 0) 1 8 Tryz.underlying22x hi hz0 hz1 hz2 rfl (by decide) _ n (fV ss) rfl (hown1.alloc _) ⟨w1.heap.size, 0, none⟩ 1 1 [.float .f64 4661473004444712960] rfl rfl (cell_one_new _ _ _) (fun x hx => by simp at hx; subst hx; rfl) (by unfold maxLen; omega) (by omega) (by have := hb1.size; simp at this ⊢; omega) ?_; intro v' w2 hown hgrow hnil; have hb2 := (hb1.alloc hb1.size _).grown hgrow (by have := hb1.size; simp at this ⊢; omega) (fun j hj => (hown1.lt j hj).1); obtain ⟨g, cap2, rfl, hg1, hg2, hg3, hin, hmk⟩ := lent_of hown (unhide HN); clear hnil hgrow))
    go_ret
    exact ⟨_, rfl, ⟨g, cap2, rfl, hg1, hg2, hg3, hin, hmk⟩, hb2⟩
end Go.Proofs.YtmlkbimdpdmajaaGreatDoor

namespace Go.Proofs.YtmlkbimdpdmajaaGreatDoor
open Go.RowKit
attribute [local go_sem] run_bits run_from
theorem mark_self : (FloatKind.f64.format.order 4661473004444712960 4661473004444712960 == some Ordering.eq) = true := by decide +kernel
theorem InMem.later {w w' : World} {a : Option Addr} {l : List Nat} (h : InMem w a l) (hb : Below w.heap.size w w') : InMem w' a l := fun i hi => by
  obtain ⟨b, o, rfl, hc⟩ := h i hi
  exact ⟨b, o, rfl, (hb.cell (p := ⟨b, o + i, none⟩) (World.block_lt_of_cell? _ _ hc)).trans hc⟩
set_option maxRecDepth 100000 in
set_option maxHeartbeats 800000 in
theorem keptl_any (v : Value) (base : Nat) (a : Option Addr) (n cap : Nat) (ss : List Nat) (w : World) (hn : n = ss.length) (hmax : n ≤ 17592186044415) (hv : Lent w base v n ss) (ha : InMem w a ss) :
    Calls Tryz.prog 13 #[v, .slice a n cap] w fun e w' => e = .returned (.bool true) ∧ Below w.heap.size w w' := by
  obtain ⟨g, cap2, rfl, h1, h2, h3, hin, hmk⟩ := hv
  have hlt : g < w.heap.size := World.block_lt_of_cell? _ _ hmk
  have HM := hide (fun (w2 : World) (hb : Below w.heap.size w w2) => (hb.cell (p := ⟨g, n, none⟩) hlt).trans hmk)
  have HN := hide hn
  have HI := hide hin
  have HA := hide ha
  have hself := mark_self
  clear hn hin ha hmk
  go_enter Tryz.func13, Tryz.ntmps13
  go_wp2
  go_loopw [5] (fun t wr => ∃ k : Nat, k ≤ n ∧ t = .int .i64 (k : Int) ∧ Hid (Below w.heap.size w wr)) (fun t _ => n - (intOf t).toNat)
  case atStart => exact ⟨0, Nat.zero_le _, rfl, Below.refl _ _⟩
  case round =>
    obtain ⟨k, hk, rfl, HB⟩ := hrel
    by_cases hkn : k < n
    · have hkl : k < ss.length := by have := unhide HN; omega
      obtain ⟨b1, o1, e1, hx⟩ := ((unhide HI).later (unhide HB)) k hkl
      cases e1
      obtain ⟨b2, o2, rfl, hy⟩ := ((unhide HA).later (unhide HB)) k hkl
      rw [Nat.zero_add] at hx
      generalize ss[k] = s at *
      have hkI : (k : Int) < (n : Int) := by omega
      clear hkl
      go_upto_region 4 with fail
      go_quiet (fail)
      go_wp2_with fail
      go_roundw
      case rel => exact ⟨k + 1, by omega, by go_num, below_drewN (unhide HB) _⟩
      case measure => simp [intOf]; omega
    · obtain rfl : k = n := by omega
      have hm2 := unhide HM wr (unhide HB)
      go_wp2_with fail
      go_ret
      exact ⟨rfl, unhide HB⟩
theorem Lent.row {w : World} {base n : Nat} {v : Value} {l : List Nat} (h : Lent w base v n l) (hn : n = l.length) : RowF w v l := by
  obtain ⟨g, cap, rfl, h1, h2, _, hin, _⟩ := h
  refine ⟨some ⟨g, 0, none⟩, cap, by rw [hn], by omega, h2, fun e => (by cases e), fun i hi => ?_⟩
  obtain ⟨b, o, e, hc⟩ := hin i hi
  cases e
  exact ⟨g, 0, rfl, World.block_lt_of_cell? _ _ hc, hc⟩
theorem Lent.later {w w' : World} {base n : Nat} {v : Value} {l : List Nat} (h : Lent w base v n l) (hb : Below w.heap.size w w') : Lent w' base v n l := by
  obtain ⟨g, cap, rfl, h1, h2, h3, hin, hm⟩ := h
  exact ⟨g, cap, rfl, h1, h2, h3, hin.later hb, (hb.cell (p := ⟨g, n, none⟩) (World.block_lt_of_cell? _ _ hm)).trans hm⟩
end Go.Proofs.YtmlkbimdpdmajaaGreatDoor

/- TempsTurns: To and Step answer as the document says. -/
import Derived.Test.YtimihoonnglniaaGreatDoorRefTold
import Derived.Test.YtimihoonnglniaaGreatDoorOfs
import Derived.Test.YtimihoonnglniaaGreatDoorRefVal
import Derived.Test.YtimihoonnglniaaGreatDoorLit
import Derived.Deep.RegionHeld3
import Derived.Deep.Cut
import Derived.Deep.Quiet
import Derived.BigQuiet
import Derived.Test.YtimihoonnglniaaGreatDoorStepsB
import Derived.Test.YtimihoonnglniaaGreatDoorAwake
import Derived.Test.YtimihoonnglniaaGreatDoorStep
import Derived.Lib.ItoaLen
import Derived.Test.YtimihoonnglniaaGreatDoorRefFindB
import Derived.Test.YtimihoonnglniaaGreatDoorRefFindC
import Derived.Test.YtimihoonnglniaaGreatDoorRefMem
import Derived.Test.YtimihoonnglniaaGreatDoorRefTo
namespace Go.Proofs.YtimihoonnglniaaGreatDoor
open Go.RowKit

set_option maxRecDepth 100000 in
set_option maxHeartbeats 2000000 in
theorem refTold_large (b : Bool) (s t : ByteArray) (w : World) (hl : 600 < s.size ∨ 600 < t.size) (hs : s.size ≤ 5000) (ht : t.size ≤ 5000) :
    Ans 18 #[.agg #[.bool b, .string s, .string t]] w ⟨#[]⟩ ⟨#[]⟩ 7 := by
  unfold Ans
  obtain ⟨V, hV⟩ : ∃ V, V = (w.alloc (.cells #[.bool b, .string s, .string t] 33)).alloc (.cells #[.string ⟨#[]⟩, .string ⟨#[]⟩] 23) := ⟨_, rfl⟩
  have hbV : Below w.heap.size w V := by rw [hV]; exact ((Below.refl _ _).alloc (Nat.le_refl _) _).alloc (by simp) _
  have HR : Hid (T2 V (w.heap.size + 1) (.string ⟨#[]⟩) (.string ⟨#[]⟩) ∧ Below w.heap.size w V) := ⟨by rw [hV]; exact ⟨by simp [go_sem], by simp [go_sem], by simp [go_sem], by simp [go_sem]⟩, hbV⟩
  have HF : Hid (FBox V w.heap.size (.bool b) (.string s) (.string t)) := by rw [hV]; exact ⟨by simp [go_sem], by simp [go_sem], by simp [go_sem], by simp [go_sem], by simp [go_sem], by simp [go_sem]⟩
  have HV := hide hV
  clear hbV
  have t0 := (unhide HF).c0; have t1 := (unhide HF).c1; have t2 := (unhide HF).c2
  have r0 := (unhide HR).1.c0; have r1 := (unhide HR).1.c1; have rf0 := (unhide HR).1.f0; have rf1 := (unhide HR).1.f1
  have hS := (unhide HR).1.store (.string ⟨#[]⟩) (.string ⟨#[]⟩)
  have hb : Below w.heap.size w (store2 V (w.heap.size + 1) (.string ⟨#[]⟩) (.string ⟨#[]⟩)) := below_store2 (unhide HR).2 (by omega) _ _
  have u0 := hS.c0; have u1 := hS.c1
  have HB9 := hide hb
  clear hb hS
  rcases Nat.lt_or_ge 600 s.size with h1 | h1
  · have i1 : (600 : Int) < (s.size : Int) := by omega
    clear hl
    go_enter Tryz.func18, Tryz.ntmps18
    go_upto_region 1 with fail
    rw [← unhide HV]
    clear hV HV
    go_wp2_with fail
    exact bodyPost_ret (v := .tuple #[.agg #[.string ⟨#[]⟩, .string ⟨#[]⟩], .int .i64 7]) (w := store2 V (w.heap.size + 1) (.string ⟨#[]⟩) (.string ⟨#[]⟩)) (by simp [results, Tryz.results18, go_sem, u0, u1]) rfl ⟨rfl, unhide HB9⟩
  · have i1 : ¬ (600 : Int) < (s.size : Int) := by omega
    have i2 : (600 : Int) < (t.size : Int) := by omega
    clear hl
    go_enter Tryz.func18, Tryz.ntmps18
    go_upto_region 1 with fail
    rw [← unhide HV]
    clear hV HV
    go_wp2_with fail
    exact bodyPost_ret (v := .tuple #[.agg #[.string ⟨#[]⟩, .string ⟨#[]⟩], .int .i64 7]) (w := store2 V (w.heap.size + 1) (.string ⟨#[]⟩) (.string ⟨#[]⟩)) (by simp [results, Tryz.results18, go_sem, u0, u1]) rfl ⟨rfl, unhide HB9⟩
theorem tx_large {n : Nat} (h : ¬ n < 10 ^ 600) : 600 < (tx n).size := by
  rcases Nat.lt_or_ge 600 (tx n).size with h' | h'
  · exact h'
  · exfalso
    apply h
    rw [← list_len, tx_list] at h'
    exact (Cub.dec_len_lt n 600 (by omega)).1 h'
theorem refToldQ (d : Nat) (x : Rat) (w : World) (hd1 : 1 ≤ d) (hd : d ≤ 5000) (hx : Bd d x) : Ans 18 #[fx x] w (numT x) (denT x) (errT x) := by
  unfold numT denT errT
  by_cases h : Small x
  · rw [if_pos h, if_pos h, if_pos h]
    unfold sT
    rw [tx_tb _ h.1, tx_tb _ h.2]
    exact refTold _ _ _ w (tx_size (by omega) h.1) (tx_size (by omega) h.2)
  · rw [if_neg h, if_neg h, if_neg h]
    refine refTold_large _ _ _ w ?_ (Nat.le_trans (tx_size hd1 hx.1) hd) (Nat.le_trans (tx_size hd1 hx.2) hd)
    by_cases h1 : x.num.natAbs < 10 ^ 600
    · exact Or.inr (tx_large (fun h2 => h ⟨h1, h2⟩))
    · exact Or.inl (tx_large h1)

end Go.Proofs.YtimihoonnglniaaGreatDoor

namespace Go.Proofs.YtimihoonnglniaaGreatDoor
open Go.RowKit
theorem IsR.bd {num den : ByteArray} {x : Rat} (h : IsR num den x) : Bd 600 x := h.1
theorem ref11_yes {num den : ByteArray} {x : Rat} (h : IsR num den x) (W : World) : Calls Tryz.prog 11 #[.agg #[.string num, .string den]] W fun r w' => r = .returned (.bool true) ∧ Below W.heap.size W w' := by
  have hz := h.size
  obtain ⟨ok, h1, h2⟩ := refR_any num den W (by unfold maxLen; omega) (by unfold maxLen; omega)
  rw [h1.2 ((right_isR num den).2 ⟨x, h⟩)] at h2
  exact h2
end Go.Proofs.YtimihoonnglniaaGreatDoor

namespace Go.Proofs.YtimihoonnglniaaGreatDoor
open Go.RowKit
theorem isR_lit2 (s t : ByteArray) (N D : Nat) (x : Rat) (hN : x.num.natAbs = N) (hD : x.den = D) (hx : decide (x < 0) = false) (bN : N < 10 ^ 20) (bD : D < 10 ^ 20)
    (h1 : Cub.rightB s.data.toList = true) (v1 : Cub.dval s.data.toList = N) (h2 : Cub.rightB t.data.toList = true) (v2 : Cub.dval t.data.toList = D) : IsR s t x := by
  have hsm : Small x := small_of (by rw [hN]; exact bN) (by rw [hD]; exact bD)
  refine ⟨hsm, ?_, ?_⟩
  · unfold numT; rw [if_pos hsm, hx, hN]; unfold sT; rw [if_neg (by decide)]; exact (lit_tb s N h1 v1).1
  · unfold denT; rw [if_pos hsm, hD]; exact (lit_tb t D h2 v2).1
theorem isR_f0 : IsR ⟨#[53]⟩ ⟨#[57]⟩ (fq 0) := isR_lit2 _ _ 5 9 _ (by decide +kernel) (by decide +kernel) (by decide +kernel) (by decide) (by decide) (by decide) (by decide) (by decide) (by decide)
theorem isR_o0 : IsR ⟨#[48]⟩ ⟨#[49]⟩ (oq 0) := isR_lit2 _ _ 0 1 _ (by decide +kernel) (by decide +kernel) (by decide +kernel) (by decide) (by decide) (by decide) (by decide) (by decide) (by decide)
theorem isR_f1 : IsR ⟨#[49]⟩ ⟨#[49]⟩ (fq 1) := isR_lit2 _ _ 1 1 _ (by decide +kernel) (by decide +kernel) (by decide +kernel) (by decide) (by decide) (by decide) (by decide) (by decide) (by decide)
theorem isR_o1 : IsR ⟨#[53, 52, 54, 51]⟩ ⟨#[50, 48]⟩ (oq 1) := isR_lit2 _ _ 5463 20 _ (by decide +kernel) (by decide +kernel) (by decide +kernel) (by decide) (by decide) (by decide) (by decide) (by decide) (by decide)
theorem isR_f2 : IsR ⟨#[53]⟩ ⟨#[57]⟩ (fq 2) := isR_lit2 _ _ 5 9 _ (by decide +kernel) (by decide +kernel) (by decide +kernel) (by decide) (by decide) (by decide) (by decide) (by decide) (by decide)
theorem isR_o2 : IsR ⟨#[52, 53, 57, 54, 55]⟩ ⟨#[49, 56, 48]⟩ (oq 2) := isR_lit2 _ _ 45967 180 _ (by decide +kernel) (by decide +kernel) (by decide +kernel) (by decide) (by decide) (by decide) (by decide) (by decide) (by decide)
theorem isR_f3 : IsR ⟨#[49]⟩ ⟨#[49]⟩ (fq 3) := isR_lit2 _ _ 1 1 _ (by decide +kernel) (by decide +kernel) (by decide +kernel) (by decide) (by decide) (by decide) (by decide) (by decide) (by decide)
theorem isR_o3 : IsR ⟨#[48]⟩ ⟨#[49]⟩ (oq 3) := isR_lit2 _ _ 0 1 _ (by decide +kernel) (by decide +kernel) (by decide +kernel) (by decide) (by decide) (by decide) (by decide) (by decide) (by decide)
/-- What the document's Find answers. -/
def FindR (s : ByteArray) (ok : Bool) (uf ug uo up : ByteArray) : Prop :=
  (ok = true ∧ ∃ k : Nat, IsFirst (scB s) (k : Int) ∧ IsR uf ug (fq k) ∧ IsR uo up (oq k)) ∨ (ok = false ∧ IsFirst (scB s) (-1))
theorem list_eq {s : ByteArray} {l : List UInt8} (h : (s.toList == l) = true) : s = ⟨l.toArray⟩ := by
  have h' : s.toList = l := by simpa using h
  rw [Lib.toList_data] at h'
  exact bytes_ext (by rw [h'])
theorem refFind_any (s : ByteArray) : ∃ (ok : Bool) (un us uf ug uo up : ByteArray) (ud0 ud1 ud2 ud3 ud4 ud5 ud6 ud7 ut : Int), FindR s ok uf ug uo up ∧
    ∀ W, Calls Tryz.prog 24 #[.string s] W fun r w' => r = .returned (.tuple #[.agg #[.string un, .string us, .int .i64 ud0, .int .i64 ud1, .int .i64 ud2, .int .i64 ud3, .int .i64 ud4, .int .i64 ud5, .int .i64 ud6, .int .i64 ud7, .string uf, .string ug, .string uo, .string up, .int .i64 ut], .bool ok]) ∧ Below W.heap.size W w' := by
  by_cases h0 : (s.toList == [107, 101, 108, 118, 105, 110]) = true
  · refine ⟨true, _, _, _, _, _, _, _, _, _, _, _, _, _, _, _, Or.inl ⟨rfl, 3, ?_, isR_f3, isR_o3⟩, fun W => refFind_3n s W h0⟩
    rw [list_eq h0]
    exact (Or.inl ⟨3, by decide, rfl, by decide +kernel, fun i hi => by rcases (by omega : i = 0 ∨ i = 1 ∨ i = 2) with rfl | rfl | rfl <;> decide +kernel⟩)
  have f0 : (s.toList == [107, 101, 108, 118, 105, 110]) = false := by simpa using h0
  by_cases h1 : (s.toList == [75]) = true
  · refine ⟨true, _, _, _, _, _, _, _, _, _, _, _, _, _, _, _, Or.inl ⟨rfl, 3, ?_, isR_f3, isR_o3⟩, fun W => refFind_3s s W f0 h1⟩
    rw [list_eq h1]
    exact (Or.inl ⟨3, by decide, rfl, by decide +kernel, fun i hi => by rcases (by omega : i = 0 ∨ i = 1 ∨ i = 2) with rfl | rfl | rfl <;> decide +kernel⟩)
  have f1 : (s.toList == [75]) = false := by simpa using h1
  by_cases h2 : (s.toList == [114, 97, 110, 107, 105, 110, 101]) = true
  · refine ⟨true, _, _, _, _, _, _, _, _, _, _, _, _, _, _, _, Or.inl ⟨rfl, 0, ?_, isR_f0, isR_o0⟩, fun W => refFind_0n s W f0 f1 h2⟩
    rw [list_eq h2]
    exact (Or.inl ⟨0, by decide, rfl, by decide +kernel, fun i hi => by omega⟩)
  have f2 : (s.toList == [114, 97, 110, 107, 105, 110, 101]) = false := by simpa using h2
  by_cases h3 : (s.toList == [194, 176, 82]) = true
  · refine ⟨true, _, _, _, _, _, _, _, _, _, _, _, _, _, _, _, Or.inl ⟨rfl, 0, ?_, isR_f0, isR_o0⟩, fun W => refFind_0s s W f0 f1 f2 h3⟩
    rw [list_eq h3]
    exact (Or.inl ⟨0, by decide, rfl, by decide +kernel, fun i hi => by omega⟩)
  have f3 : (s.toList == [194, 176, 82]) = false := by simpa using h3
  by_cases h4 : (s.toList == [99, 101, 108, 115, 105, 117, 115]) = true
  · refine ⟨true, _, _, _, _, _, _, _, _, _, _, _, _, _, _, _, Or.inl ⟨rfl, 1, ?_, isR_f1, isR_o1⟩, fun W => refFind_1n s W f0 f1 f2 f3 h4⟩
    rw [list_eq h4]
    exact (Or.inl ⟨1, by decide, rfl, by decide +kernel, fun i hi => by rcases (by omega : i = 0) with rfl; decide +kernel⟩)
  have f4 : (s.toList == [99, 101, 108, 115, 105, 117, 115]) = false := by simpa using h4
  by_cases h5 : (s.toList == [194, 176, 67]) = true
  · refine ⟨true, _, _, _, _, _, _, _, _, _, _, _, _, _, _, _, Or.inl ⟨rfl, 1, ?_, isR_f1, isR_o1⟩, fun W => refFind_1s s W f0 f1 f2 f3 f4 h5⟩
    rw [list_eq h5]
    exact (Or.inl ⟨1, by decide, rfl, by decide +kernel, fun i hi => by rcases (by omega : i = 0) with rfl; decide +kernel⟩)
  have f5 : (s.toList == [194, 176, 67]) = false := by simpa using h5
  by_cases h6 : (s.toList == [102, 97, 104, 114, 101, 110, 104, 101, 105, 116]) = true
  · refine ⟨true, _, _, _, _, _, _, _, _, _, _, _, _, _, _, _, Or.inl ⟨rfl, 2, ?_, isR_f2, isR_o2⟩, fun W => refFind_2n s W f0 f1 f2 f3 f4 f5 h6⟩
    rw [list_eq h6]
    exact (Or.inl ⟨2, by decide, rfl, by decide +kernel, fun i hi => by rcases (by omega : i = 0 ∨ i = 1) with rfl | rfl <;> decide +kernel⟩)
  have f6 : (s.toList == [102, 97, 104, 114, 101, 110, 104, 101, 105, 116]) = false := by simpa using h6
  by_cases h7 : (s.toList == [194, 176, 70]) = true
  · refine ⟨true, _, _, _, _, _, _, _, _, _, _, _, _, _, _, _, Or.inl ⟨rfl, 2, ?_, isR_f2, isR_o2⟩, fun W => refFind_2s s W f0 f1 f2 f3 f4 f5 f6 h7⟩
    rw [list_eq h7]
    exact (Or.inl ⟨2, by decide, rfl, by decide +kernel, fun i hi => by rcases (by omega : i = 0 ∨ i = 1) with rfl | rfl <;> decide +kernel⟩)
  have f7 : (s.toList == [194, 176, 70]) = false := by simpa using h7
  refine ⟨false, _, _, _, _, _, _, _, _, _, _, _, _, _, _, _, Or.inr ⟨rfl, Or.inr ⟨rfl, ?_⟩⟩, fun W => refFind_no s W f0 f1 f2 f3 f4 f5 f6 f7⟩
  intro i hi
  have e : ∀ (x : ByteArray) (l : List UInt8), x.toList = l → (s.toList == l) = false → (x.toList == s.toList) = false := fun x l h1 h2 => by rw [h1]; exact BEq.comm.trans h2
  rcases (by omega : i = 0 ∨ i = 1 ∨ i = 2 ∨ i = 3) with rfl | rfl | rfl | rfl
  · unfold scB plainB; rw [e _ _ (by decide +kernel) f2, e _ _ (by decide +kernel) f3]; rfl
  · unfold scB plainB; rw [e _ _ (by decide +kernel) f4, e _ _ (by decide +kernel) f5]; rfl
  · unfold scB plainB; rw [e _ _ (by decide +kernel) f6, e _ _ (by decide +kernel) f7]; rfl
  · unfold scB plainB; rw [e _ _ (by decide +kernel) f0, e _ _ (by decide +kernel) f1]; rfl
theorem pow_two2 (d e a b : Nat) (ha : a < 10 ^ d) (hb : b < 10 ^ e) : a * b < 10 ^ (d + e) := by
  rw [Nat.pow_add]
  exact Nat.mul_lt_mul'' ha hb
theorem bd_mul2 {d e : Nat} {x y : Rat} (hx : Bd d x) (hy : Bd e y) : Bd (d + e) (x * y) := by
  have px := x.den_pos
  have py := y.den_pos
  have q := valQ_mul (b := decide (x < 0)) (c := decide (y < 0)) (n := x.num.natAbs) (m := y.num.natAbs) px py
  rw [(Cub.low_of x).2, (Cub.low_of y).2] at q
  rw [← q]
  exact bd_val _ (Nat.mul_pos px py) (pow_two2 d e _ _ hx.1 hy.1) (pow_two2 d e _ _ hx.2 hy.2)
theorem bd_add2 {d e : Nat} {x y : Rat} (hx : Bd d x) (hy : Bd e y) : Bd (d + e + 1) (x + y) := by
  have px := x.den_pos
  have py := y.den_pos
  have lx := Cub.low_of x
  have ly := Cub.low_of y
  have bX := pow_two2 d e _ _ hx.1 hy.2
  have bY := pow_two2 e d _ _ hy.1 hx.2
  rw [Nat.add_comm e d] at bY
  have q := Cub.refAdd_val lx.1 ly.1 (bb := (Cub.addSg (decide (x < 0)) (x.num.natAbs * y.den) (decide (y < 0)) (y.num.natAbs * x.den)).1) (m := (Cub.addSg (decide (x < 0)) (x.num.natAbs * y.den) (decide (y < 0)) (y.num.natAbs * x.den)).2) rfl
  rw [lx.2, ly.2] at q
  rw [← q]
  refine bd_val _ (Nat.mul_pos px py) ?_ (pow_up (pow_two2 d e _ _ hx.2 hy.2) (by omega))
  have hs := pow_sum (d + e) _ _ bX bY
  refine Nat.lt_of_le_of_lt ?_ hs
  unfold Cub.addSg
  split
  · exact Nat.le_refl _
  · split
    · show _ - _ ≤ _
      omega
    · show _ - _ ≤ _
      omega
theorem bd_up {d e : Nat} {x : Rat} (h : Bd d x) (he : d ≤ e) : Bd e x := ⟨pow_up h.1 he, pow_up h.2 he⟩
theorem bd_lit {x : Rat} (d : Nat) (h1 : x.num.natAbs < 10 ^ d) (h2 : x.den < 10 ^ d) : Bd d x := ⟨h1, h2⟩
theorem bd_fq : ∀ k, Bd 1 (fq k)
  | 0 => bd_lit 1 (by decide +kernel) (by decide +kernel)
  | 1 => bd_lit 1 (by decide +kernel) (by decide +kernel)
  | 2 => bd_lit 1 (by decide +kernel) (by decide +kernel)
  | _ + 3 => bd_lit 1 (by show (1 : Rat).num.natAbs < 10 ^ 1; decide +kernel) (by show (1 : Rat).den < 10 ^ 1; decide +kernel)
theorem bd_fi : ∀ k, Bd 1 (fq k)⁻¹
  | 0 => bd_lit 1 (by decide +kernel) (by decide +kernel)
  | 1 => bd_lit 1 (by decide +kernel) (by decide +kernel)
  | 2 => bd_lit 1 (by decide +kernel) (by decide +kernel)
  | _ + 3 => bd_lit 1 (by show (1 : Rat)⁻¹.num.natAbs < 10 ^ 1; decide +kernel) (by show (1 : Rat)⁻¹.den < 10 ^ 1; decide +kernel)
theorem bd_oq : ∀ k, Bd 5 (oq k)
  | 0 => bd_lit 5 (by decide +kernel) (by decide +kernel)
  | 1 => bd_lit 5 (by decide +kernel) (by decide +kernel)
  | 2 => bd_lit 5 (by decide +kernel) (by decide +kernel)
  | _ + 3 => bd_lit 5 (by show (0 : Rat).num.natAbs < 10 ^ 5; decide +kernel) (by show (0 : Rat).den < 10 ^ 5; decide +kernel)
/-- The document's Of, by value. -/
theorem refOf_ok (un us uf ug uo up : ByteArray) (ud0 ud1 ud2 ud3 ud4 ud5 ud6 ud7 ut : Int) (k : Nat) (x : Rat) (w : World) (h1 : IsR uf ug (fq k)) (h2 : IsR uo up (oq k)) (hx : Bd 600 x) :
    Calls Tryz.prog 25 #[.agg #[.string un, .string us, .int .i64 ud0, .int .i64 ud1, .int .i64 ud2, .int .i64 ud3, .int .i64 ud4, .int .i64 ud5, .int .i64 ud6, .int .i64 ud7, .string uf, .string ug, .string uo, .string up, .int .i64 ut], fx x] w fun r w' => r = .returned (fx (fq k * x + oq k)) ∧ Below w.heap.size w w' :=
  refOf_walk un us uf ug uo up ud0 ud1 ud2 ud3 ud4 ud5 ud6 ud7 ut _ _ _ _ _ _ (fx (fq k)) (fx (fq k * x)) (fx (oq k)) w (fun W _ => refRead _ _ _ W h1) (fun W _ => refFTimes 600 _ _ W (by omega) (by omega) (bd_up (bd_fq k) (by omega)) hx) (fun W _ => refRead _ _ _ W h2)
    (fun W _ => refFPlus 601 _ _ W (by omega) (by omega) (bd_up (bd_mul2 (bd_fq k) hx) (by omega)) (bd_up (bd_oq k) (by omega)))
theorem refIn_ok (un us uf ug uo up : ByteArray) (ud0 ud1 ud2 ud3 ud4 ud5 ud6 ud7 ut : Int) (k : Nat) (x : Rat) (w : World) (h1 : IsR uf ug (fq k)) (h2 : IsR uo up (oq k)) (hx : Bd 607 x) :
    Calls Tryz.prog 26 #[.agg #[.string un, .string us, .int .i64 ud0, .int .i64 ud1, .int .i64 ud2, .int .i64 ud3, .int .i64 ud4, .int .i64 ud5, .int .i64 ud6, .int .i64 ud7, .string uf, .string ug, .string uo, .string up, .int .i64 ut], fx x] w fun r w' => r = .returned (fx ((x + -oq k) * (fq k)⁻¹)) ∧ Below w.heap.size w w' :=
  refIn_walk un us uf ug uo up ud0 ud1 ud2 ud3 ud4 ud5 ud6 ud7 ut _ _ _ _ _ _ (fx (oq k)) (fx (-oq k)) (fx (x + -oq k)) (fx (fq k)) (fx (fq k)⁻¹) w (fun W _ => refRead _ _ _ W h2) (fun W _ => refFMinus _ W) (fun W _ => refFPlus 607 _ _ W (by omega) (by omega) hx (bd_up (bd_neg (bd_oq k)) (by omega)))
    (fun W _ => refRead _ _ _ W h1) (fun W _ => refFOver _ (fq_ne k) W) (fun W _ => refFTimes 613 _ _ W (by omega) (by omega) (bd_up (bd_add2 hx (bd_neg (bd_oq k))) (by omega)) (bd_up (bd_fi k) (by omega)))
end Go.Proofs.YtimihoonnglniaaGreatDoor

namespace Go.Proofs.YtimihoonnglniaaGreatDoor
open Go.RowKit
set_option maxRecDepth 100000 in
set_option maxHeartbeats 8000000 in
theorem turns_walk (n d s t pn pd qn qd : ByteArray) (e f : Int) (w : World)
    (h1 : ∀ W, Below w.heap.size w W → Calls Tryz.prog 6 #[.agg #[.string n, .string d], .string s, .string t] W fun r w' => r = .returned (.tuple #[.agg #[.string pn, .string pd], .int .i64 e]) ∧ Below W.heap.size W w')
    (h2 : ∀ W, Below w.heap.size w W → Calls Tryz.prog 7 #[.agg #[.string n, .string d], .string s, .string t] W fun r w' => r = .returned (.tuple #[.agg #[.string pn, .string pd], .int .i64 e]) ∧ Below W.heap.size W w')
    (h3 : ∀ W, Below w.heap.size w W → Calls Tryz.prog 8 #[.agg #[.string n, .string d], .string s, .string t] W fun r w' => r = .returned (.tuple #[.agg #[.string qn, .string qd], .int .i64 f]) ∧ Below W.heap.size W w')
    (h4 : ∀ W, Below w.heap.size w W → Calls Tryz.prog 9 #[.agg #[.string n, .string d], .string s, .string t] W fun r w' => r = .returned (.tuple #[.agg #[.string qn, .string qd], .int .i64 f]) ∧ Below W.heap.size W w')
    (haw : ∀ W, Below w.heap.size w W → Calls Tryz.prog 10 #[] W fun r w' => r = .returned (.bool true) ∧ Below W.heap.size W w') :
    Calls Tryz.prog 3 #[.agg #[.string n, .string d], .string s, .string t] w fun r w' => r = .returned (.bool true) ∧ Below w.heap.size w w' := by
  obtain ⟨V, hV⟩ : ∃ V, V = w.alloc (.cells #[.string n, .string d] 23) := ⟨_, rfl⟩
  have BN0 : Hid (T2 V w.heap.size (.string n) (.string d)) := by rw [hV]; exact T2.new _ _ _
  have HB0 : Hid (Below w.heap.size w V) := by rw [hV]; exact (Below.refl _ _).alloc (Nat.le_refl _) _
  have HV := hide hV
  have H1 := hide h1; have H2 := hide h2; have H3 := hide h3; have H4 := hide h4; have HAW := hide haw
  clear hV h1 h2 h3 h4 haw
  go_enter Tryz.func3, Tryz.ntmps3
  go_upto_region 1 with fail
  rw [← unhide HV]
  clear HV
  have a0 := (unhide BN0).c0; have a1 := (unhide BN0).c1
  go_upto_region 2 with (go_at_call 6; go_must (refine (unhide H1 _ (unhide HB0)).mono ?_; rintro e1 V1 ⟨rfl, hb⟩; have BN1 := hide ((unhide BN0).later hb); have HB1 := hide ((unhide HB0).trans ((hb).mono (unhide HB0).size)); clear hb a0 a1))
  have HX : Hid (T2 (V1.alloc (.cells #[.string pn, .string pd] 23)) V1.heap.size (.string pn) (.string pd) ∧ Below V1.heap.size V1 (V1.alloc (.cells #[.string pn, .string pd] 23))) := ⟨T2.new _ _ _, (Below.refl _ _).alloc (Nat.le_refl _) _⟩
  obtain ⟨g1, hg1⟩ : ∃ g1, g1 = V1.heap.size := ⟨_, rfl⟩
  obtain ⟨V2, hW⟩ : ∃ V2, V2 = V1.alloc (.cells #[.string pn, .string pd] 23) := ⟨_, rfl⟩
  rw [← hW] at HX ⊢
  have BN2 := hide ((unhide BN1).later (unhide HX).2); have HB2 := hide ((unhide HB1).trans (((unhide HX).2).mono (unhide HB1).size))
  have BP2 := hide (unhide HX).1
  rw [← hg1] at BP2 ⊢
  clear HX hW hg1
  have a0 := (unhide BN2).c0; have a1 := (unhide BN2).c1
  go_upto_region 3 with (go_at_call 7; go_must (refine (unhide H2 _ (unhide HB2)).mono ?_; rintro e1 V3 ⟨rfl, hb⟩; have BN3 := hide ((unhide BN2).later hb); have BP3 := hide ((unhide BP2).later hb); have HB3 := hide ((unhide HB2).trans ((hb).mono (unhide HB2).size)); clear hb a0 a1))
  have HX : Hid (T2 (V3.alloc (.cells #[.string pn, .string pd] 23)) V3.heap.size (.string pn) (.string pd) ∧ Below V3.heap.size V3 (V3.alloc (.cells #[.string pn, .string pd] 23))) := ⟨T2.new _ _ _, (Below.refl _ _).alloc (Nat.le_refl _) _⟩
  obtain ⟨g2, hg2⟩ : ∃ g2, g2 = V3.heap.size := ⟨_, rfl⟩
  obtain ⟨V4, hW⟩ : ∃ V4, V4 = V3.alloc (.cells #[.string pn, .string pd] 23) := ⟨_, rfl⟩
  rw [← hW] at HX ⊢
  have BN4 := hide ((unhide BN3).later (unhide HX).2); have BP4 := hide ((unhide BP3).later (unhide HX).2); have HB4 := hide ((unhide HB3).trans (((unhide HX).2).mono (unhide HB3).size))
  have BQ4 := hide (unhide HX).1
  rw [← hg2] at BQ4 ⊢
  clear HX hW hg2
  have a0 := (unhide BN4).c0; have a1 := (unhide BN4).c1
  go_upto_region 4 with (go_at_call 8; go_must (refine (unhide H3 _ (unhide HB4)).mono ?_; rintro e1 V5 ⟨rfl, hb⟩; have BN5 := hide ((unhide BN4).later hb); have BP5 := hide ((unhide BP4).later hb); have BQ5 := hide ((unhide BQ4).later hb); have HB5 := hide ((unhide HB4).trans ((hb).mono (unhide HB4).size)); clear hb a0 a1))
  have HX : Hid (T2 (V5.alloc (.cells #[.string qn, .string qd] 23)) V5.heap.size (.string qn) (.string qd) ∧ Below V5.heap.size V5 (V5.alloc (.cells #[.string qn, .string qd] 23))) := ⟨T2.new _ _ _, (Below.refl _ _).alloc (Nat.le_refl _) _⟩
  obtain ⟨g3, hg3⟩ : ∃ g3, g3 = V5.heap.size := ⟨_, rfl⟩
  obtain ⟨V6, hW⟩ : ∃ V6, V6 = V5.alloc (.cells #[.string qn, .string qd] 23) := ⟨_, rfl⟩
  rw [← hW] at HX ⊢
  have BN6 := hide ((unhide BN5).later (unhide HX).2); have BP6 := hide ((unhide BP5).later (unhide HX).2); have BQ6 := hide ((unhide BQ5).later (unhide HX).2); have HB6 := hide ((unhide HB5).trans (((unhide HX).2).mono (unhide HB5).size))
  have BR6 := hide (unhide HX).1
  rw [← hg3] at BR6 ⊢
  clear HX hW hg3
  have a0 := (unhide BN6).c0; have a1 := (unhide BN6).c1
  go_upto_region 5 with (go_at_call 9; go_must (refine (unhide H4 _ (unhide HB6)).mono ?_; rintro e1 V7 ⟨rfl, hb⟩; have BN7 := hide ((unhide BN6).later hb); have BP7 := hide ((unhide BP6).later hb); have BQ7 := hide ((unhide BQ6).later hb); have BR7 := hide ((unhide BR6).later hb); have HB7 := hide ((unhide HB6).trans ((hb).mono (unhide HB6).size)); clear hb a0 a1))
  have HX : Hid (T2 (V7.alloc (.cells #[.string qn, .string qd] 23)) V7.heap.size (.string qn) (.string qd) ∧ Below V7.heap.size V7 (V7.alloc (.cells #[.string qn, .string qd] 23))) := ⟨T2.new _ _ _, (Below.refl _ _).alloc (Nat.le_refl _) _⟩
  obtain ⟨g4, hg4⟩ : ∃ g4, g4 = V7.heap.size := ⟨_, rfl⟩
  obtain ⟨V8, hW⟩ : ∃ V8, V8 = V7.alloc (.cells #[.string qn, .string qd] 23) := ⟨_, rfl⟩
  rw [← hW] at HX ⊢
  have BN8 := hide ((unhide BN7).later (unhide HX).2); have BP8 := hide ((unhide BP7).later (unhide HX).2); have BQ8 := hide ((unhide BQ7).later (unhide HX).2); have BR8 := hide ((unhide BR7).later (unhide HX).2); have HB8 := hide ((unhide HB7).trans (((unhide HX).2).mono (unhide HB7).size))
  have BS8 := hide (unhide HX).1
  rw [← hg4] at BS8 ⊢
  clear HX hW hg4
  have a0 := (unhide BN8).c0; have a1 := (unhide BN8).c1
  have p0 := (unhide BP8).c0; have p1 := (unhide BP8).c1; have q0 := (unhide BQ8).c0; have q1 := (unhide BQ8).c1; have r0 := (unhide BR8).c0; have r1 := (unhide BR8).c1; have s0 := (unhide BS8).c0; have s1 := (unhide BS8).c1
  go_wp2_with (go_at_call 10; go_must (refine (unhide HAW _ (unhide HB8)).mono ?_; rintro e1 w9 ⟨rfl, hb⟩; have HB9 := hide ((unhide HB8).trans (hb.mono (unhide HB8).size)); clear hb))
  go_ret
  exact ⟨rfl, unhide HB9⟩
theorem fx_below {z : Rat} (h : z < 0) : fx z = .agg #[.bool true, .string (tx z.num.natAbs), .string (tx z.den)] := by unfold fx; rw [decide_eq_true h]
theorem fx_above {z : Rat} (h : ¬ z < 0) : fx z = .agg #[.bool false, .string (tx z.num.natAbs), .string (tx z.den)] := by unfold fx; rw [decide_eq_false h]
theorem law_turns (n d s t : ByteArray) (w : World) (htab : Tab w) (s1 : n.size ≤ maxLen) (s2 : d.size ≤ maxLen) :
    Calls Tryz.prog 3 #[.agg #[.string n, .string d], .string s, .string t] w fun r w' => r = .returned (.bool true) ∧ Below w.heap.size w w' := by
  have haw : ∀ W, Below w.heap.size w W → Calls Tryz.prog 10 #[] W fun r w' => r = .returned (.bool true) ∧ Below W.heap.size W w' := fun W hb => awake_any W (htab.later hb)
  by_cases h : RightT n d
  · obtain ⟨x, hx⟩ := (right_isR _ _).1 h
    have hr := fun W => ref11_yes hx W
    obtain ⟨ok1, an, asy, af, ag, ao, ap, a0, a1, a2, a3, a4, a5, a6, a7, atk, hA, cA⟩ := refFind_any s
    obtain ⟨ok2, bn, bsy, bf, bg, bo, bp, b0, b1, b2, b3, b4, b5, b6, b7, btk, hB, cB⟩ := refFind_any t
    by_cases hok : (ok1 && ok2) = true
    · obtain ⟨rfl, rfl⟩ : ok1 = true ∧ ok2 = true := by simpa using hok
      rcases hA with ⟨_, i, hi, fa, oa⟩ | ⟨h0, _⟩
      · rcases hB with ⟨_, j, hj, fb, ob⟩ | ⟨h0, _⟩
        · have bx := hx.bd
          have hst : ∀ W, Below w.heap.size w W → Calls Tryz.prog 8 #[.agg #[.string n, .string d], .string s, .string t] W fun r w' => r = .returned (.tuple #[.agg #[.string (numT (x * fq i * (fq j)⁻¹)), .string (denT (x * fq i * (fq j)⁻¹))], .int .i64 (errT (x * fq i * (fq j)⁻¹))]) ∧ Below W.heap.size W w' := fun W hW => step_ok n d s t x i j W hx hi hj (htab.later hW)
          have hst' : ∀ W, Below w.heap.size w W → Calls Tryz.prog 9 #[.agg #[.string n, .string d], .string s, .string t] W fun r w' => r = .returned (.tuple #[.agg #[.string (numT (x * fq i * (fq j)⁻¹)), .string (denT (x * fq i * (fq j)⁻¹))], .int .i64 (errT (x * fq i * (fq j)⁻¹))]) ∧ Below W.heap.size W w' := fun W _ =>
            refStep_tell n d s t an asy af ag ao ap a0 a1 a2 a3 a4 a5 a6 a7 atk bn bsy bf bg bo bp b0 b1 b2 b3 b4 b5 b6 b7 btk _ _ (fx x) (fx (fq i)) (fx (x * fq i)) (fx (fq j)) (fx (fq j)⁻¹) (fx (x * fq i * (fq j)⁻¹)) _ W (fun U _ => hr U) (fun U _ => cA U) (fun U _ => cB U) (fun U _ => refRead n d x U hx) (fun U _ => refRead _ _ _ U fa)
              (fun U _ => refFTimes 600 _ _ U (by omega) (by omega) bx (bd_up (bd_fq i) (by omega))) (fun U _ => refRead _ _ _ U fb) (fun U _ => refFOver _ (fq_ne j) U) (fun U _ => refFTimes 601 _ _ U (by omega) (by omega) (bd_up (bd_mul2 bx (bd_fq i)) (by omega)) (bd_up (bd_fi j) (by omega)))
              (fun U _ => refToldQ 602 _ U (by omega) (by omega) (bd_up (bd_mul2 (bd_mul2 bx (bd_fq i)) (bd_fi j)) (by omega)))
          have bk : Bd 607 (fq i * x + oq i) := bd_up (bd_add2 (bd_mul2 (bd_fq i) bx) (bd_oq i)) (by omega)
          have hof := fun U => refOf_ok an asy af ag ao ap a0 a1 a2 a3 a4 a5 a6 a7 atk i x U fa oa bx
          have hin := fun U => refIn_ok bn bsy bf bg bo bp b0 b1 b2 b3 b4 b5 b6 b7 btk j (fq i * x + oq i) U fb ob bk
          by_cases hk : x * fq i + oq i < 0
          · have hk' : fq i * x + oq i < 0 := by rw [Rat.mul_comm]; exact hk
            rw [fx_below hk'] at hof
            exact turns_walk n d s t _ _ _ _ _ _ w (fun W hW => to_below n d s t x i j W hx hi hj hk (htab.later hW))
              (fun W _ => refTo_below n d s t an asy af ag ao ap a0 a1 a2 a3 a4 a5 a6 a7 atk bn bsy bf bg bo bp b0 b1 b2 b3 b4 b5 b6 b7 btk _ _ (fx x) W (fun U _ => hr U) (fun U _ => cA U) (fun U _ => cB U) (fun U _ => refRead n d x U hx) (fun U _ => hof U)) hst hst' haw
          · have hk' : ¬ fq i * x + oq i < 0 := by rw [Rat.mul_comm]; exact hk
            rw [fx_above hk'] at hof hin
            have e : (x * fq i + oq i + -oq j) * (fq j)⁻¹ = (fq i * x + oq i + -oq j) * (fq j)⁻¹ := by rw [Rat.mul_comm x]
            have h1 := fun W (hW : Below w.heap.size w W) => to_tell n d s t x i j W hx hi hj hk (htab.later hW)
            rw [e] at h1
            exact turns_walk n d s t _ _ _ _ _ _ w h1
              (fun W _ => refTo_tell n d s t an asy af ag ao ap a0 a1 a2 a3 a4 a5 a6 a7 atk bn bsy bf bg bo bp b0 b1 b2 b3 b4 b5 b6 b7 btk _ _ _ _ (fx x) _ _ W (fun U _ => hr U) (fun U _ => cA U) (fun U _ => cB U) (fun U _ => refRead n d x U hx) (fun U _ => hof U) (fun U _ => hin U)
                (fun U _ => refToldQ 614 _ U (by omega) (by omega) (bd_up (bd_mul2 (bd_add2 bk (bd_neg (bd_oq j))) (bd_fi j)) (by omega)))) hst hst' haw
        · exact absurd h0 (by decide)
      · exact absurd h0 (by decide)
    · have hno : (ok1 && ok2) = false := by simpa using hok
      have kA : (ok1 = true ∧ ∃ k : Nat, IsFirst (scB s) (k : Int)) ∨ (ok1 = false ∧ IsFirst (scB s) (-1)) := by rcases hA with ⟨a, k, b, _⟩ | h; exact Or.inl ⟨a, k, b⟩; exact Or.inr h
      have kB : (ok2 = true ∧ ∃ k : Nat, IsFirst (scB t) (k : Int)) ∨ (ok2 = false ∧ IsFirst (scB t) (-1)) := by rcases hB with ⟨a, k, b, _⟩ | h; exact Or.inl ⟨a, k, b⟩; exact Or.inr h
      have hu := fun W (hW : Below w.heap.size w W) => readU_unit n d s t x ok1 ok2 W hx (htab.later hW) kA kB hno
      exact turns_walk n d s t _ _ _ _ _ _ w (fun W hW => to_no n d s t 200 W (by decide) (fun U hU => hu U (hW.trans (hU.mono hW.size))))
        (fun W _ => refTo_unit n d s t an asy af ag ao ap a0 a1 a2 a3 a4 a5 a6 a7 atk bn bsy bf bg bo bp b0 b1 b2 b3 b4 b5 b6 b7 btk ok1 ok2 W (fun U _ => hr U) (fun U _ => cA U) (fun U _ => cB U) hno)
        (fun W hW => step_no n d s t 200 W (by decide) (fun U hU => hu U (hW.trans (hU.mono hW.size))))
        (fun W _ => refStep_unit n d s t an asy af ag ao ap a0 a1 a2 a3 a4 a5 a6 a7 atk bn bsy bf bg bo bp b0 b1 b2 b3 b4 b5 b6 b7 btk ok1 ok2 W (fun U _ => hr U) (fun U _ => cA U) (fun U _ => cB U) hno) haw
  · have hr : ∀ W, Calls Tryz.prog 11 #[.agg #[.string n, .string d]] W fun r w' => r = .returned (.bool false) ∧ Below W.heap.size W w' := fun W => by
      obtain ⟨ok, hok, hc⟩ := refR_any n d W s1 s2
      rw [show ok = false from by cases ok with | true => exact absurd (hok.1 rfl) h | false => rfl] at hc
      exact hc
    exact turns_walk n d s t _ _ _ _ _ _ w (fun W _ => to_no n d s t 3 W (by decide) (fun U _ => readU_form n d s t U s1 s2 h)) (fun W _ => refTo_form n d s t W (fun U _ => hr U))
      (fun W _ => step_no n d s t 3 W (by decide) (fun U _ => readU_form n d s t U s1 s2 h)) (fun W _ => refStep_form n d s t W (fun U _ => hr U)) haw
end Go.Proofs.YtimihoonnglniaaGreatDoor

/- dim.Pow. -/
import Derived.Test.YthcbhnggphdflaaGreatDoorLimb2
import Derived.Test.YthcbhnggphdflaaGreatDoorFindB
import Derived.Test.YthcbhnggphdflaaGreatDoorSiU
import Derived.Test.YthcbhnggphdflaaGreatDoorDimOps
import Derived.ChangeKeysEq
namespace Go.Proofs.YthcbhnggphdflaaGreatDoor
open Go.RowKit
def psy : Nat → ByteArray
 | 0 => ⟨#[109]⟩
 | 1 => ⟨#[103]⟩
 | 2 => ⟨#[115]⟩
 | 3 => ⟨#[65]⟩
 | 4 => ⟨#[75]⟩
 | 5 => ⟨#[109, 111, 108]⟩
 | 6 => ⟨#[99, 100]⟩
 | _ => ⟨#[98]⟩
def pix : Nat → Nat
 | 0 => 4
 | 1 => 5
 | 2 => 2
 | 3 => 3
 | 4 => 7
 | 5 => 1
 | 6 => 6
 | _ => 0
theorem pix_first : ∀ k, k < 8 → IsFirst (scB (psy k)) (pix k : Int) ∧ pix k < 8
 | 0, _ => ⟨Or.inl ⟨4, by decide, rfl, by decide +kernel, by decide +kernel⟩, by decide⟩
 | 1, _ => ⟨Or.inl ⟨5, by decide, rfl, by decide +kernel, by decide +kernel⟩, by decide⟩
 | 2, _ => ⟨Or.inl ⟨2, by decide, rfl, by decide +kernel, by decide +kernel⟩, by decide⟩
 | 3, _ => ⟨Or.inl ⟨3, by decide, rfl, by decide +kernel, by decide +kernel⟩, by decide⟩
 | 4, _ => ⟨Or.inl ⟨7, by decide, rfl, by decide +kernel, by decide +kernel⟩, by decide⟩
 | 5, _ => ⟨Or.inl ⟨1, by decide, rfl, by decide +kernel, by decide +kernel⟩, by decide⟩
 | 6, _ => ⟨Or.inl ⟨6, by decide, rfl, by decide +kernel, by decide +kernel⟩, by decide⟩
 | 7, _ => ⟨Or.inl ⟨0, by decide, rfl, by decide +kernel, by decide +kernel⟩, by decide⟩
 | _ + 8, h => absurd h (by omega)
theorem find_part (k : Nat) (hk : k < 8) (w : World) (htab : Tab w) : Calls Tryz.prog 15 #[.string (psy k)] w fun r w' => r = .returned (.tuple #[.agg (sct (pix k)).u, .bool true]) ∧ Below w.heap.size w w' := by
 refine (find_any (psy k) w htab).mono ?_
 rintro r w' ⟨v, rfl, hv, hb⟩
 rw [hv.det (Or.inl ⟨pix k, (pix_first k hk).2, (pix_first k hk).1, rfl⟩)]
 exact ⟨rfl, hb⟩
def symsA : Array Value := #[.string ⟨#[109]⟩, .string ⟨#[103]⟩, .string ⟨#[115]⟩, .string ⟨#[65]⟩, .string ⟨#[75]⟩, .string ⟨#[109, 111, 108]⟩, .string ⟨#[99, 100]⟩, .string ⟨#[98]⟩]
theorem symIx : ∀ k : Nat, k < 8 → ∀ w : World, (Instr.index 85 (.agg symsA) (I (k : Int))).run Tryz.prog w = .ok (.string (psy k)) w
 | 0, _ => fun w => by kernel_rfl
 | 1, _ => fun w => by kernel_rfl
 | 2, _ => fun w => by kernel_rfl
 | 3, _ => fun w => by kernel_rfl
 | 4, _ => fun w => by kernel_rfl
 | 5, _ => fun w => by kernel_rfl
 | 6, _ => fun w => by kernel_rfl
 | 7, _ => fun w => by kernel_rfl
 | _ + 8, h => absurd h (by omega)
theorem z48 : Tryz.zeroCells48.size = 120 := by kernel_rfl
theorem info48 : (Tryz.prog.info? 48).map (·.size) = some 120 := by kernel_rfl
noncomputable def pA : Nat → Array Value
 | 0 => Tryz.zeroCells48
 | k + 1 => putAt (pA k) (k * 15) (sct (pix k)).u.toList
theorem pA_size : ∀ k, (pA k).size = 120
 | 0 => z48
 | k + 1 => by rw [pA, size_putAt, pA_size k]
noncomputable def partsA : Array Value := putAt (pA 8) 15 kilogramU.toList
theorem partsA_size : partsA.size = 120 := by unfold partsA; rw [size_putAt, pA_size]
theorem partsA_ones : partsA.all (·.oneCell') = true := by kernel_rfl
theorem pA_gram15 : ∀ j : Nat, j < 15 → (pA 8)[15 + j]? = gramU.toList[j]?
 | 0, _ => by kernel_rfl
 | 1, _ => by kernel_rfl
 | 2, _ => by kernel_rfl
 | 3, _ => by kernel_rfl
 | 4, _ => by kernel_rfl
 | 5, _ => by kernel_rfl
 | 6, _ => by kernel_rfl
 | 7, _ => by kernel_rfl
 | 8, _ => by kernel_rfl
 | 9, _ => by kernel_rfl
 | 10, _ => by kernel_rfl
 | 11, _ => by kernel_rfl
 | 12, _ => by kernel_rfl
 | 13, _ => by kernel_rfl
 | 14, _ => by kernel_rfl
 | _ + 15, h => absurd h (by omega)
theorem pA_gram (j : Nat) (v : Value) (h : gramU.toList[j]? = some v) : (pA 8)[15 + j]? = some v := by
 rw [pA_gram15 j (List.getElem?_eq_some_iff.1 h).1]
 exact h
theorem res48 {fn : Func} {p : Tmp} (h : fn.results = #[.cell p 48]) (tmps : Array Value) (w : World) (g : Nat) (vs : Array Value) (hl : vs.size = 120) (hp : tmps.getD p undef = .pointer (some ⟨g, 0, none⟩)) (ho : OwnU w g 48 vs) :
  (results fn tmps).run Tryz.prog w = .ok (.agg vs) w := by
 rw [results_cell1 h, hp]
 simp only [asAddr, Sem.run_pure, Result.andThen_ok]
 rw [run_loadVar_row w g 48 48 vs (0, 0) _ ho Tryz.underlying48 rfl (by rw [info48, hl])]
set_option maxRecDepth 100000 in
set_option maxHeartbeats 4000000 in
theorem parts_si (w : World) (htab : Tab w) : Calls Tryz.prog 20 #[] w fun r w' => r = .returned (.agg partsA) ∧ Below w.heap.size w w' := by
 obtain ⟨V, hV⟩ : ∃ V, V = (w.alloc (.cells Tryz.zeroCells48 48)).alloc (.cells Tryz.zeroCells48 48) := ⟨_, rfl⟩
 have HB : Hid (Below w.heap.size w V) := by rw [hV]; exact ((Below.refl _ _).alloc (Nat.le_refl _) _).alloc (by simp) _
 have HR : Hid (OwnU V w.heap.size 48 Tryz.zeroCells48) := by rw [hV]; exact (OwnU.new _ _ _).alloc _
 have HL : Hid (OwnU V (w.heap.size + 1) 48 (pA 0)) := by rw [hV]; have h := OwnU.new (w.alloc (.cells Tryz.zeroCells48 48)) Tryz.zeroCells48 48; rw [Dm.size_alloc] at h; exact h
 have HTA : Hid (∀ W, Below w.heap.size w W → Tab W) := fun W h => htab.later h
 have HV := hide hV
 clear hV htab
 go_enter Tryz.func20, Tryz.ntmps20
 go_upto_region 2 with fail
 rw [← un HV]
 clear HV
 go_upto_region 3 with (refine wpList_buildTo rfl 85 _ rfl (some 4) rfl symsA (by kernel_rfl) ?_)
 go_loopw [5] (fun s5 wr => ∃ (k : Nat), k ≤ 8 ∧ s5 = I (k : Int) ∧ Hid (OwnU wr w.heap.size 48 Tryz.zeroCells48) ∧ Hid (OwnU wr (w.heap.size + 1) 48 (pA k)) ∧ Hid (Below w.heap.size w wr)) (fun s5 _ => 8 - (intOf s5).toNat)
 case atStart => exact ⟨0, by omega, rfl, HR, HL, HB⟩
 case round =>
  clear HR HL HB
  obtain ⟨k, hk, rfl, HR, HL, HB⟩ := hrel
  by_cases hlt : k < 8
  ·have hkI : (k : Int) < 8 := by omega
   have hk0 : (0 : Int) ≤ (k : Int) := by omega
   have hix := symIx k hlt
   have HF := hide (fun W ht => find_part k hlt W ht)
   have HSZ : Hid ((sct (pix k)).u.size = 15) := size_sc _
   have HON : Hid ((sct (pix k)).u.all (·.oneCell') = true) := ones_sc _
   have HPS : Hid (pA (k + 1) = putAt (pA k) (k * 15) (sct (pix k)).u.toList) := rfl
   generalize (sct (pix k)).u = u at *
   generalize psy k = sy at *
   go_wp2_with (first
    | (go_at_call 15; go_must (refine (un HF _ (un HTA _ (un HB))).mono ?_; rintro e w1 ⟨rfl, hb⟩; have HR1 := hide ((un HR).later hb); have HL1 := hide ((un HL).later hb); have HB1 : Hid (Below w.heap.size w w1) := (un HB).trans (hb.mono (un HB).size); clear hb))
    | (refine wpList_store_mid rfl 30 (.tmp 15) (.tmp 13) rfl (w.heap.size + 1) (k * 15) u rfl rfl ((un HL1).there _ _ (by rw [un HSZ, pA_size]; omega)) (by rw [un HSZ]; exact info27) (un HON) ?_))
   have HL2 : Hid (OwnU (w1.setCells (w.heap.size + 1) (k * 15) u.toList) (w.heap.size + 1) 48 (pA (k + 1))) := by rw [un HPS]; exact OwnU.setCells _ _ _ _ (un HL1)
   have HR2 : Hid (OwnU (w1.setCells (w.heap.size + 1) (k * 15) u.toList) w.heap.size 48 Tryz.zeroCells48) := OwnU.otherCells (by omega) _ _ _ (un HR1)
   have HB2 : Hid (Below w.heap.size w (w1.setCells (w.heap.size + 1) (k * 15) u.toList)) := below_setCells (by omega) _ _ _ (un HB1)
   go_roundw
   case rel => exact ⟨k + 1, by omega, by go_num, HR2, HL2, HB2⟩
   case measure => simp [intOf]; omega
  ·have hkI : ¬ (k : Int) < 8 := by omega
   have HK : Hid (k = 8) := by show k = 8; omega
   have HL3 : Hid (OwnU wr (w.heap.size + 1) 48 (pA 8)) := by rw [← un HK]; exact HL
   have HPS : Hid (partsA = putAt (pA 8) 15 kilogramU.toList) := rfl
   have HP8 : Hid ((pA 8).size = 120) := pA_size 8
   have HMD : Hid (wr.rangeAt (w.heap.size + 1) 15 gramU.toList) := (un HL3).mid 15 _ pA_gram
   have HTH := hide (fun W ht => thousand_gram W ht)
   have HGS : Hid (gramU.toList.length = 15 ∧ kilogramU.size = 15 ∧ kilogramU.all (·.oneCell') = true) := ⟨rfl, rfl, by kernel_rfl⟩
   have HZ1 := hide partsA_size; have HZ2 := hide partsA_ones
   clear HL
   generalize pA 8 = p8 at *
   obtain ⟨pF, hpF⟩ : ∃ pF, pF = partsA := ⟨_, rfl⟩
   rw [← hpF] at HPS HZ1 HZ2
   have HEQ := hide hpF
   clear hpF
   generalize gramU = gu at *
   generalize kilogramU = ku at *
   go_upto_region 8 with (first
    | (refine wpList_load_mid rfl 30 (.tmp 17) rfl (w.heap.size + 1) 15 rfl gu.toList _ (un HMD) Tryz.underlying30 rfl (by rw [(un HGS).1]; exact info27) ?_)
    | (go_at_call 40; go_must (refine (un HTH _ (un HTA _ (un HB))).mono ?_; rintro e w1 ⟨rfl, hb⟩; have HR1 := hide ((un HR).later hb); have HL1 := hide ((un HL3).later hb); have HB1 : Hid (Below w.heap.size w w1) := (un HB).trans (hb.mono (un HB).size); clear hb))
    | (refine wpList_store_mid rfl 30 (.tmp 20) (.tmp 19) rfl (w.heap.size + 1) 15 ku rfl rfl ((un HL1).there _ _ (by rw [(un HGS).2.1, un HP8]; decide)) (by rw [(un HGS).2.1]; exact info27) (un HGS).2.2 ?_))
   have HL2 : Hid (OwnU (w1.setCells (w.heap.size + 1) 15 ku.toList) (w.heap.size + 1) 48 pF) := by rw [un HPS]; exact OwnU.setCells _ _ _ _ (un HL1)
   have HR2 : Hid (OwnU (w1.setCells (w.heap.size + 1) 15 ku.toList) w.heap.size 48 Tryz.zeroCells48) := OwnU.otherCells (by omega) _ _ _ (un HR1)
   have HB2 : Hid (Below w.heap.size w (w1.setCells (w.heap.size + 1) 15 ku.toList)) := below_setCells (by omega) _ _ _ (un HB1)
   generalize w1.setCells (w.heap.size + 1) 15 ku.toList = w2 at *
   go_wp2_with (first
    | (refine wpList_load_row rfl 48 (.tmp 1) rfl (w.heap.size + 1) rfl 48 pF (0, 0) _ (un HL2) Tryz.underlying48 rfl (by rw [info48, un HZ1]) ?_)
    | (refine storeT 48 120 info48 rfl (.tmp 0) (.tmp 21) rfl w.heap.size Tryz.zeroCells48 pF z48 (un HZ1) rfl rfl (un HR2) (un HZ2) ?_))
   exact bodyPost_ret (v := .agg pF) (res48 Tryz.results20 _ _ w.heap.size _ (un HZ1) rfl ((un HR2).setRow _)) rfl ⟨by rw [un HEQ], below_setRow (un HB2) (Nat.le_refl _) _⟩
end Go.Proofs.YthcbhnggphdflaaGreatDoor

namespace Go.Proofs.YthcbhnggphdflaaGreatDoor.Dm
open Go.RowKit
/-- All exponents are the same. -/
def eqB (l m : List Int) : Bool := decide (l = m)
theorem cells3 : Tryz.prog.cellsOf 3 = 1 := by kernel_rfl
theorem info3 : ∃ i, Tryz.prog.info? 3 = some i := Option.isSome_iff_exists.1 (by kernel_rfl)
section
variable (x0 x1 x2 x3 x4 x5 x6 x7 y0 y1 y2 y3 y4 y5 y6 y7 : Int)
theorem eqIn24 (w : World) : (Op.equalIn 10000 26 (.agg #[I x0, I x1, I x2, I x3, I x4, I x5, I x6, I x7]) (.agg #[I y0, I y1, I y2, I y3, I y4, I y5, I y6, I y7])).run Tryz.prog w = .ok (eqB [x0, x1, x2, x3, x4, x5, x6, x7] [y0, y1, y2, y3, y4, y5, y6, y7]) w := by
 obtain ⟨inf, hinf⟩ := info3
 rw [show (10000 : Nat) = 9999 + 1 from rfl, run_equalIn_array w 9999 _ _ Tryz.underlying26 hinf, cells3, show List.range 8 = [0, 1, 2, 3, 4, 5, 6, 7] from rfl]
 have p0 : ∀ w : World, (part 3 #[I x0, I x1, I x2, I x3, I x4, I x5, I x6, I x7] (0 * 1)).run Tryz.prog w = .ok (I x0) w := fun _ => by kernel_rfl
 have p1 : ∀ w : World, (part 3 #[I x0, I x1, I x2, I x3, I x4, I x5, I x6, I x7] (1 * 1)).run Tryz.prog w = .ok (I x1) w := fun _ => by kernel_rfl
 have p2 : ∀ w : World, (part 3 #[I x0, I x1, I x2, I x3, I x4, I x5, I x6, I x7] (2 * 1)).run Tryz.prog w = .ok (I x2) w := fun _ => by kernel_rfl
 have p3 : ∀ w : World, (part 3 #[I x0, I x1, I x2, I x3, I x4, I x5, I x6, I x7] (3 * 1)).run Tryz.prog w = .ok (I x3) w := fun _ => by kernel_rfl
 have p4 : ∀ w : World, (part 3 #[I x0, I x1, I x2, I x3, I x4, I x5, I x6, I x7] (4 * 1)).run Tryz.prog w = .ok (I x4) w := fun _ => by kernel_rfl
 have p5 : ∀ w : World, (part 3 #[I x0, I x1, I x2, I x3, I x4, I x5, I x6, I x7] (5 * 1)).run Tryz.prog w = .ok (I x5) w := fun _ => by kernel_rfl
 have p6 : ∀ w : World, (part 3 #[I x0, I x1, I x2, I x3, I x4, I x5, I x6, I x7] (6 * 1)).run Tryz.prog w = .ok (I x6) w := fun _ => by kernel_rfl
 have p7 : ∀ w : World, (part 3 #[I x0, I x1, I x2, I x3, I x4, I x5, I x6, I x7] (7 * 1)).run Tryz.prog w = .ok (I x7) w := fun _ => by kernel_rfl
 have q0 : ∀ w : World, (part 3 #[I y0, I y1, I y2, I y3, I y4, I y5, I y6, I y7] (0 * 1)).run Tryz.prog w = .ok (I y0) w := fun _ => by kernel_rfl
 have q1 : ∀ w : World, (part 3 #[I y0, I y1, I y2, I y3, I y4, I y5, I y6, I y7] (1 * 1)).run Tryz.prog w = .ok (I y1) w := fun _ => by kernel_rfl
 have q2 : ∀ w : World, (part 3 #[I y0, I y1, I y2, I y3, I y4, I y5, I y6, I y7] (2 * 1)).run Tryz.prog w = .ok (I y2) w := fun _ => by kernel_rfl
 have q3 : ∀ w : World, (part 3 #[I y0, I y1, I y2, I y3, I y4, I y5, I y6, I y7] (3 * 1)).run Tryz.prog w = .ok (I y3) w := fun _ => by kernel_rfl
 have q4 : ∀ w : World, (part 3 #[I y0, I y1, I y2, I y3, I y4, I y5, I y6, I y7] (4 * 1)).run Tryz.prog w = .ok (I y4) w := fun _ => by kernel_rfl
 have q5 : ∀ w : World, (part 3 #[I y0, I y1, I y2, I y3, I y4, I y5, I y6, I y7] (5 * 1)).run Tryz.prog w = .ok (I y5) w := fun _ => by kernel_rfl
 have q6 : ∀ w : World, (part 3 #[I y0, I y1, I y2, I y3, I y4, I y5, I y6, I y7] (6 * 1)).run Tryz.prog w = .ok (I y6) w := fun _ => by kernel_rfl
 have q7 : ∀ w : World, (part 3 #[I y0, I y1, I y2, I y3, I y4, I y5, I y6, I y7] (7 * 1)).run Tryz.prog w = .ok (I y7) w := fun _ => by kernel_rfl
 have e := fun w a b => run_equalIn_int (P := Tryz.prog) w 9998 3 .i64 .i64 a b Tryz.underlying3
 simp only [Op.eqItems, Sem.run_bind, p0, p1, p2, p3, p4, p5, p6, p7, q0, q1, q2, q3, q4, q5, q6, q7, Result.andThen_ok, e, Sem.run_ite, Sem.run_pure]
 unfold eqB
 by_cases h0 : x0 = y0
 rotate_left
 ·simp [h0]
 by_cases h1 : x1 = y1
 rotate_left
 ·simp [h1, h0]
 by_cases h2 : x2 = y2
 rotate_left
 ·simp [h2, h0, h1]
 by_cases h3 : x3 = y3
 rotate_left
 ·simp [h3, h0, h1, h2]
 by_cases h4 : x4 = y4
 rotate_left
 ·simp [h4, h0, h1, h2, h3]
 by_cases h5 : x5 = y5
 rotate_left
 ·simp [h5, h0, h1, h2, h3, h4]
 by_cases h6 : x6 = y6
 rotate_left
 ·simp [h6, h0, h1, h2, h3, h4, h5]
 by_cases h7 : x7 = y7
 rotate_left
 ·simp [h7, h0, h1, h2, h3, h4, h5, h6]
 simp [h0, h1, h2, h3, h4, h5, h6, h7]
end
end Go.Proofs.YthcbhnggphdflaaGreatDoor.Dm

namespace Go.Proofs.YthcbhnggphdflaaGreatDoor.Dm
open Go.RowKit
theorem mul_abs {x n : Int} {p q : Nat} (h1 : x.natAbs ≤ p) (h2 : n.natAbs ≤ q) : (x * n).natAbs ≤ p * q := by
 rw [Int.natAbs_mul]; exact Nat.mul_le_mul h1 h2
theorem wrap_mul {x n : Int} (h1 : -99 ≤ x ∧ x ≤ 99) (h2 : -1000 ≤ n ∧ n ≤ 1000) : wrap64 (x * n) = x * n := by
 have := mul_abs (x := x) (n := n) (p := 99) (q := 1000) (by omega) (by omega)
 unfold wrap64; omega
theorem far_mul {x n : Int} (hx : x ≠ 0) (hn : n < -99 ∨ 99 < n) : okB (x * n) = false := by
 have h1 : 1 ≤ x.natAbs := by omega
 have h2 : 100 ≤ n.natAbs := by omega
 have h3 : 1 * 100 ≤ x.natAbs * n.natAbs := Nat.mul_le_mul h1 h2
 rw [← Int.natAbs_mul] at h3
 exact okB_hi (by omega)
def powErr (r : Bool) (l : List Int) : Int := if r = true then errOf (rightB l) 51 else 1
section
variable (x0 x1 x2 x3 x4 x5 x6 x7 n : Int)
theorem far_right (h : eqB [x0, x1, x2, x3, x4, x5, x6, x7] [0, 0, 0, 0, 0, 0, 0, 0] = false) (hn : n < -99 ∨ 99 < n) : rightB [x0 * n, x1 * n, x2 * n, x3 * n, x4 * n, x5 * n, x6 * n, x7 * n] = false := by
 by_cases h0 : x0 = 0
 rotate_left
 ·exact rightB_false 0 (x0 * n) rfl (far_mul h0 hn)
 by_cases h1 : x1 = 0
 rotate_left
 ·exact rightB_false 1 (x1 * n) rfl (far_mul h1 hn)
 by_cases h2 : x2 = 0
 rotate_left
 ·exact rightB_false 2 (x2 * n) rfl (far_mul h2 hn)
 by_cases h3 : x3 = 0
 rotate_left
 ·exact rightB_false 3 (x3 * n) rfl (far_mul h3 hn)
 by_cases h4 : x4 = 0
 rotate_left
 ·exact rightB_false 4 (x4 * n) rfl (far_mul h4 hn)
 by_cases h5 : x5 = 0
 rotate_left
 ·exact rightB_false 5 (x5 * n) rfl (far_mul h5 hn)
 by_cases h6 : x6 = 0
 rotate_left
 ·exact rightB_false 6 (x6 * n) rfl (far_mul h6 hn)
 by_cases h7 : x7 = 0
 rotate_left
 ·exact rightB_false 7 (x7 * n) rfl (far_mul h7 hn)
 simp [eqB, h0, h1, h2, h3, h4, h5, h6, h7] at h
set_option maxRecDepth 100000 in
set_option maxHeartbeats 2000000 in
theorem pow_any (w : World) : Calls Tryz.prog 16 #[.agg #[I x0, I x1, I x2, I x3, I x4, I x5, I x6, I x7], I n] w fun e w' => e = .returned (.tuple #[.agg #[I (sel (rightB [x0, x1, x2, x3, x4, x5, x6, x7] && rightB [x0 * n, x1 * n, x2 * n, x3 * n, x4 * n, x5 * n, x6 * n, x7 * n]) (x0 * n)), I (sel (rightB [x0, x1, x2, x3, x4, x5, x6, x7] && rightB [x0 * n, x1 * n, x2 * n, x3 * n, x4 * n, x5 * n, x6 * n, x7 * n]) (x1 * n)), I (sel (rightB [x0, x1, x2, x3, x4, x5, x6, x7] && rightB [x0 * n, x1 * n, x2 * n, x3 * n, x4 * n, x5 * n, x6 * n, x7 * n]) (x2 * n)), I (sel (rightB [x0, x1, x2, x3, x4, x5, x6, x7] && rightB [x0 * n, x1 * n, x2 * n, x3 * n, x4 * n, x5 * n, x6 * n, x7 * n]) (x3 * n)), I (sel (rightB [x0, x1, x2, x3, x4, x5, x6, x7] && rightB [x0 * n, x1 * n, x2 * n, x3 * n, x4 * n, x5 * n, x6 * n, x7 * n]) (x4 * n)), I (sel (rightB [x0, x1, x2, x3, x4, x5, x6, x7] && rightB [x0 * n, x1 * n, x2 * n, x3 * n, x4 * n, x5 * n, x6 * n, x7 * n]) (x5 * n)), I (sel (rightB [x0, x1, x2, x3, x4, x5, x6, x7] && rightB [x0 * n, x1 * n, x2 * n, x3 * n, x4 * n, x5 * n, x6 * n, x7 * n]) (x6 * n)), I (sel (rightB [x0, x1, x2, x3, x4, x5, x6, x7] && rightB [x0 * n, x1 * n, x2 * n, x3 * n, x4 * n, x5 * n, x6 * n, x7 * n]) (x7 * n))], I (powErr (rightB [x0, x1, x2, x3, x4, x5, x6, x7]) [x0 * n, x1 * n, x2 * n, x3 * n, x4 * n, x5 * n, x6 * n, x7 * n])]) ∧ Below w.heap.size w w' := by
 have HA := hide (right_any x0 x1 x2 x3 x4 x5 x6 x7)
 have HT := hide (told_any (x0 * n) (x1 * n) (x2 * n) (x3 * n) (x4 * n) (x5 * n) (x6 * n) (x7 * n))
 have HG := hide (rightB_get (l := [x0, x1, x2, x3, x4, x5, x6, x7]))
 have HF := hide (far_right x0 x1 x2 x3 x4 x5 x6 x7 n)
 have heq := eqIn24 x0 x1 x2 x3 x4 x5 x6 x7 0 0 0 0 0 0 0 0
 have hz : eqB [x0, x1, x2, x3, x4, x5, x6, x7] [0, 0, 0, 0, 0, 0, 0, 0] = true → x0 = 0 ∧ x1 = 0 ∧ x2 = 0 ∧ x3 = 0 ∧ x4 = 0 ∧ x5 = 0 ∧ x6 = 0 ∧ x7 = 0 := by
  intro h; simpa [eqB] using h
 have HZ := hide hz
 clear hz
 unfold powErr
 generalize hr : rightB [x0, x1, x2, x3, x4, x5, x6, x7] = r at *
 cases r with
 | false =>
  clear hr
  simp only [Bool.false_and, sel_false, Bool.false_eq_true, if_false]
  go_enter Tryz.func16, Tryz.ntmps16
  go_wp2_with (go_at_call 34; refine (un HA _).mono ?_; rintro e w' ⟨rfl, rfl⟩)
  exact bodyPost_ret (v := .tuple #[.agg #[I 0, I 0, I 0, I 0, I 0, I 0, I 0, I 0], I 1]) (by simp [results, Tryz.results16, go_sem]) rfl ⟨rfl, by repeat (first | exact Below.refl _ _ | (refine Below.alloc ?_ (by simp <;> omega) _))⟩
 | true =>
  simp only [Bool.true_and, if_true]
  have hb := un HG rfl
  clear hr
  cases he : eqB [x0, x1, x2, x3, x4, x5, x6, x7] [0, 0, 0, 0, 0, 0, 0, 0] with
  | true =>
   obtain ⟨rfl, rfl, rfl, rfl, rfl, rfl, rfl, rfl⟩ := un HZ he
   have hr0 : rightB [0 * n, 0 * n, 0 * n, 0 * n, 0 * n, 0 * n, 0 * n, 0 * n] = true := rightB_true fun j x hx => by
    have hm := List.mem_of_getElem? hx
    have : x = 0 := by simp at hm; exact hm
    subst this; rfl
   rw [hr0]
   simp only [sel_true, errOf_true, Int.zero_mul]
   rw [he] at heq
   clear HF HT HZ hr0 hb HG he
   go_enter Tryz.func16, Tryz.ntmps16
   go_wp2_with (go_at_call 34; refine (un HA _).mono ?_; rintro e w' ⟨rfl, rfl⟩)
   exact bodyPost_ret (v := .tuple #[.agg #[I 0, I 0, I 0, I 0, I 0, I 0, I 0, I 0], I 0]) (by simp [results, Tryz.results16, go_sem]) rfl ⟨rfl, by repeat (first | exact Below.refl _ _ | (refine Below.alloc ?_ (by simp <;> omega) _))⟩
  | false =>
   rw [he] at heq
   by_cases hn : n < -99 ∨ 99 < n
   ·rw [un HF he hn]
    simp only [sel_false, errOf_false]
    clear HF HT HZ hb HG he
    rcases hn with hn | hn
    ·go_enter Tryz.func16, Tryz.ntmps16
     go_wp2_with (go_at_call 34; refine (un HA _).mono ?_; rintro e w' ⟨rfl, rfl⟩)
     exact bodyPost_ret (v := .tuple #[.agg #[I 0, I 0, I 0, I 0, I 0, I 0, I 0, I 0], I 51]) (by simp [results, Tryz.results16, go_sem]) rfl ⟨rfl, by repeat (first | exact Below.refl _ _ | (refine Below.alloc ?_ (by simp <;> omega) _))⟩
    ·have hn' : ¬ n < -99 := by omega
     go_enter Tryz.func16, Tryz.ntmps16
     go_wp2_with (go_at_call 34; refine (un HA _).mono ?_; rintro e w' ⟨rfl, rfl⟩)
     exact bodyPost_ret (v := .tuple #[.agg #[I 0, I 0, I 0, I 0, I 0, I 0, I 0, I 0], I 51]) (by simp [results, Tryz.results16, go_sem]) rfl ⟨rfl, by repeat (first | exact Below.refl _ _ | (refine Below.alloc ?_ (by simp <;> omega) _))⟩
   ·have h1 : ¬ n < -99 := by omega
    have h2 : ¬ 99 < n := by omega
    have m0 := wrap_mul (n := n) (hb 0 x0 rfl) (by omega)
    have m1 := wrap_mul (n := n) (hb 1 x1 rfl) (by omega)
    have m2 := wrap_mul (n := n) (hb 2 x2 rfl) (by omega)
    have m3 := wrap_mul (n := n) (hb 3 x3 rfl) (by omega)
    have m4 := wrap_mul (n := n) (hb 4 x4 rfl) (by omega)
    have m5 := wrap_mul (n := n) (hb 5 x5 rfl) (by omega)
    have m6 := wrap_mul (n := n) (hb 6 x6 rfl) (by omega)
    have m7 := wrap_mul (n := n) (hb 7 x7 rfl) (by omega)
    clear hn HF HZ hb HG he
    generalize rightB [x0 * n, x1 * n, x2 * n, x3 * n, x4 * n, x5 * n, x6 * n, x7 * n] = rq at *
    go_enter Tryz.func16, Tryz.ntmps16
    go_wp2_with (go_at_call 34; refine (un HA _).mono ?_; rintro e w' ⟨rfl, rfl⟩)
    refine wp_loop_rounds 9 ?_
    repeat any_goals (rw [rounds_succ]; go_wp2_with (go_at_call 35; refine (un HT _).mono ?_; rintro e w' ⟨rfl, rfl⟩))
    exact bodyPost_ret (v := .tuple #[.agg #[I (sel rq (x0 * n)), I (sel rq (x1 * n)), I (sel rq (x2 * n)), I (sel rq (x3 * n)), I (sel rq (x4 * n)), I (sel rq (x5 * n)), I (sel rq (x6 * n)), I (sel rq (x7 * n))], I (errOf rq 51)]) (by simp [results, Tryz.results16, go_sem]) rfl ⟨rfl, by repeat (first | exact Below.refl _ _ | (refine Below.alloc ?_ (by simp <;> omega) _))⟩
end
end Go.Proofs.YthcbhnggphdflaaGreatDoor.Dm

/- Frac.Pow (120), where it is not too large. -/
import Derived.Test.YthcbhnggphdflaaGreatDoorLimb2
import Derived.Test.YthcbhnggphdflaaGreatDoorGcdMath
import Derived.Test.YthcbhnggphdflaaGreatDoorMulMath
import Derived.Test.YthcbhnggphdflaaGreatDoorShelf
import Derived.Test.YthcbhnggphdflaaGreatDoorShelfB
import Derived.Laws.Bits128
import Derived.Test.YthcbhnggphdflaaGreatDoorGram
import Derived.Test.YthcbhnggphdflaaGreatDoorCopy
import Derived.Test.YthcbhnggphdflaaGreatDoorRead
import Derived.Test.YthcbhnggphdflaaGreatDoorQQuo
import Derived.Test.YthcbhnggphdflaaGreatDoorAmount
namespace Go.Proofs.YthcbhnggphdflaaGreatDoor
open Go.RowKit
theorem mulB (x y : Value) (m n r k : Nat) (w : World) (hx : IsBig w x m) (hy : IsBig w y n) (hk : k ≤ 1000000) (hm : m < 1000000000 ^ k) (hn : n < 1000000000 ^ k) (hr : r = m * n) :
    Calls Tryz.prog 129 #[x, y] w fun e w' => ∃ a l c, e = .returned (.agg #[.slice a l c]) ∧ IsBig w' (.agg #[.slice a l c]) r ∧ Below w.heap.size w w' := by
  subst hr
  refine (mul_any x y m n k w hx hy hk hm hn).mono ?_
  rintro e w' ⟨v, rfl, hv, hb⟩
  obtain ⟨a, n, c, rfl⟩ := hv.shape
  exact ⟨a, n, c, rfl, hv, hb⟩
theorem powLt (m n q M : Nat) (h : q ≤ n) (hM : m ^ n < M) (h1 : 1 < M) : m ^ q < M := by
  by_cases h0 : m = 0
  · subst h0
    cases q with
    | zero => simpa using h1
    | succ q => rw [Nat.zero_pow (by omega)]; omega
  · exact Nat.lt_of_le_of_lt (Nat.pow_le_pow_right (by omega) h) hM
theorem half_step (n i : Nat) : n / 2 ^ i = 2 * (n / 2 ^ (i + 1)) + (n / 2 ^ i) % 2 := by
  rw [Nat.pow_succ, ← Nat.div_div_eq_div_mul]; omega
theorem pow_even (m n i : Nat) (h : (n / 2 ^ i) % 2 = 0) : m ^ (n / 2 ^ i) = m ^ (n / 2 ^ (i + 1)) * m ^ (n / 2 ^ (i + 1)) := by
  rw [← Nat.pow_add]; congr 1; have := half_step n i; omega
theorem pow_odd (m n i : Nat) (h : (n / 2 ^ i) % 2 = 1) : m ^ (n / 2 ^ i) = m ^ (n / 2 ^ (i + 1)) * m ^ (n / 2 ^ (i + 1)) * m := by
  rw [← Nat.pow_add, ← Nat.pow_succ]; congr 1; have := half_step n i; omega
theorem bitLen_ok (n : Nat) (hn : n ≤ 9223372036854775807) : Lib.bitLen n ≤ 64 ∧ n / 2 ^ Lib.bitLen n = 0 := by
  by_cases h0 : n = 0
  · subst h0
    exact ⟨by decide, by simp⟩
  · obtain ⟨h1, h2, h3⟩ := Lib.bitLenAux_bounds 64 n (by omega) h0
    have e : Lib.bitLen n = Lib.bitLenAux 64 n := rfl
    rw [e]
    refine ⟨?_, Nat.div_eq_of_lt (by simpa using h3)⟩
    apply Decidable.byContradiction
    intro hc
    have h4 : 2 ^ 64 ≤ 2 ^ (Lib.bitLenAux 64 n - 1) := Nat.pow_le_pow_right (by decide) (by omega)
    omega
theorem and_one' (x : Int) : bits .and .i64 x 1 = x % 2 := by
  have h1 : (BitVec.ofInt 64 1).toNat = 2 ^ 1 - 1 := by decide
  have key : (BitVec.ofInt 64 x &&& BitVec.ofInt 64 1).toNat = (x % ((2 ^ 64 : Nat) : Int)).toNat % 2 ^ 1 := by
    rw [BitVec.toNat_and, BitVec.toNat_ofInt, h1, Nat.and_two_pow_sub_one_eq_mod]
  show IntKind.i64.wrap ((BitVec.ofInt 64 x &&& BitVec.ofInt 64 1).toNat : Nat) = x % 2
  rw [key, IntKind.wrap_i64]
  omega
theorem and_one (n j : Nat) : bits BinOp.and IntKind.i64 ((n : Int) / 2 ^ j) 1 = (((n / 2 ^ j) % 2 : Nat) : Int) := by
  rw [and_one']
  push_cast
  rfl
set_option maxRecDepth 100000 in
set_option maxHeartbeats 800000 in
theorem bigPow_any (x : Value) (m n k : Nat) (w : World) (hx : IsBig w x m) (hn : n ≤ 9223372036854775807) (hk1 : 1 ≤ k) (hk : k ≤ 1000000) (hP : m ^ n < 1000000000 ^ k) (hm : m < 1000000000 ^ k) :
    Calls Tryz.prog 182 #[x, I (n : Int)] w fun e w' => ∃ a l c, e = .returned (.agg #[.slice a l c]) ∧ IsBig w' (.agg #[.slice a l c]) (m ^ n) ∧ Below w.heap.size w w' := by
  obtain ⟨xa, xn, xc, rfl⟩ := hx.shape
  have HX := hide hx
  have HP := hide hP
  have HM := hide hm
  have H92 := hide (fun W => Tryz.bits_Len (n : Int) W (by omega) (by omega))
  clear hx hP hm
  obtain ⟨hL, hL0⟩ := bitLen_ok n hn
  have e9 : ((n : Int)).toNat = n := by simp
  rw [e9] at H92
  clear e9
  generalize Lib.bitLen n = L at *
  have HL0 := hide hL0
  clear hL0
  go_enter Tryz.func182, Tryz.ntmps182
  go_wp2_with (first
    | (go_at_call 175; refine (bigOf_any 1 _ (by decide)).mono ?_; rintro e w2 ⟨ba, bn, bc, rfl, hbig, hb2⟩; have HBIG := hide hbig; clear hbig)
    | (go_at_call 200; refine (un H92 _).mono ?_; rintro e w' ⟨rfl, rfl⟩))
  have hs2 : w.heap.size + 2 ≤ w2.heap.size := by have := hb2.size; simpa using this
  have hc0 : w2.cell? ⟨w.heap.size, 0, none⟩ = some (.slice xa xn xc) := by rw [hb2.cell (p := ⟨w.heap.size, 0, none⟩) (by simp; omega)]; simp
  have hc1 : w2.cell? ⟨w.heap.size + 1, 0, none⟩ = some (.slice none 0 0) := by rw [hb2.cell (p := ⟨w.heap.size + 1, 0, none⟩) (by simp)]; simp
  have hf1 : w2.frozen? ⟨w.heap.size + 1, 0, none⟩ = false := by rw [hb2.frozen (p := ⟨w.heap.size + 1, 0, none⟩) (by simp)]; simp
  have hbw : Below w.heap.size w w2 := (((Below.refl _ _).alloc (Nat.le_refl _) _).alloc (by simp) _).trans (hb2.mono (by simp; omega))
  have HX2 := hide ((un HX).later hbw)
  go_loopw [6] (fun t wr => ∃ (i : Nat) (pa : Option Addr) (pn pc : Nat), i ≤ 64 ∧ t = I ((i : Int) - 1) ∧ wr.cell? ⟨w2.heap.size, 0, none⟩ = some (.slice pa pn pc) ∧ wr.frozen? ⟨w2.heap.size, 0, none⟩ = false ∧ Hid (IsBig wr (.agg #[.slice pa pn pc]) (m ^ (n / 2 ^ i))) ∧ Below w2.heap.size w2 wr) (fun t _ => (intOf t + 1).toNat)
  case atStart => exact ⟨L, ba, bn, bc, hL, by go_num, World.cell?_alloc_at _ _ _ _ rfl, World.frozen?_alloc_at _ _ _ _ rfl, by rw [un HL0]; exact (un HBIG).later ((Below.refl _ _).alloc (Nat.le_refl _) _), (Below.refl _ _).alloc (Nat.le_refl _) _⟩
  case round =>
    obtain ⟨i, pa, pn, pc, hi, rfl, hcell, hfr, HB, hbl⟩ := hrel
    by_cases h0 : 0 < i
    · obtain ⟨j, rfl⟩ : ∃ j, i = j + 1 := ⟨i - 1, by omega⟩
      have e6 : ((j + 1 : Nat) : Int) - 1 = (j : Int) := by omega
      rw [e6]
      clear e6
      have h1 : 1 < 1000000000 ^ k := Nat.one_lt_pow (by omega) (by decide)
      have hst := half_step n j
      have hdl : n / 2 ^ j ≤ n := Nat.div_le_self _ _
      have B1 := powLt m n (n / 2 ^ (j + 1)) _ (by omega) (un HP) h1
      have B2 : m ^ (n / 2 ^ (j + 1)) * m ^ (n / 2 ^ (j + 1)) < 1000000000 ^ k := by rw [← Nat.pow_add]; exact powLt m n _ _ (by omega) (un HP) h1
      have HE := hide (pow_even m n j)
      have HO := hide (pow_odd m n j)
      generalize m ^ (n / 2 ^ (j + 1)) = Q at *
      have H1 := hide (fun W v (hv : IsBig W v Q) => mulB v v Q Q (Q * Q) k W hv hv hk B1 B1 rfl)
      have H2 := hide (fun W v x (hv : IsBig W v (Q * Q)) (hx : IsBig W x m) => mulB v x (Q * Q) m (Q * Q * m) k W hv hx hk B2 (un HM) rfl)
      clear B1 B2 h1 hst hdl
      have hg : w2.heap.size < wr.heap.size := World.block_lt_of_cell? _ _ hcell
      have hc0r := (hbl.cell (p := ⟨w.heap.size, 0, none⟩) (by simp; omega)).trans hc0
      have hand := and_one n j
      by_cases hbit : (n / 2 ^ j) % 2 = 1
      · rw [hbit] at hand
        rw [← un HO hbit] at H2
        go_wp2_with (first
          | (go_at_call_of 129 (Value.agg #[Value.slice pa pn pc]); refine (un H1 _ _ (un HB)).mono ?_; rintro e w3 ⟨ya, yn, yc, rfl, hy, hb3⟩; have HY := hide (hy.box (.slice ya yn yc) (box_later hb3 hg hcell hfr).1 (no_int _ _ _)); clear hy; obtain ⟨hcell3, hfr3⟩ := box_later hb3 hg hcell hfr; have hcell4 := World.cell?_setCell_same w3 ⟨w2.heap.size, 0, none⟩ (.slice ya yn yc) hcell3; have hfr4 : (w3.setCell ⟨w2.heap.size, 0, none⟩ (.slice ya yn yc)).frozen? ⟨w2.heap.size, 0, none⟩ = false := by rw [World.frozen?_setCell]; exact hfr3
             have hb4 : Below w2.heap.size w2 (w3.setCell ⟨w2.heap.size, 0, none⟩ (.slice ya yn yc)) := (hbl.trans (hb3.mono hbl.size)).setCell (Nat.le_refl _) _
             have hc04 := (hb4.cell (p := ⟨w.heap.size, 0, none⟩) (by simp; omega)).trans hc0)
          | (go_at_call_of 129 (Value.agg #[Value.slice xa xn xc]); refine (un H2 _ _ _ (un HY) ((un HX2).later hb4)).mono ?_; rintro e w5 ⟨za, zn, zc, rfl, hz, hb5⟩; obtain ⟨hcell5, hfr5⟩ := box_later hb5 (World.block_lt_of_cell? _ _ hcell4) hcell4 hfr4; have HZ := hide (hz.box (.slice za zn zc) hcell5 (no_int _ _ _)); clear hz))
        go_roundw
        case rel => exact ⟨j, za, zn, zc, by omega, by go_num, World.cell?_setCell_same _ _ _ hcell5, by rw [World.frozen?_setCell]; exact hfr5, HZ, (hb4.trans (hb5.mono hb4.size)).setCell (Nat.le_refl _) _⟩
        case measure => simp [intOf]
      · have hbit0 : (n / 2 ^ j) % 2 = 0 := by omega
        rw [hbit0] at hand
        rw [← un HE hbit0] at H1
        go_wp2_with (first
          | (go_at_call_of 129 (Value.agg #[Value.slice pa pn pc]); refine (un H1 _ _ (un HB)).mono ?_; rintro e w3 ⟨ya, yn, yc, rfl, hy, hb3⟩; have HY := hide (hy.box (.slice ya yn yc) (box_later hb3 hg hcell hfr).1 (no_int _ _ _)); clear hy; obtain ⟨hcell3, hfr3⟩ := box_later hb3 hg hcell hfr))
        go_roundw
        case rel => exact ⟨j, ya, yn, yc, by omega, by go_num, World.cell?_setCell_same _ _ _ hcell3, by rw [World.frozen?_setCell]; exact hfr3, HY, (hbl.trans (hb3.mono hbl.size)).setCell (Nat.le_refl _) _⟩
        case measure => simp [intOf]
    · have hi0 : i = 0 := by omega
      subst hi0
      have HB' : Hid (IsBig wr (.agg #[.slice pa pn pc]) (m ^ n)) := by have := un HB; rw [Nat.pow_zero, Nat.div_one] at this; exact this
      have hc1r := (hbl.cell (p := ⟨w.heap.size + 1, 0, none⟩) (by simp; omega)).trans hc1
      have hf1r := (hbl.frozen (p := ⟨w.heap.size + 1, 0, none⟩) (by simp; omega)).trans hf1
      go_wp2
      refine bodyPost_ret (v := .agg #[.slice pa pn pc]) (by simp [results, Tryz.results182, go_sem, hc1r]) rfl ⟨_, _, _, rfl, ?_, ?_⟩
      · exact (un HB').box _ hc1r (no_int _ _ _)
      · exact (hbw.trans (hbl.mono (by omega))).setCell (by simp) _
end Go.Proofs.YthcbhnggphdflaaGreatDoor

namespace Go.Proofs.YthcbhnggphdflaaGreatDoor
open Go.RowKit
set_option maxRecDepth 100000 in
set_option maxHeartbeats 2000000 in
theorem power_of (x : Value) (m n M L1 L2 : Nat) (w : World) (hx : IsBig w x m) (hn : n ≤ 4096) (hM : m ^ n = M) (h67 : m < 1000000000 ^ 67) (hP67 : m ^ n < 1000000000 ^ 67) (hL1 : Lib.nDigits m = L1) (hL2 : Lib.nDigits M = L2) (hl1 : L1 ≤ 600) (hl2 : L2 ≤ 600) (hq : ((L1 : Int) - 1) * (n : Int) < 600) (hq0 : -5000 ≤ ((L1 : Int) - 1) * (n : Int)) :
  Calls Tryz.prog 167 #[x, I (n : Int)] w fun e w' => ∃ a l c, e = .returned (.tuple #[.agg #[.slice a l c], .bool true]) ∧ IsBig w' (.agg #[.slice a l c]) M ∧ Below w.heap.size w w' := by
 obtain ⟨xa, xn, xc, rfl⟩ := hx.shape
 have HLN : Hid (∀ W, IsBig W (.agg #[.slice xa xn xc]) m → Calls Tryz.prog 97 #[.agg #[.slice xa xn xc]] W fun e w' => e = .returned (I (L1 : Int)) ∧ Below W.heap.size W w') := fun W h => by have := len_any _ m 67 W h (by decide) h67; rw [hL1] at this; exact this
 have HLM : Hid (∀ W v, IsBig W v M → Calls Tryz.prog 97 #[v] W fun e w' => e = .returned (I (L2 : Int)) ∧ Below W.heap.size W w') := fun W v h => by have := len_any v M 67 W h (by decide) (by rw [← hM]; exact hP67); rw [hL2] at this; exact this
 have HPW : Hid (∀ W, IsBig W (.agg #[.slice xa xn xc]) m → Calls Tryz.prog 182 #[.agg #[.slice xa xn xc], I (n : Int)] W fun e w' => ∃ a l c, e = .returned (.agg #[.slice a l c]) ∧ IsBig w' (.agg #[.slice a l c]) M ∧ Below W.heap.size W w') := fun W h => by have := bigPow_any _ m n 67 W h (by omega) (by decide) (by decide) hP67 h67; rw [hM] at this; exact this
 obtain ⟨V, hV⟩ : ∃ V, V = (w.alloc (.cells #[.slice xa xn xc] 116)).alloc (.cells #[.slice none 0 0] 116) := ⟨_, rfl⟩
 have HW : Hid (Below w.heap.size w V) := by rw [hV]; exact ((Below.refl _ _).alloc (Nat.le_refl _) _).alloc (by simp) _
 have HA : Hid (Box V w.heap.size (.slice xa xn xc)) := by rw [hV]; exact ⟨by simp [go_sem], by simp [go_sem]⟩
 have HR : Hid (Box V (w.heap.size + 1) (.slice none 0 0)) := by rw [hV]; exact ⟨by simp [go_sem], by simp [go_sem]⟩
 have HX := hide (hx.later (un HW))
 have HV := hide hV
 clear hV hx hM h67 hP67 hL1 hL2
 go_enter Tryz.func167, Tryz.ntmps167
 go_upto_region 1 with fail
 rw [← un HV]
 clear HV
 have a0 := (un HA).c
 go_upto_region 3 with (go_at_call 97; go_must (refine (un HLN _ (un HX)).mono ?_; rintro e w1 ⟨rfl, hb⟩; have HX1 := hide ((un HX).later hb); have HA1 := hide ((un HA).later hb); have HR1 := hide ((un HR).later hb); have HW1 : Hid (Below w.heap.size w w1) := (un HW).trans (hb.mono (un HW).size); clear hb a0))
 clear HX HA HR HW HLN hq hq0
 have a0 := (un HA1).c
 go_upto_region 4 with (go_at_call 182; go_must (refine (un HPW _ (un HX1)).mono ?_; rintro e w2 ⟨pa, pn, pc, rfl, hp, hb⟩; have HP2 := hide hp; have HR2 := hide ((un HR1).later hb); have HW2 : Hid (Below w.heap.size w w2) := (un HW1).trans (hb.mono (un HW1).size); clear hb hp a0))
 obtain ⟨V3, hV3⟩ : ∃ V3, V3 = w2.alloc (.cells #[.slice pa pn pc] 116) := ⟨_, rfl⟩
 have hb3 : Below w2.heap.size w2 V3 := by rw [hV3]; exact (Below.refl _ _).alloc (Nat.le_refl _) _
 have HB3 : Hid (Box V3 w2.heap.size (.slice pa pn pc)) := by rw [hV3]; exact ⟨by simp [go_sem], by simp [go_sem]⟩
 have HP3 := hide ((un HP2).later hb3); have HR3 := hide ((un HR2).later hb3); have HW3 : Hid (Below w.heap.size w V3) := (un HW2).trans (hb3.mono (un HW2).size)
 have HNE : Hid (¬ w.heap.size + 1 = w2.heap.size) := (by have := (un HR2).lt; show ¬ _; omega)
 rw [← hV3]
 clear hV3 hb3 HP2 HR2 HW2 HX1 HA1 HR1 HW1
 generalize w2.heap.size = g6 at *
 have HS0 : Hid (V3.drew.cell? ⟨g6, 0, none⟩ = some (.slice pa pn pc)) := (un HB3).c
 refine region_reads 4 (fun _ => True) (fun W' => W'.cell? ⟨g6, 0, none⟩ = some (.slice pa pn pc)) 6 rfl (by kernel_rfl) ?_
 refine wpR_take7 (i := 0) (oi := _) (v := .agg #[.slice pa pn pc]) rfl (by kernel_rfl) (by kernel_rfl) (by kernel_rfl) (by kernel_rfl) (fun _ _ _ h => h) (Or.inl ⟨by rfl, ?_⟩) ⟨trivial, un HS0⟩ ?_
 ·intro W' hW
  go_simp
 refine wpR_take7 (i := 1) (oi := _) (v := .agg #[.slice pa pn pc]) rfl (by kernel_rfl) (by kernel_rfl) (by kernel_rfl) (by kernel_rfl) (fun _ _ _ h => h) (Or.inl ⟨by rfl, ?_⟩) ⟨trivial, un HS0⟩ ?_
 ·intro W' hW
  go_simp
 have HP4 : Hid (IsBig V3.drew (.agg #[.slice pa pn pc]) M) := (un HP3).later ((Below.refl _ _).drew)
 have HR4 : Hid (Box V3.drew (w.heap.size + 1) (.slice none 0 0)) := (un HR3).later ((Below.refl _ _).drew)
 have HB4 : Hid (Box V3.drew g6 (.slice pa pn pc)) := (un HB3).later ((Below.refl _ _).drew)
 have HW4 : Hid (Below w.heap.size w V3.drew) := (un HW3).drew
 clear HP3 HR3 HB3 HW3 HS0
 generalize V3.drew = U at *
 refine wpR_op (i := 2) (o := _) (by kernel_rfl) rfl rfl (fun K hK => ?_)
 go_simp
 refine (un HLM _ _ (un HP4)).mono ?_
 rintro e U2 ⟨rfl, hb⟩
 have HP5 := hide ((un HP4).later hb); have HR5 := hide ((un HR4).later hb); have HB5 := hide ((un HB4).later hb); have HW5 : Hid (Below w.heap.size w U2) := (un HW4).trans (hb.mono (un HW4).size)
 clear hb HP4 HR4 HB4 HW4
 refine hK _ _ ⟨trivial, (un HB5).c⟩ ?_
 clear hK K
 have hl2I : (L2 : Int) ≤ 600 := by omega
 refine wpR_take7 (i := 3) (oi := _) (v := .bool true) rfl (by kernel_rfl) (by kernel_rfl) (by kernel_rfl) (by kernel_rfl) (fun _ _ _ h => h) (Or.inl ⟨by rfl, ?_⟩) ⟨trivial, (un HB5).c⟩ ?_
 ·intro W' hW
  go_simp
 have r0 := (un HR5).c; have r1 := (un HR5).f
 refine wpR_late (i := 4) (o := _) (by kernel_rfl) rfl rfl (by kernel_rfl) (fun K hK => ?_)
 go_simp
 have hne : ¬ w.heap.size + 1 = g6 := un HNE
 have HB6 := hide ((un HB5).other (fun h => hne h.symm) (.slice pa pn pc))
 refine hK _ _ (un HB6).c ?_
 clear hK K
 refine wpR_late (i := 5) (o := _) (by kernel_rfl) rfl rfl (by kernel_rfl) (fun K hK => ?_)
 go_simp
 refine hK _ _ (un HB6).c ?_
 clear hK K
 refine wpR_done (by kernel_rfl) ?_
 go_wp2_with fail
 have hs := (un HR5).set (.slice pa pn pc)
 have u0 := hs.c
 refine bodyPost_ret (v := .tuple #[.agg #[.slice pa pn pc], .bool true]) (by simp [results, Tryz.results167, go_sem, u0]) rfl ⟨_, _, _, rfl, ?_, ?_⟩
 ·exact (un HP5).box _ (un HR5).c (no_int _ _ _)
 ·exact (un HW5).setCell (by simp) _
end Go.Proofs.YthcbhnggphdflaaGreatDoor

namespace Go.Proofs.YthcbhnggphdflaaGreatDoor
open Go.RowKit
set_option maxRecDepth 100000 in
set_option maxHeartbeats 2000000 in
theorem fpow_pos (b : Bool) (a1 a2 : Option Addr) (l1 c1 l2 c2 : Nat) (N D k NK DK : Nat) (w : World)
  (hN : IsBig w (.agg #[.slice a1 l1 c1]) N) (hD : IsBig w (.agg #[.slice a2 l2 c2]) D) (hk : k ≤ 4096)
  (hp1 : ∀ W v, IsBig W v N → Calls Tryz.prog 167 #[v, I (k : Int)] W fun e w' => ∃ a l c, e = .returned (.tuple #[.agg #[.slice a l c], .bool true]) ∧ IsBig w' (.agg #[.slice a l c]) NK ∧ Below W.heap.size W w')
  (hp2 : ∀ W v, IsBig W v D → Calls Tryz.prog 167 #[v, I (k : Int)] W fun e w' => ∃ a l c, e = .returned (.tuple #[.agg #[.slice a l c], .bool true]) ∧ IsBig w' (.agg #[.slice a l c]) DK ∧ Below W.heap.size W w') :
  Calls Tryz.prog 120 #[.agg #[.bool b, .slice a1 l1 c1, .slice a2 l2 c2], I (k : Int)] w fun e w' => ∃ v, e = .returned (.tuple #[v, I 0]) ∧ IsFrac w' v (b && decide (k % 2 = 1)) NK DK ∧ Below w.heap.size w w' := by
 obtain ⟨V, hV⟩ : ∃ V, V = (w.alloc (.cells #[.bool b, .slice a1 l1 c1, .slice a2 l2 c2] 118)).alloc (.cells #[.bool false, .slice none 0 0, .slice none 0 0] 118) := ⟨_, rfl⟩
 have HW : Hid (Below w.heap.size w V) := by rw [hV]; exact ((Below.refl _ _).alloc (Nat.le_refl _) _).alloc (by simp) _
 have HA : Hid (FBox V w.heap.size (.bool b) (.slice a1 l1 c1) (.slice a2 l2 c2)) := by rw [hV]; exact (FBox.new _ _ _ _).later ((Below.refl _ _).alloc (Nat.le_refl _) _)
 have HR : Hid (FBox V (w.heap.size + 1) (.bool false) (.slice none 0 0) (.slice none 0 0)) := by rw [hV]; have h := FBox.new (w.alloc (.cells #[.bool b, .slice a1 l1 c1, .slice a2 l2 c2] 118)) (.bool false) (.slice none 0 0) (.slice none 0 0); rw [Dm.size_alloc] at h; exact h
 have HN := hide (hN.later (un HW)); have HD := hide (hD.later (un HW))
 have H1 := hide hp1; have H2 := hide hp2
 have HV := hide hV
 have hk0 : ¬ (k : Int) < 0 := by omega
 have HPAR : Hid (((k : Int) % 2 == 1) = decide (k % 2 = 1)) := by
  show _ = _
  rw [Bool.eq_iff_iff]
  simp
  omega
 clear hV hN hD hp1 hp2
 go_enter Tryz.func120, Tryz.ntmps120
 go_upto_region 1 with fail
 rw [← un HV]
 clear HV
 have t0 := (un HA).c0; have t1 := (un HA).c1; have t2 := (un HA).c2
 go_upto_region 6 with (go_at_call 167; go_must (refine (un H1 _ _ (un HN)).mono ?_; rintro e w1 ⟨p1, p2, p3, rfl, hp, hb⟩; have HP1 := hide hp; have HA1 := hide ((un HA).later hb); have HR1 := hide ((un HR).later hb); have HD1 := hide ((un HD).later hb); have HW1 : Hid (Below w.heap.size w w1) := (un HW).trans (hb.mono (un HW).size); clear hb hp t0 t1 t2))
 obtain ⟨V3, hV3⟩ : ∃ V3, V3 = w1.alloc (.cells #[.slice p1 p2 p3] 116) := ⟨_, rfl⟩
 have hb3 : Below w1.heap.size w1 V3 := by rw [hV3]; exact (Below.refl _ _).alloc (Nat.le_refl _) _
 have HX3 : Hid (Box V3 w1.heap.size (.slice p1 p2 p3)) := by rw [hV3]; exact ⟨by simp [go_sem], by simp [go_sem]⟩
 have HP3 := hide ((un HP1).later hb3); have HA3 := hide ((un HA1).later hb3); have HR3 := hide ((un HR1).later hb3); have HD3 := hide ((un HD1).later hb3); have HW3 : Hid (Below w.heap.size w V3) := (un HW1).trans (hb3.mono (un HW1).size)
 have HNE : Hid (¬ w.heap.size + 1 = w1.heap.size) := (by have := (un HR1).lt; show ¬ _; omega)
 rw [← hV3]
 clear hV3 hb3 HP1 HA1 HR1 HD1 HW1 HA HR HN HD HW H1
 generalize w1.heap.size = g6 at *
 have t0 := (un HA3).c0; have t1 := (un HA3).c1; have t2 := (un HA3).c2
 go_upto_region 7 with (go_at_call 167; go_must (refine (un H2 _ _ (un HD3)).mono ?_; rintro e w4 ⟨q1, q2, q3, rfl, hp, hb⟩; have HQ4 := hide hp; have HA4 := hide ((un HA3).later hb); have HR4 := hide ((un HR3).later hb); have HX4 := hide ((un HX3).later hb); have HP4 := hide ((un HP3).later hb); have HW4 : Hid (Below w.heap.size w w4) := (un HW3).trans (hb.mono (un HW3).size); clear hb hp t0 t1 t2))
 obtain ⟨V5, hV5⟩ : ∃ V5, V5 = w4.alloc (.cells #[.slice q1 q2 q3] 116) := ⟨_, rfl⟩
 have hb5 : Below w4.heap.size w4 V5 := by rw [hV5]; exact (Below.refl _ _).alloc (Nat.le_refl _) _
 have HY5 : Hid (Box V5 w4.heap.size (.slice q1 q2 q3)) := by rw [hV5]; exact ⟨by simp [go_sem], by simp [go_sem]⟩
 have HX5 := hide ((un HX4).later hb5); have HP5 := hide ((un HP4).later hb5); have HQ5 := hide ((un HQ4).later hb5); have HA5 := hide ((un HA4).later hb5); have HR5 := hide ((un HR4).later hb5); have HW5 : Hid (Below w.heap.size w V5) := (un HW4).trans (hb5.mono (un HW4).size)
 rw [← hV5]
 clear hV5 hb5 HX4 HP4 HQ4 HA4 HR4 HW4 HX3 HP3 HA3 HR3 HD3 HW3 H2
 generalize w4.heap.size = g8 at *
 have t0 := (un HA5).c0; have x0 := (un HX5).c; have y0 := (un HY5).c
 have r0 := (un HR5).c0; have r1 := (un HR5).c1; have r2 := (un HR5).c2
 have f0 := (un HR5).f0; have f1 := (un HR5).f1; have f2 := (un HR5).f2
 cases b
 ·go_wp2_with fail
  have hS := (un HR5).store (.bool false) (.slice p1 p2 p3) (.slice q1 q2 q3)
  have u0 := hS.c0; have u1 := hS.c1; have u2 := hS.c2
  refine bodyPost_ret (v := .tuple #[.agg #[.bool false, .slice p1 p2 p3, .slice q1 q2 q3], I 0]) (w := store3 V5 (w.heap.size + 1) (.bool false) (.slice p1 p2 p3) (.slice q1 q2 q3)) (by simp [results, Tryz.results120, go_sem, u0, u1, u2]) rfl ⟨_, rfl, ⟨_, _, ?_, (un HR5).big _ _ _ (un HP5), (un HR5).big _ _ _ (un HQ5)⟩, below_store3 (un HW5) (by omega) _ _ _⟩
  rw [Bool.false_and]
 ·go_wp2_with fail
  have hS := (un HR5).store (.bool ((k : Int) % 2 == 1)) (.slice p1 p2 p3) (.slice q1 q2 q3)
  have u0 := hS.c0; have u1 := hS.c1; have u2 := hS.c2
  refine bodyPost_ret (v := .tuple #[.agg #[.bool ((k : Int) % 2 == 1), .slice p1 p2 p3, .slice q1 q2 q3], I 0]) (w := store3 V5 (w.heap.size + 1) (.bool ((k : Int) % 2 == 1)) (.slice p1 p2 p3) (.slice q1 q2 q3)) (by simp [results, Tryz.results120, go_sem, u0, u1, u2]) rfl ⟨_, rfl, ⟨_, _, ?_, (un HR5).big _ _ _ (un HP5), (un HR5).big _ _ _ (un HQ5)⟩, below_store3 (un HW5) (by omega) _ _ _⟩
  rw [un HPAR, Bool.true_and]
set_option maxRecDepth 100000 in
set_option maxHeartbeats 2000000 in
theorem fpow_neg (b : Bool) (x1 x2 : Option Addr) (y1 z1 y2 z2 : Nat) (N D k NK DK : Nat) (sg : Int) (w : World)
  (hF : IsFrac w (.agg #[.bool b, .slice x1 y1 z1, .slice x2 y2 z2]) b D N) (hk : k ≤ 4096) (hk1 : 0 < k) (hsg0 : sg ≠ 0)
  (hsg : ∀ W, IsFrac W (.agg #[.bool b, .slice x1 y1 z1, .slice x2 y2 z2]) b D N → Calls Tryz.prog 65 #[.agg #[.bool b, .slice x1 y1 z1, .slice x2 y2 z2]] W fun e w' => e = .returned (I sg) ∧ Below W.heap.size W w')
  (hin : ∀ W, IsFrac W (.agg #[.bool b, .slice x1 y1 z1, .slice x2 y2 z2]) b D N → Calls Tryz.prog 96 #[.agg #[.bool b, .slice x1 y1 z1, .slice x2 y2 z2]] W fun e w' => ∃ v, e = .returned v ∧ IsFrac w' v b N D ∧ Below W.heap.size W w')
  (hp1 : ∀ W v, IsBig W v N → Calls Tryz.prog 167 #[v, I (k : Int)] W fun e w' => ∃ a l c, e = .returned (.tuple #[.agg #[.slice a l c], .bool true]) ∧ IsBig w' (.agg #[.slice a l c]) NK ∧ Below W.heap.size W w')
  (hp2 : ∀ W v, IsBig W v D → Calls Tryz.prog 167 #[v, I (k : Int)] W fun e w' => ∃ a l c, e = .returned (.tuple #[.agg #[.slice a l c], .bool true]) ∧ IsBig w' (.agg #[.slice a l c]) DK ∧ Below W.heap.size W w') :
  Calls Tryz.prog 120 #[.agg #[.bool b, .slice x1 y1 z1, .slice x2 y2 z2], I (-(k : Int))] w fun e w' => ∃ v, e = .returned (.tuple #[v, I 0]) ∧ IsFrac w' v (b && decide (k % 2 = 1)) NK DK ∧ Below w.heap.size w w' := by
 obtain ⟨V, hV⟩ : ∃ V, V = (w.alloc (.cells #[.bool b, .slice x1 y1 z1, .slice x2 y2 z2] 118)).alloc (.cells #[.bool false, .slice none 0 0, .slice none 0 0] 118) := ⟨_, rfl⟩
 have HW : Hid (Below w.heap.size w V) := by rw [hV]; exact ((Below.refl _ _).alloc (Nat.le_refl _) _).alloc (by simp) _
 have HA : Hid (FBox V w.heap.size (.bool b) (.slice x1 y1 z1) (.slice x2 y2 z2)) := by rw [hV]; exact (FBox.new _ _ _ _).later ((Below.refl _ _).alloc (Nat.le_refl _) _)
 have HR : Hid (FBox V (w.heap.size + 1) (.bool false) (.slice none 0 0) (.slice none 0 0)) := by rw [hV]; have h := FBox.new (w.alloc (.cells #[.bool b, .slice x1 y1 z1, .slice x2 y2 z2] 118)) (.bool false) (.slice none 0 0) (.slice none 0 0); rw [Dm.size_alloc] at h; exact h
 have HF := hide (hF.later (un HW))
 have H1 := hide hp1; have H2 := hide hp2; have HSG := hide hsg; have HIN := hide hin
 have HV := hide hV
 have hk0 : -(k : Int) < 0 := by omega
 have hsb : (sg == 0) = false := by simpa using hsg0
 have HPAR : Hid (((k : Int) % 2 == 1) = decide (k % 2 = 1)) := by
  show _ = _
  rw [Bool.eq_iff_iff]
  simp
  omega
 clear hV hF hp1 hp2 hsg hin hsg0
 go_enter Tryz.func120, Tryz.ntmps120
 go_upto_region 1 with fail
 rw [← un HV]
 clear HV
 have t0 := (un HA).c0; have t1 := (un HA).c1; have t2 := (un HA).c2
 go_upto_region 4 with (go_at_call 65; go_must (refine (un HSG _ (un HF)).mono ?_; rintro e w1 ⟨rfl, hb⟩; have HF1 := hide ((un HF).later hb); have HA1 := hide ((un HA).later hb); have HR1 := hide ((un HR).later hb); have HW1 : Hid (Below w.heap.size w w1) := (un HW).trans (hb.mono (un HW).size); clear hb t0 t1 t2))
 clear hsb HF HA HR HW HSG
 have t0 := (un HA1).c0; have t1 := (un HA1).c1; have t2 := (un HA1).c2
 have f0 := (un HA1).f0; have f1 := (un HA1).f1; have f2 := (un HA1).f2
 go_upto_region 5 with (go_at_call 96; go_must (refine (un HIN _ (un HF1)).mono ?_; rintro e w2 ⟨v2, rfl, hv, hb⟩; obtain ⟨a1, l1, c1, a2, l2, c2, rfl, hN, hD⟩ := hv.form; have HN2 := hide hN; have HD2 := hide hD; have HA2 := hide ((un HA1).later hb); have HR2 := hide ((un HR1).later hb); have HW2 : Hid (Below w.heap.size w w2) := (un HW1).trans (hb.mono (un HW1).size); clear hb hv hN hD t0 t1 t2 f0 f1 f2; have t0 := (un HA2).c0; have t1 := (un HA2).c1; have t2 := (un HA2).c2; have f0 := (un HA2).f0; have f1 := (un HA2).f1; have f2 := (un HA2).f2))
 have HA : Hid (FBox (store3 w2 w.heap.size (.bool b) (.slice a1 l1 c1) (.slice a2 l2 c2)) w.heap.size (.bool b) (.slice a1 l1 c1) (.slice a2 l2 c2)) := (un HA2).store _ _ _
 have HR : Hid (FBox (store3 w2 w.heap.size (.bool b) (.slice a1 l1 c1) (.slice a2 l2 c2)) (w.heap.size + 1) (.bool false) (.slice none 0 0) (.slice none 0 0)) := (un HR2).other3 (by omega) _ _ _
 have HN : Hid (IsBig (store3 w2 w.heap.size (.bool b) (.slice a1 l1 c1) (.slice a2 l2 c2)) (.agg #[.slice a1 l1 c1]) N) := (un HA2).big _ _ _ (un HN2)
 have HD : Hid (IsBig (store3 w2 w.heap.size (.bool b) (.slice a1 l1 c1) (.slice a2 l2 c2)) (.agg #[.slice a2 l2 c2]) D) := (un HA2).big _ _ _ (un HD2)
 have HW : Hid (Below w.heap.size w (store3 w2 w.heap.size (.bool b) (.slice a1 l1 c1) (.slice a2 l2 c2))) := below_store3 (un HW2) (Nat.le_refl _) _ _ _
 unfold store3 at HA HR HN HD HW
 clear t0 t1 t2 f0 f1 f2 HA2 HR2 HN2 HD2 HW2 HF1 HA1 HR1 HW1 HIN hk0
 generalize ((w2.setCell ⟨w.heap.size, 0, none⟩ (.bool b)).setCell ⟨w.heap.size, 1, none⟩ (.slice a1 l1 c1)).setCell ⟨w.heap.size, 2, none⟩ (.slice a2 l2 c2) = V at *
 have t0 := (un HA).c0; have t1 := (un HA).c1; have t2 := (un HA).c2
 go_upto_region 6 with (go_at_call 167; go_must (refine (un H1 _ _ (un HN)).mono ?_; rintro e w1 ⟨p1, p2, p3, rfl, hp, hb⟩; have HP1 := hide hp; have HA1 := hide ((un HA).later hb); have HR1 := hide ((un HR).later hb); have HD1 := hide ((un HD).later hb); have HW1 : Hid (Below w.heap.size w w1) := (un HW).trans (hb.mono (un HW).size); clear hb hp t0 t1 t2))
 obtain ⟨V3, hV3⟩ : ∃ V3, V3 = w1.alloc (.cells #[.slice p1 p2 p3] 116) := ⟨_, rfl⟩
 have hb3 : Below w1.heap.size w1 V3 := by rw [hV3]; exact (Below.refl _ _).alloc (Nat.le_refl _) _
 have HX3 : Hid (Box V3 w1.heap.size (.slice p1 p2 p3)) := by rw [hV3]; exact ⟨by simp [go_sem], by simp [go_sem]⟩
 have HP3 := hide ((un HP1).later hb3); have HA3 := hide ((un HA1).later hb3); have HR3 := hide ((un HR1).later hb3); have HD3 := hide ((un HD1).later hb3); have HW3 : Hid (Below w.heap.size w V3) := (un HW1).trans (hb3.mono (un HW1).size)
 have HNE : Hid (¬ w.heap.size + 1 = w1.heap.size) := (by have := (un HR1).lt; show ¬ _; omega)
 rw [← hV3]
 clear hV3 hb3 HP1 HA1 HR1 HD1 HW1 HA HR HN HD HW H1
 generalize w1.heap.size = g6 at *
 have t0 := (un HA3).c0; have t1 := (un HA3).c1; have t2 := (un HA3).c2
 go_upto_region 7 with (go_at_call 167; go_must (refine (un H2 _ _ (un HD3)).mono ?_; rintro e w4 ⟨q1, q2, q3, rfl, hp, hb⟩; have HQ4 := hide hp; have HA4 := hide ((un HA3).later hb); have HR4 := hide ((un HR3).later hb); have HX4 := hide ((un HX3).later hb); have HP4 := hide ((un HP3).later hb); have HW4 : Hid (Below w.heap.size w w4) := (un HW3).trans (hb.mono (un HW3).size); clear hb hp t0 t1 t2))
 obtain ⟨V5, hV5⟩ : ∃ V5, V5 = w4.alloc (.cells #[.slice q1 q2 q3] 116) := ⟨_, rfl⟩
 have hb5 : Below w4.heap.size w4 V5 := by rw [hV5]; exact (Below.refl _ _).alloc (Nat.le_refl _) _
 have HY5 : Hid (Box V5 w4.heap.size (.slice q1 q2 q3)) := by rw [hV5]; exact ⟨by simp [go_sem], by simp [go_sem]⟩
 have HX5 := hide ((un HX4).later hb5); have HP5 := hide ((un HP4).later hb5); have HQ5 := hide ((un HQ4).later hb5); have HA5 := hide ((un HA4).later hb5); have HR5 := hide ((un HR4).later hb5); have HW5 : Hid (Below w.heap.size w V5) := (un HW4).trans (hb5.mono (un HW4).size)
 rw [← hV5]
 clear hV5 hb5 HX4 HP4 HQ4 HA4 HR4 HW4 HX3 HP3 HA3 HR3 HD3 HW3 H2
 generalize w4.heap.size = g8 at *
 have t0 := (un HA5).c0; have x0 := (un HX5).c; have y0 := (un HY5).c
 have r0 := (un HR5).c0; have r1 := (un HR5).c1; have r2 := (un HR5).c2
 have f0 := (un HR5).f0; have f1 := (un HR5).f1; have f2 := (un HR5).f2
 cases b
 ·go_wp2_with fail
  have hS := (un HR5).store (.bool false) (.slice p1 p2 p3) (.slice q1 q2 q3)
  have u0 := hS.c0; have u1 := hS.c1; have u2 := hS.c2
  refine bodyPost_ret (v := .tuple #[.agg #[.bool false, .slice p1 p2 p3, .slice q1 q2 q3], I 0]) (w := store3 V5 (w.heap.size + 1) (.bool false) (.slice p1 p2 p3) (.slice q1 q2 q3)) (by simp [results, Tryz.results120, go_sem, u0, u1, u2]) rfl ⟨_, rfl, ⟨_, _, ?_, (un HR5).big _ _ _ (un HP5), (un HR5).big _ _ _ (un HQ5)⟩, below_store3 (un HW5) (by omega) _ _ _⟩
  rw [Bool.false_and]
 ·go_wp2_with fail
  have hS := (un HR5).store (.bool ((k : Int) % 2 == 1)) (.slice p1 p2 p3) (.slice q1 q2 q3)
  have u0 := hS.c0; have u1 := hS.c1; have u2 := hS.c2
  refine bodyPost_ret (v := .tuple #[.agg #[.bool ((k : Int) % 2 == 1), .slice p1 p2 p3, .slice q1 q2 q3], I 0]) (w := store3 V5 (w.heap.size + 1) (.bool ((k : Int) % 2 == 1)) (.slice p1 p2 p3) (.slice q1 q2 q3)) (by simp [results, Tryz.results120, go_sem, u0, u1, u2]) rfl ⟨_, rfl, ⟨_, _, ?_, (un HR5).big _ _ _ (un HP5), (un HR5).big _ _ _ (un HQ5)⟩, below_store3 (un HW5) (by omega) _ _ _⟩
  rw [un HPAR, Bool.true_and]
end Go.Proofs.YthcbhnggphdflaaGreatDoor

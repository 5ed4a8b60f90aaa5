/- si.find (27): a unit of si by its words. -/
import Derived.Test.YtliadckofhblnaaGreatDoorLimb3
import Derived.Test.YtliadckofhblnaaGreatDoorAmtD
import Derived.Test.YtliadckofhblnaaGreatDoorTold
import Derived.Test.YtliadckofhblnaaGreatDoorDimEq
import Derived.Test.YtliadckofhblnaaGreatDoorSi1
set_option maxHeartbeats 4000000
set_option maxRecDepth 100000
namespace Go.Proofs.YtliadckofhblnaaGreatDoor
open Go.RowKit
theorem one_pow (n : Nat) : (1 : Rat) ^ n = 1 := by
  induction n with
  | zero => rfl
  | succ n ih => rw [Rat.pow_succ, ih]; decide +kernel
theorem pw_one (j : Int) : Cub.pw 1 j = 1 := by
  unfold Cub.pw
  split
  · rw [show (1 : Rat)⁻¹ = 1 from by decide +kernel]; exact one_pow _
  · exact one_pow _
theorem pow_ones (j : Int) (w : World) (h1 : -99 ≤ j) (h2 : j ≤ 99) (htab : Tab w) : Ans 176 #[.agg #[.string ⟨#[49]⟩, .string ⟨#[49]⟩], .int .i64 j] w ⟨#[49]⟩ ⟨#[49]⟩ 0 :=
  zEp (rpow_ok _ _ 1 j w zAy (by omega) (by omega) (by decide +kernel) (by rw [pw_one]; exact zAy.1) htab) (pw_one j) zAy
theorem parts_fac : ∀ k : Nat, k < 8 → zCf[k * 15 + 10]? = some (.string ⟨#[49]⟩) ∧ zCf[k * 15 + 10 + 1]? = some (.string ⟨#[49]⟩)
  | 0, _ => ⟨by kernel_rfl, by kernel_rfl⟩
  | 1, _ => ⟨by kernel_rfl, by kernel_rfl⟩
  | 2, _ => ⟨by kernel_rfl, by kernel_rfl⟩
  | 3, _ => ⟨by kernel_rfl, by kernel_rfl⟩
  | 4, _ => ⟨by kernel_rfl, by kernel_rfl⟩
  | 5, _ => ⟨by kernel_rfl, by kernel_rfl⟩
  | 6, _ => ⟨by kernel_rfl, by kernel_rfl⟩
  | 7, _ => ⟨by kernel_rfl, by kernel_rfl⟩
  | _ + 8, h => absurd h (by omega)
theorem amtFac (ev : Nat → Int) (n d : Int) (an ad bn bd fn fd : ByteArray) (w : World) (htab : Tab w) (hE : ∀ j, -99 ≤ ev j ∧ ev j ≤ 99)
    (hoa : ∀ W, Below w.heap.size w W → Calls Tryz.prog 103 #[.int .i64 n] W fun r w' => r = .returned (.agg #[.string an, .string ad]) ∧ Below W.heap.size W w')
    (hob : ∀ W, Below w.heap.size w W → Calls Tryz.prog 103 #[.int .i64 d] W fun r w' => r = .returned (.agg #[.string bn, .string bd]) ∧ Below W.heap.size W w')
    (hqu : ∀ W, Below w.heap.size w W → Calls Tryz.prog 31 #[.agg #[.string an, .string ad], .agg #[.string bn, .string bd]] W fun r w' => r = .returned (.tuple #[.agg #[.string fn, .string fd], .int .i64 0]) ∧ Below W.heap.size W w')
    (hmu : ∀ W, Below w.heap.size w W → Calls Tryz.prog 28 #[.agg #[.string fn, .string fd], .agg #[.string ⟨#[49]⟩, .string ⟨#[49]⟩]] W fun r w' => r = .returned (.tuple #[.agg #[.string fn, .string fd], .int .i64 0]) ∧ Below W.heap.size W w') :
    Calls Tryz.prog 231 #[.agg #[.int .i64 (ev 0), .int .i64 (ev 1), .int .i64 (ev 2), .int .i64 (ev 3), .int .i64 (ev 4), .int .i64 (ev 5), .int .i64 (ev 6), .int .i64 (ev 7), .int .i64 n, .int .i64 d], .agg zCf] w fun r w' => r = .returned (.agg #[.string fn, .string fd]) ∧ Below w.heap.size w w' := by
  obtain ⟨pa, hpa⟩ : ∃ pa, pa = zCf := ⟨_, rfl⟩
  have HPF : Hid (∀ k : Nat, k < 8 → pa[k * 15 + 10]? = some (.string ⟨#[49]⟩) ∧ pa[k * 15 + 10 + 1]? = some (.string ⟨#[49]⟩)) := by rw [hpa]; exact parts_fac
  rw [← hpa]
  clear hpa
  obtain ⟨V, hV⟩ : ∃ V, V = ((w.alloc (.cells #[.int .i64 (ev 0), .int .i64 (ev 1), .int .i64 (ev 2), .int .i64 (ev 3), .int .i64 (ev 4), .int .i64 (ev 5), .int .i64 (ev 6), .int .i64 (ev 7), .int .i64 n, .int .i64 d] 180)).alloc (.cells pa 186)).alloc (.cells #[.string ⟨#[]⟩, .string ⟨#[]⟩] 28) := ⟨_, rfl⟩
  have HB : Hid (Below w.heap.size w V) := by rw [hV]; exact (((Below.refl _ _).alloc (Nat.le_refl _) _).alloc (by simp) _).alloc (by simp; omega) _
  have HP : Hid (zAc V w.heap.size 180 #[.int .i64 (ev 0), .int .i64 (ev 1), .int .i64 (ev 2), .int .i64 (ev 3), .int .i64 (ev 4), .int .i64 (ev 5), .int .i64 (ev 6), .int .i64 (ev 7), .int .i64 n, .int .i64 d]) := by rw [hV]; exact ((zAc.new _ _ _).alloc _).alloc _
  have HO : Hid (zAc V (w.heap.size + 1) 186 pa) := by rw [hV]; have h := zAc.new (w.alloc (.cells #[.int .i64 (ev 0), .int .i64 (ev 1), .int .i64 (ev 2), .int .i64 (ev 3), .int .i64 (ev 4), .int .i64 (ev 5), .int .i64 (ev 6), .int .i64 (ev 7), .int .i64 n, .int .i64 d] 180)) pa 186; rw [Dm.size_alloc] at h; exact h.alloc _
  have HR : Hid (T2 V (w.heap.size + 1 + 1) (.string ⟨#[]⟩) (.string ⟨#[]⟩)) := by
    rw [hV]
    have h := zAc.new ((w.alloc (.cells #[.int .i64 (ev 0), .int .i64 (ev 1), .int .i64 (ev 2), .int .i64 (ev 3), .int .i64 (ev 4), .int .i64 (ev 5), .int .i64 (ev 6), .int .i64 (ev 7), .int .i64 n, .int .i64 d] 180)).alloc (.cells pa 186)) #[.string ⟨#[]⟩, .string ⟨#[]⟩] 28
    rw [Dm.size_alloc, Dm.size_alloc] at h
    exact ⟨h.ub.c 0 _ rfl, h.ub.c 1 _ rfl, h.ub.f 0 _ rfl, h.ub.f 1 _ rfl⟩
  have HPO : Hid (∀ k W, Below w.heap.size w W → Ans 176 #[.agg #[.string ⟨#[49]⟩, .string ⟨#[49]⟩], .int .i64 (ev k)] W ⟨#[49]⟩ ⟨#[49]⟩ 0) := fun k W h => pow_ones (ev k) W (hE k).1 (hE k).2 (htab.later h)
  unfold Ans at HPO
  have HMU := zAb hmu
  have HV := zAb hV
  have HOA := zAb hoa; have HOB := zAb hob; have HQU := zAb hqu
  clear hoa hob hqu hmu htab hE
  go_enter Tryz.func231, Tryz.ntmps231
  go_upto_region 1 with fail
  rw [← un HV]
  clear hV HV
  have t0 : V.cell? ⟨w.heap.size, 8, none⟩ = some (.int .i64 n) := (un HP).ub.c 8 _ rfl
  have t1 : V.cell? ⟨w.heap.size, 9, none⟩ = some (.int .i64 d) := (un HP).ub.c 9 _ rfl
  have HC0 : Hid (Below V.heap.size V V.drew) := (Below.refl _ _).drew
  have HUP : Hid (∀ W, Below V.heap.size V W → Below w.heap.size w W) := fun W h => (un HB).trans (h.mono (un HB).size)
  have HUA : Hid (∀ W O, Below V.heap.size V W → Below w.heap.size w (W.alloc O)) := fun W O h => (un HB).trans ((h.alloc h.size O).mono (un HB).size)
  have HUD : Hid (∀ O, Below w.heap.size w (V.alloc O).drew) := fun O => ((un HB).alloc (un HB).size O).drew
  have hv0 := (un HP).lt
  go_region_held3 (fun w' => w'.cell? ⟨w.heap.size, 8, none⟩ = some (.int .i64 n) ∧ w'.cell? ⟨w.heap.size, 9, none⟩ = some (.int .i64 d)) (first | assumption | (simp [go_sem, *]; done)) ((first
    | (go_at_call_of 103 n; go_must (refine (un HOA _ (by first | exact un HUP _ (un HC0) | exact un HUA _ _ (un HC0) | exact un HUD _)).mono ?_; rintro e wa ⟨rfl, hb⟩; have HCwa : Hid (Below V.heap.size V wa) := (by first | exact (un HC0).trans (hb.mono (un HC0).size) | exact zDc (un HC0) hb | exact zCi hb); (first | (have HZwa := zAb ((un HZ0).later hb); clear u0 u1 uf0 uf1; have u0 := (un HZwa).c0; have u1 := (un HZwa).c1; have uf0 := (un HZwa).f0; have uf1 := (un HZwa).f1) | (have HZwa : Hid (T2 wa V.heap.size (.string ⟨#[]⟩) (.string ⟨#[]⟩)) := (by first | exact T2.past hb | exact T2.pastD hb); have u0 := (un HZwa).c0; have u1 := (un HZwa).c1; have uf0 := (un HZwa).f0; have uf1 := (un HZwa).f1) | skip); clear hb t0 t1; have t0 : wa.cell? ⟨w.heap.size, 8, none⟩ = some (.int .i64 n) := ((un HP).later (un HCwa)).ub.c 8 _ rfl; have t1 : wa.cell? ⟨w.heap.size, 9, none⟩ = some (.int .i64 d) := ((un HP).later (un HCwa)).ub.c 9 _ rfl; have hvwa := ((un HP).later (un HCwa)).lt))
    | (go_at_call_of 103 d; go_must (refine (un HOB _ (by first | exact un HUP _ (un HCwa) | exact un HUA _ _ (un HCwa) | exact un HUD _)).mono ?_; rintro e wb ⟨rfl, hb⟩; have HCwb : Hid (Below V.heap.size V wb) := (by first | exact (un HCwa).trans (hb.mono (un HCwa).size) | exact zDc (un HCwa) hb | exact zCi hb); (first | (have HZwb := zAb ((un HZwa).later hb); clear u0 u1 uf0 uf1; have u0 := (un HZwb).c0; have u1 := (un HZwb).c1; have uf0 := (un HZwb).f0; have uf1 := (un HZwb).f1) | (have HZwb : Hid (T2 wb wa.heap.size (.string ⟨#[]⟩) (.string ⟨#[]⟩)) := (by first | exact T2.past hb | exact T2.pastD hb); have u0 := (un HZwb).c0; have u1 := (un HZwb).c1; have uf0 := (un HZwb).f0; have uf1 := (un HZwb).f1) | skip); clear hb t0 t1; have t0 : wb.cell? ⟨w.heap.size, 8, none⟩ = some (.int .i64 n) := ((un HP).later (un HCwb)).ub.c 8 _ rfl; have t1 : wb.cell? ⟨w.heap.size, 9, none⟩ = some (.int .i64 d) := ((un HP).later (un HCwb)).ub.c 9 _ rfl; have hvwb := ((un HP).later (un HCwb)).lt))
    | (go_at_call 31; go_must (refine (un HQU _ (by first | exact un HUP _ (un HCwb) | exact un HUA _ _ (un HCwb) | exact un HUD _)).mono ?_; rintro e wc ⟨rfl, hb⟩; have HCwc : Hid (Below V.heap.size V wc) := (by first | exact (un HCwb).trans (hb.mono (un HCwb).size) | exact zDc (un HCwb) hb | exact zCi hb); (first | (have HZwc := zAb ((un HZwb).later hb); clear u0 u1 uf0 uf1; have u0 := (un HZwc).c0; have u1 := (un HZwc).c1; have uf0 := (un HZwc).f0; have uf1 := (un HZwc).f1) | (have HZwc : Hid (T2 wc wb.heap.size (.string ⟨#[]⟩) (.string ⟨#[]⟩)) := (by first | exact T2.past hb | exact T2.pastD hb); have u0 := (un HZwc).c0; have u1 := (un HZwc).c1; have uf0 := (un HZwc).f0; have uf1 := (un HZwc).f1) | skip); clear hb t0 t1; have t0 : wc.cell? ⟨w.heap.size, 8, none⟩ = some (.int .i64 n) := ((un HP).later (un HCwc)).ub.c 8 _ rfl; have t1 : wc.cell? ⟨w.heap.size, 9, none⟩ = some (.int .i64 d) := ((un HP).later (un HCwc)).ub.c 9 _ rfl; have hvwc := ((un HP).later (un HCwc)).lt))))
  all_goals
    first
    | (obtain ⟨X, hX⟩ : ∃ X, X = wc.heap.size := ⟨_, rfl⟩
       have HNX : Hid (¬ X = w.heap.size + 1 ∧ ¬ X = w.heap.size + 1 + 1 ∧ w.heap.size ≤ X) := (by have h1 := ((un HR).later (un HCwc)).lt; rw [hX]; show _ ∧ _; omega)
       obtain ⟨U, hU⟩ : ∃ U, U = wc.alloc (.cells #[.string fn, .string fd] 28) := ⟨_, rfl⟩
       have HF : Hid (T2 U X (.string fn) (.string fd) ∧ T2 U (w.heap.size + 1 + 1) (.string ⟨#[]⟩) (.string ⟨#[]⟩) ∧ Below w.heap.size w U ∧ zAc U w.heap.size 180 #[.int .i64 (ev 0), .int .i64 (ev 1), .int .i64 (ev 2), .int .i64 (ev 3), .int .i64 (ev 4), .int .i64 (ev 5), .int .i64 (ev 6), .int .i64 (ev 7), .int .i64 n, .int .i64 d] ∧ zAc U (w.heap.size + 1) 186 pa) := by
         rw [hU, hX]
         exact ⟨⟨by simp [go_sem], by simp [go_sem], by simp [go_sem], by simp [go_sem]⟩, ((un HR).later (un HCwc)).later ((Below.refl _ _).alloc (Nat.le_refl _) _), un HUA _ _ (un HCwc), ((un HP).later (un HCwc)).alloc _, ((un HO).later (un HCwc)).alloc _⟩
       rw [← hU, ← hX]
       clear hU hX)
    | (obtain ⟨X, hX⟩ : ∃ X, X = wb.heap.size := ⟨_, rfl⟩
       have HNX : Hid (¬ X = w.heap.size + 1 ∧ ¬ X = w.heap.size + 1 + 1 ∧ w.heap.size ≤ X) := (by have h1 := ((un HR).later (un HCwb)).lt; rw [hX]; show _ ∧ _; omega)
       obtain ⟨U, hU⟩ : ∃ U, U = (wc.setCell { block := wb.heap.size, off := 0 } (.string fn)).setCell { block := wb.heap.size, off := 1 } (.string fd) := ⟨_, rfl⟩
       have HF : Hid (T2 U X (.string fn) (.string fd) ∧ T2 U (w.heap.size + 1 + 1) (.string ⟨#[]⟩) (.string ⟨#[]⟩) ∧ Below w.heap.size w U ∧ zAc U w.heap.size 180 #[.int .i64 (ev 0), .int .i64 (ev 1), .int .i64 (ev 2), .int .i64 (ev 3), .int .i64 (ev 4), .int .i64 (ev 5), .int .i64 (ev 6), .int .i64 (ev 7), .int .i64 n, .int .i64 d] ∧ zAc U (w.heap.size + 1) 186 pa) := by
         rw [hU, hX]
         have h1 := ((un HR).later (un HCwb)).lt
         exact ⟨(un HZwc).store _ _, ((un HR).later (un HCwc)).otherP wb.heap.size (by omega) _ _, zAm (un HUP _ (un HCwc)) (by omega) _ _, (((un HP).later (un HCwc)).otherSet (by omega) _ _).otherSet (by omega) _ _, (((un HO).later (un HCwc)).otherSet (by omega) _ _).otherSet (by omega) _ _⟩
       rw [← hU, ← hX]
       clear hU hX)
    | (obtain ⟨X, hX⟩ : ∃ X, X = wa.heap.size := ⟨_, rfl⟩
       have HNX : Hid (¬ X = w.heap.size + 1 ∧ ¬ X = w.heap.size + 1 + 1 ∧ w.heap.size ≤ X) := (by have h1 := ((un HR).later (un HCwa)).lt; rw [hX]; show _ ∧ _; omega)
       obtain ⟨U, hU⟩ : ∃ U, U = (wc.setCell { block := wa.heap.size, off := 0 } (.string fn)).setCell { block := wa.heap.size, off := 1 } (.string fd) := ⟨_, rfl⟩
       have HF : Hid (T2 U X (.string fn) (.string fd) ∧ T2 U (w.heap.size + 1 + 1) (.string ⟨#[]⟩) (.string ⟨#[]⟩) ∧ Below w.heap.size w U ∧ zAc U w.heap.size 180 #[.int .i64 (ev 0), .int .i64 (ev 1), .int .i64 (ev 2), .int .i64 (ev 3), .int .i64 (ev 4), .int .i64 (ev 5), .int .i64 (ev 6), .int .i64 (ev 7), .int .i64 n, .int .i64 d] ∧ zAc U (w.heap.size + 1) 186 pa) := by
         rw [hU, hX]
         have h1 := ((un HR).later (un HCwa)).lt
         exact ⟨(un HZwc).store _ _, ((un HR).later (un HCwc)).otherP wa.heap.size (by omega) _ _, zAm (un HUP _ (un HCwc)) (by omega) _ _, (((un HP).later (un HCwc)).otherSet (by omega) _ _).otherSet (by omega) _ _, (((un HO).later (un HCwc)).otherSet (by omega) _ _).otherSet (by omega) _ _⟩
       rw [← hU, ← hX]
       clear hU hX)
    | (obtain ⟨X, hX⟩ : ∃ X, X = V.heap.size := ⟨_, rfl⟩
       have HNX : Hid (¬ X = w.heap.size + 1 ∧ ¬ X = w.heap.size + 1 + 1 ∧ w.heap.size ≤ X) := (by have h1 := (un HR).lt; rw [hX]; show _ ∧ _; omega)
       obtain ⟨U, hU⟩ : ∃ U, U = (wc.setCell { block := V.heap.size, off := 0 } (.string fn)).setCell { block := V.heap.size, off := 1 } (.string fd) := ⟨_, rfl⟩
       have HF : Hid (T2 U X (.string fn) (.string fd) ∧ T2 U (w.heap.size + 1 + 1) (.string ⟨#[]⟩) (.string ⟨#[]⟩) ∧ Below w.heap.size w U ∧ zAc U w.heap.size 180 #[.int .i64 (ev 0), .int .i64 (ev 1), .int .i64 (ev 2), .int .i64 (ev 3), .int .i64 (ev 4), .int .i64 (ev 5), .int .i64 (ev 6), .int .i64 (ev 7), .int .i64 n, .int .i64 d] ∧ zAc U (w.heap.size + 1) 186 pa) := by
         rw [hU, hX]
         have h1 := (un HR).lt
         exact ⟨(un HZwc).store _ _, ((un HR).later (un HCwc)).otherP V.heap.size (by omega) _ _, zAm (un HUP _ (un HCwc)) (by omega) _ _, (((un HP).later (un HCwc)).otherSet (by omega) _ _).otherSet (by omega) _ _, (((un HO).later (un HCwc)).otherSet (by omega) _ _).otherSet (by omega) _ _⟩
       rw [← hU, ← hX]
       clear hU hX)
  all_goals
    obtain ⟨hX1, hR1, hB1, hA1, hO1⟩ := un HF
    have HXX := zAb hX1; have HRR := zAb hR1; have HBB := zAb hB1; have HOO := zAb hO1
    have a0 : U.cell? ⟨w.heap.size, 0, none⟩ = some (.int .i64 (ev 0)) := hA1.ub.c 0 _ rfl
    have a1 : U.cell? ⟨w.heap.size, 1, none⟩ = some (.int .i64 (ev 1)) := hA1.ub.c 1 _ rfl
    have a2 : U.cell? ⟨w.heap.size, 2, none⟩ = some (.int .i64 (ev 2)) := hA1.ub.c 2 _ rfl
    have a3 : U.cell? ⟨w.heap.size, 3, none⟩ = some (.int .i64 (ev 3)) := hA1.ub.c 3 _ rfl
    have a4 : U.cell? ⟨w.heap.size, 4, none⟩ = some (.int .i64 (ev 4)) := hA1.ub.c 4 _ rfl
    have a5 : U.cell? ⟨w.heap.size, 5, none⟩ = some (.int .i64 (ev 5)) := hA1.ub.c 5 _ rfl
    have a6 : U.cell? ⟨w.heap.size, 6, none⟩ = some (.int .i64 (ev 6)) := hA1.ub.c 6 _ rfl
    have a7 : U.cell? ⟨w.heap.size, 7, none⟩ = some (.int .i64 (ev 7)) := hA1.ub.c 7 _ rfl
    clear HF hX1 hR1 hB1 hA1 hO1
    go_upto_region 3 with fail
    clear a0 a1 a2 a3 a4 a5 a6 a7
    go_loopw [23] (fun s23 wr => ∃ (k : Nat), k ≤ 8 ∧ s23 = .int .i64 (k : Int) ∧ Hid (T2 wr X (.string fn) (.string fd)) ∧ Hid (T2 wr (w.heap.size + 1 + 1) (.string ⟨#[]⟩) (.string ⟨#[]⟩)) ∧ Hid (Below w.heap.size w wr) ∧ Hid (zAc wr (w.heap.size + 1) 186 pa)) (fun s23 _ => 8 - (intOf s23).toNat)
    case atStart => exact ⟨0, by omega, rfl, HXX, HRR, HBB, HOO⟩
    case round =>
      clear HXX HRR HBB HOO
      obtain ⟨k, hk, rfl, HX1, HR1, HB1, HO1⟩ := hrel
      by_cases hlt : k < 8
      · have hkI : (k : Int) < 8 := by omega
        have hk0 : (0 : Int) ≤ (k : Int) := by omega
        have hix := evIx ev k hlt
        have p0 := (un HO1).ub.c _ _ (un HPF k hlt).1
        have p1 := (un HO1).ub.c _ _ (un HPF k hlt).2
        have HPK := zAb (un HPO k)
        generalize ev k = ek at *
        go_upto_region 6 with (go_at_call 176; go_must (refine (un HPK _ (un HB1)).mono ?_; rintro e w2 ⟨rfl, hb⟩; have HX2 := zAb ((un HX1).later hb); have HR2 := zAb ((un HR1).later hb); have HO2 := zAb ((un HO1).later hb); have HB2 : Hid (Below w.heap.size w w2) := (un HB1).trans (hb.mono (un HB1).size); clear hb p0 p1))
        clear hix HX1 HR1 HO1 HB1
        obtain ⟨V3, hV3⟩ : ∃ V3, V3 = w2.alloc (.cells #[.string ⟨#[49]⟩, .string ⟨#[49]⟩] 28) := ⟨_, rfl⟩
        have hb3 : Below w2.heap.size w2 V3 := by rw [hV3]; exact (Below.refl _ _).alloc (Nat.le_refl _) _
        have HY3 : Hid (T2 V3 w2.heap.size (.string ⟨#[49]⟩) (.string ⟨#[49]⟩)) := by rw [hV3]; exact ⟨by simp [go_sem], by simp [go_sem], by simp [go_sem], by simp [go_sem]⟩
        have HX3 := zAb ((un HX2).later hb3); have HR3 := zAb ((un HR2).later hb3); have HO3 := zAb ((un HO2).later hb3); have HB3 : Hid (Below w.heap.size w V3) := (un HB2).trans (hb3.mono (un HB2).size)
        rw [← hV3]
        clear hV3 hb3 HX2 HR2 HO2 HB2
        generalize w2.heap.size = g9 at *
        have x0 := (un HX3).c0; have x1 := (un HX3).c1; have y0 := (un HY3).c0; have y1 := (un HY3).c1
        go_wp2_with (go_at_call 28; go_must (refine (un HMU _ (un HB3)).mono ?_; rintro e w4 ⟨rfl, hb⟩; have HX4 := zAb ((un HX3).later hb); have HR4 := zAb ((un HR3).later hb); have HO4 := zAb ((un HO3).later hb); have HB4 : Hid (Below w.heap.size w w4) := (un HB3).trans (hb.mono (un HB3).size); clear hb x0 x1 y0 y1; have x0 := (un HX4).c0; have x1 := (un HX4).c1; have xf0 := (un HX4).f0; have xf1 := (un HX4).f1))
        have HX5 : Hid (T2 ((w4.setCell ⟨X, 0, none⟩ (.string fn)).setCell ⟨X, 1, none⟩ (.string fd)) X (.string fn) (.string fd)) := (un HX4).store _ _
        have HR5 : Hid (T2 ((w4.setCell ⟨X, 0, none⟩ (.string fn)).setCell ⟨X, 1, none⟩ (.string fd)) (w.heap.size + 1 + 1) (.string ⟨#[]⟩) (.string ⟨#[]⟩)) := (un HR4).otherP X (un HNX).2.1 _ _
        have HO5 : Hid (zAc ((w4.setCell ⟨X, 0, none⟩ (.string fn)).setCell ⟨X, 1, none⟩ (.string fd)) (w.heap.size + 1) 186 pa) := ((un HO4).otherSet (fun h => (un HNX).1 h.symm) _ _).otherSet (fun h => (un HNX).1 h.symm) _ _
        have HB5 : Hid (Below w.heap.size w ((w4.setCell ⟨X, 0, none⟩ (.string fn)).setCell ⟨X, 1, none⟩ (.string fd))) := zAm (un HB4) (un HNX).2.2 _ _
        go_roundw
        case rel => exact ⟨k + 1, by omega, by go_num, HX5, HR5, HB5, HO5⟩
        case measure => simp [intOf]; omega
      · have hkI : ¬ (k : Int) < 8 := by omega
        have x0 := (un HX1).c0; have x1 := (un HX1).c1
        have r0 := (un HR1).c0; have r1 := (un HR1).c1; have rf0 := (un HR1).f0; have rf1 := (un HR1).f1
        go_wp2_with fail
        have hS := (un HR1).store (.string fn) (.string fd)
        have hb := zAm (un HB1) (by omega) (.string fn) (.string fd) (g := w.heap.size + 1 + 1)
        have v0 := hS.c0; have v1 := hS.c1
        exact bodyPost_ret (v := .agg #[.string fn, .string fd]) (w := zBh wr (w.heap.size + 1 + 1) (.string fn) (.string fd)) (by simp [results, Tryz.results231, go_sem, v0, v1]) rfl ⟨rfl, hb⟩
abbrev z13:Array Value:=#[G #[],G #[],I 0,I 0,I 0,I 0,I 0,I 0,I 0,I 0,I 0,I 0,I 0]
def suA (s:Su):Array Value:=#[.string s.nm,.string s.sy,I s.tk,I s.e0,I s.e1,I s.e2,I s.e3,I s.e4,I s.e5,I s.e6,I s.e7,I s.n,I s.d]
theorem zGn:∀n,(flatS n).length=n*13
 | 0=>rfl
 | n+1=>by rw[flatS_succ,List.length_append,zGn n];simp only[suL,List.length_cons,List.length_nil];omega
theorem zBx:∀n k i,k<n→i<13→(flatS n)[k*13+i]?=(suL (sut k))[i]?
 | 0,_,_,h,_=>absurd h (by omega)
 | n+1,k,i,h,hi=>by
  rw[flatS_succ]
  by_cases hk:k<n
  ·rw[List.getElem?_append_left (by rw[zGn];omega)]
   exact zBx n k i hk hi
  ·have e:k=n:=by omega
   subst e;rw[List.getElem?_append_right (by rw[zGn];omega),zGn]
   congr 1
   omega
structure R13 (W:World) (g k:Nat):Prop where
 c0:W.cell? ⟨g,k*13,none⟩=some (.string (sut k).nm)
 c1:W.cell? ⟨g,k*13+1,none⟩=some (.string (sut k).sy)
 c2:W.cell? ⟨g,k*13+2,none⟩=some (I (sut k).tk)
 c3:W.cell? ⟨g,k*13+3,none⟩=some (I (sut k).e0)
 c4:W.cell? ⟨g,k*13+4,none⟩=some (I (sut k).e1)
 c5:W.cell? ⟨g,k*13+5,none⟩=some (I (sut k).e2)
 c6:W.cell? ⟨g,k*13+6,none⟩=some (I (sut k).e3)
 c7:W.cell? ⟨g,k*13+7,none⟩=some (I (sut k).e4)
 c8:W.cell? ⟨g,k*13+8,none⟩=some (I (sut k).e5)
 c9:W.cell? ⟨g,k*13+9,none⟩=some (I (sut k).e6)
 c10:W.cell? ⟨g,k*13+10,none⟩=some (I (sut k).e7)
 c11:W.cell? ⟨g,k*13+11,none⟩=some (I (sut k).n)
 c12:W.cell? ⟨g,k*13+12,none⟩=some (I (sut k).d)
theorem R13.later {W V:World} {B g k:Nat} (h:R13 W g k) (hb:Below B W V) (hg:g<B):R13 V g k :=
 ⟨(hb.cell (p:=⟨g,k*13,none⟩) hg).trans h.c0,(hb.cell (p:=⟨g,k*13+1,none⟩) hg).trans h.c1,(hb.cell (p:=⟨g,k*13+2,none⟩) hg).trans h.c2,(hb.cell (p:=⟨g,k*13+3,none⟩) hg).trans h.c3,(hb.cell (p:=⟨g,k*13+4,none⟩) hg).trans h.c4,(hb.cell (p:=⟨g,k*13+5,none⟩) hg).trans h.c5,(hb.cell (p:=⟨g,k*13+6,none⟩) hg).trans h.c6,(hb.cell (p:=⟨g,k*13+7,none⟩) hg).trans h.c7,(hb.cell (p:=⟨g,k*13+8,none⟩) hg).trans h.c8,(hb.cell (p:=⟨g,k*13+9,none⟩) hg).trans h.c9,(hb.cell (p:=⟨g,k*13+10,none⟩) hg).trans h.c10,(hb.cell (p:=⟨g,k*13+11,none⟩) hg).trans h.c11,(hb.cell (p:=⟨g,k*13+12,none⟩) hg).trans h.c12⟩
theorem rows13_at {W:World} {B g cap:Nat} (h:W.ownsRow B 182 13 (.slice (some ⟨g,0,none⟩) 29 cap) 29 (flatS 29)) (k:Nat) (hk:k<29):R13 W g k :=
 ⟨(h.cellAt (k*13) (by omega)).trans (zBx 29 k 0 hk (by decide)),(h.cellAt (k*13+1) (by omega)).trans (zBx 29 k 1 hk (by decide)),(h.cellAt (k*13+2) (by omega)).trans (zBx 29 k 2 hk (by decide)),(h.cellAt (k*13+3) (by omega)).trans (zBx 29 k 3 hk (by decide)),(h.cellAt (k*13+4) (by omega)).trans (zBx 29 k 4 hk (by decide)),(h.cellAt (k*13+5) (by omega)).trans (zBx 29 k 5 hk (by decide)),(h.cellAt (k*13+6) (by omega)).trans (zBx 29 k 6 hk (by decide)),(h.cellAt (k*13+7) (by omega)).trans (zBx 29 k 7 hk (by decide)),(h.cellAt (k*13+8) (by omega)).trans (zBx 29 k 8 hk (by decide)),(h.cellAt (k*13+9) (by omega)).trans (zBx 29 k 9 hk (by decide)),(h.cellAt (k*13+10) (by omega)).trans (zBx 29 k 10 hk (by decide)),(h.cellAt (k*13+11) (by omega)).trans (zBx 29 k 11 hk (by decide)),(h.cellAt (k*13+12) (by omega)).trans (zBx 29 k 12 hk (by decide))⟩
theorem closureS (nm sy:ByteArray) (tk x0 x1 x2 x3 x4 x5 x6 x7 x8 x9:Int) (s:ByteArray) (b:Nat) (w:World) (hb:w.cell? ⟨b,0,none⟩=some (.string s)) (hlt:b<w.heap.size):Calls Tryz.prog 229 #[.agg #[.string nm,.string sy,I tk,I x0,I x1,I x2,I x3,I x4,I x5,I x6,I x7,I x8,I x9],.pointer (some ⟨b,0,none⟩)] w fun r w'=>r=.returned (.bool (plainB s nm sy))∧Bw w w':=by
 unfold plainB;go_enter Tryz.func229,Tryz.ntmps229
 go_wp2_with fail
 all_goals
  go_ret
  refine⟨?_,bA⟩
  first|rfl|(simp[*];done)|(simp_all;done)
def suB (s:ByteArray) (k:Nat):Bool:=plainB s (sut k).nm (sut k).sy
def IsF29 (p:Nat→Bool) (j:Int):Prop:=(∃k:Nat,k<29∧j=(k:Int)∧p k=true∧∀i,i<k→p i=false)∨(j=-1∧∀i,i<29→p i=false)
theorem indexS (s:ByteArray) (g cap b:Nat) (w:World) (hr:∀k,k<29→R13 w g k) (hg:g<w.heap.size) (hb:w.cell? ⟨b,0,none⟩=some (.string s)) (hlt:b<w.heap.size) :
 Calls Tryz.prog 228 #[.slice (some ⟨g,0,none⟩) 29 cap,.func (.func 229) #[] #[.pointer (some ⟨b,0,none⟩)]] w fun r w'=>∃j:Int,r=.returned (I j)∧IsF29 (suB s) j∧Bw w w':=by
 have HR:=zAb hr;have HBC:=zAb hb;clear hr hb;go_enter Tryz.func228,Tryz.ntmps228
 go_wp2_with fail
 go_loopw [8] (fun s8 wr=>∃(k:Nat),k≤29∧s8=I (k:Int)∧Hid (∀i,i<k→suB s i=false)∧Hid (Bw w wr)) (fun s8 _=>29 - (intOf s8).toNat)
 case atStart=>exact⟨0,by omega,rfl,fun i hi=>absurd hi (by omega),Below.refl _ _⟩
 case round=>
  obtain⟨k,hk,rfl,HN,HB⟩:=hrel
  by_cases hk4:k<29
  ·have hkI:(k:Int)<29:=by omega
   have hk0:(0:Int)≤(k:Int):=by omega
   have hrow:=(un HR k hk4).later (un HB) hg;have c0:=hrow.c0;have c1:=hrow.c1;have c2:=hrow.c2;have c3:=hrow.c3;have c4:=hrow.c4;have c5:=hrow.c5;have c6:=hrow.c6;have c7:=hrow.c7;have c8:=hrow.c8;have c9:=hrow.c9;have c10:=hrow.c10;have c11:=hrow.c11;have c12:=hrow.c12;clear hrow
   have HC:Hid (∀W,Below wr.heap.size wr W→Calls Tryz.prog 229 #[.agg #[.string (sut k).nm,.string (sut k).sy,I (sut k).tk,I (sut k).e0,I (sut k).e1,I (sut k).e2,I (sut k).e3,I (sut k).e4,I (sut k).e5,I (sut k).e6,I (sut k).e7,I (sut k).n,I (sut k).d],.pointer (some ⟨b,0,none⟩)] W fun r w'=>r=.returned (.bool (suB s k))∧Bw W w'):=fun W hW=>
    closureS _ _ _ _ _ _ _ _ _ _ _ _ _ s b W ((bt HB hW).cell (p:=⟨b,0,none⟩) hlt |>.trans (un HBC)) (Nat.lt_of_lt_of_le hlt ((bt HB hW).size))
   have HNK:=zAb (fun (e:suB s k=false)=>zGj (un HN) e);have HYK:=zAb (fun (e:suB s k=true)=>(Or.inl ⟨k,hk4,rfl,e,un HN⟩:IsF29 (suB s) (k:Int)));generalize (sut k).nm=nm at *
   generalize (sut k).sy=sy at *
   generalize (sut k).tk=tk at *
   generalize (sut k).e0=x0 at *
   generalize (sut k).e1=x1 at *
   generalize (sut k).e2=x2 at *
   generalize (sut k).e3=x3 at *
   generalize (sut k).e4=x4 at *
   generalize (sut k).e5=x5 at *
   generalize (sut k).e6=x6 at *
   generalize (sut k).e7=x7 at *
   generalize (sut k).n=x8 at *
   generalize (sut k).d=x9 at *
   by_cases hB:suB s k=true
   ·have HJ:=zAb (un HYK hB)
    rw[hB]at HC;clear HNK HYK hB
    go_wp2_with (go_at_call 229;go_must(refine(un HC _ (Below.refl _ _)).mono ?_;rintro e wt ⟨rfl,hbt⟩;have HBT:=zAb hbt;clear hbt))
    go_ret
    exact⟨_,rfl,un HJ,(un HB).trans ((un HBT).mono (un HB).size)⟩
   ·have hB':suB s k=false:=by simpa using hB
    have HJ:=zAb (un HNK hB');rw[hB']at HC;clear HNK HYK hB hB'
    go_wp2_with (go_at_call 229;go_must(refine(un HC _ (Below.refl _ _)).mono ?_;rintro e wt ⟨rfl,hbt⟩;have HBT:=zAb hbt;clear hbt))
    go_roundw
    case rel=>exact⟨k+1,by omega,by go_num,HJ,(un HB).trans ((un HBT).mono (un HB).size)⟩
    case measure=>simp[intOf];omega
  ·have hkI:¬(k:Int)<29:=by omega
   go_wp2_with fail
   go_ret
   exact⟨-1,rfl,Or.inr ⟨rfl,fun i hi=>un HN i (by omega)⟩,un HB⟩
theorem first29 {p:Nat→Bool} {i j:Int} (h1:IsF29 p i) (h2:IsF29 p j):i=j:=by
 rcases h1 with ⟨a,ha,rfl,pa,qa⟩|⟨rfl,na⟩<;>rcases h2 with ⟨c,hc,rfl,pc,qc⟩|⟨rfl,nc⟩
 ·rcases Nat.lt_trichotomy a c with h|h|h
  ·rw[qc a h]at pa;cases pa
  ·rw[h]
  ·rw[qa c h]at pc;cases pc
 ·rw[nc a ha]at pa;cases pa
 ·rw[na c hc]at pc;cases pc
 ·rfl
def FindS (p:Nat→Bool) (v:Value):Prop:=(∃k:Nat,k<29∧IsF29 p (k:Int)∧v=.tuple #[.agg (suA (sut k)),.bool true])∨(IsF29 p (-1)∧v=.tuple #[.agg z13,.bool false])
theorem info57s:(Tryz.prog.info? 182).map (·.size)=some 13:=by kernel_rfl
theorem res57b {fn:Func} {p u:Tmp} (h:fn.results=#[.cell p 182,.tmp u]) (tmps:Array Value) (w:World) (g:Nat) (vs:Array Value) (hl:vs.size=13) (hp:tmps.getD p undef=.pointer (some ⟨g,0,none⟩)) (ho:zAc w g 182 vs) :
 (results fn tmps).run Tryz.prog w=.ok (.tuple #[.agg vs,tmps.getD u undef]) w:=by
 rw[results_cell_tmp h,hp];simp only[asAddr,Sem.run_pure,Result.andThen_ok];rw[run_loadVar_row w g 182 182 vs (0,0) _ ho Tryz.underlying182 rfl (by rw[info57s,hl])]
 rfl
theorem findS_any (s:ByteArray) (w:World):Calls Tryz.prog 160 #[.string s] w fun r w'=>∃v,r=.returned v∧FindS (suB s) v∧Bw w w':=by
 obtain⟨V,hV⟩:∃V,V=(w.alloc (.cells #[.string s] 9)).alloc (.cells z13 182):=⟨_,rfl⟩;have HBX:Hid (V.cell? ⟨w.heap.size,0,none⟩=some (.string s)∧w.heap.size<V.heap.size):=by rw[hV];exact⟨by simp[go_sem],by simp;omega⟩
 have HR:Hid (zAc V (w.heap.size+1) 182 z13):=by rw[hV];have h:=zAc.new (w.alloc (.cells #[.string s] 9)) z13 182;rw[Dm.size_alloc]at h;exact h
 have HB:Hid (Bw w V):=by rw[hV];exact bA.alloc (by simp) _
 have HV:=zAb hV;clear hV;go_enter Tryz.func160,Tryz.ntmps160
 go_upto_region 1 with fail
 rw[←un HV];clear HV
 go_upto_region 2 with (go_at_call 227;go_must(refine(units_si _).mono ?_;rintro e W1 ⟨v,rfl,ho,hb⟩;have HOW:=zAb ho;have HW:=zAb hb;clear ho hb))
 obtain⟨gR,cap,rfl⟩:=Joins.ownsRow_form (un HOW) (by decide);have HG:Hid (gR<W1.heap.size):=((un HOW).lt gR rfl).2;have HRW:Hid (∀k,k<29→R13 W1 gR k):=fun k hk=>rows13_at (un HOW) k hk
 have HBX1:Hid (W1.cell? ⟨w.heap.size,0,none⟩=some (.string s)∧w.heap.size<W1.heap.size):=⟨((un HW).cell (p:=⟨w.heap.size,0,none⟩) (un HBX).2).trans (un HBX).1,Nat.lt_of_lt_of_le (un HBX).2 (un HW).size⟩;have HIX:=zAb (indexS s gR cap w.heap.size W1 (un HRW) (un HG) (un HBX1).1 (un HBX1).2);have HR1:=zAb ((un HR).later (un HW));have HB1:=zAb ((un HB).trans ((un HW).mono (un HB).size));clear HW HBX HBX1 HR HB HOW
 go_upto_region 3 with (go_at_call 228;go_must(refine(un HIX).mono ?_;rintro e W2 ⟨j,rfl,hj,hb⟩;have HJ:=zAb hj;have HB2:=zAb (bt HB1 hb);have HR2:=zAb ((un HR1).later hb);have HRW2:=zAb (fun k hk=>(un HRW k hk).later hb (un HG));clear hj hb))
 clear HIX HRW HG HR1 HB1;rcases un HJ with ⟨k,hk,rfl,hk1,hk2⟩|⟨rfl,hn⟩
 ·have hk0:(0:Int)≤(k:Int):=by omega
  have hkI:(k:Int)<29:=by omega
  have hkn:¬(k:Int)<0:=by omega
  have hrow:=un HRW2 k hk;have c0:=hrow.c0;have c1:=hrow.c1;have c2:=hrow.c2;have c3:=hrow.c3;have c4:=hrow.c4;have c5:=hrow.c5;have c6:=hrow.c6;have c7:=hrow.c7;have c8:=hrow.c8;have c9:=hrow.c9;have c10:=hrow.c10;have c11:=hrow.c11;have c12:=hrow.c12;have HOUT:Hid (FindS (suB s) (.tuple #[.agg (suA (sut k)),.bool true])):=Or.inl ⟨k,hk,Or.inl ⟨k,hk,rfl,hk1,hk2⟩,rfl⟩;unfold suA at HOUT
  clear hrow hk1 hk2 HRW2 HJ;generalize (sut k).nm=nm at *
  generalize (sut k).sy=sy at *
  generalize (sut k).tk=tk at *
  generalize (sut k).e0=x0 at *
  generalize (sut k).e1=x1 at *
  generalize (sut k).e2=x2 at *
  generalize (sut k).e3=x3 at *
  generalize (sut k).e4=x4 at *
  generalize (sut k).e5=x5 at *
  generalize (sut k).e6=x6 at *
  generalize (sut k).e7=x7 at *
  generalize (sut k).n=x8 at *
  generalize (sut k).d=x9 at *
  go_wp2_with (refine zAk 182 13 info57s rfl (.tmp 2) (.tmp 16) rfl (w.heap.size+1) z13 #[.string nm,.string sy,I tk,I x0,I x1,I x2,I x3,I x4,I x5,I x6,I x7,I x8,I x9] rfl rfl rfl rfl (un HR2) (by kernel_rfl) ?_)
  exact bodyPost_ret (v:=.tuple #[.agg #[.string nm,.string sy,I tk,I x0,I x1,I x2,I x3,I x4,I x5,I x6,I x7,I x8,I x9],.bool true]) (res57b Tryz.results160 _ _ (w.heap.size+1) _ rfl rfl ((un HR2).setRow _)) rfl ⟨_,rfl,un HOUT,below_setRow (un HB2) (by omega) _⟩
 ·have hn1:((-1:Int)<0):=by decide
  go_wp2_with (refine zAk 182 13 info57s rfl (.tmp 2) (.tmp 12) rfl (w.heap.size+1) z13 z13 rfl rfl rfl rfl (un HR2) (by kernel_rfl) ?_)
  exact bodyPost_ret (v:=.tuple #[.agg z13,.bool false]) (res57b Tryz.results160 _ _ (w.heap.size+1) _ rfl rfl ((un HR2).setRow _)) rfl ⟨_,rfl,Or.inr ⟨Or.inr ⟨rfl,hn⟩,rfl⟩,below_setRow (un HB2) (by omega) _⟩
end Go.Proofs.YtliadckofhblnaaGreatDoor

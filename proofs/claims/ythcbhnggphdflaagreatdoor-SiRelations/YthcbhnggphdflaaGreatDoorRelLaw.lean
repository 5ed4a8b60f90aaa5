/- SiRelations: what is made of what. -/
import Derived.Test.YthcbhnggphdflaaGreatDoorIs
import Derived.Test.YthcbhnggphdflaaGreatDoorGram
namespace Go.Proofs.YthcbhnggphdflaaGreatDoor
open Go.RowKit
theorem mul_ones (w : World) (htab : Tab w) : Ans 39 #[.agg #[.string ⟨#[49]⟩, .string ⟨#[49]⟩], .agg #[.string ⟨#[49]⟩, .string ⟨#[49]⟩]] w ⟨#[49]⟩ ⟨#[49]⟩ 0 :=
  ans_of (rmul_ok _ _ _ _ _ _ w isR_one isR_one htab) (by decide +kernel) isR_one
theorem quo_at (a0 a1 a2 a3 a4 a5 a6 a7 b0 b1 b2 b3 b4 b5 b6 b7 c0 c1 c2 c3 c4 c5 c6 c7 : Int) (w : World) (h : quoL [a0, a1, a2, a3, a4, a5, a6, a7] [b0, b1, b2, b3, b4, b5, b6, b7] [wrap64 (a0 - b0), wrap64 (a1 - b1), wrap64 (a2 - b2), wrap64 (a3 - b3), wrap64 (a4 - b4), wrap64 (a5 - b5), wrap64 (a6 - b6), wrap64 (a7 - b7)] = [c0, c1, c2, c3, c4, c5, c6, c7]) (he : Dm.quoErr (Dm.rightB [a0, a1, a2, a3, a4, a5, a6, a7]) (Dm.rightB [b0, b1, b2, b3, b4, b5, b6, b7]) [wrap64 (a0 - b0), wrap64 (a1 - b1), wrap64 (a2 - b2), wrap64 (a3 - b3), wrap64 (a4 - b4), wrap64 (a5 - b5), wrap64 (a6 - b6), wrap64 (a7 - b7)] = 0) :
    Calls Tryz.prog 37 #[.agg #[.int .i64 a0, .int .i64 a1, .int .i64 a2, .int .i64 a3, .int .i64 a4, .int .i64 a5, .int .i64 a6, .int .i64 a7], .agg #[.int .i64 b0, .int .i64 b1, .int .i64 b2, .int .i64 b3, .int .i64 b4, .int .i64 b5, .int .i64 b6, .int .i64 b7]] w fun r w' => r = .returned (.tuple #[.agg #[.int .i64 c0, .int .i64 c1, .int .i64 c2, .int .i64 c3, .int .i64 c4, .int .i64 c5, .int .i64 c6, .int .i64 c7], .int .i64 0]) ∧ Below w.heap.size w w' := by
  have hh := Dm.quo_any a0 a1 a2 a3 a4 a5 a6 a7 b0 b1 b2 b3 b4 b5 b6 b7 w
  rw [he] at hh
  unfold quoL at h
  simp only [List.map_cons, List.map_nil, List.cons.injEq, and_true] at h
  obtain ⟨rfl, rfl, rfl, rfl, rfl, rfl, rfl, rfl⟩ := h
  exact hh
theorem mul_at (a0 a1 a2 a3 a4 a5 a6 a7 b0 b1 b2 b3 b4 b5 b6 b7 c0 c1 c2 c3 c4 c5 c6 c7 : Int) (g : Nat) (w : World) (hg : OwnU w g 26 #[.int .i64 a0, .int .i64 a1, .int .i64 a2, .int .i64 a3, .int .i64 a4, .int .i64 a5, .int .i64 a6, .int .i64 a7, .int .i64 b0, .int .i64 b1, .int .i64 b2, .int .i64 b3, .int .i64 b4, .int .i64 b5, .int .i64 b6, .int .i64 b7]) (h : mulL [a0, a1, a2, a3, a4, a5, a6, a7, b0, b1, b2, b3, b4, b5, b6, b7] = [c0, c1, c2, c3, c4, c5, c6, c7]) (he : Dm.mulErr (X2 [a0, a1, a2, a3, a4, a5, a6, a7, b0, b1, b2, b3, b4, b5, b6, b7]) 2 = 0) :
    Calls Tryz.prog 17 #[.slice (some ⟨g, 0, none⟩) 2 2] w fun r w' => r = .returned (.tuple #[.agg #[.int .i64 c0, .int .i64 c1, .int .i64 c2, .int .i64 c3, .int .i64 c4, .int .i64 c5, .int .i64 c6, .int .i64 c7], .int .i64 0]) ∧ Below w.heap.size w w' := by
  have hd : Dm.Dims w g 0 2 (X2 [a0, a1, a2, a3, a4, a5, a6, a7, b0, b1, b2, b3, b4, b5, b6, b7]) := by
    refine ⟨hg.lt, fun i hi j hj => ?_⟩
    have h := hg.ub.c (0 + i * 8 + j)
    refine h _ ?_
    rcases (by omega : i = 0 ∨ i = 1) with rfl | rfl <;> rcases (by omega : j = 0 ∨ j = 1 ∨ j = 2 ∨ j = 3 ∨ j = 4 ∨ j = 5 ∨ j = 6 ∨ j = 7) with rfl | rfl | rfl | rfl | rfl | rfl | rfl | rfl <;> rfl
  have hh := Dm.mul_any g 0 2 2 (X2 [a0, a1, a2, a3, a4, a5, a6, a7, b0, b1, b2, b3, b4, b5, b6, b7]) w (by decide) hd
  rw [he] at hh
  unfold mulL at h
  simp only [List.cons.injEq, and_true] at h
  obtain ⟨rfl, rfl, rfl, rfl, rfl, rfl, rfl, rfl⟩ := h
  exact hh
theorem quo_ones (w : World) (htab : Tab w) : Ans 38 #[.agg #[.string ⟨#[49]⟩, .string ⟨#[49]⟩], .agg #[.string ⟨#[49]⟩, .string ⟨#[49]⟩]] w ⟨#[49]⟩ ⟨#[49]⟩ 0 :=
  ans_of (rquo_ok _ _ _ _ _ _ w isR_one isR_one (by decide +kernel) htab) (by decide +kernel) isR_one
def Fw (s : ByteArray) (u : Array Value) : Prop := ∀ w, Tab w → Calls Tryz.prog 36 #[.string s] w fun r w' => r = .returned (.tuple #[.agg u, .bool true]) ∧ Below w.heap.size w w'
def Rl (s so sb : ByteArray) (t : Bool) : Prop := ∀ w, Tab w → Calls Tryz.prog 18 #[.string s, .string so, .string sb, .bool t] w fun r w' => r = .returned (.bool true) ∧ Below w.heap.size w w'
theorem fw_ampere : Fw ⟨#[97, 109, 112, 101, 114, 101]⟩ (uA ⟨#[97, 109, 112, 101, 114, 101]⟩ ⟨#[65]⟩ ⟨#[48]⟩ ⟨#[49]⟩ 0 0 0 1 0 0 0 0 1) := fun w htab =>
  found_base _ (sct 3).u (size_sc 3) (ones_sc 3) w (fun W _ => siFind_none _ W (Or.inr ⟨rfl, by decide +kernel⟩)) (fun W hb => (find_any _ W (htab.later hb)).mono (by
    rintro r w' ⟨v, rfl, hv, hb⟩
    rw [hv.det (Or.inl ⟨3, by decide, Or.inl ⟨3, by decide, rfl, by decide +kernel, by decide +kernel⟩, rfl⟩)]
    exact ⟨rfl, hb⟩))
theorem fw_candela : Fw ⟨#[99, 97, 110, 100, 101, 108, 97]⟩ (uA ⟨#[99, 97, 110, 100, 101, 108, 97]⟩ ⟨#[99, 100]⟩ ⟨#[48]⟩ ⟨#[49]⟩ 0 0 0 0 0 0 1 0 1) := fun w htab =>
  found_base _ (sct 6).u (size_sc 6) (ones_sc 6) w (fun W _ => siFind_none _ W (Or.inr ⟨rfl, by decide +kernel⟩)) (fun W hb => (find_any _ W (htab.later hb)).mono (by
    rintro r w' ⟨v, rfl, hv, hb⟩
    rw [hv.det (Or.inl ⟨6, by decide, Or.inl ⟨6, by decide, rfl, by decide +kernel, by decide +kernel⟩, rfl⟩)]
    exact ⟨rfl, hb⟩))
theorem fw_coulomb : Fw ⟨#[99, 111, 117, 108, 111, 109, 98]⟩ (uA ⟨#[99, 111, 117, 108, 111, 109, 98]⟩ ⟨#[67]⟩ ⟨#[48]⟩ ⟨#[49]⟩ 0 0 1 1 0 0 0 0 1) := fun w htab =>
  found_si _ (ruT 4) (ruT_size 4) (ruT_ones 4) w (fun W hb => siFind_yes _ 4 (by decide) (Or.inl ⟨4, by decide, rfl, by decide +kernel, by decide +kernel⟩) W (htab.later hb))
theorem fw_farad : Fw ⟨#[102, 97, 114, 97, 100]⟩ (uA ⟨#[102, 97, 114, 97, 100]⟩ ⟨#[70]⟩ ⟨#[48]⟩ ⟨#[49]⟩ (-2) (-1) 4 2 0 0 0 0 1) := fun w htab =>
  found_si _ (ruT 6) (ruT_size 6) (ruT_ones 6) w (fun W hb => siFind_yes _ 6 (by decide) (Or.inl ⟨6, by decide, rfl, by decide +kernel, by decide +kernel⟩) W (htab.later hb))
theorem fw_henry : Fw ⟨#[104, 101, 110, 114, 121]⟩ (uA ⟨#[104, 101, 110, 114, 121]⟩ ⟨#[72]⟩ ⟨#[48]⟩ ⟨#[49]⟩ 2 1 (-2) (-2) 0 0 0 0 1) := fun w htab =>
  found_si _ (ruT 11) (ruT_size 11) (ruT_ones 11) w (fun W hb => siFind_yes _ 11 (by decide) (Or.inl ⟨11, by decide, rfl, by decide +kernel, by decide +kernel⟩) W (htab.later hb))
theorem fw_joule : Fw ⟨#[106, 111, 117, 108, 101]⟩ (uA ⟨#[106, 111, 117, 108, 101]⟩ ⟨#[74]⟩ ⟨#[48]⟩ ⟨#[49]⟩ 2 1 (-2) 0 0 0 0 0 1) := fun w htab =>
  found_si _ (ruT 2) (ruT_size 2) (ruT_ones 2) w (fun W hb => siFind_yes _ 2 (by decide) (Or.inl ⟨2, by decide, rfl, by decide +kernel, by decide +kernel⟩) W (htab.later hb))
theorem fw_katal : Fw ⟨#[107, 97, 116, 97, 108]⟩ (uA ⟨#[107, 97, 116, 97, 108]⟩ ⟨#[107, 97, 116]⟩ ⟨#[48]⟩ ⟨#[49]⟩ 0 0 (-1) 0 0 1 0 0 1) := fun w htab =>
  found_si _ (ruT 16) (ruT_size 16) (ruT_ones 16) w (fun W hb => siFind_yes _ 16 (by decide) (Or.inl ⟨16, by decide, rfl, by decide +kernel, by decide +kernel⟩) W (htab.later hb))
theorem fw_lumen : Fw ⟨#[108, 117, 109, 101, 110]⟩ (uA ⟨#[108, 117, 109, 101, 110]⟩ ⟨#[108, 109]⟩ ⟨#[48]⟩ ⟨#[49]⟩ 0 0 0 0 0 0 1 0 1) := fun w htab =>
  found_si _ (ruT 19) (ruT_size 19) (ruT_ones 19) w (fun W hb => siFind_yes _ 19 (by decide) (Or.inl ⟨19, by decide, rfl, by decide +kernel, by decide +kernel⟩) W (htab.later hb))
theorem fw_metre : Fw ⟨#[109, 101, 116, 114, 101]⟩ (uA ⟨#[109, 101, 116, 114, 101]⟩ ⟨#[109]⟩ ⟨#[48]⟩ ⟨#[49]⟩ 1 0 0 0 0 0 0 0 1) := fun w htab =>
  found_base _ (sct 4).u (size_sc 4) (ones_sc 4) w (fun W _ => siFind_none _ W (Or.inr ⟨rfl, by decide +kernel⟩)) (fun W hb => (find_any _ W (htab.later hb)).mono (by
    rintro r w' ⟨v, rfl, hv, hb⟩
    rw [hv.det (Or.inl ⟨4, by decide, Or.inl ⟨4, by decide, rfl, by decide +kernel, by decide +kernel⟩, rfl⟩)]
    exact ⟨rfl, hb⟩))
theorem fw_mole : Fw ⟨#[109, 111, 108, 101]⟩ (uA ⟨#[109, 111, 108, 101]⟩ ⟨#[109, 111, 108]⟩ ⟨#[48]⟩ ⟨#[49]⟩ 0 0 0 0 0 1 0 0 1) := fun w htab =>
  found_base _ (sct 1).u (size_sc 1) (ones_sc 1) w (fun W _ => siFind_none _ W (Or.inr ⟨rfl, by decide +kernel⟩)) (fun W hb => (find_any _ W (htab.later hb)).mono (by
    rintro r w' ⟨v, rfl, hv, hb⟩
    rw [hv.det (Or.inl ⟨1, by decide, Or.inl ⟨1, by decide, rfl, by decide +kernel, by decide +kernel⟩, rfl⟩)]
    exact ⟨rfl, hb⟩))
theorem fw_newton : Fw ⟨#[110, 101, 119, 116, 111, 110]⟩ (uA ⟨#[110, 101, 119, 116, 111, 110]⟩ ⟨#[78]⟩ ⟨#[48]⟩ ⟨#[49]⟩ 1 1 (-2) 0 0 0 0 0 1) := fun w htab =>
  found_si _ (ruT 0) (ruT_size 0) (ruT_ones 0) w (fun W hb => siFind_yes _ 0 (by decide) (Or.inl ⟨0, by decide, rfl, by decide +kernel, by decide +kernel⟩) W (htab.later hb))
theorem fw_ohm : Fw ⟨#[111, 104, 109]⟩ (uA ⟨#[111, 104, 109]⟩ ⟨#[206, 169]⟩ ⟨#[48]⟩ ⟨#[49]⟩ 2 1 (-3) (-2) 0 0 0 0 1) := fun w htab =>
  found_si _ (ruT 7) (ruT_size 7) (ruT_ones 7) w (fun W hb => siFind_yes _ 7 (by decide) (Or.inl ⟨7, by decide, rfl, by decide +kernel, by decide +kernel⟩) W (htab.later hb))
theorem fw_second : Fw ⟨#[115, 101, 99, 111, 110, 100]⟩ (uA ⟨#[115, 101, 99, 111, 110, 100]⟩ ⟨#[115]⟩ ⟨#[48]⟩ ⟨#[49]⟩ 0 0 1 0 0 0 0 0 1) := fun w htab =>
  found_base _ (sct 2).u (size_sc 2) (ones_sc 2) w (fun W _ => siFind_none _ W (Or.inr ⟨rfl, by decide +kernel⟩)) (fun W hb => (find_any _ W (htab.later hb)).mono (by
    rintro r w' ⟨v, rfl, hv, hb⟩
    rw [hv.det (Or.inl ⟨2, by decide, Or.inl ⟨2, by decide, rfl, by decide +kernel, by decide +kernel⟩, rfl⟩)]
    exact ⟨rfl, hb⟩))
theorem fw_siemens : Fw ⟨#[115, 105, 101, 109, 101, 110, 115]⟩ (uA ⟨#[115, 105, 101, 109, 101, 110, 115]⟩ ⟨#[83]⟩ ⟨#[48]⟩ ⟨#[49]⟩ (-2) (-1) 3 2 0 0 0 0 1) := fun w htab =>
  found_si _ (ruT 8) (ruT_size 8) (ruT_ones 8) w (fun W hb => siFind_yes _ 8 (by decide) (Or.inl ⟨8, by decide, rfl, by decide +kernel, by decide +kernel⟩) W (htab.later hb))
theorem fw_steradian : Fw ⟨#[115, 116, 101, 114, 97, 100, 105, 97, 110]⟩ (uA ⟨#[115, 116, 101, 114, 97, 100, 105, 97, 110]⟩ ⟨#[115, 114]⟩ ⟨#[48]⟩ ⟨#[49]⟩ 0 0 0 0 0 0 0 0 1) := fun w htab =>
  found_si _ (ruT 18) (ruT_size 18) (ruT_ones 18) w (fun W hb => siFind_yes _ 18 (by decide) (Or.inl ⟨18, by decide, rfl, by decide +kernel, by decide +kernel⟩) W (htab.later hb))
theorem fw_volt : Fw ⟨#[118, 111, 108, 116]⟩ (uA ⟨#[118, 111, 108, 116]⟩ ⟨#[86]⟩ ⟨#[48]⟩ ⟨#[49]⟩ 2 1 (-3) (-1) 0 0 0 0 1) := fun w htab =>
  found_si _ (ruT 5) (ruT_size 5) (ruT_ones 5) w (fun W hb => siFind_yes _ 5 (by decide) (Or.inl ⟨5, by decide, rfl, by decide +kernel, by decide +kernel⟩) W (htab.later hb))
theorem fw_watt : Fw ⟨#[119, 97, 116, 116]⟩ (uA ⟨#[119, 97, 116, 116]⟩ ⟨#[87]⟩ ⟨#[48]⟩ ⟨#[49]⟩ 2 1 (-3) 0 0 0 0 0 1) := fun w htab =>
  found_si _ (ruT 3) (ruT_size 3) (ruT_ones 3) w (fun W hb => siFind_yes _ 3 (by decide) (Or.inl ⟨3, by decide, rfl, by decide +kernel, by decide +kernel⟩) W (htab.later hb))
theorem fw_weber : Fw ⟨#[119, 101, 98, 101, 114]⟩ (uA ⟨#[119, 101, 98, 101, 114]⟩ ⟨#[87, 98]⟩ ⟨#[48]⟩ ⟨#[49]⟩ 2 1 (-2) (-1) 0 0 0 0 1) := fun w htab =>
  found_si _ (ruT 9) (ruT_size 9) (ruT_ones 9) w (fun W hb => siFind_yes _ 9 (by decide) (Or.inl ⟨9, by decide, rfl, by decide +kernel, by decide +kernel⟩) W (htab.later hb))
theorem rel_0 : Rl ⟨#[106, 111, 117, 108, 101]⟩ ⟨#[110, 101, 119, 116, 111, 110]⟩ ⟨#[109, 101, 116, 114, 101]⟩ true := fun w htab =>
  is_yes _ _ _ _ _ _ _ _ _ _ _ _ _ _ _ _ _ _ _ _ _ _ _ _ _ _ _ _ _ _ _ _ _ _ _ _ _ _ _ _ _ _ 0 1 (-2) 0 0 0 0 0 w (fun W hb => fw_joule W (htab.later hb)) (fun W hb => fw_newton W (htab.later hb)) (fun W hb => fw_metre W (htab.later hb)) (fun W _ => quo_at 1 1 (-2) 0 0 0 0 0 1 0 0 0 0 0 0 0 0 1 (-2) 0 0 0 0 0 W (by decide +kernel) (by decide +kernel)) (fun W hb => quo_ones W (htab.later hb)) (fun W g _ hg => mul_at 1 1 (-2) 0 0 0 0 0 1 0 0 0 0 0 0 0 2 1 (-2) 0 0 0 0 0 g W hg (by decide +kernel) (by decide +kernel)) (fun W hb => mul_ones W (htab.later hb))
theorem rel_1 : Rl ⟨#[119, 97, 116, 116]⟩ ⟨#[106, 111, 117, 108, 101]⟩ ⟨#[115, 101, 99, 111, 110, 100]⟩ false := fun w htab =>
  is_no _ _ _ _ _ _ _ _ _ _ _ _ _ _ _ _ _ _ _ _ _ _ _ _ _ _ _ _ _ _ _ _ _ _ _ _ _ _ _ _ _ _ w (fun W hb => fw_watt W (htab.later hb)) (fun W hb => fw_joule W (htab.later hb)) (fun W hb => fw_second W (htab.later hb)) (fun W _ => quo_at 2 1 (-2) 0 0 0 0 0 0 0 1 0 0 0 0 0 2 1 (-3) 0 0 0 0 0 W (by decide +kernel) (by decide +kernel)) (fun W hb => quo_ones W (htab.later hb))
theorem rel_2 : Rl ⟨#[118, 111, 108, 116]⟩ ⟨#[119, 97, 116, 116]⟩ ⟨#[97, 109, 112, 101, 114, 101]⟩ false := fun w htab =>
  is_no _ _ _ _ _ _ _ _ _ _ _ _ _ _ _ _ _ _ _ _ _ _ _ _ _ _ _ _ _ _ _ _ _ _ _ _ _ _ _ _ _ _ w (fun W hb => fw_volt W (htab.later hb)) (fun W hb => fw_watt W (htab.later hb)) (fun W hb => fw_ampere W (htab.later hb)) (fun W _ => quo_at 2 1 (-3) 0 0 0 0 0 0 0 0 1 0 0 0 0 2 1 (-3) (-1) 0 0 0 0 W (by decide +kernel) (by decide +kernel)) (fun W hb => quo_ones W (htab.later hb))
theorem rel_3 : Rl ⟨#[111, 104, 109]⟩ ⟨#[118, 111, 108, 116]⟩ ⟨#[97, 109, 112, 101, 114, 101]⟩ false := fun w htab =>
  is_no _ _ _ _ _ _ _ _ _ _ _ _ _ _ _ _ _ _ _ _ _ _ _ _ _ _ _ _ _ _ _ _ _ _ _ _ _ _ _ _ _ _ w (fun W hb => fw_ohm W (htab.later hb)) (fun W hb => fw_volt W (htab.later hb)) (fun W hb => fw_ampere W (htab.later hb)) (fun W _ => quo_at 2 1 (-3) (-1) 0 0 0 0 0 0 0 1 0 0 0 0 2 1 (-3) (-2) 0 0 0 0 W (by decide +kernel) (by decide +kernel)) (fun W hb => quo_ones W (htab.later hb))
theorem rel_4 : Rl ⟨#[119, 101, 98, 101, 114]⟩ ⟨#[118, 111, 108, 116]⟩ ⟨#[115, 101, 99, 111, 110, 100]⟩ true := fun w htab =>
  is_yes _ _ _ _ _ _ _ _ _ _ _ _ _ _ _ _ _ _ _ _ _ _ _ _ _ _ _ _ _ _ _ _ _ _ _ _ _ _ _ _ _ _ 2 1 (-4) (-1) 0 0 0 0 w (fun W hb => fw_weber W (htab.later hb)) (fun W hb => fw_volt W (htab.later hb)) (fun W hb => fw_second W (htab.later hb)) (fun W _ => quo_at 2 1 (-3) (-1) 0 0 0 0 0 0 1 0 0 0 0 0 2 1 (-4) (-1) 0 0 0 0 W (by decide +kernel) (by decide +kernel)) (fun W hb => quo_ones W (htab.later hb)) (fun W g _ hg => mul_at 2 1 (-3) (-1) 0 0 0 0 0 0 1 0 0 0 0 0 2 1 (-2) (-1) 0 0 0 0 g W hg (by decide +kernel) (by decide +kernel)) (fun W hb => mul_ones W (htab.later hb))
theorem rel_5 : Rl ⟨#[104, 101, 110, 114, 121]⟩ ⟨#[119, 101, 98, 101, 114]⟩ ⟨#[97, 109, 112, 101, 114, 101]⟩ false := fun w htab =>
  is_no _ _ _ _ _ _ _ _ _ _ _ _ _ _ _ _ _ _ _ _ _ _ _ _ _ _ _ _ _ _ _ _ _ _ _ _ _ _ _ _ _ _ w (fun W hb => fw_henry W (htab.later hb)) (fun W hb => fw_weber W (htab.later hb)) (fun W hb => fw_ampere W (htab.later hb)) (fun W _ => quo_at 2 1 (-2) (-1) 0 0 0 0 0 0 0 1 0 0 0 0 2 1 (-2) (-2) 0 0 0 0 W (by decide +kernel) (by decide +kernel)) (fun W hb => quo_ones W (htab.later hb))
theorem rel_6 : Rl ⟨#[102, 97, 114, 97, 100]⟩ ⟨#[99, 111, 117, 108, 111, 109, 98]⟩ ⟨#[118, 111, 108, 116]⟩ false := fun w htab =>
  is_no _ _ _ _ _ _ _ _ _ _ _ _ _ _ _ _ _ _ _ _ _ _ _ _ _ _ _ _ _ _ _ _ _ _ _ _ _ _ _ _ _ _ w (fun W hb => fw_farad W (htab.later hb)) (fun W hb => fw_coulomb W (htab.later hb)) (fun W hb => fw_volt W (htab.later hb)) (fun W _ => quo_at 0 0 1 1 0 0 0 0 2 1 (-3) (-1) 0 0 0 0 (-2) (-1) 4 2 0 0 0 0 W (by decide +kernel) (by decide +kernel)) (fun W hb => quo_ones W (htab.later hb))
theorem rel_7 : Rl ⟨#[115, 105, 101, 109, 101, 110, 115]⟩ ⟨#[97, 109, 112, 101, 114, 101]⟩ ⟨#[118, 111, 108, 116]⟩ false := fun w htab =>
  is_no _ _ _ _ _ _ _ _ _ _ _ _ _ _ _ _ _ _ _ _ _ _ _ _ _ _ _ _ _ _ _ _ _ _ _ _ _ _ _ _ _ _ w (fun W hb => fw_siemens W (htab.later hb)) (fun W hb => fw_ampere W (htab.later hb)) (fun W hb => fw_volt W (htab.later hb)) (fun W _ => quo_at 0 0 0 1 0 0 0 0 2 1 (-3) (-1) 0 0 0 0 (-2) (-1) 3 2 0 0 0 0 W (by decide +kernel) (by decide +kernel)) (fun W hb => quo_ones W (htab.later hb))
theorem rel_8 : Rl ⟨#[99, 111, 117, 108, 111, 109, 98]⟩ ⟨#[97, 109, 112, 101, 114, 101]⟩ ⟨#[115, 101, 99, 111, 110, 100]⟩ true := fun w htab =>
  is_yes _ _ _ _ _ _ _ _ _ _ _ _ _ _ _ _ _ _ _ _ _ _ _ _ _ _ _ _ _ _ _ _ _ _ _ _ _ _ _ _ _ _ 0 0 (-1) 1 0 0 0 0 w (fun W hb => fw_coulomb W (htab.later hb)) (fun W hb => fw_ampere W (htab.later hb)) (fun W hb => fw_second W (htab.later hb)) (fun W _ => quo_at 0 0 0 1 0 0 0 0 0 0 1 0 0 0 0 0 0 0 (-1) 1 0 0 0 0 W (by decide +kernel) (by decide +kernel)) (fun W hb => quo_ones W (htab.later hb)) (fun W g _ hg => mul_at 0 0 0 1 0 0 0 0 0 0 1 0 0 0 0 0 0 0 1 1 0 0 0 0 g W hg (by decide +kernel) (by decide +kernel)) (fun W hb => mul_ones W (htab.later hb))
theorem rel_9 : Rl ⟨#[107, 97, 116, 97, 108]⟩ ⟨#[109, 111, 108, 101]⟩ ⟨#[115, 101, 99, 111, 110, 100]⟩ false := fun w htab =>
  is_no _ _ _ _ _ _ _ _ _ _ _ _ _ _ _ _ _ _ _ _ _ _ _ _ _ _ _ _ _ _ _ _ _ _ _ _ _ _ _ _ _ _ w (fun W hb => fw_katal W (htab.later hb)) (fun W hb => fw_mole W (htab.later hb)) (fun W hb => fw_second W (htab.later hb)) (fun W _ => quo_at 0 0 0 0 0 1 0 0 0 0 1 0 0 0 0 0 0 0 (-1) 0 0 1 0 0 W (by decide +kernel) (by decide +kernel)) (fun W hb => quo_ones W (htab.later hb))
theorem rel_10 : Rl ⟨#[108, 117, 109, 101, 110]⟩ ⟨#[99, 97, 110, 100, 101, 108, 97]⟩ ⟨#[115, 116, 101, 114, 97, 100, 105, 97, 110]⟩ true := fun w htab =>
  is_yes _ _ _ _ _ _ _ _ _ _ _ _ _ _ _ _ _ _ _ _ _ _ _ _ _ _ _ _ _ _ _ _ _ _ _ _ _ _ _ _ _ _ 0 0 0 0 0 0 1 0 w (fun W hb => fw_lumen W (htab.later hb)) (fun W hb => fw_candela W (htab.later hb)) (fun W hb => fw_steradian W (htab.later hb)) (fun W _ => quo_at 0 0 0 0 0 0 1 0 0 0 0 0 0 0 0 0 0 0 0 0 0 0 1 0 W (by decide +kernel) (by decide +kernel)) (fun W hb => quo_ones W (htab.later hb)) (fun W g _ hg => mul_at 0 0 0 0 0 0 1 0 0 0 0 0 0 0 0 0 0 0 0 0 0 0 1 0 g W hg (by decide +kernel) (by decide +kernel)) (fun W hb => mul_ones W (htab.later hb))
set_option maxRecDepth 100000 in
set_option maxHeartbeats 8000000 in
theorem law_rel (w : World) (htab : Tab w) : Calls Tryz.prog 7 #[] w fun r w' => r = .returned (.bool true) ∧ Below w.heap.size w w' := by
  have HTA : Hid (∀ W, Below w.heap.size w W → Tab W) := fun W h => htab.later h
  have HB : Hid (Below w.heap.size w w) := Below.refl _ _
  have HF0 : Hid True := trivial
  clear htab
  go_enter Tryz.func7, Tryz.ntmps7
  go_wp2_with (first
    | (go_at_call 18; have hchk := HF0; clear hchk HF0; refine (rel_0 _ (un HTA _ (un HB))).mono ?_; rintro e W1 ⟨rfl, hb⟩; have HBn : Hid (Below w.heap.size w W1) := (un HB).trans (hb.mono (un HB).size); clear hb HB; have HB := HBn; clear HBn; have HF1 : Hid True := trivial)
    | (go_at_call 18; have hchk := HF1; clear hchk HF1; refine (rel_1 _ (un HTA _ (un HB))).mono ?_; rintro e W1 ⟨rfl, hb⟩; have HBn : Hid (Below w.heap.size w W1) := (un HB).trans (hb.mono (un HB).size); clear hb HB; have HB := HBn; clear HBn; have HF2 : Hid True := trivial)
    | (go_at_call 18; have hchk := HF2; clear hchk HF2; refine (rel_2 _ (un HTA _ (un HB))).mono ?_; rintro e W1 ⟨rfl, hb⟩; have HBn : Hid (Below w.heap.size w W1) := (un HB).trans (hb.mono (un HB).size); clear hb HB; have HB := HBn; clear HBn; have HF3 : Hid True := trivial)
    | (go_at_call 18; have hchk := HF3; clear hchk HF3; refine (rel_3 _ (un HTA _ (un HB))).mono ?_; rintro e W1 ⟨rfl, hb⟩; have HBn : Hid (Below w.heap.size w W1) := (un HB).trans (hb.mono (un HB).size); clear hb HB; have HB := HBn; clear HBn; have HF4 : Hid True := trivial)
    | (go_at_call 18; have hchk := HF4; clear hchk HF4; refine (rel_4 _ (un HTA _ (un HB))).mono ?_; rintro e W1 ⟨rfl, hb⟩; have HBn : Hid (Below w.heap.size w W1) := (un HB).trans (hb.mono (un HB).size); clear hb HB; have HB := HBn; clear HBn; have HF5 : Hid True := trivial)
    | (go_at_call 18; have hchk := HF5; clear hchk HF5; refine (rel_5 _ (un HTA _ (un HB))).mono ?_; rintro e W1 ⟨rfl, hb⟩; have HBn : Hid (Below w.heap.size w W1) := (un HB).trans (hb.mono (un HB).size); clear hb HB; have HB := HBn; clear HBn; have HF6 : Hid True := trivial)
    | (go_at_call 18; have hchk := HF6; clear hchk HF6; refine (rel_6 _ (un HTA _ (un HB))).mono ?_; rintro e W1 ⟨rfl, hb⟩; have HBn : Hid (Below w.heap.size w W1) := (un HB).trans (hb.mono (un HB).size); clear hb HB; have HB := HBn; clear HBn; have HF7 : Hid True := trivial)
    | (go_at_call 18; have hchk := HF7; clear hchk HF7; refine (rel_7 _ (un HTA _ (un HB))).mono ?_; rintro e W1 ⟨rfl, hb⟩; have HBn : Hid (Below w.heap.size w W1) := (un HB).trans (hb.mono (un HB).size); clear hb HB; have HB := HBn; clear HBn; have HF8 : Hid True := trivial)
    | (go_at_call 18; have hchk := HF8; clear hchk HF8; refine (rel_8 _ (un HTA _ (un HB))).mono ?_; rintro e W1 ⟨rfl, hb⟩; have HBn : Hid (Below w.heap.size w W1) := (un HB).trans (hb.mono (un HB).size); clear hb HB; have HB := HBn; clear HBn; have HF9 : Hid True := trivial)
    | (go_at_call 18; have hchk := HF9; clear hchk HF9; refine (rel_9 _ (un HTA _ (un HB))).mono ?_; rintro e W1 ⟨rfl, hb⟩; have HBn : Hid (Below w.heap.size w W1) := (un HB).trans (hb.mono (un HB).size); clear hb HB; have HB := HBn; clear HBn; have HF10 : Hid True := trivial)
    | (go_at_call 18; have hchk := HF10; clear hchk HF10; refine (rel_10 _ (un HTA _ (un HB))).mono ?_; rintro e W1 ⟨rfl, hb⟩; have HBn : Hid (Below w.heap.size w W1) := (un HB).trans (hb.mono (un HB).size); clear hb HB; have HB := HBn; clear HBn; have HF11 : Hid True := trivial))
  go_ret
  exact ⟨rfl, un HB⟩
end Go.Proofs.YthcbhnggphdflaaGreatDoor

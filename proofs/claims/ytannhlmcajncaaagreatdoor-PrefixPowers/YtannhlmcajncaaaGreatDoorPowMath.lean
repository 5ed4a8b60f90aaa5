/- The products and powers that PrefixPowers asks for. -/
import Derived.Test.YtannhlmcajncaaaGreatDoorSymMath
import Derived.Test.YtannhlmcajncaaaGreatDoorQuo
namespace Go.Proofs.YtannhlmcajncaaaGreatDoor
open Go.RowKit Go.Maps Go.ChangeMaps Go.WideMaps
/-- What both finds answer at the first that is found. -/
def ansV (j : Int) : Value := if 0 ≤ j then .tuple #[preV j.toNat, .bool true] else .tuple #[zeroP, .bool false]
set_option maxRecDepth 100000 in
set_option maxHeartbeats 4000000 in
theorem find_any (s : ByteArray) (hs : s.size ≤ maxLen) (w : World) (htab : Tab w) : Calls Tryz.prog 10 #[.string s] w fun r w' => ∃ j : Int, r = .returned (ansV j) ∧ IsFirst (foundB s) j ∧ Below w.heap.size w w' := by
  have HTW := hide htab
  have HSY := hide (fun W => symbols_look s hs W)
  have HQ : Hid ((symH s = true ∧ ∃ n : Nat, n < 32 ∧ symC s = (n : Int) ∧ IsFirst (foundB s) (n : Int)) ∨ (symH s = false ∧ ∀ k, k < 32 → foundB s k = nameB s k)) := by
    by_cases h : symH s = true
    · exact Or.inl ⟨h, find_yes s h⟩
    · have h2 : symH s = false := by simpa using h
      exact Or.inr ⟨h2, find_not s h2⟩
  clear htab
  obtain ⟨V, hV⟩ : ∃ V, V = (w.alloc (.cells #[.string s] 9)).alloc (.cells #[.string ⟨#[]⟩, .string ⟨#[]⟩, .string ⟨#[]⟩, .string ⟨#[]⟩, .bool false] 28) := ⟨_, rfl⟩
  have HBX : Hid (V.cell? ⟨w.heap.size, 0, none⟩ = some (.string s) ∧ w.heap.size < V.heap.size) := by rw [hV]; exact ⟨by simp [go_sem], by simp; omega⟩
  have HZV : Hid (T5 V (w.heap.size + 1) (.string ⟨#[]⟩) (.string ⟨#[]⟩) (.string ⟨#[]⟩) (.string ⟨#[]⟩) (.bool false)) := by rw [hV]; exact ⟨by simp [go_sem], by simp [go_sem], by simp [go_sem], by simp [go_sem], by simp [go_sem], by simp [go_sem], by simp [go_sem], by simp [go_sem], by simp [go_sem], by simp [go_sem]⟩
  have HBV : Hid (Below w.heap.size w V) := by rw [hV]; exact ((Below.refl _ _).alloc (Nat.le_refl _) _).alloc (by simp) _
  have HV := hide hV
  clear hV
  go_enter Tryz.func10, Tryz.ntmps10
  go_upto_region 1 with fail
  rw [← unhide HV]
  clear HV
  have t0 := (unhide HBX).1
  rcases unhide HQ with ⟨hH, n, hn32, hC, hJ⟩ | ⟨hH, hE⟩
  · rw [hH, hC] at HSY
    have HJ := hide hJ
    clear HQ hH hC hJ
    go_region_held3 (fun w' => w'.cell? ⟨w.heap.size, 0, none⟩ = some (.string s)) (first | assumption | (simp [go_sem, *]; done)) ((first
    | (go_at_call 18; go_must (refine (unhide HSY _).mono ?_; rintro e w1 ⟨rfl, hlk, hb1⟩; have HW1 : Hid (Below V.heap.size V w1) := (Below.refl _ _).drew.trans (hb1.mono (Below.refl V.heap.size V).drew.size); have hlk2 : (Instr.lookup 49 (.map (some V.heap.size)) (.string s) true).run Tryz.prog w1 = .ok (.tuple #[.int .i64 (n : Int), .bool true]) w1 := hlk; clear hlk hb1 t0; have t0 : w1.cell? ⟨w.heap.size, 0, none⟩ = some (.string s) := ((unhide HW1).cell (p := ⟨w.heap.size, 0, none⟩) (unhide HBX).2).trans (unhide HBX).1))))
    have hn0 : (0 : Int) ≤ (n : Int) := by omega
    have hnI : (n : Int) < 32 := by omega
    have HBW : Hid (Below w.heap.size w w1) := (unhide HBV).trans ((unhide HW1).mono (unhide HBV).size)
    have HTX : Hid (Tab w1) := (unhide HTW).later (unhide HBW)
    have HZX := hide ((unhide HZV).later (unhide HW1))
    have HT := hide (fun W (ht : Tab W) => told_any n hn32 W ht)
    unfold rowV RowV preV at HT
    have HRA := hide (fun (W W' : World) hb => rows_at W W' hb n hn32)
    have HPV : Hid (.returned (ansV (n : Int)) = Ending.returned (.tuple #[.agg #[.string (tbl n).nm, .string (tbl n).sy, .string (tbl n).fn, .string (tbl n).fd, .bool (tbl n).bi], .bool true])) := by show _ = _; unfold ansV; rw [if_pos (by omega)]; rfl
    generalize (tbl n).nm = nm at *
    generalize (tbl n).sy = sy at *
    generalize (tbl n).f = f at *
    generalize (tbl n).fn = fn at *
    generalize (tbl n).fd = fd at *
    generalize (tbl n).bi = bi at *
    have HGX : Hid (w.heap.size + 1 < w1.heap.size) := (unhide HZX).lt
    go_wp2_with (first
      | (go_at_call 14; go_must (refine (rows_any _).mono ?_; rintro e w2 ⟨rfl, hw2⟩; obtain ⟨c0, c1, c2⟩ := unhide HRA w1 w2 (by rw [hw2]; exact Below.refl _ _); have HB2 : Hid (Below w1.heap.size w1 w2) := (by rw [hw2]; exact (Below.refl _ _).alloc (Nat.le_refl _) _); clear hw2))
      | (go_at_call 15; go_must (refine (unhide HT _ ((unhide HTX).later (unhide HB2))).mono ?_; rintro e w3 ⟨rfl, hb3⟩; have HB3 : Hid (Below w1.heap.size w1 w3) := (unhide HB2).trans (hb3.mono (unhide HB2).size); have HZ3 := hide ((unhide HZX).later (unhide HB3)); clear hb3; have z0 := (unhide HZ3).c0; have z1 := (unhide HZ3).c1; have z2 := (unhide HZ3).c2; have z3 := (unhide HZ3).c3; have z4 := (unhide HZ3).c4; have f0 := (unhide HZ3).f0; have f1 := (unhide HZ3).f1; have f2 := (unhide HZ3).f2; have f3 := (unhide HZ3).f3; have f4 := (unhide HZ3).f4)))
    have hS := (unhide HZ3).store (.string nm) (.string sy) (.string fn) (.string fd) (.bool bi)
    have v0 := hS.c0; have v1 := hS.c1; have v2 := hS.c2; have v3 := hS.c3; have v4 := hS.c4
    exact bodyPost_ret (v := .tuple #[.agg #[.string nm, .string sy, .string fn, .string fd, .bool bi], .bool true]) (w := store5 w3 (w.heap.size + 1) (.string nm) (.string sy) (.string fn) (.string fd) (.bool bi)) (by simp [results, Tryz.results10, go_sem, v0, v1, v2, v3, v4]) rfl ⟨_, (unhide HPV).symm, unhide HJ, below_store5 ((unhide HBW).trans ((unhide HB3).mono (unhide HBW).size)) (Nat.le_succ _) (.string nm) (.string sy) (.string fn) (.string fd) (.bool bi)⟩
  · rw [hH] at HSY
    generalize symC s = c at *
    clear HQ hH
    have HE := hide hE
    clear hE
    go_region_held3 (fun w' => w'.cell? ⟨w.heap.size, 0, none⟩ = some (.string s)) (first | assumption | (simp [go_sem, *]; done)) ((first
    | (go_at_call 18; go_must (refine (unhide HSY _).mono ?_; rintro e w1 ⟨rfl, hlk, hb1⟩; have HW1 : Hid (Below V.heap.size V w1) := (Below.refl _ _).drew.trans (hb1.mono (Below.refl V.heap.size V).drew.size); have hlk2 : (Instr.lookup 49 (.map (some V.heap.size)) (.string s) true).run Tryz.prog w1 = .ok (.tuple #[.int .i64 c, .bool false]) w1 := hlk; clear hlk hb1 t0; have t0 : w1.cell? ⟨w.heap.size, 0, none⟩ = some (.string s) := ((unhide HW1).cell (p := ⟨w.heap.size, 0, none⟩) (unhide HBX).2).trans (unhide HBX).1))))
    have HBW1 : Hid (Below w.heap.size w w1) := (unhide HBV).trans ((unhide HW1).mono (unhide HBV).size)
    have HZ1 := hide ((unhide HZV).later (unhide HW1))
    have HIX : Hid (∀ W, W = w1.alloc (.cells rowsArr 41) → Calls Tryz.prog 19 #[.slice (some ⟨w1.heap.size, 0, none⟩) 32 32, .func (.func 20) #[] #[.pointer (some ⟨w.heap.size, 0, none⟩)]] W fun r w' => ∃ j : Int, r = .returned (.int .i64 j) ∧ IsFirst (nameB s) j ∧ Below w1.heap.size w1 w') := by
      intro W hW
      have hb : Below w1.heap.size w1 W := by rw [hW]; exact (Below.refl _ _).alloc (Nat.le_refl _) _
      have hl : w.heap.size < w1.heap.size := Nat.lt_of_lt_of_le (unhide HBX).2 (unhide HW1).size
      refine (index_any s w1.heap.size w.heap.size W (by rw [hW]; exact rowsIn_made w1) (by rw [hW]; simp) ((hb.cell (p := ⟨w.heap.size, 0, none⟩) hl).trans t0) (Nat.lt_of_lt_of_le hl hb.size)).mono ?_
      rintro e w' ⟨j, h1, h2, h3⟩
      exact ⟨j, h1, h2, hb.trans (h3.mono hb.size)⟩
    go_upto_region 4 with (first
      | (go_at_call 14; go_must (refine (rows_any _).mono ?_; rintro e w2 ⟨rfl, hw2⟩; have HW2 := hide hw2; clear hw2))
      | (go_at_call 19; go_must (refine (unhide HIX _ (unhide HW2)).mono ?_; rintro e w4 ⟨j, rfl, hj, hb4⟩; have HJ4 := hide hj; have HB4 := hide hb4; clear hj hb4)))
    have HBW : Hid (Below w.heap.size w w4) := (unhide HBW1).trans ((unhide HB4).mono (unhide HBW1).size)
    have HTX : Hid (Tab w4) := (unhide HTW).later (unhide HBW)
    have HZX := hide ((unhide HZ1).later (unhide HB4))
    have HJF := hide (isFirst_congr (unhide HJ4) (unhide HE))
    clear HW2 HIX HE HB4 HZ1 t0 hlk2
    rcases unhide HJ4 with ⟨k, hn32, rfl, -, -⟩ | ⟨rfl, -⟩
    · have hn0 : (0 : Int) ≤ (k : Int) := by omega
      have hnI : (k : Int) < 32 := by omega
      have HJ := HJF
      clear HJ4 HJF
      have HT := hide (fun W (ht : Tab W) => told_any k hn32 W ht)
      unfold rowV RowV preV at HT
      have HRA := hide (fun (W W' : World) hb => rows_at W W' hb k hn32)
      have HPV : Hid (.returned (ansV (k : Int)) = Ending.returned (.tuple #[.agg #[.string (tbl k).nm, .string (tbl k).sy, .string (tbl k).fn, .string (tbl k).fd, .bool (tbl k).bi], .bool true])) := by show _ = _; unfold ansV; rw [if_pos (by omega)]; rfl
      generalize (tbl k).nm = nm at *
      generalize (tbl k).sy = sy at *
      generalize (tbl k).f = f at *
      generalize (tbl k).fn = fn at *
      generalize (tbl k).fd = fd at *
      generalize (tbl k).bi = bi at *
      have HGX : Hid (w.heap.size + 1 < w4.heap.size) := (unhide HZX).lt
      go_wp2_with (first
        | (go_at_call 14; go_must (refine (rows_any _).mono ?_; rintro e w2 ⟨rfl, hw2⟩; obtain ⟨c0, c1, c2⟩ := unhide HRA w4 w2 (by rw [hw2]; exact Below.refl _ _); have HB2 : Hid (Below w4.heap.size w4 w2) := (by rw [hw2]; exact (Below.refl _ _).alloc (Nat.le_refl _) _); clear hw2))
        | (go_at_call 15; go_must (refine (unhide HT _ ((unhide HTX).later (unhide HB2))).mono ?_; rintro e w3 ⟨rfl, hb3⟩; have HB3 : Hid (Below w4.heap.size w4 w3) := (unhide HB2).trans (hb3.mono (unhide HB2).size); have HZ3 := hide ((unhide HZX).later (unhide HB3)); clear hb3; have z0 := (unhide HZ3).c0; have z1 := (unhide HZ3).c1; have z2 := (unhide HZ3).c2; have z3 := (unhide HZ3).c3; have z4 := (unhide HZ3).c4; have f0 := (unhide HZ3).f0; have f1 := (unhide HZ3).f1; have f2 := (unhide HZ3).f2; have f3 := (unhide HZ3).f3; have f4 := (unhide HZ3).f4)))
      have hS := (unhide HZ3).store (.string nm) (.string sy) (.string fn) (.string fd) (.bool bi)
      have v0 := hS.c0; have v1 := hS.c1; have v2 := hS.c2; have v3 := hS.c3; have v4 := hS.c4
      exact bodyPost_ret (v := .tuple #[.agg #[.string nm, .string sy, .string fn, .string fd, .bool bi], .bool true]) (w := store5 w3 (w.heap.size + 1) (.string nm) (.string sy) (.string fn) (.string fd) (.bool bi)) (by simp [results, Tryz.results10, go_sem, v0, v1, v2, v3, v4]) rfl ⟨_, (unhide HPV).symm, unhide HJ, below_store5 ((unhide HBW).trans ((unhide HB3).mono (unhide HBW).size)) (Nat.le_succ _) (.string nm) (.string sy) (.string fn) (.string fd) (.bool bi)⟩
    · have z0 := (unhide HZX).c0; have z1 := (unhide HZX).c1; have z2 := (unhide HZX).c2; have z3 := (unhide HZX).c3; have z4 := (unhide HZX).c4; have f0 := (unhide HZX).f0; have f1 := (unhide HZX).f1; have f2 := (unhide HZX).f2; have f3 := (unhide HZX).f3; have f4 := (unhide HZX).f4
      go_wp2_with fail
      have hS := (unhide HZX).store (.string ⟨#[]⟩) (.string ⟨#[]⟩) (.string ⟨#[]⟩) (.string ⟨#[]⟩) (.bool false)
      have v0 := hS.c0; have v1 := hS.c1; have v2 := hS.c2; have v3 := hS.c3; have v4 := hS.c4
      exact bodyPost_ret (v := .tuple #[zeroP, .bool false]) (w := store5 w4 (w.heap.size + 1) (.string ⟨#[]⟩) (.string ⟨#[]⟩) (.string ⟨#[]⟩) (.string ⟨#[]⟩) (.bool false)) (by simp [results, Tryz.results10, go_sem, v0, v1, v2, v3, v4, zeroP]) rfl ⟨-1, by unfold ansV; rw [if_neg (by decide)], unhide HJF, below_store5 (unhide HBW) (Nat.le_succ _) (.string ⟨#[]⟩) (.string ⟨#[]⟩) (.string ⟨#[]⟩) (.string ⟨#[]⟩) (.bool false)⟩
end Go.Proofs.YtannhlmcajncaaaGreatDoor

namespace Go.Proofs.YtannhlmcajncaaaGreatDoor
open Go.RowKit
theorem find_at (s : ByteArray) (hs : s.size ≤ maxLen) (j : Int) (hj : IsFirst (foundB s) j) (w : World) (htab : Tab w) : Calls Tryz.prog 10 #[.string s] w fun r w' => r = .returned (ansV j) ∧ Below w.heap.size w w' := by
  refine (find_any s hs w htab).mono ?_
  rintro e w' ⟨i, h1, h2, h3⟩
  rw [first_unique h2 hj] at h1
  exact ⟨h1, h3⟩
theorem T5.past {W V : World} {a b c d e : Value} (h : Below (W.alloc (.cells #[a, b, c, d, e] 28)).heap.size (W.alloc (.cells #[a, b, c, d, e] 28)) V) : T5 V W.heap.size a b c d e :=
  (show T5 (W.alloc (.cells #[a, b, c, d, e] 28)) W.heap.size a b c d e from ⟨by simp [go_sem], by simp [go_sem], by simp [go_sem], by simp [go_sem], by simp [go_sem], by simp [go_sem], by simp [go_sem], by simp [go_sem], by simp [go_sem], by simp [go_sem]⟩).later h
theorem kilo_first : IsFirst (foundB ⟨#[107]⟩) 2 := Or.inl ⟨2, by decide, rfl, by decide +kernel, fun i hi => by
  have h := rangeB_spec (a := 0) (n := 2) (p := fun k => !foundB ⟨#[107]⟩ k) (by decide +kernel) i (by omega) (by omega)
  simpa using h⟩
set_option maxRecDepth 100000 in
set_option maxHeartbeats 4000000 in
theorem known_any (w : World) (htab : Tab w) : Calls Tryz.prog 9 #[] w fun r w' => r = .returned (.bool true) ∧ Below w.heap.size w w' := by
  have HTW := hide htab
  have HF : Hid (∀ W, Tab W → Calls Tryz.prog 10 #[.string ⟨#[107]⟩] W fun r w' => r = .returned (.tuple #[.agg #[.string ⟨#[107, 105, 108, 111]⟩, .string ⟨#[107]⟩, .string ⟨#[49, 48, 48, 48]⟩, .string ⟨#[49]⟩, .bool false], .bool true]) ∧ Below W.heap.size W w') := fun W hW => find_at ⟨#[107]⟩ (by decide) 2 kilo_first W hW
  clear htab
  go_enter Tryz.func9, Tryz.ntmps9
  go_wp2_with (first
    | (go_at_call 10; go_must (refine (unhide HF _ (unhide HTW)).mono ?_; rintro e wa ⟨rfl, hba⟩; have HBA := hide hba; clear hba))
    | (go_at_call 6; go_must (refine (all_any _ ((unhide HTW).later (((unhide HBA).alloc (unhide HBA).size _)))).mono ?_; rintro e wc ⟨vc, rfl, hoc, hbc⟩; obtain ⟨gc, cc, rfl⟩ := Joins.ownsRow_form hoc (by decide); have HBC := hide hbc; clear hbc hoc))
    | fail)
  go_ret
  exact ⟨rfl, bel_al (unhide HBA) (unhide HBC)⟩
end Go.Proofs.YtannhlmcajncaaaGreatDoor

namespace Go.Proofs.YtannhlmcajncaaaGreatDoor
open Go.RowKit
theorem lt600 {n : Nat} (h : n < 10 ^ 40) : n < 10 ^ 600 := Nat.lt_of_lt_of_le h (le600 600 rfl)
theorem isR_low {n d : Nat} {s t : ByteArray} (hl : Cub.Low false n d) (hn : n < 10 ^ 600) (hd : d < 10 ^ 600) (hs : tb n = s) (ht : tb d = t) : IsR s t (Cub.valQ false n d) := by
  obtain ⟨e1, e2, e3⟩ := Cub.low_is hl
  obtain ⟨h1, h2, _⟩ := texts_low hl rfl hn hd
  exact ⟨⟨by rw [← e2]; exact hn, by rw [← e3]; exact hd⟩, by rw [h1, hs], by rw [h2, ht]⟩
theorem tb_1 : tb 1 = ⟨#[49]⟩ := by decide +kernel
theorem mul_inv (N : Nat) (hN : 0 < N) : Cub.valQ false N 1 * Cub.valQ false 1 N = Cub.valQ false 1 1 := by
  have h : (N : Rat) ≠ 0 := by exact_mod_cast (Nat.ne_of_gt hN)
  have e1 : (1 : Rat)⁻¹ = 1 := by decide +kernel
  have e2 : (((N : Nat) : Int) : Rat) = (N : Rat) := rfl
  simp only [Cub.valQ, Cub.sg, Rat.div_def]
  simp only [Bool.false_eq_true, if_false]
  show (((N : Nat) : Int) : Rat) * (1 : Rat)⁻¹ * ((1 : Rat) * (N : Rat)⁻¹) = (1 : Rat) * (1 : Rat)⁻¹
  rw [e1, e2, Rat.mul_one, Rat.one_mul, Rat.mul_inv_cancel _ h, Rat.mul_one]
theorem mul_one (N : Nat) (s : ByteArray) (hN : 0 < N) (hlt : N < 10 ^ 600) (hs : tb N = s) (W : World) (ht : Tab W) : Ans 11 #[.agg #[.string s, .string ⟨#[49]⟩], .agg #[.string ⟨#[49]⟩, .string s]] W ⟨#[49]⟩ ⟨#[49]⟩ 0 := by
  have l1 : Cub.Low false N 1 := ⟨by decide, Nat.gcd_one_right _, fun h => by cases h⟩
  have l2 : Cub.Low false 1 N := ⟨hN, Nat.gcd_one_left _, fun h => by cases h⟩
  have l3 : Cub.Low false 1 1 := ⟨by decide, by decide, fun h => by cases h⟩
  have h1 : (1 : Nat) < 10 ^ 600 := one_lt 600 rfl
  have h := rmul_ok s ⟨#[49]⟩ ⟨#[49]⟩ s (Cub.valQ false N 1) (Cub.valQ false 1 N) W (isR_low l1 hlt h1 hs tb_1) (isR_low l2 h1 hlt tb_1 hs) ht
  rw [mul_inv N hN] at h
  obtain ⟨k1, k2, k3⟩ := texts_low l3 rfl h1 h1
  rw [k1, k2, k3, tb_1] at h
  exact h
theorem mul_at : ∀ i, i < 12 → ∀ W, Tab W → Ans 11 #[.agg #[.string (tbl i).fn, .string (tbl i).fd], .agg #[.string (tbl (12 + i)).fn, .string (tbl (12 + i)).fd]] W ⟨#[49]⟩ ⟨#[49]⟩ 0
  | 0, _ => mul_one (10 ^ 1) _ (by decide) (lt600 (by decide)) (by decide +kernel)
  | 1, _ => mul_one (10 ^ 2) _ (by decide) (lt600 (by decide)) (by decide +kernel)
  | 2, _ => mul_one (10 ^ 3) _ (by decide) (lt600 (by decide)) (by decide +kernel)
  | 3, _ => mul_one (10 ^ 6) _ (by decide) (lt600 (by decide)) (by decide +kernel)
  | 4, _ => mul_one (10 ^ 9) _ (by decide) (lt600 (by decide)) (by decide +kernel)
  | 5, _ => mul_one (10 ^ 12) _ (by decide) (lt600 (by decide)) (by decide +kernel)
  | 6, _ => mul_one (10 ^ 15) _ (by decide) (lt600 (by decide)) (by decide +kernel)
  | 7, _ => mul_one (10 ^ 18) _ (by decide) (lt600 (by decide)) (by decide +kernel)
  | 8, _ => mul_one (10 ^ 21) _ (by decide) (lt600 (by decide)) (by decide +kernel)
  | 9, _ => mul_one (10 ^ 24) _ (by decide) (lt600 (by decide)) (by decide +kernel)
  | 10, _ => mul_one (10 ^ 27) _ (by decide) (lt600 (by decide)) (by decide +kernel)
  | 11, _ => mul_one (10 ^ 30) _ (by decide) (lt600 (by decide)) (by decide +kernel)
  | n + 12, h => absurd h (by omega)
theorem pow_up (N k : Nat) (s t : ByteArray) (j : Int) (hN : 0 < N) (hk : k ≤ 4096) (hlt : N ^ k < 10 ^ 600) (hs : tb N = s) (ht : tb (N ^ k) = t) (hj : j = (k : Int)) (hN2 : N < 10 ^ 40) (W : World) (htab : Tab W) : Ans 12 #[.agg #[.string s, .string ⟨#[49]⟩], .int .i64 j] W t ⟨#[49]⟩ 0 := by
  have l1 : Cub.Low false N 1 := ⟨by decide, Nat.gcd_one_right _, fun h => by cases h⟩
  have hx0 : Cub.valQ false N 1 ≠ 0 := fun e => by
    obtain ⟨_, e2, _⟩ := Cub.low_is l1
    rw [e] at e2
    have : N = 0 := e2
    omega
  have h := rpow_ok s ⟨#[49]⟩ (Cub.valQ false N 1) j W (isR_low l1 (lt600 hN2) (one_lt 600 rfl) hs tb_1) (by omega) (by omega) hx0 htab
  obtain ⟨k1, k2, k3⟩ := fac_pos N k j hj hlt
  rw [k1, k2, k3, tb_1, ht] at h
  exact h
theorem pow_ten : ∀ i : Nat, i < 10 → ∀ W, Tab W → Ans 12 #[.agg #[.string (tbl 2).fn, .string (tbl 2).fd], .int .i64 ((i : Int) + 1)] W (tbl (2 + i)).fn (tbl (2 + i)).fd 0
  | 0, _ => pow_up 1000 1 _ _ _ (by decide) (by decide) (lt600 (by decide)) (by decide +kernel) (by decide +kernel) rfl (by decide)
  | 1, _ => pow_up 1000 2 _ _ _ (by decide) (by decide) (lt600 (by decide)) (by decide +kernel) (by decide +kernel) rfl (by decide)
  | 2, _ => pow_up 1000 3 _ _ _ (by decide) (by decide) (lt600 (by decide)) (by decide +kernel) (by decide +kernel) rfl (by decide)
  | 3, _ => pow_up 1000 4 _ _ _ (by decide) (by decide) (lt600 (by decide)) (by decide +kernel) (by decide +kernel) rfl (by decide)
  | 4, _ => pow_up 1000 5 _ _ _ (by decide) (by decide) (lt600 (by decide)) (by decide +kernel) (by decide +kernel) rfl (by decide)
  | 5, _ => pow_up 1000 6 _ _ _ (by decide) (by decide) (lt600 (by decide)) (by decide +kernel) (by decide +kernel) rfl (by decide)
  | 6, _ => pow_up 1000 7 _ _ _ (by decide) (by decide) (lt600 (by decide)) (by decide +kernel) (by decide +kernel) rfl (by decide)
  | 7, _ => pow_up 1000 8 _ _ _ (by decide) (by decide) (lt600 (by decide)) (by decide +kernel) (by decide +kernel) rfl (by decide)
  | 8, _ => pow_up 1000 9 _ _ _ (by decide) (by decide) (lt600 (by decide)) (by decide +kernel) (by decide +kernel) rfl (by decide)
  | 9, _ => pow_up 1000 10 _ _ _ (by decide) (by decide) (lt600 (by decide)) (by decide +kernel) (by decide +kernel) rfl (by decide)
  | n + 10, h => absurd h (by omega)
theorem pow_two : ∀ i : Nat, i < 8 → ∀ W, Tab W → Ans 12 #[.agg #[.string (tbl 24).fn, .string (tbl 24).fd], .int .i64 ((i : Int) + 1)] W (tbl (24 + i)).fn (tbl (24 + i)).fd 0
  | 0, _ => pow_up 1024 1 _ _ _ (by decide) (by decide) (lt600 (by decide)) (by decide +kernel) (by decide +kernel) rfl (by decide)
  | 1, _ => pow_up 1024 2 _ _ _ (by decide) (by decide) (lt600 (by decide)) (by decide +kernel) (by decide +kernel) rfl (by decide)
  | 2, _ => pow_up 1024 3 _ _ _ (by decide) (by decide) (lt600 (by decide)) (by decide +kernel) (by decide +kernel) rfl (by decide)
  | 3, _ => pow_up 1024 4 _ _ _ (by decide) (by decide) (lt600 (by decide)) (by decide +kernel) (by decide +kernel) rfl (by decide)
  | 4, _ => pow_up 1024 5 _ _ _ (by decide) (by decide) (lt600 (by decide)) (by decide +kernel) (by decide +kernel) rfl (by decide)
  | 5, _ => pow_up 1024 6 _ _ _ (by decide) (by decide) (lt600 (by decide)) (by decide +kernel) (by decide +kernel) rfl (by decide)
  | 6, _ => pow_up 1024 7 _ _ _ (by decide) (by decide) (lt600 (by decide)) (by decide +kernel) (by decide +kernel) rfl (by decide)
  | 7, _ => pow_up 1024 8 _ _ _ (by decide) (by decide) (lt600 (by decide)) (by decide +kernel) (by decide +kernel) rfl (by decide)
  | n + 8, h => absurd h (by omega)
def firstB (s : ByteArray) (k : Nat) : Bool := foundB s k && (List.range k).all (fun i => !foundB s i)
theorem firstB_spec {s : ByteArray} {k : Nat} (h : firstB s k = true) (hk : k < 32) : IsFirst (foundB s) (k : Int) := by
  simp only [firstB, Bool.and_eq_true] at h
  refine Or.inl ⟨k, hk, rfl, h.1, fun i hi => ?_⟩
  have := List.all_eq_true.1 h.2 i (by simpa using hi)
  simpa using this
theorem name_first (k : Nat) (hk : k < 32) : IsFirst (foundB (tbl k).nm) (k : Int) ∧ IsFirst (foundB (tbl k).sy) (k : Int) ∧ (tbl k).nm.size ≤ maxLen := by
  have h := rangeB_spec (a := 0) (n := 32) (p := fun k => firstB (tbl k).nm k && firstB (tbl k).sy k && decide ((tbl k).nm.size ≤ 10)) (by decide +kernel) k (by omega) (by omega)
  simp only [Bool.and_eq_true, decide_eq_true_eq] at h
  exact ⟨firstB_spec h.1.1 hk, firstB_spec h.1.2 hk, by unfold maxLen; omega⟩
end Go.Proofs.YtannhlmcajncaaaGreatDoor

/- PrefixFinds answers true. -/
import Derived.Test.YtannhlmcajncaaaGreatDoorSymMath
namespace Go.Proofs.YtannhlmcajncaaaGreatDoor
open Go.RowKit Go.Maps Go.ChangeMaps Go.WideMaps
/-- What both finds answer at the first that is found. -/
def ansV (j : Int) : Value := if 0 ≤ j then .tuple #[preV j.toNat, .bool true] else .tuple #[zeroP, .bool false]
set_option maxRecDepth 100000 in
set_option maxHeartbeats 4000000 in
theorem find_any (s : ByteArray) (hs : s.size ≤ maxLen) (w : World) (htab : Tab w) : Calls Tryz.prog 10 #[.string s] w fun r w' => ∃ j : Int, r = .returned (ansV j) ∧ IsFirst (foundB s) j ∧ Below w.heap.size w w' := by
  have HTW := hide htab
  have HSY := hide (fun W => symbols_look s hs W)
  have HQ : Hid ((symH s = true ∧ ∃ n : Nat, n < 32 ∧ symC s = (n : Int) ∧ IsFirst (foundB s) (n : Int)) ∨ (symH s = false ∧ ∀ k, k < 32 → foundB s k = nameB s k)) := by
    by_cases h : symH s = true
    · exact Or.inl ⟨h, find_yes s h⟩
    · have h2 : symH s = false := by simpa using h
      exact Or.inr ⟨h2, find_not s h2⟩
  clear htab
  obtain ⟨V, hV⟩ : ∃ V, V = (w.alloc (.cells #[.string s] 9)).alloc (.cells #[.string ⟨#[]⟩, .string ⟨#[]⟩, .string ⟨#[]⟩, .string ⟨#[]⟩, .bool false] 28) := ⟨_, rfl⟩
  have HBX : Hid (V.cell? ⟨w.heap.size, 0, none⟩ = some (.string s) ∧ w.heap.size < V.heap.size) := by rw [hV]; exact ⟨by simp [go_sem], by simp; omega⟩
  have HZV : Hid (T5 V (w.heap.size + 1) (.string ⟨#[]⟩) (.string ⟨#[]⟩) (.string ⟨#[]⟩) (.string ⟨#[]⟩) (.bool false)) := by rw [hV]; exact ⟨by simp [go_sem], by simp [go_sem], by simp [go_sem], by simp [go_sem], by simp [go_sem], by simp [go_sem], by simp [go_sem], by simp [go_sem], by simp [go_sem], by simp [go_sem]⟩
  have HBV : Hid (Below w.heap.size w V) := by rw [hV]; exact ((Below.refl _ _).alloc (Nat.le_refl _) _).alloc (by simp) _
  have HV := hide hV
  clear hV
  go_enter Tryz.func10, Tryz.ntmps10
  go_upto_region 1 with fail
  rw [← unhide HV]
  clear HV
  have t0 := (unhide HBX).1
  rcases unhide HQ with ⟨hH, n, hn32, hC, hJ⟩ | ⟨hH, hE⟩
  · rw [hH, hC] at HSY
    have HJ := hide hJ
    clear HQ hH hC hJ
    go_region_held3 (fun w' => w'.cell? ⟨w.heap.size, 0, none⟩ = some (.string s)) (first | assumption | (simp [go_sem, *]; done)) ((first
    | (go_at_call 18; go_must (refine (unhide HSY _).mono ?_; rintro e w1 ⟨rfl, hlk, hb1⟩; have HW1 : Hid (Below V.heap.size V w1) := (Below.refl _ _).drew.trans (hb1.mono (Below.refl V.heap.size V).drew.size); have hlk2 : (Instr.lookup 49 (.map (some V.heap.size)) (.string s) true).run Tryz.prog w1 = .ok (.tuple #[.int .i64 (n : Int), .bool true]) w1 := hlk; clear hlk hb1 t0; have t0 : w1.cell? ⟨w.heap.size, 0, none⟩ = some (.string s) := ((unhide HW1).cell (p := ⟨w.heap.size, 0, none⟩) (unhide HBX).2).trans (unhide HBX).1))))
    have hn0 : (0 : Int) ≤ (n : Int) := by omega
    have hnI : (n : Int) < 32 := by omega
    have HBW : Hid (Below w.heap.size w w1) := (unhide HBV).trans ((unhide HW1).mono (unhide HBV).size)
    have HTX : Hid (Tab w1) := (unhide HTW).later (unhide HBW)
    have HZX := hide ((unhide HZV).later (unhide HW1))
    have HT := hide (fun W (ht : Tab W) => told_any n hn32 W ht)
    unfold rowV RowV preV at HT
    have HRA := hide (fun (W W' : World) hb => rows_at W W' hb n hn32)
    have HPV : Hid (.returned (ansV (n : Int)) = Ending.returned (.tuple #[.agg #[.string (tbl n).nm, .string (tbl n).sy, .string (tbl n).fn, .string (tbl n).fd, .bool (tbl n).bi], .bool true])) := by show _ = _; unfold ansV; rw [if_pos (by omega)]; rfl
    generalize (tbl n).nm = nm at *
    generalize (tbl n).sy = sy at *
    generalize (tbl n).f = f at *
    generalize (tbl n).fn = fn at *
    generalize (tbl n).fd = fd at *
    generalize (tbl n).bi = bi at *
    have HGX : Hid (w.heap.size + 1 < w1.heap.size) := (unhide HZX).lt
    go_wp2_with (first
      | (go_at_call 14; go_must (refine (rows_any _).mono ?_; rintro e w2 ⟨rfl, hw2⟩; obtain ⟨c0, c1, c2⟩ := unhide HRA w1 w2 (by rw [hw2]; exact Below.refl _ _); have HB2 : Hid (Below w1.heap.size w1 w2) := (by rw [hw2]; exact (Below.refl _ _).alloc (Nat.le_refl _) _); clear hw2))
      | (go_at_call 15; go_must (refine (unhide HT _ ((unhide HTX).later (unhide HB2))).mono ?_; rintro e w3 ⟨rfl, hb3⟩; have HB3 : Hid (Below w1.heap.size w1 w3) := (unhide HB2).trans (hb3.mono (unhide HB2).size); have HZ3 := hide ((unhide HZX).later (unhide HB3)); clear hb3; have z0 := (unhide HZ3).c0; have z1 := (unhide HZ3).c1; have z2 := (unhide HZ3).c2; have z3 := (unhide HZ3).c3; have z4 := (unhide HZ3).c4; have f0 := (unhide HZ3).f0; have f1 := (unhide HZ3).f1; have f2 := (unhide HZ3).f2; have f3 := (unhide HZ3).f3; have f4 := (unhide HZ3).f4)))
    have hS := (unhide HZ3).store (.string nm) (.string sy) (.string fn) (.string fd) (.bool bi)
    have v0 := hS.c0; have v1 := hS.c1; have v2 := hS.c2; have v3 := hS.c3; have v4 := hS.c4
    exact bodyPost_ret (v := .tuple #[.agg #[.string nm, .string sy, .string fn, .string fd, .bool bi], .bool true]) (w := store5 w3 (w.heap.size + 1) (.string nm) (.string sy) (.string fn) (.string fd) (.bool bi)) (by simp [results, Tryz.results10, go_sem, v0, v1, v2, v3, v4]) rfl ⟨_, (unhide HPV).symm, unhide HJ, below_store5 ((unhide HBW).trans ((unhide HB3).mono (unhide HBW).size)) (Nat.le_succ _) (.string nm) (.string sy) (.string fn) (.string fd) (.bool bi)⟩
  · rw [hH] at HSY
    generalize symC s = c at *
    clear HQ hH
    have HE := hide hE
    clear hE
    go_region_held3 (fun w' => w'.cell? ⟨w.heap.size, 0, none⟩ = some (.string s)) (first | assumption | (simp [go_sem, *]; done)) ((first
    | (go_at_call 18; go_must (refine (unhide HSY _).mono ?_; rintro e w1 ⟨rfl, hlk, hb1⟩; have HW1 : Hid (Below V.heap.size V w1) := (Below.refl _ _).drew.trans (hb1.mono (Below.refl V.heap.size V).drew.size); have hlk2 : (Instr.lookup 49 (.map (some V.heap.size)) (.string s) true).run Tryz.prog w1 = .ok (.tuple #[.int .i64 c, .bool false]) w1 := hlk; clear hlk hb1 t0; have t0 : w1.cell? ⟨w.heap.size, 0, none⟩ = some (.string s) := ((unhide HW1).cell (p := ⟨w.heap.size, 0, none⟩) (unhide HBX).2).trans (unhide HBX).1))))
    have HBW1 : Hid (Below w.heap.size w w1) := (unhide HBV).trans ((unhide HW1).mono (unhide HBV).size)
    have HZ1 := hide ((unhide HZV).later (unhide HW1))
    have HIX : Hid (∀ W, W = w1.alloc (.cells rowsArr 41) → Calls Tryz.prog 19 #[.slice (some ⟨w1.heap.size, 0, none⟩) 32 32, .func (.func 20) #[] #[.pointer (some ⟨w.heap.size, 0, none⟩)]] W fun r w' => ∃ j : Int, r = .returned (.int .i64 j) ∧ IsFirst (nameB s) j ∧ Below w1.heap.size w1 w') := by
      intro W hW
      have hb : Below w1.heap.size w1 W := by rw [hW]; exact (Below.refl _ _).alloc (Nat.le_refl _) _
      have hl : w.heap.size < w1.heap.size := Nat.lt_of_lt_of_le (unhide HBX).2 (unhide HW1).size
      refine (index_any s w1.heap.size w.heap.size W (by rw [hW]; exact rowsIn_made w1) (by rw [hW]; simp) ((hb.cell (p := ⟨w.heap.size, 0, none⟩) hl).trans t0) (Nat.lt_of_lt_of_le hl hb.size)).mono ?_
      rintro e w' ⟨j, h1, h2, h3⟩
      exact ⟨j, h1, h2, hb.trans (h3.mono hb.size)⟩
    go_upto_region 4 with (first
      | (go_at_call 14; go_must (refine (rows_any _).mono ?_; rintro e w2 ⟨rfl, hw2⟩; have HW2 := hide hw2; clear hw2))
      | (go_at_call 19; go_must (refine (unhide HIX _ (unhide HW2)).mono ?_; rintro e w4 ⟨j, rfl, hj, hb4⟩; have HJ4 := hide hj; have HB4 := hide hb4; clear hj hb4)))
    have HBW : Hid (Below w.heap.size w w4) := (unhide HBW1).trans ((unhide HB4).mono (unhide HBW1).size)
    have HTX : Hid (Tab w4) := (unhide HTW).later (unhide HBW)
    have HZX := hide ((unhide HZ1).later (unhide HB4))
    have HJF := hide (isFirst_congr (unhide HJ4) (unhide HE))
    clear HW2 HIX HE HB4 HZ1 t0 hlk2
    rcases unhide HJ4 with ⟨k, hn32, rfl, -, -⟩ | ⟨rfl, -⟩
    · have hn0 : (0 : Int) ≤ (k : Int) := by omega
      have hnI : (k : Int) < 32 := by omega
      have HJ := HJF
      clear HJ4 HJF
      have HT := hide (fun W (ht : Tab W) => told_any k hn32 W ht)
      unfold rowV RowV preV at HT
      have HRA := hide (fun (W W' : World) hb => rows_at W W' hb k hn32)
      have HPV : Hid (.returned (ansV (k : Int)) = Ending.returned (.tuple #[.agg #[.string (tbl k).nm, .string (tbl k).sy, .string (tbl k).fn, .string (tbl k).fd, .bool (tbl k).bi], .bool true])) := by show _ = _; unfold ansV; rw [if_pos (by omega)]; rfl
      generalize (tbl k).nm = nm at *
      generalize (tbl k).sy = sy at *
      generalize (tbl k).f = f at *
      generalize (tbl k).fn = fn at *
      generalize (tbl k).fd = fd at *
      generalize (tbl k).bi = bi at *
      have HGX : Hid (w.heap.size + 1 < w4.heap.size) := (unhide HZX).lt
      go_wp2_with (first
        | (go_at_call 14; go_must (refine (rows_any _).mono ?_; rintro e w2 ⟨rfl, hw2⟩; obtain ⟨c0, c1, c2⟩ := unhide HRA w4 w2 (by rw [hw2]; exact Below.refl _ _); have HB2 : Hid (Below w4.heap.size w4 w2) := (by rw [hw2]; exact (Below.refl _ _).alloc (Nat.le_refl _) _); clear hw2))
        | (go_at_call 15; go_must (refine (unhide HT _ ((unhide HTX).later (unhide HB2))).mono ?_; rintro e w3 ⟨rfl, hb3⟩; have HB3 : Hid (Below w4.heap.size w4 w3) := (unhide HB2).trans (hb3.mono (unhide HB2).size); have HZ3 := hide ((unhide HZX).later (unhide HB3)); clear hb3; have z0 := (unhide HZ3).c0; have z1 := (unhide HZ3).c1; have z2 := (unhide HZ3).c2; have z3 := (unhide HZ3).c3; have z4 := (unhide HZ3).c4; have f0 := (unhide HZ3).f0; have f1 := (unhide HZ3).f1; have f2 := (unhide HZ3).f2; have f3 := (unhide HZ3).f3; have f4 := (unhide HZ3).f4)))
      have hS := (unhide HZ3).store (.string nm) (.string sy) (.string fn) (.string fd) (.bool bi)
      have v0 := hS.c0; have v1 := hS.c1; have v2 := hS.c2; have v3 := hS.c3; have v4 := hS.c4
      exact bodyPost_ret (v := .tuple #[.agg #[.string nm, .string sy, .string fn, .string fd, .bool bi], .bool true]) (w := store5 w3 (w.heap.size + 1) (.string nm) (.string sy) (.string fn) (.string fd) (.bool bi)) (by simp [results, Tryz.results10, go_sem, v0, v1, v2, v3, v4]) rfl ⟨_, (unhide HPV).symm, unhide HJ, below_store5 ((unhide HBW).trans ((unhide HB3).mono (unhide HBW).size)) (Nat.le_succ _) (.string nm) (.string sy) (.string fn) (.string fd) (.bool bi)⟩
    · have z0 := (unhide HZX).c0; have z1 := (unhide HZX).c1; have z2 := (unhide HZX).c2; have z3 := (unhide HZX).c3; have z4 := (unhide HZX).c4; have f0 := (unhide HZX).f0; have f1 := (unhide HZX).f1; have f2 := (unhide HZX).f2; have f3 := (unhide HZX).f3; have f4 := (unhide HZX).f4
      go_wp2_with fail
      have hS := (unhide HZX).store (.string ⟨#[]⟩) (.string ⟨#[]⟩) (.string ⟨#[]⟩) (.string ⟨#[]⟩) (.bool false)
      have v0 := hS.c0; have v1 := hS.c1; have v2 := hS.c2; have v3 := hS.c3; have v4 := hS.c4
      exact bodyPost_ret (v := .tuple #[zeroP, .bool false]) (w := store5 w4 (w.heap.size + 1) (.string ⟨#[]⟩) (.string ⟨#[]⟩) (.string ⟨#[]⟩) (.string ⟨#[]⟩) (.bool false)) (by simp [results, Tryz.results10, go_sem, v0, v1, v2, v3, v4, zeroP]) rfl ⟨-1, by unfold ansV; rw [if_neg (by decide)], unhide HJF, below_store5 (unhide HBW) (Nat.le_succ _) (.string ⟨#[]⟩) (.string ⟨#[]⟩) (.string ⟨#[]⟩) (.string ⟨#[]⟩) (.bool false)⟩
end Go.Proofs.YtannhlmcajncaaaGreatDoor

namespace Go.Proofs.YtannhlmcajncaaaGreatDoor
open Go.RowKit
theorem first_exists (p : Nat → Bool) : ∃ j, IsFirst p j := by
  have h : ∀ n, n ≤ 32 → (∃ k : Nat, k < n ∧ p k = true ∧ ∀ i, i < k → p i = false) ∨ (∀ i, i < n → p i = false) := by
    intro n
    induction n with
    | zero => intro _; exact Or.inr fun i hi => absurd hi (by omega)
    | succ n ih =>
      intro hn
      rcases ih (by omega) with ⟨k, hk, h1, h2⟩ | h2
      · exact Or.inl ⟨k, by omega, h1, h2⟩
      · by_cases hp : p n = true
        · exact Or.inl ⟨n, by omega, hp, h2⟩
        · exact Or.inr (none_succ h2 (by simpa using hp))
  rcases h 32 (by omega) with ⟨k, hk, h1, h2⟩ | h2
  · exact ⟨k, Or.inl ⟨k, hk, rfl, h1, h2⟩⟩
  · exact ⟨-1, Or.inr ⟨rfl, h2⟩⟩
theorem find_at (s : ByteArray) (hs : s.size ≤ maxLen) (j : Int) (hj : IsFirst (foundB s) j) (w : World) (htab : Tab w) : Calls Tryz.prog 10 #[.string s] w fun r w' => r = .returned (ansV j) ∧ Below w.heap.size w w' := by
  refine (find_any s hs w htab).mono ?_
  rintro e w' ⟨i, h1, h2, h3⟩
  rw [first_unique h2 hj] at h1
  exact ⟨h1, h3⟩
theorem refFind_at (s : ByteArray) (j : Int) (hj : IsFirst (foundB s) j) (w : World) : Calls Tryz.prog 13 #[.string s] w fun r w' => r = .returned (ansV j) ∧ Below w.heap.size w w' := by
  refine (refFind_any s w).mono ?_
  rintro e w' ⟨i, h1, h2, h3⟩
  rw [first_unique h2 hj] at h1
  exact ⟨h1, h3⟩
theorem ansV_form (j : Int) : ∃ (nm sy fn fd : ByteArray) (bi b : Bool), ansV j = .tuple #[.agg #[.string nm, .string sy, .string fn, .string fd, .bool bi], .bool b] := by
  unfold ansV
  split
  · exact ⟨_, _, _, _, _, _, rfl⟩
  · exact ⟨_, _, _, _, _, _, rfl⟩
theorem T5.past {W V : World} {a b c d e : Value} (h : Below (W.alloc (.cells #[a, b, c, d, e] 28)).heap.size (W.alloc (.cells #[a, b, c, d, e] 28)) V) : T5 V W.heap.size a b c d e :=
  (show T5 (W.alloc (.cells #[a, b, c, d, e] 28)) W.heap.size a b c d e from ⟨by simp [go_sem], by simp [go_sem], by simp [go_sem], by simp [go_sem], by simp [go_sem], by simp [go_sem], by simp [go_sem], by simp [go_sem], by simp [go_sem], by simp [go_sem]⟩).later h
theorem kilo_first : IsFirst (foundB ⟨#[107]⟩) 2 := Or.inl ⟨2, by decide, rfl, by decide +kernel, fun i hi => by
  have h := rangeB_spec (a := 0) (n := 2) (p := fun k => !foundB ⟨#[107]⟩ k) (by decide +kernel) i (by omega) (by omega)
  simpa using h⟩
set_option maxRecDepth 100000 in
set_option maxHeartbeats 4000000 in
theorem known_any (w : World) (htab : Tab w) : Calls Tryz.prog 9 #[] w fun r w' => r = .returned (.bool true) ∧ Below w.heap.size w w' := by
  have HTW := hide htab
  have HF : Hid (∀ W, Tab W → Calls Tryz.prog 10 #[.string ⟨#[107]⟩] W fun r w' => r = .returned (.tuple #[.agg #[.string ⟨#[107, 105, 108, 111]⟩, .string ⟨#[107]⟩, .string ⟨#[49, 48, 48, 48]⟩, .string ⟨#[49]⟩, .bool false], .bool true]) ∧ Below W.heap.size W w') := fun W hW => find_at ⟨#[107]⟩ (by decide) 2 kilo_first W hW
  clear htab
  go_enter Tryz.func9, Tryz.ntmps9
  go_wp2_with (first
    | (go_at_call 10; go_must (refine (unhide HF _ (unhide HTW)).mono ?_; rintro e wa ⟨rfl, hba⟩; have HBA := hide hba; clear hba))
    | (go_at_call 6; go_must (refine (all_any _ ((unhide HTW).later (((unhide HBA).alloc (unhide HBA).size _)))).mono ?_; rintro e wc ⟨vc, rfl, hoc, hbc⟩; obtain ⟨gc, cc, rfl⟩ := Joins.ownsRow_form hoc (by decide); have HBC := hide hbc; clear hbc hoc))
    | fail)
  go_ret
  exact ⟨rfl, bel_al (unhide HBA) (unhide HBC)⟩
set_option maxRecDepth 100000 in
set_option maxHeartbeats 4000000 in
theorem finds_any (s : ByteArray) (hs : s.size ≤ maxLen) (w : World) (htab : Tab w) : Calls Tryz.prog 5 #[.string s] w fun r w' => r = .returned (.bool true) ∧ Below w.heap.size w w' := by
  have HTW := hide htab
  obtain ⟨j, hj⟩ := first_exists (foundB s)
  have HF := hide (fun W hW => find_at s hs j hj W hW)
  have HD := hide (fun W => refFind_at s j hj W)
  clear htab
  obtain ⟨nm, sy, fn, fd, bi, b, e⟩ := ansV_form j
  rw [e] at HF HD
  clear e hj
  go_enter Tryz.func5, Tryz.ntmps5
  go_wp2_with (first
    | (go_at_call 10; go_must (refine (unhide HF _ (unhide HTW)).mono ?_; rintro e wa ⟨rfl, hba⟩; have HBA := hide hba; clear hba))
    | (go_at_call 13; go_must (refine (unhide HD _).mono ?_; rintro e wb ⟨rfl, hbb⟩; have HT := hide (T5.past hbb); have HBB : Hid (Below w.heap.size w wb) := bel_al (unhide HBA) hbb; clear hbb; have t0 := (unhide HT).c0; have t1 := (unhide HT).c1; have t2 := (unhide HT).c2; have t3 := (unhide HT).c3; have t4 := (unhide HT).c4; have hlt := (unhide HT).lt))
    | (go_at_call 9; go_must (refine (known_any _ ((unhide HTW).later (((unhide HBB).alloc (unhide HBB).size _)))).mono ?_; rintro e wc ⟨rfl, hbc⟩; have HBC : Hid (Below w.heap.size w wc) := bel_al (unhide HBB) hbc; clear hbc))
    | fail)
  go_ret
  exact ⟨rfl, unhide HBC⟩
end Go.Proofs.YtannhlmcajncaaaGreatDoor

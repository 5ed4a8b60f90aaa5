/- BaseStands answers true. -/
import Derived.Test.YtbjafaojcaafmaaGreatDoorUnits
import Derived.Test.YtbjafaojcaafmaaGreatDoorUnit2
import Derived.Deep.Onto
import Derived.ChangeKeysEq
import Derived.Laws.StructEq
import Derived.BigQuiet
namespace Go.Proofs.YtbjafaojcaafmaaGreatDoor
open Go.RowKit Go.Maps Go.ChangeMaps Go.WideMaps
structure Sc where
  nm : ByteArray
  sy : ByteArray
  fn : ByteArray
  fd : ByteArray
  d0 : Int
  d1 : Int
  d2 : Int
  d3 : Int
  d4 : Int
  d5 : Int
  d6 : Int
  d7 : Int
  tk : Int
  f : Nat
def sct : Nat → Sc
  | 0 => ⟨⟨#[98, 105, 116]⟩, ⟨#[98]⟩, ⟨#[49]⟩, ⟨#[49]⟩, 0, 0, 0, 0, 0, 0, 0, 1, 3, 13⟩
  | 1 => ⟨⟨#[109, 111, 108, 101]⟩, ⟨#[109, 111, 108]⟩, ⟨#[49]⟩, ⟨#[49]⟩, 0, 0, 0, 0, 0, 1, 0, 0, 1, 14⟩
  | 2 => ⟨⟨#[115, 101, 99, 111, 110, 100]⟩, ⟨#[115]⟩, ⟨#[49]⟩, ⟨#[49]⟩, 0, 0, 1, 0, 0, 0, 0, 0, 1, 15⟩
  | 3 => ⟨⟨#[97, 109, 112, 101, 114, 101]⟩, ⟨#[65]⟩, ⟨#[49]⟩, ⟨#[49]⟩, 0, 0, 0, 1, 0, 0, 0, 0, 1, 16⟩
  | 4 => ⟨⟨#[109, 101, 116, 114, 101]⟩, ⟨#[109]⟩, ⟨#[49]⟩, ⟨#[49]⟩, 1, 0, 0, 0, 0, 0, 0, 0, 1, 17⟩
  | 5 => ⟨⟨#[103, 114, 97, 109]⟩, ⟨#[103]⟩, ⟨#[49]⟩, ⟨#[49, 48, 48, 48]⟩, 0, 1, 0, 0, 0, 0, 0, 0, 1, 18⟩
  | 6 => ⟨⟨#[99, 97, 110, 100, 101, 108, 97]⟩, ⟨#[99, 100]⟩, ⟨#[49]⟩, ⟨#[49]⟩, 0, 0, 0, 0, 0, 0, 1, 0, 1, 19⟩
  | _ => ⟨⟨#[107, 101, 108, 118, 105, 110]⟩, ⟨#[75]⟩, ⟨#[49]⟩, ⟨#[49]⟩, 0, 0, 0, 0, 1, 0, 0, 0, 1, 20⟩
def uOf (s : Sc) : Array Value := #[.string s.nm, .string s.sy, .int .i64 s.d0, .int .i64 s.d1, .int .i64 s.d2, .int .i64 s.d3, .int .i64 s.d4, .int .i64 s.d5, .int .i64 s.d6, .int .i64 s.d7, .string s.fn, .string s.fd, .string ⟨#[48]⟩, .string ⟨#[49]⟩, .int .i64 s.tk]
theorem told_sc : ∀ k, k < 8 → ∀ W, Tab W → Calls Tryz.prog 11 #[.agg #[.string (sct k).nm, .string (sct k).sy, .int .i64 (sct k).tk, .func (.func (sct k).f) #[] #[]]] W fun r w' => r = .returned (.agg (uOf (sct k))) ∧ Below W.heap.size W w'
  | 0, _ => fun W ht => told_0 W ht
  | 1, _ => fun W ht => told_1 W ht
  | 2, _ => fun W ht => told_2 W ht
  | 3, _ => fun W ht => told_3 W ht
  | 4, _ => fun W ht => told_4 W ht
  | 5, _ => fun W ht => told_5 W ht
  | 6, _ => fun W ht => told_6 W ht
  | 7, _ => fun W ht => told_7 W ht
  | n + 8, h => absurd h (by omega)
theorem isR_nil : IsR ⟨#[48]⟩ ⟨#[49]⟩ 0 := isR_lit2 _ _ 0 1 _ (by decide +kernel) (by decide +kernel) (by decide +kernel) (by decide) (by decide) (by decide) (by decide) (by decide) (by decide)
theorem dim37 (d0 d1 d2 d3 d4 d5 d6 d7 : Int) (h : Dm.rightB [d0, d1, d2, d3, d4, d5, d6, d7] = true) (W : World) : Calls Tryz.prog 37 #[.agg #[.int .i64 d0, .int .i64 d1, .int .i64 d2, .int .i64 d3, .int .i64 d4, .int .i64 d5, .int .i64 d6, .int .i64 d7]] W fun r w' => r = .returned (.bool true) ∧ Below W.heap.size W w' :=
  (Dm.right_any d0 d1 d2 d3 d4 d5 d6 d7 W).mono (by
    rintro e w' ⟨rfl, rfl⟩
    exact ⟨by rw [h], (Below.refl _ _).alloc (Nat.le_refl _) _⟩)
theorem name46 (s : ByteArray) (h : Nm.Lg s 0 0 [] s.data.toList s.size) (h0 : s.size ≠ 0) (h40 : s.size ≤ 40) (hin : s.data.toList ≠ [105, 110]) : ∀ W : World, Calls Tryz.prog 46 #[.string s] W fun r w' => r = .returned (.bool true) ∧ Below W.heap.size W w' := fun W => nameRight s W h h0 h40 hin
theorem right_0 (W : World) (ht : Tab W) : Calls Tryz.prog 23 #[.agg (uOf (sct 0))] W fun r w' => r = .returned (.bool true) ∧ Below W.heap.size W w' :=
  rightUnit_any _ _ _ _ _ _ _ _ _ _ _ _ _ _ _ W (fun V _ => rightNames_any _ _ V (name46 _ lg_bit (by decide) (by decide) (by decide)) (name46 _ lg_b (by decide) (by decide) (by decide)))
    (fun V _ => dim37 _ _ _ _ _ _ _ _ (by decide) V) (fun V _ => above_any _ _ _ V isR_one (by decide +kernel)) (fun V _ => ratRight_ok _ _ _ V isR_nil) (fun V hV => rightTakes_3 _ _ _ _ _ _ _ _ _ _ _ _ V (ht.later hV))
theorem right_1 (W : World) (ht : Tab W) : Calls Tryz.prog 23 #[.agg (uOf (sct 1))] W fun r w' => r = .returned (.bool true) ∧ Below W.heap.size W w' :=
  rightUnit_any _ _ _ _ _ _ _ _ _ _ _ _ _ _ _ W (fun V _ => rightNames_any _ _ V (name46 _ lg_mole (by decide) (by decide) (by decide)) (name46 _ lg_mol (by decide) (by decide) (by decide)))
    (fun V _ => dim37 _ _ _ _ _ _ _ _ (by decide) V) (fun V _ => above_any _ _ _ V isR_one (by decide +kernel)) (fun V _ => ratRight_ok _ _ _ V isR_nil) (fun V hV => rightTakes_1 _ _ _ _ _ _ _ _ _ _ _ _ V (ht.later hV))
theorem right_2 (W : World) (ht : Tab W) : Calls Tryz.prog 23 #[.agg (uOf (sct 2))] W fun r w' => r = .returned (.bool true) ∧ Below W.heap.size W w' :=
  rightUnit_any _ _ _ _ _ _ _ _ _ _ _ _ _ _ _ W (fun V _ => rightNames_any _ _ V (name46 _ lg_second (by decide) (by decide) (by decide)) (name46 _ lg_s (by decide) (by decide) (by decide)))
    (fun V _ => dim37 _ _ _ _ _ _ _ _ (by decide) V) (fun V _ => above_any _ _ _ V isR_one (by decide +kernel)) (fun V _ => ratRight_ok _ _ _ V isR_nil) (fun V hV => rightTakes_1 _ _ _ _ _ _ _ _ _ _ _ _ V (ht.later hV))
theorem right_3 (W : World) (ht : Tab W) : Calls Tryz.prog 23 #[.agg (uOf (sct 3))] W fun r w' => r = .returned (.bool true) ∧ Below W.heap.size W w' :=
  rightUnit_any _ _ _ _ _ _ _ _ _ _ _ _ _ _ _ W (fun V _ => rightNames_any _ _ V (name46 _ lg_ampere (by decide) (by decide) (by decide)) (name46 _ lg_A (by decide) (by decide) (by decide)))
    (fun V _ => dim37 _ _ _ _ _ _ _ _ (by decide) V) (fun V _ => above_any _ _ _ V isR_one (by decide +kernel)) (fun V _ => ratRight_ok _ _ _ V isR_nil) (fun V hV => rightTakes_1 _ _ _ _ _ _ _ _ _ _ _ _ V (ht.later hV))
theorem right_4 (W : World) (ht : Tab W) : Calls Tryz.prog 23 #[.agg (uOf (sct 4))] W fun r w' => r = .returned (.bool true) ∧ Below W.heap.size W w' :=
  rightUnit_any _ _ _ _ _ _ _ _ _ _ _ _ _ _ _ W (fun V _ => rightNames_any _ _ V (name46 _ lg_metre (by decide) (by decide) (by decide)) (name46 _ lg_m (by decide) (by decide) (by decide)))
    (fun V _ => dim37 _ _ _ _ _ _ _ _ (by decide) V) (fun V _ => above_any _ _ _ V isR_one (by decide +kernel)) (fun V _ => ratRight_ok _ _ _ V isR_nil) (fun V hV => rightTakes_1 _ _ _ _ _ _ _ _ _ _ _ _ V (ht.later hV))
theorem right_5 (W : World) (ht : Tab W) : Calls Tryz.prog 23 #[.agg (uOf (sct 5))] W fun r w' => r = .returned (.bool true) ∧ Below W.heap.size W w' :=
  rightUnit_any _ _ _ _ _ _ _ _ _ _ _ _ _ _ _ W (fun V _ => rightNames_any _ _ V (name46 _ lg_gram (by decide) (by decide) (by decide)) (name46 _ lg_g (by decide) (by decide) (by decide)))
    (fun V _ => dim37 _ _ _ _ _ _ _ _ (by decide) V) (fun V _ => above_any _ _ _ V isR_milli (by decide +kernel)) (fun V _ => ratRight_ok _ _ _ V isR_nil) (fun V hV => rightTakes_1 _ _ _ _ _ _ _ _ _ _ _ _ V (ht.later hV))
theorem right_6 (W : World) (ht : Tab W) : Calls Tryz.prog 23 #[.agg (uOf (sct 6))] W fun r w' => r = .returned (.bool true) ∧ Below W.heap.size W w' :=
  rightUnit_any _ _ _ _ _ _ _ _ _ _ _ _ _ _ _ W (fun V _ => rightNames_any _ _ V (name46 _ lg_candela (by decide) (by decide) (by decide)) (name46 _ lg_cd (by decide) (by decide) (by decide)))
    (fun V _ => dim37 _ _ _ _ _ _ _ _ (by decide) V) (fun V _ => above_any _ _ _ V isR_one (by decide +kernel)) (fun V _ => ratRight_ok _ _ _ V isR_nil) (fun V hV => rightTakes_1 _ _ _ _ _ _ _ _ _ _ _ _ V (ht.later hV))
theorem right_7 (W : World) (ht : Tab W) : Calls Tryz.prog 23 #[.agg (uOf (sct 7))] W fun r w' => r = .returned (.bool true) ∧ Below W.heap.size W w' :=
  rightUnit_any _ _ _ _ _ _ _ _ _ _ _ _ _ _ _ W (fun V _ => rightNames_any _ _ V (name46 _ lg_kelvin (by decide) (by decide) (by decide)) (name46 _ lg_K (by decide) (by decide) (by decide)))
    (fun V _ => dim37 _ _ _ _ _ _ _ _ (by decide) V) (fun V _ => above_any _ _ _ V isR_one (by decide +kernel)) (fun V _ => ratRight_ok _ _ _ V isR_nil) (fun V hV => rightTakes_1 _ _ _ _ _ _ _ _ _ _ _ _ V (ht.later hV))
theorem right_sc : ∀ k, k < 8 → ∀ W, Tab W → Calls Tryz.prog 23 #[.agg (uOf (sct k))] W fun r w' => r = .returned (.bool true) ∧ Below W.heap.size W w'
  | 0, _ => fun W ht => right_0 W ht
  | 1, _ => fun W ht => right_1 W ht
  | 2, _ => fun W ht => right_2 W ht
  | 3, _ => fun W ht => right_3 W ht
  | 4, _ => fun W ht => right_4 W ht
  | 5, _ => fun W ht => right_5 W ht
  | 6, _ => fun W ht => right_6 W ht
  | 7, _ => fun W ht => right_7 W ht
  | n + 8, h => absurd h (by omega)
def DD : Nat → DataW Unit
  | 0 => .map []
  | k + 1 => ((DD k).put (.string (sct k).nm.data.toList) (.lit (.bool true))).put (.string (sct k).sy.data.toList) (.lit (.bool true))
theorem has_nm : ∀ k, k < 8 → Maps.has (DD k) (.string (sct k).nm.data.toList) = false
  | 0, _ => by kernel_rfl
  | 1, _ => by kernel_rfl
  | 2, _ => by kernel_rfl
  | 3, _ => by kernel_rfl
  | 4, _ => by kernel_rfl
  | 5, _ => by kernel_rfl
  | 6, _ => by kernel_rfl
  | 7, _ => by kernel_rfl
  | n + 8, h => absurd h (by omega)
theorem has_sy : ∀ k, k < 8 → Maps.has (DD k) (.string (sct k).sy.data.toList) = false
  | 0, _ => by kernel_rfl
  | 1, _ => by kernel_rfl
  | 2, _ => by kernel_rfl
  | 3, _ => by kernel_rfl
  | 4, _ => by kernel_rfl
  | 5, _ => by kernel_rfl
  | 6, _ => by kernel_rfl
  | 7, _ => by kernel_rfl
  | n + 8, h => absurd h (by omega)
theorem small_sc : ∀ k, k < 8 → (sct k).nm.size ≤ maxLen ∧ (sct k).sy.size ≤ maxLen
  | 0, _ => ⟨by decide, by decide⟩
  | 1, _ => ⟨by decide, by decide⟩
  | 2, _ => ⟨by decide, by decide⟩
  | 3, _ => ⟨by decide, by decide⟩
  | 4, _ => ⟨by decide, by decide⟩
  | 5, _ => ⟨by decide, by decide⟩
  | 6, _ => ⟨by decide, by decide⟩
  | 7, _ => ⟨by decide, by decide⟩
  | n + 8, h => absurd h (by omega)
def usL (k : Nat) : List (Array Value) := (List.range k).map fun i => uOf (sct i)
theorem usL_succ (k : Nat) : usL (k + 1) = usL k ++ [uOf (sct k)] := by unfold usL; rw [List.range_succ, List.map_append]; rfl
theorem usL_len (k : Nat) : (usL k).length = k := by simp [usL]
theorem usL_is (n k : Nat) (u : Array Value) (h : (usL n)[k]? = some u) : IsU u := by
  unfold usL at h
  rw [List.getElem?_map] at h
  obtain ⟨i, _, rfl⟩ := Option.map_eq_some_iff.1 h
  exact ⟨_, _, _, _, _, _, _, _, _, _, _, _, _, _, _, rfl⟩
structure R4 (W : World) (g k : Nat) : Prop where
  c0 : W.cell? ⟨g, k * 4, none⟩ = some (.string (sct k).nm)
  c1 : W.cell? ⟨g, k * 4 + 1, none⟩ = some (.string (sct k).sy)
  c2 : W.cell? ⟨g, k * 4 + 2, none⟩ = some (.int .i64 (sct k).tk)
  c3 : W.cell? ⟨g, k * 4 + 3, none⟩ = some (.func (.func (sct k).f) #[] #[])
def rows8 : Array Value := #[.string ⟨#[98, 105, 116]⟩, .string ⟨#[98]⟩, .int .i64 3, .func (.func 13) #[] #[], .string ⟨#[109, 111, 108, 101]⟩, .string ⟨#[109, 111, 108]⟩, .int .i64 1, .func (.func 14) #[] #[], .string ⟨#[115, 101, 99, 111, 110, 100]⟩, .string ⟨#[115]⟩, .int .i64 1, .func (.func 15) #[] #[], .string ⟨#[97, 109, 112, 101, 114, 101]⟩, .string ⟨#[65]⟩, .int .i64 1, .func (.func 16) #[] #[], .string ⟨#[109, 101, 116, 114, 101]⟩, .string ⟨#[109]⟩, .int .i64 1, .func (.func 17) #[] #[], .string ⟨#[103, 114, 97, 109]⟩, .string ⟨#[103]⟩, .int .i64 1, .func (.func 18) #[] #[], .string ⟨#[99, 97, 110, 100, 101, 108, 97]⟩, .string ⟨#[99, 100]⟩, .int .i64 1, .func (.func 19) #[] #[], .string ⟨#[107, 101, 108, 118, 105, 110]⟩, .string ⟨#[75]⟩, .int .i64 1, .func (.func 20) #[] #[]]
set_option maxRecDepth 100000 in
set_option maxHeartbeats 4000000 in
theorem rows_any (w : World) : Calls Tryz.prog 9 #[] w fun r w' => r = .returned (.slice (some ⟨w.heap.size, 0, none⟩) 8 8) ∧ w' = w.alloc (.cells rows8 38) := by
  go_enter Tryz.func9, Tryz.ntmps9
  go_wp2
  go_ret
  exact ⟨rfl, rfl⟩
theorem rows8_at {W : World} {g : Nat} (h : OwnU W g 38 rows8) : ∀ k, k < 8 → R4 W g k
  | 0, _ => ⟨h.ub.c 0 _ rfl, h.ub.c 1 _ rfl, h.ub.c 2 _ rfl, h.ub.c 3 _ rfl⟩
  | 1, _ => ⟨h.ub.c 4 _ rfl, h.ub.c 5 _ rfl, h.ub.c 6 _ rfl, h.ub.c 7 _ rfl⟩
  | 2, _ => ⟨h.ub.c 8 _ rfl, h.ub.c 9 _ rfl, h.ub.c 10 _ rfl, h.ub.c 11 _ rfl⟩
  | 3, _ => ⟨h.ub.c 12 _ rfl, h.ub.c 13 _ rfl, h.ub.c 14 _ rfl, h.ub.c 15 _ rfl⟩
  | 4, _ => ⟨h.ub.c 16 _ rfl, h.ub.c 17 _ rfl, h.ub.c 18 _ rfl, h.ub.c 19 _ rfl⟩
  | 5, _ => ⟨h.ub.c 20 _ rfl, h.ub.c 21 _ rfl, h.ub.c 22 _ rfl, h.ub.c 23 _ rfl⟩
  | 6, _ => ⟨h.ub.c 24 _ rfl, h.ub.c 25 _ rfl, h.ub.c 26 _ rfl, h.ub.c 27 _ rfl⟩
  | 7, _ => ⟨h.ub.c 28 _ rfl, h.ub.c 29 _ rfl, h.ub.c 30 _ rfl, h.ub.c 31 _ rfl⟩
  | n + 8, h => absurd h (by omega)
end Go.Proofs.YtbjafaojcaafmaaGreatDoor

namespace Go.Proofs.YtbjafaojcaafmaaGreatDoor
open Go.RowKit Go.Maps Go.ChangeMaps Go.WideMaps
theorem RG.withK {W : World} {K K' : Nat → Nat → Array Value → Prop} {base r m n : Nat} {vs : Value} {ps : List Nat} {us : List (Array Value)} {D : DataW Unit} (h : RG W K base r m vs ps us n D) (hk : ∀ (g ty : Nat) (us : Array Value), K' g ty us → ty ≠ 46 ∧ ty ≠ 52 ∧ OwnU W g ty us) : RG W K' base r m vs ps us n D := ⟨h.k0, h.row, h.mp, h.un, h.bs, hk⟩
def KR (g : Nat) : Nat → Nat → Array Value → Prop := fun b ty us => b = g ∧ ty = 38 ∧ us = rows8
theorem add_sc (K : Nat → Nat → Array Value → Prop) (k : Nat) (hk : k < 8) (r m : Nat) (vs : Value) (ps : List Nat) (w W : World) (htab : Tab w) (h : RG W K w.heap.size r m vs ps (usL k) (2 * k) (DD k)) (hl : ps.length = k) (hb : Below w.heap.size w W) (hm : w.heap.size ≤ m) (hr : w.heap.size ≤ r) :
    Calls Tryz.prog 10 #[.pointer (some ⟨r, 0, none⟩), .agg (uOf (sct k))] W fun e w' => e = .returned (.int .i64 0) ∧ (∃ p v', RG w' K w.heap.size r m v' (ps ++ [p]) (usL (k + 1)) (2 * (k + 1)) (DD (k + 1))) ∧ Below w.heap.size w w' := by
  rw [usL_succ]
  exact add_any _ _ _ _ _ _ _ _ _ _ _ _ _ _ _ w.heap.size r m (2 * k) vs ps (usL k) (DD k) w W h (by rw [usL_len, hl]) hb hm hr (by omega) (by omega) (small_sc k hk).1 (small_sc k hk).2 (fun V hV => right_sc k hk V (htab.later (hb.trans (hV.mono hb.size)))) (has_nm k hk) (has_sy k hk)
set_option maxRecDepth 100000 in
set_option maxHeartbeats 4000000 in
theorem baseUnits (w : World) (htab : Tab w) : Calls Tryz.prog 5 #[] w fun e w' => ∃ v, e = .returned v ∧ w'.ownsRow w.heap.size 30 15 v 8 (flatU (usL 8) 8) ∧ Below w.heap.size w w' := by
  have HT := hide htab
  clear htab
  go_enter Tryz.func5, Tryz.ntmps5
  go_upto_region 3 with (first
    | (go_at_call 8; go_must (refine (new_any _).mono ?_; rintro e w1 ⟨rfl, hr, hb⟩; have HR1 := hide hr; have HB1 := hide hb; clear hr hb))
    | (go_at_call 9; go_must (refine (rows_any _).mono ?_; rintro e w2 ⟨rfl, hw2⟩; have HW2 := hide hw2; clear hw2)))
  have hb2 : Below w1.heap.size w1 w2 := by rw [unhide HW2]; exact (Below.refl _ _).alloc (Nat.le_refl _) _
  have HO2 : Hid (OwnU w2 w1.heap.size 38 rows8) := by rw [unhide HW2]; exact OwnU.new _ _ _
  have HR2 : Hid (RG w2 (KR w1.heap.size) w.heap.size (w.heap.size + 1) w.heap.size (.slice none 0 0) [] [] 0 (.map [])) := ((unhide HR1).later hb2).withK (by rintro g ty us ⟨rfl, rfl, rfl⟩; exact ⟨by decide, by decide, unhide HO2⟩)
  have HB2 : Hid (Below w.heap.size w w2) := (unhide HB1).trans (hb2.mono (unhide HB1).size)
  obtain ⟨r, hr⟩ : ∃ r, r = w.heap.size + 1 := ⟨_, rfl⟩
  have HRB : Hid (w.heap.size ≤ r) := by show _ ≤ _; omega
  rw [← hr] at HR2 ⊢
  clear hb2 HW2 HR1 HB1 hr HO2
  generalize w1.heap.size = g at *
  go_loopw [7] (fun s7 wr => ∃ (k : Nat) (ps : List Nat) (vs : Value), k ≤ 8 ∧ s7 = .int .i64 (k : Int) ∧ Hid (ps.length = k) ∧ Hid (RG wr (KR g) w.heap.size r w.heap.size vs ps (usL k) (2 * k) (DD k)) ∧ Hid (Below w.heap.size w wr)) (fun s7 _ => 8 - (intOf s7).toNat)
  case atStart => exact ⟨0, [], _, by omega, rfl, rfl, HR2, HB2⟩
  case round =>
    obtain ⟨k, ps, vs, hk, rfl, HL, HR, HB⟩ := hrel
    by_cases hlt : k < 8
    · have hkI : (k : Int) < 8 := by omega
      have hk0 : (0 : Int) ≤ (k : Int) := by omega
      have hrow := rows8_at ((unhide HR).ex g 38 rows8 ⟨rfl, rfl, rfl⟩).2.2 k hlt
      have c0 := hrow.c0; have c1 := hrow.c1; have c2 := hrow.c2; have c3 := hrow.c3
      clear hrow
      have HTD : Hid (∀ W, Below w.heap.size w W → Calls Tryz.prog 11 #[.agg #[.string (sct k).nm, .string (sct k).sy, .int .i64 (sct k).tk, .func (.func (sct k).f) #[] #[]]] W fun r w' => r = .returned (.agg (uOf (sct k))) ∧ Below W.heap.size W w') := fun W hW => told_sc k hlt W ((unhide HT).later hW)
      have HAD : Hid (∀ W, RG W (KR g) w.heap.size r w.heap.size vs ps (usL k) (2 * k) (DD k) → Below w.heap.size w W → Calls Tryz.prog 10 #[.pointer (some ⟨r, 0, none⟩), .agg (uOf (sct k))] W fun e w' => e = .returned (.int .i64 0) ∧ (∃ p v', RG w' (KR g) w.heap.size r w.heap.size v' (ps ++ [p]) (usL (k + 1)) (2 * (k + 1)) (DD (k + 1))) ∧ Below w.heap.size w w') := fun W h1 h2 => add_sc _ k hlt r _ vs ps w W (unhide HT) h1 (unhide HL) h2 (Nat.le_refl _) (unhide HRB)
      unfold uOf at HTD HAD
      generalize (sct k).nm = nm at *
      generalize (sct k).sy = sy at *
      generalize (sct k).fn = fn at *
      generalize (sct k).fd = fd at *
      generalize (sct k).d0 = d0 at *
      generalize (sct k).d1 = d1 at *
      generalize (sct k).d2 = d2 at *
      generalize (sct k).d3 = d3 at *
      generalize (sct k).d4 = d4 at *
      generalize (sct k).d5 = d5 at *
      generalize (sct k).d6 = d6 at *
      generalize (sct k).d7 = d7 at *
      generalize (sct k).tk = tk at *
      generalize (sct k).f = f at *
      go_upto_region 5 with fail
      obtain ⟨V2, hV2⟩ : ∃ V2, V2 = wr.alloc (.cells #[.string nm, .string sy, .int .i64 tk, .func (.func f) #[] #[]] 38) := ⟨_, rfl⟩
      have hb2 : Below wr.heap.size wr V2 := by rw [hV2]; exact (Below.refl _ _).alloc (Nat.le_refl _) _
      have HX : Hid (OwnU V2 wr.heap.size 38 #[.string nm, .string sy, .int .i64 tk, .func (.func f) #[] #[]]) := by rw [hV2]; exact OwnU.new _ _ _
      have HR3 := hide ((unhide HR).later hb2)
      have HB3 : Hid (Below w.heap.size w V2) := (unhide HB).trans (hb2.mono (unhide HB).size)
      rw [← hV2]
      clear hV2 hb2 c0 c1 c2 c3 HR HB
      generalize wr.heap.size = g3 at *
      have x0 := (unhide HX).ub.c 0 _ rfl; have x1 := (unhide HX).ub.c 1 _ rfl; have x2 := (unhide HX).ub.c 2 _ rfl; have x3 := (unhide HX).ub.c 3 _ rfl
      go_wp2_with (first
        | (go_at_call 11; go_must (refine (unhide HTD _ (unhide HB3)).mono ?_; rintro e wt ⟨rfl, hbt⟩; have HR4 := hide ((unhide HR3).later hbt); have HB4 : Hid (Below w.heap.size w wt) := (unhide HB3).trans (hbt.mono (unhide HB3).size); clear hbt x0 x1 x2 x3))
        | (go_at_call 10; go_must (refine (unhide HAD _ (unhide HR4) (unhide HB4)).mono ?_; rintro e wu ⟨rfl, ⟨p, v', hr5⟩, hb5⟩; have HR5 := hide hr5; have HB5 := hide hb5; clear hr5 hb5)))
      go_roundw
      case rel => exact ⟨k + 1, ps ++ [p], v', by omega, by go_num, (by have h := unhide HL; show (ps ++ [p]).length = k + 1; rw [List.length_append, h]; rfl), HR5, HB5⟩
      case measure => simp [intOf]; omega
    · have hkI : ¬ (k : Int) < 8 := by omega
      have HK : Hid (k = 8) := by show k = 8; omega
      have HUN : Hid (Calls Tryz.prog 12 #[.pointer (some ⟨r, 0, none⟩)] wr fun e w' => ∃ v, e = .returned v ∧ w'.ownsRow wr.heap.size 30 15 v 8 (flatU (usL 8) 8) ∧ Below wr.heap.size wr w') := by
        have h := unhide HR
        have hl := unhide HL
        rw [unhide HK] at h hl
        have hh := units_any _ _ _ _ _ _ _ _ wr h (by rw [usL_len, hl]) (by omega) (by omega) (usL_is 8)
        rw [hl] at hh
        exact hh
      go_wp2_with (go_at_call 12; go_must (refine (unhide HUN).mono ?_; rintro e wt ⟨v, rfl, ho, hbt⟩; have HO := hide ho; have HB4 : Hid (Below w.heap.size w wt) := (unhide HB).trans (hbt.mono (unhide HB).size); clear hbt ho))
      go_ret
      exact ⟨v, rfl, (unhide HO).mono (unhide HB).size, unhide HB4⟩
end Go.Proofs.YtbjafaojcaafmaaGreatDoor

namespace Go.Proofs.YtbjafaojcaafmaaGreatDoor
open Go.RowKit
theorem info3U : ∃ i, Tryz.prog.info? 3 = some i := Option.isSome_iff_exists.1 (by kernel_rfl)
theorem cells3U : Tryz.prog.cellsOf 3 = 1 := by kernel_rfl
section
variable (nm sy : ByteArray) (d0 d1 d2 d3 d4 d5 d6 d7 : Int) (fn fd on od : ByteArray) (tk : Int)
theorem eqD (d : Nat) (w : World) : (Op.equalIn (d + 2) 26 (.agg #[.int .i64 d0, .int .i64 d1, .int .i64 d2, .int .i64 d3, .int .i64 d4, .int .i64 d5, .int .i64 d6, .int .i64 d7]) (.agg #[.int .i64 d0, .int .i64 d1, .int .i64 d2, .int .i64 d3, .int .i64 d4, .int .i64 d5, .int .i64 d6, .int .i64 d7])).run Tryz.prog w = .ok true w := by
  obtain ⟨inf, hinf⟩ := info3U
  rw [show d + 2 = (d + 1) + 1 from rfl, run_equalIn_array w (d + 1) _ _ Tryz.underlying26 hinf, cells3U, show List.range 8 = [0, 1, 2, 3, 4, 5, 6, 7] from rfl]
  have p0 : ∀ w : World, (part 3 #[.int .i64 d0, .int .i64 d1, .int .i64 d2, .int .i64 d3, .int .i64 d4, .int .i64 d5, .int .i64 d6, .int .i64 d7] (0 * 1)).run Tryz.prog w = .ok (.int .i64 d0) w := fun _ => by kernel_rfl
  have p1 : ∀ w : World, (part 3 #[.int .i64 d0, .int .i64 d1, .int .i64 d2, .int .i64 d3, .int .i64 d4, .int .i64 d5, .int .i64 d6, .int .i64 d7] (1 * 1)).run Tryz.prog w = .ok (.int .i64 d1) w := fun _ => by kernel_rfl
  have p2 : ∀ w : World, (part 3 #[.int .i64 d0, .int .i64 d1, .int .i64 d2, .int .i64 d3, .int .i64 d4, .int .i64 d5, .int .i64 d6, .int .i64 d7] (2 * 1)).run Tryz.prog w = .ok (.int .i64 d2) w := fun _ => by kernel_rfl
  have p3 : ∀ w : World, (part 3 #[.int .i64 d0, .int .i64 d1, .int .i64 d2, .int .i64 d3, .int .i64 d4, .int .i64 d5, .int .i64 d6, .int .i64 d7] (3 * 1)).run Tryz.prog w = .ok (.int .i64 d3) w := fun _ => by kernel_rfl
  have p4 : ∀ w : World, (part 3 #[.int .i64 d0, .int .i64 d1, .int .i64 d2, .int .i64 d3, .int .i64 d4, .int .i64 d5, .int .i64 d6, .int .i64 d7] (4 * 1)).run Tryz.prog w = .ok (.int .i64 d4) w := fun _ => by kernel_rfl
  have p5 : ∀ w : World, (part 3 #[.int .i64 d0, .int .i64 d1, .int .i64 d2, .int .i64 d3, .int .i64 d4, .int .i64 d5, .int .i64 d6, .int .i64 d7] (5 * 1)).run Tryz.prog w = .ok (.int .i64 d5) w := fun _ => by kernel_rfl
  have p6 : ∀ w : World, (part 3 #[.int .i64 d0, .int .i64 d1, .int .i64 d2, .int .i64 d3, .int .i64 d4, .int .i64 d5, .int .i64 d6, .int .i64 d7] (6 * 1)).run Tryz.prog w = .ok (.int .i64 d6) w := fun _ => by kernel_rfl
  have p7 : ∀ w : World, (part 3 #[.int .i64 d0, .int .i64 d1, .int .i64 d2, .int .i64 d3, .int .i64 d4, .int .i64 d5, .int .i64 d6, .int .i64 d7] (7 * 1)).run Tryz.prog w = .ok (.int .i64 d7) w := fun _ => by kernel_rfl
  have e := fun w a b => run_equalIn_int (P := Tryz.prog) w d 3 .i64 .i64 a b Tryz.underlying3
  simp only [Op.eqItems, Sem.run_bind, p0, p1, p2, p3, p4, p5, p6, p7, Result.andThen_ok, e, Sem.run_ite, Sem.run_pure]
  simp
theorem fieldsQ : ∃ f0 f1, (Tryz.prog.fieldsOf 28).toList = [f0, f1] ∧ f0.type = 9 ∧ f0.offset = 0 ∧ f0.name ≠ "_" ∧ f1.type = 9 ∧ f1.offset = 1 ∧ f1.name ≠ "_" := by
  unfold Program.fieldsOf
  rw [Tryz.underlying28]
  exact ⟨_, _, rfl, rfl, rfl, by decide +kernel, rfl, rfl, by decide +kernel⟩
theorem eqQ (d : Nat) (w : World) : (Op.equalIn (d + 2) 28 (.agg #[.string fn, .string fd]) (.agg #[.string fn, .string fd])).run Tryz.prog w = .ok true w := by
  rw [show d + 2 = (d + 1) + 1 from rfl, run_equalIn_struct w (d + 1) 28 _ _ (by kernel_rfl) (by kernel_rfl)]
  obtain ⟨f0, f1, hf, t0, o0, n0, t1, o1, n1⟩ := fieldsQ
  rw [hf]
  have p0 : ∀ w : World, (part 9 #[.string fn, .string fd] 0).run Tryz.prog w = .ok (.string fn) w := fun _ => by kernel_rfl
  have p1 : ∀ w : World, (part 9 #[.string fn, .string fd] 1).run Tryz.prog w = .ok (.string fd) w := fun _ => by kernel_rfl
  have e := fun w a b => run_equalIn_string (P := Tryz.prog) w d 9 a b Tryz.underlying9
  simp only [Op.eqFields, n0, n1, t0, t1, o0, o1, Sem.run_bind, p0, p1, Result.andThen_ok, e, Sem.run_ite, Sem.run_pure, ne_eq, not_false_eq_true, if_true]
  simp
end
end Go.Proofs.YtbjafaojcaafmaaGreatDoor

namespace Go.Proofs.YtbjafaojcaafmaaGreatDoor
open Go.RowKit
def uAll : Array Value := #[.string ⟨#[98, 105, 116]⟩, .string ⟨#[98]⟩, .int .i64 0, .int .i64 0, .int .i64 0, .int .i64 0, .int .i64 0, .int .i64 0, .int .i64 0, .int .i64 1, .string ⟨#[49]⟩, .string ⟨#[49]⟩, .string ⟨#[48]⟩, .string ⟨#[49]⟩, .int .i64 3, .string ⟨#[109, 111, 108, 101]⟩, .string ⟨#[109, 111, 108]⟩, .int .i64 0, .int .i64 0, .int .i64 0, .int .i64 0, .int .i64 0, .int .i64 1, .int .i64 0, .int .i64 0, .string ⟨#[49]⟩, .string ⟨#[49]⟩, .string ⟨#[48]⟩, .string ⟨#[49]⟩, .int .i64 1, .string ⟨#[115, 101, 99, 111, 110, 100]⟩, .string ⟨#[115]⟩, .int .i64 0, .int .i64 0, .int .i64 1, .int .i64 0, .int .i64 0, .int .i64 0, .int .i64 0, .int .i64 0, .string ⟨#[49]⟩, .string ⟨#[49]⟩, .string ⟨#[48]⟩, .string ⟨#[49]⟩, .int .i64 1, .string ⟨#[97, 109, 112, 101, 114, 101]⟩, .string ⟨#[65]⟩, .int .i64 0, .int .i64 0, .int .i64 0, .int .i64 1, .int .i64 0, .int .i64 0, .int .i64 0, .int .i64 0, .string ⟨#[49]⟩, .string ⟨#[49]⟩, .string ⟨#[48]⟩, .string ⟨#[49]⟩, .int .i64 1, .string ⟨#[109, 101, 116, 114, 101]⟩, .string ⟨#[109]⟩, .int .i64 1, .int .i64 0, .int .i64 0, .int .i64 0, .int .i64 0, .int .i64 0, .int .i64 0, .int .i64 0, .string ⟨#[49]⟩, .string ⟨#[49]⟩, .string ⟨#[48]⟩, .string ⟨#[49]⟩, .int .i64 1, .string ⟨#[103, 114, 97, 109]⟩, .string ⟨#[103]⟩, .int .i64 0, .int .i64 1, .int .i64 0, .int .i64 0, .int .i64 0, .int .i64 0, .int .i64 0, .int .i64 0, .string ⟨#[49]⟩, .string ⟨#[49, 48, 48, 48]⟩, .string ⟨#[48]⟩, .string ⟨#[49]⟩, .int .i64 1, .string ⟨#[99, 97, 110, 100, 101, 108, 97]⟩, .string ⟨#[99, 100]⟩, .int .i64 0, .int .i64 0, .int .i64 0, .int .i64 0, .int .i64 0, .int .i64 0, .int .i64 1, .int .i64 0, .string ⟨#[49]⟩, .string ⟨#[49]⟩, .string ⟨#[48]⟩, .string ⟨#[49]⟩, .int .i64 1, .string ⟨#[107, 101, 108, 118, 105, 110]⟩, .string ⟨#[75]⟩, .int .i64 0, .int .i64 0, .int .i64 0, .int .i64 0, .int .i64 1, .int .i64 0, .int .i64 0, .int .i64 0, .string ⟨#[49]⟩, .string ⟨#[49]⟩, .string ⟨#[48]⟩, .string ⟨#[49]⟩, .int .i64 1]
def UR (W : World) (g k : Nat) : Prop := ∀ i v, (uOf (sct k))[i]? = some v → W.cell? ⟨g, k * 15 + i, none⟩ = some v
theorem UR.later {W V : World} {B g k : Nat} (h : UR W g k) (hb : Below B W V) (hg : g < B) : UR V g k := fun i v e => (hb.cell (p := ⟨g, k * 15 + i, none⟩) hg).trans (h i v e)
set_option maxRecDepth 100000 in
theorem uAll_row : ∀ k, k < 8 → ∀ i v, (uOf (sct k))[i]? = some v → uAll[k * 15 + i]? = some v := by
  intro k hk i v e
  have hi : i < 15 := (Array.getElem?_eq_some_iff.1 e).1
  rw [← e]
  rcases (by omega : k = 0 ∨ k = 1 ∨ k = 2 ∨ k = 3 ∨ k = 4 ∨ k = 5 ∨ k = 6 ∨ k = 7) with rfl | rfl | rfl | rfl | rfl | rfl | rfl | rfl <;> rcases (by omega : i = 0 ∨ i = 1 ∨ i = 2 ∨ i = 3 ∨ i = 4 ∨ i = 5 ∨ i = 6 ∨ i = 7 ∨ i = 8 ∨ i = 9 ∨ i = 10 ∨ i = 11 ∨ i = 12 ∨ i = 13 ∨ i = 14) with rfl | rfl | rfl | rfl | rfl | rfl | rfl | rfl | rfl | rfl | rfl | rfl | rfl | rfl | rfl <;> rfl
theorem flat_all : flatU (usL 8) 8 = uAll.toList := by rfl
theorem flat_at {W : World} {base g cap : Nat} (h : W.ownsRow base 30 15 (.slice (some ⟨g, 0, none⟩) 8 cap) 8 (flatU (usL 8) 8)) (k : Nat) (hk : k < 8) : UR W g k := fun i v e => by
  have hi : i < 15 := (Array.getElem?_eq_some_iff.1 e).1
  rw [h.cellAt (k * 15 + i) (by omega), flat_all]
  simpa using uAll_row k hk i v e
end Go.Proofs.YtbjafaojcaafmaaGreatDoor

namespace Go.Proofs.YtbjafaojcaafmaaGreatDoor
open Go.RowKit
theorem own_units {W : World} {base : Nat} {v : Value} (h : W.ownsRow base 30 15 v 8 (flatU (usL 8) 8)) : ∃ g cap, v = .slice (some ⟨g, 0, none⟩) 8 cap ∧ base ≤ g ∧ g < W.heap.size ∧ (∀ k, k < 8 → UR W g k) ∧ (∀ o, W.frozen? ⟨g, o, none⟩ = false) := by
  obtain ⟨g, cap, rfl⟩ := Joins.ownsRow_form h (by decide)
  have hl := h.lt g rfl
  refine ⟨g, cap, rfl, hl.1, hl.2, fun k hk => flat_at h k hk, ?_⟩
  intro o
  obtain ⟨_, h2⟩ := h
  rcases h2 with ⟨h2, _⟩ | ⟨g', cap', cur, e, _, hg, _⟩
  · cases h2
  · cases e
    simp [World.frozen?, hg]
/-- The first cell of each of the eight, in a block that may be written. -/
structure Spoils (W : World) (g : Nat) : Prop where
  c : ∀ k, k < 8 → ∃ u, W.cell? ⟨g, k * 15, none⟩ = some u
  f : ∀ o, W.frozen? ⟨g, o, none⟩ = false
theorem Spoils.set {W : World} {g : Nat} (h : Spoils W g) (k : Nat) (hk : k < 8) (u : Value) : Spoils (W.setCell ⟨g, k * 15, none⟩ u) g := by
  refine ⟨fun j hj => ?_, fun o => by rw [World.frozen?_setCell]; exact h.f o⟩
  by_cases e : j = k
  · subst e
    obtain ⟨x, hx⟩ := h.c j hj
    exact ⟨u, World.cell?_setCell_same _ _ _ hx⟩
  · obtain ⟨x, hx⟩ := h.c j hj
    exact ⟨x, by rw [World.cell?_setCell_other _ _ _ _ (by intro e2; simp only [Addr.mk.injEq] at e2; omega)]; exact hx⟩
theorem Spoils.later {W V : World} {g : Nat} (h : Spoils W g) (hg : g < W.heap.size) (hb : Below W.heap.size W V) : Spoils V g :=
  ⟨fun k hk => by obtain ⟨u, hu⟩ := h.c k hk; exact ⟨u, (hb.cell (p := ⟨g, k * 15, none⟩) hg).trans hu⟩, fun o => (hb.frozen (p := ⟨g, o, none⟩) hg).trans (h.f o)⟩
end Go.Proofs.YtbjafaojcaafmaaGreatDoor

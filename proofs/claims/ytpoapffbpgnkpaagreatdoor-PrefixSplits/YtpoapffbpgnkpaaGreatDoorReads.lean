/- A region that draws its order, in which reads come ahead of stores into what they read: the reads are taken first. What they read (S) must stand till store number k has come; what those read that store k does not wait for (S7) must stand throughout. -/
import Derived.Test.YtpoapffbpgnkpaaGreatDoorUIdx
import Derived.OrdersHeld
import Derived.Deep.RegionHeld3
import Derived.Test.YtpoapffbpgnkpaaGreatDoorProg
namespace Go.Proofs.YtpoapffbpgnkpaaGreatDoor
open Go.RowKit Go.Maps Go.ChangeMaps Go.WideMaps
/-- What both finds answer at the first that is found. -/
def ansV (j : Int) : Value := if 0 ≤ j then .tuple #[preV j.toNat, .bool true] else .tuple #[zeroP, .bool false]
set_option maxRecDepth 100000 in
set_option maxHeartbeats 4000000 in
theorem find_any (s : ByteArray) (hs : s.size ≤ maxLen) (w : World) (htab : Tab w) : Calls Tryz.prog 22 #[.string s] w fun r w' => ∃ j : Int, r = .returned (ansV j) ∧ IsFirst (foundB s) j ∧ Below w.heap.size w w' := by
  have HTW := hide htab
  have HSY := hide (fun W => symbols_look s hs W)
  have HQ : Hid ((symH s = true ∧ ∃ n : Nat, n < 32 ∧ symC s = (n : Int) ∧ IsFirst (foundB s) (n : Int)) ∨ (symH s = false ∧ ∀ k, k < 32 → foundB s k = nameB s k)) := by
    by_cases h : symH s = true
    · exact Or.inl ⟨h, find_yes s h⟩
    · have h2 : symH s = false := by simpa using h
      exact Or.inr ⟨h2, find_not s h2⟩
  clear htab
  obtain ⟨V, hV⟩ : ∃ V, V = (w.alloc (.cells #[.string s] 9)).alloc (.cells #[.string ⟨#[]⟩, .string ⟨#[]⟩, .string ⟨#[]⟩, .string ⟨#[]⟩, .bool false] 30) := ⟨_, rfl⟩
  have HBX : Hid (V.cell? ⟨w.heap.size, 0, none⟩ = some (.string s) ∧ w.heap.size < V.heap.size) := by rw [hV]; exact ⟨by simp [go_sem], by simp; omega⟩
  have HZV : Hid (T5 V (w.heap.size + 1) (.string ⟨#[]⟩) (.string ⟨#[]⟩) (.string ⟨#[]⟩) (.string ⟨#[]⟩) (.bool false)) := by rw [hV]; exact ⟨by simp [go_sem], by simp [go_sem], by simp [go_sem], by simp [go_sem], by simp [go_sem], by simp [go_sem], by simp [go_sem], by simp [go_sem], by simp [go_sem], by simp [go_sem]⟩
  have HBV : Hid (Below w.heap.size w V) := by rw [hV]; exact ((Below.refl _ _).alloc (Nat.le_refl _) _).alloc (by simp) _
  have HV := hide hV
  clear hV
  go_enter Tryz.func22, Tryz.ntmps22
  go_upto_region 1 with fail
  rw [← unhide HV]
  clear HV
  have t0 := (unhide HBX).1
  rcases unhide HQ with ⟨hH, n, hn32, hC, hJ⟩ | ⟨hH, hE⟩
  · rw [hH, hC] at HSY
    have HJ := hide hJ
    clear HQ hH hC hJ
    go_region_held3 (fun w' => w'.cell? ⟨w.heap.size, 0, none⟩ = some (.string s)) (first | assumption | (simp [go_sem, *]; done)) ((first
    | (go_at_call 39; go_must (refine (unhide HSY _).mono ?_; rintro e w1 ⟨rfl, hlk, hb1⟩; have HW1 : Hid (Below V.heap.size V w1) := (Below.refl _ _).drew.trans (hb1.mono (Below.refl V.heap.size V).drew.size); have hlk2 : (Instr.lookup 88 (.map (some V.heap.size)) (.string s) true).run Tryz.prog w1 = .ok (.tuple #[.int .i64 (n : Int), .bool true]) w1 := hlk; clear hlk hb1 t0; have t0 : w1.cell? ⟨w.heap.size, 0, none⟩ = some (.string s) := ((unhide HW1).cell (p := ⟨w.heap.size, 0, none⟩) (unhide HBX).2).trans (unhide HBX).1))))
    have hn0 : (0 : Int) ≤ (n : Int) := by omega
    have hnI : (n : Int) < 32 := by omega
    have HBW : Hid (Below w.heap.size w w1) := (unhide HBV).trans ((unhide HW1).mono (unhide HBV).size)
    have HTX : Hid (Tab w1) := (unhide HTW).later (unhide HBW)
    have HZX := hide ((unhide HZV).later (unhide HW1))
    have HT := hide (fun W (ht : Tab W) => told_any n hn32 W ht)
    unfold rowV RowV preV at HT
    have HRA := hide (fun (W W' : World) hb => rows_at W W' hb n hn32)
    have HPV : Hid (.returned (ansV (n : Int)) = Ending.returned (.tuple #[.agg #[.string (tbl n).nm, .string (tbl n).sy, .string (tbl n).fn, .string (tbl n).fd, .bool (tbl n).bi], .bool true])) := by show _ = _; unfold ansV; rw [if_pos (by omega)]; rfl
    generalize (tbl n).nm = nm at *
    generalize (tbl n).sy = sy at *
    generalize (tbl n).f = f at *
    generalize (tbl n).fn = fn at *
    generalize (tbl n).fd = fd at *
    generalize (tbl n).bi = bi at *
    have HGX : Hid (w.heap.size + 1 < w1.heap.size) := (unhide HZX).lt
    go_wp2_with (first
      | (go_at_call 17; go_must (refine (rows_any _).mono ?_; rintro e w2 ⟨rfl, hw2⟩; obtain ⟨c0, c1, c2⟩ := unhide HRA w1 w2 (by rw [hw2]; exact Below.refl _ _); have HB2 : Hid (Below w1.heap.size w1 w2) := (by rw [hw2]; exact (Below.refl _ _).alloc (Nat.le_refl _) _); clear hw2))
      | (go_at_call 18; go_must (refine (unhide HT _ ((unhide HTX).later (unhide HB2))).mono ?_; rintro e w3 ⟨rfl, hb3⟩; have HB3 : Hid (Below w1.heap.size w1 w3) := (unhide HB2).trans (hb3.mono (unhide HB2).size); have HZ3 := hide ((unhide HZX).later (unhide HB3)); clear hb3; have z0 := (unhide HZ3).c0; have z1 := (unhide HZ3).c1; have z2 := (unhide HZ3).c2; have z3 := (unhide HZ3).c3; have z4 := (unhide HZ3).c4; have f0 := (unhide HZ3).f0; have f1 := (unhide HZ3).f1; have f2 := (unhide HZ3).f2; have f3 := (unhide HZ3).f3; have f4 := (unhide HZ3).f4)))
    have hS := (unhide HZ3).store (.string nm) (.string sy) (.string fn) (.string fd) (.bool bi)
    have v0 := hS.c0; have v1 := hS.c1; have v2 := hS.c2; have v3 := hS.c3; have v4 := hS.c4
    exact bodyPost_ret (v := .tuple #[.agg #[.string nm, .string sy, .string fn, .string fd, .bool bi], .bool true]) (w := store5 w3 (w.heap.size + 1) (.string nm) (.string sy) (.string fn) (.string fd) (.bool bi)) (by simp [results, Tryz.results22, go_sem, v0, v1, v2, v3, v4]) rfl ⟨_, (unhide HPV).symm, unhide HJ, below_store5 ((unhide HBW).trans ((unhide HB3).mono (unhide HBW).size)) (Nat.le_succ _) (.string nm) (.string sy) (.string fn) (.string fd) (.bool bi)⟩
  · rw [hH] at HSY
    generalize symC s = c at *
    clear HQ hH
    have HE := hide hE
    clear hE
    go_region_held3 (fun w' => w'.cell? ⟨w.heap.size, 0, none⟩ = some (.string s)) (first | assumption | (simp [go_sem, *]; done)) ((first
    | (go_at_call 39; go_must (refine (unhide HSY _).mono ?_; rintro e w1 ⟨rfl, hlk, hb1⟩; have HW1 : Hid (Below V.heap.size V w1) := (Below.refl _ _).drew.trans (hb1.mono (Below.refl V.heap.size V).drew.size); have hlk2 : (Instr.lookup 88 (.map (some V.heap.size)) (.string s) true).run Tryz.prog w1 = .ok (.tuple #[.int .i64 c, .bool false]) w1 := hlk; clear hlk hb1 t0; have t0 : w1.cell? ⟨w.heap.size, 0, none⟩ = some (.string s) := ((unhide HW1).cell (p := ⟨w.heap.size, 0, none⟩) (unhide HBX).2).trans (unhide HBX).1))))
    have HBW1 : Hid (Below w.heap.size w w1) := (unhide HBV).trans ((unhide HW1).mono (unhide HBV).size)
    have HZ1 := hide ((unhide HZV).later (unhide HW1))
    have HIX : Hid (∀ W, W = w1.alloc (.cells rowsArr 51) → Calls Tryz.prog 74 #[.slice (some ⟨w1.heap.size, 0, none⟩) 32 32, .func (.func 75) #[] #[.pointer (some ⟨w.heap.size, 0, none⟩)]] W fun r w' => ∃ j : Int, r = .returned (.int .i64 j) ∧ IsFirst (nameB s) j ∧ Below w1.heap.size w1 w') := by
      intro W hW
      have hb : Below w1.heap.size w1 W := by rw [hW]; exact (Below.refl _ _).alloc (Nat.le_refl _) _
      have hl : w.heap.size < w1.heap.size := Nat.lt_of_lt_of_le (unhide HBX).2 (unhide HW1).size
      refine (index_any s w1.heap.size w.heap.size W (by rw [hW]; exact rowsIn_made w1) (by rw [hW]; simp) ((hb.cell (p := ⟨w.heap.size, 0, none⟩) hl).trans t0) (Nat.lt_of_lt_of_le hl hb.size)).mono ?_
      rintro e w' ⟨j, h1, h2, h3⟩
      exact ⟨j, h1, h2, hb.trans (h3.mono hb.size)⟩
    go_upto_region 4 with (first
      | (go_at_call 17; go_must (refine (rows_any _).mono ?_; rintro e w2 ⟨rfl, hw2⟩; have HW2 := hide hw2; clear hw2))
      | (go_at_call 74; go_must (refine (unhide HIX _ (unhide HW2)).mono ?_; rintro e w4 ⟨j, rfl, hj, hb4⟩; have HJ4 := hide hj; have HB4 := hide hb4; clear hj hb4)))
    have HBW : Hid (Below w.heap.size w w4) := (unhide HBW1).trans ((unhide HB4).mono (unhide HBW1).size)
    have HTX : Hid (Tab w4) := (unhide HTW).later (unhide HBW)
    have HZX := hide ((unhide HZ1).later (unhide HB4))
    have HJF := hide (isFirst_congr (unhide HJ4) (unhide HE))
    clear HW2 HIX HE HB4 HZ1 t0 hlk2
    rcases unhide HJ4 with ⟨k, hn32, rfl, -, -⟩ | ⟨rfl, -⟩
    · have hn0 : (0 : Int) ≤ (k : Int) := by omega
      have hnI : (k : Int) < 32 := by omega
      have HJ := HJF
      clear HJ4 HJF
      have HT := hide (fun W (ht : Tab W) => told_any k hn32 W ht)
      unfold rowV RowV preV at HT
      have HRA := hide (fun (W W' : World) hb => rows_at W W' hb k hn32)
      have HPV : Hid (.returned (ansV (k : Int)) = Ending.returned (.tuple #[.agg #[.string (tbl k).nm, .string (tbl k).sy, .string (tbl k).fn, .string (tbl k).fd, .bool (tbl k).bi], .bool true])) := by show _ = _; unfold ansV; rw [if_pos (by omega)]; rfl
      generalize (tbl k).nm = nm at *
      generalize (tbl k).sy = sy at *
      generalize (tbl k).f = f at *
      generalize (tbl k).fn = fn at *
      generalize (tbl k).fd = fd at *
      generalize (tbl k).bi = bi at *
      have HGX : Hid (w.heap.size + 1 < w4.heap.size) := (unhide HZX).lt
      go_wp2_with (first
        | (go_at_call 17; go_must (refine (rows_any _).mono ?_; rintro e w2 ⟨rfl, hw2⟩; obtain ⟨c0, c1, c2⟩ := unhide HRA w4 w2 (by rw [hw2]; exact Below.refl _ _); have HB2 : Hid (Below w4.heap.size w4 w2) := (by rw [hw2]; exact (Below.refl _ _).alloc (Nat.le_refl _) _); clear hw2))
        | (go_at_call 18; go_must (refine (unhide HT _ ((unhide HTX).later (unhide HB2))).mono ?_; rintro e w3 ⟨rfl, hb3⟩; have HB3 : Hid (Below w4.heap.size w4 w3) := (unhide HB2).trans (hb3.mono (unhide HB2).size); have HZ3 := hide ((unhide HZX).later (unhide HB3)); clear hb3; have z0 := (unhide HZ3).c0; have z1 := (unhide HZ3).c1; have z2 := (unhide HZ3).c2; have z3 := (unhide HZ3).c3; have z4 := (unhide HZ3).c4; have f0 := (unhide HZ3).f0; have f1 := (unhide HZ3).f1; have f2 := (unhide HZ3).f2; have f3 := (unhide HZ3).f3; have f4 := (unhide HZ3).f4)))
      have hS := (unhide HZ3).store (.string nm) (.string sy) (.string fn) (.string fd) (.bool bi)
      have v0 := hS.c0; have v1 := hS.c1; have v2 := hS.c2; have v3 := hS.c3; have v4 := hS.c4
      exact bodyPost_ret (v := .tuple #[.agg #[.string nm, .string sy, .string fn, .string fd, .bool bi], .bool true]) (w := store5 w3 (w.heap.size + 1) (.string nm) (.string sy) (.string fn) (.string fd) (.bool bi)) (by simp [results, Tryz.results22, go_sem, v0, v1, v2, v3, v4]) rfl ⟨_, (unhide HPV).symm, unhide HJ, below_store5 ((unhide HBW).trans ((unhide HB3).mono (unhide HBW).size)) (Nat.le_succ _) (.string nm) (.string sy) (.string fn) (.string fd) (.bool bi)⟩
    · have z0 := (unhide HZX).c0; have z1 := (unhide HZX).c1; have z2 := (unhide HZX).c2; have z3 := (unhide HZX).c3; have z4 := (unhide HZX).c4; have f0 := (unhide HZX).f0; have f1 := (unhide HZX).f1; have f2 := (unhide HZX).f2; have f3 := (unhide HZX).f3; have f4 := (unhide HZX).f4
      go_wp2_with fail
      have hS := (unhide HZX).store (.string ⟨#[]⟩) (.string ⟨#[]⟩) (.string ⟨#[]⟩) (.string ⟨#[]⟩) (.bool false)
      have v0 := hS.c0; have v1 := hS.c1; have v2 := hS.c2; have v3 := hS.c3; have v4 := hS.c4
      exact bodyPost_ret (v := .tuple #[zeroP, .bool false]) (w := store5 w4 (w.heap.size + 1) (.string ⟨#[]⟩) (.string ⟨#[]⟩) (.string ⟨#[]⟩) (.string ⟨#[]⟩) (.bool false)) (by simp [results, Tryz.results22, go_sem, v0, v1, v2, v3, v4, zeroP]) rfl ⟨-1, by unfold ansV; rw [if_neg (by decide)], unhide HJF, below_store5 (unhide HBW) (Nat.le_succ _) (.string ⟨#[]⟩) (.string ⟨#[]⟩) (.string ⟨#[]⟩) (.string ⟨#[]⟩) (.bool false)⟩
end Go.Proofs.YtpoapffbpgnkpaaGreatDoor

namespace Go.Proofs.YtpoapffbpgnkpaaGreatDoor
open Go.RowKit
theorem find_at (s : ByteArray) (hs : s.size ≤ maxLen) (j : Int) (hj : IsFirst (foundB s) j) (w : World) (htab : Tab w) : Calls Tryz.prog 22 #[.string s] w fun r w' => r = .returned (ansV j) ∧ Below w.heap.size w w' := by
  refine (find_any s hs w htab).mono ?_
  rintro e w' ⟨i, h1, h2, h3⟩
  rw [first_unique h2 hj] at h1
  exact ⟨h1, h3⟩
theorem T5.past {W V : World} {a b c d e : Value} (h : Below (W.alloc (.cells #[a, b, c, d, e] 30)).heap.size (W.alloc (.cells #[a, b, c, d, e] 30)) V) : T5 V W.heap.size a b c d e :=
  (show T5 (W.alloc (.cells #[a, b, c, d, e] 30)) W.heap.size a b c d e from ⟨by simp [go_sem], by simp [go_sem], by simp [go_sem], by simp [go_sem], by simp [go_sem], by simp [go_sem], by simp [go_sem], by simp [go_sem], by simp [go_sem], by simp [go_sem]⟩).later h
theorem kilo_first : IsFirst (foundB ⟨#[107]⟩) 2 := Or.inl ⟨2, by decide, rfl, by decide +kernel, fun i hi => by
  have h := rangeB_spec (a := 0) (n := 2) (p := fun k => !foundB ⟨#[107]⟩ k) (by decide +kernel) i (by omega) (by omega)
  simpa using h⟩
set_option maxRecDepth 100000 in
set_option maxHeartbeats 4000000 in
theorem known_any (w : World) (htab : Tab w) : Calls Tryz.prog 9 #[] w fun r w' => r = .returned (.bool true) ∧ Below w.heap.size w w' := by
  have HTW := hide htab
  have HF : Hid (∀ W, Tab W → Calls Tryz.prog 22 #[.string ⟨#[107]⟩] W fun r w' => r = .returned (.tuple #[.agg #[.string ⟨#[107, 105, 108, 111]⟩, .string ⟨#[107]⟩, .string ⟨#[49, 48, 48, 48]⟩, .string ⟨#[49]⟩, .bool false], .bool true]) ∧ Below W.heap.size W w') := fun W hW => find_at ⟨#[107]⟩ (by decide) 2 kilo_first W hW
  clear htab
  go_enter Tryz.func9, Tryz.ntmps9
  go_wp2_with (first
    | (go_at_call 22; go_must (refine (unhide HF _ (unhide HTW)).mono ?_; rintro e wa ⟨rfl, hba⟩; have HBA := hide hba; clear hba))
    | (go_at_call 23; go_must (refine (all_any _ ((unhide HTW).later (((unhide HBA).alloc (unhide HBA).size _)))).mono ?_; rintro e wc ⟨vc, rfl, hoc, hbc⟩; obtain ⟨gc, cc, rfl⟩ := Joins.ownsRow_form hoc (by decide); have HBC := hide hbc; clear hbc hoc))
    | fail)
  go_ret
  exact ⟨rfl, bel_al (unhide HBA) (unhide HBC)⟩
end Go.Proofs.YtpoapffbpgnkpaaGreatDoor

namespace Go.Proofs.YtpoapffbpgnkpaaGreatDoor
section
variable {P : Program} {ops : Array Oper} {Q : Exit → Act → World → Prop} {md : Region.Mode} {S S7 : World → Prop} {k : Nat}

/-- What stands once these have come. -/
def Inv (k : Nat) (S S7 : World → Prop) (l : Array Bool) (w : World) : Prop := (l.getD k false = false → S w) ∧ S7 w
/-- Whatever order: what stands does so behind each operation. -/
def wpR (P : Program) (md : Region.Mode) (ops : Array Oper) (Q : Exit → Act → World → Prop) (k : Nat) (S S7 : World → Prop) : Nat → Array Bool → Act → World → Prop
  | 0, l, a, w => Region.ready md ops l = [] ∧ Q .normal a w
  | n + 1, l, a, w => (Region.ready md ops l = [] → Q .normal a w) ∧ ∀ j ∈ Region.ready md ops l, wpOp P ops Q j (fun a' w' => Inv k S S7 (l.setIfInBounds j true) w' ∧ wpR P md ops Q k S S7 n (l.setIfInBounds j true) a' w') a w
theorem wpR_any : ∀ (n : Nat) (l : Array Bool) (a : Act) (w : World), wpR P md ops Q k S S7 n l a w → wpAny P md ops Q n l a w
  | 0, _, _, _, h => h
  | n + 1, _, _, _, h => ⟨h.1, fun j hj => wpOp_mono (fun a' w' h' => wpR_any n _ a' w' h'.2) (h.2 j hj)⟩
/-- What has come, came behind all that it waits for. -/
def Closed (md : Region.Mode) (ops : Array Oper) (l : Array Bool) : Prop := ∀ (j : Nat) (o : Oper), ops[j]? = some o → l.getD j false = true → ∀ e ∈ o.after, Region.binds md e = true → l.getD e.on false = true
theorem Closed.step {l : Array Bool} {j : Nat} (h : Closed md ops l) (hj : j ∈ Region.ready md ops l) : Closed md ops (l.setIfInBounds j true) := by
  obtain ⟨_, o, ho, hall⟩ := mem_ready.1 hj
  intro q oq hq hl e he hb
  rcases Decidable.em (j = q) with rfl | hne
  · obtain rfl : o = oq := Option.some.inj (ho.symm.trans hq)
    exact getD_set_true (hall e he hb)
  · rw [getD_set_ne false hne] at hl
    exact getD_set_true (h q oq hq hl e he hb)
def closedB (md : Region.Mode) (ops : Array Oper) (l : Array Bool) : Bool :=
  (List.range ops.size).all fun j => !l.getD j false || match ops[j]? with
    | some o => o.after.all fun e => !Region.binds md e || l.getD e.on false
    | none => true
theorem closed_of {l : Array Bool} (h : closedB md ops l = true) : Closed md ops l := by
  intro j o ho hl e he hb
  unfold closedB at h
  have h1 := List.all_eq_true.1 h j (List.mem_range.2 (Array.getElem?_eq_some_iff.1 ho).1)
  simp only [ho, hl, Bool.not_true, Bool.false_or] at h1
  have h2 := Array.all_eq_true_iff_forall_mem.1 h1 e he
  simpa [hb] using h2
/-- Does operation k wait for this one? -/
def waits (md : Region.Mode) (ops : Array Oper) (k i : Nat) : Bool := match ops[k]? with
  | some o => o.after.any fun e => Region.binds md e && e.on == i
  | none => true
theorem unlisted {l : Array Bool} {i : Nat} {b : Bool} (h : l.getD i true = false) (h1 : l.getD i b = true) : False := by
  rcases Nat.lt_or_ge i l.size with h2 | h2
  · simp [h2] at h h1; rw [h] at h1; cases h1
  · simp [Array.getElem?_eq_none h2] at h
theorem not_yet {i : Nat} {l : Array Bool} (hc : Closed md ops l) (hz : l.size = ops.size) (hw : waits md ops k i = true) (hi : l.getD i true = false) : l.getD k false = false := by
  cases hl : l.getD k false with
  | false => rfl
  | true =>
    exfalso
    unfold waits at hw
    cases ho : ops[k]? with
    | none =>
      have : ops.size ≤ k := Array.getElem?_eq_none_iff.1 ho
      have h2 : l[k]? = none := Array.getElem?_eq_none (by omega)
      simp [h2] at hl
    | some o =>
      simp only [ho] at hw
      obtain ⟨e, he, h2⟩ := Array.any_eq_true'.1 hw
      simp only [Bool.and_eq_true, beq_iff_eq] at h2
      have h3 := hc k o ho hl e he h2.1
      rw [h2.2] at h3
      exact unlisted hi h3
theorem Inv.set {l : Array Bool} {w : World} {i : Nat} (h : Inv k S S7 l w) (hne : i ≠ k) : Inv k S S7 (l.setIfInBounds i true) w := ⟨fun h0 => h.1 (by rwa [getD_set_ne false hne] at h0), h.2⟩
theorem wpR_first {i : Nat} {oi : Oper} {v : Value} {T : World → Prop} (hi : ops[i]? = some oi) (hs : Region.noSelect ops = true) (hik : i ≠ k)
    (hT : ∀ (l : Array Bool) (w : World), Closed md ops l → l.size = ops.size → l.getD i true = false → Inv k S S7 l w → T w)
    (hQ : ∀ c a w, Q (.panic c) (a.put oi.dst v) w → Q (.panic c) a w) (n : Nat) :
    ∀ (l : Array Bool) (a : Act) (w : World), Closed md ops l → l.size = ops.size → (∀ j oj, ops[j]? = some oj → j ≠ i → l.getD j true = false → (∀ e ∈ oj.after, Region.binds md e = true → e.on ≠ i) → oi.apart ops oj = true) →
      i ∈ Region.ready md ops l → YieldsIf P ops T oi v a → Inv k S S7 l w → wpR P md ops Q k S S7 n (l.setIfInBounds i true) (a.put oi.dst v) w → wpR P md ops Q k S S7 (n + 1) l a w := by
  have hsel := Region.noSelect_spec hs
  induction n with
  | zero =>
    intro l a w hc hz _ hr hy hS H
    refine ⟨fun h => absurd hr (by rw [h]; simp), fun j hj => ?_⟩
    rcases Decidable.em (j = i) with rfl | hne
    · exact hy.wpOp hi (hT l w hc hz (mem_ready.1 hr).1 hS) ⟨hS.set hik, H⟩
    · have := ready_mono hj hne
      rw [H.1] at this
      exact absurd this (by simp)
  | succ n ih =>
    intro l a w hc hz hfree hr hy hS H
    refine ⟨fun h => absurd hr (by rw [h]; simp), fun j hj => ?_⟩
    have hiu := (mem_ready.1 hr).1
    rcases Decidable.em (j = i) with rfl | hne
    · exact hy.wpOp hi (hT l w hc hz hiu hS) ⟨hS.set hik, H⟩
    · obtain ⟨hju, oj, hoj, hall⟩ := mem_ready.1 hj
      have hno : ∀ e ∈ oj.after, Region.binds md e = true → e.on ≠ i := fun e he hb heq => by
        have h1 := hall e he hb
        rw [heq] at h1
        exact unlisted hiu h1
      have h2 := wpOp_putIf hoj (hfree j oj hoj hne hju hno) (fun cs b => hsel i oi cs b hi) (fun cs b => hsel j oj cs b hoj) hQ hy (H.2 j (ready_mono hj hne))
      refine wpOp_mono (fun a' w' q => ?_) h2
      obtain ⟨q1, q2, q3⟩ := q
      rw [Array.setIfInBounds_comm _ _ (Ne.symm hne)] at q2 q3
      have hI : Inv k S S7 (l.setIfInBounds j true) w' := ⟨fun h0 => q2.1 (by rwa [getD_set_ne false hik]), q2.2⟩
      refine ⟨hI, ih (l.setIfInBounds j true) a' w' (hc.step hj) (by rw [Array.size_setIfInBounds]; exact hz) (fun q oq hq hqi hun hn => hfree q oq hq hqi ?_ hn) (ready_mono hr (Ne.symm hne)) q1 hI q3⟩
      rcases Decidable.em (j = q) with rfl | hjq
      · exact hju
      · rwa [getD_set_ne true hjq] at hun
/-- A read that store k waits for. -/
theorem wpR_take {i : Nat} {oi : Oper} {v : Value} {n : Nat} {l : Array Bool} {a : Act} {w : World} (hi : ops[i]? = some oi)
    (hs : Region.noSelect ops = true) (hw : (waits md ops k i && closedB md ops l && (l.size == ops.size) && (i != k)) = true) (hf : Region.free md ops l i = true) (hr : (Region.ready md ops l).contains i = true)
    (hQ : ∀ c a w, Q (.panic c) (a.put oi.dst v) w → Q (.panic c) a w) (hy : YieldsIf P ops S oi v a) (hS : S w ∧ S7 w)
    (h : wpR P md ops Q k S S7 n (l.setIfInBounds i true) (a.put oi.dst v) w) : wpR P md ops Q k S S7 (n + 1) l a w := by
  simp only [Bool.and_eq_true, beq_iff_eq, bne_iff_ne, ne_eq] at hw
  obtain ⟨⟨⟨w1, w2⟩, w3⟩, w4⟩ := hw
  exact wpR_first hi hs w4 (fun l' w' hc hz hu hI => hI.1 (not_yet hc hz w1 hu)) hQ n l a w (closed_of w2) w3 (Region.free_spec hi hf) (by simpa using hr) hy ⟨fun _ => hS.1, hS.2⟩ h
/-- A read that nothing disturbs. -/
theorem wpR_take7 {i : Nat} {oi : Oper} {v : Value} {n : Nat} {l : Array Bool} {a : Act} {w : World} (hi : ops[i]? = some oi)
    (hs : Region.noSelect ops = true) (hw : (closedB md ops l && (l.size == ops.size) && (i != k)) = true) (hf : Region.free md ops l i = true) (hr : (Region.ready md ops l).contains i = true)
    (hQ : ∀ c a w, Q (.panic c) (a.put oi.dst v) w → Q (.panic c) a w) (hy : YieldsIf P ops S7 oi v a) (hS : S w ∧ S7 w)
    (h : wpR P md ops Q k S S7 n (l.setIfInBounds i true) (a.put oi.dst v) w) : wpR P md ops Q k S S7 (n + 1) l a w := by
  simp only [Bool.and_eq_true, beq_iff_eq, bne_iff_ne, ne_eq] at hw
  obtain ⟨⟨w2, w3⟩, w4⟩ := hw
  exact wpR_first hi hs w4 (fun l' w' hc hz hu hI => hI.2) hQ n l a w (closed_of w2) w3 (Region.free_spec hi hf) (by simpa using hr) hy ⟨fun _ => hS.1, hS.2⟩ h
theorem wpR_op {i : Nat} {o : Oper} {n : Nat} {l : Array Bool} {a : Act} {w : World} (hr : Region.ready md ops l = [i]) (ho : ops[i]? = some o) (hg : o.guard = none)
    (h : ∀ K : Act → World → Prop, (∀ a' w', S w' ∧ S7 w' → wpR P md ops Q k S S7 n (l.setIfInBounds i true) a' w' → K a' w') → Oper.wp P o a w K Q) : wpR P md ops Q k S S7 (n + 1) l a w := by
  refine ⟨fun h0 => absurd h0 (by rw [hr]; simp), fun j hj => ?_⟩
  rw [hr] at hj
  obtain rfl := List.mem_singleton.1 hj
  unfold wpOp
  simp only [ho]
  have hw : Region.wanted o (yielded ops a.tmps) = true := by simp [Region.wanted, hg]
  rw [if_pos hw]
  exact Or.inl (h _ fun a' w' h1 h2 => ⟨⟨fun _ => h1.1, h1.2⟩, h2⟩)
/-- Store k, or one behind it. -/
theorem wpR_late {i : Nat} {o : Oper} {n : Nat} {l : Array Bool} {a : Act} {w : World} (hr : Region.ready md ops l = [i]) (ho : ops[i]? = some o) (hg : o.guard = none) (hl : (l.setIfInBounds i true).getD k false = true)
    (h : ∀ K : Act → World → Prop, (∀ a' w', S7 w' → wpR P md ops Q k S S7 n (l.setIfInBounds i true) a' w' → K a' w') → Oper.wp P o a w K Q) : wpR P md ops Q k S S7 (n + 1) l a w := by
  refine ⟨fun h0 => absurd h0 (by rw [hr]; simp), fun j hj => ?_⟩
  rw [hr] at hj
  obtain rfl := List.mem_singleton.1 hj
  unfold wpOp
  simp only [ho]
  have hw : Region.wanted o (yielded ops a.tmps) = true := by simp [Region.wanted, hg]
  rw [if_pos hw]
  exact Or.inl (h _ fun a' w' h1 h2 => ⟨⟨fun h0 => (by rw [hl] at h0; cases h0), h1⟩, h2⟩)
theorem wpR_done {n : Nat} {l : Array Bool} {a : Act} {w : World} (hr : Region.ready md ops l = []) (h : Q .normal a w) : wpR P md ops Q k S S7 n l a w := by
  cases n with
  | zero => exact ⟨hr, h⟩
  | succ n => exact ⟨fun _ => h, by rw [hr]; simp⟩
theorem region_reads {id : Nat} {a : Act} {w : World} (k : Nat) (S S7 : World → Prop) (n : Nat) (hn : ops.size = n) (hm : P.follows .mixedOrders = true)
    (h : wpR P .any ops Q k S S7 n (Array.replicate n false) a w.drew) : (Code.region id ops true).wp P Q a w := by
  subst hn
  exact wp_region_any hm (wpR_any _ _ _ _ h)
end
end Go.Proofs.YtpoapffbpgnkpaaGreatDoor

/- slices.IndexFunc over units: the first that is called so. -/
import Derived.Test.YtpoapffbpgnkpaaGreatDoorIdx
import Derived.Maps.OwnSet
import Derived.Test.YtpoapffbpgnkpaaGreatDoorBigOf
namespace Go.Proofs.YtpoapffbpgnkpaaGreatDoor
open Go.RowKit Go.Maps Go.ChangeMaps Go.WideMaps

theorem zero3 (W : World) : (zeroValue 3).run Tryz.prog W = .ok (.int .i64 0) W := Tryz.zeroValue3 W
theorem under49 : Tryz.prog.underlying 88 = some (.map 9 3) := by kernel_rfl
/-- The map behind so many rounds. -/
def symD : Nat → DataW Unit
  | 0 => .map []
  | k + 1 => (symD k).put (.string (tbl k).sy.data.toList) (.lit (.int .i64 (k : Int)))
def symE : DataW Unit := (symD 32).put (.string [194, 181]) (.lit (.int .i64 15))
def symAll : DataW Unit := symE.put (.string [117]) (.lit (.int .i64 15))
theorem at_micro : (symD 32).atKey (.string [206, 188]) (.lit (.int .i64 0)) = .lit (.int .i64 15) := by kernel_rfl
theorem at_micro2 : symE.atKey (.string [206, 188]) (.lit (.int .i64 0)) = .lit (.int .i64 15) := by kernel_rfl
theorem sy_small (k : Nat) (h : k < 32) : (tbl k).sy.size ≤ maxLen := by
  have := rangeB_spec (a := 0) (n := 32) (p := fun k => decide ((tbl k).sy.size ≤ 10)) (by decide +kernel) k (by omega) (by omega)
  have h2 : (tbl k).sy.size ≤ 10 := of_decide_eq_true this
  unfold maxLen; omega
theorem k_wf (k : Nat) (h : k < 32) : (Lit.int .i64 (k : Int)).wf = true :=
  rangeB_spec (a := 0) (n := 32) (p := fun k => (Lit.int .i64 (k : Int)).wf) (by decide +kernel) k (by omega) (by omega)
theorem Row3.grown {W V : World} {g k b : Nat} {x y z : Value} (h : Row3 W g k x y z) (hg : W.grownBy V (some b)) (hne : g ≠ b) : Row3 V g k x y z :=
  ⟨hg.cell h.c0 (by simpa using hne), hg.cell h.c1 (by simpa using hne), hg.cell h.c2 (by simpa using hne)⟩
/-- The program's rows in a block. -/
def RowsIn (W : World) (g : Nat) : Prop := ∀ k, k < 32 → Row3 W g k (.string (tbl k).nm) (.string (tbl k).sy) (.func (.func (tbl k).f) #[] #[])
theorem rowsIn_made (W : World) : RowsIn (W.alloc (.cells rowsArr 51)) W.heap.size := fun k hk => by
  obtain ⟨c0, c1, c2⟩ := rows_at W _ (Below.refl _ _) k hk
  exact ⟨c0, c1, c2⟩
theorem RowsIn.later {W V : World} {g : Nat} (h : RowsIn W g) (hb : Below W.heap.size W V) (hg : g < W.heap.size) : RowsIn V g := fun k hk => (h k hk).later hb hg
theorem RowsIn.grown {W V : World} {g b : Nat} (h : RowsIn W g) (hg : W.grownBy V (some b)) (hne : g ≠ b) : RowsIn V g := fun k hk => (h k hk).grown hg hne

set_option maxRecDepth 100000 in
set_option maxHeartbeats 2000000 in
theorem symbols_any (w : World) : Calls Tryz.prog 39 #[] w fun r w' => r = .returned (.map (some w.heap.size)) ∧ w'.ownsMap Tryz.prog 9 (plainElem Tryz.prog 3) w.heap.size 34 symAll ∧ Below w.heap.size w w' := by
  obtain ⟨W1, hW1⟩ : ∃ W1, W1 = (w.alloc (.map #[] 0)).alloc (.cells rowsArr 51) := ⟨_, rfl⟩
  have HRO : Hid (Calls Tryz.prog 17 #[] (w.alloc (.map #[] 0)) fun r w' => r = .returned (.slice (some ⟨w.heap.size + 1, 0, none⟩) 32 32) ∧ w' = W1) := by
    rw [hW1]
    have h := rows_any (w.alloc (.map #[] 0))
    rw [show (w.alloc (.map #[] 0)).heap.size = w.heap.size + 1 from by simp] at h
    exact h
  have HRI : Hid (RowsIn W1 (w.heap.size + 1)) := by
    rw [hW1]
    have h := rowsIn_made (w.alloc (.map #[] 0))
    rw [show (w.alloc (.map #[] 0)).heap.size = w.heap.size + 1 from by simp] at h
    exact h
  have HZ : Hid (W1.heap.size = w.heap.size + 2) := by rw [hW1]; show _ = _; simp
  have HB1 : Hid (Below w.heap.size w W1) := by rw [hW1]; exact ((Below.refl _ _).alloc (Nat.le_refl _) _).alloc (by simp) _
  have HOW : Hid (W1.ownsMap Tryz.prog 9 (plainElem Tryz.prog 3) w.heap.size 0 (symD 0)) := by rw [hW1]; exact (World.ownsMap_made w Tryz.prog 9 (plainElem Tryz.prog 3)).alloc _
  clear hW1
  have hmm := @run_makeMap Tryz.prog
  go_enter Tryz.func39, Tryz.ntmps39
  go_wp2_with (go_at_call 17; go_must (refine (unhide HRO).mono ?_; rintro e w1 ⟨rfl, rfl⟩))
  go_loopw [7] (fun s7 wr => ∃ (k : Nat), k ≤ 32 ∧ s7 = .int .i64 (k : Int) ∧ Hid (wr.ownsMap Tryz.prog 9 (plainElem Tryz.prog 3) w.heap.size k (symD k)) ∧ Hid (RowsIn wr (w.heap.size + 1)) ∧ Hid (Below w.heap.size w wr ∧ w.heap.size + 2 ≤ wr.heap.size)) (fun s7 _ => 32 - (intOf s7).toNat)
  case atStart => exact ⟨0, by omega, rfl, HOW, HRI, ⟨unhide HB1, Nat.le_of_eq (unhide HZ).symm⟩⟩
  case round =>
    obtain ⟨k, hk, rfl, HO, HR, HB⟩ := hrel
    by_cases hk32 : k < 32
    · have hkI : (k : Int) < 32 := by omega
      have hk0 : (0 : Int) ≤ (k : Int) := by omega
      have c0 := (unhide HR k hk32).c0; have c1 := (unhide HR k hk32).c1; have c2 := (unhide HR k hk32).c2
      have HKY : Hid (keyOf Tryz.prog 9 (.string (tbl k).sy) = some (.string (tbl k).sy.data.toList)) := keyOf_string_mk Tryz.underlying9 (sy_small k hk32)
      have HKV : Hid (plainElem (H := Unit) Tryz.prog 3 (.int .i64 (k : Int)) = some (.lit (.int .i64 (k : Int)), [])) := plainElem_int Tryz.underlying3 (k_wf k hk32)
      have HSD : Hid ((symD k).put (.string (tbl k).sy.data.toList) (.lit (.int .i64 (k : Int))) = symD (k + 1)) := rfl
      have HLM : Hid (k < maxLen) := by show k < _; unfold maxLen; omega
      generalize (tbl k).nm = nm at *
      generalize (tbl k).sy = sy at *
      generalize (tbl k).f = f at *
      go_upto_region 5 with fail
      obtain ⟨V2, hV2⟩ : ∃ V2, V2 = wr.alloc (.cells #[.string nm, .string sy, .func (.func f) #[] #[]] 51) := ⟨_, rfl⟩
      have hb2 : Below wr.heap.size wr V2 := by rw [hV2]; exact (Below.refl _ _).alloc (Nat.le_refl _) _
      have HP2 : Hid (FBox V2 wr.heap.size (.string nm) (.string sy) (.func (.func f) #[] #[])) := by rw [hV2]; exact ⟨by simp [go_sem], by simp [go_sem], by simp [go_sem], by simp [go_sem], by simp [go_sem], by simp [go_sem]⟩
      have HO2 : Hid (V2.ownsMap Tryz.prog 9 (plainElem Tryz.prog 3) w.heap.size k (symD k)) := by rw [hV2]; exact (unhide HO).alloc _
      have HR2 : Hid (RowsIn V2 (w.heap.size + 1)) := (unhide HR).later hb2 (by have h := (unhide HB).2; omega)
      have HB2 : Hid (Below w.heap.size w V2 ∧ w.heap.size + 2 ≤ V2.heap.size) := ⟨(unhide HB).1.trans (hb2.mono (unhide HB).1.size), Nat.le_trans (unhide HB).2 hb2.size⟩
      rw [← hV2]
      clear hV2 hb2 c0 c1 c2 HO HB HR
      generalize wr.heap.size = g3 at *
      have t0 := (unhide HP2).c0; have t1 := (unhide HP2).c1; have t2 := (unhide HP2).c2
      go_wp2_with (at_mapUpdate; refine wpList_mapUpdate_own _ rfl _ _ _ 88 rfl 9 3 (string_keyed Tryz.underlying9) under49 (plainElem Tryz.prog 3) w.heap.size k (symD k) rfl (unhide HO2) (unhide HLM) _ _ _ rfl rfl (unhide HKY) _ [] (unhide HKV) ?_; intro wu hown hgrow; have HOU := hide hown; have HGU := hide hgrow; clear hown hgrow)
      have HRU : Hid (RowsIn wu (w.heap.size + 1)) := (unhide HR2).grown (unhide HGU) (by omega)
      have HBU : Hid (Below w.heap.size w wu ∧ w.heap.size + 2 ≤ wu.heap.size) := ⟨(unhide HB2).1.grown (unhide HGU) (by have h := (unhide HB2).2; omega) (fun j hj => by cases hj; exact Nat.le_refl _), Nat.le_trans (unhide HB2).2 (unhide HGU).size⟩
      go_roundw
      case rel =>
        refine ⟨k + 1, by omega, by go_num, ?_, HRU, HBU⟩
        have h := unhide HOU
        rw [unhide HSD] at h
        exact h
      case measure => simp [intOf]; omega
    · have hkI : ¬ (k : Int) < 32 := by omega
      have HK : Hid (k = 32) := by show k = 32; omega
      have HO32 : Hid (wr.ownsMap Tryz.prog 9 (plainElem Tryz.prog 3) w.heap.size 32 (symD 32)) := by have h := unhide HO; rw [unhide HK] at h; exact h
      have HM : Hid (∀ s : ByteArray, s.size ≤ 10 → keyOf Tryz.prog 9 (.string s) = some (.string s.data.toList)) := fun s hs => keyOf_string_mk Tryz.underlying9 (by unfold maxLen; omega)
      have HV15 : Hid (plainElem (H := Unit) Tryz.prog 3 (.int .i64 15) = some (.lit (.int .i64 15), [])) := plainElem_int Tryz.underlying3 (by decide)
      go_wp2_with (first
        | (at_lookup; refine wpList_lookup_own_int _ rfl _ _ 88 rfl 9 3 .i64 (string_keyed Tryz.underlying9) under49 Tryz.underlying3 (zero3 _) w.heap.size 33 symE rfl (unhide HO33) _ _ rfl (unhide HM ⟨#[206, 188]⟩ (by decide)) ?_; intro c hat hwc; obtain rfl : c = 15 := (by have h := hat.symm.trans at_micro2; cases h; rfl); clear hat hwc)
        | (at_lookup; refine wpList_lookup_own_int _ rfl _ _ 88 rfl 9 3 .i64 (string_keyed Tryz.underlying9) under49 Tryz.underlying3 (zero3 _) w.heap.size 32 (symD 32) rfl (unhide HO32) _ _ rfl (unhide HM ⟨#[206, 188]⟩ (by decide)) ?_; intro c hat hwc; obtain rfl : c = 15 := (by have h := hat.symm.trans at_micro; cases h; rfl); clear hat hwc)
        | (at_mapUpdate; refine wpList_mapUpdate_own _ rfl _ _ _ 88 rfl 9 3 (string_keyed Tryz.underlying9) under49 (plainElem Tryz.prog 3) w.heap.size 33 symE rfl (unhide HO33) (by unfold maxLen; decide) _ _ _ rfl rfl (unhide HM ⟨#[117]⟩ (by decide)) _ [] (unhide HV15) ?_; intro wv hown hgrow; have HO34 := hide hown; have HGV := hide hgrow; clear hown hgrow)
        | (at_mapUpdate; refine wpList_mapUpdate_own _ rfl _ _ _ 88 rfl 9 3 (string_keyed Tryz.underlying9) under49 (plainElem Tryz.prog 3) w.heap.size 32 (symD 32) rfl (unhide HO32) (by unfold maxLen; decide) _ _ _ rfl rfl (unhide HM ⟨#[194, 181]⟩ (by decide)) _ [] (unhide HV15) ?_; intro wu hown hgrow; have HO33 : Hid (wu.ownsMap Tryz.prog 9 (plainElem Tryz.prog 3) w.heap.size 33 symE) := hown; have HGU := hide hgrow; clear hown hgrow))
      go_ret
      have hb1 : Below w.heap.size w wu := (unhide HB).1.grown (unhide HGU) (by have h := (unhide HB).2; omega) (fun j hj => by cases hj; exact Nat.le_refl _)
      exact ⟨rfl, unhide HO34, hb1.grown (unhide HGV) hb1.size (fun j hj => by cases hj; exact Nat.le_refl _)⟩
end Go.Proofs.YtpoapffbpgnkpaaGreatDoor

namespace Go.Proofs.YtpoapffbpgnkpaaGreatDoor
open Go.RowKit Go.Maps Go.ChangeMaps Go.WideMaps
/-- The symbols in their order. -/
def keysN : List (List UInt8 × Nat) := [([69], 7), ([69, 105], 29), ([71], 4), ([71, 105], 26), ([75, 105], 24), ([77], 3), ([77, 105], 25), ([80], 6), ([80, 105], 28), ([81], 11), ([82], 10), ([84], 5), ([84, 105], 27), ([89], 9), ([89, 105], 31), ([90], 8), ([90, 105], 30), ([97], 19), ([99], 13), ([100], 12), ([100, 97], 0), ([102], 18), ([104], 1), ([107], 2), ([109], 14), ([110], 16), ([112], 17), ([113], 23), ([114], 22), ([117], 15), ([121], 21), ([122], 20), ([194, 181], 15), ([206, 188], 15)]
def entN (q : List UInt8 × Nat) : Lit × DataW Unit := (.string q.1, .lit (.int .i64 (q.2 : Int)))
theorem symAll_eq : symAll = .map (keysN.map entN) := by kernel_rfl
def okQ (q : List UInt8 × Nat) : Bool := decide (q.2 < 32) && foundB ⟨q.1.toArray⟩ q.2 && (List.range q.2).all (fun i => !foundB ⟨q.1.toArray⟩ i)
theorem keys_ok : keysN.all okQ = true := by decide +kernel
theorem keys_sy : (List.range 32).all (fun k => keysN.any (fun q => q.1 == (tbl k).sy.data.toList)) = true := by decide +kernel
def symH (s : ByteArray) : Bool := has symAll (.string s.data.toList)
def symC (s : ByteArray) : Int := match symAll.atKey (.string s.data.toList) (.lit (.int .i64 0)) with | .lit (.int _ c) => c | _ => 0
theorem same_str (a b : List UInt8) : (Lit.string a).sameKey (.string b) = (a == b) := rfl
theorem find_yes (s : ByteArray) (h : symH s = true) : ∃ n : Nat, n < 32 ∧ symC s = (n : Int) ∧ IsFirst (foundB s) (n : Int) := by
  unfold symH at h
  rw [symAll_eq, has_eq, List.any_map] at h
  have hf : (keysN.find? (fun q => q.1 == s.data.toList)).isSome = true := by
    rw [List.find?_isSome]
    obtain ⟨q, hq, h2⟩ := List.any_eq_true.1 h
    exact ⟨q, hq, h2⟩
  obtain ⟨q, hq⟩ := Option.isSome_iff_exists.1 hf
  have hmem := List.mem_of_find?_eq_some hq
  have he : q.1 = s.data.toList := by have := List.find?_some hq; simpa using this
  have hc : symC s = (q.2 : Int) := by
    unfold symC
    rw [symAll_eq]
    unfold DataW.atKey
    dsimp only
    rw [List.find?_map]
    have e : ((fun p : Lit × DataW Unit => p.1.sameKey (.string s.data.toList)) ∘ entN) = (fun q => q.1 == s.data.toList) := rfl
    rw [e, hq]
    rfl
  have ho := List.all_eq_true.1 keys_ok q hmem
  simp only [okQ, Bool.and_eq_true, decide_eq_true_eq] at ho
  have hs : (⟨q.1.toArray⟩ : ByteArray) = s := by rw [he]
  rw [hs] at ho
  refine ⟨q.2, ho.1.1, hc, Or.inl ⟨q.2, ho.1.1, rfl, ho.1.2, fun i hi => ?_⟩⟩
  have := List.all_eq_true.1 ho.2 i (by simpa using hi)
  simpa using this
theorem find_not (s : ByteArray) (h : symH s = false) (k : Nat) (hk : k < 32) : foundB s k = nameB s k := by
  unfold symH at h
  rw [symAll_eq, has_eq, List.any_map] at h
  have hne : ∀ q ∈ keysN, q.1 ≠ s.data.toList := fun q hq e => by
    have := List.any_eq_false.1 h q hq
    exact this (by show ((entN q).1.sameKey (.string s.data.toList)) = true; rw [show (entN q).1 = .string q.1 from rfl, same_str, e]; simp)
  have hsy : ∀ j, j < 32 → (tbl j).sy.data.toList ≠ s.data.toList := fun j hj e => by
    obtain ⟨q, hq, h2⟩ := List.any_eq_true.1 (List.all_eq_true.1 keys_sy j (by simpa using hj))
    exact hne q hq ((by simpa using h2 : q.1 = (tbl j).sy.data.toList).trans e)
  have hu : ([117] : List UInt8) ≠ s.data.toList := fun e => hne ([117], 15) (by decide +kernel) e
  have hmu : ([194, 181] : List UInt8) ≠ s.data.toList := fun e => hne ([194, 181], 15) (by decide +kernel) e
  unfold foundB nameB symB
  simp only [ByteArray.toList_eq]
  have b1 : (s.data.toList == (tbl k).sy.data.toList) = false := beq_eq_false_iff_ne.2 fun e => hsy k hk e.symm
  have b2 : (s.data.toList == [117]) = false := beq_eq_false_iff_ne.2 fun e => hu e.symm
  have b3 : (s.data.toList == [194, 181]) = false := beq_eq_false_iff_ne.2 fun e => hmu e.symm
  rw [b1, b2, b3]
  simp
theorem isFirst_congr {p q : Nat → Bool} {j : Int} (h : IsFirst p j) (e : ∀ k, k < 32 → q k = p k) : IsFirst q j := by
  rcases h with ⟨k, hk, rfl, h1, h2⟩ | ⟨rfl, h2⟩
  · exact Or.inl ⟨k, hk, rfl, (e k hk).trans h1, fun i hi => (e i (by omega)).trans (h2 i hi)⟩
  · exact Or.inr ⟨rfl, fun i hi => (e i hi).trans (h2 i hi)⟩
theorem symbols_look (s : ByteArray) (hs : s.size ≤ maxLen) (w : World) : Calls Tryz.prog 39 #[] w fun r w' => r = .returned (.map (some w.heap.size)) ∧ (Instr.lookup 88 (.map (some w.heap.size)) (.string s) true).run Tryz.prog w' = .ok (.tuple #[.int .i64 (symC s), .bool (symH s)]) w' ∧ Below w.heap.size w w' := by
  refine (symbols_any w).mono fun r w' ⟨h1, h2, h3⟩ => ⟨h1, ?_, h3⟩
  obtain ⟨v, ps, hrun, hv⟩ := h2.look_ok (string_keyed Tryz.underlying9) under49 (zero3 w') (plainElem_int Tryz.underlying3 (by decide)) (keyOf_string_mk Tryz.underlying9 hs)
  obtain ⟨c, rfl, hc, _⟩ := plainElem_int_inv Tryz.underlying3 hv
  have hc1 := congrArg Prod.fst hc
  have e : symC s = c := by unfold symC; rw [show symAll.atKey (.string s.data.toList) (.lit (.int .i64 0)) = .lit (.int .i64 c) from hc1]
  rw [hrun, e]
  rfl
/-- The first that the document finds is unique. -/
theorem first_unique {p : Nat → Bool} {i j : Int} (h1 : IsFirst p i) (h2 : IsFirst p j) : i = j := by
  rcases h1 with ⟨a, ha, rfl, pa, na⟩ | ⟨rfl, na⟩ <;> rcases h2 with ⟨b, hb, rfl, pb, nb⟩ | ⟨rfl, nb⟩
  · have h3 : ¬ a < b := fun h => by rw [nb a h] at pa; cases pa
    have h4 : ¬ b < a := fun h => by rw [na b h] at pb; cases pb
    omega
  · rw [nb a ha] at pa; cases pa
  · rw [na b hb] at pb; cases pb
  · rfl
end Go.Proofs.YtpoapffbpgnkpaaGreatDoor

namespace Go.Proofs.YtpoapffbpgnkpaaGreatDoor
open Go.RowKit
/-- The first of n that answers, or none. -/
def FirstU (p : Nat → Bool) (n : Nat) (j : Int) : Prop := (∃ k : Nat, k < n ∧ j = (k : Int) ∧ p k = true ∧ ∀ i, i < k → p i = false) ∨ (j = -1 ∧ ∀ i, i < n → p i = false)
theorem noneU_succ {p : Nat → Bool} {k : Nat} (h : ∀ i, i < k → p i = false) (hk : p k = false) : ∀ i, i < k + 1 → p i = false := fun i hi => by
  by_cases e : i = k
  · rw [e]; exact hk
  · exact h i (by omega)
def plainU (s : ByteArray) (us : Nat → UV) (k : Nat) : Bool := plainB s (us k).nm (us k).sy
set_option maxRecDepth 100000 in
set_option maxHeartbeats 2000000 in
theorem uindex_any (s : ByteArray) (a : Option Addr) (n cap : Nat) (us : Nat → UV) (b : Nat) (w : World) (hU : InU w a n us) (hn : n ≤ maxLen) (hb : w.cell? ⟨b, 0, none⟩ = some (.string s)) (hlt : b < w.heap.size) :
    Calls Tryz.prog 13 #[.slice a n cap, .func (.func 14) #[] #[.pointer (some ⟨b, 0, none⟩)]] w fun r w' => ∃ j : Int, r = .returned (.int .i64 j) ∧ FirstU (plainU s us) n j ∧ Below w.heap.size w w' := by
  have HU := hide hU; have HBC := hide hb
  unfold maxLen at hn
  clear hU hb
  go_enter Tryz.func13, Tryz.ntmps13
  go_wp2_with fail
  go_loopw [8] (fun s8 wr => ∃ (k : Nat), k ≤ n ∧ s8 = .int .i64 (k : Int) ∧ Hid (∀ i, i < k → plainU s us i = false) ∧ Hid (Below w.heap.size w wr)) (fun s8 _ => n - (intOf s8).toNat)
  case atStart => exact ⟨0, by omega, rfl, fun i hi => absurd hi (by omega), Below.refl _ _⟩
  case round =>
    obtain ⟨k, hk, rfl, HN, HB⟩ := hrel
    by_cases hkn : k < n
    · have hkI : (k : Int) < (n : Int) := by omega
      have hk0 : (0 : Int) ≤ (k : Int) := by omega
      obtain ⟨g, o, rfl, hg, hr⟩ := ((unhide HU).later (unhide HB)) (by omega)
      have hrow := hr k hkn
      clear hr
      have HC : Hid (∀ W, Below wr.heap.size wr W → Calls Tryz.prog 14 #[(us k).v, .pointer (some ⟨b, 0, none⟩)] W fun r w' => r = .returned (.bool (plainU s us k)) ∧ Below W.heap.size W w') := fun W hW =>
        plain_any _ _ _ _ _ _ _ _ _ _ _ _ _ _ _ s b W (((unhide HB).trans (hW.mono (unhide HB).size)).cell (p := ⟨b, 0, none⟩) hlt |>.trans (unhide HBC)) (Nat.lt_of_lt_of_le hlt (((unhide HB).trans (hW.mono (unhide HB).size)).size))
      unfold UV.v at HC
      have HNK := hide (fun (e : plainU s us k = false) => noneU_succ (unhide HN) e)
      have HYK := hide (fun (e : plainU s us k = true) => (Or.inl ⟨k, hkn, rfl, e, unhide HN⟩ : FirstU (plainU s us) n (k : Int)))
      have c0 := hrow.c0; have c1 := hrow.c1; have c2 := hrow.c2; have c3 := hrow.c3; have c4 := hrow.c4; have c5 := hrow.c5; have c6 := hrow.c6; have c7 := hrow.c7; have c8 := hrow.c8; have c9 := hrow.c9; have c10 := hrow.c10; have c11 := hrow.c11; have c12 := hrow.c12; have c13 := hrow.c13; have c14 := hrow.c14
      clear hrow
      generalize us k = u at c0 c1 c2 c3 c4 c5 c6 c7 c8 c9 c10 c11 c12 c13 c14 HC
      obtain ⟨nm, sy, d0, d1, d2, d3, d4, d5, d6, d7, fn, fd, on, od, tk⟩ := u
      by_cases hB : plainU s us k = true
      · have HJ := hide (unhide HYK hB)
        rw [hB] at HC
        clear HNK HYK hB
        go_wp2_with (go_at_call 14; go_must (refine (unhide HC _ (Below.refl _ _)).mono ?_; rintro e wt ⟨rfl, hbt⟩; have HBT := hide hbt; clear hbt))
        go_ret
        exact ⟨_, rfl, unhide HJ, (unhide HB).trans ((unhide HBT).mono (unhide HB).size)⟩
      · have hB' : plainU s us k = false := by simpa using hB
        have HJ := hide (unhide HNK hB')
        rw [hB'] at HC
        clear HNK HYK hB hB'
        go_wp2_with (go_at_call 14; go_must (refine (unhide HC _ (Below.refl _ _)).mono ?_; rintro e wt ⟨rfl, hbt⟩; have HBT := hide hbt; clear hbt))
        go_roundw
        case rel => exact ⟨k + 1, by omega, by go_num, HJ, (unhide HB).trans ((unhide HBT).mono (unhide HB).size)⟩
        case measure => simp [intOf]; omega
    · have hkI : ¬ (k : Int) < (n : Int) := by omega
      go_wp2_with fail
      go_ret
      exact ⟨-1, rfl, Or.inr ⟨rfl, fun i hi => unhide HN i (by omega)⟩, unhide HB⟩
theorem firstU_unique {p : Nat → Bool} {n : Nat} {i j : Int} (hi : FirstU p n i) (hj : FirstU p n j) : i = j := by
  rcases hi with ⟨k, hk, rfl, h1, h2⟩ | ⟨rfl, h2⟩ <;> rcases hj with ⟨l, hl, rfl, g1, g2⟩ | ⟨rfl, g2⟩
  · have : ¬ k < l := fun h => by have := g2 k h; rw [h1] at this; cases this
    have : ¬ l < k := fun h => by have := h2 l h; rw [g1] at this; cases this
    omega
  · have := g2 k hk; rw [h1] at this; cases this
  · have := h2 l hl; rw [g1] at this; cases this
  · rfl
end Go.Proofs.YtpoapffbpgnkpaaGreatDoor

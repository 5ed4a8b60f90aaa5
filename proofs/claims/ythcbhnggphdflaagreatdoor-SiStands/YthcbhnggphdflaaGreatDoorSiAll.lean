/- si.Units (8). -/
import Derived.Test.YthcbhnggphdflaaGreatDoorLimb2
import Derived.Test.YthcbhnggphdflaaGreatDoorShelfB
import Derived.Test.YthcbhnggphdflaaGreatDoorReads2
import Derived.Test.YthcbhnggphdflaaGreatDoorFindS
import Derived.Deep.Onto
namespace Go.Proofs.YthcbhnggphdflaaGreatDoor
open Go.RowKit Go.Maps Go.ChangeMaps Go.WideMaps
set_option maxRecDepth 100000 in
set_option maxHeartbeats 4000000 in
theorem rightTakes_0 (nm sy fn fd : ByteArray) (d0 d1 d2 d3 d4 d5 d6 d7 : Int) (w : World) (htab : Tab w) :
  Calls Tryz.prog 84 #[.agg #[.string nm, .string sy, I d0, I d1, I d2, I d3, I d4, I d5, I d6, I d7, .string fn, .string fd, .string ⟨#[48]⟩, .string ⟨#[49]⟩, I 0]] w fun r w' => r = .returned (.bool true) ∧ Below w.heap.size w w' := by
 obtain ⟨V, hV⟩ : ∃ V, V = w.alloc (.cells #[.string nm, .string sy, I d0, I d1, I d2, I d3, I d4, I d5, I d6, I d7, .string fn, .string fd, .string ⟨#[48]⟩, .string ⟨#[49]⟩, I 0] 30) := ⟨_, rfl⟩
 have HU : Hid (OwnU V w.heap.size 30 #[.string nm, .string sy, I d0, I d1, I d2, I d3, I d4, I d5, I d6, I d7, .string fn, .string fd, .string ⟨#[48]⟩, .string ⟨#[49]⟩, I 0]) := by rw [hV]; exact OwnU.new _ _ _
 have HB : Hid (Below w.heap.size w V) := by rw [hV]; exact (Below.refl _ _).alloc (Nat.le_refl _) _
 have HTA : Hid (∀ W, Below w.heap.size w W → Tab W) := fun W h => htab.later h
 have HV := hide hV
 clear hV htab
 go_enter Tryz.func84, Tryz.ntmps84
 go_upto_region 1 with fail
 rw [← un HV]
 clear HV
 have u12 : V.cell? ⟨w.heap.size, 12, none⟩ = some (.string ⟨#[48]⟩) := (un HU).ub.c 12 _ rfl; have u13 : V.cell? ⟨w.heap.size, 13, none⟩ = some (.string ⟨#[49]⟩) := (un HU).ub.c 13 _ rfl; have u14 : V.cell? ⟨w.heap.size, 14, none⟩ = some (I 0) := (un HU).ub.c 14 _ rfl
 go_wp2_with fail
 go_ret
 exact ⟨rfl, un HB⟩
def lgB (s : ByteArray) : Nat → Nat → Int → List UInt8 → Bool
 | 0, _, _, _ => false
 | n + 1, p, f, acc => if p < s.size then Nm.contB p f (Utf8.decode s p).1 && lgB s n (p + (Utf8.decode s p).2) (Nm.firstOf p f (Utf8.decode s p).1) (acc ++ Lib.encodeRune (Nm.foldR (Utf8.decode s p).1)) else decide (acc = s.data.toList) && decide (p = s.size)
theorem lgB_sound {s : ByteArray} : ∀ (n p : Nat) (f : Int) (acc : List UInt8), lgB s n p f acc = true → Nm.Lg s p f acc s.data.toList s.size
 | 0, _, _, _, h => by cases h
 | n + 1, p, f, acc, h => by
  unfold lgB at h
  split at h
  ·rw [Bool.and_eq_true] at h
   exact lg_step _ _ _ (by assumption) h.1 rfl rfl rfl (lgB_sound n _ _ _ h.2)
  ·rw [Bool.and_eq_true, decide_eq_true_eq, decide_eq_true_eq] at h
   obtain ⟨rfl, rfl⟩ := h
   exact Nm.Lg.done _ _ _ (by assumption)
def okN (s : ByteArray) : Bool := lgB s 41 0 0 [] && decide (s.size ≠ 0) && decide (s.size ≤ 40) && decide (s.data.toList ≠ [105, 110])
theorem nameN {s : ByteArray} (h : okN s = true) (W : World) : Calls Tryz.prog 118 #[.string s] W fun r w' => r = .returned (.bool true) ∧ Below W.heap.size W w' := by
 unfold okN at h
 simp only [Bool.and_eq_true, decide_eq_true_eq] at h
 exact nameRight s W (lgB_sound 41 0 0 [] h.1.1.1) h.1.1.2 h.1.2 h.2
theorem isR_nil : IsR ⟨#[48]⟩ ⟨#[49]⟩ 0 := isR_lit2 _ _ 0 1 _ (by decide +kernel) (by decide +kernel) (by decide +kernel) (by decide) (by decide) (by decide) (by decide) (by decide) (by decide)
theorem dim34 (d0 d1 d2 d3 d4 d5 d6 d7 : Int) (h : Dm.rightB [d0, d1, d2, d3, d4, d5, d6, d7] = true) (W : World) : Calls Tryz.prog 34 #[.agg #[I d0, I d1, I d2, I d3, I d4, I d5, I d6, I d7]] W fun r w' => r = .returned (.bool true) ∧ Below W.heap.size W w' :=
 (Dm.right_any d0 d1 d2 d3 d4 d5 d6 d7 W).mono (by
  rintro e w' ⟨rfl, rfl⟩
  exact ⟨by rw [h], (Below.refl _ _).alloc (Nat.le_refl _) _⟩)
theorem right_gen (s : Su) (fn fd : ByteArray) (x : Rat) (hx : IsR fn fd x) (h0 : Cub.cmpQ x 0 = 1) (h : (okN s.nm && okN s.sy && Dm.rightB [s.e0, s.e1, s.e2, s.e3, s.e4, s.e5, s.e6, s.e7] && (s.tk == 0 || s.tk == 1 || s.tk == 3)) = true) (W : World) (ht : Tab W) : Calls Tryz.prog 45 #[.agg (ruA s fn fd)] W fun r w' => r = .returned (.bool true) ∧ Below W.heap.size W w' := by
 simp only [Bool.and_eq_true, Bool.or_eq_true, beq_iff_eq] at h
 obtain ⟨⟨⟨h1, h2⟩, h3⟩, h4⟩ := h
 refine rightUnit_any _ _ _ _ _ _ _ _ _ _ _ _ _ _ _ W (fun V _ => rightNames_any _ _ V (nameN h1) (nameN h2)) (fun V _ => dim34 _ _ _ _ _ _ _ _ h3 V) (fun V _ => above_any _ _ _ V hx h0) (fun V _ => ratRight_ok _ _ _ V isR_nil) (fun V hV => ?_)
 rcases h4 with (h4 | h4) | h4
 all_goals rw [h4]
 ·exact rightTakes_0 _ _ _ _ _ _ _ _ _ _ _ _ V (ht.later hV)
 ·exact rightTakes_1 _ _ _ _ _ _ _ _ _ _ _ _ V (ht.later hV)
 ·exact rightTakes_3 _ _ _ _ _ _ _ _ _ _ _ _ V (ht.later hV)
theorem right_su : ∀ k, k < 29 → ∀ W, Tab W → Calls Tryz.prog 45 #[.agg (ruT k)] W fun r w' => r = .returned (.bool true) ∧ Below W.heap.size W w'
 | 0, _ => right_gen _ _ _ _ isR_one (by decide +kernel) (by decide +kernel)
 | 1, _ => right_gen _ _ _ _ isR_one (by decide +kernel) (by decide +kernel)
 | 2, _ => right_gen _ _ _ _ isR_one (by decide +kernel) (by decide +kernel)
 | 3, _ => right_gen _ _ _ _ isR_one (by decide +kernel) (by decide +kernel)
 | 4, _ => right_gen _ _ _ _ isR_one (by decide +kernel) (by decide +kernel)
 | 5, _ => right_gen _ _ _ _ isR_one (by decide +kernel) (by decide +kernel)
 | 6, _ => right_gen _ _ _ _ isR_one (by decide +kernel) (by decide +kernel)
 | 7, _ => right_gen _ _ _ _ isR_one (by decide +kernel) (by decide +kernel)
 | 8, _ => right_gen _ _ _ _ isR_one (by decide +kernel) (by decide +kernel)
 | 9, _ => right_gen _ _ _ _ isR_one (by decide +kernel) (by decide +kernel)
 | 10, _ => right_gen _ _ _ _ isR_one (by decide +kernel) (by decide +kernel)
 | 11, _ => right_gen _ _ _ _ isR_one (by decide +kernel) (by decide +kernel)
 | 12, _ => right_gen _ _ _ _ isR_one (by decide +kernel) (by decide +kernel)
 | 13, _ => right_gen _ _ _ _ isR_one (by decide +kernel) (by decide +kernel)
 | 14, _ => right_gen _ _ _ _ isR_one (by decide +kernel) (by decide +kernel)
 | 15, _ => right_gen _ _ _ _ isR_one (by decide +kernel) (by decide +kernel)
 | 16, _ => right_gen _ _ _ _ isR_one (by decide +kernel) (by decide +kernel)
 | 17, _ => right_gen _ _ _ _ isR_one (by decide +kernel) (by decide +kernel)
 | 18, _ => right_gen _ _ _ _ isR_one (by decide +kernel) (by decide +kernel)
 | 19, _ => right_gen _ _ _ _ isR_one (by decide +kernel) (by decide +kernel)
 | 20, _ => right_gen _ _ _ _ isR_one (by decide +kernel) (by decide +kernel)
 | 21, _ => right_gen _ _ _ _ (isR_lit2 _ _ 60 1 (60 : Rat) (by decide +kernel) (by decide +kernel) (by decide +kernel) (by decide) (by decide) (by decide) (by decide) (by decide) (by decide)) (by decide +kernel) (by decide +kernel)
 | 22, _ => right_gen _ _ _ _ (isR_lit2 _ _ 3600 1 (3600 : Rat) (by decide +kernel) (by decide +kernel) (by decide +kernel) (by decide) (by decide) (by decide) (by decide) (by decide) (by decide)) (by decide +kernel) (by decide +kernel)
 | 23, _ => right_gen _ _ _ _ (isR_lit2 _ _ 86400 1 (86400 : Rat) (by decide +kernel) (by decide +kernel) (by decide +kernel) (by decide) (by decide) (by decide) (by decide) (by decide) (by decide)) (by decide +kernel) (by decide +kernel)
 | 24, _ => right_gen _ _ _ _ isR_milli (by decide +kernel) (by decide +kernel)
 | 25, _ => right_gen _ _ _ _ (isR_lit2 _ _ 1000 1 (1000 : Rat) (by decide +kernel) (by decide +kernel) (by decide +kernel) (by decide) (by decide) (by decide) (by decide) (by decide) (by decide)) (by decide +kernel) (by decide +kernel)
 | 26, _ => right_gen _ _ _ _ (isR_lit2 _ _ 100000 1 (100000 : Rat) (by decide +kernel) (by decide +kernel) (by decide +kernel) (by decide) (by decide) (by decide) (by decide) (by decide) (by decide)) (by decide +kernel) (by decide +kernel)
 | 27, _ => right_gen _ _ _ _ (isR_lit2 _ _ 10000 1 (10000 : Rat) (by decide +kernel) (by decide +kernel) (by decide +kernel) (by decide) (by decide) (by decide) (by decide) (by decide) (by decide)) (by decide +kernel) (by decide +kernel)
 | 28, _ => right_gen _ _ _ _ (isR_lit2 _ _ 8 1 (8 : Rat) (by decide +kernel) (by decide +kernel) (by decide +kernel) (by decide) (by decide) (by decide) (by decide) (by decide) (by decide)) (by decide +kernel) (by decide +kernel)
 | _ + 29, h => absurd h (by omega)
def DDs : Nat → DataW Unit
 | 0 => .map []
 | k + 1 => ((DDs k).put (.string (sut k).nm.data.toList) (.lit (.bool true))).put (.string (sut k).sy.data.toList) (.lit (.bool true))
theorem hasS_nm : ∀ k, k < 29 → Maps.has (DDs k) (.string (sut k).nm.data.toList) = false
 | 0, _ => by kernel_rfl
 | 1, _ => by kernel_rfl
 | 2, _ => by kernel_rfl
 | 3, _ => by kernel_rfl
 | 4, _ => by kernel_rfl
 | 5, _ => by kernel_rfl
 | 6, _ => by kernel_rfl
 | 7, _ => by kernel_rfl
 | 8, _ => by kernel_rfl
 | 9, _ => by kernel_rfl
 | 10, _ => by kernel_rfl
 | 11, _ => by kernel_rfl
 | 12, _ => by kernel_rfl
 | 13, _ => by kernel_rfl
 | 14, _ => by kernel_rfl
 | 15, _ => by kernel_rfl
 | 16, _ => by kernel_rfl
 | 17, _ => by kernel_rfl
 | 18, _ => by kernel_rfl
 | 19, _ => by kernel_rfl
 | 20, _ => by kernel_rfl
 | 21, _ => by kernel_rfl
 | 22, _ => by kernel_rfl
 | 23, _ => by kernel_rfl
 | 24, _ => by kernel_rfl
 | 25, _ => by kernel_rfl
 | 26, _ => by kernel_rfl
 | 27, _ => by kernel_rfl
 | 28, _ => by kernel_rfl
 | _ + 29, h => absurd h (by omega)
theorem hasS_sy : ∀ k, k < 29 → Maps.has (DDs k) (.string (sut k).sy.data.toList) = false
 | 0, _ => by kernel_rfl
 | 1, _ => by kernel_rfl
 | 2, _ => by kernel_rfl
 | 3, _ => by kernel_rfl
 | 4, _ => by kernel_rfl
 | 5, _ => by kernel_rfl
 | 6, _ => by kernel_rfl
 | 7, _ => by kernel_rfl
 | 8, _ => by kernel_rfl
 | 9, _ => by kernel_rfl
 | 10, _ => by kernel_rfl
 | 11, _ => by kernel_rfl
 | 12, _ => by kernel_rfl
 | 13, _ => by kernel_rfl
 | 14, _ => by kernel_rfl
 | 15, _ => by kernel_rfl
 | 16, _ => by kernel_rfl
 | 17, _ => by kernel_rfl
 | 18, _ => by kernel_rfl
 | 19, _ => by kernel_rfl
 | 20, _ => by kernel_rfl
 | 21, _ => by kernel_rfl
 | 22, _ => by kernel_rfl
 | 23, _ => by kernel_rfl
 | 24, _ => by kernel_rfl
 | 25, _ => by kernel_rfl
 | 26, _ => by kernel_rfl
 | 27, _ => by kernel_rfl
 | 28, _ => by kernel_rfl
 | _ + 29, h => absurd h (by omega)
theorem small_su : ∀ k, k < 29 → (sut k).nm.size ≤ maxLen ∧ (sut k).sy.size ≤ maxLen
 | 0, _ => ⟨by decide, by decide⟩
 | 1, _ => ⟨by decide, by decide⟩
 | 2, _ => ⟨by decide, by decide⟩
 | 3, _ => ⟨by decide, by decide⟩
 | 4, _ => ⟨by decide, by decide⟩
 | 5, _ => ⟨by decide, by decide⟩
 | 6, _ => ⟨by decide, by decide⟩
 | 7, _ => ⟨by decide, by decide⟩
 | 8, _ => ⟨by decide, by decide⟩
 | 9, _ => ⟨by decide, by decide⟩
 | 10, _ => ⟨by decide, by decide⟩
 | 11, _ => ⟨by decide, by decide⟩
 | 12, _ => ⟨by decide, by decide⟩
 | 13, _ => ⟨by decide, by decide⟩
 | 14, _ => ⟨by decide, by decide⟩
 | 15, _ => ⟨by decide, by decide⟩
 | 16, _ => ⟨by decide, by decide⟩
 | 17, _ => ⟨by decide, by decide⟩
 | 18, _ => ⟨by decide, by decide⟩
 | 19, _ => ⟨by decide, by decide⟩
 | 20, _ => ⟨by decide, by decide⟩
 | 21, _ => ⟨by decide, by decide⟩
 | 22, _ => ⟨by decide, by decide⟩
 | 23, _ => ⟨by decide, by decide⟩
 | 24, _ => ⟨by decide, by decide⟩
 | 25, _ => ⟨by decide, by decide⟩
 | 26, _ => ⟨by decide, by decide⟩
 | 27, _ => ⟨by decide, by decide⟩
 | 28, _ => ⟨by decide, by decide⟩
 | _ + 29, h => absurd h (by omega)
def usS (k : Nat) : List (Array Value) := (List.range k).map fun i => ruT i
theorem usS_succ (k : Nat) : usS (k + 1) = usS k ++ [ruT k] := by unfold usS; rw [List.range_succ, List.map_append]; rfl
theorem usS_len (k : Nat) : (usS k).length = k := by simp [usS]
theorem usS_is (n k : Nat) (u : Array Value) (h : (usS n)[k]? = some u) : IsU u := by
 unfold usS at h
 rw [List.getElem?_map] at h
 obtain ⟨i, _, rfl⟩ := Option.map_eq_some_iff.1 h
 exact ⟨_, _, _, _, _, _, _, _, _, _, _, _, _, _, _, rfl⟩
end Go.Proofs.YthcbhnggphdflaaGreatDoor

namespace Go.Proofs.YthcbhnggphdflaaGreatDoor
open Go.RowKit Go.Maps Go.ChangeMaps Go.WideMaps
theorem RG.withK {W : World} {K K' : Nat → Nat → Array Value → Prop} {base r m n : Nat} {vs : Value} {ps : List Nat} {us : List (Array Value)} {D : DataW Unit} (h : RG W K base r m vs ps us n D) (hk : ∀ (g ty : Nat) (us : Array Value), K' g ty us → ty ≠ 84 ∧ ty ≠ 100 ∧ OwnU W g ty us) : RG W K' base r m vs ps us n D := ⟨h.k0, h.row, h.mp, h.un, h.bs, hk⟩
def KS (gp gs : Nat) (pa cur : Array Value) : Nat → Nat → Array Value → Prop := fun b ty us => (b = gp ∧ ty = 48 ∧ us = pa) ∨ (b = gs ∧ ty = 57 ∧ us = cur)
theorem R13.same {W V : World} {g k : Nat} (h : R13 W g k) (e : V.heap[g]? = W.heap[g]?) : R13 V g k := by
 have c : ∀ o, V.cell? ⟨g, o, none⟩ = W.cell? ⟨g, o, none⟩ := fun o => by simp only [World.cell?, e]
 exact ⟨(c _).trans h.c0, (c _).trans h.c1, (c _).trans h.c2, (c _).trans h.c3, (c _).trans h.c4, (c _).trans h.c5, (c _).trans h.c6, (c _).trans h.c7, (c _).trans h.c8, (c _).trans h.c9, (c _).trans h.c10, (c _).trans h.c11, (c _).trans h.c12⟩
theorem addS (K : Nat → Nat → Array Value → Prop) (k : Nat) (hk : k < 29) (r m : Nat) (vs : Value) (ps : List Nat) (w W : World) (htab : Tab w) (h : RG W K w.heap.size r m vs ps (usS k) (2 * k) (DDs k)) (hl : ps.length = k) (hb : Below w.heap.size w W) (hm : w.heap.size ≤ m) (hr : w.heap.size ≤ r) :
  Calls Tryz.prog 22 #[.pointer (some ⟨r, 0, none⟩), .agg (ruT k)] W fun e w' => e = .returned (I 0) ∧ (∃ p v', RG w' K w.heap.size r m v' (ps ++ [p]) (usS (k + 1)) (2 * (k + 1)) (DDs (k + 1))) ∧ Below w.heap.size w w' := by
 rw [usS_succ]
 exact add_any _ _ _ _ _ _ _ _ _ _ _ _ _ _ _ w.heap.size r m (2 * k) vs ps (usS k) (DDs k) w W h (by rw [usS_len, hl]) hb hm hr (by omega) (by omega) (small_su k hk).1 (small_su k hk).2 (fun V hV => right_su k hk V (htab.later (hb.trans (hV.mono hb.size)))) (hasS_nm k hk) (hasS_sy k hk)
set_option maxRecDepth 100000 in
set_option maxHeartbeats 8000000 in
theorem siUnits (w : World) (htab : Tab w) : Calls Tryz.prog 8 #[] w fun e w' => ∃ v, e = .returned v ∧ w'.ownsRow w.heap.size 30 15 v 29 (flatU (usS 29) 29) ∧ Below w.heap.size w w' := by
 obtain ⟨pa, hpa⟩ : ∃ pa, pa = partsA := ⟨_, rfl⟩
 have HZ : Hid (pa.size = 120) := by rw [hpa]; exact partsA_size
 have HON : Hid (pa.all (·.oneCell') = true) := by rw [hpa]; exact partsA_ones
 have HPA : Hid (∀ W, Below w.heap.size w W → Calls Tryz.prog 20 #[] W fun r w' => r = .returned (.agg pa) ∧ Below W.heap.size W w') := by rw [hpa]; exact fun W h => parts_si W (htab.later h)
 have HTO : Hid (∀ k, k < 29 → ∀ W, Below w.heap.size w W → Calls Tryz.prog 23 #[.agg (suA (sut k)), .agg pa] W fun r w' => r = .returned (.agg (ruT k)) ∧ Below W.heap.size W w') := by rw [hpa]; exact fun k hk W h => told_su k hk W (htab.later h)
 clear hpa
 have HT := hide htab
 clear htab
 go_enter Tryz.func8, Tryz.ntmps8
 go_upto_region 2 with (first
  | (go_at_call 19; go_must (refine (new_any _).mono ?_; rintro e w1 ⟨rfl, hr, hb⟩; have HR1 := hide hr; have HB1 := hide hb; clear hr hb))
  | (go_at_call 20; go_must (refine (un HPA _ (un HB1)).mono ?_; rintro e w2 ⟨rfl, hb⟩; have HR2 := hide ((un HR1).later hb); have HB2 : Hid (Below w.heap.size w w2) := (un HB1).trans (hb.mono (un HB1).size); clear hb HR1 HB1))
  | (refine storeT 48 120 info48 rfl (.tmp 2) (.tmp 6) rfl w2.heap.size Tryz.zeroCells48 pa z48 (un HZ) rfl rfl (OwnU.new _ _ _) (un HON) ?_))
 have hb3 : Below w2.heap.size w2 ((w2.alloc (.cells Tryz.zeroCells48 48)).setRow w2.heap.size pa) := below_setRow (albel _ _) (Nat.le_refl _) _
 have HP3 : Hid (OwnU ((w2.alloc (.cells Tryz.zeroCells48 48)).setRow w2.heap.size pa) w2.heap.size 48 pa) := (OwnU.new _ _ _).setRow _
 have HR3 := hide ((un HR2).later hb3)
 have HB3 : Hid (Below w.heap.size w _) := (un HB2).trans (hb3.mono (un HB2).size)
 clear hb3 HR2 HB2
 generalize (w2.alloc (.cells Tryz.zeroCells48 48)).setRow w2.heap.size pa = w3 at *
 generalize w2.heap.size = gp at *
 go_upto_region 3 with (go_at_call 21; go_must (refine (units_si _).mono ?_; rintro e w4 ⟨v, rfl, ho, hb⟩; have HOW := hide ho; have HR4 := hide ((un HR3).later hb); have HP4 := hide ((un HP3).later hb); have HB4 : Hid (Below w.heap.size w w4) := (un HB3).trans (hb.mono (un HB3).size); clear ho hb HR3 HP3 HB3; obtain ⟨gR, cap, rfl⟩ := Joins.ownsRow_form (un HOW) (by decide)))
 obtain ⟨cur, hcur⟩ : ∃ cur, OwnU w4 gR 57 cur := by
  rcases (un HOW).2 with ⟨e, _⟩ | ⟨g, cp, cur, e, _, hh, _⟩
  ·cases e
  ·cases e
   exact ⟨cur, hh⟩
 have HRW : Hid (∀ V, OwnU V gR 57 cur → ∀ k, k < 29 → R13 V gR k) := fun V hV k hk => (rows13_at (un HOW) k hk).same (hV.trans hcur.symm)
 have HR5 : Hid (RG w4 (KS gp gR pa cur) w.heap.size (w.heap.size + 1) w.heap.size (.slice none 0 0) [] [] 0 (.map [])) := (un HR4).withK (by
  rintro g ty us (⟨rfl, rfl, rfl⟩ | ⟨rfl, rfl, rfl⟩)
  ·exact ⟨by decide, by decide, un HP4⟩
  ·exact ⟨by decide, by decide, hcur⟩)
 obtain ⟨r, hr⟩ : ∃ r, r = w.heap.size + 1 := ⟨_, rfl⟩
 have HRB : Hid (w.heap.size ≤ r) := by show _ ≤ _; omega
 rw [← hr] at HR5 ⊢
 clear hr HR4 HP4 hcur HOW
 go_loopw [9] (fun s9 wr => ∃ (k : Nat) (ps : List Nat) (vs : Value), k ≤ 29 ∧ s9 = I (k : Int) ∧ Hid (ps.length = k) ∧ Hid (RG wr (KS gp gR pa cur) w.heap.size r w.heap.size vs ps (usS k) (2 * k) (DDs k)) ∧ Hid (Below w.heap.size w wr)) (fun s9 _ => 29 - (intOf s9).toNat)
 case atStart => exact ⟨0, [], _, by omega, rfl, rfl, HR5, HB4⟩
 case round =>
  clear HR5 HB4
  obtain ⟨k, ps, vs, hk, rfl, HL, HR, HB⟩ := hrel
  by_cases hlt : k < 29
  ·have hkI : (k : Int) < 29 := by omega
   have hk0 : (0 : Int) ≤ (k : Int) := by omega
   have hrow := un HRW wr ((un HR).ex gR 57 cur (Or.inr ⟨rfl, rfl, rfl⟩)).2.2 k hlt
   have c0 := hrow.c0; have c1 := hrow.c1; have c2 := hrow.c2; have c3 := hrow.c3; have c4 := hrow.c4; have c5 := hrow.c5; have c6 := hrow.c6; have c7 := hrow.c7; have c8 := hrow.c8; have c9 := hrow.c9; have c10 := hrow.c10; have c11 := hrow.c11; have c12 := hrow.c12
   clear hrow
   have HTD := hide (un HTO k hlt)
   have HAD : Hid (∀ W, RG W (KS gp gR pa cur) w.heap.size r w.heap.size vs ps (usS k) (2 * k) (DDs k) → Below w.heap.size w W → Calls Tryz.prog 22 #[.pointer (some ⟨r, 0, none⟩), .agg (ruT k)] W fun e w' => e = .returned (I 0) ∧ (∃ p v', RG w' (KS gp gR pa cur) w.heap.size r w.heap.size v' (ps ++ [p]) (usS (k + 1)) (2 * (k + 1)) (DDs (k + 1))) ∧ Below w.heap.size w w') := fun W h1 h2 => addS _ k hlt r _ vs ps w W (un HT) h1 (un HL) h2 (Nat.le_refl _) (un HRB)
   unfold suA at HTD
   generalize ruT k = out at *
   generalize (sut k).nm = nm at *
   generalize (sut k).sy = sy at *
   generalize (sut k).tk = tk at *
   generalize (sut k).e0 = x0 at *
   generalize (sut k).e1 = x1 at *
   generalize (sut k).e2 = x2 at *
   generalize (sut k).e3 = x3 at *
   generalize (sut k).e4 = x4 at *
   generalize (sut k).e5 = x5 at *
   generalize (sut k).e6 = x6 at *
   generalize (sut k).e7 = x7 at *
   generalize (sut k).n = x8 at *
   generalize (sut k).d = x9 at *
   go_upto_region 5 with (refine storeT 57 13 info57s rfl (.tmp 4) (.tmp 12) rfl wr.heap.size z13 #[.string nm, .string sy, I tk, I x0, I x1, I x2, I x3, I x4, I x5, I x6, I x7, I x8, I x9] rfl rfl rfl rfl (OwnU.new _ _ _) (by kernel_rfl) ?_)
   clear c0 c1 c2 c3 c4 c5 c6 c7 c8 c9 c10 c11 c12
   have hb2 : Below wr.heap.size wr ((wr.alloc (.cells z13 57)).setRow wr.heap.size #[.string nm, .string sy, I tk, I x0, I x1, I x2, I x3, I x4, I x5, I x6, I x7, I x8, I x9]) := below_setRow (albel _ _) (Nat.le_refl _) _
   have HX : Hid (OwnU ((wr.alloc (.cells z13 57)).setRow wr.heap.size #[.string nm, .string sy, I tk, I x0, I x1, I x2, I x3, I x4, I x5, I x6, I x7, I x8, I x9]) wr.heap.size 57 #[.string nm, .string sy, I tk, I x0, I x1, I x2, I x3, I x4, I x5, I x6, I x7, I x8, I x9]) := (OwnU.new _ _ _).setRow _
   have HR3 := hide ((un HR).later hb2)
   have HB3 : Hid (Below w.heap.size w _) := (un HB).trans (hb2.mono (un HB).size)
   clear hb2 HR HB
   generalize (wr.alloc (.cells z13 57)).setRow wr.heap.size #[.string nm, .string sy, I tk, I x0, I x1, I x2, I x3, I x4, I x5, I x6, I x7, I x8, I x9] = w5 at *
   generalize wr.heap.size = g4 at *
   have HPX : Hid (OwnU w5 gp 48 pa) := ((un HR3).ex gp 48 pa (Or.inl ⟨rfl, rfl, rfl⟩)).2.2
   have d0 := (un HX).ub.c 0 _ rfl; have d1 := (un HX).ub.c 1 _ rfl; have d2 := (un HX).ub.c 2 _ rfl; have d3 := (un HX).ub.c 3 _ rfl; have d4 := (un HX).ub.c 4 _ rfl; have d5 := (un HX).ub.c 5 _ rfl; have d6 := (un HX).ub.c 6 _ rfl; have d7 := (un HX).ub.c 7 _ rfl; have d8 := (un HX).ub.c 8 _ rfl; have d9 := (un HX).ub.c 9 _ rfl; have d10 := (un HX).ub.c 10 _ rfl; have d11 := (un HX).ub.c 11 _ rfl; have d12 := (un HX).ub.c 12 _ rfl
   go_wp2_with (first
    | (refine wpList_load_row rfl 48 (.tmp 2) rfl gp rfl 48 pa (0, 0) _ (un HPX) Tryz.underlying48 rfl (by rw [info48, un HZ]) ?_)
    | (go_at_call 23; go_must (refine (un HTD _ (un HB3)).mono ?_; rintro e wt ⟨rfl, hbt⟩; have HR4 := hide ((un HR3).later hbt); have HB4 : Hid (Below w.heap.size w wt) := (un HB3).trans (hbt.mono (un HB3).size); clear hbt d0 d1 d2 d3 d4 d5 d6 d7 d8 d9 d10 d11 d12))
    | (go_at_call 22; go_must (refine (un HAD _ (un HR4) (un HB4)).mono ?_; rintro e wu ⟨rfl, ⟨p, v', hr5⟩, hb5⟩; have HR5 := hide hr5; have HB5 := hide hb5; clear hr5 hb5)))
   go_roundw
   case rel => exact ⟨k + 1, ps ++ [p], v', by omega, by go_num, (by have h := un HL; show (ps ++ [p]).length = k + 1; rw [List.length_append, h]; rfl), HR5, HB5⟩
   case measure => simp [intOf]; omega
  ·have hkI : ¬ (k : Int) < 29 := by omega
   have HK : Hid (k = 29) := by show k = 29; omega
   have HUN : Hid (Calls Tryz.prog 24 #[.pointer (some ⟨r, 0, none⟩)] wr fun e w' => ∃ v, e = .returned v ∧ w'.ownsRow wr.heap.size 30 15 v 29 (flatU (usS 29) 29) ∧ Below wr.heap.size wr w') := by
    have h := un HR
    have hl := un HL
    rw [un HK] at h hl
    have hh := units_any _ _ _ _ _ _ _ _ wr h (by rw [usS_len, hl]) (by omega) (by omega) (usS_is 29)
    rw [hl] at hh
    exact hh
   go_wp2_with (go_at_call 24; go_must (refine (un HUN).mono ?_; rintro e wt ⟨v, rfl, ho, hbt⟩; have HO := hide ho; have HB4 : Hid (Below w.heap.size w wt) := (un HB).trans (hbt.mono (un HB).size); clear hbt ho))
   go_ret
   exact ⟨v, rfl, (un HO).mono (un HB).size, un HB4⟩
end Go.Proofs.YthcbhnggphdflaaGreatDoor

/- The document's number times ten to a power. -/
import Derived.Test.YtifalmdoligblaaGreatDoorRefFPA
import Derived.Test.YtifalmdoligblaaGreatDoorQuo
namespace Go.Proofs.YtifalmdoligblaaGreatDoor
open Go.RowKit

set_option maxRecDepth 100000 in
set_option maxHeartbeats 2000000 in
theorem refFPlusB (b c rb : Bool) (s1 t1 s2 t2 x y d n rn rd : ByteArray) (w : World) (k : Int) (hbc : b ≠ c) (hk : 0 ≤ k)
    (h6 : ∀ W, Calls Tryz.prog 124 #[.string x, .string y] W fun e w' => e = .returned (.int .i64 k) ∧ w' = W)
    (h4 : ∀ W, Calls Tryz.prog 121 #[.string x, .string y] W fun e w' => e = .returned (.string n) ∧ Below W.heap.size W w')
    (h1 : ∀ W, Calls Tryz.prog 123 #[.string s1, .string t2] W fun e w' => e = .returned (.string x) ∧ Below W.heap.size W w')
    (h2 : ∀ W, Calls Tryz.prog 123 #[.string s2, .string t1] W fun e w' => e = .returned (.string y) ∧ Below W.heap.size W w')
    (h3 : ∀ W, Calls Tryz.prog 123 #[.string t1, .string t2] W fun e w' => e = .returned (.string d) ∧ Below W.heap.size W w')
    (h5 : ∀ W, Calls Tryz.prog 75 #[.bool b, .string n, .string d] W fun e w' => e = .returned (.agg #[.bool rb, .string rn, .string rd]) ∧ Below W.heap.size W w') :
    Calls Tryz.prog 61 #[.agg #[.bool b, .string s1, .string t1], .agg #[.bool c, .string s2, .string t2]] w fun e w' => e = .returned (.agg #[.bool rb, .string rn, .string rd]) ∧ Below w.heap.size w w' := by
  obtain ⟨V, hV⟩ : ∃ V, V = (((w.alloc (.cells #[.bool b, .string s1, .string t1] 61)).alloc (.cells #[.bool c, .string s2, .string t2] 61)).alloc (.cells #[.bool false, .string ⟨#[]⟩, .string ⟨#[]⟩] 61)) := ⟨_, rfl⟩
  have HS : Hid (F3 w V (.bool b) (.string s1) (.string t1) (.bool c) (.string s2) (.string t2)) := by rw [hV]; exact F3.first _ _ _ _ _ _ _
  have HV := hide hV
  have H1 := hide h1
  have H2 := hide h2
  have H3 := hide h3
  have H4 := hide h4
  have H5 := hide h5
  have H6 := hide h6
  have hbq : (b == c) = false := by rw [beq_eq_false_iff_ne]; exact hbc
  have HC : Hid (∀ w', Below V.heap.size V w' → (w'.cell? ⟨w.heap.size, 0, none⟩ = some (.bool b) ∧ w'.cell? ⟨w.heap.size, 1, none⟩ = some (.string s1) ∧ w'.cell? ⟨w.heap.size, 2, none⟩ = some (.string t1) ∧ w'.cell? ⟨w.heap.size + 1, 0, none⟩ = some (.bool c) ∧ w'.cell? ⟨w.heap.size + 1, 1, none⟩ = some (.string s2) ∧ w'.cell? ⟨w.heap.size + 1, 2, none⟩ = some (.string t2)) ∧ (w'.cell? ⟨w.heap.size + 1 + 1, 0, none⟩ = some (.bool false) ∧ w'.cell? ⟨w.heap.size + 1 + 1, 1, none⟩ = some (.string ⟨#[]⟩) ∧ w'.cell? ⟨w.heap.size + 1 + 1, 2, none⟩ = some (.string ⟨#[]⟩) ∧ w'.frozen? ⟨w.heap.size + 1 + 1, 0, none⟩ = false ∧ w'.frozen? ⟨w.heap.size + 1 + 1, 1, none⟩ = false ∧ w'.frozen? ⟨w.heap.size + 1 + 1, 2, none⟩ = false)) := fun U hb => by
    have s := (unhide HS).later hb
    exact ⟨⟨s.x.c0, s.x.c1, s.x.c2, s.y.c0, s.y.c1, s.y.c2⟩, ⟨s.r.c0, s.r.c1, s.r.c2, s.r.f0, s.r.f1, s.r.f2⟩⟩
  clear h1 h2 h3 h4 h5 hV hbc h6
  go_enter Tryz.func61, Tryz.ntmps61
  go_upto_region 1 with fail
  rw [← unhide HV]
  clear HV
  obtain ⟨⟨t0, t1', t2', t3, t4, t5⟩, _⟩ := unhide HC V (Below.refl _ _)
  go_region_held3 (fun w' => w'.cell? ⟨w.heap.size, 0, none⟩ = some (.bool b) ∧ w'.cell? ⟨w.heap.size, 1, none⟩ = some (.string s1) ∧ w'.cell? ⟨w.heap.size, 2, none⟩ = some (.string t1) ∧ w'.cell? ⟨w.heap.size + 1, 0, none⟩ = some (.bool c) ∧ w'.cell? ⟨w.heap.size + 1, 1, none⟩ = some (.string s2) ∧ w'.cell? ⟨w.heap.size + 1, 2, none⟩ = some (.string t2)) (first | assumption | (refine ⟨?_, ?_, ?_, ?_, ?_, ?_⟩ <;> first | assumption | (simp [go_sem, *]; done) | (rw [World.cell?_setCell_other _ _ _ _ (by simp), World.cell?_setCell_other _ _ _ _ (by simp), World.cell?_setCell_other _ _ _ _ (by simp)]; assumption)) | (simp [go_sem, *]; done)) ((first
    | (go_at_call_of 123 s1; go_must (refine (unhide H1 _).mono ?_; rintro e wa ⟨rfl, hba⟩; have HCA := hide (((Below.refl V.heap.size V).drew).trans hba); clear hba t0 t1' t2' t3 t4 t5; obtain ⟨⟨t0, t1', t2', t3, t4, t5⟩, _⟩ := unhide HC wa (unhide HCA)))
    | (go_at_call_of 123 s2; go_must (refine (unhide H2 _).mono ?_; rintro e wb ⟨rfl, hbb⟩; have HCB := hide ((unhide HCA).trans (hbb.mono (unhide HCA).size)); clear hbb t0 t1' t2' t3 t4 t5; obtain ⟨⟨t0, t1', t2', t3, t4, t5⟩, _⟩ := unhide HC wb (unhide HCB)))
    | (go_at_call 123; go_must (refine (unhide H3 _).mono ?_; rintro e wc ⟨rfl, hbc⟩; have HCC := hide ((unhide HCB).trans (hbc.mono (unhide HCB).size)); clear hbc t0 t1' t2' t3 t4 t5; obtain ⟨⟨t0, t1', t2', t3, t4, t5⟩, _⟩ := unhide HC wc (unhide HCC)))))
  have HD : Hid (∀ w', Below wc.heap.size wc w' → Below V.heap.size V w') := fun U hb => (unhide HCC).trans (hb.mono (unhide HCC).size)
  clear t1' t2' t4 t5 HCA HCB H1 H2 H3
  go_upto_region 5 with (go_at_call 124; go_must (refine (unhide H6 _).mono ?_; rintro e wz ⟨rfl, hwz⟩; obtain rfl : wc = wz := hwz.symm))
  clear t3 hbq
  go_region_held3 (fun w' => w'.cell? ⟨w.heap.size, 0, none⟩ = some (.bool b)) (first | assumption | (simp [go_sem, *]; done) | (rw [World.cell?_setCell_other _ _ _ _ (by simp), World.cell?_setCell_other _ _ _ _ (by simp), World.cell?_setCell_other _ _ _ _ (by simp)]; assumption)) ((first
    | (go_at_call 121; go_must (refine (unhide H4 _).mono ?_; rintro e wd ⟨rfl, hbd⟩; have HCD := hide (((Below.refl wc.heap.size wc).drew).trans hbd); clear hbd t0; obtain ⟨⟨t0, t1', t2', t3, t4, t5⟩, _⟩ := unhide HC wd (unhide HD wd (unhide HCD)); clear t1' t2' t3 t4 t5))
    | (go_at_call 75; go_must (refine (unhide H5 _).mono ?_; rintro e we ⟨rfl, hbe⟩; have HCE := hide (unhide HD we ((unhide HCD).trans (hbe.mono (unhide HCD).size))); clear hbe t0; obtain ⟨⟨t0, t1', t2', t3, t4, t5⟩, ⟨r0, r1, r2, rf0, rf1, rf2⟩⟩ := unhide HC we (unhide HCE); clear t1' t2' t3 t4 t5))))
  have HS1 := hide ((unhide HS).later (unhide HCE))
  clear r0 r1 r2 rf0 rf1 rf2
  have hS := (unhide HS1).r.store (.bool rb) (.string rn) (.string rd)
  have hb : Below w.heap.size w (store3 we (w.heap.size + 1 + 1) (.bool rb) (.string rn) (.string rd)) := below_store3 (unhide HS1).below (by omega) _ _ _
  obtain ⟨V9, hV9⟩ : ∃ V9, V9 = store3 we (w.heap.size + 1 + 1) (.bool rb) (.string rn) (.string rd) := ⟨_, rfl⟩
  have hV9' : V9 = ((we.setCell ⟨w.heap.size + 1 + 1, 0, none⟩ (.bool rb)).setCell ⟨w.heap.size + 1 + 1, 1, none⟩ (.string rn)).setCell ⟨w.heap.size + 1 + 1, 2, none⟩ (.string rd) := hV9
  have u0 := hS.c0; have u1 := hS.c1; have u2 := hS.c2
  rw [← hV9] at u0 u1 u2 hb
  rw [← hV9']
  have HB9 := hide hb
  clear hV9 hV9' hS hb t0
  go_wp2_with fail
  exact bodyPost_ret (v := .agg #[.bool rb, .string rn, .string rd]) (by simp [results, Tryz.results61, go_sem, u0, u1, u2]) rfl ⟨rfl, unhide HB9⟩

end Go.Proofs.YtifalmdoligblaaGreatDoor

namespace Go.Proofs.YtifalmdoligblaaGreatDoor
open Go.RowKit

set_option maxRecDepth 100000 in
set_option maxHeartbeats 2000000 in
theorem refFPlusC (b c rb : Bool) (s1 t1 s2 t2 x y d n rn rd : ByteArray) (w : World) (k : Int) (hbc : b ≠ c) (hk : ¬ 0 ≤ k)
    (h6 : ∀ W, Calls Tryz.prog 124 #[.string x, .string y] W fun e w' => e = .returned (.int .i64 k) ∧ w' = W)
    (h4 : ∀ W, Calls Tryz.prog 121 #[.string y, .string x] W fun e w' => e = .returned (.string n) ∧ Below W.heap.size W w')
    (h1 : ∀ W, Calls Tryz.prog 123 #[.string s1, .string t2] W fun e w' => e = .returned (.string x) ∧ Below W.heap.size W w')
    (h2 : ∀ W, Calls Tryz.prog 123 #[.string s2, .string t1] W fun e w' => e = .returned (.string y) ∧ Below W.heap.size W w')
    (h3 : ∀ W, Calls Tryz.prog 123 #[.string t1, .string t2] W fun e w' => e = .returned (.string d) ∧ Below W.heap.size W w')
    (h5 : ∀ W, Calls Tryz.prog 75 #[.bool c, .string n, .string d] W fun e w' => e = .returned (.agg #[.bool rb, .string rn, .string rd]) ∧ Below W.heap.size W w') :
    Calls Tryz.prog 61 #[.agg #[.bool b, .string s1, .string t1], .agg #[.bool c, .string s2, .string t2]] w fun e w' => e = .returned (.agg #[.bool rb, .string rn, .string rd]) ∧ Below w.heap.size w w' := by
  obtain ⟨V, hV⟩ : ∃ V, V = (((w.alloc (.cells #[.bool b, .string s1, .string t1] 61)).alloc (.cells #[.bool c, .string s2, .string t2] 61)).alloc (.cells #[.bool false, .string ⟨#[]⟩, .string ⟨#[]⟩] 61)) := ⟨_, rfl⟩
  have HS : Hid (F3 w V (.bool b) (.string s1) (.string t1) (.bool c) (.string s2) (.string t2)) := by rw [hV]; exact F3.first _ _ _ _ _ _ _
  have HV := hide hV
  have H1 := hide h1
  have H2 := hide h2
  have H3 := hide h3
  have H4 := hide h4
  have H5 := hide h5
  have H6 := hide h6
  have hbq : (b == c) = false := by rw [beq_eq_false_iff_ne]; exact hbc
  have HC : Hid (∀ w', Below V.heap.size V w' → (w'.cell? ⟨w.heap.size, 0, none⟩ = some (.bool b) ∧ w'.cell? ⟨w.heap.size, 1, none⟩ = some (.string s1) ∧ w'.cell? ⟨w.heap.size, 2, none⟩ = some (.string t1) ∧ w'.cell? ⟨w.heap.size + 1, 0, none⟩ = some (.bool c) ∧ w'.cell? ⟨w.heap.size + 1, 1, none⟩ = some (.string s2) ∧ w'.cell? ⟨w.heap.size + 1, 2, none⟩ = some (.string t2)) ∧ (w'.cell? ⟨w.heap.size + 1 + 1, 0, none⟩ = some (.bool false) ∧ w'.cell? ⟨w.heap.size + 1 + 1, 1, none⟩ = some (.string ⟨#[]⟩) ∧ w'.cell? ⟨w.heap.size + 1 + 1, 2, none⟩ = some (.string ⟨#[]⟩) ∧ w'.frozen? ⟨w.heap.size + 1 + 1, 0, none⟩ = false ∧ w'.frozen? ⟨w.heap.size + 1 + 1, 1, none⟩ = false ∧ w'.frozen? ⟨w.heap.size + 1 + 1, 2, none⟩ = false)) := fun U hb => by
    have s := (unhide HS).later hb
    exact ⟨⟨s.x.c0, s.x.c1, s.x.c2, s.y.c0, s.y.c1, s.y.c2⟩, ⟨s.r.c0, s.r.c1, s.r.c2, s.r.f0, s.r.f1, s.r.f2⟩⟩
  clear h1 h2 h3 h4 h5 hV hbc h6
  go_enter Tryz.func61, Tryz.ntmps61
  go_upto_region 1 with fail
  rw [← unhide HV]
  clear HV
  obtain ⟨⟨t0, t1', t2', t3, t4, t5⟩, _⟩ := unhide HC V (Below.refl _ _)
  go_region_held3 (fun w' => w'.cell? ⟨w.heap.size, 0, none⟩ = some (.bool b) ∧ w'.cell? ⟨w.heap.size, 1, none⟩ = some (.string s1) ∧ w'.cell? ⟨w.heap.size, 2, none⟩ = some (.string t1) ∧ w'.cell? ⟨w.heap.size + 1, 0, none⟩ = some (.bool c) ∧ w'.cell? ⟨w.heap.size + 1, 1, none⟩ = some (.string s2) ∧ w'.cell? ⟨w.heap.size + 1, 2, none⟩ = some (.string t2)) (first | assumption | (refine ⟨?_, ?_, ?_, ?_, ?_, ?_⟩ <;> first | assumption | (simp [go_sem, *]; done) | (rw [World.cell?_setCell_other _ _ _ _ (by simp), World.cell?_setCell_other _ _ _ _ (by simp), World.cell?_setCell_other _ _ _ _ (by simp)]; assumption)) | (simp [go_sem, *]; done)) ((first
    | (go_at_call_of 123 s1; go_must (refine (unhide H1 _).mono ?_; rintro e wa ⟨rfl, hba⟩; have HCA := hide (((Below.refl V.heap.size V).drew).trans hba); clear hba t0 t1' t2' t3 t4 t5; obtain ⟨⟨t0, t1', t2', t3, t4, t5⟩, _⟩ := unhide HC wa (unhide HCA)))
    | (go_at_call_of 123 s2; go_must (refine (unhide H2 _).mono ?_; rintro e wb ⟨rfl, hbb⟩; have HCB := hide ((unhide HCA).trans (hbb.mono (unhide HCA).size)); clear hbb t0 t1' t2' t3 t4 t5; obtain ⟨⟨t0, t1', t2', t3, t4, t5⟩, _⟩ := unhide HC wb (unhide HCB)))
    | (go_at_call 123; go_must (refine (unhide H3 _).mono ?_; rintro e wc ⟨rfl, hbc⟩; have HCC := hide ((unhide HCB).trans (hbc.mono (unhide HCB).size)); clear hbc t0 t1' t2' t3 t4 t5; obtain ⟨⟨t0, t1', t2', t3, t4, t5⟩, _⟩ := unhide HC wc (unhide HCC)))))
  have HD : Hid (∀ w', Below wc.heap.size wc w' → Below V.heap.size V w') := fun U hb => (unhide HCC).trans (hb.mono (unhide HCC).size)
  clear t1' t2' t4 t5 HCA HCB H1 H2 H3
  go_upto_region 6 with (go_at_call 124; go_must (refine (unhide H6 _).mono ?_; rintro e wz ⟨rfl, hwz⟩; obtain rfl : wc = wz := hwz.symm))
  clear t0 hbq
  go_region_held3 (fun w' => w'.cell? ⟨w.heap.size + 1, 0, none⟩ = some (.bool c)) (first | assumption | (simp [go_sem, *]; done) | (rw [World.cell?_setCell_other _ _ _ _ (by simp), World.cell?_setCell_other _ _ _ _ (by simp), World.cell?_setCell_other _ _ _ _ (by simp)]; assumption)) ((first
    | (go_at_call 121; go_must (refine (unhide H4 _).mono ?_; rintro e wd ⟨rfl, hbd⟩; have HCD := hide (((Below.refl wc.heap.size wc).drew).trans hbd); clear hbd t3; obtain ⟨⟨t0, t1', t2', t3, t4, t5⟩, _⟩ := unhide HC wd (unhide HD wd (unhide HCD)); clear t1' t2' t0 t4 t5))
    | (go_at_call 75; go_must (refine (unhide H5 _).mono ?_; rintro e we ⟨rfl, hbe⟩; have HCE := hide (unhide HD we ((unhide HCD).trans (hbe.mono (unhide HCD).size))); clear hbe t3; obtain ⟨⟨t0, t1', t2', t3, t4, t5⟩, ⟨r0, r1, r2, rf0, rf1, rf2⟩⟩ := unhide HC we (unhide HCE); clear t1' t2' t0 t4 t5))))
  have HS1 := hide ((unhide HS).later (unhide HCE))
  clear r0 r1 r2 rf0 rf1 rf2
  have hS := (unhide HS1).r.store (.bool rb) (.string rn) (.string rd)
  have hb : Below w.heap.size w (store3 we (w.heap.size + 1 + 1) (.bool rb) (.string rn) (.string rd)) := below_store3 (unhide HS1).below (by omega) _ _ _
  obtain ⟨V9, hV9⟩ : ∃ V9, V9 = store3 we (w.heap.size + 1 + 1) (.bool rb) (.string rn) (.string rd) := ⟨_, rfl⟩
  have hV9' : V9 = ((we.setCell ⟨w.heap.size + 1 + 1, 0, none⟩ (.bool rb)).setCell ⟨w.heap.size + 1 + 1, 1, none⟩ (.string rn)).setCell ⟨w.heap.size + 1 + 1, 2, none⟩ (.string rd) := hV9
  have u0 := hS.c0; have u1 := hS.c1; have u2 := hS.c2
  rw [← hV9] at u0 u1 u2 hb
  rw [← hV9']
  have HB9 := hide hb
  clear hV9 hV9' hS hb t3
  go_wp2_with fail
  exact bodyPost_ret (v := .agg #[.bool rb, .string rn, .string rd]) (by simp [results, Tryz.results61, go_sem, u0, u1, u2]) rfl ⟨rfl, unhide HB9⟩

end Go.Proofs.YtifalmdoligblaaGreatDoor

namespace Go.Proofs.YtifalmdoligblaaGreatDoor
open Go.RowKit

/-- The document's fraction of a value. -/
def fx (x : Rat) : Value := .agg #[.bool (decide (x < 0)), .string (tx x.num.natAbs), .string (tx x.den)]
/-- Both its numbers have at most d digits. -/
def Bd (d : Nat) (x : Rat) : Prop := x.num.natAbs < 10 ^ d ∧ x.den < 10 ^ d
theorem fx_of {b : Bool} {n d : Nat} (h : Cub.Low b n d) : (Value.agg #[.bool b, .string (tx n), .string (tx d)]) = fx (Cub.valQ b n d) := by
  obtain ⟨e1, e2, e3⟩ := Cub.low_is h
  unfold fx
  rw [← e1, ← e2, ← e3]
theorem fx_low (b : Bool) (n d : Nat) (hd : 0 < d) : (Value.agg #[.bool (b && decide (n / Nat.gcd n d ≠ 0)), .string (tx (n / Nat.gcd n d)), .string (tx (d / Nat.gcd n d))]) = fx (Cub.valQ b n d) := by
  obtain ⟨h1, h2⟩ := Cub.ratio_low (b := b) (n := n) hd
  rw [fx_of h1, h2]
theorem valQ_mul {b c : Bool} {n d m e : Nat} (hd : 0 < d) (he : 0 < e) : Cub.valQ (b != c) (n * m) (d * e) = Cub.valQ b n d * Cub.valQ c m e := by
  have h1 : ((d : Nat) : Rat) ≠ 0 := Cub.dR hd
  have h2 : ((e : Nat) : Rat) ≠ 0 := Cub.dR he
  unfold Cub.valQ
  rw [← Cub.sg_mul]
  push_cast
  grind
theorem pow_two (d a b : Nat) (ha : a < 10 ^ d) (hb : b < 10 ^ d) : a * b < 10 ^ (d + d) := by
  rw [Nat.pow_add]; exact Nat.mul_lt_mul'' ha hb
theorem pow_up {d e a : Nat} (ha : a < 10 ^ d) (h : d ≤ e) : a < 10 ^ e := Nat.lt_of_lt_of_le ha (Nat.pow_le_pow_right (by decide) h)
theorem pow_sum (d a b : Nat) (ha : a < 10 ^ d) (hb : b < 10 ^ d) : a + b < 10 ^ (d + 1) := by
  rw [Nat.pow_succ]; omega

theorem refFTimes (d : Nat) (x y : Rat) (w : World) (hd1 : 1 ≤ d) (hd : d + d ≤ 5000) (hx : Bd d x) (hy : Bd d y) :
    Calls Tryz.prog 65 #[fx x, fx y] w fun e w' => e = .returned (fx (x * y)) ∧ Below w.heap.size w w' := by
  have px := x.den_pos
  have py := y.den_pos
  have e := valQ_mul (b := decide (x < 0)) (c := decide (y < 0)) (n := x.num.natAbs) (m := y.num.natAbs) px py
  rw [(Cub.low_of x).2, (Cub.low_of y).2] at e
  rw [← e, ← fx_low _ _ _ (Nat.mul_pos px py)]
  exact refFTimes_walk _ _ _ _ _ _ _ _ _ _ _ w (fun W => refTimesM d _ _ W hd1 (by omega) hx.1 hy.1) (fun W => refTimesM d _ _ W hd1 (by omega) hx.2 hy.2)
    (fun W => refLowestM (d + d) _ _ _ W (by omega) hd (pow_two d _ _ hx.1 hy.1) (pow_two d _ _ hx.2 hy.2) (by have := Nat.mul_pos px py; omega))

theorem refFPlus (d : Nat) (x y : Rat) (w : World) (hd1 : 1 ≤ d) (hd : d + d + 1 ≤ 5000) (hx : Bd d x) (hy : Bd d y) :
    Calls Tryz.prog 61 #[fx x, fx y] w fun e w' => e = .returned (fx (x + y)) ∧ Below w.heap.size w w' := by
  have px := x.den_pos
  have py := y.den_pos
  have hD := Nat.mul_pos px py
  have hD0 : x.den * y.den ≠ 0 := by omega
  have lx := Cub.low_of x
  have ly := Cub.low_of y
  have bX := pow_two d _ _ hx.1 hy.2
  have bY := pow_two d _ _ hy.1 hx.2
  have bD := pow_two d _ _ hx.2 hy.2
  have T1 := fun W => refTimesM d _ _ W hd1 (by omega) hx.1 hy.2
  have T2 := fun W => refTimesM d _ _ W hd1 (by omega) hy.1 hx.2
  have T3 := fun W => refTimesM d _ _ W hd1 (by omega) hx.2 hy.2
  have key : ∀ bb m, (bb, m) = Cub.addSg (decide (x < 0)) (x.num.natAbs * y.den) (decide (y < 0)) (y.num.natAbs * x.den) → fx (x + y) = .agg #[.bool (bb && decide (m / Nat.gcd m (x.den * y.den) ≠ 0)), .string (tx (m / Nat.gcd m (x.den * y.den))), .string (tx (x.den * y.den / Nat.gcd m (x.den * y.den)))] := fun bb m hm => by
    have e := Cub.refAdd_val lx.1 ly.1 hm
    rw [lx.2, ly.2] at e
    rw [← e, ← fx_low _ _ _ hD]
  have L := fun bb m (hm : m < 10 ^ (d + d + 1)) W => refLowestM (d + d + 1) bb m (x.den * y.den) W (by omega) hd hm (pow_up bD (by omega)) hD0
  unfold Cub.addSg at key
  by_cases hs : decide (x < 0) = decide (y < 0)
  · rw [if_pos hs] at key
    rw [key _ _ rfl]
    exact refFPlusA _ _ _ _ _ _ _ _ _ _ _ _ _ w hs (fun W => refPlusM (d + d) _ _ W (by omega) (by omega) bX bY) T1 T2 T3 (fun W => L _ _ (pow_sum (d + d) _ _ bX bY) W)
  · rw [if_neg hs] at key
    have C := fun W => refCompareM (x.num.natAbs * y.den) (y.num.natAbs * x.den) W
    by_cases hl : x.num.natAbs * y.den < y.num.natAbs * x.den
    · rw [if_pos hl] at key
      rw [key _ _ rfl]
      exact refFPlusC _ _ _ _ _ _ _ _ _ _ _ _ _ w _ hs (by unfold Cub.cmpN; rw [if_pos hl]; decide) C (fun W => refMinusM (d + d) _ _ W (by omega) (by omega) bY bX (Nat.le_of_lt hl)) T1 T2 T3 (fun W => L _ _ (pow_up (Nat.lt_of_le_of_lt (Nat.sub_le _ _) bY) (by omega)) W)
    · rw [if_neg hl] at key
      rw [key _ _ rfl]
      exact refFPlusB _ _ _ _ _ _ _ _ _ _ _ _ _ w _ hs (by unfold Cub.cmpN; rw [if_neg hl]; split <;> decide) C (fun W => refMinusM (d + d) _ _ W (by omega) (by omega) bX bY (Nat.le_of_not_lt hl)) T1 T2 T3 (fun W => L _ _ (pow_up (Nat.lt_of_le_of_lt (Nat.sub_le _ _) bX) (by omega)) W)

end Go.Proofs.YtifalmdoligblaaGreatDoor

namespace Go.Proofs.YtifalmdoligblaaGreatDoor
open Go.RowKit

set_option maxRecDepth 100000 in
set_option maxHeartbeats 4000000 in
theorem refScaled_walk (b : Bool) (m z : ByteArray) (k : Int) (bad m0 rb : Bool) (rn rd : ByteArray) (w : World) (hk1 : -70000 ≤ k) (hk2 : k ≤ 70000) (hm : m.size ≤ 140000) (hz : z.size ≤ 70000)
    (hm0 : (m.toList == [48]) = m0)
    (hbad : bad = (decide (600 < m.size) || decide (k ≤ -600) || (decide (0 < k) && !m0 && decide (600 < (m.size : Int) + k))))
    (hbd : bad = true → rb = false ∧ rn = ⟨#[]⟩ ∧ rd = ⟨#[]⟩)
    (h66n : bad = false → k < 0 → ∀ W, Calls Tryz.prog 66 #[.int .i64 (-k)] W fun r w' => r = .returned (.string z) ∧ Below W.heap.size W w')
    (h75 : bad = false → k < 0 → ∀ W, Calls Tryz.prog 75 #[.bool b, .string m, .string (⟨#[49]⟩ ++ z)] W fun r w' => r = .returned (.agg #[.bool rb, .string rn, .string rd]) ∧ Below W.heap.size W w')
    (h66p : bad = false → 0 ≤ k → m0 = false → ∀ W, Calls Tryz.prog 66 #[.int .i64 k] W fun r w' => r = .returned (.string z) ∧ Below W.heap.size W w')
    (hpos : bad = false → 0 ≤ k → m0 = false → rb = b ∧ rn = m ++ z ∧ rd = ⟨#[49]⟩)
    (hzer : bad = false → 0 ≤ k → m0 = true → rb = false ∧ rn = ⟨#[48]⟩ ∧ rd = ⟨#[49]⟩) :
    Calls Tryz.prog 85 #[.bool b, .string m, .int .i64 k] w fun r w' => r = .returned (.tuple #[.agg #[.bool rb, .string rn, .string rd], .bool (!bad)]) ∧ Below w.heap.size w w' := by
  obtain ⟨V, hV⟩ : ∃ V, V = w.alloc (.cells #[.bool false, .string ⟨#[]⟩, .string ⟨#[]⟩] 61) := ⟨_, rfl⟩
  have HB : Hid (Below w.heap.size w V) := by rw [hV]; exact (Below.refl _ _).alloc (Nat.le_refl _) _
  have HR : Hid (FBox V w.heap.size (.bool false) (.string ⟨#[]⟩) (.string ⟨#[]⟩)) := by rw [hV]; exact ⟨by simp [go_sem], by simp [go_sem], by simp [go_sem], by simp [go_sem], by simp [go_sem], by simp [go_sem]⟩
  have HV := hide hV
  have HBAD := hide hbad
  have HBD := hide hbd
  have H66N := hide h66n
  have H75 := hide h75
  have H66P := hide h66p
  have HPOS := hide hpos
  have HZER := hide hzer
  clear hbad hbd h66n h75 h66p hpos hzer
  have l49 : (⟨#[49]⟩ : ByteArray).size = 1 := rfl
  go_enter Tryz.func85, Tryz.ntmps85
  go_upto_region 1 with fail
  rw [← unhide HV]
  clear hV HV
  go_cut [29] from 8 (fun s29 wx => s29 = .bool bad ∧ wx = V)
  case first =>
    by_cases a1 : 600 < m.size
    · have a1' : (600 : Int) < (m.size : Int) := by omega
      have E : Hid (bad = true) := by show _ = _; rw [unhide HBAD, decide_eq_true a1]; rfl
      go_wp2_with fail
      go_meet
      exact ⟨by rw [unhide E], rfl⟩
    · have a1' : ¬ (600 : Int) < (m.size : Int) := by omega
      by_cases a2 : k ≤ -600
      · have E : Hid (bad = true) := by show _ = _; rw [unhide HBAD, decide_eq_false a1, decide_eq_true a2]; rfl
        go_wp2_with fail
        go_meet
        exact ⟨by rw [unhide E], rfl⟩
      · by_cases a3 : 0 < k
        · cases m0 with
          | true =>
            have E : Hid (bad = false) := by show _ = _; rw [unhide HBAD, decide_eq_false a1, decide_eq_false a2, decide_eq_true a3]; rfl
            go_wp2_with fail
            go_meet
            exact ⟨by rw [unhide E], rfl⟩
          | false =>
            by_cases a5 : 600 < (m.size : Int) + k
            · have E : Hid (bad = true) := by show _ = _; rw [unhide HBAD, decide_eq_false a1, decide_eq_false a2, decide_eq_true a3, decide_eq_true a5]; rfl
              go_wp2_with fail
              go_meet
              exact ⟨by rw [unhide E], rfl⟩
            · have E : Hid (bad = false) := by show _ = _; rw [unhide HBAD, decide_eq_false a1, decide_eq_false a2, decide_eq_true a3, decide_eq_false a5]; rfl
              go_wp2_with fail
              go_meet
              exact ⟨by rw [unhide E], rfl⟩
        · have E : Hid (bad = false) := by show _ = _; rw [unhide HBAD, decide_eq_false a1, decide_eq_false a2, decide_eq_false a3]; rfl
          go_wp2_with fail
          go_meet
          exact ⟨by rw [unhide E], rfl⟩
  case rest =>
    obtain ⟨rfl, hwx⟩ := hcut
    obtain rfl : V = wc := hwx.symm
    clear HBAD
    have r0 := (unhide HR).c0; have r1 := (unhide HR).c1; have r2 := (unhide HR).c2; have rf0 := (unhide HR).f0; have rf1 := (unhide HR).f1; have rf2 := (unhide HR).f2
    cases bad with
    | true =>
      have HF := hide (unhide HBD rfl)
      go_wp2_with fail
      have hS := (unhide HR).store (.bool false) (.string ⟨#[]⟩) (.string ⟨#[]⟩)
      have u0 := hS.c0; have u1 := hS.c1; have u2 := hS.c2
      exact bodyPost_ret (v := .tuple #[.agg #[.bool false, .string ⟨#[]⟩, .string ⟨#[]⟩], .bool false]) (w := store3 V w.heap.size (.bool false) (.string ⟨#[]⟩) (.string ⟨#[]⟩)) (by simp [results, Tryz.results85, go_sem, u0, u1, u2]) rfl ⟨by rw [(unhide HF).1, (unhide HF).2.1, (unhide HF).2.2], below_store3 (unhide HB) (Nat.le_refl _) _ _ _⟩
    | false =>
      by_cases hneg : k < 0
      · have H1 := hide (unhide H66N rfl hneg)
        have H2 := hide (unhide H75 rfl hneg)
        clear H66N H75 HBD HPOS HZER H66P
        go_wp2_with (first
          | (go_at_call 66; go_must (refine (unhide H1 _).mono ?_; rintro e w1 ⟨rfl, hb1⟩; have HR1 := hide ((unhide HR).later hb1); have HB1 := hide ((unhide HB).trans (hb1.mono (unhide HB).size)); clear hb1 r0 r1 r2 rf0 rf1 rf2))
          | (go_at_call 75; go_must (refine (unhide H2 _).mono ?_; rintro e w2 ⟨rfl, hb2⟩; have HR2 := hide ((unhide HR1).later hb2); have HB2 := hide ((unhide HB1).trans (hb2.mono (unhide HB1).size)); clear hb2; have r0 := (unhide HR2).c0; have r1 := (unhide HR2).c1; have r2 := (unhide HR2).c2; have rf0 := (unhide HR2).f0; have rf1 := (unhide HR2).f1; have rf2 := (unhide HR2).f2)))
        have hS := (unhide HR2).store (.bool rb) (.string rn) (.string rd)
        have u0 := hS.c0; have u1 := hS.c1; have u2 := hS.c2
        exact bodyPost_ret (v := .tuple #[.agg #[.bool rb, .string rn, .string rd], .bool true]) (w := store3 w2 w.heap.size (.bool rb) (.string rn) (.string rd)) (by simp [results, Tryz.results85, go_sem, u0, u1, u2]) rfl ⟨rfl, below_store3 (unhide HB2) (Nat.le_refl _) _ _ _⟩
      · have hge : 0 ≤ k := by omega
        cases m0 with
        | true =>
          have HF := hide (unhide HZER rfl hge rfl)
          go_wp2_with fail
          have hS := (unhide HR).store (.bool false) (.string ⟨#[48]⟩) (.string ⟨#[49]⟩)
          have u0 := hS.c0; have u1 := hS.c1; have u2 := hS.c2
          exact bodyPost_ret (v := .tuple #[.agg #[.bool false, .string ⟨#[48]⟩, .string ⟨#[49]⟩], .bool true]) (w := store3 V w.heap.size (.bool false) (.string ⟨#[48]⟩) (.string ⟨#[49]⟩)) (by simp [results, Tryz.results85, go_sem, u0, u1, u2]) rfl ⟨by rw [(unhide HF).1, (unhide HF).2.1, (unhide HF).2.2], below_store3 (unhide HB) (Nat.le_refl _) _ _ _⟩
        | false =>
          have HF := hide (unhide HPOS rfl hge rfl)
          have H1 := hide (unhide H66P rfl hge rfl)
          go_wp2_with (go_at_call 66; go_must (refine (unhide H1 _).mono ?_; rintro e w2 ⟨rfl, hb1⟩; have HR2 := hide ((unhide HR).later hb1); have HB2 := hide ((unhide HB).trans (hb1.mono (unhide HB).size)); clear hb1 r0 r1 r2 rf0 rf1 rf2; have r0 := (unhide HR2).c0; have r1 := (unhide HR2).c1; have r2 := (unhide HR2).c2; have rf0 := (unhide HR2).f0; have rf1 := (unhide HR2).f1; have rf2 := (unhide HR2).f2))
          have hS := (unhide HR2).store (.bool b) (.string (m ++ z)) (.string ⟨#[49]⟩)
          have u0 := hS.c0; have u1 := hS.c1; have u2 := hS.c2
          exact bodyPost_ret (v := .tuple #[.agg #[.bool b, .string (m ++ z), .string ⟨#[49]⟩], .bool true]) (w := store3 w2 w.heap.size (.bool b) (.string (m ++ z)) (.string ⟨#[49]⟩)) (by simp [results, Tryz.results85, go_sem, u0, u1, u2]) rfl ⟨by rw [(unhide HF).1, (unhide HF).2.1, (unhide HF).2.2]; rfl, below_store3 (unhide HB2) (Nat.le_refl _) _ _ _⟩
/-- Is a number of these digits, times that power of ten, surely too great or too fine? -/
def farQ (n : Nat) (k : Int) : Bool := decide (10 ^ 600 ≤ n) || decide (k ≤ -600) || (decide (0 < k) && decide (n ≠ 0) && decide (600 < ((tx n).size : Int) + k))
/-- A number times ten to a power. -/
def scQ (b : Bool) (n : Nat) (k : Int) : Rat := Cub.valQ b (n * 10 ^ k.toNat) (10 ^ (-k).toNat)
theorem fx_whole (b : Bool) (n : Nat) : fx (Cub.valQ b n 1) = .agg #[.bool (b && decide (n ≠ 0)), .string (tx n), .string (tx 1)] := by
  have := fx_low b n 1 (by decide)
  rw [Nat.gcd_one_right, Nat.div_one, Nat.div_one] at this
  exact this.symm
theorem or_false3 {p q : Prop} [Decidable p] [Decidable q] {c : Bool} (h : (decide p || decide q || c) = false) : ¬ p ∧ ¬ q := by
  rw [Bool.or_eq_false_iff, Bool.or_eq_false_iff, decide_eq_false_iff_not, decide_eq_false_iff_not] at h
  exact h.1
theorem far_no {n : Nat} {k : Int} (h : farQ n k = false) : ¬ 10 ^ 600 ≤ n ∧ ¬ k ≤ -600 := by
  unfold farQ at h
  exact or_false3 h
theorem zeros_size (j : Nat) : (⟨(List.replicate j 48).toArray⟩ : ByteArray).size = j := by rw [← list_len]; simp
theorem lt_of_not_le600 {n : Nat} (h : ¬ 10 ^ 600 ≤ n) : n < 10 ^ 600 := Nat.lt_of_not_le h
theorem pow_lt_pow10 {a b : Nat} (h : a < b) : 10 ^ a < 10 ^ b := Nat.pow_lt_pow_right (by decide) h
theorem refScaled_any (b : Bool) (n : Nat) (k : Int) (w : World) (hk1 : -70000 ≤ k) (hk2 : k ≤ 70000) (hs : (tx n).size ≤ 140000) :
    Calls Tryz.prog 85 #[.bool b, .string (tx n), .int .i64 k] w fun r w' => r = .returned (.tuple #[if farQ n k then .agg #[.bool false, .string ⟨#[]⟩, .string ⟨#[]⟩] else fx (scQ b n k), .bool (!farQ n k)]) ∧ Below w.heap.size w w' := by
  have hm0 : ((tx n).toList == [48]) = decide (n = 0) := by
    rw [Bool.eq_iff_iff, beq_iff_eq, decide_eq_true_iff]; exact tx_is0 n
  have hbad : farQ n k = (decide (600 < (tx n).size) || decide (k ≤ -600) || (decide (0 < k) && !(decide (n = 0)) && decide (600 < ((tx n).size : Int) + k))) := by
    unfold farQ
    rw [decide_eq_decide.2 (tx_long n 600 (by decide)).symm]
    congr 3
    by_cases h : n = 0 <;> simp [h]
  cases hf : farQ n k with
  | true =>
    rw [hf] at hbad
    rw [if_pos rfl]
    exact refScaled_walk b (tx n) ⟨#[]⟩ k true (decide (n = 0)) false ⟨#[]⟩ ⟨#[]⟩ w hk1 hk2 hs (Nat.zero_le _) hm0 hbad (fun _ => ⟨rfl, rfl, rfl⟩) (fun h => by cases h) (fun h => by cases h) (fun h => by cases h) (fun h => by cases h) (fun h => by cases h)
  | false =>
    rw [hf] at hbad
    rw [if_neg (by decide)]
    have hq := far_no hf
    have hn6 : n < 10 ^ 600 := lt_of_not_le600 hq.1
    have hkk : ¬ k ≤ -600 := hq.2
    by_cases hneg : k < 0
    · obtain ⟨j, hj⟩ : ∃ j : Nat, k = -(j : Int) := ⟨(-k).toNat, by omega⟩
      have hj1 : j < 600 := by omega
      have e1 : k.toNat = 0 := by omega
      have e2 : (-k).toNat = j := by omega
      have e3 : (⟨#[49]⟩ : ByteArray) ++ ⟨(List.replicate j 48).toArray⟩ = tx (10 ^ j) := by
        have := tx_shift 1 j (by decide)
        rw [tx_oneP, Nat.one_mul] at this
        exact this
      have e4 : scQ b n k = Cub.valQ b n (10 ^ j) := by unfold scQ; rw [e1, e2, Nat.pow_zero, Nat.mul_one]
      rw [e4, ← fx_low b n (10 ^ j) (Nat.pow_pos (by decide))]
      refine refScaled_walk b (tx n) ⟨(List.replicate j 48).toArray⟩ k false (decide (n = 0)) _ _ _ w hk1 hk2 hs (by rw [zeros_size]; omega) hm0 hbad (fun h => by cases h) (fun _ _ W => ?_) (fun _ _ W => ?_) (fun _ h => absurd hneg (by omega)) (fun _ h => absurd hneg (by omega)) (fun _ h => absurd hneg (by omega))
      · rw [show -k = (j : Int) by omega]
        exact refZeros j W (by omega)
      · rw [e3]
        obtain ⟨E, hE⟩ : ∃ E : Nat, E = 600 := ⟨_, rfl⟩
        rw [← hE] at hn6 hj1
        exact refLowestM E b n (10 ^ j) W (by omega) (by omega) hn6 (pow_lt_pow10 hj1) (Nat.ne_of_gt (Nat.pow_pos (n := j) (show 0 < 10 by decide)))
    · obtain ⟨j, hj⟩ : ∃ j : Nat, k = (j : Int) := ⟨k.toNat, by omega⟩
      have e1 : k.toNat = j := by omega
      have e2 : (-k).toNat = 0 := by omega
      have e4 : scQ b n k = Cub.valQ b (n * 10 ^ j) 1 := by unfold scQ; rw [e1, e2, Nat.pow_zero]
      rw [e4, fx_whole]
      by_cases h0 : n = 0
      · subst h0
        rw [Nat.zero_mul]
        refine refScaled_walk b (tx 0) ⟨#[]⟩ k false (decide (0 = 0)) _ _ _ w hk1 hk2 hs (Nat.zero_le _) hm0 hbad (fun h => by cases h) (fun _ h => absurd h hneg) (fun _ h => absurd h hneg) (fun _ _ h => by cases h) (fun _ _ h => by cases h) (fun _ _ _ => ⟨by simp, tx_nought, tx_oneP⟩)
      · have hne : n * 10 ^ j ≠ 0 := by
          exact Nat.ne_of_gt (Nat.mul_pos (Nat.pos_of_ne_zero h0) (Nat.pow_pos (n := j) (show 0 < 10 by decide)))
        refine refScaled_walk b (tx n) ⟨(List.replicate j 48).toArray⟩ k false (decide (n = 0)) _ _ _ w hk1 hk2 hs (by rw [zeros_size]; omega) hm0 hbad (fun h => by cases h) (fun _ h => absurd h hneg) (fun _ h => absurd h hneg) (fun _ _ _ W => by rw [hj]; exact refZeros j W (by omega)) (fun _ _ _ => ⟨by rw [decide_eq_true hne]; simp, (tx_shift n j h0).symm, tx_oneP⟩) (fun _ _ h => absurd (of_decide_eq_true h) h0)
end Go.Proofs.YtifalmdoligblaaGreatDoor

/- A fraction's text: the document's Parse; the program's ways out. -/
import Derived.Test.YtifalmdoligblaaGreatDoorParts
import Derived.Test.YtifalmdoligblaaGreatDoorQuo
import Derived.Test.YtifalmdoligblaaGreatDoorBare
import Derived.Test.YtifalmdoligblaaGreatDoorRefParse
namespace Go.Proofs.YtifalmdoligblaaGreatDoor
open Go.RowKit

set_option maxRecDepth 100000 in
set_option maxHeartbeats 4000000 in
theorem parse_long (s : ByteArray) (w : World) (hs : 65536 < s.size) : Calls Tryz.prog 22 #[.string s] w fun r w' => r = .returned (.tuple #[.agg #[.string ⟨#[]⟩, .string ⟨#[]⟩], .int .i64 4, .int .i64 0]) ∧ Below w.heap.size w w' := by
  have hs' : (65536 : Int) < (s.size : Int) := by omega
  obtain ⟨V, hV⟩ : ∃ V, V = w.alloc (.cells #[.string ⟨#[]⟩, .string ⟨#[]⟩] 23) := ⟨_, rfl⟩
  have hbV : Below w.heap.size w V := by rw [hV]; exact (Below.refl _ _).alloc (Nat.le_refl _) _
  have HR : Hid (T2 V w.heap.size (.string ⟨#[]⟩) (.string ⟨#[]⟩) ∧ Below w.heap.size w V) := ⟨by rw [hV]; exact ⟨by simp [go_sem], by simp [go_sem], by simp [go_sem], by simp [go_sem]⟩, hbV⟩
  have HV := hide hV
  clear hbV
  go_enter Tryz.func22, Tryz.ntmps22
  go_upto_region 1 with fail
  rw [← unhide HV]
  clear hV HV
  have r0 := (unhide HR).1.c0; have r1 := (unhide HR).1.c1; have rf0 := (unhide HR).1.f0; have rf1 := (unhide HR).1.f1
  go_wp2_with fail
  have hS := (unhide HR).1.store (.string ⟨#[]⟩) (.string ⟨#[]⟩)
  have hb : Below w.heap.size w (store2 V w.heap.size (.string ⟨#[]⟩) (.string ⟨#[]⟩)) := below_store2 (unhide HR).2 (Nat.le_refl _) _ _
  have v0 := hS.c0; have v1 := hS.c1
  exact bodyPost_ret (v := .tuple #[.agg #[.string ⟨#[]⟩, .string ⟨#[]⟩], .int .i64 4, .int .i64 0]) (w := store2 V w.heap.size (.string ⟨#[]⟩) (.string ⟨#[]⟩)) (by simp [results, Tryz.results22, go_sem, v0, v1]) rfl ⟨rfl, hb⟩

set_option maxRecDepth 100000 in
set_option maxHeartbeats 4000000 in
theorem parse_fault (s : ByteArray) (k : Nat) (w : World) (hs : s.size ≤ 65536)
    (h80 : ∀ W, Calls Tryz.prog 80 #[.string s] W fun r w' => r = .returned (failV (k : Int)) ∧ Below W.heap.size W w') : Calls Tryz.prog 22 #[.string s] w fun r w' => r = .returned (.tuple #[.agg #[.string ⟨#[]⟩, .string ⟨#[]⟩], .int .i64 3, .int .i64 (k : Int)]) ∧ Below w.heap.size w w' := by
  have hs' : ¬ (65536 : Int) < (s.size : Int) := by omega
  have H80 := hide h80
  clear h80
  obtain ⟨V, hV⟩ : ∃ V, V = w.alloc (.cells #[.string ⟨#[]⟩, .string ⟨#[]⟩] 23) := ⟨_, rfl⟩
  have hbV : Below w.heap.size w V := by rw [hV]; exact (Below.refl _ _).alloc (Nat.le_refl _) _
  have HR : Hid (T2 V w.heap.size (.string ⟨#[]⟩) (.string ⟨#[]⟩) ∧ Below w.heap.size w V) := ⟨by rw [hV]; exact ⟨by simp [go_sem], by simp [go_sem], by simp [go_sem], by simp [go_sem]⟩, hbV⟩
  have HV := hide hV
  clear hbV
  go_enter Tryz.func22, Tryz.ntmps22
  go_upto_region 1 with fail
  rw [← unhide HV]
  clear hV HV
  go_upto_region 4 with (go_at_call 80; go_must (refine (unhide H80 _).mono ?_; rintro e w1 ⟨rfl, hb1⟩; have HR1 : Hid (T2 w1 w.heap.size (.string ⟨#[]⟩) (.string ⟨#[]⟩) ∧ Below w.heap.size w w1) := ⟨(unhide HR).1.later hb1, (unhide HR).2.trans (hb1.mono (unhide HR).2.size)⟩; clear hb1; (try unfold failV); unfold partsV))
  obtain ⟨V2, hV2⟩ : ∃ V2, V2 = w1.alloc (.cells #[.bool false, .string ⟨#[]⟩, .string ⟨#[]⟩, .string ⟨#[]⟩, .bool false, .string ⟨#[]⟩, .int .i64 0] 86) := ⟨_, rfl⟩
  have hb2 : Below w1.heap.size w1 V2 := by rw [hV2]; exact (Below.refl _ _).alloc (Nat.le_refl _) _
  have HR2 : Hid (T2 V2 w.heap.size (.string ⟨#[]⟩) (.string ⟨#[]⟩) ∧ Below w.heap.size w V2) := ⟨(unhide HR1).1.later hb2, (unhide HR1).2.trans (hb2.mono (unhide HR1).2.size)⟩
  have c0 : V2.cell? ⟨w1.heap.size, 0, none⟩ = some (.bool false) := by rw [hV2]; simp [go_sem]
  have c1 : V2.cell? ⟨w1.heap.size, 1, none⟩ = some (.string ⟨#[]⟩) := by rw [hV2]; simp [go_sem]
  have c2 : V2.cell? ⟨w1.heap.size, 2, none⟩ = some (.string ⟨#[]⟩) := by rw [hV2]; simp [go_sem]
  have c3 : V2.cell? ⟨w1.heap.size, 3, none⟩ = some (.string ⟨#[]⟩) := by rw [hV2]; simp [go_sem]
  have c4 : V2.cell? ⟨w1.heap.size, 4, none⟩ = some (.bool false) := by rw [hV2]; simp [go_sem]
  have c5 : V2.cell? ⟨w1.heap.size, 5, none⟩ = some (.string ⟨#[]⟩) := by rw [hV2]; simp [go_sem]
  have c6 : V2.cell? ⟨w1.heap.size, 6, none⟩ = some (.int .i64 0) := by rw [hV2]; simp [go_sem]
  rw [← hV2]
  clear hV2 hb2 HR HR1
  have r0 := (unhide HR2).1.c0; have r1 := (unhide HR2).1.c1; have rf0 := (unhide HR2).1.f0; have rf1 := (unhide HR2).1.f1
  go_wp2_with fail
  have hS := (unhide HR2).1.store (.string ⟨#[]⟩) (.string ⟨#[]⟩)
  have hb : Below w.heap.size w (store2 V2 w.heap.size (.string ⟨#[]⟩) (.string ⟨#[]⟩)) := below_store2 (unhide HR2).2 (Nat.le_refl _) _ _
  have v0 := hS.c0; have v1 := hS.c1
  exact bodyPost_ret (v := .tuple #[.agg #[.string ⟨#[]⟩, .string ⟨#[]⟩], .int .i64 3, .int .i64 (k : Int)]) (w := store2 V2 w.heap.size (.string ⟨#[]⟩) (.string ⟨#[]⟩)) (by simp [results, Tryz.results22, go_sem, v0, v1]) rfl ⟨rfl, hb⟩

set_option maxRecDepth 100000 in
set_option maxHeartbeats 4000000 in
theorem parse_frac (s t u rn rd : ByteArray) (b : Bool) (k : Nat) (re rk : Int) (w : World) (hs : s.size ≤ 65536) (hk : 0 < k)
    (h80 : ∀ W, Calls Tryz.prog 80 #[.string s] W fun r w' => r = .returned (.tuple #[partsV b t ⟨#[]⟩ ⟨#[]⟩ false u (k : Int), .int .i64 (-1)]) ∧ Below W.heap.size W w')
    (h81 : ∀ W, Below w.heap.size w W → Calls Tryz.prog 81 #[partsV b t ⟨#[]⟩ ⟨#[]⟩ false u (k : Int)] W fun r w' => r = .returned (.tuple #[.agg #[.string rn, .string rd], .int .i64 re, .int .i64 rk]) ∧ Below W.heap.size W w') : Calls Tryz.prog 22 #[.string s] w fun r w' => r = .returned (.tuple #[.agg #[.string rn, .string rd], .int .i64 re, .int .i64 rk]) ∧ Below w.heap.size w w' := by
  have hs' : ¬ (65536 : Int) < (s.size : Int) := by omega
  have H80 := hide h80
  unfold partsV at h81
  have H81 := hide h81
  clear h80 h81
  obtain ⟨V, hV⟩ : ∃ V, V = w.alloc (.cells #[.string ⟨#[]⟩, .string ⟨#[]⟩] 23) := ⟨_, rfl⟩
  have hbV : Below w.heap.size w V := by rw [hV]; exact (Below.refl _ _).alloc (Nat.le_refl _) _
  have HR : Hid (T2 V w.heap.size (.string ⟨#[]⟩) (.string ⟨#[]⟩) ∧ Below w.heap.size w V) := ⟨by rw [hV]; exact ⟨by simp [go_sem], by simp [go_sem], by simp [go_sem], by simp [go_sem]⟩, hbV⟩
  have HV := hide hV
  clear hbV
  go_enter Tryz.func22, Tryz.ntmps22
  go_upto_region 1 with fail
  rw [← unhide HV]
  clear hV HV
  go_upto_region 4 with (go_at_call 80; go_must (refine (unhide H80 _).mono ?_; rintro e w1 ⟨rfl, hb1⟩; have HR1 : Hid (T2 w1 w.heap.size (.string ⟨#[]⟩) (.string ⟨#[]⟩) ∧ Below w.heap.size w w1) := ⟨(unhide HR).1.later hb1, (unhide HR).2.trans (hb1.mono (unhide HR).2.size)⟩; clear hb1; (try unfold failV); unfold partsV))
  obtain ⟨V2, hV2⟩ : ∃ V2, V2 = w1.alloc (.cells #[.bool b, .string t, .string ⟨#[]⟩, .string ⟨#[]⟩, .bool false, .string u, .int .i64 (k : Int)] 86) := ⟨_, rfl⟩
  have hb2 : Below w1.heap.size w1 V2 := by rw [hV2]; exact (Below.refl _ _).alloc (Nat.le_refl _) _
  have HR2 : Hid (T2 V2 w.heap.size (.string ⟨#[]⟩) (.string ⟨#[]⟩) ∧ Below w.heap.size w V2) := ⟨(unhide HR1).1.later hb2, (unhide HR1).2.trans (hb2.mono (unhide HR1).2.size)⟩
  have c0 : V2.cell? ⟨w1.heap.size, 0, none⟩ = some (.bool b) := by rw [hV2]; simp [go_sem]
  have c1 : V2.cell? ⟨w1.heap.size, 1, none⟩ = some (.string t) := by rw [hV2]; simp [go_sem]
  have c2 : V2.cell? ⟨w1.heap.size, 2, none⟩ = some (.string ⟨#[]⟩) := by rw [hV2]; simp [go_sem]
  have c3 : V2.cell? ⟨w1.heap.size, 3, none⟩ = some (.string ⟨#[]⟩) := by rw [hV2]; simp [go_sem]
  have c4 : V2.cell? ⟨w1.heap.size, 4, none⟩ = some (.bool false) := by rw [hV2]; simp [go_sem]
  have c5 : V2.cell? ⟨w1.heap.size, 5, none⟩ = some (.string u) := by rw [hV2]; simp [go_sem]
  have c6 : V2.cell? ⟨w1.heap.size, 6, none⟩ = some (.int .i64 (k : Int)) := by rw [hV2]; simp [go_sem]
  rw [← hV2]
  clear hV2 hb2 HR HR1
  go_wp2_with (go_at_call 81; go_must (refine (unhide H81 _ (unhide HR2).2).mono ?_; rintro e w3 ⟨rfl, hb3⟩; have HR3 : Hid (T2 w3 w.heap.size (.string ⟨#[]⟩) (.string ⟨#[]⟩) ∧ Below w.heap.size w w3) := ⟨(unhide HR2).1.later hb3, (unhide HR2).2.trans (hb3.mono (unhide HR2).2.size)⟩; clear hb3 c0 c1 c2 c3 c4 c5 c6; have r0 := (unhide HR3).1.c0; have r1 := (unhide HR3).1.c1; have rf0 := (unhide HR3).1.f0; have rf1 := (unhide HR3).1.f1))
  have hS := (unhide HR3).1.store (.string rn) (.string rd)
  have hb : Below w.heap.size w (store2 w3 w.heap.size (.string rn) (.string rd)) := below_store2 (unhide HR3).2 (Nat.le_refl _) _ _
  have v0 := hS.c0; have v1 := hS.c1
  exact bodyPost_ret (v := .tuple #[.agg #[.string rn, .string rd], .int .i64 re, .int .i64 rk]) (w := store2 w3 w.heap.size (.string rn) (.string rd)) (by simp [results, Tryz.results22, go_sem, v0, v1]) rfl ⟨rfl, hb⟩

set_option maxRecDepth 100000 in
set_option maxHeartbeats 4000000 in
theorem parse_dec (s t u x rn rd : ByteArray) (b d : Bool) (re rk : Int) (w : World) (hs : s.size ≤ 65536) 
    (h80 : ∀ W, Calls Tryz.prog 80 #[.string s] W fun r w' => r = .returned (.tuple #[partsV b t u x d ⟨#[]⟩ 0, .int .i64 (-1)]) ∧ Below W.heap.size W w')
    (h81 : ∀ W, Below w.heap.size w W → Calls Tryz.prog 82 #[partsV b t u x d ⟨#[]⟩ 0] W fun r w' => r = .returned (.tuple #[.agg #[.string rn, .string rd], .int .i64 re, .int .i64 rk]) ∧ Below W.heap.size W w') : Calls Tryz.prog 22 #[.string s] w fun r w' => r = .returned (.tuple #[.agg #[.string rn, .string rd], .int .i64 re, .int .i64 rk]) ∧ Below w.heap.size w w' := by
  have hs' : ¬ (65536 : Int) < (s.size : Int) := by omega
  have H80 := hide h80
  unfold partsV at h81
  have H81 := hide h81
  clear h80 h81
  obtain ⟨V, hV⟩ : ∃ V, V = w.alloc (.cells #[.string ⟨#[]⟩, .string ⟨#[]⟩] 23) := ⟨_, rfl⟩
  have hbV : Below w.heap.size w V := by rw [hV]; exact (Below.refl _ _).alloc (Nat.le_refl _) _
  have HR : Hid (T2 V w.heap.size (.string ⟨#[]⟩) (.string ⟨#[]⟩) ∧ Below w.heap.size w V) := ⟨by rw [hV]; exact ⟨by simp [go_sem], by simp [go_sem], by simp [go_sem], by simp [go_sem]⟩, hbV⟩
  have HV := hide hV
  clear hbV
  go_enter Tryz.func22, Tryz.ntmps22
  go_upto_region 1 with fail
  rw [← unhide HV]
  clear hV HV
  go_upto_region 4 with (go_at_call 80; go_must (refine (unhide H80 _).mono ?_; rintro e w1 ⟨rfl, hb1⟩; have HR1 : Hid (T2 w1 w.heap.size (.string ⟨#[]⟩) (.string ⟨#[]⟩) ∧ Below w.heap.size w w1) := ⟨(unhide HR).1.later hb1, (unhide HR).2.trans (hb1.mono (unhide HR).2.size)⟩; clear hb1; (try unfold failV); unfold partsV))
  obtain ⟨V2, hV2⟩ : ∃ V2, V2 = w1.alloc (.cells #[.bool b, .string t, .string u, .string x, .bool d, .string ⟨#[]⟩, .int .i64 0] 86) := ⟨_, rfl⟩
  have hb2 : Below w1.heap.size w1 V2 := by rw [hV2]; exact (Below.refl _ _).alloc (Nat.le_refl _) _
  have HR2 : Hid (T2 V2 w.heap.size (.string ⟨#[]⟩) (.string ⟨#[]⟩) ∧ Below w.heap.size w V2) := ⟨(unhide HR1).1.later hb2, (unhide HR1).2.trans (hb2.mono (unhide HR1).2.size)⟩
  have c0 : V2.cell? ⟨w1.heap.size, 0, none⟩ = some (.bool b) := by rw [hV2]; simp [go_sem]
  have c1 : V2.cell? ⟨w1.heap.size, 1, none⟩ = some (.string t) := by rw [hV2]; simp [go_sem]
  have c2 : V2.cell? ⟨w1.heap.size, 2, none⟩ = some (.string u) := by rw [hV2]; simp [go_sem]
  have c3 : V2.cell? ⟨w1.heap.size, 3, none⟩ = some (.string x) := by rw [hV2]; simp [go_sem]
  have c4 : V2.cell? ⟨w1.heap.size, 4, none⟩ = some (.bool d) := by rw [hV2]; simp [go_sem]
  have c5 : V2.cell? ⟨w1.heap.size, 5, none⟩ = some (.string ⟨#[]⟩) := by rw [hV2]; simp [go_sem]
  have c6 : V2.cell? ⟨w1.heap.size, 6, none⟩ = some (.int .i64 0) := by rw [hV2]; simp [go_sem]
  rw [← hV2]
  clear hV2 hb2 HR HR1
  go_wp2_with (go_at_call 82; go_must (refine (unhide H81 _ (unhide HR2).2).mono ?_; rintro e w3 ⟨rfl, hb3⟩; have HR3 : Hid (T2 w3 w.heap.size (.string ⟨#[]⟩) (.string ⟨#[]⟩) ∧ Below w.heap.size w w3) := ⟨(unhide HR2).1.later hb3, (unhide HR2).2.trans (hb3.mono (unhide HR2).2.size)⟩; clear hb3 c0 c1 c2 c3 c4 c5 c6; have r0 := (unhide HR3).1.c0; have r1 := (unhide HR3).1.c1; have rf0 := (unhide HR3).1.f0; have rf1 := (unhide HR3).1.f1))
  have hS := (unhide HR3).1.store (.string rn) (.string rd)
  have hb : Below w.heap.size w (store2 w3 w.heap.size (.string rn) (.string rd)) := below_store2 (unhide HR3).2 (Nat.le_refl _) _ _
  have v0 := hS.c0; have v1 := hS.c1
  exact bodyPost_ret (v := .tuple #[.agg #[.string rn, .string rd], .int .i64 re, .int .i64 rk]) (w := store2 w3 w.heap.size (.string rn) (.string rd)) (by simp [results, Tryz.results22, go_sem, v0, v1]) rfl ⟨rfl, hb⟩

end Go.Proofs.YtifalmdoligblaaGreatDoor

namespace Go.Proofs.YtifalmdoligblaaGreatDoor
open Go.RowKit

theorem ratioQ (b : Bool) (m n : Nat) (W : World) (y z : Value) (hm : m < 1000000000 ^ 67) (hn : n < 1000000000 ^ 67) (h0 : 0 < n) (hy : IsBig W y m) (hz : IsBig W z n) :
    Calls Tryz.prog 70 #[.bool b, y, z] W fun e w' => ∃ v', e = .returned v' ∧ QOf w' v' (Cub.valQ b m n) 67 ∧ Below W.heap.size W w' := by
  refine (ratio_any b y z m n 67 W hy hz hm hn h0 (divAns 67 (by decide)) (gcdAns 67 (by decide))).mono ?_
  rintro e w' ⟨v', rfl, hf, hb⟩
  obtain ⟨l1, l2⟩ := Cub.ratio_low (b := b) (n := m) h0
  exact ⟨v', rfl, ⟨_, _, _, hf, l1, l2, Nat.lt_of_le_of_lt (Nat.div_le_self _ _) hm, Nat.lt_of_le_of_lt (Nat.div_le_self _ _) hn⟩, hb⟩
theorem bigTx (n : Nat) (W : World) (h : (tx n).size ≤ 100000) : Calls Tryz.prog 71 #[.string (tx n)] W fun e w' => ∃ v, e = .returned v ∧ IsBig w' v n ∧ Below W.heap.size W w' := by
  have := bigText_any (tx n) W (by omega) (tx_nat n).1
  have e : Cub.dval (tx n).data.toList = n := tx_val n
  rwa [e] at this
theorem tx_lt (n : Nat) : n < 10 ^ (tx n).size := by
  have := Cub.dval_lt (tx_nat n).1
  rw [list_len] at this
  have e : Cub.dval (tx n).data.toList = n := tx_val n
  rwa [e] at this
theorem sc_lt {n j : Nat} (E : Nat) (h : n ≠ 0 → (tx n).size + j ≤ E) : n * 10 ^ j < 10 ^ E := by
  by_cases h0 : n = 0
  · subst h0; rw [Nat.zero_mul]; exact Nat.pow_pos (by decide)
  · refine Nat.lt_of_lt_of_le (Nat.mul_lt_mul_of_pos_right (tx_lt n) (Nat.pow_pos (by decide))) ?_
    rw [← Nat.pow_add]
    exact Nat.pow_le_pow_right (by decide) (h h0)
/-- A decimal's exponent. -/
def decK (d : Bool) (x u : ByteArray) : Int := (if d then -(dv x : Int) else (dv x : Int)) - (u.size : Int)
def decOk (d : Bool) (t u x : ByteArray) : Bool := decide (dv x ≤ 4096) && !farQ (dv (t ++ u)) (decK d x u)
noncomputable def decN (b d : Bool) (t u x : ByteArray) : ByteArray := if decOk d t u x then numT (scQ b (dv (t ++ u)) (decK d x u)) else ⟨#[]⟩
noncomputable def decD (b d : Bool) (t u x : ByteArray) : ByteArray := if decOk d t u x then denT (scQ b (dv (t ++ u)) (decK d x u)) else ⟨#[]⟩
noncomputable def decE (b d : Bool) (t u x : ByteArray) : Int := if decOk d t u x then errT (scQ b (dv (t ++ u)) (decK d x u)) else 7

theorem far_prog {n : Nat} {k : Int} (h : (tx n).size ≤ 600) : farQ n k = (decide (k ≤ -600) || (decide (0 ≤ k) && !(decide (n = 0)) && decide (600 < ((tx n).size : Int) + k))) := by
  have h1 : ¬ 10 ^ 600 ≤ n := fun hh => by have := (tx_long n 600 (by decide)).2 hh; omega
  unfold farQ
  rw [decide_eq_false h1, Bool.false_or]
  by_cases hk : 0 < k
  · rw [decide_eq_true hk, decide_eq_true (show 0 ≤ k by omega)]
    by_cases h0 : n = 0 <;> simp [h0]
  · rw [decide_eq_false hk]
    by_cases hk0 : 0 ≤ k
    · rw [decide_eq_false (show ¬ 600 < ((tx n).size : Int) + k by omega)]; simp
    · rw [decide_eq_false hk0]; simp
theorem far_long {n : Nat} {k : Int} (h : 10 ^ 600 ≤ n) : farQ n k = true := by
  unfold farQ
  rw [decide_eq_true h, Bool.true_or, Bool.true_or]
theorem nat_tx (t : ByteArray) (h : Dg t) : natT t = tx (dv t) := by
  rcases Nat.eq_zero_or_pos t.size with h0 | h0
  · obtain ⟨h1, h2, _⟩ := natT_nil h0; rw [h1, h2]
  · exact natT_tx h h0
theorem decimal_any (b d : Bool) (t u x : ByteArray) (w : World) (htab : Tab w) (ht : Dg t ∧ 0 < t.size ∧ t.size ≤ 65536) (hu : Dg u ∧ u.size ≤ 65536) (hx : Dg x ∧ x.size ≤ 65536) :
    Calls Tryz.prog 82 #[partsV b t u x d ⟨#[]⟩ 0] w fun r w' => r = .returned (.tuple #[.agg #[.string (decN b d t u x), .string (decD b d t u x)], .int .i64 (decE b d t u x), .int .i64 0]) ∧ Below w.heap.size w w' := by
  have hn1 := fun W => naturalT_any (t ++ u) W
  have hn2 := fun W => naturalT_any x W
  rw [nat_tx _ (dg_append ht.1 hu.1)] at hn1
  rw [nat_tx _ hx.1] at hn2
  have hX := tx_long (dv x) 4 (by decide)
  have hN := tx_long (dv (t ++ u)) 600 (by decide)
  unfold decN decD decE
  by_cases hl : 600 < (tx (dv (t ++ u))).size ∨ 4 < (tx (dv x)).size
  · have hok : decOk d t u x = false := by
      unfold decOk
      rcases hl with hl | hl
      · have : farQ (dv (t ++ u)) (decK d x u) = true := far_long (hN.1 hl)
        rw [this]; simp
      · rw [decide_eq_false (show ¬ dv x ≤ 4096 by have := hX.1 hl; omega), Bool.false_and]
    rw [hok]
    exact decimal_long b d t u x _ _ w ht.2.2 hu.2 hn1 hn2 hl
  · have l1 : (tx (dv (t ++ u))).size ≤ 600 := by omega
    have l2 : (tx (dv x)).size ≤ 4 := by omega
    have hX4 : dv x < 10000 := by
      rcases Nat.lt_or_ge (dv x) 10000 with h | h
      · exact h
      · have := hX.2 h; omega
    by_cases h3 : dv x ≤ 4096
    · have hf := far_prog (k := decK d x u) l1
      have hok : decOk d t u x = !farQ (dv (t ++ u)) (decK d x u) := by unfold decOk; rw [decide_eq_true h3, Bool.true_and]
      rw [hok]
      have hm0 : ((tx (dv (t ++ u))).toList == [48]) = decide (dv (t ++ u) = 0) := by
        rw [Bool.eq_iff_iff, beq_iff_eq, decide_eq_true_iff]; exact tx_is0 _
      have p6 := pow600
      obtain ⟨E, hE⟩ : ∃ E : Nat, E = 600 := ⟨_, rfl⟩
      rw [← hE] at p6
      have hKb : -70000 ≤ decK d x u ∧ decK d x u ≤ 70000 := by unfold decK; split <;> omega
      have hN6 : dv (t ++ u) < 10 ^ E := Nat.lt_of_lt_of_le (tx_lt _) (Nat.pow_le_pow_right (by decide) (by omega))
      have h1k : 1 < 1000000000 ^ 67 := Nat.one_lt_pow (by omega) (by omega)
      refine decimal_walk b d t u x _ _ (dv x) (decK d x u) w ht.2.2 hu.2 hX4 hn1 hn2 (fun W => atoi_any _ hX4 W) l1 l2 h3 _ (farQ (dv (t ++ u)) (decK d x u)) hm0 rfl hf (fun w v => QOf w v (scQ b (dv (t ++ u)) (decK d x u)) 67) (dv (t ++ u)) _ _ _ htab ?_ ?_ ?_ ?_ ?_ ?_ ?_
      · intro h; rw [h]; exact ⟨rfl, rfl, rfl⟩
      · intro _ W; exact bigTx _ W (by omega)
      · intro h hk W y hy
        obtain ⟨j, hj⟩ : ∃ j : Nat, decK d x u = -(j : Int) := ⟨(-decK d x u).toNat, by omega⟩
        have := shift_any y 1 j 67 W hy (by decide) h1k (by omega)
        rw [show -decK d x u = (j : Int) by omega, Int.toNat_natCast]
        rwa [Nat.one_mul] at this
      · intro h hk W y hy
        obtain ⟨j, hj⟩ : ∃ j : Nat, decK d x u = (j : Int) := ⟨(decK d x u).toNat, by omega⟩
        rw [hj, Int.toNat_natCast]
        exact shift_any y _ j 67 W hy (by decide) (Nat.lt_of_lt_of_le hN6 p6) (by omega)
      · intro h hk W y z hy hz
        obtain ⟨j, hj⟩ : ∃ j : Nat, decK d x u = -(j : Int) := ⟨(-decK d x u).toNat, by omega⟩
        have hj6 : j < E := by have := (far_no h).2; omega
        have e1 : (decK d x u).toNat = 0 := by omega
        have e2 : (-decK d x u).toNat = j := by omega
        unfold scQ
        rw [e1, e2, Nat.pow_zero, Nat.mul_one]
        rw [e2] at hz
        exact ratioQ b _ _ W y z (Nat.lt_of_lt_of_le hN6 p6) (Nat.lt_of_lt_of_le (pow_lt_pow10 hj6) p6) (Nat.pow_pos (by decide)) hy hz
      · intro h hk W y z hy hz
        obtain ⟨j, hj⟩ : ∃ j : Nat, decK d x u = (j : Int) := ⟨(decK d x u).toNat, by omega⟩
        have e1 : (decK d x u).toNat = j := by omega
        have e2 : (-decK d x u).toNat = 0 := by omega
        unfold scQ
        rw [e1, e2, Nat.pow_zero]
        rw [e1] at hy
        refine ratioQ b _ _ W y z (Nat.lt_of_lt_of_le (sc_lt E fun h0 => ?_) p6) h1k (by decide) hy hz
        rw [hf, Bool.or_eq_false_iff, decide_eq_true hk, decide_eq_false h0] at h
        have := of_decide_eq_false (by simpa using h.2 : decide (600 < ((tx (dv (t ++ u))).size : Int) + decK d x u) = false)
        omega
      · intro h W v hv ht'
        rw [h]
        exact qtell v _ 67 W hv (by decide) ht'
    · have hok : decOk d t u x = false := by unfold decOk; rw [decide_eq_false h3, Bool.false_and]
      rw [hok]
      exact decimal_exp b d t u x _ _ (dv x) w ht.2.2 hu.2 hX4 hn1 hn2 (fun W => atoi_any _ hX4 W) l1 l2 (by omega)
end Go.Proofs.YtifalmdoligblaaGreatDoor

namespace Go.Proofs.YtifalmdoligblaaGreatDoor
open Go.RowKit

theorem bd_valP (E : Nat) (b : Bool) (m n : Nat) (hm : m < 10 ^ E) (hn : n < 10 ^ E) (h0 : 0 < n) : Bd E (Cub.valQ b m n) := by
  obtain ⟨l1, l2⟩ := Cub.ratio_low (b := b) (n := m) h0
  obtain ⟨_, e2, e3⟩ := Cub.low_is l1
  rw [l2] at e2 e3
  exact ⟨by rw [← e2]; exact Nat.lt_of_le_of_lt (Nat.div_le_self _ _) hm, by rw [← e3]; exact Nat.lt_of_le_of_lt (Nat.div_le_self _ _) hn⟩
theorem fx_shape (x : Rat) : ∃ fb fn fd, fx x = .agg #[.bool fb, .string fn, .string fd] := ⟨_, _, _, rfl⟩
theorem sc_bd (b : Bool) (n : Nat) (k : Int) (h : farQ n k = false) : Bd 600 (scQ b n k) := by
  have hq := far_no h
  obtain ⟨E, hE⟩ : ∃ E : Nat, E = 600 := ⟨_, rfl⟩
  have hn := lt_of_not_le600 hq.1
  rw [← hE] at hn ⊢
  have l1 : (tx n).size ≤ 600 := by
    rcases Nat.lt_or_ge 600 (tx n).size with hh | hh
    · exact absurd ((tx_long n 600 (by decide)).1 hh) hq.1
    · exact hh
  unfold scQ
  refine bd_valP E b _ _ (sc_lt E fun h0 => ?_) (pow_lt_pow10 (by omega)) (Nat.pow_pos (by decide))
  by_cases hk : 0 ≤ k
  · rw [far_prog l1, Bool.or_eq_false_iff, decide_eq_true hk, decide_eq_false h0] at h
    have := of_decide_eq_false (by simpa using h.2 : decide (600 < ((tx n).size : Int) + k) = false)
    omega
  · omega
theorem tx_len_le {t : ByteArray} (hd : Dg t) (h : 0 < t.size) : (tx (dv t)).size ≤ t.size := by
  rw [← bareT_tx hd h]
  have : ∀ l : List UInt8, (bareL l).length ≤ l.length := by
    intro l
    induction l with
    | nil => exact Nat.le_refl _
    | cons c l ih =>
      cases l with
      | nil => exact Nat.le_refl _
      | cons e r =>
        rw [bareL]
        split
        · exact Nat.le_trans ih (by simp)
        · exact Nat.le_refl _
  have h2 := this t.data.toList
  rw [list_len] at h2
  rw [← list_len]
  exact h2
theorem refDec_any (s t u x : ByteArray) (b d : Bool) (w : World) (hs : s.size ≤ 65536) (ht : Dg t ∧ 0 < t.size ∧ t.size ≤ s.size) (hu : Dg u ∧ u.size ≤ s.size) (hx : Dg x ∧ x.size ≤ s.size)
    (h83 : ∀ w, Calls Tryz.prog 83 #[.string s] w fun r w' => r = .returned (.tuple #[cutV b (bareT (t ++ u)) (bareT x) d (u.size : Int) ⟨#[]⟩ 0, .int .i64 (-1)]) ∧ Below w.heap.size w w') :
    Calls Tryz.prog 23 #[.string s] w fun r w' => r = .returned (.tuple #[.agg #[.string (decN b d t u x), .string (decD b d t u x)], .int .i64 (decE b d t u x), .int .i64 0]) ∧ Below w.heap.size w w' := by
  have hdg := dg_append ht.1 hu.1
  have hpos : 0 < (t ++ u).size := by rw [size_append]; omega
  have hK : (if dv x ≤ 4096 then (if d then -(dv x : Int) else (dv x : Int)) - (u.size : Int) else 0) = if dv x ≤ 4096 then decK d x u else 0 := rfl
  have e1 := bareT_tx hdg hpos
  have hsz : (tx (dv (t ++ u))).size ≤ 140000 := by
    have h1 := tx_len_le hdg hpos
    rw [size_append] at h1
    omega
  by_cases h3 : dv x ≤ 4096
  · have hKb : -70000 ≤ decK d x u ∧ decK d x u ≤ 70000 := by unfold decK; split <;> omega
    have hsc : ∀ W, Calls Tryz.prog 85 #[.bool b, .string (bareT (t ++ u)), .int .i64 (decK d x u)] W fun r w' => r = .returned (.tuple #[if farQ (dv (t ++ u)) (decK d x u) then .agg #[.bool false, .string ⟨#[]⟩, .string ⟨#[]⟩] else fx (scQ b (dv (t ++ u)) (decK d x u)), .bool (!farQ (dv (t ++ u)) (decK d x u))]) ∧ Below W.heap.size W w' := fun W => by
      rw [e1]; exact refScaled_any b _ _ W hKb.1 hKb.2 hsz
    have hten : ∀ W, Calls Tryz.prog 84 #[cutV b (bareT (t ++ u)) (bareT x) d (u.size : Int) ⟨#[]⟩ 0] W fun r w' => r = .returned (.tuple #[.int .i64 (decK d x u), .bool true]) ∧ Below W.heap.size W w' := fun W => by
      have := refTen_any b d (bareT (t ++ u)) x ⟨#[]⟩ (u.size : Int) 0 W (by omega) (by omega) hx.1
      rw [hK, if_pos h3, decide_eq_true h3] at this
      exact this
    have hok : decOk d t u x = !farQ (dv (t ++ u)) (decK d x u) := by unfold decOk; rw [decide_eq_true h3, Bool.true_and]
    unfold decN decD decE
    rw [hok]
    cases hf : farQ (dv (t ++ u)) (decK d x u) with
    | true =>
      rw [hf] at hsc
      exact refParse_dec s _ _ _ _ b d true false (u.size : Int) _ _ _ w hs h83 ⟨_, _, _, rfl⟩ hten (fun _ => hsc) (fun _ h => by cases h) (fun _ => ⟨rfl, rfl, rfl⟩)
    | false =>
      rw [hf] at hsc
      have hbd := sc_bd b _ _ hf
      obtain ⟨E, hE⟩ : ∃ E : Nat, E = 600 := ⟨_, rfl⟩
      rw [← hE] at hbd
      exact refParse_dec s _ _ _ _ b d true true (u.size : Int) _ _ _ w hs h83 (fx_shape _) hten (fun _ => hsc) (fun _ _ W => refToldQ E _ W (by omega) (by omega) hbd) (fun h => by rcases h with h | h <;> cases h)
  · have hten : ∀ W, Calls Tryz.prog 84 #[cutV b (bareT (t ++ u)) (bareT x) d (u.size : Int) ⟨#[]⟩ 0] W fun r w' => r = .returned (.tuple #[.int .i64 0, .bool false]) ∧ Below W.heap.size W w' := fun W => by
      have := refTen_any b d (bareT (t ++ u)) x ⟨#[]⟩ (u.size : Int) 0 W (by omega) (by omega) hx.1
      rw [hK, if_neg h3, decide_eq_false h3] at this
      exact this
    have hok : decOk d t u x = false := by unfold decOk; rw [decide_eq_false h3, Bool.false_and]
    unfold decN decD decE
    rw [hok]
    exact refParse_dec s _ _ _ _ b d false false (u.size : Int) _ _ (.agg #[.bool false, .string ⟨#[]⟩, .string ⟨#[]⟩]) w hs h83 ⟨_, _, _, rfl⟩ hten (fun h => by cases h) (fun h => by cases h) (fun _ => ⟨rfl, rfl, rfl⟩)
/-- Both Parses at a decimal's text. -/
theorem both_dec (s t u x : ByteArray) (b d : Bool) (w : World) (htab : Tab w) (hs : s.size ≤ 65536) (ht : Dg t ∧ 0 < t.size ∧ t.size ≤ s.size) (hu : Dg u ∧ u.size ≤ s.size) (hx : Dg x ∧ x.size ≤ s.size)
    (h80 : ∀ w, Calls Tryz.prog 80 #[.string s] w fun r w' => r = .returned (.tuple #[partsV b t u x d ⟨#[]⟩ 0, .int .i64 (-1)]) ∧ Below w.heap.size w w') :
    Calls Tryz.prog 22 #[.string s] w fun r w' => r = .returned (.tuple #[.agg #[.string (decN b d t u x), .string (decD b d t u x)], .int .i64 (decE b d t u x), .int .i64 0]) ∧ Below w.heap.size w w' :=
  parse_dec s t u x _ _ b d _ 0 w hs h80 (fun W hb => decimal_any b d t u x W (htab.later hb) ⟨ht.1, ht.2.1, by omega⟩ ⟨hu.1, by omega⟩ ⟨hx.1, by omega⟩)
end Go.Proofs.YtifalmdoligblaaGreatDoor

namespace Go.Proofs.YtifalmdoligblaaGreatDoor
open Go.RowKit

noncomputable def frN (b : Bool) (t u : ByteArray) : ByteArray := if dv u = 0 then ⟨#[]⟩ else if 600 < (tx (dv t)).size ∨ 600 < (tx (dv u)).size then ⟨#[]⟩ else numT (Cub.valQ b (dv t) (dv u))
noncomputable def frD (b : Bool) (t u : ByteArray) : ByteArray := if dv u = 0 then ⟨#[]⟩ else if 600 < (tx (dv t)).size ∨ 600 < (tx (dv u)).size then ⟨#[]⟩ else denT (Cub.valQ b (dv t) (dv u))
noncomputable def frE (b : Bool) (t u : ByteArray) : Int := if dv u = 0 then 8 else if 600 < (tx (dv t)).size ∨ 600 < (tx (dv u)).size then 7 else errT (Cub.valQ b (dv t) (dv u))
def frK (u : ByteArray) (k : Nat) : Int := if dv u = 0 then (k : Int) else 0
theorem tx_some (n : Nat) : 0 < (tx n).size := by
  rcases Nat.eq_zero_or_pos (tx n).size with h | h
  · exact absurd (List.length_eq_zero_iff.1 (by rw [list_len]; exact h)) (tx_nat n).2.1
  · exact h
theorem tx_bool0 (n : Nat) : ((tx n).toList == [48]) = decide (n = 0) := by
  rw [Bool.eq_iff_iff, beq_iff_eq, decide_eq_true_iff]; exact tx_is0 n
theorem refFrac_any (s t u : ByteArray) (b : Bool) (k : Nat) (w : World) (hs : s.size ≤ 65536) (ht : Dg t ∧ 0 < t.size) (hu : Dg u ∧ 0 < u.size)
    (h83 : ∀ w, Calls Tryz.prog 83 #[.string s] w fun r w' => r = .returned (.tuple #[cutV b (bareT t) ⟨#[]⟩ false 0 (bareT u) (k : Int), .int .i64 (-1)]) ∧ Below w.heap.size w w') :
    Calls Tryz.prog 23 #[.string s] w fun r w' => r = .returned (.tuple #[.agg #[.string (frN b t u), .string (frD b t u)], .int .i64 (frE b t u), .int .i64 (frK u k)]) ∧ Below w.heap.size w w' := by
  rw [bareT_tx ht.1 ht.2, bareT_tx hu.1 hu.2] at h83
  have hne := not_empty_of _ (tx_some (dv u))
  have h0b := tx_bool0 (dv u)
  unfold frN frD frE frK
  by_cases h0 : dv u = 0
  · rw [if_pos h0, if_pos h0, if_pos h0, if_pos h0]
    rw [decide_eq_true h0] at h0b
    exact refParse_zero s _ _ b k w hs h83 hne h0b
  · rw [if_neg h0, if_neg h0, if_neg h0, if_neg h0]
    rw [decide_eq_false h0] at h0b
    by_cases hl : 600 < (tx (dv t)).size ∨ 600 < (tx (dv u)).size
    · rw [if_pos hl, if_pos hl, if_pos hl]
      exact refParse_great s _ _ b k w hs h83 hne h0b hl
    · rw [if_neg hl, if_neg hl, if_neg hl]
      obtain ⟨E, hE⟩ : ∃ E : Nat, E = 600 := ⟨_, rfl⟩
      have b1 : dv t < 10 ^ E := Nat.lt_of_lt_of_le (tx_lt _) (Nat.pow_le_pow_right (by decide) (by omega))
      have b2 : dv u < 10 ^ E := Nat.lt_of_lt_of_le (tx_lt _) (Nat.pow_le_pow_right (by decide) (by omega))
      have hbd := bd_valP E b _ _ b1 b2 (Nat.pos_of_ne_zero h0)
      exact refParse_frac s _ _ _ _ b _ _ k w hs h83 hne h0b (by omega) (by omega) (fx_shape _) (fun W => by rw [← fx_low b _ _ (Nat.pos_of_ne_zero h0)]; exact refLowestM E b _ _ W (by omega) (by omega) b1 b2 h0) (fun W => refToldQ E _ W (by omega) (by omega) hbd)
end Go.Proofs.YtifalmdoligblaaGreatDoor

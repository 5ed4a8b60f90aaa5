/- The document's Parse of a number's text. -/
import Derived.Test.YtifalmdoligblaaGreatDoorRefScaled
import Derived.Test.YtifalmdoligblaaGreatDoorRefFPA
namespace Go.Proofs.YtifalmdoligblaaGreatDoor
open Go.RowKit

set_option maxRecDepth 100000 in
set_option maxHeartbeats 2000000 in
theorem refTold_large (b : Bool) (s t : ByteArray) (w : World) (hl : 600 < s.size ∨ 600 < t.size) (hs : s.size ≤ 5000) (ht : t.size ≤ 5000) :
    Ans 74 #[.agg #[.bool b, .string s, .string t]] w ⟨#[]⟩ ⟨#[]⟩ 7 := by
  unfold Ans
  obtain ⟨V, hV⟩ : ∃ V, V = (w.alloc (.cells #[.bool b, .string s, .string t] 61)).alloc (.cells #[.string ⟨#[]⟩, .string ⟨#[]⟩] 23) := ⟨_, rfl⟩
  have hbV : Below w.heap.size w V := by rw [hV]; exact ((Below.refl _ _).alloc (Nat.le_refl _) _).alloc (by simp) _
  have HR : Hid (T2 V (w.heap.size + 1) (.string ⟨#[]⟩) (.string ⟨#[]⟩) ∧ Below w.heap.size w V) := ⟨by rw [hV]; exact ⟨by simp [go_sem], by simp [go_sem], by simp [go_sem], by simp [go_sem]⟩, hbV⟩
  have HF : Hid (FBox V w.heap.size (.bool b) (.string s) (.string t)) := by rw [hV]; exact ⟨by simp [go_sem], by simp [go_sem], by simp [go_sem], by simp [go_sem], by simp [go_sem], by simp [go_sem]⟩
  have HV := hide hV
  clear hbV
  have t0 := (unhide HF).c0; have t1 := (unhide HF).c1; have t2 := (unhide HF).c2
  have r0 := (unhide HR).1.c0; have r1 := (unhide HR).1.c1; have rf0 := (unhide HR).1.f0; have rf1 := (unhide HR).1.f1
  have hS := (unhide HR).1.store (.string ⟨#[]⟩) (.string ⟨#[]⟩)
  have hb : Below w.heap.size w (store2 V (w.heap.size + 1) (.string ⟨#[]⟩) (.string ⟨#[]⟩)) := below_store2 (unhide HR).2 (by omega) _ _
  have u0 := hS.c0; have u1 := hS.c1
  have HB9 := hide hb
  clear hb hS
  rcases Nat.lt_or_ge 600 s.size with h1 | h1
  · have i1 : (600 : Int) < (s.size : Int) := by omega
    clear hl
    go_enter Tryz.func74, Tryz.ntmps74
    go_upto_region 1 with fail
    rw [← unhide HV]
    clear hV HV
    go_wp2_with fail
    exact bodyPost_ret (v := .tuple #[.agg #[.string ⟨#[]⟩, .string ⟨#[]⟩], .int .i64 7]) (w := store2 V (w.heap.size + 1) (.string ⟨#[]⟩) (.string ⟨#[]⟩)) (by simp [results, Tryz.results74, go_sem, u0, u1]) rfl ⟨rfl, unhide HB9⟩
  · have i1 : ¬ (600 : Int) < (s.size : Int) := by omega
    have i2 : (600 : Int) < (t.size : Int) := by omega
    clear hl
    go_enter Tryz.func74, Tryz.ntmps74
    go_upto_region 1 with fail
    rw [← unhide HV]
    clear hV HV
    go_wp2_with fail
    exact bodyPost_ret (v := .tuple #[.agg #[.string ⟨#[]⟩, .string ⟨#[]⟩], .int .i64 7]) (w := store2 V (w.heap.size + 1) (.string ⟨#[]⟩) (.string ⟨#[]⟩)) (by simp [results, Tryz.results74, go_sem, u0, u1]) rfl ⟨rfl, unhide HB9⟩
theorem tx_large {n : Nat} (h : ¬ n < 10 ^ 600) : 600 < (tx n).size := by
  rcases Nat.lt_or_ge 600 (tx n).size with h' | h'
  · exact h'
  · exfalso
    apply h
    rw [← list_len, tx_list] at h'
    exact (Cub.dec_len_lt n 600 (by omega)).1 h'
theorem refToldQ (d : Nat) (x : Rat) (w : World) (hd1 : 1 ≤ d) (hd : d ≤ 5000) (hx : Bd d x) : Ans 74 #[fx x] w (numT x) (denT x) (errT x) := by
  unfold numT denT errT
  by_cases h : Small x
  · rw [if_pos h, if_pos h, if_pos h]
    unfold sT
    rw [tx_tb _ h.1, tx_tb _ h.2]
    exact refTold _ _ _ w (tx_size (by omega) h.1) (tx_size (by omega) h.2)
  · rw [if_neg h, if_neg h, if_neg h]
    refine refTold_large _ _ _ w ?_ (Nat.le_trans (tx_size hd1 hx.1) hd) (Nat.le_trans (tx_size hd1 hx.2) hd)
    by_cases h1 : x.num.natAbs < 10 ^ 600
    · exact Or.inr (tx_large (fun h2 => h ⟨h1, h2⟩))
    · exact Or.inl (tx_large h1)

end Go.Proofs.YtifalmdoligblaaGreatDoor

namespace Go.Proofs.YtifalmdoligblaaGreatDoor
open Go.RowKit

set_option maxRecDepth 100000 in
set_option maxHeartbeats 4000000 in
theorem refParse_long (s : ByteArray) (w : World) (hs : 65536 < s.size) : Calls Tryz.prog 23 #[.string s] w fun r w' => r = .returned (.tuple #[.agg #[.string ⟨#[]⟩, .string ⟨#[]⟩], .int .i64 4, .int .i64 0]) ∧ Below w.heap.size w w' := by
  have hs' : (65536 : Int) < (s.size : Int) := by omega
  obtain ⟨V, hV⟩ : ∃ V, V = w.alloc (.cells #[.string ⟨#[]⟩, .string ⟨#[]⟩] 23) := ⟨_, rfl⟩
  have hbV : Below w.heap.size w V := by rw [hV]; exact (Below.refl _ _).alloc (Nat.le_refl _) _
  have HR : Hid (T2 V w.heap.size (.string ⟨#[]⟩) (.string ⟨#[]⟩) ∧ Below w.heap.size w V) := ⟨by rw [hV]; exact ⟨by simp [go_sem], by simp [go_sem], by simp [go_sem], by simp [go_sem]⟩, hbV⟩
  have HV := hide hV
  clear hbV
  go_enter Tryz.func23, Tryz.ntmps23
  go_upto_region 1 with fail
  rw [← unhide HV]
  clear hV HV
  have r0 := (unhide HR).1.c0; have r1 := (unhide HR).1.c1; have rf0 := (unhide HR).1.f0; have rf1 := (unhide HR).1.f1
  go_wp2_with fail
  have hS := (unhide HR).1.store (.string ⟨#[]⟩) (.string ⟨#[]⟩)
  have hb : Below w.heap.size w (store2 V w.heap.size (.string ⟨#[]⟩) (.string ⟨#[]⟩)) := below_store2 (unhide HR).2 (Nat.le_refl _) _ _
  have v0 := hS.c0; have v1 := hS.c1
  exact bodyPost_ret (v := .tuple #[.agg #[.string ⟨#[]⟩, .string ⟨#[]⟩], .int .i64 4, .int .i64 0]) (w := store2 V w.heap.size (.string ⟨#[]⟩) (.string ⟨#[]⟩)) (by simp [results, Tryz.results23, go_sem, v0, v1]) rfl ⟨rfl, hb⟩

set_option maxRecDepth 100000 in
set_option maxHeartbeats 4000000 in
theorem refParse_fault (s : ByteArray) (k : Nat) (w : World) (hs : s.size ≤ 65536)
    (h83 : ∀ W, Calls Tryz.prog 83 #[.string s] W fun r w' => ∃ c', IsCut c' ∧ r = .returned (.tuple #[c', .int .i64 (k : Int)]) ∧ Below W.heap.size W w') : Calls Tryz.prog 23 #[.string s] w fun r w' => r = .returned (.tuple #[.agg #[.string ⟨#[]⟩, .string ⟨#[]⟩], .int .i64 3, .int .i64 (k : Int)]) ∧ Below w.heap.size w w' := by
  have hs' : ¬ (65536 : Int) < (s.size : Int) := by omega
  have H83 := hide h83
  clear h83
  obtain ⟨V, hV⟩ : ∃ V, V = w.alloc (.cells #[.string ⟨#[]⟩, .string ⟨#[]⟩] 23) := ⟨_, rfl⟩
  have hbV : Below w.heap.size w V := by rw [hV]; exact (Below.refl _ _).alloc (Nat.le_refl _) _
  have HR : Hid (T2 V w.heap.size (.string ⟨#[]⟩) (.string ⟨#[]⟩) ∧ Below w.heap.size w V) := ⟨by rw [hV]; exact ⟨by simp [go_sem], by simp [go_sem], by simp [go_sem], by simp [go_sem]⟩, hbV⟩
  have HV := hide hV
  clear hbV
  go_enter Tryz.func23, Tryz.ntmps23
  go_upto_region 1 with fail
  rw [← unhide HV]
  clear hV HV
  go_upto_region 4 with (go_at_call 83; go_must (refine (unhide H83 _).mono ?_; rintro e w1 ⟨c', hc', rfl, hb1⟩; obtain ⟨n', m', x', d', p', q', t', rfl⟩ := hc'; have HR1 : Hid (T2 w1 w.heap.size (.string ⟨#[]⟩) (.string ⟨#[]⟩) ∧ Below w.heap.size w w1) := ⟨(unhide HR).1.later hb1, (unhide HR).2.trans (hb1.mono (unhide HR).2.size)⟩; clear hb1; unfold cutV))
  obtain ⟨V2, hV2⟩ : ∃ V2, V2 = w1.alloc (.cells #[.bool n', .string m', .string x', .bool d', .int .i64 p', .string q', .int .i64 t'] 91) := ⟨_, rfl⟩
  have hb2 : Below w1.heap.size w1 V2 := by rw [hV2]; exact (Below.refl _ _).alloc (Nat.le_refl _) _
  have HR2 : Hid (T2 V2 w.heap.size (.string ⟨#[]⟩) (.string ⟨#[]⟩) ∧ Below w.heap.size w V2) := ⟨(unhide HR1).1.later hb2, (unhide HR1).2.trans (hb2.mono (unhide HR1).2.size)⟩
  rw [← hV2]
  clear hV2 hb2 HR HR1
  have r0 := (unhide HR2).1.c0; have r1 := (unhide HR2).1.c1; have rf0 := (unhide HR2).1.f0; have rf1 := (unhide HR2).1.f1
  go_wp2_with fail
  have hS := (unhide HR2).1.store (.string ⟨#[]⟩) (.string ⟨#[]⟩)
  have hb : Below w.heap.size w (store2 V2 w.heap.size (.string ⟨#[]⟩) (.string ⟨#[]⟩)) := below_store2 (unhide HR2).2 (Nat.le_refl _) _ _
  have v0 := hS.c0; have v1 := hS.c1
  exact bodyPost_ret (v := .tuple #[.agg #[.string ⟨#[]⟩, .string ⟨#[]⟩], .int .i64 3, .int .i64 (k : Int)]) (w := store2 V2 w.heap.size (.string ⟨#[]⟩) (.string ⟨#[]⟩)) (by simp [results, Tryz.results23, go_sem, v0, v1]) rfl ⟨rfl, hb⟩

set_option maxRecDepth 100000 in
set_option maxHeartbeats 4000000 in
theorem refParse_zero (s n d : ByteArray) (b : Bool) (k : Nat) (w : World) (hs : s.size ≤ 65536) (h83 : ∀ W, Calls Tryz.prog 83 #[.string s] W fun r w' => r = .returned (.tuple #[cutV b n ⟨#[]⟩ false 0 d (k : Int), .int .i64 (-1)]) ∧ Below W.heap.size W w') (hd0 : d.toList.isEmpty = false) (hd : (d.toList == [48]) = true) : Calls Tryz.prog 23 #[.string s] w fun r w' => r = .returned (.tuple #[.agg #[.string ⟨#[]⟩, .string ⟨#[]⟩], .int .i64 8, .int .i64 (k : Int)]) ∧ Below w.heap.size w w' := by
  have hs' : ¬ (65536 : Int) < (s.size : Int) := by omega
  have H83 := hide h83
  clear h83
  obtain ⟨V, hV⟩ : ∃ V, V = w.alloc (.cells #[.string ⟨#[]⟩, .string ⟨#[]⟩] 23) := ⟨_, rfl⟩
  have hbV : Below w.heap.size w V := by rw [hV]; exact (Below.refl _ _).alloc (Nat.le_refl _) _
  have HR : Hid (T2 V w.heap.size (.string ⟨#[]⟩) (.string ⟨#[]⟩) ∧ Below w.heap.size w V) := ⟨by rw [hV]; exact ⟨by simp [go_sem], by simp [go_sem], by simp [go_sem], by simp [go_sem]⟩, hbV⟩
  have HV := hide hV
  clear hbV
  go_enter Tryz.func23, Tryz.ntmps23
  go_upto_region 1 with fail
  rw [← unhide HV]
  clear hV HV
  go_upto_region 4 with (go_at_call 83; go_must (refine (unhide H83 _).mono ?_; rintro e w1 ⟨rfl, hb1⟩; have HR1 : Hid (T2 w1 w.heap.size (.string ⟨#[]⟩) (.string ⟨#[]⟩) ∧ Below w.heap.size w w1) := ⟨(unhide HR).1.later hb1, (unhide HR).2.trans (hb1.mono (unhide HR).2.size)⟩; clear hb1; unfold cutV))
  obtain ⟨V2, hV2⟩ : ∃ V2, V2 = w1.alloc (.cells #[.bool b, .string n, .string ⟨#[]⟩, .bool false, .int .i64 0, .string d, .int .i64 (k : Int)] 91) := ⟨_, rfl⟩
  have hb2 : Below w1.heap.size w1 V2 := by rw [hV2]; exact (Below.refl _ _).alloc (Nat.le_refl _) _
  have HR2 : Hid (T2 V2 w.heap.size (.string ⟨#[]⟩) (.string ⟨#[]⟩) ∧ Below w.heap.size w V2) := ⟨(unhide HR1).1.later hb2, (unhide HR1).2.trans (hb2.mono (unhide HR1).2.size)⟩
  have HC2 : Hid (∀ U, Below V2.heap.size V2 U → U.cell? ⟨w1.heap.size, 0, none⟩ = some (.bool b) ∧ U.cell? ⟨w1.heap.size, 1, none⟩ = some (.string n) ∧ U.cell? ⟨w1.heap.size, 2, none⟩ = some (.string ⟨#[]⟩) ∧ U.cell? ⟨w1.heap.size, 3, none⟩ = some (.bool false) ∧ U.cell? ⟨w1.heap.size, 4, none⟩ = some (.int .i64 0) ∧ U.cell? ⟨w1.heap.size, 5, none⟩ = some (.string d) ∧ U.cell? ⟨w1.heap.size, 6, none⟩ = some (.int .i64 (k : Int))) := by
    intro U hU
    have hlt : w1.heap.size < V2.heap.size := by rw [hV2]; simp
    refine ⟨(hU.cell (p := ⟨w1.heap.size, 0, none⟩) hlt).trans (by rw [hV2]; simp [go_sem]), (hU.cell (p := ⟨w1.heap.size, 1, none⟩) hlt).trans (by rw [hV2]; simp [go_sem]), (hU.cell (p := ⟨w1.heap.size, 2, none⟩) hlt).trans (by rw [hV2]; simp [go_sem]), (hU.cell (p := ⟨w1.heap.size, 3, none⟩) hlt).trans (by rw [hV2]; simp [go_sem]), (hU.cell (p := ⟨w1.heap.size, 4, none⟩) hlt).trans (by rw [hV2]; simp [go_sem]), (hU.cell (p := ⟨w1.heap.size, 5, none⟩) hlt).trans (by rw [hV2]; simp [go_sem]), (hU.cell (p := ⟨w1.heap.size, 6, none⟩) hlt).trans (by rw [hV2]; simp [go_sem])⟩
  rw [← hV2]
  clear hV2 hb2 HR HR1
  have hne : w.heap.size ≠ w1.heap.size := by have := (unhide HR2).1.c0; intro e; have h0 := (unhide HC2 V2 (Below.refl _ _)).1; rw [← e, this] at h0; cases h0
  obtain ⟨c0, c1, c2, c3, c4, c5, c6⟩ := unhide HC2 V2 (Below.refl _ _)
  have r0 := (unhide HR2).1.c0; have r1 := (unhide HR2).1.c1; have rf0 := (unhide HR2).1.f0; have rf1 := (unhide HR2).1.f1
  have HR2d : Hid (T2 V2.drew w.heap.size (.string ⟨#[]⟩) (.string ⟨#[]⟩) ∧ Below w.heap.size w V2.drew) := ⟨(unhide HR2).1.later (Below.refl _ _).drew, (unhide HR2).2.drew⟩
  go_upto_region 8 with fail
  go_region
  all_goals
    go_wp2_with fail
    have hS := (unhide HR2d).1.store (.string ⟨#[]⟩) (.string ⟨#[]⟩)
    have hb : Below w.heap.size w (store2 V2.drew w.heap.size (.string ⟨#[]⟩) (.string ⟨#[]⟩)) := below_store2 (unhide HR2d).2 (Nat.le_refl _) _ _
    have v0 := hS.c0; have v1 := hS.c1
    exact bodyPost_ret (v := .tuple #[.agg #[.string ⟨#[]⟩, .string ⟨#[]⟩], .int .i64 8, .int .i64 (k : Int)]) (w := store2 V2.drew w.heap.size (.string ⟨#[]⟩) (.string ⟨#[]⟩)) (by simp [results, Tryz.results23, go_sem, v0, v1]) rfl ⟨rfl, hb⟩

set_option maxRecDepth 100000 in
set_option maxHeartbeats 4000000 in
theorem refParse_great (s n d : ByteArray) (b : Bool) (k : Nat) (w : World) (hs : s.size ≤ 65536) (h83 : ∀ W, Calls Tryz.prog 83 #[.string s] W fun r w' => r = .returned (.tuple #[cutV b n ⟨#[]⟩ false 0 d (k : Int), .int .i64 (-1)]) ∧ Below W.heap.size W w') (hd0 : d.toList.isEmpty = false) (hd : (d.toList == [48]) = false) (hl : 600 < n.size ∨ 600 < d.size) : Calls Tryz.prog 23 #[.string s] w fun r w' => r = .returned (.tuple #[.agg #[.string ⟨#[]⟩, .string ⟨#[]⟩], .int .i64 7, .int .i64 0]) ∧ Below w.heap.size w w' := by
  have hs' : ¬ (65536 : Int) < (s.size : Int) := by omega
  have H83 := hide h83
  clear h83
  obtain ⟨V, hV⟩ : ∃ V, V = w.alloc (.cells #[.string ⟨#[]⟩, .string ⟨#[]⟩] 23) := ⟨_, rfl⟩
  have hbV : Below w.heap.size w V := by rw [hV]; exact (Below.refl _ _).alloc (Nat.le_refl _) _
  have HR : Hid (T2 V w.heap.size (.string ⟨#[]⟩) (.string ⟨#[]⟩) ∧ Below w.heap.size w V) := ⟨by rw [hV]; exact ⟨by simp [go_sem], by simp [go_sem], by simp [go_sem], by simp [go_sem]⟩, hbV⟩
  have HV := hide hV
  clear hbV
  go_enter Tryz.func23, Tryz.ntmps23
  go_upto_region 1 with fail
  rw [← unhide HV]
  clear hV HV
  go_upto_region 4 with (go_at_call 83; go_must (refine (unhide H83 _).mono ?_; rintro e w1 ⟨rfl, hb1⟩; have HR1 : Hid (T2 w1 w.heap.size (.string ⟨#[]⟩) (.string ⟨#[]⟩) ∧ Below w.heap.size w w1) := ⟨(unhide HR).1.later hb1, (unhide HR).2.trans (hb1.mono (unhide HR).2.size)⟩; clear hb1; unfold cutV))
  obtain ⟨V2, hV2⟩ : ∃ V2, V2 = w1.alloc (.cells #[.bool b, .string n, .string ⟨#[]⟩, .bool false, .int .i64 0, .string d, .int .i64 (k : Int)] 91) := ⟨_, rfl⟩
  have hb2 : Below w1.heap.size w1 V2 := by rw [hV2]; exact (Below.refl _ _).alloc (Nat.le_refl _) _
  have HR2 : Hid (T2 V2 w.heap.size (.string ⟨#[]⟩) (.string ⟨#[]⟩) ∧ Below w.heap.size w V2) := ⟨(unhide HR1).1.later hb2, (unhide HR1).2.trans (hb2.mono (unhide HR1).2.size)⟩
  have HC2 : Hid (∀ U, Below V2.heap.size V2 U → U.cell? ⟨w1.heap.size, 0, none⟩ = some (.bool b) ∧ U.cell? ⟨w1.heap.size, 1, none⟩ = some (.string n) ∧ U.cell? ⟨w1.heap.size, 2, none⟩ = some (.string ⟨#[]⟩) ∧ U.cell? ⟨w1.heap.size, 3, none⟩ = some (.bool false) ∧ U.cell? ⟨w1.heap.size, 4, none⟩ = some (.int .i64 0) ∧ U.cell? ⟨w1.heap.size, 5, none⟩ = some (.string d) ∧ U.cell? ⟨w1.heap.size, 6, none⟩ = some (.int .i64 (k : Int))) := by
    intro U hU
    have hlt : w1.heap.size < V2.heap.size := by rw [hV2]; simp
    refine ⟨(hU.cell (p := ⟨w1.heap.size, 0, none⟩) hlt).trans (by rw [hV2]; simp [go_sem]), (hU.cell (p := ⟨w1.heap.size, 1, none⟩) hlt).trans (by rw [hV2]; simp [go_sem]), (hU.cell (p := ⟨w1.heap.size, 2, none⟩) hlt).trans (by rw [hV2]; simp [go_sem]), (hU.cell (p := ⟨w1.heap.size, 3, none⟩) hlt).trans (by rw [hV2]; simp [go_sem]), (hU.cell (p := ⟨w1.heap.size, 4, none⟩) hlt).trans (by rw [hV2]; simp [go_sem]), (hU.cell (p := ⟨w1.heap.size, 5, none⟩) hlt).trans (by rw [hV2]; simp [go_sem]), (hU.cell (p := ⟨w1.heap.size, 6, none⟩) hlt).trans (by rw [hV2]; simp [go_sem])⟩
  rw [← hV2]
  clear hV2 hb2 HR HR1
  have hne : w.heap.size ≠ w1.heap.size := by have := (unhide HR2).1.c0; intro e; have h0 := (unhide HC2 V2 (Below.refl _ _)).1; rw [← e, this] at h0; cases h0
  obtain ⟨c0, c1, c2, c3, c4, c5, c6⟩ := unhide HC2 V2 (Below.refl _ _)
  have r0 := (unhide HR2).1.c0; have r1 := (unhide HR2).1.c1; have rf0 := (unhide HR2).1.f0; have rf1 := (unhide HR2).1.f1
  by_cases h1 : 600 < n.size
  · have h1' : (600 : Int) < (n.size : Int) := by omega
    go_wp2_with fail
    have hS := (unhide HR2).1.store (.string ⟨#[]⟩) (.string ⟨#[]⟩)
    have hb : Below w.heap.size w (store2 V2 w.heap.size (.string ⟨#[]⟩) (.string ⟨#[]⟩)) := below_store2 (unhide HR2).2 (Nat.le_refl _) _ _
    have v0 := hS.c0; have v1 := hS.c1
    exact bodyPost_ret (v := .tuple #[.agg #[.string ⟨#[]⟩, .string ⟨#[]⟩], .int .i64 7, .int .i64 0]) (w := store2 V2 w.heap.size (.string ⟨#[]⟩) (.string ⟨#[]⟩)) (by simp [results, Tryz.results23, go_sem, v0, v1]) rfl ⟨rfl, hb⟩
  · have h1' : ¬ (600 : Int) < (n.size : Int) := by omega
    have h2' : (600 : Int) < (d.size : Int) := by omega
    go_wp2_with fail
    have hS := (unhide HR2).1.store (.string ⟨#[]⟩) (.string ⟨#[]⟩)
    have hb : Below w.heap.size w (store2 V2 w.heap.size (.string ⟨#[]⟩) (.string ⟨#[]⟩)) := below_store2 (unhide HR2).2 (Nat.le_refl _) _ _
    have v0 := hS.c0; have v1 := hS.c1
    exact bodyPost_ret (v := .tuple #[.agg #[.string ⟨#[]⟩, .string ⟨#[]⟩], .int .i64 7, .int .i64 0]) (w := store2 V2 w.heap.size (.string ⟨#[]⟩) (.string ⟨#[]⟩)) (by simp [results, Tryz.results23, go_sem, v0, v1]) rfl ⟨rfl, hb⟩

set_option maxRecDepth 100000 in
set_option maxHeartbeats 4000000 in
theorem refParse_frac (s n d rn rd : ByteArray) (b : Bool) (f : Value) (re : Int) (k : Nat) (w : World) (hs : s.size ≤ 65536) (h83 : ∀ W, Calls Tryz.prog 83 #[.string s] W fun r w' => r = .returned (.tuple #[cutV b n ⟨#[]⟩ false 0 d (k : Int), .int .i64 (-1)]) ∧ Below W.heap.size W w') (hd0 : d.toList.isEmpty = false) (hd : (d.toList == [48]) = false) (h1 : n.size ≤ 600) (h2 : d.size ≤ 600)
    (hf : ∃ fb fn fd, f = .agg #[.bool fb, .string fn, .string fd])
    (h75 : ∀ W, Calls Tryz.prog 75 #[.bool b, .string n, .string d] W fun r w' => r = .returned f ∧ Below W.heap.size W w')
    (h74 : ∀ W, Ans 74 #[f] W rn rd re) : Calls Tryz.prog 23 #[.string s] w fun r w' => r = .returned (.tuple #[.agg #[.string rn, .string rd], .int .i64 re, .int .i64 0]) ∧ Below w.heap.size w w' := by
  have hs' : ¬ (65536 : Int) < (s.size : Int) := by omega
  have h1' : ¬ (600 : Int) < (n.size : Int) := by omega
  have h2' : ¬ (600 : Int) < (d.size : Int) := by omega
  obtain ⟨fb, fn, fd, rfl⟩ := hf
  have H83 := hide h83
  have H75 := hide h75
  have H74 := hide h74
  clear h83 h75 h74
  obtain ⟨V, hV⟩ : ∃ V, V = w.alloc (.cells #[.string ⟨#[]⟩, .string ⟨#[]⟩] 23) := ⟨_, rfl⟩
  have hbV : Below w.heap.size w V := by rw [hV]; exact (Below.refl _ _).alloc (Nat.le_refl _) _
  have HR : Hid (T2 V w.heap.size (.string ⟨#[]⟩) (.string ⟨#[]⟩) ∧ Below w.heap.size w V) := ⟨by rw [hV]; exact ⟨by simp [go_sem], by simp [go_sem], by simp [go_sem], by simp [go_sem]⟩, hbV⟩
  have HV := hide hV
  clear hbV
  go_enter Tryz.func23, Tryz.ntmps23
  go_upto_region 1 with fail
  rw [← unhide HV]
  clear hV HV
  go_upto_region 4 with (go_at_call 83; go_must (refine (unhide H83 _).mono ?_; rintro e w1 ⟨rfl, hb1⟩; have HR1 : Hid (T2 w1 w.heap.size (.string ⟨#[]⟩) (.string ⟨#[]⟩) ∧ Below w.heap.size w w1) := ⟨(unhide HR).1.later hb1, (unhide HR).2.trans (hb1.mono (unhide HR).2.size)⟩; clear hb1; unfold cutV))
  obtain ⟨V2, hV2⟩ : ∃ V2, V2 = w1.alloc (.cells #[.bool b, .string n, .string ⟨#[]⟩, .bool false, .int .i64 0, .string d, .int .i64 (k : Int)] 91) := ⟨_, rfl⟩
  have hb2 : Below w1.heap.size w1 V2 := by rw [hV2]; exact (Below.refl _ _).alloc (Nat.le_refl _) _
  have HR2 : Hid (T2 V2 w.heap.size (.string ⟨#[]⟩) (.string ⟨#[]⟩) ∧ Below w.heap.size w V2) := ⟨(unhide HR1).1.later hb2, (unhide HR1).2.trans (hb2.mono (unhide HR1).2.size)⟩
  have HC2 : Hid (∀ U, Below V2.heap.size V2 U → U.cell? ⟨w1.heap.size, 0, none⟩ = some (.bool b) ∧ U.cell? ⟨w1.heap.size, 1, none⟩ = some (.string n) ∧ U.cell? ⟨w1.heap.size, 2, none⟩ = some (.string ⟨#[]⟩) ∧ U.cell? ⟨w1.heap.size, 3, none⟩ = some (.bool false) ∧ U.cell? ⟨w1.heap.size, 4, none⟩ = some (.int .i64 0) ∧ U.cell? ⟨w1.heap.size, 5, none⟩ = some (.string d) ∧ U.cell? ⟨w1.heap.size, 6, none⟩ = some (.int .i64 (k : Int))) := by
    intro U hU
    have hlt : w1.heap.size < V2.heap.size := by rw [hV2]; simp
    refine ⟨(hU.cell (p := ⟨w1.heap.size, 0, none⟩) hlt).trans (by rw [hV2]; simp [go_sem]), (hU.cell (p := ⟨w1.heap.size, 1, none⟩) hlt).trans (by rw [hV2]; simp [go_sem]), (hU.cell (p := ⟨w1.heap.size, 2, none⟩) hlt).trans (by rw [hV2]; simp [go_sem]), (hU.cell (p := ⟨w1.heap.size, 3, none⟩) hlt).trans (by rw [hV2]; simp [go_sem]), (hU.cell (p := ⟨w1.heap.size, 4, none⟩) hlt).trans (by rw [hV2]; simp [go_sem]), (hU.cell (p := ⟨w1.heap.size, 5, none⟩) hlt).trans (by rw [hV2]; simp [go_sem]), (hU.cell (p := ⟨w1.heap.size, 6, none⟩) hlt).trans (by rw [hV2]; simp [go_sem])⟩
  rw [← hV2]
  clear hV2 hb2 HR HR1
  have hne : w.heap.size ≠ w1.heap.size := by have := (unhide HR2).1.c0; intro e; have h0 := (unhide HC2 V2 (Below.refl _ _)).1; rw [← e, this] at h0; cases h0
  obtain ⟨c0, c1, c2, c3, c4, c5, c6⟩ := unhide HC2 V2 (Below.refl _ _)
  go_upto_region 12 with (first
    | (go_at_call 75; go_must (refine (unhide H75 _).mono ?_; rintro e w3 ⟨rfl, hb3⟩; have HR3 : Hid (T2 w3 w.heap.size (.string ⟨#[]⟩) (.string ⟨#[]⟩) ∧ Below w.heap.size w w3) := ⟨(unhide HR2).1.later hb3, (unhide HR2).2.trans (hb3.mono (unhide HR2).2.size)⟩; have HL3 := hide (True.intro); clear hb3))
    | (go_at_call 74; go_must (refine (unhide H74 _).mono ?_; rintro e w4 ⟨rfl, hb4⟩; have HR4 : Hid (T2 w4 w.heap.size (.string ⟨#[]⟩) (.string ⟨#[]⟩) ∧ Below w.heap.size w w4) := ⟨(unhide HR3).1.later hb4, (unhide HR3).2.trans (hb4.mono (unhide HR3).2.size)⟩; have HL4 := hide (True.intro); clear hb4)))
  obtain ⟨V9, hV9⟩ : ∃ V9, V9 = w4.alloc (.cells #[.string rn, .string rd] 23) := ⟨_, rfl⟩
  have hb9 : Below w4.heap.size w4 V9 := by rw [hV9]; exact (Below.refl _ _).alloc (Nat.le_refl _) _
  have HR9 : Hid (T2 V9 w.heap.size (.string ⟨#[]⟩) (.string ⟨#[]⟩) ∧ Below w.heap.size w V9) := ⟨(unhide HR4).1.later hb9, (unhide HR4).2.trans (hb9.mono (unhide HR4).2.size)⟩
  have z0 : V9.cell? ⟨w4.heap.size, 0, none⟩ = some (.string rn) := by rw [hV9]; simp [go_sem]
  have z1 : V9.cell? ⟨w4.heap.size, 1, none⟩ = some (.string rd) := by rw [hV9]; simp [go_sem]
  rw [← hV9]
  clear hV9 hb9
  have r0 := (unhide HR9).1.c0; have r1 := (unhide HR9).1.c1; have rf0 := (unhide HR9).1.f0; have rf1 := (unhide HR9).1.f1
  go_wp2_with fail
  have hS := (unhide HR9).1.store (.string rn) (.string rd)
  have hb : Below w.heap.size w (store2 V9 w.heap.size (.string rn) (.string rd)) := below_store2 (unhide HR9).2 (Nat.le_refl _) _ _
  have v0 := hS.c0; have v1 := hS.c1
  exact bodyPost_ret (v := .tuple #[.agg #[.string rn, .string rd], .int .i64 re, .int .i64 0]) (w := store2 V9 w.heap.size (.string rn) (.string rd)) (by simp [results, Tryz.results23, go_sem, v0, v1]) rfl ⟨rfl, hb⟩

set_option maxRecDepth 100000 in
set_option maxHeartbeats 4000000 in
theorem refParse_dec (s n x rn rd : ByteArray) (b d ok ok2 : Bool) (p K re : Int) (f : Value) (w : World) (hs : s.size ≤ 65536) (h83 : ∀ W, Calls Tryz.prog 83 #[.string s] W fun r w' => r = .returned (.tuple #[cutV b n x d p ⟨#[]⟩ 0, .int .i64 (-1)]) ∧ Below W.heap.size W w')
    (hf : ∃ fb fn fd, f = .agg #[.bool fb, .string fn, .string fd])
    (h84 : ∀ W, Calls Tryz.prog 84 #[cutV b n x d p ⟨#[]⟩ 0] W fun r w' => r = .returned (.tuple #[.int .i64 K, .bool ok]) ∧ Below W.heap.size W w')
    (h85 : ok = true → ∀ W, Calls Tryz.prog 85 #[.bool b, .string n, .int .i64 K] W fun r w' => r = .returned (.tuple #[f, .bool ok2]) ∧ Below W.heap.size W w')
    (h74 : ok = true → ok2 = true → ∀ W, Ans 74 #[f] W rn rd re)
    (hno : ok = false ∨ ok2 = false → rn = ⟨#[]⟩ ∧ rd = ⟨#[]⟩ ∧ re = 7) : Calls Tryz.prog 23 #[.string s] w fun r w' => r = .returned (.tuple #[.agg #[.string rn, .string rd], .int .i64 re, .int .i64 0]) ∧ Below w.heap.size w w' := by
  have hs' : ¬ (65536 : Int) < (s.size : Int) := by omega
  obtain ⟨fb, fn, fd, rfl⟩ := hf
  have H83 := hide h83
  have H84 := hide h84
  have H85 := hide h85
  have H74 := hide h74
  have HNO := hide hno
  have HNO2 : Hid (ok2 = false → rn = ⟨#[]⟩ ∧ rd = ⟨#[]⟩ ∧ re = 7) := fun h => hno (Or.inr h)
  clear h83 h84 h85 h74 hno
  have hem : (⟨#[]⟩ : ByteArray).toList.isEmpty = true := empty_of _ rfl
  obtain ⟨V, hV⟩ : ∃ V, V = w.alloc (.cells #[.string ⟨#[]⟩, .string ⟨#[]⟩] 23) := ⟨_, rfl⟩
  have hbV : Below w.heap.size w V := by rw [hV]; exact (Below.refl _ _).alloc (Nat.le_refl _) _
  have HR : Hid (T2 V w.heap.size (.string ⟨#[]⟩) (.string ⟨#[]⟩) ∧ Below w.heap.size w V) := ⟨by rw [hV]; exact ⟨by simp [go_sem], by simp [go_sem], by simp [go_sem], by simp [go_sem]⟩, hbV⟩
  have HV := hide hV
  clear hbV
  go_enter Tryz.func23, Tryz.ntmps23
  go_upto_region 1 with fail
  rw [← unhide HV]
  clear hV HV
  go_upto_region 4 with (go_at_call 83; go_must (refine (unhide H83 _).mono ?_; rintro e w1 ⟨rfl, hb1⟩; have HR1 : Hid (T2 w1 w.heap.size (.string ⟨#[]⟩) (.string ⟨#[]⟩) ∧ Below w.heap.size w w1) := ⟨(unhide HR).1.later hb1, (unhide HR).2.trans (hb1.mono (unhide HR).2.size)⟩; clear hb1; unfold cutV))
  obtain ⟨V2, hV2⟩ : ∃ V2, V2 = w1.alloc (.cells #[.bool b, .string n, .string x, .bool d, .int .i64 p, .string ⟨#[]⟩, .int .i64 0] 91) := ⟨_, rfl⟩
  have hb2 : Below w1.heap.size w1 V2 := by rw [hV2]; exact (Below.refl _ _).alloc (Nat.le_refl _) _
  have HR2 : Hid (T2 V2 w.heap.size (.string ⟨#[]⟩) (.string ⟨#[]⟩) ∧ Below w.heap.size w V2) := ⟨(unhide HR1).1.later hb2, (unhide HR1).2.trans (hb2.mono (unhide HR1).2.size)⟩
  have HC2 : Hid (∀ U, Below V2.heap.size V2 U → U.cell? ⟨w1.heap.size, 0, none⟩ = some (.bool b) ∧ U.cell? ⟨w1.heap.size, 1, none⟩ = some (.string n) ∧ U.cell? ⟨w1.heap.size, 2, none⟩ = some (.string x) ∧ U.cell? ⟨w1.heap.size, 3, none⟩ = some (.bool d) ∧ U.cell? ⟨w1.heap.size, 4, none⟩ = some (.int .i64 p) ∧ U.cell? ⟨w1.heap.size, 5, none⟩ = some (.string ⟨#[]⟩) ∧ U.cell? ⟨w1.heap.size, 6, none⟩ = some (.int .i64 0)) := by
    intro U hU
    have hlt : w1.heap.size < V2.heap.size := by rw [hV2]; simp
    refine ⟨(hU.cell (p := ⟨w1.heap.size, 0, none⟩) hlt).trans (by rw [hV2]; simp [go_sem]), (hU.cell (p := ⟨w1.heap.size, 1, none⟩) hlt).trans (by rw [hV2]; simp [go_sem]), (hU.cell (p := ⟨w1.heap.size, 2, none⟩) hlt).trans (by rw [hV2]; simp [go_sem]), (hU.cell (p := ⟨w1.heap.size, 3, none⟩) hlt).trans (by rw [hV2]; simp [go_sem]), (hU.cell (p := ⟨w1.heap.size, 4, none⟩) hlt).trans (by rw [hV2]; simp [go_sem]), (hU.cell (p := ⟨w1.heap.size, 5, none⟩) hlt).trans (by rw [hV2]; simp [go_sem]), (hU.cell (p := ⟨w1.heap.size, 6, none⟩) hlt).trans (by rw [hV2]; simp [go_sem])⟩
  rw [← hV2]
  clear hV2 hb2 HR HR1
  have hne : w.heap.size ≠ w1.heap.size := by have := (unhide HR2).1.c0; intro e; have h0 := (unhide HC2 V2 (Below.refl _ _)).1; rw [← e, this] at h0; cases h0
  obtain ⟨c0, c1, c2, c3, c4, c5, c6⟩ := unhide HC2 V2 (Below.refl _ _)
  unfold cutV at H84
  go_upto_region 14 with (go_at_call 84; go_must (refine (unhide H84 _).mono ?_; rintro e w3 ⟨rfl, hb3⟩; have HR3 : Hid (T2 w3 w.heap.size (.string ⟨#[]⟩) (.string ⟨#[]⟩) ∧ Below w.heap.size w w3) := ⟨(unhide HR2).1.later hb3, (unhide HR2).2.trans (hb3.mono (unhide HR2).2.size)⟩; have HL3 := hide (hb3); clear hb3))
  cases ok with
  | false =>
    have HN := hide (unhide HNO (Or.inl rfl))
    have r0 := (unhide HR3).1.c0; have r1 := (unhide HR3).1.c1; have rf0 := (unhide HR3).1.f0; have rf1 := (unhide HR3).1.f1
    go_wp2_with fail
    have hS := (unhide HR3).1.store (.string ⟨#[]⟩) (.string ⟨#[]⟩)
    have hb : Below w.heap.size w (store2 w3 w.heap.size (.string ⟨#[]⟩) (.string ⟨#[]⟩)) := below_store2 (unhide HR3).2 (Nat.le_refl _) _ _
    have v0 := hS.c0; have v1 := hS.c1
    exact bodyPost_ret (v := .tuple #[.agg #[.string ⟨#[]⟩, .string ⟨#[]⟩], .int .i64 7, .int .i64 0]) (w := store2 w3 w.heap.size (.string ⟨#[]⟩) (.string ⟨#[]⟩)) (by simp [results, Tryz.results23, go_sem, v0, v1]) rfl ⟨by rw [(unhide HN).1, (unhide HN).2.1, (unhide HN).2.2], hb⟩
  | true =>
    have H85b := hide (unhide H85 rfl)
    have H74a : Hid (ok2 = true → ∀ W, Ans 74 #[.agg #[.bool fb, .string fn, .string fd]] W rn rd re) := unhide H74 rfl
    have HC3 := hide (unhide HC2 w3 (unhide HL3))
    clear c0 c1 c2 c3 c4 c5 c6
    obtain ⟨c0, c1, c2, c3, c4, c5, c6⟩ := unhide HC3
    go_upto_region 17 with (go_at_call 85; go_must (refine (unhide H85b _).mono ?_; rintro e w4 ⟨rfl, hb4⟩; have HR4 : Hid (T2 w4 w.heap.size (.string ⟨#[]⟩) (.string ⟨#[]⟩) ∧ Below w.heap.size w w4) := ⟨(unhide HR3).1.later hb4, (unhide HR3).2.trans (hb4.mono (unhide HR3).2.size)⟩; have HL4 := hide (True.intro); clear hb4))
    obtain ⟨V5, hV5⟩ : ∃ V5, V5 = w4.alloc (.cells #[.bool fb, .string fn, .string fd] 61) := ⟨_, rfl⟩
    have hb5 : Below w4.heap.size w4 V5 := by rw [hV5]; exact (Below.refl _ _).alloc (Nat.le_refl _) _
    have HR5 : Hid (T2 V5 w.heap.size (.string ⟨#[]⟩) (.string ⟨#[]⟩) ∧ Below w.heap.size w V5) := ⟨(unhide HR4).1.later hb5, (unhide HR4).2.trans (hb5.mono (unhide HR4).2.size)⟩
    have z0 : V5.cell? ⟨w4.heap.size, 0, none⟩ = some (.bool fb) := by rw [hV5]; simp [go_sem]
    have z1 : V5.cell? ⟨w4.heap.size, 1, none⟩ = some (.string fn) := by rw [hV5]; simp [go_sem]
    have z2 : V5.cell? ⟨w4.heap.size, 2, none⟩ = some (.string fd) := by rw [hV5]; simp [go_sem]
    rw [← hV5]
    clear hV5 hb5 c0 c1 c2 c3 c4 c5 c6
    cases ok2 with
    | false =>
      have HN : Hid (rn = ⟨#[]⟩ ∧ rd = ⟨#[]⟩ ∧ re = 7) := unhide HNO2 rfl
      have r0 := (unhide HR5).1.c0; have r1 := (unhide HR5).1.c1; have rf0 := (unhide HR5).1.f0; have rf1 := (unhide HR5).1.f1
      go_wp2_with fail
      have hS := (unhide HR5).1.store (.string ⟨#[]⟩) (.string ⟨#[]⟩)
      have hb : Below w.heap.size w (store2 V5 w.heap.size (.string ⟨#[]⟩) (.string ⟨#[]⟩)) := below_store2 (unhide HR5).2 (Nat.le_refl _) _ _
      have v0 := hS.c0; have v1 := hS.c1
      exact bodyPost_ret (v := .tuple #[.agg #[.string ⟨#[]⟩, .string ⟨#[]⟩], .int .i64 7, .int .i64 0]) (w := store2 V5 w.heap.size (.string ⟨#[]⟩) (.string ⟨#[]⟩)) (by simp [results, Tryz.results23, go_sem, v0, v1]) rfl ⟨by rw [(unhide HN).1, (unhide HN).2.1, (unhide HN).2.2], hb⟩
    | true =>
      have H74b := hide (unhide H74a rfl)
      go_upto_region 20 with (go_at_call 74; go_must (refine (unhide H74b _).mono ?_; rintro e w6 ⟨rfl, hb6⟩; have HR6 : Hid (T2 w6 w.heap.size (.string ⟨#[]⟩) (.string ⟨#[]⟩) ∧ Below w.heap.size w w6) := ⟨(unhide HR5).1.later hb6, (unhide HR5).2.trans (hb6.mono (unhide HR5).2.size)⟩; have HL6 := hide (True.intro); clear hb6))
      obtain ⟨V9, hV9⟩ : ∃ V9, V9 = w6.alloc (.cells #[.string rn, .string rd] 23) := ⟨_, rfl⟩
      have hb9 : Below w6.heap.size w6 V9 := by rw [hV9]; exact (Below.refl _ _).alloc (Nat.le_refl _) _
      have HR9 : Hid (T2 V9 w.heap.size (.string ⟨#[]⟩) (.string ⟨#[]⟩) ∧ Below w.heap.size w V9) := ⟨(unhide HR6).1.later hb9, (unhide HR6).2.trans (hb9.mono (unhide HR6).2.size)⟩
      have y0 : V9.cell? ⟨w6.heap.size, 0, none⟩ = some (.string rn) := by rw [hV9]; simp [go_sem]
      have y1 : V9.cell? ⟨w6.heap.size, 1, none⟩ = some (.string rd) := by rw [hV9]; simp [go_sem]
      rw [← hV9]
      clear hV9 hb9
      have r0 := (unhide HR9).1.c0; have r1 := (unhide HR9).1.c1; have rf0 := (unhide HR9).1.f0; have rf1 := (unhide HR9).1.f1
      go_wp2_with fail
      have hS := (unhide HR9).1.store (.string rn) (.string rd)
      have hb : Below w.heap.size w (store2 V9 w.heap.size (.string rn) (.string rd)) := below_store2 (unhide HR9).2 (Nat.le_refl _) _ _
      have v0 := hS.c0; have v1 := hS.c1
      exact bodyPost_ret (v := .tuple #[.agg #[.string rn, .string rd], .int .i64 re, .int .i64 0]) (w := store2 V9 w.heap.size (.string rn) (.string rd)) (by simp [results, Tryz.results23, go_sem, v0, v1]) rfl ⟨rfl, hb⟩

end Go.Proofs.YtifalmdoligblaaGreatDoor

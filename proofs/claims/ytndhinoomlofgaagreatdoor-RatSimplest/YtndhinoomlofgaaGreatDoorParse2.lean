/- rat.Parse of the text of chapter 2's example. -/
import Derived.Test.YtndhinoomlofgaaGreatDoorHas
import Derived.Test.YtndhinoomlofgaaGreatDoorTell
import Derived.Test.YtndhinoomlofgaaGreatDoorShift
import Derived.Lib.AtoiErrMem
namespace Go.Proofs.YtndhinoomlofgaaGreatDoor
open Go.RowKit

def exS : ByteArray := ⟨#[45, 49, 46, 50, 53, 48, 101, 45, 49]⟩
theorem has_S (k : Nat) (bytes : ByteArray) (res : Bool) (hk : k < exS.size) (h : decide (0 ≤ Lib.indexByte bytes.data.toList exS[k]) = res) (W : World) :
    Calls Tryz.prog 135 #[.string exS, .int .i64 (k : Int), .string bytes] W fun e w' => e = .returned (.bool res) ∧ w' = W := by
  rw [← h]; exact hasAt_in exS bytes k W hk
theorem cut_S (k e : Nat) (t : ByteArray) (h : DEnd exS k e) (ht : exS.extract k e = t) (W : World) :
    Calls Tryz.prog 136 #[.string exS, .int .i64 (k : Int)] W fun r w' => r = .returned (.tuple #[.string t, .int .i64 (e : Int)]) ∧ w' = W := by
  refine (cutDigits_any exS k W (Nat.le_trans h.1 h.2.1) (by decide)).mono ?_
  rintro r w' ⟨e', h', rfl, rfl⟩
  obtain rfl := h.det h'
  rw [ht]
  exact ⟨rfl, rfl⟩
theorem dend_S (k e : Nat) (hk : k ≤ e) (he : e ≤ exS.size) (h1 : ∀ j : Fin exS.size, k ≤ j.val → j.val < e → 48 ≤ exS[j].toNat ∧ exS[j].toNat ≤ 57) (h2 : ∀ h : e < exS.size, ¬ (48 ≤ exS[e].toNat ∧ exS[e].toNat ≤ 57)) : DEnd exS k e :=
  ⟨hk, he, fun j hj a b => h1 ⟨j, hj⟩ a b, h2⟩
theorem dend1 : DEnd exS 1 2 := dend_S 1 2 (by decide) (by decide) (by decide) (by decide)
theorem dend3 : DEnd exS 3 6 := dend_S 3 6 (by decide) (by decide) (by decide) (by decide)
theorem dend8 : DEnd exS 8 9 := dend_S 8 9 (by decide) (by decide) (by decide) (by decide)

theorem ended_out (b b' : Bool) (p1 p2 p3 p5 s : ByteArray) (p6 : Int) (k : Int) (w : World) (hk : ¬ k < (s.size : Int)) :
    Calls Tryz.prog 137 #[.agg #[.bool b, .string p1, .string p2, .string p3, .bool b', .string p5, .int .i64 p6], .string s, .int .i64 k] w fun r w' => r = .returned (.tuple #[.agg #[.bool b, .string p1, .string p2, .string p3, .bool b', .string p5, .int .i64 p6], .int .i64 (-1)]) ∧ Below w.heap.size w w' := by
  go_enter Tryz.func137, Tryz.ntmps137
  go_wp2
  refine bodyPost_ret (v := .tuple #[.agg #[.bool b, .string p1, .string p2, .string p3, .bool b', .string p5, .int .i64 p6], .int .i64 (-1)]) (by simp [results, Tryz.results137, go_sem]) rfl ⟨rfl, ?_⟩
  exact ((Below.refl _ _).alloc (Nat.le_refl _) _).alloc (by simp) _

set_option maxRecDepth 100000 in
set_option maxHeartbeats 2000000 in
theorem cutParts_S (w : World) : Calls Tryz.prog 82 #[.string exS] w fun r w' => r = .returned (.tuple #[.agg #[.bool true, .string ⟨#[49]⟩, .string ⟨#[50, 53, 48]⟩, .string ⟨#[49]⟩, .bool true, .string ⟨#[]⟩, .int .i64 0], .int .i64 (-1)]) ∧ Below w.heap.size w w' := by
  obtain ⟨hasB, h133, f0, f2, f3, f6, f7, f8⟩ : ∃ hasB : Int → ByteArray → Bool, (∀ W (k : Int) (bytes : ByteArray), 0 ≤ k → k < 9 → Calls Tryz.prog 135 #[.string exS, .int .i64 k, .string bytes] W fun e w' => e = .returned (.bool (hasB k bytes)) ∧ w' = W) ∧ hasB 0 ⟨#[45]⟩ = true ∧ hasB 2 ⟨#[47]⟩ = false ∧ hasB 2 ⟨#[46]⟩ = true ∧ hasB 6 ⟨#[101, 69]⟩ = true ∧ hasB 7 ⟨#[45]⟩ = true ∧ hasB 7 ⟨#[43, 45]⟩ = true := by
    refine ⟨fun k bytes => decide (0 ≤ Lib.indexByte bytes.data.toList (exS.data.toList.getD k.toNat 0)), ?_, by decide, by decide, by decide, by decide, by decide, by decide⟩
    intro W k bytes h0 h9
    obtain ⟨m, rfl⟩ : ∃ m : Nat, k = (m : Int) := ⟨k.toNat, by omega⟩
    have hm : m < exS.size := by show m < 9; omega
    refine has_S m bytes _ hm ?_ W
    have : exS.data.toList.getD m 0 = exS[m] := by
      rw [List.getD_eq_getElem?_getD, List.getElem?_eq_getElem (by rw [list_len]; exact hm)]; rfl
    exact congrArg (fun c => decide (0 ≤ Lib.indexByte bytes.data.toList c)) this.symm
  obtain ⟨cutT, cutE, h134, g1, g2, g3, g4, g5, g6⟩ : ∃ (cutT : Int → ByteArray) (cutE : Int → Int), (∀ W (k : Int), k = 1 ∨ k = 3 ∨ k = 8 → Calls Tryz.prog 136 #[.string exS, .int .i64 k] W fun r w' => r = .returned (.tuple #[.string (cutT k), .int .i64 (cutE k)]) ∧ w' = W) ∧ cutT 1 = ⟨#[49]⟩ ∧ cutE 1 = 2 ∧ cutT 3 = ⟨#[50, 53, 48]⟩ ∧ cutE 3 = 6 ∧ cutT 8 = ⟨#[49]⟩ ∧ cutE 8 = 9 := by
    refine ⟨fun k => if k = 3 then ⟨#[50, 53, 48]⟩ else ⟨#[49]⟩, fun k => if k = 1 then 2 else if k = 3 then 6 else 9, ?_, rfl, rfl, rfl, rfl, rfl, rfl⟩
    rintro W k (rfl | rfl | rfl)
    · exact cut_S 1 2 ⟨#[49]⟩ dend1 (bytes_ext (by rfl)) W
    · exact cut_S 3 6 ⟨#[50, 53, 48]⟩ dend3 (bytes_ext (by rfl)) W
    · exact cut_S 8 9 ⟨#[49]⟩ dend8 (bytes_ext (by rfl)) W
  have H133 := hide h133
  have H134 := hide h134
  clear h133 h134
  have hsz : exS.size = 9 := rfl
  have e1 : (⟨#[49]⟩ : ByteArray).toList.isEmpty = false := by rw [Lib.toList_data]; rfl
  have e2 : (⟨#[50, 53, 48]⟩ : ByteArray).toList.isEmpty = false := by rw [Lib.toList_data]; rfl
  generalize exS = s at *
  have hsz' : (s.size : Int) = 9 := by omega
  generalize (⟨#[49]⟩ : ByteArray) = t1 at *
  generalize (⟨#[50, 53, 48]⟩ : ByteArray) = t2 at *
  go_enter Tryz.func82, Tryz.ntmps82
  go_wp2_with (first
    | (go_at_call 135; go_must (refine (unhide H133 _ _ _ (by omega) (by omega)).mono ?_; rintro e w1 ⟨rfl, rfl⟩; first | rw [f0] | rw [f2] | rw [f3] | rw [f6] | rw [f7] | rw [f8]))
    | (go_at_call 136; go_must (refine (unhide H134 _ _ (by decide)).mono ?_; rintro e w1 ⟨rfl, rfl⟩; first | rw [g1, g2] | rw [g3, g4] | rw [g5, g6]))
    | (go_at_call 137; go_must (refine (ended_out _ _ _ _ _ _ _ _ _ _ (by omega)).mono ?_; rintro e w1 ⟨rfl, hb1⟩; have c0 : w1.cell? ⟨w.heap.size, 0, none⟩ = some (.bool false) := (hb1.cell (p := ⟨w.heap.size, 0, none⟩) (by simp; omega)).trans (by simp [go_sem]); have c1 : w1.cell? ⟨w.heap.size, 1, none⟩ = some (.string ⟨#[]⟩) := (hb1.cell (p := ⟨w.heap.size, 1, none⟩) (by simp; omega)).trans (by simp [go_sem]); have c2 : w1.cell? ⟨w.heap.size, 2, none⟩ = some (.string ⟨#[]⟩) := (hb1.cell (p := ⟨w.heap.size, 2, none⟩) (by simp; omega)).trans (by simp [go_sem]); have c3 : w1.cell? ⟨w.heap.size, 3, none⟩ = some (.string ⟨#[]⟩) := (hb1.cell (p := ⟨w.heap.size, 3, none⟩) (by simp; omega)).trans (by simp [go_sem]); have c4 : w1.cell? ⟨w.heap.size, 4, none⟩ = some (.bool false) := (hb1.cell (p := ⟨w.heap.size, 4, none⟩) (by simp; omega)).trans (by simp [go_sem]); have c5 : w1.cell? ⟨w.heap.size, 5, none⟩ = some (.string ⟨#[]⟩) := (hb1.cell (p := ⟨w.heap.size, 5, none⟩) (by simp; omega)).trans (by simp [go_sem]); have c6 : w1.cell? ⟨w.heap.size, 6, none⟩ = some (.int .i64 0) := (hb1.cell (p := ⟨w.heap.size, 6, none⟩) (by simp; omega)).trans (by simp [go_sem]); have k0 : w1.frozen? ⟨w.heap.size, 0, none⟩ = false := (hb1.frozen (p := ⟨w.heap.size, 0, none⟩) (by simp; omega)).trans (by simp [go_sem]); have k1 : w1.frozen? ⟨w.heap.size, 1, none⟩ = false := (hb1.frozen (p := ⟨w.heap.size, 1, none⟩) (by simp; omega)).trans (by simp [go_sem]); have k2 : w1.frozen? ⟨w.heap.size, 2, none⟩ = false := (hb1.frozen (p := ⟨w.heap.size, 2, none⟩) (by simp; omega)).trans (by simp [go_sem]); have k3 : w1.frozen? ⟨w.heap.size, 3, none⟩ = false := (hb1.frozen (p := ⟨w.heap.size, 3, none⟩) (by simp; omega)).trans (by simp [go_sem]); have k4 : w1.frozen? ⟨w.heap.size, 4, none⟩ = false := (hb1.frozen (p := ⟨w.heap.size, 4, none⟩) (by simp; omega)).trans (by simp [go_sem]); have k5 : w1.frozen? ⟨w.heap.size, 5, none⟩ = false := (hb1.frozen (p := ⟨w.heap.size, 5, none⟩) (by simp; omega)).trans (by simp [go_sem]); have k6 : w1.frozen? ⟨w.heap.size, 6, none⟩ = false := (hb1.frozen (p := ⟨w.heap.size, 6, none⟩) (by simp; omega)).trans (by simp [go_sem]); have HB1 := hide (Below.trans (((Below.refl w.heap.size w).alloc (Nat.le_refl _) _).alloc (by simp) _) (hb1.mono (by simp; omega))); clear hb1)))
  refine bodyPost_ret (v := .tuple #[.agg #[.bool true, .string t1, .string t2, .string t1, .bool true, .string ⟨#[]⟩, .int .i64 0], .int .i64 (-1)]) (by simp [results, Tryz.results82, go_sem, c0, c1, c2, c3, c4, c5, c6]) rfl ⟨rfl, ?_⟩
  exact ((((((((unhide HB1).setCell (p := ⟨w.heap.size, 0, none⟩) (Nat.le_refl _) _).setCell (p := ⟨w.heap.size, 1, none⟩) (Nat.le_refl _) _).setCell (p := ⟨w.heap.size, 2, none⟩) (Nat.le_refl _) _).setCell (p := ⟨w.heap.size, 3, none⟩) (Nat.le_refl _) _).setCell (p := ⟨w.heap.size, 4, none⟩) (Nat.le_refl _) _).setCell (p := ⟨w.heap.size, 5, none⟩) (Nat.le_refl _) _).setCell (p := ⟨w.heap.size, 6, none⟩) (Nat.le_refl _) _)
end Go.Proofs.YtndhinoomlofgaaGreatDoor

namespace Go.Proofs.YtndhinoomlofgaaGreatDoor
open Go.RowKit

/-- The parts of a text, and a number's box. -/
structure DS (w W : World) (b b' : Bool) (p1 p2 p3 p5 : ByteArray) : Prop where
  c0 : W.cell? ⟨w.heap.size, 0, none⟩ = some (.bool b)
  c1 : W.cell? ⟨w.heap.size, 1, none⟩ = some (.string p1)
  c2 : W.cell? ⟨w.heap.size, 2, none⟩ = some (.string p2)
  c3 : W.cell? ⟨w.heap.size, 3, none⟩ = some (.string p3)
  c4 : W.cell? ⟨w.heap.size, 4, none⟩ = some (.bool b')
  r : T2 W (w.heap.size + 1) (.string ⟨#[]⟩) (.string ⟨#[]⟩)
  below : Below w.heap.size w W
theorem DS.later {w W V : World} {b b' : Bool} {p1 p2 p3 p5 : ByteArray} (s : DS w W b b' p1 p2 p3 p5) (hb : Below W.heap.size W V) : DS w V b b' p1 p2 p3 p5 := by
  have hl : w.heap.size < W.heap.size := World.block_lt_of_cell? _ _ s.c0
  exact ⟨(hb.cell (p := ⟨w.heap.size, 0, none⟩) hl).trans s.c0, (hb.cell (p := ⟨w.heap.size, 1, none⟩) hl).trans s.c1, (hb.cell (p := ⟨w.heap.size, 2, none⟩) hl).trans s.c2, (hb.cell (p := ⟨w.heap.size, 3, none⟩) hl).trans s.c3, (hb.cell (p := ⟨w.heap.size, 4, none⟩) hl).trans s.c4, s.r.later hb, s.below.trans (hb.mono s.below.size)⟩
theorem DS.first (w : World) (b b' : Bool) (p1 p2 p3 p5 : ByteArray) : DS w ((w.alloc (.cells #[.bool b, .string p1, .string p2, .string p3, .bool b', .string p5, .int .i64 0] 86)).alloc (.cells #[.string ⟨#[]⟩, .string ⟨#[]⟩] 23)) b b' p1 p2 p3 p5 :=
  ⟨by simp [go_sem], by simp [go_sem], by simp [go_sem], by simp [go_sem], by simp [go_sem], ⟨by simp [go_sem], by simp [go_sem], by simp [go_sem], by simp [go_sem]⟩, ((Below.refl _ _).alloc (Nat.le_refl _) _).alloc (by simp) _⟩
theorem DS.other {w W : World} {b b' : Bool} {p1 p2 p3 p5 : ByteArray} (s : DS w W b b' p1 p2 p3 p5) (g : Nat) (hg : w.heap.size + 1 < g) (u : Value) : DS w (W.setCell ⟨g, 0, none⟩ u) b b' p1 p2 p3 p5 := by
  have k : ∀ i, (W.setCell ⟨g, 0, none⟩ u).cell? ⟨w.heap.size, i, none⟩ = W.cell? ⟨w.heap.size, i, none⟩ := fun i => World.cell?_setCell_other _ _ _ _ (by intro e; have := congrArg Addr.block e; simp at this; omega)
  exact ⟨(k 0).trans s.c0, (k 1).trans s.c1, (k 2).trans s.c2, (k 3).trans s.c3, (k 4).trans s.c4, s.r.otherAt (by omega) u, s.below.setCell (p := ⟨g, 0, none⟩) (by show w.heap.size ≤ g; omega) _⟩
theorem pow_lt_ten (n e : Nat) (he : 1 ≤ e) (hn : n < 10) : n < 10 ^ e := Nat.lt_of_lt_of_le (by omega : n < 10 ^ 1) (Nat.pow_le_pow_right (by decide) he)

set_option maxRecDepth 100000 in
set_option maxHeartbeats 4000000 in
theorem decimal_S (w : World) (htab : Tab w) : Calls Tryz.prog 84 #[.agg #[.bool true, .string ⟨#[49]⟩, .string ⟨#[50, 53, 48]⟩, .string ⟨#[49]⟩, .bool true, .string ⟨#[]⟩, .int .i64 0]] w fun r w' => r = .returned (.tuple #[.agg #[.string (sT true 1), .string (tb 8)], .int .i64 0, .int .i64 0]) ∧ Below w.heap.size w w' := by
  obtain ⟨V, hV⟩ : ∃ V, V = (w.alloc (.cells #[.bool true, .string ⟨#[49]⟩, .string ⟨#[50, 53, 48]⟩, .string ⟨#[49]⟩, .bool true, .string ⟨#[]⟩, .int .i64 0] 86)).alloc (.cells #[.string ⟨#[]⟩, .string ⟨#[]⟩] 23) := ⟨_, rfl⟩
  have HS : Hid (DS w V true true ⟨#[49]⟩ ⟨#[50, 53, 48]⟩ ⟨#[49]⟩ ⟨#[]⟩) := by rw [hV]; exact DS.first _ _ _ _ _ _ _
  have HV := hide hV
  have HTW := hide htab
  have HN1 : Hid (∀ W, Calls Tryz.prog 138 #[.string (⟨#[49]⟩ ++ ⟨#[50, 53, 48]⟩)] W fun r w' => r = .returned (.string ⟨#[49, 50, 53, 48]⟩) ∧ w' = W) := fun W => by
    have := naturalT_any (⟨#[49]⟩ ++ ⟨#[50, 53, 48]⟩) W
    rwa [show natT (⟨#[49]⟩ ++ ⟨#[50, 53, 48]⟩) = ⟨#[49, 50, 53, 48]⟩ from bytes_ext (by rfl)] at this
  have HN2 : Hid (∀ W, Calls Tryz.prog 138 #[.string ⟨#[49]⟩] W fun r w' => r = .returned (.string ⟨#[49]⟩) ∧ w' = W) := fun W => by
    have := naturalT_any ⟨#[49]⟩ W
    rwa [show natT ⟨#[49]⟩ = ⟨#[49]⟩ from bytes_ext (by rfl)] at this
  have HAT : Hid (∀ W, Calls Tryz.prog 139 #[.string ⟨#[49]⟩] W fun e w' => e = .returned (.tuple #[.int .i64 1, .nilIface]) ∧ Below W.heap.size W w') := fun W => by
    refine (Tryz.strconv_Atoi ⟨#[49]⟩ 1 (by decide) (by decide) W).mono ?_
    rintro e w' ⟨rfl, t, rfl⟩
    exact ⟨rfl, Lib.bytesWorld_below W 5 t⟩
  have HBT : Hid (∀ W, Calls Tryz.prog 73 #[.string ⟨#[49, 50, 53, 48]⟩] W fun e w' => ∃ v, e = .returned v ∧ IsBig w' v 1250 ∧ Below W.heap.size W w') := fun W =>
    bigText_any ⟨#[49, 50, 53, 48]⟩ W (by decide) (by intro c hc; simp at hc; rcases hc with rfl | rfl | rfl | rfl <;> decide)
  have HBO : Hid (∀ W, Calls Tryz.prog 114 #[.int .u64 1] W fun e w' => ∃ a l c, e = .returned (.agg #[.slice a l c]) ∧ IsBig w' (.agg #[.slice a l c]) 1 ∧ Below W.heap.size W w') := fun W => bigOf_any 1 W (by decide)
  have HSH : Hid (∀ W x, IsBig W x 1 → Calls Tryz.prog 116 #[x, .int .i64 4] W fun e w' => ∃ a l c, e = .returned (.agg #[.slice a l c]) ∧ IsBig w' (.agg #[.slice a l c]) 10000 ∧ Below W.heap.size W w') := fun W x h => shift_any x 1 4 1 W h (by decide) (by decide) (by decide)
  have HRA : Hid (∀ W x y, IsBig W x 1250 → IsBig W y 10000 → Calls Tryz.prog 72 #[.bool true, x, y] W fun e w' => ∃ v', e = .returned v' ∧ IsFrac w' v' true 1 8 ∧ Below W.heap.size W w') := fun W x y h1 h2 =>
    ratio_any true x y 1250 10000 1 W h1 h2 (by decide) (by decide) (by decide) (divAns 1 (by decide)) (gcdAns 1 (by decide))
  have HTE : Hid (∀ W v, IsFrac W v true 1 8 → Tab W → Calls Tryz.prog 74 #[v] W fun r w' => r = .returned (.tuple #[.agg #[.string (sT true 1), .string (tb 8)], .int .i64 0]) ∧ Below W.heap.size W w') := fun W v h ht =>
    tell_ok v true 1 8 1 W h (by decide) (by decide) (by decide) (pow_lt_ten 1 600 (by decide) (by decide)) (pow_lt_ten 8 600 (by decide) (by decide)) ht
  clear htab
  have z1 : (⟨#[49]⟩ : ByteArray).size = 1 := rfl
  have z2 : (⟨#[50, 53, 48]⟩ : ByteArray).size = 3 := rfl
  have z3 : (⟨#[49, 50, 53, 48]⟩ : ByteArray).size = 4 := rfl
  generalize sT true 1 = rn at *
  generalize tb 8 = rd at *
  generalize (⟨#[49]⟩ : ByteArray) = t1 at *
  generalize (⟨#[50, 53, 48]⟩ : ByteArray) = t2 at *
  generalize (⟨#[49, 50, 53, 48]⟩ : ByteArray) = t3 at *
  go_enter Tryz.func84, Tryz.ntmps84
  go_upto_region 1 with fail
  rw [← unhide HV]
  clear hV HV
  have q0 := (unhide HS).c0; have q1 := (unhide HS).c1; have q2 := (unhide HS).c2; have q3 := (unhide HS).c3; have q4 := (unhide HS).c4
  go_upto_region 5 with (first
    | (go_at_call_of 138 (Value.string t1); go_must (refine (unhide HN2 _).mono ?_; rintro e w1 ⟨rfl, hw1⟩; obtain rfl : V = w1 := hw1.symm))
    | (go_at_call 138; go_must (refine (unhide HN1 _).mono ?_; rintro e w1 ⟨rfl, hw1⟩; obtain rfl : V = w1 := hw1.symm)))
  go_upto_region 13 with (go_at_call 139; go_must (refine (unhide HAT _).mono ?_; rintro e w1 ⟨rfl, hb1⟩; have HS1 := hide ((unhide HS).later hb1); clear hb1 q0 q1 q2 q3 q4; have q0 := (unhide HS1).c0; have q1 := (unhide HS1).c1; have q2 := (unhide HS1).c2; have q3 := (unhide HS1).c3; have q4 := (unhide HS1).c4))
  go_upto_region 14 with (first
    | (go_at_call 73; go_must (refine (unhide HBT _).mono ?_; rintro e w2 ⟨v2, rfl, hv2, hb2⟩; obtain ⟨a2, l2, c2, rfl⟩ := hv2.shape; have HS2 := hide ((unhide HS1).later hb2); have HX2 := hide hv2; clear hv2 hb2 q0 q1 q2 q3 q4))
    | (go_at_call 114; go_must (refine (unhide HBO _).mono ?_; rintro e w3 ⟨a3, l3, c3, rfl, hv3, hb3⟩; have HS3 := hide ((unhide HS2).later hb3); have HX3 := hide ((unhide HX2).later hb3); have HY3 := hide hv3; clear hv3 hb3)))
  obtain ⟨V4, hV4⟩ : ∃ V4, V4 = (w3.alloc (.cells #[.slice a2 l2 c2] 72)).alloc (.cells #[.slice a3 l3 c3] 72) := ⟨_, rfl⟩
  have hb : Below w3.heap.size w3 V4 := by rw [hV4]; exact ((Below.refl _ _).alloc (Nat.le_refl _) _).alloc (by simp) _
  have HS4 := hide ((unhide HS3).later hb); have HX4 := hide ((unhide HX3).later hb); have HY4 := hide ((unhide HY3).later hb)
  have HBX : Hid (Box V4 w3.heap.size (.slice a2 l2 c2)) := by rw [hV4]; exact (Box.new _ _).later ((Below.refl _ _).alloc (Nat.le_refl _) _)
  have HBY : Hid (Box V4 (w3.heap.size + 1) (.slice a3 l3 c3)) := by
    rw [hV4]
    have := Box.new (w3.alloc (.cells #[.slice a2 l2 c2] 72)) (.slice a3 l3 c3)
    rwa [show (w3.alloc (.cells #[.slice a2 l2 c2] 72)).heap.size = w3.heap.size + 1 by simp] at this
  have hg9 : w.heap.size + 1 < w3.heap.size := (unhide HS3).r.lt
  rw [← hV4]
  clear hV4 hb HS HS1 HS2 HS3 HX2 HX3 HY3
  generalize w3.heap.size = g9 at *
  have q0 := (unhide HS4).c0
  have u1 := (unhide HBY).c
  go_upto_region 17 with (go_at_call 116; go_must (refine (unhide HSH _ _ (unhide HY4)).mono ?_; rintro e w5 ⟨a5, l5, c5, rfl, hv5, hb5⟩; have HS5 := hide ((unhide HS4).later hb5); have HX5 := hide ((unhide HX4).later hb5); have HY5 := hide hv5; have HBX5 := hide ((unhide HBX).later hb5); have HBY5 := hide ((unhide HBY).later hb5); clear hv5 hb5 u1 q0; have u1 := (unhide HBY5).c; have u2 := (unhide HBY5).f))
  obtain ⟨V6, hV6⟩ : ∃ V6, V6 = w5.setCell ⟨g9 + 1, 0, none⟩ (.slice a5 l5 c5) := ⟨_, rfl⟩
  have HS6 : Hid (DS w V6 true true t1 t2 t1 ⟨#[]⟩) := by rw [hV6]; exact (unhide HS5).other (g9 + 1) (by omega) _
  have HX6 : Hid (IsBig V6 (.agg #[.slice a2 l2 c2]) 1250) := by rw [hV6]; exact (unhide HX5).box _ u1 (not_int _ _ _)
  have HY6 : Hid (IsBig V6 (.agg #[.slice a5 l5 c5]) 10000) := by rw [hV6]; exact (unhide HY5).box _ u1 (not_int _ _ _)
  have HBX6 : Hid (Box V6 g9 (.slice a2 l2 c2)) := by rw [hV6]; exact (unhide HBX5).other (by omega) _
  have HBY6 : Hid (Box V6 (g9 + 1) (.slice a5 l5 c5)) := by rw [hV6]; exact (unhide HBY5).set _
  have HT6 := hide ((unhide HTW).later (unhide HS6).below)
  rw [← hV6]
  clear hV6 HS4 HS5 HX4 HX5 HY4 HY5 HBX HBX5 HBY HBY5 u1 u2
  have q0 := (unhide HS6).c0; have u1 := (unhide HBX6).c; have u2 := (unhide HBY6).c
  go_upto_region 18 with (first
    | (go_at_call 72; go_must (refine (unhide HRA _ _ _ (unhide HX6) (unhide HY6)).mono ?_; rintro e w7 ⟨v7, rfl, hv7, hb7⟩; have HS7 := hide ((unhide HS6).later hb7); have HF7 := hide hv7; clear hv7 hb7 q0 u1 u2))
    | (go_at_call 74; go_must (refine (unhide HTE _ _ (unhide HF7) ((unhide HTW).later (unhide HS7).below)).mono ?_; rintro e w8 ⟨rfl, hb8⟩; have HS8 := hide ((unhide HS7).later hb8); clear hb8)))
  obtain ⟨V9, hV9⟩ : ∃ V9, V9 = w8.alloc (.cells #[.string rn, .string rd] 23) := ⟨_, rfl⟩
  have HS9 : Hid (DS w V9 true true t1 t2 t1 ⟨#[]⟩) := (unhide HS8).later (by rw [hV9]; exact (Below.refl _ _).alloc (Nat.le_refl _) _)
  have c0 : V9.cell? ⟨w8.heap.size, 0, none⟩ = some (.string rn) := by rw [hV9]; simp [go_sem]
  have c1 : V9.cell? ⟨w8.heap.size, 1, none⟩ = some (.string rd) := by rw [hV9]; simp [go_sem]
  rw [← hV9]
  clear hV9
  have r0 := (unhide HS9).r.c0; have r1 := (unhide HS9).r.c1; have rf0 := (unhide HS9).r.f0; have rf1 := (unhide HS9).r.f1
  go_wp2_with fail
  have hS := (unhide HS9).r.store (.string rn) (.string rd)
  have hb : Below w.heap.size w (store2 V9 (w.heap.size + 1) (.string rn) (.string rd)) := below_store2 (unhide HS9).below (by omega) _ _
  have v0 := hS.c0; have v1 := hS.c1
  exact bodyPost_ret (v := .tuple #[.agg #[.string rn, .string rd], .int .i64 0, .int .i64 0]) (w := store2 V9 (w.heap.size + 1) (.string rn) (.string rd)) (by simp [results, Tryz.results84, go_sem, v0, v1]) rfl ⟨rfl, hb⟩

set_option maxRecDepth 100000 in
set_option maxHeartbeats 2000000 in
theorem parse_S (w : World) (htab : Tab w) : Calls Tryz.prog 24 #[.string exS] w fun r w' => r = .returned (.tuple #[.agg #[.string (sT true 1), .string (tb 8)], .int .i64 0, .int .i64 0]) ∧ Below w.heap.size w w' := by
  obtain ⟨V, hV⟩ : ∃ V, V = w.alloc (.cells #[.string ⟨#[]⟩, .string ⟨#[]⟩] 23) := ⟨_, rfl⟩
  have hbV : Below w.heap.size w V := by rw [hV]; exact (Below.refl _ _).alloc (Nat.le_refl _) _
  have HR : Hid (T2 V w.heap.size (.string ⟨#[]⟩) (.string ⟨#[]⟩) ∧ Below w.heap.size w V) := ⟨by rw [hV]; exact ⟨by simp [go_sem], by simp [go_sem], by simp [go_sem], by simp [go_sem]⟩, hbV⟩
  have HV := hide hV
  have HTW := hide htab
  have H80 := hide (cutParts_S V)
  have H82 := hide (fun W (hb : Below w.heap.size w W) => decimal_S W (htab.later hb))
  have hsz : (exS.size : Int) = 9 := rfl
  clear htab hbV
  generalize sT true 1 = rn at *
  generalize tb 8 = rd at *
  generalize (⟨#[49]⟩ : ByteArray) = t1 at *
  generalize (⟨#[50, 53, 48]⟩ : ByteArray) = t2 at *
  generalize exS = s at *
  go_enter Tryz.func24, Tryz.ntmps24
  go_upto_region 3 with fail
  rw [← unhide HV]
  clear hV HV
  go_upto_region 4 with (go_at_call 82; go_must (refine (unhide H80).mono ?_; rintro e w1 ⟨rfl, hb1⟩; have HR1 : Hid (T2 w1 w.heap.size (.string ⟨#[]⟩) (.string ⟨#[]⟩) ∧ Below w.heap.size w w1) := ⟨(unhide HR).1.later hb1, (unhide HR).2.trans (hb1.mono (unhide HR).2.size)⟩; clear hb1))
  obtain ⟨V2, hV2⟩ : ∃ V2, V2 = w1.alloc (.cells #[.bool true, .string t1, .string t2, .string t1, .bool true, .string ⟨#[]⟩, .int .i64 0] 86) := ⟨_, rfl⟩
  have hb2 : Below w1.heap.size w1 V2 := by rw [hV2]; exact (Below.refl _ _).alloc (Nat.le_refl _) _
  have HR2 : Hid (T2 V2 w.heap.size (.string ⟨#[]⟩) (.string ⟨#[]⟩) ∧ Below w.heap.size w V2) := ⟨(unhide HR1).1.later hb2, (unhide HR1).2.trans (hb2.mono (unhide HR1).2.size)⟩
  have c0 : V2.cell? ⟨w1.heap.size, 0, none⟩ = some (.bool true) := by rw [hV2]; simp [go_sem]
  have c1 : V2.cell? ⟨w1.heap.size, 1, none⟩ = some (.string t1) := by rw [hV2]; simp [go_sem]
  have c2 : V2.cell? ⟨w1.heap.size, 2, none⟩ = some (.string t2) := by rw [hV2]; simp [go_sem]
  have c3 : V2.cell? ⟨w1.heap.size, 3, none⟩ = some (.string t1) := by rw [hV2]; simp [go_sem]
  have c4 : V2.cell? ⟨w1.heap.size, 4, none⟩ = some (.bool true) := by rw [hV2]; simp [go_sem]
  have c5 : V2.cell? ⟨w1.heap.size, 5, none⟩ = some (.string ⟨#[]⟩) := by rw [hV2]; simp [go_sem]
  have c6 : V2.cell? ⟨w1.heap.size, 6, none⟩ = some (.int .i64 0) := by rw [hV2]; simp [go_sem]
  rw [← hV2]
  clear hV2 hb2 HR HR1 H80
  go_wp2_with (go_at_call 84; go_must (refine (unhide H82 _ (unhide HR2).2).mono ?_; rintro e w3 ⟨rfl, hb3⟩; have HR3 : Hid (T2 w3 w.heap.size (.string ⟨#[]⟩) (.string ⟨#[]⟩) ∧ Below w.heap.size w w3) := ⟨(unhide HR2).1.later hb3, (unhide HR2).2.trans (hb3.mono (unhide HR2).2.size)⟩; clear hb3 c0 c1 c2 c3 c4 c5 c6; have r0 := (unhide HR3).1.c0; have r1 := (unhide HR3).1.c1; have rf0 := (unhide HR3).1.f0; have rf1 := (unhide HR3).1.f1))
  have hS := (unhide HR3).1.store (.string rn) (.string rd)
  have hb : Below w.heap.size w (store2 w3 w.heap.size (.string rn) (.string rd)) := below_store2 (unhide HR3).2 (Nat.le_refl _) _ _
  have v0 := hS.c0; have v1 := hS.c1
  exact bodyPost_ret (v := .tuple #[.agg #[.string rn, .string rd], .int .i64 0, .int .i64 0]) (w := store2 w3 w.heap.size (.string rn) (.string rd)) (by simp [results, Tryz.results24, go_sem, v0, v1]) rfl ⟨rfl, hb⟩
end Go.Proofs.YtndhinoomlofgaaGreatDoor

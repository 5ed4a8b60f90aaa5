/- rat.Parse of the text of chapter 2's example. -/
import Derived.Test.YtifalmdoligblaaGreatDoorRead
import Derived.Test.YtifalmdoligblaaGreatDoorParse1
import Derived.Test.YtifalmdoligblaaGreatDoorShift
import Derived.Lib.AtoiErrMem
namespace Go.Proofs.YtifalmdoligblaaGreatDoor
open Go.RowKit

/-- What is told of a number: its two texts, or ErrLarge (7). -/
def Small (x : Rat) : Prop := x.num.natAbs < 10 ^ 600 ∧ x.den < 10 ^ 600
noncomputable def numT (x : Rat) : ByteArray := open Classical in if Small x then sT (decide (x < 0)) x.num.natAbs else ⟨#[]⟩
noncomputable def denT (x : Rat) : ByteArray := open Classical in if Small x then tb x.den else ⟨#[]⟩
noncomputable def errT (x : Rat) : Int := open Classical in if Small x then 0 else 7
/-- The argument and the box of the number. -/
structure TS (w W : World) (x y z : Value) : Prop where
  a : FBox W w.heap.size x y z
  r : T2 W (w.heap.size + 1) (.string ⟨#[]⟩) (.string ⟨#[]⟩)
  below : Below w.heap.size w W
theorem TS.later {w W V : World} {x y z : Value} (s : TS w W x y z) (hb : Below W.heap.size W V) : TS w V x y z := ⟨s.a.later hb, s.r.later hb, s.below.trans (hb.mono s.below.size)⟩
theorem TS.first (w : World) (x y z : Value) : TS w ((w.alloc (.cells #[x, y, z] 74)).alloc (.cells #[.string ⟨#[]⟩, .string ⟨#[]⟩] 23)) x y z :=
  ⟨⟨by simp [go_sem], by simp [go_sem], by simp [go_sem], by simp [go_sem], by simp [go_sem], by simp [go_sem]⟩, ⟨by simp [go_sem], by simp [go_sem], by simp [go_sem], by simp [go_sem]⟩, ((Below.refl _ _).alloc (Nat.le_refl _) _).alloc (by simp) _⟩
def store2 (W : World) (g : Nat) (x y : Value) : World := (W.setCell ⟨g, 0, none⟩ x).setCell ⟨g, 1, none⟩ y
theorem T2.store {W : World} {g : Nat} {x y : Value} (h : T2 W g x y) (x' y' : Value) : T2 (store2 W g x' y') g x' y' := by
  have a1 : (W.setCell ⟨g, 0, none⟩ x').cell? ⟨g, 1, none⟩ = some y := by rw [World.cell?_setCell_other _ _ _ _ (by simp)]; exact h.c1
  unfold store2
  refine ⟨?_, World.cell?_setCell_same _ _ _ a1, ?_, ?_⟩
  · rw [World.cell?_setCell_other _ _ _ _ (by simp)]; exact World.cell?_setCell_same _ _ _ h.c0
  · rw [World.frozen?_setCell, World.frozen?_setCell]; exact h.f0
  · rw [World.frozen?_setCell, World.frozen?_setCell]; exact h.f1
theorem below_store2 {B g : Nat} {w W : World} (h : Below B w W) (hg : B ≤ g) (x y : Value) : Below B w (store2 W g x y) :=
  (h.setCell (p := ⟨g, 0, none⟩) hg x).setCell (p := ⟨g, 1, none⟩) hg y

set_option maxRecDepth 100000 in
set_option maxHeartbeats 2000000 in
theorem tell_ok (v : Value) (b : Bool) (n d k : Nat) (w : World) (h : IsFrac w v b n d) (hk : k ≤ 1000000) (hnk : n < 1000000000 ^ k) (hdk : d < 1000000000 ^ k) (hn : n < 10 ^ 600) (hd : d < 10 ^ 600) (htab : Tab w) :
    Calls Tryz.prog 72 #[v] w fun r w' => r = .returned (.tuple #[.agg #[.string (sT b n), .string (tb d)], .int .i64 0]) ∧ Below w.heap.size w w' := by
  obtain ⟨a1, l1, c1, a2, l2, c2, rfl, h1, h2⟩ := h.form
  obtain ⟨V, hV⟩ : ∃ V, V = (w.alloc (.cells #[.bool b, .slice a1 l1 c1, .slice a2 l2 c2] 74)).alloc (.cells #[.string ⟨#[]⟩, .string ⟨#[]⟩] 23) := ⟨_, rfl⟩
  have HS : Hid (TS w V (.bool b) (.slice a1 l1 c1) (.slice a2 l2 c2)) := by rw [hV]; exact TS.first _ _ _ _
  have HV := hide hV
  have HLN : Hid (∀ W, Below V.heap.size V W → Calls Tryz.prog 87 #[.agg #[.slice a1 l1 c1]] W fun e w' => e = .returned (.int .i64 (Lib.nDigits n : Nat)) ∧ Below W.heap.size W w') := fun W hb => len_any _ n k W ((h1.later (unhide HS).below).later hb) hk hnk
  have HLD : Hid (∀ W, Below V.heap.size V W → Calls Tryz.prog 87 #[.agg #[.slice a2 l2 c2]] W fun e w' => e = .returned (.int .i64 (Lib.nDigits d : Nat)) ∧ Below W.heap.size W w') := fun W hb => len_any _ d k W ((h2.later (unhide HS).below).later hb) hk hdk
  have HTN : Hid (∀ W, Below V.heap.size V W → Calls Tryz.prog 90 #[.agg #[.slice a1 l1 c1]] W fun e w' => e = .returned (.string (tb n)) ∧ Below W.heap.size W w') := fun W hb => by
    have := text_any _ n k W ((h1.later (unhide HS).below).later hb) hk hnk ((htab.later (unhide HS).below).later hb)
    rwa [show (⟨(Lib.decDigits n).toArray⟩ : ByteArray) = tb n from bytes_ext (by rw [tb_list n hn])] at this
  have HTD : Hid (∀ W, Below V.heap.size V W → Calls Tryz.prog 90 #[.agg #[.slice a2 l2 c2]] W fun e w' => e = .returned (.string (tb d)) ∧ Below W.heap.size W w') := fun W hb => by
    have := text_any _ d k W ((h2.later (unhide HS).below).later hb) hk hdk ((htab.later (unhide HS).below).later hb)
    rwa [show (⟨(Lib.decDigits d).toArray⟩ : ByteArray) = tb d from bytes_ext (by rw [tb_list d hd])] at this
  have HSG : Hid (∀ W, Calls Tryz.prog 78 #[.bool b, .string (tb n)] W fun e w' => e = .returned (.string (sT b n)) ∧ w' = W) := fun W => signed_any b (tb n) W (by have := (tb_digs n hn).2; omega)
  have n1 : (Lib.nDigits n : Nat) ≤ 600 := (len600 n).2 hn
  have n2 : (Lib.nDigits d : Nat) ≤ 600 := (len600 d).2 hd
  clear h h1 h2 hk hnk hdk hn hd htab
  generalize (Lib.nDigits n : Nat) = L1 at *
  generalize (Lib.nDigits d : Nat) = L2 at *
  generalize sT b n = sn at *
  generalize tb n = tn at *
  generalize tb d = td at *
  have HC : Hid (∀ w', Below V.heap.size V w' → (w'.cell? ⟨w.heap.size, 0, none⟩ = some (.bool b) ∧ w'.cell? ⟨w.heap.size, 1, none⟩ = some (.slice a1 l1 c1) ∧ w'.cell? ⟨w.heap.size, 2, none⟩ = some (.slice a2 l2 c2)) ∧ w'.cell? ⟨w.heap.size + 1, 0, none⟩ = some (.string ⟨#[]⟩) ∧ w'.cell? ⟨w.heap.size + 1, 1, none⟩ = some (.string ⟨#[]⟩) ∧ w'.frozen? ⟨w.heap.size + 1, 0, none⟩ = false ∧ w'.frozen? ⟨w.heap.size + 1, 1, none⟩ = false) := fun U hb => by
    have s := (unhide HS).later hb
    exact ⟨⟨s.a.c0, s.a.c1, s.a.c2⟩, s.r.c0, s.r.c1, s.r.f0, s.r.f1⟩
  go_enter Tryz.func72, Tryz.ntmps72
  go_upto_region 1 with fail
  rw [← unhide HV]
  clear hV HV
  obtain ⟨⟨t0, t1, t2⟩, _⟩ := unhide HC V (Below.refl _ _)
  go_upto_region 3 with (first
    | (go_at_call_of 87 (Value.agg #[Value.slice a1 l1 c1]); go_must (refine (unhide HLN _ (Below.refl _ _)).mono ?_; rintro e w1 ⟨rfl, hb1⟩; have HB1 := hide hb1; clear hb1 t0 t1 t2; obtain ⟨⟨t0, t1, t2⟩, _⟩ := unhide HC w1 (unhide HB1)))
    | (go_at_call_of 87 (Value.agg #[Value.slice a2 l2 c2]); go_must (refine (unhide HLD _ (unhide HB1)).mono ?_; rintro e w2 ⟨rfl, hb2⟩; have HB2 := hide ((unhide HB1).trans (hb2.mono (unhide HB1).size)); clear hb2 t0 t1 t2; obtain ⟨⟨t0, t1, t2⟩, _⟩ := unhide HC w2 (unhide HB2))))
  have HBT : Hid (∀ U, Below w2.heap.size w2 U → Below V.heap.size V U) := fun U hb => (unhide HB2).trans (hb.mono (unhide HB2).size)
  go_region_held3 (fun w' => w'.cell? ⟨w.heap.size, 0, none⟩ = some (.bool b) ∧ w'.cell? ⟨w.heap.size, 1, none⟩ = some (.slice a1 l1 c1) ∧ w'.cell? ⟨w.heap.size, 2, none⟩ = some (.slice a2 l2 c2)) (first | assumption | (refine ⟨?_, ?_, ?_⟩ <;> first | assumption | (simp [go_sem, *]; done)) | (simp [go_sem, *]; done)) ((first
    | (go_at_call_of 90 (Value.agg #[Value.slice a1 l1 c1]); go_must (refine (unhide HTN _ (unhide HBT _ ((Below.refl _ _).drew))).mono ?_; rintro e w3 ⟨rfl, hb3⟩; have HB3 := hide (((Below.refl w2.heap.size w2).drew).trans hb3); clear hb3 t0 t1 t2; obtain ⟨⟨t0, t1, t2⟩, _⟩ := unhide HC w3 (unhide HBT _ (unhide HB3))))
    | (go_at_call 78; go_must (refine (unhide HSG _).mono ?_; rintro e w4 ⟨rfl, hw4⟩; obtain rfl : w3 = w4 := hw4.symm))
    | (go_at_call_of 90 (Value.agg #[Value.slice a2 l2 c2]); go_must (refine (unhide HTD _ (unhide HBT _ (unhide HB3))).mono ?_; rintro e w5 ⟨rfl, hb5⟩; have HB5 := hide ((unhide HB3).trans (hb5.mono (unhide HB3).size)); clear hb5 t0 t1 t2; obtain ⟨⟨t0, t1, t2⟩, r0, r1, rf0, rf1⟩ := unhide HC w5 (unhide HBT _ (unhide HB5))))))
  have HS5 := hide ((unhide HS).later (unhide HBT _ (unhide HB5)))
  clear r0 r1 rf0 rf1 t0 t1 t2
  have hS := (unhide HS5).r.store (.string sn) (.string td)
  have hb : Below w.heap.size w (store2 w5 (w.heap.size + 1) (.string sn) (.string td)) := below_store2 (unhide HS5).below (by omega) _ _
  obtain ⟨V9, hV9⟩ : ∃ V9, V9 = store2 w5 (w.heap.size + 1) (.string sn) (.string td) := ⟨_, rfl⟩
  have hV9' : V9 = (w5.setCell ⟨w.heap.size + 1, 0, none⟩ (.string sn)).setCell ⟨w.heap.size + 1, 1, none⟩ (.string td) := hV9
  have u0 := hS.c0; have u1 := hS.c1
  rw [← hV9] at u0 u1 hb
  rw [← hV9']
  have HB9 := hide hb
  clear hV9 hV9' hS hb
  go_wp2_with fail
  exact bodyPost_ret (v := .tuple #[.agg #[.string sn, .string td], .int .i64 0]) (by simp [results, Tryz.results72, go_sem, u0, u1]) rfl ⟨rfl, unhide HB9⟩

set_option maxRecDepth 100000 in
set_option maxHeartbeats 2000000 in
theorem tell_large (v : Value) (b : Bool) (n d k : Nat) (w : World) (h : IsFrac w v b n d) (hk : k ≤ 1000000) (hnk : n < 1000000000 ^ k) (hdk : d < 1000000000 ^ k) (hl : ¬ (n < 10 ^ 600 ∧ d < 10 ^ 600)) :
    Calls Tryz.prog 72 #[v] w fun r w' => r = .returned (.tuple #[.agg #[.string ⟨#[]⟩, .string ⟨#[]⟩], .int .i64 7]) ∧ Below w.heap.size w w' := by
  obtain ⟨a1, l1, c1, a2, l2, c2, rfl, h1, h2⟩ := h.form
  obtain ⟨V, hV⟩ : ∃ V, V = (w.alloc (.cells #[.bool b, .slice a1 l1 c1, .slice a2 l2 c2] 74)).alloc (.cells #[.string ⟨#[]⟩, .string ⟨#[]⟩] 23) := ⟨_, rfl⟩
  have HS : Hid (TS w V (.bool b) (.slice a1 l1 c1) (.slice a2 l2 c2)) := by rw [hV]; exact TS.first _ _ _ _
  have HV := hide hV
  have HLN : Hid (∀ W, Below V.heap.size V W → Calls Tryz.prog 87 #[.agg #[.slice a1 l1 c1]] W fun e w' => e = .returned (.int .i64 (Lib.nDigits n : Nat)) ∧ Below W.heap.size W w') := fun W hb => len_any _ n k W ((h1.later (unhide HS).below).later hb) hk hnk
  have HLD : Hid (∀ W, Below V.heap.size V W → Calls Tryz.prog 87 #[.agg #[.slice a2 l2 c2]] W fun e w' => e = .returned (.int .i64 (Lib.nDigits d : Nat)) ∧ Below W.heap.size W w') := fun W hb => len_any _ d k W ((h2.later (unhide HS).below).later hb) hk hdk
  have hl' : ¬ ((Lib.nDigits n : Nat) ≤ 600 ∧ (Lib.nDigits d : Nat) ≤ 600) := fun h => hl ⟨(len600 n).1 h.1, (len600 d).1 h.2⟩
  clear h h1 h2 hk hnk hdk hl
  generalize (Lib.nDigits n : Nat) = L1 at *
  generalize (Lib.nDigits d : Nat) = L2 at *
  have HC : Hid (∀ w', Below V.heap.size V w' → (w'.cell? ⟨w.heap.size, 0, none⟩ = some (.bool b) ∧ w'.cell? ⟨w.heap.size, 1, none⟩ = some (.slice a1 l1 c1) ∧ w'.cell? ⟨w.heap.size, 2, none⟩ = some (.slice a2 l2 c2)) ∧ w'.cell? ⟨w.heap.size + 1, 0, none⟩ = some (.string ⟨#[]⟩) ∧ w'.cell? ⟨w.heap.size + 1, 1, none⟩ = some (.string ⟨#[]⟩) ∧ w'.frozen? ⟨w.heap.size + 1, 0, none⟩ = false ∧ w'.frozen? ⟨w.heap.size + 1, 1, none⟩ = false) := fun U hb => by
    have s := (unhide HS).later hb
    exact ⟨⟨s.a.c0, s.a.c1, s.a.c2⟩, s.r.c0, s.r.c1, s.r.f0, s.r.f1⟩
  go_enter Tryz.func72, Tryz.ntmps72
  go_upto_region 1 with fail
  rw [← unhide HV]
  clear hV HV
  obtain ⟨⟨t0, t1, t2⟩, _⟩ := unhide HC V (Below.refl _ _)
  by_cases hq : L1 ≤ 600
  · have hq2 : ¬ L2 ≤ 600 := fun h => hl' ⟨hq, h⟩
    clear hl'
    go_wp2_with (first
      | (go_at_call_of 87 (Value.agg #[Value.slice a1 l1 c1]); go_must (refine (unhide HLN _ (Below.refl _ _)).mono ?_; rintro e w1 ⟨rfl, hb1⟩; have HB1 := hide hb1; clear hb1 t0 t1 t2; obtain ⟨⟨t0, t1, t2⟩, _⟩ := unhide HC w1 (unhide HB1)))
      | (go_at_call_of 87 (Value.agg #[Value.slice a2 l2 c2]); go_must (refine (unhide HLD _ (unhide HB1)).mono ?_; rintro e w2 ⟨rfl, hb2⟩; have HB2 := hide ((unhide HB1).trans (hb2.mono (unhide HB1).size)); clear hb2 t0 t1 t2; obtain ⟨⟨t0, t1, t2⟩, r0, r1, rf0, rf1⟩ := unhide HC w2 (unhide HB2))))
    have HS5 := hide ((unhide HS).later (unhide HB2))
    have hS := (unhide HS5).r.store (.string ⟨#[]⟩) (.string ⟨#[]⟩)
    have hb : Below w.heap.size w (store2 w2 (w.heap.size + 1) (.string ⟨#[]⟩) (.string ⟨#[]⟩)) := below_store2 (unhide HS5).below (by omega) _ _
    have u0 := hS.c0; have u1 := hS.c1
    exact bodyPost_ret (v := .tuple #[.agg #[.string ⟨#[]⟩, .string ⟨#[]⟩], .int .i64 7]) (w := store2 w2 (w.heap.size + 1) (.string ⟨#[]⟩) (.string ⟨#[]⟩)) (by simp [results, Tryz.results72, go_sem, u0, u1]) rfl ⟨rfl, hb⟩
  · clear hl'
    go_wp2_with (go_at_call_of 87 (Value.agg #[Value.slice a1 l1 c1]); go_must (refine (unhide HLN _ (Below.refl _ _)).mono ?_; rintro e w2 ⟨rfl, hb1⟩; have HB2 := hide hb1; clear hb1 t0 t1 t2; obtain ⟨⟨t0, t1, t2⟩, r0, r1, rf0, rf1⟩ := unhide HC w2 (unhide HB2)))
    have HS5 := hide ((unhide HS).later (unhide HB2))
    have hS := (unhide HS5).r.store (.string ⟨#[]⟩) (.string ⟨#[]⟩)
    have hb : Below w.heap.size w (store2 w2 (w.heap.size + 1) (.string ⟨#[]⟩) (.string ⟨#[]⟩)) := below_store2 (unhide HS5).below (by omega) _ _
    have u0 := hS.c0; have u1 := hS.c1
    exact bodyPost_ret (v := .tuple #[.agg #[.string ⟨#[]⟩, .string ⟨#[]⟩], .int .i64 7]) (w := store2 w2 (w.heap.size + 1) (.string ⟨#[]⟩) (.string ⟨#[]⟩)) (by simp [results, Tryz.results72, go_sem, u0, u1]) rfl ⟨rfl, hb⟩
/-- Frac.Tell, by the number's value. -/
theorem qtell (v : Value) (x : Rat) (k : Nat) (w : World) (h : QOf w v x k) (hk : k ≤ 1000000) (htab : Tab w) :
    Calls Tryz.prog 72 #[v] w fun r w' => r = .returned (.tuple #[.agg #[.string (numT x), .string (denT x)], .int .i64 (errT x)]) ∧ Below w.heap.size w w' := by
  obtain ⟨b, n, d, h1, h2, rfl, h4, h5⟩ := h
  obtain ⟨e1, e2, e3⟩ := Cub.low_is h2
  by_cases hs : Small (Cub.valQ b n d)
  · have hn : n < 10 ^ 600 := by rw [e2]; exact hs.1
    have hd : d < 10 ^ 600 := by rw [e3]; exact hs.2
    have := tell_ok v b n d k w h1 hk h4 h5 hn hd htab
    unfold numT denT errT
    rw [if_pos hs, if_pos hs, if_pos hs, ← e1, ← e2, ← e3]
    exact this
  · have := tell_large v b n d k w h1 hk h4 h5 (fun h => hs ⟨by rw [← e2]; exact h.1, by rw [← e3]; exact h.2⟩)
    unfold numT denT errT
    rw [if_neg hs, if_neg hs, if_neg hs]
    exact this
end Go.Proofs.YtifalmdoligblaaGreatDoor

namespace Go.Proofs.YtifalmdoligblaaGreatDoor
open Go.RowKit

/-- The parts of a text, and a number's box. -/
structure DS (w W : World) (b b' : Bool) (p1 p2 p3 p5 : ByteArray) : Prop where
  c0 : W.cell? ⟨w.heap.size, 0, none⟩ = some (.bool b)
  c1 : W.cell? ⟨w.heap.size, 1, none⟩ = some (.string p1)
  c2 : W.cell? ⟨w.heap.size, 2, none⟩ = some (.string p2)
  c3 : W.cell? ⟨w.heap.size, 3, none⟩ = some (.string p3)
  c4 : W.cell? ⟨w.heap.size, 4, none⟩ = some (.bool b')
  r : T2 W (w.heap.size + 1) (.string ⟨#[]⟩) (.string ⟨#[]⟩)
  below : Below w.heap.size w W
theorem DS.later {w W V : World} {b b' : Bool} {p1 p2 p3 p5 : ByteArray} (s : DS w W b b' p1 p2 p3 p5) (hb : Below W.heap.size W V) : DS w V b b' p1 p2 p3 p5 := by
  have hl : w.heap.size < W.heap.size := World.block_lt_of_cell? _ _ s.c0
  exact ⟨(hb.cell (p := ⟨w.heap.size, 0, none⟩) hl).trans s.c0, (hb.cell (p := ⟨w.heap.size, 1, none⟩) hl).trans s.c1, (hb.cell (p := ⟨w.heap.size, 2, none⟩) hl).trans s.c2, (hb.cell (p := ⟨w.heap.size, 3, none⟩) hl).trans s.c3, (hb.cell (p := ⟨w.heap.size, 4, none⟩) hl).trans s.c4, s.r.later hb, s.below.trans (hb.mono s.below.size)⟩
theorem DS.first (w : World) (b b' : Bool) (p1 p2 p3 p5 : ByteArray) : DS w ((w.alloc (.cells #[.bool b, .string p1, .string p2, .string p3, .bool b', .string p5, .int .i64 0] 86)).alloc (.cells #[.string ⟨#[]⟩, .string ⟨#[]⟩] 23)) b b' p1 p2 p3 p5 :=
  ⟨by simp [go_sem], by simp [go_sem], by simp [go_sem], by simp [go_sem], by simp [go_sem], ⟨by simp [go_sem], by simp [go_sem], by simp [go_sem], by simp [go_sem]⟩, ((Below.refl _ _).alloc (Nat.le_refl _) _).alloc (by simp) _⟩
theorem DS.other {w W : World} {b b' : Bool} {p1 p2 p3 p5 : ByteArray} (s : DS w W b b' p1 p2 p3 p5) (g : Nat) (hg : w.heap.size + 1 < g) (u : Value) : DS w (W.setCell ⟨g, 0, none⟩ u) b b' p1 p2 p3 p5 := by
  have k : ∀ i, (W.setCell ⟨g, 0, none⟩ u).cell? ⟨w.heap.size, i, none⟩ = W.cell? ⟨w.heap.size, i, none⟩ := fun i => World.cell?_setCell_other _ _ _ _ (by intro e; have := congrArg Addr.block e; simp at this; omega)
  exact ⟨(k 0).trans s.c0, (k 1).trans s.c1, (k 2).trans s.c2, (k 3).trans s.c3, (k 4).trans s.c4, s.r.otherAt (by omega) u, s.below.setCell (p := ⟨g, 0, none⟩) (by show w.heap.size ≤ g; omega) _⟩
theorem pow_lt_ten (n e : Nat) (he : 1 ≤ e) (hn : n < 10) : n < 10 ^ e := Nat.lt_of_lt_of_le (by omega : n < 10 ^ 1) (Nat.pow_le_pow_right (by decide) he)

set_option maxRecDepth 100000 in
set_option maxHeartbeats 4000000 in
theorem decimal_S (w : World) (htab : Tab w) : Calls Tryz.prog 82 #[.agg #[.bool true, .string ⟨#[49]⟩, .string ⟨#[50, 53, 48]⟩, .string ⟨#[49]⟩, .bool true, .string ⟨#[]⟩, .int .i64 0]] w fun r w' => r = .returned (.tuple #[.agg #[.string (sT true 1), .string (tb 8)], .int .i64 0, .int .i64 0]) ∧ Below w.heap.size w w' := by
  obtain ⟨V, hV⟩ : ∃ V, V = (w.alloc (.cells #[.bool true, .string ⟨#[49]⟩, .string ⟨#[50, 53, 48]⟩, .string ⟨#[49]⟩, .bool true, .string ⟨#[]⟩, .int .i64 0] 86)).alloc (.cells #[.string ⟨#[]⟩, .string ⟨#[]⟩] 23) := ⟨_, rfl⟩
  have HS : Hid (DS w V true true ⟨#[49]⟩ ⟨#[50, 53, 48]⟩ ⟨#[49]⟩ ⟨#[]⟩) := by rw [hV]; exact DS.first _ _ _ _ _ _ _
  have HV := hide hV
  have HTW := hide htab
  have HN1 : Hid (∀ W, Calls Tryz.prog 136 #[.string (⟨#[49]⟩ ++ ⟨#[50, 53, 48]⟩)] W fun r w' => r = .returned (.string ⟨#[49, 50, 53, 48]⟩) ∧ w' = W) := fun W => by
    have := naturalT_any (⟨#[49]⟩ ++ ⟨#[50, 53, 48]⟩) W
    rwa [show natT (⟨#[49]⟩ ++ ⟨#[50, 53, 48]⟩) = ⟨#[49, 50, 53, 48]⟩ from bytes_ext (by rfl)] at this
  have HN2 : Hid (∀ W, Calls Tryz.prog 136 #[.string ⟨#[49]⟩] W fun r w' => r = .returned (.string ⟨#[49]⟩) ∧ w' = W) := fun W => by
    have := naturalT_any ⟨#[49]⟩ W
    rwa [show natT ⟨#[49]⟩ = ⟨#[49]⟩ from bytes_ext (by rfl)] at this
  have HAT : Hid (∀ W, Calls Tryz.prog 137 #[.string ⟨#[49]⟩] W fun e w' => e = .returned (.tuple #[.int .i64 1, .nilIface]) ∧ Below W.heap.size W w') := fun W => by
    refine (Tryz.strconv_Atoi ⟨#[49]⟩ 1 (by decide) (by decide) W).mono ?_
    rintro e w' ⟨rfl, t, rfl⟩
    exact ⟨rfl, Lib.bytesWorld_below W 5 t⟩
  have HBT : Hid (∀ W, Calls Tryz.prog 71 #[.string ⟨#[49, 50, 53, 48]⟩] W fun e w' => ∃ v, e = .returned v ∧ IsBig w' v 1250 ∧ Below W.heap.size W w') := fun W =>
    bigText_any ⟨#[49, 50, 53, 48]⟩ W (by decide) (by intro c hc; simp at hc; rcases hc with rfl | rfl | rfl | rfl <;> decide)
  have HBO : Hid (∀ W, Calls Tryz.prog 112 #[.int .u64 1] W fun e w' => ∃ a l c, e = .returned (.agg #[.slice a l c]) ∧ IsBig w' (.agg #[.slice a l c]) 1 ∧ Below W.heap.size W w') := fun W => bigOf_any 1 W (by decide)
  have HSH : Hid (∀ W x, IsBig W x 1 → Calls Tryz.prog 114 #[x, .int .i64 4] W fun e w' => ∃ a l c, e = .returned (.agg #[.slice a l c]) ∧ IsBig w' (.agg #[.slice a l c]) 10000 ∧ Below W.heap.size W w') := fun W x h => shift_any x 1 4 1 W h (by decide) (by decide) (by decide)
  have HRA : Hid (∀ W x y, IsBig W x 1250 → IsBig W y 10000 → Calls Tryz.prog 70 #[.bool true, x, y] W fun e w' => ∃ v', e = .returned v' ∧ IsFrac w' v' true 1 8 ∧ Below W.heap.size W w') := fun W x y h1 h2 =>
    ratio_any true x y 1250 10000 1 W h1 h2 (by decide) (by decide) (by decide) (divAns 1 (by decide)) (gcdAns 1 (by decide))
  have HTE : Hid (∀ W v, IsFrac W v true 1 8 → Tab W → Calls Tryz.prog 72 #[v] W fun r w' => r = .returned (.tuple #[.agg #[.string (sT true 1), .string (tb 8)], .int .i64 0]) ∧ Below W.heap.size W w') := fun W v h ht =>
    tell_ok v true 1 8 1 W h (by decide) (by decide) (by decide) (pow_lt_ten 1 600 (by decide) (by decide)) (pow_lt_ten 8 600 (by decide) (by decide)) ht
  clear htab
  have z1 : (⟨#[49]⟩ : ByteArray).size = 1 := rfl
  have z2 : (⟨#[50, 53, 48]⟩ : ByteArray).size = 3 := rfl
  have z3 : (⟨#[49, 50, 53, 48]⟩ : ByteArray).size = 4 := rfl
  generalize sT true 1 = rn at *
  generalize tb 8 = rd at *
  generalize (⟨#[49]⟩ : ByteArray) = t1 at *
  generalize (⟨#[50, 53, 48]⟩ : ByteArray) = t2 at *
  generalize (⟨#[49, 50, 53, 48]⟩ : ByteArray) = t3 at *
  go_enter Tryz.func82, Tryz.ntmps82
  go_upto_region 1 with fail
  rw [← unhide HV]
  clear hV HV
  have q0 := (unhide HS).c0; have q1 := (unhide HS).c1; have q2 := (unhide HS).c2; have q3 := (unhide HS).c3; have q4 := (unhide HS).c4
  go_upto_region 5 with (first
    | (go_at_call_of 136 (Value.string t1); go_must (refine (unhide HN2 _).mono ?_; rintro e w1 ⟨rfl, hw1⟩; obtain rfl : V = w1 := hw1.symm))
    | (go_at_call 136; go_must (refine (unhide HN1 _).mono ?_; rintro e w1 ⟨rfl, hw1⟩; obtain rfl : V = w1 := hw1.symm)))
  go_upto_region 13 with (go_at_call 137; go_must (refine (unhide HAT _).mono ?_; rintro e w1 ⟨rfl, hb1⟩; have HS1 := hide ((unhide HS).later hb1); clear hb1 q0 q1 q2 q3 q4; have q0 := (unhide HS1).c0; have q1 := (unhide HS1).c1; have q2 := (unhide HS1).c2; have q3 := (unhide HS1).c3; have q4 := (unhide HS1).c4))
  go_upto_region 14 with (first
    | (go_at_call 71; go_must (refine (unhide HBT _).mono ?_; rintro e w2 ⟨v2, rfl, hv2, hb2⟩; obtain ⟨a2, l2, c2, rfl⟩ := hv2.shape; have HS2 := hide ((unhide HS1).later hb2); have HX2 := hide hv2; clear hv2 hb2 q0 q1 q2 q3 q4))
    | (go_at_call 112; go_must (refine (unhide HBO _).mono ?_; rintro e w3 ⟨a3, l3, c3, rfl, hv3, hb3⟩; have HS3 := hide ((unhide HS2).later hb3); have HX3 := hide ((unhide HX2).later hb3); have HY3 := hide hv3; clear hv3 hb3)))
  obtain ⟨V4, hV4⟩ : ∃ V4, V4 = (w3.alloc (.cells #[.slice a2 l2 c2] 72)).alloc (.cells #[.slice a3 l3 c3] 72) := ⟨_, rfl⟩
  have hb : Below w3.heap.size w3 V4 := by rw [hV4]; exact ((Below.refl _ _).alloc (Nat.le_refl _) _).alloc (by simp) _
  have HS4 := hide ((unhide HS3).later hb); have HX4 := hide ((unhide HX3).later hb); have HY4 := hide ((unhide HY3).later hb)
  have HBX : Hid (Box V4 w3.heap.size (.slice a2 l2 c2)) := by rw [hV4]; exact (Box.new _ _).later ((Below.refl _ _).alloc (Nat.le_refl _) _)
  have HBY : Hid (Box V4 (w3.heap.size + 1) (.slice a3 l3 c3)) := by
    rw [hV4]
    have := Box.new (w3.alloc (.cells #[.slice a2 l2 c2] 72)) (.slice a3 l3 c3)
    rwa [show (w3.alloc (.cells #[.slice a2 l2 c2] 72)).heap.size = w3.heap.size + 1 by simp] at this
  have hg9 : w.heap.size + 1 < w3.heap.size := (unhide HS3).r.lt
  rw [← hV4]
  clear hV4 hb HS HS1 HS2 HS3 HX2 HX3 HY3
  generalize w3.heap.size = g9 at *
  have q0 := (unhide HS4).c0
  have u1 := (unhide HBY).c
  go_upto_region 17 with (go_at_call 114; go_must (refine (unhide HSH _ _ (unhide HY4)).mono ?_; rintro e w5 ⟨a5, l5, c5, rfl, hv5, hb5⟩; have HS5 := hide ((unhide HS4).later hb5); have HX5 := hide ((unhide HX4).later hb5); have HY5 := hide hv5; have HBX5 := hide ((unhide HBX).later hb5); have HBY5 := hide ((unhide HBY).later hb5); clear hv5 hb5 u1 q0; have u1 := (unhide HBY5).c; have u2 := (unhide HBY5).f))
  obtain ⟨V6, hV6⟩ : ∃ V6, V6 = w5.setCell ⟨g9 + 1, 0, none⟩ (.slice a5 l5 c5) := ⟨_, rfl⟩
  have HS6 : Hid (DS w V6 true true t1 t2 t1 ⟨#[]⟩) := by rw [hV6]; exact (unhide HS5).other (g9 + 1) (by omega) _
  have HX6 : Hid (IsBig V6 (.agg #[.slice a2 l2 c2]) 1250) := by rw [hV6]; exact (unhide HX5).box _ u1 (not_int _ _ _)
  have HY6 : Hid (IsBig V6 (.agg #[.slice a5 l5 c5]) 10000) := by rw [hV6]; exact (unhide HY5).box _ u1 (not_int _ _ _)
  have HBX6 : Hid (Box V6 g9 (.slice a2 l2 c2)) := by rw [hV6]; exact (unhide HBX5).other (by omega) _
  have HBY6 : Hid (Box V6 (g9 + 1) (.slice a5 l5 c5)) := by rw [hV6]; exact (unhide HBY5).set _
  have HT6 := hide ((unhide HTW).later (unhide HS6).below)
  rw [← hV6]
  clear hV6 HS4 HS5 HX4 HX5 HY4 HY5 HBX HBX5 HBY HBY5 u1 u2
  have q0 := (unhide HS6).c0; have u1 := (unhide HBX6).c; have u2 := (unhide HBY6).c
  go_upto_region 18 with (first
    | (go_at_call 70; go_must (refine (unhide HRA _ _ _ (unhide HX6) (unhide HY6)).mono ?_; rintro e w7 ⟨v7, rfl, hv7, hb7⟩; have HS7 := hide ((unhide HS6).later hb7); have HF7 := hide hv7; clear hv7 hb7 q0 u1 u2))
    | (go_at_call 72; go_must (refine (unhide HTE _ _ (unhide HF7) ((unhide HTW).later (unhide HS7).below)).mono ?_; rintro e w8 ⟨rfl, hb8⟩; have HS8 := hide ((unhide HS7).later hb8); clear hb8)))
  obtain ⟨V9, hV9⟩ : ∃ V9, V9 = w8.alloc (.cells #[.string rn, .string rd] 23) := ⟨_, rfl⟩
  have HS9 : Hid (DS w V9 true true t1 t2 t1 ⟨#[]⟩) := (unhide HS8).later (by rw [hV9]; exact (Below.refl _ _).alloc (Nat.le_refl _) _)
  have c0 : V9.cell? ⟨w8.heap.size, 0, none⟩ = some (.string rn) := by rw [hV9]; simp [go_sem]
  have c1 : V9.cell? ⟨w8.heap.size, 1, none⟩ = some (.string rd) := by rw [hV9]; simp [go_sem]
  rw [← hV9]
  clear hV9
  have r0 := (unhide HS9).r.c0; have r1 := (unhide HS9).r.c1; have rf0 := (unhide HS9).r.f0; have rf1 := (unhide HS9).r.f1
  go_wp2_with fail
  have hS := (unhide HS9).r.store (.string rn) (.string rd)
  have hb : Below w.heap.size w (store2 V9 (w.heap.size + 1) (.string rn) (.string rd)) := below_store2 (unhide HS9).below (by omega) _ _
  have v0 := hS.c0; have v1 := hS.c1
  exact bodyPost_ret (v := .tuple #[.agg #[.string rn, .string rd], .int .i64 0, .int .i64 0]) (w := store2 V9 (w.heap.size + 1) (.string rn) (.string rd)) (by simp [results, Tryz.results82, go_sem, v0, v1]) rfl ⟨rfl, hb⟩

set_option maxRecDepth 100000 in
set_option maxHeartbeats 2000000 in
theorem parse_S (w : World) (htab : Tab w) : Calls Tryz.prog 22 #[.string exS] w fun r w' => r = .returned (.tuple #[.agg #[.string (sT true 1), .string (tb 8)], .int .i64 0, .int .i64 0]) ∧ Below w.heap.size w w' := by
  obtain ⟨V, hV⟩ : ∃ V, V = w.alloc (.cells #[.string ⟨#[]⟩, .string ⟨#[]⟩] 23) := ⟨_, rfl⟩
  have hbV : Below w.heap.size w V := by rw [hV]; exact (Below.refl _ _).alloc (Nat.le_refl _) _
  have HR : Hid (T2 V w.heap.size (.string ⟨#[]⟩) (.string ⟨#[]⟩) ∧ Below w.heap.size w V) := ⟨by rw [hV]; exact ⟨by simp [go_sem], by simp [go_sem], by simp [go_sem], by simp [go_sem]⟩, hbV⟩
  have HV := hide hV
  have HTW := hide htab
  have H80 := hide (cutParts_S V)
  have H82 := hide (fun W (hb : Below w.heap.size w W) => decimal_S W (htab.later hb))
  have hsz : (exS.size : Int) = 9 := rfl
  clear htab hbV
  generalize sT true 1 = rn at *
  generalize tb 8 = rd at *
  generalize (⟨#[49]⟩ : ByteArray) = t1 at *
  generalize (⟨#[50, 53, 48]⟩ : ByteArray) = t2 at *
  generalize exS = s at *
  go_enter Tryz.func22, Tryz.ntmps22
  go_upto_region 3 with fail
  rw [← unhide HV]
  clear hV HV
  go_upto_region 4 with (go_at_call 80; go_must (refine (unhide H80).mono ?_; rintro e w1 ⟨rfl, hb1⟩; have HR1 : Hid (T2 w1 w.heap.size (.string ⟨#[]⟩) (.string ⟨#[]⟩) ∧ Below w.heap.size w w1) := ⟨(unhide HR).1.later hb1, (unhide HR).2.trans (hb1.mono (unhide HR).2.size)⟩; clear hb1))
  obtain ⟨V2, hV2⟩ : ∃ V2, V2 = w1.alloc (.cells #[.bool true, .string t1, .string t2, .string t1, .bool true, .string ⟨#[]⟩, .int .i64 0] 86) := ⟨_, rfl⟩
  have hb2 : Below w1.heap.size w1 V2 := by rw [hV2]; exact (Below.refl _ _).alloc (Nat.le_refl _) _
  have HR2 : Hid (T2 V2 w.heap.size (.string ⟨#[]⟩) (.string ⟨#[]⟩) ∧ Below w.heap.size w V2) := ⟨(unhide HR1).1.later hb2, (unhide HR1).2.trans (hb2.mono (unhide HR1).2.size)⟩
  have c0 : V2.cell? ⟨w1.heap.size, 0, none⟩ = some (.bool true) := by rw [hV2]; simp [go_sem]
  have c1 : V2.cell? ⟨w1.heap.size, 1, none⟩ = some (.string t1) := by rw [hV2]; simp [go_sem]
  have c2 : V2.cell? ⟨w1.heap.size, 2, none⟩ = some (.string t2) := by rw [hV2]; simp [go_sem]
  have c3 : V2.cell? ⟨w1.heap.size, 3, none⟩ = some (.string t1) := by rw [hV2]; simp [go_sem]
  have c4 : V2.cell? ⟨w1.heap.size, 4, none⟩ = some (.bool true) := by rw [hV2]; simp [go_sem]
  have c5 : V2.cell? ⟨w1.heap.size, 5, none⟩ = some (.string ⟨#[]⟩) := by rw [hV2]; simp [go_sem]
  have c6 : V2.cell? ⟨w1.heap.size, 6, none⟩ = some (.int .i64 0) := by rw [hV2]; simp [go_sem]
  rw [← hV2]
  clear hV2 hb2 HR HR1 H80
  go_wp2_with (go_at_call 82; go_must (refine (unhide H82 _ (unhide HR2).2).mono ?_; rintro e w3 ⟨rfl, hb3⟩; have HR3 : Hid (T2 w3 w.heap.size (.string ⟨#[]⟩) (.string ⟨#[]⟩) ∧ Below w.heap.size w w3) := ⟨(unhide HR2).1.later hb3, (unhide HR2).2.trans (hb3.mono (unhide HR2).2.size)⟩; clear hb3 c0 c1 c2 c3 c4 c5 c6; have r0 := (unhide HR3).1.c0; have r1 := (unhide HR3).1.c1; have rf0 := (unhide HR3).1.f0; have rf1 := (unhide HR3).1.f1))
  have hS := (unhide HR3).1.store (.string rn) (.string rd)
  have hb : Below w.heap.size w (store2 w3 w.heap.size (.string rn) (.string rd)) := below_store2 (unhide HR3).2 (Nat.le_refl _) _ _
  have v0 := hS.c0; have v1 := hS.c1
  exact bodyPost_ret (v := .tuple #[.agg #[.string rn, .string rd], .int .i64 0, .int .i64 0]) (w := store2 w3 w.heap.size (.string rn) (.string rd)) (by simp [results, Tryz.results22, go_sem, v0, v1]) rfl ⟨rfl, hb⟩
end Go.Proofs.YtifalmdoligblaaGreatDoor

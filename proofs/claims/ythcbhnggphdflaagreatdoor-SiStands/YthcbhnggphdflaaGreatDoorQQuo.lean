/- Frac.Quo. -/
import Derived.Test.YthcbhnggphdflaaGreatDoorLimb2
import Derived.Test.YthcbhnggphdflaaGreatDoorRead
namespace Go.Proofs.YthcbhnggphdflaaGreatDoor
open Go.RowKit
/-- What is told of a number: its two texts, or ErrLarge (7). -/
def Small (x : Rat) : Prop := x.num.natAbs < 10 ^ 600 ∧ x.den < 10 ^ 600
noncomputable def numT (x : Rat) : ByteArray := open Classical in if Small x then sT (decide (x < 0)) x.num.natAbs else ⟨#[]⟩
noncomputable def denT (x : Rat) : ByteArray := open Classical in if Small x then tb x.den else ⟨#[]⟩
noncomputable def errT (x : Rat) : Int := open Classical in if Small x then 0 else 7
/-- The argument and the box of the number. -/
structure TS (w W : World) (x y z : Value) : Prop where
 a : FBox W w.heap.size x y z
 r : T2 W (w.heap.size + 1) (.string ⟨#[]⟩) (.string ⟨#[]⟩)
 below : Below w.heap.size w W
theorem TS.later {w W V : World} {x y z : Value} (s : TS w W x y z) (hb : Below W.heap.size W V) : TS w V x y z := ⟨s.a.later hb, s.r.later hb, s.below.trans (hb.mono s.below.size)⟩
theorem TS.first (w : World) (x y z : Value) : TS w ((w.alloc (.cells #[x, y, z] 118)).alloc (.cells #[.string ⟨#[]⟩, .string ⟨#[]⟩] 28)) x y z :=
 ⟨⟨by simp [go_sem], by simp [go_sem], by simp [go_sem], by simp [go_sem], by simp [go_sem], by simp [go_sem]⟩, ⟨by simp [go_sem], by simp [go_sem], by simp [go_sem], by simp [go_sem]⟩, ((Below.refl _ _).alloc (Nat.le_refl _) _).alloc (by simp) _⟩
def store2 (W : World) (g : Nat) (x y : Value) : World := (W.setCell ⟨g, 0, none⟩ x).setCell ⟨g, 1, none⟩ y
theorem T2.store {W : World} {g : Nat} {x y : Value} (h : T2 W g x y) (x' y' : Value) : T2 (store2 W g x' y') g x' y' := by
 have a1 : (W.setCell ⟨g, 0, none⟩ x').cell? ⟨g, 1, none⟩ = some y := by rw [World.cell?_setCell_other _ _ _ _ (by simp)]; exact h.c1
 unfold store2
 refine ⟨?_, World.cell?_setCell_same _ _ _ a1, ?_, ?_⟩
 ·rw [World.cell?_setCell_other _ _ _ _ (by simp)]; exact World.cell?_setCell_same _ _ _ h.c0
 ·rw [World.frozen?_setCell, World.frozen?_setCell]; exact h.f0
 ·rw [World.frozen?_setCell, World.frozen?_setCell]; exact h.f1
theorem below_store2 {B g : Nat} {w W : World} (h : Below B w W) (hg : B ≤ g) (x y : Value) : Below B w (store2 W g x y) :=
 (h.setCell (p := ⟨g, 0, none⟩) hg x).setCell (p := ⟨g, 1, none⟩) hg y
set_option maxRecDepth 100000 in
set_option maxHeartbeats 2000000 in
theorem tell_ok (v : Value) (b : Bool) (n d k : Nat) (w : World) (h : IsFrac w v b n d) (hk : k ≤ 1000000) (hnk : n < 1000000000 ^ k) (hdk : d < 1000000000 ^ k) (hn : n < 10 ^ 600) (hd : d < 10 ^ 600) (htab : Tab w) :
  Calls Tryz.prog 67 #[v] w fun r w' => r = .returned (.tuple #[.agg #[.string (sT b n), .string (tb d)], I 0]) ∧ Below w.heap.size w w' := by
 obtain ⟨a1, l1, c1, a2, l2, c2, rfl, h1, h2⟩ := h.form
 obtain ⟨V, hV⟩ : ∃ V, V = (w.alloc (.cells #[.bool b, .slice a1 l1 c1, .slice a2 l2 c2] 118)).alloc (.cells #[.string ⟨#[]⟩, .string ⟨#[]⟩] 28) := ⟨_, rfl⟩
 have HS : Hid (TS w V (.bool b) (.slice a1 l1 c1) (.slice a2 l2 c2)) := by rw [hV]; exact TS.first _ _ _ _
 have HV := hide hV
 have HLN : Hid (∀ W, Below V.heap.size V W → Calls Tryz.prog 97 #[.agg #[.slice a1 l1 c1]] W fun e w' => e = .returned (I (Lib.nDigits n : Nat)) ∧ Below W.heap.size W w') := fun W hb => len_any _ n k W ((h1.later (un HS).below).later hb) hk hnk
 have HLD : Hid (∀ W, Below V.heap.size V W → Calls Tryz.prog 97 #[.agg #[.slice a2 l2 c2]] W fun e w' => e = .returned (I (Lib.nDigits d : Nat)) ∧ Below W.heap.size W w') := fun W hb => len_any _ d k W ((h2.later (un HS).below).later hb) hk hdk
 have HTN : Hid (∀ W, Below V.heap.size V W → Calls Tryz.prog 98 #[.agg #[.slice a1 l1 c1]] W fun e w' => e = .returned (.string (tb n)) ∧ Below W.heap.size W w') := fun W hb => by
  have := text_any _ n k W ((h1.later (un HS).below).later hb) hk hnk ((htab.later (un HS).below).later hb)
  rwa [show (⟨(Lib.decDigits n).toArray⟩ : ByteArray) = tb n from bytes_ext (by rw [tb_list n hn])] at this
 have HTD : Hid (∀ W, Below V.heap.size V W → Calls Tryz.prog 98 #[.agg #[.slice a2 l2 c2]] W fun e w' => e = .returned (.string (tb d)) ∧ Below W.heap.size W w') := fun W hb => by
  have := text_any _ d k W ((h2.later (un HS).below).later hb) hk hdk ((htab.later (un HS).below).later hb)
  rwa [show (⟨(Lib.decDigits d).toArray⟩ : ByteArray) = tb d from bytes_ext (by rw [tb_list d hd])] at this
 have HSG : Hid (∀ W, Calls Tryz.prog 86 #[.bool b, .string (tb n)] W fun e w' => e = .returned (.string (sT b n)) ∧ w' = W) := fun W => signed_any b (tb n) W (by have := (tb_digs n hn).2; omega)
 have n1 : (Lib.nDigits n : Nat) ≤ 600 := (len600 n).2 hn
 have n2 : (Lib.nDigits d : Nat) ≤ 600 := (len600 d).2 hd
 clear h h1 h2 hk hnk hdk hn hd htab
 generalize (Lib.nDigits n : Nat) = L1 at *
 generalize (Lib.nDigits d : Nat) = L2 at *
 generalize sT b n = sn at *
 generalize tb n = tn at *
 generalize tb d = td at *
 have HC : Hid (∀ w', Below V.heap.size V w' → (w'.cell? ⟨w.heap.size, 0, none⟩ = some (.bool b) ∧ w'.cell? ⟨w.heap.size, 1, none⟩ = some (.slice a1 l1 c1) ∧ w'.cell? ⟨w.heap.size, 2, none⟩ = some (.slice a2 l2 c2)) ∧ w'.cell? ⟨w.heap.size + 1, 0, none⟩ = some (.string ⟨#[]⟩) ∧ w'.cell? ⟨w.heap.size + 1, 1, none⟩ = some (.string ⟨#[]⟩) ∧ w'.frozen? ⟨w.heap.size + 1, 0, none⟩ = false ∧ w'.frozen? ⟨w.heap.size + 1, 1, none⟩ = false) := fun U hb => by
  have s := (un HS).later hb
  exact ⟨⟨s.a.c0, s.a.c1, s.a.c2⟩, s.r.c0, s.r.c1, s.r.f0, s.r.f1⟩
 go_enter Tryz.func67, Tryz.ntmps67
 go_upto_region 1 with fail
 rw [← un HV]
 clear hV HV
 obtain ⟨⟨t0, t1, t2⟩, _⟩ := un HC V (Below.refl _ _)
 go_upto_region 3 with (first
  | (go_at_call_of 97 (Value.agg #[Value.slice a1 l1 c1]); go_must (refine (un HLN _ (Below.refl _ _)).mono ?_; rintro e w1 ⟨rfl, hb1⟩; have HB1 := hide hb1; clear hb1 t0 t1 t2; obtain ⟨⟨t0, t1, t2⟩, _⟩ := un HC w1 (un HB1)))
  | (go_at_call_of 97 (Value.agg #[Value.slice a2 l2 c2]); go_must (refine (un HLD _ (un HB1)).mono ?_; rintro e w2 ⟨rfl, hb2⟩; have HB2 := hide ((un HB1).trans (hb2.mono (un HB1).size)); clear hb2 t0 t1 t2; obtain ⟨⟨t0, t1, t2⟩, _⟩ := un HC w2 (un HB2))))
 have HBT : Hid (∀ U, Below w2.heap.size w2 U → Below V.heap.size V U) := fun U hb => (un HB2).trans (hb.mono (un HB2).size)
 go_region_held3 (fun w' => w'.cell? ⟨w.heap.size, 0, none⟩ = some (.bool b) ∧ w'.cell? ⟨w.heap.size, 1, none⟩ = some (.slice a1 l1 c1) ∧ w'.cell? ⟨w.heap.size, 2, none⟩ = some (.slice a2 l2 c2)) (first | assumption | (refine ⟨?_, ?_, ?_⟩ <;> first | assumption | (simp [go_sem, *]; done)) | (simp [go_sem, *]; done)) ((first
  | (go_at_call_of 98 (Value.agg #[Value.slice a1 l1 c1]); go_must (refine (un HTN _ (un HBT _ ((Below.refl _ _).drew))).mono ?_; rintro e w3 ⟨rfl, hb3⟩; have HB3 := hide (((Below.refl w2.heap.size w2).drew).trans hb3); clear hb3 t0 t1 t2; obtain ⟨⟨t0, t1, t2⟩, _⟩ := un HC w3 (un HBT _ (un HB3))))
  | (go_at_call 86; go_must (refine (un HSG _).mono ?_; rintro e w4 ⟨rfl, hw4⟩; obtain rfl : w3 = w4 := hw4.symm))
  | (go_at_call_of 98 (Value.agg #[Value.slice a2 l2 c2]); go_must (refine (un HTD _ (un HBT _ (un HB3))).mono ?_; rintro e w5 ⟨rfl, hb5⟩; have HB5 := hide ((un HB3).trans (hb5.mono (un HB3).size)); clear hb5 t0 t1 t2; obtain ⟨⟨t0, t1, t2⟩, r0, r1, rf0, rf1⟩ := un HC w5 (un HBT _ (un HB5))))))
 have HS5 := hide ((un HS).later (un HBT _ (un HB5)))
 clear r0 r1 rf0 rf1 t0 t1 t2
 have hS := (un HS5).r.store (.string sn) (.string td)
 have hb : Below w.heap.size w (store2 w5 (w.heap.size + 1) (.string sn) (.string td)) := below_store2 (un HS5).below (by omega) _ _
 obtain ⟨V9, hV9⟩ : ∃ V9, V9 = store2 w5 (w.heap.size + 1) (.string sn) (.string td) := ⟨_, rfl⟩
 have hV9' : V9 = (w5.setCell ⟨w.heap.size + 1, 0, none⟩ (.string sn)).setCell ⟨w.heap.size + 1, 1, none⟩ (.string td) := hV9
 have u0 := hS.c0; have u1 := hS.c1
 rw [← hV9] at u0 u1 hb
 rw [← hV9']
 have HB9 := hide hb
 clear hV9 hV9' hS hb
 go_wp2_with fail
 exact bodyPost_ret (v := .tuple #[.agg #[.string sn, .string td], I 0]) (by simp [results, Tryz.results67, go_sem, u0, u1]) rfl ⟨rfl, un HB9⟩
set_option maxRecDepth 100000 in
set_option maxHeartbeats 2000000 in
theorem tell_large (v : Value) (b : Bool) (n d k : Nat) (w : World) (h : IsFrac w v b n d) (hk : k ≤ 1000000) (hnk : n < 1000000000 ^ k) (hdk : d < 1000000000 ^ k) (hl : ¬ (n < 10 ^ 600 ∧ d < 10 ^ 600)) :
  Calls Tryz.prog 67 #[v] w fun r w' => r = .returned (.tuple #[.agg #[.string ⟨#[]⟩, .string ⟨#[]⟩], I 7]) ∧ Below w.heap.size w w' := by
 obtain ⟨a1, l1, c1, a2, l2, c2, rfl, h1, h2⟩ := h.form
 obtain ⟨V, hV⟩ : ∃ V, V = (w.alloc (.cells #[.bool b, .slice a1 l1 c1, .slice a2 l2 c2] 118)).alloc (.cells #[.string ⟨#[]⟩, .string ⟨#[]⟩] 28) := ⟨_, rfl⟩
 have HS : Hid (TS w V (.bool b) (.slice a1 l1 c1) (.slice a2 l2 c2)) := by rw [hV]; exact TS.first _ _ _ _
 have HV := hide hV
 have HLN : Hid (∀ W, Below V.heap.size V W → Calls Tryz.prog 97 #[.agg #[.slice a1 l1 c1]] W fun e w' => e = .returned (I (Lib.nDigits n : Nat)) ∧ Below W.heap.size W w') := fun W hb => len_any _ n k W ((h1.later (un HS).below).later hb) hk hnk
 have HLD : Hid (∀ W, Below V.heap.size V W → Calls Tryz.prog 97 #[.agg #[.slice a2 l2 c2]] W fun e w' => e = .returned (I (Lib.nDigits d : Nat)) ∧ Below W.heap.size W w') := fun W hb => len_any _ d k W ((h2.later (un HS).below).later hb) hk hdk
 have hl' : ¬ ((Lib.nDigits n : Nat) ≤ 600 ∧ (Lib.nDigits d : Nat) ≤ 600) := fun h => hl ⟨(len600 n).1 h.1, (len600 d).1 h.2⟩
 clear h h1 h2 hk hnk hdk hl
 generalize (Lib.nDigits n : Nat) = L1 at *
 generalize (Lib.nDigits d : Nat) = L2 at *
 have HC : Hid (∀ w', Below V.heap.size V w' → (w'.cell? ⟨w.heap.size, 0, none⟩ = some (.bool b) ∧ w'.cell? ⟨w.heap.size, 1, none⟩ = some (.slice a1 l1 c1) ∧ w'.cell? ⟨w.heap.size, 2, none⟩ = some (.slice a2 l2 c2)) ∧ w'.cell? ⟨w.heap.size + 1, 0, none⟩ = some (.string ⟨#[]⟩) ∧ w'.cell? ⟨w.heap.size + 1, 1, none⟩ = some (.string ⟨#[]⟩) ∧ w'.frozen? ⟨w.heap.size + 1, 0, none⟩ = false ∧ w'.frozen? ⟨w.heap.size + 1, 1, none⟩ = false) := fun U hb => by
  have s := (un HS).later hb
  exact ⟨⟨s.a.c0, s.a.c1, s.a.c2⟩, s.r.c0, s.r.c1, s.r.f0, s.r.f1⟩
 go_enter Tryz.func67, Tryz.ntmps67
 go_upto_region 1 with fail
 rw [← un HV]
 clear hV HV
 obtain ⟨⟨t0, t1, t2⟩, _⟩ := un HC V (Below.refl _ _)
 by_cases hq : L1 ≤ 600
 ·have hq2 : ¬ L2 ≤ 600 := fun h => hl' ⟨hq, h⟩
  clear hl'
  go_wp2_with (first
   | (go_at_call_of 97 (Value.agg #[Value.slice a1 l1 c1]); go_must (refine (un HLN _ (Below.refl _ _)).mono ?_; rintro e w1 ⟨rfl, hb1⟩; have HB1 := hide hb1; clear hb1 t0 t1 t2; obtain ⟨⟨t0, t1, t2⟩, _⟩ := un HC w1 (un HB1)))
   | (go_at_call_of 97 (Value.agg #[Value.slice a2 l2 c2]); go_must (refine (un HLD _ (un HB1)).mono ?_; rintro e w2 ⟨rfl, hb2⟩; have HB2 := hide ((un HB1).trans (hb2.mono (un HB1).size)); clear hb2 t0 t1 t2; obtain ⟨⟨t0, t1, t2⟩, r0, r1, rf0, rf1⟩ := un HC w2 (un HB2))))
  have HS5 := hide ((un HS).later (un HB2))
  have hS := (un HS5).r.store (.string ⟨#[]⟩) (.string ⟨#[]⟩)
  have hb : Below w.heap.size w (store2 w2 (w.heap.size + 1) (.string ⟨#[]⟩) (.string ⟨#[]⟩)) := below_store2 (un HS5).below (by omega) _ _
  have u0 := hS.c0; have u1 := hS.c1
  exact bodyPost_ret (v := .tuple #[.agg #[.string ⟨#[]⟩, .string ⟨#[]⟩], I 7]) (w := store2 w2 (w.heap.size + 1) (.string ⟨#[]⟩) (.string ⟨#[]⟩)) (by simp [results, Tryz.results67, go_sem, u0, u1]) rfl ⟨rfl, hb⟩
 ·clear hl'
  go_wp2_with (go_at_call_of 97 (Value.agg #[Value.slice a1 l1 c1]); go_must (refine (un HLN _ (Below.refl _ _)).mono ?_; rintro e w2 ⟨rfl, hb1⟩; have HB2 := hide hb1; clear hb1 t0 t1 t2; obtain ⟨⟨t0, t1, t2⟩, r0, r1, rf0, rf1⟩ := un HC w2 (un HB2)))
  have HS5 := hide ((un HS).later (un HB2))
  have hS := (un HS5).r.store (.string ⟨#[]⟩) (.string ⟨#[]⟩)
  have hb : Below w.heap.size w (store2 w2 (w.heap.size + 1) (.string ⟨#[]⟩) (.string ⟨#[]⟩)) := below_store2 (un HS5).below (by omega) _ _
  have u0 := hS.c0; have u1 := hS.c1
  exact bodyPost_ret (v := .tuple #[.agg #[.string ⟨#[]⟩, .string ⟨#[]⟩], I 7]) (w := store2 w2 (w.heap.size + 1) (.string ⟨#[]⟩) (.string ⟨#[]⟩)) (by simp [results, Tryz.results67, go_sem, u0, u1]) rfl ⟨rfl, hb⟩
/-- Frac.Tell, by the number's value. -/
theorem qtell (v : Value) (x : Rat) (k : Nat) (w : World) (h : QOf w v x k) (hk : k ≤ 1000000) (htab : Tab w) :
  Calls Tryz.prog 67 #[v] w fun r w' => r = .returned (.tuple #[.agg #[.string (numT x), .string (denT x)], I (errT x)]) ∧ Below w.heap.size w w' := by
 obtain ⟨b, n, d, h1, h2, rfl, h4, h5⟩ := h
 obtain ⟨e1, e2, e3⟩ := Cub.low_is h2
 by_cases hs : Small (Cub.valQ b n d)
 ·have hn : n < 10 ^ 600 := by rw [e2]; exact hs.1
  have hd : d < 10 ^ 600 := by rw [e3]; exact hs.2
  have := tell_ok v b n d k w h1 hk h4 h5 hn hd htab
  unfold numT denT errT
  rw [if_pos hs, if_pos hs, if_pos hs, ← e1, ← e2, ← e3]
  exact this
 ·have := tell_large v b n d k w h1 hk h4 h5 (fun h => hs ⟨by rw [← e2]; exact h.1, by rw [← e3]; exact h.2⟩)
  unfold numT denT errT
  rw [if_neg hs, if_neg hs, if_neg hs]
  exact this
end Go.Proofs.YthcbhnggphdflaaGreatDoor

namespace Go.Proofs.YthcbhnggphdflaaGreatDoor
open Go.RowKit
/-- Two texts are those of a number. -/
def IsR (num den : ByteArray) (x : Rat) : Prop := Small x ∧ num = numT x ∧ den = denT x
theorem IsR.rt {num den : ByteArray} {x : Rat} (h : IsR num den x) : RT num den (decide (x < 0)) x.num.natAbs x.den := by
 obtain ⟨hs, rfl, rfl⟩ := h
 unfold numT denT
 rw [if_pos hs, if_pos hs]
 exact ⟨rfl, rfl, hs.1, hs.2, (Cub.low_of x).1⟩
theorem IsR.size {num den : ByteArray} {x : Rat} (h : IsR num den x) : num.size ≤ 601 ∧ den.size ≤ 600 := by
 have r := h.rt
 rw [r.num, r.den]
 exact ⟨sT_size _ _ r.hn, (tb_digs _ r.hd).2⟩
theorem qread (num den : ByteArray) (x : Rat) (w : World) (h : IsR num den x) :
  Calls Tryz.prog 93 #[.agg #[.string num, .string den]] w fun r w' => ∃ v, r = .returned (.tuple #[v, .bool true]) ∧ QOf w' v x 67 ∧ Below w.heap.size w w' := by
 have r := h.rt
 have := read_ok num den _ _ _ w r.num r.den r.hn r.hd r.low.sign (by have := r.low.pos; omega) r.low.cop
 rwa [(Cub.low_of x).2] at this
/-- Two numbers in their boxes, two boxes of Fracs. -/
structure W2 (w W : World) (x y z t p0 p1 p2 q0 q1 q2 : Value) : Prop where
 a : T2 W w.heap.size x y
 b : T2 W (w.heap.size + 1) z t
 p : FBox W (w.heap.size + 1 + 1) p0 p1 p2
 q : FBox W (w.heap.size + 1 + 1 + 1) q0 q1 q2
 below : Below w.heap.size w W
theorem W2.later {w W V : World} {x y z t p0 p1 p2 q0 q1 q2 : Value} (s : W2 w W x y z t p0 p1 p2 q0 q1 q2) (hb : Below W.heap.size W V) : W2 w V x y z t p0 p1 p2 q0 q1 q2 :=
 ⟨s.a.later hb, s.b.later hb, s.p.later hb, s.q.later hb, s.below.trans (hb.mono s.below.size)⟩
theorem W2.first (w : World) (x y z t : Value) : W2 w ((((w.alloc (.cells #[x, y] 28)).alloc (.cells #[z, t] 28)).alloc (.cells #[.bool false, .slice none 0 0, .slice none 0 0] 118)).alloc (.cells #[.bool false, .slice none 0 0, .slice none 0 0] 118)) x y z t (.bool false) (.slice none 0 0) (.slice none 0 0) (.bool false) (.slice none 0 0) (.slice none 0 0) :=
 ⟨⟨by simp [go_sem], by simp [go_sem], by simp [go_sem], by simp [go_sem]⟩, ⟨by simp [go_sem], by simp [go_sem], by simp [go_sem], by simp [go_sem]⟩, ⟨by simp [go_sem], by simp [go_sem], by simp [go_sem], by simp [go_sem], by simp [go_sem], by simp [go_sem]⟩, ⟨by simp [go_sem], by simp [go_sem], by simp [go_sem], by simp [go_sem], by simp [go_sem], by simp [go_sem]⟩,
  ((((Below.refl _ _).alloc (Nat.le_refl _) _).alloc (by simp) _).alloc (by simp; omega) _).alloc (by simp; omega) _⟩
theorem FBox.other3 {W : World} {g k : Nat} {x y z : Value} (h : FBox W g x y z) (hk : g ≠ k) (u v s : Value) : FBox (store3 W k u v s) g x y z := ((h.otherAt hk u).otherAt hk v).otherAt hk s
theorem T2.other3 {W : World} {g k : Nat} {x y : Value} (h : T2 W g x y) (hk : g ≠ k) (u v s : Value) : T2 (store3 W k u v s) g x y := ((h.otherAt hk u).otherAt hk v).otherAt hk s
theorem W2.setP {w W : World} {x y z t p0 p1 p2 q0 q1 q2 : Value} (s : W2 w W x y z t p0 p1 p2 q0 q1 q2) (u v r : Value) : W2 w (store3 W (w.heap.size + 1 + 1) u v r) x y z t u v r q0 q1 q2 :=
 ⟨s.a.other3 (by omega) _ _ _, s.b.other3 (by omega) _ _ _, s.p.store _ _ _, s.q.other3 (by omega) _ _ _, below_store3 s.below (by omega) _ _ _⟩
theorem W2.setQ {w W : World} {x y z t p0 p1 p2 q0 q1 q2 : Value} (s : W2 w W x y z t p0 p1 p2 q0 q1 q2) (u v r : Value) : W2 w (store3 W (w.heap.size + 1 + 1 + 1) u v r) x y z t p0 p1 p2 u v r :=
 ⟨s.a.other3 (by omega) _ _ _, s.b.other3 (by omega) _ _ _, s.p.other3 (by omega) _ _ _, s.q.store _ _ _, below_store3 s.below (by omega) _ _ _⟩
theorem QOf.over {W : World} {g : Nat} {b : Bool} {a1 a2 : Option Addr} {l1 c1 l2 c2 : Nat} (h : FBox W g (.bool b) (.slice a1 l1 c1) (.slice a2 l2 c2)) (u v r : Value) {vv : Value} {x : Rat} {k : Nat}
  (hv : QOf W vv x k) : QOf (store3 W g u v r) vv x k := by
 obtain ⟨b0, n, d, ⟨s, t, e, h1, h1'⟩, h2⟩ := hv
 exact ⟨b0, n, d, ⟨s, t, e, h.big _ _ _ h1, h.big _ _ _ h1'⟩, h2⟩
set_option maxRecDepth 100000 in
set_option maxHeartbeats 2000000 in
theorem readTwo_ok (n1 d1 n2 d2 : ByteArray) (x y : Rat) (w : World) (h1 : IsR n1 d1 x) (h2 : IsR n2 d2 y) :
  Calls Tryz.prog 64 #[.agg #[.string n1, .string d1], .agg #[.string n2, .string d2]] w fun r w' => ∃ v u, r = .returned (.tuple #[v, u, I 0]) ∧ QOf w' v x 67 ∧ QOf w' u y 67 ∧ Below w.heap.size w w' := by
 obtain ⟨V, hV⟩ : ∃ V, V = ((((w.alloc (.cells #[.string n1, .string d1] 28)).alloc (.cells #[.string n2, .string d2] 28)).alloc (.cells #[.bool false, .slice none 0 0, .slice none 0 0] 118)).alloc (.cells #[.bool false, .slice none 0 0, .slice none 0 0] 118)) := ⟨_, rfl⟩
 have HS : Hid (W2 w V (.string n1) (.string d1) (.string n2) (.string d2) (.bool false) (.slice none 0 0) (.slice none 0 0) (.bool false) (.slice none 0 0) (.slice none 0 0)) := by rw [hV]; exact W2.first _ _ _ _ _
 have HV := hide hV
 have HR1 := hide (fun W => qread n1 d1 x W h1)
 have HR2 := hide (fun W => qread n2 d2 y W h2)
 clear h1 h2
 go_enter Tryz.func64, Tryz.ntmps64
 go_upto_region 1 with fail
 rw [← un HV]
 clear hV HV
 have t0 := (un HS).a.c0; have t1 := (un HS).a.c1
 go_upto_region 2 with (go_at_call 93; go_must (refine (un HR1 _).mono ?_; rintro e w1 ⟨v1, rfl, hv1, hb1⟩; obtain ⟨b1, i1, i2, i3, i4, i5, i6, rfl⟩ := hv1.form; have HS1 := hide ((un HS).later hb1); have HV1 := hide hv1; clear hv1 hb1 t0 t1; have r0 := (un HS1).p.c0; have r1 := (un HS1).p.c1; have r2 := (un HS1).p.c2; have rf0 := (un HS1).p.f0; have rf1 := (un HS1).p.f1; have rf2 := (un HS1).p.f2))
 obtain ⟨V2, hV2⟩ : ∃ V2, V2 = store3 w1 (w.heap.size + 1 + 1) (.bool b1) (.slice i1 i2 i3) (.slice i4 i5 i6) := ⟨_, rfl⟩
 have hV2' : V2 = ((w1.setCell ⟨w.heap.size + 1 + 1, 0, none⟩ (.bool b1)).setCell ⟨w.heap.size + 1 + 1, 1, none⟩ (.slice i1 i2 i3)).setCell ⟨w.heap.size + 1 + 1, 2, none⟩ (.slice i4 i5 i6) := hV2
 have HS2 := hide ((un HS1).setP (.bool b1) (.slice i1 i2 i3) (.slice i4 i5 i6))
 have HV2 := hide ((un HV1).stored (un HS1).p)
 rw [← hV2] at HS2 HV2
 rw [← hV2']
 clear hV2 hV2' HS HS1 HV1 r0 r1 r2 rf0 rf1 rf2
 have t0 := (un HS2).b.c0; have t1 := (un HS2).b.c1
 go_upto_region 3 with (go_at_call 93; go_must (refine (un HR2 _).mono ?_; rintro e w3 ⟨v3, rfl, hv3, hb3⟩; obtain ⟨b3, j1, j2, j3, j4, j5, j6, rfl⟩ := hv3.form; have HS3 := hide ((un HS2).later hb3); have HV3 := hide hv3; have HU3 := hide ((un HV2).later hb3); clear hv3 hb3 t0 t1; have r0 := (un HS3).q.c0; have r1 := (un HS3).q.c1; have r2 := (un HS3).q.c2; have rf0 := (un HS3).q.f0; have rf1 := (un HS3).q.f1; have rf2 := (un HS3).q.f2))
 obtain ⟨V4, hV4⟩ : ∃ V4, V4 = store3 w3 (w.heap.size + 1 + 1 + 1) (.bool b3) (.slice j1 j2 j3) (.slice j4 j5 j6) := ⟨_, rfl⟩
 have hV4' : V4 = ((w3.setCell ⟨w.heap.size + 1 + 1 + 1, 0, none⟩ (.bool b3)).setCell ⟨w.heap.size + 1 + 1 + 1, 1, none⟩ (.slice j1 j2 j3)).setCell ⟨w.heap.size + 1 + 1 + 1, 2, none⟩ (.slice j4 j5 j6) := hV4
 have HS4 := hide ((un HS3).setQ (.bool b3) (.slice j1 j2 j3) (.slice j4 j5 j6))
 have HV4 := hide ((un HV3).stored (un HS3).q)
 have HU4 := hide (QOf.over (un HS3).q (.bool b3) (.slice j1 j2 j3) (.slice j4 j5 j6) (un HU3))
 rw [← hV4] at HS4 HV4 HU4
 rw [← hV4']
 clear hV4 hV4' HS2 HV2 HS3 HV3 HU3 r0 r1 r2 rf0 rf1 rf2
 go_upto_region 5 with fail
 have r0 := (un HS4).p.c0; have r1 := (un HS4).p.c1; have r2 := (un HS4).p.c2; have rf0 := (un HS4).p.f0; have rf1 := (un HS4).p.f1; have rf2 := (un HS4).p.f2
 have s0 := (un HS4).q.c0; have s1 := (un HS4).q.c1; have s2 := (un HS4).q.c2; have sf0 := (un HS4).q.f0; have sf1 := (un HS4).q.f1; have sf2 := (un HS4).q.f2
 go_region
 obtain ⟨V5, hV5⟩ : ∃ V5, V5 = (store3 (store3 V4 (w.heap.size + 1 + 1) (.bool b1) (.slice i1 i2 i3) (.slice i4 i5 i6)) (w.heap.size + 1 + 1 + 1) (.bool b3) (.slice j1 j2 j3) (.slice j4 j5 j6)).drew := ⟨_, rfl⟩
 have hV5' : V5 = ((((((V4.setCell ⟨w.heap.size + 1 + 1, 0, none⟩ (.bool b1)).setCell ⟨w.heap.size + 1 + 1, 1, none⟩ (.slice i1 i2 i3)).setCell ⟨w.heap.size + 1 + 1, 2, none⟩ (.slice i4 i5 i6)).setCell ⟨w.heap.size + 1 + 1 + 1, 0, none⟩ (.bool b3)).setCell ⟨w.heap.size + 1 + 1 + 1, 1, none⟩ (.slice j1 j2 j3)).setCell ⟨w.heap.size + 1 + 1 + 1, 2, none⟩ (.slice j4 j5 j6)).drew := hV5
 have hm := (un HS4).setP (.bool b1) (.slice i1 i2 i3) (.slice i4 i5 i6)
 have HS5 := hide ((hm.setQ (.bool b3) (.slice j1 j2 j3) (.slice j4 j5 j6)).later ((Below.refl _ _).drew))
 have HV5 := hide ((QOf.over hm.q (.bool b3) (.slice j1 j2 j3) (.slice j4 j5 j6) (QOf.over (un HS4).p (.bool b1) (.slice i1 i2 i3) (.slice i4 i5 i6) (un HV4))).later ((Below.refl _ _).drew))
 have HU5 := hide ((QOf.over hm.q (.bool b3) (.slice j1 j2 j3) (.slice j4 j5 j6) (QOf.over (un HS4).p (.bool b1) (.slice i1 i2 i3) (.slice i4 i5 i6) (un HU4))).later ((Below.refl _ _).drew))
 rw [← hV5] at HS5 HV5 HU5
 rw [← hV5']
 clear hV5 hV5' hm HS4 HV4 HU4 r0 r1 r2 rf0 rf1 rf2 s0 s1 s2 sf0 sf1 sf2
 have r0 := (un HS5).p.c0; have r1 := (un HS5).p.c1; have r2 := (un HS5).p.c2; have s0 := (un HS5).q.c0; have s1 := (un HS5).q.c1; have s2 := (un HS5).q.c2
 go_wp2_with fail
 exact bodyPost_ret (v := .tuple #[.agg #[.bool b1, .slice i1 i2 i3, .slice i4 i5 i6], .agg #[.bool b3, .slice j1 j2 j3, .slice j4 j5 j6], I 0]) (by simp [results, Tryz.results64, go_sem, r0, r1, r2, s0, s1, s2]) rfl ⟨_, _, rfl, un HU5, un HV5, (un HS5).below⟩
end Go.Proofs.YthcbhnggphdflaaGreatDoor

namespace Go.Proofs.YthcbhnggphdflaaGreatDoor
open Go.RowKit
/-- Two numbers in their boxes, a number's box, and two Fracs' boxes behind them (or none yet). -/
structure O3 (w W : World) (x y z t : Value) : Prop where
 a : T2 W w.heap.size x y
 b : T2 W (w.heap.size + 1) z t
 r : T2 W (w.heap.size + 1 + 1) (.string ⟨#[]⟩) (.string ⟨#[]⟩)
 below : Below w.heap.size w W
theorem O3.later {w W V : World} {x y z t : Value} (s : O3 w W x y z t) (hb : Below W.heap.size W V) : O3 w V x y z t :=
 ⟨s.a.later hb, s.b.later hb, s.r.later hb, s.below.trans (hb.mono s.below.size)⟩
theorem O3.first (w : World) (x y z t : Value) : O3 w (((w.alloc (.cells #[x, y] 28)).alloc (.cells #[z, t] 28)).alloc (.cells #[.string ⟨#[]⟩, .string ⟨#[]⟩] 28)) x y z t :=
 ⟨⟨by simp [go_sem], by simp [go_sem], by simp [go_sem], by simp [go_sem]⟩, ⟨by simp [go_sem], by simp [go_sem], by simp [go_sem], by simp [go_sem]⟩, ⟨by simp [go_sem], by simp [go_sem], by simp [go_sem], by simp [go_sem]⟩,
  (((Below.refl _ _).alloc (Nat.le_refl _) _).alloc (by simp) _).alloc (by simp; omega) _⟩
/-- What a call on two numbers answers. -/
def Ans (f : Nat) (args : Array Value) (w : World) (s t : ByteArray) (e : Int) : Prop :=
 Calls Tryz.prog f args w fun r w' => r = .returned (.tuple #[.agg #[.string s, .string t], I e]) ∧ Below w.heap.size w w'
end Go.Proofs.YthcbhnggphdflaaGreatDoor

namespace Go.Proofs.YthcbhnggphdflaaGreatDoor
open Go.RowKit
set_option maxRecDepth 100000 in
set_option maxHeartbeats 2000000 in
theorem qquo (x y : Value) (p q : Rat) (k : Nat) (w : World) (hx : QOf w x p k) (hy : QOf w y q k) (hk : k + k ≤ 100000) (hq : q ≠ 0) :
  Calls Tryz.prog 66 #[x, y] w fun r w' => ∃ v, r = .returned v ∧ QOf w' v (p * q⁻¹) (k + k) ∧ Below w.heap.size w w' := by
 obtain ⟨b, a1, l1, c1, a2, l2, c2, rfl⟩ := hx.form
 obtain ⟨c, a3, l3, c3, a4, l4, c4, rfl⟩ := hy.form
 obtain ⟨V, hV⟩ : ∃ V, V = (((w.alloc (.cells #[.bool b, .slice a1 l1 c1, .slice a2 l2 c2] 118)).alloc (.cells #[.bool c, .slice a3 l3 c3, .slice a4 l4 c4] 118)).alloc (.cells #[.bool false, .slice none 0 0, .slice none 0 0] 118)) := ⟨_, rfl⟩
 have HS : Hid (AS w V (.bool b) (.slice a1 l1 c1) (.slice a2 l2 c2) (.bool c) (.slice a3 l3 c3) (.slice a4 l4 c4) []) := by rw [hV]; exact AS.first _ _ _ _ _ _ _
 have HX := hide (hx.later (un HS).below)
 have HY := hide (hy.later (un HS).below)
 have HV := hide hV
 have HK := hide hk
 have HC : Hid (∀ w', Below V.heap.size V w' → (w'.cell? ⟨w.heap.size, 0, none⟩ = some (.bool b) ∧ w'.cell? ⟨w.heap.size, 1, none⟩ = some (.slice a1 l1 c1) ∧ w'.cell? ⟨w.heap.size, 2, none⟩ = some (.slice a2 l2 c2) ∧ w'.cell? ⟨w.heap.size + 1, 0, none⟩ = some (.bool c) ∧ w'.cell? ⟨w.heap.size + 1, 1, none⟩ = some (.slice a3 l3 c3) ∧ w'.cell? ⟨w.heap.size + 1, 2, none⟩ = some (.slice a4 l4 c4)) ∧ (w'.cell? ⟨w.heap.size + 1 + 1, 0, none⟩ = some (.bool false) ∧ w'.cell? ⟨w.heap.size + 1 + 1, 1, none⟩ = some (.slice none 0 0) ∧ w'.cell? ⟨w.heap.size + 1 + 1, 2, none⟩ = some (.slice none 0 0) ∧ w'.frozen? ⟨w.heap.size + 1 + 1, 0, none⟩ = false ∧ w'.frozen? ⟨w.heap.size + 1 + 1, 1, none⟩ = false ∧ w'.frozen? ⟨w.heap.size + 1 + 1, 2, none⟩ = false) ∧ w.heap.size < w'.heap.size ∧ w.heap.size + 1 < w'.heap.size ∧ w.heap.size + 1 + 1 < w'.heap.size) := fun U hb => by
  have s := (un HS).later hb
  exact ⟨⟨s.x.c0, s.x.c1, s.x.c2, s.y.c0, s.y.c1, s.y.c2⟩, ⟨s.r.c0, s.r.c1, s.r.c2, s.r.f0, s.r.f1, s.r.f2⟩, s.x.lt, s.y.lt, s.r.lt⟩
 have HQ0 := hide hq
 have HT : Hid (∀ W v1 (j1 j2 j3 : Nat) (o1 : Option Addr) (o2 : Option Addr) (j4 : Nat) (bq : Bool), Below V.heap.size V W → v1 = .agg #[.bool bq, .slice o1 j1 j2, .slice o2 j3 j4] → QOf W v1 q⁻¹ k → Calls Tryz.prog 95 #[.slice (some ⟨W.heap.size, 0, none⟩) 2 2] (W.alloc (.cells #[.bool b, .slice a1 l1 c1, .slice a2 l2 c2, .bool bq, .slice o1 j1 j2, .slice o2 j3 j4] 118)) fun r w' => ∃ v, r = .returned v ∧ QOf w' v (p * q⁻¹) (k + k) ∧ Below W.heap.size W w') := by
  intro W v1 j1 j2 j3 o1 o2 j4 bq hbW hv1 hq1
  subst hv1
  have hb : Below W.heap.size W (W.alloc (.cells #[.bool b, .slice a1 l1 c1, .slice a2 l2 c2, .bool bq, .slice o1 j1 j2, .slice o2 j3 j4] 118)) := (Below.refl _ _).alloc (Nat.le_refl _) _
  refine (qtimes W.heap.size b bq a1 a2 o1 o2 l1 c1 l2 c2 j1 j2 j3 j4 p q⁻¹ k _ (by simp [go_sem]) (by simp [go_sem]) (by simp [go_sem]) (by simp [go_sem]) (by simp [go_sem]) (by simp [go_sem]) (((un HX).later hbW).later hb) (hq1.later hb) hk).mono ?_
  rintro r w' ⟨v, rfl, hv, hb'⟩
  exact ⟨v, rfl, hv, hb.trans (hb'.mono hb.size)⟩
 clear hx hy hk hV hq
 go_enter Tryz.func66, Tryz.ntmps66
 go_upto_region 1 with fail
 rw [← un HV]
 clear HV
 obtain ⟨⟨t0, t1, t2, t3, t4, t5⟩, _⟩ := un HC V (Below.refl _ _)
 go_region_held3 (fun w' => w'.cell? ⟨w.heap.size, 0, none⟩ = some (.bool b) ∧ w'.cell? ⟨w.heap.size, 1, none⟩ = some (.slice a1 l1 c1) ∧ w'.cell? ⟨w.heap.size, 2, none⟩ = some (.slice a2 l2 c2) ∧ w'.cell? ⟨w.heap.size + 1, 0, none⟩ = some (.bool c) ∧ w'.cell? ⟨w.heap.size + 1, 1, none⟩ = some (.slice a3 l3 c3) ∧ w'.cell? ⟨w.heap.size + 1, 2, none⟩ = some (.slice a4 l4 c4)) (first | assumption | (refine ⟨?_, ?_, ?_, ?_, ?_, ?_⟩ <;> first | assumption | (simp [go_sem, *]; done) | (rw [World.cell?_setCell_other _ _ _ _ (by simp), World.cell?_setCell_other _ _ _ _ (by simp), World.cell?_setCell_other _ _ _ _ (by simp)]; assumption)) | (simp [go_sem, *]; done)) ((first
  | (go_at_call 96; go_must (refine (qinv _ q k _ ((un HY).later ((Below.refl _ _).drew)) (un HQ0)).mono ?_; rintro e wa ⟨va, rfl, hva, hba⟩; obtain ⟨bq, o1, j1, j2, o2, j3, j4, rfl⟩ := hva.form; have HVA := hide hva; have HCA := hide (((Below.refl V.heap.size V).drew).trans hba); clear hva hba t0 t1 t2 t3 t4 t5; obtain ⟨⟨t0, t1, t2, t3, t4, t5⟩, _, z1, z2, z3⟩ := un HC wa (un HCA)))
  | (go_at_call 95; go_must (refine (un HT wa _ _ _ _ _ _ _ _ (un HCA) rfl (un HVA)).mono ?_; rintro e wb ⟨vb, rfl, hvb, hbb⟩; obtain ⟨b1, i1, i2, i3, i4, i5, i6, rfl⟩ := hvb.form; have HVB := hide hvb; have HCB := hide ((un HCA).trans (hbb.mono (un HCA).size)); clear hvb hbb t0 t1 t2 t3 t4 t5 z1 z2 z3; obtain ⟨⟨t0, t1, t2, t3, t4, t5⟩, ⟨r0, r1, r2, rf0, rf1, rf2⟩, _⟩ := un HC wb (un HCB)))))
 have HS1 := hide ((un HS).later (un HCB))
 clear r0 r1 r2 rf0 rf1 rf2 t0 t1 t2 t3 t4 t5
 have hS := (un HS1).r.store (.bool b1) (.slice i1 i2 i3) (.slice i4 i5 i6)
 have hb : Below w.heap.size w (store3 wb (w.heap.size + 1 + 1) (.bool b1) (.slice i1 i2 i3) (.slice i4 i5 i6)) := below_store3 (un HS1).below (by omega) _ _ _
 obtain ⟨V9, hV9⟩ : ∃ V9, V9 = store3 wb (w.heap.size + 1 + 1) (.bool b1) (.slice i1 i2 i3) (.slice i4 i5 i6) := ⟨_, rfl⟩
 have hV9' : V9 = ((wb.setCell ⟨w.heap.size + 1 + 1, 0, none⟩ (.bool b1)).setCell ⟨w.heap.size + 1 + 1, 1, none⟩ (.slice i1 i2 i3)).setCell ⟨w.heap.size + 1 + 1, 2, none⟩ (.slice i4 i5 i6) := hV9
 have HQ9 := hide ((un HVB).stored (un HS1).r)
 have u0 := hS.c0; have u1 := hS.c1; have u2 := hS.c2
 rw [← hV9] at u0 u1 u2 HQ9 hb
 rw [← hV9']
 have HB9 := hide hb
 clear hV9 hV9' hS hb
 go_wp2_with fail
 exact bodyPost_ret (v := .agg #[.bool b1, .slice i1 i2 i3, .slice i4 i5 i6]) (by simp [results, Tryz.results66, go_sem, u0, u1, u2]) rfl ⟨_, rfl, un HQ9, un HB9⟩
end Go.Proofs.YthcbhnggphdflaaGreatDoor

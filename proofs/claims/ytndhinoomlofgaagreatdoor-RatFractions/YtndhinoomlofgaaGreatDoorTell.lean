/- Frac.Tell. -/
import Derived.Test.YtndhinoomlofgaaGreatDoorRead
namespace Go.Proofs.YtndhinoomlofgaaGreatDoor
open Go.RowKit

/-- What is told of a number: its two texts, or ErrLarge (7). -/
def Small (x : Rat) : Prop := x.num.natAbs < 10 ^ 600 ∧ x.den < 10 ^ 600
noncomputable def numT (x : Rat) : ByteArray := open Classical in if Small x then sT (decide (x < 0)) x.num.natAbs else ⟨#[]⟩
noncomputable def denT (x : Rat) : ByteArray := open Classical in if Small x then tb x.den else ⟨#[]⟩
noncomputable def errT (x : Rat) : Int := open Classical in if Small x then 0 else 7
/-- The argument and the box of the number. -/
structure TS (w W : World) (x y z : Value) : Prop where
  a : FBox W w.heap.size x y z
  r : T2 W (w.heap.size + 1) (.string ⟨#[]⟩) (.string ⟨#[]⟩)
  below : Below w.heap.size w W
theorem TS.later {w W V : World} {x y z : Value} (s : TS w W x y z) (hb : Below W.heap.size W V) : TS w V x y z := ⟨s.a.later hb, s.r.later hb, s.below.trans (hb.mono s.below.size)⟩
theorem TS.first (w : World) (x y z : Value) : TS w ((w.alloc (.cells #[x, y, z] 74)).alloc (.cells #[.string ⟨#[]⟩, .string ⟨#[]⟩] 23)) x y z :=
  ⟨⟨by simp [go_sem], by simp [go_sem], by simp [go_sem], by simp [go_sem], by simp [go_sem], by simp [go_sem]⟩, ⟨by simp [go_sem], by simp [go_sem], by simp [go_sem], by simp [go_sem]⟩, ((Below.refl _ _).alloc (Nat.le_refl _) _).alloc (by simp) _⟩
def store2 (W : World) (g : Nat) (x y : Value) : World := (W.setCell ⟨g, 0, none⟩ x).setCell ⟨g, 1, none⟩ y
theorem T2.store {W : World} {g : Nat} {x y : Value} (h : T2 W g x y) (x' y' : Value) : T2 (store2 W g x' y') g x' y' := by
  have a1 : (W.setCell ⟨g, 0, none⟩ x').cell? ⟨g, 1, none⟩ = some y := by rw [World.cell?_setCell_other _ _ _ _ (by simp)]; exact h.c1
  unfold store2
  refine ⟨?_, World.cell?_setCell_same _ _ _ a1, ?_, ?_⟩
  · rw [World.cell?_setCell_other _ _ _ _ (by simp)]; exact World.cell?_setCell_same _ _ _ h.c0
  · rw [World.frozen?_setCell, World.frozen?_setCell]; exact h.f0
  · rw [World.frozen?_setCell, World.frozen?_setCell]; exact h.f1
theorem below_store2 {B g : Nat} {w W : World} (h : Below B w W) (hg : B ≤ g) (x y : Value) : Below B w (store2 W g x y) :=
  (h.setCell (p := ⟨g, 0, none⟩) hg x).setCell (p := ⟨g, 1, none⟩) hg y

set_option maxRecDepth 100000 in
set_option maxHeartbeats 2000000 in
theorem tell_ok (v : Value) (b : Bool) (n d k : Nat) (w : World) (h : IsFrac w v b n d) (hk : k ≤ 1000000) (hnk : n < 1000000000 ^ k) (hdk : d < 1000000000 ^ k) (hn : n < 10 ^ 600) (hd : d < 10 ^ 600) (htab : Tab w) :
    Calls Tryz.prog 74 #[v] w fun r w' => r = .returned (.tuple #[.agg #[.string (sT b n), .string (tb d)], .int .i64 0]) ∧ Below w.heap.size w w' := by
  obtain ⟨a1, l1, c1, a2, l2, c2, rfl, h1, h2⟩ := h.form
  obtain ⟨V, hV⟩ : ∃ V, V = (w.alloc (.cells #[.bool b, .slice a1 l1 c1, .slice a2 l2 c2] 74)).alloc (.cells #[.string ⟨#[]⟩, .string ⟨#[]⟩] 23) := ⟨_, rfl⟩
  have HS : Hid (TS w V (.bool b) (.slice a1 l1 c1) (.slice a2 l2 c2)) := by rw [hV]; exact TS.first _ _ _ _
  have HV := hide hV
  have HLN : Hid (∀ W, Below V.heap.size V W → Calls Tryz.prog 89 #[.agg #[.slice a1 l1 c1]] W fun e w' => e = .returned (.int .i64 (Lib.nDigits n : Nat)) ∧ Below W.heap.size W w') := fun W hb => len_any _ n k W ((h1.later (unhide HS).below).later hb) hk hnk
  have HLD : Hid (∀ W, Below V.heap.size V W → Calls Tryz.prog 89 #[.agg #[.slice a2 l2 c2]] W fun e w' => e = .returned (.int .i64 (Lib.nDigits d : Nat)) ∧ Below W.heap.size W w') := fun W hb => len_any _ d k W ((h2.later (unhide HS).below).later hb) hk hdk
  have HTN : Hid (∀ W, Below V.heap.size V W → Calls Tryz.prog 92 #[.agg #[.slice a1 l1 c1]] W fun e w' => e = .returned (.string (tb n)) ∧ Below W.heap.size W w') := fun W hb => by
    have := text_any _ n k W ((h1.later (unhide HS).below).later hb) hk hnk ((htab.later (unhide HS).below).later hb)
    rwa [show (⟨(Lib.decDigits n).toArray⟩ : ByteArray) = tb n from bytes_ext (by rw [tb_list n hn])] at this
  have HTD : Hid (∀ W, Below V.heap.size V W → Calls Tryz.prog 92 #[.agg #[.slice a2 l2 c2]] W fun e w' => e = .returned (.string (tb d)) ∧ Below W.heap.size W w') := fun W hb => by
    have := text_any _ d k W ((h2.later (unhide HS).below).later hb) hk hdk ((htab.later (unhide HS).below).later hb)
    rwa [show (⟨(Lib.decDigits d).toArray⟩ : ByteArray) = tb d from bytes_ext (by rw [tb_list d hd])] at this
  have HSG : Hid (∀ W, Calls Tryz.prog 80 #[.bool b, .string (tb n)] W fun e w' => e = .returned (.string (sT b n)) ∧ w' = W) := fun W => signed_any b (tb n) W (by have := (tb_digs n hn).2; omega)
  have n1 : (Lib.nDigits n : Nat) ≤ 600 := (len600 n).2 hn
  have n2 : (Lib.nDigits d : Nat) ≤ 600 := (len600 d).2 hd
  clear h h1 h2 hk hnk hdk hn hd htab
  generalize (Lib.nDigits n : Nat) = L1 at *
  generalize (Lib.nDigits d : Nat) = L2 at *
  generalize sT b n = sn at *
  generalize tb n = tn at *
  generalize tb d = td at *
  have HC : Hid (∀ w', Below V.heap.size V w' → (w'.cell? ⟨w.heap.size, 0, none⟩ = some (.bool b) ∧ w'.cell? ⟨w.heap.size, 1, none⟩ = some (.slice a1 l1 c1) ∧ w'.cell? ⟨w.heap.size, 2, none⟩ = some (.slice a2 l2 c2)) ∧ w'.cell? ⟨w.heap.size + 1, 0, none⟩ = some (.string ⟨#[]⟩) ∧ w'.cell? ⟨w.heap.size + 1, 1, none⟩ = some (.string ⟨#[]⟩) ∧ w'.frozen? ⟨w.heap.size + 1, 0, none⟩ = false ∧ w'.frozen? ⟨w.heap.size + 1, 1, none⟩ = false) := fun U hb => by
    have s := (unhide HS).later hb
    exact ⟨⟨s.a.c0, s.a.c1, s.a.c2⟩, s.r.c0, s.r.c1, s.r.f0, s.r.f1⟩
  go_enter Tryz.func74, Tryz.ntmps74
  go_upto_region 1 with fail
  rw [← unhide HV]
  clear hV HV
  obtain ⟨⟨t0, t1, t2⟩, _⟩ := unhide HC V (Below.refl _ _)
  go_upto_region 3 with (first
    | (go_at_call_of 89 (Value.agg #[Value.slice a1 l1 c1]); go_must (refine (unhide HLN _ (Below.refl _ _)).mono ?_; rintro e w1 ⟨rfl, hb1⟩; have HB1 := hide hb1; clear hb1 t0 t1 t2; obtain ⟨⟨t0, t1, t2⟩, _⟩ := unhide HC w1 (unhide HB1)))
    | (go_at_call_of 89 (Value.agg #[Value.slice a2 l2 c2]); go_must (refine (unhide HLD _ (unhide HB1)).mono ?_; rintro e w2 ⟨rfl, hb2⟩; have HB2 := hide ((unhide HB1).trans (hb2.mono (unhide HB1).size)); clear hb2 t0 t1 t2; obtain ⟨⟨t0, t1, t2⟩, _⟩ := unhide HC w2 (unhide HB2))))
  have HBT : Hid (∀ U, Below w2.heap.size w2 U → Below V.heap.size V U) := fun U hb => (unhide HB2).trans (hb.mono (unhide HB2).size)
  go_region_held3 (fun w' => w'.cell? ⟨w.heap.size, 0, none⟩ = some (.bool b) ∧ w'.cell? ⟨w.heap.size, 1, none⟩ = some (.slice a1 l1 c1) ∧ w'.cell? ⟨w.heap.size, 2, none⟩ = some (.slice a2 l2 c2)) (first | assumption | (refine ⟨?_, ?_, ?_⟩ <;> first | assumption | (simp [go_sem, *]; done)) | (simp [go_sem, *]; done)) ((first
    | (go_at_call_of 92 (Value.agg #[Value.slice a1 l1 c1]); go_must (refine (unhide HTN _ (unhide HBT _ ((Below.refl _ _).drew))).mono ?_; rintro e w3 ⟨rfl, hb3⟩; have HB3 := hide (((Below.refl w2.heap.size w2).drew).trans hb3); clear hb3 t0 t1 t2; obtain ⟨⟨t0, t1, t2⟩, _⟩ := unhide HC w3 (unhide HBT _ (unhide HB3))))
    | (go_at_call 80; go_must (refine (unhide HSG _).mono ?_; rintro e w4 ⟨rfl, hw4⟩; obtain rfl : w3 = w4 := hw4.symm))
    | (go_at_call_of 92 (Value.agg #[Value.slice a2 l2 c2]); go_must (refine (unhide HTD _ (unhide HBT _ (unhide HB3))).mono ?_; rintro e w5 ⟨rfl, hb5⟩; have HB5 := hide ((unhide HB3).trans (hb5.mono (unhide HB3).size)); clear hb5 t0 t1 t2; obtain ⟨⟨t0, t1, t2⟩, r0, r1, rf0, rf1⟩ := unhide HC w5 (unhide HBT _ (unhide HB5))))))
  have HS5 := hide ((unhide HS).later (unhide HBT _ (unhide HB5)))
  clear r0 r1 rf0 rf1 t0 t1 t2
  have hS := (unhide HS5).r.store (.string sn) (.string td)
  have hb : Below w.heap.size w (store2 w5 (w.heap.size + 1) (.string sn) (.string td)) := below_store2 (unhide HS5).below (by omega) _ _
  obtain ⟨V9, hV9⟩ : ∃ V9, V9 = store2 w5 (w.heap.size + 1) (.string sn) (.string td) := ⟨_, rfl⟩
  have hV9' : V9 = (w5.setCell ⟨w.heap.size + 1, 0, none⟩ (.string sn)).setCell ⟨w.heap.size + 1, 1, none⟩ (.string td) := hV9
  have u0 := hS.c0; have u1 := hS.c1
  rw [← hV9] at u0 u1 hb
  rw [← hV9']
  have HB9 := hide hb
  clear hV9 hV9' hS hb
  go_wp2_with fail
  exact bodyPost_ret (v := .tuple #[.agg #[.string sn, .string td], .int .i64 0]) (by simp [results, Tryz.results74, go_sem, u0, u1]) rfl ⟨rfl, unhide HB9⟩

set_option maxRecDepth 100000 in
set_option maxHeartbeats 2000000 in
theorem tell_large (v : Value) (b : Bool) (n d k : Nat) (w : World) (h : IsFrac w v b n d) (hk : k ≤ 1000000) (hnk : n < 1000000000 ^ k) (hdk : d < 1000000000 ^ k) (hl : ¬ (n < 10 ^ 600 ∧ d < 10 ^ 600)) :
    Calls Tryz.prog 74 #[v] w fun r w' => r = .returned (.tuple #[.agg #[.string ⟨#[]⟩, .string ⟨#[]⟩], .int .i64 7]) ∧ Below w.heap.size w w' := by
  obtain ⟨a1, l1, c1, a2, l2, c2, rfl, h1, h2⟩ := h.form
  obtain ⟨V, hV⟩ : ∃ V, V = (w.alloc (.cells #[.bool b, .slice a1 l1 c1, .slice a2 l2 c2] 74)).alloc (.cells #[.string ⟨#[]⟩, .string ⟨#[]⟩] 23) := ⟨_, rfl⟩
  have HS : Hid (TS w V (.bool b) (.slice a1 l1 c1) (.slice a2 l2 c2)) := by rw [hV]; exact TS.first _ _ _ _
  have HV := hide hV
  have HLN : Hid (∀ W, Below V.heap.size V W → Calls Tryz.prog 89 #[.agg #[.slice a1 l1 c1]] W fun e w' => e = .returned (.int .i64 (Lib.nDigits n : Nat)) ∧ Below W.heap.size W w') := fun W hb => len_any _ n k W ((h1.later (unhide HS).below).later hb) hk hnk
  have HLD : Hid (∀ W, Below V.heap.size V W → Calls Tryz.prog 89 #[.agg #[.slice a2 l2 c2]] W fun e w' => e = .returned (.int .i64 (Lib.nDigits d : Nat)) ∧ Below W.heap.size W w') := fun W hb => len_any _ d k W ((h2.later (unhide HS).below).later hb) hk hdk
  have hl' : ¬ ((Lib.nDigits n : Nat) ≤ 600 ∧ (Lib.nDigits d : Nat) ≤ 600) := fun h => hl ⟨(len600 n).1 h.1, (len600 d).1 h.2⟩
  clear h h1 h2 hk hnk hdk hl
  generalize (Lib.nDigits n : Nat) = L1 at *
  generalize (Lib.nDigits d : Nat) = L2 at *
  have HC : Hid (∀ w', Below V.heap.size V w' → (w'.cell? ⟨w.heap.size, 0, none⟩ = some (.bool b) ∧ w'.cell? ⟨w.heap.size, 1, none⟩ = some (.slice a1 l1 c1) ∧ w'.cell? ⟨w.heap.size, 2, none⟩ = some (.slice a2 l2 c2)) ∧ w'.cell? ⟨w.heap.size + 1, 0, none⟩ = some (.string ⟨#[]⟩) ∧ w'.cell? ⟨w.heap.size + 1, 1, none⟩ = some (.string ⟨#[]⟩) ∧ w'.frozen? ⟨w.heap.size + 1, 0, none⟩ = false ∧ w'.frozen? ⟨w.heap.size + 1, 1, none⟩ = false) := fun U hb => by
    have s := (unhide HS).later hb
    exact ⟨⟨s.a.c0, s.a.c1, s.a.c2⟩, s.r.c0, s.r.c1, s.r.f0, s.r.f1⟩
  go_enter Tryz.func74, Tryz.ntmps74
  go_upto_region 1 with fail
  rw [← unhide HV]
  clear hV HV
  obtain ⟨⟨t0, t1, t2⟩, _⟩ := unhide HC V (Below.refl _ _)
  by_cases hq : L1 ≤ 600
  · have hq2 : ¬ L2 ≤ 600 := fun h => hl' ⟨hq, h⟩
    clear hl'
    go_wp2_with (first
      | (go_at_call_of 89 (Value.agg #[Value.slice a1 l1 c1]); go_must (refine (unhide HLN _ (Below.refl _ _)).mono ?_; rintro e w1 ⟨rfl, hb1⟩; have HB1 := hide hb1; clear hb1 t0 t1 t2; obtain ⟨⟨t0, t1, t2⟩, _⟩ := unhide HC w1 (unhide HB1)))
      | (go_at_call_of 89 (Value.agg #[Value.slice a2 l2 c2]); go_must (refine (unhide HLD _ (unhide HB1)).mono ?_; rintro e w2 ⟨rfl, hb2⟩; have HB2 := hide ((unhide HB1).trans (hb2.mono (unhide HB1).size)); clear hb2 t0 t1 t2; obtain ⟨⟨t0, t1, t2⟩, r0, r1, rf0, rf1⟩ := unhide HC w2 (unhide HB2))))
    have HS5 := hide ((unhide HS).later (unhide HB2))
    have hS := (unhide HS5).r.store (.string ⟨#[]⟩) (.string ⟨#[]⟩)
    have hb : Below w.heap.size w (store2 w2 (w.heap.size + 1) (.string ⟨#[]⟩) (.string ⟨#[]⟩)) := below_store2 (unhide HS5).below (by omega) _ _
    have u0 := hS.c0; have u1 := hS.c1
    exact bodyPost_ret (v := .tuple #[.agg #[.string ⟨#[]⟩, .string ⟨#[]⟩], .int .i64 7]) (w := store2 w2 (w.heap.size + 1) (.string ⟨#[]⟩) (.string ⟨#[]⟩)) (by simp [results, Tryz.results74, go_sem, u0, u1]) rfl ⟨rfl, hb⟩
  · clear hl'
    go_wp2_with (go_at_call_of 89 (Value.agg #[Value.slice a1 l1 c1]); go_must (refine (unhide HLN _ (Below.refl _ _)).mono ?_; rintro e w2 ⟨rfl, hb1⟩; have HB2 := hide hb1; clear hb1 t0 t1 t2; obtain ⟨⟨t0, t1, t2⟩, r0, r1, rf0, rf1⟩ := unhide HC w2 (unhide HB2)))
    have HS5 := hide ((unhide HS).later (unhide HB2))
    have hS := (unhide HS5).r.store (.string ⟨#[]⟩) (.string ⟨#[]⟩)
    have hb : Below w.heap.size w (store2 w2 (w.heap.size + 1) (.string ⟨#[]⟩) (.string ⟨#[]⟩)) := below_store2 (unhide HS5).below (by omega) _ _
    have u0 := hS.c0; have u1 := hS.c1
    exact bodyPost_ret (v := .tuple #[.agg #[.string ⟨#[]⟩, .string ⟨#[]⟩], .int .i64 7]) (w := store2 w2 (w.heap.size + 1) (.string ⟨#[]⟩) (.string ⟨#[]⟩)) (by simp [results, Tryz.results74, go_sem, u0, u1]) rfl ⟨rfl, hb⟩
/-- Frac.Tell, by the number's value. -/
theorem qtell (v : Value) (x : Rat) (k : Nat) (w : World) (h : QOf w v x k) (hk : k ≤ 1000000) (htab : Tab w) :
    Calls Tryz.prog 74 #[v] w fun r w' => r = .returned (.tuple #[.agg #[.string (numT x), .string (denT x)], .int .i64 (errT x)]) ∧ Below w.heap.size w w' := by
  obtain ⟨b, n, d, h1, h2, rfl, h4, h5⟩ := h
  obtain ⟨e1, e2, e3⟩ := Cub.low_is h2
  by_cases hs : Small (Cub.valQ b n d)
  · have hn : n < 10 ^ 600 := by rw [e2]; exact hs.1
    have hd : d < 10 ^ 600 := by rw [e3]; exact hs.2
    have := tell_ok v b n d k w h1 hk h4 h5 hn hd htab
    unfold numT denT errT
    rw [if_pos hs, if_pos hs, if_pos hs, ← e1, ← e2, ← e3]
    exact this
  · have := tell_large v b n d k w h1 hk h4 h5 (fun h => hs ⟨by rw [← e2]; exact h.1, by rw [← e3]; exact h.2⟩)
    unfold numT denT errT
    rw [if_neg hs, if_neg hs, if_neg hs]
    exact this
end Go.Proofs.YtndhinoomlofgaaGreatDoor

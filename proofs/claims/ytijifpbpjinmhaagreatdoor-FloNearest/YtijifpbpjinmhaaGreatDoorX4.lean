/- The document's Exact (15), over all floats. -/
import Derived.Test.YtijifpbpjinmhaaGreatDoorNearTo
import Derived.Test.YtijifpbpjinmhaaGreatDoorGcdFirst
import Derived.Test.YtijifpbpjinmhaaGreatDoorArith
import Derived.Test.YtijifpbpjinmhaaGreatDoorRoom
import Derived.Test.YtijifpbpjinmhaaGreatDoorText
set_option maxHeartbeats 4000000
set_option maxRecDepth 100000
namespace Go.Proofs.YtijifpbpjinmhaaGreatDoor
open Go.RowKit
/-- What is told of a number: its two texts, or ErrLarge (7). -/
def Small (x : Rat) : Prop := x.num.natAbs < 10 ^ 600 ∧ x.den < 10 ^ 600
noncomputable def numT (x : Rat) : ByteArray := open Classical in if Small x then sT (decide (x < 0)) x.num.natAbs else ⟨#[]⟩
noncomputable def denT (x : Rat) : ByteArray := open Classical in if Small x then tb x.den else ⟨#[]⟩
noncomputable def errT (x : Rat) : Int := open Classical in if Small x then 0 else 7
/-- The argument and the box of the number. -/
structure TS (w W : World) (x y z : Value) : Prop where
  a : FBox W w.heap.size x y z
  r : T2 W (w.heap.size + 1) (.string ⟨#[]⟩) (.string ⟨#[]⟩)
  below : Below w.heap.size w W
theorem TS.later {w W V : World} {x y z : Value} (s : TS w W x y z) (hb : Below W.heap.size W V) : TS w V x y z := ⟨s.a.later hb, s.r.later hb, s.below.trans (hb.mono s.below.size)⟩
theorem TS.first (w : World) (x y z : Value) : TS w ((w.alloc (.cells #[x, y, z] 98)).alloc (.cells #[.string ⟨#[]⟩, .string ⟨#[]⟩] 23)) x y z :=
  ⟨⟨by simp [go_sem], by simp [go_sem], by simp [go_sem], by simp [go_sem], by simp [go_sem], by simp [go_sem]⟩, ⟨by simp [go_sem], by simp [go_sem], by simp [go_sem], by simp [go_sem]⟩, ((Below.refl _ _).alloc (Nat.le_refl _) _).alloc (by simp) _⟩
def store2 (W : World) (g : Nat) (x y : Value) : World := (W.setCell ⟨g, 0, none⟩ x).setCell ⟨g, 1, none⟩ y
theorem T2.store {W : World} {g : Nat} {x y : Value} (h : T2 W g x y) (x' y' : Value) : T2 (store2 W g x' y') g x' y' := by
  have a1 : (W.setCell ⟨g, 0, none⟩ x').cell? ⟨g, 1, none⟩ = some y := by rw [World.cell?_setCell_other _ _ _ _ (by simp)]; exact h.c1
  unfold store2
  refine ⟨?_, World.cell?_setCell_same _ _ _ a1, ?_, ?_⟩
  · rw [World.cell?_setCell_other _ _ _ _ (by simp)]; exact World.cell?_setCell_same _ _ _ h.c0
  · rw [World.frozen?_setCell, World.frozen?_setCell]; exact h.f0
  · rw [World.frozen?_setCell, World.frozen?_setCell]; exact h.f1
theorem below_store2 {B g : Nat} {w W : World} (h : Below B w W) (hg : B ≤ g) (x y : Value) : Below B w (store2 W g x y) :=
  (h.setCell (p := ⟨g, 0, none⟩) hg x).setCell (p := ⟨g, 1, none⟩) hg y
theorem tell_ok (v : Value) (b : Bool) (n d k : Nat) (w : World) (h : IsFrac w v b n d) (hk : k ≤ 1000000) (hnk : n < 1000000000 ^ k) (hdk : d < 1000000000 ^ k) (hn : n < 10 ^ 600) (hd : d < 10 ^ 600) (htab : Tab w) :
    Calls Tryz.prog 90 #[v] w fun r w' => r = .returned (.tuple #[.agg #[.string (sT b n), .string (tb d)], .int .i64 0]) ∧ Below w.heap.size w w' := by
  obtain ⟨a1, l1, c1, a2, l2, c2, rfl, h1, h2⟩ := h.form
  obtain ⟨V, hV⟩ : ∃ V, V = (w.alloc (.cells #[.bool b, .slice a1 l1 c1, .slice a2 l2 c2] 98)).alloc (.cells #[.string ⟨#[]⟩, .string ⟨#[]⟩] 23) := ⟨_, rfl⟩
  have HS : Hid (TS w V (.bool b) (.slice a1 l1 c1) (.slice a2 l2 c2)) := by rw [hV]; exact TS.first _ _ _ _
  have HV := hide hV
  have HLN : Hid (∀ W, Below V.heap.size V W → Calls Tryz.prog 136 #[.agg #[.slice a1 l1 c1]] W fun e w' => e = .returned (.int .i64 (Lib.nDigits n : Nat)) ∧ Below W.heap.size W w') := fun W hb => len_any _ n k W ((h1.later (unhide HS).below).later hb) hk hnk
  have HLD : Hid (∀ W, Below V.heap.size V W → Calls Tryz.prog 136 #[.agg #[.slice a2 l2 c2]] W fun e w' => e = .returned (.int .i64 (Lib.nDigits d : Nat)) ∧ Below W.heap.size W w') := fun W hb => len_any _ d k W ((h2.later (unhide HS).below).later hb) hk hdk
  have HTN : Hid (∀ W, Below V.heap.size V W → Calls Tryz.prog 39 #[.agg #[.slice a1 l1 c1]] W fun e w' => e = .returned (.string (tb n)) ∧ Below W.heap.size W w') := fun W hb => by
    have := text_any _ n k W ((h1.later (unhide HS).below).later hb) hk hnk ((htab.later (unhide HS).below).later hb)
    rwa [show (⟨(Lib.decDigits n).toArray⟩ : ByteArray) = tb n from bytes_ext (by rw [tb_list n hn])] at this
  have HTD : Hid (∀ W, Below V.heap.size V W → Calls Tryz.prog 39 #[.agg #[.slice a2 l2 c2]] W fun e w' => e = .returned (.string (tb d)) ∧ Below W.heap.size W w') := fun W hb => by
    have := text_any _ d k W ((h2.later (unhide HS).below).later hb) hk hdk ((htab.later (unhide HS).below).later hb)
    rwa [show (⟨(Lib.decDigits d).toArray⟩ : ByteArray) = tb d from bytes_ext (by rw [tb_list d hd])] at this
  have HSG : Hid (∀ W, Calls Tryz.prog 137 #[.bool b, .string (tb n)] W fun e w' => e = .returned (.string (sT b n)) ∧ w' = W) := fun W => signed_any b (tb n) W (by have := (tb_digs n hn).2; omega)
  have n1 : (Lib.nDigits n : Nat) ≤ 600 := (len600 n).2 hn
  have n2 : (Lib.nDigits d : Nat) ≤ 600 := (len600 d).2 hd
  clear h h1 h2 hk hnk hdk hn hd htab
  generalize (Lib.nDigits n : Nat) = L1 at *
  generalize (Lib.nDigits d : Nat) = L2 at *
  generalize sT b n = sn at *
  generalize tb n = tn at *
  generalize tb d = td at *
  have HC : Hid (∀ w', Below V.heap.size V w' → (w'.cell? ⟨w.heap.size, 0, none⟩ = some (.bool b) ∧ w'.cell? ⟨w.heap.size, 1, none⟩ = some (.slice a1 l1 c1) ∧ w'.cell? ⟨w.heap.size, 2, none⟩ = some (.slice a2 l2 c2)) ∧ w'.cell? ⟨w.heap.size + 1, 0, none⟩ = some (.string ⟨#[]⟩) ∧ w'.cell? ⟨w.heap.size + 1, 1, none⟩ = some (.string ⟨#[]⟩) ∧ w'.frozen? ⟨w.heap.size + 1, 0, none⟩ = false ∧ w'.frozen? ⟨w.heap.size + 1, 1, none⟩ = false) := fun U hb => by
    have s := (unhide HS).later hb
    exact ⟨⟨s.a.c0, s.a.c1, s.a.c2⟩, s.r.c0, s.r.c1, s.r.f0, s.r.f1⟩
  go_enter Tryz.func90, Tryz.ntmps90
  go_upto_region 1 with fail
  rw [← unhide HV]
  clear hV HV
  obtain ⟨⟨t0, t1, t2⟩, _⟩ := unhide HC V (Below.refl _ _)
  go_upto_region 3 with (first
    | (go_at_call_of 136 (Value.agg #[Value.slice a1 l1 c1]); go_must (refine (unhide HLN _ (Below.refl _ _)).mono ?_; rintro e w1 ⟨rfl, hb1⟩; have HB1 := hide hb1; clear hb1 t0 t1 t2; obtain ⟨⟨t0, t1, t2⟩, _⟩ := unhide HC w1 (unhide HB1)))
    | (go_at_call_of 136 (Value.agg #[Value.slice a2 l2 c2]); go_must (refine (unhide HLD _ (unhide HB1)).mono ?_; rintro e w2 ⟨rfl, hb2⟩; have HB2 := hide ((unhide HB1).trans (hb2.mono (unhide HB1).size)); clear hb2 t0 t1 t2; obtain ⟨⟨t0, t1, t2⟩, _⟩ := unhide HC w2 (unhide HB2))))
  have HBT : Hid (∀ U, Below w2.heap.size w2 U → Below V.heap.size V U) := fun U hb => (unhide HB2).trans (hb.mono (unhide HB2).size)
  go_region_held3 (fun w' => w'.cell? ⟨w.heap.size, 0, none⟩ = some (.bool b) ∧ w'.cell? ⟨w.heap.size, 1, none⟩ = some (.slice a1 l1 c1) ∧ w'.cell? ⟨w.heap.size, 2, none⟩ = some (.slice a2 l2 c2)) (first | assumption | (refine ⟨?_, ?_, ?_⟩ <;> first | assumption | (simp [go_sem, *]; done)) | (simp [go_sem, *]; done)) ((first
    | (go_at_call_of 39 (Value.agg #[Value.slice a1 l1 c1]); go_must (refine (unhide HTN _ (unhide HBT _ ((Below.refl _ _).drew))).mono ?_; rintro e w3 ⟨rfl, hb3⟩; have HB3 := hide (((Below.refl w2.heap.size w2).drew).trans hb3); clear hb3 t0 t1 t2; obtain ⟨⟨t0, t1, t2⟩, _⟩ := unhide HC w3 (unhide HBT _ (unhide HB3))))
    | (go_at_call 137; go_must (refine (unhide HSG _).mono ?_; rintro e w4 ⟨rfl, hw4⟩; obtain rfl : w3 = w4 := hw4.symm))
    | (go_at_call_of 39 (Value.agg #[Value.slice a2 l2 c2]); go_must (refine (unhide HTD _ (unhide HBT _ (unhide HB3))).mono ?_; rintro e w5 ⟨rfl, hb5⟩; have HB5 := hide ((unhide HB3).trans (hb5.mono (unhide HB3).size)); clear hb5 t0 t1 t2; obtain ⟨⟨t0, t1, t2⟩, r0, r1, rf0, rf1⟩ := unhide HC w5 (unhide HBT _ (unhide HB5))))))
  have HS5 := hide ((unhide HS).later (unhide HBT _ (unhide HB5)))
  clear r0 r1 rf0 rf1 t0 t1 t2
  have hS := (unhide HS5).r.store (.string sn) (.string td)
  have hb : Below w.heap.size w (store2 w5 (w.heap.size + 1) (.string sn) (.string td)) := below_store2 (unhide HS5).below (by omega) _ _
  obtain ⟨V9, hV9⟩ : ∃ V9, V9 = store2 w5 (w.heap.size + 1) (.string sn) (.string td) := ⟨_, rfl⟩
  have hV9' : V9 = (w5.setCell ⟨w.heap.size + 1, 0, none⟩ (.string sn)).setCell ⟨w.heap.size + 1, 1, none⟩ (.string td) := hV9
  have u0 := hS.c0; have u1 := hS.c1
  rw [← hV9] at u0 u1 hb
  rw [← hV9']
  have HB9 := hide hb
  clear hV9 hV9' hS hb
  go_wp2_with fail
  exact bodyPost_ret (v := .tuple #[.agg #[.string sn, .string td], .int .i64 0]) (by simp [results, Tryz.results90, go_sem, u0, u1]) rfl ⟨rfl, unhide HB9⟩
theorem tell_large (v : Value) (b : Bool) (n d k : Nat) (w : World) (h : IsFrac w v b n d) (hk : k ≤ 1000000) (hnk : n < 1000000000 ^ k) (hdk : d < 1000000000 ^ k) (hl : ¬ (n < 10 ^ 600 ∧ d < 10 ^ 600)) :
    Calls Tryz.prog 90 #[v] w fun r w' => r = .returned (.tuple #[.agg #[.string ⟨#[]⟩, .string ⟨#[]⟩], .int .i64 7]) ∧ Below w.heap.size w w' := by
  obtain ⟨a1, l1, c1, a2, l2, c2, rfl, h1, h2⟩ := h.form
  obtain ⟨V, hV⟩ : ∃ V, V = (w.alloc (.cells #[.bool b, .slice a1 l1 c1, .slice a2 l2 c2] 98)).alloc (.cells #[.string ⟨#[]⟩, .string ⟨#[]⟩] 23) := ⟨_, rfl⟩
  have HS : Hid (TS w V (.bool b) (.slice a1 l1 c1) (.slice a2 l2 c2)) := by rw [hV]; exact TS.first _ _ _ _
  have HV := hide hV
  have HLN : Hid (∀ W, Below V.heap.size V W → Calls Tryz.prog 136 #[.agg #[.slice a1 l1 c1]] W fun e w' => e = .returned (.int .i64 (Lib.nDigits n : Nat)) ∧ Below W.heap.size W w') := fun W hb => len_any _ n k W ((h1.later (unhide HS).below).later hb) hk hnk
  have HLD : Hid (∀ W, Below V.heap.size V W → Calls Tryz.prog 136 #[.agg #[.slice a2 l2 c2]] W fun e w' => e = .returned (.int .i64 (Lib.nDigits d : Nat)) ∧ Below W.heap.size W w') := fun W hb => len_any _ d k W ((h2.later (unhide HS).below).later hb) hk hdk
  have hl' : ¬ ((Lib.nDigits n : Nat) ≤ 600 ∧ (Lib.nDigits d : Nat) ≤ 600) := fun h => hl ⟨(len600 n).1 h.1, (len600 d).1 h.2⟩
  clear h h1 h2 hk hnk hdk hl
  generalize (Lib.nDigits n : Nat) = L1 at *
  generalize (Lib.nDigits d : Nat) = L2 at *
  have HC : Hid (∀ w', Below V.heap.size V w' → (w'.cell? ⟨w.heap.size, 0, none⟩ = some (.bool b) ∧ w'.cell? ⟨w.heap.size, 1, none⟩ = some (.slice a1 l1 c1) ∧ w'.cell? ⟨w.heap.size, 2, none⟩ = some (.slice a2 l2 c2)) ∧ w'.cell? ⟨w.heap.size + 1, 0, none⟩ = some (.string ⟨#[]⟩) ∧ w'.cell? ⟨w.heap.size + 1, 1, none⟩ = some (.string ⟨#[]⟩) ∧ w'.frozen? ⟨w.heap.size + 1, 0, none⟩ = false ∧ w'.frozen? ⟨w.heap.size + 1, 1, none⟩ = false) := fun U hb => by
    have s := (unhide HS).later hb
    exact ⟨⟨s.a.c0, s.a.c1, s.a.c2⟩, s.r.c0, s.r.c1, s.r.f0, s.r.f1⟩
  go_enter Tryz.func90, Tryz.ntmps90
  go_upto_region 1 with fail
  rw [← unhide HV]
  clear hV HV
  obtain ⟨⟨t0, t1, t2⟩, _⟩ := unhide HC V (Below.refl _ _)
  by_cases hq : L1 ≤ 600
  · have hq2 : ¬ L2 ≤ 600 := fun h => hl' ⟨hq, h⟩
    clear hl'
    go_wp2_with (first
      | (go_at_call_of 136 (Value.agg #[Value.slice a1 l1 c1]); go_must (refine (unhide HLN _ (Below.refl _ _)).mono ?_; rintro e w1 ⟨rfl, hb1⟩; have HB1 := hide hb1; clear hb1 t0 t1 t2; obtain ⟨⟨t0, t1, t2⟩, _⟩ := unhide HC w1 (unhide HB1)))
      | (go_at_call_of 136 (Value.agg #[Value.slice a2 l2 c2]); go_must (refine (unhide HLD _ (unhide HB1)).mono ?_; rintro e w2 ⟨rfl, hb2⟩; have HB2 := hide ((unhide HB1).trans (hb2.mono (unhide HB1).size)); clear hb2 t0 t1 t2; obtain ⟨⟨t0, t1, t2⟩, r0, r1, rf0, rf1⟩ := unhide HC w2 (unhide HB2))))
    have HS5 := hide ((unhide HS).later (unhide HB2))
    have hS := (unhide HS5).r.store (.string ⟨#[]⟩) (.string ⟨#[]⟩)
    have hb : Below w.heap.size w (store2 w2 (w.heap.size + 1) (.string ⟨#[]⟩) (.string ⟨#[]⟩)) := below_store2 (unhide HS5).below (by omega) _ _
    have u0 := hS.c0; have u1 := hS.c1
    exact bodyPost_ret (v := .tuple #[.agg #[.string ⟨#[]⟩, .string ⟨#[]⟩], .int .i64 7]) (w := store2 w2 (w.heap.size + 1) (.string ⟨#[]⟩) (.string ⟨#[]⟩)) (by simp [results, Tryz.results90, go_sem, u0, u1]) rfl ⟨rfl, hb⟩
  · clear hl'
    go_wp2_with (go_at_call_of 136 (Value.agg #[Value.slice a1 l1 c1]); go_must (refine (unhide HLN _ (Below.refl _ _)).mono ?_; rintro e w2 ⟨rfl, hb1⟩; have HB2 := hide hb1; clear hb1 t0 t1 t2; obtain ⟨⟨t0, t1, t2⟩, r0, r1, rf0, rf1⟩ := unhide HC w2 (unhide HB2)))
    have HS5 := hide ((unhide HS).later (unhide HB2))
    have hS := (unhide HS5).r.store (.string ⟨#[]⟩) (.string ⟨#[]⟩)
    have hb : Below w.heap.size w (store2 w2 (w.heap.size + 1) (.string ⟨#[]⟩) (.string ⟨#[]⟩)) := below_store2 (unhide HS5).below (by omega) _ _
    have u0 := hS.c0; have u1 := hS.c1
    exact bodyPost_ret (v := .tuple #[.agg #[.string ⟨#[]⟩, .string ⟨#[]⟩], .int .i64 7]) (w := store2 w2 (w.heap.size + 1) (.string ⟨#[]⟩) (.string ⟨#[]⟩)) (by simp [results, Tryz.results90, go_sem, u0, u1]) rfl ⟨rfl, hb⟩
/-- Frac.Tell, by the number's value. -/
theorem qtell (v : Value) (x : Rat) (k : Nat) (w : World) (h : QOf w v x k) (hk : k ≤ 1000000) (htab : Tab w) :
    Calls Tryz.prog 90 #[v] w fun r w' => r = .returned (.tuple #[.agg #[.string (numT x), .string (denT x)], .int .i64 (errT x)]) ∧ Below w.heap.size w w' := by
  obtain ⟨b, n, d, h1, h2, rfl, h4, h5⟩ := h
  obtain ⟨e1, e2, e3⟩ := Cub.low_is h2
  by_cases hs : Small (Cub.valQ b n d)
  · have hn : n < 10 ^ 600 := by rw [e2]; exact hs.1
    have hd : d < 10 ^ 600 := by rw [e3]; exact hs.2
    have := tell_ok v b n d k w h1 hk h4 h5 hn hd htab
    unfold numT denT errT
    rw [if_pos hs, if_pos hs, if_pos hs, ← e1, ← e2, ← e3]
    exact this
  · have := tell_large v b n d k w h1 hk h4 h5 (fun h => hs ⟨by rw [← e2]; exact h.1, by rw [← e3]; exact h.2⟩)
    unfold numT denT errT
    rw [if_neg hs, if_neg hs, if_neg hs]
    exact this
def Ans (f : Nat) (args : Array Value) (w : World) (s t : ByteArray) (e : Int) : Prop :=
  Calls Tryz.prog f args w fun r w' => r = .returned (.tuple #[.agg #[.string s, .string t], .int .i64 e]) ∧ Below w.heap.size w w'
theorem ratio_any (b : Bool) (x y : Value) (m n k : Nat) (w : World) (hx : IsBig w x m) (hy : IsBig w y n) (hm : m < 1000000000 ^ k) (hn : n < 1000000000 ^ k) (h0 : 0 < n) (hD : DivAns k) (hG : GcdAns k) :
    Calls Tryz.prog 89 #[.bool b, x, y] w fun e w' => ∃ v', e = .returned v' ∧ IsFrac w' v' (b && decide (m / Nat.gcd m n ≠ 0)) (m / Nat.gcd m n) (n / Nat.gcd m n) ∧ Below w.heap.size w w' := by
  have HX := hide hx
  have HY := hide hy
  obtain ⟨ap, np, cp, rfl⟩ := hx.shape
  obtain ⟨aq, nq, cq, rfl⟩ := hy.shape
  have HS0 := hide (RSt.first w (.slice ap np cp) (.slice aq nq cq))
  have H44 := hide (lowest_any _ _ m n k _ (hx.later (unhide HS0).below) (hy.later (unhide HS0).below) hm hn h0 hD hG)
  clear hx hy hm hn h0 hD hG HX HY
  generalize m / Nat.gcd m n = M at *
  generalize n / Nat.gcd m n = N at *
  go_enter Tryz.func89, Tryz.ntmps89
  go_upto_region 2 with (go_at_call 135; go_must (refine (unhide H44).mono ?_; rintro e w1 ⟨a1, l1, c1, a2, l2, c2, rfl, hv1, hv2, hb1⟩; have HS1 := hide ((unhide HS0).later hb1); have HV1 := hide hv1; have HV2 := hide hv2; clear hv1 hv2 hb1; have b1 := (unhide HS1).b1.c; have b2 := (unhide HS1).b2.c; have f1 := (unhide HS1).b1.f; have f2 := (unhide HS1).b2.f))
  obtain ⟨V, hV⟩ : ∃ V, V = ((w1.setCell ⟨w.heap.size, 0, none⟩ (.slice a1 l1 c1)).setCell ⟨w.heap.size + 1, 0, none⟩ (.slice a2 l2 c2)) := ⟨_, rfl⟩
  have HS : Hid (RSt w V (.slice a1 l1 c1) (.slice a2 l2 c2)) := by rw [hV]; exact (unhide HS1).both _ _
  have HW1 : Hid (IsBig V (.agg #[.slice a1 l1 c1]) M) := by rw [hV]; exact ((unhide HV1).box _ b1 (not_int _ _ _)).box _ ((unhide HS1).b2.other (by omega) _).c (not_int _ _ _)
  have HW2 : Hid (IsBig V (.agg #[.slice a2 l2 c2]) N) := by rw [hV]; exact ((unhide HV2).box _ b1 (not_int _ _ _)).box _ ((unhide HS1).b2.other (by omega) _).c (not_int _ _ _)
  rw [← hV]
  clear hV HS0 H44 HS1 HV1 HV2 b1 b2 f1 f2
  have b1 := (unhide HS).b1.c; have b2 := (unhide HS).b2.c
  have q0 := (unhide HS).b3.c0; have q1 := (unhide HS).b3.c1; have q2 := (unhide HS).b3.c2; have g0 := (unhide HS).b3.f0; have g1 := (unhide HS).b3.f1; have g2 := (unhide HS).b3.f2
  cases b with
  | false =>
    go_region
    obtain ⟨U, hU⟩ : ∃ U, U = (store3 V (w.heap.size + 1 + 1) (.bool false) (.slice a1 l1 c1) (.slice a2 l2 c2)).drew := ⟨_, rfl⟩
    have hb3 : Below w.heap.size w (store3 V (w.heap.size + 1 + 1) (.bool false) (.slice a1 l1 c1) (.slice a2 l2 c2)) := below_store3 (unhide HS).below (by omega) _ _ _
    have HU : Hid (FBox U (w.heap.size + 1 + 1) (.bool false) (.slice a1 l1 c1) (.slice a2 l2 c2) ∧ IsBig U (.agg #[.slice a1 l1 c1]) M ∧ IsBig U (.agg #[.slice a2 l2 c2]) N ∧ Below w.heap.size w U) := by
      rw [hU]
      exact ⟨((unhide HS).b3.store _ _ _).later ((Below.refl _ _).drew), ((unhide HS).b3.big _ _ _ (unhide HW1)).later ((Below.refl _ _).drew), ((unhide HS).b3.big _ _ _ (unhide HW2)).later ((Below.refl _ _).drew), hb3.trans (((Below.refl _ _).drew).mono hb3.size)⟩
    have hU' : U = (((V.setCell ⟨w.heap.size + 1 + 1, 0, none⟩ (.bool false)).setCell ⟨w.heap.size + 1 + 1, 1, none⟩ (.slice a1 l1 c1)).setCell ⟨w.heap.size + 1 + 1, 2, none⟩ (.slice a2 l2 c2)).drew := hU
    have HE : Hid (false = (false && decide (M ≠ 0))) := by show _ = _; by_cases h0 : M = 0 <;> simp [h0]
    rw [← hU']
    clear hU hU' hb3 q0 q1 q2 g0 g1 g2 b1 b2 
    have r0 := (unhide HU).1.c0; have r1 := (unhide HU).1.c1; have r2 := (unhide HU).1.c2
    go_wp2_with fail
    exact bodyPost_ret (v := .agg #[.bool false, .slice a1 l1 c1, .slice a2 l2 c2]) (by simp [results, Tryz.results89, go_sem, r0, r1, r2]) rfl ⟨_, rfl, (by rw [← unhide HE]; exact ⟨_, _, rfl, (unhide HU).2.1, (unhide HU).2.2.1⟩), (unhide HU).2.2.2⟩
  | true =>
    have HF : Hid (∀ W, Below V.heap.size V W → RSt w W (.slice a1 l1 c1) (.slice a2 l2 c2)) := fun W hb => (unhide HS).later hb
    have H37 := hide (fun W (hb : Below V.heap.size V W) => isZero_any _ M W ((unhide HW1).later hb))
    clear q0 q1 q2 g0 g1 g2
    go_region_held3 (fun w' => w'.cell? ⟨w.heap.size, 0, none⟩ = some (.slice a1 l1 c1) ∧ w'.cell? ⟨w.heap.size + 1, 0, none⟩ = some (.slice a2 l2 c2)) (first | assumption | (refine ⟨?_, ?_⟩ <;> first | assumption | (simp [go_sem, *]; done)) | (simp [go_sem, *]; done)) ((go_at_call 85; go_must (refine (unhide H37 _ ((Below.refl _ _).drew)).mono ?_; rintro e w3 ⟨rfl, hb3⟩; have HB3 := hide ((((Below.refl V.heap.size V).drew)).trans hb3); have HS3 := hide (unhide HF w3 (unhide HB3)); have t1 := (unhide HS3).b1.c; have t2 := (unhide HS3).b2.c; have q0 := (unhide HS3).b3.c0; have q1 := (unhide HS3).b3.c1; have q2 := (unhide HS3).b3.c2; have g0 := (unhide HS3).b3.f0; have g1 := (unhide HS3).b3.f1; have g2 := (unhide HS3).b3.f2; clear hb3)))
    obtain ⟨U, hU⟩ : ∃ U, U = (store3 w3 (w.heap.size + 1 + 1) (.bool (!M == 0)) (.slice a1 l1 c1) (.slice a2 l2 c2)) := ⟨_, rfl⟩
    have hb3 : Below w.heap.size w (store3 w3 (w.heap.size + 1 + 1) (.bool (!M == 0)) (.slice a1 l1 c1) (.slice a2 l2 c2)) := below_store3 (unhide HS3).below (by omega) _ _ _
    have HU : Hid (FBox U (w.heap.size + 1 + 1) (.bool (!M == 0)) (.slice a1 l1 c1) (.slice a2 l2 c2) ∧ IsBig U (.agg #[.slice a1 l1 c1]) M ∧ IsBig U (.agg #[.slice a2 l2 c2]) N ∧ Below w.heap.size w U) := by
      rw [hU]
      exact ⟨((unhide HS3).b3.store _ _ _), ((unhide HS3).b3.big _ _ _ ((unhide HW1).later (unhide HB3))), ((unhide HS3).b3.big _ _ _ ((unhide HW2).later (unhide HB3))), hb3⟩
    have hU' : U = (((w3.setCell ⟨w.heap.size + 1 + 1, 0, none⟩ (.bool (!M == 0))).setCell ⟨w.heap.size + 1 + 1, 1, none⟩ (.slice a1 l1 c1)).setCell ⟨w.heap.size + 1 + 1, 2, none⟩ (.slice a2 l2 c2)) := hU
    have HE : Hid ((!M == 0) = (true && decide (M ≠ 0))) := by show _ = _; by_cases h0 : M = 0 <;> simp [h0]
    rw [← hU']
    clear hU hU' hb3 q0 q1 q2 g0 g1 g2 b1 b2 t1 t2
    have r0 := (unhide HU).1.c0; have r1 := (unhide HU).1.c1; have r2 := (unhide HU).1.c2
    go_wp2_with fail
    exact bodyPost_ret (v := .agg #[.bool (!M == 0), .slice a1 l1 c1, .slice a2 l2 c2]) (by simp [results, Tryz.results89, go_sem, r0, r1, r2]) rfl ⟨_, rfl, (by rw [← unhide HE]; exact ⟨_, _, rfl, (unhide HU).2.1, (unhide HU).2.2.1⟩), (unhide HU).2.2.2⟩
theorem new_ok (num den : ByteArray) (b : Bool) (m n : Nat) (w : World) (hnum : num = sT b m) (hden : den = tb n) (hm : m < 10 ^ 600) (hn : n < 10 ^ 600) (hn0 : n ≠ 0) (htab : Tab w) :
    Ans 40 #[.string num, .string den] w (numT (Cub.valQ b m n)) (denT (Cub.valQ b m n)) (errT (Cub.valQ b m n)) := by
  unfold Ans
  obtain ⟨V, hV⟩ : ∃ V, V = w.alloc (.cells #[.string ⟨#[]⟩, .string ⟨#[]⟩] 23) := ⟨_, rfl⟩
  have hbV : Below w.heap.size w V := by rw [hV]; exact (Below.refl _ _).alloc (Nat.le_refl _) _
  have HR : Hid (T2 V w.heap.size (.string ⟨#[]⟩) (.string ⟨#[]⟩) ∧ Below w.heap.size w V) := ⟨by rw [hV]; exact ⟨by simp [go_sem], by simp [go_sem], by simp [go_sem], by simp [go_sem]⟩, hbV⟩
  have HV := hide hV
  have HTW := hide htab
  have HC68 : Hid (Calls Tryz.prog 87 #[.string num] V fun e w' => e = .returned (.tuple #[.bool b, .string (tb m)]) ∧ w' = V) := by
    have := cutSign_any num V
    rw [hnum, neg_sT b m hm, dig_sT b m hm] at this
    rw [hnum]; exact this
  have HR1 : Hid (Calls Tryz.prog 88 #[.string (tb m)] V fun e w' => e = .returned (.bool true) ∧ w' = V) := by
    have := right_any (tb m) V (tb_size m hm)
    rwa [(tb_right m hm).1] at this
  have HR2 : Hid (Calls Tryz.prog 88 #[.string den] V fun e w' => e = .returned (.bool true) ∧ w' = V) := by
    have := right_any (tb n) V (tb_size n hn)
    rw [(tb_right n hn).1] at this
    rw [hden]; exact this
  have z2 : (den.toList == [48]) = false := by rw [hden, tb_eq48 n hn, beq_eq_false_iff_ne]; exact hn0
  have HB1 : Hid (∀ W, Calls Tryz.prog 32 #[.string (tb m)] W fun e w' => ∃ v, e = .returned v ∧ IsBig w' v m ∧ Below W.heap.size W w') := fun W => by
    have := bigText_any (tb m) W (by have := (tb_digs m hm).2; omega) (tb_digs m hm).1
    rwa [(tb_right m hm).2] at this
  have HB2 : Hid (∀ W, Calls Tryz.prog 32 #[.string den] W fun e w' => ∃ v, e = .returned v ∧ IsBig w' v n ∧ Below W.heap.size W w') := fun W => by
    have := bigText_any (tb n) W (by have := (tb_digs n hn).2; omega) (tb_digs n hn).1
    rw [(tb_right n hn).2] at this
    rw [hden]; exact this
  have p6 := pow600
  have hmk := Nat.lt_of_lt_of_le hm p6
  have hnk := Nat.lt_of_lt_of_le hn p6
  have HRA : Hid (∀ W x y, IsBig W x m → IsBig W y n → Calls Tryz.prog 89 #[.bool b, x, y] W fun e w' => ∃ v', e = .returned v' ∧ QOf w' v' (Cub.valQ b m n) 67 ∧ Below W.heap.size W w') := fun W x y h1 h2 => by
    refine (ratio_any b x y m n 67 W h1 h2 hmk hnk (by omega) (divAns 67 (by decide)) (gcdAns 67 (by decide))).mono ?_
    rintro e w' ⟨v', rfl, hf, hb⟩
    obtain ⟨l1, l2⟩ := Cub.ratio_low (b := b) (n := m) (show 0 < n by omega)
    exact ⟨v', rfl, ⟨_, _, _, hf, l1, l2, Nat.lt_of_le_of_lt (Nat.div_le_self _ _) hmk, Nat.lt_of_le_of_lt (Nat.div_le_self _ _) hnk⟩, hb⟩
  have HTE : Hid (∀ W v, QOf W v (Cub.valQ b m n) 67 → Tab W → Calls Tryz.prog 90 #[v] W fun r w' => r = .returned (.tuple #[.agg #[.string (numT (Cub.valQ b m n)), .string (denT (Cub.valQ b m n))], .int .i64 (errT (Cub.valQ b m n))]) ∧ Below W.heap.size W w') := fun W v h ht => qtell v _ 67 W h (by decide) ht
  clear hnum hden hm hn hn0 htab hbV p6 hmk hnk
  generalize numT (Cub.valQ b m n) = rn at *
  generalize denT (Cub.valQ b m n) = rd at *
  generalize errT (Cub.valQ b m n) = re at *
  generalize tb m = ds at *
  go_enter Tryz.func40, Tryz.ntmps40
  go_upto_region 1 with fail
  rw [← unhide HV]
  clear hV HV
  go_upto_region 6 with (first
    | (go_at_call 87; go_must (refine (unhide HC68).mono ?_; rintro e w1 ⟨rfl, hw1⟩; obtain rfl : V = w1 := hw1.symm))
    | (go_at_call_of 88 (Value.string ds); go_must (refine (unhide HR1).mono ?_; rintro e w1 ⟨rfl, hw1⟩; obtain rfl : V = w1 := hw1.symm))
    | (go_at_call 88; go_must (refine (unhide HR2).mono ?_; rintro e w1 ⟨rfl, hw1⟩; obtain rfl : V = w1 := hw1.symm)))
  clear z2
  go_wp2_with (first
    | (go_at_call_of 32 (Value.string ds); go_must (refine (unhide HB1 _).mono ?_; rintro e w2 ⟨v2, rfl, hv2, hb2⟩; have HX2 := hide hv2; have HR2' : Hid (T2 w2 w.heap.size (.string ⟨#[]⟩) (.string ⟨#[]⟩) ∧ Below w.heap.size w w2) := ⟨(unhide HR).1.later hb2, (unhide HR).2.trans (hb2.mono (unhide HR).2.size)⟩; clear hv2 hb2))
    | (go_at_call 32; go_must (refine (unhide HB2 _).mono ?_; rintro e w3 ⟨v3, rfl, hv3, hb3⟩; have HX3 := hide ((unhide HX2).later hb3); have HY3 := hide hv3; have HR3 : Hid (T2 w3 w.heap.size (.string ⟨#[]⟩) (.string ⟨#[]⟩) ∧ Below w.heap.size w w3) := ⟨(unhide HR2').1.later hb3, (unhide HR2').2.trans (hb3.mono (unhide HR2').2.size)⟩; clear hv3 hb3))
    | (go_at_call 89; go_must (refine (unhide HRA _ _ _ (unhide HX3) (unhide HY3)).mono ?_; rintro e w4 ⟨v4, rfl, hv4, hb4⟩; have HQ4 := hide hv4; have HR4 : Hid (T2 w4 w.heap.size (.string ⟨#[]⟩) (.string ⟨#[]⟩) ∧ Below w.heap.size w w4) := ⟨(unhide HR3).1.later hb4, (unhide HR3).2.trans (hb4.mono (unhide HR3).2.size)⟩; clear hv4 hb4))
    | (go_at_call 90; go_must (refine (unhide HTE _ _ (unhide HQ4) ((unhide HTW).later (unhide HR4).2)).mono ?_; rintro e w5 ⟨rfl, hb5⟩; have HR5 : Hid (T2 w5 w.heap.size (.string ⟨#[]⟩) (.string ⟨#[]⟩) ∧ Below w.heap.size w w5) := ⟨(unhide HR4).1.later hb5, (unhide HR4).2.trans (hb5.mono (unhide HR4).2.size)⟩; clear hb5; have r0 := (unhide HR5).1.c0; have r1 := (unhide HR5).1.c1; have rf0 := (unhide HR5).1.f0; have rf1 := (unhide HR5).1.f1)))
  have hS := (unhide HR5).1.store (.string rn) (.string rd)
  have hb : Below w.heap.size w (store2 w5 (w.heap.size) (.string rn) (.string rd)) := below_store2 (unhide HR5).2 (by omega) _ _
  have u0 := hS.c0; have u1 := hS.c1
  exact bodyPost_ret (v := .tuple #[.agg #[.string rn, .string rd], .int .i64 re]) (w := store2 w5 (w.heap.size) (.string rn) (.string rd)) (by simp [results, Tryz.results40, go_sem, u0, u1]) rfl ⟨rfl, hb⟩
def finB (b : Nat) : Bool := decide (b % 9223372036854775808 < 9218868437227405312)
def eP (b : Nat) : Nat := (evB b).toNat
def eN (b : Nat) : Nat := (-(evB b)).toNat
theorem fin_ev (b : Nat) (h : finB b = true) : -1074 ≤ evB b ∧ evB b ≤ 971 := by
  unfold finB at h
  have h := of_decide_eq_true h
  have hx : xpB b ≤ 2046 := by unfold xpB; omega
  unfold evB
  split <;> omega
theorem fin_mv (b : Nat) : mvB b < 9007199254740992 := by
  have hm : mtB b < 4503599627370496 := Nat.mod_lt _ (by decide)
  unfold mvB
  split <;> omega
theorem up600 (K E : Nat) (hK : K = 400) (hE : E = 600) : 10 ^ K ≤ 10 ^ E := Nat.pow_le_pow_right (by decide) (by omega)
theorem up620 (K E : Nat) (hK : K = 400) (hE : E = 600) : 10 ^ (20 + K) ≤ 10 ^ E := Nat.pow_le_pow_right (by decide) (by omega)
theorem two_e (b K : Nat) (hK : K = 400) (h : finB b = true) (W : World) : Calls Tryz.prog 74 #[.int .i64 (evB b)] W fun e w' => ∃ v, e = .returned v ∧ IsSz w' v (2 ^ eP b) (2 ^ eN b) ∧ Below W.heap.size W w' := by
  obtain ⟨h1, h2⟩ := fin_ev b h
  have p6 := pow600
  have p4 := up600 K 600 hK rfl
  have p2 : 2 < 1000000000 ^ 67 := Nat.lt_of_lt_of_le (by decide : 2 < 1000000000 ^ 1) (Nat.pow_le_pow_right (by decide) (by decide))
  by_cases hz : 0 ≤ evB b
  · have e1 : eN b = 0 := by unfold eN; omega
    have e2 : evB b = ((eP b : Nat) : Int) := by unfold eP; omega
    rw [e1, e2, Nat.pow_zero]
    exact twoToP (eP b) (2 ^ eP b) 67 (by unfold eP; omega) rfl (by omega) (by omega) (Nat.lt_of_lt_of_le (pow2_lt (eP b) K (by unfold eP; omega)) (Nat.le_trans p4 p6)) p2 W
  · have e1 : eP b = 0 := by unfold eP; omega
    have e2 : evB b = -((eN b : Nat) : Int) := by unfold eN; omega
    rw [e1, e2, Nat.pow_zero]
    exact twoToN (eN b) (2 ^ eN b) 67 (by unfold eN; omega) (by unfold eN; omega) rfl (by omega) (by omega) (Nat.lt_of_lt_of_le (pow2_lt (eN b) K (by unfold eN; omega)) (Nat.le_trans p4 p6)) p2 W
/-- A finite float's number. -/
def qB (b : Nat) : Rat := Cub.valQ (negB b) (mvB b * 2 ^ eP b) (2 ^ eN b)
theorem bnds (b K : Nat) (hK : K = 400) (h : finB b = true) : mvB b * 2 ^ eP b < 10 ^ 600 ∧ 2 ^ eP b < 10 ^ 600 ∧ 2 ^ eN b < 10 ^ 600 := by
  obtain ⟨h1, h2⟩ := fin_ev b h
  have hm := fin_mv b
  have p4 := up600 K 600 hK rfl
  have p5 := up620 K 600 hK rfl
  exact ⟨Nat.lt_of_lt_of_le (mulp_lt (mvB b) (eP b) K (by omega) (by unfold eP; omega)) p5, Nat.lt_of_lt_of_le (pow2_lt (eP b) K (by unfold eP; omega)) p4, Nat.lt_of_lt_of_le (pow2_lt (eN b) K (by unfold eN; omega)) p4⟩
theorem sT_eq (b : Bool) (n : Nat) : sT b n = if b then ⟨#[45]⟩ ++ tb n else tb n := rfl
/-- What Exact answers. -/
noncomputable def exV (b : Nat) : Value := if nanB b then .tuple #[.agg #[.string ⟨#[]⟩, .string ⟨#[]⟩], .int .i64 30] else if infB b then .tuple #[.agg #[.string ⟨#[]⟩, .string ⟨#[]⟩], .int .i64 31] else .tuple #[.agg #[.string (numT (qB b)), .string (denT (qB b))], .int .i64 (errT (qB b))]
theorem fin_of (b : Nat) (h1 : nanB b = false) (h2 : infB b = false) : finB b = true := by
  unfold nanB at h1; unfold infB at h2; unfold finB
  have h1 := of_decide_eq_false h1; have h2 := of_decide_eq_false h2
  exact decide_eq_true (by omega)
theorem exact_any (b : Nat) (hb : b < 18446744073709551616) (w : World) (htab : Tab w) : Calls Tryz.prog 14 #[.float .f64 b] w fun r w' => r = .returned (exV b) ∧ Below w.heap.size w w' := by
  obtain ⟨V, hV⟩ : ∃ V, V = w.alloc (.cells #[.string ⟨#[]⟩, .string ⟨#[]⟩] 23) := ⟨_, rfl⟩
  have HR : Hid (T2 V w.heap.size (.string ⟨#[]⟩) (.string ⟨#[]⟩)) := by rw [hV]; exact ⟨by simp [go_sem], by simp [go_sem], by simp [go_sem], by simp [go_sem]⟩
  have HB : Hid (Below w.heap.size w V) := by rw [hV]; exact (Below.refl _ _).alloc (Nat.le_refl _) _
  have HTW := hide htab
  have HN := hide (fun W => isNaN_any b W)
  have HI := hide (fun W => isInf_0 b hb W)
  have HV := hide hV
  clear hV htab
  unfold exV
  by_cases hn : nanB b = true
  · rw [hn] at HN ⊢
    rw [if_pos rfl]
    clear hn HI
    go_enter Tryz.func14, Tryz.ntmps14
    go_upto_region 1 with fail
    rw [← unhide HV]
    clear HV
    have q0 := (unhide HR).c0; have q1 := (unhide HR).c1; have f0 := (unhide HR).f0; have f1 := (unhide HR).f1
    go_wp2_with (go_at_call 36; refine (unhide HN _).mono ?_; rintro e w1 ⟨rfl, hw⟩; obtain rfl : V = w1 := hw.symm)
    have hS := (unhide HR).store (.string ⟨#[]⟩) (.string ⟨#[]⟩)
    have v0 := hS.c0; have v1 := hS.c1
    exact bodyPost_ret (v := .tuple #[.agg #[.string ⟨#[]⟩, .string ⟨#[]⟩], .int .i64 30]) (w := store2 V w.heap.size (.string ⟨#[]⟩) (.string ⟨#[]⟩)) (by simp [results, Tryz.results14, go_sem, v0, v1]) rfl ⟨rfl, below_store2 (unhide HB) (Nat.le_refl _) _ _⟩
  · have hn' : nanB b = false := by simpa using hn
    rw [hn'] at HN ⊢
    rw [if_neg (by decide)]
    clear hn
    by_cases hi : infB b = true
    · rw [hi] at HI ⊢
      rw [if_pos rfl]
      clear hi hn'
      go_enter Tryz.func14, Tryz.ntmps14
      go_upto_region 1 with fail
      rw [← unhide HV]
      clear HV
      have q0 := (unhide HR).c0; have q1 := (unhide HR).c1; have f0 := (unhide HR).f0; have f1 := (unhide HR).f1
      go_wp2_with (first
        | (go_at_call 36; refine (unhide HN _).mono ?_; rintro e w1 ⟨rfl, hw⟩; obtain rfl : V = w1 := hw.symm)
        | (go_at_call 37; refine (unhide HI _).mono ?_; rintro e w1 ⟨rfl, hw⟩; obtain rfl : V = w1 := hw.symm))
      have hS := (unhide HR).store (.string ⟨#[]⟩) (.string ⟨#[]⟩)
      have v0 := hS.c0; have v1 := hS.c1
      exact bodyPost_ret (v := .tuple #[.agg #[.string ⟨#[]⟩, .string ⟨#[]⟩], .int .i64 31]) (w := store2 V w.heap.size (.string ⟨#[]⟩) (.string ⟨#[]⟩)) (by simp [results, Tryz.results14, go_sem, v0, v1]) rfl ⟨rfl, below_store2 (unhide HB) (Nat.le_refl _) _ _⟩
    · have hi' : infB b = false := by simpa using hi
      have hf := fin_of b hn' hi'
      rw [hi'] at HI ⊢
      rw [if_neg (by decide)]
      obtain ⟨K, hK⟩ : ∃ K, K = 400 := ⟨_, rfl⟩
      obtain ⟨b1, b2, b3⟩ := bnds b K hK hf
      have p6 := pow600
      have hmv := fin_mv b
      have hmk : mvB b < 1000000000 ^ 67 := Nat.lt_of_lt_of_le (by omega : mvB b < 1000000000 ^ 2) (Nat.pow_le_pow_right (by decide) (by decide))
      have h1k : 1 < 1000000000 ^ 67 := Nat.lt_of_lt_of_le (by decide : 1 < 1000000000 ^ 1) (Nat.pow_le_pow_right (by decide) (by decide))
      have HSZ := hide (fun W => sizeOf_any b (mvB b) (evB b) (2 ^ eP b) (2 ^ eN b) 67 W (cut_any b hb) (by omega) (fun W' => two_e b K hK hf W') (by omega) ⟨hmk, h1k, Nat.lt_of_lt_of_le b2 p6, Nat.lt_of_lt_of_le b3 p6⟩)
      have hq0 : 2 ^ eN b ≠ 0 := Nat.pos_iff_ne_zero.1 (Nat.two_pow_pos _)
      have HNE := hide (fun W (ht : Tab W) => new_ok (sT (negB b) (mvB b * 2 ^ eP b)) (tb (2 ^ eN b)) (negB b) (mvB b * 2 ^ eP b) (2 ^ eN b) W rfl rfl b1 b3 hq0 ht)
      unfold Ans at HNE
      have HXA := hide (fun W v (h : IsBig W v (mvB b * 2 ^ eP b)) (ht : Tab W) => text_any v _ 67 W h (by omega) (Nat.lt_of_lt_of_le b1 p6) ht)
      have HXB := hide (fun W v (h : IsBig W v (1 * 2 ^ eN b)) (ht : Tab W) => text_any v _ 67 W h (by omega) (by rw [Nat.one_mul]; exact Nat.lt_of_lt_of_le b3 p6) ht)
      rw [show (⟨(Lib.decDigits (mvB b * 2 ^ eP b)).toArray⟩ : ByteArray) = tb (mvB b * 2 ^ eP b) from (tx_tb _ b1).symm] at HXA
      rw [Nat.one_mul, show (⟨(Lib.decDigits (2 ^ eN b)).toArray⟩ : ByteArray) = tb (2 ^ eN b) from (tx_tb _ b3).symm] at HXB
      have HLS : Hid ((FloatKind.f64.format.order b 0 == some Ordering.lt) = negB b) := lt_zero b (of_decide_eq_true hf) hb
      have HST := hide (sT_eq (negB b) (mvB b * 2 ^ eP b))
      have HZA : Hid ((tb (mvB b * 2 ^ eP b)).size ≤ 600) := (tb_digs _ b1).2
      change Hid (∀ W : World, _) at HNE
      have hqd : qB b = Cub.valQ (negB b) (mvB b * 2 ^ eP b) (2 ^ eN b) := rfl
      rw [← hqd] at HNE
      clear hqd hq0 hmk h1k hmv p6 b1 b2 b3 hK hf hi' hn' hi
      rw [Nat.one_mul] at HSZ
      generalize numT (qB b) = rn at *
      generalize denT (qB b) = rd at *
      generalize errT (qB b) = re at *
      generalize tb (mvB b * 2 ^ eP b) = sa at *
      generalize tb (2 ^ eN b) = sb at *
      generalize mvB b * 2 ^ eP b = na at *
      generalize 2 ^ eN b = nb at *
      generalize sT (negB b) na = sg at *
      have hsz : sa.size ≤ 600 := unhide HZA
      have hszI : (sa.size : Int) ≤ 600 := by omega
      have hls := unhide HLS
      generalize hng : negB b = ng at *
      cases ng
      all_goals
        obtain rfl := unhide HST
        go_enter Tryz.func14, Tryz.ntmps14
        go_upto_region 1 with fail
        rw [← unhide HV]
        clear HV
        go_upto_region 6 with (first
          | (go_at_call 36; refine (unhide HN _).mono ?_; rintro e w1 ⟨rfl, hw⟩; obtain rfl : V = w1 := hw.symm)
          | (go_at_call 37; refine (unhide HI _).mono ?_; rintro e w1 ⟨rfl, hw⟩; obtain rfl : V = w1 := hw.symm)
          | (go_at_call 38; refine (unhide HSZ _).mono ?_; rintro e W2 ⟨v, rfl, hv, hb2⟩; obtain ⟨a1, l1, c1, a2, l2, c2, rfl, hx1, hx2⟩ := hv; have HR2 := hide ((unhide HR).later hb2); have HB2 : Hid (Below w.heap.size w W2) := (unhide HB).trans (hb2.mono (unhide HB).size); have HX1 := hide hx1; have HX2 := hide hx2; clear hb2 hx1 hx2))
        obtain ⟨Y, hY⟩ : ∃ Y, Y = W2.alloc (.cells #[.slice a1 l1 c1, .slice a2 l2 c2] 54) := ⟨_, rfl⟩
        have HT : Hid (T2 Y W2.heap.size (.slice a1 l1 c1) (.slice a2 l2 c2)) := by rw [hY]; exact ⟨by simp [go_sem], by simp [go_sem], by simp [go_sem], by simp [go_sem]⟩
        have hby : Below W2.heap.size W2 Y := by rw [hY]; exact (Below.refl _ _).alloc (Nat.le_refl _) _
        have HR3 := hide ((unhide HR2).later hby); have HB3 : Hid (Below w.heap.size w Y) := (unhide HB2).trans (hby.mono (unhide HB2).size); have HY1 := hide ((unhide HX1).later hby); have HY2 := hide ((unhide HX2).later hby)
        rw [← hY]
        clear hY hby HX1 HX2 HR2 HB2
        generalize W2.heap.size = gY at *
        have y0 := (unhide HT).c0; have y1 := (unhide HT).c1
        go_upto_region 7 with (go_at_call 39; refine (unhide HXA _ _ (unhide HY1) ((unhide HTW).later (unhide HB3))).mono ?_; rintro e W4 ⟨rfl, hb⟩; have HT4 := hide ((unhide HT).later hb); have HR4 := hide ((unhide HR3).later hb); have HB4 : Hid (Below w.heap.size w W4) := (unhide HB3).trans (hb.mono (unhide HB3).size); have HY4 := hide ((unhide HY2).later hb); clear hb y0 y1)
        clear HXA HY1 HY2 HT HR3 HB3
        have y0 := (unhide HT4).c0; have y1 := (unhide HT4).c1
        go_wp2_with (first
          | (go_at_call 39; refine (unhide HXB _ _ (unhide HY4) ((unhide HTW).later (unhide HB4))).mono ?_; rintro e W5 ⟨rfl, hb⟩; have HR5 := hide ((unhide HR4).later hb); have HB5 : Hid (Below w.heap.size w W5) := (unhide HB4).trans (hb.mono (unhide HB4).size); clear hb y0 y1)
          | (go_at_call 40; refine (unhide HNE _ ((unhide HTW).later (unhide HB5))).mono ?_; rintro e W6 ⟨rfl, hb⟩; have HR6 := hide ((unhide HR5).later hb); have HB6 : Hid (Below w.heap.size w W6) := (unhide HB5).trans (hb.mono (unhide HB5).size); clear hb; have q0 := (unhide HR6).c0; have q1 := (unhide HR6).c1; have f0 := (unhide HR6).f0; have f1 := (unhide HR6).f1))
        have hS := (unhide HR6).store (.string rn) (.string rd)
        have v0 := hS.c0; have v1 := hS.c1
        exact bodyPost_ret (v := .tuple #[.agg #[.string rn, .string rd], .int .i64 re]) (w := store2 W6 w.heap.size (.string rn) (.string rd)) (by simp [results, Tryz.results14, go_sem, v0, v1]) rfl ⟨rfl, below_store2 (unhide HB6) (Nat.le_refl _) _ _⟩
theorem exV_fin (b : Nat) (hn : nanB b = false) (hi : infB b = false) : exV b = .tuple #[.agg #[.string (numT (qB b)), .string (denT (qB b))], .int .i64 (errT (qB b))] := by
  unfold exV; rw [hn, hi]; rfl
end Go.Proofs.YtijifpbpjinmhaaGreatDoor

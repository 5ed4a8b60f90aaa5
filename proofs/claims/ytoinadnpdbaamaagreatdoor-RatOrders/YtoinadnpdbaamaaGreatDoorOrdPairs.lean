/- rat.Round. -/
import Derived.Test.YtoinadnpdbaamaaGreatDoorNear
import Derived.Test.YtoinadnpdbaamaaGreatDoorRefRound
import Derived.Test.YtoinadnpdbaamaaGreatDoorPairs
import Derived.Test.YtoinadnpdbaamaaGreatDoorRefOk
import Derived.Test.YtoinadnpdbaamaaGreatDoorFloor
import Derived.Test.YtoinadnpdbaamaaGreatDoorOrdNo
namespace Go.Proofs.YtoinadnpdbaamaaGreatDoor
open Go.RowKit

theorem pow_limbs {n e k : Nat} (h : n < 10 ^ e) (hk : e ≤ 9 * k) : n < 1000000000 ^ k := by
  have : (1000000000 : Nat) ^ k = 10 ^ (9 * k) := by rw [Nat.pow_mul]
  rw [this]
  exact Nat.lt_of_lt_of_le h (Nat.pow_le_pow_right (by omega) hk)
/-- The arguments, a Frac, and two numbers in their boxes. -/
structure NumDen (w W : World) (n1 d1 : ByteArray) (g6 : Nat) (x y z : Value) (g8 g9 : Nat) (u v : Value) : Prop where
  n : N1 w W (.string n1) (.string d1)
  f : FBox W g6 x y z
  p : Box W g8 u
  q : Box W g9 v
  ne : g8 ≠ g9
  h6 : w.heap.size + 1 < g6
  h8 : w.heap.size + 1 < g8
  h9 : w.heap.size + 1 < g9
  n68 : g6 ≠ g8
  n69 : g6 ≠ g9
theorem N1.otherBox {w W : World} {x y : Value} (h : N1 w W x y) {g : Nat} (hg : w.heap.size + 1 < g) (u : Value) : N1 w (W.setCell ⟨g, 0, none⟩ u) x y :=
  ⟨h.a.otherAt (by omega) u, h.r.otherAt (by omega) u, h.below.setCell (p := ⟨g, 0, none⟩) (by show w.heap.size ≤ g; omega) u⟩
section
variable {w W V : World} {n1 d1 : ByteArray} {g6 g8 g9 : Nat} {x y z u v : Value}
theorem NumDen.later (h : NumDen w W n1 d1 g6 x y z g8 g9 u v) (hb : Below W.heap.size W V) : NumDen w V n1 d1 g6 x y z g8 g9 u v :=
  ⟨h.n.later hb, h.f.later hb, h.p.later hb, h.q.later hb, h.ne, h.h6, h.h8, h.h9, h.n68, h.n69⟩
theorem NumDen.setP (h : NumDen w W n1 d1 g6 x y z g8 g9 u v) (t : Value) : NumDen w (W.setCell ⟨g8, 0, none⟩ t) n1 d1 g6 x y z g8 g9 t v :=
  ⟨h.n.otherBox h.h8 t, h.f.otherAt h.n68 t, h.p.set t, h.q.other h.ne.symm t, h.ne, h.h6, h.h8, h.h9, h.n68, h.n69⟩
theorem NumDen.setQ (h : NumDen w W n1 d1 g6 x y z g8 g9 u v) (t : Value) : NumDen w (W.setCell ⟨g9, 0, none⟩ t) n1 d1 g6 x y z g8 g9 u t :=
  ⟨h.n.otherBox h.h9 t, h.f.otherAt h.n69 t, h.p.other h.ne t, h.q.set t, h.ne, h.h6, h.h8, h.h9, h.n68, h.n69⟩
end
theorem Box.new72 (w : World) (v : Value) : Box (w.alloc (.cells #[v] 72)) w.heap.size v := ⟨by simp [go_sem], by simp [go_sem]⟩

set_option maxRecDepth 100000 in
set_option maxHeartbeats 4000000 in
theorem rround_ok (n1 d1 : ByteArray) (x : Rat) (j : Int) (w : World) (h1 : IsR n1 d1 x) (hj1 : -600 ≤ j) (hj2 : j ≤ 600) (htab : Tab w) :
    Ans 51 #[.agg #[.string n1, .string d1], .int .i64 j] w (numT (roundQ x j)) (denT (roundQ x j)) (errT (roundQ x j)) := by
  unfold Ans
  obtain ⟨V, hV⟩ : ∃ V, V = (w.alloc (.cells #[.string n1, .string d1] 23)).alloc (.cells #[.string ⟨#[]⟩, .string ⟨#[]⟩] 23) := ⟨_, rfl⟩
  have HS : Hid (N1 w V (.string n1) (.string d1)) := by rw [hV]; exact N1.first _ _ _
  have HV := hide hV
  have HR := hide (qread n1 d1 x V h1)
  have hb6 : Bd 600 x := h1.bd
  have e6 : (600 : Int) = ((600 : Nat) : Int) := rfl
  have HNR : Hid (∀ W v, QOf W v x 67 → Calls Tryz.prog 86 #[v, .int .i64 j] W fun e w' => ∃ a l c, e = .returned (.agg #[.slice a l c]) ∧ IsBig w' (.agg #[.slice a l c]) (stepsN x j) ∧ Below W.heap.size W w') := fun W v hv => by
    obtain ⟨b, n, d, hf, hl, hvq, hn, hd⟩ := hv
    obtain ⟨l1, l2, l3⟩ := Cub.low_is hl
    rw [hvq] at l1 l2 l3
    have hN := rN_lt (x := x) (p := j) (e := 600) hb6 (by omega)
    have hD := rD_lt (x := x) (p := j) (e := 600) hb6 (by omega)
    have hD0 := rD_pos x j
    unfold stepsN
    rw [← l2] at hN ⊢
    rw [← l3] at hD hD0 ⊢
    refine nearest_any v b n d _ _ 134 j W hf (by omega) (by omega) (by omega) (Nat.lt_of_lt_of_le hn (Nat.pow_le_pow_right (by omega) (by omega))) (Nat.lt_of_lt_of_le hd (Nat.pow_le_pow_right (by omega) (by omega))) (pow_limbs hN (by omega)) (pow_limbs hD (by omega)) hD0 ?_
    unfold rN rD
    by_cases hj : j < 0
    · left; rw [if_pos hj, if_pos hj]; exact ⟨hj, rfl, rfl⟩
    · right; rw [if_neg hj, if_neg hj]; exact ⟨hj, rfl, rfl⟩
  have hs := pow_limbs (k := 134) (stepsN_lt (x := x) (p := j) (e := 600) hb6 (by omega)) (by omega)
  have hm := pow_limbs (k := 134) (roundM_lt (x := x) (p := j) (e := 600) hb6 (by omega) (by omega)) (by omega)
  have hd := pow_limbs (k := 134) (roundD_lt (d := 600) (p := j) (e := 600) (by omega)) (by omega)
  have h0 := roundD_pos j
  have HBO : Hid (∀ W, Calls Tryz.prog 112 #[.int .u64 1] W fun e w' => ∃ a l c, e = .returned (.agg #[.slice a l c]) ∧ IsBig w' (.agg #[.slice a l c]) 1 ∧ Below W.heap.size W w') := fun W => bigOf_any 1 W (by decide)
  have HSP : Hid (j < 0 → ∀ W y, IsBig W y (stepsN x j) → Calls Tryz.prog 114 #[y, .int .i64 (-j)] W fun e w' => ∃ a l c, e = .returned (.agg #[.slice a l c]) ∧ IsBig w' (.agg #[.slice a l c]) (roundM x j) ∧ Below W.heap.size W w') := fun hj W y hy => by
    obtain ⟨q, hq⟩ : ∃ q : Nat, -j = (q : Int) := ⟨(-j).toNat, by omega⟩
    have e : roundM x j = stepsN x j * 10 ^ q := by unfold roundM; rw [if_pos hj, show (-j).toNat = q by omega]
    rw [e, hq]
    exact shift_any y _ q 134 W hy (by omega) hs (by omega)
  have HSQ : Hid (¬ j < 0 → ∀ W y, IsBig W y 1 → Calls Tryz.prog 114 #[y, .int .i64 j] W fun e w' => ∃ a l c, e = .returned (.agg #[.slice a l c]) ∧ IsBig w' (.agg #[.slice a l c]) (roundD j) ∧ Below W.heap.size W w') := fun hj W y hy => by
    obtain ⟨q, hq⟩ : ∃ q : Nat, j = (q : Int) := ⟨j.toNat, by omega⟩
    have e : roundD j = 1 * 10 ^ q := by unfold roundD; rw [if_neg hj, show j.toNat = q by omega, Nat.one_mul]
    rw [e, hq]
    exact shift_any y _ q 134 W hy (by omega) (Nat.one_lt_pow (by omega) (by omega)) (by omega)
  have HEQ : Hid ((j < 0 → 1 = roundD j) ∧ (¬ j < 0 → stepsN x j = roundM x j)) := by
    unfold roundD roundM
    exact ⟨fun h => by rw [if_pos h], fun h => by rw [if_neg h]⟩
  have HRA : Hid (∀ b W y z, b = decide (x < 0) → IsBig W y (roundM x j) → IsBig W z (roundD j) → Calls Tryz.prog 70 #[.bool b, y, z] W fun e w' => ∃ v', e = .returned v' ∧ QOf w' v' (roundQ x j) 134 ∧ Below W.heap.size W w') := fun b W y z hbx hy hz => by
    subst hbx
    refine (ratio_any _ y z _ _ 134 W hy hz hm hd h0 (divAns 134 (by omega)) (gcdAns 134 (by omega))).mono ?_
    rintro e w' ⟨v', rfl, hf, hb⟩
    obtain ⟨l1, l2⟩ := Cub.ratio_low (b := decide (x < 0)) (n := roundM x j) h0
    exact ⟨v', rfl, ⟨_, _, _, hf, l1, l2, Nat.lt_of_le_of_lt (Nat.div_le_self _ _) hm, Nat.lt_of_le_of_lt (Nat.div_le_self _ _) hd⟩, hb⟩
  have HSG : Hid (∀ W b s t, QOf W (.agg #[.bool b, s, t]) x 67 → b = decide (x < 0)) := fun W b s t h => by
    obtain ⟨b', n, d, ⟨s', t', e, _⟩, hl, hvq, _⟩ := h
    obtain ⟨l1, _, _⟩ := Cub.low_is hl
    rw [hvq] at l1
    simp only [Value.agg.injEq, Array.mk.injEq, List.cons.injEq, Value.bool.injEq] at e
    rw [e.1]; exact l1
  have k1 : ¬ j < -600 := by omega
  have k2 : ¬ 600 < j := by omega
  have HT := hide htab
  generalize roundQ x j = rq at *
  generalize roundM x j = rm at *
  generalize roundD j = rd at *
  generalize stepsN x j = sn at *
  clear h1 hb6 hs hm hd h0 htab e6
  go_enter Tryz.func51, Tryz.ntmps51
  go_upto_region 1 with fail
  rw [← unhide HV]
  clear hV HV
  have t0 := (unhide HS).a.c0; have t1 := (unhide HS).a.c1
  go_upto_region 2 with (go_at_call 76; go_must (refine (unhide HR).mono ?_; rintro e w1 ⟨v1, rfl, hv1, hb1⟩; obtain ⟨b1, i1, i2, i3, i4, i5, i6, rfl⟩ := hv1.form; have HS1 := hide ((unhide HS).later hb1); have HV1 := hide hv1; clear hv1 hb1 t0 t1))
  obtain ⟨V2, hV2⟩ : ∃ V2, V2 = w1.alloc (.cells #[.bool b1, .slice i1 i2 i3, .slice i4 i5 i6] 74) := ⟨_, rfl⟩
  have hb : Below w1.heap.size w1 V2 := by rw [hV2]; exact (Below.refl _ _).alloc (Nat.le_refl _) _
  have HS2 := hide ((unhide HS1).later hb); have HX := hide ((unhide HV1).later hb)
  have HP : Hid (FBox V2 w1.heap.size (.bool b1) (.slice i1 i2 i3) (.slice i4 i5 i6)) := by rw [hV2]; exact FBox.new _ _ _ _
  have hg6 : w.heap.size + 1 < w1.heap.size := (unhide HS1).r.lt
  rw [← hV2]
  clear hV2 hb HS HS1 HV1 HR
  generalize w1.heap.size = g6 at *
  have t0 := (unhide HP).c0; have t1 := (unhide HP).c1; have t2 := (unhide HP).c2
  have HSGN := hide (unhide HSG _ _ _ _ (unhide HX))
  clear HSG
  go_upto_if 30 with (first
    | (go_at_call 86; go_must (refine (unhide HNR _ _ (unhide HX)).mono ?_; rintro e w3 ⟨a3, l3, c3, rfl, hv3, hb3⟩; have HS3 := hide ((unhide HS2).later hb3); have HP3 := hide ((unhide HP).later hb3); have HN3 := hide hv3; clear hv3 hb3 t0 t1 t2))
    | (go_at_call 112; go_must (refine (unhide HBO _).mono ?_; rintro e w4 ⟨a4, l4, c4, rfl, hv4, hb4⟩; have HS4 := hide ((unhide HS3).later hb4); have HP4 := hide ((unhide HP3).later hb4); have HN4 := hide ((unhide HN3).later hb4); have HD4 := hide hv4; clear hv4 hb4)))
  obtain ⟨V5, hV5⟩ : ∃ V5, V5 = (w4.alloc (.cells #[.slice a3 l3 c3] 72)).alloc (.cells #[.slice a4 l4 c4] 72) := ⟨_, rfl⟩
  have hb5 : Below w4.heap.size w4 V5 := by rw [hV5]; exact ((Below.refl _ _).alloc (Nat.le_refl _) _).alloc (by simp) _
  have g48 : g6 < w4.heap.size := (unhide HP4).lt
  have HS5 : Hid (NumDen w V5 n1 d1 g6 (.bool b1) (.slice i1 i2 i3) (.slice i4 i5 i6) w4.heap.size (w4.heap.size + 1) (.slice a3 l3 c3) (.slice a4 l4 c4)) := by
    refine ⟨(unhide HS4).later hb5, (unhide HP4).later hb5, ?_, ?_, by omega, hg6, by omega, by omega, by omega, by omega⟩
    · rw [hV5]; exact (Box.new72 w4 _).later ((Below.refl _ _).alloc (Nat.le_refl _) _)
    · have := Box.new72 (w4.alloc (.cells #[.slice a3 l3 c3] 72)) (.slice a4 l4 c4)
      rw [show (w4.alloc (.cells #[.slice a3 l3 c3] 72)).heap.size = w4.heap.size + 1 by simp] at this
      rw [hV5]; exact this
  have HN5 := hide ((unhide HN4).later hb5); have HD5 := hide ((unhide HD4).later hb5)
  rw [← hV5]
  clear hV5 hb5 g48 HS2 HS3 HS4 HP HP3 HP4 HN3 HN4 HD4 HX HNR HBO
  generalize w4.heap.size = g8 at *
  generalize g8 + 1 = g9 at *
  have u8 := (unhide HS5).p.c; have u9 := (unhide HS5).q.c
  go_cut [] from 10 (fun wx => ∃ (a7 a8 : Option Addr) (l7 c7 l8 c8 : Nat), Hid (NumDen w wx n1 d1 g6 (.bool b1) (.slice i1 i2 i3) (.slice i4 i5 i6) g8 g9 (.slice a7 l7 c7) (.slice a8 l8 c8)) ∧ Hid (IsBig wx (.agg #[.slice a7 l7 c7]) rm) ∧ Hid (IsBig wx (.agg #[.slice a8 l8 c8]) rd))
  case first =>
    by_cases hj : j < 0
    · have HSX := hide (unhide HSP hj)
      have HE1 := hide ((unhide HEQ).1 hj)
      go_wp2_with (go_at_call 114; go_must (refine (unhide HSX _ _ (unhide HN5)).mono ?_; rintro e w6 ⟨a6, l6, c6, rfl, hv6, hb6⟩; have HS6 := hide ((unhide HS5).later hb6); have HD6 := hide ((unhide HD5).later hb6); have HN6 := hide hv6; clear hv6 hb6 u8 u9; have u8 := (unhide HS6).p.c; have f8 := (unhide HS6).p.f))
      go_meet
      refine ⟨a6, a4, l6, c6, l4, c4, (unhide HS6).setP _, (unhide HN6).box _ u8 (not_int _ _ _), ?_⟩
      have := (unhide HD6).box (.slice a6 l6 c6) u8 (not_int _ _ _)
      rw [unhide HE1] at this
      exact this
    · have HSX := hide (unhide HSQ (by omega))
      have HE1 := hide ((unhide HEQ).2 (by omega))
      go_wp2_with (go_at_call 114; go_must (refine (unhide HSX _ _ (unhide HD5)).mono ?_; rintro e w6 ⟨a6, l6, c6, rfl, hv6, hb6⟩; have HS6 := hide ((unhide HS5).later hb6); have HN6 := hide ((unhide HN5).later hb6); have HD6 := hide hv6; clear hv6 hb6 u8 u9; have u9 := (unhide HS6).q.c; have f9 := (unhide HS6).q.f))
      go_meet
      refine ⟨a3, a6, l3, c3, l6, c6, (unhide HS6).setQ _, ?_, (unhide HD6).box _ u9 (not_int _ _ _)⟩
      have := (unhide HN6).box (.slice a6 l6 c6) u9 (not_int _ _ _)
      rw [unhide HE1] at this
      exact this
  case rest =>
    obtain ⟨a7, a8, l7, c7, l8, c8, HS7, HN7, HD7⟩ := hcut
    clear HS5 HN5 HD5 HSP HSQ HEQ u8 u9
    have u8 := (unhide HS7).p.c; have u9 := (unhide HS7).q.c; have t0 := (unhide HS7).f.c0
    go_wp2_with (first
      | (go_at_call 70; go_must (refine (unhide HRA _ _ _ _ (unhide HSGN) (unhide HN7) (unhide HD7)).mono ?_; rintro e w8 ⟨v8, rfl, hv8, hb8⟩; have HV8 := hide hv8; have HS8 := hide ((unhide HS7).later hb8); clear hv8 hb8 u8 u9 t0))
      | (go_at_call 72; go_must (refine (qtell _ _ 134 _ (unhide HV8) (by decide) ((unhide HT).later (unhide HS8).n.below)).mono ?_; rintro e w9 ⟨rfl, hb9⟩; have HS9 := hide ((unhide HS8).n.later hb9); clear hb9; have r0 := (unhide HS9).r.c0; have r1 := (unhide HS9).r.c1; have rf0 := (unhide HS9).r.f0; have rf1 := (unhide HS9).r.f1)))
    have hS := (unhide HS9).r.store (.string (numT rq)) (.string (denT rq))
    have hb : Below w.heap.size w (store2 w9 (w.heap.size + 1) (.string (numT rq)) (.string (denT rq))) := below_store2 (unhide HS9).below (by omega) _ _
    have u0 := hS.c0; have u1 := hS.c1
    exact bodyPost_ret (v := .tuple #[.agg #[.string (numT rq), .string (denT rq)], .int .i64 (errT rq)]) (w := store2 w9 (w.heap.size + 1) (.string (numT rq)) (.string (denT rq))) (by simp [results, Tryz.results51, go_sem, u0, u1]) rfl ⟨rfl, hb⟩
end Go.Proofs.YtoinadnpdbaamaaGreatDoor

namespace Go.Proofs.YtoinadnpdbaamaaGreatDoor
open Go.RowKit

set_option maxRecDepth 100000 in
set_option maxHeartbeats 2000000 in
theorem refDown_walk (b b4 z : Bool) (s t q r q1 s4 t4 : ByteArray) (w : World) (hz : (r.toList == [48]) = z)
    (hD : ∀ W, Calls Tryz.prog 119 #[.string s, .string t] W fun e w' => e = .returned (.tuple #[.string q, .string r]) ∧ Below W.heap.size W w')
    (hP : ∀ W, Calls Tryz.prog 120 #[.string q, .string ⟨#[49]⟩] W fun e w' => e = .returned (.string q1) ∧ Below W.heap.size W w')
    (hL : ∀ W, Calls Tryz.prog 75 #[.bool b, .string (if b && !z then q1 else q), .string ⟨#[49]⟩] W fun e w' => e = .returned (.agg #[.bool b4, .string s4, .string t4]) ∧ Below W.heap.size W w') :
    Calls Tryz.prog 113 #[.agg #[.bool b, .string s, .string t]] w fun e w' => e = .returned (.agg #[.bool b4, .string s4, .string t4]) ∧ Below w.heap.size w w' := by
  obtain ⟨V, hV⟩ : ∃ V, V = (w.alloc (.cells #[.bool b, .string s, .string t] 61)).alloc (.cells #[.bool false, .string ⟨#[]⟩, .string ⟨#[]⟩] 61) := ⟨_, rfl⟩
  have HB : Hid (Below w.heap.size w V) := by rw [hV]; exact ((Below.refl _ _).alloc (Nat.le_refl _) _).alloc (by simp) _
  have HR : Hid (FBox V (w.heap.size + 1) (.bool false) (.string ⟨#[]⟩) (.string ⟨#[]⟩)) := by rw [hV]; exact ⟨by simp [go_sem], by simp [go_sem], by simp [go_sem], by simp [go_sem], by simp [go_sem], by simp [go_sem]⟩
  have HF : Hid (FBox V w.heap.size (.bool b) (.string s) (.string t)) := by rw [hV]; exact ⟨by simp [go_sem], by simp [go_sem], by simp [go_sem], by simp [go_sem], by simp [go_sem], by simp [go_sem]⟩
  have HV := hide hV
  have HD := hide hD; have HP := hide hP; have HL := hide hL
  clear hD hP hL
  go_enter Tryz.func113, Tryz.ntmps113
  go_upto_region 1 with fail
  rw [← unhide HV]
  clear hV HV
  have t0 := (unhide HF).c0; have t1 := (unhide HF).c1; have t2 := (unhide HF).c2
  cases b <;> cases z <;> (
    simp only [Bool.false_and, Bool.true_and, Bool.not_true, Bool.not_false, Bool.false_eq_true, if_true, if_false] at HL
    go_wp2_with (first
      | (go_at_call 119; go_must (refine (unhide HD _).mono ?_; rintro e w1 ⟨rfl, hb1⟩; have HF1 := hide ((unhide HF).later hb1); have HR1 := hide ((unhide HR).later hb1); have HB1 := hide ((unhide HB).trans (hb1.mono (unhide HB).size)); clear hb1 t0 t1 t2; have t0 := (unhide HF1).c0))
      | (go_at_call 120; go_must (refine (unhide HP _).mono ?_; rintro e w2 ⟨rfl, hb2⟩; have HF2 := hide ((unhide HF1).later hb2); have HR2 := hide ((unhide HR1).later hb2); have HB2 := hide ((unhide HB1).trans (hb2.mono (unhide HB1).size)); clear hb2 t0; clear HF1 HR1 HB1; have HF1 := HF2; have HR1 := HR2; have HB1 := HB2; have t0 := (unhide HF1).c0))
      | (go_at_call 75; go_must (refine (unhide HL _).mono ?_; rintro e w3 ⟨rfl, hb3⟩; have HR3 := hide ((unhide HR1).later hb3); have HB3 := hide ((unhide HB1).trans (hb3.mono (unhide HB1).size)); clear hb3 t0; have r0 := (unhide HR3).c0; have r1 := (unhide HR3).c1; have r2 := (unhide HR3).c2; have rf0 := (unhide HR3).f0; have rf1 := (unhide HR3).f1; have rf2 := (unhide HR3).f2)))
    have hS := (unhide HR3).store (.bool b4) (.string s4) (.string t4)
    have HB9 : Below w.heap.size w (store3 w3 (w.heap.size + 1) (.bool b4) (.string s4) (.string t4)) := below_store3 (unhide HB3) (by omega) _ _ _
    have u0 := hS.c0; have u1 := hS.c1; have u2 := hS.c2
    exact bodyPost_ret (v := .agg #[.bool b4, .string s4, .string t4]) (w := store3 w3 (w.heap.size + 1) (.bool b4) (.string s4) (.string t4)) (by simp [results, Tryz.results113, go_sem, u0, u1, u2]) rfl ⟨rfl, HB9⟩)

/-- The greatest whole number not above. -/
def floorQ (x : Rat) : Rat := Cub.valQ (decide (x < 0)) (floorN (decide (x < 0)) x.num.natAbs x.den) 1
theorem floorN_le (b : Bool) (n d : Nat) : floorN b n d ≤ n + 1 := by
  unfold floorN
  have := Nat.div_le_self n d
  split <;> omega
theorem refDown (d : Nat) (x : Rat) (w : World) (hd1 : 1 ≤ d) (hd : d + 1 ≤ 5000) (hx : Bd d x) : Calls Tryz.prog 113 #[fx x] w fun r w' => r = .returned (fx (floorQ x)) ∧ Below w.heap.size w w' := by
  have px := x.den_pos
  have hq : x.num.natAbs / x.den < 10 ^ d := Nat.lt_of_le_of_lt (Nat.div_le_self _ _) hx.1
  have h1 : (1 : Nat) < 10 ^ d := Nat.one_lt_pow (by omega) (by omega)
  have hf : floorN (decide (x < 0)) x.num.natAbs x.den < 10 ^ (d + 1) := by
    have := floorN_le (decide (x < 0)) x.num.natAbs x.den
    have := hx.1
    rw [Nat.pow_succ]
    omega
  have h1' : (1 : Nat) < 10 ^ (d + 1) := Nat.one_lt_pow (by omega) (by omega)
  have hz : ((tx (x.num.natAbs % x.den)).toList == [48]) = decide (x.num.natAbs % x.den = 0) := by
    by_cases h0 : x.num.natAbs % x.den = 0
    · rw [h0, tx_zero]; rfl
    · rw [tx_pos _ (by omega), decide_eq_false h0]
  unfold floorQ
  rw [← fx_low _ _ _ (by omega)]
  refine refDown_walk (decide (x < 0)) _ _ _ _ (tx (x.num.natAbs / x.den)) _ (tx (x.num.natAbs / x.den + 1)) _ _ w hz (fun W => refDivideM d _ _ W hd1 (by omega) hx.1 hx.2 px) (fun W => by rw [← tx_one]; exact refPlusM d _ 1 W hd1 (by omega) hq h1) (fun W => ?_)
  have e : (if (decide (x < 0) && !decide (x.num.natAbs % x.den = 0)) = true then tx (x.num.natAbs / x.den + 1) else tx (x.num.natAbs / x.den)) = tx (floorN (decide (x < 0)) x.num.natAbs x.den) := by
    unfold floorN
    by_cases c : decide (x < 0) = true ∧ x.num.natAbs % x.den ≠ 0
    · rw [if_pos c, if_pos (by rw [c.1, decide_eq_false c.2]; rfl)]
    · rw [if_neg c, if_neg (fun h => c (by rw [Bool.and_eq_true] at h; exact ⟨h.1, by simpa using h.2⟩))]
  rw [e, ← tx_one]
  exact refLowestM (d + 1) _ _ 1 W (by omega) hd hf h1' (by omega)
theorem floor_bd (d : Nat) (x : Rat) (hd1 : 1 ≤ d) (hx : Bd d x) : Bd (d + 1) (floorQ x) := by
  refine bd_val _ (by omega) ?_ (Nat.one_lt_pow (by omega) (by omega))
  have := floorN_le (decide (x < 0)) x.num.natAbs x.den
  have := hx.1
  rw [Nat.pow_succ]
  omega

set_option maxRecDepth 100000 in
set_option maxHeartbeats 2000000 in
theorem refFloor_no (n1 d1 : ByteArray) (w : World) (h18 : ∀ W, Calls Tryz.prog 18 #[.agg #[.string n1, .string d1]] W fun r w' => r = .returned (.bool false) ∧ Below W.heap.size W w') : Ans 50 #[.agg #[.string n1, .string d1]] w ⟨#[]⟩ ⟨#[]⟩ 3 := by
  unfold Ans at *
  obtain ⟨V, hV⟩ : ∃ V, V = (w.alloc (.cells #[.string n1, .string d1] 23)).alloc (.cells #[.string ⟨#[]⟩, .string ⟨#[]⟩] 23) := ⟨_, rfl⟩
  have HS : Hid (N1 w V (.string n1) (.string d1)) := by rw [hV]; exact N1.first _ _ _
  have HV := hide hV
  have HA := hide h18
  clear h18
  go_enter Tryz.func50, Tryz.ntmps50
  go_upto_region 1 with fail
  rw [← unhide HV]
  clear hV HV
  have t0 := (unhide HS).a.c0; have t1 := (unhide HS).a.c1
  go_wp2_with (go_at_call 18; go_must (refine (unhide HA _).mono ?_; rintro e w1 ⟨rfl, hb1⟩; have HS1 := hide ((unhide HS).later hb1); clear hb1 t0 t1; have t0 := (unhide HS1).a.c0; have t1 := (unhide HS1).a.c1; have r0 := (unhide HS1).r.c0; have r1 := (unhide HS1).r.c1; have rf0 := (unhide HS1).r.f0; have rf1 := (unhide HS1).r.f1))
  have hS := (unhide HS1).r.store (.string ⟨#[]⟩) (.string ⟨#[]⟩)
  have hb : Below w.heap.size w (store2 w1 (w.heap.size + 1) (.string ⟨#[]⟩) (.string ⟨#[]⟩)) := below_store2 (unhide HS1).below (by omega) _ _
  have u0 := hS.c0; have u1 := hS.c1
  exact bodyPost_ret (v := .tuple #[.agg #[.string ⟨#[]⟩, .string ⟨#[]⟩], .int .i64 3]) (w := store2 w1 (w.heap.size + 1) (.string ⟨#[]⟩) (.string ⟨#[]⟩)) (by simp [results, Tryz.results50, go_sem, u0, u1]) rfl ⟨rfl, hb⟩

set_option maxRecDepth 100000 in
set_option maxHeartbeats 2000000 in
theorem refFloor_walk (n1 d1 s t : ByteArray) (er : Int) (v1 v2 : Value) (w : World) (h18 : ∀ W, Calls Tryz.prog 18 #[.agg #[.string n1, .string d1]] W fun r w' => r = .returned (.bool true) ∧ Below W.heap.size W w')
    (hrd : ∀ W, Calls Tryz.prog 62 #[.agg #[.string n1, .string d1]] W fun r w' => r = .returned v1 ∧ Below W.heap.size W w')
    (hdn : ∀ W, Calls Tryz.prog 113 #[v1] W fun r w' => r = .returned v2 ∧ Below W.heap.size W w')
    (ht : ∀ W, Ans 74 #[v2] W s t er) : Ans 50 #[.agg #[.string n1, .string d1]] w s t er := by
  unfold Ans at *
  obtain ⟨V, hV⟩ : ∃ V, V = (w.alloc (.cells #[.string n1, .string d1] 23)).alloc (.cells #[.string ⟨#[]⟩, .string ⟨#[]⟩] 23) := ⟨_, rfl⟩
  have HS : Hid (N1 w V (.string n1) (.string d1)) := by rw [hV]; exact N1.first _ _ _
  have HV := hide hV
  have HA := hide h18
  have HRD := hide hrd; have HDN := hide hdn; have HT := hide ht
  clear h18 hrd hdn ht
  go_enter Tryz.func50, Tryz.ntmps50
  go_upto_region 1 with fail
  rw [← unhide HV]
  clear hV HV
  have t0 := (unhide HS).a.c0; have t1 := (unhide HS).a.c1
  go_wp2_with (first | (go_at_call 18; go_must (refine (unhide HA _).mono ?_; rintro e w1 ⟨rfl, hb1⟩; have HS1 := hide ((unhide HS).later hb1); clear hb1 t0 t1; have t0 := (unhide HS1).a.c0; have t1 := (unhide HS1).a.c1; have r0 := (unhide HS1).r.c0; have r1 := (unhide HS1).r.c1; have rf0 := (unhide HS1).r.f0; have rf1 := (unhide HS1).r.f1)) | (go_at_call 62; go_must (refine (unhide HRD _).mono ?_; rintro e w2 ⟨rfl, hb2⟩; have HS2 := hide ((unhide HS1).later hb2); clear hb2 r0 r1 rf0 rf1; have r0 := (unhide HS2).r.c0; have r1 := (unhide HS2).r.c1; have rf0 := (unhide HS2).r.f0; have rf1 := (unhide HS2).r.f1)) | (go_at_call 113; go_must (refine (unhide HDN _).mono ?_; rintro e w3 ⟨rfl, hb2⟩; have HS3 := hide ((unhide HS2).later hb2); clear hb2 r0 r1 rf0 rf1; have r0 := (unhide HS3).r.c0; have r1 := (unhide HS3).r.c1; have rf0 := (unhide HS3).r.f0; have rf1 := (unhide HS3).r.f1)) | (go_at_call 74; go_must (refine (unhide HT _).mono ?_; rintro e w4 ⟨rfl, hb2⟩; have HS4 := hide ((unhide HS3).later hb2); clear hb2 r0 r1 rf0 rf1; have r0 := (unhide HS4).r.c0; have r1 := (unhide HS4).r.c1; have rf0 := (unhide HS4).r.f0; have rf1 := (unhide HS4).r.f1)))
  have hS := (unhide HS4).r.store (.string s) (.string t)
  have hb : Below w.heap.size w (store2 w4 (w.heap.size + 1) (.string s) (.string t)) := below_store2 (unhide HS4).below (by omega) _ _
  have u0 := hS.c0; have u1 := hS.c1
  exact bodyPost_ret (v := .tuple #[.agg #[.string s, .string t], .int .i64 er]) (w := store2 w4 (w.heap.size + 1) (.string s) (.string t)) (by simp [results, Tryz.results50, go_sem, u0, u1]) rfl ⟨rfl, hb⟩

set_option maxRecDepth 100000 in
set_option maxHeartbeats 2000000 in
theorem refRound_no (n1 d1 : ByteArray) (j : Int) (w : World) (h18 : ∀ W, Calls Tryz.prog 18 #[.agg #[.string n1, .string d1]] W fun r w' => r = .returned (.bool false) ∧ Below W.heap.size W w') : Ans 52 #[.agg #[.string n1, .string d1], .int .i64 j] w ⟨#[]⟩ ⟨#[]⟩ 3 := by
  unfold Ans at *
  obtain ⟨V, hV⟩ : ∃ V, V = (w.alloc (.cells #[.string n1, .string d1] 23)).alloc (.cells #[.string ⟨#[]⟩, .string ⟨#[]⟩] 23) := ⟨_, rfl⟩
  have HS : Hid (N1 w V (.string n1) (.string d1)) := by rw [hV]; exact N1.first _ _ _
  have HV := hide hV
  have HA := hide h18
  clear h18
  go_enter Tryz.func52, Tryz.ntmps52
  go_upto_region 1 with fail
  rw [← unhide HV]
  clear hV HV
  have t0 := (unhide HS).a.c0; have t1 := (unhide HS).a.c1
  go_wp2_with (go_at_call 18; go_must (refine (unhide HA _).mono ?_; rintro e w1 ⟨rfl, hb1⟩; have HS1 := hide ((unhide HS).later hb1); clear hb1 t0 t1; have t0 := (unhide HS1).a.c0; have t1 := (unhide HS1).a.c1; have r0 := (unhide HS1).r.c0; have r1 := (unhide HS1).r.c1; have rf0 := (unhide HS1).r.f0; have rf1 := (unhide HS1).r.f1))
  have hS := (unhide HS1).r.store (.string ⟨#[]⟩) (.string ⟨#[]⟩)
  have hb : Below w.heap.size w (store2 w1 (w.heap.size + 1) (.string ⟨#[]⟩) (.string ⟨#[]⟩)) := below_store2 (unhide HS1).below (by omega) _ _
  have u0 := hS.c0; have u1 := hS.c1
  exact bodyPost_ret (v := .tuple #[.agg #[.string ⟨#[]⟩, .string ⟨#[]⟩], .int .i64 3]) (w := store2 w1 (w.heap.size + 1) (.string ⟨#[]⟩) (.string ⟨#[]⟩)) (by simp [results, Tryz.results52, go_sem, u0, u1]) rfl ⟨rfl, hb⟩

set_option maxRecDepth 100000 in
set_option maxHeartbeats 2000000 in
theorem refRound_arg (n1 d1 : ByteArray) (j : Int) (w : World) (h18 : ∀ W, Calls Tryz.prog 18 #[.agg #[.string n1, .string d1]] W fun r w' => r = .returned (.bool true) ∧ Below W.heap.size W w') (hj : j < -600 ∨ 600 < j) : Ans 52 #[.agg #[.string n1, .string d1], .int .i64 j] w ⟨#[]⟩ ⟨#[]⟩ 1 := by
  unfold Ans at *
  obtain ⟨V, hV⟩ : ∃ V, V = (w.alloc (.cells #[.string n1, .string d1] 23)).alloc (.cells #[.string ⟨#[]⟩, .string ⟨#[]⟩] 23) := ⟨_, rfl⟩
  have HS : Hid (N1 w V (.string n1) (.string d1)) := by rw [hV]; exact N1.first _ _ _
  have HV := hide hV
  have HA := hide h18
  clear h18
  go_enter Tryz.func52, Tryz.ntmps52
  go_upto_region 1 with fail
  rw [← unhide HV]
  clear hV HV
  have t0 := (unhide HS).a.c0; have t1 := (unhide HS).a.c1
  by_cases h : j < -600
  · go_wp2_with (go_at_call 18; go_must (refine (unhide HA _).mono ?_; rintro e w1 ⟨rfl, hb1⟩; have HS1 := hide ((unhide HS).later hb1); clear hb1 t0 t1; have t0 := (unhide HS1).a.c0; have t1 := (unhide HS1).a.c1; have r0 := (unhide HS1).r.c0; have r1 := (unhide HS1).r.c1; have rf0 := (unhide HS1).r.f0; have rf1 := (unhide HS1).r.f1))
    have hS := (unhide HS1).r.store (.string ⟨#[]⟩) (.string ⟨#[]⟩)
    have hb : Below w.heap.size w (store2 w1 (w.heap.size + 1) (.string ⟨#[]⟩) (.string ⟨#[]⟩)) := below_store2 (unhide HS1).below (by omega) _ _
    have u0 := hS.c0; have u1 := hS.c1
    exact bodyPost_ret (v := .tuple #[.agg #[.string ⟨#[]⟩, .string ⟨#[]⟩], .int .i64 1]) (w := store2 w1 (w.heap.size + 1) (.string ⟨#[]⟩) (.string ⟨#[]⟩)) (by simp [results, Tryz.results52, go_sem, u0, u1]) rfl ⟨rfl, hb⟩
  · have h' : 600 < j := by omega
    go_wp2_with (go_at_call 18; go_must (refine (unhide HA _).mono ?_; rintro e w1 ⟨rfl, hb1⟩; have HS1 := hide ((unhide HS).later hb1); clear hb1 t0 t1; have t0 := (unhide HS1).a.c0; have t1 := (unhide HS1).a.c1; have r0 := (unhide HS1).r.c0; have r1 := (unhide HS1).r.c1; have rf0 := (unhide HS1).r.f0; have rf1 := (unhide HS1).r.f1))
    have hS := (unhide HS1).r.store (.string ⟨#[]⟩) (.string ⟨#[]⟩)
    have hb : Below w.heap.size w (store2 w1 (w.heap.size + 1) (.string ⟨#[]⟩) (.string ⟨#[]⟩)) := below_store2 (unhide HS1).below (by omega) _ _
    have u0 := hS.c0; have u1 := hS.c1
    exact bodyPost_ret (v := .tuple #[.agg #[.string ⟨#[]⟩, .string ⟨#[]⟩], .int .i64 1]) (w := store2 w1 (w.heap.size + 1) (.string ⟨#[]⟩) (.string ⟨#[]⟩)) (by simp [results, Tryz.results52, go_sem, u0, u1]) rfl ⟨rfl, hb⟩

set_option maxRecDepth 100000 in
set_option maxHeartbeats 2000000 in
theorem refRound_walk (n1 d1 s t : ByteArray) (er j : Int) (v1 v2 : Value) (w : World) (h18 : ∀ W, Calls Tryz.prog 18 #[.agg #[.string n1, .string d1]] W fun r w' => r = .returned (.bool true) ∧ Below W.heap.size W w') (hj1 : -600 ≤ j) (hj2 : j ≤ 600)
    (hrd : ∀ W, Calls Tryz.prog 62 #[.agg #[.string n1, .string d1]] W fun r w' => r = .returned v1 ∧ Below W.heap.size W w')
    (hdn : ∀ W, Calls Tryz.prog 115 #[v1, .int .i64 j] W fun r w' => r = .returned v2 ∧ Below W.heap.size W w')
    (ht : ∀ W, Ans 74 #[v2] W s t er) : Ans 52 #[.agg #[.string n1, .string d1], .int .i64 j] w s t er := by
  unfold Ans at *
  obtain ⟨V, hV⟩ : ∃ V, V = (w.alloc (.cells #[.string n1, .string d1] 23)).alloc (.cells #[.string ⟨#[]⟩, .string ⟨#[]⟩] 23) := ⟨_, rfl⟩
  have HS : Hid (N1 w V (.string n1) (.string d1)) := by rw [hV]; exact N1.first _ _ _
  have HV := hide hV
  have HA := hide h18
  have HRD := hide hrd; have HDN := hide hdn; have HT := hide ht
  have k1 : ¬ j < -600 := by omega
  have k2 : ¬ 600 < j := by omega
  clear h18 hrd hdn ht
  go_enter Tryz.func52, Tryz.ntmps52
  go_upto_region 1 with fail
  rw [← unhide HV]
  clear hV HV
  have t0 := (unhide HS).a.c0; have t1 := (unhide HS).a.c1
  go_wp2_with (first | (go_at_call 18; go_must (refine (unhide HA _).mono ?_; rintro e w1 ⟨rfl, hb1⟩; have HS1 := hide ((unhide HS).later hb1); clear hb1 t0 t1; have t0 := (unhide HS1).a.c0; have t1 := (unhide HS1).a.c1; have r0 := (unhide HS1).r.c0; have r1 := (unhide HS1).r.c1; have rf0 := (unhide HS1).r.f0; have rf1 := (unhide HS1).r.f1)) | (go_at_call 62; go_must (refine (unhide HRD _).mono ?_; rintro e w2 ⟨rfl, hb2⟩; have HS2 := hide ((unhide HS1).later hb2); clear hb2 r0 r1 rf0 rf1; have r0 := (unhide HS2).r.c0; have r1 := (unhide HS2).r.c1; have rf0 := (unhide HS2).r.f0; have rf1 := (unhide HS2).r.f1)) | (go_at_call 115; go_must (refine (unhide HDN _).mono ?_; rintro e w3 ⟨rfl, hb2⟩; have HS3 := hide ((unhide HS2).later hb2); clear hb2 r0 r1 rf0 rf1; have r0 := (unhide HS3).r.c0; have r1 := (unhide HS3).r.c1; have rf0 := (unhide HS3).r.f0; have rf1 := (unhide HS3).r.f1)) | (go_at_call 74; go_must (refine (unhide HT _).mono ?_; rintro e w4 ⟨rfl, hb2⟩; have HS4 := hide ((unhide HS3).later hb2); clear hb2 r0 r1 rf0 rf1; have r0 := (unhide HS4).r.c0; have r1 := (unhide HS4).r.c1; have rf0 := (unhide HS4).r.f0; have rf1 := (unhide HS4).r.f1)))
  have hS := (unhide HS4).r.store (.string s) (.string t)
  have hb : Below w.heap.size w (store2 w4 (w.heap.size + 1) (.string s) (.string t)) := below_store2 (unhide HS4).below (by omega) _ _
  have u0 := hS.c0; have u1 := hS.c1
  exact bodyPost_ret (v := .tuple #[.agg #[.string s, .string t], .int .i64 er]) (w := store2 w4 (w.heap.size + 1) (.string s) (.string t)) (by simp [results, Tryz.results52, go_sem, u0, u1]) rfl ⟨rfl, hb⟩

theorem refFloor_ok (n1 d1 : ByteArray) (x : Rat) (w : World) (h1 : IsR n1 d1 x) : Ans 50 #[.agg #[.string n1, .string d1]] w (numT (floorQ x)) (denT (floorQ x)) (errT (floorQ x)) :=
  refFloor_walk n1 d1 _ _ _ _ _ w (ref18_yes h1) (fun W => refRead n1 d1 x W h1) (fun W => refDown 600 x W (by omega) (by omega) h1.bd) (fun W => refToldQ (600 + 1) (floorQ x) W (by omega) (by omega) (floor_bd 600 x (by omega) h1.bd))
theorem refRound_ok (n1 d1 : ByteArray) (x : Rat) (j : Int) (w : World) (h1 : IsR n1 d1 x) (hj1 : -600 ≤ j) (hj2 : j ≤ 600) : Ans 52 #[.agg #[.string n1, .string d1], .int .i64 j] w (numT (roundQ x j)) (denT (roundQ x j)) (errT (roundQ x j)) :=
  refRound_walk n1 d1 _ _ _ j _ _ w (ref18_yes h1) hj1 hj2 (fun W => refRead n1 d1 x W h1) (fun W => refRounded (d := 600) (e := 600) W (by omega) (by omega) h1.bd hj1 hj2) (fun W => refToldQ (600 + 600 + 1) (roundQ x j) W (by omega) (by omega) (round_bd h1.bd hj1 hj2))

end Go.Proofs.YtoinadnpdbaamaaGreatDoor

namespace Go.Proofs.YtoinadnpdbaamaaGreatDoor
open Go.RowKit

theorem both_cmp (n1 d1 n2 d2 : ByteArray) (s1 : n1.size ≤ maxLen) (s2 : d1.size ≤ maxLen) (s3 : n2.size ≤ maxLen) (s4 : d2.size ≤ maxLen) : BothN 46 #[.agg #[.string n1, .string d1], .agg #[.string n2, .string d2]] 47 #[.agg #[.string n1, .string d1], .agg #[.string n2, .string d2]] := by
  by_cases h : RightT n1 d1 ∧ RightT n2 d2
  · obtain ⟨x, h1⟩ := (right_isR n1 d1).1 h.1
    obtain ⟨y, h2⟩ := (right_isR n2 d2).1 h.2
    exact ⟨_, _, fun w => rcmp_ok n1 d1 n2 d2 x y w h1 h2, fun w => refCmp_ok n1 d1 n2 d2 x y w h1 h2⟩
  · obtain ⟨p, hp, h18a⟩ := ref18_any n1 d1 s1 s2
    obtain ⟨q, hq, h18b⟩ := ref18_any n2 d2 s3 s4
    exact ⟨_, _, fun w => rcmp_no n1 d1 n2 d2 w s1 s2 s3 s4 h, fun w => refCmp_no n1 d1 n2 d2 p q w h18a h18b (and_no hp hq h)⟩
theorem zero_isR : IsR ⟨#[48]⟩ ⟨#[49]⟩ 0 := by
  have hl := lit_tb ⟨#[49]⟩ 1 (by decide) (by decide)
  have hz := lit_tb ⟨#[48]⟩ 0 (by decide) (by decide)
  have hs : Small (0 : Rat) := ⟨by show (0 : Nat) < _; exact hz.2, by show (1 : Nat) < _; exact hl.2⟩
  refine ⟨hs, ?_, ?_⟩
  · unfold numT; rw [if_pos hs]
    show _ = sT (decide ((0 : Rat) < 0)) 0
    rw [decide_eq_false (by decide)]
    exact hz.1
  · unfold denT; rw [if_pos hs]
    exact hl.1
theorem both_sign (n1 d1 : ByteArray) (s1 : n1.size ≤ maxLen) (s2 : d1.size ≤ maxLen) : BothN 48 #[.agg #[.string n1, .string d1]] 47 #[.agg #[.string n1, .string d1], .agg #[.string ⟨#[48]⟩, .string ⟨#[49]⟩]] := by
  by_cases h : RightT n1 d1
  · obtain ⟨x, h1⟩ := (right_isR n1 d1).1 h
    exact ⟨_, _, fun w => rsign_ok n1 d1 x w h1, fun w => refCmp_ok n1 d1 _ _ x 0 w h1 zero_isR⟩
  · obtain ⟨p, hp, h18a⟩ := ref18_any n1 d1 s1 s2
    have hp' : p = false := by cases p with | false => rfl | true => exact absurd (hp.1 rfl) h
    exact ⟨_, _, fun w => rsign_no n1 d1 w (reads_no s1 s2 h), fun w => refCmp_no n1 d1 _ _ p true w h18a (ref18_yes zero_isR) (by rw [hp']; rfl)⟩
theorem floorN_lt {d : Nat} {x : Rat} (hx : Bd d x) : floorN (decide (x < 0)) x.num.natAbs x.den < 10 ^ (d + 1) := by
  have h2 := floorN_le (decide (x < 0)) x.num.natAbs x.den
  have h3 := hx.1
  rw [Nat.pow_succ]
  omega
theorem rfloor_ok (n1 d1 : ByteArray) (x : Rat) (w : World) (h1 : IsR n1 d1 x) (htab : Tab w) : Ans 49 #[.agg #[.string n1, .string d1]] w (numT (floorQ x)) (denT (floorQ x)) (errT (floorQ x)) := by
  have hb := h1.bd
  have hm : floorN (decide (x < 0)) x.num.natAbs x.den < 1000000000 ^ 67 := pow_limbs (floorN_lt hb) (by omega)
  refine rfloor_walk n1 d1 x (floorQ x) _ w h1 htab hm rfl (fun W v hv => ?_)
  obtain ⟨b, n, d, hf, hl, hvq, hn, hd⟩ := hv
  obtain ⟨l1, l2, l3⟩ := Cub.low_is hl
  rw [hvq] at l1 l2 l3
  rw [← l1, ← l2, ← l3]
  refine (floor_any v b n d 67 W hf (by omega) hn hd hl.pos).mono ?_
  rintro e w' ⟨a, l, c, a', l', c', rfl, hq, _, hb'⟩
  exact ⟨a, l, c, a', l', c', rfl, hq, hb'⟩
theorem both_floor (n1 d1 : ByteArray) (s1 : n1.size ≤ maxLen) (s2 : d1.size ≤ maxLen) : Both 49 50 #[.agg #[.string n1, .string d1]] := by
  by_cases h : RightT n1 d1
  · obtain ⟨x, h1⟩ := (right_isR n1 d1).1 h
    exact ⟨_, _, _, fun w ht => rfloor_ok n1 d1 x w h1 ht, fun w => refFloor_ok n1 d1 x w h1⟩
  · obtain ⟨p, hp, h18a⟩ := ref18_any n1 d1 s1 s2
    have hp' : p = false := by cases p with | false => rfl | true => exact absurd (hp.1 rfl) h
    rw [hp'] at h18a
    exact ⟨_, _, _, fun w _ => rfloor_no n1 d1 w (reads_no s1 s2 h), fun w => refFloor_no n1 d1 w h18a⟩
theorem both_round (n1 d1 : ByteArray) (j : Int) (s1 : n1.size ≤ maxLen) (s2 : d1.size ≤ maxLen) : Both 51 52 #[.agg #[.string n1, .string d1], .int .i64 j] := by
  by_cases h : RightT n1 d1
  · obtain ⟨x, h1⟩ := (right_isR n1 d1).1 h
    by_cases hr : j < -600 ∨ 600 < j
    · exact ⟨_, _, _, fun w _ => rround_arg n1 d1 x j w h1 hr, fun w => refRound_arg n1 d1 j w (ref18_yes h1) hr⟩
    · exact ⟨_, _, _, fun w ht => rround_ok n1 d1 x j w h1 (by omega) (by omega) ht, fun w => refRound_ok n1 d1 x j w h1 (by omega) (by omega)⟩
  · obtain ⟨p, hp, h18a⟩ := ref18_any n1 d1 s1 s2
    have hp' : p = false := by cases p with | false => rfl | true => exact absurd (hp.1 rfl) h
    rw [hp'] at h18a
    exact ⟨_, _, _, fun w _ => rround_no n1 d1 j w (reads_no s1 s2 h), fun w => refRound_no n1 d1 j w h18a⟩
end Go.Proofs.YtoinadnpdbaamaaGreatDoor

/- rat.Round. -/
import Derived.Test.YtoinadnpdbaamaaGreatDoorNear
import Derived.Test.YtoinadnpdbaamaaGreatDoorRefRound
import Derived.Test.YtoinadnpdbaamaaGreatDoorPairs
namespace Go.Proofs.YtoinadnpdbaamaaGreatDoor
open Go.RowKit

theorem pow_limbs {n e k : Nat} (h : n < 10 ^ e) (hk : e ≤ 9 * k) : n < 1000000000 ^ k := by
  have : (1000000000 : Nat) ^ k = 10 ^ (9 * k) := by rw [Nat.pow_mul]
  rw [this]
  exact Nat.lt_of_lt_of_le h (Nat.pow_le_pow_right (by omega) hk)
/-- The arguments, a Frac, and two numbers in their boxes. -/
structure NumDen (w W : World) (n1 d1 : ByteArray) (g6 : Nat) (x y z : Value) (g8 g9 : Nat) (u v : Value) : Prop where
  n : N1 w W (.string n1) (.string d1)
  f : FBox W g6 x y z
  p : Box W g8 u
  q : Box W g9 v
  ne : g8 ≠ g9
  h6 : w.heap.size + 1 < g6
  h8 : w.heap.size + 1 < g8
  h9 : w.heap.size + 1 < g9
  n68 : g6 ≠ g8
  n69 : g6 ≠ g9
theorem N1.otherBox {w W : World} {x y : Value} (h : N1 w W x y) {g : Nat} (hg : w.heap.size + 1 < g) (u : Value) : N1 w (W.setCell ⟨g, 0, none⟩ u) x y :=
  ⟨h.a.otherAt (by omega) u, h.r.otherAt (by omega) u, h.below.setCell (p := ⟨g, 0, none⟩) (by show w.heap.size ≤ g; omega) u⟩
section
variable {w W V : World} {n1 d1 : ByteArray} {g6 g8 g9 : Nat} {x y z u v : Value}
theorem NumDen.later (h : NumDen w W n1 d1 g6 x y z g8 g9 u v) (hb : Below W.heap.size W V) : NumDen w V n1 d1 g6 x y z g8 g9 u v :=
  ⟨h.n.later hb, h.f.later hb, h.p.later hb, h.q.later hb, h.ne, h.h6, h.h8, h.h9, h.n68, h.n69⟩
theorem NumDen.setP (h : NumDen w W n1 d1 g6 x y z g8 g9 u v) (t : Value) : NumDen w (W.setCell ⟨g8, 0, none⟩ t) n1 d1 g6 x y z g8 g9 t v :=
  ⟨h.n.otherBox h.h8 t, h.f.otherAt h.n68 t, h.p.set t, h.q.other h.ne.symm t, h.ne, h.h6, h.h8, h.h9, h.n68, h.n69⟩
theorem NumDen.setQ (h : NumDen w W n1 d1 g6 x y z g8 g9 u v) (t : Value) : NumDen w (W.setCell ⟨g9, 0, none⟩ t) n1 d1 g6 x y z g8 g9 u t :=
  ⟨h.n.otherBox h.h9 t, h.f.otherAt h.n69 t, h.p.other h.ne t, h.q.set t, h.ne, h.h6, h.h8, h.h9, h.n68, h.n69⟩
end
theorem Box.new72 (w : World) (v : Value) : Box (w.alloc (.cells #[v] 72)) w.heap.size v := ⟨by simp [go_sem], by simp [go_sem]⟩

set_option maxRecDepth 100000 in
set_option maxHeartbeats 4000000 in
theorem rround_ok (n1 d1 : ByteArray) (x : Rat) (j : Int) (w : World) (h1 : IsR n1 d1 x) (hj1 : -600 ≤ j) (hj2 : j ≤ 600) (htab : Tab w) :
    Ans 51 #[.agg #[.string n1, .string d1], .int .i64 j] w (numT (roundQ x j)) (denT (roundQ x j)) (errT (roundQ x j)) := by
  unfold Ans
  obtain ⟨V, hV⟩ : ∃ V, V = (w.alloc (.cells #[.string n1, .string d1] 23)).alloc (.cells #[.string ⟨#[]⟩, .string ⟨#[]⟩] 23) := ⟨_, rfl⟩
  have HS : Hid (N1 w V (.string n1) (.string d1)) := by rw [hV]; exact N1.first _ _ _
  have HV := hide hV
  have HR := hide (qread n1 d1 x V h1)
  have hb6 : Bd 600 x := h1.bd
  have e6 : (600 : Int) = ((600 : Nat) : Int) := rfl
  have HNR : Hid (∀ W v, QOf W v x 67 → Calls Tryz.prog 86 #[v, .int .i64 j] W fun e w' => ∃ a l c, e = .returned (.agg #[.slice a l c]) ∧ IsBig w' (.agg #[.slice a l c]) (stepsN x j) ∧ Below W.heap.size W w') := fun W v hv => by
    obtain ⟨b, n, d, hf, hl, hvq, hn, hd⟩ := hv
    obtain ⟨l1, l2, l3⟩ := Cub.low_is hl
    rw [hvq] at l1 l2 l3
    have hN := rN_lt (x := x) (p := j) (e := 600) hb6 (by omega)
    have hD := rD_lt (x := x) (p := j) (e := 600) hb6 (by omega)
    have hD0 := rD_pos x j
    unfold stepsN
    rw [← l2] at hN ⊢
    rw [← l3] at hD hD0 ⊢
    refine nearest_any v b n d _ _ 134 j W hf (by omega) (by omega) (by omega) (Nat.lt_of_lt_of_le hn (Nat.pow_le_pow_right (by omega) (by omega))) (Nat.lt_of_lt_of_le hd (Nat.pow_le_pow_right (by omega) (by omega))) (pow_limbs hN (by omega)) (pow_limbs hD (by omega)) hD0 ?_
    unfold rN rD
    by_cases hj : j < 0
    · left; rw [if_pos hj, if_pos hj]; exact ⟨hj, rfl, rfl⟩
    · right; rw [if_neg hj, if_neg hj]; exact ⟨hj, rfl, rfl⟩
  have hs := pow_limbs (k := 134) (stepsN_lt (x := x) (p := j) (e := 600) hb6 (by omega)) (by omega)
  have hm := pow_limbs (k := 134) (roundM_lt (x := x) (p := j) (e := 600) hb6 (by omega) (by omega)) (by omega)
  have hd := pow_limbs (k := 134) (roundD_lt (d := 600) (p := j) (e := 600) (by omega)) (by omega)
  have h0 := roundD_pos j
  have HBO : Hid (∀ W, Calls Tryz.prog 112 #[.int .u64 1] W fun e w' => ∃ a l c, e = .returned (.agg #[.slice a l c]) ∧ IsBig w' (.agg #[.slice a l c]) 1 ∧ Below W.heap.size W w') := fun W => bigOf_any 1 W (by decide)
  have HSP : Hid (j < 0 → ∀ W y, IsBig W y (stepsN x j) → Calls Tryz.prog 114 #[y, .int .i64 (-j)] W fun e w' => ∃ a l c, e = .returned (.agg #[.slice a l c]) ∧ IsBig w' (.agg #[.slice a l c]) (roundM x j) ∧ Below W.heap.size W w') := fun hj W y hy => by
    obtain ⟨q, hq⟩ : ∃ q : Nat, -j = (q : Int) := ⟨(-j).toNat, by omega⟩
    have e : roundM x j = stepsN x j * 10 ^ q := by unfold roundM; rw [if_pos hj, show (-j).toNat = q by omega]
    rw [e, hq]
    exact shift_any y _ q 134 W hy (by omega) hs (by omega)
  have HSQ : Hid (¬ j < 0 → ∀ W y, IsBig W y 1 → Calls Tryz.prog 114 #[y, .int .i64 j] W fun e w' => ∃ a l c, e = .returned (.agg #[.slice a l c]) ∧ IsBig w' (.agg #[.slice a l c]) (roundD j) ∧ Below W.heap.size W w') := fun hj W y hy => by
    obtain ⟨q, hq⟩ : ∃ q : Nat, j = (q : Int) := ⟨j.toNat, by omega⟩
    have e : roundD j = 1 * 10 ^ q := by unfold roundD; rw [if_neg hj, show j.toNat = q by omega, Nat.one_mul]
    rw [e, hq]
    exact shift_any y _ q 134 W hy (by omega) (Nat.one_lt_pow (by omega) (by omega)) (by omega)
  have HEQ : Hid ((j < 0 → 1 = roundD j) ∧ (¬ j < 0 → stepsN x j = roundM x j)) := by
    unfold roundD roundM
    exact ⟨fun h => by rw [if_pos h], fun h => by rw [if_neg h]⟩
  have HRA : Hid (∀ b W y z, b = decide (x < 0) → IsBig W y (roundM x j) → IsBig W z (roundD j) → Calls Tryz.prog 70 #[.bool b, y, z] W fun e w' => ∃ v', e = .returned v' ∧ QOf w' v' (roundQ x j) 134 ∧ Below W.heap.size W w') := fun b W y z hbx hy hz => by
    subst hbx
    refine (ratio_any _ y z _ _ 134 W hy hz hm hd h0 (divAns 134 (by omega)) (gcdAns 134 (by omega))).mono ?_
    rintro e w' ⟨v', rfl, hf, hb⟩
    obtain ⟨l1, l2⟩ := Cub.ratio_low (b := decide (x < 0)) (n := roundM x j) h0
    exact ⟨v', rfl, ⟨_, _, _, hf, l1, l2, Nat.lt_of_le_of_lt (Nat.div_le_self _ _) hm, Nat.lt_of_le_of_lt (Nat.div_le_self _ _) hd⟩, hb⟩
  have HSG : Hid (∀ W b s t, QOf W (.agg #[.bool b, s, t]) x 67 → b = decide (x < 0)) := fun W b s t h => by
    obtain ⟨b', n, d, ⟨s', t', e, _⟩, hl, hvq, _⟩ := h
    obtain ⟨l1, _, _⟩ := Cub.low_is hl
    rw [hvq] at l1
    simp only [Value.agg.injEq, Array.mk.injEq, List.cons.injEq, Value.bool.injEq] at e
    rw [e.1]; exact l1
  have k1 : ¬ j < -600 := by omega
  have k2 : ¬ 600 < j := by omega
  have HT := hide htab
  generalize roundQ x j = rq at *
  generalize roundM x j = rm at *
  generalize roundD j = rd at *
  generalize stepsN x j = sn at *
  clear h1 hb6 hs hm hd h0 htab e6
  go_enter Tryz.func51, Tryz.ntmps51
  go_upto_region 1 with fail
  rw [← unhide HV]
  clear hV HV
  have t0 := (unhide HS).a.c0; have t1 := (unhide HS).a.c1
  go_upto_region 2 with (go_at_call 76; go_must (refine (unhide HR).mono ?_; rintro e w1 ⟨v1, rfl, hv1, hb1⟩; obtain ⟨b1, i1, i2, i3, i4, i5, i6, rfl⟩ := hv1.form; have HS1 := hide ((unhide HS).later hb1); have HV1 := hide hv1; clear hv1 hb1 t0 t1))
  obtain ⟨V2, hV2⟩ : ∃ V2, V2 = w1.alloc (.cells #[.bool b1, .slice i1 i2 i3, .slice i4 i5 i6] 74) := ⟨_, rfl⟩
  have hb : Below w1.heap.size w1 V2 := by rw [hV2]; exact (Below.refl _ _).alloc (Nat.le_refl _) _
  have HS2 := hide ((unhide HS1).later hb); have HX := hide ((unhide HV1).later hb)
  have HP : Hid (FBox V2 w1.heap.size (.bool b1) (.slice i1 i2 i3) (.slice i4 i5 i6)) := by rw [hV2]; exact FBox.new _ _ _ _
  have hg6 : w.heap.size + 1 < w1.heap.size := (unhide HS1).r.lt
  rw [← hV2]
  clear hV2 hb HS HS1 HV1 HR
  generalize w1.heap.size = g6 at *
  have t0 := (unhide HP).c0; have t1 := (unhide HP).c1; have t2 := (unhide HP).c2
  have HSGN := hide (unhide HSG _ _ _ _ (unhide HX))
  clear HSG
  go_upto_if 30 with (first
    | (go_at_call 86; go_must (refine (unhide HNR _ _ (unhide HX)).mono ?_; rintro e w3 ⟨a3, l3, c3, rfl, hv3, hb3⟩; have HS3 := hide ((unhide HS2).later hb3); have HP3 := hide ((unhide HP).later hb3); have HN3 := hide hv3; clear hv3 hb3 t0 t1 t2))
    | (go_at_call 112; go_must (refine (unhide HBO _).mono ?_; rintro e w4 ⟨a4, l4, c4, rfl, hv4, hb4⟩; have HS4 := hide ((unhide HS3).later hb4); have HP4 := hide ((unhide HP3).later hb4); have HN4 := hide ((unhide HN3).later hb4); have HD4 := hide hv4; clear hv4 hb4)))
  obtain ⟨V5, hV5⟩ : ∃ V5, V5 = (w4.alloc (.cells #[.slice a3 l3 c3] 72)).alloc (.cells #[.slice a4 l4 c4] 72) := ⟨_, rfl⟩
  have hb5 : Below w4.heap.size w4 V5 := by rw [hV5]; exact ((Below.refl _ _).alloc (Nat.le_refl _) _).alloc (by simp) _
  have g48 : g6 < w4.heap.size := (unhide HP4).lt
  have HS5 : Hid (NumDen w V5 n1 d1 g6 (.bool b1) (.slice i1 i2 i3) (.slice i4 i5 i6) w4.heap.size (w4.heap.size + 1) (.slice a3 l3 c3) (.slice a4 l4 c4)) := by
    refine ⟨(unhide HS4).later hb5, (unhide HP4).later hb5, ?_, ?_, by omega, hg6, by omega, by omega, by omega, by omega⟩
    · rw [hV5]; exact (Box.new72 w4 _).later ((Below.refl _ _).alloc (Nat.le_refl _) _)
    · have := Box.new72 (w4.alloc (.cells #[.slice a3 l3 c3] 72)) (.slice a4 l4 c4)
      rw [show (w4.alloc (.cells #[.slice a3 l3 c3] 72)).heap.size = w4.heap.size + 1 by simp] at this
      rw [hV5]; exact this
  have HN5 := hide ((unhide HN4).later hb5); have HD5 := hide ((unhide HD4).later hb5)
  rw [← hV5]
  clear hV5 hb5 g48 HS2 HS3 HS4 HP HP3 HP4 HN3 HN4 HD4 HX HNR HBO
  generalize w4.heap.size = g8 at *
  generalize g8 + 1 = g9 at *
  have u8 := (unhide HS5).p.c; have u9 := (unhide HS5).q.c
  go_cut [] from 10 (fun wx => ∃ (a7 a8 : Option Addr) (l7 c7 l8 c8 : Nat), Hid (NumDen w wx n1 d1 g6 (.bool b1) (.slice i1 i2 i3) (.slice i4 i5 i6) g8 g9 (.slice a7 l7 c7) (.slice a8 l8 c8)) ∧ Hid (IsBig wx (.agg #[.slice a7 l7 c7]) rm) ∧ Hid (IsBig wx (.agg #[.slice a8 l8 c8]) rd))
  case first =>
    by_cases hj : j < 0
    · have HSX := hide (unhide HSP hj)
      have HE1 := hide ((unhide HEQ).1 hj)
      go_wp2_with (go_at_call 114; go_must (refine (unhide HSX _ _ (unhide HN5)).mono ?_; rintro e w6 ⟨a6, l6, c6, rfl, hv6, hb6⟩; have HS6 := hide ((unhide HS5).later hb6); have HD6 := hide ((unhide HD5).later hb6); have HN6 := hide hv6; clear hv6 hb6 u8 u9; have u8 := (unhide HS6).p.c; have f8 := (unhide HS6).p.f))
      go_meet
      refine ⟨a6, a4, l6, c6, l4, c4, (unhide HS6).setP _, (unhide HN6).box _ u8 (not_int _ _ _), ?_⟩
      have := (unhide HD6).box (.slice a6 l6 c6) u8 (not_int _ _ _)
      rw [unhide HE1] at this
      exact this
    · have HSX := hide (unhide HSQ (by omega))
      have HE1 := hide ((unhide HEQ).2 (by omega))
      go_wp2_with (go_at_call 114; go_must (refine (unhide HSX _ _ (unhide HD5)).mono ?_; rintro e w6 ⟨a6, l6, c6, rfl, hv6, hb6⟩; have HS6 := hide ((unhide HS5).later hb6); have HN6 := hide ((unhide HN5).later hb6); have HD6 := hide hv6; clear hv6 hb6 u8 u9; have u9 := (unhide HS6).q.c; have f9 := (unhide HS6).q.f))
      go_meet
      refine ⟨a3, a6, l3, c3, l6, c6, (unhide HS6).setQ _, ?_, (unhide HD6).box _ u9 (not_int _ _ _)⟩
      have := (unhide HN6).box (.slice a6 l6 c6) u9 (not_int _ _ _)
      rw [unhide HE1] at this
      exact this
  case rest =>
    obtain ⟨a7, a8, l7, c7, l8, c8, HS7, HN7, HD7⟩ := hcut
    clear HS5 HN5 HD5 HSP HSQ HEQ u8 u9
    have u8 := (unhide HS7).p.c; have u9 := (unhide HS7).q.c; have t0 := (unhide HS7).f.c0
    go_wp2_with (first
      | (go_at_call 70; go_must (refine (unhide HRA _ _ _ _ (unhide HSGN) (unhide HN7) (unhide HD7)).mono ?_; rintro e w8 ⟨v8, rfl, hv8, hb8⟩; have HV8 := hide hv8; have HS8 := hide ((unhide HS7).later hb8); clear hv8 hb8 u8 u9 t0))
      | (go_at_call 72; go_must (refine (qtell _ _ 134 _ (unhide HV8) (by decide) ((unhide HT).later (unhide HS8).n.below)).mono ?_; rintro e w9 ⟨rfl, hb9⟩; have HS9 := hide ((unhide HS8).n.later hb9); clear hb9; have r0 := (unhide HS9).r.c0; have r1 := (unhide HS9).r.c1; have rf0 := (unhide HS9).r.f0; have rf1 := (unhide HS9).r.f1)))
    have hS := (unhide HS9).r.store (.string (numT rq)) (.string (denT rq))
    have hb : Below w.heap.size w (store2 w9 (w.heap.size + 1) (.string (numT rq)) (.string (denT rq))) := below_store2 (unhide HS9).below (by omega) _ _
    have u0 := hS.c0; have u1 := hS.c1
    exact bodyPost_ret (v := .tuple #[.agg #[.string (numT rq), .string (denT rq)], .int .i64 (errT rq)]) (w := store2 w9 (w.heap.size + 1) (.string (numT rq)) (.string (denT rq))) (by simp [results, Tryz.results51, go_sem, u0, u1]) rfl ⟨rfl, hb⟩
end Go.Proofs.YtoinadnpdbaamaaGreatDoor

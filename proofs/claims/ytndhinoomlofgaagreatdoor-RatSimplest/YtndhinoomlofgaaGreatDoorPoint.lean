/- rat.pointed at chapter 2's example. -/
import Derived.Test.YtndhinoomlofgaaGreatDoorTell
import Derived.Test.YtndhinoomlofgaaGreatDoorShift
import Derived.Lib.LazyBuf
import Derived.Laws.AppendOwn
import Derived.Lib.ConvBytes
import Derived.Lib.AtoiErrMem
namespace Go.Proofs.YtndhinoomlofgaaGreatDoor
open Go.RowKit

/-- A Frac, the box of a number, and boxes of one cell besides. -/
structure NB (w W : World) (x y z : Value) (L : List (Nat × Value)) : Prop where
  a : FBox W w.heap.size x y z
  r : Box W (w.heap.size + 1) (.slice none 0 0)
  bx : ∀ p ∈ L, Box W p.1 p.2
  gt : ∀ p ∈ L, w.heap.size + 1 < p.1
  below : Below w.heap.size w W
theorem NB.later {w W V : World} {x y z : Value} {L : List (Nat × Value)} (s : NB w W x y z L) (hb : Below W.heap.size W V) : NB w V x y z L :=
  ⟨s.a.later hb, s.r.later hb, fun p hp => (s.bx p hp).later hb, s.gt, s.below.trans (hb.mono s.below.size)⟩
theorem NB.first (w : World) (x y z : Value) : NB w ((w.alloc (.cells #[x, y, z] 74)).alloc (.cells #[.slice none 0 0] 72)) x y z [] :=
  ⟨⟨by simp [go_sem], by simp [go_sem], by simp [go_sem], by simp [go_sem], by simp [go_sem], by simp [go_sem]⟩, ⟨by simp [go_sem], by simp [go_sem]⟩, (fun _ h => by cases h), (fun _ h => by cases h), ((Below.refl _ _).alloc (Nat.le_refl _) _).alloc (by simp) _⟩
theorem NB.push {w W : World} {x y z : Value} {L : List (Nat × Value)} (s : NB w W x y z L) (v : Value) : NB w (W.alloc (.cells #[v] 72)) x y z ((W.heap.size, v) :: L) := by
  have t := s.later ((Below.refl W.heap.size W).alloc (Nat.le_refl _) (.cells #[v] 72))
  refine ⟨t.a, t.r, ?_, ?_, t.below⟩
  · intro p hp
    rcases List.mem_cons.1 hp with rfl | hp
    · exact ⟨by simp [go_sem], by simp [go_sem]⟩
    · exact t.bx p hp
  · intro p hp
    rcases List.mem_cons.1 hp with rfl | hp
    · exact s.r.lt
    · exact t.gt p hp
theorem NB.sub {w W : World} {x y z : Value} {L M : List (Nat × Value)} (s : NB w W x y z L) (h : ∀ p ∈ M, p ∈ L) : NB w W x y z M :=
  ⟨s.a, s.r, fun p hp => s.bx p (h p hp), fun p hp => s.gt p (h p hp), s.below⟩
theorem NB.set {w W : World} {x y z v : Value} {g : Nat} {L : List (Nat × Value)} (s : NB w W x y z ((g, v) :: L)) (h : ∀ p ∈ L, p.1 ≠ g) (u : Value) : NB w (W.setCell ⟨g, 0, none⟩ u) x y z ((g, u) :: L) := by
  have hg : w.heap.size + 1 < g := s.gt (g, v) (by simp)
  refine ⟨s.a.otherAt (by omega) u, s.r.other (by omega) u, ?_, ?_, s.below.setCell (p := ⟨g, 0, none⟩) (by show w.heap.size ≤ g; omega) _⟩
  · intro p hp
    rcases List.mem_cons.1 hp with rfl | hp
    · exact (s.bx (g, v) (by simp)).set u
    · exact (s.bx p (by simp [hp])).other (h p hp) u
  · intro p hp
    rcases List.mem_cons.1 hp with rfl | hp
    · exact hg
    · exact s.gt p (by simp [hp])

set_option maxRecDepth 100000 in
set_option maxHeartbeats 4000000 in
theorem nearest_up (v : Value) (b : Bool) (n d p k : Nat) (w : World) (h : IsFrac w v b n d) (hk : k + 1 ≤ 100000) (hp : p ≤ 100000) (hn : n < 1000000000 ^ k) (hN : n * 10 ^ p < 1000000000 ^ k) (hd : d < 1000000000 ^ k) (hd0 : 0 < d) (hup : d < n * 10 ^ p % d + n * 10 ^ p % d) :
    Calls Tryz.prog 88 #[v, .int .i64 (p : Int)] w fun e w' => ∃ a l c, e = .returned (.agg #[.slice a l c]) ∧ IsBig w' (.agg #[.slice a l c]) (n * 10 ^ p / d + 1) ∧ Below w.heap.size w w' := by
  obtain ⟨a1, l1, c1, a2, l2, c2, rfl, h1, h2⟩ := h.form
  obtain ⟨V, hV⟩ : ∃ V, V = (w.alloc (.cells #[.bool b, .slice a1 l1 c1, .slice a2 l2 c2] 74)).alloc (.cells #[.slice none 0 0] 72) := ⟨_, rfl⟩
  have HS : Hid (NB w V (.bool b) (.slice a1 l1 c1) (.slice a2 l2 c2) []) := by rw [hV]; exact NB.first _ _ _ _
  have HV := hide hV
  have HX := hide (h1.later (unhide HS).below)
  have HY := hide (h2.later (unhide HS).below)
  have hp0 : ¬ (p : Int) < 0 := by omega
  have hq : n * 10 ^ p / d < 1000000000 ^ k := Nat.lt_of_le_of_lt (Nat.div_le_self _ _) hN
  have hr : n * 10 ^ p % d < 1000000000 ^ k := Nat.lt_of_le_of_lt (Nat.mod_le _ _) hN
  have h1k : 1 < 1000000000 ^ k := by
    rcases Nat.eq_zero_or_pos k with h0 | h0
    · subst h0; simp at hd; omega
    · have : (1000000000 : Nat) ^ 1 ≤ 1000000000 ^ k := Nat.pow_le_pow_right (by decide) h0
      omega
  have HSH : Hid (∀ W x, IsBig W x n → Calls Tryz.prog 116 #[x, .int .i64 (p : Int)] W fun e w' => ∃ a l c, e = .returned (.agg #[.slice a l c]) ∧ IsBig w' (.agg #[.slice a l c]) (n * 10 ^ p) ∧ Below W.heap.size W w') := fun W x h => shift_any x n p k W h (by omega) hn (by omega)
  have HDM : Hid (∀ W x y, IsBig W x (n * 10 ^ p) → IsBig W y d → Calls Tryz.prog 120 #[x, y] W fun e w' => ∃ a1 n1 c1 a2 n2 c2, e = .returned (.tuple #[.agg #[.slice a1 n1 c1], .agg #[.slice a2 n2 c2]]) ∧ IsBig w' (.agg #[.slice a1 n1 c1]) (n * 10 ^ p / d) ∧ IsBig w' (.agg #[.slice a2 n2 c2]) (n * 10 ^ p % d) ∧ Below W.heap.size W w') := fun W x y h1 h2 => divAns k (by omega) W x y _ _ h1 h2 hN hd0
  generalize n * 10 ^ p / d = Q at *
  generalize n * 10 ^ p % d = R at *
  generalize n * 10 ^ p = N at *
  have HAD : Hid (∀ W x, IsBig W x R → Calls Tryz.prog 142 #[x, x] W fun e w' => ∃ v, e = .returned v ∧ IsBig w' v (R + R) ∧ Below W.heap.size W w') := fun W x h => add_any x x R R k W h h (by omega) hr hr
  have HCM : Hid (∀ W x y, IsBig W x (R + R) → IsBig W y d → Calls Tryz.prog 143 #[x, y] W fun e w' => e = .returned (.int .i64 1) ∧ Below W.heap.size W w') := fun W x y h1 h2 => by
    have := cmp_any x y (R + R) d W h1 h2
    rwa [show Cub.cmpN (R + R) d = 1 by unfold Cub.cmpN; rw [if_neg (by omega), if_pos hup]] at this
  have HBO : Hid (∀ W, Calls Tryz.prog 114 #[.int .u64 1] W fun e w' => ∃ a l c, e = .returned (.agg #[.slice a l c]) ∧ IsBig w' (.agg #[.slice a l c]) 1 ∧ Below W.heap.size W w') := fun W => bigOf_any 1 W (by decide)
  have HA1 : Hid (∀ W x y, IsBig W x Q → IsBig W y 1 → Calls Tryz.prog 142 #[x, y] W fun e w' => ∃ v, e = .returned v ∧ IsBig w' v (Q + 1) ∧ Below W.heap.size W w') := fun W x y h1 h2 => add_any x y Q 1 k W h1 h2 (by omega) hq h1k
  clear h h1 h2 hk hp hn hN hd hd0 hup hq hr h1k
  go_enter Tryz.func88, Tryz.ntmps88
  go_upto_region 1 with fail
  rw [← unhide HV]
  clear hV HV
  have t1 := (unhide HS).a.c1; have t2 := (unhide HS).a.c2
  have zl := (unhide HS).a.lt
  have zl2 : w.heap.size < V.heap.size + 1 := by omega
  have zn1 : ¬ w.heap.size = V.heap.size := by omega
  have zn2 : ¬ w.heap.size = V.heap.size + 1 := by omega
  go_region
  all_goals
    first
    | (obtain ⟨V1, hV1⟩ : ∃ V1, V1 = ((V.alloc (.cells #[.slice a1 l1 c1] 72)).alloc (.cells #[.slice a2 l2 c2] 72)).drew := ⟨_, rfl⟩
       rw [← hV1]
       have hb : Below V.heap.size V V1 := by rw [hV1]; have h2 := ((Below.refl V.heap.size V).alloc (Nat.le_refl _) (.cells #[.slice a1 l1 c1] 72)).alloc (by simp) (.cells #[.slice a2 l2 c2] 72); exact h2.trans (((Below.refl _ _).drew).mono h2.size)
       have HS1 : Hid (NB w V1 (.bool b) (.slice a1 l1 c1) (.slice a2 l2 c2) [(V.heap.size, .slice a1 l1 c1), (V.heap.size + 1, .slice a2 l2 c2)]) := by
         rw [hV1]
         have s := ((unhide HS).push (.slice a1 l1 c1)).push (.slice a2 l2 c2)
         rw [show (V.alloc (.cells #[.slice a1 l1 c1] 72)).heap.size = V.heap.size + 1 by simp] at s
         exact (s.sub (by intro p hp; simp at hp ⊢; grind)).later ((Below.refl _ _).drew)
       have hne : V.heap.size ≠ V.heap.size + 1 := by omega
       generalize hg5 : V.heap.size = g5 at HS1 hne ⊢
       generalize hg6 : g5 + 1 = g6 at HS1 hne ⊢)
    | (obtain ⟨V1, hV1⟩ : ∃ V1, V1 = ((V.alloc (.cells #[.slice a2 l2 c2] 72)).alloc (.cells #[.slice a1 l1 c1] 72)).drew := ⟨_, rfl⟩
       rw [← hV1]
       have hb : Below V.heap.size V V1 := by rw [hV1]; have h2 := ((Below.refl V.heap.size V).alloc (Nat.le_refl _) (.cells #[.slice a2 l2 c2] 72)).alloc (by simp) (.cells #[.slice a1 l1 c1] 72); exact h2.trans (((Below.refl _ _).drew).mono h2.size)
       have HS1 : Hid (NB w V1 (.bool b) (.slice a1 l1 c1) (.slice a2 l2 c2) [(V.heap.size + 1, .slice a1 l1 c1), (V.heap.size, .slice a2 l2 c2)]) := by
         rw [hV1]
         have s := ((unhide HS).push (.slice a2 l2 c2)).push (.slice a1 l1 c1)
         rw [show (V.alloc (.cells #[.slice a2 l2 c2] 72)).heap.size = V.heap.size + 1 by simp] at s
         exact (s.sub (by intro p hp; simp at hp ⊢; grind)).later ((Below.refl _ _).drew)
       have hne : V.heap.size + 1 ≠ V.heap.size := by omega
       generalize hg6 : V.heap.size = g6 at HS1 hne ⊢
       generalize hg5 : g6 + 1 = g5 at HS1 hne ⊢)
    have HX1 := hide ((unhide HX).later hb); have HY1 := hide ((unhide HY).later hb)
    clear hV1 hb HS HX HY t1 t2 zl zl2 zn1 zn2 hg5 hg6
    have u5 := ((unhide HS1).bx (g5, .slice a1 l1 c1) (by simp)).c
    dsimp only at u5
    go_upto_region 5 with (go_at_call 116; go_must (refine (unhide HSH _ _ (unhide HX1)).mono ?_; rintro e w2 ⟨a3, l3, c3, rfl, hv2, hb2⟩; have HS2 := hide ((unhide HS1).later hb2); have HY2 := hide ((unhide HY1).later hb2); have HN2 := hide hv2; clear hv2 hb2 u5; have u5 := ((unhide HS2).bx (g5, .slice a1 l1 c1) (by simp)).c; have k5 := ((unhide HS2).bx (g5, .slice a1 l1 c1) (by simp)).f; dsimp only at u5 k5))
    obtain ⟨V3, hV3⟩ : ∃ V3, V3 = w2.setCell ⟨g5, 0, none⟩ (.slice a3 l3 c3) := ⟨_, rfl⟩
    have HS3 : Hid (NB w V3 (.bool b) (.slice a1 l1 c1) (.slice a2 l2 c2) [(g5, .slice a3 l3 c3), (g6, .slice a2 l2 c2)]) := by rw [hV3]; exact (unhide HS2).set (by intro p hp; simp at hp; subst hp; exact hne.symm) _
    have HN3 : Hid (IsBig V3 (.agg #[.slice a3 l3 c3]) N) := by rw [hV3]; exact (unhide HN2).box _ u5 (not_int _ _ _)
    have HY3 : Hid (IsBig V3 (.agg #[.slice a2 l2 c2]) d) := by rw [hV3]; exact (unhide HY2).box _ u5 (not_int _ _ _)
    rw [← hV3]
    clear hV3 HS1 HS2 HX1 HY1 HY2 HN2 u5 k5
    have u5 := ((unhide HS3).bx (g5, .slice a3 l3 c3) (by simp)).c; have u6 := ((unhide HS3).bx (g6, .slice a2 l2 c2) (by simp)).c
    dsimp only at u5 u6
    go_upto_region 6 with (go_at_call 120; go_must (refine (unhide HDM _ _ _ (unhide HN3) (unhide HY3)).mono ?_; rintro e w4 ⟨a7, l7, c7, a8, l8, c8, rfl, hq4, hr4, hb4⟩; have HS4 := hide ((unhide HS3).later hb4); have HY4 := hide ((unhide HY3).later hb4); have HQ4 := hide hq4; have HR4 := hide hr4; clear hq4 hr4 hb4 u5 u6))
    obtain ⟨V5, hV5⟩ : ∃ V5, V5 = (w4.alloc (.cells #[.slice a7 l7 c7] 72)).alloc (.cells #[.slice a8 l8 c8] 72) := ⟨_, rfl⟩
    have hb5 : Below w4.heap.size w4 V5 := by rw [hV5]; exact ((Below.refl _ _).alloc (Nat.le_refl _) _).alloc (by simp) _
    have HS5 : Hid (NB w V5 (.bool b) (.slice a1 l1 c1) (.slice a2 l2 c2) [(w4.heap.size + 1, .slice a8 l8 c8), (w4.heap.size, .slice a7 l7 c7), (g6, .slice a2 l2 c2)]) := by
      rw [hV5]
      have s := ((unhide HS4).push (.slice a7 l7 c7)).push (.slice a8 l8 c8)
      rw [show (w4.alloc (.cells #[.slice a7 l7 c7] 72)).heap.size = w4.heap.size + 1 by simp] at s
      exact s.sub (by intro p hp; simp at hp ⊢; grind)
    have HY5 := hide ((unhide HY4).later hb5); have HQ5 := hide ((unhide HQ4).later hb5); have HR5 := hide ((unhide HR4).later hb5)
    rw [← hV5]
    clear hV5 hb5 HS3 HS4 HN3 HY3 HY4 HQ4 HR4
    generalize w4.heap.size = g7 at *
    have HC : Hid (∀ U, Below V5.heap.size V5 U → (U.cell? ⟨g7 + 1, 0, none⟩ = some (.slice a8 l8 c8) ∧ U.cell? ⟨g6, 0, none⟩ = some (.slice a2 l2 c2)) ∧ U.cell? ⟨g7, 0, none⟩ = some (.slice a7 l7 c7)) := fun U hb => by
      have s := (unhide HS5).later hb
      exact ⟨⟨(s.bx (g7 + 1, .slice a8 l8 c8) (by simp)).c, (s.bx (g6, .slice a2 l2 c2) (by simp)).c⟩, (s.bx (g7, .slice a7 l7 c7) (by simp)).c⟩
    obtain ⟨⟨u8, u6⟩, _⟩ := unhide HC V5 (Below.refl _ _)
    go_region_held3 (fun w' => w'.cell? ⟨g7 + 1, 0, none⟩ = some (.slice a8 l8 c8) ∧ w'.cell? ⟨g6, 0, none⟩ = some (.slice a2 l2 c2)) (first | assumption | (refine ⟨?_, ?_⟩ <;> first | assumption | (simp [go_sem, *]; done)) | (simp [go_sem, *]; done)) ((first
      | (go_at_call 142; go_must (refine (unhide HAD _ _ ((unhide HR5).later ((Below.refl _ _).drew))).mono ?_; rintro e wa ⟨va, rfl, hva, hba⟩; obtain ⟨aa, la, ca, rfl⟩ := hva.shape; have HVA := hide hva; have HCA := hide (((Below.refl V5.heap.size V5).drew).trans hba); clear hva hba u8 u6; obtain ⟨⟨u8, u6⟩, _⟩ := unhide HC wa (unhide HCA)))
      | (go_at_call 143; go_must (refine (unhide HCM _ _ _ (unhide HVA) ((unhide HY5).later (unhide HCA))).mono ?_; rintro e wb ⟨rfl, hbb⟩; have HCB := hide ((unhide HCA).trans (hbb.mono (unhide HCA).size)); clear hbb u8 u6; obtain ⟨⟨u8, u6⟩, _⟩ := unhide HC wb (unhide HCB)))))
    have HS6 := hide ((unhide HS5).later (unhide HCB)); have HQ6 := hide ((unhide HQ5).later (unhide HCB))
    clear u8 u6 HS5 HY5 HQ5 HR5 HC HVA HCA HCB HAD HCM
    go_upto_region 8 with fail
    have HC : Hid (∀ U, Below wb.heap.size wb U → U.cell? ⟨g7, 0, none⟩ = some (.slice a7 l7 c7) ∧ U.cell? ⟨w.heap.size + 1, 0, none⟩ = some (.slice none 0 0) ∧ U.frozen? ⟨w.heap.size + 1, 0, none⟩ = false) := fun U hb => by
      have s := (unhide HS6).later hb
      exact ⟨(s.bx (g7, .slice a7 l7 c7) (by simp)).c, s.r.c, s.r.f⟩
    have hgt : w.heap.size + 1 < g7 := (unhide HS6).gt (g7, .slice a7 l7 c7) (by simp)
    have hn1 : ¬ g7 = w.heap.size + 1 := by omega
    have hn2 : ¬ w.heap.size + 1 = g7 := by omega
    obtain ⟨u7, _⟩ := unhide HC wb (Below.refl _ _)
    go_region_held3 (fun w' => w'.cell? ⟨g7, 0, none⟩ = some (.slice a7 l7 c7)) (first | assumption | (simp [go_sem, *]; done) | (rw [World.cell?_setCell_other _ _ _ _ (by simp; omega)]; assumption)) ((first
      | (go_at_call 114; go_must (refine (unhide HBO _).mono ?_; rintro e wc ⟨ac, lc, cc, rfl, hvc, hbc⟩; have HVC := hide hvc; have HCC := hide (((Below.refl wb.heap.size wb).drew).trans hbc); clear hvc hbc u7; obtain ⟨u7, _⟩ := unhide HC wc (unhide HCC)))
      | (go_at_call 142; go_must (refine (unhide HA1 _ _ _ ((unhide HQ6).later (unhide HCC)) (unhide HVC)).mono ?_; rintro e wd ⟨vd, rfl, hvd, hbd⟩; obtain ⟨ad, ld, cd, rfl⟩ := hvd.shape; have HVD := hide hvd; have HCD := hide ((unhide HCC).trans (hbd.mono (unhide HCC).size)); clear hvd hbd u7; obtain ⟨u7, r0, rf0⟩ := unhide HC wd (unhide HCD)))))
    have HS9 := hide ((unhide HS6).later (unhide HCD))
    obtain ⟨V9, hV9⟩ : ∃ V9, V9 = wd.setCell ⟨w.heap.size + 1, 0, none⟩ (.slice ad ld cd) := ⟨_, rfl⟩
    have HE : Hid (IsBig V9 (.agg #[.slice ad ld cd]) (Q + 1) ∧ Below w.heap.size w V9) := by rw [hV9]; exact ⟨(unhide HVD).box _ r0 (not_int _ _ _), (unhide HS9).below.setCell (p := ⟨w.heap.size + 1, 0, none⟩) (by simp) _⟩
    have s0 : V9.cell? ⟨w.heap.size + 1, 0, none⟩ = some (.slice ad ld cd) := by rw [hV9]; exact World.cell?_setCell_same _ _ _ r0
    rw [← hV9]
    clear hV9 u7 r0 rf0 hgt hn1 hn2
    go_wp2_with fail
    exact bodyPost_ret (v := .agg #[.slice ad ld cd]) (by simp [results, Tryz.results88, go_sem, s0]) rfl ⟨_, _, _, rfl, (unhide HE).1, (unhide HE).2⟩
end Go.Proofs.YtndhinoomlofgaaGreatDoor

namespace Go.Proofs.YtndhinoomlofgaaGreatDoor
open Go.RowKit

/-- Six bytes in memory. -/
structure B6 (W : World) (g : Nat) (x0 x1 x2 x3 x4 x5 : Int) : Prop where
  c0 : W.cell? ⟨g, 0, none⟩ = some (.int .u8 x0)
  c1 : W.cell? ⟨g, 1, none⟩ = some (.int .u8 x1)
  c2 : W.cell? ⟨g, 2, none⟩ = some (.int .u8 x2)
  c3 : W.cell? ⟨g, 3, none⟩ = some (.int .u8 x3)
  c4 : W.cell? ⟨g, 4, none⟩ = some (.int .u8 x4)
  c5 : W.cell? ⟨g, 5, none⟩ = some (.int .u8 x5)
  f : ∀ k, k < 6 → W.frozen? ⟨g, k, none⟩ = false
theorem B6.set0 {W : World} {g : Nat} {x0 x1 x2 x3 x4 x5 : Int} (h : B6 W g x0 x1 x2 x3 x4 x5) (u : Int) : B6 (W.setCell ⟨g, 0, none⟩ (.int .u8 u)) g u x1 x2 x3 x4 x5 :=
  ⟨World.cell?_setCell_same _ _ _ h.c0, by rw [World.cell?_setCell_other _ _ _ _ (by simp)]; exact h.c1, by rw [World.cell?_setCell_other _ _ _ _ (by simp)]; exact h.c2, by rw [World.cell?_setCell_other _ _ _ _ (by simp)]; exact h.c3, by rw [World.cell?_setCell_other _ _ _ _ (by simp)]; exact h.c4, by rw [World.cell?_setCell_other _ _ _ _ (by simp)]; exact h.c5, fun j hj => by rw [World.frozen?_setCell]; exact h.f j hj⟩
theorem B6.set1 {W : World} {g : Nat} {x0 x1 x2 x3 x4 x5 : Int} (h : B6 W g x0 x1 x2 x3 x4 x5) (u : Int) : B6 (W.setCell ⟨g, 1, none⟩ (.int .u8 u)) g x0 u x2 x3 x4 x5 :=
  ⟨by rw [World.cell?_setCell_other _ _ _ _ (by simp)]; exact h.c0, World.cell?_setCell_same _ _ _ h.c1, by rw [World.cell?_setCell_other _ _ _ _ (by simp)]; exact h.c2, by rw [World.cell?_setCell_other _ _ _ _ (by simp)]; exact h.c3, by rw [World.cell?_setCell_other _ _ _ _ (by simp)]; exact h.c4, by rw [World.cell?_setCell_other _ _ _ _ (by simp)]; exact h.c5, fun j hj => by rw [World.frozen?_setCell]; exact h.f j hj⟩
theorem B6.set2 {W : World} {g : Nat} {x0 x1 x2 x3 x4 x5 : Int} (h : B6 W g x0 x1 x2 x3 x4 x5) (u : Int) : B6 (W.setCell ⟨g, 2, none⟩ (.int .u8 u)) g x0 x1 u x3 x4 x5 :=
  ⟨by rw [World.cell?_setCell_other _ _ _ _ (by simp)]; exact h.c0, by rw [World.cell?_setCell_other _ _ _ _ (by simp)]; exact h.c1, World.cell?_setCell_same _ _ _ h.c2, by rw [World.cell?_setCell_other _ _ _ _ (by simp)]; exact h.c3, by rw [World.cell?_setCell_other _ _ _ _ (by simp)]; exact h.c4, by rw [World.cell?_setCell_other _ _ _ _ (by simp)]; exact h.c5, fun j hj => by rw [World.frozen?_setCell]; exact h.f j hj⟩
theorem B6.set3 {W : World} {g : Nat} {x0 x1 x2 x3 x4 x5 : Int} (h : B6 W g x0 x1 x2 x3 x4 x5) (u : Int) : B6 (W.setCell ⟨g, 3, none⟩ (.int .u8 u)) g x0 x1 x2 u x4 x5 :=
  ⟨by rw [World.cell?_setCell_other _ _ _ _ (by simp)]; exact h.c0, by rw [World.cell?_setCell_other _ _ _ _ (by simp)]; exact h.c1, by rw [World.cell?_setCell_other _ _ _ _ (by simp)]; exact h.c2, World.cell?_setCell_same _ _ _ h.c3, by rw [World.cell?_setCell_other _ _ _ _ (by simp)]; exact h.c4, by rw [World.cell?_setCell_other _ _ _ _ (by simp)]; exact h.c5, fun j hj => by rw [World.frozen?_setCell]; exact h.f j hj⟩
theorem B6.set4 {W : World} {g : Nat} {x0 x1 x2 x3 x4 x5 : Int} (h : B6 W g x0 x1 x2 x3 x4 x5) (u : Int) : B6 (W.setCell ⟨g, 4, none⟩ (.int .u8 u)) g x0 x1 x2 x3 u x5 :=
  ⟨by rw [World.cell?_setCell_other _ _ _ _ (by simp)]; exact h.c0, by rw [World.cell?_setCell_other _ _ _ _ (by simp)]; exact h.c1, by rw [World.cell?_setCell_other _ _ _ _ (by simp)]; exact h.c2, by rw [World.cell?_setCell_other _ _ _ _ (by simp)]; exact h.c3, World.cell?_setCell_same _ _ _ h.c4, by rw [World.cell?_setCell_other _ _ _ _ (by simp)]; exact h.c5, fun j hj => by rw [World.frozen?_setCell]; exact h.f j hj⟩
theorem B6.set5 {W : World} {g : Nat} {x0 x1 x2 x3 x4 x5 : Int} (h : B6 W g x0 x1 x2 x3 x4 x5) (u : Int) : B6 (W.setCell ⟨g, 5, none⟩ (.int .u8 u)) g x0 x1 x2 x3 x4 u :=
  ⟨by rw [World.cell?_setCell_other _ _ _ _ (by simp)]; exact h.c0, by rw [World.cell?_setCell_other _ _ _ _ (by simp)]; exact h.c1, by rw [World.cell?_setCell_other _ _ _ _ (by simp)]; exact h.c2, by rw [World.cell?_setCell_other _ _ _ _ (by simp)]; exact h.c3, by rw [World.cell?_setCell_other _ _ _ _ (by simp)]; exact h.c4, World.cell?_setCell_same _ _ _ h.c5, fun j hj => by rw [World.frozen?_setCell]; exact h.f j hj⟩
theorem B6.drew {W : World} {g : Nat} {x0 x1 x2 x3 x4 x5 : Int} (h : B6 W g x0 x1 x2 x3 x4 x5) : B6 W.drew g x0 x1 x2 x3 x4 x5 :=
  ⟨h.c0, h.c1, h.c2, h.c3, h.c4, h.c5, h.f⟩
theorem b6_new (W : World) : B6 (Lib.bytesWorld W 5 ⟨#[48, 48, 48, 48, 48, 48]⟩) W.heap.size 48 48 48 48 48 48 := by
  have c := fun j hj => Lib.bytesWorld_cell W 5 ⟨#[48, 48, 48, 48, 48, 48]⟩ j hj
  refine ⟨c 0 (by decide), c 1 (by decide), c 2 (by decide), c 3 (by decide), c 4 (by decide), c 5 (by decide), fun k hk => ?_⟩
  have hs : 6 ≤ (Lib.bytesCells W 5 ⟨#[48, 48, 48, 48, 48, 48]⟩).size := by unfold Lib.bytesCells; simp
  simp [World.frozen?, Lib.bytesWorld_at_new]
  omega
theorem cap6 (W : World) : 6 ≤ grownCap W 6 0 5 := grownCap_ge W 6 0 5

set_option maxRecDepth 100000 in
set_option maxHeartbeats 2000000 in
theorem pointed_S (w : World) : Calls Tryz.prog 91 #[.string ⟨#[51, 49, 52, 50, 57]⟩, .int .i64 4] w fun r w' => r = .returned (.string ⟨#[51, 46, 49, 52, 50, 57]⟩) ∧ Below w.heap.size w w' := by
  have H143 : Hid (∀ W, Calls Tryz.prog 145 #[.string ⟨#[48]⟩, .int .i64 6] W fun e w' => e = .returned (.string ⟨#[48, 48, 48, 48, 48, 48]⟩) ∧ Below W.heap.size W w') := fun W => Tryz.strings_Repeat ⟨#[48]⟩ 6 W (by decide) (by decide)
  have z1 : (⟨#[51, 49, 52, 50, 57]⟩ : ByteArray).size = 5 := rfl
  have hcv : ∀ W : World, (convert 9 130 (.string ⟨#[48, 48, 48, 48, 48, 48]⟩)).run Tryz.prog W = .ok (.slice (some ⟨W.heap.size, 0, none⟩) 6 (grownCap W 6 0 5)) (Lib.bytesWorld W 5 ⟨#[48, 48, 48, 48, 48, 48]⟩) := fun W => Lib.run_convert_string_bytes (P := Tryz.prog) W 9 130 5 ⟨#[48, 48, 48, 48, 48, 48]⟩ Tryz.underlying9 Tryz.underlying130 Tryz.underlying5
  go_enter Tryz.func91, Tryz.ntmps91
  go_upto_region 6 with (go_at_call 145; go_must (refine (unhide H143 _).mono ?_; rintro e w1 ⟨rfl, hb1⟩; have HB1 := hide hb1; clear hb1))
  rw [show (max (1 : Int) 0) = 1 from rfl]
  obtain ⟨U, hU⟩ : ∃ U, U = Lib.bytesWorld w1 5 ⟨#[48, 48, 48, 48, 48, 48]⟩ := ⟨_, rfl⟩
  obtain ⟨C, hC⟩ : ∃ C, C = grownCap w1 6 0 5 := ⟨_, rfl⟩
  have hC6 : 6 ≤ C := by rw [hC]; exact cap6 w1
  have HR : Hid (B6 U w1.heap.size 48 48 48 48 48 48 ∧ Below w.heap.size w U ∧ w.heap.size ≤ w1.heap.size) := by
    rw [hU]; exact ⟨b6_new w1, (unhide HB1).trans ((Lib.bytesWorld_below w1 5 _).mono (unhide HB1).size), (unhide HB1).size⟩
  rw [← hU, ← hC]
  clear hU hC hcv H143 HB1
  generalize w1.heap.size = g at *
  have hz : ∀ w, (Go.sizeOf 5).run Tryz.prog w = .ok 1 w := fun _ => by kernel_rfl
  have e1 : (⟨#[51, 49, 52, 50, 57]⟩ : ByteArray).extract 0 1 = ⟨#[51]⟩ := bytes_ext (by rfl)
  have e2 : (⟨#[51, 49, 52, 50, 57]⟩ : ByteArray).extract 1 5 = ⟨#[49, 52, 50, 57]⟩ := bytes_ext (by rfl)
  have hcp : (Builtin.copy_ #[130, 9] 3 #[.slice (some ⟨g, 0, none⟩) 6 C, .string ⟨#[51]⟩]).run Tryz.prog U.drew = .ok (.int .i64 1) (U.drew.setCell ⟨g, 0, none⟩ (.int .u8 51)) := by
    have h := run_copy_string (P := Tryz.prog) U.drew 130 9 3 5 g 0 6 C ⟨#[51]⟩ Tryz.underlying130 hz (by decide) (fun j hj => ?_) (fun j hj => ?_)
    · exact h
    · have : j = 0 := by have : j < 1 := hj; omega
      subst this
      have := (unhide HR).1.c0
      simp [go_sem, this]
    · have : j = 0 := by have : j < 1 := hj; omega
      subst this
      have := (unhide HR).1.f 0 (by decide)
      simpa [go_sem] using this
  have k0 : ¬ C = 0 := by omega
  go_region
  obtain ⟨V1, hV1⟩ : ∃ V1, V1 = (U.setCell ⟨g, 0, none⟩ (.int .u8 51)).drew := ⟨_, rfl⟩
  have HR1 : Hid (B6 V1 g 51 48 48 48 48 48 ∧ Below w.heap.size w V1) := by
    rw [hV1]
    have h3 := (unhide HR).2.1.setCell (p := ⟨g, 0, none⟩) (unhide HR).2.2 (.int .u8 51)
    exact ⟨((unhide HR).1.set0 51).drew, h3.trans (((Below.refl _ _).drew).mono h3.size)⟩
  have hgw := (unhide HR).2.2
  rw [← hV1]
  clear hV1 hcp HR
  have q1 := (unhide HR1).1.c1; have f1 := (unhide HR1).1.f 1 (by decide)
  go_upto_region 8 with fail
  obtain ⟨V2, hV2⟩ : ∃ V2, V2 = V1.setCell ⟨g, 1, none⟩ (.int .u8 46) := ⟨_, rfl⟩
  have HR2 : Hid (B6 V2 g 51 46 48 48 48 48 ∧ Below w.heap.size w V2) := by rw [hV2]; exact ⟨(unhide HR1).1.set1 46, (unhide HR1).2.setCell (p := ⟨g, 1, none⟩) hgw _⟩
  rw [← hV2]
  clear hV2 HR1 q1 f1
  have hcp : (Builtin.copy_ #[130, 9] 3 #[.slice (some ⟨g, 2, none⟩) 4 (C - 2), .string ⟨#[49, 52, 50, 57]⟩]).run Tryz.prog V2.drew = .ok (.int .i64 4) ((((V2.drew.setCell ⟨g, 2, none⟩ (.int .u8 49)).setCell ⟨g, 3, none⟩ (.int .u8 52)).setCell ⟨g, 4, none⟩ (.int .u8 50)).setCell ⟨g, 5, none⟩ (.int .u8 57)) := by
    have hd := (unhide HR2).1.drew
    have h := run_copy_string (P := Tryz.prog) V2.drew 130 9 3 5 g 2 4 (C - 2) ⟨#[49, 52, 50, 57]⟩ Tryz.underlying130 hz (by decide) (fun j hj => ?_) (fun j hj => ?_)
    · exact h
    · have hj4 : j < 4 := hj
      rcases (by omega : j = 0 ∨ j = 1 ∨ j = 2 ∨ j = 3) with rfl | rfl | rfl | rfl
      · rw [show 2 + 0 = 2 from rfl, hd.c2]; rfl
      · rw [show 2 + 1 = 3 from rfl, hd.c3]; rfl
      · rw [show 2 + 2 = 4 from rfl, hd.c4]; rfl
      · rw [show 2 + 3 = 5 from rfl, hd.c5]; rfl
    · have hj4 : j < 4 := hj
      exact hd.f (2 + j) (by omega)
  have k2 : ¬ C = 2 := by omega
  have k2' : (2 : Int) ≤ (C : Int) := by omega
  go_region
  obtain ⟨V3, hV3⟩ : ∃ V3, V3 = ((((V2.setCell ⟨g, 2, none⟩ (.int .u8 49)).setCell ⟨g, 3, none⟩ (.int .u8 52)).setCell ⟨g, 4, none⟩ (.int .u8 50)).setCell ⟨g, 5, none⟩ (.int .u8 57)).drew := ⟨_, rfl⟩
  have HR3 : Hid (B6 V3 g 51 46 49 52 50 57 ∧ Below w.heap.size w V3) := by
    rw [hV3]
    have h3 := ((((unhide HR2).2.setCell (p := ⟨g, 2, none⟩) hgw (.int .u8 49)).setCell (p := ⟨g, 3, none⟩) hgw (.int .u8 52)).setCell (p := ⟨g, 4, none⟩) hgw (.int .u8 50)).setCell (p := ⟨g, 5, none⟩) hgw (.int .u8 57)
    exact ⟨((((((unhide HR2).1.set2 49).set3 52).set4 50).set5 57)).drew, h3.trans (((Below.refl _ _).drew).mono h3.size)⟩
  rw [← hV3]
  clear hV3 hcp HR2
  have hback : (convert 130 9 (.slice (some ⟨g, 0, none⟩) 6 C)).run Tryz.prog V3 = .ok (.string ⟨#[51, 46, 49, 52, 50, 57]⟩) V3 := run_convert_bytes_back (P := Tryz.prog) V3 130 9 5 ⟨g, 0, none⟩ C [51, 46, 49, 52, 50, 57] Tryz.underlying130 Tryz.underlying5 Tryz.underlying9 (fun q hq => by
    have hd := (unhide HR3).1
    have hq6 : q < 6 := hq
    have e : (⟨g, 0, none⟩ : Addr).add q = ⟨g, q, none⟩ := by unfold Addr.add; split <;> simp_all
    rw [e]
    rcases (by omega : q = 0 ∨ q = 1 ∨ q = 2 ∨ q = 3 ∨ q = 4 ∨ q = 5) with rfl | rfl | rfl | rfl | rfl | rfl
    · exact hd.c0
    · exact hd.c1
    · exact hd.c2
    · exact hd.c3
    · exact hd.c4
    · exact hd.c5)
  go_wp2
  go_ret
  exact ⟨rfl, (unhide HR3).2⟩
end Go.Proofs.YtndhinoomlofgaaGreatDoor

/- Frac.Add. -/
import Derived.Test.YtimihoonnglniaaGreatDoorFCmp
namespace Go.Proofs.YtimihoonnglniaaGreatDoor
open Go.RowKit

theorem Box.new (W : World) (v : Value) : Box (W.alloc (.cells #[v] 43)) W.heap.size v := ⟨by simp [go_sem], by simp [go_sem]⟩
/-- Two Fracs, a Frac's box for the result, and boxes of one cell besides. -/
structure AS (w W : World) (x0 x1 x2 y0 y1 y2 : Value) (L : List (Nat × Value)) : Prop where
  x : FBox W w.heap.size x0 x1 x2
  y : FBox W (w.heap.size + 1) y0 y1 y2
  r : FBox W (w.heap.size + 1 + 1) (.bool false) (.slice none 0 0) (.slice none 0 0)
  bx : ∀ p ∈ L, Box W p.1 p.2
  gt : ∀ p ∈ L, w.heap.size + 1 + 1 < p.1
  below : Below w.heap.size w W
theorem AS.later {w W V : World} {x0 x1 x2 y0 y1 y2 : Value} {L : List (Nat × Value)} (s : AS w W x0 x1 x2 y0 y1 y2 L) (hb : Below W.heap.size W V) : AS w V x0 x1 x2 y0 y1 y2 L :=
  ⟨s.x.later hb, s.y.later hb, s.r.later hb, fun p hp => (s.bx p hp).later hb, s.gt, s.below.trans (hb.mono s.below.size)⟩
theorem AS.first (w : World) (x0 x1 x2 y0 y1 y2 : Value) : AS w (((w.alloc (.cells #[x0, x1, x2] 45)).alloc (.cells #[y0, y1, y2] 45)).alloc (.cells #[.bool false, .slice none 0 0, .slice none 0 0] 45)) x0 x1 x2 y0 y1 y2 [] :=
  ⟨⟨by simp [go_sem], by simp [go_sem], by simp [go_sem], by simp [go_sem], by simp [go_sem], by simp [go_sem]⟩, ⟨by simp [go_sem], by simp [go_sem], by simp [go_sem], by simp [go_sem], by simp [go_sem], by simp [go_sem]⟩,
    ⟨by simp [go_sem], by simp [go_sem], by simp [go_sem], by simp [go_sem], by simp [go_sem], by simp [go_sem]⟩, (fun _ h => by cases h), (fun _ h => by cases h),
    (((Below.refl _ _).alloc (Nat.le_refl _) _).alloc (by simp) _).alloc (by simp; omega) _⟩
theorem AS.push {w W : World} {x0 x1 x2 y0 y1 y2 : Value} {L : List (Nat × Value)} (s : AS w W x0 x1 x2 y0 y1 y2 L) (v : Value) : AS w (W.alloc (.cells #[v] 43)) x0 x1 x2 y0 y1 y2 ((W.heap.size, v) :: L) := by
  have t := s.later ((Below.refl W.heap.size W).alloc (Nat.le_refl _) (.cells #[v] 43))
  refine ⟨t.x, t.y, t.r, ?_, ?_, t.below⟩
  · intro p hp
    rcases List.mem_cons.1 hp with rfl | hp
    · exact ⟨by simp [go_sem], by simp [go_sem]⟩
    · exact t.bx p hp
  · intro p hp
    rcases List.mem_cons.1 hp with rfl | hp
    · exact s.r.lt
    · exact t.gt p hp
theorem AS.sub {w W : World} {x0 x1 x2 y0 y1 y2 : Value} {L M : List (Nat × Value)} (s : AS w W x0 x1 x2 y0 y1 y2 L) (h : ∀ p ∈ M, p ∈ L) : AS w W x0 x1 x2 y0 y1 y2 M :=
  ⟨s.x, s.y, s.r, fun p hp => s.bx p (h p hp), fun p hp => s.gt p (h p hp), s.below⟩
theorem AS.add {w W : World} {x0 x1 x2 y0 y1 y2 v : Value} {g : Nat} {L : List (Nat × Value)} (s : AS w W x0 x1 x2 y0 y1 y2 L) (hb : Box W g v) (hg : w.heap.size + 1 + 1 < g) : AS w W x0 x1 x2 y0 y1 y2 ((g, v) :: L) := by
  refine ⟨s.x, s.y, s.r, ?_, ?_, s.below⟩
  · intro p hp
    rcases List.mem_cons.1 hp with rfl | hp
    · exact hb
    · exact s.bx p hp
  · intro p hp
    rcases List.mem_cons.1 hp with rfl | hp
    · exact hg
    · exact s.gt p hp
theorem AS.set {w W : World} {x0 x1 x2 y0 y1 y2 v : Value} {g : Nat} {L : List (Nat × Value)} (s : AS w W x0 x1 x2 y0 y1 y2 ((g, v) :: L)) (h : ∀ p ∈ L, p.1 ≠ g) (u : Value) : AS w (W.setCell ⟨g, 0, none⟩ u) x0 x1 x2 y0 y1 y2 ((g, u) :: L) := by
  have hg : w.heap.size + 1 + 1 < g := s.gt (g, v) (by simp)
  refine ⟨s.x.other (by omega) u, s.y.other (by omega) u, s.r.other (by omega) u, ?_, ?_, s.below.setCell (by show w.heap.size ≤ g; omega) _⟩
  · intro p hp
    rcases List.mem_cons.1 hp with rfl | hp
    · exact (s.bx (g, v) (by simp)).set u
    · exact (s.bx p (by simp [hp])).other (h p hp) u
  · intro p hp
    rcases List.mem_cons.1 hp with rfl | hp
    · exact hg
    · exact s.gt p (by simp [hp])

set_option maxRecDepth 100000 in
set_option maxHeartbeats 12000000 in
theorem fadd_any (x y : Value) (b c : Bool) (n d m e k : Nat) (w : World) (hx : IsFrac w x b n d) (hy : IsFrac w y c m e) (h1 : Cub.Low b n d) (h2 : Cub.Low c m e) (hk : k + k + k ≤ 100000)
    (hn : n < 1000000000 ^ k) (hd : d < 1000000000 ^ k) (hm : m < 1000000000 ^ k) (he : e < 1000000000 ^ k) (hD : DivAns (k + k + k)) (hG : GcdAns (k + k + k)) :
    Calls Tryz.prog 42 #[x, y] w fun r w' => ∃ v b' n' d', r = .returned v ∧ IsFrac w' v b' n' d' ∧ Cub.Low b' n' d' ∧ Cub.valQ b' n' d' = Cub.valQ b n d + Cub.valQ c m e ∧ n' < 1000000000 ^ (k + k + k) ∧ d' < 1000000000 ^ (k + k + k) ∧ Below w.heap.size w w' := by
  obtain ⟨a1, l1, c1, a2, l2, c2, rfl, hx1, hx2⟩ := hx.form
  obtain ⟨a3, l3, c3, a4, l4, c4, rfl, hy1, hy2⟩ := hy.form
  obtain ⟨V, hV⟩ : ∃ V, V = (((w.alloc (.cells #[.bool b, .slice a1 l1 c1, .slice a2 l2 c2] 45)).alloc (.cells #[.bool c, .slice a3 l3 c3, .slice a4 l4 c4] 45)).alloc (.cells #[.bool false, .slice none 0 0, .slice none 0 0] 45)) := ⟨_, rfl⟩
  have HS : Hid (AS w V (.bool b) (.slice a1 l1 c1) (.slice a2 l2 c2) (.bool c) (.slice a3 l3 c3) (.slice a4 l4 c4) []) := by rw [hV]; exact AS.first _ _ _ _ _ _ _
  have HX1 := hide (hx1.later (unhide HS).below)
  have HX2 := hide (hx2.later (unhide HS).below)
  have HY1 := hide (hy1.later (unhide HS).below)
  have HY2 := hide (hy2.later (unhide HS).below)
  have HV := hide hV
  obtain ⟨s, hs⟩ : ∃ s, s = Nat.gcd d e := ⟨_, rfl⟩
  obtain ⟨f, hf⟩ : ∃ f, f = d / s := ⟨_, rfl⟩
  obtain ⟨g, hg⟩ : ∃ g, g = e / s := ⟨_, rfl⟩
  obtain ⟨bm, hbm⟩ : ∃ bm, bm = Cub.addSg b (n * g) c (m * f) := ⟨_, rfl⟩
  have HADD := hide (Cub.add_low h1 h2 hs hf hg (show (bm.1, bm.2) = _ from hbm))
  have hd0 := h1.pos
  have he0 := h2.pos
  have hs0 : 0 < s := by rw [hs]; exact Nat.gcd_pos_of_pos_left _ hd0
  have hsd : s ≤ d := by rw [hs]; exact Nat.gcd_le_left _ hd0
  have hfd : f ≤ d := by rw [hf]; exact Nat.div_le_self _ _
  have hge : g ≤ e := by rw [hg]; exact Nat.div_le_self _ _
  have hP : (1000000000 : Nat) ^ k ≤ 1000000000 ^ (k + k + k) := Nat.pow_le_pow_right (by decide) (by omega)
  have hP2 : (1000000000 : Nat) ^ (k + k) ≤ 1000000000 ^ (k + k + k) := Nat.pow_le_pow_right (by decide) (by omega)
  have hng : n * g < 1000000000 ^ (k + k) := by rw [Nat.pow_add]; exact Nat.mul_lt_mul'' hn (by omega)
  have hmf : m * f < 1000000000 ^ (k + k) := by rw [Nat.pow_add]; exact Nat.mul_lt_mul'' hm (by omega)
  have hk1 : 1 ≤ k := by rcases Nat.eq_zero_or_pos k with h0 | h0; · subst h0; simp at hd; omega
                         · exact h0
  have hbm2 : bm.2 < 1000000000 ^ (k + k + k) := by
    have h3 : bm.2 ≤ n * g + m * f := by rw [hbm]; unfold Cub.addSg; split; · exact Nat.le_refl _
                                         · split <;> (simp only []; omega)
    have h4 : (1000000000 : Nat) ^ (k + k) * 1000000000 ^ 1 ≤ 1000000000 ^ (k + k + k) := by rw [← Nat.pow_add]; exact Nat.pow_le_pow_right (by decide) (by omega)
    omega
  have HGC : Hid (∀ W, Below V.heap.size V W → Calls Tryz.prog 61 #[.agg #[.slice a2 l2 c2], .agg #[.slice a4 l4 c4]] W fun e w' => ∃ a l c, e = .returned (.agg #[.slice a l c]) ∧ IsBig w' (.agg #[.slice a l c]) s ∧ Below W.heap.size W w') := fun W hb => by
    rw [hs]; exact hG W _ _ d e ((unhide HX2).later hb) ((unhide HY2).later hb) (by omega) (by omega)
  have HD := hide hD
  have HDD : Hid (d < 1000000000 ^ (k + k + k) ∧ e < 1000000000 ^ (k + k + k) ∧ 0 < s) := ⟨by omega, by omega, hs0⟩
  have HMA : Hid (∀ W v, IsBig W (.agg #[.slice a1 l1 c1]) n → IsBig W v g → Calls Tryz.prog 69 #[.agg #[.slice a1 l1 c1], v] W fun r w' => ∃ v', r = .returned v' ∧ IsBig w' v' (n * g) ∧ Below W.heap.size W w') := fun W v i1 i2 => mul_any _ _ n g k W i1 i2 (by omega) hn (by omega)
  have HMB : Hid (∀ W v, IsBig W (.agg #[.slice a3 l3 c3]) m → IsBig W v f → Calls Tryz.prog 69 #[.agg #[.slice a3 l3 c3], v] W fun r w' => ∃ v', r = .returned v' ∧ IsBig w' v' (m * f) ∧ Below W.heap.size W w') := fun W v i1 i2 => mul_any _ _ m f k W i1 i2 (by omega) hm (by omega)
  have HSG : Hid (∀ W x y, IsBig W x (n * g) → IsBig W y (m * f) → Calls Tryz.prog 68 #[.bool b, x, .bool c, y] W fun e w' => ∃ a l d, e = .returned (.tuple #[.bool bm.1, .agg #[.slice a l d]]) ∧ IsBig w' (.agg #[.slice a l d]) bm.2 ∧ Below W.heap.size W w') := fun W x y i1 i2 => by
    rw [hbm]; exact addSigned_any b c x y (n * g) (m * f) (k + k + k) W i1 i2 (by omega) (by omega) (by omega)
  have HLW : Hid (∀ W x y, IsBig W x bm.2 → IsBig W y s → Calls Tryz.prog 70 #[x, y] W fun e w' => ∃ a1 l1 c1 a2 l2 c2, e = .returned (.tuple #[.agg #[.slice a1 l1 c1], .agg #[.slice a2 l2 c2]]) ∧ IsBig w' (.agg #[.slice a1 l1 c1]) (bm.2 / Nat.gcd bm.2 s) ∧ IsBig w' (.agg #[.slice a2 l2 c2]) (s / Nat.gcd bm.2 s) ∧ Below W.heap.size W w') := fun W x y i1 i2 =>
    lowest_any x y bm.2 s (k + k + k) W i1 i2 hbm2 (by omega) hs0 hD hG
  have hsl : s / Nat.gcd bm.2 s ≤ s := Nat.div_le_self _ _
  have hml : bm.2 / Nat.gcd bm.2 s ≤ bm.2 := Nat.div_le_self _ _
  generalize hM : bm.2 / Nat.gcd bm.2 s = M at *
  generalize hT : s / Nat.gcd bm.2 s = T at *
  have hTf : T * f < 1000000000 ^ (k + k) := by rw [Nat.pow_add]; exact Nat.mul_lt_mul'' (by omega) (by omega)
  have hTfg : T * f * g < 1000000000 ^ (k + k + k) := by rw [Nat.pow_add]; exact Nat.mul_lt_mul'' hTf (by omega)
  have HMC : Hid (∀ W x y, IsBig W x T → IsBig W y f → Calls Tryz.prog 69 #[x, y] W fun r w' => ∃ v', r = .returned v' ∧ IsBig w' v' (T * f) ∧ Below W.heap.size W w') := fun W x y i1 i2 => mul_any _ _ T f k W i1 i2 (by omega) (by omega) (by omega)
  have HMD : Hid (∀ W x y, IsBig W x (T * f) → IsBig W y g → Calls Tryz.prog 69 #[x, y] W fun r w' => ∃ v', r = .returned v' ∧ IsBig w' v' (T * f * g) ∧ Below W.heap.size W w') := fun W x y i1 i2 => mul_any _ _ (T * f) g (k + k) W i1 i2 (by omega) hTf (Nat.lt_of_lt_of_le (by omega : g < 1000000000 ^ k) (Nat.pow_le_pow_right (by decide) (by omega)))
  have HBD : Hid (M < 1000000000 ^ (k + k + k) ∧ T * f * g < 1000000000 ^ (k + k + k) ∧ 0 < 1000000000 ^ (k + k + k) ∧ 1 < 1000000000 ^ (k + k + k)) := by
    refine ⟨by omega, hTfg, by omega, ?_⟩
    have : (1000000000 : Nat) ^ 1 ≤ 1000000000 ^ (k + k + k) := Nat.pow_le_pow_right (by decide) (by omega)
    omega
  have HF : Hid (f = d / s ∧ g = e / s) := ⟨hf, hg⟩
  have HDF : Hid (∀ W x y, IsBig W x d → IsBig W y s → Calls Tryz.prog 67 #[x, y] W fun e w' => ∃ a1 n1 c1 a2 n2 c2, e = .returned (.tuple #[.agg #[.slice a1 n1 c1], .agg #[.slice a2 n2 c2]]) ∧ IsBig w' (.agg #[.slice a1 n1 c1]) f ∧ Below W.heap.size W w') := fun W x y i1 i2 => by
    refine (hD W x y d s i1 i2 (by omega) hs0).mono ?_
    rintro e w' ⟨p1, p2, p3, p4, p5, p6, he, i, _, hb⟩
    rw [hf]; exact ⟨p1, p2, p3, p4, p5, p6, he, i, hb⟩
  have HDG : Hid (∀ W x y, IsBig W x e → IsBig W y s → Calls Tryz.prog 67 #[x, y] W fun e w' => ∃ a1 n1 c1 a2 n2 c2, e = .returned (.tuple #[.agg #[.slice a1 n1 c1], .agg #[.slice a2 n2 c2]]) ∧ IsBig w' (.agg #[.slice a1 n1 c1]) g ∧ Below W.heap.size W w') := fun W x y i1 i2 => by
    refine (hD W x y e s i1 i2 (by omega) hs0).mono ?_
    rintro e w' ⟨p1, p2, p3, p4, p5, p6, he, i, _, hb⟩
    rw [hg]; exact ⟨p1, p2, p3, p4, p5, p6, he, i, hb⟩
  clear hx hy hx1 hx2 hy1 hy2 h1 h2 hk hn hd hm he hs hf hg hbm hD hG hd0 he0 hs0 hsd hfd hge hP hP2 hng hmf hk1 hbm2 hsl hml hM hT hTf hTfg HD HDD HF
  obtain ⟨bb, mm⟩ := bm
  dsimp only at *
  go_enter Tryz.func42, Tryz.ntmps42
  go_upto_region 1 with fail
  rw [← unhide HV]
  clear hV HV
  have t2 := (unhide HS).x.c2; have t4 := (unhide HS).y.c2
  go_upto_region 2 with (go_at_call 61; go_must (refine (unhide HGC V (Below.refl _ _)).mono ?_; rintro e w1 ⟨ag, lg, cg, rfl, hv1, hb1⟩; have HS1 := hide ((unhide HS).later hb1); have HG1 := hide hv1; have HX11 := hide ((unhide HX1).later hb1); have HX12 := hide ((unhide HX2).later hb1); have HY11 := hide ((unhide HY1).later hb1); have HY12 := hide ((unhide HY2).later hb1); clear hv1 hb1 t2 t4))
  clear HS HX1 HX2 HY1 HY2 HGC
  obtain ⟨V1, hV1⟩ : ∃ V1, V1 = w1.alloc (.cells #[.slice ag lg cg] 43) := ⟨_, rfl⟩
  have hb : Below w1.heap.size w1 V1 := by rw [hV1]; exact (Below.refl _ _).alloc (Nat.le_refl _) _
  have HS : Hid (AS w V1 (.bool b) (.slice a1 l1 c1) (.slice a2 l2 c2) (.bool c) (.slice a3 l3 c3) (.slice a4 l4 c4) [(w1.heap.size, .slice ag lg cg)]) := by rw [hV1]; exact (unhide HS1).push _
  have HG := hide ((unhide HG1).later hb); have HX1 := hide ((unhide HX11).later hb); have HX2 := hide ((unhide HX12).later hb); have HY1 := hide ((unhide HY11).later hb); have HY2 := hide ((unhide HY12).later hb)
  rw [← hV1]
  clear hV1 hb HS1 HG1 HX11 HX12 HY11 HY12
  generalize w1.heap.size = g5 at *
  have t2 := (unhide HS).x.c2; have t4 := (unhide HS).y.c2; have q5 := ((unhide HS).bx (g5, .slice ag lg cg) (by simp)).c
  dsimp only at q5
  go_upto_region 3 with (go_at_call 67; go_must (refine (unhide HDF V1 _ _ (unhide HX2) (unhide HG)).mono ?_; rintro e w2 ⟨af, lf, cf, af2, lf2, cf2, rfl, hv2, hb2⟩; have HS2 := hide ((unhide HS).later hb2); have HF2 := hide hv2; have HG2 := hide ((unhide HG).later hb2); have HX21 := hide ((unhide HX1).later hb2); have HY21 := hide ((unhide HY1).later hb2); have HY22 := hide ((unhide HY2).later hb2); clear hv2 hb2 t2 t4 q5))
  clear HS HG HX1 HX2 HY1 HY2
  obtain ⟨V2, hV2⟩ : ∃ V2, V2 = (w2.alloc (.cells #[.slice af lf cf] 43)).alloc (.cells #[.slice af2 lf2 cf2] 43) := ⟨_, rfl⟩
  have hb : Below w2.heap.size w2 V2 := by rw [hV2]; exact ((Below.refl _ _).alloc (Nat.le_refl _) _).alloc (by simp) _
  have h56 : g5 < w2.heap.size := ((unhide HS2).bx (g5, .slice ag lg cg) (by simp)).lt
  have HS : Hid (AS w V2 (.bool b) (.slice a1 l1 c1) (.slice a2 l2 c2) (.bool c) (.slice a3 l3 c3) (.slice a4 l4 c4) [(w2.heap.size, .slice af lf cf), (g5, .slice ag lg cg)]) := by rw [hV2]; exact (((unhide HS2).push _).push _).sub (by intro p hp; simp at hp ⊢; grind)
  have HG := hide ((unhide HG2).later hb); have HF := hide ((unhide HF2).later hb); have HX1 := hide ((unhide HX21).later hb); have HY1 := hide ((unhide HY21).later hb); have HY2 := hide ((unhide HY22).later hb)
  rw [← hV2]
  clear hV2 hb HS2 HG2 HF2 HX21 HY21 HY22
  generalize w2.heap.size = g6 at *
  have t4 := (unhide HS).y.c2; have q5 := ((unhide HS).bx (g5, .slice ag lg cg) (by simp)).c
  dsimp only at q5
  go_upto_region 4 with (go_at_call 67; go_must (refine (unhide HDG V2 _ _ (unhide HY2) (unhide HG)).mono ?_; rintro e w3 ⟨ah, lh, ch, ah2, lh2, ch2, rfl, hv3, hb3⟩; have HS3 := hide ((unhide HS).later hb3); have HH3 := hide hv3; have HG3 := hide ((unhide HG).later hb3); have HF3 := hide ((unhide HF).later hb3); have HX31 := hide ((unhide HX1).later hb3); have HY31 := hide ((unhide HY1).later hb3); clear hv3 hb3 t4 q5))
  clear HS HG HF HX1 HY1 HY2 HDF HDG
  obtain ⟨V3, hV3⟩ : ∃ V3, V3 = (w3.alloc (.cells #[.slice ah lh ch] 43)).alloc (.cells #[.slice ah2 lh2 ch2] 43) := ⟨_, rfl⟩
  have hb : Below w3.heap.size w3 V3 := by rw [hV3]; exact ((Below.refl _ _).alloc (Nat.le_refl _) _).alloc (by simp) _
  have h68 : g6 < w3.heap.size := ((unhide HS3).bx (g6, .slice af lf cf) (by simp)).lt
  have HS : Hid (AS w V3 (.bool b) (.slice a1 l1 c1) (.slice a2 l2 c2) (.bool c) (.slice a3 l3 c3) (.slice a4 l4 c4) [(w3.heap.size, .slice ah lh ch), (g6, .slice af lf cf), (g5, .slice ag lg cg)]) := by rw [hV3]; exact (((unhide HS3).push _).push _).sub (by intro p hp; simp at hp ⊢; grind)
  have HG := hide ((unhide HG3).later hb); have HF := hide ((unhide HF3).later hb); have HH := hide ((unhide HH3).later hb); have HX1 := hide ((unhide HX31).later hb); have HY1 := hide ((unhide HY31).later hb)
  rw [← hV3]
  clear hV3 hb HS3 HG3 HF3 HH3 HX31 HY31
  generalize w3.heap.size = g8 at *
  have t0 := (unhide HS).x.c0; have t1 := (unhide HS).x.c1; have t3 := (unhide HS).y.c0; have t4 := (unhide HS).y.c1
  have q6 := ((unhide HS).bx (g6, .slice af lf cf) (by simp)).c; have q8 := ((unhide HS).bx (g8, .slice ah lh ch) (by simp)).c
  dsimp only at q6 q8
  have HFX : Hid (∀ U, Below V3.heap.size V3 U → AS w U (.bool b) (.slice a1 l1 c1) (.slice a2 l2 c2) (.bool c) (.slice a3 l3 c3) (.slice a4 l4 c4) [(g8, .slice ah lh ch), (g6, .slice af lf cf), (g5, .slice ag lg cg)]) := fun U hb => (unhide HS).later hb
  have HC : Hid (∀ U, Below V3.heap.size V3 U → (U.cell? ⟨w.heap.size, 0, none⟩ = some (.bool b) ∧ U.cell? ⟨w.heap.size, 1, none⟩ = some (.slice a1 l1 c1) ∧ U.cell? ⟨w.heap.size + 1, 0, none⟩ = some (.bool c) ∧ U.cell? ⟨w.heap.size + 1, 1, none⟩ = some (.slice a3 l3 c3) ∧ U.cell? ⟨g6, 0, none⟩ = some (.slice af lf cf) ∧ U.cell? ⟨g8, 0, none⟩ = some (.slice ah lh ch)) ∧ w.heap.size < U.heap.size ∧ w.heap.size + 1 < U.heap.size ∧ g6 < U.heap.size ∧ g8 < U.heap.size) := fun U hb => by
    have s := unhide HFX U hb
    exact ⟨⟨s.x.c0, s.x.c1, s.y.c0, s.y.c1, (s.bx (g6, .slice af lf cf) (by simp)).c, (s.bx (g8, .slice ah lh ch) (by simp)).c⟩, s.x.lt, s.y.lt, (s.bx (g6, .slice af lf cf) (by simp)).lt, (s.bx (g8, .slice ah lh ch) (by simp)).lt⟩
  have HMA' : Hid (∀ U, Below V3.heap.size V3 U → Calls Tryz.prog 69 #[.agg #[.slice a1 l1 c1], .agg #[.slice ah lh ch]] U fun r w' => ∃ v', r = .returned v' ∧ IsBig w' v' (n * g) ∧ Below U.heap.size U w') := fun U hb => unhide HMA U _ ((unhide HX1).later hb) ((unhide HH).later hb)
  have HMB' : Hid (∀ U, Below V3.heap.size V3 U → Calls Tryz.prog 69 #[.agg #[.slice a3 l3 c3], .agg #[.slice af lf cf]] U fun r w' => ∃ v', r = .returned v' ∧ IsBig w' v' (m * f) ∧ Below U.heap.size U w') := fun U hb => unhide HMB U _ ((unhide HY1).later hb) ((unhide HF).later hb)
  have HSG' : Hid (∀ U0 U x y, IsBig U0 x (n * g) → IsBig U0 y (m * f) → Below U0.heap.size U0 U → Calls Tryz.prog 68 #[.bool b, x, .bool c, y] U fun e w' => ∃ a l d, e = .returned (.tuple #[.bool bb, .agg #[.slice a l d]]) ∧ IsBig w' (.agg #[.slice a l d]) mm ∧ Below U.heap.size U w') := fun U0 U x y i1 i2 hb => unhide HSG U x y (i1.later hb) (i2.later hb)
  have zv := (unhide HC V3 (Below.refl _ _)).2
  clear HMA HMB HSG
  go_region_held3 (fun w' => w'.cell? ⟨w.heap.size, 0, none⟩ = some (.bool b) ∧ w'.cell? ⟨w.heap.size, 1, none⟩ = some (.slice a1 l1 c1) ∧ w'.cell? ⟨w.heap.size + 1, 0, none⟩ = some (.bool c) ∧ w'.cell? ⟨w.heap.size + 1, 1, none⟩ = some (.slice a3 l3 c3) ∧ w'.cell? ⟨g6, 0, none⟩ = some (.slice af lf cf) ∧ w'.cell? ⟨g8, 0, none⟩ = some (.slice ah lh ch)) (first | assumption | (refine ⟨?_, ?_, ?_, ?_, ?_, ?_⟩ <;> first | assumption | (simp [go_sem, *]; done) | (rw [World.cell?_setCell_other _ _ _ _ (by simp; omega)]; assumption)) | (simp [go_sem, *]; done)) ((first
    | (go_at_call_of 69 (Value.agg #[Value.slice a1 l1 c1]); go_must (refine (unhide HMA' _ (by first | exact (Below.refl _ _).drew | exact ((Below.refl _ _).drew).alloc (by simp) _)).mono ?_; rintro e wa ⟨va, rfl, hva, hba⟩; obtain ⟨aa, la, ca, rfl⟩ := hva.shape; have HVA := hide hva; have HCA : Hid (Below V3.heap.size V3 wa) := (by first | exact ((Below.refl V3.heap.size V3).drew).trans hba | exact (((Below.refl V3.heap.size V3).drew).alloc (by simp) _).trans (hba.mono (by simp))); (first | (have HN : Hid (Box wa V3.heap.size (.slice none 0 0)) := (Box.new V3.drew (.slice none 0 0)).later hba; have nc := (unhide HN).c; have nf := (unhide HN).f) | skip); clear hva hba t0 t1 t3 t4 q6 q8; obtain ⟨⟨t0, t1, t3, t4, q6, q8⟩, za⟩ := unhide HC wa (unhide HCA)))
    | (go_at_call_of 69 (Value.agg #[Value.slice a3 l3 c3]); go_must (refine (unhide HMB' _ (by first | exact unhide HCA | exact (unhide HCA).alloc (unhide HCA).size _)).mono ?_; rintro e wb ⟨vb, rfl, hvb, hbb⟩; obtain ⟨ab, lb, cb, rfl⟩ := hvb.shape; have HVB := hide hvb; have HBB : Hid (Below wa.heap.size wa wb) := (by first | exact hbb | exact ((Below.refl _ _).alloc (Nat.le_refl _) _).trans (hbb.mono (by simp))); have HVA' := hide ((unhide HVA).later (unhide HBB)); have HCB := hide ((unhide HCA).trans ((unhide HBB).mono (unhide HCA).size)); (first | (have HN2 := hide ((unhide HN).later hbb); clear HN; have HN := HN2; clear HN2; clear nc nf; have nc := (unhide HN).c; have nf := (unhide HN).f) | (have HN := hide ((Box.new _ _).later hbb); have nc := (unhide HN).c; have nf := (unhide HN).f) | skip); clear hvb hbb t0 t1 t3 t4 q6 q8; obtain ⟨⟨t0, t1, t3, t4, q6, q8⟩, zb⟩ := unhide HC wb (unhide HCB)))
    | (go_at_call 68; go_must (refine (unhide HSG' wb _ _ _ (unhide HVA') (unhide HVB) (by first | exact Below.refl _ _ | exact (Below.refl _ _).alloc (Nat.le_refl _) _)).mono ?_; rintro e wc ⟨am, lm, cm, rfl, hvc, hbc⟩; have HVM := hide hvc; have HBC : Hid (Below wb.heap.size wb wc) := (by first | exact hbc | exact ((Below.refl _ _).alloc (Nat.le_refl _) _).trans (hbc.mono (by simp))); have HCC := hide ((unhide HCB).trans ((unhide HBC).mono (unhide HCB).size)); (first | (have HN2 := hide ((unhide HN).later hbc); clear HN; have HN := HN2; clear HN2; clear nc nf; have nc := (unhide HN).c; have nf := (unhide HN).f) | (have HN := hide ((Box.new _ _).later hbc); have nc := (unhide HN).c; have nf := (unhide HN).f) | skip); clear hvc hbc t0 t1 t3 t4 q6 q8; obtain ⟨⟨t0, t1, t3, t4, q6, q8⟩, zc⟩ := unhide HC wc (unhide HCC)))))
  all_goals
    first
    | (obtain ⟨V4, hV4⟩ : ∃ V4, V4 = wc.alloc (.cells #[.slice am lm cm] 43) := ⟨_, rfl⟩
       rw [← hV4]
       have hlt : g8 < wc.heap.size ∧ g6 < wc.heap.size ∧ g5 < wc.heap.size := by omega
       have hb : Below wc.heap.size wc V4 := by rw [hV4]; exact (Below.refl _ _).alloc (Nat.le_refl _) _
       have HS4 : Hid (AS w V4 (.bool b) (.slice a1 l1 c1) (.slice a2 l2 c2) (.bool c) (.slice a3 l3 c3) (.slice a4 l4 c4) [(wc.heap.size, .slice am lm cm), (g8, .slice ah lh ch), (g6, .slice af lf cf), (g5, .slice ag lg cg)]) := by rw [hV4]; exact (unhide HFX wc (unhide HCC)).push _
       have HM4 := hide ((unhide HVM).later hb)
       have HG4 := hide (((unhide HG).later (unhide HCC)).later hb)
       have HF4 := hide (((unhide HF).later (unhide HCC)).later hb)
       have HH4 := hide (((unhide HH).later (unhide HCC)).later hb)
       clear hV4 hb
       clear HS HG HF HH HX1 HY1 t0 t1 t3 t4 q6 q8 HFX HC HMA' HMB' HSG' zv za zb zc HVA HCA HVB HBB HVA' HCB HVM HBC HCC
       generalize wc.heap.size = g11 at *)
    | (obtain ⟨V4, hV4⟩ : ∃ V4, V4 = wc.setCell ⟨V3.heap.size, 0, none⟩ (.slice am lm cm) := ⟨_, rfl⟩
       rw [← hV4]
       have hlt : g8 < V3.heap.size ∧ g6 < V3.heap.size ∧ g5 < V3.heap.size := by omega
       have HS4 : Hid (AS w V4 (.bool b) (.slice a1 l1 c1) (.slice a2 l2 c2) (.bool c) (.slice a3 l3 c3) (.slice a4 l4 c4) [(V3.heap.size, .slice am lm cm), (g8, .slice ah lh ch), (g6, .slice af lf cf), (g5, .slice ag lg cg)]) := by
         rw [hV4]; exact ((unhide HFX wc (unhide HCC)).add (unhide HN) (unhide HS).r.lt).set (by intro p hp; simp at hp; rcases hp with rfl | rfl | rfl <;> simp <;> omega) _
       have HM4 : Hid (IsBig V4 (.agg #[.slice am lm cm]) mm) := by rw [hV4]; exact (unhide HVM).box _ nc (not_int _ _ _)
       have HG4 : Hid (IsBig V4 (.agg #[.slice ag lg cg]) s) := by rw [hV4]; exact ((unhide HG).later (unhide HCC)).box _ nc (not_int _ _ _)
       have HF4 : Hid (IsBig V4 (.agg #[.slice af lf cf]) f) := by rw [hV4]; exact ((unhide HF).later (unhide HCC)).box _ nc (not_int _ _ _)
       have HH4 : Hid (IsBig V4 (.agg #[.slice ah lh ch]) g) := by rw [hV4]; exact ((unhide HH).later (unhide HCC)).box _ nc (not_int _ _ _)
       clear hV4 HN nc nf
       clear HS HG HF HH HX1 HY1 t0 t1 t3 t4 q6 q8 HFX HC HMA' HMB' HSG' zv za zb zc HVA HCA HVB HBB HVA' HCB HVM HBC HCC
       generalize V3.heap.size = g11 at *)
    | (obtain ⟨V4, hV4⟩ : ∃ V4, V4 = wc.setCell ⟨wa.heap.size, 0, none⟩ (.slice am lm cm) := ⟨_, rfl⟩
       rw [← hV4]
       have hlt : g8 < wa.heap.size ∧ g6 < wa.heap.size ∧ g5 < wa.heap.size := by omega
       have HS4 : Hid (AS w V4 (.bool b) (.slice a1 l1 c1) (.slice a2 l2 c2) (.bool c) (.slice a3 l3 c3) (.slice a4 l4 c4) [(wa.heap.size, .slice am lm cm), (g8, .slice ah lh ch), (g6, .slice af lf cf), (g5, .slice ag lg cg)]) := by
         rw [hV4]; exact ((unhide HFX wc (unhide HCC)).add (unhide HN) (unhide HFX wa (unhide HCA)).r.lt).set (by intro p hp; simp at hp; rcases hp with rfl | rfl | rfl <;> simp <;> omega) _
       have HM4 : Hid (IsBig V4 (.agg #[.slice am lm cm]) mm) := by rw [hV4]; exact (unhide HVM).box _ nc (not_int _ _ _)
       have HG4 : Hid (IsBig V4 (.agg #[.slice ag lg cg]) s) := by rw [hV4]; exact ((unhide HG).later (unhide HCC)).box _ nc (not_int _ _ _)
       have HF4 : Hid (IsBig V4 (.agg #[.slice af lf cf]) f) := by rw [hV4]; exact ((unhide HF).later (unhide HCC)).box _ nc (not_int _ _ _)
       have HH4 : Hid (IsBig V4 (.agg #[.slice ah lh ch]) g) := by rw [hV4]; exact ((unhide HH).later (unhide HCC)).box _ nc (not_int _ _ _)
       clear hV4 HN nc nf
       clear HS HG HF HH HX1 HY1 t0 t1 t3 t4 q6 q8 HFX HC HMA' HMB' HSG' zv za zb zc HVA HCA HVB HBB HVA' HCB HVM HBC HCC
       generalize wa.heap.size = g11 at *)
    | (obtain ⟨V4, hV4⟩ : ∃ V4, V4 = wc.setCell ⟨wb.heap.size, 0, none⟩ (.slice am lm cm) := ⟨_, rfl⟩
       rw [← hV4]
       have hlt : g8 < wb.heap.size ∧ g6 < wb.heap.size ∧ g5 < wb.heap.size := by omega
       have HS4 : Hid (AS w V4 (.bool b) (.slice a1 l1 c1) (.slice a2 l2 c2) (.bool c) (.slice a3 l3 c3) (.slice a4 l4 c4) [(wb.heap.size, .slice am lm cm), (g8, .slice ah lh ch), (g6, .slice af lf cf), (g5, .slice ag lg cg)]) := by
         rw [hV4]; exact ((unhide HFX wc (unhide HCC)).add (unhide HN) (unhide HFX wb (unhide HCB)).r.lt).set (by intro p hp; simp at hp; rcases hp with rfl | rfl | rfl <;> simp <;> omega) _
       have HM4 : Hid (IsBig V4 (.agg #[.slice am lm cm]) mm) := by rw [hV4]; exact (unhide HVM).box _ nc (not_int _ _ _)
       have HG4 : Hid (IsBig V4 (.agg #[.slice ag lg cg]) s) := by rw [hV4]; exact ((unhide HG).later (unhide HCC)).box _ nc (not_int _ _ _)
       have HF4 : Hid (IsBig V4 (.agg #[.slice af lf cf]) f) := by rw [hV4]; exact ((unhide HF).later (unhide HCC)).box _ nc (not_int _ _ _)
       have HH4 : Hid (IsBig V4 (.agg #[.slice ah lh ch]) g) := by rw [hV4]; exact ((unhide HH).later (unhide HCC)).box _ nc (not_int _ _ _)
       clear hV4 HN nc nf
       clear HS HG HF HH HX1 HY1 t0 t1 t3 t4 q6 q8 HFX HC HMA' HMB' HSG' zv za zb zc HVA HCA HVB HBB HVA' HCB HVM HBC HCC
       generalize wb.heap.size = g11 at *)
    have n1 : ¬ g11 = g5 := by omega
    have n2 : ¬ g5 = g11 := by omega
    have q11 := ((unhide HS4).bx (g11, .slice am lm cm) (by simp)).c; have q5 := ((unhide HS4).bx (g5, .slice ag lg cg) (by simp)).c
    dsimp only at q11 q5
    go_upto_region 6 with (go_at_call 70; go_must (refine (unhide HLW V4 _ _ (unhide HM4) (unhide HG4)).mono ?_; rintro e w5 ⟨ai, li, ci, aj, lj, cj, rfl, hi5, hj5, hb5⟩; have HS5 := hide ((unhide HS4).later hb5); have HI5 := hide hi5; have HJ5 := hide hj5; have HF5 := hide ((unhide HF4).later hb5); have HH5 := hide ((unhide HH4).later hb5); clear hi5 hj5 hb5 q11 q5; have q11 := ((unhide HS5).bx (g11, .slice am lm cm) (by simp)).c; have q5 := ((unhide HS5).bx (g5, .slice ag lg cg) (by simp)).c; have p11 := ((unhide HS5).bx (g11, .slice am lm cm) (by simp)).f; have p5 := ((unhide HS5).bx (g5, .slice ag lg cg) (by simp)).f; dsimp only at q11 q5 p11 p5))
    obtain ⟨V5, hV5⟩ : ∃ V5, V5 = (w5.setCell ⟨g11, 0, none⟩ (.slice ai li ci)).setCell ⟨g5, 0, none⟩ (.slice aj lj cj) := ⟨_, rfl⟩
    rw [← hV5]
    have hq : (w5.setCell ⟨g11, 0, none⟩ (.slice ai li ci)).cell? ⟨g5, 0, none⟩ = some (.slice ag lg cg) := by rw [World.cell?_setCell_other _ _ _ _ (by first | (simp; done) | (simp; omega) | (simp [n1, n2]; done))]; exact q5
    have HS6 : Hid (AS w V5 (.bool b) (.slice a1 l1 c1) (.slice a2 l2 c2) (.bool c) (.slice a3 l3 c3) (.slice a4 l4 c4) [(g5, .slice aj lj cj), (g11, .slice ai li ci), (g8, .slice ah lh ch), (g6, .slice af lf cf)]) := by
      rw [hV5]
      have s1 := (unhide HS5).set (by intro p hp; simp at hp; rcases hp with rfl | rfl | rfl <;> simp <;> omega) (.slice ai li ci)
      exact (s1.sub (M := [(g5, .slice ag lg cg), (g11, .slice ai li ci), (g8, .slice ah lh ch), (g6, .slice af lf cf)]) (by intro p hp; simp at hp ⊢; grind)).set (by intro p hp; simp at hp; rcases hp with rfl | rfl | rfl <;> simp <;> omega) _
    have HI6 : Hid (IsBig V5 (.agg #[.slice ai li ci]) M) := by rw [hV5]; exact ((unhide HI5).box _ q11 (not_int _ _ _)).box _ hq (not_int _ _ _)
    have HJ6 : Hid (IsBig V5 (.agg #[.slice aj lj cj]) T) := by rw [hV5]; exact ((unhide HJ5).box _ q11 (not_int _ _ _)).box _ hq (not_int _ _ _)
    have HF6 : Hid (IsBig V5 (.agg #[.slice af lf cf]) f) := by rw [hV5]; exact ((unhide HF5).box _ q11 (not_int _ _ _)).box _ hq (not_int _ _ _)
    have HH6 : Hid (IsBig V5 (.agg #[.slice ah lh ch]) g) := by rw [hV5]; exact ((unhide HH5).box _ q11 (not_int _ _ _)).box _ hq (not_int _ _ _)
    clear hV5 hq HS4 HM4 HG4 HF4 HH4 HS5 HI5 HJ5 HF5 HH5 q11 q5 p11 p5 HLW
    have q11 := ((unhide HS6).bx (g11, .slice ai li ci) (by simp)).c
    dsimp only at q11
    have HZ := hide (isZero_any _ M V5 (unhide HI6))
    by_cases hM0 : M = 0
    · have HV : Hid (Cub.valQ b n d + Cub.valQ c m e = 0) := (unhide HADD).1 hM0
      rw [show (M == 0) = true by rw [hM0]; rfl] at HZ
      have HW0 := hide (fun W => whole_any 0 W (by omega))
      clear hM0
      go_wp2_with (first
        | (go_at_call 44; go_must (refine (unhide HZ).mono ?_; rintro e w6 ⟨rfl, hb6⟩; have HS7 := hide ((unhide HS6).later hb6); clear hb6))
        | (go_at_call 71; go_must (refine (unhide HW0 _).mono ?_; rintro e w7 ⟨v7, rfl, hv7, hb7⟩; obtain ⟨i1, i2, i3, i4, i5, i6, rfl, hw1, hw2⟩ := hv7.form; have HS8 := hide ((unhide HS7).later hb7); have HW1 := hide hw1; have HW2 := hide hw2; clear hv7 hb7 hw1 hw2; have r0 := (unhide HS8).r.c0; have r1 := (unhide HS8).r.c1; have r2 := (unhide HS8).r.c2; have rf0 := (unhide HS8).r.f0; have rf1 := (unhide HS8).r.f1; have rf2 := (unhide HS8).r.f2)))
      have hS := (unhide HS8).r.store (.bool false) (.slice i1 i2 i3) (.slice i4 i5 i6)
      have hb : Below w.heap.size w (store3 w7 (w.heap.size + 1 + 1) (.bool false) (.slice i1 i2 i3) (.slice i4 i5 i6)) := below_store3 (unhide HS8).below (by omega) _ _ _
      have u0 := hS.c0; have u1 := hS.c1; have u2 := hS.c2
      exact bodyPost_ret (v := .agg #[.bool false, .slice i1 i2 i3, .slice i4 i5 i6]) (w := store3 w7 (w.heap.size + 1 + 1) (.bool false) (.slice i1 i2 i3) (.slice i4 i5 i6)) (by simp [results, Tryz.results42, go_sem, u0, u1, u2]) rfl ⟨_, false, 0, 1, rfl, ⟨_, _, rfl, (unhide HS8).r.big _ _ _ (unhide HW1), (unhide HS8).r.big _ _ _ (unhide HW2)⟩, Cub.low_zero, (by rw [unhide HV]; exact Cub.valQ_zero _ _), (unhide HBD).2.2.1, (unhide HBD).2.2.2, hb⟩
    · have HV := hide ((unhide HADD).2 hM0)
      rw [show (M == 0) = false by rw [beq_eq_false_iff_ne]; exact hM0] at HZ
      clear hM0
      go_upto_region 8 with (go_at_call 44; go_must (refine (unhide HZ).mono ?_; rintro e w6 ⟨rfl, hb6⟩; have HS7 := hide ((unhide HS6).later hb6); have HI7 := hide ((unhide HI6).later hb6); have HJ7 := hide ((unhide HJ6).later hb6); have HF7 := hide ((unhide HF6).later hb6); have HH7 := hide ((unhide HH6).later hb6); clear hb6 q11))
      clear HS6 HI6 HJ6 HF6 HH6 HZ
      have q11 := ((unhide HS7).bx (g11, .slice ai li ci) (by simp)).c; have q5 := ((unhide HS7).bx (g5, .slice aj lj cj) (by simp)).c; have q6 := ((unhide HS7).bx (g6, .slice af lf cf) (by simp)).c; have q8 := ((unhide HS7).bx (g8, .slice ah lh ch) (by simp)).c
      dsimp only at q11 q5 q6 q8
      have HC : Hid (∀ U, Below w6.heap.size w6 U → (U.cell? ⟨g11, 0, none⟩ = some (.slice ai li ci) ∧ U.cell? ⟨g5, 0, none⟩ = some (.slice aj lj cj) ∧ U.cell? ⟨g6, 0, none⟩ = some (.slice af lf cf) ∧ U.cell? ⟨g8, 0, none⟩ = some (.slice ah lh ch)) ∧ U.cell? ⟨w.heap.size + 1 + 1, 0, none⟩ = some (.bool false) ∧ U.cell? ⟨w.heap.size + 1 + 1, 1, none⟩ = some (.slice none 0 0) ∧ U.cell? ⟨w.heap.size + 1 + 1, 2, none⟩ = some (.slice none 0 0) ∧ U.frozen? ⟨w.heap.size + 1 + 1, 0, none⟩ = false ∧ U.frozen? ⟨w.heap.size + 1 + 1, 1, none⟩ = false ∧ U.frozen? ⟨w.heap.size + 1 + 1, 2, none⟩ = false) := fun U hb => by
        have s := (unhide HS7).later hb
        exact ⟨⟨(s.bx (g11, .slice ai li ci) (by simp)).c, (s.bx (g5, .slice aj lj cj) (by simp)).c, (s.bx (g6, .slice af lf cf) (by simp)).c, (s.bx (g8, .slice ah lh ch) (by simp)).c⟩, s.r.c0, s.r.c1, s.r.c2, s.r.f0, s.r.f1, s.r.f2⟩
      have m1 : w.heap.size + 1 + 1 < g11 := (unhide HS7).gt (g11, .slice ai li ci) (by simp)
      have m2 : w.heap.size + 1 + 1 < g5 := (unhide HS7).gt (g5, .slice aj lj cj) (by simp)
      have m3 : w.heap.size + 1 + 1 < g6 := (unhide HS7).gt (g6, .slice af lf cf) (by simp)
      have m4 : w.heap.size + 1 + 1 < g8 := (unhide HS7).gt (g8, .slice ah lh ch) (by simp)
      go_region_held3 (fun w' => w'.cell? ⟨g11, 0, none⟩ = some (.slice ai li ci) ∧ w'.cell? ⟨g5, 0, none⟩ = some (.slice aj lj cj) ∧ w'.cell? ⟨g6, 0, none⟩ = some (.slice af lf cf) ∧ w'.cell? ⟨g8, 0, none⟩ = some (.slice ah lh ch)) (first | assumption | (refine ⟨?_, ?_, ?_, ?_⟩ <;> first | assumption | (simp [go_sem, *]; done) | (rw [World.cell?_setCell_other _ _ _ _ (by simp; omega), World.cell?_setCell_other _ _ _ _ (by simp), World.cell?_setCell_other _ _ _ _ (by simp)]; assumption)) | (simp [go_sem, *]; done)) ((first
        | (go_at_call_of 69 (Value.agg #[Value.slice aj lj cj]); go_must (refine (unhide HMC _ _ _ ((unhide HJ7).later ((Below.refl _ _).drew)) ((unhide HF7).later ((Below.refl _ _).drew))).mono ?_; rintro e wa2 ⟨va, rfl, hva, hba⟩; obtain ⟨ak, lk, ck, rfl⟩ := hva.shape; have HVK := hide hva; have HCK := hide (((Below.refl w6.heap.size w6).drew).trans hba); clear hva hba q11 q5 q6 q8; obtain ⟨⟨q11, q5, q6, q8⟩, _⟩ := unhide HC wa2 (unhide HCK)))
        | (go_at_call 69; go_must (refine (unhide HMD _ _ _ (unhide HVK) ((unhide HH7).later (unhide HCK))).mono ?_; rintro e wb2 ⟨vb, rfl, hvb, hbb⟩; obtain ⟨ao, lo, co, rfl⟩ := hvb.shape; have HVO := hide hvb; have HCO := hide ((unhide HCK).trans (hbb.mono (unhide HCK).size)); clear hvb hbb q11 q5 q6 q8; obtain ⟨⟨q11, q5, q6, q8⟩, r0, r1, r2, rf0, rf1, rf2⟩ := unhide HC wb2 (unhide HCO)))))
      have HS8 := hide ((unhide HS7).later (unhide HCO))
      have HI8 := hide ((unhide HI7).later (unhide HCO))
      clear r0 r1 r2 rf0 rf1 rf2 q11 q5 q6 q8
      have hS := (unhide HS8).r.store (.bool bb) (.slice ai li ci) (.slice ao lo co)
      have hb : Below w.heap.size w (store3 wb2 (w.heap.size + 1 + 1) (.bool bb) (.slice ai li ci) (.slice ao lo co)) := below_store3 (unhide HS8).below (by omega) _ _ _
      have u0 := hS.c0; have u1 := hS.c1; have u2 := hS.c2
      obtain ⟨V9, hV9⟩ : ∃ V9, V9 = store3 wb2 (w.heap.size + 1 + 1) (.bool bb) (.slice ai li ci) (.slice ao lo co) := ⟨_, rfl⟩
      have hV9' : V9 = ((wb2.setCell ⟨w.heap.size + 1 + 1, 0, none⟩ (.bool bb)).setCell ⟨w.heap.size + 1 + 1, 1, none⟩ (.slice ai li ci)).setCell ⟨w.heap.size + 1 + 1, 2, none⟩ (.slice ao lo co) := hV9
      have HE9 : Hid (IsBig V9 (.agg #[.slice ai li ci]) M ∧ IsBig V9 (.agg #[.slice ao lo co]) (T * f * g) ∧ Below w.heap.size w V9) := by rw [hV9]; exact ⟨(unhide HS8).r.big _ _ _ (unhide HI8), (unhide HS8).r.big _ _ _ (unhide HVO), hb⟩
      rw [← hV9] at u0 u1 u2
      rw [← hV9']
      clear hV9 hV9' hS hb m1 m2 m3 m4 hlt h56 h68 n1 n2
      go_wp2_with fail
      exact bodyPost_ret (v := .agg #[.bool bb, .slice ai li ci, .slice ao lo co]) (by simp [results, Tryz.results42, go_sem, u0, u1, u2]) rfl ⟨_, bb, M, T * f * g, rfl, ⟨_, _, rfl, (unhide HE9).1, (unhide HE9).2.1⟩, (unhide HV).1, (unhide HV).2, (unhide HBD).1, (unhide HBD).2.1, (unhide HE9).2.2⟩
end Go.Proofs.YtimihoonnglniaaGreatDoor

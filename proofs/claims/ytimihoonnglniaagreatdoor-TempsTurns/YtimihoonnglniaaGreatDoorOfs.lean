/- rat.Of and the document's Of. -/
import Derived.Test.YtimihoonnglniaaGreatDoorTell
import Derived.Test.YtimihoonnglniaaGreatDoorReadNo
import Derived.Test.YtimihoonnglniaaGreatDoorOne
import Derived.Test.YtimihoonnglniaaGreatDoorShelf

namespace Go.Proofs.YtimihoonnglniaaGreatDoor
open Go.RowKit

/-- Two texts are those of a number. -/
def IsR (num den : ByteArray) (x : Rat) : Prop := Small x ∧ num = numT x ∧ den = denT x
theorem IsR.rt {num den : ByteArray} {x : Rat} (h : IsR num den x) : RT num den (decide (x < 0)) x.num.natAbs x.den := by
  obtain ⟨hs, rfl, rfl⟩ := h
  unfold numT denT
  rw [if_pos hs, if_pos hs]
  exact ⟨rfl, rfl, hs.1, hs.2, (Cub.low_of x).1⟩
theorem RT.isR {num den : ByteArray} {b : Bool} {n d : Nat} (h : RT num den b n d) : IsR num den (Cub.valQ b n d) := by
  obtain ⟨e1, e2, e3⟩ := Cub.low_is h.low
  have hs : Small (Cub.valQ b n d) := ⟨by rw [← e2]; exact h.hn, by rw [← e3]; exact h.hd⟩
  refine ⟨hs, ?_, ?_⟩
  · unfold numT; rw [if_pos hs, ← e1, ← e2]; exact h.num
  · unfold denT; rw [if_pos hs, ← e3]; exact h.den
theorem right_isR (num den : ByteArray) : RightT num den ↔ ∃ x, IsR num den x :=
  ⟨fun ⟨_, _, _, h⟩ => ⟨_, h.isR⟩, fun ⟨_, h⟩ => ⟨_, _, _, h.rt⟩⟩
theorem numT_of {x : Rat} (h : Small x) : IsR (numT x) (denT x) x := ⟨h, rfl, rfl⟩
theorem IsR.size {num den : ByteArray} {x : Rat} (h : IsR num den x) : num.size ≤ 601 ∧ den.size ≤ 600 := by
  have r := h.rt
  rw [r.num, r.den]
  exact ⟨sT_size _ _ r.hn, (tb_digs _ r.hd).2⟩
theorem qread (num den : ByteArray) (x : Rat) (w : World) (h : IsR num den x) :
    Calls Tryz.prog 40 #[.agg #[.string num, .string den]] w fun r w' => ∃ v, r = .returned (.tuple #[v, .bool true]) ∧ QOf w' v x 67 ∧ Below w.heap.size w w' := by
  have r := h.rt
  have := read_ok num den _ _ _ w r.num r.den r.hn r.hd r.low.sign (by have := r.low.pos; omega) r.low.cop
  rwa [(Cub.low_of x).2] at this
/-- Two numbers in their boxes, two boxes of Fracs. -/
structure W2 (w W : World) (x y z t p0 p1 p2 q0 q1 q2 : Value) : Prop where
  a : T2 W w.heap.size x y
  b : T2 W (w.heap.size + 1) z t
  p : FBox W (w.heap.size + 1 + 1) p0 p1 p2
  q : FBox W (w.heap.size + 1 + 1 + 1) q0 q1 q2
  below : Below w.heap.size w W
theorem W2.later {w W V : World} {x y z t p0 p1 p2 q0 q1 q2 : Value} (s : W2 w W x y z t p0 p1 p2 q0 q1 q2) (hb : Below W.heap.size W V) : W2 w V x y z t p0 p1 p2 q0 q1 q2 :=
  ⟨s.a.later hb, s.b.later hb, s.p.later hb, s.q.later hb, s.below.trans (hb.mono s.below.size)⟩
theorem W2.first (w : World) (x y z t : Value) : W2 w ((((w.alloc (.cells #[x, y] 23)).alloc (.cells #[z, t] 23)).alloc (.cells #[.bool false, .slice none 0 0, .slice none 0 0] 45)).alloc (.cells #[.bool false, .slice none 0 0, .slice none 0 0] 45)) x y z t (.bool false) (.slice none 0 0) (.slice none 0 0) (.bool false) (.slice none 0 0) (.slice none 0 0) :=
  ⟨⟨by simp [go_sem], by simp [go_sem], by simp [go_sem], by simp [go_sem]⟩, ⟨by simp [go_sem], by simp [go_sem], by simp [go_sem], by simp [go_sem]⟩, ⟨by simp [go_sem], by simp [go_sem], by simp [go_sem], by simp [go_sem], by simp [go_sem], by simp [go_sem]⟩, ⟨by simp [go_sem], by simp [go_sem], by simp [go_sem], by simp [go_sem], by simp [go_sem], by simp [go_sem]⟩,
    ((((Below.refl _ _).alloc (Nat.le_refl _) _).alloc (by simp) _).alloc (by simp; omega) _).alloc (by simp; omega) _⟩
theorem FBox.other3 {W : World} {g k : Nat} {x y z : Value} (h : FBox W g x y z) (hk : g ≠ k) (u v s : Value) : FBox (store3 W k u v s) g x y z := ((h.otherAt hk u).otherAt hk v).otherAt hk s
theorem T2.other3 {W : World} {g k : Nat} {x y : Value} (h : T2 W g x y) (hk : g ≠ k) (u v s : Value) : T2 (store3 W k u v s) g x y := ((h.otherAt hk u).otherAt hk v).otherAt hk s
theorem W2.setP {w W : World} {x y z t p0 p1 p2 q0 q1 q2 : Value} (s : W2 w W x y z t p0 p1 p2 q0 q1 q2) (u v r : Value) : W2 w (store3 W (w.heap.size + 1 + 1) u v r) x y z t u v r q0 q1 q2 :=
  ⟨s.a.other3 (by omega) _ _ _, s.b.other3 (by omega) _ _ _, s.p.store _ _ _, s.q.other3 (by omega) _ _ _, below_store3 s.below (by omega) _ _ _⟩
theorem W2.setQ {w W : World} {x y z t p0 p1 p2 q0 q1 q2 : Value} (s : W2 w W x y z t p0 p1 p2 q0 q1 q2) (u v r : Value) : W2 w (store3 W (w.heap.size + 1 + 1 + 1) u v r) x y z t p0 p1 p2 u v r :=
  ⟨s.a.other3 (by omega) _ _ _, s.b.other3 (by omega) _ _ _, s.p.other3 (by omega) _ _ _, s.q.store _ _ _, below_store3 s.below (by omega) _ _ _⟩
theorem QOf.over {W : World} {g : Nat} {b : Bool} {a1 a2 : Option Addr} {l1 c1 l2 c2 : Nat} (h : FBox W g (.bool b) (.slice a1 l1 c1) (.slice a2 l2 c2)) (u v r : Value) {vv : Value} {x : Rat} {k : Nat}
    (hv : QOf W vv x k) : QOf (store3 W g u v r) vv x k := by
  obtain ⟨b0, n, d, ⟨s, t, e, h1, h1'⟩, h2⟩ := hv
  exact ⟨b0, n, d, ⟨s, t, e, h.big _ _ _ h1, h.big _ _ _ h1'⟩, h2⟩

set_option maxRecDepth 100000 in
set_option maxHeartbeats 2000000 in
theorem readTwo_ok (n1 d1 n2 d2 : ByteArray) (x y : Rat) (w : World) (h1 : IsR n1 d1 x) (h2 : IsR n2 d2 y) :
    Calls Tryz.prog 120 #[.agg #[.string n1, .string d1], .agg #[.string n2, .string d2]] w fun r w' => ∃ v u, r = .returned (.tuple #[v, u, .int .i64 0]) ∧ QOf w' v x 67 ∧ QOf w' u y 67 ∧ Below w.heap.size w w' := by
  obtain ⟨V, hV⟩ : ∃ V, V = ((((w.alloc (.cells #[.string n1, .string d1] 23)).alloc (.cells #[.string n2, .string d2] 23)).alloc (.cells #[.bool false, .slice none 0 0, .slice none 0 0] 45)).alloc (.cells #[.bool false, .slice none 0 0, .slice none 0 0] 45)) := ⟨_, rfl⟩
  have HS : Hid (W2 w V (.string n1) (.string d1) (.string n2) (.string d2) (.bool false) (.slice none 0 0) (.slice none 0 0) (.bool false) (.slice none 0 0) (.slice none 0 0)) := by rw [hV]; exact W2.first _ _ _ _ _
  have HV := hide hV
  have HR1 := hide (fun W => qread n1 d1 x W h1)
  have HR2 := hide (fun W => qread n2 d2 y W h2)
  clear h1 h2
  go_enter Tryz.func120, Tryz.ntmps120
  go_upto_region 1 with fail
  rw [← unhide HV]
  clear hV HV
  have t0 := (unhide HS).a.c0; have t1 := (unhide HS).a.c1
  go_upto_region 2 with (go_at_call 40; go_must (refine (unhide HR1 _).mono ?_; rintro e w1 ⟨v1, rfl, hv1, hb1⟩; obtain ⟨b1, i1, i2, i3, i4, i5, i6, rfl⟩ := hv1.form; have HS1 := hide ((unhide HS).later hb1); have HV1 := hide hv1; clear hv1 hb1 t0 t1; have r0 := (unhide HS1).p.c0; have r1 := (unhide HS1).p.c1; have r2 := (unhide HS1).p.c2; have rf0 := (unhide HS1).p.f0; have rf1 := (unhide HS1).p.f1; have rf2 := (unhide HS1).p.f2))
  obtain ⟨V2, hV2⟩ : ∃ V2, V2 = store3 w1 (w.heap.size + 1 + 1) (.bool b1) (.slice i1 i2 i3) (.slice i4 i5 i6) := ⟨_, rfl⟩
  have hV2' : V2 = ((w1.setCell ⟨w.heap.size + 1 + 1, 0, none⟩ (.bool b1)).setCell ⟨w.heap.size + 1 + 1, 1, none⟩ (.slice i1 i2 i3)).setCell ⟨w.heap.size + 1 + 1, 2, none⟩ (.slice i4 i5 i6) := hV2
  have HS2 := hide ((unhide HS1).setP (.bool b1) (.slice i1 i2 i3) (.slice i4 i5 i6))
  have HV2 := hide ((unhide HV1).stored (unhide HS1).p)
  rw [← hV2] at HS2 HV2
  rw [← hV2']
  clear hV2 hV2' HS HS1 HV1 r0 r1 r2 rf0 rf1 rf2
  have t0 := (unhide HS2).b.c0; have t1 := (unhide HS2).b.c1
  go_upto_region 3 with (go_at_call 40; go_must (refine (unhide HR2 _).mono ?_; rintro e w3 ⟨v3, rfl, hv3, hb3⟩; obtain ⟨b3, j1, j2, j3, j4, j5, j6, rfl⟩ := hv3.form; have HS3 := hide ((unhide HS2).later hb3); have HV3 := hide hv3; have HU3 := hide ((unhide HV2).later hb3); clear hv3 hb3 t0 t1; have r0 := (unhide HS3).q.c0; have r1 := (unhide HS3).q.c1; have r2 := (unhide HS3).q.c2; have rf0 := (unhide HS3).q.f0; have rf1 := (unhide HS3).q.f1; have rf2 := (unhide HS3).q.f2))
  obtain ⟨V4, hV4⟩ : ∃ V4, V4 = store3 w3 (w.heap.size + 1 + 1 + 1) (.bool b3) (.slice j1 j2 j3) (.slice j4 j5 j6) := ⟨_, rfl⟩
  have hV4' : V4 = ((w3.setCell ⟨w.heap.size + 1 + 1 + 1, 0, none⟩ (.bool b3)).setCell ⟨w.heap.size + 1 + 1 + 1, 1, none⟩ (.slice j1 j2 j3)).setCell ⟨w.heap.size + 1 + 1 + 1, 2, none⟩ (.slice j4 j5 j6) := hV4
  have HS4 := hide ((unhide HS3).setQ (.bool b3) (.slice j1 j2 j3) (.slice j4 j5 j6))
  have HV4 := hide ((unhide HV3).stored (unhide HS3).q)
  have HU4 := hide (QOf.over (unhide HS3).q (.bool b3) (.slice j1 j2 j3) (.slice j4 j5 j6) (unhide HU3))
  rw [← hV4] at HS4 HV4 HU4
  rw [← hV4']
  clear hV4 hV4' HS2 HV2 HS3 HV3 HU3 r0 r1 r2 rf0 rf1 rf2
  go_upto_region 5 with fail
  have r0 := (unhide HS4).p.c0; have r1 := (unhide HS4).p.c1; have r2 := (unhide HS4).p.c2; have rf0 := (unhide HS4).p.f0; have rf1 := (unhide HS4).p.f1; have rf2 := (unhide HS4).p.f2
  have s0 := (unhide HS4).q.c0; have s1 := (unhide HS4).q.c1; have s2 := (unhide HS4).q.c2; have sf0 := (unhide HS4).q.f0; have sf1 := (unhide HS4).q.f1; have sf2 := (unhide HS4).q.f2
  go_region
  obtain ⟨V5, hV5⟩ : ∃ V5, V5 = (store3 (store3 V4 (w.heap.size + 1 + 1) (.bool b1) (.slice i1 i2 i3) (.slice i4 i5 i6)) (w.heap.size + 1 + 1 + 1) (.bool b3) (.slice j1 j2 j3) (.slice j4 j5 j6)).drew := ⟨_, rfl⟩
  have hV5' : V5 = ((((((V4.setCell ⟨w.heap.size + 1 + 1, 0, none⟩ (.bool b1)).setCell ⟨w.heap.size + 1 + 1, 1, none⟩ (.slice i1 i2 i3)).setCell ⟨w.heap.size + 1 + 1, 2, none⟩ (.slice i4 i5 i6)).setCell ⟨w.heap.size + 1 + 1 + 1, 0, none⟩ (.bool b3)).setCell ⟨w.heap.size + 1 + 1 + 1, 1, none⟩ (.slice j1 j2 j3)).setCell ⟨w.heap.size + 1 + 1 + 1, 2, none⟩ (.slice j4 j5 j6)).drew := hV5
  have hm := (unhide HS4).setP (.bool b1) (.slice i1 i2 i3) (.slice i4 i5 i6)
  have HS5 := hide ((hm.setQ (.bool b3) (.slice j1 j2 j3) (.slice j4 j5 j6)).later ((Below.refl _ _).drew))
  have HV5 := hide ((QOf.over hm.q (.bool b3) (.slice j1 j2 j3) (.slice j4 j5 j6) (QOf.over (unhide HS4).p (.bool b1) (.slice i1 i2 i3) (.slice i4 i5 i6) (unhide HV4))).later ((Below.refl _ _).drew))
  have HU5 := hide ((QOf.over hm.q (.bool b3) (.slice j1 j2 j3) (.slice j4 j5 j6) (QOf.over (unhide HS4).p (.bool b1) (.slice i1 i2 i3) (.slice i4 i5 i6) (unhide HU4))).later ((Below.refl _ _).drew))
  rw [← hV5] at HS5 HV5 HU5
  rw [← hV5']
  clear hV5 hV5' hm HS4 HV4 HU4 r0 r1 r2 rf0 rf1 rf2 s0 s1 s2 sf0 sf1 sf2
  have r0 := (unhide HS5).p.c0; have r1 := (unhide HS5).p.c1; have r2 := (unhide HS5).p.c2; have s0 := (unhide HS5).q.c0; have s1 := (unhide HS5).q.c1; have s2 := (unhide HS5).q.c2
  go_wp2_with fail
  exact bodyPost_ret (v := .tuple #[.agg #[.bool b1, .slice i1 i2 i3, .slice i4 i5 i6], .agg #[.bool b3, .slice j1 j2 j3, .slice j4 j5 j6], .int .i64 0]) (by simp [results, Tryz.results120, go_sem, r0, r1, r2, s0, s1, s2]) rfl ⟨_, _, rfl, unhide HU5, unhide HV5, (unhide HS5).below⟩
end Go.Proofs.YtimihoonnglniaaGreatDoor

namespace Go.Proofs.YtimihoonnglniaaGreatDoor
open Go.RowKit

/-- Two numbers in their boxes, a number's box, and two Fracs' boxes behind them (or none yet). -/
structure O3 (w W : World) (x y z t : Value) : Prop where
  a : T2 W w.heap.size x y
  b : T2 W (w.heap.size + 1) z t
  r : T2 W (w.heap.size + 1 + 1) (.string ⟨#[]⟩) (.string ⟨#[]⟩)
  below : Below w.heap.size w W
theorem O3.later {w W V : World} {x y z t : Value} (s : O3 w W x y z t) (hb : Below W.heap.size W V) : O3 w V x y z t :=
  ⟨s.a.later hb, s.b.later hb, s.r.later hb, s.below.trans (hb.mono s.below.size)⟩
theorem O3.first (w : World) (x y z t : Value) : O3 w (((w.alloc (.cells #[x, y] 23)).alloc (.cells #[z, t] 23)).alloc (.cells #[.string ⟨#[]⟩, .string ⟨#[]⟩] 23)) x y z t :=
  ⟨⟨by simp [go_sem], by simp [go_sem], by simp [go_sem], by simp [go_sem]⟩, ⟨by simp [go_sem], by simp [go_sem], by simp [go_sem], by simp [go_sem]⟩, ⟨by simp [go_sem], by simp [go_sem], by simp [go_sem], by simp [go_sem]⟩,
    (((Below.refl _ _).alloc (Nat.le_refl _) _).alloc (by simp) _).alloc (by simp; omega) _⟩
/-- What a call on two numbers answers. -/
def Ans (f : Nat) (args : Array Value) (w : World) (s t : ByteArray) (e : Int) : Prop :=
  Calls Tryz.prog f args w fun r w' => r = .returned (.tuple #[.agg #[.string s, .string t], .int .i64 e]) ∧ Below w.heap.size w w'

end Go.Proofs.YtimihoonnglniaaGreatDoor

namespace Go.Proofs.YtimihoonnglniaaGreatDoor
open Go.RowKit

/-- A number in its box, and the box of another one. -/
structure N1 (w W : World) (x y : Value) : Prop where
  a : T2 W w.heap.size x y
  r : T2 W (w.heap.size + 1) (.string ⟨#[]⟩) (.string ⟨#[]⟩)
  below : Below w.heap.size w W
theorem N1.later {w W V : World} {x y : Value} (s : N1 w W x y) (hb : Below W.heap.size W V) : N1 w V x y := ⟨s.a.later hb, s.r.later hb, s.below.trans (hb.mono s.below.size)⟩
theorem N1.first (w : World) (x y : Value) : N1 w ((w.alloc (.cells #[x, y] 23)).alloc (.cells #[.string ⟨#[]⟩, .string ⟨#[]⟩] 23)) x y :=
  ⟨⟨by simp [go_sem], by simp [go_sem], by simp [go_sem], by simp [go_sem]⟩, ⟨by simp [go_sem], by simp [go_sem], by simp [go_sem], by simp [go_sem]⟩, ((Below.refl _ _).alloc (Nat.le_refl _) _).alloc (by simp) _⟩

theorem cmp_zero (y : Rat) (h : y ≠ 0) : (Cub.cmpQ y 0 == 0) = false := by
  rw [beq_eq_false_iff_ne]
  unfold Cub.cmpQ
  split
  · decide
  · split
    · decide
    · exfalso; apply h; grind
set_option maxRecDepth 100000 in
set_option maxHeartbeats 2000000 in
theorem rquo_ok (n1 d1 n2 d2 : ByteArray) (x y : Rat) (w : World) (h1 : IsR n1 d1 x) (h2 : IsR n2 d2 y) (hy : y ≠ 0) (htab : Tab w) : Ans 106 #[.agg #[.string n1, .string d1], .agg #[.string n2, .string d2]] w (numT (x * y⁻¹)) (denT (x * y⁻¹)) (errT (x * y⁻¹)) := by
  unfold Ans
  obtain ⟨V, hV⟩ : ∃ V, V = ((w.alloc (.cells #[.string n1, .string d1] 23)).alloc (.cells #[.string n2, .string d2] 23)).alloc (.cells #[.string ⟨#[]⟩, .string ⟨#[]⟩] 23) := ⟨_, rfl⟩
  have HS : Hid (O3 w V (.string n1) (.string d1) (.string n2) (.string d2)) := by rw [hV]; exact O3.first _ _ _ _ _
  have HV := hide hV
  have HR := hide (readTwo_ok n1 d1 n2 d2 x y V h1 h2)
  have HT := hide (htab.later (unhide HS).below)
  have HY0 := hide hy
  have HSG : Hid (∀ W v, QOf W v y 67 → ∃ sg : Int, (sg == 0) = false ∧ Calls Tryz.prog 22 #[v] W fun r w' => r = .returned (.int .i64 sg) ∧ Below W.heap.size W w') := fun W v hv => ⟨_, cmp_zero y hy, qsign v y 67 W hv⟩
  clear h1 h2 htab hy
  go_enter Tryz.func106, Tryz.ntmps106
  go_upto_region 1 with fail
  rw [← unhide HV]
  clear hV HV
  have t0 := (unhide HS).a.c0; have t1 := (unhide HS).a.c1; have t2 := (unhide HS).b.c0; have t3 := (unhide HS).b.c1
  go_upto_region 2 with (go_at_call 120; go_must (refine (unhide HR).mono ?_; rintro e w1 ⟨v1, v2, rfl, hv1, hv2, hb1⟩; obtain ⟨b1, i1, i2, i3, i4, i5, i6, rfl⟩ := hv1.form; obtain ⟨b2, j1, j2, j3, j4, j5, j6, rfl⟩ := hv2.form; have HS1 := hide ((unhide HS).later hb1); have HV1 := hide hv1; have HV2 := hide hv2; have HT1 := hide ((unhide HT).later hb1); clear hv1 hv2 hb1 t0 t1 t2 t3))
  obtain ⟨V2, hV2⟩ : ∃ V2, V2 = (w1.alloc (.cells #[.bool b1, .slice i1 i2 i3, .slice i4 i5 i6] 45)).alloc (.cells #[.bool b2, .slice j1 j2 j3, .slice j4 j5 j6] 45) := ⟨_, rfl⟩
  have hb : Below w1.heap.size w1 V2 := by rw [hV2]; exact ((Below.refl _ _).alloc (Nat.le_refl _) _).alloc (by simp) _
  have HS2 := hide ((unhide HS1).later hb); have HX := hide ((unhide HV1).later hb); have HY := hide ((unhide HV2).later hb); have HT2 := hide ((unhide HT1).later hb)
  have HP : Hid (FBox V2 w1.heap.size (.bool b1) (.slice i1 i2 i3) (.slice i4 i5 i6)) := by rw [hV2]; exact (FBox.new _ _ _ _).later ((Below.refl _ _).alloc (Nat.le_refl _) _)
  have HQ : Hid (FBox V2 (w1.heap.size + 1) (.bool b2) (.slice j1 j2 j3) (.slice j4 j5 j6)) := by
    rw [hV2]
    have := FBox.new (w1.alloc (.cells #[.bool b1, .slice i1 i2 i3, .slice i4 i5 i6] 45)) (.bool b2) (.slice j1 j2 j3) (.slice j4 j5 j6)
    rwa [show (w1.alloc (.cells #[.bool b1, .slice i1 i2 i3, .slice i4 i5 i6] 45)).heap.size = w1.heap.size + 1 by simp] at this
  rw [← hV2]
  clear hV2 hb HS HS1 HV1 HV2 HT HT1 HR
  generalize w1.heap.size = g8 at *
  have t0 := (unhide HP).c0; have t1 := (unhide HP).c1; have t2 := (unhide HP).c2; have t3 := (unhide HQ).c0; have t4 := (unhide HQ).c1; have t5 := (unhide HQ).c2
  obtain ⟨sg, hsg, hq⟩ := unhide HSG V2 _ (unhide HY)
  have HSS := hide hq
  clear hq
  go_wp2_with (first
    | (go_at_call 22; go_must (refine (unhide HSS).mono ?_; rintro e w3 ⟨rfl, hb3⟩; have HX3 := hide ((unhide HX).later hb3); have HY3 := hide ((unhide HY).later hb3); have HS3 := hide ((unhide HS2).later hb3); have HT3 := hide ((unhide HT2).later hb3); have HP3 := hide ((unhide HP).later hb3); have HQ3 := hide ((unhide HQ).later hb3); clear hb3 t0 t1 t2 t3 t4 t5; have t0 := (unhide HP3).c0; have t1 := (unhide HP3).c1; have t2 := (unhide HP3).c2; have t3 := (unhide HQ3).c0; have t4 := (unhide HQ3).c1; have t5 := (unhide HQ3).c2))
    | (go_at_call 51; go_must (refine (qquo _ _ x y 67 _ (unhide HX3) (unhide HY3) (by decide) (unhide HY0)).mono ?_; rintro e w5 ⟨v5, rfl, hv5, hb5⟩; have HV5 := hide hv5; have HS5 := hide ((unhide HS3).later hb5); have HT5 := hide ((unhide HT3).later hb5); clear hv5 hb5 t0 t1 t2 t3 t4 t5))
    | (go_at_call 23; go_must (refine (qtell _ _ (67 + 67) _ (unhide HV5) (by decide) (unhide HT5)).mono ?_; rintro e w4 ⟨rfl, hb4⟩; have HS4 := hide ((unhide HS5).later hb4); clear hb4; have r0 := (unhide HS4).r.c0; have r1 := (unhide HS4).r.c1; have rf0 := (unhide HS4).r.f0; have rf1 := (unhide HS4).r.f1)))
  have hS := (unhide HS4).r.store (.string (numT (x * y⁻¹))) (.string (denT (x * y⁻¹)))
  have hb : Below w.heap.size w (store2 w4 (w.heap.size + 1 + 1) (.string (numT (x * y⁻¹))) (.string (denT (x * y⁻¹)))) := below_store2 (unhide HS4).below (by omega) _ _
  have u0 := hS.c0; have u1 := hS.c1
  exact bodyPost_ret (v := .tuple #[.agg #[.string (numT (x * y⁻¹)), .string (denT (x * y⁻¹))], .int .i64 (errT (x * y⁻¹))]) (w := store2 w4 (w.heap.size + 1 + 1) (.string (numT (x * y⁻¹))) (.string (denT (x * y⁻¹)))) (by simp [results, Tryz.results106, go_sem, u0, u1]) rfl ⟨rfl, hb⟩

end Go.Proofs.YtimihoonnglniaaGreatDoor

namespace Go.Proofs.YtimihoonnglniaaGreatDoor
open Go.RowKit Go.Sort

theorem below_grow (w : World) (k : Nat) (os : Array Obj) : Below w.heap.size w (grow (w.drewN k) os) := by
  refine ⟨rfl, rfl, rfl, ?_, fun i hi => ?_⟩
  · simp [grow, World.drewN]
  · simp only [grow]
    rw [Array.getElem?_append_left (by simpa [World.drewN] using hi)]; rfl

set_option maxHeartbeats 6400000 in
set_option maxRecDepth 100000 in
theorem intFormatUint_any (u : Nat) (hu64 : u < 18446744073709551616) (w : World) (htab : Tab w) :
    Calls Tryz.prog 130 #[.int .u64 u, .int .i64 10] w fun e w' => e = .returned (.string ⟨(Lib.decDigits u).toArray⟩) ∧ Below w.heap.size w w' := by
  by_cases hs : u < 100
  · clear htab
    go_enter Tryz.func130, Tryz.ntmps130
    go_wp2_with (go_at_call 110; refine (Tryz.internal_strconv_small u hs _).mono ?_; rintro e w' ⟨rfl, rfl⟩)
    go_ret
    exact ⟨rfl, Below.refl _ _⟩
  · have hu1 : 1 ≤ u := by omega
    have hnd20 : Lib.nDigits u ≤ 20 := by have := Lib.numDigits_eq u hu1 hu64; split at this <;> omega
    have hal : Tryz.prog.arrayLen 136 = 24 := by kernel_rfl
    have hsl : ∀ W, (Instr.sliceAt 136 (.pointer (some ⟨w.heap.size, 0, none⟩)) none (some (.int .i64 (Lib.nDigits u : Int))) none).run Tryz.prog W = .ok (.slice (some ⟨w.heap.size, 0, none⟩) (Lib.nDigits u) 24) W := fun W => by
      rw [run_sliceAt_array_h W 136 ⟨w.heap.size, 0, none⟩ (by kernel_rfl) .i64 (Lib.nDigits u : Int) (by omega) (by rw [hal]; omega)]
      go_simp
    have hH0 := Lib.holds_zero0 w 136 (Lib.nDigits u) (by omega)
    have hfmt := Tryz.internal_strconv_formatBase10 w.heap.size 0 24 u (Array.replicate (Lib.nDigits u) 0) (w.alloc (.cells Lib.zeros24 136)) hH0 (by rw [Array.size_replicate]; exact Lib.lt_pow_nDigits u) hu64 (by rw [Array.size_replicate]; omega)
    rw [Array.size_replicate] at hfmt
    have HH0 := Lib.hid hH0
    have HT := hide htab
    have iu : (100 : Int) ≤ (u : Int) := by omega
    clear hH0 hal htab
    go_enter Tryz.func130, Tryz.ntmps130
    go_wp2_with (first
      | (go_at_call 111; refine (Tryz.internal_strconv_numDigits u hu1 hu64 _ (Lib.tabIs_alloc (unhide HT) _)).mono ?_; rintro e w' ⟨rfl, rfl⟩))
    go_at_call 112
    refine hfmt.mono ?_
    rintro e w' ⟨rfl, k, v', dk, rfl, hF⟩
    have hcv : (convert 83 9 (.slice (some ⟨w.heap.size, 0, none⟩) (Lib.nDigits u) 24)).run Tryz.prog ((putRow (fun (b : UInt8) => Value.int .u8 (b.toNat : Int)) (w.alloc (.cells Lib.zeros24 136)) w.heap.size 0 dk).drewN k) = .ok (.string ⟨(Lib.decDigits u).toArray⟩) ((putRow (fun (b : UInt8) => Value.int .u8 (b.toNat : Int)) (w.alloc (.cells Lib.zeros24 136)) w.heap.size 0 dk).drewN k) := by
      have h := run_convert_bytes_back (P := Tryz.prog) ((putRow (fun (b : UInt8) => Value.int .u8 (b.toNat : Int)) (w.alloc (.cells Lib.zeros24 136)) w.heap.size 0 dk).drewN k) 83 9 5 ⟨w.heap.size, 0, none⟩ 24 (Lib.decDigits u) Tryz.underlying83 Tryz.underlying5 Tryz.underlying9 (fun j hj => by
        rw [Lib.row_is_numeral hF j hj, Lib.add_plain, World.cell?_drewN]
        exact cell?_putRow (fun (b : UInt8) => Value.int .u8 (b.toNat : Int)) _ w.heap.size 0 _ dk HH0.out (by rw [hF.size, Array.size_replicate]) j (by rw [hF.size]; rw [Lib.decDigits_length] at hj; exact hj))
      rw [Lib.decDigits_length] at h
      exact h
    go_wp2
    go_ret
    refine ⟨rfl, ?_⟩
    obtain ⟨os', _, e⟩ := putRow_grow_new (fun (b : UInt8) => Value.int .u8 (b.toNat : Int)) w #[.cells Lib.zeros24 136] w.heap.size 0 dk (Nat.le_refl _)
    have e2 : (putRow (fun (b : UInt8) => Value.int .u8 (b.toNat : Int)) (w.alloc (.cells Lib.zeros24 136)) w.heap.size 0 dk).drewN k = grow (w.drewN k) os' := by
      rw [alloc_eq_grow, e]; rfl
    rw [e2]
    exact below_grow w k os'

theorem formatUint_any (u : Nat) (hu64 : u < 18446744073709551616) (w : World) (htab : Tab w) :
    Calls Tryz.prog 127 #[.int .u64 u, .int .i64 10] w fun e w' => e = .returned (.string ⟨(Lib.decDigits u).toArray⟩) ∧ Below w.heap.size w w' := by
  have HT := hide htab
  clear htab
  go_enter Tryz.func127, Tryz.ntmps127
  go_wp2_with (go_at_call 130; refine (intFormatUint_any u hu64 _ (unhide HT)).mono ?_; rintro e w' ⟨rfl, hb⟩)
  go_ret
  exact ⟨rfl, hb⟩
theorem natOf_any (u : Nat) (hu64 : u < 18446744073709551616) (w : World) (htab : Tab w) :
    Calls Tryz.prog 121 #[.int .u64 u] w fun e w' => e = .returned (.string ⟨(Lib.decDigits u).toArray⟩) ∧ Below w.heap.size w w' := by
  have HT := hide htab
  clear htab
  go_enter Tryz.func121, Tryz.ntmps121
  go_wp2_with (go_at_call 127; refine (formatUint_any u hu64 _ (unhide HT)).mono ?_; rintro e w' ⟨rfl, hb⟩)
  go_ret
  exact ⟨rfl, hb⟩
end Go.Proofs.YtimihoonnglniaaGreatDoor

namespace Go.Proofs.YtimihoonnglniaaGreatDoor
open Go.RowKit

theorem pow_grow (e : Nat) (he : 20 ≤ e) : 18446744073709551616 ≤ 10 ^ e := Nat.le_trans (by decide : 18446744073709551616 ≤ 10 ^ 20) (Nat.pow_le_pow_right (by decide) he)
theorem u64_600 (N : Nat) (h : N < 18446744073709551616) : N < 10 ^ 600 := Nat.lt_of_lt_of_le h (pow_grow 600 (by decide))
set_option maxRecDepth 100000 in
set_option maxHeartbeats 2000000 in
theorem ratOf_pos (N : Nat) (w : World) (h2 : N < 9223372036854775808) (htab : Tab w) :
    Calls Tryz.prog 107 #[.int .i64 (N : Int)] w fun r w' => r = .returned (.agg #[.string (sT false N), .string ⟨#[49]⟩]) ∧ Below w.heap.size w w' := by
  obtain ⟨V, hV⟩ : ∃ V, V = w.alloc (.cells #[.string ⟨#[]⟩, .string ⟨#[]⟩] 23) := ⟨_, rfl⟩
  have hbV : Below w.heap.size w V := by rw [hV]; exact (Below.refl _ _).alloc (Nat.le_refl _) _
  have HR : Hid (T2 V w.heap.size (.string ⟨#[]⟩) (.string ⟨#[]⟩) ∧ Below w.heap.size w V) := ⟨by rw [hV]; exact ⟨by simp [go_sem], by simp [go_sem], by simp [go_sem], by simp [go_sem]⟩, hbV⟩
  have HV := hide hV
  have hN : N < 10 ^ 600 := u64_600 N (by omega)
  have HOF : Hid (Calls Tryz.prog 121 #[.int .u64 (N : Int)] V fun e w' => e = .returned (.string (tb N)) ∧ Below V.heap.size V w') := by
    have := natOf_any N (by omega) V (htab.later hbV)
    rwa [show (⟨(Lib.decDigits N).toArray⟩ : ByteArray) = tb N from bytes_ext (by rw [tb_list N hN])] at this
  have HSG : Hid (∀ W, Calls Tryz.prog 46 #[.bool false, .string (tb N)] W fun e w' => e = .returned (.string (sT false N)) ∧ w' = W) := fun W => signed_any false (tb N) W (by have := (tb_digs N hN).2; omega)
  have k0 : ¬ (N : Int) < 0 := by omega
  skip
  skip
  clear hN htab hbV
  generalize sT false N = sn at *
  generalize tb N = tn at *
  go_enter Tryz.func107, Tryz.ntmps107
  go_upto_region 4 with fail
  skip
  rw [← unhide HV]
  clear hV HV
  go_wp2_with (first
    | (go_at_call 121; go_must (refine (unhide HOF).mono ?_; rintro e W9 ⟨rfl, hb1⟩; have HR1 : Hid (T2 W9 w.heap.size (.string ⟨#[]⟩) (.string ⟨#[]⟩) ∧ Below w.heap.size w W9) := ⟨(unhide HR).1.later hb1, (unhide HR).2.trans (hb1.mono (unhide HR).2.size)⟩; clear hb1))
    | (go_at_call 46; go_must (refine (unhide HSG _).mono ?_; rintro e wB ⟨rfl, hwB⟩; obtain rfl : W9 = wB := hwB.symm; have r0 := (unhide HR1).1.c0; have r1 := (unhide HR1).1.c1; have rf0 := (unhide HR1).1.f0; have rf1 := (unhide HR1).1.f1)))
  have hS := (unhide HR1).1.store (.string sn) (.string ⟨#[49]⟩)
  have hb : Below w.heap.size w (store2 W9 w.heap.size (.string sn) (.string ⟨#[49]⟩)) := below_store2 (unhide HR1).2 (Nat.le_refl _) _ _
  have u0 := hS.c0; have u1 := hS.c1
  exact bodyPost_ret (v := .agg #[.string sn, .string ⟨#[49]⟩]) (w := store2 W9 w.heap.size (.string sn) (.string ⟨#[49]⟩)) (by simp [results, Tryz.results107, go_sem, u0, u1]) rfl ⟨rfl, hb⟩
end Go.Proofs.YtimihoonnglniaaGreatDoor

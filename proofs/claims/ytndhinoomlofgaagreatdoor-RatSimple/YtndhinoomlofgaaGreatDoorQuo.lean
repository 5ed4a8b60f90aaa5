/- rat.Quo, Cmp, Neg. -/
import Derived.Test.YtndhinoomlofgaaGreatDoorTell
import Derived.Test.YtndhinoomlofgaaGreatDoorReadNo

namespace Go.Proofs.YtndhinoomlofgaaGreatDoor
open Go.RowKit

/-- Two texts are those of a number. -/
def IsR (num den : ByteArray) (x : Rat) : Prop := Small x ∧ num = numT x ∧ den = denT x
theorem IsR.rt {num den : ByteArray} {x : Rat} (h : IsR num den x) : RT num den (decide (x < 0)) x.num.natAbs x.den := by
  obtain ⟨hs, rfl, rfl⟩ := h
  unfold numT denT
  rw [if_pos hs, if_pos hs]
  exact ⟨rfl, rfl, hs.1, hs.2, (Cub.low_of x).1⟩
theorem RT.isR {num den : ByteArray} {b : Bool} {n d : Nat} (h : RT num den b n d) : IsR num den (Cub.valQ b n d) := by
  obtain ⟨e1, e2, e3⟩ := Cub.low_is h.low
  have hs : Small (Cub.valQ b n d) := ⟨by rw [← e2]; exact h.hn, by rw [← e3]; exact h.hd⟩
  refine ⟨hs, ?_, ?_⟩
  · unfold numT; rw [if_pos hs, ← e1, ← e2]; exact h.num
  · unfold denT; rw [if_pos hs, ← e3]; exact h.den
theorem right_isR (num den : ByteArray) : RightT num den ↔ ∃ x, IsR num den x :=
  ⟨fun ⟨_, _, _, h⟩ => ⟨_, h.isR⟩, fun ⟨_, h⟩ => ⟨_, _, _, h.rt⟩⟩
theorem IsR.size {num den : ByteArray} {x : Rat} (h : IsR num den x) : num.size ≤ 601 ∧ den.size ≤ 600 := by
  have r := h.rt
  rw [r.num, r.den]
  exact ⟨sT_size _ _ r.hn, (tb_digs _ r.hd).2⟩
theorem qread (num den : ByteArray) (x : Rat) (w : World) (h : IsR num den x) :
    Calls Tryz.prog 78 #[.agg #[.string num, .string den]] w fun r w' => ∃ v, r = .returned (.tuple #[v, .bool true]) ∧ QOf w' v x 67 ∧ Below w.heap.size w w' := by
  have r := h.rt
  have := read_ok num den _ _ _ w r.num r.den r.hn r.hd r.low.sign (by have := r.low.pos; omega) r.low.cop
  rwa [(Cub.low_of x).2] at this
/-- Two numbers in their boxes, two boxes of Fracs. -/
structure W2 (w W : World) (x y z t p0 p1 p2 q0 q1 q2 : Value) : Prop where
  a : T2 W w.heap.size x y
  b : T2 W (w.heap.size + 1) z t
  p : FBox W (w.heap.size + 1 + 1) p0 p1 p2
  q : FBox W (w.heap.size + 1 + 1 + 1) q0 q1 q2
  below : Below w.heap.size w W
theorem W2.later {w W V : World} {x y z t p0 p1 p2 q0 q1 q2 : Value} (s : W2 w W x y z t p0 p1 p2 q0 q1 q2) (hb : Below W.heap.size W V) : W2 w V x y z t p0 p1 p2 q0 q1 q2 :=
  ⟨s.a.later hb, s.b.later hb, s.p.later hb, s.q.later hb, s.below.trans (hb.mono s.below.size)⟩
theorem W2.first (w : World) (x y z t : Value) : W2 w ((((w.alloc (.cells #[x, y] 23)).alloc (.cells #[z, t] 23)).alloc (.cells #[.bool false, .slice none 0 0, .slice none 0 0] 74)).alloc (.cells #[.bool false, .slice none 0 0, .slice none 0 0] 74)) x y z t (.bool false) (.slice none 0 0) (.slice none 0 0) (.bool false) (.slice none 0 0) (.slice none 0 0) :=
  ⟨⟨by simp [go_sem], by simp [go_sem], by simp [go_sem], by simp [go_sem]⟩, ⟨by simp [go_sem], by simp [go_sem], by simp [go_sem], by simp [go_sem]⟩, ⟨by simp [go_sem], by simp [go_sem], by simp [go_sem], by simp [go_sem], by simp [go_sem], by simp [go_sem]⟩, ⟨by simp [go_sem], by simp [go_sem], by simp [go_sem], by simp [go_sem], by simp [go_sem], by simp [go_sem]⟩,
    ((((Below.refl _ _).alloc (Nat.le_refl _) _).alloc (by simp) _).alloc (by simp; omega) _).alloc (by simp; omega) _⟩
theorem FBox.other3 {W : World} {g k : Nat} {x y z : Value} (h : FBox W g x y z) (hk : g ≠ k) (u v s : Value) : FBox (store3 W k u v s) g x y z := ((h.otherAt hk u).otherAt hk v).otherAt hk s
theorem T2.other3 {W : World} {g k : Nat} {x y : Value} (h : T2 W g x y) (hk : g ≠ k) (u v s : Value) : T2 (store3 W k u v s) g x y := ((h.otherAt hk u).otherAt hk v).otherAt hk s
theorem W2.setP {w W : World} {x y z t p0 p1 p2 q0 q1 q2 : Value} (s : W2 w W x y z t p0 p1 p2 q0 q1 q2) (u v r : Value) : W2 w (store3 W (w.heap.size + 1 + 1) u v r) x y z t u v r q0 q1 q2 :=
  ⟨s.a.other3 (by omega) _ _ _, s.b.other3 (by omega) _ _ _, s.p.store _ _ _, s.q.other3 (by omega) _ _ _, below_store3 s.below (by omega) _ _ _⟩
theorem W2.setQ {w W : World} {x y z t p0 p1 p2 q0 q1 q2 : Value} (s : W2 w W x y z t p0 p1 p2 q0 q1 q2) (u v r : Value) : W2 w (store3 W (w.heap.size + 1 + 1 + 1) u v r) x y z t p0 p1 p2 u v r :=
  ⟨s.a.other3 (by omega) _ _ _, s.b.other3 (by omega) _ _ _, s.p.other3 (by omega) _ _ _, s.q.store _ _ _, below_store3 s.below (by omega) _ _ _⟩
theorem QOf.over {W : World} {g : Nat} {b : Bool} {a1 a2 : Option Addr} {l1 c1 l2 c2 : Nat} (h : FBox W g (.bool b) (.slice a1 l1 c1) (.slice a2 l2 c2)) (u v r : Value) {vv : Value} {x : Rat} {k : Nat}
    (hv : QOf W vv x k) : QOf (store3 W g u v r) vv x k := by
  obtain ⟨b0, n, d, ⟨s, t, e, h1, h1'⟩, h2⟩ := hv
  exact ⟨b0, n, d, ⟨s, t, e, h.big _ _ _ h1, h.big _ _ _ h1'⟩, h2⟩

set_option maxRecDepth 100000 in
set_option maxHeartbeats 2000000 in
theorem readTwo_ok (n1 d1 n2 d2 : ByteArray) (x y : Rat) (w : World) (h1 : IsR n1 d1 x) (h2 : IsR n2 d2 y) :
    Calls Tryz.prog 98 #[.agg #[.string n1, .string d1], .agg #[.string n2, .string d2]] w fun r w' => ∃ v u, r = .returned (.tuple #[v, u, .int .i64 0]) ∧ QOf w' v x 67 ∧ QOf w' u y 67 ∧ Below w.heap.size w w' := by
  obtain ⟨V, hV⟩ : ∃ V, V = ((((w.alloc (.cells #[.string n1, .string d1] 23)).alloc (.cells #[.string n2, .string d2] 23)).alloc (.cells #[.bool false, .slice none 0 0, .slice none 0 0] 74)).alloc (.cells #[.bool false, .slice none 0 0, .slice none 0 0] 74)) := ⟨_, rfl⟩
  have HS : Hid (W2 w V (.string n1) (.string d1) (.string n2) (.string d2) (.bool false) (.slice none 0 0) (.slice none 0 0) (.bool false) (.slice none 0 0) (.slice none 0 0)) := by rw [hV]; exact W2.first _ _ _ _ _
  have HV := hide hV
  have HR1 := hide (fun W => qread n1 d1 x W h1)
  have HR2 := hide (fun W => qread n2 d2 y W h2)
  clear h1 h2
  go_enter Tryz.func98, Tryz.ntmps98
  go_upto_region 1 with fail
  rw [← unhide HV]
  clear hV HV
  have t0 := (unhide HS).a.c0; have t1 := (unhide HS).a.c1
  go_upto_region 2 with (go_at_call 78; go_must (refine (unhide HR1 _).mono ?_; rintro e w1 ⟨v1, rfl, hv1, hb1⟩; obtain ⟨b1, i1, i2, i3, i4, i5, i6, rfl⟩ := hv1.form; have HS1 := hide ((unhide HS).later hb1); have HV1 := hide hv1; clear hv1 hb1 t0 t1; have r0 := (unhide HS1).p.c0; have r1 := (unhide HS1).p.c1; have r2 := (unhide HS1).p.c2; have rf0 := (unhide HS1).p.f0; have rf1 := (unhide HS1).p.f1; have rf2 := (unhide HS1).p.f2))
  obtain ⟨V2, hV2⟩ : ∃ V2, V2 = store3 w1 (w.heap.size + 1 + 1) (.bool b1) (.slice i1 i2 i3) (.slice i4 i5 i6) := ⟨_, rfl⟩
  have hV2' : V2 = ((w1.setCell ⟨w.heap.size + 1 + 1, 0, none⟩ (.bool b1)).setCell ⟨w.heap.size + 1 + 1, 1, none⟩ (.slice i1 i2 i3)).setCell ⟨w.heap.size + 1 + 1, 2, none⟩ (.slice i4 i5 i6) := hV2
  have HS2 := hide ((unhide HS1).setP (.bool b1) (.slice i1 i2 i3) (.slice i4 i5 i6))
  have HV2 := hide ((unhide HV1).stored (unhide HS1).p)
  rw [← hV2] at HS2 HV2
  rw [← hV2']
  clear hV2 hV2' HS HS1 HV1 r0 r1 r2 rf0 rf1 rf2
  have t0 := (unhide HS2).b.c0; have t1 := (unhide HS2).b.c1
  go_upto_region 3 with (go_at_call 78; go_must (refine (unhide HR2 _).mono ?_; rintro e w3 ⟨v3, rfl, hv3, hb3⟩; obtain ⟨b3, j1, j2, j3, j4, j5, j6, rfl⟩ := hv3.form; have HS3 := hide ((unhide HS2).later hb3); have HV3 := hide hv3; have HU3 := hide ((unhide HV2).later hb3); clear hv3 hb3 t0 t1; have r0 := (unhide HS3).q.c0; have r1 := (unhide HS3).q.c1; have r2 := (unhide HS3).q.c2; have rf0 := (unhide HS3).q.f0; have rf1 := (unhide HS3).q.f1; have rf2 := (unhide HS3).q.f2))
  obtain ⟨V4, hV4⟩ : ∃ V4, V4 = store3 w3 (w.heap.size + 1 + 1 + 1) (.bool b3) (.slice j1 j2 j3) (.slice j4 j5 j6) := ⟨_, rfl⟩
  have hV4' : V4 = ((w3.setCell ⟨w.heap.size + 1 + 1 + 1, 0, none⟩ (.bool b3)).setCell ⟨w.heap.size + 1 + 1 + 1, 1, none⟩ (.slice j1 j2 j3)).setCell ⟨w.heap.size + 1 + 1 + 1, 2, none⟩ (.slice j4 j5 j6) := hV4
  have HS4 := hide ((unhide HS3).setQ (.bool b3) (.slice j1 j2 j3) (.slice j4 j5 j6))
  have HV4 := hide ((unhide HV3).stored (unhide HS3).q)
  have HU4 := hide (QOf.over (unhide HS3).q (.bool b3) (.slice j1 j2 j3) (.slice j4 j5 j6) (unhide HU3))
  rw [← hV4] at HS4 HV4 HU4
  rw [← hV4']
  clear hV4 hV4' HS2 HV2 HS3 HV3 HU3 r0 r1 r2 rf0 rf1 rf2
  go_upto_region 5 with fail
  have r0 := (unhide HS4).p.c0; have r1 := (unhide HS4).p.c1; have r2 := (unhide HS4).p.c2; have rf0 := (unhide HS4).p.f0; have rf1 := (unhide HS4).p.f1; have rf2 := (unhide HS4).p.f2
  have s0 := (unhide HS4).q.c0; have s1 := (unhide HS4).q.c1; have s2 := (unhide HS4).q.c2; have sf0 := (unhide HS4).q.f0; have sf1 := (unhide HS4).q.f1; have sf2 := (unhide HS4).q.f2
  go_region
  obtain ⟨V5, hV5⟩ : ∃ V5, V5 = (store3 (store3 V4 (w.heap.size + 1 + 1) (.bool b1) (.slice i1 i2 i3) (.slice i4 i5 i6)) (w.heap.size + 1 + 1 + 1) (.bool b3) (.slice j1 j2 j3) (.slice j4 j5 j6)).drew := ⟨_, rfl⟩
  have hV5' : V5 = ((((((V4.setCell ⟨w.heap.size + 1 + 1, 0, none⟩ (.bool b1)).setCell ⟨w.heap.size + 1 + 1, 1, none⟩ (.slice i1 i2 i3)).setCell ⟨w.heap.size + 1 + 1, 2, none⟩ (.slice i4 i5 i6)).setCell ⟨w.heap.size + 1 + 1 + 1, 0, none⟩ (.bool b3)).setCell ⟨w.heap.size + 1 + 1 + 1, 1, none⟩ (.slice j1 j2 j3)).setCell ⟨w.heap.size + 1 + 1 + 1, 2, none⟩ (.slice j4 j5 j6)).drew := hV5
  have hm := (unhide HS4).setP (.bool b1) (.slice i1 i2 i3) (.slice i4 i5 i6)
  have HS5 := hide ((hm.setQ (.bool b3) (.slice j1 j2 j3) (.slice j4 j5 j6)).later ((Below.refl _ _).drew))
  have HV5 := hide ((QOf.over hm.q (.bool b3) (.slice j1 j2 j3) (.slice j4 j5 j6) (QOf.over (unhide HS4).p (.bool b1) (.slice i1 i2 i3) (.slice i4 i5 i6) (unhide HV4))).later ((Below.refl _ _).drew))
  have HU5 := hide ((QOf.over hm.q (.bool b3) (.slice j1 j2 j3) (.slice j4 j5 j6) (QOf.over (unhide HS4).p (.bool b1) (.slice i1 i2 i3) (.slice i4 i5 i6) (unhide HU4))).later ((Below.refl _ _).drew))
  rw [← hV5] at HS5 HV5 HU5
  rw [← hV5']
  clear hV5 hV5' hm HS4 HV4 HU4 r0 r1 r2 rf0 rf1 rf2 s0 s1 s2 sf0 sf1 sf2
  have r0 := (unhide HS5).p.c0; have r1 := (unhide HS5).p.c1; have r2 := (unhide HS5).p.c2; have s0 := (unhide HS5).q.c0; have s1 := (unhide HS5).q.c1; have s2 := (unhide HS5).q.c2
  go_wp2_with fail
  exact bodyPost_ret (v := .tuple #[.agg #[.bool b1, .slice i1 i2 i3, .slice i4 i5 i6], .agg #[.bool b3, .slice j1 j2 j3, .slice j4 j5 j6], .int .i64 0]) (by simp [results, Tryz.results98, go_sem, r0, r1, r2, s0, s1, s2]) rfl ⟨_, _, rfl, unhide HU5, unhide HV5, (unhide HS5).below⟩
/-- What Read answers, in short. -/
def Reads (num den : ByteArray) (ok : Bool) : Prop := ∀ W, Calls Tryz.prog 78 #[.agg #[.string num, .string den]] W fun r w' => ∃ b a1 l1 c1 a2 l2 c2, r = .returned (.tuple #[.agg #[.bool b, .slice a1 l1 c1, .slice a2 l2 c2], .bool ok]) ∧ Below W.heap.size W w'
theorem reads_yes {num den : ByteArray} (h : RightT num den) : Reads num den true := fun W => by
  obtain ⟨x, hx⟩ := (right_isR num den).1 h
  refine (qread num den x W hx).mono ?_
  rintro r w' ⟨v, rfl, hv, hb⟩
  obtain ⟨b, a1, l1, c1, a2, l2, c2, rfl⟩ := hv.form
  exact ⟨_, _, _, _, _, _, _, rfl, hb⟩
theorem reads_no {num den : ByteArray} (hs1 : num.size ≤ maxLen) (hs2 : den.size ≤ maxLen) (h : ¬ RightT num den) : Reads num den false := fun W => by
  refine (read_no num den W hs1 hs2 h).mono ?_
  rintro r w' ⟨rfl, hb⟩
  exact ⟨_, _, _, _, _, _, _, rfl, hb⟩

set_option maxRecDepth 100000 in
set_option maxHeartbeats 2000000 in
theorem readTwo_no' (n1 d1 n2 d2 : ByteArray) (b1 b2 : Bool) (w : World) (h1 : Reads n1 d1 b1) (h2 : Reads n2 d2 b2) (h : (b1 && b2) = false) :
    Calls Tryz.prog 98 #[.agg #[.string n1, .string d1], .agg #[.string n2, .string d2]] w fun r w' => r = .returned (.tuple #[zeroF, zeroF, .int .i64 3]) ∧ Below w.heap.size w w' := by
  obtain ⟨V, hV⟩ : ∃ V, V = ((((w.alloc (.cells #[.string n1, .string d1] 23)).alloc (.cells #[.string n2, .string d2] 23)).alloc (.cells #[.bool false, .slice none 0 0, .slice none 0 0] 74)).alloc (.cells #[.bool false, .slice none 0 0, .slice none 0 0] 74)) := ⟨_, rfl⟩
  have HS : Hid (W2 w V (.string n1) (.string d1) (.string n2) (.string d2) (.bool false) (.slice none 0 0) (.slice none 0 0) (.bool false) (.slice none 0 0) (.slice none 0 0)) := by rw [hV]; exact W2.first _ _ _ _ _
  have HV := hide hV
  have HR1 := hide h1
  have HR2 := hide h2
  clear h1 h2
  go_enter Tryz.func98, Tryz.ntmps98
  go_upto_region 1 with fail
  rw [← unhide HV]
  clear hV HV
  have t0 := (unhide HS).a.c0; have t1 := (unhide HS).a.c1
  go_upto_region 2 with (go_at_call 78; go_must (refine (unhide HR1 _).mono ?_; rintro e w1 ⟨bb, i1, i2, i3, i4, i5, i6, rfl, hb1⟩; have HS1 := hide ((unhide HS).later hb1); clear hb1 t0 t1; have r0 := (unhide HS1).p.c0; have r1 := (unhide HS1).p.c1; have r2 := (unhide HS1).p.c2; have rf0 := (unhide HS1).p.f0; have rf1 := (unhide HS1).p.f1; have rf2 := (unhide HS1).p.f2))
  obtain ⟨V2, hV2⟩ : ∃ V2, V2 = store3 w1 (w.heap.size + 1 + 1) (.bool bb) (.slice i1 i2 i3) (.slice i4 i5 i6) := ⟨_, rfl⟩
  have hV2' : V2 = ((w1.setCell ⟨w.heap.size + 1 + 1, 0, none⟩ (.bool bb)).setCell ⟨w.heap.size + 1 + 1, 1, none⟩ (.slice i1 i2 i3)).setCell ⟨w.heap.size + 1 + 1, 2, none⟩ (.slice i4 i5 i6) := hV2
  have HS2 := hide ((unhide HS1).setP (.bool bb) (.slice i1 i2 i3) (.slice i4 i5 i6))
  rw [← hV2] at HS2
  rw [← hV2']
  clear hV2 hV2' HS HS1 r0 r1 r2 rf0 rf1 rf2
  have t0 := (unhide HS2).b.c0; have t1 := (unhide HS2).b.c1
  go_upto_region 3 with (go_at_call 78; go_must (refine (unhide HR2 _).mono ?_; rintro e w3 ⟨b3, j1, j2, j3, j4, j5, j6, rfl, hb3⟩; have HS3 := hide ((unhide HS2).later hb3); clear hb3 t0 t1; have r0 := (unhide HS3).q.c0; have r1 := (unhide HS3).q.c1; have r2 := (unhide HS3).q.c2; have rf0 := (unhide HS3).q.f0; have rf1 := (unhide HS3).q.f1; have rf2 := (unhide HS3).q.f2))
  obtain ⟨V4, hV4⟩ : ∃ V4, V4 = store3 w3 (w.heap.size + 1 + 1 + 1) (.bool b3) (.slice j1 j2 j3) (.slice j4 j5 j6) := ⟨_, rfl⟩
  have hV4' : V4 = ((w3.setCell ⟨w.heap.size + 1 + 1 + 1, 0, none⟩ (.bool b3)).setCell ⟨w.heap.size + 1 + 1 + 1, 1, none⟩ (.slice j1 j2 j3)).setCell ⟨w.heap.size + 1 + 1 + 1, 2, none⟩ (.slice j4 j5 j6) := hV4
  have HS4 := hide ((unhide HS3).setQ (.bool b3) (.slice j1 j2 j3) (.slice j4 j5 j6))
  rw [← hV4] at HS4
  rw [← hV4']
  clear hV4 hV4' HS2 HS3 r0 r1 r2 rf0 rf1 rf2
  have r0 := (unhide HS4).p.c0; have r1 := (unhide HS4).p.c1; have r2 := (unhide HS4).p.c2; have rf0 := (unhide HS4).p.f0; have rf1 := (unhide HS4).p.f1; have rf2 := (unhide HS4).p.f2
  have s0 := (unhide HS4).q.c0; have s1 := (unhide HS4).q.c1; have s2 := (unhide HS4).q.c2; have sf0 := (unhide HS4).q.f0; have sf1 := (unhide HS4).q.f1; have sf2 := (unhide HS4).q.f2
  have HS5 := hide ((((unhide HS4).setP (.bool false) (.slice none 0 0) (.slice none 0 0)).setQ (.bool false) (.slice none 0 0) (.slice none 0 0)))
  cases b1 <;> cases b2 <;> first
    | (exact absurd h (by decide))
    | (clear h
       go_wp2_with fail
       have u0 := (unhide HS5).p.c0; have u1 := (unhide HS5).p.c1; have u2 := (unhide HS5).p.c2; have v0 := (unhide HS5).q.c0; have v1 := (unhide HS5).q.c1; have v2 := (unhide HS5).q.c2
       exact bodyPost_ret (v := .tuple #[zeroF, zeroF, .int .i64 3]) (w := store3 (store3 V4 (w.heap.size + 1 + 1) (.bool false) (.slice none 0 0) (.slice none 0 0)) (w.heap.size + 1 + 1 + 1) (.bool false) (.slice none 0 0) (.slice none 0 0)) (by simp [results, Tryz.results98, go_sem, u0, u1, u2, v0, v1, v2, zeroF]) rfl ⟨rfl, (unhide HS5).below⟩)
theorem readTwo_no (n1 d1 n2 d2 : ByteArray) (w : World) (s1 : n1.size ≤ maxLen) (s2 : d1.size ≤ maxLen) (s3 : n2.size ≤ maxLen) (s4 : d2.size ≤ maxLen) (h : ¬ (RightT n1 d1 ∧ RightT n2 d2)) :
    Calls Tryz.prog 98 #[.agg #[.string n1, .string d1], .agg #[.string n2, .string d2]] w fun r w' => r = .returned (.tuple #[zeroF, zeroF, .int .i64 3]) ∧ Below w.heap.size w w' := by
  by_cases h1 : RightT n1 d1
  · exact readTwo_no' n1 d1 n2 d2 true false w (reads_yes h1) (reads_no s3 s4 (fun h2 => h ⟨h1, h2⟩)) rfl
  · by_cases h2 : RightT n2 d2
    · exact readTwo_no' n1 d1 n2 d2 false true w (reads_no s1 s2 h1) (reads_yes h2) rfl
    · exact readTwo_no' n1 d1 n2 d2 false false w (reads_no s1 s2 h1) (reads_no s3 s4 h2) rfl
end Go.Proofs.YtndhinoomlofgaaGreatDoor

namespace Go.Proofs.YtndhinoomlofgaaGreatDoor
open Go.RowKit

/-- Two numbers in their boxes, a number's box, and two Fracs' boxes behind them (or none yet). -/
structure O3 (w W : World) (x y z t : Value) : Prop where
  a : T2 W w.heap.size x y
  b : T2 W (w.heap.size + 1) z t
  r : T2 W (w.heap.size + 1 + 1) (.string ⟨#[]⟩) (.string ⟨#[]⟩)
  below : Below w.heap.size w W
theorem O3.later {w W V : World} {x y z t : Value} (s : O3 w W x y z t) (hb : Below W.heap.size W V) : O3 w V x y z t :=
  ⟨s.a.later hb, s.b.later hb, s.r.later hb, s.below.trans (hb.mono s.below.size)⟩
theorem O3.first (w : World) (x y z t : Value) : O3 w (((w.alloc (.cells #[x, y] 23)).alloc (.cells #[z, t] 23)).alloc (.cells #[.string ⟨#[]⟩, .string ⟨#[]⟩] 23)) x y z t :=
  ⟨⟨by simp [go_sem], by simp [go_sem], by simp [go_sem], by simp [go_sem]⟩, ⟨by simp [go_sem], by simp [go_sem], by simp [go_sem], by simp [go_sem]⟩, ⟨by simp [go_sem], by simp [go_sem], by simp [go_sem], by simp [go_sem]⟩,
    (((Below.refl _ _).alloc (Nat.le_refl _) _).alloc (by simp) _).alloc (by simp; omega) _⟩
/-- What a call on two numbers answers. -/
def Ans (f : Nat) (args : Array Value) (w : World) (s t : ByteArray) (e : Int) : Prop :=
  Calls Tryz.prog f args w fun r w' => r = .returned (.tuple #[.agg #[.string s, .string t], .int .i64 e]) ∧ Below w.heap.size w w'

end Go.Proofs.YtndhinoomlofgaaGreatDoor

namespace Go.Proofs.YtndhinoomlofgaaGreatDoor
open Go.RowKit

/-- A number in its box, and the box of another one. -/
structure N1 (w W : World) (x y : Value) : Prop where
  a : T2 W w.heap.size x y
  r : T2 W (w.heap.size + 1) (.string ⟨#[]⟩) (.string ⟨#[]⟩)
  below : Below w.heap.size w W
theorem N1.later {w W V : World} {x y : Value} (s : N1 w W x y) (hb : Below W.heap.size W V) : N1 w V x y := ⟨s.a.later hb, s.r.later hb, s.below.trans (hb.mono s.below.size)⟩
theorem N1.first (w : World) (x y : Value) : N1 w ((w.alloc (.cells #[x, y] 23)).alloc (.cells #[.string ⟨#[]⟩, .string ⟨#[]⟩] 23)) x y :=
  ⟨⟨by simp [go_sem], by simp [go_sem], by simp [go_sem], by simp [go_sem]⟩, ⟨by simp [go_sem], by simp [go_sem], by simp [go_sem], by simp [go_sem]⟩, ((Below.refl _ _).alloc (Nat.le_refl _) _).alloc (by simp) _⟩

end Go.Proofs.YtndhinoomlofgaaGreatDoor

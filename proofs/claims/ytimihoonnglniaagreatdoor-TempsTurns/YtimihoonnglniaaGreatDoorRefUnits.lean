/- The document's units of temperature. -/
import Derived.Test.YtimihoonnglniaaGreatDoorStep
import Derived.Test.YtimihoonnglniaaGreatDoorReadNo
import Derived.Deep.RegionHeld3
namespace Go.Proofs.YtimihoonnglniaaGreatDoor
open Go.RowKit
structure RU (w W : World) (n d : ByteArray) : Prop where
  n : T2 W w.heap.size (.string n) (.string d)
  b1 : FBox W (w.heap.size + 1) (.bool false) (.slice none 0 0) (.slice none 0 0)
  b2 : T6 W (w.heap.size + 2) (.bool false) (.slice none 0 0) (.slice none 0 0) (.bool false) (.slice none 0 0) (.slice none 0 0)
  b3 : T6 W (w.heap.size + 3) (.bool false) (.slice none 0 0) (.slice none 0 0) (.bool false) (.slice none 0 0) (.slice none 0 0)
  below : Below w.heap.size w W
theorem RU.later {w W V : World} {n d : ByteArray} (s : RU w W n d) (hb : Below W.heap.size W V) : RU w V n d :=
  ⟨s.n.later hb, s.b1.later hb, s.b2.later hb, s.b3.later hb, s.below.trans (hb.mono s.below.size)⟩
theorem RU.first (w : World) (n d : ByteArray) : RU w ((((w.alloc (.cells #[.string n, .string d] 23)).alloc (.cells #[.bool false, .slice none 0 0, .slice none 0 0] 45)).alloc (.cells #[.bool false, .slice none 0 0, .slice none 0 0, .bool false, .slice none 0 0, .slice none 0 0] 47)).alloc (.cells #[.bool false, .slice none 0 0, .slice none 0 0, .bool false, .slice none 0 0, .slice none 0 0] 47)) n d :=
  ⟨⟨by simp [go_sem], by simp [go_sem], by simp [go_sem], by simp [go_sem]⟩, ⟨by simp [go_sem], by simp [go_sem], by simp [go_sem], by simp [go_sem], by simp [go_sem], by simp [go_sem]⟩, ⟨by simp [go_sem], by simp [go_sem], by simp [go_sem], by simp [go_sem], by simp [go_sem], by simp [go_sem], by simp [go_sem], by simp [go_sem], by simp [go_sem], by simp [go_sem], by simp [go_sem], by simp [go_sem]⟩, ⟨by simp [go_sem], by simp [go_sem], by simp [go_sem], by simp [go_sem], by simp [go_sem], by simp [go_sem], by simp [go_sem], by simp [go_sem], by simp [go_sem], by simp [go_sem], by simp [go_sem], by simp [go_sem]⟩, ((((Below.refl _ _).alloc (Nat.le_refl _) _).alloc (by simp) _).alloc (by simp; omega) _).alloc (by simp; omega) _⟩
theorem RU.push {w W : World} {n d : ByteArray} (s : RU w W n d) (O : Obj) : RU w (W.alloc O) n d := s.later ((Below.refl _ _).alloc (Nat.le_refl _) O)
set_option maxRecDepth 100000 in
set_option maxHeartbeats 4000000 in
theorem readU_form (n d s t : ByteArray) (w : World) (s1 : n.size ≤ maxLen) (s2 : d.size ≤ maxLen) (h : ¬ RightT n d) :
    Calls Tryz.prog 19 #[.agg #[.string n, .string d], .string s, .string t] w fun r w' => r = .returned (.tuple #[.agg #[.bool false, .slice none 0 0, .slice none 0 0], .agg #[.bool false, .slice none 0 0, .slice none 0 0, .bool false, .slice none 0 0, .slice none 0 0], .agg #[.bool false, .slice none 0 0, .slice none 0 0, .bool false, .slice none 0 0, .slice none 0 0], .int .i64 3]) ∧ Below w.heap.size w w' := by
  obtain ⟨V, hV⟩ : ∃ V, V = (((w.alloc (.cells #[.string n, .string d] 23)).alloc (.cells #[.bool false, .slice none 0 0, .slice none 0 0] 45)).alloc (.cells #[.bool false, .slice none 0 0, .slice none 0 0, .bool false, .slice none 0 0, .slice none 0 0] 47)).alloc (.cells #[.bool false, .slice none 0 0, .slice none 0 0, .bool false, .slice none 0 0, .slice none 0 0] 47) := ⟨_, rfl⟩
  have HS : Hid (RU w V n d) := by rw [hV]; exact RU.first w n d
  have HV := hide hV
  have HRD : Hid (∀ W, Calls Tryz.prog 40 #[.agg #[.string n, .string d]] W fun r w' => r = .returned (.tuple #[.agg #[.bool false, .slice none 0 0, .slice none 0 0], .bool false]) ∧ Below W.heap.size W w') := fun W => read_no n d W s1 s2 h
  clear hV h s1 s2
  go_enter Tryz.func19, Tryz.ntmps19
  go_upto_region 1 with fail
  rw [← unhide HV]
  clear HV
  have t0 := (unhide HS).n.c0; have t1 := (unhide HS).n.c1
  go_upto_region 2 with (go_at_call 40; go_must (refine (unhide HRD _).mono ?_; rintro e w1 ⟨rfl, hb1⟩; have HS1 := hide ((unhide HS).later hb1); clear hb1 t0 t1))
  have HSA := hide ((unhide HS1).push (.cells #[.bool false, .slice none 0 0, .slice none 0 0] 45))
  generalize w1.alloc (.cells #[.bool false, .slice none 0 0, .slice none 0 0] 45) = A at HSA ⊢
  clear HS HS1
  all_goals
    have p0 := (unhide HSA).b1.c0; have p1 := (unhide HSA).b1.c1; have p2 := (unhide HSA).b1.c2; have pf0 := (unhide HSA).b1.f0; have pf1 := (unhide HSA).b1.f1; have pf2 := (unhide HSA).b1.f2
    have q0 := (unhide HSA).b2.c0; have q1 := (unhide HSA).b2.c1; have q2 := (unhide HSA).b2.c2; have q3 := (unhide HSA).b2.c3; have q4 := (unhide HSA).b2.c4; have q5 := (unhide HSA).b2.c5; have qf0 := (unhide HSA).b2.f0; have qf1 := (unhide HSA).b2.f1; have qf2 := (unhide HSA).b2.f2; have qf3 := (unhide HSA).b2.f3; have qf4 := (unhide HSA).b2.f4; have qf5 := (unhide HSA).b2.f5
    have r0 := (unhide HSA).b3.c0; have r1 := (unhide HSA).b3.c1; have r2 := (unhide HSA).b3.c2; have r3 := (unhide HSA).b3.c3; have r4 := (unhide HSA).b3.c4; have r5 := (unhide HSA).b3.c5; have rf0 := (unhide HSA).b3.f0; have rf1 := (unhide HSA).b3.f1; have rf2 := (unhide HSA).b3.f2; have rf3 := (unhide HSA).b3.f3; have rf4 := (unhide HSA).b3.f4; have rf5 := (unhide HSA).b3.f5
    go_wp2_with fail
    have hS1 := (((unhide HSA).b1.store (.bool false) (.slice none 0 0) (.slice none 0 0)).other6 (k := w.heap.size + 2) (by omega) (.bool false) (.slice none 0 0) (.slice none 0 0) (.bool false) (.slice none 0 0) (.slice none 0 0)).other6 (k := w.heap.size + 3) (by omega) (.bool false) (.slice none 0 0) (.slice none 0 0) (.bool false) (.slice none 0 0) (.slice none 0 0)
    have hS2 := (((unhide HSA).b2.other3 (k := w.heap.size + 1) (by omega) (.bool false) (.slice none 0 0) (.slice none 0 0)).store (.bool false) (.slice none 0 0) (.slice none 0 0) (.bool false) (.slice none 0 0) (.slice none 0 0)).other6 (k := w.heap.size + 3) (by omega) (.bool false) (.slice none 0 0) (.slice none 0 0) (.bool false) (.slice none 0 0) (.slice none 0 0)
    have hS3 := (((unhide HSA).b3.other3 (k := w.heap.size + 1) (by omega) (.bool false) (.slice none 0 0) (.slice none 0 0)).other6 (k := w.heap.size + 2) (by omega) (.bool false) (.slice none 0 0) (.slice none 0 0) (.bool false) (.slice none 0 0) (.slice none 0 0)).store (.bool false) (.slice none 0 0) (.slice none 0 0) (.bool false) (.slice none 0 0) (.slice none 0 0)
    have x0 := hS1.c0; have x1 := hS1.c1; have x2 := hS1.c2; have y0 := hS2.c0; have y1 := hS2.c1; have y2 := hS2.c2; have y3 := hS2.c3; have y4 := hS2.c4; have y5 := hS2.c5; have z0 := hS3.c0; have z1 := hS3.c1; have z2 := hS3.c2; have z3 := hS3.c3; have z4 := hS3.c4; have z5 := hS3.c5
    exact bodyPost_ret (v := .tuple #[.agg #[.bool false, .slice none 0 0, .slice none 0 0], .agg #[.bool false, .slice none 0 0, .slice none 0 0, .bool false, .slice none 0 0, .slice none 0 0], .agg #[.bool false, .slice none 0 0, .slice none 0 0, .bool false, .slice none 0 0, .slice none 0 0], .int .i64 3]) (w := store6 (store6 (store3 A (w.heap.size + 1) (.bool false) (.slice none 0 0) (.slice none 0 0)) (w.heap.size + 2) (.bool false) (.slice none 0 0) (.slice none 0 0) (.bool false) (.slice none 0 0) (.slice none 0 0)) (w.heap.size + 3) (.bool false) (.slice none 0 0) (.slice none 0 0) (.bool false) (.slice none 0 0) (.slice none 0 0)) (by simp [results, Tryz.results19, go_sem, x0, x1, x2, y0, y1, y2, y3, y4, y5, z0, z1, z2, z3, z4, z5]) rfl ⟨rfl, below_store6 (below_store6 (below_store3 (unhide HSA).below (by omega) _ _ _) (by omega) _ _ _ _ _ _) (by omega) _ _ _ _ _ _⟩

theorem known_shape (s : ByteArray) (ok : Bool) (h : (ok = true ∧ ∃ k : Nat, IsFirst (scB s) (k : Int)) ∨ (ok = false ∧ IsFirst (scB s) (-1))) (w : World) (htab : Tab w) :
    Calls Tryz.prog 41 #[.string s] w fun r w' => ∃ (b c : Bool) (a1 a2 a3 a4 : Option Addr) (l1 c1 l2 c2 l3 c3 l4 c4 : Nat), r = .returned (.tuple #[.agg #[.bool b, .slice a1 l1 c1, .slice a2 l2 c2, .bool c, .slice a3 l3 c3, .slice a4 l4 c4], .bool ok]) ∧ Below w.heap.size w w' := by
  refine (known_any s w htab).mono ?_
  rintro e w' ⟨v, rfl, hv, hb⟩
  rcases hv with ⟨k, b, c, a1, a2, a3, a4, l1, c1, l2, c2, l3, c3, l4, c4, _, hf, rfl, _, _⟩ | ⟨hf, rfl⟩
  · rcases h with ⟨rfl, _⟩ | ⟨rfl, h1⟩
    · exact ⟨b, c, a1, a2, a3, a4, l1, c1, l2, c2, l3, c3, l4, c4, rfl, hb⟩
    · have := first_unique hf h1
      omega
  · rcases h with ⟨rfl, k, h1⟩ | ⟨rfl, _⟩
    · have := first_unique hf h1
      omega
    · exact ⟨_, _, _, _, _, _, _, _, _, _, _, _, _, _, rfl, hb⟩
set_option maxRecDepth 100000 in
set_option maxHeartbeats 8000000 in
theorem readU_unit (n d s t : ByteArray) (x : Rat) (ok1 ok2 : Bool) (w : World) (hx : IsR n d x) (htab : Tab w)
    (h1 : (ok1 = true ∧ ∃ k : Nat, IsFirst (scB s) (k : Int)) ∨ (ok1 = false ∧ IsFirst (scB s) (-1))) (h2 : (ok2 = true ∧ ∃ k : Nat, IsFirst (scB t) (k : Int)) ∨ (ok2 = false ∧ IsFirst (scB t) (-1))) (h : (ok1 && ok2) = false) :
    Calls Tryz.prog 19 #[.agg #[.string n, .string d], .string s, .string t] w fun r w' => r = .returned (.tuple #[.agg #[.bool false, .slice none 0 0, .slice none 0 0], .agg #[.bool false, .slice none 0 0, .slice none 0 0, .bool false, .slice none 0 0, .slice none 0 0], .agg #[.bool false, .slice none 0 0, .slice none 0 0, .bool false, .slice none 0 0, .slice none 0 0], .int .i64 200]) ∧ Below w.heap.size w w' := by
  obtain ⟨V, hV⟩ : ∃ V, V = (((w.alloc (.cells #[.string n, .string d] 23)).alloc (.cells #[.bool false, .slice none 0 0, .slice none 0 0] 45)).alloc (.cells #[.bool false, .slice none 0 0, .slice none 0 0, .bool false, .slice none 0 0, .slice none 0 0] 47)).alloc (.cells #[.bool false, .slice none 0 0, .slice none 0 0, .bool false, .slice none 0 0, .slice none 0 0] 47) := ⟨_, rfl⟩
  have HS : Hid (RU w V n d) := by rw [hV]; exact RU.first w n d
  have HV := hide hV
  have HRD := hide (fun W => qread n d x W hx)
  have HK1 := hide (fun W hb => known_shape s ok1 h1 W (htab.later hb))
  have HK2 := hide (fun W hb => known_shape t ok2 h2 W (htab.later hb))
  clear hV htab hx h1 h2
  go_enter Tryz.func19, Tryz.ntmps19
  go_upto_region 1 with fail
  rw [← unhide HV]
  clear HV
  have t0 := (unhide HS).n.c0; have t1 := (unhide HS).n.c1
  go_upto_region 2 with (go_at_call 40; go_must (refine (unhide HRD _).mono ?_; rintro e w1 ⟨v1, rfl, hv1, hb1⟩; obtain ⟨bz, az, lz, cz, dz, mz, ez, rfl⟩ := hv1.form; have HS1 := hide ((unhide HS).later hb1); clear hv1 hb1 t0 t1))
  have HSA := hide ((unhide HS1).push (.cells #[.bool bz, .slice az lz cz, .slice dz mz ez] 45))
  obtain ⟨g10, hg10⟩ : ∃ g10, g10 = w1.heap.size := ⟨_, rfl⟩
  rw [← hg10]
  generalize w1.alloc (.cells #[.bool bz, .slice az lz cz, .slice dz mz ez] 45) = A1 at HSA ⊢
  clear HS HS1 hg10
  go_upto_region 5 with (go_at_call 41; go_must (refine (unhide HK1 _ (unhide HSA).below).mono ?_; rintro e w2 ⟨bp, bq, ap, dp, aq, dq, lp, cp, mp, ep, lq, cq, mq, eq, rfl, hb2⟩; have HSB := hide ((unhide HSA).later hb2); clear hb2))
  have HSC := hide ((unhide HSB).push (.cells #[.bool bp, .slice ap lp cp, .slice dp mp ep, .bool bq, .slice aq lq cq, .slice dq mq eq] 47))
  obtain ⟨g12, hg12⟩ : ∃ g12, g12 = w2.heap.size := ⟨_, rfl⟩
  rw [← hg12]
  generalize w2.alloc (.cells #[.bool bp, .slice ap lp cp, .slice dp mp ep, .bool bq, .slice aq lq cq, .slice dq mq eq] 47) = A2 at HSC ⊢
  clear HSA HSB hg12
  go_upto_region 6 with (go_at_call 41; go_must (refine (unhide HK2 _ (unhide HSC).below).mono ?_; rintro e w3 ⟨br, bv, ar, dr, av, dv, lr, cr, mr, er, lv, cv, mv, ev, rfl, hb3⟩; have HSD := hide ((unhide HSC).later hb3); clear hb3))
  have HSA := hide ((unhide HSD).push (.cells #[.bool br, .slice ar lr cr, .slice dr mr er, .bool bv, .slice av lv cv, .slice dv mv ev] 47))
  obtain ⟨g14, hg14⟩ : ∃ g14, g14 = w3.heap.size := ⟨_, rfl⟩
  rw [← hg14]
  generalize w3.alloc (.cells #[.bool br, .slice ar lr cr, .slice dr mr er, .bool bv, .slice av lv cv, .slice dv mv ev] 47) = A at HSA ⊢
  clear HSC HSD hg14 HK1 HK2 HRD
  rcases (by cases ok1 <;> cases ok2 <;> simp_all : ok1 = false ∨ (ok1 = true ∧ ok2 = false)) with rfl | ⟨rfl, rfl⟩
  all_goals
    clear h
    have p0 := (unhide HSA).b1.c0; have p1 := (unhide HSA).b1.c1; have p2 := (unhide HSA).b1.c2; have pf0 := (unhide HSA).b1.f0; have pf1 := (unhide HSA).b1.f1; have pf2 := (unhide HSA).b1.f2
    have q0 := (unhide HSA).b2.c0; have q1 := (unhide HSA).b2.c1; have q2 := (unhide HSA).b2.c2; have q3 := (unhide HSA).b2.c3; have q4 := (unhide HSA).b2.c4; have q5 := (unhide HSA).b2.c5; have qf0 := (unhide HSA).b2.f0; have qf1 := (unhide HSA).b2.f1; have qf2 := (unhide HSA).b2.f2; have qf3 := (unhide HSA).b2.f3; have qf4 := (unhide HSA).b2.f4; have qf5 := (unhide HSA).b2.f5
    have r0 := (unhide HSA).b3.c0; have r1 := (unhide HSA).b3.c1; have r2 := (unhide HSA).b3.c2; have r3 := (unhide HSA).b3.c3; have r4 := (unhide HSA).b3.c4; have r5 := (unhide HSA).b3.c5; have rf0 := (unhide HSA).b3.f0; have rf1 := (unhide HSA).b3.f1; have rf2 := (unhide HSA).b3.f2; have rf3 := (unhide HSA).b3.f3; have rf4 := (unhide HSA).b3.f4; have rf5 := (unhide HSA).b3.f5
    go_wp2_with fail
    have hS1 := (((unhide HSA).b1.store (.bool false) (.slice none 0 0) (.slice none 0 0)).other6 (k := w.heap.size + 2) (by omega) (.bool false) (.slice none 0 0) (.slice none 0 0) (.bool false) (.slice none 0 0) (.slice none 0 0)).other6 (k := w.heap.size + 3) (by omega) (.bool false) (.slice none 0 0) (.slice none 0 0) (.bool false) (.slice none 0 0) (.slice none 0 0)
    have hS2 := (((unhide HSA).b2.other3 (k := w.heap.size + 1) (by omega) (.bool false) (.slice none 0 0) (.slice none 0 0)).store (.bool false) (.slice none 0 0) (.slice none 0 0) (.bool false) (.slice none 0 0) (.slice none 0 0)).other6 (k := w.heap.size + 3) (by omega) (.bool false) (.slice none 0 0) (.slice none 0 0) (.bool false) (.slice none 0 0) (.slice none 0 0)
    have hS3 := (((unhide HSA).b3.other3 (k := w.heap.size + 1) (by omega) (.bool false) (.slice none 0 0) (.slice none 0 0)).other6 (k := w.heap.size + 2) (by omega) (.bool false) (.slice none 0 0) (.slice none 0 0) (.bool false) (.slice none 0 0) (.slice none 0 0)).store (.bool false) (.slice none 0 0) (.slice none 0 0) (.bool false) (.slice none 0 0) (.slice none 0 0)
    have x0 := hS1.c0; have x1 := hS1.c1; have x2 := hS1.c2; have y0 := hS2.c0; have y1 := hS2.c1; have y2 := hS2.c2; have y3 := hS2.c3; have y4 := hS2.c4; have y5 := hS2.c5; have z0 := hS3.c0; have z1 := hS3.c1; have z2 := hS3.c2; have z3 := hS3.c3; have z4 := hS3.c4; have z5 := hS3.c5
    exact bodyPost_ret (v := .tuple #[.agg #[.bool false, .slice none 0 0, .slice none 0 0], .agg #[.bool false, .slice none 0 0, .slice none 0 0, .bool false, .slice none 0 0, .slice none 0 0], .agg #[.bool false, .slice none 0 0, .slice none 0 0, .bool false, .slice none 0 0, .slice none 0 0], .int .i64 200]) (w := store6 (store6 (store3 A (w.heap.size + 1) (.bool false) (.slice none 0 0) (.slice none 0 0)) (w.heap.size + 2) (.bool false) (.slice none 0 0) (.slice none 0 0) (.bool false) (.slice none 0 0) (.slice none 0 0)) (w.heap.size + 3) (.bool false) (.slice none 0 0) (.slice none 0 0) (.bool false) (.slice none 0 0) (.slice none 0 0)) (by simp [results, Tryz.results19, go_sem, x0, x1, x2, y0, y1, y2, y3, y4, y5, z0, z1, z2, z3, z4, z5]) rfl ⟨rfl, below_store6 (below_store6 (below_store3 (unhide HSA).below (by omega) _ _ _) (by omega) _ _ _ _ _ _) (by omega) _ _ _ _ _ _⟩

set_option maxRecDepth 100000 in
set_option maxHeartbeats 4000000 in
theorem to_no (n d s t : ByteArray) (e : Int) (w : World) (he : e ≠ 0)
    (h : ∀ W, Below w.heap.size w W → Calls Tryz.prog 19 #[.agg #[.string n, .string d], .string s, .string t] W fun r w' => r = .returned (.tuple #[.agg #[.bool false, .slice none 0 0, .slice none 0 0], .agg #[.bool false, .slice none 0 0, .slice none 0 0, .bool false, .slice none 0 0, .slice none 0 0], .agg #[.bool false, .slice none 0 0, .slice none 0 0, .bool false, .slice none 0 0, .slice none 0 0], .int .i64 e]) ∧ Below W.heap.size W w') :
    Calls Tryz.prog 6 #[.agg #[.string n, .string d], .string s, .string t] w fun r w' => r = .returned (.tuple #[.agg #[.string ⟨#[]⟩, .string ⟨#[]⟩], .int .i64 e]) ∧ Below w.heap.size w w' := by
  obtain ⟨V, hV⟩ : ∃ V, V = (w.alloc (.cells #[.string n, .string d] 23)).alloc (.cells #[.string ⟨#[]⟩, .string ⟨#[]⟩] 23) := ⟨_, rfl⟩
  have HN : Hid (T2 V w.heap.size (.string n) (.string d)) := by rw [hV]; exact ⟨by simp [go_sem], by simp [go_sem], by simp [go_sem], by simp [go_sem]⟩
  have HR : Hid (T2 V (w.heap.size + 1) (.string ⟨#[]⟩) (.string ⟨#[]⟩)) := by rw [hV]; exact ⟨by simp [go_sem], by simp [go_sem], by simp [go_sem], by simp [go_sem]⟩
  have HB : Hid (Below w.heap.size w V) := by rw [hV]; exact ((Below.refl _ _).alloc (Nat.le_refl _) _).alloc (by simp) _
  have HV := hide hV
  have HRU := hide h
  clear hV h
  go_enter Tryz.func6, Tryz.ntmps6
  go_upto_region 1 with fail
  rw [← unhide HV]
  clear HV
  have t0 := (unhide HN).c0; have t1 := (unhide HN).c1
  go_upto_region 2 with (go_at_call 19; go_must (refine (unhide HRU _ (unhide HB)).mono ?_; rintro e1 w1 ⟨rfl, hb1⟩; have HR1 := hide ((unhide HR).later hb1); have HB1 := hide ((unhide HB).trans (hb1.mono (unhide HB).size)); clear hb1 t0 t1))
  obtain ⟨A, hA⟩ : ∃ A, A = ((w1.alloc (.cells #[.bool false, .slice none 0 0, .slice none 0 0] 45)).alloc (.cells #[.bool false, .slice none 0 0, .slice none 0 0, .bool false, .slice none 0 0, .slice none 0 0] 47)).alloc (.cells #[.bool false, .slice none 0 0, .slice none 0 0, .bool false, .slice none 0 0, .slice none 0 0] 47) := ⟨_, rfl⟩
  have HBA1 : Hid (Below w1.heap.size w1 A) := by rw [hA]; exact (((Below.refl _ _).alloc (Nat.le_refl _) _).alloc (by simp) _).alloc (by simp; omega) _
  rw [← hA]
  clear hA
  have HRA := hide ((unhide HR1).later (unhide HBA1)); have HBA : Hid (Below w.heap.size w A) := (unhide HB1).trans ((unhide HBA1).mono (unhide HB1).size)
  generalize w1.heap.size = g8 at *
  clear HN HR HB HR1 HB1 HBA1
  have q0 := (unhide HRA).c0; have q1 := (unhide HRA).c1; have qf0 := (unhide HRA).f0; have qf1 := (unhide HRA).f1
  go_wp2_with fail
  have hS := (unhide HRA).store (.string ⟨#[]⟩) (.string ⟨#[]⟩)
  have v0 := hS.c0; have v1 := hS.c1
  exact bodyPost_ret (v := .tuple #[.agg #[.string ⟨#[]⟩, .string ⟨#[]⟩], .int .i64 e]) (w := store2 A (w.heap.size + 1) (.string ⟨#[]⟩) (.string ⟨#[]⟩)) (by simp [results, Tryz.results6, go_sem, v0, v1]) rfl ⟨rfl, below_store2 (unhide HBA) (by omega) _ _⟩
set_option maxRecDepth 100000 in
set_option maxHeartbeats 4000000 in
theorem step_no (n d s t : ByteArray) (e : Int) (w : World) (he : e ≠ 0)
    (h : ∀ W, Below w.heap.size w W → Calls Tryz.prog 19 #[.agg #[.string n, .string d], .string s, .string t] W fun r w' => r = .returned (.tuple #[.agg #[.bool false, .slice none 0 0, .slice none 0 0], .agg #[.bool false, .slice none 0 0, .slice none 0 0, .bool false, .slice none 0 0, .slice none 0 0], .agg #[.bool false, .slice none 0 0, .slice none 0 0, .bool false, .slice none 0 0, .slice none 0 0], .int .i64 e]) ∧ Below W.heap.size W w') :
    Calls Tryz.prog 8 #[.agg #[.string n, .string d], .string s, .string t] w fun r w' => r = .returned (.tuple #[.agg #[.string ⟨#[]⟩, .string ⟨#[]⟩], .int .i64 e]) ∧ Below w.heap.size w w' := by
  obtain ⟨V, hV⟩ : ∃ V, V = (w.alloc (.cells #[.string n, .string d] 23)).alloc (.cells #[.string ⟨#[]⟩, .string ⟨#[]⟩] 23) := ⟨_, rfl⟩
  have HN : Hid (T2 V w.heap.size (.string n) (.string d)) := by rw [hV]; exact ⟨by simp [go_sem], by simp [go_sem], by simp [go_sem], by simp [go_sem]⟩
  have HR : Hid (T2 V (w.heap.size + 1) (.string ⟨#[]⟩) (.string ⟨#[]⟩)) := by rw [hV]; exact ⟨by simp [go_sem], by simp [go_sem], by simp [go_sem], by simp [go_sem]⟩
  have HB : Hid (Below w.heap.size w V) := by rw [hV]; exact ((Below.refl _ _).alloc (Nat.le_refl _) _).alloc (by simp) _
  have HV := hide hV
  have HRU := hide h
  clear hV h
  go_enter Tryz.func8, Tryz.ntmps8
  go_upto_region 1 with fail
  rw [← unhide HV]
  clear HV
  have t0 := (unhide HN).c0; have t1 := (unhide HN).c1
  go_upto_region 2 with (go_at_call 19; go_must (refine (unhide HRU _ (unhide HB)).mono ?_; rintro e1 w1 ⟨rfl, hb1⟩; have HR1 := hide ((unhide HR).later hb1); have HB1 := hide ((unhide HB).trans (hb1.mono (unhide HB).size)); clear hb1 t0 t1))
  obtain ⟨A, hA⟩ : ∃ A, A = ((w1.alloc (.cells #[.bool false, .slice none 0 0, .slice none 0 0] 45)).alloc (.cells #[.bool false, .slice none 0 0, .slice none 0 0, .bool false, .slice none 0 0, .slice none 0 0] 47)).alloc (.cells #[.bool false, .slice none 0 0, .slice none 0 0, .bool false, .slice none 0 0, .slice none 0 0] 47) := ⟨_, rfl⟩
  have HBA1 : Hid (Below w1.heap.size w1 A) := by rw [hA]; exact (((Below.refl _ _).alloc (Nat.le_refl _) _).alloc (by simp) _).alloc (by simp; omega) _
  rw [← hA]
  clear hA
  have HRA := hide ((unhide HR1).later (unhide HBA1)); have HBA : Hid (Below w.heap.size w A) := (unhide HB1).trans ((unhide HBA1).mono (unhide HB1).size)
  generalize w1.heap.size = g8 at *
  clear HN HR HB HR1 HB1 HBA1
  have q0 := (unhide HRA).c0; have q1 := (unhide HRA).c1; have qf0 := (unhide HRA).f0; have qf1 := (unhide HRA).f1
  go_wp2_with fail
  have hS := (unhide HRA).store (.string ⟨#[]⟩) (.string ⟨#[]⟩)
  have v0 := hS.c0; have v1 := hS.c1
  exact bodyPost_ret (v := .tuple #[.agg #[.string ⟨#[]⟩, .string ⟨#[]⟩], .int .i64 e]) (w := store2 A (w.heap.size + 1) (.string ⟨#[]⟩) (.string ⟨#[]⟩)) (by simp [results, Tryz.results8, go_sem, v0, v1]) rfl ⟨rfl, below_store2 (unhide HBA) (by omega) _ _⟩
end Go.Proofs.YtimihoonnglniaaGreatDoor

namespace Go.Proofs.YtimihoonnglniaaGreatDoor
open Go.RowKit
/-- The document's row of a scale. -/
def uT : Nat → Array Value
  | 0 => #[.string ⟨#[114, 97, 110, 107, 105, 110, 101]⟩, .string ⟨#[194, 176, 82]⟩, .int .i64 0, .int .i64 0, .int .i64 0, .int .i64 0, .int .i64 1, .int .i64 0, .int .i64 0, .int .i64 0, .string ⟨#[53]⟩, .string ⟨#[57]⟩, .string ⟨#[48]⟩, .string ⟨#[49]⟩, .int .i64 0]
  | 1 => #[.string ⟨#[99, 101, 108, 115, 105, 117, 115]⟩, .string ⟨#[194, 176, 67]⟩, .int .i64 0, .int .i64 0, .int .i64 0, .int .i64 0, .int .i64 1, .int .i64 0, .int .i64 0, .int .i64 0, .string ⟨#[49]⟩, .string ⟨#[49]⟩, .string ⟨#[53, 52, 54, 51]⟩, .string ⟨#[50, 48]⟩, .int .i64 0]
  | 2 => #[.string ⟨#[102, 97, 104, 114, 101, 110, 104, 101, 105, 116]⟩, .string ⟨#[194, 176, 70]⟩, .int .i64 0, .int .i64 0, .int .i64 0, .int .i64 0, .int .i64 1, .int .i64 0, .int .i64 0, .int .i64 0, .string ⟨#[53]⟩, .string ⟨#[57]⟩, .string ⟨#[52, 53, 57, 54, 55]⟩, .string ⟨#[49, 56, 48]⟩, .int .i64 0]
  | _ => #[.string ⟨#[107, 101, 108, 118, 105, 110]⟩, .string ⟨#[75]⟩, .int .i64 0, .int .i64 0, .int .i64 0, .int .i64 0, .int .i64 1, .int .i64 0, .int .i64 0, .int .i64 0, .string ⟨#[49]⟩, .string ⟨#[49]⟩, .string ⟨#[48]⟩, .string ⟨#[49]⟩, .int .i64 1]

def uAll : Array Value := #[.string ⟨#[114, 97, 110, 107, 105, 110, 101]⟩, .string ⟨#[194, 176, 82]⟩, .int .i64 0, .int .i64 0, .int .i64 0, .int .i64 0, .int .i64 1, .int .i64 0, .int .i64 0, .int .i64 0, .string ⟨#[53]⟩, .string ⟨#[57]⟩, .string ⟨#[48]⟩, .string ⟨#[49]⟩, .int .i64 0, .string ⟨#[99, 101, 108, 115, 105, 117, 115]⟩, .string ⟨#[194, 176, 67]⟩, .int .i64 0, .int .i64 0, .int .i64 0, .int .i64 0, .int .i64 1, .int .i64 0, .int .i64 0, .int .i64 0, .string ⟨#[49]⟩, .string ⟨#[49]⟩, .string ⟨#[53, 52, 54, 51]⟩, .string ⟨#[50, 48]⟩, .int .i64 0, .string ⟨#[102, 97, 104, 114, 101, 110, 104, 101, 105, 116]⟩, .string ⟨#[194, 176, 70]⟩, .int .i64 0, .int .i64 0, .int .i64 0, .int .i64 0, .int .i64 1, .int .i64 0, .int .i64 0, .int .i64 0, .string ⟨#[53]⟩, .string ⟨#[57]⟩, .string ⟨#[52, 53, 57, 54, 55]⟩, .string ⟨#[49, 56, 48]⟩, .int .i64 0]
set_option maxRecDepth 100000 in
set_option maxHeartbeats 2000000 in
theorem rat48 (a b : ByteArray) (w : World) : Calls Tryz.prog 48 #[.string a, .string b] w fun r w' => r = .returned (.agg #[.string a, .string b]) ∧ Below w.heap.size w w' := by
  go_enter Tryz.func48, Tryz.ntmps48
  go_wp2
  exact bodyPost_ret (v := .agg #[.string a, .string b]) (by simp [results, Tryz.results48, go_sem]) rfl ⟨rfl, (Below.refl _ _).alloc (Nat.le_refl _) _⟩
structure D8 (W : World) (g : Nat) : Prop where
  c0 : W.cell? ⟨g, 0, none⟩ = some (.int .i64 0)
  c1 : W.cell? ⟨g, 1, none⟩ = some (.int .i64 0)
  c2 : W.cell? ⟨g, 2, none⟩ = some (.int .i64 0)
  c3 : W.cell? ⟨g, 3, none⟩ = some (.int .i64 0)
  c4 : W.cell? ⟨g, 4, none⟩ = some (.int .i64 1)
  c5 : W.cell? ⟨g, 5, none⟩ = some (.int .i64 0)
  c6 : W.cell? ⟨g, 6, none⟩ = some (.int .i64 0)
  c7 : W.cell? ⟨g, 7, none⟩ = some (.int .i64 0)

theorem D8.lt {W : World} {g : Nat} (h : D8 W g) : g < W.heap.size := World.block_lt_of_cell? _ _ h.c0
theorem D8.later {W V : World} {g : Nat} (h : D8 W g) (hb : Below W.heap.size W V) : D8 V g :=
  ⟨(hb.cell (p := ⟨g, 0, none⟩) h.lt).trans h.c0, (hb.cell (p := ⟨g, 1, none⟩) h.lt).trans h.c1, (hb.cell (p := ⟨g, 2, none⟩) h.lt).trans h.c2, (hb.cell (p := ⟨g, 3, none⟩) h.lt).trans h.c3, (hb.cell (p := ⟨g, 4, none⟩) h.lt).trans h.c4, (hb.cell (p := ⟨g, 5, none⟩) h.lt).trans h.c5, (hb.cell (p := ⟨g, 6, none⟩) h.lt).trans h.c6, (hb.cell (p := ⟨g, 7, none⟩) h.lt).trans h.c7⟩
set_option maxRecDepth 100000 in
set_option maxHeartbeats 4000000 in
theorem refUnits (w : World) : Calls Tryz.prog 49 #[] w fun r w' => ∃ W, r = .returned (.slice (some ⟨W.heap.size, 0, none⟩) 3 3) ∧ w' = W.alloc (.cells uAll 56) ∧ Below w.heap.size w W := by
  obtain ⟨V, hV⟩ : ∃ V, V = w.alloc (.cells #[.int .i64 0, .int .i64 0, .int .i64 0, .int .i64 0, .int .i64 1, .int .i64 0, .int .i64 0, .int .i64 0] 54) := ⟨_, rfl⟩
  have HDD : Hid (D8 V w.heap.size) := by rw [hV]; exact ⟨by simp [go_sem], by simp [go_sem], by simp [go_sem], by simp [go_sem], by simp [go_sem], by simp [go_sem], by simp [go_sem], by simp [go_sem]⟩
  have HB : Hid (Below w.heap.size w V) := by rw [hV]; exact (Below.refl _ _).alloc (Nat.le_refl _) _
  have HV := hide hV
  clear hV
  go_enter Tryz.func49, Tryz.ntmps49
  go_upto_region 2 with fail
  rw [← unhide HV]
  clear HV
  have t0 := (unhide HDD).c0; have t1 := (unhide HDD).c1; have t2 := (unhide HDD).c2; have t3 := (unhide HDD).c3; have t4 := (unhide HDD).c4; have t5 := (unhide HDD).c5; have t6 := (unhide HDD).c6; have t7 := (unhide HDD).c7
  have HC0 : Hid (Below V.heap.size V V.drew) := (Below.refl _ _).drew
  go_region_held3 (fun w' => w'.cell? ⟨w.heap.size, 0, none⟩ = some (.int .i64 0) ∧ w'.cell? ⟨w.heap.size, 1, none⟩ = some (.int .i64 0) ∧ w'.cell? ⟨w.heap.size, 2, none⟩ = some (.int .i64 0) ∧ w'.cell? ⟨w.heap.size, 3, none⟩ = some (.int .i64 0) ∧ w'.cell? ⟨w.heap.size, 4, none⟩ = some (.int .i64 1) ∧ w'.cell? ⟨w.heap.size, 5, none⟩ = some (.int .i64 0) ∧ w'.cell? ⟨w.heap.size, 6, none⟩ = some (.int .i64 0) ∧ w'.cell? ⟨w.heap.size, 7, none⟩ = some (.int .i64 0)) (first | assumption | (simp [go_sem, *]; done)) ((first
    | (go_at_call 48; refine (rat48 _ _ _).mono ?_; rintro e wh ⟨rfl, hb⟩; have HCwh : Hid (Below V.heap.size V wh) := (unhide HCwg).trans (hb.mono (unhide HCwg).size); clear hb t0 t1 t2 t3 t4 t5 t6 t7; have t0 := ((unhide HDD).later (unhide HCwh)).c0; have t1 := ((unhide HDD).later (unhide HCwh)).c1; have t2 := ((unhide HDD).later (unhide HCwh)).c2; have t3 := ((unhide HDD).later (unhide HCwh)).c3; have t4 := ((unhide HDD).later (unhide HCwh)).c4; have t5 := ((unhide HDD).later (unhide HCwh)).c5; have t6 := ((unhide HDD).later (unhide HCwh)).c6; have t7 := ((unhide HDD).later (unhide HCwh)).c7; have hvwh := ((unhide HDD).later (unhide HCwh)).lt)
    | (go_at_call 48; refine (rat48 _ _ _).mono ?_; rintro e wg ⟨rfl, hb⟩; have HCwg : Hid (Below V.heap.size V wg) := (unhide HCwf).trans (hb.mono (unhide HCwf).size); clear hb t0 t1 t2 t3 t4 t5 t6 t7; have t0 := ((unhide HDD).later (unhide HCwg)).c0; have t1 := ((unhide HDD).later (unhide HCwg)).c1; have t2 := ((unhide HDD).later (unhide HCwg)).c2; have t3 := ((unhide HDD).later (unhide HCwg)).c3; have t4 := ((unhide HDD).later (unhide HCwg)).c4; have t5 := ((unhide HDD).later (unhide HCwg)).c5; have t6 := ((unhide HDD).later (unhide HCwg)).c6; have t7 := ((unhide HDD).later (unhide HCwg)).c7; have hvwg := ((unhide HDD).later (unhide HCwg)).lt)
    | (go_at_call 48; refine (rat48 _ _ _).mono ?_; rintro e wf ⟨rfl, hb⟩; have HCwf : Hid (Below V.heap.size V wf) := (unhide HCwd).trans (hb.mono (unhide HCwd).size); clear hb t0 t1 t2 t3 t4 t5 t6 t7; have t0 := ((unhide HDD).later (unhide HCwf)).c0; have t1 := ((unhide HDD).later (unhide HCwf)).c1; have t2 := ((unhide HDD).later (unhide HCwf)).c2; have t3 := ((unhide HDD).later (unhide HCwf)).c3; have t4 := ((unhide HDD).later (unhide HCwf)).c4; have t5 := ((unhide HDD).later (unhide HCwf)).c5; have t6 := ((unhide HDD).later (unhide HCwf)).c6; have t7 := ((unhide HDD).later (unhide HCwf)).c7; have hvwf := ((unhide HDD).later (unhide HCwf)).lt)
    | (go_at_call 48; refine (rat48 _ _ _).mono ?_; rintro e wd ⟨rfl, hb⟩; have HCwd : Hid (Below V.heap.size V wd) := (unhide HCwb).trans (hb.mono (unhide HCwb).size); clear hb t0 t1 t2 t3 t4 t5 t6 t7; have t0 := ((unhide HDD).later (unhide HCwd)).c0; have t1 := ((unhide HDD).later (unhide HCwd)).c1; have t2 := ((unhide HDD).later (unhide HCwd)).c2; have t3 := ((unhide HDD).later (unhide HCwd)).c3; have t4 := ((unhide HDD).later (unhide HCwd)).c4; have t5 := ((unhide HDD).later (unhide HCwd)).c5; have t6 := ((unhide HDD).later (unhide HCwd)).c6; have t7 := ((unhide HDD).later (unhide HCwd)).c7; have hvwd := ((unhide HDD).later (unhide HCwd)).lt)
    | (go_at_call 48; refine (rat48 _ _ _).mono ?_; rintro e wb ⟨rfl, hb⟩; have HCwb : Hid (Below V.heap.size V wb) := (unhide HCwa).trans (hb.mono (unhide HCwa).size); clear hb t0 t1 t2 t3 t4 t5 t6 t7; have t0 := ((unhide HDD).later (unhide HCwb)).c0; have t1 := ((unhide HDD).later (unhide HCwb)).c1; have t2 := ((unhide HDD).later (unhide HCwb)).c2; have t3 := ((unhide HDD).later (unhide HCwb)).c3; have t4 := ((unhide HDD).later (unhide HCwb)).c4; have t5 := ((unhide HDD).later (unhide HCwb)).c5; have t6 := ((unhide HDD).later (unhide HCwb)).c6; have t7 := ((unhide HDD).later (unhide HCwb)).c7; have hvwb := ((unhide HDD).later (unhide HCwb)).lt)
    | (go_at_call 48; refine (rat48 _ _ _).mono ?_; rintro e wa ⟨rfl, hb⟩; have HCwa : Hid (Below V.heap.size V wa) := (unhide HC0).trans (hb.mono (unhide HC0).size); clear hb t0 t1 t2 t3 t4 t5 t6 t7; have t0 := ((unhide HDD).later (unhide HCwa)).c0; have t1 := ((unhide HDD).later (unhide HCwa)).c1; have t2 := ((unhide HDD).later (unhide HCwa)).c2; have t3 := ((unhide HDD).later (unhide HCwa)).c3; have t4 := ((unhide HDD).later (unhide HCwa)).c4; have t5 := ((unhide HDD).later (unhide HCwa)).c5; have t6 := ((unhide HDD).later (unhide HCwa)).c6; have t7 := ((unhide HDD).later (unhide HCwa)).c7; have hvwa := ((unhide HDD).later (unhide HCwa)).lt)))
  all_goals
    go_wp2_with fail
    go_ret
    exact ⟨_, rfl, rfl, (unhide HB).trans ((unhide HCwh).mono (unhide HB).size)⟩
end Go.Proofs.YtimihoonnglniaaGreatDoor

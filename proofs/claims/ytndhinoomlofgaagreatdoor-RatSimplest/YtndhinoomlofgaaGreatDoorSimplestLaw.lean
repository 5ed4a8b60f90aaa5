/- RatSimplest: the law whole. -/
import Derived.Test.YtndhinoomlofgaaGreatDoorSimplestVal
import Derived.Test.YtndhinoomlofgaaGreatDoorNew
import Derived.Deep.RegionHeld3
namespace Go.Proofs.YtndhinoomlofgaaGreatDoor
open Go.RowKit

set_option maxRecDepth 100000 in
set_option maxHeartbeats 2000000 in
theorem no15 (n1 d1 n2 d2 n3 d3 : ByteArray) (ok1 ok2 ok3 : Bool) (w : World) (htab : Tab w) (h1 : RB n1 d1 ok1) (h2 : RB n2 d2 ok2) (h3 : RB n3 d3 ok3) (h : (ok1 && ok2 && ok3) = false) :
    Calls Tryz.prog 15 #[.agg #[.string n1, .string d1], .agg #[.string n2, .string d2], .agg #[.string n3, .string d3]] w fun r w' => r = .returned (.bool true) ∧ Below w.heap.size w w' := by
  obtain ⟨V, hV⟩ : ∃ V, V = (((w.alloc (.cells #[.string n1, .string d1] 23)).alloc (.cells #[.string n2, .string d2] 23)).alloc (.cells #[.string n3, .string d3] 23)) := ⟨_, rfl⟩
  have HS : Hid (L3 w V n1 d1 n2 d2 n3 d3 []) := by rw [hV]; exact L3.first _ _ _ _ _ _ _
  have HV := hide hV
  have HAW : Hid (∀ W, Below w.heap.size w W → Calls Tryz.prog 23 #[] W fun r w' => r = .returned (.bool true) ∧ Below W.heap.size W w') := fun W hb => awake_any W (htab.later hb)
  have HRA := hide h1; have HRB := hide h2; have HRC := hide h3
  clear h1 h2 h3 htab
  go_enter Tryz.func15, Tryz.ntmps15
  go_upto_region 1 with fail
  rw [← unhide HV]
  clear hV HV
  have a0 := (unhide HS).a.c0; have a1 := (unhide HS).a.c1; have b0 := (unhide HS).b.c0; have b1 := (unhide HS).b.c1; have e0 := (unhide HS).c.c0; have e1 := (unhide HS).c.c1
  rcases (by cases ok1 <;> cases ok2 <;> cases ok3 <;> simp_all : ok1 = false ∨ (ok1 = true ∧ ok2 = false) ∨ (ok1 = true ∧ ok2 = true ∧ ok3 = false)) with rfl | ⟨rfl, rfl⟩ | ⟨rfl, rfl, rfl⟩
  · clear h
    go_wp2_with (first
      | (go_at_call_of 20 (Value.agg #[Value.string n1, Value.string d1]); go_must (refine (unhide HRA _).mono ?_; rintro e w1 ⟨rfl, hb1⟩; have HS1 := hide ((unhide HS).later hb1); clear hb1 a0 a1 b0 b1 e0 e1; have a0 := (unhide HS1).a.c0; have a1 := (unhide HS1).a.c1; have b0 := (unhide HS1).b.c0; have b1 := (unhide HS1).b.c1; have e0 := (unhide HS1).c.c0; have e1 := (unhide HS1).c.c1))
      | (go_at_call 23; go_must (refine (unhide HAW _ (unhide HS1).below).mono ?_; rintro e wz ⟨rfl, hbz⟩; have HZZ := hide ((unhide HS1).below.trans (hbz.mono (unhide HS1).below.size)); clear hbz)))
    go_ret
    exact ⟨rfl, unhide HZZ⟩
  · clear h
    go_wp2_with (first
      | (go_at_call_of 20 (Value.agg #[Value.string n1, Value.string d1]); go_must (refine (unhide HRA _).mono ?_; rintro e w1 ⟨rfl, hb1⟩; have HS1 := hide ((unhide HS).later hb1); clear hb1 a0 a1 b0 b1 e0 e1; have a0 := (unhide HS1).a.c0; have a1 := (unhide HS1).a.c1; have b0 := (unhide HS1).b.c0; have b1 := (unhide HS1).b.c1; have e0 := (unhide HS1).c.c0; have e1 := (unhide HS1).c.c1))
      | (go_at_call_of 20 (Value.agg #[Value.string n2, Value.string d2]); go_must (refine (unhide HRB _).mono ?_; rintro e w2 ⟨rfl, hb1⟩; have HS2 := hide ((unhide HS1).later hb1); clear hb1 a0 a1 b0 b1 e0 e1; have a0 := (unhide HS2).a.c0; have a1 := (unhide HS2).a.c1; have b0 := (unhide HS2).b.c0; have b1 := (unhide HS2).b.c1; have e0 := (unhide HS2).c.c0; have e1 := (unhide HS2).c.c1))
      | (go_at_call 23; go_must (refine (unhide HAW _ (unhide HS2).below).mono ?_; rintro e wz ⟨rfl, hbz⟩; have HZZ := hide ((unhide HS2).below.trans (hbz.mono (unhide HS2).below.size)); clear hbz)))
    go_ret
    exact ⟨rfl, unhide HZZ⟩
  · clear h
    go_wp2_with (first
      | (go_at_call_of 20 (Value.agg #[Value.string n1, Value.string d1]); go_must (refine (unhide HRA _).mono ?_; rintro e w1 ⟨rfl, hb1⟩; have HS1 := hide ((unhide HS).later hb1); clear hb1 a0 a1 b0 b1 e0 e1; have a0 := (unhide HS1).a.c0; have a1 := (unhide HS1).a.c1; have b0 := (unhide HS1).b.c0; have b1 := (unhide HS1).b.c1; have e0 := (unhide HS1).c.c0; have e1 := (unhide HS1).c.c1))
      | (go_at_call_of 20 (Value.agg #[Value.string n2, Value.string d2]); go_must (refine (unhide HRB _).mono ?_; rintro e w2 ⟨rfl, hb1⟩; have HS2 := hide ((unhide HS1).later hb1); clear hb1 a0 a1 b0 b1 e0 e1; have a0 := (unhide HS2).a.c0; have a1 := (unhide HS2).a.c1; have b0 := (unhide HS2).b.c0; have b1 := (unhide HS2).b.c1; have e0 := (unhide HS2).c.c0; have e1 := (unhide HS2).c.c1))
      | (go_at_call_of 20 (Value.agg #[Value.string n3, Value.string d3]); go_must (refine (unhide HRC _).mono ?_; rintro e w3 ⟨rfl, hb1⟩; have HS3 := hide ((unhide HS2).later hb1); clear hb1 a0 a1 b0 b1 e0 e1; have a0 := (unhide HS3).a.c0; have a1 := (unhide HS3).a.c1; have b0 := (unhide HS3).b.c0; have b1 := (unhide HS3).b.c1; have e0 := (unhide HS3).c.c0; have e1 := (unhide HS3).c.c1))
      | (go_at_call 23; go_must (refine (unhide HAW _ (unhide HS3).below).mono ?_; rintro e wz ⟨rfl, hbz⟩; have HZZ := hide ((unhide HS3).below.trans (hbz.mono (unhide HS3).below.size)); clear hbz)))
    go_ret
    exact ⟨rfl, unhide HZZ⟩

set_option maxRecDepth 100000 in
set_option maxHeartbeats 4000000 in
theorem simplest_below (n1 d1 n2 d2 n3 d3 : ByteArray) (w : World) (htab : Tab w) (x y q : Rat) (hx : IsR n1 d1 x) (hy : IsR n2 d2 y) (hq : IsR n3 d3 q) (hc : y < x) :
    Calls Tryz.prog 15 #[.agg #[.string n1, .string d1], .agg #[.string n2, .string d2], .agg #[.string n3, .string d3]] w fun r w' => r = .returned (.bool true) ∧ Below w.heap.size w w' := by
  obtain ⟨V, hV⟩ : ∃ V, V = (((w.alloc (.cells #[.string n1, .string d1] 23)).alloc (.cells #[.string n2, .string d2] 23)).alloc (.cells #[.string n3, .string d3] 23)) := ⟨_, rfl⟩
  have HS0 : Hid (L3 w V n1 d1 n2 d2 n3 d3 []) := by rw [hV]; exact L3.first _ _ _ _ _ _ _
  have HV := hide hV
  have HAW : Hid (∀ W, Below w.heap.size w W → Calls Tryz.prog 23 #[] W fun r w' => r = .returned (.bool true) ∧ Below W.heap.size W w') := fun W hb => awake_any W (htab.later hb)
  have HTW := hide htab
  have HRA := hide (ref18_yes hx); have HRB := hide (ref18_yes hy); have HRC := hide (ref18_yes hq)
  have HSI : Hid (∀ W, Calls Tryz.prog 55 #[.agg #[.string n1, .string d1], .agg #[.string n2, .string d2]] W fun r w' => r = .returned (.tuple #[.agg #[.string ⟨#[]⟩, .string ⟨#[]⟩], .int .i64 9]) ∧ Below W.heap.size W w') := fun W => simple_below n1 d1 n2 d2 x y W hx hy (cmpQ_lt.2 hc)
  obtain ⟨X, hX⟩ : ∃ X, X = Cub.cmpQ x y := ⟨_, rfl⟩
  have HCM : Hid (∀ W, Calls Tryz.prog 48 #[.agg #[.string n1, .string d1], .agg #[.string n2, .string d2]] W fun r w' => r = .returned (.tuple #[.int .i64 X, .int .i64 0]) ∧ Below W.heap.size W w') := fun W => by rw [hX]; exact rcmp_ok n1 d1 n2 d2 x y W hx hy
  have hX0 : (0 : Int) < X := by rw [hX]; exact cmpQ_gt.2 hc
  clear hx hy hq hc hX htab
  go_enter Tryz.func15, Tryz.ntmps15
  go_upto_region 1 with fail
  rw [← unhide HV]
  clear hV HV
  have a0 := (unhide HS0).a.c0; have a1 := (unhide HS0).a.c1; have b0 := (unhide HS0).b.c0; have b1 := (unhide HS0).b.c1; have e0 := (unhide HS0).c.c0; have e1 := (unhide HS0).c.c1
  go_upto_region 3 with (first
    | (go_at_call_of 20 (Value.agg #[Value.string n1, Value.string d1]); go_must (refine (unhide HRA _).mono ?_; rintro e w1 ⟨rfl, hb1⟩; have HS1 := hide ((unhide HS0).later hb1); clear hb1 a0 a1 b0 b1 e0 e1; have a0 := (unhide HS1).a.c0; have a1 := (unhide HS1).a.c1; have b0 := (unhide HS1).b.c0; have b1 := (unhide HS1).b.c1; have e0 := (unhide HS1).c.c0; have e1 := (unhide HS1).c.c1))
    | (go_at_call_of 20 (Value.agg #[Value.string n2, Value.string d2]); go_must (refine (unhide HRB _).mono ?_; rintro e w2 ⟨rfl, hb1⟩; have HS2 := hide ((unhide HS1).later hb1); clear hb1 a0 a1 b0 b1 e0 e1; have a0 := (unhide HS2).a.c0; have a1 := (unhide HS2).a.c1; have b0 := (unhide HS2).b.c0; have b1 := (unhide HS2).b.c1; have e0 := (unhide HS2).c.c0; have e1 := (unhide HS2).c.c1))
    | (go_at_call_of 20 (Value.agg #[Value.string n3, Value.string d3]); go_must (refine (unhide HRC _).mono ?_; rintro e w3 ⟨rfl, hb1⟩; have HS3 := hide ((unhide HS2).later hb1); clear hb1 a0 a1 b0 b1 e0 e1; have a0 := (unhide HS3).a.c0; have a1 := (unhide HS3).a.c1; have b0 := (unhide HS3).b.c0; have b1 := (unhide HS3).b.c1; have e0 := (unhide HS3).c.c0; have e1 := (unhide HS3).c.c1)))
  go_upto_region 4 with (go_at_call 55; go_must (refine (unhide HSI _).mono ?_; rintro e w4 ⟨rfl, hb1⟩; have HS4 := hide ((unhide HS3).later hb1); clear hb1 a0 a1 b0 b1 e0 e1))
  have HS5 := hide ((unhide HS4).push ⟨#[]⟩ ⟨#[]⟩)
  generalize w4.alloc (.cells #[.string ⟨#[]⟩, .string ⟨#[]⟩] 23) = V5 at *
  have a0 := (unhide HS5).a.c0; have a1 := (unhide HS5).a.c1; have b0 := (unhide HS5).b.c0; have b1 := (unhide HS5).b.c1; have e0 := (unhide HS5).c.c0; have e1 := (unhide HS5).c.c1
  go_wp2_with (first
    | (go_at_call 48; go_must (refine (unhide HCM _).mono ?_; rintro e w6 ⟨rfl, hb1⟩; have HS6 := hide ((unhide HS5).later hb1); clear hb1 a0 a1 b0 b1 e0 e1))
    | (go_at_call 23; go_must (refine (unhide HAW _ (unhide HS6).below).mono ?_; rintro e wz ⟨rfl, hbz⟩; have HZZ := hide ((unhide HS6).below.trans (hbz.mono (unhide HS6).below.size)); clear hbz)))
  go_ret
  exact ⟨rfl, unhide HZZ⟩

set_option maxRecDepth 100000 in
set_option maxHeartbeats 4000000 in
theorem simplest_any (n1 d1 n2 d2 n3 d3 : ByteArray) (w : World) (htab : Tab w) (x y q : Rat) (hx : IsR n1 d1 x) (hy : IsR n2 d2 y) (hq : IsR n3 d3 q) (hc : ¬ y < x) :
    Calls Tryz.prog 15 #[.agg #[.string n1, .string d1], .agg #[.string n2, .string d2], .agg #[.string n3, .string d3]] w fun r w' => r = .returned (.bool true) ∧ Below w.heap.size w w' := by
  obtain ⟨V, hV⟩ : ∃ V, V = (((w.alloc (.cells #[.string n1, .string d1] 23)).alloc (.cells #[.string n2, .string d2] 23)).alloc (.cells #[.string n3, .string d3] 23)) := ⟨_, rfl⟩
  have HS0 : Hid (L3 w V n1 d1 n2 d2 n3 d3 []) := by rw [hV]; exact L3.first _ _ _ _ _ _ _
  have HV := hide hV
  have HAW : Hid (∀ W, Below w.heap.size w W → Calls Tryz.prog 23 #[] W fun r w' => r = .returned (.bool true) ∧ Below W.heap.size W w') := fun W hb => awake_any W (htab.later hb)
  have HTW := hide htab
  have HRA := hide (ref18_yes hx); have HRB := hide (ref18_yes hy); have HRC := hide (ref18_yes hq)
  obtain ⟨z, hz, hS⟩ := simple_val n1 d1 n2 d2 x y hx hy hc
  have hzR := numT_of hz.small
  have HDT := hide (fun h : z.den ≤ q.den => den_text hzR hq h)
  unfold Ans at hS
  generalize numT z = zn at *
  generalize denT z = zd at *
  have HSI := hide hS
  have HRS := hide (ref18_yes hzR)
  have HDX := hide (fun W => refRead n1 d1 x W hx); have HDY := hide (fun W => refRead n2 d2 y W hy); have HDQ := hide (fun W => refRead n3 d3 q W hq); have HDZ := hide (fun W => refRead zn zd z W hzR)
  obtain ⟨X, hX⟩ : ∃ X, X = Cub.cmpQ x z := ⟨_, rfl⟩
  obtain ⟨Y, hY⟩ : ∃ Y, Y = Cub.cmpQ z y := ⟨_, rfl⟩
  obtain ⟨P, hP⟩ : ∃ P, P = Cub.cmpQ x q := ⟨_, rfl⟩
  obtain ⟨Q, hQ⟩ : ∃ Q, Q = Cub.cmpQ q y := ⟨_, rfl⟩
  have HXZ := hide (fun W => refCompare 600 x z W (by omega) (by omega) hx.bd hzR.bd)
  have HZY := hide (fun W => refCompare 600 z y W (by omega) (by omega) hzR.bd hy.bd)
  have HXQ := hide (fun W => refCompare 600 x q W (by omega) (by omega) hx.bd hq.bd)
  have HQY := hide (fun W => refCompare 600 q y W (by omega) (by omega) hq.bd hy.bd)
  rw [← hX] at HXZ; rw [← hY] at HZY; rw [← hP] at HXQ; rw [← hQ] at HQY
  have hX0 : ¬ (0 : Int) < X := by rw [hX]; have := (cmpQ_le x z).2 hz.low; omega
  have hY0 : ¬ (0 : Int) < Y := by rw [hY]; have := (cmpQ_le z y).2 hz.high; omega
  have HPQ : Hid (P ≤ 0 → Q ≤ 0 → ¬ d3.size < zd.size ∧ (d3.size = zd.size → Op.bytesLess d3.toList zd.toList = false)) := fun h1 h2 => by
    rw [hP] at h1; rw [hQ] at h2
    exact unhide HDT (hz.least q ((cmpQ_le x q).1 h1) ((cmpQ_le q y).1 h2))
  clear hX hY hP hQ HDT hzR hS
  generalize fx x = fX at *
  generalize fx y = fY at *
  generalize fx q = fQ at *
  generalize fx z = fZ at *
  clear hx hy hq hc hz htab
  go_enter Tryz.func15, Tryz.ntmps15
  go_upto_region 1 with fail
  rw [← unhide HV]
  clear hV HV
  have a0 := (unhide HS0).a.c0; have a1 := (unhide HS0).a.c1; have b0 := (unhide HS0).b.c0; have b1 := (unhide HS0).b.c1; have e0 := (unhide HS0).c.c0; have e1 := (unhide HS0).c.c1
  go_upto_region 3 with (first
    | (go_at_call_of 20 (Value.agg #[Value.string n1, Value.string d1]); go_must (refine (unhide HRA _).mono ?_; rintro e w1 ⟨rfl, hb1⟩; have HS1 := hide ((unhide HS0).later hb1); clear hb1 a0 a1 b0 b1 e0 e1; have a0 := (unhide HS1).a.c0; have a1 := (unhide HS1).a.c1; have b0 := (unhide HS1).b.c0; have b1 := (unhide HS1).b.c1; have e0 := (unhide HS1).c.c0; have e1 := (unhide HS1).c.c1))
    | (go_at_call_of 20 (Value.agg #[Value.string n2, Value.string d2]); go_must (refine (unhide HRB _).mono ?_; rintro e w2 ⟨rfl, hb1⟩; have HS2 := hide ((unhide HS1).later hb1); clear hb1 a0 a1 b0 b1 e0 e1; have a0 := (unhide HS2).a.c0; have a1 := (unhide HS2).a.c1; have b0 := (unhide HS2).b.c0; have b1 := (unhide HS2).b.c1; have e0 := (unhide HS2).c.c0; have e1 := (unhide HS2).c.c1))
    | (go_at_call_of 20 (Value.agg #[Value.string n3, Value.string d3]); go_must (refine (unhide HRC _).mono ?_; rintro e w3 ⟨rfl, hb1⟩; have HS3 := hide ((unhide HS2).later hb1); clear hb1 a0 a1 b0 b1 e0 e1; have a0 := (unhide HS3).a.c0; have a1 := (unhide HS3).a.c1; have b0 := (unhide HS3).b.c0; have b1 := (unhide HS3).b.c1; have e0 := (unhide HS3).c.c0; have e1 := (unhide HS3).c.c1)))
  go_upto_region 4 with (go_at_call 55; go_must (refine (unhide HSI _ ((unhide HTW).later (unhide HS3).below)).mono ?_; rintro e w4 ⟨rfl, hb1⟩; have HS4 := hide ((unhide HS3).later hb1); clear hb1 a0 a1 b0 b1 e0 e1))
  have HS5 := hide ((unhide HS4).push zn zd)
  generalize w4.alloc (.cells #[.string zn, .string zd] 23) = V5 at *
  generalize w4.heap.size = g4 at *
  go_upto_region 7 with fail
  have x1 : decide ((0 : Int) < X) = false := decide_eq_false (by omega)
  have x2 : decide ((0 : Int) < Y) = false := decide_eq_false (by omega)
  have q0 : ∀ xz : Later V5, xz.world.cell? ⟨w.heap.size, 0, none⟩ = some (.string n1) := fun xz => ((unhide HS5).later xz.below).a.c0
  have q1 : ∀ xz : Later V5, xz.world.cell? ⟨w.heap.size, 1, none⟩ = some (.string d1) := fun xz => ((unhide HS5).later xz.below).a.c1
  have q2 : ∀ xz : Later V5, xz.world.cell? ⟨w.heap.size + 1, 0, none⟩ = some (.string n2) := fun xz => ((unhide HS5).later xz.below).b.c0
  have q3 : ∀ xz : Later V5, xz.world.cell? ⟨w.heap.size + 1, 1, none⟩ = some (.string d2) := fun xz => ((unhide HS5).later xz.below).b.c1
  have q4 : ∀ xz : Later V5, xz.world.cell? ⟨g4, 0, none⟩ = some (.string zn) := fun xz => (((unhide HS5).later xz.below).bx _ (List.mem_singleton.2 rfl)).c0
  have q5 : ∀ xz : Later V5, xz.world.cell? ⟨g4, 1, none⟩ = some (.string zd) := fun xz => (((unhide HS5).later xz.below).bx _ (List.mem_singleton.2 rfl)).c1
  refine quiet_later (by kernel_rfl) (by kernel_rfl) ?_
  repeat (go_big_quiet_step (first
    | (go_at_call 20; rename_i xx; refine (unhide HRS xx.world).mono ?_; rintro e w9 ⟨rfl, hb9⟩; have hz := xx.below.trans (hb9.mono xx.below.size); first | exact ⟨rfl, ⟨w9, hz⟩, rfl⟩ | exact ⟨rfl, hz⟩ | exact ⟨rfl, w9, hz, rfl⟩)
    | (go_at_call_of 64 n1; rename_i xx; refine (unhide HDX xx.world).mono ?_; rintro e w9 ⟨rfl, hb9⟩; have hz := xx.below.trans (hb9.mono xx.below.size); first | exact ⟨rfl, ⟨w9, hz⟩, rfl⟩ | exact ⟨rfl, hz⟩ | exact ⟨rfl, w9, hz, rfl⟩)
    | (go_at_call_of 64 zn; rename_i xx; refine (unhide HDZ xx.world).mono ?_; rintro e w9 ⟨rfl, hb9⟩; have hz := xx.below.trans (hb9.mono xx.below.size); first | exact ⟨rfl, ⟨w9, hz⟩, rfl⟩ | exact ⟨rfl, hz⟩ | exact ⟨rfl, w9, hz, rfl⟩)
    | (go_at_call_of 64 n2; rename_i xx; refine (unhide HDY xx.world).mono ?_; rintro e w9 ⟨rfl, hb9⟩; have hz := xx.below.trans (hb9.mono xx.below.size); first | exact ⟨rfl, ⟨w9, hz⟩, rfl⟩ | exact ⟨rfl, hz⟩ | exact ⟨rfl, w9, hz, rfl⟩)
    | (go_at_call_of 66 fX; rename_i xx; refine (unhide HXZ xx.world).mono ?_; rintro e w9 ⟨rfl, hb9⟩; have hz := xx.below.trans (hb9.mono xx.below.size); first | exact ⟨rfl, ⟨w9, hz⟩, rfl⟩ | exact ⟨rfl, hz⟩ | exact ⟨rfl, w9, hz, rfl⟩)
    | (go_at_call_of 66 fY; rename_i xx; refine (unhide HZY xx.world).mono ?_; rintro e w9 ⟨rfl, hb9⟩; have hz := xx.below.trans (hb9.mono xx.below.size); first | exact ⟨rfl, ⟨w9, hz⟩, rfl⟩ | exact ⟨rfl, hz⟩ | exact ⟨rfl, w9, hz, rfl⟩)))
  refine wpQuiet_nil ?_
  intro _ hw'
  obtain ⟨xz, hw''⟩ := hw'
  subst hw''
  have HS6 := hide ((unhide HS5).later xz.below)
  obtain ⟨G, hG⟩ : ∃ G, G = xz.world := ⟨_, rfl⟩
  rw [← hG] at HS6 ⊢
  clear q0 q1 q2 q3 q4 q5 hG HS5 HS4 HS3 HS2 HS1 HS0 HXZ HZY HRS HRA HRB HRC HSI
  go_upto_region 9 with fail
  have q0 : ∀ xz : Later G, xz.world.cell? ⟨w.heap.size, 0, none⟩ = some (.string n1) := fun xz => ((unhide HS6).later xz.below).a.c0
  have q1 : ∀ xz : Later G, xz.world.cell? ⟨w.heap.size, 1, none⟩ = some (.string d1) := fun xz => ((unhide HS6).later xz.below).a.c1
  have q2 : ∀ xz : Later G, xz.world.cell? ⟨w.heap.size + 1, 0, none⟩ = some (.string n2) := fun xz => ((unhide HS6).later xz.below).b.c0
  have q3 : ∀ xz : Later G, xz.world.cell? ⟨w.heap.size + 1, 1, none⟩ = some (.string d2) := fun xz => ((unhide HS6).later xz.below).b.c1
  have q4 : ∀ xz : Later G, xz.world.cell? ⟨w.heap.size + 1 + 1, 0, none⟩ = some (.string n3) := fun xz => ((unhide HS6).later xz.below).c.c0
  have q5 : ∀ xz : Later G, xz.world.cell? ⟨w.heap.size + 1 + 1, 1, none⟩ = some (.string d3) := fun xz => ((unhide HS6).later xz.below).c.c1
  by_cases hP0 : P ≤ 0
  · have p1 : decide (P ≤ 0) = true := decide_eq_true (by omega)
    by_cases hQ0 : Q ≤ 0
    · have p2 : decide (Q ≤ 0) = true := decide_eq_true (by omega)
      obtain ⟨k1, k2⟩ := unhide HPQ hP0 hQ0
      refine quiet_later (by kernel_rfl) (by kernel_rfl) ?_
      repeat (go_big_quiet_step (first
        | (go_at_call_of 64 n1; rename_i xx; refine (unhide HDX xx.world).mono ?_; rintro e w9 ⟨rfl, hb9⟩; have hz := xx.below.trans (hb9.mono xx.below.size); first | exact ⟨rfl, ⟨w9, hz⟩, rfl⟩ | exact ⟨rfl, hz⟩ | exact ⟨rfl, w9, hz, rfl⟩)
        | (go_at_call_of 64 n3; rename_i xx; refine (unhide HDQ xx.world).mono ?_; rintro e w9 ⟨rfl, hb9⟩; have hz := xx.below.trans (hb9.mono xx.below.size); first | exact ⟨rfl, ⟨w9, hz⟩, rfl⟩ | exact ⟨rfl, hz⟩ | exact ⟨rfl, w9, hz, rfl⟩)
        | (go_at_call_of 64 n2; rename_i xx; refine (unhide HDY xx.world).mono ?_; rintro e w9 ⟨rfl, hb9⟩; have hz := xx.below.trans (hb9.mono xx.below.size); first | exact ⟨rfl, ⟨w9, hz⟩, rfl⟩ | exact ⟨rfl, hz⟩ | exact ⟨rfl, w9, hz, rfl⟩)
        | (go_at_call_of 66 fX; rename_i xx; refine (unhide HXQ xx.world).mono ?_; rintro e w9 ⟨rfl, hb9⟩; have hz := xx.below.trans (hb9.mono xx.below.size); first | exact ⟨rfl, ⟨w9, hz⟩, rfl⟩ | exact ⟨rfl, hz⟩ | exact ⟨rfl, w9, hz, rfl⟩)
        | (go_at_call_of 66 fY; rename_i xx; refine (unhide HQY xx.world).mono ?_; rintro e w9 ⟨rfl, hb9⟩; have hz := xx.below.trans (hb9.mono xx.below.size); first | exact ⟨rfl, ⟨w9, hz⟩, rfl⟩ | exact ⟨rfl, hz⟩ | exact ⟨rfl, w9, hz, rfl⟩)))
      refine wpQuiet_nil ?_
      intro _ hw'
      obtain ⟨xz, hw''⟩ := hw'
      subst hw''
      have HS7 := hide ((unhide HS6).later xz.below)
      obtain ⟨G2, hG2⟩ : ∃ G2, G2 = xz.world := ⟨_, rfl⟩
      rw [← hG2] at HS7 ⊢
      clear q0 q1 q2 q3 q4 q5 hG2 HS6 HXQ HQY
      have t1 := (unhide HS7).c.c1; have t0 := (unhide HS7).c.c0; have s0 := ((unhide HS7).bx _ (List.mem_singleton.2 rfl)).c0; have s1 := ((unhide HS7).bx _ (List.mem_singleton.2 rfl)).c1
      have k3 : ¬ (d3.size : Int) < (zd.size : Int) := by omega
      by_cases hsz : d3.size = zd.size
      · have k4 := k2 hsz
        have k5 : ((d3.size : Int) == (zd.size : Int)) = true := by rw [hsz]; simp
        clear k2 hsz k1
        go_wp2_with (go_at_call 23; go_must (refine (unhide HAW _ (unhide HS7).below).mono ?_; rintro e wz ⟨rfl, hbz⟩; have HZZ := hide ((unhide HS7).below.trans (hbz.mono (unhide HS7).below.size)); clear hbz))
        go_ret
        exact ⟨rfl, unhide HZZ⟩
      · have k5 : ((d3.size : Int) == (zd.size : Int)) = false := by rw [beq_eq_false_iff_ne]; omega
        clear k2 hsz k1
        go_wp2_with (go_at_call 23; go_must (refine (unhide HAW _ (unhide HS7).below).mono ?_; rintro e wz ⟨rfl, hbz⟩; have HZZ := hide ((unhide HS7).below.trans (hbz.mono (unhide HS7).below.size)); clear hbz))
        go_ret
        exact ⟨rfl, unhide HZZ⟩
    · have p2 : decide (Q ≤ 0) = false := decide_eq_false (by omega)
      refine quiet_later (by kernel_rfl) (by kernel_rfl) ?_
      repeat (go_big_quiet_step (first
        | (go_at_call_of 64 n1; rename_i xx; refine (unhide HDX xx.world).mono ?_; rintro e w9 ⟨rfl, hb9⟩; have hz := xx.below.trans (hb9.mono xx.below.size); first | exact ⟨rfl, ⟨w9, hz⟩, rfl⟩ | exact ⟨rfl, hz⟩ | exact ⟨rfl, w9, hz, rfl⟩)
        | (go_at_call_of 64 n3; rename_i xx; refine (unhide HDQ xx.world).mono ?_; rintro e w9 ⟨rfl, hb9⟩; have hz := xx.below.trans (hb9.mono xx.below.size); first | exact ⟨rfl, ⟨w9, hz⟩, rfl⟩ | exact ⟨rfl, hz⟩ | exact ⟨rfl, w9, hz, rfl⟩)
        | (go_at_call_of 64 n2; rename_i xx; refine (unhide HDY xx.world).mono ?_; rintro e w9 ⟨rfl, hb9⟩; have hz := xx.below.trans (hb9.mono xx.below.size); first | exact ⟨rfl, ⟨w9, hz⟩, rfl⟩ | exact ⟨rfl, hz⟩ | exact ⟨rfl, w9, hz, rfl⟩)
        | (go_at_call_of 66 fX; rename_i xx; refine (unhide HXQ xx.world).mono ?_; rintro e w9 ⟨rfl, hb9⟩; have hz := xx.below.trans (hb9.mono xx.below.size); first | exact ⟨rfl, ⟨w9, hz⟩, rfl⟩ | exact ⟨rfl, hz⟩ | exact ⟨rfl, w9, hz, rfl⟩)
        | (go_at_call_of 66 fY; rename_i xx; refine (unhide HQY xx.world).mono ?_; rintro e w9 ⟨rfl, hb9⟩; have hz := xx.below.trans (hb9.mono xx.below.size); first | exact ⟨rfl, ⟨w9, hz⟩, rfl⟩ | exact ⟨rfl, hz⟩ | exact ⟨rfl, w9, hz, rfl⟩)))
      refine wpQuiet_nil ?_
      intro _ hw'
      obtain ⟨xz, hw''⟩ := hw'
      subst hw''
      have HS7 := hide ((unhide HS6).later xz.below)
      obtain ⟨G2, hG2⟩ : ∃ G2, G2 = xz.world := ⟨_, rfl⟩
      rw [← hG2] at HS7 ⊢
      clear q0 q1 q2 q3 q4 q5 hG2 HS6 HXQ HQY
      go_wp2_with (go_at_call 23; go_must (refine (unhide HAW _ (unhide HS7).below).mono ?_; rintro e wz ⟨rfl, hbz⟩; have HZZ := hide ((unhide HS7).below.trans (hbz.mono (unhide HS7).below.size)); clear hbz))
      go_ret
      exact ⟨rfl, unhide HZZ⟩
  · have p1 : decide (P ≤ 0) = false := decide_eq_false (by omega)
    refine quiet_later (by kernel_rfl) (by kernel_rfl) ?_
    repeat (go_big_quiet_step (first
      | (go_at_call_of 64 n1; rename_i xx; refine (unhide HDX xx.world).mono ?_; rintro e w9 ⟨rfl, hb9⟩; have hz := xx.below.trans (hb9.mono xx.below.size); first | exact ⟨rfl, ⟨w9, hz⟩, rfl⟩ | exact ⟨rfl, hz⟩ | exact ⟨rfl, w9, hz, rfl⟩)
      | (go_at_call_of 64 n3; rename_i xx; refine (unhide HDQ xx.world).mono ?_; rintro e w9 ⟨rfl, hb9⟩; have hz := xx.below.trans (hb9.mono xx.below.size); first | exact ⟨rfl, ⟨w9, hz⟩, rfl⟩ | exact ⟨rfl, hz⟩ | exact ⟨rfl, w9, hz, rfl⟩)
      | (go_at_call_of 64 n2; rename_i xx; refine (unhide HDY xx.world).mono ?_; rintro e w9 ⟨rfl, hb9⟩; have hz := xx.below.trans (hb9.mono xx.below.size); first | exact ⟨rfl, ⟨w9, hz⟩, rfl⟩ | exact ⟨rfl, hz⟩ | exact ⟨rfl, w9, hz, rfl⟩)
      | (go_at_call_of 66 fX; rename_i xx; refine (unhide HXQ xx.world).mono ?_; rintro e w9 ⟨rfl, hb9⟩; have hz := xx.below.trans (hb9.mono xx.below.size); first | exact ⟨rfl, ⟨w9, hz⟩, rfl⟩ | exact ⟨rfl, hz⟩ | exact ⟨rfl, w9, hz, rfl⟩)
      | (go_at_call_of 66 fY; rename_i xx; refine (unhide HQY xx.world).mono ?_; rintro e w9 ⟨rfl, hb9⟩; have hz := xx.below.trans (hb9.mono xx.below.size); first | exact ⟨rfl, ⟨w9, hz⟩, rfl⟩ | exact ⟨rfl, hz⟩ | exact ⟨rfl, w9, hz, rfl⟩)))
    refine wpQuiet_nil ?_
    intro _ hw'
    obtain ⟨xz, hw''⟩ := hw'
    subst hw''
    have HS7 := hide ((unhide HS6).later xz.below)
    obtain ⟨G2, hG2⟩ : ∃ G2, G2 = xz.world := ⟨_, rfl⟩
    rw [← hG2] at HS7 ⊢
    clear q0 q1 q2 q3 q4 q5 hG2 HS6 HXQ HQY
    go_wp2_with (go_at_call 23; go_must (refine (unhide HAW _ (unhide HS7).below).mono ?_; rintro e wz ⟨rfl, hbz⟩; have HZZ := hide ((unhide HS7).below.trans (hbz.mono (unhide HS7).below.size)); clear hbz))
    go_ret
    exact ⟨rfl, unhide HZZ⟩

theorem law_simplest (n1 d1 n2 d2 n3 d3 : ByteArray) (w : World) (htab : Tab w) (s1 : n1.size ≤ maxLen) (s2 : d1.size ≤ maxLen) (s3 : n2.size ≤ maxLen) (s4 : d2.size ≤ maxLen) (s5 : n3.size ≤ maxLen) (s6 : d3.size ≤ maxLen) :
    Calls Tryz.prog 15 #[.agg #[.string n1, .string d1], .agg #[.string n2, .string d2], .agg #[.string n3, .string d3]] w fun r w' => r = .returned (.bool true) ∧ Below w.heap.size w w' := by
  by_cases h : RightT n1 d1 ∧ RightT n2 d2 ∧ RightT n3 d3
  · obtain ⟨x, hx⟩ := (right_isR _ _).1 h.1
    obtain ⟨y, hy⟩ := (right_isR _ _).1 h.2.1
    obtain ⟨z, hz⟩ := (right_isR _ _).1 h.2.2
    by_cases hc : y < x
    · exact simplest_below n1 d1 n2 d2 n3 d3 w htab x y z hx hy hz hc
    · exact simplest_any n1 d1 n2 d2 n3 d3 w htab x y z hx hy hz hc
  · obtain ⟨p, hp, h1⟩ : ∃ p, (p = true ↔ RightT n1 d1) ∧ RB n1 d1 p := by
      by_cases k : RightT n1 d1
      · exact ⟨true, by simp [k], rb_yes s1 s2 k⟩
      · exact ⟨false, by simp [k], rb_no s1 s2 k⟩
    obtain ⟨p2, hp2, h2⟩ : ∃ p, (p = true ↔ RightT n2 d2) ∧ RB n2 d2 p := by
      by_cases k : RightT n2 d2
      · exact ⟨true, by simp [k], rb_yes s3 s4 k⟩
      · exact ⟨false, by simp [k], rb_no s3 s4 k⟩
    obtain ⟨p3, hp3, h3⟩ : ∃ p, (p = true ↔ RightT n3 d3) ∧ RB n3 d3 p := by
      by_cases k : RightT n3 d3
      · exact ⟨true, by simp [k], rb_yes s5 s6 k⟩
      · exact ⟨false, by simp [k], rb_no s5 s6 k⟩
    refine no15 n1 d1 n2 d2 n3 d3 p p2 p3 w htab h1 h2 h3 ?_
    rw [← hp, ← hp2, ← hp3] at h
    cases p <;> cases p2 <;> cases p3 <;> simp_all
end Go.Proofs.YtndhinoomlofgaaGreatDoor

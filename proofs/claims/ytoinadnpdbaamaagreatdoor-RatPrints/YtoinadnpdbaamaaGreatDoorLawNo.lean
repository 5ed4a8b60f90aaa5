/- The laws on three numbers where one is not right; RatOrdered whole. -/
import Derived.Test.YtoinadnpdbaamaaGreatDoorOrdered
namespace Go.Proofs.YtoinadnpdbaamaaGreatDoor
open Go.RowKit

/-- What the document's Right answers. -/
def RB (n d : ByteArray) (ok : Bool) : Prop := ∀ W, Calls Tryz.prog 18 #[.agg #[.string n, .string d]] W fun r w' => r = .returned (.bool ok) ∧ Below W.heap.size W w'
theorem rb_yes {n d : ByteArray} (s1 : n.size ≤ maxLen) (s2 : d.size ≤ maxLen) (h : RightT n d) : RB n d true := fun W => by
  obtain ⟨ok, hok, hc⟩ := refR_any n d W s1 s2
  rwa [hok.2 h] at hc
theorem rb_no {n d : ByteArray} (s1 : n.size ≤ maxLen) (s2 : d.size ≤ maxLen) (h : ¬ RightT n d) : RB n d false := fun W => by
  obtain ⟨ok, hok, hc⟩ := refR_any n d W s1 s2
  have : ok = false := by cases ok with
    | false => rfl
    | true => exact absurd (hok.1 rfl) h
  rwa [this] at hc

set_option maxRecDepth 100000 in
set_option maxHeartbeats 2000000 in
theorem no12 (n1 d1 n2 d2 n3 d3 : ByteArray) (ok1 ok2 ok3 : Bool) (w : World) (htab : Tab w) (h1 : RB n1 d1 ok1) (h2 : RB n2 d2 ok2) (h3 : RB n3 d3 ok3) (h : (ok1 && ok2 && ok3) = false) :
    Calls Tryz.prog 12 #[.agg #[.string n1, .string d1], .agg #[.string n2, .string d2], .agg #[.string n3, .string d3]] w fun r w' => r = .returned (.bool true) ∧ Below w.heap.size w w' := by
  obtain ⟨V, hV⟩ : ∃ V, V = (((w.alloc (.cells #[.string n1, .string d1] 23)).alloc (.cells #[.string n2, .string d2] 23)).alloc (.cells #[.string n3, .string d3] 23)) := ⟨_, rfl⟩
  have HS : Hid (L3 w V n1 d1 n2 d2 n3 d3 []) := by rw [hV]; exact L3.first _ _ _ _ _ _ _
  have HV := hide hV
  have HAW : Hid (∀ W, Below w.heap.size w W → Calls Tryz.prog 21 #[] W fun r w' => r = .returned (.bool true) ∧ Below W.heap.size W w') := fun W hb => awake_any W (htab.later hb)
  have HRA := hide h1; have HRB := hide h2; have HRC := hide h3
  clear h1 h2 h3 htab
  go_enter Tryz.func12, Tryz.ntmps12
  go_upto_region 1 with fail
  rw [← unhide HV]
  clear hV HV
  have a0 := (unhide HS).a.c0; have a1 := (unhide HS).a.c1; have b0 := (unhide HS).b.c0; have b1 := (unhide HS).b.c1; have e0 := (unhide HS).c.c0; have e1 := (unhide HS).c.c1
  rcases (by cases ok1 <;> cases ok2 <;> cases ok3 <;> simp_all : ok1 = false ∨ (ok1 = true ∧ ok2 = false) ∨ (ok1 = true ∧ ok2 = true ∧ ok3 = false)) with rfl | ⟨rfl, rfl⟩ | ⟨rfl, rfl, rfl⟩
  · clear h
    go_wp2_with (first
      | (go_at_call_of 18 (Value.agg #[Value.string n1, Value.string d1]); go_must (refine (unhide HRA _).mono ?_; rintro e w1 ⟨rfl, hb1⟩; have HS1 := hide ((unhide HS).later hb1); clear hb1 a0 a1 b0 b1 e0 e1; have a0 := (unhide HS1).a.c0; have a1 := (unhide HS1).a.c1; have b0 := (unhide HS1).b.c0; have b1 := (unhide HS1).b.c1; have e0 := (unhide HS1).c.c0; have e1 := (unhide HS1).c.c1))
      | (go_at_call 21; go_must (refine (unhide HAW _ (unhide HS1).below).mono ?_; rintro e wz ⟨rfl, hbz⟩; have HZZ := hide ((unhide HS1).below.trans (hbz.mono (unhide HS1).below.size)); clear hbz)))
    go_ret
    exact ⟨rfl, unhide HZZ⟩
  · clear h
    go_wp2_with (first
      | (go_at_call_of 18 (Value.agg #[Value.string n1, Value.string d1]); go_must (refine (unhide HRA _).mono ?_; rintro e w1 ⟨rfl, hb1⟩; have HS1 := hide ((unhide HS).later hb1); clear hb1 a0 a1 b0 b1 e0 e1; have a0 := (unhide HS1).a.c0; have a1 := (unhide HS1).a.c1; have b0 := (unhide HS1).b.c0; have b1 := (unhide HS1).b.c1; have e0 := (unhide HS1).c.c0; have e1 := (unhide HS1).c.c1))
      | (go_at_call_of 18 (Value.agg #[Value.string n2, Value.string d2]); go_must (refine (unhide HRB _).mono ?_; rintro e w2 ⟨rfl, hb1⟩; have HS2 := hide ((unhide HS1).later hb1); clear hb1 a0 a1 b0 b1 e0 e1; have a0 := (unhide HS2).a.c0; have a1 := (unhide HS2).a.c1; have b0 := (unhide HS2).b.c0; have b1 := (unhide HS2).b.c1; have e0 := (unhide HS2).c.c0; have e1 := (unhide HS2).c.c1))
      | (go_at_call 21; go_must (refine (unhide HAW _ (unhide HS2).below).mono ?_; rintro e wz ⟨rfl, hbz⟩; have HZZ := hide ((unhide HS2).below.trans (hbz.mono (unhide HS2).below.size)); clear hbz)))
    go_ret
    exact ⟨rfl, unhide HZZ⟩
  · clear h
    go_wp2_with (first
      | (go_at_call_of 18 (Value.agg #[Value.string n1, Value.string d1]); go_must (refine (unhide HRA _).mono ?_; rintro e w1 ⟨rfl, hb1⟩; have HS1 := hide ((unhide HS).later hb1); clear hb1 a0 a1 b0 b1 e0 e1; have a0 := (unhide HS1).a.c0; have a1 := (unhide HS1).a.c1; have b0 := (unhide HS1).b.c0; have b1 := (unhide HS1).b.c1; have e0 := (unhide HS1).c.c0; have e1 := (unhide HS1).c.c1))
      | (go_at_call_of 18 (Value.agg #[Value.string n2, Value.string d2]); go_must (refine (unhide HRB _).mono ?_; rintro e w2 ⟨rfl, hb1⟩; have HS2 := hide ((unhide HS1).later hb1); clear hb1 a0 a1 b0 b1 e0 e1; have a0 := (unhide HS2).a.c0; have a1 := (unhide HS2).a.c1; have b0 := (unhide HS2).b.c0; have b1 := (unhide HS2).b.c1; have e0 := (unhide HS2).c.c0; have e1 := (unhide HS2).c.c1))
      | (go_at_call_of 18 (Value.agg #[Value.string n3, Value.string d3]); go_must (refine (unhide HRC _).mono ?_; rintro e w3 ⟨rfl, hb1⟩; have HS3 := hide ((unhide HS2).later hb1); clear hb1 a0 a1 b0 b1 e0 e1; have a0 := (unhide HS3).a.c0; have a1 := (unhide HS3).a.c1; have b0 := (unhide HS3).b.c0; have b1 := (unhide HS3).b.c1; have e0 := (unhide HS3).c.c0; have e1 := (unhide HS3).c.c1))
      | (go_at_call 21; go_must (refine (unhide HAW _ (unhide HS3).below).mono ?_; rintro e wz ⟨rfl, hbz⟩; have HZZ := hide ((unhide HS3).below.trans (hbz.mono (unhide HS3).below.size)); clear hbz)))
    go_ret
    exact ⟨rfl, unhide HZZ⟩

set_option maxRecDepth 100000 in
set_option maxHeartbeats 2000000 in
theorem no11 (n1 d1 n2 d2 n3 d3 : ByteArray) (ok1 ok2 ok3 : Bool) (w : World) (htab : Tab w) (h1 : RB n1 d1 ok1) (h2 : RB n2 d2 ok2) (h3 : RB n3 d3 ok3) (h : (ok1 && ok2 && ok3) = false) :
    Calls Tryz.prog 11 #[.agg #[.string n1, .string d1], .agg #[.string n2, .string d2], .agg #[.string n3, .string d3]] w fun r w' => r = .returned (.bool true) ∧ Below w.heap.size w w' := by
  obtain ⟨V, hV⟩ : ∃ V, V = (((w.alloc (.cells #[.string n1, .string d1] 23)).alloc (.cells #[.string n2, .string d2] 23)).alloc (.cells #[.string n3, .string d3] 23)) := ⟨_, rfl⟩
  have HS : Hid (L3 w V n1 d1 n2 d2 n3 d3 []) := by rw [hV]; exact L3.first _ _ _ _ _ _ _
  have HV := hide hV
  have HAW : Hid (∀ W, Below w.heap.size w W → Calls Tryz.prog 21 #[] W fun r w' => r = .returned (.bool true) ∧ Below W.heap.size W w') := fun W hb => awake_any W (htab.later hb)
  have HRA := hide h1; have HRB := hide h2; have HRC := hide h3
  clear h1 h2 h3 htab
  go_enter Tryz.func11, Tryz.ntmps11
  go_upto_region 1 with fail
  rw [← unhide HV]
  clear hV HV
  have a0 := (unhide HS).a.c0; have a1 := (unhide HS).a.c1; have b0 := (unhide HS).b.c0; have b1 := (unhide HS).b.c1; have e0 := (unhide HS).c.c0; have e1 := (unhide HS).c.c1
  rcases (by cases ok1 <;> cases ok2 <;> cases ok3 <;> simp_all : ok1 = false ∨ (ok1 = true ∧ ok2 = false) ∨ (ok1 = true ∧ ok2 = true ∧ ok3 = false)) with rfl | ⟨rfl, rfl⟩ | ⟨rfl, rfl, rfl⟩
  · clear h
    go_wp2_with (first
      | (go_at_call_of 18 (Value.agg #[Value.string n1, Value.string d1]); go_must (refine (unhide HRA _).mono ?_; rintro e w1 ⟨rfl, hb1⟩; have HS1 := hide ((unhide HS).later hb1); clear hb1 a0 a1 b0 b1 e0 e1; have a0 := (unhide HS1).a.c0; have a1 := (unhide HS1).a.c1; have b0 := (unhide HS1).b.c0; have b1 := (unhide HS1).b.c1; have e0 := (unhide HS1).c.c0; have e1 := (unhide HS1).c.c1))
      | (go_at_call 21; go_must (refine (unhide HAW _ (unhide HS1).below).mono ?_; rintro e wz ⟨rfl, hbz⟩; have HZZ := hide ((unhide HS1).below.trans (hbz.mono (unhide HS1).below.size)); clear hbz)))
    go_ret
    exact ⟨rfl, unhide HZZ⟩
  · clear h
    go_wp2_with (first
      | (go_at_call_of 18 (Value.agg #[Value.string n1, Value.string d1]); go_must (refine (unhide HRA _).mono ?_; rintro e w1 ⟨rfl, hb1⟩; have HS1 := hide ((unhide HS).later hb1); clear hb1 a0 a1 b0 b1 e0 e1; have a0 := (unhide HS1).a.c0; have a1 := (unhide HS1).a.c1; have b0 := (unhide HS1).b.c0; have b1 := (unhide HS1).b.c1; have e0 := (unhide HS1).c.c0; have e1 := (unhide HS1).c.c1))
      | (go_at_call_of 18 (Value.agg #[Value.string n2, Value.string d2]); go_must (refine (unhide HRB _).mono ?_; rintro e w2 ⟨rfl, hb1⟩; have HS2 := hide ((unhide HS1).later hb1); clear hb1 a0 a1 b0 b1 e0 e1; have a0 := (unhide HS2).a.c0; have a1 := (unhide HS2).a.c1; have b0 := (unhide HS2).b.c0; have b1 := (unhide HS2).b.c1; have e0 := (unhide HS2).c.c0; have e1 := (unhide HS2).c.c1))
      | (go_at_call 21; go_must (refine (unhide HAW _ (unhide HS2).below).mono ?_; rintro e wz ⟨rfl, hbz⟩; have HZZ := hide ((unhide HS2).below.trans (hbz.mono (unhide HS2).below.size)); clear hbz)))
    go_ret
    exact ⟨rfl, unhide HZZ⟩
  · clear h
    go_wp2_with (first
      | (go_at_call_of 18 (Value.agg #[Value.string n1, Value.string d1]); go_must (refine (unhide HRA _).mono ?_; rintro e w1 ⟨rfl, hb1⟩; have HS1 := hide ((unhide HS).later hb1); clear hb1 a0 a1 b0 b1 e0 e1; have a0 := (unhide HS1).a.c0; have a1 := (unhide HS1).a.c1; have b0 := (unhide HS1).b.c0; have b1 := (unhide HS1).b.c1; have e0 := (unhide HS1).c.c0; have e1 := (unhide HS1).c.c1))
      | (go_at_call_of 18 (Value.agg #[Value.string n2, Value.string d2]); go_must (refine (unhide HRB _).mono ?_; rintro e w2 ⟨rfl, hb1⟩; have HS2 := hide ((unhide HS1).later hb1); clear hb1 a0 a1 b0 b1 e0 e1; have a0 := (unhide HS2).a.c0; have a1 := (unhide HS2).a.c1; have b0 := (unhide HS2).b.c0; have b1 := (unhide HS2).b.c1; have e0 := (unhide HS2).c.c0; have e1 := (unhide HS2).c.c1))
      | (go_at_call_of 18 (Value.agg #[Value.string n3, Value.string d3]); go_must (refine (unhide HRC _).mono ?_; rintro e w3 ⟨rfl, hb1⟩; have HS3 := hide ((unhide HS2).later hb1); clear hb1 a0 a1 b0 b1 e0 e1; have a0 := (unhide HS3).a.c0; have a1 := (unhide HS3).a.c1; have b0 := (unhide HS3).b.c0; have b1 := (unhide HS3).b.c1; have e0 := (unhide HS3).c.c0; have e1 := (unhide HS3).c.c1))
      | (go_at_call 21; go_must (refine (unhide HAW _ (unhide HS3).below).mono ?_; rintro e wz ⟨rfl, hbz⟩; have HZZ := hide ((unhide HS3).below.trans (hbz.mono (unhide HS3).below.size)); clear hbz)))
    go_ret
    exact ⟨rfl, unhide HZZ⟩

theorem law_ordered (n1 d1 n2 d2 n3 d3 : ByteArray) (w : World) (htab : Tab w) (s1 : n1.size ≤ maxLen) (s2 : d1.size ≤ maxLen) (s3 : n2.size ≤ maxLen) (s4 : d2.size ≤ maxLen) (s5 : n3.size ≤ maxLen) (s6 : d3.size ≤ maxLen) :
    Calls Tryz.prog 12 #[.agg #[.string n1, .string d1], .agg #[.string n2, .string d2], .agg #[.string n3, .string d3]] w fun r w' => r = .returned (.bool true) ∧ Below w.heap.size w w' := by
  by_cases h1 : RightT n1 d1
  · by_cases h2 : RightT n2 d2
    · by_cases h3 : RightT n3 d3
      · obtain ⟨x, hx⟩ := (right_isR _ _).1 h1
        obtain ⟨y, hy⟩ := (right_isR _ _).1 h2
        obtain ⟨z, hz⟩ := (right_isR _ _).1 h3
        exact ordered_any n1 d1 n2 d2 n3 d3 w htab x y z hx hy hz
      · exact no12 n1 d1 n2 d2 n3 d3 true true false w htab (rb_yes s1 s2 h1) (rb_yes s3 s4 h2) (rb_no s5 s6 h3) rfl
    · by_cases h3 : RightT n3 d3
      · exact no12 n1 d1 n2 d2 n3 d3 true false true w htab (rb_yes s1 s2 h1) (rb_no s3 s4 h2) (rb_yes s5 s6 h3) rfl
      · exact no12 n1 d1 n2 d2 n3 d3 true false false w htab (rb_yes s1 s2 h1) (rb_no s3 s4 h2) (rb_no s5 s6 h3) rfl
  · by_cases h2 : RightT n2 d2
    · by_cases h3 : RightT n3 d3
      · exact no12 n1 d1 n2 d2 n3 d3 false true true w htab (rb_no s1 s2 h1) (rb_yes s3 s4 h2) (rb_yes s5 s6 h3) rfl
      · exact no12 n1 d1 n2 d2 n3 d3 false true false w htab (rb_no s1 s2 h1) (rb_yes s3 s4 h2) (rb_no s5 s6 h3) rfl
    · by_cases h3 : RightT n3 d3
      · exact no12 n1 d1 n2 d2 n3 d3 false false true w htab (rb_no s1 s2 h1) (rb_no s3 s4 h2) (rb_yes s5 s6 h3) rfl
      · exact no12 n1 d1 n2 d2 n3 d3 false false false w htab (rb_no s1 s2 h1) (rb_no s3 s4 h2) (rb_no s5 s6 h3) rfl
end Go.Proofs.YtoinadnpdbaamaaGreatDoor

/- The document's Add, Sub, Mul, Quo: the ways out. -/
import Derived.Test.YtoinadnpdbaamaaGreatDoorRefOk
import Derived.Test.YtoinadnpdbaamaaGreatDoorQuo
namespace Go.Proofs.YtoinadnpdbaamaaGreatDoor
open Go.RowKit

set_option maxRecDepth 100000 in
set_option maxHeartbeats 2000000 in
theorem refAdd_no (n1 d1 n2 d2 : ByteArray) (p q : Bool) (w : World)
    (h18a : ∀ W, Calls Tryz.prog 18 #[.agg #[.string n1, .string d1]] W fun r w' => r = .returned (.bool p) ∧ Below W.heap.size W w')
    (h18b : ∀ W, Calls Tryz.prog 18 #[.agg #[.string n2, .string d2]] W fun r w' => r = .returned (.bool q) ∧ Below W.heap.size W w')
    (h : (p && q) = false) : Ans 29 #[.agg #[.string n1, .string d1], .agg #[.string n2, .string d2]] w ⟨#[]⟩ ⟨#[]⟩ 3 := by
  unfold Ans
  obtain ⟨V, hV⟩ : ∃ V, V = ((w.alloc (.cells #[.string n1, .string d1] 23)).alloc (.cells #[.string n2, .string d2] 23)).alloc (.cells #[.string ⟨#[]⟩, .string ⟨#[]⟩] 23) := ⟨_, rfl⟩
  have HS : Hid (O3 w V (.string n1) (.string d1) (.string n2) (.string d2)) := by rw [hV]; exact O3.first _ _ _ _ _
  have HV := hide hV
  have HA := hide h18a
  have HB := hide h18b
  clear h18a h18b
  go_enter Tryz.func29, Tryz.ntmps29
  go_upto_region 1 with fail
  rw [← unhide HV]
  clear hV HV
  have t0 := (unhide HS).a.c0; have t1 := (unhide HS).a.c1; have t2 := (unhide HS).b.c0; have t3 := (unhide HS).b.c1
  cases p with
  | false =>
    clear h HB
    go_wp2_with (go_at_call_of 18 n1; go_must (refine (unhide HA _).mono ?_; rintro e wa ⟨rfl, hba⟩; have HSA := hide ((unhide HS).later hba); clear hba t0 t1 t2 t3; have t2 := (unhide HSA).b.c0; have t3 := (unhide HSA).b.c1; have r0 := (unhide HSA).r.c0; have r1 := (unhide HSA).r.c1; have rf0 := (unhide HSA).r.f0; have rf1 := (unhide HSA).r.f1))
    have hS := (unhide HSA).r.store (.string ⟨#[]⟩) (.string ⟨#[]⟩)
    have hb : Below w.heap.size w (store2 wa (w.heap.size + 1 + 1) (.string ⟨#[]⟩) (.string ⟨#[]⟩)) := below_store2 (unhide HSA).below (by omega) _ _
    have u0 := hS.c0; have u1 := hS.c1
    exact bodyPost_ret (v := .tuple #[.agg #[.string ⟨#[]⟩, .string ⟨#[]⟩], .int .i64 3]) (w := store2 wa (w.heap.size + 1 + 1) (.string ⟨#[]⟩) (.string ⟨#[]⟩)) (by simp [results, Tryz.results29, go_sem, u0, u1]) rfl ⟨rfl, hb⟩
  | true =>
    cases q with
    | true => cases h
    | false =>
      clear h
      go_wp2_with (first | (go_at_call_of 18 n1; go_must (refine (unhide HA _).mono ?_; rintro e wa ⟨rfl, hba⟩; have HSA := hide ((unhide HS).later hba); clear hba t0 t1 t2 t3; have t2 := (unhide HSA).b.c0; have t3 := (unhide HSA).b.c1; have r0 := (unhide HSA).r.c0; have r1 := (unhide HSA).r.c1; have rf0 := (unhide HSA).r.f0; have rf1 := (unhide HSA).r.f1)) | (go_at_call_of 18 n2; go_must (refine (unhide HB _).mono ?_; rintro e wb ⟨rfl, hbb⟩; have HSB := hide ((unhide HSA).later hbb); clear hbb t2 t3 r0 r1 rf0 rf1; have t2 := (unhide HSB).b.c0; have r0 := (unhide HSB).r.c0; have r1 := (unhide HSB).r.c1; have rf0 := (unhide HSB).r.f0; have rf1 := (unhide HSB).r.f1)))
      have hS := (unhide HSB).r.store (.string ⟨#[]⟩) (.string ⟨#[]⟩)
      have hb : Below w.heap.size w (store2 wb (w.heap.size + 1 + 1) (.string ⟨#[]⟩) (.string ⟨#[]⟩)) := below_store2 (unhide HSB).below (by omega) _ _
      have u0 := hS.c0; have u1 := hS.c1
      exact bodyPost_ret (v := .tuple #[.agg #[.string ⟨#[]⟩, .string ⟨#[]⟩], .int .i64 3]) (w := store2 wb (w.heap.size + 1 + 1) (.string ⟨#[]⟩) (.string ⟨#[]⟩)) (by simp [results, Tryz.results29, go_sem, u0, u1]) rfl ⟨rfl, hb⟩

set_option maxRecDepth 100000 in
set_option maxHeartbeats 2000000 in
theorem refSub_no (n1 d1 n2 d2 : ByteArray) (p q : Bool) (w : World)
    (h18a : ∀ W, Calls Tryz.prog 18 #[.agg #[.string n1, .string d1]] W fun r w' => r = .returned (.bool p) ∧ Below W.heap.size W w')
    (h18b : ∀ W, Calls Tryz.prog 18 #[.agg #[.string n2, .string d2]] W fun r w' => r = .returned (.bool q) ∧ Below W.heap.size W w')
    (h : (p && q) = false) : Ans 31 #[.agg #[.string n1, .string d1], .agg #[.string n2, .string d2]] w ⟨#[]⟩ ⟨#[]⟩ 3 := by
  unfold Ans
  obtain ⟨V, hV⟩ : ∃ V, V = ((w.alloc (.cells #[.string n1, .string d1] 23)).alloc (.cells #[.string n2, .string d2] 23)).alloc (.cells #[.string ⟨#[]⟩, .string ⟨#[]⟩] 23) := ⟨_, rfl⟩
  have HS : Hid (O3 w V (.string n1) (.string d1) (.string n2) (.string d2)) := by rw [hV]; exact O3.first _ _ _ _ _
  have HV := hide hV
  have HA := hide h18a
  have HB := hide h18b
  clear h18a h18b
  go_enter Tryz.func31, Tryz.ntmps31
  go_upto_region 1 with fail
  rw [← unhide HV]
  clear hV HV
  have t0 := (unhide HS).a.c0; have t1 := (unhide HS).a.c1; have t2 := (unhide HS).b.c0; have t3 := (unhide HS).b.c1
  cases p with
  | false =>
    clear h HB
    go_wp2_with (go_at_call_of 18 n1; go_must (refine (unhide HA _).mono ?_; rintro e wa ⟨rfl, hba⟩; have HSA := hide ((unhide HS).later hba); clear hba t0 t1 t2 t3; have t2 := (unhide HSA).b.c0; have t3 := (unhide HSA).b.c1; have r0 := (unhide HSA).r.c0; have r1 := (unhide HSA).r.c1; have rf0 := (unhide HSA).r.f0; have rf1 := (unhide HSA).r.f1))
    have hS := (unhide HSA).r.store (.string ⟨#[]⟩) (.string ⟨#[]⟩)
    have hb : Below w.heap.size w (store2 wa (w.heap.size + 1 + 1) (.string ⟨#[]⟩) (.string ⟨#[]⟩)) := below_store2 (unhide HSA).below (by omega) _ _
    have u0 := hS.c0; have u1 := hS.c1
    exact bodyPost_ret (v := .tuple #[.agg #[.string ⟨#[]⟩, .string ⟨#[]⟩], .int .i64 3]) (w := store2 wa (w.heap.size + 1 + 1) (.string ⟨#[]⟩) (.string ⟨#[]⟩)) (by simp [results, Tryz.results31, go_sem, u0, u1]) rfl ⟨rfl, hb⟩
  | true =>
    cases q with
    | true => cases h
    | false =>
      clear h
      go_wp2_with (first | (go_at_call_of 18 n1; go_must (refine (unhide HA _).mono ?_; rintro e wa ⟨rfl, hba⟩; have HSA := hide ((unhide HS).later hba); clear hba t0 t1 t2 t3; have t2 := (unhide HSA).b.c0; have t3 := (unhide HSA).b.c1; have r0 := (unhide HSA).r.c0; have r1 := (unhide HSA).r.c1; have rf0 := (unhide HSA).r.f0; have rf1 := (unhide HSA).r.f1)) | (go_at_call_of 18 n2; go_must (refine (unhide HB _).mono ?_; rintro e wb ⟨rfl, hbb⟩; have HSB := hide ((unhide HSA).later hbb); clear hbb t2 t3 r0 r1 rf0 rf1; have t2 := (unhide HSB).b.c0; have r0 := (unhide HSB).r.c0; have r1 := (unhide HSB).r.c1; have rf0 := (unhide HSB).r.f0; have rf1 := (unhide HSB).r.f1)))
      have hS := (unhide HSB).r.store (.string ⟨#[]⟩) (.string ⟨#[]⟩)
      have hb : Below w.heap.size w (store2 wb (w.heap.size + 1 + 1) (.string ⟨#[]⟩) (.string ⟨#[]⟩)) := below_store2 (unhide HSB).below (by omega) _ _
      have u0 := hS.c0; have u1 := hS.c1
      exact bodyPost_ret (v := .tuple #[.agg #[.string ⟨#[]⟩, .string ⟨#[]⟩], .int .i64 3]) (w := store2 wb (w.heap.size + 1 + 1) (.string ⟨#[]⟩) (.string ⟨#[]⟩)) (by simp [results, Tryz.results31, go_sem, u0, u1]) rfl ⟨rfl, hb⟩

set_option maxRecDepth 100000 in
set_option maxHeartbeats 2000000 in
theorem refMul_no (n1 d1 n2 d2 : ByteArray) (p q : Bool) (w : World)
    (h18a : ∀ W, Calls Tryz.prog 18 #[.agg #[.string n1, .string d1]] W fun r w' => r = .returned (.bool p) ∧ Below W.heap.size W w')
    (h18b : ∀ W, Calls Tryz.prog 18 #[.agg #[.string n2, .string d2]] W fun r w' => r = .returned (.bool q) ∧ Below W.heap.size W w')
    (h : (p && q) = false) : Ans 33 #[.agg #[.string n1, .string d1], .agg #[.string n2, .string d2]] w ⟨#[]⟩ ⟨#[]⟩ 3 := by
  unfold Ans
  obtain ⟨V, hV⟩ : ∃ V, V = ((w.alloc (.cells #[.string n1, .string d1] 23)).alloc (.cells #[.string n2, .string d2] 23)).alloc (.cells #[.string ⟨#[]⟩, .string ⟨#[]⟩] 23) := ⟨_, rfl⟩
  have HS : Hid (O3 w V (.string n1) (.string d1) (.string n2) (.string d2)) := by rw [hV]; exact O3.first _ _ _ _ _
  have HV := hide hV
  have HA := hide h18a
  have HB := hide h18b
  clear h18a h18b
  go_enter Tryz.func33, Tryz.ntmps33
  go_upto_region 1 with fail
  rw [← unhide HV]
  clear hV HV
  have t0 := (unhide HS).a.c0; have t1 := (unhide HS).a.c1; have t2 := (unhide HS).b.c0; have t3 := (unhide HS).b.c1
  cases p with
  | false =>
    clear h HB
    go_wp2_with (go_at_call_of 18 n1; go_must (refine (unhide HA _).mono ?_; rintro e wa ⟨rfl, hba⟩; have HSA := hide ((unhide HS).later hba); clear hba t0 t1 t2 t3; have t2 := (unhide HSA).b.c0; have t3 := (unhide HSA).b.c1; have r0 := (unhide HSA).r.c0; have r1 := (unhide HSA).r.c1; have rf0 := (unhide HSA).r.f0; have rf1 := (unhide HSA).r.f1))
    have hS := (unhide HSA).r.store (.string ⟨#[]⟩) (.string ⟨#[]⟩)
    have hb : Below w.heap.size w (store2 wa (w.heap.size + 1 + 1) (.string ⟨#[]⟩) (.string ⟨#[]⟩)) := below_store2 (unhide HSA).below (by omega) _ _
    have u0 := hS.c0; have u1 := hS.c1
    exact bodyPost_ret (v := .tuple #[.agg #[.string ⟨#[]⟩, .string ⟨#[]⟩], .int .i64 3]) (w := store2 wa (w.heap.size + 1 + 1) (.string ⟨#[]⟩) (.string ⟨#[]⟩)) (by simp [results, Tryz.results33, go_sem, u0, u1]) rfl ⟨rfl, hb⟩
  | true =>
    cases q with
    | true => cases h
    | false =>
      clear h
      go_wp2_with (first | (go_at_call_of 18 n1; go_must (refine (unhide HA _).mono ?_; rintro e wa ⟨rfl, hba⟩; have HSA := hide ((unhide HS).later hba); clear hba t0 t1 t2 t3; have t2 := (unhide HSA).b.c0; have t3 := (unhide HSA).b.c1; have r0 := (unhide HSA).r.c0; have r1 := (unhide HSA).r.c1; have rf0 := (unhide HSA).r.f0; have rf1 := (unhide HSA).r.f1)) | (go_at_call_of 18 n2; go_must (refine (unhide HB _).mono ?_; rintro e wb ⟨rfl, hbb⟩; have HSB := hide ((unhide HSA).later hbb); clear hbb t2 t3 r0 r1 rf0 rf1; have t2 := (unhide HSB).b.c0; have r0 := (unhide HSB).r.c0; have r1 := (unhide HSB).r.c1; have rf0 := (unhide HSB).r.f0; have rf1 := (unhide HSB).r.f1)))
      have hS := (unhide HSB).r.store (.string ⟨#[]⟩) (.string ⟨#[]⟩)
      have hb : Below w.heap.size w (store2 wb (w.heap.size + 1 + 1) (.string ⟨#[]⟩) (.string ⟨#[]⟩)) := below_store2 (unhide HSB).below (by omega) _ _
      have u0 := hS.c0; have u1 := hS.c1
      exact bodyPost_ret (v := .tuple #[.agg #[.string ⟨#[]⟩, .string ⟨#[]⟩], .int .i64 3]) (w := store2 wb (w.heap.size + 1 + 1) (.string ⟨#[]⟩) (.string ⟨#[]⟩)) (by simp [results, Tryz.results33, go_sem, u0, u1]) rfl ⟨rfl, hb⟩

set_option maxRecDepth 100000 in
set_option maxHeartbeats 2000000 in
theorem refQuo_no (n1 d1 n2 d2 : ByteArray) (p q : Bool) (w : World)
    (h18a : ∀ W, Calls Tryz.prog 18 #[.agg #[.string n1, .string d1]] W fun r w' => r = .returned (.bool p) ∧ Below W.heap.size W w')
    (h18b : ∀ W, Calls Tryz.prog 18 #[.agg #[.string n2, .string d2]] W fun r w' => r = .returned (.bool q) ∧ Below W.heap.size W w')
    (h : (p && q) = false) : Ans 35 #[.agg #[.string n1, .string d1], .agg #[.string n2, .string d2]] w ⟨#[]⟩ ⟨#[]⟩ 3 := by
  unfold Ans
  obtain ⟨V, hV⟩ : ∃ V, V = ((w.alloc (.cells #[.string n1, .string d1] 23)).alloc (.cells #[.string n2, .string d2] 23)).alloc (.cells #[.string ⟨#[]⟩, .string ⟨#[]⟩] 23) := ⟨_, rfl⟩
  have HS : Hid (O3 w V (.string n1) (.string d1) (.string n2) (.string d2)) := by rw [hV]; exact O3.first _ _ _ _ _
  have HV := hide hV
  have HA := hide h18a
  have HB := hide h18b
  clear h18a h18b
  go_enter Tryz.func35, Tryz.ntmps35
  go_upto_region 1 with fail
  rw [← unhide HV]
  clear hV HV
  have t0 := (unhide HS).a.c0; have t1 := (unhide HS).a.c1; have t2 := (unhide HS).b.c0; have t3 := (unhide HS).b.c1
  cases p with
  | false =>
    clear h HB
    go_wp2_with (go_at_call_of 18 n1; go_must (refine (unhide HA _).mono ?_; rintro e wa ⟨rfl, hba⟩; have HSA := hide ((unhide HS).later hba); clear hba t0 t1 t2 t3; have t2 := (unhide HSA).b.c0; have t3 := (unhide HSA).b.c1; have r0 := (unhide HSA).r.c0; have r1 := (unhide HSA).r.c1; have rf0 := (unhide HSA).r.f0; have rf1 := (unhide HSA).r.f1))
    have hS := (unhide HSA).r.store (.string ⟨#[]⟩) (.string ⟨#[]⟩)
    have hb : Below w.heap.size w (store2 wa (w.heap.size + 1 + 1) (.string ⟨#[]⟩) (.string ⟨#[]⟩)) := below_store2 (unhide HSA).below (by omega) _ _
    have u0 := hS.c0; have u1 := hS.c1
    exact bodyPost_ret (v := .tuple #[.agg #[.string ⟨#[]⟩, .string ⟨#[]⟩], .int .i64 3]) (w := store2 wa (w.heap.size + 1 + 1) (.string ⟨#[]⟩) (.string ⟨#[]⟩)) (by simp [results, Tryz.results35, go_sem, u0, u1]) rfl ⟨rfl, hb⟩
  | true =>
    cases q with
    | true => cases h
    | false =>
      clear h
      go_wp2_with (first | (go_at_call_of 18 n1; go_must (refine (unhide HA _).mono ?_; rintro e wa ⟨rfl, hba⟩; have HSA := hide ((unhide HS).later hba); clear hba t0 t1 t2 t3; have t2 := (unhide HSA).b.c0; have t3 := (unhide HSA).b.c1; have r0 := (unhide HSA).r.c0; have r1 := (unhide HSA).r.c1; have rf0 := (unhide HSA).r.f0; have rf1 := (unhide HSA).r.f1)) | (go_at_call_of 18 n2; go_must (refine (unhide HB _).mono ?_; rintro e wb ⟨rfl, hbb⟩; have HSB := hide ((unhide HSA).later hbb); clear hbb t2 t3 r0 r1 rf0 rf1; have t2 := (unhide HSB).b.c0; have r0 := (unhide HSB).r.c0; have r1 := (unhide HSB).r.c1; have rf0 := (unhide HSB).r.f0; have rf1 := (unhide HSB).r.f1)))
      have hS := (unhide HSB).r.store (.string ⟨#[]⟩) (.string ⟨#[]⟩)
      have hb : Below w.heap.size w (store2 wb (w.heap.size + 1 + 1) (.string ⟨#[]⟩) (.string ⟨#[]⟩)) := below_store2 (unhide HSB).below (by omega) _ _
      have u0 := hS.c0; have u1 := hS.c1
      exact bodyPost_ret (v := .tuple #[.agg #[.string ⟨#[]⟩, .string ⟨#[]⟩], .int .i64 3]) (w := store2 wb (w.heap.size + 1 + 1) (.string ⟨#[]⟩) (.string ⟨#[]⟩)) (by simp [results, Tryz.results35, go_sem, u0, u1]) rfl ⟨rfl, hb⟩

set_option maxRecDepth 100000 in
set_option maxHeartbeats 2000000 in
theorem refQuo_zero (n1 d1 n2 d2 : ByteArray) (p q : Bool) (w : World)
    (h18a : ∀ W, Calls Tryz.prog 18 #[.agg #[.string n1, .string d1]] W fun r w' => r = .returned (.bool p) ∧ Below W.heap.size W w')
    (h18b : ∀ W, Calls Tryz.prog 18 #[.agg #[.string n2, .string d2]] W fun r w' => r = .returned (.bool q) ∧ Below W.heap.size W w')
    (h1 : p = true) (h2 : q = true) (hz : (n2.toList == [48]) = true) : Ans 35 #[.agg #[.string n1, .string d1], .agg #[.string n2, .string d2]] w ⟨#[]⟩ ⟨#[]⟩ 8 := by
  unfold Ans
  obtain ⟨V, hV⟩ : ∃ V, V = ((w.alloc (.cells #[.string n1, .string d1] 23)).alloc (.cells #[.string n2, .string d2] 23)).alloc (.cells #[.string ⟨#[]⟩, .string ⟨#[]⟩] 23) := ⟨_, rfl⟩
  have HS : Hid (O3 w V (.string n1) (.string d1) (.string n2) (.string d2)) := by rw [hV]; exact O3.first _ _ _ _ _
  have HV := hide hV
  have HA := hide h18a
  have HB := hide h18b
  clear h18a h18b
  go_enter Tryz.func35, Tryz.ntmps35
  go_upto_region 1 with fail
  rw [← unhide HV]
  clear hV HV
  have t0 := (unhide HS).a.c0; have t1 := (unhide HS).a.c1; have t2 := (unhide HS).b.c0; have t3 := (unhide HS).b.c1
  subst h1 h2
  go_wp2_with (first | (go_at_call_of 18 n1; go_must (refine (unhide HA _).mono ?_; rintro e wa ⟨rfl, hba⟩; have HSA := hide ((unhide HS).later hba); clear hba t0 t1 t2 t3; have t2 := (unhide HSA).b.c0; have t3 := (unhide HSA).b.c1; have r0 := (unhide HSA).r.c0; have r1 := (unhide HSA).r.c1; have rf0 := (unhide HSA).r.f0; have rf1 := (unhide HSA).r.f1)) | (go_at_call_of 18 n2; go_must (refine (unhide HB _).mono ?_; rintro e wb ⟨rfl, hbb⟩; have HSB := hide ((unhide HSA).later hbb); clear hbb t2 t3 r0 r1 rf0 rf1; have t2 := (unhide HSB).b.c0; have r0 := (unhide HSB).r.c0; have r1 := (unhide HSB).r.c1; have rf0 := (unhide HSB).r.f0; have rf1 := (unhide HSB).r.f1)))
  have hS := (unhide HSB).r.store (.string ⟨#[]⟩) (.string ⟨#[]⟩)
  have hb : Below w.heap.size w (store2 wb (w.heap.size + 1 + 1) (.string ⟨#[]⟩) (.string ⟨#[]⟩)) := below_store2 (unhide HSB).below (by omega) _ _
  have u0 := hS.c0; have u1 := hS.c1
  exact bodyPost_ret (v := .tuple #[.agg #[.string ⟨#[]⟩, .string ⟨#[]⟩], .int .i64 8]) (w := store2 wb (w.heap.size + 1 + 1) (.string ⟨#[]⟩) (.string ⟨#[]⟩)) (by simp [results, Tryz.results35, go_sem, u0, u1]) rfl ⟨rfl, hb⟩

end Go.Proofs.YtoinadnpdbaamaaGreatDoor

namespace Go.Proofs.YtoinadnpdbaamaaGreatDoor
open Go.RowKit

set_option maxRecDepth 100000 in
set_option maxHeartbeats 2000000 in
theorem refNeg_walk (n1 d1 s t : ByteArray) (er : Int) (p : Bool) (va vr : Value) (w : World)
    (h18 : ∀ W, Calls Tryz.prog 18 #[.agg #[.string n1, .string d1]] W fun r w' => r = .returned (.bool p) ∧ Below W.heap.size W w')
    (h : (p = false ∧ s = ⟨#[]⟩ ∧ t = ⟨#[]⟩ ∧ er = 3) ∨ (p = true ∧ (∀ W, Calls Tryz.prog 62 #[.agg #[.string n1, .string d1]] W fun r w' => r = .returned va ∧ Below W.heap.size W w') ∧ (∀ W, Calls Tryz.prog 63 #[va] W fun r w' => r = .returned vr ∧ Below W.heap.size W w') ∧ ∀ W, Calls Tryz.prog 74 #[vr] W fun r w' => r = .returned (.tuple #[.agg #[.string s, .string t], .int .i64 er]) ∧ Below W.heap.size W w')) :
    Ans 37 #[.agg #[.string n1, .string d1]] w s t er := by
  unfold Ans
  obtain ⟨V, hV⟩ : ∃ V, V = (w.alloc (.cells #[.string n1, .string d1] 23)).alloc (.cells #[.string ⟨#[]⟩, .string ⟨#[]⟩] 23) := ⟨_, rfl⟩
  have hbV : Below w.heap.size w V := by rw [hV]; exact ((Below.refl _ _).alloc (Nat.le_refl _) _).alloc (by simp) _
  have HT : Hid (T2 V w.heap.size (.string n1) (.string d1)) := by rw [hV]; exact ⟨by simp [go_sem], by simp [go_sem], by simp [go_sem], by simp [go_sem]⟩
  have HR : Hid (T2 V (w.heap.size + 1) (.string ⟨#[]⟩) (.string ⟨#[]⟩)) := by rw [hV]; exact ⟨by simp [go_sem], by simp [go_sem], by simp [go_sem], by simp [go_sem]⟩
  have HL : Hid (∀ w', Below V.heap.size V w' → T2 w' w.heap.size (.string n1) (.string d1) ∧ T2 w' (w.heap.size + 1) (.string ⟨#[]⟩) (.string ⟨#[]⟩) ∧ Below w.heap.size w w') := fun U hb => ⟨(unhide HT).later hb, (unhide HR).later hb, hbV.trans (hb.mono hbV.size)⟩
  have HV := hide hV
  have HA := hide h18
  clear h18 hbV HT HR
  have t0 := (unhide HL V (Below.refl _ _)).1.c0
  have t1 := (unhide HL V (Below.refl _ _)).1.c1
  go_enter Tryz.func37, Tryz.ntmps37
  go_upto_region 1 with fail
  rw [← unhide HV]
  clear hV HV
  rcases h with ⟨rfl, rfl, rfl, rfl⟩ | ⟨rfl, h1, h2, h3⟩
  · go_wp2_with (go_at_call 18; go_must (refine (unhide HA _).mono ?_; rintro e wa ⟨rfl, hba⟩; have HLA := hide (unhide HL wa hba); clear hba t0 t1; have r0 := (unhide HLA).2.1.c0; have r1 := (unhide HLA).2.1.c1; have rf0 := (unhide HLA).2.1.f0; have rf1 := (unhide HLA).2.1.f1))
    have hS := (unhide HLA).2.1.store (.string ⟨#[]⟩) (.string ⟨#[]⟩)
    have hb : Below w.heap.size w (store2 wa (w.heap.size + 1) (.string ⟨#[]⟩) (.string ⟨#[]⟩)) := below_store2 (unhide HLA).2.2 (by omega) _ _
    have u0 := hS.c0; have u1 := hS.c1
    exact bodyPost_ret (v := .tuple #[.agg #[.string ⟨#[]⟩, .string ⟨#[]⟩], .int .i64 3]) (w := store2 wa (w.heap.size + 1) (.string ⟨#[]⟩) (.string ⟨#[]⟩)) (by simp [results, Tryz.results37, go_sem, u0, u1]) rfl ⟨rfl, hb⟩
  · have H1 := hide h1
    have H2 := hide h2
    have H3 := hide h3
    clear h1 h2 h3
    go_wp2_with (first
      | (go_at_call 18; go_must (refine (unhide HA _).mono ?_; rintro e wa ⟨rfl, hba⟩; have HBA := hide hba; have HLA := hide (unhide HL wa hba); clear hba t0 t1; have t0 := (unhide HLA).1.c0; have t1 := (unhide HLA).1.c1))
      | (go_at_call 62; go_must (refine (unhide H1 _).mono ?_; rintro e wb ⟨rfl, hbb⟩; have HBB := hide ((unhide HBA).trans (hbb.mono (unhide HBA).size)); clear hbb t0 t1))
      | (go_at_call 63; go_must (refine (unhide H2 _).mono ?_; rintro e wc ⟨rfl, hbc⟩; have HBC := hide ((unhide HBB).trans (hbc.mono (unhide HBB).size)); clear hbc))
      | (go_at_call 74; go_must (refine (unhide H3 _).mono ?_; rintro e wd ⟨rfl, hbd⟩; have HBD := hide ((unhide HBC).trans (hbd.mono (unhide HBC).size)); have HLD := hide (unhide HL wd (unhide HBD)); clear hbd; have r0 := (unhide HLD).2.1.c0; have r1 := (unhide HLD).2.1.c1; have rf0 := (unhide HLD).2.1.f0; have rf1 := (unhide HLD).2.1.f1)))
    have hS := (unhide HLD).2.1.store (.string s) (.string t)
    have hb : Below w.heap.size w (store2 wd (w.heap.size + 1) (.string s) (.string t)) := below_store2 (unhide HLD).2.2 (by omega) _ _
    have u0 := hS.c0; have u1 := hS.c1
    exact bodyPost_ret (v := .tuple #[.agg #[.string s, .string t], .int .i64 er]) (w := store2 wd (w.heap.size + 1) (.string s) (.string t)) (by simp [results, Tryz.results37, go_sem, u0, u1]) rfl ⟨rfl, hb⟩
theorem refNeg_ok (n1 d1 : ByteArray) (x : Rat) (w : World) (h1 : IsR n1 d1 x) : Ans 37 #[.agg #[.string n1, .string d1]] w (numT (-x)) (denT (-x)) (errT (-x)) :=
  refNeg_walk n1 d1 _ _ _ true (fx x) (fx (-x)) w (ref18_yes h1) (Or.inr ⟨rfl, fun W => refRead n1 d1 x W h1, fun W => refFMinus x W, fun W => refToldQ 600 (-x) W (by omega) (by omega) (bd_neg h1.bd)⟩)

end Go.Proofs.YtoinadnpdbaamaaGreatDoor

namespace Go.Proofs.YtoinadnpdbaamaaGreatDoor
open Go.RowKit

set_option maxRecDepth 100000 in
set_option maxHeartbeats 2000000 in
theorem rinv_ok (n1 d1 : ByteArray) (x : Rat) (w : World) (h1 : IsR n1 d1 x) (hx0 : x ≠ 0) (htab : Tab w) : Ans 38 #[.agg #[.string n1, .string d1]] w (numT x⁻¹) (denT x⁻¹) (errT x⁻¹) := by
  unfold Ans
  obtain ⟨V, hV⟩ : ∃ V, V = (w.alloc (.cells #[.string n1, .string d1] 23)).alloc (.cells #[.string ⟨#[]⟩, .string ⟨#[]⟩] 23) := ⟨_, rfl⟩
  have HS : Hid (N1 w V (.string n1) (.string d1)) := by rw [hV]; exact N1.first _ _ _
  have HV := hide hV
  have HR := hide (qread n1 d1 x V h1)
  have HT := hide (htab.later (unhide HS).below)
  have hz := cmp_zero x hx0
  have HX0 := hide hx0
  clear h1 htab hx0
  go_enter Tryz.func38, Tryz.ntmps38
  go_upto_region 1 with fail
  rw [← unhide HV]
  clear hV HV
  have t0 := (unhide HS).a.c0; have t1 := (unhide HS).a.c1
  go_upto_region 2 with (go_at_call 76; go_must (refine (unhide HR).mono ?_; rintro e w1 ⟨v1, rfl, hv1, hb1⟩; obtain ⟨b1, i1, i2, i3, i4, i5, i6, rfl⟩ := hv1.form; have HS1 := hide ((unhide HS).later hb1); have HV1 := hide hv1; have HT1 := hide ((unhide HT).later hb1); clear hv1 hb1 t0 t1))
  obtain ⟨V2, hV2⟩ : ∃ V2, V2 = w1.alloc (.cells #[.bool b1, .slice i1 i2 i3, .slice i4 i5 i6] 74) := ⟨_, rfl⟩
  have hb : Below w1.heap.size w1 V2 := by rw [hV2]; exact (Below.refl _ _).alloc (Nat.le_refl _) _
  have HS2 := hide ((unhide HS1).later hb); have HX := hide ((unhide HV1).later hb); have HT2 := hide ((unhide HT1).later hb)
  have HP : Hid (FBox V2 w1.heap.size (.bool b1) (.slice i1 i2 i3) (.slice i4 i5 i6)) := by rw [hV2]; exact FBox.new _ _ _ _
  rw [← hV2]
  clear hV2 hb HS HS1 HV1 HT HT1 HR
  generalize w1.heap.size = g8 at *
  have t0 := (unhide HP).c0; have t1 := (unhide HP).c1; have t2 := (unhide HP).c2
  go_wp2_with (first
    | (go_at_call 97; go_must (refine (qsign _ x 67 _ (unhide HX)).mono ?_; rintro e w3 ⟨rfl, hb3⟩; have HX3 := hide ((unhide HX).later hb3); have HS3 := hide ((unhide HS2).later hb3); have HT3 := hide ((unhide HT2).later hb3); have HP3 := hide ((unhide HP).later hb3); clear hb3 t0 t1 t2; have t0 := (unhide HP3).c0; have t1 := (unhide HP3).c1; have t2 := (unhide HP3).c2))
    | (go_at_call 101; go_must (refine (qinv _ x 67 _ (unhide HX3) (unhide HX0)).mono ?_; rintro e w5 ⟨v5, rfl, hv5, hb5⟩; have HV5 := hide hv5; have HS5 := hide ((unhide HS3).later hb5); have HT5 := hide ((unhide HT3).later hb5); clear hv5 hb5 t0 t1 t2))
    | (go_at_call 72; go_must (refine (qtell _ _ 67 _ (unhide HV5) (by decide) (unhide HT5)).mono ?_; rintro e w4 ⟨rfl, hb4⟩; have HS4 := hide ((unhide HS5).later hb4); clear hb4; have r0 := (unhide HS4).r.c0; have r1 := (unhide HS4).r.c1; have rf0 := (unhide HS4).r.f0; have rf1 := (unhide HS4).r.f1)))
  have hS := (unhide HS4).r.store (.string (numT x⁻¹)) (.string (denT x⁻¹))
  have hb : Below w.heap.size w (store2 w4 (w.heap.size + 1) (.string (numT x⁻¹)) (.string (denT x⁻¹))) := below_store2 (unhide HS4).below (by omega) _ _
  have u0 := hS.c0; have u1 := hS.c1
  exact bodyPost_ret (v := .tuple #[.agg #[.string (numT x⁻¹), .string (denT x⁻¹)], .int .i64 (errT x⁻¹)]) (w := store2 w4 (w.heap.size + 1) (.string (numT x⁻¹)) (.string (denT x⁻¹))) (by simp [results, Tryz.results38, go_sem, u0, u1]) rfl ⟨rfl, hb⟩

set_option maxRecDepth 100000 in
set_option maxHeartbeats 2000000 in
theorem rinv_zero (n1 d1 : ByteArray) (x : Rat) (w : World) (h1 : IsR n1 d1 x) (hx0 : x = 0) : Ans 38 #[.agg #[.string n1, .string d1]] w ⟨#[]⟩ ⟨#[]⟩ 8 := by
  unfold Ans
  obtain ⟨V, hV⟩ : ∃ V, V = (w.alloc (.cells #[.string n1, .string d1] 23)).alloc (.cells #[.string ⟨#[]⟩, .string ⟨#[]⟩] 23) := ⟨_, rfl⟩
  have HS : Hid (N1 w V (.string n1) (.string d1)) := by rw [hV]; exact N1.first _ _ _
  have HV := hide hV
  have HR := hide (qread n1 d1 x V h1)
  have hz : (Cub.cmpQ x 0 == 0) = true := by rw [hx0]; decide
  clear h1 hx0
  go_enter Tryz.func38, Tryz.ntmps38
  go_upto_region 1 with fail
  rw [← unhide HV]
  clear hV HV
  have t0 := (unhide HS).a.c0; have t1 := (unhide HS).a.c1
  go_upto_region 2 with (go_at_call 76; go_must (refine (unhide HR).mono ?_; rintro e w1 ⟨v1, rfl, hv1, hb1⟩; obtain ⟨b1, i1, i2, i3, i4, i5, i6, rfl⟩ := hv1.form; have HS1 := hide ((unhide HS).later hb1); have HV1 := hide hv1; clear hv1 hb1 t0 t1))
  obtain ⟨V2, hV2⟩ : ∃ V2, V2 = w1.alloc (.cells #[.bool b1, .slice i1 i2 i3, .slice i4 i5 i6] 74) := ⟨_, rfl⟩
  have hb : Below w1.heap.size w1 V2 := by rw [hV2]; exact (Below.refl _ _).alloc (Nat.le_refl _) _
  have HS2 := hide ((unhide HS1).later hb); have HX := hide ((unhide HV1).later hb)
  have HP : Hid (FBox V2 w1.heap.size (.bool b1) (.slice i1 i2 i3) (.slice i4 i5 i6)) := by rw [hV2]; exact FBox.new _ _ _ _
  rw [← hV2]
  clear hV2 hb HS HS1 HV1 HR
  generalize w1.heap.size = g8 at *
  have t0 := (unhide HP).c0; have t1 := (unhide HP).c1; have t2 := (unhide HP).c2
  go_wp2_with (go_at_call 97; go_must (refine (qsign _ x 67 _ (unhide HX)).mono ?_; rintro e w3 ⟨rfl, hb3⟩; have HX3 := hide ((unhide HX).later hb3); have HS3 := hide ((unhide HS2).later hb3); have HP3 := hide ((unhide HP).later hb3); clear hb3 t0 t1 t2; have r0 := (unhide HS3).r.c0; have r1 := (unhide HS3).r.c1; have rf0 := (unhide HS3).r.f0; have rf1 := (unhide HS3).r.f1))
  have hS := (unhide HS3).r.store (.string ⟨#[]⟩) (.string ⟨#[]⟩)
  have hb : Below w.heap.size w (store2 w3 (w.heap.size + 1) (.string ⟨#[]⟩) (.string ⟨#[]⟩)) := below_store2 (unhide HS3).below (by omega) _ _
  have u0 := hS.c0; have u1 := hS.c1
  exact bodyPost_ret (v := .tuple #[.agg #[.string ⟨#[]⟩, .string ⟨#[]⟩], .int .i64 8]) (w := store2 w3 (w.heap.size + 1) (.string ⟨#[]⟩) (.string ⟨#[]⟩)) (by simp [results, Tryz.results38, go_sem, u0, u1]) rfl ⟨rfl, hb⟩

set_option maxRecDepth 100000 in
set_option maxHeartbeats 2000000 in
theorem rinv_no (n1 d1 : ByteArray) (w : World) (h1 : Reads n1 d1 false) : Ans 38 #[.agg #[.string n1, .string d1]] w ⟨#[]⟩ ⟨#[]⟩ 3 := by
  unfold Ans
  obtain ⟨V, hV⟩ : ∃ V, V = (w.alloc (.cells #[.string n1, .string d1] 23)).alloc (.cells #[.string ⟨#[]⟩, .string ⟨#[]⟩] 23) := ⟨_, rfl⟩
  have HS : Hid (N1 w V (.string n1) (.string d1)) := by rw [hV]; exact N1.first _ _ _
  have HV := hide hV
  have HR := hide (h1 V)
  clear h1
  go_enter Tryz.func38, Tryz.ntmps38
  go_upto_region 1 with fail
  rw [← unhide HV]
  clear hV HV
  have t0 := (unhide HS).a.c0; have t1 := (unhide HS).a.c1
  go_upto_region 2 with (go_at_call 76; go_must (refine (unhide HR).mono ?_; rintro e w1 ⟨b1, i1, i2, i3, i4, i5, i6, rfl, hb1⟩; have HS1 := hide ((unhide HS).later hb1); clear hb1 t0 t1))
  obtain ⟨V2, hV2⟩ : ∃ V2, V2 = w1.alloc (.cells #[.bool b1, .slice i1 i2 i3, .slice i4 i5 i6] 74) := ⟨_, rfl⟩
  have hb : Below w1.heap.size w1 V2 := by rw [hV2]; exact (Below.refl _ _).alloc (Nat.le_refl _) _
  have HS2 := hide ((unhide HS1).later hb)
  rw [← hV2]
  clear hV2 hb HS HS1 HR
  generalize w1.heap.size = g8 at *
  have r0 := (unhide HS2).r.c0; have r1 := (unhide HS2).r.c1; have rf0 := (unhide HS2).r.f0; have rf1 := (unhide HS2).r.f1
  go_wp2_with fail
  have hS := (unhide HS2).r.store (.string ⟨#[]⟩) (.string ⟨#[]⟩)
  have hb : Below w.heap.size w (store2 V2 (w.heap.size + 1) (.string ⟨#[]⟩) (.string ⟨#[]⟩)) := below_store2 (unhide HS2).below (by omega) _ _
  have u0 := hS.c0; have u1 := hS.c1
  exact bodyPost_ret (v := .tuple #[.agg #[.string ⟨#[]⟩, .string ⟨#[]⟩], .int .i64 3]) (w := store2 V2 (w.heap.size + 1) (.string ⟨#[]⟩) (.string ⟨#[]⟩)) (by simp [results, Tryz.results38, go_sem, u0, u1]) rfl ⟨rfl, hb⟩

set_option maxRecDepth 100000 in
set_option maxHeartbeats 2000000 in
theorem rneg_no (n1 d1 : ByteArray) (w : World) (h1 : Reads n1 d1 false) : Ans 36 #[.agg #[.string n1, .string d1]] w ⟨#[]⟩ ⟨#[]⟩ 3 := by
  unfold Ans
  obtain ⟨V, hV⟩ : ∃ V, V = (w.alloc (.cells #[.string n1, .string d1] 23)).alloc (.cells #[.string ⟨#[]⟩, .string ⟨#[]⟩] 23) := ⟨_, rfl⟩
  have HS : Hid (N1 w V (.string n1) (.string d1)) := by rw [hV]; exact N1.first _ _ _
  have HV := hide hV
  have HR := hide (h1 V)
  clear h1
  go_enter Tryz.func36, Tryz.ntmps36
  go_upto_region 1 with fail
  rw [← unhide HV]
  clear hV HV
  have t0 := (unhide HS).a.c0; have t1 := (unhide HS).a.c1
  go_upto_region 2 with (go_at_call 76; go_must (refine (unhide HR).mono ?_; rintro e w1 ⟨b1, i1, i2, i3, i4, i5, i6, rfl, hb1⟩; have HS1 := hide ((unhide HS).later hb1); clear hb1 t0 t1))
  obtain ⟨V2, hV2⟩ : ∃ V2, V2 = w1.alloc (.cells #[.bool b1, .slice i1 i2 i3, .slice i4 i5 i6] 74) := ⟨_, rfl⟩
  have hb : Below w1.heap.size w1 V2 := by rw [hV2]; exact (Below.refl _ _).alloc (Nat.le_refl _) _
  have HS2 := hide ((unhide HS1).later hb)
  rw [← hV2]
  clear hV2 hb HS HS1 HR
  generalize w1.heap.size = g8 at *
  have r0 := (unhide HS2).r.c0; have r1 := (unhide HS2).r.c1; have rf0 := (unhide HS2).r.f0; have rf1 := (unhide HS2).r.f1
  go_wp2_with fail
  have hS := (unhide HS2).r.store (.string ⟨#[]⟩) (.string ⟨#[]⟩)
  have hb : Below w.heap.size w (store2 V2 (w.heap.size + 1) (.string ⟨#[]⟩) (.string ⟨#[]⟩)) := below_store2 (unhide HS2).below (by omega) _ _
  have u0 := hS.c0; have u1 := hS.c1
  exact bodyPost_ret (v := .tuple #[.agg #[.string ⟨#[]⟩, .string ⟨#[]⟩], .int .i64 3]) (w := store2 V2 (w.heap.size + 1) (.string ⟨#[]⟩) (.string ⟨#[]⟩)) (by simp [results, Tryz.results36, go_sem, u0, u1]) rfl ⟨rfl, hb⟩

set_option maxRecDepth 100000 in
set_option maxHeartbeats 2000000 in
theorem refInv_of (n1 d1 s t : ByteArray) (er : Int) (w : World) (h : ∀ W, Ans 35 #[.agg #[.string ⟨#[49]⟩, .string ⟨#[49]⟩], .agg #[.string n1, .string d1]] W s t er) : Ans 39 #[.agg #[.string n1, .string d1]] w s t er := by
  unfold Ans at *
  obtain ⟨V, hV⟩ : ∃ V, V = (w.alloc (.cells #[.string n1, .string d1] 23)).alloc (.cells #[.string ⟨#[]⟩, .string ⟨#[]⟩] 23) := ⟨_, rfl⟩
  have HS : Hid (N1 w V (.string n1) (.string d1)) := by rw [hV]; exact N1.first _ _ _
  have HV := hide hV
  have HR := hide (h V)
  clear h
  go_enter Tryz.func39, Tryz.ntmps39
  go_upto_region 1 with fail
  rw [← unhide HV]
  clear hV HV
  have t0 := (unhide HS).a.c0; have t1 := (unhide HS).a.c1
  go_wp2_with (go_at_call 35; go_must (refine (unhide HR).mono ?_; rintro e w4 ⟨rfl, hb4⟩; have HS4 := hide ((unhide HS).later hb4); clear hb4 t0 t1; have r0 := (unhide HS4).r.c0; have r1 := (unhide HS4).r.c1; have rf0 := (unhide HS4).r.f0; have rf1 := (unhide HS4).r.f1))
  have hS := (unhide HS4).r.store (.string s) (.string t)
  have hb : Below w.heap.size w (store2 w4 (w.heap.size + 1) (.string s) (.string t)) := below_store2 (unhide HS4).below (by omega) _ _
  have u0 := hS.c0; have u1 := hS.c1
  exact bodyPost_ret (v := .tuple #[.agg #[.string s, .string t], .int .i64 er]) (w := store2 w4 (w.heap.size + 1) (.string s) (.string t)) (by simp [results, Tryz.results39, go_sem, u0, u1]) rfl ⟨rfl, hb⟩

end Go.Proofs.YtoinadnpdbaamaaGreatDoor

namespace Go.Proofs.YtoinadnpdbaamaaGreatDoor
open Go.RowKit

set_option maxRecDepth 100000 in
set_option maxHeartbeats 2000000 in
theorem rquo_no (n1 d1 n2 d2 : ByteArray) (w : World) (s1 : n1.size ≤ maxLen) (s2 : d1.size ≤ maxLen) (s3 : n2.size ≤ maxLen) (s4 : d2.size ≤ maxLen) (h : ¬ (RightT n1 d1 ∧ RightT n2 d2)) : Ans 34 #[.agg #[.string n1, .string d1], .agg #[.string n2, .string d2]] w ⟨#[]⟩ ⟨#[]⟩ 3 := by
  unfold Ans
  obtain ⟨V, hV⟩ : ∃ V, V = ((w.alloc (.cells #[.string n1, .string d1] 23)).alloc (.cells #[.string n2, .string d2] 23)).alloc (.cells #[.string ⟨#[]⟩, .string ⟨#[]⟩] 23) := ⟨_, rfl⟩
  have HS : Hid (O3 w V (.string n1) (.string d1) (.string n2) (.string d2)) := by rw [hV]; exact O3.first _ _ _ _ _
  have HV := hide hV
  have HR := hide (readTwo_no n1 d1 n2 d2 V s1 s2 s3 s4 h)
  clear s1 s2 s3 s4 h
  go_enter Tryz.func34, Tryz.ntmps34
  go_upto_region 1 with fail
  rw [← unhide HV]
  clear hV HV
  have t0 := (unhide HS).a.c0; have t1 := (unhide HS).a.c1; have t2 := (unhide HS).b.c0; have t3 := (unhide HS).b.c1
  go_upto_region 2 with (go_at_call 96; go_must (refine (unhide HR).mono ?_; rintro e w1 ⟨rfl, hb1⟩; have HS1 := hide ((unhide HS).later hb1); unfold zeroF; clear hb1 t0 t1 t2 t3))
  obtain ⟨V2, hV2⟩ : ∃ V2, V2 = (w1.alloc (.cells #[.bool false, .slice none 0 0, .slice none 0 0] 74)).alloc (.cells #[.bool false, .slice none 0 0, .slice none 0 0] 74) := ⟨_, rfl⟩
  have hb : Below w1.heap.size w1 V2 := by rw [hV2]; exact ((Below.refl _ _).alloc (Nat.le_refl _) _).alloc (by simp) _
  have HS2 := hide ((unhide HS1).later hb)
  rw [← hV2]
  clear hV2 hb HS HS1 HR
  have r0 := (unhide HS2).r.c0; have r1 := (unhide HS2).r.c1; have rf0 := (unhide HS2).r.f0; have rf1 := (unhide HS2).r.f1
  go_wp2_with fail
  have hS := (unhide HS2).r.store (.string ⟨#[]⟩) (.string ⟨#[]⟩)
  have hb : Below w.heap.size w (store2 V2 (w.heap.size + 1 + 1) (.string ⟨#[]⟩) (.string ⟨#[]⟩)) := below_store2 (unhide HS2).below (by omega) _ _
  have u0 := hS.c0; have u1 := hS.c1
  exact bodyPost_ret (v := .tuple #[.agg #[.string ⟨#[]⟩, .string ⟨#[]⟩], .int .i64 3]) (w := store2 V2 (w.heap.size + 1 + 1) (.string ⟨#[]⟩) (.string ⟨#[]⟩)) (by simp [results, Tryz.results34, go_sem, u0, u1]) rfl ⟨rfl, hb⟩

set_option maxRecDepth 100000 in
set_option maxHeartbeats 2000000 in
theorem rquo_zero (n1 d1 n2 d2 : ByteArray) (x y : Rat) (w : World) (h1 : IsR n1 d1 x) (h2 : IsR n2 d2 y) (hy : y = 0) : Ans 34 #[.agg #[.string n1, .string d1], .agg #[.string n2, .string d2]] w ⟨#[]⟩ ⟨#[]⟩ 8 := by
  unfold Ans
  obtain ⟨V, hV⟩ : ∃ V, V = ((w.alloc (.cells #[.string n1, .string d1] 23)).alloc (.cells #[.string n2, .string d2] 23)).alloc (.cells #[.string ⟨#[]⟩, .string ⟨#[]⟩] 23) := ⟨_, rfl⟩
  have HS : Hid (O3 w V (.string n1) (.string d1) (.string n2) (.string d2)) := by rw [hV]; exact O3.first _ _ _ _ _
  have HV := hide hV
  have HR := hide (readTwo_ok n1 d1 n2 d2 x y V h1 h2)
  have HSG : Hid (∀ W v, QOf W v y 67 → ∃ sg : Int, (sg == 0) = true ∧ Calls Tryz.prog 97 #[v] W fun r w' => r = .returned (.int .i64 sg) ∧ Below W.heap.size W w') := fun W v hv => ⟨_, by rw [hy]; decide, qsign v y 67 W hv⟩
  clear h1 h2 hy
  go_enter Tryz.func34, Tryz.ntmps34
  go_upto_region 1 with fail
  rw [← unhide HV]
  clear hV HV
  have t0 := (unhide HS).a.c0; have t1 := (unhide HS).a.c1; have t2 := (unhide HS).b.c0; have t3 := (unhide HS).b.c1
  go_upto_region 2 with (go_at_call 96; go_must (refine (unhide HR).mono ?_; rintro e w1 ⟨v1, v2, rfl, hv1, hv2, hb1⟩; obtain ⟨b1, i1, i2, i3, i4, i5, i6, rfl⟩ := hv1.form; obtain ⟨b2, j1, j2, j3, j4, j5, j6, rfl⟩ := hv2.form; have HS1 := hide ((unhide HS).later hb1); have HV1 := hide hv1; have HV2 := hide hv2; clear hv1 hv2 hb1 t0 t1 t2 t3))
  obtain ⟨V2, hV2⟩ : ∃ V2, V2 = (w1.alloc (.cells #[.bool b1, .slice i1 i2 i3, .slice i4 i5 i6] 74)).alloc (.cells #[.bool b2, .slice j1 j2 j3, .slice j4 j5 j6] 74) := ⟨_, rfl⟩
  have hb : Below w1.heap.size w1 V2 := by rw [hV2]; exact ((Below.refl _ _).alloc (Nat.le_refl _) _).alloc (by simp) _
  have HS2 := hide ((unhide HS1).later hb); have HX := hide ((unhide HV1).later hb); have HY := hide ((unhide HV2).later hb)
  have HP : Hid (FBox V2 w1.heap.size (.bool b1) (.slice i1 i2 i3) (.slice i4 i5 i6)) := by rw [hV2]; exact (FBox.new _ _ _ _).later ((Below.refl _ _).alloc (Nat.le_refl _) _)
  have HQ : Hid (FBox V2 (w1.heap.size + 1) (.bool b2) (.slice j1 j2 j3) (.slice j4 j5 j6)) := by
    rw [hV2]
    have := FBox.new (w1.alloc (.cells #[.bool b1, .slice i1 i2 i3, .slice i4 i5 i6] 74)) (.bool b2) (.slice j1 j2 j3) (.slice j4 j5 j6)
    rwa [show (w1.alloc (.cells #[.bool b1, .slice i1 i2 i3, .slice i4 i5 i6] 74)).heap.size = w1.heap.size + 1 by simp] at this
  rw [← hV2]
  clear hV2 hb HS HS1 HV1 HV2 HR
  generalize w1.heap.size = g8 at *
  have t0 := (unhide HP).c0; have t1 := (unhide HP).c1; have t2 := (unhide HP).c2; have t3 := (unhide HQ).c0; have t4 := (unhide HQ).c1; have t5 := (unhide HQ).c2
  obtain ⟨sg, hsg, hq⟩ := unhide HSG V2 _ (unhide HY)
  have HSS := hide hq
  clear hq
  go_wp2_with (go_at_call 97; go_must (refine (unhide HSS).mono ?_; rintro e w3 ⟨rfl, hb3⟩; have HX3 := hide ((unhide HX).later hb3); have HY3 := hide ((unhide HY).later hb3); have HS3 := hide ((unhide HS2).later hb3); have HP3 := hide ((unhide HP).later hb3); have HQ3 := hide ((unhide HQ).later hb3); clear hb3 t0 t1 t2 t3 t4 t5; have r0 := (unhide HS3).r.c0; have r1 := (unhide HS3).r.c1; have rf0 := (unhide HS3).r.f0; have rf1 := (unhide HS3).r.f1))
  have hS := (unhide HS3).r.store (.string ⟨#[]⟩) (.string ⟨#[]⟩)
  have hb : Below w.heap.size w (store2 w3 (w.heap.size + 1 + 1) (.string ⟨#[]⟩) (.string ⟨#[]⟩)) := below_store2 (unhide HS3).below (by omega) _ _
  have u0 := hS.c0; have u1 := hS.c1
  exact bodyPost_ret (v := .tuple #[.agg #[.string ⟨#[]⟩, .string ⟨#[]⟩], .int .i64 8]) (w := store2 w3 (w.heap.size + 1 + 1) (.string ⟨#[]⟩) (.string ⟨#[]⟩)) (by simp [results, Tryz.results34, go_sem, u0, u1]) rfl ⟨rfl, hb⟩

end Go.Proofs.YtoinadnpdbaamaaGreatDoor

namespace Go.Proofs.YtoinadnpdbaamaaGreatDoor
open Go.RowKit

/-- Two functions answer the same. -/
def Both (f g : Nat) (args : Array Value) : Prop := ∃ (s t : ByteArray) (e : Int), (∀ w, Tab w → Ans f args w s t e) ∧ (∀ w, Ans g args w s t e)
theorem ref18_any (num den : ByteArray) (s1 : num.size ≤ maxLen) (s2 : den.size ≤ maxLen) : ∃ ok : Bool, (ok = true ↔ RightT num den) ∧ ∀ W, Calls Tryz.prog 18 #[.agg #[.string num, .string den]] W fun r w' => r = .returned (.bool ok) ∧ Below W.heap.size W w' := by
  by_cases h : RightT num den
  · refine ⟨true, ⟨fun _ => h, fun _ => rfl⟩, fun W => ?_⟩
    obtain ⟨ok, h1, h2⟩ := refR_any num den W s1 s2
    rw [h1.2 h] at h2; exact h2
  · refine ⟨false, ⟨fun e => absurd e (by decide), fun h' => absurd h' h⟩, fun W => ?_⟩
    obtain ⟨ok, h1, h2⟩ := refR_any num den W s1 s2
    have : ok = false := by cases ok with | false => rfl | true => exact absurd (h1.1 rfl) h
    rw [this] at h2; exact h2
theorem and_no {p q : Bool} {P Q : Prop} (h1 : p = true ↔ P) (h2 : q = true ↔ Q) (h : ¬ (P ∧ Q)) : (p && q) = false := by
  cases p <;> cases q <;> simp_all
section
variable (n1 d1 n2 d2 : ByteArray) (s1 : n1.size ≤ maxLen) (s2 : d1.size ≤ maxLen) (s3 : n2.size ≤ maxLen) (s4 : d2.size ≤ maxLen)
include s1 s2 s3 s4
theorem both_add : Both 28 29 #[.agg #[.string n1, .string d1], .agg #[.string n2, .string d2]] := by
  by_cases h : RightT n1 d1 ∧ RightT n2 d2
  · obtain ⟨x, h1⟩ := (right_isR n1 d1).1 h.1
    obtain ⟨y, h2⟩ := (right_isR n2 d2).1 h.2
    exact ⟨_, _, _, fun w ht => radd_ok n1 d1 n2 d2 x y w h1 h2 ht, fun w => refAdd_ok n1 d1 n2 d2 x y w h1 h2⟩
  · obtain ⟨p, hp, h18a⟩ := ref18_any n1 d1 s1 s2
    obtain ⟨q, hq, h18b⟩ := ref18_any n2 d2 s3 s4
    exact ⟨_, _, _, fun w _ => radd_no n1 d1 n2 d2 w s1 s2 s3 s4 h, fun w => refAdd_no n1 d1 n2 d2 p q w h18a h18b (and_no hp hq h)⟩
theorem both_sub : Both 30 31 #[.agg #[.string n1, .string d1], .agg #[.string n2, .string d2]] := by
  by_cases h : RightT n1 d1 ∧ RightT n2 d2
  · obtain ⟨x, h1⟩ := (right_isR n1 d1).1 h.1
    obtain ⟨y, h2⟩ := (right_isR n2 d2).1 h.2
    exact ⟨_, _, _, fun w ht => rsub_ok n1 d1 n2 d2 x y w h1 h2 ht, fun w => refSub_ok n1 d1 n2 d2 x y w h1 h2⟩
  · obtain ⟨p, hp, h18a⟩ := ref18_any n1 d1 s1 s2
    obtain ⟨q, hq, h18b⟩ := ref18_any n2 d2 s3 s4
    exact ⟨_, _, _, fun w _ => rsub_no n1 d1 n2 d2 w s1 s2 s3 s4 h, fun w => refSub_no n1 d1 n2 d2 p q w h18a h18b (and_no hp hq h)⟩
theorem both_mul : Both 32 33 #[.agg #[.string n1, .string d1], .agg #[.string n2, .string d2]] := by
  by_cases h : RightT n1 d1 ∧ RightT n2 d2
  · obtain ⟨x, h1⟩ := (right_isR n1 d1).1 h.1
    obtain ⟨y, h2⟩ := (right_isR n2 d2).1 h.2
    exact ⟨_, _, _, fun w ht => rmul_ok n1 d1 n2 d2 x y w h1 h2 ht, fun w => refMul_ok n1 d1 n2 d2 x y w h1 h2⟩
  · obtain ⟨p, hp, h18a⟩ := ref18_any n1 d1 s1 s2
    obtain ⟨q, hq, h18b⟩ := ref18_any n2 d2 s3 s4
    exact ⟨_, _, _, fun w _ => rmul_no n1 d1 n2 d2 w s1 s2 s3 s4 h, fun w => refMul_no n1 d1 n2 d2 p q w h18a h18b (and_no hp hq h)⟩
theorem both_quo : Both 34 35 #[.agg #[.string n1, .string d1], .agg #[.string n2, .string d2]] := by
  by_cases h : RightT n1 d1 ∧ RightT n2 d2
  · obtain ⟨x, h1⟩ := (right_isR n1 d1).1 h.1
    obtain ⟨y, h2⟩ := (right_isR n2 d2).1 h.2
    by_cases hy : y = 0
    · exact ⟨_, _, _, fun w _ => rquo_zero n1 d1 n2 d2 x y w h1 h2 hy, fun w => refQuo_zero n1 d1 n2 d2 true true w (ref18_yes h1) (ref18_yes h2) rfl rfl (by rw [isR_num_zero h2, decide_eq_true hy])⟩
    · exact ⟨_, _, _, fun w ht => rquo_ok n1 d1 n2 d2 x y w h1 h2 hy ht, fun w => refQuo_ok n1 d1 n2 d2 x y w h1 h2 hy⟩
  · obtain ⟨p, hp, h18a⟩ := ref18_any n1 d1 s1 s2
    obtain ⟨q, hq, h18b⟩ := ref18_any n2 d2 s3 s4
    exact ⟨_, _, _, fun w _ => rquo_no n1 d1 n2 d2 w s1 s2 s3 s4 h, fun w => refQuo_no n1 d1 n2 d2 p q w h18a h18b (and_no hp hq h)⟩
end
theorem both_neg (n1 d1 : ByteArray) (s1 : n1.size ≤ maxLen) (s2 : d1.size ≤ maxLen) : Both 36 37 #[.agg #[.string n1, .string d1]] := by
  by_cases h : RightT n1 d1
  · obtain ⟨x, h1⟩ := (right_isR n1 d1).1 h
    exact ⟨_, _, _, fun w ht => rneg_ok n1 d1 x w h1 ht, fun w => refNeg_ok n1 d1 x w h1⟩
  · obtain ⟨p, hp, h18a⟩ := ref18_any n1 d1 s1 s2
    exact ⟨⟨#[]⟩, ⟨#[]⟩, 3, fun w _ => rneg_no n1 d1 w (reads_no s1 s2 h), fun w => refNeg_walk n1 d1 _ _ _ p (fx 0) (fx 0) w h18a (Or.inl ⟨by cases p with | false => rfl | true => exact absurd (hp.1 rfl) h, rfl, rfl, rfl⟩)⟩
theorem one_isR : IsR ⟨#[49]⟩ ⟨#[49]⟩ 1 := by
  have hl := lit_tb ⟨#[49]⟩ 1 (by decide) (by decide)
  have hs : Small (1 : Rat) := ⟨by show (1 : Nat) < _; exact hl.2, by show (1 : Nat) < _; exact hl.2⟩
  refine ⟨hs, ?_, ?_⟩
  · unfold numT; rw [if_pos hs]
    show _ = sT (decide ((1 : Rat) < 0)) 1
    rw [decide_eq_false (by decide)]
    exact hl.1
  · unfold denT; rw [if_pos hs]
    exact hl.1
theorem both_inv (n1 d1 : ByteArray) (s1 : n1.size ≤ maxLen) (s2 : d1.size ≤ maxLen) : Both 38 39 #[.agg #[.string n1, .string d1]] := by
  by_cases h : RightT n1 d1
  · obtain ⟨x, h1⟩ := (right_isR n1 d1).1 h
    by_cases hx : x = 0
    · exact ⟨⟨#[]⟩, ⟨#[]⟩, 8, fun w _ => rinv_zero n1 d1 x w h1 hx, fun w => refInv_of n1 d1 _ _ _ w (fun W => refQuo_zero _ _ n1 d1 true true W (ref18_yes one_isR) (ref18_yes h1) rfl rfl (by rw [isR_num_zero h1, decide_eq_true hx]))⟩
    · refine ⟨_, _, _, fun w ht => rinv_ok n1 d1 x w h1 hx ht, fun w => refInv_of n1 d1 _ _ _ w (fun W => ?_)⟩
      have := refQuo_ok _ _ n1 d1 1 x W one_isR h1 hx
      rw [Rat.one_mul] at this
      exact this
  · obtain ⟨p, hp, h18a⟩ := ref18_any n1 d1 s1 s2
    exact ⟨⟨#[]⟩, ⟨#[]⟩, 3, fun w _ => rinv_no n1 d1 w (reads_no s1 s2 h), fun w => refInv_of n1 d1 _ _ _ w (fun W => refQuo_no _ _ n1 d1 true p W (ref18_yes one_isR) h18a (by cases p with | false => rfl | true => exact absurd (hp.1 rfl) h))⟩

end Go.Proofs.YtoinadnpdbaamaaGreatDoor

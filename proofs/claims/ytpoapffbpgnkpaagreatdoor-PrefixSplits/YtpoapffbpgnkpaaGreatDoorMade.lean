/- The powers that prefixes are made as. -/
import Derived.Test.YtpoapffbpgnkpaaGreatDoorTell
import Derived.Deep.Cut
namespace Go.Proofs.YtpoapffbpgnkpaaGreatDoor
open Go.RowKit

/-- A call that answers a power, and makes new memory alone. -/
def Made (f : Nat) (a b : Int) : Prop := ∀ W, Calls Tryz.prog f #[] W fun r w' => r = .returned (.agg #[.int .i64 a, .int .i64 b]) ∧ Below W.heap.size W w'
set_option maxRecDepth 100000 in
set_option maxHeartbeats 1000000 in
theorem ptimes_any (a b c d : Int) (w : World) (h1 : -1000 ≤ b) (h2 : b ≤ 1000) (h3 : -1000 ≤ d) (h4 : d ≤ 1000) :
    Calls Tryz.prog 94 #[.agg #[.int .i64 a, .int .i64 b], .agg #[.int .i64 c, .int .i64 d]] w fun r w' => r = .returned (.agg #[.int .i64 a, .int .i64 (b + d)]) ∧ Below w.heap.size w w' := by
  go_enter Tryz.func94, Tryz.ntmps94
  go_wp2
  exact bodyPost_ret (v := .agg #[.int .i64 a, .int .i64 (b + d)]) (by simp [results, Tryz.results94, go_sem]) rfl ⟨rfl, (((Below.refl _ _).alloc (Nat.le_refl _) _).alloc (by simp) _).alloc (by simp; omega) _⟩
set_option maxRecDepth 100000 in
set_option maxHeartbeats 1000000 in
theorem pinverse_any (a b : Int) (w : World) (h1 : -1000 ≤ b) (h2 : b ≤ 1000) :
    Calls Tryz.prog 95 #[.agg #[.int .i64 a, .int .i64 b]] w fun r w' => r = .returned (.agg #[.int .i64 a, .int .i64 (-b)]) ∧ Below w.heap.size w w' := by
  go_enter Tryz.func95, Tryz.ntmps95
  go_wp2
  exact bodyPost_ret (v := .agg #[.int .i64 a, .int .i64 (-b)]) (by simp [results, Tryz.results95, go_sem]) rfl ⟨rfl, ((Below.refl _ _).alloc (Nat.le_refl _) _).alloc (by simp) _⟩
set_option maxRecDepth 100000 in
set_option maxHeartbeats 1000000 in
theorem deca_made : Made 40 10 1 := by
  intro w
  go_enter Tryz.func40, Tryz.ntmps40
  go_wp2
  exact bodyPost_ret (v := .agg #[.int .i64 10, .int .i64 1]) (by simp [results, Tryz.results40, go_sem]) rfl ⟨rfl, (Below.refl _ _).alloc (Nat.le_refl _) _⟩
set_option maxRecDepth 100000 in
set_option maxHeartbeats 1000000 in
theorem hecto_made : Made 41 10 2 := by
  intro w
  have H1 := hide deca_made
  have H2 := hide deca_made
  unfold Made at H1 H2
  have HT : Hid (∀ W, Calls Tryz.prog 94 #[.agg #[.int .i64 10, .int .i64 1], .agg #[.int .i64 10, .int .i64 1]] W fun r w' => r = .returned (.agg #[.int .i64 10, .int .i64 2]) ∧ Below W.heap.size W w') := fun W => ptimes_any 10 1 10 1 W (by decide) (by decide) (by decide) (by decide)
  obtain ⟨V, hV⟩ : ∃ V, V = w.alloc (.cells #[.int .i64 0, .int .i64 0] 66) := ⟨_, rfl⟩
  have HS : Hid (T2 V w.heap.size (.int .i64 0) (.int .i64 0) ∧ Below w.heap.size w V) := by rw [hV]; exact ⟨⟨by simp [go_sem], by simp [go_sem], by simp [go_sem], by simp [go_sem]⟩, (Below.refl _ _).alloc (Nat.le_refl _) _⟩
  have HV := hide hV
  go_enter Tryz.func41, Tryz.ntmps41
  go_upto_region 1 with fail
  rw [← unhide HV]
  clear hV HV
  go_wp2_with (first
    | (go_at_call 40; go_must (refine (unhide H1 _).mono ?_; rintro e wn ⟨rfl, hb⟩; replace HS := hide (And.intro ((unhide HS).1.later hb) ((unhide HS).2.trans (hb.mono (unhide HS).2.size))); clear hb))
    | (go_at_call 94; go_must (refine (unhide HT _).mono ?_; rintro e wl ⟨rfl, hb⟩; have HL : Hid (T2 wl w.heap.size (.int .i64 0) (.int .i64 0) ∧ Below w.heap.size w wl) := ⟨(unhide HS).1.later hb, (unhide HS).2.trans (hb.mono (unhide HS).2.size)⟩; clear hb; have r0 := (unhide HL).1.c0; have r1 := (unhide HL).1.c1; have rf0 := (unhide HL).1.f0; have rf1 := (unhide HL).1.f1)))
  have hS := (unhide HL).1.store (.int .i64 10) (.int .i64 2)
  have hb := below_store2 (unhide HL).2 (Nat.le_refl _) (.int .i64 10) (.int .i64 2)
  have v0 := hS.c0; have v1 := hS.c1
  exact bodyPost_ret (v := .agg #[.int .i64 10, .int .i64 2]) (w := store2 wl w.heap.size (.int .i64 10) (.int .i64 2)) (by simp [results, Tryz.results41, go_sem, v0, v1]) rfl ⟨rfl, hb⟩
set_option maxRecDepth 100000 in
set_option maxHeartbeats 1000000 in
theorem kilo_made : Made 42 10 3 := by
  intro w
  have H1 := hide hecto_made
  have H2 := hide deca_made
  unfold Made at H1 H2
  have HT : Hid (∀ W, Calls Tryz.prog 94 #[.agg #[.int .i64 10, .int .i64 2], .agg #[.int .i64 10, .int .i64 1]] W fun r w' => r = .returned (.agg #[.int .i64 10, .int .i64 3]) ∧ Below W.heap.size W w') := fun W => ptimes_any 10 2 10 1 W (by decide) (by decide) (by decide) (by decide)
  obtain ⟨V, hV⟩ : ∃ V, V = w.alloc (.cells #[.int .i64 0, .int .i64 0] 66) := ⟨_, rfl⟩
  have HS : Hid (T2 V w.heap.size (.int .i64 0) (.int .i64 0) ∧ Below w.heap.size w V) := by rw [hV]; exact ⟨⟨by simp [go_sem], by simp [go_sem], by simp [go_sem], by simp [go_sem]⟩, (Below.refl _ _).alloc (Nat.le_refl _) _⟩
  have HV := hide hV
  go_enter Tryz.func42, Tryz.ntmps42
  go_upto_region 1 with fail
  rw [← unhide HV]
  clear hV HV
  go_wp2_with (first
    | (go_at_call 41; go_must (refine (unhide H1 _).mono ?_; rintro e wn ⟨rfl, hb⟩; replace HS := hide (And.intro ((unhide HS).1.later hb) ((unhide HS).2.trans (hb.mono (unhide HS).2.size))); clear hb))
    | (go_at_call 40; go_must (refine (unhide H2 _).mono ?_; rintro e wn ⟨rfl, hb⟩; replace HS := hide (And.intro ((unhide HS).1.later hb) ((unhide HS).2.trans (hb.mono (unhide HS).2.size))); clear hb))
    | (go_at_call 94; go_must (refine (unhide HT _).mono ?_; rintro e wl ⟨rfl, hb⟩; have HL : Hid (T2 wl w.heap.size (.int .i64 0) (.int .i64 0) ∧ Below w.heap.size w wl) := ⟨(unhide HS).1.later hb, (unhide HS).2.trans (hb.mono (unhide HS).2.size)⟩; clear hb; have r0 := (unhide HL).1.c0; have r1 := (unhide HL).1.c1; have rf0 := (unhide HL).1.f0; have rf1 := (unhide HL).1.f1)))
  have hS := (unhide HL).1.store (.int .i64 10) (.int .i64 3)
  have hb := below_store2 (unhide HL).2 (Nat.le_refl _) (.int .i64 10) (.int .i64 3)
  have v0 := hS.c0; have v1 := hS.c1
  exact bodyPost_ret (v := .agg #[.int .i64 10, .int .i64 3]) (w := store2 wl w.heap.size (.int .i64 10) (.int .i64 3)) (by simp [results, Tryz.results42, go_sem, v0, v1]) rfl ⟨rfl, hb⟩
set_option maxRecDepth 100000 in
set_option maxHeartbeats 1000000 in
theorem mega_made : Made 43 10 6 := by
  intro w
  have H1 := hide kilo_made
  have H2 := hide kilo_made
  unfold Made at H1 H2
  have HT : Hid (∀ W, Calls Tryz.prog 94 #[.agg #[.int .i64 10, .int .i64 3], .agg #[.int .i64 10, .int .i64 3]] W fun r w' => r = .returned (.agg #[.int .i64 10, .int .i64 6]) ∧ Below W.heap.size W w') := fun W => ptimes_any 10 3 10 3 W (by decide) (by decide) (by decide) (by decide)
  obtain ⟨V, hV⟩ : ∃ V, V = w.alloc (.cells #[.int .i64 0, .int .i64 0] 66) := ⟨_, rfl⟩
  have HS : Hid (T2 V w.heap.size (.int .i64 0) (.int .i64 0) ∧ Below w.heap.size w V) := by rw [hV]; exact ⟨⟨by simp [go_sem], by simp [go_sem], by simp [go_sem], by simp [go_sem]⟩, (Below.refl _ _).alloc (Nat.le_refl _) _⟩
  have HV := hide hV
  go_enter Tryz.func43, Tryz.ntmps43
  go_upto_region 1 with fail
  rw [← unhide HV]
  clear hV HV
  go_wp2_with (first
    | (go_at_call 42; go_must (refine (unhide H1 _).mono ?_; rintro e wn ⟨rfl, hb⟩; replace HS := hide (And.intro ((unhide HS).1.later hb) ((unhide HS).2.trans (hb.mono (unhide HS).2.size))); clear hb))
    | (go_at_call 94; go_must (refine (unhide HT _).mono ?_; rintro e wl ⟨rfl, hb⟩; have HL : Hid (T2 wl w.heap.size (.int .i64 0) (.int .i64 0) ∧ Below w.heap.size w wl) := ⟨(unhide HS).1.later hb, (unhide HS).2.trans (hb.mono (unhide HS).2.size)⟩; clear hb; have r0 := (unhide HL).1.c0; have r1 := (unhide HL).1.c1; have rf0 := (unhide HL).1.f0; have rf1 := (unhide HL).1.f1)))
  have hS := (unhide HL).1.store (.int .i64 10) (.int .i64 6)
  have hb := below_store2 (unhide HL).2 (Nat.le_refl _) (.int .i64 10) (.int .i64 6)
  have v0 := hS.c0; have v1 := hS.c1
  exact bodyPost_ret (v := .agg #[.int .i64 10, .int .i64 6]) (w := store2 wl w.heap.size (.int .i64 10) (.int .i64 6)) (by simp [results, Tryz.results43, go_sem, v0, v1]) rfl ⟨rfl, hb⟩
set_option maxRecDepth 100000 in
set_option maxHeartbeats 1000000 in
theorem giga_made : Made 44 10 9 := by
  intro w
  have H1 := hide mega_made
  have H2 := hide kilo_made
  unfold Made at H1 H2
  have HT : Hid (∀ W, Calls Tryz.prog 94 #[.agg #[.int .i64 10, .int .i64 6], .agg #[.int .i64 10, .int .i64 3]] W fun r w' => r = .returned (.agg #[.int .i64 10, .int .i64 9]) ∧ Below W.heap.size W w') := fun W => ptimes_any 10 6 10 3 W (by decide) (by decide) (by decide) (by decide)
  obtain ⟨V, hV⟩ : ∃ V, V = w.alloc (.cells #[.int .i64 0, .int .i64 0] 66) := ⟨_, rfl⟩
  have HS : Hid (T2 V w.heap.size (.int .i64 0) (.int .i64 0) ∧ Below w.heap.size w V) := by rw [hV]; exact ⟨⟨by simp [go_sem], by simp [go_sem], by simp [go_sem], by simp [go_sem]⟩, (Below.refl _ _).alloc (Nat.le_refl _) _⟩
  have HV := hide hV
  go_enter Tryz.func44, Tryz.ntmps44
  go_upto_region 1 with fail
  rw [← unhide HV]
  clear hV HV
  go_wp2_with (first
    | (go_at_call 43; go_must (refine (unhide H1 _).mono ?_; rintro e wn ⟨rfl, hb⟩; replace HS := hide (And.intro ((unhide HS).1.later hb) ((unhide HS).2.trans (hb.mono (unhide HS).2.size))); clear hb))
    | (go_at_call 42; go_must (refine (unhide H2 _).mono ?_; rintro e wn ⟨rfl, hb⟩; replace HS := hide (And.intro ((unhide HS).1.later hb) ((unhide HS).2.trans (hb.mono (unhide HS).2.size))); clear hb))
    | (go_at_call 94; go_must (refine (unhide HT _).mono ?_; rintro e wl ⟨rfl, hb⟩; have HL : Hid (T2 wl w.heap.size (.int .i64 0) (.int .i64 0) ∧ Below w.heap.size w wl) := ⟨(unhide HS).1.later hb, (unhide HS).2.trans (hb.mono (unhide HS).2.size)⟩; clear hb; have r0 := (unhide HL).1.c0; have r1 := (unhide HL).1.c1; have rf0 := (unhide HL).1.f0; have rf1 := (unhide HL).1.f1)))
  have hS := (unhide HL).1.store (.int .i64 10) (.int .i64 9)
  have hb := below_store2 (unhide HL).2 (Nat.le_refl _) (.int .i64 10) (.int .i64 9)
  have v0 := hS.c0; have v1 := hS.c1
  exact bodyPost_ret (v := .agg #[.int .i64 10, .int .i64 9]) (w := store2 wl w.heap.size (.int .i64 10) (.int .i64 9)) (by simp [results, Tryz.results44, go_sem, v0, v1]) rfl ⟨rfl, hb⟩
set_option maxRecDepth 100000 in
set_option maxHeartbeats 1000000 in
theorem tera_made : Made 45 10 12 := by
  intro w
  have H1 := hide giga_made
  have H2 := hide kilo_made
  unfold Made at H1 H2
  have HT : Hid (∀ W, Calls Tryz.prog 94 #[.agg #[.int .i64 10, .int .i64 9], .agg #[.int .i64 10, .int .i64 3]] W fun r w' => r = .returned (.agg #[.int .i64 10, .int .i64 12]) ∧ Below W.heap.size W w') := fun W => ptimes_any 10 9 10 3 W (by decide) (by decide) (by decide) (by decide)
  obtain ⟨V, hV⟩ : ∃ V, V = w.alloc (.cells #[.int .i64 0, .int .i64 0] 66) := ⟨_, rfl⟩
  have HS : Hid (T2 V w.heap.size (.int .i64 0) (.int .i64 0) ∧ Below w.heap.size w V) := by rw [hV]; exact ⟨⟨by simp [go_sem], by simp [go_sem], by simp [go_sem], by simp [go_sem]⟩, (Below.refl _ _).alloc (Nat.le_refl _) _⟩
  have HV := hide hV
  go_enter Tryz.func45, Tryz.ntmps45
  go_upto_region 1 with fail
  rw [← unhide HV]
  clear hV HV
  go_wp2_with (first
    | (go_at_call 44; go_must (refine (unhide H1 _).mono ?_; rintro e wn ⟨rfl, hb⟩; replace HS := hide (And.intro ((unhide HS).1.later hb) ((unhide HS).2.trans (hb.mono (unhide HS).2.size))); clear hb))
    | (go_at_call 42; go_must (refine (unhide H2 _).mono ?_; rintro e wn ⟨rfl, hb⟩; replace HS := hide (And.intro ((unhide HS).1.later hb) ((unhide HS).2.trans (hb.mono (unhide HS).2.size))); clear hb))
    | (go_at_call 94; go_must (refine (unhide HT _).mono ?_; rintro e wl ⟨rfl, hb⟩; have HL : Hid (T2 wl w.heap.size (.int .i64 0) (.int .i64 0) ∧ Below w.heap.size w wl) := ⟨(unhide HS).1.later hb, (unhide HS).2.trans (hb.mono (unhide HS).2.size)⟩; clear hb; have r0 := (unhide HL).1.c0; have r1 := (unhide HL).1.c1; have rf0 := (unhide HL).1.f0; have rf1 := (unhide HL).1.f1)))
  have hS := (unhide HL).1.store (.int .i64 10) (.int .i64 12)
  have hb := below_store2 (unhide HL).2 (Nat.le_refl _) (.int .i64 10) (.int .i64 12)
  have v0 := hS.c0; have v1 := hS.c1
  exact bodyPost_ret (v := .agg #[.int .i64 10, .int .i64 12]) (w := store2 wl w.heap.size (.int .i64 10) (.int .i64 12)) (by simp [results, Tryz.results45, go_sem, v0, v1]) rfl ⟨rfl, hb⟩
set_option maxRecDepth 100000 in
set_option maxHeartbeats 1000000 in
theorem peta_made : Made 46 10 15 := by
  intro w
  have H1 := hide tera_made
  have H2 := hide kilo_made
  unfold Made at H1 H2
  have HT : Hid (∀ W, Calls Tryz.prog 94 #[.agg #[.int .i64 10, .int .i64 12], .agg #[.int .i64 10, .int .i64 3]] W fun r w' => r = .returned (.agg #[.int .i64 10, .int .i64 15]) ∧ Below W.heap.size W w') := fun W => ptimes_any 10 12 10 3 W (by decide) (by decide) (by decide) (by decide)
  obtain ⟨V, hV⟩ : ∃ V, V = w.alloc (.cells #[.int .i64 0, .int .i64 0] 66) := ⟨_, rfl⟩
  have HS : Hid (T2 V w.heap.size (.int .i64 0) (.int .i64 0) ∧ Below w.heap.size w V) := by rw [hV]; exact ⟨⟨by simp [go_sem], by simp [go_sem], by simp [go_sem], by simp [go_sem]⟩, (Below.refl _ _).alloc (Nat.le_refl _) _⟩
  have HV := hide hV
  go_enter Tryz.func46, Tryz.ntmps46
  go_upto_region 1 with fail
  rw [← unhide HV]
  clear hV HV
  go_wp2_with (first
    | (go_at_call 45; go_must (refine (unhide H1 _).mono ?_; rintro e wn ⟨rfl, hb⟩; replace HS := hide (And.intro ((unhide HS).1.later hb) ((unhide HS).2.trans (hb.mono (unhide HS).2.size))); clear hb))
    | (go_at_call 42; go_must (refine (unhide H2 _).mono ?_; rintro e wn ⟨rfl, hb⟩; replace HS := hide (And.intro ((unhide HS).1.later hb) ((unhide HS).2.trans (hb.mono (unhide HS).2.size))); clear hb))
    | (go_at_call 94; go_must (refine (unhide HT _).mono ?_; rintro e wl ⟨rfl, hb⟩; have HL : Hid (T2 wl w.heap.size (.int .i64 0) (.int .i64 0) ∧ Below w.heap.size w wl) := ⟨(unhide HS).1.later hb, (unhide HS).2.trans (hb.mono (unhide HS).2.size)⟩; clear hb; have r0 := (unhide HL).1.c0; have r1 := (unhide HL).1.c1; have rf0 := (unhide HL).1.f0; have rf1 := (unhide HL).1.f1)))
  have hS := (unhide HL).1.store (.int .i64 10) (.int .i64 15)
  have hb := below_store2 (unhide HL).2 (Nat.le_refl _) (.int .i64 10) (.int .i64 15)
  have v0 := hS.c0; have v1 := hS.c1
  exact bodyPost_ret (v := .agg #[.int .i64 10, .int .i64 15]) (w := store2 wl w.heap.size (.int .i64 10) (.int .i64 15)) (by simp [results, Tryz.results46, go_sem, v0, v1]) rfl ⟨rfl, hb⟩
set_option maxRecDepth 100000 in
set_option maxHeartbeats 1000000 in
theorem exa_made : Made 47 10 18 := by
  intro w
  have H1 := hide peta_made
  have H2 := hide kilo_made
  unfold Made at H1 H2
  have HT : Hid (∀ W, Calls Tryz.prog 94 #[.agg #[.int .i64 10, .int .i64 15], .agg #[.int .i64 10, .int .i64 3]] W fun r w' => r = .returned (.agg #[.int .i64 10, .int .i64 18]) ∧ Below W.heap.size W w') := fun W => ptimes_any 10 15 10 3 W (by decide) (by decide) (by decide) (by decide)
  obtain ⟨V, hV⟩ : ∃ V, V = w.alloc (.cells #[.int .i64 0, .int .i64 0] 66) := ⟨_, rfl⟩
  have HS : Hid (T2 V w.heap.size (.int .i64 0) (.int .i64 0) ∧ Below w.heap.size w V) := by rw [hV]; exact ⟨⟨by simp [go_sem], by simp [go_sem], by simp [go_sem], by simp [go_sem]⟩, (Below.refl _ _).alloc (Nat.le_refl _) _⟩
  have HV := hide hV
  go_enter Tryz.func47, Tryz.ntmps47
  go_upto_region 1 with fail
  rw [← unhide HV]
  clear hV HV
  go_wp2_with (first
    | (go_at_call 46; go_must (refine (unhide H1 _).mono ?_; rintro e wn ⟨rfl, hb⟩; replace HS := hide (And.intro ((unhide HS).1.later hb) ((unhide HS).2.trans (hb.mono (unhide HS).2.size))); clear hb))
    | (go_at_call 42; go_must (refine (unhide H2 _).mono ?_; rintro e wn ⟨rfl, hb⟩; replace HS := hide (And.intro ((unhide HS).1.later hb) ((unhide HS).2.trans (hb.mono (unhide HS).2.size))); clear hb))
    | (go_at_call 94; go_must (refine (unhide HT _).mono ?_; rintro e wl ⟨rfl, hb⟩; have HL : Hid (T2 wl w.heap.size (.int .i64 0) (.int .i64 0) ∧ Below w.heap.size w wl) := ⟨(unhide HS).1.later hb, (unhide HS).2.trans (hb.mono (unhide HS).2.size)⟩; clear hb; have r0 := (unhide HL).1.c0; have r1 := (unhide HL).1.c1; have rf0 := (unhide HL).1.f0; have rf1 := (unhide HL).1.f1)))
  have hS := (unhide HL).1.store (.int .i64 10) (.int .i64 18)
  have hb := below_store2 (unhide HL).2 (Nat.le_refl _) (.int .i64 10) (.int .i64 18)
  have v0 := hS.c0; have v1 := hS.c1
  exact bodyPost_ret (v := .agg #[.int .i64 10, .int .i64 18]) (w := store2 wl w.heap.size (.int .i64 10) (.int .i64 18)) (by simp [results, Tryz.results47, go_sem, v0, v1]) rfl ⟨rfl, hb⟩
set_option maxRecDepth 100000 in
set_option maxHeartbeats 1000000 in
theorem zetta_made : Made 48 10 21 := by
  intro w
  have H1 := hide exa_made
  have H2 := hide kilo_made
  unfold Made at H1 H2
  have HT : Hid (∀ W, Calls Tryz.prog 94 #[.agg #[.int .i64 10, .int .i64 18], .agg #[.int .i64 10, .int .i64 3]] W fun r w' => r = .returned (.agg #[.int .i64 10, .int .i64 21]) ∧ Below W.heap.size W w') := fun W => ptimes_any 10 18 10 3 W (by decide) (by decide) (by decide) (by decide)
  obtain ⟨V, hV⟩ : ∃ V, V = w.alloc (.cells #[.int .i64 0, .int .i64 0] 66) := ⟨_, rfl⟩
  have HS : Hid (T2 V w.heap.size (.int .i64 0) (.int .i64 0) ∧ Below w.heap.size w V) := by rw [hV]; exact ⟨⟨by simp [go_sem], by simp [go_sem], by simp [go_sem], by simp [go_sem]⟩, (Below.refl _ _).alloc (Nat.le_refl _) _⟩
  have HV := hide hV
  go_enter Tryz.func48, Tryz.ntmps48
  go_upto_region 1 with fail
  rw [← unhide HV]
  clear hV HV
  go_wp2_with (first
    | (go_at_call 47; go_must (refine (unhide H1 _).mono ?_; rintro e wn ⟨rfl, hb⟩; replace HS := hide (And.intro ((unhide HS).1.later hb) ((unhide HS).2.trans (hb.mono (unhide HS).2.size))); clear hb))
    | (go_at_call 42; go_must (refine (unhide H2 _).mono ?_; rintro e wn ⟨rfl, hb⟩; replace HS := hide (And.intro ((unhide HS).1.later hb) ((unhide HS).2.trans (hb.mono (unhide HS).2.size))); clear hb))
    | (go_at_call 94; go_must (refine (unhide HT _).mono ?_; rintro e wl ⟨rfl, hb⟩; have HL : Hid (T2 wl w.heap.size (.int .i64 0) (.int .i64 0) ∧ Below w.heap.size w wl) := ⟨(unhide HS).1.later hb, (unhide HS).2.trans (hb.mono (unhide HS).2.size)⟩; clear hb; have r0 := (unhide HL).1.c0; have r1 := (unhide HL).1.c1; have rf0 := (unhide HL).1.f0; have rf1 := (unhide HL).1.f1)))
  have hS := (unhide HL).1.store (.int .i64 10) (.int .i64 21)
  have hb := below_store2 (unhide HL).2 (Nat.le_refl _) (.int .i64 10) (.int .i64 21)
  have v0 := hS.c0; have v1 := hS.c1
  exact bodyPost_ret (v := .agg #[.int .i64 10, .int .i64 21]) (w := store2 wl w.heap.size (.int .i64 10) (.int .i64 21)) (by simp [results, Tryz.results48, go_sem, v0, v1]) rfl ⟨rfl, hb⟩
set_option maxRecDepth 100000 in
set_option maxHeartbeats 1000000 in
theorem yotta_made : Made 49 10 24 := by
  intro w
  have H1 := hide zetta_made
  have H2 := hide kilo_made
  unfold Made at H1 H2
  have HT : Hid (∀ W, Calls Tryz.prog 94 #[.agg #[.int .i64 10, .int .i64 21], .agg #[.int .i64 10, .int .i64 3]] W fun r w' => r = .returned (.agg #[.int .i64 10, .int .i64 24]) ∧ Below W.heap.size W w') := fun W => ptimes_any 10 21 10 3 W (by decide) (by decide) (by decide) (by decide)
  obtain ⟨V, hV⟩ : ∃ V, V = w.alloc (.cells #[.int .i64 0, .int .i64 0] 66) := ⟨_, rfl⟩
  have HS : Hid (T2 V w.heap.size (.int .i64 0) (.int .i64 0) ∧ Below w.heap.size w V) := by rw [hV]; exact ⟨⟨by simp [go_sem], by simp [go_sem], by simp [go_sem], by simp [go_sem]⟩, (Below.refl _ _).alloc (Nat.le_refl _) _⟩
  have HV := hide hV
  go_enter Tryz.func49, Tryz.ntmps49
  go_upto_region 1 with fail
  rw [← unhide HV]
  clear hV HV
  go_wp2_with (first
    | (go_at_call 48; go_must (refine (unhide H1 _).mono ?_; rintro e wn ⟨rfl, hb⟩; replace HS := hide (And.intro ((unhide HS).1.later hb) ((unhide HS).2.trans (hb.mono (unhide HS).2.size))); clear hb))
    | (go_at_call 42; go_must (refine (unhide H2 _).mono ?_; rintro e wn ⟨rfl, hb⟩; replace HS := hide (And.intro ((unhide HS).1.later hb) ((unhide HS).2.trans (hb.mono (unhide HS).2.size))); clear hb))
    | (go_at_call 94; go_must (refine (unhide HT _).mono ?_; rintro e wl ⟨rfl, hb⟩; have HL : Hid (T2 wl w.heap.size (.int .i64 0) (.int .i64 0) ∧ Below w.heap.size w wl) := ⟨(unhide HS).1.later hb, (unhide HS).2.trans (hb.mono (unhide HS).2.size)⟩; clear hb; have r0 := (unhide HL).1.c0; have r1 := (unhide HL).1.c1; have rf0 := (unhide HL).1.f0; have rf1 := (unhide HL).1.f1)))
  have hS := (unhide HL).1.store (.int .i64 10) (.int .i64 24)
  have hb := below_store2 (unhide HL).2 (Nat.le_refl _) (.int .i64 10) (.int .i64 24)
  have v0 := hS.c0; have v1 := hS.c1
  exact bodyPost_ret (v := .agg #[.int .i64 10, .int .i64 24]) (w := store2 wl w.heap.size (.int .i64 10) (.int .i64 24)) (by simp [results, Tryz.results49, go_sem, v0, v1]) rfl ⟨rfl, hb⟩
set_option maxRecDepth 100000 in
set_option maxHeartbeats 1000000 in
theorem ronna_made : Made 50 10 27 := by
  intro w
  have H1 := hide yotta_made
  have H2 := hide kilo_made
  unfold Made at H1 H2
  have HT : Hid (∀ W, Calls Tryz.prog 94 #[.agg #[.int .i64 10, .int .i64 24], .agg #[.int .i64 10, .int .i64 3]] W fun r w' => r = .returned (.agg #[.int .i64 10, .int .i64 27]) ∧ Below W.heap.size W w') := fun W => ptimes_any 10 24 10 3 W (by decide) (by decide) (by decide) (by decide)
  obtain ⟨V, hV⟩ : ∃ V, V = w.alloc (.cells #[.int .i64 0, .int .i64 0] 66) := ⟨_, rfl⟩
  have HS : Hid (T2 V w.heap.size (.int .i64 0) (.int .i64 0) ∧ Below w.heap.size w V) := by rw [hV]; exact ⟨⟨by simp [go_sem], by simp [go_sem], by simp [go_sem], by simp [go_sem]⟩, (Below.refl _ _).alloc (Nat.le_refl _) _⟩
  have HV := hide hV
  go_enter Tryz.func50, Tryz.ntmps50
  go_upto_region 1 with fail
  rw [← unhide HV]
  clear hV HV
  go_wp2_with (first
    | (go_at_call 49; go_must (refine (unhide H1 _).mono ?_; rintro e wn ⟨rfl, hb⟩; replace HS := hide (And.intro ((unhide HS).1.later hb) ((unhide HS).2.trans (hb.mono (unhide HS).2.size))); clear hb))
    | (go_at_call 42; go_must (refine (unhide H2 _).mono ?_; rintro e wn ⟨rfl, hb⟩; replace HS := hide (And.intro ((unhide HS).1.later hb) ((unhide HS).2.trans (hb.mono (unhide HS).2.size))); clear hb))
    | (go_at_call 94; go_must (refine (unhide HT _).mono ?_; rintro e wl ⟨rfl, hb⟩; have HL : Hid (T2 wl w.heap.size (.int .i64 0) (.int .i64 0) ∧ Below w.heap.size w wl) := ⟨(unhide HS).1.later hb, (unhide HS).2.trans (hb.mono (unhide HS).2.size)⟩; clear hb; have r0 := (unhide HL).1.c0; have r1 := (unhide HL).1.c1; have rf0 := (unhide HL).1.f0; have rf1 := (unhide HL).1.f1)))
  have hS := (unhide HL).1.store (.int .i64 10) (.int .i64 27)
  have hb := below_store2 (unhide HL).2 (Nat.le_refl _) (.int .i64 10) (.int .i64 27)
  have v0 := hS.c0; have v1 := hS.c1
  exact bodyPost_ret (v := .agg #[.int .i64 10, .int .i64 27]) (w := store2 wl w.heap.size (.int .i64 10) (.int .i64 27)) (by simp [results, Tryz.results50, go_sem, v0, v1]) rfl ⟨rfl, hb⟩
set_option maxRecDepth 100000 in
set_option maxHeartbeats 1000000 in
theorem quetta_made : Made 51 10 30 := by
  intro w
  have H1 := hide ronna_made
  have H2 := hide kilo_made
  unfold Made at H1 H2
  have HT : Hid (∀ W, Calls Tryz.prog 94 #[.agg #[.int .i64 10, .int .i64 27], .agg #[.int .i64 10, .int .i64 3]] W fun r w' => r = .returned (.agg #[.int .i64 10, .int .i64 30]) ∧ Below W.heap.size W w') := fun W => ptimes_any 10 27 10 3 W (by decide) (by decide) (by decide) (by decide)
  obtain ⟨V, hV⟩ : ∃ V, V = w.alloc (.cells #[.int .i64 0, .int .i64 0] 66) := ⟨_, rfl⟩
  have HS : Hid (T2 V w.heap.size (.int .i64 0) (.int .i64 0) ∧ Below w.heap.size w V) := by rw [hV]; exact ⟨⟨by simp [go_sem], by simp [go_sem], by simp [go_sem], by simp [go_sem]⟩, (Below.refl _ _).alloc (Nat.le_refl _) _⟩
  have HV := hide hV
  go_enter Tryz.func51, Tryz.ntmps51
  go_upto_region 1 with fail
  rw [← unhide HV]
  clear hV HV
  go_wp2_with (first
    | (go_at_call 50; go_must (refine (unhide H1 _).mono ?_; rintro e wn ⟨rfl, hb⟩; replace HS := hide (And.intro ((unhide HS).1.later hb) ((unhide HS).2.trans (hb.mono (unhide HS).2.size))); clear hb))
    | (go_at_call 42; go_must (refine (unhide H2 _).mono ?_; rintro e wn ⟨rfl, hb⟩; replace HS := hide (And.intro ((unhide HS).1.later hb) ((unhide HS).2.trans (hb.mono (unhide HS).2.size))); clear hb))
    | (go_at_call 94; go_must (refine (unhide HT _).mono ?_; rintro e wl ⟨rfl, hb⟩; have HL : Hid (T2 wl w.heap.size (.int .i64 0) (.int .i64 0) ∧ Below w.heap.size w wl) := ⟨(unhide HS).1.later hb, (unhide HS).2.trans (hb.mono (unhide HS).2.size)⟩; clear hb; have r0 := (unhide HL).1.c0; have r1 := (unhide HL).1.c1; have rf0 := (unhide HL).1.f0; have rf1 := (unhide HL).1.f1)))
  have hS := (unhide HL).1.store (.int .i64 10) (.int .i64 30)
  have hb := below_store2 (unhide HL).2 (Nat.le_refl _) (.int .i64 10) (.int .i64 30)
  have v0 := hS.c0; have v1 := hS.c1
  exact bodyPost_ret (v := .agg #[.int .i64 10, .int .i64 30]) (w := store2 wl w.heap.size (.int .i64 10) (.int .i64 30)) (by simp [results, Tryz.results51, go_sem, v0, v1]) rfl ⟨rfl, hb⟩
set_option maxRecDepth 100000 in
set_option maxHeartbeats 1000000 in
theorem deci_made : Made 52 10 (-1) := by
  intro w
  have H1 := hide deca_made
  unfold Made at H1
  have HT : Hid (∀ W, Calls Tryz.prog 95 #[.agg #[.int .i64 10, .int .i64 1]] W fun r w' => r = .returned (.agg #[.int .i64 10, .int .i64 (-1)]) ∧ Below W.heap.size W w') := fun W => pinverse_any 10 1 W (by decide) (by decide)
  obtain ⟨V, hV⟩ : ∃ V, V = w.alloc (.cells #[.int .i64 0, .int .i64 0] 66) := ⟨_, rfl⟩
  have HS : Hid (T2 V w.heap.size (.int .i64 0) (.int .i64 0) ∧ Below w.heap.size w V) := by rw [hV]; exact ⟨⟨by simp [go_sem], by simp [go_sem], by simp [go_sem], by simp [go_sem]⟩, (Below.refl _ _).alloc (Nat.le_refl _) _⟩
  have HV := hide hV
  go_enter Tryz.func52, Tryz.ntmps52
  go_upto_region 1 with fail
  rw [← unhide HV]
  clear hV HV
  go_wp2_with (first
    | (go_at_call 40; go_must (refine (unhide H1 _).mono ?_; rintro e wn ⟨rfl, hb⟩; replace HS := hide (And.intro ((unhide HS).1.later hb) ((unhide HS).2.trans (hb.mono (unhide HS).2.size))); clear hb))
    | (go_at_call 95; go_must (refine (unhide HT _).mono ?_; rintro e wl ⟨rfl, hb⟩; have HL : Hid (T2 wl w.heap.size (.int .i64 0) (.int .i64 0) ∧ Below w.heap.size w wl) := ⟨(unhide HS).1.later hb, (unhide HS).2.trans (hb.mono (unhide HS).2.size)⟩; clear hb; have r0 := (unhide HL).1.c0; have r1 := (unhide HL).1.c1; have rf0 := (unhide HL).1.f0; have rf1 := (unhide HL).1.f1)))
  have hS := (unhide HL).1.store (.int .i64 10) (.int .i64 (-1))
  have hb := below_store2 (unhide HL).2 (Nat.le_refl _) (.int .i64 10) (.int .i64 (-1))
  have v0 := hS.c0; have v1 := hS.c1
  exact bodyPost_ret (v := .agg #[.int .i64 10, .int .i64 (-1)]) (w := store2 wl w.heap.size (.int .i64 10) (.int .i64 (-1))) (by simp [results, Tryz.results52, go_sem, v0, v1]) rfl ⟨rfl, hb⟩
set_option maxRecDepth 100000 in
set_option maxHeartbeats 1000000 in
theorem centi_made : Made 53 10 (-2) := by
  intro w
  have H1 := hide hecto_made
  unfold Made at H1
  have HT : Hid (∀ W, Calls Tryz.prog 95 #[.agg #[.int .i64 10, .int .i64 2]] W fun r w' => r = .returned (.agg #[.int .i64 10, .int .i64 (-2)]) ∧ Below W.heap.size W w') := fun W => pinverse_any 10 2 W (by decide) (by decide)
  obtain ⟨V, hV⟩ : ∃ V, V = w.alloc (.cells #[.int .i64 0, .int .i64 0] 66) := ⟨_, rfl⟩
  have HS : Hid (T2 V w.heap.size (.int .i64 0) (.int .i64 0) ∧ Below w.heap.size w V) := by rw [hV]; exact ⟨⟨by simp [go_sem], by simp [go_sem], by simp [go_sem], by simp [go_sem]⟩, (Below.refl _ _).alloc (Nat.le_refl _) _⟩
  have HV := hide hV
  go_enter Tryz.func53, Tryz.ntmps53
  go_upto_region 1 with fail
  rw [← unhide HV]
  clear hV HV
  go_wp2_with (first
    | (go_at_call 41; go_must (refine (unhide H1 _).mono ?_; rintro e wn ⟨rfl, hb⟩; replace HS := hide (And.intro ((unhide HS).1.later hb) ((unhide HS).2.trans (hb.mono (unhide HS).2.size))); clear hb))
    | (go_at_call 95; go_must (refine (unhide HT _).mono ?_; rintro e wl ⟨rfl, hb⟩; have HL : Hid (T2 wl w.heap.size (.int .i64 0) (.int .i64 0) ∧ Below w.heap.size w wl) := ⟨(unhide HS).1.later hb, (unhide HS).2.trans (hb.mono (unhide HS).2.size)⟩; clear hb; have r0 := (unhide HL).1.c0; have r1 := (unhide HL).1.c1; have rf0 := (unhide HL).1.f0; have rf1 := (unhide HL).1.f1)))
  have hS := (unhide HL).1.store (.int .i64 10) (.int .i64 (-2))
  have hb := below_store2 (unhide HL).2 (Nat.le_refl _) (.int .i64 10) (.int .i64 (-2))
  have v0 := hS.c0; have v1 := hS.c1
  exact bodyPost_ret (v := .agg #[.int .i64 10, .int .i64 (-2)]) (w := store2 wl w.heap.size (.int .i64 10) (.int .i64 (-2))) (by simp [results, Tryz.results53, go_sem, v0, v1]) rfl ⟨rfl, hb⟩
set_option maxRecDepth 100000 in
set_option maxHeartbeats 1000000 in
theorem milli_made : Made 54 10 (-3) := by
  intro w
  have H1 := hide kilo_made
  unfold Made at H1
  have HT : Hid (∀ W, Calls Tryz.prog 95 #[.agg #[.int .i64 10, .int .i64 3]] W fun r w' => r = .returned (.agg #[.int .i64 10, .int .i64 (-3)]) ∧ Below W.heap.size W w') := fun W => pinverse_any 10 3 W (by decide) (by decide)
  obtain ⟨V, hV⟩ : ∃ V, V = w.alloc (.cells #[.int .i64 0, .int .i64 0] 66) := ⟨_, rfl⟩
  have HS : Hid (T2 V w.heap.size (.int .i64 0) (.int .i64 0) ∧ Below w.heap.size w V) := by rw [hV]; exact ⟨⟨by simp [go_sem], by simp [go_sem], by simp [go_sem], by simp [go_sem]⟩, (Below.refl _ _).alloc (Nat.le_refl _) _⟩
  have HV := hide hV
  go_enter Tryz.func54, Tryz.ntmps54
  go_upto_region 1 with fail
  rw [← unhide HV]
  clear hV HV
  go_wp2_with (first
    | (go_at_call 42; go_must (refine (unhide H1 _).mono ?_; rintro e wn ⟨rfl, hb⟩; replace HS := hide (And.intro ((unhide HS).1.later hb) ((unhide HS).2.trans (hb.mono (unhide HS).2.size))); clear hb))
    | (go_at_call 95; go_must (refine (unhide HT _).mono ?_; rintro e wl ⟨rfl, hb⟩; have HL : Hid (T2 wl w.heap.size (.int .i64 0) (.int .i64 0) ∧ Below w.heap.size w wl) := ⟨(unhide HS).1.later hb, (unhide HS).2.trans (hb.mono (unhide HS).2.size)⟩; clear hb; have r0 := (unhide HL).1.c0; have r1 := (unhide HL).1.c1; have rf0 := (unhide HL).1.f0; have rf1 := (unhide HL).1.f1)))
  have hS := (unhide HL).1.store (.int .i64 10) (.int .i64 (-3))
  have hb := below_store2 (unhide HL).2 (Nat.le_refl _) (.int .i64 10) (.int .i64 (-3))
  have v0 := hS.c0; have v1 := hS.c1
  exact bodyPost_ret (v := .agg #[.int .i64 10, .int .i64 (-3)]) (w := store2 wl w.heap.size (.int .i64 10) (.int .i64 (-3))) (by simp [results, Tryz.results54, go_sem, v0, v1]) rfl ⟨rfl, hb⟩
set_option maxRecDepth 100000 in
set_option maxHeartbeats 1000000 in
theorem micro_made : Made 55 10 (-6) := by
  intro w
  have H1 := hide mega_made
  unfold Made at H1
  have HT : Hid (∀ W, Calls Tryz.prog 95 #[.agg #[.int .i64 10, .int .i64 6]] W fun r w' => r = .returned (.agg #[.int .i64 10, .int .i64 (-6)]) ∧ Below W.heap.size W w') := fun W => pinverse_any 10 6 W (by decide) (by decide)
  obtain ⟨V, hV⟩ : ∃ V, V = w.alloc (.cells #[.int .i64 0, .int .i64 0] 66) := ⟨_, rfl⟩
  have HS : Hid (T2 V w.heap.size (.int .i64 0) (.int .i64 0) ∧ Below w.heap.size w V) := by rw [hV]; exact ⟨⟨by simp [go_sem], by simp [go_sem], by simp [go_sem], by simp [go_sem]⟩, (Below.refl _ _).alloc (Nat.le_refl _) _⟩
  have HV := hide hV
  go_enter Tryz.func55, Tryz.ntmps55
  go_upto_region 1 with fail
  rw [← unhide HV]
  clear hV HV
  go_wp2_with (first
    | (go_at_call 43; go_must (refine (unhide H1 _).mono ?_; rintro e wn ⟨rfl, hb⟩; replace HS := hide (And.intro ((unhide HS).1.later hb) ((unhide HS).2.trans (hb.mono (unhide HS).2.size))); clear hb))
    | (go_at_call 95; go_must (refine (unhide HT _).mono ?_; rintro e wl ⟨rfl, hb⟩; have HL : Hid (T2 wl w.heap.size (.int .i64 0) (.int .i64 0) ∧ Below w.heap.size w wl) := ⟨(unhide HS).1.later hb, (unhide HS).2.trans (hb.mono (unhide HS).2.size)⟩; clear hb; have r0 := (unhide HL).1.c0; have r1 := (unhide HL).1.c1; have rf0 := (unhide HL).1.f0; have rf1 := (unhide HL).1.f1)))
  have hS := (unhide HL).1.store (.int .i64 10) (.int .i64 (-6))
  have hb := below_store2 (unhide HL).2 (Nat.le_refl _) (.int .i64 10) (.int .i64 (-6))
  have v0 := hS.c0; have v1 := hS.c1
  exact bodyPost_ret (v := .agg #[.int .i64 10, .int .i64 (-6)]) (w := store2 wl w.heap.size (.int .i64 10) (.int .i64 (-6))) (by simp [results, Tryz.results55, go_sem, v0, v1]) rfl ⟨rfl, hb⟩
set_option maxRecDepth 100000 in
set_option maxHeartbeats 1000000 in
theorem nano_made : Made 56 10 (-9) := by
  intro w
  have H1 := hide giga_made
  unfold Made at H1
  have HT : Hid (∀ W, Calls Tryz.prog 95 #[.agg #[.int .i64 10, .int .i64 9]] W fun r w' => r = .returned (.agg #[.int .i64 10, .int .i64 (-9)]) ∧ Below W.heap.size W w') := fun W => pinverse_any 10 9 W (by decide) (by decide)
  obtain ⟨V, hV⟩ : ∃ V, V = w.alloc (.cells #[.int .i64 0, .int .i64 0] 66) := ⟨_, rfl⟩
  have HS : Hid (T2 V w.heap.size (.int .i64 0) (.int .i64 0) ∧ Below w.heap.size w V) := by rw [hV]; exact ⟨⟨by simp [go_sem], by simp [go_sem], by simp [go_sem], by simp [go_sem]⟩, (Below.refl _ _).alloc (Nat.le_refl _) _⟩
  have HV := hide hV
  go_enter Tryz.func56, Tryz.ntmps56
  go_upto_region 1 with fail
  rw [← unhide HV]
  clear hV HV
  go_wp2_with (first
    | (go_at_call 44; go_must (refine (unhide H1 _).mono ?_; rintro e wn ⟨rfl, hb⟩; replace HS := hide (And.intro ((unhide HS).1.later hb) ((unhide HS).2.trans (hb.mono (unhide HS).2.size))); clear hb))
    | (go_at_call 95; go_must (refine (unhide HT _).mono ?_; rintro e wl ⟨rfl, hb⟩; have HL : Hid (T2 wl w.heap.size (.int .i64 0) (.int .i64 0) ∧ Below w.heap.size w wl) := ⟨(unhide HS).1.later hb, (unhide HS).2.trans (hb.mono (unhide HS).2.size)⟩; clear hb; have r0 := (unhide HL).1.c0; have r1 := (unhide HL).1.c1; have rf0 := (unhide HL).1.f0; have rf1 := (unhide HL).1.f1)))
  have hS := (unhide HL).1.store (.int .i64 10) (.int .i64 (-9))
  have hb := below_store2 (unhide HL).2 (Nat.le_refl _) (.int .i64 10) (.int .i64 (-9))
  have v0 := hS.c0; have v1 := hS.c1
  exact bodyPost_ret (v := .agg #[.int .i64 10, .int .i64 (-9)]) (w := store2 wl w.heap.size (.int .i64 10) (.int .i64 (-9))) (by simp [results, Tryz.results56, go_sem, v0, v1]) rfl ⟨rfl, hb⟩
set_option maxRecDepth 100000 in
set_option maxHeartbeats 1000000 in
theorem pico_made : Made 57 10 (-12) := by
  intro w
  have H1 := hide tera_made
  unfold Made at H1
  have HT : Hid (∀ W, Calls Tryz.prog 95 #[.agg #[.int .i64 10, .int .i64 12]] W fun r w' => r = .returned (.agg #[.int .i64 10, .int .i64 (-12)]) ∧ Below W.heap.size W w') := fun W => pinverse_any 10 12 W (by decide) (by decide)
  obtain ⟨V, hV⟩ : ∃ V, V = w.alloc (.cells #[.int .i64 0, .int .i64 0] 66) := ⟨_, rfl⟩
  have HS : Hid (T2 V w.heap.size (.int .i64 0) (.int .i64 0) ∧ Below w.heap.size w V) := by rw [hV]; exact ⟨⟨by simp [go_sem], by simp [go_sem], by simp [go_sem], by simp [go_sem]⟩, (Below.refl _ _).alloc (Nat.le_refl _) _⟩
  have HV := hide hV
  go_enter Tryz.func57, Tryz.ntmps57
  go_upto_region 1 with fail
  rw [← unhide HV]
  clear hV HV
  go_wp2_with (first
    | (go_at_call 45; go_must (refine (unhide H1 _).mono ?_; rintro e wn ⟨rfl, hb⟩; replace HS := hide (And.intro ((unhide HS).1.later hb) ((unhide HS).2.trans (hb.mono (unhide HS).2.size))); clear hb))
    | (go_at_call 95; go_must (refine (unhide HT _).mono ?_; rintro e wl ⟨rfl, hb⟩; have HL : Hid (T2 wl w.heap.size (.int .i64 0) (.int .i64 0) ∧ Below w.heap.size w wl) := ⟨(unhide HS).1.later hb, (unhide HS).2.trans (hb.mono (unhide HS).2.size)⟩; clear hb; have r0 := (unhide HL).1.c0; have r1 := (unhide HL).1.c1; have rf0 := (unhide HL).1.f0; have rf1 := (unhide HL).1.f1)))
  have hS := (unhide HL).1.store (.int .i64 10) (.int .i64 (-12))
  have hb := below_store2 (unhide HL).2 (Nat.le_refl _) (.int .i64 10) (.int .i64 (-12))
  have v0 := hS.c0; have v1 := hS.c1
  exact bodyPost_ret (v := .agg #[.int .i64 10, .int .i64 (-12)]) (w := store2 wl w.heap.size (.int .i64 10) (.int .i64 (-12))) (by simp [results, Tryz.results57, go_sem, v0, v1]) rfl ⟨rfl, hb⟩
set_option maxRecDepth 100000 in
set_option maxHeartbeats 1000000 in
theorem femto_made : Made 58 10 (-15) := by
  intro w
  have H1 := hide peta_made
  unfold Made at H1
  have HT : Hid (∀ W, Calls Tryz.prog 95 #[.agg #[.int .i64 10, .int .i64 15]] W fun r w' => r = .returned (.agg #[.int .i64 10, .int .i64 (-15)]) ∧ Below W.heap.size W w') := fun W => pinverse_any 10 15 W (by decide) (by decide)
  obtain ⟨V, hV⟩ : ∃ V, V = w.alloc (.cells #[.int .i64 0, .int .i64 0] 66) := ⟨_, rfl⟩
  have HS : Hid (T2 V w.heap.size (.int .i64 0) (.int .i64 0) ∧ Below w.heap.size w V) := by rw [hV]; exact ⟨⟨by simp [go_sem], by simp [go_sem], by simp [go_sem], by simp [go_sem]⟩, (Below.refl _ _).alloc (Nat.le_refl _) _⟩
  have HV := hide hV
  go_enter Tryz.func58, Tryz.ntmps58
  go_upto_region 1 with fail
  rw [← unhide HV]
  clear hV HV
  go_wp2_with (first
    | (go_at_call 46; go_must (refine (unhide H1 _).mono ?_; rintro e wn ⟨rfl, hb⟩; replace HS := hide (And.intro ((unhide HS).1.later hb) ((unhide HS).2.trans (hb.mono (unhide HS).2.size))); clear hb))
    | (go_at_call 95; go_must (refine (unhide HT _).mono ?_; rintro e wl ⟨rfl, hb⟩; have HL : Hid (T2 wl w.heap.size (.int .i64 0) (.int .i64 0) ∧ Below w.heap.size w wl) := ⟨(unhide HS).1.later hb, (unhide HS).2.trans (hb.mono (unhide HS).2.size)⟩; clear hb; have r0 := (unhide HL).1.c0; have r1 := (unhide HL).1.c1; have rf0 := (unhide HL).1.f0; have rf1 := (unhide HL).1.f1)))
  have hS := (unhide HL).1.store (.int .i64 10) (.int .i64 (-15))
  have hb := below_store2 (unhide HL).2 (Nat.le_refl _) (.int .i64 10) (.int .i64 (-15))
  have v0 := hS.c0; have v1 := hS.c1
  exact bodyPost_ret (v := .agg #[.int .i64 10, .int .i64 (-15)]) (w := store2 wl w.heap.size (.int .i64 10) (.int .i64 (-15))) (by simp [results, Tryz.results58, go_sem, v0, v1]) rfl ⟨rfl, hb⟩
set_option maxRecDepth 100000 in
set_option maxHeartbeats 1000000 in
theorem atto_made : Made 59 10 (-18) := by
  intro w
  have H1 := hide exa_made
  unfold Made at H1
  have HT : Hid (∀ W, Calls Tryz.prog 95 #[.agg #[.int .i64 10, .int .i64 18]] W fun r w' => r = .returned (.agg #[.int .i64 10, .int .i64 (-18)]) ∧ Below W.heap.size W w') := fun W => pinverse_any 10 18 W (by decide) (by decide)
  obtain ⟨V, hV⟩ : ∃ V, V = w.alloc (.cells #[.int .i64 0, .int .i64 0] 66) := ⟨_, rfl⟩
  have HS : Hid (T2 V w.heap.size (.int .i64 0) (.int .i64 0) ∧ Below w.heap.size w V) := by rw [hV]; exact ⟨⟨by simp [go_sem], by simp [go_sem], by simp [go_sem], by simp [go_sem]⟩, (Below.refl _ _).alloc (Nat.le_refl _) _⟩
  have HV := hide hV
  go_enter Tryz.func59, Tryz.ntmps59
  go_upto_region 1 with fail
  rw [← unhide HV]
  clear hV HV
  go_wp2_with (first
    | (go_at_call 47; go_must (refine (unhide H1 _).mono ?_; rintro e wn ⟨rfl, hb⟩; replace HS := hide (And.intro ((unhide HS).1.later hb) ((unhide HS).2.trans (hb.mono (unhide HS).2.size))); clear hb))
    | (go_at_call 95; go_must (refine (unhide HT _).mono ?_; rintro e wl ⟨rfl, hb⟩; have HL : Hid (T2 wl w.heap.size (.int .i64 0) (.int .i64 0) ∧ Below w.heap.size w wl) := ⟨(unhide HS).1.later hb, (unhide HS).2.trans (hb.mono (unhide HS).2.size)⟩; clear hb; have r0 := (unhide HL).1.c0; have r1 := (unhide HL).1.c1; have rf0 := (unhide HL).1.f0; have rf1 := (unhide HL).1.f1)))
  have hS := (unhide HL).1.store (.int .i64 10) (.int .i64 (-18))
  have hb := below_store2 (unhide HL).2 (Nat.le_refl _) (.int .i64 10) (.int .i64 (-18))
  have v0 := hS.c0; have v1 := hS.c1
  exact bodyPost_ret (v := .agg #[.int .i64 10, .int .i64 (-18)]) (w := store2 wl w.heap.size (.int .i64 10) (.int .i64 (-18))) (by simp [results, Tryz.results59, go_sem, v0, v1]) rfl ⟨rfl, hb⟩
set_option maxRecDepth 100000 in
set_option maxHeartbeats 1000000 in
theorem zepto_made : Made 60 10 (-21) := by
  intro w
  have H1 := hide zetta_made
  unfold Made at H1
  have HT : Hid (∀ W, Calls Tryz.prog 95 #[.agg #[.int .i64 10, .int .i64 21]] W fun r w' => r = .returned (.agg #[.int .i64 10, .int .i64 (-21)]) ∧ Below W.heap.size W w') := fun W => pinverse_any 10 21 W (by decide) (by decide)
  obtain ⟨V, hV⟩ : ∃ V, V = w.alloc (.cells #[.int .i64 0, .int .i64 0] 66) := ⟨_, rfl⟩
  have HS : Hid (T2 V w.heap.size (.int .i64 0) (.int .i64 0) ∧ Below w.heap.size w V) := by rw [hV]; exact ⟨⟨by simp [go_sem], by simp [go_sem], by simp [go_sem], by simp [go_sem]⟩, (Below.refl _ _).alloc (Nat.le_refl _) _⟩
  have HV := hide hV
  go_enter Tryz.func60, Tryz.ntmps60
  go_upto_region 1 with fail
  rw [← unhide HV]
  clear hV HV
  go_wp2_with (first
    | (go_at_call 48; go_must (refine (unhide H1 _).mono ?_; rintro e wn ⟨rfl, hb⟩; replace HS := hide (And.intro ((unhide HS).1.later hb) ((unhide HS).2.trans (hb.mono (unhide HS).2.size))); clear hb))
    | (go_at_call 95; go_must (refine (unhide HT _).mono ?_; rintro e wl ⟨rfl, hb⟩; have HL : Hid (T2 wl w.heap.size (.int .i64 0) (.int .i64 0) ∧ Below w.heap.size w wl) := ⟨(unhide HS).1.later hb, (unhide HS).2.trans (hb.mono (unhide HS).2.size)⟩; clear hb; have r0 := (unhide HL).1.c0; have r1 := (unhide HL).1.c1; have rf0 := (unhide HL).1.f0; have rf1 := (unhide HL).1.f1)))
  have hS := (unhide HL).1.store (.int .i64 10) (.int .i64 (-21))
  have hb := below_store2 (unhide HL).2 (Nat.le_refl _) (.int .i64 10) (.int .i64 (-21))
  have v0 := hS.c0; have v1 := hS.c1
  exact bodyPost_ret (v := .agg #[.int .i64 10, .int .i64 (-21)]) (w := store2 wl w.heap.size (.int .i64 10) (.int .i64 (-21))) (by simp [results, Tryz.results60, go_sem, v0, v1]) rfl ⟨rfl, hb⟩
set_option maxRecDepth 100000 in
set_option maxHeartbeats 1000000 in
theorem yocto_made : Made 61 10 (-24) := by
  intro w
  have H1 := hide yotta_made
  unfold Made at H1
  have HT : Hid (∀ W, Calls Tryz.prog 95 #[.agg #[.int .i64 10, .int .i64 24]] W fun r w' => r = .returned (.agg #[.int .i64 10, .int .i64 (-24)]) ∧ Below W.heap.size W w') := fun W => pinverse_any 10 24 W (by decide) (by decide)
  obtain ⟨V, hV⟩ : ∃ V, V = w.alloc (.cells #[.int .i64 0, .int .i64 0] 66) := ⟨_, rfl⟩
  have HS : Hid (T2 V w.heap.size (.int .i64 0) (.int .i64 0) ∧ Below w.heap.size w V) := by rw [hV]; exact ⟨⟨by simp [go_sem], by simp [go_sem], by simp [go_sem], by simp [go_sem]⟩, (Below.refl _ _).alloc (Nat.le_refl _) _⟩
  have HV := hide hV
  go_enter Tryz.func61, Tryz.ntmps61
  go_upto_region 1 with fail
  rw [← unhide HV]
  clear hV HV
  go_wp2_with (first
    | (go_at_call 49; go_must (refine (unhide H1 _).mono ?_; rintro e wn ⟨rfl, hb⟩; replace HS := hide (And.intro ((unhide HS).1.later hb) ((unhide HS).2.trans (hb.mono (unhide HS).2.size))); clear hb))
    | (go_at_call 95; go_must (refine (unhide HT _).mono ?_; rintro e wl ⟨rfl, hb⟩; have HL : Hid (T2 wl w.heap.size (.int .i64 0) (.int .i64 0) ∧ Below w.heap.size w wl) := ⟨(unhide HS).1.later hb, (unhide HS).2.trans (hb.mono (unhide HS).2.size)⟩; clear hb; have r0 := (unhide HL).1.c0; have r1 := (unhide HL).1.c1; have rf0 := (unhide HL).1.f0; have rf1 := (unhide HL).1.f1)))
  have hS := (unhide HL).1.store (.int .i64 10) (.int .i64 (-24))
  have hb := below_store2 (unhide HL).2 (Nat.le_refl _) (.int .i64 10) (.int .i64 (-24))
  have v0 := hS.c0; have v1 := hS.c1
  exact bodyPost_ret (v := .agg #[.int .i64 10, .int .i64 (-24)]) (w := store2 wl w.heap.size (.int .i64 10) (.int .i64 (-24))) (by simp [results, Tryz.results61, go_sem, v0, v1]) rfl ⟨rfl, hb⟩
set_option maxRecDepth 100000 in
set_option maxHeartbeats 1000000 in
theorem ronto_made : Made 62 10 (-27) := by
  intro w
  have H1 := hide ronna_made
  unfold Made at H1
  have HT : Hid (∀ W, Calls Tryz.prog 95 #[.agg #[.int .i64 10, .int .i64 27]] W fun r w' => r = .returned (.agg #[.int .i64 10, .int .i64 (-27)]) ∧ Below W.heap.size W w') := fun W => pinverse_any 10 27 W (by decide) (by decide)
  obtain ⟨V, hV⟩ : ∃ V, V = w.alloc (.cells #[.int .i64 0, .int .i64 0] 66) := ⟨_, rfl⟩
  have HS : Hid (T2 V w.heap.size (.int .i64 0) (.int .i64 0) ∧ Below w.heap.size w V) := by rw [hV]; exact ⟨⟨by simp [go_sem], by simp [go_sem], by simp [go_sem], by simp [go_sem]⟩, (Below.refl _ _).alloc (Nat.le_refl _) _⟩
  have HV := hide hV
  go_enter Tryz.func62, Tryz.ntmps62
  go_upto_region 1 with fail
  rw [← unhide HV]
  clear hV HV
  go_wp2_with (first
    | (go_at_call 50; go_must (refine (unhide H1 _).mono ?_; rintro e wn ⟨rfl, hb⟩; replace HS := hide (And.intro ((unhide HS).1.later hb) ((unhide HS).2.trans (hb.mono (unhide HS).2.size))); clear hb))
    | (go_at_call 95; go_must (refine (unhide HT _).mono ?_; rintro e wl ⟨rfl, hb⟩; have HL : Hid (T2 wl w.heap.size (.int .i64 0) (.int .i64 0) ∧ Below w.heap.size w wl) := ⟨(unhide HS).1.later hb, (unhide HS).2.trans (hb.mono (unhide HS).2.size)⟩; clear hb; have r0 := (unhide HL).1.c0; have r1 := (unhide HL).1.c1; have rf0 := (unhide HL).1.f0; have rf1 := (unhide HL).1.f1)))
  have hS := (unhide HL).1.store (.int .i64 10) (.int .i64 (-27))
  have hb := below_store2 (unhide HL).2 (Nat.le_refl _) (.int .i64 10) (.int .i64 (-27))
  have v0 := hS.c0; have v1 := hS.c1
  exact bodyPost_ret (v := .agg #[.int .i64 10, .int .i64 (-27)]) (w := store2 wl w.heap.size (.int .i64 10) (.int .i64 (-27))) (by simp [results, Tryz.results62, go_sem, v0, v1]) rfl ⟨rfl, hb⟩
set_option maxRecDepth 100000 in
set_option maxHeartbeats 1000000 in
theorem quecto_made : Made 63 10 (-30) := by
  intro w
  have H1 := hide quetta_made
  unfold Made at H1
  have HT : Hid (∀ W, Calls Tryz.prog 95 #[.agg #[.int .i64 10, .int .i64 30]] W fun r w' => r = .returned (.agg #[.int .i64 10, .int .i64 (-30)]) ∧ Below W.heap.size W w') := fun W => pinverse_any 10 30 W (by decide) (by decide)
  obtain ⟨V, hV⟩ : ∃ V, V = w.alloc (.cells #[.int .i64 0, .int .i64 0] 66) := ⟨_, rfl⟩
  have HS : Hid (T2 V w.heap.size (.int .i64 0) (.int .i64 0) ∧ Below w.heap.size w V) := by rw [hV]; exact ⟨⟨by simp [go_sem], by simp [go_sem], by simp [go_sem], by simp [go_sem]⟩, (Below.refl _ _).alloc (Nat.le_refl _) _⟩
  have HV := hide hV
  go_enter Tryz.func63, Tryz.ntmps63
  go_upto_region 1 with fail
  rw [← unhide HV]
  clear hV HV
  go_wp2_with (first
    | (go_at_call 51; go_must (refine (unhide H1 _).mono ?_; rintro e wn ⟨rfl, hb⟩; replace HS := hide (And.intro ((unhide HS).1.later hb) ((unhide HS).2.trans (hb.mono (unhide HS).2.size))); clear hb))
    | (go_at_call 95; go_must (refine (unhide HT _).mono ?_; rintro e wl ⟨rfl, hb⟩; have HL : Hid (T2 wl w.heap.size (.int .i64 0) (.int .i64 0) ∧ Below w.heap.size w wl) := ⟨(unhide HS).1.later hb, (unhide HS).2.trans (hb.mono (unhide HS).2.size)⟩; clear hb; have r0 := (unhide HL).1.c0; have r1 := (unhide HL).1.c1; have rf0 := (unhide HL).1.f0; have rf1 := (unhide HL).1.f1)))
  have hS := (unhide HL).1.store (.int .i64 10) (.int .i64 (-30))
  have hb := below_store2 (unhide HL).2 (Nat.le_refl _) (.int .i64 10) (.int .i64 (-30))
  have v0 := hS.c0; have v1 := hS.c1
  exact bodyPost_ret (v := .agg #[.int .i64 10, .int .i64 (-30)]) (w := store2 wl w.heap.size (.int .i64 10) (.int .i64 (-30))) (by simp [results, Tryz.results63, go_sem, v0, v1]) rfl ⟨rfl, hb⟩
set_option maxRecDepth 100000 in
set_option maxHeartbeats 1000000 in
theorem kibi_made : Made 64 1024 1 := by
  intro w
  go_enter Tryz.func64, Tryz.ntmps64
  go_wp2
  exact bodyPost_ret (v := .agg #[.int .i64 1024, .int .i64 1]) (by simp [results, Tryz.results64, go_sem]) rfl ⟨rfl, (Below.refl _ _).alloc (Nat.le_refl _) _⟩
set_option maxRecDepth 100000 in
set_option maxHeartbeats 1000000 in
theorem mebi_made : Made 65 1024 2 := by
  intro w
  have H1 := hide kibi_made
  have H2 := hide kibi_made
  unfold Made at H1 H2
  have HT : Hid (∀ W, Calls Tryz.prog 94 #[.agg #[.int .i64 1024, .int .i64 1], .agg #[.int .i64 1024, .int .i64 1]] W fun r w' => r = .returned (.agg #[.int .i64 1024, .int .i64 2]) ∧ Below W.heap.size W w') := fun W => ptimes_any 1024 1 1024 1 W (by decide) (by decide) (by decide) (by decide)
  obtain ⟨V, hV⟩ : ∃ V, V = w.alloc (.cells #[.int .i64 0, .int .i64 0] 66) := ⟨_, rfl⟩
  have HS : Hid (T2 V w.heap.size (.int .i64 0) (.int .i64 0) ∧ Below w.heap.size w V) := by rw [hV]; exact ⟨⟨by simp [go_sem], by simp [go_sem], by simp [go_sem], by simp [go_sem]⟩, (Below.refl _ _).alloc (Nat.le_refl _) _⟩
  have HV := hide hV
  go_enter Tryz.func65, Tryz.ntmps65
  go_upto_region 1 with fail
  rw [← unhide HV]
  clear hV HV
  go_wp2_with (first
    | (go_at_call 64; go_must (refine (unhide H1 _).mono ?_; rintro e wn ⟨rfl, hb⟩; replace HS := hide (And.intro ((unhide HS).1.later hb) ((unhide HS).2.trans (hb.mono (unhide HS).2.size))); clear hb))
    | (go_at_call 94; go_must (refine (unhide HT _).mono ?_; rintro e wl ⟨rfl, hb⟩; have HL : Hid (T2 wl w.heap.size (.int .i64 0) (.int .i64 0) ∧ Below w.heap.size w wl) := ⟨(unhide HS).1.later hb, (unhide HS).2.trans (hb.mono (unhide HS).2.size)⟩; clear hb; have r0 := (unhide HL).1.c0; have r1 := (unhide HL).1.c1; have rf0 := (unhide HL).1.f0; have rf1 := (unhide HL).1.f1)))
  have hS := (unhide HL).1.store (.int .i64 1024) (.int .i64 2)
  have hb := below_store2 (unhide HL).2 (Nat.le_refl _) (.int .i64 1024) (.int .i64 2)
  have v0 := hS.c0; have v1 := hS.c1
  exact bodyPost_ret (v := .agg #[.int .i64 1024, .int .i64 2]) (w := store2 wl w.heap.size (.int .i64 1024) (.int .i64 2)) (by simp [results, Tryz.results65, go_sem, v0, v1]) rfl ⟨rfl, hb⟩
set_option maxRecDepth 100000 in
set_option maxHeartbeats 1000000 in
theorem gibi_made : Made 66 1024 3 := by
  intro w
  have H1 := hide mebi_made
  have H2 := hide kibi_made
  unfold Made at H1 H2
  have HT : Hid (∀ W, Calls Tryz.prog 94 #[.agg #[.int .i64 1024, .int .i64 2], .agg #[.int .i64 1024, .int .i64 1]] W fun r w' => r = .returned (.agg #[.int .i64 1024, .int .i64 3]) ∧ Below W.heap.size W w') := fun W => ptimes_any 1024 2 1024 1 W (by decide) (by decide) (by decide) (by decide)
  obtain ⟨V, hV⟩ : ∃ V, V = w.alloc (.cells #[.int .i64 0, .int .i64 0] 66) := ⟨_, rfl⟩
  have HS : Hid (T2 V w.heap.size (.int .i64 0) (.int .i64 0) ∧ Below w.heap.size w V) := by rw [hV]; exact ⟨⟨by simp [go_sem], by simp [go_sem], by simp [go_sem], by simp [go_sem]⟩, (Below.refl _ _).alloc (Nat.le_refl _) _⟩
  have HV := hide hV
  go_enter Tryz.func66, Tryz.ntmps66
  go_upto_region 1 with fail
  rw [← unhide HV]
  clear hV HV
  go_wp2_with (first
    | (go_at_call 65; go_must (refine (unhide H1 _).mono ?_; rintro e wn ⟨rfl, hb⟩; replace HS := hide (And.intro ((unhide HS).1.later hb) ((unhide HS).2.trans (hb.mono (unhide HS).2.size))); clear hb))
    | (go_at_call 64; go_must (refine (unhide H2 _).mono ?_; rintro e wn ⟨rfl, hb⟩; replace HS := hide (And.intro ((unhide HS).1.later hb) ((unhide HS).2.trans (hb.mono (unhide HS).2.size))); clear hb))
    | (go_at_call 94; go_must (refine (unhide HT _).mono ?_; rintro e wl ⟨rfl, hb⟩; have HL : Hid (T2 wl w.heap.size (.int .i64 0) (.int .i64 0) ∧ Below w.heap.size w wl) := ⟨(unhide HS).1.later hb, (unhide HS).2.trans (hb.mono (unhide HS).2.size)⟩; clear hb; have r0 := (unhide HL).1.c0; have r1 := (unhide HL).1.c1; have rf0 := (unhide HL).1.f0; have rf1 := (unhide HL).1.f1)))
  have hS := (unhide HL).1.store (.int .i64 1024) (.int .i64 3)
  have hb := below_store2 (unhide HL).2 (Nat.le_refl _) (.int .i64 1024) (.int .i64 3)
  have v0 := hS.c0; have v1 := hS.c1
  exact bodyPost_ret (v := .agg #[.int .i64 1024, .int .i64 3]) (w := store2 wl w.heap.size (.int .i64 1024) (.int .i64 3)) (by simp [results, Tryz.results66, go_sem, v0, v1]) rfl ⟨rfl, hb⟩
set_option maxRecDepth 100000 in
set_option maxHeartbeats 1000000 in
theorem tebi_made : Made 67 1024 4 := by
  intro w
  have H1 := hide gibi_made
  have H2 := hide kibi_made
  unfold Made at H1 H2
  have HT : Hid (∀ W, Calls Tryz.prog 94 #[.agg #[.int .i64 1024, .int .i64 3], .agg #[.int .i64 1024, .int .i64 1]] W fun r w' => r = .returned (.agg #[.int .i64 1024, .int .i64 4]) ∧ Below W.heap.size W w') := fun W => ptimes_any 1024 3 1024 1 W (by decide) (by decide) (by decide) (by decide)
  obtain ⟨V, hV⟩ : ∃ V, V = w.alloc (.cells #[.int .i64 0, .int .i64 0] 66) := ⟨_, rfl⟩
  have HS : Hid (T2 V w.heap.size (.int .i64 0) (.int .i64 0) ∧ Below w.heap.size w V) := by rw [hV]; exact ⟨⟨by simp [go_sem], by simp [go_sem], by simp [go_sem], by simp [go_sem]⟩, (Below.refl _ _).alloc (Nat.le_refl _) _⟩
  have HV := hide hV
  go_enter Tryz.func67, Tryz.ntmps67
  go_upto_region 1 with fail
  rw [← unhide HV]
  clear hV HV
  go_wp2_with (first
    | (go_at_call 66; go_must (refine (unhide H1 _).mono ?_; rintro e wn ⟨rfl, hb⟩; replace HS := hide (And.intro ((unhide HS).1.later hb) ((unhide HS).2.trans (hb.mono (unhide HS).2.size))); clear hb))
    | (go_at_call 64; go_must (refine (unhide H2 _).mono ?_; rintro e wn ⟨rfl, hb⟩; replace HS := hide (And.intro ((unhide HS).1.later hb) ((unhide HS).2.trans (hb.mono (unhide HS).2.size))); clear hb))
    | (go_at_call 94; go_must (refine (unhide HT _).mono ?_; rintro e wl ⟨rfl, hb⟩; have HL : Hid (T2 wl w.heap.size (.int .i64 0) (.int .i64 0) ∧ Below w.heap.size w wl) := ⟨(unhide HS).1.later hb, (unhide HS).2.trans (hb.mono (unhide HS).2.size)⟩; clear hb; have r0 := (unhide HL).1.c0; have r1 := (unhide HL).1.c1; have rf0 := (unhide HL).1.f0; have rf1 := (unhide HL).1.f1)))
  have hS := (unhide HL).1.store (.int .i64 1024) (.int .i64 4)
  have hb := below_store2 (unhide HL).2 (Nat.le_refl _) (.int .i64 1024) (.int .i64 4)
  have v0 := hS.c0; have v1 := hS.c1
  exact bodyPost_ret (v := .agg #[.int .i64 1024, .int .i64 4]) (w := store2 wl w.heap.size (.int .i64 1024) (.int .i64 4)) (by simp [results, Tryz.results67, go_sem, v0, v1]) rfl ⟨rfl, hb⟩
set_option maxRecDepth 100000 in
set_option maxHeartbeats 1000000 in
theorem pebi_made : Made 68 1024 5 := by
  intro w
  have H1 := hide tebi_made
  have H2 := hide kibi_made
  unfold Made at H1 H2
  have HT : Hid (∀ W, Calls Tryz.prog 94 #[.agg #[.int .i64 1024, .int .i64 4], .agg #[.int .i64 1024, .int .i64 1]] W fun r w' => r = .returned (.agg #[.int .i64 1024, .int .i64 5]) ∧ Below W.heap.size W w') := fun W => ptimes_any 1024 4 1024 1 W (by decide) (by decide) (by decide) (by decide)
  obtain ⟨V, hV⟩ : ∃ V, V = w.alloc (.cells #[.int .i64 0, .int .i64 0] 66) := ⟨_, rfl⟩
  have HS : Hid (T2 V w.heap.size (.int .i64 0) (.int .i64 0) ∧ Below w.heap.size w V) := by rw [hV]; exact ⟨⟨by simp [go_sem], by simp [go_sem], by simp [go_sem], by simp [go_sem]⟩, (Below.refl _ _).alloc (Nat.le_refl _) _⟩
  have HV := hide hV
  go_enter Tryz.func68, Tryz.ntmps68
  go_upto_region 1 with fail
  rw [← unhide HV]
  clear hV HV
  go_wp2_with (first
    | (go_at_call 67; go_must (refine (unhide H1 _).mono ?_; rintro e wn ⟨rfl, hb⟩; replace HS := hide (And.intro ((unhide HS).1.later hb) ((unhide HS).2.trans (hb.mono (unhide HS).2.size))); clear hb))
    | (go_at_call 64; go_must (refine (unhide H2 _).mono ?_; rintro e wn ⟨rfl, hb⟩; replace HS := hide (And.intro ((unhide HS).1.later hb) ((unhide HS).2.trans (hb.mono (unhide HS).2.size))); clear hb))
    | (go_at_call 94; go_must (refine (unhide HT _).mono ?_; rintro e wl ⟨rfl, hb⟩; have HL : Hid (T2 wl w.heap.size (.int .i64 0) (.int .i64 0) ∧ Below w.heap.size w wl) := ⟨(unhide HS).1.later hb, (unhide HS).2.trans (hb.mono (unhide HS).2.size)⟩; clear hb; have r0 := (unhide HL).1.c0; have r1 := (unhide HL).1.c1; have rf0 := (unhide HL).1.f0; have rf1 := (unhide HL).1.f1)))
  have hS := (unhide HL).1.store (.int .i64 1024) (.int .i64 5)
  have hb := below_store2 (unhide HL).2 (Nat.le_refl _) (.int .i64 1024) (.int .i64 5)
  have v0 := hS.c0; have v1 := hS.c1
  exact bodyPost_ret (v := .agg #[.int .i64 1024, .int .i64 5]) (w := store2 wl w.heap.size (.int .i64 1024) (.int .i64 5)) (by simp [results, Tryz.results68, go_sem, v0, v1]) rfl ⟨rfl, hb⟩
set_option maxRecDepth 100000 in
set_option maxHeartbeats 1000000 in
theorem exbi_made : Made 69 1024 6 := by
  intro w
  have H1 := hide pebi_made
  have H2 := hide kibi_made
  unfold Made at H1 H2
  have HT : Hid (∀ W, Calls Tryz.prog 94 #[.agg #[.int .i64 1024, .int .i64 5], .agg #[.int .i64 1024, .int .i64 1]] W fun r w' => r = .returned (.agg #[.int .i64 1024, .int .i64 6]) ∧ Below W.heap.size W w') := fun W => ptimes_any 1024 5 1024 1 W (by decide) (by decide) (by decide) (by decide)
  obtain ⟨V, hV⟩ : ∃ V, V = w.alloc (.cells #[.int .i64 0, .int .i64 0] 66) := ⟨_, rfl⟩
  have HS : Hid (T2 V w.heap.size (.int .i64 0) (.int .i64 0) ∧ Below w.heap.size w V) := by rw [hV]; exact ⟨⟨by simp [go_sem], by simp [go_sem], by simp [go_sem], by simp [go_sem]⟩, (Below.refl _ _).alloc (Nat.le_refl _) _⟩
  have HV := hide hV
  go_enter Tryz.func69, Tryz.ntmps69
  go_upto_region 1 with fail
  rw [← unhide HV]
  clear hV HV
  go_wp2_with (first
    | (go_at_call 68; go_must (refine (unhide H1 _).mono ?_; rintro e wn ⟨rfl, hb⟩; replace HS := hide (And.intro ((unhide HS).1.later hb) ((unhide HS).2.trans (hb.mono (unhide HS).2.size))); clear hb))
    | (go_at_call 64; go_must (refine (unhide H2 _).mono ?_; rintro e wn ⟨rfl, hb⟩; replace HS := hide (And.intro ((unhide HS).1.later hb) ((unhide HS).2.trans (hb.mono (unhide HS).2.size))); clear hb))
    | (go_at_call 94; go_must (refine (unhide HT _).mono ?_; rintro e wl ⟨rfl, hb⟩; have HL : Hid (T2 wl w.heap.size (.int .i64 0) (.int .i64 0) ∧ Below w.heap.size w wl) := ⟨(unhide HS).1.later hb, (unhide HS).2.trans (hb.mono (unhide HS).2.size)⟩; clear hb; have r0 := (unhide HL).1.c0; have r1 := (unhide HL).1.c1; have rf0 := (unhide HL).1.f0; have rf1 := (unhide HL).1.f1)))
  have hS := (unhide HL).1.store (.int .i64 1024) (.int .i64 6)
  have hb := below_store2 (unhide HL).2 (Nat.le_refl _) (.int .i64 1024) (.int .i64 6)
  have v0 := hS.c0; have v1 := hS.c1
  exact bodyPost_ret (v := .agg #[.int .i64 1024, .int .i64 6]) (w := store2 wl w.heap.size (.int .i64 1024) (.int .i64 6)) (by simp [results, Tryz.results69, go_sem, v0, v1]) rfl ⟨rfl, hb⟩
set_option maxRecDepth 100000 in
set_option maxHeartbeats 1000000 in
theorem zebi_made : Made 70 1024 7 := by
  intro w
  have H1 := hide exbi_made
  have H2 := hide kibi_made
  unfold Made at H1 H2
  have HT : Hid (∀ W, Calls Tryz.prog 94 #[.agg #[.int .i64 1024, .int .i64 6], .agg #[.int .i64 1024, .int .i64 1]] W fun r w' => r = .returned (.agg #[.int .i64 1024, .int .i64 7]) ∧ Below W.heap.size W w') := fun W => ptimes_any 1024 6 1024 1 W (by decide) (by decide) (by decide) (by decide)
  obtain ⟨V, hV⟩ : ∃ V, V = w.alloc (.cells #[.int .i64 0, .int .i64 0] 66) := ⟨_, rfl⟩
  have HS : Hid (T2 V w.heap.size (.int .i64 0) (.int .i64 0) ∧ Below w.heap.size w V) := by rw [hV]; exact ⟨⟨by simp [go_sem], by simp [go_sem], by simp [go_sem], by simp [go_sem]⟩, (Below.refl _ _).alloc (Nat.le_refl _) _⟩
  have HV := hide hV
  go_enter Tryz.func70, Tryz.ntmps70
  go_upto_region 1 with fail
  rw [← unhide HV]
  clear hV HV
  go_wp2_with (first
    | (go_at_call 69; go_must (refine (unhide H1 _).mono ?_; rintro e wn ⟨rfl, hb⟩; replace HS := hide (And.intro ((unhide HS).1.later hb) ((unhide HS).2.trans (hb.mono (unhide HS).2.size))); clear hb))
    | (go_at_call 64; go_must (refine (unhide H2 _).mono ?_; rintro e wn ⟨rfl, hb⟩; replace HS := hide (And.intro ((unhide HS).1.later hb) ((unhide HS).2.trans (hb.mono (unhide HS).2.size))); clear hb))
    | (go_at_call 94; go_must (refine (unhide HT _).mono ?_; rintro e wl ⟨rfl, hb⟩; have HL : Hid (T2 wl w.heap.size (.int .i64 0) (.int .i64 0) ∧ Below w.heap.size w wl) := ⟨(unhide HS).1.later hb, (unhide HS).2.trans (hb.mono (unhide HS).2.size)⟩; clear hb; have r0 := (unhide HL).1.c0; have r1 := (unhide HL).1.c1; have rf0 := (unhide HL).1.f0; have rf1 := (unhide HL).1.f1)))
  have hS := (unhide HL).1.store (.int .i64 1024) (.int .i64 7)
  have hb := below_store2 (unhide HL).2 (Nat.le_refl _) (.int .i64 1024) (.int .i64 7)
  have v0 := hS.c0; have v1 := hS.c1
  exact bodyPost_ret (v := .agg #[.int .i64 1024, .int .i64 7]) (w := store2 wl w.heap.size (.int .i64 1024) (.int .i64 7)) (by simp [results, Tryz.results70, go_sem, v0, v1]) rfl ⟨rfl, hb⟩
set_option maxRecDepth 100000 in
set_option maxHeartbeats 1000000 in
theorem yobi_made : Made 71 1024 8 := by
  intro w
  have H1 := hide zebi_made
  have H2 := hide kibi_made
  unfold Made at H1 H2
  have HT : Hid (∀ W, Calls Tryz.prog 94 #[.agg #[.int .i64 1024, .int .i64 7], .agg #[.int .i64 1024, .int .i64 1]] W fun r w' => r = .returned (.agg #[.int .i64 1024, .int .i64 8]) ∧ Below W.heap.size W w') := fun W => ptimes_any 1024 7 1024 1 W (by decide) (by decide) (by decide) (by decide)
  obtain ⟨V, hV⟩ : ∃ V, V = w.alloc (.cells #[.int .i64 0, .int .i64 0] 66) := ⟨_, rfl⟩
  have HS : Hid (T2 V w.heap.size (.int .i64 0) (.int .i64 0) ∧ Below w.heap.size w V) := by rw [hV]; exact ⟨⟨by simp [go_sem], by simp [go_sem], by simp [go_sem], by simp [go_sem]⟩, (Below.refl _ _).alloc (Nat.le_refl _) _⟩
  have HV := hide hV
  go_enter Tryz.func71, Tryz.ntmps71
  go_upto_region 1 with fail
  rw [← unhide HV]
  clear hV HV
  go_wp2_with (first
    | (go_at_call 70; go_must (refine (unhide H1 _).mono ?_; rintro e wn ⟨rfl, hb⟩; replace HS := hide (And.intro ((unhide HS).1.later hb) ((unhide HS).2.trans (hb.mono (unhide HS).2.size))); clear hb))
    | (go_at_call 64; go_must (refine (unhide H2 _).mono ?_; rintro e wn ⟨rfl, hb⟩; replace HS := hide (And.intro ((unhide HS).1.later hb) ((unhide HS).2.trans (hb.mono (unhide HS).2.size))); clear hb))
    | (go_at_call 94; go_must (refine (unhide HT _).mono ?_; rintro e wl ⟨rfl, hb⟩; have HL : Hid (T2 wl w.heap.size (.int .i64 0) (.int .i64 0) ∧ Below w.heap.size w wl) := ⟨(unhide HS).1.later hb, (unhide HS).2.trans (hb.mono (unhide HS).2.size)⟩; clear hb; have r0 := (unhide HL).1.c0; have r1 := (unhide HL).1.c1; have rf0 := (unhide HL).1.f0; have rf1 := (unhide HL).1.f1)))
  have hS := (unhide HL).1.store (.int .i64 1024) (.int .i64 8)
  have hb := below_store2 (unhide HL).2 (Nat.le_refl _) (.int .i64 1024) (.int .i64 8)
  have v0 := hS.c0; have v1 := hS.c1
  exact bodyPost_ret (v := .agg #[.int .i64 1024, .int .i64 8]) (w := store2 wl w.heap.size (.int .i64 1024) (.int .i64 8)) (by simp [results, Tryz.results71, go_sem, v0, v1]) rfl ⟨rfl, hb⟩
end Go.Proofs.YtpoapffbpgnkpaaGreatDoor

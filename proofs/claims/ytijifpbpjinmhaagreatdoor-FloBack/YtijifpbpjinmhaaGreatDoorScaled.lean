/- The document's number times ten to a power. -/
import Derived.Test.YtijifpbpjinmhaaGreatDoorCut
import Derived.Test.YtijifpbpjinmhaaGreatDoorTell
import Derived.Test.YtijifpbpjinmhaaGreatDoorMany
set_option maxHeartbeats 4000000
set_option maxRecDepth 100000
namespace Go.Proofs.YtijifpbpjinmhaaGreatDoor
open Go.RowKit
/-- The parts of a text, and a number's box. -/
structure DS (w W : World) (b b' : Bool) (p1 p2 p3 p5 : ByteArray) : Prop where
  c0 : W.cell? ⟨w.heap.size, 0, none⟩ = some (.bool b)
  c1 : W.cell? ⟨w.heap.size, 1, none⟩ = some (.string p1)
  c2 : W.cell? ⟨w.heap.size, 2, none⟩ = some (.string p2)
  c3 : W.cell? ⟨w.heap.size, 3, none⟩ = some (.string p3)
  c4 : W.cell? ⟨w.heap.size, 4, none⟩ = some (.bool b')
  r : T2 W (w.heap.size + 1) (.string ⟨#[]⟩) (.string ⟨#[]⟩)
  below : Below w.heap.size w W
theorem DS.later {w W V : World} {b b' : Bool} {p1 p2 p3 p5 : ByteArray} (s : DS w W b b' p1 p2 p3 p5) (hb : Below W.heap.size W V) : DS w V b b' p1 p2 p3 p5 := by
  have hl : w.heap.size < W.heap.size := World.block_lt_of_cell? _ _ s.c0
  exact ⟨(hb.cell (p := ⟨w.heap.size, 0, none⟩) hl).trans s.c0, (hb.cell (p := ⟨w.heap.size, 1, none⟩) hl).trans s.c1, (hb.cell (p := ⟨w.heap.size, 2, none⟩) hl).trans s.c2, (hb.cell (p := ⟨w.heap.size, 3, none⟩) hl).trans s.c3, (hb.cell (p := ⟨w.heap.size, 4, none⟩) hl).trans s.c4, s.r.later hb, s.below.trans (hb.mono s.below.size)⟩
theorem DS.first (w : World) (b b' : Bool) (p1 p2 p3 p5 : ByteArray) : DS w ((w.alloc (.cells #[.bool b, .string p1, .string p2, .string p3, .bool b', .string p5, .int .i64 0] 154)).alloc (.cells #[.string ⟨#[]⟩, .string ⟨#[]⟩] 23)) b b' p1 p2 p3 p5 :=
  ⟨by simp [go_sem], by simp [go_sem], by simp [go_sem], by simp [go_sem], by simp [go_sem], ⟨by simp [go_sem], by simp [go_sem], by simp [go_sem], by simp [go_sem]⟩, ((Below.refl _ _).alloc (Nat.le_refl _) _).alloc (by simp) _⟩
theorem DS.other {w W : World} {b b' : Bool} {p1 p2 p3 p5 : ByteArray} (s : DS w W b b' p1 p2 p3 p5) (g : Nat) (hg : w.heap.size + 1 < g) (u : Value) : DS w (W.setCell ⟨g, 0, none⟩ u) b b' p1 p2 p3 p5 := by
  have k : ∀ i, (W.setCell ⟨g, 0, none⟩ u).cell? ⟨w.heap.size, i, none⟩ = W.cell? ⟨w.heap.size, i, none⟩ := fun i => World.cell?_setCell_other _ _ _ _ (by intro e; have := congrArg Addr.block e; simp at this; omega)
  exact ⟨(k 0).trans s.c0, (k 1).trans s.c1, (k 2).trans s.c2, (k 3).trans s.c3, (k 4).trans s.c4, s.r.otherAt (by omega) u, s.below.setCell (p := ⟨g, 0, none⟩) (by show w.heap.size ≤ g; omega) _⟩
theorem decimal_long (b d : Bool) (t u x nt xt : ByteArray) (w : World) (htu : t.size ≤ 65536) (hu : u.size ≤ 65536)
    (hn1 : ∀ W, Calls Tryz.prog 182 #[.string (t ++ u)] W fun r w' => r = .returned (.string nt) ∧ w' = W)
    (hn2 : ∀ W, Calls Tryz.prog 182 #[.string x] W fun r w' => r = .returned (.string xt) ∧ w' = W) (hl : 600 < nt.size ∨ 4 < xt.size) : Calls Tryz.prog 140 #[partsV b t u x d ⟨#[]⟩ 0] w fun r w' => r = .returned (.tuple #[.agg #[.string ⟨#[]⟩, .string ⟨#[]⟩], .int .i64 7, .int .i64 0]) ∧ Below w.heap.size w w' := by
  obtain ⟨V, hV⟩ : ∃ V, V = (w.alloc (.cells #[.bool b, .string t, .string u, .string x, .bool d, .string ⟨#[]⟩, .int .i64 0] 154)).alloc (.cells #[.string ⟨#[]⟩, .string ⟨#[]⟩] 23) := ⟨_, rfl⟩
  have HS : Hid (DS w V b d t u x ⟨#[]⟩) := by rw [hV]; exact DS.first _ _ _ _ _ _ _
  have HV := hide hV
  have HN1 := hide hn1
  have HN2 := hide hn2
  clear hn1 hn2
  unfold partsV
  go_enter Tryz.func140, Tryz.ntmps140
  go_upto_region 1 with fail
  rw [← unhide HV]
  clear hV HV
  have q0 := (unhide HS).c0; have q1 := (unhide HS).c1; have q2 := (unhide HS).c2; have q3 := (unhide HS).c3; have q4 := (unhide HS).c4
  go_upto_region 2 with (go_at_call 182; go_must (refine (unhide HN1 _).mono ?_; rintro e w1 ⟨rfl, hw1⟩; obtain rfl : V = w1 := hw1.symm))
  go_upto_region 3 with (go_at_call 182; go_must (refine (unhide HN2 _).mono ?_; rintro e w1 ⟨rfl, hw1⟩; obtain rfl : V = w1 := hw1.symm))
  by_cases h1 : 600 < nt.size
  · have h1' : (600 : Int) < (nt.size : Int) := by omega
    have r0 := (unhide HS).r.c0; have r1 := (unhide HS).r.c1; have rf0 := (unhide HS).r.f0; have rf1 := (unhide HS).r.f1
    go_wp2_with fail
    have hS := (unhide HS).r.store (.string ⟨#[]⟩) (.string ⟨#[]⟩)
    have hb : Below w.heap.size w (store2 V (w.heap.size + 1) (.string ⟨#[]⟩) (.string ⟨#[]⟩)) := below_store2 (unhide HS).below (by omega) _ _
    have v0 := hS.c0; have v1 := hS.c1
    exact bodyPost_ret (v := .tuple #[.agg #[.string ⟨#[]⟩, .string ⟨#[]⟩], .int .i64 7, .int .i64 0]) (w := store2 V (w.heap.size + 1) (.string ⟨#[]⟩) (.string ⟨#[]⟩)) (by simp [results, Tryz.results140, go_sem, v0, v1]) rfl ⟨rfl, hb⟩
  · have h1' : ¬ (600 : Int) < (nt.size : Int) := by omega
    have h2' : (4 : Int) < (xt.size : Int) := by omega
    have r0 := (unhide HS).r.c0; have r1 := (unhide HS).r.c1; have rf0 := (unhide HS).r.f0; have rf1 := (unhide HS).r.f1
    go_wp2_with fail
    have hS := (unhide HS).r.store (.string ⟨#[]⟩) (.string ⟨#[]⟩)
    have hb : Below w.heap.size w (store2 V (w.heap.size + 1) (.string ⟨#[]⟩) (.string ⟨#[]⟩)) := below_store2 (unhide HS).below (by omega) _ _
    have v0 := hS.c0; have v1 := hS.c1
    exact bodyPost_ret (v := .tuple #[.agg #[.string ⟨#[]⟩, .string ⟨#[]⟩], .int .i64 7, .int .i64 0]) (w := store2 V (w.heap.size + 1) (.string ⟨#[]⟩) (.string ⟨#[]⟩)) (by simp [results, Tryz.results140, go_sem, v0, v1]) rfl ⟨rfl, hb⟩
theorem decimal_exp (b d : Bool) (t u x nt xt : ByteArray) (X : Nat) (w : World) (htu : t.size ≤ 65536) (hu : u.size ≤ 65536) (hX : X < 10000)
    (hn1 : ∀ W, Calls Tryz.prog 182 #[.string (t ++ u)] W fun r w' => r = .returned (.string nt) ∧ w' = W)
    (hn2 : ∀ W, Calls Tryz.prog 182 #[.string x] W fun r w' => r = .returned (.string xt) ∧ w' = W) (hat : ∀ W, Calls Tryz.prog 146 #[.string xt] W fun e w' => e = .returned (.tuple #[.int .i64 (X : Int), .nilIface]) ∧ Below W.heap.size W w') (h1 : nt.size ≤ 600) (h2 : xt.size ≤ 4) (h3 : 4096 < X) : Calls Tryz.prog 140 #[partsV b t u x d ⟨#[]⟩ 0] w fun r w' => r = .returned (.tuple #[.agg #[.string ⟨#[]⟩, .string ⟨#[]⟩], .int .i64 7, .int .i64 0]) ∧ Below w.heap.size w w' := by
  obtain ⟨V, hV⟩ : ∃ V, V = (w.alloc (.cells #[.bool b, .string t, .string u, .string x, .bool d, .string ⟨#[]⟩, .int .i64 0] 154)).alloc (.cells #[.string ⟨#[]⟩, .string ⟨#[]⟩] 23) := ⟨_, rfl⟩
  have HS : Hid (DS w V b d t u x ⟨#[]⟩) := by rw [hV]; exact DS.first _ _ _ _ _ _ _
  have HV := hide hV
  have HN1 := hide hn1
  have HN2 := hide hn2
  have HAT := hide hat
  clear hat
  clear hn1 hn2
  unfold partsV
  go_enter Tryz.func140, Tryz.ntmps140
  go_upto_region 1 with fail
  rw [← unhide HV]
  clear hV HV
  have q0 := (unhide HS).c0; have q1 := (unhide HS).c1; have q2 := (unhide HS).c2; have q3 := (unhide HS).c3; have q4 := (unhide HS).c4
  go_upto_region 2 with (go_at_call 182; go_must (refine (unhide HN1 _).mono ?_; rintro e w1 ⟨rfl, hw1⟩; obtain rfl : V = w1 := hw1.symm))
  go_upto_region 3 with (go_at_call 182; go_must (refine (unhide HN2 _).mono ?_; rintro e w1 ⟨rfl, hw1⟩; obtain rfl : V = w1 := hw1.symm))
  have h1' : ¬ (600 : Int) < (nt.size : Int) := by omega
  have h2' : ¬ (4 : Int) < (xt.size : Int) := by omega
  have h3' : (4096 : Int) < (X : Int) := by omega
  go_upto_region 6 with (go_at_call 146; go_must (refine (unhide HAT _).mono ?_; rintro e w1 ⟨rfl, hb1⟩; have HS1 := hide ((unhide HS).later hb1); clear hb1 q0 q1 q2 q3 q4; have q0 := (unhide HS1).c0; have q1 := (unhide HS1).c1; have q2 := (unhide HS1).c2; have q3 := (unhide HS1).c3; have q4 := (unhide HS1).c4))
  have r0 := (unhide HS1).r.c0; have r1 := (unhide HS1).r.c1; have rf0 := (unhide HS1).r.f0; have rf1 := (unhide HS1).r.f1
  go_wp2_with fail
  have hS := (unhide HS1).r.store (.string ⟨#[]⟩) (.string ⟨#[]⟩)
  have hb : Below w.heap.size w (store2 w1 (w.heap.size + 1) (.string ⟨#[]⟩) (.string ⟨#[]⟩)) := below_store2 (unhide HS1).below (by omega) _ _
  have v0 := hS.c0; have v1 := hS.c1
  exact bodyPost_ret (v := .tuple #[.agg #[.string ⟨#[]⟩, .string ⟨#[]⟩], .int .i64 7, .int .i64 0]) (w := store2 w1 (w.heap.size + 1) (.string ⟨#[]⟩) (.string ⟨#[]⟩)) (by simp [results, Tryz.results140, go_sem, v0, v1]) rfl ⟨rfl, hb⟩
theorem decimal_walk (b d : Bool) (t u x nt xt : ByteArray) (X : Nat) (K : Int) (w : World) (htu : t.size ≤ 65536) (hu : u.size ≤ 65536) (hX : X < 10000)
    (hn1 : ∀ W, Calls Tryz.prog 182 #[.string (t ++ u)] W fun r w' => r = .returned (.string nt) ∧ w' = W)
    (hn2 : ∀ W, Calls Tryz.prog 182 #[.string x] W fun r w' => r = .returned (.string xt) ∧ w' = W) (hat : ∀ W, Calls Tryz.prog 146 #[.string xt] W fun e w' => e = .returned (.tuple #[.int .i64 (X : Int), .nilIface]) ∧ Below W.heap.size W w') (h1 : nt.size ≤ 600) (h2 : xt.size ≤ 4) (h3 : X ≤ 4096) (m0 bad : Bool) (hm0 : (nt.toList == [48]) = m0) (hK : K = (if d then -(X : Int) else (X : Int)) - (u.size : Int))
    (hbad : bad = (decide (K ≤ -600) || (decide (0 ≤ K) && !m0 && decide (600 < (nt.size : Int) + K)))) (Q : World → Value → Prop) (N : Nat) (rn rd : ByteArray) (re : Int) (htab : Tab w)
    (hno : bad = true → rn = ⟨#[]⟩ ∧ rd = ⟨#[]⟩ ∧ re = 7)
    (hbt : bad = false → ∀ W, Calls Tryz.prog 32 #[.string nt] W fun e w' => ∃ v, e = .returned v ∧ IsBig w' v N ∧ Below W.heap.size W w')
    (hshn : bad = false → K < 0 → ∀ W y, IsBig W y 1 → Calls Tryz.prog 100 #[y, .int .i64 (-K)] W fun e w' => ∃ a l c, e = .returned (.agg #[.slice a l c]) ∧ IsBig w' (.agg #[.slice a l c]) (10 ^ (-K).toNat) ∧ Below W.heap.size W w')
    (hshp : bad = false → 0 ≤ K → ∀ W y, IsBig W y N → Calls Tryz.prog 100 #[y, .int .i64 K] W fun e w' => ∃ a l c, e = .returned (.agg #[.slice a l c]) ∧ IsBig w' (.agg #[.slice a l c]) (N * 10 ^ K.toNat) ∧ Below W.heap.size W w')
    (hran : bad = false → K < 0 → ∀ W y z, IsBig W y N → IsBig W z (10 ^ (-K).toNat) → Calls Tryz.prog 89 #[.bool b, y, z] W fun e w' => ∃ v', e = .returned v' ∧ Q w' v' ∧ Below W.heap.size W w')
    (hrap : bad = false → 0 ≤ K → ∀ W y z, IsBig W y (N * 10 ^ K.toNat) → IsBig W z 1 → Calls Tryz.prog 89 #[.bool b, y, z] W fun e w' => ∃ v', e = .returned v' ∧ Q w' v' ∧ Below W.heap.size W w')
    (hte : bad = false → ∀ W v, Q W v → Tab W → Calls Tryz.prog 90 #[v] W fun r w' => r = .returned (.tuple #[.agg #[.string rn, .string rd], .int .i64 re]) ∧ Below W.heap.size W w') :
    Calls Tryz.prog 140 #[partsV b t u x d ⟨#[]⟩ 0] w fun r w' => r = .returned (.tuple #[.agg #[.string rn, .string rd], .int .i64 re, .int .i64 0]) ∧ Below w.heap.size w w' := by
  obtain ⟨V, hV⟩ : ∃ V, V = (w.alloc (.cells #[.bool b, .string t, .string u, .string x, .bool d, .string ⟨#[]⟩, .int .i64 0] 154)).alloc (.cells #[.string ⟨#[]⟩, .string ⟨#[]⟩] 23) := ⟨_, rfl⟩
  have HS : Hid (DS w V b d t u x ⟨#[]⟩) := by rw [hV]; exact DS.first _ _ _ _ _ _ _
  have HV := hide hV
  have HN1 := hide hn1
  have HN2 := hide hn2
  have HAT := hide hat
  have HBAD := hide hbad
  have HKK := hide hK
  have HTW := hide htab
  have HNO := hide hno
  have HBT0 := hide hbt
  have HSHN0 := hide hshn
  have HSHP0 := hide hshp
  have HRAN0 := hide hran
  have HRAP0 := hide hrap
  have HTE0 := hide hte
  have HBO : Hid (∀ W, Calls Tryz.prog 73 #[.int .u64 1] W fun e w' => ∃ a l c, e = .returned (.agg #[.slice a l c]) ∧ IsBig w' (.agg #[.slice a l c]) 1 ∧ Below W.heap.size W w') := fun W => bigOf_any 1 W (by decide)
  clear hat hbad hK htab hno hbt hshn hshp hran hrap hte
  clear hn1 hn2
  unfold partsV
  go_enter Tryz.func140, Tryz.ntmps140
  go_upto_region 1 with fail
  rw [← unhide HV]
  clear hV HV
  have q0 := (unhide HS).c0; have q1 := (unhide HS).c1; have q2 := (unhide HS).c2; have q3 := (unhide HS).c3; have q4 := (unhide HS).c4
  go_upto_region 2 with (go_at_call 182; go_must (refine (unhide HN1 _).mono ?_; rintro e w1 ⟨rfl, hw1⟩; obtain rfl : V = w1 := hw1.symm))
  go_upto_region 3 with (go_at_call 182; go_must (refine (unhide HN2 _).mono ?_; rintro e w1 ⟨rfl, hw1⟩; obtain rfl : V = w1 := hw1.symm))
  have h1' : ¬ (600 : Int) < (nt.size : Int) := by omega
  have h2' : ¬ (4 : Int) < (xt.size : Int) := by omega
  have h3' : ¬ (4096 : Int) < (X : Int) := by omega
  go_upto_region 6 with (go_at_call 146; go_must (refine (unhide HAT _).mono ?_; rintro e w1 ⟨rfl, hb1⟩; have HS1 := hide ((unhide HS).later hb1); clear hb1 q0 q1 q2 q3 q4; have q0 := (unhide HS1).c0; have q1 := (unhide HS1).c1; have q2 := (unhide HS1).c2; have q3 := (unhide HS1).c3; have q4 := (unhide HS1).c4))
  go_upto_if 40 with fail
  obtain ⟨X', hX'⟩ : ∃ X' : Int, X' = if d then -(X : Int) else (X : Int) := ⟨_, rfl⟩
  have hXb : -4096 ≤ X' ∧ X' ≤ 4096 := by rw [hX']; split <;> omega
  have HX' := hide hX'
  clear hX'
  go_cut [7] from 41 (fun s7 wx => s7 = .int .i64 X' ∧ wx = w1)
  case first =>
    cases d with
    | true =>
      have e1 : X' = -(X : Int) := unhide HX'
      go_wp2_with fail
      go_meet
      exact ⟨by rw [e1], rfl⟩
    | false =>
      have e1 : X' = (X : Int) := unhide HX'
      go_wp2_with fail
      go_meet
      exact ⟨by rw [e1], rfl⟩
  case rest =>
    obtain ⟨rfl, hwx⟩ := hcut
    obtain rfl : w1 = wc := hwx.symm
    have hK : K = X' - (u.size : Int) := by rw [unhide HKK, ← unhide HX']
    go_upto_region 10 with fail
    go_cut [7] from 43 (fun s7 wx => s7 = .int .i64 K ∧ wx = w1)
    case first =>
      go_wp2_with fail
      go_meet
      exact ⟨by rw [hK], rfl⟩
    case rest =>
      obtain ⟨rfl, hwx⟩ := hcut
      obtain rfl : w1 = wc := hwx.symm
      have hK1 : -70000 ≤ K := by omega
      have hK2 : K ≤ 70000 := by omega
      clear hK hXb HX' HKK
      go_upto_region 11 with fail
      go_cut [64] from 48 (fun s64 wx => s64 = .bool bad ∧ wx = w1)
      case first =>
        by_cases a2 : K ≤ -600
        · skip
          have EE : Hid (bad = true) := by show _ = _; rw [unhide HBAD, decide_eq_true a2]; rfl
          go_wp2_with fail
          go_meet
          exact ⟨by rw [unhide EE], rfl⟩
        · by_cases a3 : 0 ≤ K
          · cases m0 with
            | true =>
              have EE : Hid (bad = false) := by show _ = _; rw [unhide HBAD, decide_eq_false a2, decide_eq_true a3]; rfl
              go_wp2_with fail
              go_meet
              exact ⟨by rw [unhide EE], rfl⟩
            | false =>
              by_cases a5 : 600 < (nt.size : Int) + K
              · skip
                have EE : Hid (bad = true) := by show _ = _; rw [unhide HBAD, decide_eq_false a2, decide_eq_true a3, decide_eq_true a5]; rfl
                go_wp2_with fail
                go_meet
                exact ⟨by rw [unhide EE], rfl⟩
              · skip
                have EE : Hid (bad = false) := by show _ = _; rw [unhide HBAD, decide_eq_false a2, decide_eq_true a3, decide_eq_false a5]; rfl
                go_wp2_with fail
                go_meet
                exact ⟨by rw [unhide EE], rfl⟩
          · skip
            have EE : Hid (bad = false) := by show _ = _; rw [unhide HBAD, decide_eq_false a2, decide_eq_false a3]; rfl
            go_wp2_with fail
            go_meet
            exact ⟨by rw [unhide EE], rfl⟩
      case rest =>
        obtain ⟨rfl, hwx⟩ := hcut
        obtain rfl : w1 = wc := hwx.symm
        clear HBAD
        cases bad with
        | true =>
          have HN : Hid (rn = ⟨#[]⟩ ∧ rd = ⟨#[]⟩ ∧ re = 7) := unhide HNO rfl
          have r0 := (unhide HS1).r.c0; have r1 := (unhide HS1).r.c1; have rf0 := (unhide HS1).r.f0; have rf1 := (unhide HS1).r.f1
          go_wp2_with fail
          have hS := (unhide HS1).r.store (.string ⟨#[]⟩) (.string ⟨#[]⟩)
          have hb : Below w.heap.size w (store2 w1 (w.heap.size + 1) (.string ⟨#[]⟩) (.string ⟨#[]⟩)) := below_store2 (unhide HS1).below (by omega) _ _
          have v0 := hS.c0; have v1 := hS.c1
          exact bodyPost_ret (v := .tuple #[.agg #[.string ⟨#[]⟩, .string ⟨#[]⟩], .int .i64 7, .int .i64 0]) (w := store2 w1 (w.heap.size + 1) (.string ⟨#[]⟩) (.string ⟨#[]⟩)) (by simp [results, Tryz.results140, go_sem, v0, v1]) rfl ⟨by rw [(unhide HN).1, (unhide HN).2.1, (unhide HN).2.2], hb⟩
        | false =>
          have HBT := hide (unhide HBT0 rfl)
          have HTE := hide (unhide HTE0 rfl)
          by_cases hneg : K < 0
          · have HSHN := hide (unhide HSHN0 rfl hneg)
            have HRAN := hide (unhide HRAN0 rfl hneg)
            clear HSHN0 HSHP0 HRAN0 HRAP0 HBT0 HTE0 HNO
            go_upto_region 14 with (first
              | (go_at_call 32; go_must (refine (unhide HBT _).mono ?_; rintro e w2 ⟨v2, rfl, hv2, hb2⟩; obtain ⟨a2, l2, c2, rfl⟩ := hv2.shape; have HS2 := hide ((unhide HS1).later hb2); have HX2 := hide hv2; clear hv2 hb2 q0 q1 q2 q3 q4))
              | (go_at_call 73; go_must (refine (unhide HBO _).mono ?_; rintro e w3 ⟨a3, l3, c3, rfl, hv3, hb3⟩; have HS3 := hide ((unhide HS2).later hb3); have HX3 := hide ((unhide HX2).later hb3); have HY3 := hide hv3; clear hv3 hb3)))
            obtain ⟨V4, hV4⟩ : ∃ V4, V4 = (w3.alloc (.cells #[.slice a2 l2 c2] 51)).alloc (.cells #[.slice a3 l3 c3] 51) := ⟨_, rfl⟩
            have hb : Below w3.heap.size w3 V4 := by rw [hV4]; exact ((Below.refl _ _).alloc (Nat.le_refl _) _).alloc (by simp) _
            have HS4 := hide ((unhide HS3).later hb); have HX4 := hide ((unhide HX3).later hb); have HY4 := hide ((unhide HY3).later hb)
            have HBX : Hid (Box V4 w3.heap.size (.slice a2 l2 c2)) := by rw [hV4]; exact (Box.new _ _).later ((Below.refl _ _).alloc (Nat.le_refl _) _)
            have HBY : Hid (Box V4 (w3.heap.size + 1) (.slice a3 l3 c3)) := by
              rw [hV4]
              have := Box.new (w3.alloc (.cells #[.slice a2 l2 c2] 51)) (.slice a3 l3 c3)
              rwa [show (w3.alloc (.cells #[.slice a2 l2 c2] 51)).heap.size = w3.heap.size + 1 by simp] at this
            have hg9 : w.heap.size + 1 < w3.heap.size := (unhide HS3).r.lt
            rw [← hV4]
            clear hV4 hb HS HS1 HS2 HS3 HX2 HX3 HY3
            generalize w3.heap.size = g9 at *
            have u0 := (unhide HBX).c; have u1 := (unhide HBY).c
            go_upto_region 17 with (go_at_call 100; go_must (refine (unhide HSHN _ _ (unhide HY4)).mono ?_; rintro e w5 ⟨a5, l5, c5, rfl, hv5, hb5⟩; have HS5 := hide ((unhide HS4).later hb5); have HX5 := hide ((unhide HX4).later hb5); have HY5 := hide hv5; have HBX5 := hide ((unhide HBX).later hb5); have HBY5 := hide ((unhide HBY).later hb5); clear hv5 hb5 u0 u1; have u1 := (unhide HBY5).c; have u2 := (unhide HBY5).f))
            obtain ⟨V6, hV6⟩ : ∃ V6, V6 = w5.setCell ⟨g9 + 1, 0, none⟩ (.slice a5 l5 c5) := ⟨_, rfl⟩
            have HS6 : Hid (DS w V6 b d t u x ⟨#[]⟩) := by rw [hV6]; exact (unhide HS5).other (g9 + 1) (by omega) _
            have HX6 := hide (show IsBig V6 _ _ by rw [hV6]; exact (unhide HX5).box _ u1 (not_int _ _ _))
            have HY6 := hide (show IsBig V6 _ _ by rw [hV6]; exact (unhide HY5).box _ u1 (not_int _ _ _))
            have HBX6 : Hid (Box V6 g9 (.slice a2 l2 c2)) := by rw [hV6]; exact (unhide HBX5).other (by omega) _
            have HBY6 : Hid (Box V6 (g9 + 1) (.slice a5 l5 c5)) := by rw [hV6]; exact (unhide HBY5).set _
            have HT6 := hide ((unhide HTW).later (unhide HS6).below)
            rw [← hV6]
            clear hV6 HS4 HS5 HX4 HX5 HY4 HY5 HBX HBX5 HBY HBY5 u1 u2
            have q0 := (unhide HS6).c0; have u1 := (unhide HBX6).c; have u2 := (unhide HBY6).c
            go_upto_region 18 with (first
              | (go_at_call 89; go_must (refine (unhide HRAN _ _ _ (unhide HX6) (unhide HY6)).mono ?_; rintro e w7 ⟨v7, rfl, hv7, hb7⟩; have HS7 := hide ((unhide HS6).later hb7); have HF7 := hide hv7; clear hv7 hb7 q0 u1 u2))
              | (go_at_call 90; go_must (refine (unhide HTE _ _ (unhide HF7) ((unhide HTW).later (unhide HS7).below)).mono ?_; rintro e w8 ⟨rfl, hb8⟩; have HS8 := hide ((unhide HS7).later hb8); clear hb8)))
            obtain ⟨V9, hV9⟩ : ∃ V9, V9 = w8.alloc (.cells #[.string rn, .string rd] 23) := ⟨_, rfl⟩
            have HS9 : Hid (DS w V9 b d t u x ⟨#[]⟩) := (unhide HS8).later (by rw [hV9]; exact (Below.refl _ _).alloc (Nat.le_refl _) _)
            have c0 : V9.cell? ⟨w8.heap.size, 0, none⟩ = some (.string rn) := by rw [hV9]; simp [go_sem]
            have c1 : V9.cell? ⟨w8.heap.size, 1, none⟩ = some (.string rd) := by rw [hV9]; simp [go_sem]
            rw [← hV9]
            clear hV9
            have r0 := (unhide HS9).r.c0; have r1 := (unhide HS9).r.c1; have rf0 := (unhide HS9).r.f0; have rf1 := (unhide HS9).r.f1
            go_wp2_with fail
            have hS := (unhide HS9).r.store (.string rn) (.string rd)
            have hb : Below w.heap.size w (store2 V9 (w.heap.size + 1) (.string rn) (.string rd)) := below_store2 (unhide HS9).below (by omega) _ _
            have v0 := hS.c0; have v1 := hS.c1
            exact bodyPost_ret (v := .tuple #[.agg #[.string rn, .string rd], .int .i64 re, .int .i64 0]) (w := store2 V9 (w.heap.size + 1) (.string rn) (.string rd)) (by simp [results, Tryz.results140, go_sem, v0, v1]) rfl ⟨rfl, hb⟩
          · have hge : 0 ≤ K := by omega
            have HSHP := hide (unhide HSHP0 rfl hge)
            have HRAP := hide (unhide HRAP0 rfl hge)
            clear HSHN0 HSHP0 HRAN0 HRAP0 HBT0 HTE0 HNO
            go_upto_region 14 with (first
              | (go_at_call 32; go_must (refine (unhide HBT _).mono ?_; rintro e w2 ⟨v2, rfl, hv2, hb2⟩; obtain ⟨a2, l2, c2, rfl⟩ := hv2.shape; have HS2 := hide ((unhide HS1).later hb2); have HX2 := hide hv2; clear hv2 hb2 q0 q1 q2 q3 q4))
              | (go_at_call 73; go_must (refine (unhide HBO _).mono ?_; rintro e w3 ⟨a3, l3, c3, rfl, hv3, hb3⟩; have HS3 := hide ((unhide HS2).later hb3); have HX3 := hide ((unhide HX2).later hb3); have HY3 := hide hv3; clear hv3 hb3)))
            obtain ⟨V4, hV4⟩ : ∃ V4, V4 = (w3.alloc (.cells #[.slice a2 l2 c2] 51)).alloc (.cells #[.slice a3 l3 c3] 51) := ⟨_, rfl⟩
            have hb : Below w3.heap.size w3 V4 := by rw [hV4]; exact ((Below.refl _ _).alloc (Nat.le_refl _) _).alloc (by simp) _
            have HS4 := hide ((unhide HS3).later hb); have HX4 := hide ((unhide HX3).later hb); have HY4 := hide ((unhide HY3).later hb)
            have HBX : Hid (Box V4 w3.heap.size (.slice a2 l2 c2)) := by rw [hV4]; exact (Box.new _ _).later ((Below.refl _ _).alloc (Nat.le_refl _) _)
            have HBY : Hid (Box V4 (w3.heap.size + 1) (.slice a3 l3 c3)) := by
              rw [hV4]
              have := Box.new (w3.alloc (.cells #[.slice a2 l2 c2] 51)) (.slice a3 l3 c3)
              rwa [show (w3.alloc (.cells #[.slice a2 l2 c2] 51)).heap.size = w3.heap.size + 1 by simp] at this
            have hg9 : w.heap.size + 1 < w3.heap.size := (unhide HS3).r.lt
            rw [← hV4]
            clear hV4 hb HS HS1 HS2 HS3 HX2 HX3 HY3
            generalize w3.heap.size = g9 at *
            have u0 := (unhide HBX).c; have u1 := (unhide HBY).c
            go_upto_region 17 with (go_at_call 100; go_must (refine (unhide HSHP _ _ (unhide HX4)).mono ?_; rintro e w5 ⟨a5, l5, c5, rfl, hv5, hb5⟩; have HS5 := hide ((unhide HS4).later hb5); have HX5 := hide hv5; have HY5 := hide ((unhide HY4).later hb5); have HBX5 := hide ((unhide HBX).later hb5); have HBY5 := hide ((unhide HBY).later hb5); clear hv5 hb5 u0 u1; have u1 := (unhide HBX5).c; have u2 := (unhide HBX5).f))
            obtain ⟨V6, hV6⟩ : ∃ V6, V6 = w5.setCell ⟨g9, 0, none⟩ (.slice a5 l5 c5) := ⟨_, rfl⟩
            have HS6 : Hid (DS w V6 b d t u x ⟨#[]⟩) := by rw [hV6]; exact (unhide HS5).other (g9) (by omega) _
            have HX6 := hide (show IsBig V6 _ _ by rw [hV6]; exact (unhide HX5).box _ u1 (not_int _ _ _))
            have HY6 := hide (show IsBig V6 _ _ by rw [hV6]; exact (unhide HY5).box _ u1 (not_int _ _ _))
            have HBX6 : Hid (Box V6 g9 (.slice a5 l5 c5)) := by rw [hV6]; exact (unhide HBX5).set _
            have HBY6 : Hid (Box V6 (g9 + 1) (.slice a3 l3 c3)) := by rw [hV6]; exact (unhide HBY5).other (by omega) _
            have HT6 := hide ((unhide HTW).later (unhide HS6).below)
            rw [← hV6]
            clear hV6 HS4 HS5 HX4 HX5 HY4 HY5 HBX HBX5 HBY HBY5 u1 u2
            have q0 := (unhide HS6).c0; have u1 := (unhide HBX6).c; have u2 := (unhide HBY6).c
            go_upto_region 18 with (first
              | (go_at_call 89; go_must (refine (unhide HRAP _ _ _ (unhide HX6) (unhide HY6)).mono ?_; rintro e w7 ⟨v7, rfl, hv7, hb7⟩; have HS7 := hide ((unhide HS6).later hb7); have HF7 := hide hv7; clear hv7 hb7 q0 u1 u2))
              | (go_at_call 90; go_must (refine (unhide HTE _ _ (unhide HF7) ((unhide HTW).later (unhide HS7).below)).mono ?_; rintro e w8 ⟨rfl, hb8⟩; have HS8 := hide ((unhide HS7).later hb8); clear hb8)))
            obtain ⟨V9, hV9⟩ : ∃ V9, V9 = w8.alloc (.cells #[.string rn, .string rd] 23) := ⟨_, rfl⟩
            have HS9 : Hid (DS w V9 b d t u x ⟨#[]⟩) := (unhide HS8).later (by rw [hV9]; exact (Below.refl _ _).alloc (Nat.le_refl _) _)
            have c0 : V9.cell? ⟨w8.heap.size, 0, none⟩ = some (.string rn) := by rw [hV9]; simp [go_sem]
            have c1 : V9.cell? ⟨w8.heap.size, 1, none⟩ = some (.string rd) := by rw [hV9]; simp [go_sem]
            rw [← hV9]
            clear hV9
            have r0 := (unhide HS9).r.c0; have r1 := (unhide HS9).r.c1; have rf0 := (unhide HS9).r.f0; have rf1 := (unhide HS9).r.f1
            go_wp2_with fail
            have hS := (unhide HS9).r.store (.string rn) (.string rd)
            have hb : Below w.heap.size w (store2 V9 (w.heap.size + 1) (.string rn) (.string rd)) := below_store2 (unhide HS9).below (by omega) _ _
            have v0 := hS.c0; have v1 := hS.c1
            exact bodyPost_ret (v := .tuple #[.agg #[.string rn, .string rd], .int .i64 re, .int .i64 0]) (w := store2 V9 (w.heap.size + 1) (.string rn) (.string rd)) (by simp [results, Tryz.results140, go_sem, v0, v1]) rfl ⟨rfl, hb⟩
/-- Is a number of these digits, times that power of ten, surely too great or too fine? -/
def farQ (n : Nat) (k : Int) : Bool := decide (10 ^ 600 ≤ n) || decide (k ≤ -600) || (decide (0 < k) && decide (n ≠ 0) && decide (600 < ((tx n).size : Int) + k))
/-- A number times ten to a power. -/
def scQ (b : Bool) (n : Nat) (k : Int) : Rat := Cub.valQ b (n * 10 ^ k.toNat) (10 ^ (-k).toNat)
theorem or_false3 {p q : Prop} [Decidable p] [Decidable q] {c : Bool} (h : (decide p || decide q || c) = false) : ¬ p ∧ ¬ q := by
  rw [Bool.or_eq_false_iff, Bool.or_eq_false_iff, decide_eq_false_iff_not, decide_eq_false_iff_not] at h
  exact h.1
theorem far_no {n : Nat} {k : Int} (h : farQ n k = false) : ¬ 10 ^ 600 ≤ n ∧ ¬ k ≤ -600 := by
  unfold farQ at h
  exact or_false3 h
theorem pow_lt_pow10 {a b : Nat} (h : a < b) : 10 ^ a < 10 ^ b := Nat.pow_lt_pow_right (by decide) h
end Go.Proofs.YtijifpbpjinmhaaGreatDoor

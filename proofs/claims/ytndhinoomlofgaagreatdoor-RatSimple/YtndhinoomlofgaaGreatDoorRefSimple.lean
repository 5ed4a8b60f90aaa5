/- The document's Simple. -/
import Derived.Test.YtndhinoomlofgaaGreatDoorRowB
import Derived.Test.YtndhinoomlofgaaGreatDoorSimple
import Derived.Test.YtndhinoomlofgaaGreatDoorReads
import Derived.Test.YtndhinoomlofgaaGreatDoorOrdA
import Derived.Deep.RegionHeld3
import Derived.Deep.Cut
namespace Go.Proofs.YtndhinoomlofgaaGreatDoor
open Go.RowKit
/-- Both numbers as the document holds them. -/
structure QB (w W : World) (g6 g7 : Nat) (ab : Bool) (an ad : ByteArray) (bb : Bool) (bn bd : ByteArray) : Prop where
  r : T2 W (w.heap.size + 1 + 1) (.string ⟨#[]⟩) (.string ⟨#[]⟩)
  f : FBox W g6 (.bool ab) (.string an) (.string ad)
  g : FBox W g7 (.bool bb) (.string bn) (.string bd)
  below : Below w.heap.size w W
theorem QB.later {w W V : World} {g6 g7 : Nat} {ab bb : Bool} {an ad bn bd : ByteArray} (s : QB w W g6 g7 ab an ad bb bn bd) (hb : Below W.heap.size W V) : QB w V g6 g7 ab an ad bb bn bd := ⟨s.r.later hb, s.f.later hb, s.g.later hb, s.below.trans (hb.mono s.below.size)⟩
theorem fnew (W : World) (a b c : Value) : FBox (W.alloc (.cells #[a, b, c] 61)) W.heap.size a b c := ⟨by simp [go_sem], by simp [go_sem], by simp [go_sem], by simp [go_sem], by simp [go_sem], by simp [go_sem]⟩
theorem albel (W : World) (O : Obj) : Below W.heap.size W (W.alloc O) := (Below.refl _ _).alloc (Nat.le_refl _) _
structure A3 (w W : World) (n1 d1 n2 d2 : ByteArray) : Prop where
  a : T2 W w.heap.size (.string n1) (.string d1)
  b : T2 W (w.heap.size + 1) (.string n2) (.string d2)
  r : T2 W (w.heap.size + 1 + 1) (.string ⟨#[]⟩) (.string ⟨#[]⟩)
  below : Below w.heap.size w W
theorem A3.later {w W V : World} {n1 d1 n2 d2 : ByteArray} (s : A3 w W n1 d1 n2 d2) (hb : Below W.heap.size W V) : A3 w V n1 d1 n2 d2 := ⟨s.a.later hb, s.b.later hb, s.r.later hb, s.below.trans (hb.mono s.below.size)⟩
section
variable {P : Program} {ops : Array Oper} {Q : Exit → Act → World → Prop} {md : Region.Mode} {S S7 : World → Prop} {k : Nat}
/-- One of those that may come. -/
theorem wpR_some {n : Nat} {l : Array Bool} {a : Act} {w : World} (rs : List Nat) (hr : Region.ready md ops l = rs) (hne : rs ≠ [])
    (h : ∀ i ∈ rs, ∃ o, ops[i]? = some o ∧ o.guard = none ∧ ∀ K : Act → World → Prop, (∀ a' w', S w' ∧ S7 w' → wpR P md ops Q k S S7 n (l.setIfInBounds i true) a' w' → K a' w') → Oper.wp P o a w K Q) : wpR P md ops Q k S S7 (n + 1) l a w := by
  refine ⟨fun h0 => absurd (hr.symm.trans h0) hne, fun j hj => ?_⟩
  rw [hr] at hj
  obtain ⟨o, ho, hg, hs⟩ := h j hj
  unfold wpOp
  simp only [ho]
  have hw : Region.wanted o (yielded ops a.tmps) = true := by simp [Region.wanted, hg]
  rw [if_pos hw]
  exact Or.inl (hs _ fun a' w' h1 h2 => ⟨⟨fun _ => h1.1, h1.2⟩, h2⟩)
theorem wpR_two {i j n : Nat} {oi oj : Oper} {l : Array Bool} {a : Act} {w : World} (hr : Region.ready md ops l = [i, j]) (hi : ops[i]? = some oi) (gi : oi.guard = none) (hj : ops[j]? = some oj) (gj : oj.guard = none)
    (si : ∀ K : Act → World → Prop, (∀ a' w', S w' ∧ S7 w' → wpR P md ops Q k S S7 n (l.setIfInBounds i true) a' w' → K a' w') → Oper.wp P oi a w K Q)
    (sj : ∀ K : Act → World → Prop, (∀ a' w', S w' ∧ S7 w' → wpR P md ops Q k S S7 n (l.setIfInBounds j true) a' w' → K a' w') → Oper.wp P oj a w K Q) : wpR P md ops Q k S S7 (n + 1) l a w := by
  refine wpR_some [i, j] hr (by simp) fun q hq => ?_
  rcases List.mem_cons.1 hq with rfl | hq
  · exact ⟨oi, hi, gi, si⟩
  · obtain rfl := List.mem_singleton.1 hq
    exact ⟨oj, hj, gj, sj⟩
theorem wpR_three {i j m n : Nat} {oi oj om : Oper} {l : Array Bool} {a : Act} {w : World} (hr : Region.ready md ops l = [i, j, m]) (hi : ops[i]? = some oi) (gi : oi.guard = none) (hj : ops[j]? = some oj) (gj : oj.guard = none) (hm : ops[m]? = some om) (gm : om.guard = none)
    (si : ∀ K : Act → World → Prop, (∀ a' w', S w' ∧ S7 w' → wpR P md ops Q k S S7 n (l.setIfInBounds i true) a' w' → K a' w') → Oper.wp P oi a w K Q)
    (sj : ∀ K : Act → World → Prop, (∀ a' w', S w' ∧ S7 w' → wpR P md ops Q k S S7 n (l.setIfInBounds j true) a' w' → K a' w') → Oper.wp P oj a w K Q)
    (sm : ∀ K : Act → World → Prop, (∀ a' w', S w' ∧ S7 w' → wpR P md ops Q k S S7 n (l.setIfInBounds m true) a' w' → K a' w') → Oper.wp P om a w K Q) : wpR P md ops Q k S S7 (n + 1) l a w := by
  refine wpR_some [i, j, m] hr (by simp) fun q hq => ?_
  rcases List.mem_cons.1 hq with rfl | hq
  · exact ⟨oi, hi, gi, si⟩
  · rcases List.mem_cons.1 hq with rfl | hq
    · exact ⟨oj, hj, gj, sj⟩
    · obtain rfl := List.mem_singleton.1 hq
      exact ⟨om, hm, gm, sm⟩
end
theorem A3.st {w W : World} {n1 d1 n2 d2 : ByteArray} {g : Nat} (s : A3 w W n1 d1 n2 d2) (l : w.heap.size + 1 + 1 < g) (x y z : Value) : A3 w (store3 W g x y z) n1 d1 n2 d2 :=
  ⟨((s.a.otherAt (by omega) _).otherAt (by omega) _).otherAt (by omega) _, ((s.b.otherAt (by omega) _).otherAt (by omega) _).otherAt (by omega) _, ((s.r.otherAt (by omega) _).otherAt (by omega) _).otherAt (by omega) _, below_store3 s.below (by omega) _ _ _⟩
theorem qb_fin {w W : World} {n1 d1 n2 d2 : ByteArray} {g6 g7 : Nat} {ab bb : Bool} {an ad bn bd : ByteArray} (h : A3 w W n1 d1 n2 d2) (f : FBox W g6 (.bool false) (.string ⟨#[]⟩) (.string ⟨#[]⟩)) (g : FBox W g7 (.bool false) (.string ⟨#[]⟩) (.string ⟨#[]⟩)) (hne : ¬ g6 = g7) (l6 : w.heap.size + 1 + 1 < g6) (l7 : w.heap.size + 1 + 1 < g7) :
    Hid (QB w (store3 (store3 W g6 (.bool ab) (.string an) (.string ad)) g7 (.bool bb) (.string bn) (.string bd)) g6 g7 ab an ad bb bn bd) :=
  ⟨(((((h.r.otherAt (by omega) _).otherAt (by omega) _).otherAt (by omega) _).otherAt (by omega) _).otherAt (by omega) _).otherAt (by omega) _, (f.store _ _ _).other3 (by omega) _ _ _, (g.other3 (by omega) _ _ _).store _ _ _, below_store3 (below_store3 h.below (by omega) _ _ _) (by omega) _ _ _⟩

set_option maxRecDepth 100000 in
set_option maxHeartbeats 20000000 in
theorem refSimple_below (n1 d1 n2 d2 : ByteArray) (ab bb : Bool) (an ad bn bd : ByteArray) (k : Int) (w : World)
    (h18a : ∀ W, Calls Tryz.prog 20 #[.agg #[.string n1, .string d1]] W fun r w' => r = .returned (.bool true) ∧ Below W.heap.size W w')
    (h18b : ∀ W, Calls Tryz.prog 20 #[.agg #[.string n2, .string d2]] W fun r w' => r = .returned (.bool true) ∧ Below W.heap.size W w')
    (h62a : ∀ W, Calls Tryz.prog 64 #[.agg #[.string n1, .string d1]] W fun r w' => r = .returned (.agg #[.bool ab, .string an, .string ad]) ∧ Below W.heap.size W w')
    (h62b : ∀ W, Calls Tryz.prog 64 #[.agg #[.string n2, .string d2]] W fun r w' => r = .returned (.agg #[.bool bb, .string bn, .string bd]) ∧ Below W.heap.size W w')
    (h64 : ∀ W, Calls Tryz.prog 66 #[.agg #[.bool ab, .string an, .string ad], .agg #[.bool bb, .string bn, .string bd]] W fun r w' => r = .returned (.int .i64 k) ∧ Below W.heap.size W w') (hk : 0 < k) : Ans 56 #[.agg #[.string n1, .string d1], .agg #[.string n2, .string d2]] w ⟨#[]⟩ ⟨#[]⟩ 9 := by
  unfold Ans
  obtain ⟨V, hV⟩ : ∃ V, V = ((w.alloc (.cells #[.string n1, .string d1] 23)).alloc (.cells #[.string n2, .string d2] 23)).alloc (.cells #[.string ⟨#[]⟩, .string ⟨#[]⟩] 23) := ⟨_, rfl⟩
  have HS0 : Hid (A3 w V n1 d1 n2 d2) := by
    rw [hV]
    exact ⟨⟨by simp [go_sem], by simp [go_sem], by simp [go_sem], by simp [go_sem]⟩, ⟨by simp [go_sem], by simp [go_sem], by simp [go_sem], by simp [go_sem]⟩, ⟨by simp [go_sem], by simp [go_sem], by simp [go_sem], by simp [go_sem]⟩, (((Below.refl _ _).alloc (Nat.le_refl _) _).alloc (by simp) _).alloc (by simp; omega) _⟩
  have HV := hide hV
  have H18A := hide h18a; have H18B := hide h18b; have H62A := hide h62a; have H62B := hide h62b; have H64 := hide h64
  clear h18a h18b h62a h62b h64
  go_enter Tryz.func56, Tryz.ntmps56
  go_upto_region 1 with fail
  rw [← unhide HV]
  clear hV HV
  have t0 := (unhide HS0).a.c0; have t1 := (unhide HS0).a.c1; have t2 := (unhide HS0).b.c0; have t3 := (unhide HS0).b.c1
  go_upto_region 3 with (first
    | (go_at_call_of 20 (Value.agg #[Value.string n1, Value.string d1]); go_must (refine (unhide H18A _).mono ?_; rintro e w1 ⟨rfl, hb1⟩; have HS1 := hide ((unhide HS0).later hb1); clear hb1 t0 t1 t2 t3; have t0 := (unhide HS1).a.c0; have t1 := (unhide HS1).a.c1; have t2 := (unhide HS1).b.c0; have t3 := (unhide HS1).b.c1))
    | (go_at_call_of 20 (Value.agg #[Value.string n2, Value.string d2]); go_must (refine (unhide H18B _).mono ?_; rintro e V2 ⟨rfl, hb2⟩; have HS2 := hide ((unhide HS1).later hb2); clear hb2 t0 t1 t2 t3; have t0 := (unhide HS2).a.c0; have t1 := (unhide HS2).a.c1; have t2 := (unhide HS2).b.c0; have t3 := (unhide HS2).b.c1)))
  clear HS0 HS1 H18A H18B
  have lv := (unhide HS2).r.lt
  have lv0 := (unhide HS2).a.lt
  have lv1 := (unhide HS2).b.lt
  go_cut [6, 7] from 8 (fun s6 s7 wx => ∃ g6 g7, s6 = .pointer (some ⟨g6, 0, none⟩) ∧ s7 = .pointer (some ⟨g7, 0, none⟩) ∧ Hid (QB w wx g6 g7 ab an ad bb bn bd))
  case first =>
    have HA0 : Hid (A3 w V2.drew n1 d1 n2 d2) := (unhide HS2).later (Below.refl _ _).drew
    refine region_reads 6 (fun _ => True) (fun W => (W.cell? ⟨w.heap.size, 0, none⟩ = some (.string n1) ∧ W.cell? ⟨w.heap.size, 1, none⟩ = some (.string d1)) ∧ (W.cell? ⟨w.heap.size + 1, 0, none⟩ = some (.string n2) ∧ W.cell? ⟨w.heap.size + 1, 1, none⟩ = some (.string d2))) 8 rfl (by kernel_rfl) ?_
    obtain ⟨W0, hW0⟩ : ∃ W0, W0 = V2.drew := ⟨_, rfl⟩
    rw [← hW0] at HA0 ⊢
    clear hW0 t0 t1 t2 t3 lv lv0 lv1
    have HC0 : Hid ((W0.cell? ⟨w.heap.size, 0, none⟩ = some (.string n1) ∧ W0.cell? ⟨w.heap.size, 1, none⟩ = some (.string d1)) ∧ (W0.cell? ⟨w.heap.size + 1, 0, none⟩ = some (.string n2) ∧ W0.cell? ⟨w.heap.size + 1, 1, none⟩ = some (.string d2))) := ⟨⟨(unhide HA0).a.c0, (unhide HA0).a.c1⟩, ⟨(unhide HA0).b.c0, (unhide HA0).b.c1⟩⟩
    refine wpR_take7 (i := 0) (oi := _) (v := .agg #[.string n1, .string d1]) rfl (by kernel_rfl) (by kernel_rfl) (by kernel_rfl) (by kernel_rfl) (fun _ _ _ h => h) (Or.inl ⟨by rfl, ?_⟩) ⟨trivial, unhide HC0⟩ ?_
    · intro W hW
      go_split_ands
      go_simp
    refine wpR_take7 (i := 2) (oi := _) (v := .agg #[.string n2, .string d2]) rfl (by kernel_rfl) (by kernel_rfl) (by kernel_rfl) (by kernel_rfl) (fun _ _ _ h => h) (Or.inl ⟨by rfl, ?_⟩) ⟨trivial, unhide HC0⟩ ?_
    · intro W hW
      go_split_ands
      go_simp
    refine wpR_three (i := 1) (j := 4) (m := 5) (by kernel_rfl) rfl rfl rfl rfl rfl rfl (fun K hK => ?_) (fun K hK => ?_) (fun K hK => ?_) 
    · go_simp
      refine (unhide H62A _).mono ?_
      rintro e W1 ⟨rfl, hb1⟩
      have HA1 := hide ((unhide HA0).later hb1)
      refine hK _ _ ⟨trivial, ⟨(unhide HA1).a.c0, (unhide HA1).a.c1⟩, ⟨(unhide HA1).b.c0, (unhide HA1).b.c1⟩⟩ ?_
      clear hK K hb1
      refine wpR_three (i := 3) (j := 4) (m := 5) (by kernel_rfl) rfl rfl rfl rfl rfl rfl (fun K hK => ?_) (fun K hK => ?_) (fun K hK => ?_) 
      · go_simp
        refine (unhide H62B _).mono ?_
        rintro e W2 ⟨rfl, hb2⟩
        have HA2 := hide ((unhide HA1).later hb2)
        refine hK _ _ ⟨trivial, ⟨(unhide HA2).a.c0, (unhide HA2).a.c1⟩, ⟨(unhide HA2).b.c0, (unhide HA2).b.c1⟩⟩ ?_
        clear hK K hb2
        refine wpR_two (i := 4) (j := 5) (by kernel_rfl) rfl rfl rfl rfl (fun K hK => ?_) (fun K hK => ?_) 
        · go_simp
          have hb3 := albel W2 (.cells #[.bool false, .string ⟨#[]⟩, .string ⟨#[]⟩] 61)
          have HA3 := hide ((unhide HA2).later hb3)
          refine hK _ _ ⟨trivial, ⟨(unhide HA3).a.c0, (unhide HA3).a.c1⟩, ⟨(unhide HA3).b.c0, (unhide HA3).b.c1⟩⟩ ?_
          clear hK K
          have FN3 : Hid (FBox (W2.alloc (.cells #[.bool false, .string ⟨#[]⟩, .string ⟨#[]⟩] 61)) W2.heap.size (.bool false) (.string ⟨#[]⟩) (.string ⟨#[]⟩)) := fnew _ _ _ _
          have HL3 : Hid (w.heap.size + 1 + 1 < W2.heap.size) := (unhide HA2).r.lt
          clear hb3
          obtain ⟨W3, hW3⟩ : ∃ W3, W3 = W2.alloc (.cells #[.bool false, .string ⟨#[]⟩, .string ⟨#[]⟩] 61) := ⟨_, rfl⟩
          obtain ⟨q3, hq3⟩ : ∃ q3, q3 = W2.heap.size := ⟨_, rfl⟩
          rw [← hW3] at HA3 FN3   ⊢
          rw [← hq3] at FN3 HL3  ⊢
          clear hW3 hq3
          refine wpR_op (i := 5) (o := _) (by kernel_rfl) rfl rfl (fun K hK => ?_)
          go_simp
          have hb4 := albel W3 (.cells #[.bool false, .string ⟨#[]⟩, .string ⟨#[]⟩] 61)
          have HA4 := hide ((unhide HA3).later hb4)
          refine hK _ _ ⟨trivial, ⟨(unhide HA4).a.c0, (unhide HA4).a.c1⟩, ⟨(unhide HA4).b.c0, (unhide HA4).b.c1⟩⟩ ?_
          clear hK K
          have FN4 : Hid (FBox (W3.alloc (.cells #[.bool false, .string ⟨#[]⟩, .string ⟨#[]⟩] 61)) W3.heap.size (.bool false) (.string ⟨#[]⟩) (.string ⟨#[]⟩)) := fnew _ _ _ _
          have HL4 : Hid (w.heap.size + 1 + 1 < W3.heap.size) := (unhide HA3).r.lt
          have F64 := hide ((unhide FN3).later hb4)
          have HNE : Hid (q3 < W3.heap.size) := (unhide FN3).lt
          clear hb4
          obtain ⟨W4, hW4⟩ : ∃ W4, W4 = W3.alloc (.cells #[.bool false, .string ⟨#[]⟩, .string ⟨#[]⟩] 61) := ⟨_, rfl⟩
          obtain ⟨q4, hq4⟩ : ∃ q4, q4 = W3.heap.size := ⟨_, rfl⟩
          rw [← hW4] at HA4 FN4 F64  ⊢
          rw [← hq4] at FN4 HL4 HNE ⊢
          clear hW4 hq4
          have hne : ¬ q3 = q4 := by have h0 := unhide HNE; omega
          have hne1 : ¬ q4 = q3 := by have h0 := unhide HNE; omega
          have x0 := (unhide F64).c0; have x1 := (unhide F64).c1; have x2 := (unhide F64).c2; have xf0 := (unhide F64).f0; have xf1 := (unhide F64).f1; have xf2 := (unhide F64).f2
          have y0 := (unhide FN4).c0; have y1 := (unhide FN4).c1; have y2 := (unhide FN4).c2; have yf0 := (unhide FN4).f0; have yf1 := (unhide FN4).f1; have yf2 := (unhide FN4).f2
          have HT1 := hide ((unhide HA4).st (unhide HL3) (.bool ab) (.string an) (.string ad))
          have HT2 := hide ((unhide HT1).st (unhide HL4) (.bool bb) (.string bn) (.string bd))
          refine wpR_late (i := 6) (o := _) (by kernel_rfl) rfl rfl (by kernel_rfl) (fun K hK => ?_)
          go_simp
          refine hK _ _ ⟨⟨(unhide HT1).a.c0, (unhide HT1).a.c1⟩, ⟨(unhide HT1).b.c0, (unhide HT1).b.c1⟩⟩ ?_
          clear hK K
          refine wpR_late (i := 7) (o := _) (by kernel_rfl) rfl rfl (by kernel_rfl) (fun K hK => ?_)
          go_simp
          refine hK _ _ ⟨⟨(unhide HT2).a.c0, (unhide HT2).a.c1⟩, ⟨(unhide HT2).b.c0, (unhide HT2).b.c1⟩⟩ ?_
          clear hK K
          refine wpR_done (by kernel_rfl) ?_
          go_wp2_with fail
          go_meet
          exact ⟨q3, q4, rfl, rfl, qb_fin (unhide HA4) (unhide F64) (unhide FN4) hne (unhide HL3) (unhide HL4)⟩
        · go_simp
          have hb5 := albel W2 (.cells #[.bool false, .string ⟨#[]⟩, .string ⟨#[]⟩] 61)
          have HA5 := hide ((unhide HA2).later hb5)
          refine hK _ _ ⟨trivial, ⟨(unhide HA5).a.c0, (unhide HA5).a.c1⟩, ⟨(unhide HA5).b.c0, (unhide HA5).b.c1⟩⟩ ?_
          clear hK K
          have FN5 : Hid (FBox (W2.alloc (.cells #[.bool false, .string ⟨#[]⟩, .string ⟨#[]⟩] 61)) W2.heap.size (.bool false) (.string ⟨#[]⟩) (.string ⟨#[]⟩)) := fnew _ _ _ _
          have HL5 : Hid (w.heap.size + 1 + 1 < W2.heap.size) := (unhide HA2).r.lt
          clear hb5
          obtain ⟨W5, hW5⟩ : ∃ W5, W5 = W2.alloc (.cells #[.bool false, .string ⟨#[]⟩, .string ⟨#[]⟩] 61) := ⟨_, rfl⟩
          obtain ⟨q5, hq5⟩ : ∃ q5, q5 = W2.heap.size := ⟨_, rfl⟩
          rw [← hW5] at HA5 FN5   ⊢
          rw [← hq5] at FN5 HL5  ⊢
          clear hW5 hq5
          refine wpR_op (i := 4) (o := _) (by kernel_rfl) rfl rfl (fun K hK => ?_)
          go_simp
          have hb6 := albel W5 (.cells #[.bool false, .string ⟨#[]⟩, .string ⟨#[]⟩] 61)
          have HA6 := hide ((unhide HA5).later hb6)
          refine hK _ _ ⟨trivial, ⟨(unhide HA6).a.c0, (unhide HA6).a.c1⟩, ⟨(unhide HA6).b.c0, (unhide HA6).b.c1⟩⟩ ?_
          clear hK K
          have FN6 : Hid (FBox (W5.alloc (.cells #[.bool false, .string ⟨#[]⟩, .string ⟨#[]⟩] 61)) W5.heap.size (.bool false) (.string ⟨#[]⟩) (.string ⟨#[]⟩)) := fnew _ _ _ _
          have HL6 : Hid (w.heap.size + 1 + 1 < W5.heap.size) := (unhide HA5).r.lt
          have F76 := hide ((unhide FN5).later hb6)
          have HNE : Hid (q5 < W5.heap.size) := (unhide FN5).lt
          clear hb6
          obtain ⟨W6, hW6⟩ : ∃ W6, W6 = W5.alloc (.cells #[.bool false, .string ⟨#[]⟩, .string ⟨#[]⟩] 61) := ⟨_, rfl⟩
          obtain ⟨q6, hq6⟩ : ∃ q6, q6 = W5.heap.size := ⟨_, rfl⟩
          rw [← hW6] at HA6 FN6  F76 ⊢
          rw [← hq6] at FN6 HL6 HNE ⊢
          clear hW6 hq6
          have hne : ¬ q6 = q5 := by have h0 := unhide HNE; omega
          have hne1 : ¬ q5 = q6 := by have h0 := unhide HNE; omega
          have x0 := (unhide FN6).c0; have x1 := (unhide FN6).c1; have x2 := (unhide FN6).c2; have xf0 := (unhide FN6).f0; have xf1 := (unhide FN6).f1; have xf2 := (unhide FN6).f2
          have y0 := (unhide F76).c0; have y1 := (unhide F76).c1; have y2 := (unhide F76).c2; have yf0 := (unhide F76).f0; have yf1 := (unhide F76).f1; have yf2 := (unhide F76).f2
          have HT1 := hide ((unhide HA6).st (unhide HL6) (.bool ab) (.string an) (.string ad))
          have HT2 := hide ((unhide HT1).st (unhide HL5) (.bool bb) (.string bn) (.string bd))
          refine wpR_late (i := 6) (o := _) (by kernel_rfl) rfl rfl (by kernel_rfl) (fun K hK => ?_)
          go_simp
          refine hK _ _ ⟨⟨(unhide HT1).a.c0, (unhide HT1).a.c1⟩, ⟨(unhide HT1).b.c0, (unhide HT1).b.c1⟩⟩ ?_
          clear hK K
          refine wpR_late (i := 7) (o := _) (by kernel_rfl) rfl rfl (by kernel_rfl) (fun K hK => ?_)
          go_simp
          refine hK _ _ ⟨⟨(unhide HT2).a.c0, (unhide HT2).a.c1⟩, ⟨(unhide HT2).b.c0, (unhide HT2).b.c1⟩⟩ ?_
          clear hK K
          refine wpR_done (by kernel_rfl) ?_
          go_wp2_with fail
          go_meet
          exact ⟨q6, q5, rfl, rfl, qb_fin (unhide HA6) (unhide FN6) (unhide F76) hne (unhide HL6) (unhide HL5)⟩
      · go_simp
        have hb7 := albel W1 (.cells #[.bool false, .string ⟨#[]⟩, .string ⟨#[]⟩] 61)
        have HA7 := hide ((unhide HA1).later hb7)
        refine hK _ _ ⟨trivial, ⟨(unhide HA7).a.c0, (unhide HA7).a.c1⟩, ⟨(unhide HA7).b.c0, (unhide HA7).b.c1⟩⟩ ?_
        clear hK K
        have FN7 : Hid (FBox (W1.alloc (.cells #[.bool false, .string ⟨#[]⟩, .string ⟨#[]⟩] 61)) W1.heap.size (.bool false) (.string ⟨#[]⟩) (.string ⟨#[]⟩)) := fnew _ _ _ _
        have HL7 : Hid (w.heap.size + 1 + 1 < W1.heap.size) := (unhide HA1).r.lt
        clear hb7
        obtain ⟨W7, hW7⟩ : ∃ W7, W7 = W1.alloc (.cells #[.bool false, .string ⟨#[]⟩, .string ⟨#[]⟩] 61) := ⟨_, rfl⟩
        obtain ⟨q7, hq7⟩ : ∃ q7, q7 = W1.heap.size := ⟨_, rfl⟩
        rw [← hW7] at HA7 FN7   ⊢
        rw [← hq7] at FN7 HL7  ⊢
        clear hW7 hq7
        refine wpR_two (i := 3) (j := 5) (by kernel_rfl) rfl rfl rfl rfl (fun K hK => ?_) (fun K hK => ?_) 
        · go_simp
          refine (unhide H62B _).mono ?_
          rintro e W8 ⟨rfl, hb8⟩
          have HA8 := hide ((unhide HA7).later hb8)
          have F68 := hide ((unhide FN7).later hb8)
          refine hK _ _ ⟨trivial, ⟨(unhide HA8).a.c0, (unhide HA8).a.c1⟩, ⟨(unhide HA8).b.c0, (unhide HA8).b.c1⟩⟩ ?_
          clear hK K hb8
          refine wpR_op (i := 5) (o := _) (by kernel_rfl) rfl rfl (fun K hK => ?_)
          go_simp
          have hb9 := albel W8 (.cells #[.bool false, .string ⟨#[]⟩, .string ⟨#[]⟩] 61)
          have HA9 := hide ((unhide HA8).later hb9)
          refine hK _ _ ⟨trivial, ⟨(unhide HA9).a.c0, (unhide HA9).a.c1⟩, ⟨(unhide HA9).b.c0, (unhide HA9).b.c1⟩⟩ ?_
          clear hK K
          have FN9 : Hid (FBox (W8.alloc (.cells #[.bool false, .string ⟨#[]⟩, .string ⟨#[]⟩] 61)) W8.heap.size (.bool false) (.string ⟨#[]⟩) (.string ⟨#[]⟩)) := fnew _ _ _ _
          have HL9 : Hid (w.heap.size + 1 + 1 < W8.heap.size) := (unhide HA8).r.lt
          have F69 := hide ((unhide F68).later hb9)
          have HNE : Hid (q7 < W8.heap.size) := (unhide F68).lt
          clear hb9
          obtain ⟨W9, hW9⟩ : ∃ W9, W9 = W8.alloc (.cells #[.bool false, .string ⟨#[]⟩, .string ⟨#[]⟩] 61) := ⟨_, rfl⟩
          obtain ⟨q9, hq9⟩ : ∃ q9, q9 = W8.heap.size := ⟨_, rfl⟩
          rw [← hW9] at HA9 FN9 F69  ⊢
          rw [← hq9] at FN9 HL9 HNE ⊢
          clear hW9 hq9
          have hne : ¬ q7 = q9 := by have h0 := unhide HNE; omega
          have hne1 : ¬ q9 = q7 := by have h0 := unhide HNE; omega
          have x0 := (unhide F69).c0; have x1 := (unhide F69).c1; have x2 := (unhide F69).c2; have xf0 := (unhide F69).f0; have xf1 := (unhide F69).f1; have xf2 := (unhide F69).f2
          have y0 := (unhide FN9).c0; have y1 := (unhide FN9).c1; have y2 := (unhide FN9).c2; have yf0 := (unhide FN9).f0; have yf1 := (unhide FN9).f1; have yf2 := (unhide FN9).f2
          have HT1 := hide ((unhide HA9).st (unhide HL7) (.bool ab) (.string an) (.string ad))
          have HT2 := hide ((unhide HT1).st (unhide HL9) (.bool bb) (.string bn) (.string bd))
          refine wpR_late (i := 6) (o := _) (by kernel_rfl) rfl rfl (by kernel_rfl) (fun K hK => ?_)
          go_simp
          refine hK _ _ ⟨⟨(unhide HT1).a.c0, (unhide HT1).a.c1⟩, ⟨(unhide HT1).b.c0, (unhide HT1).b.c1⟩⟩ ?_
          clear hK K
          refine wpR_late (i := 7) (o := _) (by kernel_rfl) rfl rfl (by kernel_rfl) (fun K hK => ?_)
          go_simp
          refine hK _ _ ⟨⟨(unhide HT2).a.c0, (unhide HT2).a.c1⟩, ⟨(unhide HT2).b.c0, (unhide HT2).b.c1⟩⟩ ?_
          clear hK K
          refine wpR_done (by kernel_rfl) ?_
          go_wp2_with fail
          go_meet
          exact ⟨q7, q9, rfl, rfl, qb_fin (unhide HA9) (unhide F69) (unhide FN9) hne (unhide HL7) (unhide HL9)⟩
        · go_simp
          have hb10 := albel W7 (.cells #[.bool false, .string ⟨#[]⟩, .string ⟨#[]⟩] 61)
          have HA10 := hide ((unhide HA7).later hb10)
          refine hK _ _ ⟨trivial, ⟨(unhide HA10).a.c0, (unhide HA10).a.c1⟩, ⟨(unhide HA10).b.c0, (unhide HA10).b.c1⟩⟩ ?_
          clear hK K
          have FN10 : Hid (FBox (W7.alloc (.cells #[.bool false, .string ⟨#[]⟩, .string ⟨#[]⟩] 61)) W7.heap.size (.bool false) (.string ⟨#[]⟩) (.string ⟨#[]⟩)) := fnew _ _ _ _
          have HL10 : Hid (w.heap.size + 1 + 1 < W7.heap.size) := (unhide HA7).r.lt
          have F610 := hide ((unhide FN7).later hb10)
          have HNE : Hid (q7 < W7.heap.size) := (unhide FN7).lt
          clear hb10
          obtain ⟨W10, hW10⟩ : ∃ W10, W10 = W7.alloc (.cells #[.bool false, .string ⟨#[]⟩, .string ⟨#[]⟩] 61) := ⟨_, rfl⟩
          obtain ⟨q10, hq10⟩ : ∃ q10, q10 = W7.heap.size := ⟨_, rfl⟩
          rw [← hW10] at HA10 FN10 F610  ⊢
          rw [← hq10] at FN10 HL10 HNE ⊢
          clear hW10 hq10
          refine wpR_op (i := 3) (o := _) (by kernel_rfl) rfl rfl (fun K hK => ?_)
          go_simp
          refine (unhide H62B _).mono ?_
          rintro e W11 ⟨rfl, hb11⟩
          have HA11 := hide ((unhide HA10).later hb11)
          have F611 := hide ((unhide F610).later hb11)
          have F711 := hide ((unhide FN10).later hb11)
          refine hK _ _ ⟨trivial, ⟨(unhide HA11).a.c0, (unhide HA11).a.c1⟩, ⟨(unhide HA11).b.c0, (unhide HA11).b.c1⟩⟩ ?_
          clear hK K hb11
          have hne : ¬ q7 = q10 := by have h0 := unhide HNE; omega
          have hne1 : ¬ q10 = q7 := by have h0 := unhide HNE; omega
          have x0 := (unhide F611).c0; have x1 := (unhide F611).c1; have x2 := (unhide F611).c2; have xf0 := (unhide F611).f0; have xf1 := (unhide F611).f1; have xf2 := (unhide F611).f2
          have y0 := (unhide F711).c0; have y1 := (unhide F711).c1; have y2 := (unhide F711).c2; have yf0 := (unhide F711).f0; have yf1 := (unhide F711).f1; have yf2 := (unhide F711).f2
          have HT1 := hide ((unhide HA11).st (unhide HL7) (.bool ab) (.string an) (.string ad))
          have HT2 := hide ((unhide HT1).st (unhide HL10) (.bool bb) (.string bn) (.string bd))
          refine wpR_late (i := 6) (o := _) (by kernel_rfl) rfl rfl (by kernel_rfl) (fun K hK => ?_)
          go_simp
          refine hK _ _ ⟨⟨(unhide HT1).a.c0, (unhide HT1).a.c1⟩, ⟨(unhide HT1).b.c0, (unhide HT1).b.c1⟩⟩ ?_
          clear hK K
          refine wpR_late (i := 7) (o := _) (by kernel_rfl) rfl rfl (by kernel_rfl) (fun K hK => ?_)
          go_simp
          refine hK _ _ ⟨⟨(unhide HT2).a.c0, (unhide HT2).a.c1⟩, ⟨(unhide HT2).b.c0, (unhide HT2).b.c1⟩⟩ ?_
          clear hK K
          refine wpR_done (by kernel_rfl) ?_
          go_wp2_with fail
          go_meet
          exact ⟨q7, q10, rfl, rfl, qb_fin (unhide HA11) (unhide F611) (unhide F711) hne (unhide HL7) (unhide HL10)⟩
      · go_simp
        have hb12 := albel W1 (.cells #[.bool false, .string ⟨#[]⟩, .string ⟨#[]⟩] 61)
        have HA12 := hide ((unhide HA1).later hb12)
        refine hK _ _ ⟨trivial, ⟨(unhide HA12).a.c0, (unhide HA12).a.c1⟩, ⟨(unhide HA12).b.c0, (unhide HA12).b.c1⟩⟩ ?_
        clear hK K
        have FN12 : Hid (FBox (W1.alloc (.cells #[.bool false, .string ⟨#[]⟩, .string ⟨#[]⟩] 61)) W1.heap.size (.bool false) (.string ⟨#[]⟩) (.string ⟨#[]⟩)) := fnew _ _ _ _
        have HL12 : Hid (w.heap.size + 1 + 1 < W1.heap.size) := (unhide HA1).r.lt
        clear hb12
        obtain ⟨W12, hW12⟩ : ∃ W12, W12 = W1.alloc (.cells #[.bool false, .string ⟨#[]⟩, .string ⟨#[]⟩] 61) := ⟨_, rfl⟩
        obtain ⟨q12, hq12⟩ : ∃ q12, q12 = W1.heap.size := ⟨_, rfl⟩
        rw [← hW12] at HA12 FN12   ⊢
        rw [← hq12] at FN12 HL12  ⊢
        clear hW12 hq12
        refine wpR_two (i := 3) (j := 4) (by kernel_rfl) rfl rfl rfl rfl (fun K hK => ?_) (fun K hK => ?_) 
        · go_simp
          refine (unhide H62B _).mono ?_
          rintro e W13 ⟨rfl, hb13⟩
          have HA13 := hide ((unhide HA12).later hb13)
          have F713 := hide ((unhide FN12).later hb13)
          refine hK _ _ ⟨trivial, ⟨(unhide HA13).a.c0, (unhide HA13).a.c1⟩, ⟨(unhide HA13).b.c0, (unhide HA13).b.c1⟩⟩ ?_
          clear hK K hb13
          refine wpR_op (i := 4) (o := _) (by kernel_rfl) rfl rfl (fun K hK => ?_)
          go_simp
          have hb14 := albel W13 (.cells #[.bool false, .string ⟨#[]⟩, .string ⟨#[]⟩] 61)
          have HA14 := hide ((unhide HA13).later hb14)
          refine hK _ _ ⟨trivial, ⟨(unhide HA14).a.c0, (unhide HA14).a.c1⟩, ⟨(unhide HA14).b.c0, (unhide HA14).b.c1⟩⟩ ?_
          clear hK K
          have FN14 : Hid (FBox (W13.alloc (.cells #[.bool false, .string ⟨#[]⟩, .string ⟨#[]⟩] 61)) W13.heap.size (.bool false) (.string ⟨#[]⟩) (.string ⟨#[]⟩)) := fnew _ _ _ _
          have HL14 : Hid (w.heap.size + 1 + 1 < W13.heap.size) := (unhide HA13).r.lt
          have F714 := hide ((unhide F713).later hb14)
          have HNE : Hid (q12 < W13.heap.size) := (unhide F713).lt
          clear hb14
          obtain ⟨W14, hW14⟩ : ∃ W14, W14 = W13.alloc (.cells #[.bool false, .string ⟨#[]⟩, .string ⟨#[]⟩] 61) := ⟨_, rfl⟩
          obtain ⟨q14, hq14⟩ : ∃ q14, q14 = W13.heap.size := ⟨_, rfl⟩
          rw [← hW14] at HA14 FN14  F714 ⊢
          rw [← hq14] at FN14 HL14 HNE ⊢
          clear hW14 hq14
          have hne : ¬ q14 = q12 := by have h0 := unhide HNE; omega
          have hne1 : ¬ q12 = q14 := by have h0 := unhide HNE; omega
          have x0 := (unhide FN14).c0; have x1 := (unhide FN14).c1; have x2 := (unhide FN14).c2; have xf0 := (unhide FN14).f0; have xf1 := (unhide FN14).f1; have xf2 := (unhide FN14).f2
          have y0 := (unhide F714).c0; have y1 := (unhide F714).c1; have y2 := (unhide F714).c2; have yf0 := (unhide F714).f0; have yf1 := (unhide F714).f1; have yf2 := (unhide F714).f2
          have HT1 := hide ((unhide HA14).st (unhide HL14) (.bool ab) (.string an) (.string ad))
          have HT2 := hide ((unhide HT1).st (unhide HL12) (.bool bb) (.string bn) (.string bd))
          refine wpR_late (i := 6) (o := _) (by kernel_rfl) rfl rfl (by kernel_rfl) (fun K hK => ?_)
          go_simp
          refine hK _ _ ⟨⟨(unhide HT1).a.c0, (unhide HT1).a.c1⟩, ⟨(unhide HT1).b.c0, (unhide HT1).b.c1⟩⟩ ?_
          clear hK K
          refine wpR_late (i := 7) (o := _) (by kernel_rfl) rfl rfl (by kernel_rfl) (fun K hK => ?_)
          go_simp
          refine hK _ _ ⟨⟨(unhide HT2).a.c0, (unhide HT2).a.c1⟩, ⟨(unhide HT2).b.c0, (unhide HT2).b.c1⟩⟩ ?_
          clear hK K
          refine wpR_done (by kernel_rfl) ?_
          go_wp2_with fail
          go_meet
          exact ⟨q14, q12, rfl, rfl, qb_fin (unhide HA14) (unhide FN14) (unhide F714) hne (unhide HL14) (unhide HL12)⟩
        · go_simp
          have hb15 := albel W12 (.cells #[.bool false, .string ⟨#[]⟩, .string ⟨#[]⟩] 61)
          have HA15 := hide ((unhide HA12).later hb15)
          refine hK _ _ ⟨trivial, ⟨(unhide HA15).a.c0, (unhide HA15).a.c1⟩, ⟨(unhide HA15).b.c0, (unhide HA15).b.c1⟩⟩ ?_
          clear hK K
          have FN15 : Hid (FBox (W12.alloc (.cells #[.bool false, .string ⟨#[]⟩, .string ⟨#[]⟩] 61)) W12.heap.size (.bool false) (.string ⟨#[]⟩) (.string ⟨#[]⟩)) := fnew _ _ _ _
          have HL15 : Hid (w.heap.size + 1 + 1 < W12.heap.size) := (unhide HA12).r.lt
          have F715 := hide ((unhide FN12).later hb15)
          have HNE : Hid (q12 < W12.heap.size) := (unhide FN12).lt
          clear hb15
          obtain ⟨W15, hW15⟩ : ∃ W15, W15 = W12.alloc (.cells #[.bool false, .string ⟨#[]⟩, .string ⟨#[]⟩] 61) := ⟨_, rfl⟩
          obtain ⟨q15, hq15⟩ : ∃ q15, q15 = W12.heap.size := ⟨_, rfl⟩
          rw [← hW15] at HA15 FN15  F715 ⊢
          rw [← hq15] at FN15 HL15 HNE ⊢
          clear hW15 hq15
          refine wpR_op (i := 3) (o := _) (by kernel_rfl) rfl rfl (fun K hK => ?_)
          go_simp
          refine (unhide H62B _).mono ?_
          rintro e W16 ⟨rfl, hb16⟩
          have HA16 := hide ((unhide HA15).later hb16)
          have F616 := hide ((unhide FN15).later hb16)
          have F716 := hide ((unhide F715).later hb16)
          refine hK _ _ ⟨trivial, ⟨(unhide HA16).a.c0, (unhide HA16).a.c1⟩, ⟨(unhide HA16).b.c0, (unhide HA16).b.c1⟩⟩ ?_
          clear hK K hb16
          have hne : ¬ q15 = q12 := by have h0 := unhide HNE; omega
          have hne1 : ¬ q12 = q15 := by have h0 := unhide HNE; omega
          have x0 := (unhide F616).c0; have x1 := (unhide F616).c1; have x2 := (unhide F616).c2; have xf0 := (unhide F616).f0; have xf1 := (unhide F616).f1; have xf2 := (unhide F616).f2
          have y0 := (unhide F716).c0; have y1 := (unhide F716).c1; have y2 := (unhide F716).c2; have yf0 := (unhide F716).f0; have yf1 := (unhide F716).f1; have yf2 := (unhide F716).f2
          have HT1 := hide ((unhide HA16).st (unhide HL15) (.bool ab) (.string an) (.string ad))
          have HT2 := hide ((unhide HT1).st (unhide HL12) (.bool bb) (.string bn) (.string bd))
          refine wpR_late (i := 6) (o := _) (by kernel_rfl) rfl rfl (by kernel_rfl) (fun K hK => ?_)
          go_simp
          refine hK _ _ ⟨⟨(unhide HT1).a.c0, (unhide HT1).a.c1⟩, ⟨(unhide HT1).b.c0, (unhide HT1).b.c1⟩⟩ ?_
          clear hK K
          refine wpR_late (i := 7) (o := _) (by kernel_rfl) rfl rfl (by kernel_rfl) (fun K hK => ?_)
          go_simp
          refine hK _ _ ⟨⟨(unhide HT2).a.c0, (unhide HT2).a.c1⟩, ⟨(unhide HT2).b.c0, (unhide HT2).b.c1⟩⟩ ?_
          clear hK K
          refine wpR_done (by kernel_rfl) ?_
          go_wp2_with fail
          go_meet
          exact ⟨q15, q12, rfl, rfl, qb_fin (unhide HA16) (unhide F616) (unhide F716) hne (unhide HL15) (unhide HL12)⟩
    · go_simp
      have hb17 := albel W0 (.cells #[.bool false, .string ⟨#[]⟩, .string ⟨#[]⟩] 61)
      have HA17 := hide ((unhide HA0).later hb17)
      refine hK _ _ ⟨trivial, ⟨(unhide HA17).a.c0, (unhide HA17).a.c1⟩, ⟨(unhide HA17).b.c0, (unhide HA17).b.c1⟩⟩ ?_
      clear hK K
      have FN17 : Hid (FBox (W0.alloc (.cells #[.bool false, .string ⟨#[]⟩, .string ⟨#[]⟩] 61)) W0.heap.size (.bool false) (.string ⟨#[]⟩) (.string ⟨#[]⟩)) := fnew _ _ _ _
      have HL17 : Hid (w.heap.size + 1 + 1 < W0.heap.size) := (unhide HA0).r.lt
      clear hb17
      obtain ⟨W17, hW17⟩ : ∃ W17, W17 = W0.alloc (.cells #[.bool false, .string ⟨#[]⟩, .string ⟨#[]⟩] 61) := ⟨_, rfl⟩
      obtain ⟨q17, hq17⟩ : ∃ q17, q17 = W0.heap.size := ⟨_, rfl⟩
      rw [← hW17] at HA17 FN17   ⊢
      rw [← hq17] at FN17 HL17  ⊢
      clear hW17 hq17
      refine wpR_two (i := 1) (j := 5) (by kernel_rfl) rfl rfl rfl rfl (fun K hK => ?_) (fun K hK => ?_) 
      · go_simp
        refine (unhide H62A _).mono ?_
        rintro e W18 ⟨rfl, hb18⟩
        have HA18 := hide ((unhide HA17).later hb18)
        have F618 := hide ((unhide FN17).later hb18)
        refine hK _ _ ⟨trivial, ⟨(unhide HA18).a.c0, (unhide HA18).a.c1⟩, ⟨(unhide HA18).b.c0, (unhide HA18).b.c1⟩⟩ ?_
        clear hK K hb18
        refine wpR_two (i := 3) (j := 5) (by kernel_rfl) rfl rfl rfl rfl (fun K hK => ?_) (fun K hK => ?_) 
        · go_simp
          refine (unhide H62B _).mono ?_
          rintro e W19 ⟨rfl, hb19⟩
          have HA19 := hide ((unhide HA18).later hb19)
          have F619 := hide ((unhide F618).later hb19)
          refine hK _ _ ⟨trivial, ⟨(unhide HA19).a.c0, (unhide HA19).a.c1⟩, ⟨(unhide HA19).b.c0, (unhide HA19).b.c1⟩⟩ ?_
          clear hK K hb19
          refine wpR_op (i := 5) (o := _) (by kernel_rfl) rfl rfl (fun K hK => ?_)
          go_simp
          have hb20 := albel W19 (.cells #[.bool false, .string ⟨#[]⟩, .string ⟨#[]⟩] 61)
          have HA20 := hide ((unhide HA19).later hb20)
          refine hK _ _ ⟨trivial, ⟨(unhide HA20).a.c0, (unhide HA20).a.c1⟩, ⟨(unhide HA20).b.c0, (unhide HA20).b.c1⟩⟩ ?_
          clear hK K
          have FN20 : Hid (FBox (W19.alloc (.cells #[.bool false, .string ⟨#[]⟩, .string ⟨#[]⟩] 61)) W19.heap.size (.bool false) (.string ⟨#[]⟩) (.string ⟨#[]⟩)) := fnew _ _ _ _
          have HL20 : Hid (w.heap.size + 1 + 1 < W19.heap.size) := (unhide HA19).r.lt
          have F620 := hide ((unhide F619).later hb20)
          have HNE : Hid (q17 < W19.heap.size) := (unhide F619).lt
          clear hb20
          obtain ⟨W20, hW20⟩ : ∃ W20, W20 = W19.alloc (.cells #[.bool false, .string ⟨#[]⟩, .string ⟨#[]⟩] 61) := ⟨_, rfl⟩
          obtain ⟨q20, hq20⟩ : ∃ q20, q20 = W19.heap.size := ⟨_, rfl⟩
          rw [← hW20] at HA20 FN20 F620  ⊢
          rw [← hq20] at FN20 HL20 HNE ⊢
          clear hW20 hq20
          have hne : ¬ q17 = q20 := by have h0 := unhide HNE; omega
          have hne1 : ¬ q20 = q17 := by have h0 := unhide HNE; omega
          have x0 := (unhide F620).c0; have x1 := (unhide F620).c1; have x2 := (unhide F620).c2; have xf0 := (unhide F620).f0; have xf1 := (unhide F620).f1; have xf2 := (unhide F620).f2
          have y0 := (unhide FN20).c0; have y1 := (unhide FN20).c1; have y2 := (unhide FN20).c2; have yf0 := (unhide FN20).f0; have yf1 := (unhide FN20).f1; have yf2 := (unhide FN20).f2
          have HT1 := hide ((unhide HA20).st (unhide HL17) (.bool ab) (.string an) (.string ad))
          have HT2 := hide ((unhide HT1).st (unhide HL20) (.bool bb) (.string bn) (.string bd))
          refine wpR_late (i := 6) (o := _) (by kernel_rfl) rfl rfl (by kernel_rfl) (fun K hK => ?_)
          go_simp
          refine hK _ _ ⟨⟨(unhide HT1).a.c0, (unhide HT1).a.c1⟩, ⟨(unhide HT1).b.c0, (unhide HT1).b.c1⟩⟩ ?_
          clear hK K
          refine wpR_late (i := 7) (o := _) (by kernel_rfl) rfl rfl (by kernel_rfl) (fun K hK => ?_)
          go_simp
          refine hK _ _ ⟨⟨(unhide HT2).a.c0, (unhide HT2).a.c1⟩, ⟨(unhide HT2).b.c0, (unhide HT2).b.c1⟩⟩ ?_
          clear hK K
          refine wpR_done (by kernel_rfl) ?_
          go_wp2_with fail
          go_meet
          exact ⟨q17, q20, rfl, rfl, qb_fin (unhide HA20) (unhide F620) (unhide FN20) hne (unhide HL17) (unhide HL20)⟩
        · go_simp
          have hb21 := albel W18 (.cells #[.bool false, .string ⟨#[]⟩, .string ⟨#[]⟩] 61)
          have HA21 := hide ((unhide HA18).later hb21)
          refine hK _ _ ⟨trivial, ⟨(unhide HA21).a.c0, (unhide HA21).a.c1⟩, ⟨(unhide HA21).b.c0, (unhide HA21).b.c1⟩⟩ ?_
          clear hK K
          have FN21 : Hid (FBox (W18.alloc (.cells #[.bool false, .string ⟨#[]⟩, .string ⟨#[]⟩] 61)) W18.heap.size (.bool false) (.string ⟨#[]⟩) (.string ⟨#[]⟩)) := fnew _ _ _ _
          have HL21 : Hid (w.heap.size + 1 + 1 < W18.heap.size) := (unhide HA18).r.lt
          have F621 := hide ((unhide F618).later hb21)
          have HNE : Hid (q17 < W18.heap.size) := (unhide F618).lt
          clear hb21
          obtain ⟨W21, hW21⟩ : ∃ W21, W21 = W18.alloc (.cells #[.bool false, .string ⟨#[]⟩, .string ⟨#[]⟩] 61) := ⟨_, rfl⟩
          obtain ⟨q21, hq21⟩ : ∃ q21, q21 = W18.heap.size := ⟨_, rfl⟩
          rw [← hW21] at HA21 FN21 F621  ⊢
          rw [← hq21] at FN21 HL21 HNE ⊢
          clear hW21 hq21
          refine wpR_op (i := 3) (o := _) (by kernel_rfl) rfl rfl (fun K hK => ?_)
          go_simp
          refine (unhide H62B _).mono ?_
          rintro e W22 ⟨rfl, hb22⟩
          have HA22 := hide ((unhide HA21).later hb22)
          have F622 := hide ((unhide F621).later hb22)
          have F722 := hide ((unhide FN21).later hb22)
          refine hK _ _ ⟨trivial, ⟨(unhide HA22).a.c0, (unhide HA22).a.c1⟩, ⟨(unhide HA22).b.c0, (unhide HA22).b.c1⟩⟩ ?_
          clear hK K hb22
          have hne : ¬ q17 = q21 := by have h0 := unhide HNE; omega
          have hne1 : ¬ q21 = q17 := by have h0 := unhide HNE; omega
          have x0 := (unhide F622).c0; have x1 := (unhide F622).c1; have x2 := (unhide F622).c2; have xf0 := (unhide F622).f0; have xf1 := (unhide F622).f1; have xf2 := (unhide F622).f2
          have y0 := (unhide F722).c0; have y1 := (unhide F722).c1; have y2 := (unhide F722).c2; have yf0 := (unhide F722).f0; have yf1 := (unhide F722).f1; have yf2 := (unhide F722).f2
          have HT1 := hide ((unhide HA22).st (unhide HL17) (.bool ab) (.string an) (.string ad))
          have HT2 := hide ((unhide HT1).st (unhide HL21) (.bool bb) (.string bn) (.string bd))
          refine wpR_late (i := 6) (o := _) (by kernel_rfl) rfl rfl (by kernel_rfl) (fun K hK => ?_)
          go_simp
          refine hK _ _ ⟨⟨(unhide HT1).a.c0, (unhide HT1).a.c1⟩, ⟨(unhide HT1).b.c0, (unhide HT1).b.c1⟩⟩ ?_
          clear hK K
          refine wpR_late (i := 7) (o := _) (by kernel_rfl) rfl rfl (by kernel_rfl) (fun K hK => ?_)
          go_simp
          refine hK _ _ ⟨⟨(unhide HT2).a.c0, (unhide HT2).a.c1⟩, ⟨(unhide HT2).b.c0, (unhide HT2).b.c1⟩⟩ ?_
          clear hK K
          refine wpR_done (by kernel_rfl) ?_
          go_wp2_with fail
          go_meet
          exact ⟨q17, q21, rfl, rfl, qb_fin (unhide HA22) (unhide F622) (unhide F722) hne (unhide HL17) (unhide HL21)⟩
      · go_simp
        have hb23 := albel W17 (.cells #[.bool false, .string ⟨#[]⟩, .string ⟨#[]⟩] 61)
        have HA23 := hide ((unhide HA17).later hb23)
        refine hK _ _ ⟨trivial, ⟨(unhide HA23).a.c0, (unhide HA23).a.c1⟩, ⟨(unhide HA23).b.c0, (unhide HA23).b.c1⟩⟩ ?_
        clear hK K
        have FN23 : Hid (FBox (W17.alloc (.cells #[.bool false, .string ⟨#[]⟩, .string ⟨#[]⟩] 61)) W17.heap.size (.bool false) (.string ⟨#[]⟩) (.string ⟨#[]⟩)) := fnew _ _ _ _
        have HL23 : Hid (w.heap.size + 1 + 1 < W17.heap.size) := (unhide HA17).r.lt
        have F623 := hide ((unhide FN17).later hb23)
        have HNE : Hid (q17 < W17.heap.size) := (unhide FN17).lt
        clear hb23
        obtain ⟨W23, hW23⟩ : ∃ W23, W23 = W17.alloc (.cells #[.bool false, .string ⟨#[]⟩, .string ⟨#[]⟩] 61) := ⟨_, rfl⟩
        obtain ⟨q23, hq23⟩ : ∃ q23, q23 = W17.heap.size := ⟨_, rfl⟩
        rw [← hW23] at HA23 FN23 F623  ⊢
        rw [← hq23] at FN23 HL23 HNE ⊢
        clear hW23 hq23
        refine wpR_op (i := 1) (o := _) (by kernel_rfl) rfl rfl (fun K hK => ?_)
        go_simp
        refine (unhide H62A _).mono ?_
        rintro e W24 ⟨rfl, hb24⟩
        have HA24 := hide ((unhide HA23).later hb24)
        have F624 := hide ((unhide F623).later hb24)
        have F724 := hide ((unhide FN23).later hb24)
        refine hK _ _ ⟨trivial, ⟨(unhide HA24).a.c0, (unhide HA24).a.c1⟩, ⟨(unhide HA24).b.c0, (unhide HA24).b.c1⟩⟩ ?_
        clear hK K hb24
        refine wpR_op (i := 3) (o := _) (by kernel_rfl) rfl rfl (fun K hK => ?_)
        go_simp
        refine (unhide H62B _).mono ?_
        rintro e W25 ⟨rfl, hb25⟩
        have HA25 := hide ((unhide HA24).later hb25)
        have F625 := hide ((unhide F624).later hb25)
        have F725 := hide ((unhide F724).later hb25)
        refine hK _ _ ⟨trivial, ⟨(unhide HA25).a.c0, (unhide HA25).a.c1⟩, ⟨(unhide HA25).b.c0, (unhide HA25).b.c1⟩⟩ ?_
        clear hK K hb25
        have hne : ¬ q17 = q23 := by have h0 := unhide HNE; omega
        have hne1 : ¬ q23 = q17 := by have h0 := unhide HNE; omega
        have x0 := (unhide F625).c0; have x1 := (unhide F625).c1; have x2 := (unhide F625).c2; have xf0 := (unhide F625).f0; have xf1 := (unhide F625).f1; have xf2 := (unhide F625).f2
        have y0 := (unhide F725).c0; have y1 := (unhide F725).c1; have y2 := (unhide F725).c2; have yf0 := (unhide F725).f0; have yf1 := (unhide F725).f1; have yf2 := (unhide F725).f2
        have HT1 := hide ((unhide HA25).st (unhide HL17) (.bool ab) (.string an) (.string ad))
        have HT2 := hide ((unhide HT1).st (unhide HL23) (.bool bb) (.string bn) (.string bd))
        refine wpR_late (i := 6) (o := _) (by kernel_rfl) rfl rfl (by kernel_rfl) (fun K hK => ?_)
        go_simp
        refine hK _ _ ⟨⟨(unhide HT1).a.c0, (unhide HT1).a.c1⟩, ⟨(unhide HT1).b.c0, (unhide HT1).b.c1⟩⟩ ?_
        clear hK K
        refine wpR_late (i := 7) (o := _) (by kernel_rfl) rfl rfl (by kernel_rfl) (fun K hK => ?_)
        go_simp
        refine hK _ _ ⟨⟨(unhide HT2).a.c0, (unhide HT2).a.c1⟩, ⟨(unhide HT2).b.c0, (unhide HT2).b.c1⟩⟩ ?_
        clear hK K
        refine wpR_done (by kernel_rfl) ?_
        go_wp2_with fail
        go_meet
        exact ⟨q17, q23, rfl, rfl, qb_fin (unhide HA25) (unhide F625) (unhide F725) hne (unhide HL17) (unhide HL23)⟩
    · go_simp
      have hb26 := albel W0 (.cells #[.bool false, .string ⟨#[]⟩, .string ⟨#[]⟩] 61)
      have HA26 := hide ((unhide HA0).later hb26)
      refine hK _ _ ⟨trivial, ⟨(unhide HA26).a.c0, (unhide HA26).a.c1⟩, ⟨(unhide HA26).b.c0, (unhide HA26).b.c1⟩⟩ ?_
      clear hK K
      have FN26 : Hid (FBox (W0.alloc (.cells #[.bool false, .string ⟨#[]⟩, .string ⟨#[]⟩] 61)) W0.heap.size (.bool false) (.string ⟨#[]⟩) (.string ⟨#[]⟩)) := fnew _ _ _ _
      have HL26 : Hid (w.heap.size + 1 + 1 < W0.heap.size) := (unhide HA0).r.lt
      clear hb26
      obtain ⟨W26, hW26⟩ : ∃ W26, W26 = W0.alloc (.cells #[.bool false, .string ⟨#[]⟩, .string ⟨#[]⟩] 61) := ⟨_, rfl⟩
      obtain ⟨q26, hq26⟩ : ∃ q26, q26 = W0.heap.size := ⟨_, rfl⟩
      rw [← hW26] at HA26 FN26   ⊢
      rw [← hq26] at FN26 HL26  ⊢
      clear hW26 hq26
      refine wpR_two (i := 1) (j := 4) (by kernel_rfl) rfl rfl rfl rfl (fun K hK => ?_) (fun K hK => ?_) 
      · go_simp
        refine (unhide H62A _).mono ?_
        rintro e W27 ⟨rfl, hb27⟩
        have HA27 := hide ((unhide HA26).later hb27)
        have F727 := hide ((unhide FN26).later hb27)
        refine hK _ _ ⟨trivial, ⟨(unhide HA27).a.c0, (unhide HA27).a.c1⟩, ⟨(unhide HA27).b.c0, (unhide HA27).b.c1⟩⟩ ?_
        clear hK K hb27
        refine wpR_two (i := 3) (j := 4) (by kernel_rfl) rfl rfl rfl rfl (fun K hK => ?_) (fun K hK => ?_) 
        · go_simp
          refine (unhide H62B _).mono ?_
          rintro e W28 ⟨rfl, hb28⟩
          have HA28 := hide ((unhide HA27).later hb28)
          have F728 := hide ((unhide F727).later hb28)
          refine hK _ _ ⟨trivial, ⟨(unhide HA28).a.c0, (unhide HA28).a.c1⟩, ⟨(unhide HA28).b.c0, (unhide HA28).b.c1⟩⟩ ?_
          clear hK K hb28
          refine wpR_op (i := 4) (o := _) (by kernel_rfl) rfl rfl (fun K hK => ?_)
          go_simp
          have hb29 := albel W28 (.cells #[.bool false, .string ⟨#[]⟩, .string ⟨#[]⟩] 61)
          have HA29 := hide ((unhide HA28).later hb29)
          refine hK _ _ ⟨trivial, ⟨(unhide HA29).a.c0, (unhide HA29).a.c1⟩, ⟨(unhide HA29).b.c0, (unhide HA29).b.c1⟩⟩ ?_
          clear hK K
          have FN29 : Hid (FBox (W28.alloc (.cells #[.bool false, .string ⟨#[]⟩, .string ⟨#[]⟩] 61)) W28.heap.size (.bool false) (.string ⟨#[]⟩) (.string ⟨#[]⟩)) := fnew _ _ _ _
          have HL29 : Hid (w.heap.size + 1 + 1 < W28.heap.size) := (unhide HA28).r.lt
          have F729 := hide ((unhide F728).later hb29)
          have HNE : Hid (q26 < W28.heap.size) := (unhide F728).lt
          clear hb29
          obtain ⟨W29, hW29⟩ : ∃ W29, W29 = W28.alloc (.cells #[.bool false, .string ⟨#[]⟩, .string ⟨#[]⟩] 61) := ⟨_, rfl⟩
          obtain ⟨q29, hq29⟩ : ∃ q29, q29 = W28.heap.size := ⟨_, rfl⟩
          rw [← hW29] at HA29 FN29  F729 ⊢
          rw [← hq29] at FN29 HL29 HNE ⊢
          clear hW29 hq29
          have hne : ¬ q29 = q26 := by have h0 := unhide HNE; omega
          have hne1 : ¬ q26 = q29 := by have h0 := unhide HNE; omega
          have x0 := (unhide FN29).c0; have x1 := (unhide FN29).c1; have x2 := (unhide FN29).c2; have xf0 := (unhide FN29).f0; have xf1 := (unhide FN29).f1; have xf2 := (unhide FN29).f2
          have y0 := (unhide F729).c0; have y1 := (unhide F729).c1; have y2 := (unhide F729).c2; have yf0 := (unhide F729).f0; have yf1 := (unhide F729).f1; have yf2 := (unhide F729).f2
          have HT1 := hide ((unhide HA29).st (unhide HL29) (.bool ab) (.string an) (.string ad))
          have HT2 := hide ((unhide HT1).st (unhide HL26) (.bool bb) (.string bn) (.string bd))
          refine wpR_late (i := 6) (o := _) (by kernel_rfl) rfl rfl (by kernel_rfl) (fun K hK => ?_)
          go_simp
          refine hK _ _ ⟨⟨(unhide HT1).a.c0, (unhide HT1).a.c1⟩, ⟨(unhide HT1).b.c0, (unhide HT1).b.c1⟩⟩ ?_
          clear hK K
          refine wpR_late (i := 7) (o := _) (by kernel_rfl) rfl rfl (by kernel_rfl) (fun K hK => ?_)
          go_simp
          refine hK _ _ ⟨⟨(unhide HT2).a.c0, (unhide HT2).a.c1⟩, ⟨(unhide HT2).b.c0, (unhide HT2).b.c1⟩⟩ ?_
          clear hK K
          refine wpR_done (by kernel_rfl) ?_
          go_wp2_with fail
          go_meet
          exact ⟨q29, q26, rfl, rfl, qb_fin (unhide HA29) (unhide FN29) (unhide F729) hne (unhide HL29) (unhide HL26)⟩
        · go_simp
          have hb30 := albel W27 (.cells #[.bool false, .string ⟨#[]⟩, .string ⟨#[]⟩] 61)
          have HA30 := hide ((unhide HA27).later hb30)
          refine hK _ _ ⟨trivial, ⟨(unhide HA30).a.c0, (unhide HA30).a.c1⟩, ⟨(unhide HA30).b.c0, (unhide HA30).b.c1⟩⟩ ?_
          clear hK K
          have FN30 : Hid (FBox (W27.alloc (.cells #[.bool false, .string ⟨#[]⟩, .string ⟨#[]⟩] 61)) W27.heap.size (.bool false) (.string ⟨#[]⟩) (.string ⟨#[]⟩)) := fnew _ _ _ _
          have HL30 : Hid (w.heap.size + 1 + 1 < W27.heap.size) := (unhide HA27).r.lt
          have F730 := hide ((unhide F727).later hb30)
          have HNE : Hid (q26 < W27.heap.size) := (unhide F727).lt
          clear hb30
          obtain ⟨W30, hW30⟩ : ∃ W30, W30 = W27.alloc (.cells #[.bool false, .string ⟨#[]⟩, .string ⟨#[]⟩] 61) := ⟨_, rfl⟩
          obtain ⟨q30, hq30⟩ : ∃ q30, q30 = W27.heap.size := ⟨_, rfl⟩
          rw [← hW30] at HA30 FN30  F730 ⊢
          rw [← hq30] at FN30 HL30 HNE ⊢
          clear hW30 hq30
          refine wpR_op (i := 3) (o := _) (by kernel_rfl) rfl rfl (fun K hK => ?_)
          go_simp
          refine (unhide H62B _).mono ?_
          rintro e W31 ⟨rfl, hb31⟩
          have HA31 := hide ((unhide HA30).later hb31)
          have F631 := hide ((unhide FN30).later hb31)
          have F731 := hide ((unhide F730).later hb31)
          refine hK _ _ ⟨trivial, ⟨(unhide HA31).a.c0, (unhide HA31).a.c1⟩, ⟨(unhide HA31).b.c0, (unhide HA31).b.c1⟩⟩ ?_
          clear hK K hb31
          have hne : ¬ q30 = q26 := by have h0 := unhide HNE; omega
          have hne1 : ¬ q26 = q30 := by have h0 := unhide HNE; omega
          have x0 := (unhide F631).c0; have x1 := (unhide F631).c1; have x2 := (unhide F631).c2; have xf0 := (unhide F631).f0; have xf1 := (unhide F631).f1; have xf2 := (unhide F631).f2
          have y0 := (unhide F731).c0; have y1 := (unhide F731).c1; have y2 := (unhide F731).c2; have yf0 := (unhide F731).f0; have yf1 := (unhide F731).f1; have yf2 := (unhide F731).f2
          have HT1 := hide ((unhide HA31).st (unhide HL30) (.bool ab) (.string an) (.string ad))
          have HT2 := hide ((unhide HT1).st (unhide HL26) (.bool bb) (.string bn) (.string bd))
          refine wpR_late (i := 6) (o := _) (by kernel_rfl) rfl rfl (by kernel_rfl) (fun K hK => ?_)
          go_simp
          refine hK _ _ ⟨⟨(unhide HT1).a.c0, (unhide HT1).a.c1⟩, ⟨(unhide HT1).b.c0, (unhide HT1).b.c1⟩⟩ ?_
          clear hK K
          refine wpR_late (i := 7) (o := _) (by kernel_rfl) rfl rfl (by kernel_rfl) (fun K hK => ?_)
          go_simp
          refine hK _ _ ⟨⟨(unhide HT2).a.c0, (unhide HT2).a.c1⟩, ⟨(unhide HT2).b.c0, (unhide HT2).b.c1⟩⟩ ?_
          clear hK K
          refine wpR_done (by kernel_rfl) ?_
          go_wp2_with fail
          go_meet
          exact ⟨q30, q26, rfl, rfl, qb_fin (unhide HA31) (unhide F631) (unhide F731) hne (unhide HL30) (unhide HL26)⟩
      · go_simp
        have hb32 := albel W26 (.cells #[.bool false, .string ⟨#[]⟩, .string ⟨#[]⟩] 61)
        have HA32 := hide ((unhide HA26).later hb32)
        refine hK _ _ ⟨trivial, ⟨(unhide HA32).a.c0, (unhide HA32).a.c1⟩, ⟨(unhide HA32).b.c0, (unhide HA32).b.c1⟩⟩ ?_
        clear hK K
        have FN32 : Hid (FBox (W26.alloc (.cells #[.bool false, .string ⟨#[]⟩, .string ⟨#[]⟩] 61)) W26.heap.size (.bool false) (.string ⟨#[]⟩) (.string ⟨#[]⟩)) := fnew _ _ _ _
        have HL32 : Hid (w.heap.size + 1 + 1 < W26.heap.size) := (unhide HA26).r.lt
        have F732 := hide ((unhide FN26).later hb32)
        have HNE : Hid (q26 < W26.heap.size) := (unhide FN26).lt
        clear hb32
        obtain ⟨W32, hW32⟩ : ∃ W32, W32 = W26.alloc (.cells #[.bool false, .string ⟨#[]⟩, .string ⟨#[]⟩] 61) := ⟨_, rfl⟩
        obtain ⟨q32, hq32⟩ : ∃ q32, q32 = W26.heap.size := ⟨_, rfl⟩
        rw [← hW32] at HA32 FN32  F732 ⊢
        rw [← hq32] at FN32 HL32 HNE ⊢
        clear hW32 hq32
        refine wpR_op (i := 1) (o := _) (by kernel_rfl) rfl rfl (fun K hK => ?_)
        go_simp
        refine (unhide H62A _).mono ?_
        rintro e W33 ⟨rfl, hb33⟩
        have HA33 := hide ((unhide HA32).later hb33)
        have F633 := hide ((unhide FN32).later hb33)
        have F733 := hide ((unhide F732).later hb33)
        refine hK _ _ ⟨trivial, ⟨(unhide HA33).a.c0, (unhide HA33).a.c1⟩, ⟨(unhide HA33).b.c0, (unhide HA33).b.c1⟩⟩ ?_
        clear hK K hb33
        refine wpR_op (i := 3) (o := _) (by kernel_rfl) rfl rfl (fun K hK => ?_)
        go_simp
        refine (unhide H62B _).mono ?_
        rintro e W34 ⟨rfl, hb34⟩
        have HA34 := hide ((unhide HA33).later hb34)
        have F634 := hide ((unhide F633).later hb34)
        have F734 := hide ((unhide F733).later hb34)
        refine hK _ _ ⟨trivial, ⟨(unhide HA34).a.c0, (unhide HA34).a.c1⟩, ⟨(unhide HA34).b.c0, (unhide HA34).b.c1⟩⟩ ?_
        clear hK K hb34
        have hne : ¬ q32 = q26 := by have h0 := unhide HNE; omega
        have hne1 : ¬ q26 = q32 := by have h0 := unhide HNE; omega
        have x0 := (unhide F634).c0; have x1 := (unhide F634).c1; have x2 := (unhide F634).c2; have xf0 := (unhide F634).f0; have xf1 := (unhide F634).f1; have xf2 := (unhide F634).f2
        have y0 := (unhide F734).c0; have y1 := (unhide F734).c1; have y2 := (unhide F734).c2; have yf0 := (unhide F734).f0; have yf1 := (unhide F734).f1; have yf2 := (unhide F734).f2
        have HT1 := hide ((unhide HA34).st (unhide HL32) (.bool ab) (.string an) (.string ad))
        have HT2 := hide ((unhide HT1).st (unhide HL26) (.bool bb) (.string bn) (.string bd))
        refine wpR_late (i := 6) (o := _) (by kernel_rfl) rfl rfl (by kernel_rfl) (fun K hK => ?_)
        go_simp
        refine hK _ _ ⟨⟨(unhide HT1).a.c0, (unhide HT1).a.c1⟩, ⟨(unhide HT1).b.c0, (unhide HT1).b.c1⟩⟩ ?_
        clear hK K
        refine wpR_late (i := 7) (o := _) (by kernel_rfl) rfl rfl (by kernel_rfl) (fun K hK => ?_)
        go_simp
        refine hK _ _ ⟨⟨(unhide HT2).a.c0, (unhide HT2).a.c1⟩, ⟨(unhide HT2).b.c0, (unhide HT2).b.c1⟩⟩ ?_
        clear hK K
        refine wpR_done (by kernel_rfl) ?_
        go_wp2_with fail
        go_meet
        exact ⟨q32, q26, rfl, rfl, qb_fin (unhide HA34) (unhide F634) (unhide F734) hne (unhide HL32) (unhide HL26)⟩
  case rest =>
    obtain ⟨g6, g7, rfl, rfl, HQ⟩ := hcut
    have p0 := (unhide HQ).f.c0; have p1 := (unhide HQ).f.c1; have p2 := (unhide HQ).f.c2; have q0 := (unhide HQ).g.c0; have q1 := (unhide HQ).g.c1; have q2 := (unhide HQ).g.c2
    go_upto_region 5 with (go_at_call 66; go_must (refine (unhide H64 _).mono ?_; rintro e w4 ⟨rfl, hb4⟩; have HQ4 := hide ((unhide HQ).later hb4); clear hb4; clear p0 p1 p2 q0 q1 q2; have p0 := (unhide HQ4).f.c0; have p1 := (unhide HQ4).f.c1; have p2 := (unhide HQ4).f.c2; have q0 := (unhide HQ4).g.c0; have q1 := (unhide HQ4).g.c1; have q2 := (unhide HQ4).g.c2))
    have r0 := (unhide HQ4).r.c0; have r1 := (unhide HQ4).r.c1; have rf0 := (unhide HQ4).r.f0; have rf1 := (unhide HQ4).r.f1
    go_wp2_with fail
    have hS := ((unhide HQ4).r).store (.string ⟨#[]⟩) (.string ⟨#[]⟩)
    have hb : Below w.heap.size w (store2 w4 (w.heap.size + 1 + 1) (.string ⟨#[]⟩) (.string ⟨#[]⟩)) := below_store2 ((unhide HQ4).below) (by omega) _ _
    have v0 := hS.c0; have v1 := hS.c1
    exact bodyPost_ret (v := .tuple #[.agg #[.string ⟨#[]⟩, .string ⟨#[]⟩], .int .i64 9]) (w := store2 w4 (w.heap.size + 1 + 1) (.string ⟨#[]⟩) (.string ⟨#[]⟩)) (by simp [results, Tryz.results56, go_sem, v0, v1]) rfl ⟨rfl, hb⟩

set_option maxRecDepth 100000 in
set_option maxHeartbeats 20000000 in
theorem refSimple_zero (n1 d1 n2 d2 : ByteArray) (ab : Bool) (an ad bn bd : ByteArray) (k : Int) (w : World)
    (h18a : ∀ W, Calls Tryz.prog 20 #[.agg #[.string n1, .string d1]] W fun r w' => r = .returned (.bool true) ∧ Below W.heap.size W w')
    (h18b : ∀ W, Calls Tryz.prog 20 #[.agg #[.string n2, .string d2]] W fun r w' => r = .returned (.bool true) ∧ Below W.heap.size W w')
    (h62a : ∀ W, Calls Tryz.prog 64 #[.agg #[.string n1, .string d1]] W fun r w' => r = .returned (.agg #[.bool ab, .string an, .string ad]) ∧ Below W.heap.size W w')
    (h62b : ∀ W, Calls Tryz.prog 64 #[.agg #[.string n2, .string d2]] W fun r w' => r = .returned (.agg #[.bool false, .string bn, .string bd]) ∧ Below W.heap.size W w')
    (h64 : ∀ W, Calls Tryz.prog 66 #[.agg #[.bool ab, .string an, .string ad], .agg #[.bool false, .string bn, .string bd]] W fun r w' => r = .returned (.int .i64 k) ∧ Below W.heap.size W w') (hk : ¬ 0 < k) (hz : ab = true ∨ (an.toList == [48]) = true) : Ans 56 #[.agg #[.string n1, .string d1], .agg #[.string n2, .string d2]] w ⟨#[48]⟩ ⟨#[49]⟩ 0 := by
  unfold Ans
  obtain ⟨V, hV⟩ : ∃ V, V = ((w.alloc (.cells #[.string n1, .string d1] 23)).alloc (.cells #[.string n2, .string d2] 23)).alloc (.cells #[.string ⟨#[]⟩, .string ⟨#[]⟩] 23) := ⟨_, rfl⟩
  have HS0 : Hid (A3 w V n1 d1 n2 d2) := by
    rw [hV]
    exact ⟨⟨by simp [go_sem], by simp [go_sem], by simp [go_sem], by simp [go_sem]⟩, ⟨by simp [go_sem], by simp [go_sem], by simp [go_sem], by simp [go_sem]⟩, ⟨by simp [go_sem], by simp [go_sem], by simp [go_sem], by simp [go_sem]⟩, (((Below.refl _ _).alloc (Nat.le_refl _) _).alloc (by simp) _).alloc (by simp; omega) _⟩
  have HV := hide hV
  have H18A := hide h18a; have H18B := hide h18b; have H62A := hide h62a; have H62B := hide h62b; have H64 := hide h64
  clear h18a h18b h62a h62b h64
  go_enter Tryz.func56, Tryz.ntmps56
  go_upto_region 1 with fail
  rw [← unhide HV]
  clear hV HV
  have t0 := (unhide HS0).a.c0; have t1 := (unhide HS0).a.c1; have t2 := (unhide HS0).b.c0; have t3 := (unhide HS0).b.c1
  go_upto_region 3 with (first
    | (go_at_call_of 20 (Value.agg #[Value.string n1, Value.string d1]); go_must (refine (unhide H18A _).mono ?_; rintro e w1 ⟨rfl, hb1⟩; have HS1 := hide ((unhide HS0).later hb1); clear hb1 t0 t1 t2 t3; have t0 := (unhide HS1).a.c0; have t1 := (unhide HS1).a.c1; have t2 := (unhide HS1).b.c0; have t3 := (unhide HS1).b.c1))
    | (go_at_call_of 20 (Value.agg #[Value.string n2, Value.string d2]); go_must (refine (unhide H18B _).mono ?_; rintro e V2 ⟨rfl, hb2⟩; have HS2 := hide ((unhide HS1).later hb2); clear hb2 t0 t1 t2 t3; have t0 := (unhide HS2).a.c0; have t1 := (unhide HS2).a.c1; have t2 := (unhide HS2).b.c0; have t3 := (unhide HS2).b.c1)))
  clear HS0 HS1 H18A H18B
  have lv := (unhide HS2).r.lt
  have lv0 := (unhide HS2).a.lt
  have lv1 := (unhide HS2).b.lt
  go_cut [6, 7] from 8 (fun s6 s7 wx => ∃ g6 g7, s6 = .pointer (some ⟨g6, 0, none⟩) ∧ s7 = .pointer (some ⟨g7, 0, none⟩) ∧ Hid (QB w wx g6 g7 ab an ad false bn bd))
  case first =>
    have HA0 : Hid (A3 w V2.drew n1 d1 n2 d2) := (unhide HS2).later (Below.refl _ _).drew
    refine region_reads 6 (fun _ => True) (fun W => (W.cell? ⟨w.heap.size, 0, none⟩ = some (.string n1) ∧ W.cell? ⟨w.heap.size, 1, none⟩ = some (.string d1)) ∧ (W.cell? ⟨w.heap.size + 1, 0, none⟩ = some (.string n2) ∧ W.cell? ⟨w.heap.size + 1, 1, none⟩ = some (.string d2))) 8 rfl (by kernel_rfl) ?_
    obtain ⟨W0, hW0⟩ : ∃ W0, W0 = V2.drew := ⟨_, rfl⟩
    rw [← hW0] at HA0 ⊢
    clear hW0 t0 t1 t2 t3 lv lv0 lv1
    have HC0 : Hid ((W0.cell? ⟨w.heap.size, 0, none⟩ = some (.string n1) ∧ W0.cell? ⟨w.heap.size, 1, none⟩ = some (.string d1)) ∧ (W0.cell? ⟨w.heap.size + 1, 0, none⟩ = some (.string n2) ∧ W0.cell? ⟨w.heap.size + 1, 1, none⟩ = some (.string d2))) := ⟨⟨(unhide HA0).a.c0, (unhide HA0).a.c1⟩, ⟨(unhide HA0).b.c0, (unhide HA0).b.c1⟩⟩
    refine wpR_take7 (i := 0) (oi := _) (v := .agg #[.string n1, .string d1]) rfl (by kernel_rfl) (by kernel_rfl) (by kernel_rfl) (by kernel_rfl) (fun _ _ _ h => h) (Or.inl ⟨by rfl, ?_⟩) ⟨trivial, unhide HC0⟩ ?_
    · intro W hW
      go_split_ands
      go_simp
    refine wpR_take7 (i := 2) (oi := _) (v := .agg #[.string n2, .string d2]) rfl (by kernel_rfl) (by kernel_rfl) (by kernel_rfl) (by kernel_rfl) (fun _ _ _ h => h) (Or.inl ⟨by rfl, ?_⟩) ⟨trivial, unhide HC0⟩ ?_
    · intro W hW
      go_split_ands
      go_simp
    refine wpR_three (i := 1) (j := 4) (m := 5) (by kernel_rfl) rfl rfl rfl rfl rfl rfl (fun K hK => ?_) (fun K hK => ?_) (fun K hK => ?_) 
    · go_simp
      refine (unhide H62A _).mono ?_
      rintro e W1 ⟨rfl, hb1⟩
      have HA1 := hide ((unhide HA0).later hb1)
      refine hK _ _ ⟨trivial, ⟨(unhide HA1).a.c0, (unhide HA1).a.c1⟩, ⟨(unhide HA1).b.c0, (unhide HA1).b.c1⟩⟩ ?_
      clear hK K hb1
      refine wpR_three (i := 3) (j := 4) (m := 5) (by kernel_rfl) rfl rfl rfl rfl rfl rfl (fun K hK => ?_) (fun K hK => ?_) (fun K hK => ?_) 
      · go_simp
        refine (unhide H62B _).mono ?_
        rintro e W2 ⟨rfl, hb2⟩
        have HA2 := hide ((unhide HA1).later hb2)
        refine hK _ _ ⟨trivial, ⟨(unhide HA2).a.c0, (unhide HA2).a.c1⟩, ⟨(unhide HA2).b.c0, (unhide HA2).b.c1⟩⟩ ?_
        clear hK K hb2
        refine wpR_two (i := 4) (j := 5) (by kernel_rfl) rfl rfl rfl rfl (fun K hK => ?_) (fun K hK => ?_) 
        · go_simp
          have hb3 := albel W2 (.cells #[.bool false, .string ⟨#[]⟩, .string ⟨#[]⟩] 61)
          have HA3 := hide ((unhide HA2).later hb3)
          refine hK _ _ ⟨trivial, ⟨(unhide HA3).a.c0, (unhide HA3).a.c1⟩, ⟨(unhide HA3).b.c0, (unhide HA3).b.c1⟩⟩ ?_
          clear hK K
          have FN3 : Hid (FBox (W2.alloc (.cells #[.bool false, .string ⟨#[]⟩, .string ⟨#[]⟩] 61)) W2.heap.size (.bool false) (.string ⟨#[]⟩) (.string ⟨#[]⟩)) := fnew _ _ _ _
          have HL3 : Hid (w.heap.size + 1 + 1 < W2.heap.size) := (unhide HA2).r.lt
          clear hb3
          obtain ⟨W3, hW3⟩ : ∃ W3, W3 = W2.alloc (.cells #[.bool false, .string ⟨#[]⟩, .string ⟨#[]⟩] 61) := ⟨_, rfl⟩
          obtain ⟨q3, hq3⟩ : ∃ q3, q3 = W2.heap.size := ⟨_, rfl⟩
          rw [← hW3] at HA3 FN3   ⊢
          rw [← hq3] at FN3 HL3  ⊢
          clear hW3 hq3
          refine wpR_op (i := 5) (o := _) (by kernel_rfl) rfl rfl (fun K hK => ?_)
          go_simp
          have hb4 := albel W3 (.cells #[.bool false, .string ⟨#[]⟩, .string ⟨#[]⟩] 61)
          have HA4 := hide ((unhide HA3).later hb4)
          refine hK _ _ ⟨trivial, ⟨(unhide HA4).a.c0, (unhide HA4).a.c1⟩, ⟨(unhide HA4).b.c0, (unhide HA4).b.c1⟩⟩ ?_
          clear hK K
          have FN4 : Hid (FBox (W3.alloc (.cells #[.bool false, .string ⟨#[]⟩, .string ⟨#[]⟩] 61)) W3.heap.size (.bool false) (.string ⟨#[]⟩) (.string ⟨#[]⟩)) := fnew _ _ _ _
          have HL4 : Hid (w.heap.size + 1 + 1 < W3.heap.size) := (unhide HA3).r.lt
          have F64 := hide ((unhide FN3).later hb4)
          have HNE : Hid (q3 < W3.heap.size) := (unhide FN3).lt
          clear hb4
          obtain ⟨W4, hW4⟩ : ∃ W4, W4 = W3.alloc (.cells #[.bool false, .string ⟨#[]⟩, .string ⟨#[]⟩] 61) := ⟨_, rfl⟩
          obtain ⟨q4, hq4⟩ : ∃ q4, q4 = W3.heap.size := ⟨_, rfl⟩
          rw [← hW4] at HA4 FN4 F64  ⊢
          rw [← hq4] at FN4 HL4 HNE ⊢
          clear hW4 hq4
          have hne : ¬ q3 = q4 := by have h0 := unhide HNE; omega
          have hne1 : ¬ q4 = q3 := by have h0 := unhide HNE; omega
          have x0 := (unhide F64).c0; have x1 := (unhide F64).c1; have x2 := (unhide F64).c2; have xf0 := (unhide F64).f0; have xf1 := (unhide F64).f1; have xf2 := (unhide F64).f2
          have y0 := (unhide FN4).c0; have y1 := (unhide FN4).c1; have y2 := (unhide FN4).c2; have yf0 := (unhide FN4).f0; have yf1 := (unhide FN4).f1; have yf2 := (unhide FN4).f2
          have HT1 := hide ((unhide HA4).st (unhide HL3) (.bool ab) (.string an) (.string ad))
          have HT2 := hide ((unhide HT1).st (unhide HL4) (.bool false) (.string bn) (.string bd))
          refine wpR_late (i := 6) (o := _) (by kernel_rfl) rfl rfl (by kernel_rfl) (fun K hK => ?_)
          go_simp
          refine hK _ _ ⟨⟨(unhide HT1).a.c0, (unhide HT1).a.c1⟩, ⟨(unhide HT1).b.c0, (unhide HT1).b.c1⟩⟩ ?_
          clear hK K
          refine wpR_late (i := 7) (o := _) (by kernel_rfl) rfl rfl (by kernel_rfl) (fun K hK => ?_)
          go_simp
          refine hK _ _ ⟨⟨(unhide HT2).a.c0, (unhide HT2).a.c1⟩, ⟨(unhide HT2).b.c0, (unhide HT2).b.c1⟩⟩ ?_
          clear hK K
          refine wpR_done (by kernel_rfl) ?_
          go_wp2_with fail
          go_meet
          exact ⟨q3, q4, rfl, rfl, qb_fin (unhide HA4) (unhide F64) (unhide FN4) hne (unhide HL3) (unhide HL4)⟩
        · go_simp
          have hb5 := albel W2 (.cells #[.bool false, .string ⟨#[]⟩, .string ⟨#[]⟩] 61)
          have HA5 := hide ((unhide HA2).later hb5)
          refine hK _ _ ⟨trivial, ⟨(unhide HA5).a.c0, (unhide HA5).a.c1⟩, ⟨(unhide HA5).b.c0, (unhide HA5).b.c1⟩⟩ ?_
          clear hK K
          have FN5 : Hid (FBox (W2.alloc (.cells #[.bool false, .string ⟨#[]⟩, .string ⟨#[]⟩] 61)) W2.heap.size (.bool false) (.string ⟨#[]⟩) (.string ⟨#[]⟩)) := fnew _ _ _ _
          have HL5 : Hid (w.heap.size + 1 + 1 < W2.heap.size) := (unhide HA2).r.lt
          clear hb5
          obtain ⟨W5, hW5⟩ : ∃ W5, W5 = W2.alloc (.cells #[.bool false, .string ⟨#[]⟩, .string ⟨#[]⟩] 61) := ⟨_, rfl⟩
          obtain ⟨q5, hq5⟩ : ∃ q5, q5 = W2.heap.size := ⟨_, rfl⟩
          rw [← hW5] at HA5 FN5   ⊢
          rw [← hq5] at FN5 HL5  ⊢
          clear hW5 hq5
          refine wpR_op (i := 4) (o := _) (by kernel_rfl) rfl rfl (fun K hK => ?_)
          go_simp
          have hb6 := albel W5 (.cells #[.bool false, .string ⟨#[]⟩, .string ⟨#[]⟩] 61)
          have HA6 := hide ((unhide HA5).later hb6)
          refine hK _ _ ⟨trivial, ⟨(unhide HA6).a.c0, (unhide HA6).a.c1⟩, ⟨(unhide HA6).b.c0, (unhide HA6).b.c1⟩⟩ ?_
          clear hK K
          have FN6 : Hid (FBox (W5.alloc (.cells #[.bool false, .string ⟨#[]⟩, .string ⟨#[]⟩] 61)) W5.heap.size (.bool false) (.string ⟨#[]⟩) (.string ⟨#[]⟩)) := fnew _ _ _ _
          have HL6 : Hid (w.heap.size + 1 + 1 < W5.heap.size) := (unhide HA5).r.lt
          have F76 := hide ((unhide FN5).later hb6)
          have HNE : Hid (q5 < W5.heap.size) := (unhide FN5).lt
          clear hb6
          obtain ⟨W6, hW6⟩ : ∃ W6, W6 = W5.alloc (.cells #[.bool false, .string ⟨#[]⟩, .string ⟨#[]⟩] 61) := ⟨_, rfl⟩
          obtain ⟨q6, hq6⟩ : ∃ q6, q6 = W5.heap.size := ⟨_, rfl⟩
          rw [← hW6] at HA6 FN6  F76 ⊢
          rw [← hq6] at FN6 HL6 HNE ⊢
          clear hW6 hq6
          have hne : ¬ q6 = q5 := by have h0 := unhide HNE; omega
          have hne1 : ¬ q5 = q6 := by have h0 := unhide HNE; omega
          have x0 := (unhide FN6).c0; have x1 := (unhide FN6).c1; have x2 := (unhide FN6).c2; have xf0 := (unhide FN6).f0; have xf1 := (unhide FN6).f1; have xf2 := (unhide FN6).f2
          have y0 := (unhide F76).c0; have y1 := (unhide F76).c1; have y2 := (unhide F76).c2; have yf0 := (unhide F76).f0; have yf1 := (unhide F76).f1; have yf2 := (unhide F76).f2
          have HT1 := hide ((unhide HA6).st (unhide HL6) (.bool ab) (.string an) (.string ad))
          have HT2 := hide ((unhide HT1).st (unhide HL5) (.bool false) (.string bn) (.string bd))
          refine wpR_late (i := 6) (o := _) (by kernel_rfl) rfl rfl (by kernel_rfl) (fun K hK => ?_)
          go_simp
          refine hK _ _ ⟨⟨(unhide HT1).a.c0, (unhide HT1).a.c1⟩, ⟨(unhide HT1).b.c0, (unhide HT1).b.c1⟩⟩ ?_
          clear hK K
          refine wpR_late (i := 7) (o := _) (by kernel_rfl) rfl rfl (by kernel_rfl) (fun K hK => ?_)
          go_simp
          refine hK _ _ ⟨⟨(unhide HT2).a.c0, (unhide HT2).a.c1⟩, ⟨(unhide HT2).b.c0, (unhide HT2).b.c1⟩⟩ ?_
          clear hK K
          refine wpR_done (by kernel_rfl) ?_
          go_wp2_with fail
          go_meet
          exact ⟨q6, q5, rfl, rfl, qb_fin (unhide HA6) (unhide FN6) (unhide F76) hne (unhide HL6) (unhide HL5)⟩
      · go_simp
        have hb7 := albel W1 (.cells #[.bool false, .string ⟨#[]⟩, .string ⟨#[]⟩] 61)
        have HA7 := hide ((unhide HA1).later hb7)
        refine hK _ _ ⟨trivial, ⟨(unhide HA7).a.c0, (unhide HA7).a.c1⟩, ⟨(unhide HA7).b.c0, (unhide HA7).b.c1⟩⟩ ?_
        clear hK K
        have FN7 : Hid (FBox (W1.alloc (.cells #[.bool false, .string ⟨#[]⟩, .string ⟨#[]⟩] 61)) W1.heap.size (.bool false) (.string ⟨#[]⟩) (.string ⟨#[]⟩)) := fnew _ _ _ _
        have HL7 : Hid (w.heap.size + 1 + 1 < W1.heap.size) := (unhide HA1).r.lt
        clear hb7
        obtain ⟨W7, hW7⟩ : ∃ W7, W7 = W1.alloc (.cells #[.bool false, .string ⟨#[]⟩, .string ⟨#[]⟩] 61) := ⟨_, rfl⟩
        obtain ⟨q7, hq7⟩ : ∃ q7, q7 = W1.heap.size := ⟨_, rfl⟩
        rw [← hW7] at HA7 FN7   ⊢
        rw [← hq7] at FN7 HL7  ⊢
        clear hW7 hq7
        refine wpR_two (i := 3) (j := 5) (by kernel_rfl) rfl rfl rfl rfl (fun K hK => ?_) (fun K hK => ?_) 
        · go_simp
          refine (unhide H62B _).mono ?_
          rintro e W8 ⟨rfl, hb8⟩
          have HA8 := hide ((unhide HA7).later hb8)
          have F68 := hide ((unhide FN7).later hb8)
          refine hK _ _ ⟨trivial, ⟨(unhide HA8).a.c0, (unhide HA8).a.c1⟩, ⟨(unhide HA8).b.c0, (unhide HA8).b.c1⟩⟩ ?_
          clear hK K hb8
          refine wpR_op (i := 5) (o := _) (by kernel_rfl) rfl rfl (fun K hK => ?_)
          go_simp
          have hb9 := albel W8 (.cells #[.bool false, .string ⟨#[]⟩, .string ⟨#[]⟩] 61)
          have HA9 := hide ((unhide HA8).later hb9)
          refine hK _ _ ⟨trivial, ⟨(unhide HA9).a.c0, (unhide HA9).a.c1⟩, ⟨(unhide HA9).b.c0, (unhide HA9).b.c1⟩⟩ ?_
          clear hK K
          have FN9 : Hid (FBox (W8.alloc (.cells #[.bool false, .string ⟨#[]⟩, .string ⟨#[]⟩] 61)) W8.heap.size (.bool false) (.string ⟨#[]⟩) (.string ⟨#[]⟩)) := fnew _ _ _ _
          have HL9 : Hid (w.heap.size + 1 + 1 < W8.heap.size) := (unhide HA8).r.lt
          have F69 := hide ((unhide F68).later hb9)
          have HNE : Hid (q7 < W8.heap.size) := (unhide F68).lt
          clear hb9
          obtain ⟨W9, hW9⟩ : ∃ W9, W9 = W8.alloc (.cells #[.bool false, .string ⟨#[]⟩, .string ⟨#[]⟩] 61) := ⟨_, rfl⟩
          obtain ⟨q9, hq9⟩ : ∃ q9, q9 = W8.heap.size := ⟨_, rfl⟩
          rw [← hW9] at HA9 FN9 F69  ⊢
          rw [← hq9] at FN9 HL9 HNE ⊢
          clear hW9 hq9
          have hne : ¬ q7 = q9 := by have h0 := unhide HNE; omega
          have hne1 : ¬ q9 = q7 := by have h0 := unhide HNE; omega
          have x0 := (unhide F69).c0; have x1 := (unhide F69).c1; have x2 := (unhide F69).c2; have xf0 := (unhide F69).f0; have xf1 := (unhide F69).f1; have xf2 := (unhide F69).f2
          have y0 := (unhide FN9).c0; have y1 := (unhide FN9).c1; have y2 := (unhide FN9).c2; have yf0 := (unhide FN9).f0; have yf1 := (unhide FN9).f1; have yf2 := (unhide FN9).f2
          have HT1 := hide ((unhide HA9).st (unhide HL7) (.bool ab) (.string an) (.string ad))
          have HT2 := hide ((unhide HT1).st (unhide HL9) (.bool false) (.string bn) (.string bd))
          refine wpR_late (i := 6) (o := _) (by kernel_rfl) rfl rfl (by kernel_rfl) (fun K hK => ?_)
          go_simp
          refine hK _ _ ⟨⟨(unhide HT1).a.c0, (unhide HT1).a.c1⟩, ⟨(unhide HT1).b.c0, (unhide HT1).b.c1⟩⟩ ?_
          clear hK K
          refine wpR_late (i := 7) (o := _) (by kernel_rfl) rfl rfl (by kernel_rfl) (fun K hK => ?_)
          go_simp
          refine hK _ _ ⟨⟨(unhide HT2).a.c0, (unhide HT2).a.c1⟩, ⟨(unhide HT2).b.c0, (unhide HT2).b.c1⟩⟩ ?_
          clear hK K
          refine wpR_done (by kernel_rfl) ?_
          go_wp2_with fail
          go_meet
          exact ⟨q7, q9, rfl, rfl, qb_fin (unhide HA9) (unhide F69) (unhide FN9) hne (unhide HL7) (unhide HL9)⟩
        · go_simp
          have hb10 := albel W7 (.cells #[.bool false, .string ⟨#[]⟩, .string ⟨#[]⟩] 61)
          have HA10 := hide ((unhide HA7).later hb10)
          refine hK _ _ ⟨trivial, ⟨(unhide HA10).a.c0, (unhide HA10).a.c1⟩, ⟨(unhide HA10).b.c0, (unhide HA10).b.c1⟩⟩ ?_
          clear hK K
          have FN10 : Hid (FBox (W7.alloc (.cells #[.bool false, .string ⟨#[]⟩, .string ⟨#[]⟩] 61)) W7.heap.size (.bool false) (.string ⟨#[]⟩) (.string ⟨#[]⟩)) := fnew _ _ _ _
          have HL10 : Hid (w.heap.size + 1 + 1 < W7.heap.size) := (unhide HA7).r.lt
          have F610 := hide ((unhide FN7).later hb10)
          have HNE : Hid (q7 < W7.heap.size) := (unhide FN7).lt
          clear hb10
          obtain ⟨W10, hW10⟩ : ∃ W10, W10 = W7.alloc (.cells #[.bool false, .string ⟨#[]⟩, .string ⟨#[]⟩] 61) := ⟨_, rfl⟩
          obtain ⟨q10, hq10⟩ : ∃ q10, q10 = W7.heap.size := ⟨_, rfl⟩
          rw [← hW10] at HA10 FN10 F610  ⊢
          rw [← hq10] at FN10 HL10 HNE ⊢
          clear hW10 hq10
          refine wpR_op (i := 3) (o := _) (by kernel_rfl) rfl rfl (fun K hK => ?_)
          go_simp
          refine (unhide H62B _).mono ?_
          rintro e W11 ⟨rfl, hb11⟩
          have HA11 := hide ((unhide HA10).later hb11)
          have F611 := hide ((unhide F610).later hb11)
          have F711 := hide ((unhide FN10).later hb11)
          refine hK _ _ ⟨trivial, ⟨(unhide HA11).a.c0, (unhide HA11).a.c1⟩, ⟨(unhide HA11).b.c0, (unhide HA11).b.c1⟩⟩ ?_
          clear hK K hb11
          have hne : ¬ q7 = q10 := by have h0 := unhide HNE; omega
          have hne1 : ¬ q10 = q7 := by have h0 := unhide HNE; omega
          have x0 := (unhide F611).c0; have x1 := (unhide F611).c1; have x2 := (unhide F611).c2; have xf0 := (unhide F611).f0; have xf1 := (unhide F611).f1; have xf2 := (unhide F611).f2
          have y0 := (unhide F711).c0; have y1 := (unhide F711).c1; have y2 := (unhide F711).c2; have yf0 := (unhide F711).f0; have yf1 := (unhide F711).f1; have yf2 := (unhide F711).f2
          have HT1 := hide ((unhide HA11).st (unhide HL7) (.bool ab) (.string an) (.string ad))
          have HT2 := hide ((unhide HT1).st (unhide HL10) (.bool false) (.string bn) (.string bd))
          refine wpR_late (i := 6) (o := _) (by kernel_rfl) rfl rfl (by kernel_rfl) (fun K hK => ?_)
          go_simp
          refine hK _ _ ⟨⟨(unhide HT1).a.c0, (unhide HT1).a.c1⟩, ⟨(unhide HT1).b.c0, (unhide HT1).b.c1⟩⟩ ?_
          clear hK K
          refine wpR_late (i := 7) (o := _) (by kernel_rfl) rfl rfl (by kernel_rfl) (fun K hK => ?_)
          go_simp
          refine hK _ _ ⟨⟨(unhide HT2).a.c0, (unhide HT2).a.c1⟩, ⟨(unhide HT2).b.c0, (unhide HT2).b.c1⟩⟩ ?_
          clear hK K
          refine wpR_done (by kernel_rfl) ?_
          go_wp2_with fail
          go_meet
          exact ⟨q7, q10, rfl, rfl, qb_fin (unhide HA11) (unhide F611) (unhide F711) hne (unhide HL7) (unhide HL10)⟩
      · go_simp
        have hb12 := albel W1 (.cells #[.bool false, .string ⟨#[]⟩, .string ⟨#[]⟩] 61)
        have HA12 := hide ((unhide HA1).later hb12)
        refine hK _ _ ⟨trivial, ⟨(unhide HA12).a.c0, (unhide HA12).a.c1⟩, ⟨(unhide HA12).b.c0, (unhide HA12).b.c1⟩⟩ ?_
        clear hK K
        have FN12 : Hid (FBox (W1.alloc (.cells #[.bool false, .string ⟨#[]⟩, .string ⟨#[]⟩] 61)) W1.heap.size (.bool false) (.string ⟨#[]⟩) (.string ⟨#[]⟩)) := fnew _ _ _ _
        have HL12 : Hid (w.heap.size + 1 + 1 < W1.heap.size) := (unhide HA1).r.lt
        clear hb12
        obtain ⟨W12, hW12⟩ : ∃ W12, W12 = W1.alloc (.cells #[.bool false, .string ⟨#[]⟩, .string ⟨#[]⟩] 61) := ⟨_, rfl⟩
        obtain ⟨q12, hq12⟩ : ∃ q12, q12 = W1.heap.size := ⟨_, rfl⟩
        rw [← hW12] at HA12 FN12   ⊢
        rw [← hq12] at FN12 HL12  ⊢
        clear hW12 hq12
        refine wpR_two (i := 3) (j := 4) (by kernel_rfl) rfl rfl rfl rfl (fun K hK => ?_) (fun K hK => ?_) 
        · go_simp
          refine (unhide H62B _).mono ?_
          rintro e W13 ⟨rfl, hb13⟩
          have HA13 := hide ((unhide HA12).later hb13)
          have F713 := hide ((unhide FN12).later hb13)
          refine hK _ _ ⟨trivial, ⟨(unhide HA13).a.c0, (unhide HA13).a.c1⟩, ⟨(unhide HA13).b.c0, (unhide HA13).b.c1⟩⟩ ?_
          clear hK K hb13
          refine wpR_op (i := 4) (o := _) (by kernel_rfl) rfl rfl (fun K hK => ?_)
          go_simp
          have hb14 := albel W13 (.cells #[.bool false, .string ⟨#[]⟩, .string ⟨#[]⟩] 61)
          have HA14 := hide ((unhide HA13).later hb14)
          refine hK _ _ ⟨trivial, ⟨(unhide HA14).a.c0, (unhide HA14).a.c1⟩, ⟨(unhide HA14).b.c0, (unhide HA14).b.c1⟩⟩ ?_
          clear hK K
          have FN14 : Hid (FBox (W13.alloc (.cells #[.bool false, .string ⟨#[]⟩, .string ⟨#[]⟩] 61)) W13.heap.size (.bool false) (.string ⟨#[]⟩) (.string ⟨#[]⟩)) := fnew _ _ _ _
          have HL14 : Hid (w.heap.size + 1 + 1 < W13.heap.size) := (unhide HA13).r.lt
          have F714 := hide ((unhide F713).later hb14)
          have HNE : Hid (q12 < W13.heap.size) := (unhide F713).lt
          clear hb14
          obtain ⟨W14, hW14⟩ : ∃ W14, W14 = W13.alloc (.cells #[.bool false, .string ⟨#[]⟩, .string ⟨#[]⟩] 61) := ⟨_, rfl⟩
          obtain ⟨q14, hq14⟩ : ∃ q14, q14 = W13.heap.size := ⟨_, rfl⟩
          rw [← hW14] at HA14 FN14  F714 ⊢
          rw [← hq14] at FN14 HL14 HNE ⊢
          clear hW14 hq14
          have hne : ¬ q14 = q12 := by have h0 := unhide HNE; omega
          have hne1 : ¬ q12 = q14 := by have h0 := unhide HNE; omega
          have x0 := (unhide FN14).c0; have x1 := (unhide FN14).c1; have x2 := (unhide FN14).c2; have xf0 := (unhide FN14).f0; have xf1 := (unhide FN14).f1; have xf2 := (unhide FN14).f2
          have y0 := (unhide F714).c0; have y1 := (unhide F714).c1; have y2 := (unhide F714).c2; have yf0 := (unhide F714).f0; have yf1 := (unhide F714).f1; have yf2 := (unhide F714).f2
          have HT1 := hide ((unhide HA14).st (unhide HL14) (.bool ab) (.string an) (.string ad))
          have HT2 := hide ((unhide HT1).st (unhide HL12) (.bool false) (.string bn) (.string bd))
          refine wpR_late (i := 6) (o := _) (by kernel_rfl) rfl rfl (by kernel_rfl) (fun K hK => ?_)
          go_simp
          refine hK _ _ ⟨⟨(unhide HT1).a.c0, (unhide HT1).a.c1⟩, ⟨(unhide HT1).b.c0, (unhide HT1).b.c1⟩⟩ ?_
          clear hK K
          refine wpR_late (i := 7) (o := _) (by kernel_rfl) rfl rfl (by kernel_rfl) (fun K hK => ?_)
          go_simp
          refine hK _ _ ⟨⟨(unhide HT2).a.c0, (unhide HT2).a.c1⟩, ⟨(unhide HT2).b.c0, (unhide HT2).b.c1⟩⟩ ?_
          clear hK K
          refine wpR_done (by kernel_rfl) ?_
          go_wp2_with fail
          go_meet
          exact ⟨q14, q12, rfl, rfl, qb_fin (unhide HA14) (unhide FN14) (unhide F714) hne (unhide HL14) (unhide HL12)⟩
        · go_simp
          have hb15 := albel W12 (.cells #[.bool false, .string ⟨#[]⟩, .string ⟨#[]⟩] 61)
          have HA15 := hide ((unhide HA12).later hb15)
          refine hK _ _ ⟨trivial, ⟨(unhide HA15).a.c0, (unhide HA15).a.c1⟩, ⟨(unhide HA15).b.c0, (unhide HA15).b.c1⟩⟩ ?_
          clear hK K
          have FN15 : Hid (FBox (W12.alloc (.cells #[.bool false, .string ⟨#[]⟩, .string ⟨#[]⟩] 61)) W12.heap.size (.bool false) (.string ⟨#[]⟩) (.string ⟨#[]⟩)) := fnew _ _ _ _
          have HL15 : Hid (w.heap.size + 1 + 1 < W12.heap.size) := (unhide HA12).r.lt
          have F715 := hide ((unhide FN12).later hb15)
          have HNE : Hid (q12 < W12.heap.size) := (unhide FN12).lt
          clear hb15
          obtain ⟨W15, hW15⟩ : ∃ W15, W15 = W12.alloc (.cells #[.bool false, .string ⟨#[]⟩, .string ⟨#[]⟩] 61) := ⟨_, rfl⟩
          obtain ⟨q15, hq15⟩ : ∃ q15, q15 = W12.heap.size := ⟨_, rfl⟩
          rw [← hW15] at HA15 FN15  F715 ⊢
          rw [← hq15] at FN15 HL15 HNE ⊢
          clear hW15 hq15
          refine wpR_op (i := 3) (o := _) (by kernel_rfl) rfl rfl (fun K hK => ?_)
          go_simp
          refine (unhide H62B _).mono ?_
          rintro e W16 ⟨rfl, hb16⟩
          have HA16 := hide ((unhide HA15).later hb16)
          have F616 := hide ((unhide FN15).later hb16)
          have F716 := hide ((unhide F715).later hb16)
          refine hK _ _ ⟨trivial, ⟨(unhide HA16).a.c0, (unhide HA16).a.c1⟩, ⟨(unhide HA16).b.c0, (unhide HA16).b.c1⟩⟩ ?_
          clear hK K hb16
          have hne : ¬ q15 = q12 := by have h0 := unhide HNE; omega
          have hne1 : ¬ q12 = q15 := by have h0 := unhide HNE; omega
          have x0 := (unhide F616).c0; have x1 := (unhide F616).c1; have x2 := (unhide F616).c2; have xf0 := (unhide F616).f0; have xf1 := (unhide F616).f1; have xf2 := (unhide F616).f2
          have y0 := (unhide F716).c0; have y1 := (unhide F716).c1; have y2 := (unhide F716).c2; have yf0 := (unhide F716).f0; have yf1 := (unhide F716).f1; have yf2 := (unhide F716).f2
          have HT1 := hide ((unhide HA16).st (unhide HL15) (.bool ab) (.string an) (.string ad))
          have HT2 := hide ((unhide HT1).st (unhide HL12) (.bool false) (.string bn) (.string bd))
          refine wpR_late (i := 6) (o := _) (by kernel_rfl) rfl rfl (by kernel_rfl) (fun K hK => ?_)
          go_simp
          refine hK _ _ ⟨⟨(unhide HT1).a.c0, (unhide HT1).a.c1⟩, ⟨(unhide HT1).b.c0, (unhide HT1).b.c1⟩⟩ ?_
          clear hK K
          refine wpR_late (i := 7) (o := _) (by kernel_rfl) rfl rfl (by kernel_rfl) (fun K hK => ?_)
          go_simp
          refine hK _ _ ⟨⟨(unhide HT2).a.c0, (unhide HT2).a.c1⟩, ⟨(unhide HT2).b.c0, (unhide HT2).b.c1⟩⟩ ?_
          clear hK K
          refine wpR_done (by kernel_rfl) ?_
          go_wp2_with fail
          go_meet
          exact ⟨q15, q12, rfl, rfl, qb_fin (unhide HA16) (unhide F616) (unhide F716) hne (unhide HL15) (unhide HL12)⟩
    · go_simp
      have hb17 := albel W0 (.cells #[.bool false, .string ⟨#[]⟩, .string ⟨#[]⟩] 61)
      have HA17 := hide ((unhide HA0).later hb17)
      refine hK _ _ ⟨trivial, ⟨(unhide HA17).a.c0, (unhide HA17).a.c1⟩, ⟨(unhide HA17).b.c0, (unhide HA17).b.c1⟩⟩ ?_
      clear hK K
      have FN17 : Hid (FBox (W0.alloc (.cells #[.bool false, .string ⟨#[]⟩, .string ⟨#[]⟩] 61)) W0.heap.size (.bool false) (.string ⟨#[]⟩) (.string ⟨#[]⟩)) := fnew _ _ _ _
      have HL17 : Hid (w.heap.size + 1 + 1 < W0.heap.size) := (unhide HA0).r.lt
      clear hb17
      obtain ⟨W17, hW17⟩ : ∃ W17, W17 = W0.alloc (.cells #[.bool false, .string ⟨#[]⟩, .string ⟨#[]⟩] 61) := ⟨_, rfl⟩
      obtain ⟨q17, hq17⟩ : ∃ q17, q17 = W0.heap.size := ⟨_, rfl⟩
      rw [← hW17] at HA17 FN17   ⊢
      rw [← hq17] at FN17 HL17  ⊢
      clear hW17 hq17
      refine wpR_two (i := 1) (j := 5) (by kernel_rfl) rfl rfl rfl rfl (fun K hK => ?_) (fun K hK => ?_) 
      · go_simp
        refine (unhide H62A _).mono ?_
        rintro e W18 ⟨rfl, hb18⟩
        have HA18 := hide ((unhide HA17).later hb18)
        have F618 := hide ((unhide FN17).later hb18)
        refine hK _ _ ⟨trivial, ⟨(unhide HA18).a.c0, (unhide HA18).a.c1⟩, ⟨(unhide HA18).b.c0, (unhide HA18).b.c1⟩⟩ ?_
        clear hK K hb18
        refine wpR_two (i := 3) (j := 5) (by kernel_rfl) rfl rfl rfl rfl (fun K hK => ?_) (fun K hK => ?_) 
        · go_simp
          refine (unhide H62B _).mono ?_
          rintro e W19 ⟨rfl, hb19⟩
          have HA19 := hide ((unhide HA18).later hb19)
          have F619 := hide ((unhide F618).later hb19)
          refine hK _ _ ⟨trivial, ⟨(unhide HA19).a.c0, (unhide HA19).a.c1⟩, ⟨(unhide HA19).b.c0, (unhide HA19).b.c1⟩⟩ ?_
          clear hK K hb19
          refine wpR_op (i := 5) (o := _) (by kernel_rfl) rfl rfl (fun K hK => ?_)
          go_simp
          have hb20 := albel W19 (.cells #[.bool false, .string ⟨#[]⟩, .string ⟨#[]⟩] 61)
          have HA20 := hide ((unhide HA19).later hb20)
          refine hK _ _ ⟨trivial, ⟨(unhide HA20).a.c0, (unhide HA20).a.c1⟩, ⟨(unhide HA20).b.c0, (unhide HA20).b.c1⟩⟩ ?_
          clear hK K
          have FN20 : Hid (FBox (W19.alloc (.cells #[.bool false, .string ⟨#[]⟩, .string ⟨#[]⟩] 61)) W19.heap.size (.bool false) (.string ⟨#[]⟩) (.string ⟨#[]⟩)) := fnew _ _ _ _
          have HL20 : Hid (w.heap.size + 1 + 1 < W19.heap.size) := (unhide HA19).r.lt
          have F620 := hide ((unhide F619).later hb20)
          have HNE : Hid (q17 < W19.heap.size) := (unhide F619).lt
          clear hb20
          obtain ⟨W20, hW20⟩ : ∃ W20, W20 = W19.alloc (.cells #[.bool false, .string ⟨#[]⟩, .string ⟨#[]⟩] 61) := ⟨_, rfl⟩
          obtain ⟨q20, hq20⟩ : ∃ q20, q20 = W19.heap.size := ⟨_, rfl⟩
          rw [← hW20] at HA20 FN20 F620  ⊢
          rw [← hq20] at FN20 HL20 HNE ⊢
          clear hW20 hq20
          have hne : ¬ q17 = q20 := by have h0 := unhide HNE; omega
          have hne1 : ¬ q20 = q17 := by have h0 := unhide HNE; omega
          have x0 := (unhide F620).c0; have x1 := (unhide F620).c1; have x2 := (unhide F620).c2; have xf0 := (unhide F620).f0; have xf1 := (unhide F620).f1; have xf2 := (unhide F620).f2
          have y0 := (unhide FN20).c0; have y1 := (unhide FN20).c1; have y2 := (unhide FN20).c2; have yf0 := (unhide FN20).f0; have yf1 := (unhide FN20).f1; have yf2 := (unhide FN20).f2
          have HT1 := hide ((unhide HA20).st (unhide HL17) (.bool ab) (.string an) (.string ad))
          have HT2 := hide ((unhide HT1).st (unhide HL20) (.bool false) (.string bn) (.string bd))
          refine wpR_late (i := 6) (o := _) (by kernel_rfl) rfl rfl (by kernel_rfl) (fun K hK => ?_)
          go_simp
          refine hK _ _ ⟨⟨(unhide HT1).a.c0, (unhide HT1).a.c1⟩, ⟨(unhide HT1).b.c0, (unhide HT1).b.c1⟩⟩ ?_
          clear hK K
          refine wpR_late (i := 7) (o := _) (by kernel_rfl) rfl rfl (by kernel_rfl) (fun K hK => ?_)
          go_simp
          refine hK _ _ ⟨⟨(unhide HT2).a.c0, (unhide HT2).a.c1⟩, ⟨(unhide HT2).b.c0, (unhide HT2).b.c1⟩⟩ ?_
          clear hK K
          refine wpR_done (by kernel_rfl) ?_
          go_wp2_with fail
          go_meet
          exact ⟨q17, q20, rfl, rfl, qb_fin (unhide HA20) (unhide F620) (unhide FN20) hne (unhide HL17) (unhide HL20)⟩
        · go_simp
          have hb21 := albel W18 (.cells #[.bool false, .string ⟨#[]⟩, .string ⟨#[]⟩] 61)
          have HA21 := hide ((unhide HA18).later hb21)
          refine hK _ _ ⟨trivial, ⟨(unhide HA21).a.c0, (unhide HA21).a.c1⟩, ⟨(unhide HA21).b.c0, (unhide HA21).b.c1⟩⟩ ?_
          clear hK K
          have FN21 : Hid (FBox (W18.alloc (.cells #[.bool false, .string ⟨#[]⟩, .string ⟨#[]⟩] 61)) W18.heap.size (.bool false) (.string ⟨#[]⟩) (.string ⟨#[]⟩)) := fnew _ _ _ _
          have HL21 : Hid (w.heap.size + 1 + 1 < W18.heap.size) := (unhide HA18).r.lt
          have F621 := hide ((unhide F618).later hb21)
          have HNE : Hid (q17 < W18.heap.size) := (unhide F618).lt
          clear hb21
          obtain ⟨W21, hW21⟩ : ∃ W21, W21 = W18.alloc (.cells #[.bool false, .string ⟨#[]⟩, .string ⟨#[]⟩] 61) := ⟨_, rfl⟩
          obtain ⟨q21, hq21⟩ : ∃ q21, q21 = W18.heap.size := ⟨_, rfl⟩
          rw [← hW21] at HA21 FN21 F621  ⊢
          rw [← hq21] at FN21 HL21 HNE ⊢
          clear hW21 hq21
          refine wpR_op (i := 3) (o := _) (by kernel_rfl) rfl rfl (fun K hK => ?_)
          go_simp
          refine (unhide H62B _).mono ?_
          rintro e W22 ⟨rfl, hb22⟩
          have HA22 := hide ((unhide HA21).later hb22)
          have F622 := hide ((unhide F621).later hb22)
          have F722 := hide ((unhide FN21).later hb22)
          refine hK _ _ ⟨trivial, ⟨(unhide HA22).a.c0, (unhide HA22).a.c1⟩, ⟨(unhide HA22).b.c0, (unhide HA22).b.c1⟩⟩ ?_
          clear hK K hb22
          have hne : ¬ q17 = q21 := by have h0 := unhide HNE; omega
          have hne1 : ¬ q21 = q17 := by have h0 := unhide HNE; omega
          have x0 := (unhide F622).c0; have x1 := (unhide F622).c1; have x2 := (unhide F622).c2; have xf0 := (unhide F622).f0; have xf1 := (unhide F622).f1; have xf2 := (unhide F622).f2
          have y0 := (unhide F722).c0; have y1 := (unhide F722).c1; have y2 := (unhide F722).c2; have yf0 := (unhide F722).f0; have yf1 := (unhide F722).f1; have yf2 := (unhide F722).f2
          have HT1 := hide ((unhide HA22).st (unhide HL17) (.bool ab) (.string an) (.string ad))
          have HT2 := hide ((unhide HT1).st (unhide HL21) (.bool false) (.string bn) (.string bd))
          refine wpR_late (i := 6) (o := _) (by kernel_rfl) rfl rfl (by kernel_rfl) (fun K hK => ?_)
          go_simp
          refine hK _ _ ⟨⟨(unhide HT1).a.c0, (unhide HT1).a.c1⟩, ⟨(unhide HT1).b.c0, (unhide HT1).b.c1⟩⟩ ?_
          clear hK K
          refine wpR_late (i := 7) (o := _) (by kernel_rfl) rfl rfl (by kernel_rfl) (fun K hK => ?_)
          go_simp
          refine hK _ _ ⟨⟨(unhide HT2).a.c0, (unhide HT2).a.c1⟩, ⟨(unhide HT2).b.c0, (unhide HT2).b.c1⟩⟩ ?_
          clear hK K
          refine wpR_done (by kernel_rfl) ?_
          go_wp2_with fail
          go_meet
          exact ⟨q17, q21, rfl, rfl, qb_fin (unhide HA22) (unhide F622) (unhide F722) hne (unhide HL17) (unhide HL21)⟩
      · go_simp
        have hb23 := albel W17 (.cells #[.bool false, .string ⟨#[]⟩, .string ⟨#[]⟩] 61)
        have HA23 := hide ((unhide HA17).later hb23)
        refine hK _ _ ⟨trivial, ⟨(unhide HA23).a.c0, (unhide HA23).a.c1⟩, ⟨(unhide HA23).b.c0, (unhide HA23).b.c1⟩⟩ ?_
        clear hK K
        have FN23 : Hid (FBox (W17.alloc (.cells #[.bool false, .string ⟨#[]⟩, .string ⟨#[]⟩] 61)) W17.heap.size (.bool false) (.string ⟨#[]⟩) (.string ⟨#[]⟩)) := fnew _ _ _ _
        have HL23 : Hid (w.heap.size + 1 + 1 < W17.heap.size) := (unhide HA17).r.lt
        have F623 := hide ((unhide FN17).later hb23)
        have HNE : Hid (q17 < W17.heap.size) := (unhide FN17).lt
        clear hb23
        obtain ⟨W23, hW23⟩ : ∃ W23, W23 = W17.alloc (.cells #[.bool false, .string ⟨#[]⟩, .string ⟨#[]⟩] 61) := ⟨_, rfl⟩
        obtain ⟨q23, hq23⟩ : ∃ q23, q23 = W17.heap.size := ⟨_, rfl⟩
        rw [← hW23] at HA23 FN23 F623  ⊢
        rw [← hq23] at FN23 HL23 HNE ⊢
        clear hW23 hq23
        refine wpR_op (i := 1) (o := _) (by kernel_rfl) rfl rfl (fun K hK => ?_)
        go_simp
        refine (unhide H62A _).mono ?_
        rintro e W24 ⟨rfl, hb24⟩
        have HA24 := hide ((unhide HA23).later hb24)
        have F624 := hide ((unhide F623).later hb24)
        have F724 := hide ((unhide FN23).later hb24)
        refine hK _ _ ⟨trivial, ⟨(unhide HA24).a.c0, (unhide HA24).a.c1⟩, ⟨(unhide HA24).b.c0, (unhide HA24).b.c1⟩⟩ ?_
        clear hK K hb24
        refine wpR_op (i := 3) (o := _) (by kernel_rfl) rfl rfl (fun K hK => ?_)
        go_simp
        refine (unhide H62B _).mono ?_
        rintro e W25 ⟨rfl, hb25⟩
        have HA25 := hide ((unhide HA24).later hb25)
        have F625 := hide ((unhide F624).later hb25)
        have F725 := hide ((unhide F724).later hb25)
        refine hK _ _ ⟨trivial, ⟨(unhide HA25).a.c0, (unhide HA25).a.c1⟩, ⟨(unhide HA25).b.c0, (unhide HA25).b.c1⟩⟩ ?_
        clear hK K hb25
        have hne : ¬ q17 = q23 := by have h0 := unhide HNE; omega
        have hne1 : ¬ q23 = q17 := by have h0 := unhide HNE; omega
        have x0 := (unhide F625).c0; have x1 := (unhide F625).c1; have x2 := (unhide F625).c2; have xf0 := (unhide F625).f0; have xf1 := (unhide F625).f1; have xf2 := (unhide F625).f2
        have y0 := (unhide F725).c0; have y1 := (unhide F725).c1; have y2 := (unhide F725).c2; have yf0 := (unhide F725).f0; have yf1 := (unhide F725).f1; have yf2 := (unhide F725).f2
        have HT1 := hide ((unhide HA25).st (unhide HL17) (.bool ab) (.string an) (.string ad))
        have HT2 := hide ((unhide HT1).st (unhide HL23) (.bool false) (.string bn) (.string bd))
        refine wpR_late (i := 6) (o := _) (by kernel_rfl) rfl rfl (by kernel_rfl) (fun K hK => ?_)
        go_simp
        refine hK _ _ ⟨⟨(unhide HT1).a.c0, (unhide HT1).a.c1⟩, ⟨(unhide HT1).b.c0, (unhide HT1).b.c1⟩⟩ ?_
        clear hK K
        refine wpR_late (i := 7) (o := _) (by kernel_rfl) rfl rfl (by kernel_rfl) (fun K hK => ?_)
        go_simp
        refine hK _ _ ⟨⟨(unhide HT2).a.c0, (unhide HT2).a.c1⟩, ⟨(unhide HT2).b.c0, (unhide HT2).b.c1⟩⟩ ?_
        clear hK K
        refine wpR_done (by kernel_rfl) ?_
        go_wp2_with fail
        go_meet
        exact ⟨q17, q23, rfl, rfl, qb_fin (unhide HA25) (unhide F625) (unhide F725) hne (unhide HL17) (unhide HL23)⟩
    · go_simp
      have hb26 := albel W0 (.cells #[.bool false, .string ⟨#[]⟩, .string ⟨#[]⟩] 61)
      have HA26 := hide ((unhide HA0).later hb26)
      refine hK _ _ ⟨trivial, ⟨(unhide HA26).a.c0, (unhide HA26).a.c1⟩, ⟨(unhide HA26).b.c0, (unhide HA26).b.c1⟩⟩ ?_
      clear hK K
      have FN26 : Hid (FBox (W0.alloc (.cells #[.bool false, .string ⟨#[]⟩, .string ⟨#[]⟩] 61)) W0.heap.size (.bool false) (.string ⟨#[]⟩) (.string ⟨#[]⟩)) := fnew _ _ _ _
      have HL26 : Hid (w.heap.size + 1 + 1 < W0.heap.size) := (unhide HA0).r.lt
      clear hb26
      obtain ⟨W26, hW26⟩ : ∃ W26, W26 = W0.alloc (.cells #[.bool false, .string ⟨#[]⟩, .string ⟨#[]⟩] 61) := ⟨_, rfl⟩
      obtain ⟨q26, hq26⟩ : ∃ q26, q26 = W0.heap.size := ⟨_, rfl⟩
      rw [← hW26] at HA26 FN26   ⊢
      rw [← hq26] at FN26 HL26  ⊢
      clear hW26 hq26
      refine wpR_two (i := 1) (j := 4) (by kernel_rfl) rfl rfl rfl rfl (fun K hK => ?_) (fun K hK => ?_) 
      · go_simp
        refine (unhide H62A _).mono ?_
        rintro e W27 ⟨rfl, hb27⟩
        have HA27 := hide ((unhide HA26).later hb27)
        have F727 := hide ((unhide FN26).later hb27)
        refine hK _ _ ⟨trivial, ⟨(unhide HA27).a.c0, (unhide HA27).a.c1⟩, ⟨(unhide HA27).b.c0, (unhide HA27).b.c1⟩⟩ ?_
        clear hK K hb27
        refine wpR_two (i := 3) (j := 4) (by kernel_rfl) rfl rfl rfl rfl (fun K hK => ?_) (fun K hK => ?_) 
        · go_simp
          refine (unhide H62B _).mono ?_
          rintro e W28 ⟨rfl, hb28⟩
          have HA28 := hide ((unhide HA27).later hb28)
          have F728 := hide ((unhide F727).later hb28)
          refine hK _ _ ⟨trivial, ⟨(unhide HA28).a.c0, (unhide HA28).a.c1⟩, ⟨(unhide HA28).b.c0, (unhide HA28).b.c1⟩⟩ ?_
          clear hK K hb28
          refine wpR_op (i := 4) (o := _) (by kernel_rfl) rfl rfl (fun K hK => ?_)
          go_simp
          have hb29 := albel W28 (.cells #[.bool false, .string ⟨#[]⟩, .string ⟨#[]⟩] 61)
          have HA29 := hide ((unhide HA28).later hb29)
          refine hK _ _ ⟨trivial, ⟨(unhide HA29).a.c0, (unhide HA29).a.c1⟩, ⟨(unhide HA29).b.c0, (unhide HA29).b.c1⟩⟩ ?_
          clear hK K
          have FN29 : Hid (FBox (W28.alloc (.cells #[.bool false, .string ⟨#[]⟩, .string ⟨#[]⟩] 61)) W28.heap.size (.bool false) (.string ⟨#[]⟩) (.string ⟨#[]⟩)) := fnew _ _ _ _
          have HL29 : Hid (w.heap.size + 1 + 1 < W28.heap.size) := (unhide HA28).r.lt
          have F729 := hide ((unhide F728).later hb29)
          have HNE : Hid (q26 < W28.heap.size) := (unhide F728).lt
          clear hb29
          obtain ⟨W29, hW29⟩ : ∃ W29, W29 = W28.alloc (.cells #[.bool false, .string ⟨#[]⟩, .string ⟨#[]⟩] 61) := ⟨_, rfl⟩
          obtain ⟨q29, hq29⟩ : ∃ q29, q29 = W28.heap.size := ⟨_, rfl⟩
          rw [← hW29] at HA29 FN29  F729 ⊢
          rw [← hq29] at FN29 HL29 HNE ⊢
          clear hW29 hq29
          have hne : ¬ q29 = q26 := by have h0 := unhide HNE; omega
          have hne1 : ¬ q26 = q29 := by have h0 := unhide HNE; omega
          have x0 := (unhide FN29).c0; have x1 := (unhide FN29).c1; have x2 := (unhide FN29).c2; have xf0 := (unhide FN29).f0; have xf1 := (unhide FN29).f1; have xf2 := (unhide FN29).f2
          have y0 := (unhide F729).c0; have y1 := (unhide F729).c1; have y2 := (unhide F729).c2; have yf0 := (unhide F729).f0; have yf1 := (unhide F729).f1; have yf2 := (unhide F729).f2
          have HT1 := hide ((unhide HA29).st (unhide HL29) (.bool ab) (.string an) (.string ad))
          have HT2 := hide ((unhide HT1).st (unhide HL26) (.bool false) (.string bn) (.string bd))
          refine wpR_late (i := 6) (o := _) (by kernel_rfl) rfl rfl (by kernel_rfl) (fun K hK => ?_)
          go_simp
          refine hK _ _ ⟨⟨(unhide HT1).a.c0, (unhide HT1).a.c1⟩, ⟨(unhide HT1).b.c0, (unhide HT1).b.c1⟩⟩ ?_
          clear hK K
          refine wpR_late (i := 7) (o := _) (by kernel_rfl) rfl rfl (by kernel_rfl) (fun K hK => ?_)
          go_simp
          refine hK _ _ ⟨⟨(unhide HT2).a.c0, (unhide HT2).a.c1⟩, ⟨(unhide HT2).b.c0, (unhide HT2).b.c1⟩⟩ ?_
          clear hK K
          refine wpR_done (by kernel_rfl) ?_
          go_wp2_with fail
          go_meet
          exact ⟨q29, q26, rfl, rfl, qb_fin (unhide HA29) (unhide FN29) (unhide F729) hne (unhide HL29) (unhide HL26)⟩
        · go_simp
          have hb30 := albel W27 (.cells #[.bool false, .string ⟨#[]⟩, .string ⟨#[]⟩] 61)
          have HA30 := hide ((unhide HA27).later hb30)
          refine hK _ _ ⟨trivial, ⟨(unhide HA30).a.c0, (unhide HA30).a.c1⟩, ⟨(unhide HA30).b.c0, (unhide HA30).b.c1⟩⟩ ?_
          clear hK K
          have FN30 : Hid (FBox (W27.alloc (.cells #[.bool false, .string ⟨#[]⟩, .string ⟨#[]⟩] 61)) W27.heap.size (.bool false) (.string ⟨#[]⟩) (.string ⟨#[]⟩)) := fnew _ _ _ _
          have HL30 : Hid (w.heap.size + 1 + 1 < W27.heap.size) := (unhide HA27).r.lt
          have F730 := hide ((unhide F727).later hb30)
          have HNE : Hid (q26 < W27.heap.size) := (unhide F727).lt
          clear hb30
          obtain ⟨W30, hW30⟩ : ∃ W30, W30 = W27.alloc (.cells #[.bool false, .string ⟨#[]⟩, .string ⟨#[]⟩] 61) := ⟨_, rfl⟩
          obtain ⟨q30, hq30⟩ : ∃ q30, q30 = W27.heap.size := ⟨_, rfl⟩
          rw [← hW30] at HA30 FN30  F730 ⊢
          rw [← hq30] at FN30 HL30 HNE ⊢
          clear hW30 hq30
          refine wpR_op (i := 3) (o := _) (by kernel_rfl) rfl rfl (fun K hK => ?_)
          go_simp
          refine (unhide H62B _).mono ?_
          rintro e W31 ⟨rfl, hb31⟩
          have HA31 := hide ((unhide HA30).later hb31)
          have F631 := hide ((unhide FN30).later hb31)
          have F731 := hide ((unhide F730).later hb31)
          refine hK _ _ ⟨trivial, ⟨(unhide HA31).a.c0, (unhide HA31).a.c1⟩, ⟨(unhide HA31).b.c0, (unhide HA31).b.c1⟩⟩ ?_
          clear hK K hb31
          have hne : ¬ q30 = q26 := by have h0 := unhide HNE; omega
          have hne1 : ¬ q26 = q30 := by have h0 := unhide HNE; omega
          have x0 := (unhide F631).c0; have x1 := (unhide F631).c1; have x2 := (unhide F631).c2; have xf0 := (unhide F631).f0; have xf1 := (unhide F631).f1; have xf2 := (unhide F631).f2
          have y0 := (unhide F731).c0; have y1 := (unhide F731).c1; have y2 := (unhide F731).c2; have yf0 := (unhide F731).f0; have yf1 := (unhide F731).f1; have yf2 := (unhide F731).f2
          have HT1 := hide ((unhide HA31).st (unhide HL30) (.bool ab) (.string an) (.string ad))
          have HT2 := hide ((unhide HT1).st (unhide HL26) (.bool false) (.string bn) (.string bd))
          refine wpR_late (i := 6) (o := _) (by kernel_rfl) rfl rfl (by kernel_rfl) (fun K hK => ?_)
          go_simp
          refine hK _ _ ⟨⟨(unhide HT1).a.c0, (unhide HT1).a.c1⟩, ⟨(unhide HT1).b.c0, (unhide HT1).b.c1⟩⟩ ?_
          clear hK K
          refine wpR_late (i := 7) (o := _) (by kernel_rfl) rfl rfl (by kernel_rfl) (fun K hK => ?_)
          go_simp
          refine hK _ _ ⟨⟨(unhide HT2).a.c0, (unhide HT2).a.c1⟩, ⟨(unhide HT2).b.c0, (unhide HT2).b.c1⟩⟩ ?_
          clear hK K
          refine wpR_done (by kernel_rfl) ?_
          go_wp2_with fail
          go_meet
          exact ⟨q30, q26, rfl, rfl, qb_fin (unhide HA31) (unhide F631) (unhide F731) hne (unhide HL30) (unhide HL26)⟩
      · go_simp
        have hb32 := albel W26 (.cells #[.bool false, .string ⟨#[]⟩, .string ⟨#[]⟩] 61)
        have HA32 := hide ((unhide HA26).later hb32)
        refine hK _ _ ⟨trivial, ⟨(unhide HA32).a.c0, (unhide HA32).a.c1⟩, ⟨(unhide HA32).b.c0, (unhide HA32).b.c1⟩⟩ ?_
        clear hK K
        have FN32 : Hid (FBox (W26.alloc (.cells #[.bool false, .string ⟨#[]⟩, .string ⟨#[]⟩] 61)) W26.heap.size (.bool false) (.string ⟨#[]⟩) (.string ⟨#[]⟩)) := fnew _ _ _ _
        have HL32 : Hid (w.heap.size + 1 + 1 < W26.heap.size) := (unhide HA26).r.lt
        have F732 := hide ((unhide FN26).later hb32)
        have HNE : Hid (q26 < W26.heap.size) := (unhide FN26).lt
        clear hb32
        obtain ⟨W32, hW32⟩ : ∃ W32, W32 = W26.alloc (.cells #[.bool false, .string ⟨#[]⟩, .string ⟨#[]⟩] 61) := ⟨_, rfl⟩
        obtain ⟨q32, hq32⟩ : ∃ q32, q32 = W26.heap.size := ⟨_, rfl⟩
        rw [← hW32] at HA32 FN32  F732 ⊢
        rw [← hq32] at FN32 HL32 HNE ⊢
        clear hW32 hq32
        refine wpR_op (i := 1) (o := _) (by kernel_rfl) rfl rfl (fun K hK => ?_)
        go_simp
        refine (unhide H62A _).mono ?_
        rintro e W33 ⟨rfl, hb33⟩
        have HA33 := hide ((unhide HA32).later hb33)
        have F633 := hide ((unhide FN32).later hb33)
        have F733 := hide ((unhide F732).later hb33)
        refine hK _ _ ⟨trivial, ⟨(unhide HA33).a.c0, (unhide HA33).a.c1⟩, ⟨(unhide HA33).b.c0, (unhide HA33).b.c1⟩⟩ ?_
        clear hK K hb33
        refine wpR_op (i := 3) (o := _) (by kernel_rfl) rfl rfl (fun K hK => ?_)
        go_simp
        refine (unhide H62B _).mono ?_
        rintro e W34 ⟨rfl, hb34⟩
        have HA34 := hide ((unhide HA33).later hb34)
        have F634 := hide ((unhide F633).later hb34)
        have F734 := hide ((unhide F733).later hb34)
        refine hK _ _ ⟨trivial, ⟨(unhide HA34).a.c0, (unhide HA34).a.c1⟩, ⟨(unhide HA34).b.c0, (unhide HA34).b.c1⟩⟩ ?_
        clear hK K hb34
        have hne : ¬ q32 = q26 := by have h0 := unhide HNE; omega
        have hne1 : ¬ q26 = q32 := by have h0 := unhide HNE; omega
        have x0 := (unhide F634).c0; have x1 := (unhide F634).c1; have x2 := (unhide F634).c2; have xf0 := (unhide F634).f0; have xf1 := (unhide F634).f1; have xf2 := (unhide F634).f2
        have y0 := (unhide F734).c0; have y1 := (unhide F734).c1; have y2 := (unhide F734).c2; have yf0 := (unhide F734).f0; have yf1 := (unhide F734).f1; have yf2 := (unhide F734).f2
        have HT1 := hide ((unhide HA34).st (unhide HL32) (.bool ab) (.string an) (.string ad))
        have HT2 := hide ((unhide HT1).st (unhide HL26) (.bool false) (.string bn) (.string bd))
        refine wpR_late (i := 6) (o := _) (by kernel_rfl) rfl rfl (by kernel_rfl) (fun K hK => ?_)
        go_simp
        refine hK _ _ ⟨⟨(unhide HT1).a.c0, (unhide HT1).a.c1⟩, ⟨(unhide HT1).b.c0, (unhide HT1).b.c1⟩⟩ ?_
        clear hK K
        refine wpR_late (i := 7) (o := _) (by kernel_rfl) rfl rfl (by kernel_rfl) (fun K hK => ?_)
        go_simp
        refine hK _ _ ⟨⟨(unhide HT2).a.c0, (unhide HT2).a.c1⟩, ⟨(unhide HT2).b.c0, (unhide HT2).b.c1⟩⟩ ?_
        clear hK K
        refine wpR_done (by kernel_rfl) ?_
        go_wp2_with fail
        go_meet
        exact ⟨q32, q26, rfl, rfl, qb_fin (unhide HA34) (unhide F634) (unhide F734) hne (unhide HL32) (unhide HL26)⟩
  case rest =>
    obtain ⟨g6, g7, rfl, rfl, HQ⟩ := hcut
    have p0 := (unhide HQ).f.c0; have p1 := (unhide HQ).f.c1; have p2 := (unhide HQ).f.c2; have q0 := (unhide HQ).g.c0; have q1 := (unhide HQ).g.c1; have q2 := (unhide HQ).g.c2
    go_upto_region 6 with (go_at_call 66; go_must (refine (unhide H64 _).mono ?_; rintro e w4 ⟨rfl, hb4⟩; have HQ4 := hide ((unhide HQ).later hb4); clear hb4; clear p0 p1 p2 q0 q1 q2; have p0 := (unhide HQ4).f.c0; have p1 := (unhide HQ4).f.c1; have p2 := (unhide HQ4).f.c2; have q0 := (unhide HQ4).g.c0; have q1 := (unhide HQ4).g.c1; have q2 := (unhide HQ4).g.c2))
    have r0 := (unhide HQ4).r.c0; have r1 := (unhide HQ4).r.c1; have rf0 := (unhide HQ4).r.f0; have rf1 := (unhide HQ4).r.f1
    cases ab with
    | true =>
      go_wp2_with fail
      have hS := ((unhide HQ4).r).store (.string ⟨#[48]⟩) (.string ⟨#[49]⟩)
      have hb : Below w.heap.size w (store2 w4 (w.heap.size + 1 + 1) (.string ⟨#[48]⟩) (.string ⟨#[49]⟩)) := below_store2 ((unhide HQ4).below) (by omega) _ _
      have v0 := hS.c0; have v1 := hS.c1
      exact bodyPost_ret (v := .tuple #[.agg #[.string ⟨#[48]⟩, .string ⟨#[49]⟩], .int .i64 0]) (w := store2 w4 (w.heap.size + 1 + 1) (.string ⟨#[48]⟩) (.string ⟨#[49]⟩)) (by simp [results, Tryz.results56, go_sem, v0, v1]) rfl ⟨rfl, hb⟩
    | false =>
      have hz' : (an.toList == [48]) = true := by rcases hz with h | h; cases h; exact h
      clear hz
      go_wp2_with fail
      have hS := ((unhide HQ4).r).store (.string ⟨#[48]⟩) (.string ⟨#[49]⟩)
      have hb : Below w.heap.size w (store2 w4 (w.heap.size + 1 + 1) (.string ⟨#[48]⟩) (.string ⟨#[49]⟩)) := below_store2 ((unhide HQ4).below) (by omega) _ _
      have v0 := hS.c0; have v1 := hS.c1
      exact bodyPost_ret (v := .tuple #[.agg #[.string ⟨#[48]⟩, .string ⟨#[49]⟩], .int .i64 0]) (w := store2 w4 (w.heap.size + 1 + 1) (.string ⟨#[48]⟩) (.string ⟨#[49]⟩)) (by simp [results, Tryz.results56, go_sem, v0, v1]) rfl ⟨rfl, hb⟩

set_option maxRecDepth 100000 in
set_option maxHeartbeats 20000000 in
theorem refSimple_neg (n1 d1 n2 d2 : ByteArray) (ab : Bool) (an ad bn bd : ByteArray) (k : Int) (w : World)
    (h18a : ∀ W, Calls Tryz.prog 20 #[.agg #[.string n1, .string d1]] W fun r w' => r = .returned (.bool true) ∧ Below W.heap.size W w')
    (h18b : ∀ W, Calls Tryz.prog 20 #[.agg #[.string n2, .string d2]] W fun r w' => r = .returned (.bool true) ∧ Below W.heap.size W w')
    (h62a : ∀ W, Calls Tryz.prog 64 #[.agg #[.string n1, .string d1]] W fun r w' => r = .returned (.agg #[.bool ab, .string an, .string ad]) ∧ Below W.heap.size W w')
    (h62b : ∀ W, Calls Tryz.prog 64 #[.agg #[.string n2, .string d2]] W fun r w' => r = .returned (.agg #[.bool true, .string bn, .string bd]) ∧ Below W.heap.size W w')
    (h64 : ∀ W, Calls Tryz.prog 66 #[.agg #[.bool ab, .string an, .string ad], .agg #[.bool true, .string bn, .string bd]] W fun r w' => r = .returned (.int .i64 k) ∧ Below W.heap.size W w') (hk : ¬ 0 < k) (tn tm rn rd : ByteArray) (re : Int)
    (h117 : ∀ W, Calls Tryz.prog 119 #[.string bn, .string bd, .string an, .string ad] W fun r w' => r = .returned (.tuple #[.string tn, .string tm]) ∧ Below W.heap.size W w')
    (h74 : ∀ W, Calls Tryz.prog 76 #[.agg #[.bool true, .string tn, .string tm]] W fun r w' => r = .returned (.tuple #[.agg #[.string rn, .string rd], .int .i64 re]) ∧ Below W.heap.size W w') : Ans 56 #[.agg #[.string n1, .string d1], .agg #[.string n2, .string d2]] w rn rd re := by
  have H117 := hide h117; have H74 := hide h74
  clear h117 h74
  unfold Ans
  obtain ⟨V, hV⟩ : ∃ V, V = ((w.alloc (.cells #[.string n1, .string d1] 23)).alloc (.cells #[.string n2, .string d2] 23)).alloc (.cells #[.string ⟨#[]⟩, .string ⟨#[]⟩] 23) := ⟨_, rfl⟩
  have HS0 : Hid (A3 w V n1 d1 n2 d2) := by
    rw [hV]
    exact ⟨⟨by simp [go_sem], by simp [go_sem], by simp [go_sem], by simp [go_sem]⟩, ⟨by simp [go_sem], by simp [go_sem], by simp [go_sem], by simp [go_sem]⟩, ⟨by simp [go_sem], by simp [go_sem], by simp [go_sem], by simp [go_sem]⟩, (((Below.refl _ _).alloc (Nat.le_refl _) _).alloc (by simp) _).alloc (by simp; omega) _⟩
  have HV := hide hV
  have H18A := hide h18a; have H18B := hide h18b; have H62A := hide h62a; have H62B := hide h62b; have H64 := hide h64
  clear h18a h18b h62a h62b h64
  go_enter Tryz.func56, Tryz.ntmps56
  go_upto_region 1 with fail
  rw [← unhide HV]
  clear hV HV
  have t0 := (unhide HS0).a.c0; have t1 := (unhide HS0).a.c1; have t2 := (unhide HS0).b.c0; have t3 := (unhide HS0).b.c1
  go_upto_region 3 with (first
    | (go_at_call_of 20 (Value.agg #[Value.string n1, Value.string d1]); go_must (refine (unhide H18A _).mono ?_; rintro e w1 ⟨rfl, hb1⟩; have HS1 := hide ((unhide HS0).later hb1); clear hb1 t0 t1 t2 t3; have t0 := (unhide HS1).a.c0; have t1 := (unhide HS1).a.c1; have t2 := (unhide HS1).b.c0; have t3 := (unhide HS1).b.c1))
    | (go_at_call_of 20 (Value.agg #[Value.string n2, Value.string d2]); go_must (refine (unhide H18B _).mono ?_; rintro e V2 ⟨rfl, hb2⟩; have HS2 := hide ((unhide HS1).later hb2); clear hb2 t0 t1 t2 t3; have t0 := (unhide HS2).a.c0; have t1 := (unhide HS2).a.c1; have t2 := (unhide HS2).b.c0; have t3 := (unhide HS2).b.c1)))
  clear HS0 HS1 H18A H18B
  have lv := (unhide HS2).r.lt
  have lv0 := (unhide HS2).a.lt
  have lv1 := (unhide HS2).b.lt
  go_cut [6, 7] from 8 (fun s6 s7 wx => ∃ g6 g7, s6 = .pointer (some ⟨g6, 0, none⟩) ∧ s7 = .pointer (some ⟨g7, 0, none⟩) ∧ Hid (QB w wx g6 g7 ab an ad true bn bd))
  case first =>
    have HA0 : Hid (A3 w V2.drew n1 d1 n2 d2) := (unhide HS2).later (Below.refl _ _).drew
    refine region_reads 6 (fun _ => True) (fun W => (W.cell? ⟨w.heap.size, 0, none⟩ = some (.string n1) ∧ W.cell? ⟨w.heap.size, 1, none⟩ = some (.string d1)) ∧ (W.cell? ⟨w.heap.size + 1, 0, none⟩ = some (.string n2) ∧ W.cell? ⟨w.heap.size + 1, 1, none⟩ = some (.string d2))) 8 rfl (by kernel_rfl) ?_
    obtain ⟨W0, hW0⟩ : ∃ W0, W0 = V2.drew := ⟨_, rfl⟩
    rw [← hW0] at HA0 ⊢
    clear hW0 t0 t1 t2 t3 lv lv0 lv1
    have HC0 : Hid ((W0.cell? ⟨w.heap.size, 0, none⟩ = some (.string n1) ∧ W0.cell? ⟨w.heap.size, 1, none⟩ = some (.string d1)) ∧ (W0.cell? ⟨w.heap.size + 1, 0, none⟩ = some (.string n2) ∧ W0.cell? ⟨w.heap.size + 1, 1, none⟩ = some (.string d2))) := ⟨⟨(unhide HA0).a.c0, (unhide HA0).a.c1⟩, ⟨(unhide HA0).b.c0, (unhide HA0).b.c1⟩⟩
    refine wpR_take7 (i := 0) (oi := _) (v := .agg #[.string n1, .string d1]) rfl (by kernel_rfl) (by kernel_rfl) (by kernel_rfl) (by kernel_rfl) (fun _ _ _ h => h) (Or.inl ⟨by rfl, ?_⟩) ⟨trivial, unhide HC0⟩ ?_
    · intro W hW
      go_split_ands
      go_simp
    refine wpR_take7 (i := 2) (oi := _) (v := .agg #[.string n2, .string d2]) rfl (by kernel_rfl) (by kernel_rfl) (by kernel_rfl) (by kernel_rfl) (fun _ _ _ h => h) (Or.inl ⟨by rfl, ?_⟩) ⟨trivial, unhide HC0⟩ ?_
    · intro W hW
      go_split_ands
      go_simp
    refine wpR_three (i := 1) (j := 4) (m := 5) (by kernel_rfl) rfl rfl rfl rfl rfl rfl (fun K hK => ?_) (fun K hK => ?_) (fun K hK => ?_) 
    · go_simp
      refine (unhide H62A _).mono ?_
      rintro e W1 ⟨rfl, hb1⟩
      have HA1 := hide ((unhide HA0).later hb1)
      refine hK _ _ ⟨trivial, ⟨(unhide HA1).a.c0, (unhide HA1).a.c1⟩, ⟨(unhide HA1).b.c0, (unhide HA1).b.c1⟩⟩ ?_
      clear hK K hb1
      refine wpR_three (i := 3) (j := 4) (m := 5) (by kernel_rfl) rfl rfl rfl rfl rfl rfl (fun K hK => ?_) (fun K hK => ?_) (fun K hK => ?_) 
      · go_simp
        refine (unhide H62B _).mono ?_
        rintro e W2 ⟨rfl, hb2⟩
        have HA2 := hide ((unhide HA1).later hb2)
        refine hK _ _ ⟨trivial, ⟨(unhide HA2).a.c0, (unhide HA2).a.c1⟩, ⟨(unhide HA2).b.c0, (unhide HA2).b.c1⟩⟩ ?_
        clear hK K hb2
        refine wpR_two (i := 4) (j := 5) (by kernel_rfl) rfl rfl rfl rfl (fun K hK => ?_) (fun K hK => ?_) 
        · go_simp
          have hb3 := albel W2 (.cells #[.bool false, .string ⟨#[]⟩, .string ⟨#[]⟩] 61)
          have HA3 := hide ((unhide HA2).later hb3)
          refine hK _ _ ⟨trivial, ⟨(unhide HA3).a.c0, (unhide HA3).a.c1⟩, ⟨(unhide HA3).b.c0, (unhide HA3).b.c1⟩⟩ ?_
          clear hK K
          have FN3 : Hid (FBox (W2.alloc (.cells #[.bool false, .string ⟨#[]⟩, .string ⟨#[]⟩] 61)) W2.heap.size (.bool false) (.string ⟨#[]⟩) (.string ⟨#[]⟩)) := fnew _ _ _ _
          have HL3 : Hid (w.heap.size + 1 + 1 < W2.heap.size) := (unhide HA2).r.lt
          clear hb3
          obtain ⟨W3, hW3⟩ : ∃ W3, W3 = W2.alloc (.cells #[.bool false, .string ⟨#[]⟩, .string ⟨#[]⟩] 61) := ⟨_, rfl⟩
          obtain ⟨q3, hq3⟩ : ∃ q3, q3 = W2.heap.size := ⟨_, rfl⟩
          rw [← hW3] at HA3 FN3   ⊢
          rw [← hq3] at FN3 HL3  ⊢
          clear hW3 hq3
          refine wpR_op (i := 5) (o := _) (by kernel_rfl) rfl rfl (fun K hK => ?_)
          go_simp
          have hb4 := albel W3 (.cells #[.bool false, .string ⟨#[]⟩, .string ⟨#[]⟩] 61)
          have HA4 := hide ((unhide HA3).later hb4)
          refine hK _ _ ⟨trivial, ⟨(unhide HA4).a.c0, (unhide HA4).a.c1⟩, ⟨(unhide HA4).b.c0, (unhide HA4).b.c1⟩⟩ ?_
          clear hK K
          have FN4 : Hid (FBox (W3.alloc (.cells #[.bool false, .string ⟨#[]⟩, .string ⟨#[]⟩] 61)) W3.heap.size (.bool false) (.string ⟨#[]⟩) (.string ⟨#[]⟩)) := fnew _ _ _ _
          have HL4 : Hid (w.heap.size + 1 + 1 < W3.heap.size) := (unhide HA3).r.lt
          have F64 := hide ((unhide FN3).later hb4)
          have HNE : Hid (q3 < W3.heap.size) := (unhide FN3).lt
          clear hb4
          obtain ⟨W4, hW4⟩ : ∃ W4, W4 = W3.alloc (.cells #[.bool false, .string ⟨#[]⟩, .string ⟨#[]⟩] 61) := ⟨_, rfl⟩
          obtain ⟨q4, hq4⟩ : ∃ q4, q4 = W3.heap.size := ⟨_, rfl⟩
          rw [← hW4] at HA4 FN4 F64  ⊢
          rw [← hq4] at FN4 HL4 HNE ⊢
          clear hW4 hq4
          have hne : ¬ q3 = q4 := by have h0 := unhide HNE; omega
          have hne1 : ¬ q4 = q3 := by have h0 := unhide HNE; omega
          have x0 := (unhide F64).c0; have x1 := (unhide F64).c1; have x2 := (unhide F64).c2; have xf0 := (unhide F64).f0; have xf1 := (unhide F64).f1; have xf2 := (unhide F64).f2
          have y0 := (unhide FN4).c0; have y1 := (unhide FN4).c1; have y2 := (unhide FN4).c2; have yf0 := (unhide FN4).f0; have yf1 := (unhide FN4).f1; have yf2 := (unhide FN4).f2
          have HT1 := hide ((unhide HA4).st (unhide HL3) (.bool ab) (.string an) (.string ad))
          have HT2 := hide ((unhide HT1).st (unhide HL4) (.bool true) (.string bn) (.string bd))
          refine wpR_late (i := 6) (o := _) (by kernel_rfl) rfl rfl (by kernel_rfl) (fun K hK => ?_)
          go_simp
          refine hK _ _ ⟨⟨(unhide HT1).a.c0, (unhide HT1).a.c1⟩, ⟨(unhide HT1).b.c0, (unhide HT1).b.c1⟩⟩ ?_
          clear hK K
          refine wpR_late (i := 7) (o := _) (by kernel_rfl) rfl rfl (by kernel_rfl) (fun K hK => ?_)
          go_simp
          refine hK _ _ ⟨⟨(unhide HT2).a.c0, (unhide HT2).a.c1⟩, ⟨(unhide HT2).b.c0, (unhide HT2).b.c1⟩⟩ ?_
          clear hK K
          refine wpR_done (by kernel_rfl) ?_
          go_wp2_with fail
          go_meet
          exact ⟨q3, q4, rfl, rfl, qb_fin (unhide HA4) (unhide F64) (unhide FN4) hne (unhide HL3) (unhide HL4)⟩
        · go_simp
          have hb5 := albel W2 (.cells #[.bool false, .string ⟨#[]⟩, .string ⟨#[]⟩] 61)
          have HA5 := hide ((unhide HA2).later hb5)
          refine hK _ _ ⟨trivial, ⟨(unhide HA5).a.c0, (unhide HA5).a.c1⟩, ⟨(unhide HA5).b.c0, (unhide HA5).b.c1⟩⟩ ?_
          clear hK K
          have FN5 : Hid (FBox (W2.alloc (.cells #[.bool false, .string ⟨#[]⟩, .string ⟨#[]⟩] 61)) W2.heap.size (.bool false) (.string ⟨#[]⟩) (.string ⟨#[]⟩)) := fnew _ _ _ _
          have HL5 : Hid (w.heap.size + 1 + 1 < W2.heap.size) := (unhide HA2).r.lt
          clear hb5
          obtain ⟨W5, hW5⟩ : ∃ W5, W5 = W2.alloc (.cells #[.bool false, .string ⟨#[]⟩, .string ⟨#[]⟩] 61) := ⟨_, rfl⟩
          obtain ⟨q5, hq5⟩ : ∃ q5, q5 = W2.heap.size := ⟨_, rfl⟩
          rw [← hW5] at HA5 FN5   ⊢
          rw [← hq5] at FN5 HL5  ⊢
          clear hW5 hq5
          refine wpR_op (i := 4) (o := _) (by kernel_rfl) rfl rfl (fun K hK => ?_)
          go_simp
          have hb6 := albel W5 (.cells #[.bool false, .string ⟨#[]⟩, .string ⟨#[]⟩] 61)
          have HA6 := hide ((unhide HA5).later hb6)
          refine hK _ _ ⟨trivial, ⟨(unhide HA6).a.c0, (unhide HA6).a.c1⟩, ⟨(unhide HA6).b.c0, (unhide HA6).b.c1⟩⟩ ?_
          clear hK K
          have FN6 : Hid (FBox (W5.alloc (.cells #[.bool false, .string ⟨#[]⟩, .string ⟨#[]⟩] 61)) W5.heap.size (.bool false) (.string ⟨#[]⟩) (.string ⟨#[]⟩)) := fnew _ _ _ _
          have HL6 : Hid (w.heap.size + 1 + 1 < W5.heap.size) := (unhide HA5).r.lt
          have F76 := hide ((unhide FN5).later hb6)
          have HNE : Hid (q5 < W5.heap.size) := (unhide FN5).lt
          clear hb6
          obtain ⟨W6, hW6⟩ : ∃ W6, W6 = W5.alloc (.cells #[.bool false, .string ⟨#[]⟩, .string ⟨#[]⟩] 61) := ⟨_, rfl⟩
          obtain ⟨q6, hq6⟩ : ∃ q6, q6 = W5.heap.size := ⟨_, rfl⟩
          rw [← hW6] at HA6 FN6  F76 ⊢
          rw [← hq6] at FN6 HL6 HNE ⊢
          clear hW6 hq6
          have hne : ¬ q6 = q5 := by have h0 := unhide HNE; omega
          have hne1 : ¬ q5 = q6 := by have h0 := unhide HNE; omega
          have x0 := (unhide FN6).c0; have x1 := (unhide FN6).c1; have x2 := (unhide FN6).c2; have xf0 := (unhide FN6).f0; have xf1 := (unhide FN6).f1; have xf2 := (unhide FN6).f2
          have y0 := (unhide F76).c0; have y1 := (unhide F76).c1; have y2 := (unhide F76).c2; have yf0 := (unhide F76).f0; have yf1 := (unhide F76).f1; have yf2 := (unhide F76).f2
          have HT1 := hide ((unhide HA6).st (unhide HL6) (.bool ab) (.string an) (.string ad))
          have HT2 := hide ((unhide HT1).st (unhide HL5) (.bool true) (.string bn) (.string bd))
          refine wpR_late (i := 6) (o := _) (by kernel_rfl) rfl rfl (by kernel_rfl) (fun K hK => ?_)
          go_simp
          refine hK _ _ ⟨⟨(unhide HT1).a.c0, (unhide HT1).a.c1⟩, ⟨(unhide HT1).b.c0, (unhide HT1).b.c1⟩⟩ ?_
          clear hK K
          refine wpR_late (i := 7) (o := _) (by kernel_rfl) rfl rfl (by kernel_rfl) (fun K hK => ?_)
          go_simp
          refine hK _ _ ⟨⟨(unhide HT2).a.c0, (unhide HT2).a.c1⟩, ⟨(unhide HT2).b.c0, (unhide HT2).b.c1⟩⟩ ?_
          clear hK K
          refine wpR_done (by kernel_rfl) ?_
          go_wp2_with fail
          go_meet
          exact ⟨q6, q5, rfl, rfl, qb_fin (unhide HA6) (unhide FN6) (unhide F76) hne (unhide HL6) (unhide HL5)⟩
      · go_simp
        have hb7 := albel W1 (.cells #[.bool false, .string ⟨#[]⟩, .string ⟨#[]⟩] 61)
        have HA7 := hide ((unhide HA1).later hb7)
        refine hK _ _ ⟨trivial, ⟨(unhide HA7).a.c0, (unhide HA7).a.c1⟩, ⟨(unhide HA7).b.c0, (unhide HA7).b.c1⟩⟩ ?_
        clear hK K
        have FN7 : Hid (FBox (W1.alloc (.cells #[.bool false, .string ⟨#[]⟩, .string ⟨#[]⟩] 61)) W1.heap.size (.bool false) (.string ⟨#[]⟩) (.string ⟨#[]⟩)) := fnew _ _ _ _
        have HL7 : Hid (w.heap.size + 1 + 1 < W1.heap.size) := (unhide HA1).r.lt
        clear hb7
        obtain ⟨W7, hW7⟩ : ∃ W7, W7 = W1.alloc (.cells #[.bool false, .string ⟨#[]⟩, .string ⟨#[]⟩] 61) := ⟨_, rfl⟩
        obtain ⟨q7, hq7⟩ : ∃ q7, q7 = W1.heap.size := ⟨_, rfl⟩
        rw [← hW7] at HA7 FN7   ⊢
        rw [← hq7] at FN7 HL7  ⊢
        clear hW7 hq7
        refine wpR_two (i := 3) (j := 5) (by kernel_rfl) rfl rfl rfl rfl (fun K hK => ?_) (fun K hK => ?_) 
        · go_simp
          refine (unhide H62B _).mono ?_
          rintro e W8 ⟨rfl, hb8⟩
          have HA8 := hide ((unhide HA7).later hb8)
          have F68 := hide ((unhide FN7).later hb8)
          refine hK _ _ ⟨trivial, ⟨(unhide HA8).a.c0, (unhide HA8).a.c1⟩, ⟨(unhide HA8).b.c0, (unhide HA8).b.c1⟩⟩ ?_
          clear hK K hb8
          refine wpR_op (i := 5) (o := _) (by kernel_rfl) rfl rfl (fun K hK => ?_)
          go_simp
          have hb9 := albel W8 (.cells #[.bool false, .string ⟨#[]⟩, .string ⟨#[]⟩] 61)
          have HA9 := hide ((unhide HA8).later hb9)
          refine hK _ _ ⟨trivial, ⟨(unhide HA9).a.c0, (unhide HA9).a.c1⟩, ⟨(unhide HA9).b.c0, (unhide HA9).b.c1⟩⟩ ?_
          clear hK K
          have FN9 : Hid (FBox (W8.alloc (.cells #[.bool false, .string ⟨#[]⟩, .string ⟨#[]⟩] 61)) W8.heap.size (.bool false) (.string ⟨#[]⟩) (.string ⟨#[]⟩)) := fnew _ _ _ _
          have HL9 : Hid (w.heap.size + 1 + 1 < W8.heap.size) := (unhide HA8).r.lt
          have F69 := hide ((unhide F68).later hb9)
          have HNE : Hid (q7 < W8.heap.size) := (unhide F68).lt
          clear hb9
          obtain ⟨W9, hW9⟩ : ∃ W9, W9 = W8.alloc (.cells #[.bool false, .string ⟨#[]⟩, .string ⟨#[]⟩] 61) := ⟨_, rfl⟩
          obtain ⟨q9, hq9⟩ : ∃ q9, q9 = W8.heap.size := ⟨_, rfl⟩
          rw [← hW9] at HA9 FN9 F69  ⊢
          rw [← hq9] at FN9 HL9 HNE ⊢
          clear hW9 hq9
          have hne : ¬ q7 = q9 := by have h0 := unhide HNE; omega
          have hne1 : ¬ q9 = q7 := by have h0 := unhide HNE; omega
          have x0 := (unhide F69).c0; have x1 := (unhide F69).c1; have x2 := (unhide F69).c2; have xf0 := (unhide F69).f0; have xf1 := (unhide F69).f1; have xf2 := (unhide F69).f2
          have y0 := (unhide FN9).c0; have y1 := (unhide FN9).c1; have y2 := (unhide FN9).c2; have yf0 := (unhide FN9).f0; have yf1 := (unhide FN9).f1; have yf2 := (unhide FN9).f2
          have HT1 := hide ((unhide HA9).st (unhide HL7) (.bool ab) (.string an) (.string ad))
          have HT2 := hide ((unhide HT1).st (unhide HL9) (.bool true) (.string bn) (.string bd))
          refine wpR_late (i := 6) (o := _) (by kernel_rfl) rfl rfl (by kernel_rfl) (fun K hK => ?_)
          go_simp
          refine hK _ _ ⟨⟨(unhide HT1).a.c0, (unhide HT1).a.c1⟩, ⟨(unhide HT1).b.c0, (unhide HT1).b.c1⟩⟩ ?_
          clear hK K
          refine wpR_late (i := 7) (o := _) (by kernel_rfl) rfl rfl (by kernel_rfl) (fun K hK => ?_)
          go_simp
          refine hK _ _ ⟨⟨(unhide HT2).a.c0, (unhide HT2).a.c1⟩, ⟨(unhide HT2).b.c0, (unhide HT2).b.c1⟩⟩ ?_
          clear hK K
          refine wpR_done (by kernel_rfl) ?_
          go_wp2_with fail
          go_meet
          exact ⟨q7, q9, rfl, rfl, qb_fin (unhide HA9) (unhide F69) (unhide FN9) hne (unhide HL7) (unhide HL9)⟩
        · go_simp
          have hb10 := albel W7 (.cells #[.bool false, .string ⟨#[]⟩, .string ⟨#[]⟩] 61)
          have HA10 := hide ((unhide HA7).later hb10)
          refine hK _ _ ⟨trivial, ⟨(unhide HA10).a.c0, (unhide HA10).a.c1⟩, ⟨(unhide HA10).b.c0, (unhide HA10).b.c1⟩⟩ ?_
          clear hK K
          have FN10 : Hid (FBox (W7.alloc (.cells #[.bool false, .string ⟨#[]⟩, .string ⟨#[]⟩] 61)) W7.heap.size (.bool false) (.string ⟨#[]⟩) (.string ⟨#[]⟩)) := fnew _ _ _ _
          have HL10 : Hid (w.heap.size + 1 + 1 < W7.heap.size) := (unhide HA7).r.lt
          have F610 := hide ((unhide FN7).later hb10)
          have HNE : Hid (q7 < W7.heap.size) := (unhide FN7).lt
          clear hb10
          obtain ⟨W10, hW10⟩ : ∃ W10, W10 = W7.alloc (.cells #[.bool false, .string ⟨#[]⟩, .string ⟨#[]⟩] 61) := ⟨_, rfl⟩
          obtain ⟨q10, hq10⟩ : ∃ q10, q10 = W7.heap.size := ⟨_, rfl⟩
          rw [← hW10] at HA10 FN10 F610  ⊢
          rw [← hq10] at FN10 HL10 HNE ⊢
          clear hW10 hq10
          refine wpR_op (i := 3) (o := _) (by kernel_rfl) rfl rfl (fun K hK => ?_)
          go_simp
          refine (unhide H62B _).mono ?_
          rintro e W11 ⟨rfl, hb11⟩
          have HA11 := hide ((unhide HA10).later hb11)
          have F611 := hide ((unhide F610).later hb11)
          have F711 := hide ((unhide FN10).later hb11)
          refine hK _ _ ⟨trivial, ⟨(unhide HA11).a.c0, (unhide HA11).a.c1⟩, ⟨(unhide HA11).b.c0, (unhide HA11).b.c1⟩⟩ ?_
          clear hK K hb11
          have hne : ¬ q7 = q10 := by have h0 := unhide HNE; omega
          have hne1 : ¬ q10 = q7 := by have h0 := unhide HNE; omega
          have x0 := (unhide F611).c0; have x1 := (unhide F611).c1; have x2 := (unhide F611).c2; have xf0 := (unhide F611).f0; have xf1 := (unhide F611).f1; have xf2 := (unhide F611).f2
          have y0 := (unhide F711).c0; have y1 := (unhide F711).c1; have y2 := (unhide F711).c2; have yf0 := (unhide F711).f0; have yf1 := (unhide F711).f1; have yf2 := (unhide F711).f2
          have HT1 := hide ((unhide HA11).st (unhide HL7) (.bool ab) (.string an) (.string ad))
          have HT2 := hide ((unhide HT1).st (unhide HL10) (.bool true) (.string bn) (.string bd))
          refine wpR_late (i := 6) (o := _) (by kernel_rfl) rfl rfl (by kernel_rfl) (fun K hK => ?_)
          go_simp
          refine hK _ _ ⟨⟨(unhide HT1).a.c0, (unhide HT1).a.c1⟩, ⟨(unhide HT1).b.c0, (unhide HT1).b.c1⟩⟩ ?_
          clear hK K
          refine wpR_late (i := 7) (o := _) (by kernel_rfl) rfl rfl (by kernel_rfl) (fun K hK => ?_)
          go_simp
          refine hK _ _ ⟨⟨(unhide HT2).a.c0, (unhide HT2).a.c1⟩, ⟨(unhide HT2).b.c0, (unhide HT2).b.c1⟩⟩ ?_
          clear hK K
          refine wpR_done (by kernel_rfl) ?_
          go_wp2_with fail
          go_meet
          exact ⟨q7, q10, rfl, rfl, qb_fin (unhide HA11) (unhide F611) (unhide F711) hne (unhide HL7) (unhide HL10)⟩
      · go_simp
        have hb12 := albel W1 (.cells #[.bool false, .string ⟨#[]⟩, .string ⟨#[]⟩] 61)
        have HA12 := hide ((unhide HA1).later hb12)
        refine hK _ _ ⟨trivial, ⟨(unhide HA12).a.c0, (unhide HA12).a.c1⟩, ⟨(unhide HA12).b.c0, (unhide HA12).b.c1⟩⟩ ?_
        clear hK K
        have FN12 : Hid (FBox (W1.alloc (.cells #[.bool false, .string ⟨#[]⟩, .string ⟨#[]⟩] 61)) W1.heap.size (.bool false) (.string ⟨#[]⟩) (.string ⟨#[]⟩)) := fnew _ _ _ _
        have HL12 : Hid (w.heap.size + 1 + 1 < W1.heap.size) := (unhide HA1).r.lt
        clear hb12
        obtain ⟨W12, hW12⟩ : ∃ W12, W12 = W1.alloc (.cells #[.bool false, .string ⟨#[]⟩, .string ⟨#[]⟩] 61) := ⟨_, rfl⟩
        obtain ⟨q12, hq12⟩ : ∃ q12, q12 = W1.heap.size := ⟨_, rfl⟩
        rw [← hW12] at HA12 FN12   ⊢
        rw [← hq12] at FN12 HL12  ⊢
        clear hW12 hq12
        refine wpR_two (i := 3) (j := 4) (by kernel_rfl) rfl rfl rfl rfl (fun K hK => ?_) (fun K hK => ?_) 
        · go_simp
          refine (unhide H62B _).mono ?_
          rintro e W13 ⟨rfl, hb13⟩
          have HA13 := hide ((unhide HA12).later hb13)
          have F713 := hide ((unhide FN12).later hb13)
          refine hK _ _ ⟨trivial, ⟨(unhide HA13).a.c0, (unhide HA13).a.c1⟩, ⟨(unhide HA13).b.c0, (unhide HA13).b.c1⟩⟩ ?_
          clear hK K hb13
          refine wpR_op (i := 4) (o := _) (by kernel_rfl) rfl rfl (fun K hK => ?_)
          go_simp
          have hb14 := albel W13 (.cells #[.bool false, .string ⟨#[]⟩, .string ⟨#[]⟩] 61)
          have HA14 := hide ((unhide HA13).later hb14)
          refine hK _ _ ⟨trivial, ⟨(unhide HA14).a.c0, (unhide HA14).a.c1⟩, ⟨(unhide HA14).b.c0, (unhide HA14).b.c1⟩⟩ ?_
          clear hK K
          have FN14 : Hid (FBox (W13.alloc (.cells #[.bool false, .string ⟨#[]⟩, .string ⟨#[]⟩] 61)) W13.heap.size (.bool false) (.string ⟨#[]⟩) (.string ⟨#[]⟩)) := fnew _ _ _ _
          have HL14 : Hid (w.heap.size + 1 + 1 < W13.heap.size) := (unhide HA13).r.lt
          have F714 := hide ((unhide F713).later hb14)
          have HNE : Hid (q12 < W13.heap.size) := (unhide F713).lt
          clear hb14
          obtain ⟨W14, hW14⟩ : ∃ W14, W14 = W13.alloc (.cells #[.bool false, .string ⟨#[]⟩, .string ⟨#[]⟩] 61) := ⟨_, rfl⟩
          obtain ⟨q14, hq14⟩ : ∃ q14, q14 = W13.heap.size := ⟨_, rfl⟩
          rw [← hW14] at HA14 FN14  F714 ⊢
          rw [← hq14] at FN14 HL14 HNE ⊢
          clear hW14 hq14
          have hne : ¬ q14 = q12 := by have h0 := unhide HNE; omega
          have hne1 : ¬ q12 = q14 := by have h0 := unhide HNE; omega
          have x0 := (unhide FN14).c0; have x1 := (unhide FN14).c1; have x2 := (unhide FN14).c2; have xf0 := (unhide FN14).f0; have xf1 := (unhide FN14).f1; have xf2 := (unhide FN14).f2
          have y0 := (unhide F714).c0; have y1 := (unhide F714).c1; have y2 := (unhide F714).c2; have yf0 := (unhide F714).f0; have yf1 := (unhide F714).f1; have yf2 := (unhide F714).f2
          have HT1 := hide ((unhide HA14).st (unhide HL14) (.bool ab) (.string an) (.string ad))
          have HT2 := hide ((unhide HT1).st (unhide HL12) (.bool true) (.string bn) (.string bd))
          refine wpR_late (i := 6) (o := _) (by kernel_rfl) rfl rfl (by kernel_rfl) (fun K hK => ?_)
          go_simp
          refine hK _ _ ⟨⟨(unhide HT1).a.c0, (unhide HT1).a.c1⟩, ⟨(unhide HT1).b.c0, (unhide HT1).b.c1⟩⟩ ?_
          clear hK K
          refine wpR_late (i := 7) (o := _) (by kernel_rfl) rfl rfl (by kernel_rfl) (fun K hK => ?_)
          go_simp
          refine hK _ _ ⟨⟨(unhide HT2).a.c0, (unhide HT2).a.c1⟩, ⟨(unhide HT2).b.c0, (unhide HT2).b.c1⟩⟩ ?_
          clear hK K
          refine wpR_done (by kernel_rfl) ?_
          go_wp2_with fail
          go_meet
          exact ⟨q14, q12, rfl, rfl, qb_fin (unhide HA14) (unhide FN14) (unhide F714) hne (unhide HL14) (unhide HL12)⟩
        · go_simp
          have hb15 := albel W12 (.cells #[.bool false, .string ⟨#[]⟩, .string ⟨#[]⟩] 61)
          have HA15 := hide ((unhide HA12).later hb15)
          refine hK _ _ ⟨trivial, ⟨(unhide HA15).a.c0, (unhide HA15).a.c1⟩, ⟨(unhide HA15).b.c0, (unhide HA15).b.c1⟩⟩ ?_
          clear hK K
          have FN15 : Hid (FBox (W12.alloc (.cells #[.bool false, .string ⟨#[]⟩, .string ⟨#[]⟩] 61)) W12.heap.size (.bool false) (.string ⟨#[]⟩) (.string ⟨#[]⟩)) := fnew _ _ _ _
          have HL15 : Hid (w.heap.size + 1 + 1 < W12.heap.size) := (unhide HA12).r.lt
          have F715 := hide ((unhide FN12).later hb15)
          have HNE : Hid (q12 < W12.heap.size) := (unhide FN12).lt
          clear hb15
          obtain ⟨W15, hW15⟩ : ∃ W15, W15 = W12.alloc (.cells #[.bool false, .string ⟨#[]⟩, .string ⟨#[]⟩] 61) := ⟨_, rfl⟩
          obtain ⟨q15, hq15⟩ : ∃ q15, q15 = W12.heap.size := ⟨_, rfl⟩
          rw [← hW15] at HA15 FN15  F715 ⊢
          rw [← hq15] at FN15 HL15 HNE ⊢
          clear hW15 hq15
          refine wpR_op (i := 3) (o := _) (by kernel_rfl) rfl rfl (fun K hK => ?_)
          go_simp
          refine (unhide H62B _).mono ?_
          rintro e W16 ⟨rfl, hb16⟩
          have HA16 := hide ((unhide HA15).later hb16)
          have F616 := hide ((unhide FN15).later hb16)
          have F716 := hide ((unhide F715).later hb16)
          refine hK _ _ ⟨trivial, ⟨(unhide HA16).a.c0, (unhide HA16).a.c1⟩, ⟨(unhide HA16).b.c0, (unhide HA16).b.c1⟩⟩ ?_
          clear hK K hb16
          have hne : ¬ q15 = q12 := by have h0 := unhide HNE; omega
          have hne1 : ¬ q12 = q15 := by have h0 := unhide HNE; omega
          have x0 := (unhide F616).c0; have x1 := (unhide F616).c1; have x2 := (unhide F616).c2; have xf0 := (unhide F616).f0; have xf1 := (unhide F616).f1; have xf2 := (unhide F616).f2
          have y0 := (unhide F716).c0; have y1 := (unhide F716).c1; have y2 := (unhide F716).c2; have yf0 := (unhide F716).f0; have yf1 := (unhide F716).f1; have yf2 := (unhide F716).f2
          have HT1 := hide ((unhide HA16).st (unhide HL15) (.bool ab) (.string an) (.string ad))
          have HT2 := hide ((unhide HT1).st (unhide HL12) (.bool true) (.string bn) (.string bd))
          refine wpR_late (i := 6) (o := _) (by kernel_rfl) rfl rfl (by kernel_rfl) (fun K hK => ?_)
          go_simp
          refine hK _ _ ⟨⟨(unhide HT1).a.c0, (unhide HT1).a.c1⟩, ⟨(unhide HT1).b.c0, (unhide HT1).b.c1⟩⟩ ?_
          clear hK K
          refine wpR_late (i := 7) (o := _) (by kernel_rfl) rfl rfl (by kernel_rfl) (fun K hK => ?_)
          go_simp
          refine hK _ _ ⟨⟨(unhide HT2).a.c0, (unhide HT2).a.c1⟩, ⟨(unhide HT2).b.c0, (unhide HT2).b.c1⟩⟩ ?_
          clear hK K
          refine wpR_done (by kernel_rfl) ?_
          go_wp2_with fail
          go_meet
          exact ⟨q15, q12, rfl, rfl, qb_fin (unhide HA16) (unhide F616) (unhide F716) hne (unhide HL15) (unhide HL12)⟩
    · go_simp
      have hb17 := albel W0 (.cells #[.bool false, .string ⟨#[]⟩, .string ⟨#[]⟩] 61)
      have HA17 := hide ((unhide HA0).later hb17)
      refine hK _ _ ⟨trivial, ⟨(unhide HA17).a.c0, (unhide HA17).a.c1⟩, ⟨(unhide HA17).b.c0, (unhide HA17).b.c1⟩⟩ ?_
      clear hK K
      have FN17 : Hid (FBox (W0.alloc (.cells #[.bool false, .string ⟨#[]⟩, .string ⟨#[]⟩] 61)) W0.heap.size (.bool false) (.string ⟨#[]⟩) (.string ⟨#[]⟩)) := fnew _ _ _ _
      have HL17 : Hid (w.heap.size + 1 + 1 < W0.heap.size) := (unhide HA0).r.lt
      clear hb17
      obtain ⟨W17, hW17⟩ : ∃ W17, W17 = W0.alloc (.cells #[.bool false, .string ⟨#[]⟩, .string ⟨#[]⟩] 61) := ⟨_, rfl⟩
      obtain ⟨q17, hq17⟩ : ∃ q17, q17 = W0.heap.size := ⟨_, rfl⟩
      rw [← hW17] at HA17 FN17   ⊢
      rw [← hq17] at FN17 HL17  ⊢
      clear hW17 hq17
      refine wpR_two (i := 1) (j := 5) (by kernel_rfl) rfl rfl rfl rfl (fun K hK => ?_) (fun K hK => ?_) 
      · go_simp
        refine (unhide H62A _).mono ?_
        rintro e W18 ⟨rfl, hb18⟩
        have HA18 := hide ((unhide HA17).later hb18)
        have F618 := hide ((unhide FN17).later hb18)
        refine hK _ _ ⟨trivial, ⟨(unhide HA18).a.c0, (unhide HA18).a.c1⟩, ⟨(unhide HA18).b.c0, (unhide HA18).b.c1⟩⟩ ?_
        clear hK K hb18
        refine wpR_two (i := 3) (j := 5) (by kernel_rfl) rfl rfl rfl rfl (fun K hK => ?_) (fun K hK => ?_) 
        · go_simp
          refine (unhide H62B _).mono ?_
          rintro e W19 ⟨rfl, hb19⟩
          have HA19 := hide ((unhide HA18).later hb19)
          have F619 := hide ((unhide F618).later hb19)
          refine hK _ _ ⟨trivial, ⟨(unhide HA19).a.c0, (unhide HA19).a.c1⟩, ⟨(unhide HA19).b.c0, (unhide HA19).b.c1⟩⟩ ?_
          clear hK K hb19
          refine wpR_op (i := 5) (o := _) (by kernel_rfl) rfl rfl (fun K hK => ?_)
          go_simp
          have hb20 := albel W19 (.cells #[.bool false, .string ⟨#[]⟩, .string ⟨#[]⟩] 61)
          have HA20 := hide ((unhide HA19).later hb20)
          refine hK _ _ ⟨trivial, ⟨(unhide HA20).a.c0, (unhide HA20).a.c1⟩, ⟨(unhide HA20).b.c0, (unhide HA20).b.c1⟩⟩ ?_
          clear hK K
          have FN20 : Hid (FBox (W19.alloc (.cells #[.bool false, .string ⟨#[]⟩, .string ⟨#[]⟩] 61)) W19.heap.size (.bool false) (.string ⟨#[]⟩) (.string ⟨#[]⟩)) := fnew _ _ _ _
          have HL20 : Hid (w.heap.size + 1 + 1 < W19.heap.size) := (unhide HA19).r.lt
          have F620 := hide ((unhide F619).later hb20)
          have HNE : Hid (q17 < W19.heap.size) := (unhide F619).lt
          clear hb20
          obtain ⟨W20, hW20⟩ : ∃ W20, W20 = W19.alloc (.cells #[.bool false, .string ⟨#[]⟩, .string ⟨#[]⟩] 61) := ⟨_, rfl⟩
          obtain ⟨q20, hq20⟩ : ∃ q20, q20 = W19.heap.size := ⟨_, rfl⟩
          rw [← hW20] at HA20 FN20 F620  ⊢
          rw [← hq20] at FN20 HL20 HNE ⊢
          clear hW20 hq20
          have hne : ¬ q17 = q20 := by have h0 := unhide HNE; omega
          have hne1 : ¬ q20 = q17 := by have h0 := unhide HNE; omega
          have x0 := (unhide F620).c0; have x1 := (unhide F620).c1; have x2 := (unhide F620).c2; have xf0 := (unhide F620).f0; have xf1 := (unhide F620).f1; have xf2 := (unhide F620).f2
          have y0 := (unhide FN20).c0; have y1 := (unhide FN20).c1; have y2 := (unhide FN20).c2; have yf0 := (unhide FN20).f0; have yf1 := (unhide FN20).f1; have yf2 := (unhide FN20).f2
          have HT1 := hide ((unhide HA20).st (unhide HL17) (.bool ab) (.string an) (.string ad))
          have HT2 := hide ((unhide HT1).st (unhide HL20) (.bool true) (.string bn) (.string bd))
          refine wpR_late (i := 6) (o := _) (by kernel_rfl) rfl rfl (by kernel_rfl) (fun K hK => ?_)
          go_simp
          refine hK _ _ ⟨⟨(unhide HT1).a.c0, (unhide HT1).a.c1⟩, ⟨(unhide HT1).b.c0, (unhide HT1).b.c1⟩⟩ ?_
          clear hK K
          refine wpR_late (i := 7) (o := _) (by kernel_rfl) rfl rfl (by kernel_rfl) (fun K hK => ?_)
          go_simp
          refine hK _ _ ⟨⟨(unhide HT2).a.c0, (unhide HT2).a.c1⟩, ⟨(unhide HT2).b.c0, (unhide HT2).b.c1⟩⟩ ?_
          clear hK K
          refine wpR_done (by kernel_rfl) ?_
          go_wp2_with fail
          go_meet
          exact ⟨q17, q20, rfl, rfl, qb_fin (unhide HA20) (unhide F620) (unhide FN20) hne (unhide HL17) (unhide HL20)⟩
        · go_simp
          have hb21 := albel W18 (.cells #[.bool false, .string ⟨#[]⟩, .string ⟨#[]⟩] 61)
          have HA21 := hide ((unhide HA18).later hb21)
          refine hK _ _ ⟨trivial, ⟨(unhide HA21).a.c0, (unhide HA21).a.c1⟩, ⟨(unhide HA21).b.c0, (unhide HA21).b.c1⟩⟩ ?_
          clear hK K
          have FN21 : Hid (FBox (W18.alloc (.cells #[.bool false, .string ⟨#[]⟩, .string ⟨#[]⟩] 61)) W18.heap.size (.bool false) (.string ⟨#[]⟩) (.string ⟨#[]⟩)) := fnew _ _ _ _
          have HL21 : Hid (w.heap.size + 1 + 1 < W18.heap.size) := (unhide HA18).r.lt
          have F621 := hide ((unhide F618).later hb21)
          have HNE : Hid (q17 < W18.heap.size) := (unhide F618).lt
          clear hb21
          obtain ⟨W21, hW21⟩ : ∃ W21, W21 = W18.alloc (.cells #[.bool false, .string ⟨#[]⟩, .string ⟨#[]⟩] 61) := ⟨_, rfl⟩
          obtain ⟨q21, hq21⟩ : ∃ q21, q21 = W18.heap.size := ⟨_, rfl⟩
          rw [← hW21] at HA21 FN21 F621  ⊢
          rw [← hq21] at FN21 HL21 HNE ⊢
          clear hW21 hq21
          refine wpR_op (i := 3) (o := _) (by kernel_rfl) rfl rfl (fun K hK => ?_)
          go_simp
          refine (unhide H62B _).mono ?_
          rintro e W22 ⟨rfl, hb22⟩
          have HA22 := hide ((unhide HA21).later hb22)
          have F622 := hide ((unhide F621).later hb22)
          have F722 := hide ((unhide FN21).later hb22)
          refine hK _ _ ⟨trivial, ⟨(unhide HA22).a.c0, (unhide HA22).a.c1⟩, ⟨(unhide HA22).b.c0, (unhide HA22).b.c1⟩⟩ ?_
          clear hK K hb22
          have hne : ¬ q17 = q21 := by have h0 := unhide HNE; omega
          have hne1 : ¬ q21 = q17 := by have h0 := unhide HNE; omega
          have x0 := (unhide F622).c0; have x1 := (unhide F622).c1; have x2 := (unhide F622).c2; have xf0 := (unhide F622).f0; have xf1 := (unhide F622).f1; have xf2 := (unhide F622).f2
          have y0 := (unhide F722).c0; have y1 := (unhide F722).c1; have y2 := (unhide F722).c2; have yf0 := (unhide F722).f0; have yf1 := (unhide F722).f1; have yf2 := (unhide F722).f2
          have HT1 := hide ((unhide HA22).st (unhide HL17) (.bool ab) (.string an) (.string ad))
          have HT2 := hide ((unhide HT1).st (unhide HL21) (.bool true) (.string bn) (.string bd))
          refine wpR_late (i := 6) (o := _) (by kernel_rfl) rfl rfl (by kernel_rfl) (fun K hK => ?_)
          go_simp
          refine hK _ _ ⟨⟨(unhide HT1).a.c0, (unhide HT1).a.c1⟩, ⟨(unhide HT1).b.c0, (unhide HT1).b.c1⟩⟩ ?_
          clear hK K
          refine wpR_late (i := 7) (o := _) (by kernel_rfl) rfl rfl (by kernel_rfl) (fun K hK => ?_)
          go_simp
          refine hK _ _ ⟨⟨(unhide HT2).a.c0, (unhide HT2).a.c1⟩, ⟨(unhide HT2).b.c0, (unhide HT2).b.c1⟩⟩ ?_
          clear hK K
          refine wpR_done (by kernel_rfl) ?_
          go_wp2_with fail
          go_meet
          exact ⟨q17, q21, rfl, rfl, qb_fin (unhide HA22) (unhide F622) (unhide F722) hne (unhide HL17) (unhide HL21)⟩
      · go_simp
        have hb23 := albel W17 (.cells #[.bool false, .string ⟨#[]⟩, .string ⟨#[]⟩] 61)
        have HA23 := hide ((unhide HA17).later hb23)
        refine hK _ _ ⟨trivial, ⟨(unhide HA23).a.c0, (unhide HA23).a.c1⟩, ⟨(unhide HA23).b.c0, (unhide HA23).b.c1⟩⟩ ?_
        clear hK K
        have FN23 : Hid (FBox (W17.alloc (.cells #[.bool false, .string ⟨#[]⟩, .string ⟨#[]⟩] 61)) W17.heap.size (.bool false) (.string ⟨#[]⟩) (.string ⟨#[]⟩)) := fnew _ _ _ _
        have HL23 : Hid (w.heap.size + 1 + 1 < W17.heap.size) := (unhide HA17).r.lt
        have F623 := hide ((unhide FN17).later hb23)
        have HNE : Hid (q17 < W17.heap.size) := (unhide FN17).lt
        clear hb23
        obtain ⟨W23, hW23⟩ : ∃ W23, W23 = W17.alloc (.cells #[.bool false, .string ⟨#[]⟩, .string ⟨#[]⟩] 61) := ⟨_, rfl⟩
        obtain ⟨q23, hq23⟩ : ∃ q23, q23 = W17.heap.size := ⟨_, rfl⟩
        rw [← hW23] at HA23 FN23 F623  ⊢
        rw [← hq23] at FN23 HL23 HNE ⊢
        clear hW23 hq23
        refine wpR_op (i := 1) (o := _) (by kernel_rfl) rfl rfl (fun K hK => ?_)
        go_simp
        refine (unhide H62A _).mono ?_
        rintro e W24 ⟨rfl, hb24⟩
        have HA24 := hide ((unhide HA23).later hb24)
        have F624 := hide ((unhide F623).later hb24)
        have F724 := hide ((unhide FN23).later hb24)
        refine hK _ _ ⟨trivial, ⟨(unhide HA24).a.c0, (unhide HA24).a.c1⟩, ⟨(unhide HA24).b.c0, (unhide HA24).b.c1⟩⟩ ?_
        clear hK K hb24
        refine wpR_op (i := 3) (o := _) (by kernel_rfl) rfl rfl (fun K hK => ?_)
        go_simp
        refine (unhide H62B _).mono ?_
        rintro e W25 ⟨rfl, hb25⟩
        have HA25 := hide ((unhide HA24).later hb25)
        have F625 := hide ((unhide F624).later hb25)
        have F725 := hide ((unhide F724).later hb25)
        refine hK _ _ ⟨trivial, ⟨(unhide HA25).a.c0, (unhide HA25).a.c1⟩, ⟨(unhide HA25).b.c0, (unhide HA25).b.c1⟩⟩ ?_
        clear hK K hb25
        have hne : ¬ q17 = q23 := by have h0 := unhide HNE; omega
        have hne1 : ¬ q23 = q17 := by have h0 := unhide HNE; omega
        have x0 := (unhide F625).c0; have x1 := (unhide F625).c1; have x2 := (unhide F625).c2; have xf0 := (unhide F625).f0; have xf1 := (unhide F625).f1; have xf2 := (unhide F625).f2
        have y0 := (unhide F725).c0; have y1 := (unhide F725).c1; have y2 := (unhide F725).c2; have yf0 := (unhide F725).f0; have yf1 := (unhide F725).f1; have yf2 := (unhide F725).f2
        have HT1 := hide ((unhide HA25).st (unhide HL17) (.bool ab) (.string an) (.string ad))
        have HT2 := hide ((unhide HT1).st (unhide HL23) (.bool true) (.string bn) (.string bd))
        refine wpR_late (i := 6) (o := _) (by kernel_rfl) rfl rfl (by kernel_rfl) (fun K hK => ?_)
        go_simp
        refine hK _ _ ⟨⟨(unhide HT1).a.c0, (unhide HT1).a.c1⟩, ⟨(unhide HT1).b.c0, (unhide HT1).b.c1⟩⟩ ?_
        clear hK K
        refine wpR_late (i := 7) (o := _) (by kernel_rfl) rfl rfl (by kernel_rfl) (fun K hK => ?_)
        go_simp
        refine hK _ _ ⟨⟨(unhide HT2).a.c0, (unhide HT2).a.c1⟩, ⟨(unhide HT2).b.c0, (unhide HT2).b.c1⟩⟩ ?_
        clear hK K
        refine wpR_done (by kernel_rfl) ?_
        go_wp2_with fail
        go_meet
        exact ⟨q17, q23, rfl, rfl, qb_fin (unhide HA25) (unhide F625) (unhide F725) hne (unhide HL17) (unhide HL23)⟩
    · go_simp
      have hb26 := albel W0 (.cells #[.bool false, .string ⟨#[]⟩, .string ⟨#[]⟩] 61)
      have HA26 := hide ((unhide HA0).later hb26)
      refine hK _ _ ⟨trivial, ⟨(unhide HA26).a.c0, (unhide HA26).a.c1⟩, ⟨(unhide HA26).b.c0, (unhide HA26).b.c1⟩⟩ ?_
      clear hK K
      have FN26 : Hid (FBox (W0.alloc (.cells #[.bool false, .string ⟨#[]⟩, .string ⟨#[]⟩] 61)) W0.heap.size (.bool false) (.string ⟨#[]⟩) (.string ⟨#[]⟩)) := fnew _ _ _ _
      have HL26 : Hid (w.heap.size + 1 + 1 < W0.heap.size) := (unhide HA0).r.lt
      clear hb26
      obtain ⟨W26, hW26⟩ : ∃ W26, W26 = W0.alloc (.cells #[.bool false, .string ⟨#[]⟩, .string ⟨#[]⟩] 61) := ⟨_, rfl⟩
      obtain ⟨q26, hq26⟩ : ∃ q26, q26 = W0.heap.size := ⟨_, rfl⟩
      rw [← hW26] at HA26 FN26   ⊢
      rw [← hq26] at FN26 HL26  ⊢
      clear hW26 hq26
      refine wpR_two (i := 1) (j := 4) (by kernel_rfl) rfl rfl rfl rfl (fun K hK => ?_) (fun K hK => ?_) 
      · go_simp
        refine (unhide H62A _).mono ?_
        rintro e W27 ⟨rfl, hb27⟩
        have HA27 := hide ((unhide HA26).later hb27)
        have F727 := hide ((unhide FN26).later hb27)
        refine hK _ _ ⟨trivial, ⟨(unhide HA27).a.c0, (unhide HA27).a.c1⟩, ⟨(unhide HA27).b.c0, (unhide HA27).b.c1⟩⟩ ?_
        clear hK K hb27
        refine wpR_two (i := 3) (j := 4) (by kernel_rfl) rfl rfl rfl rfl (fun K hK => ?_) (fun K hK => ?_) 
        · go_simp
          refine (unhide H62B _).mono ?_
          rintro e W28 ⟨rfl, hb28⟩
          have HA28 := hide ((unhide HA27).later hb28)
          have F728 := hide ((unhide F727).later hb28)
          refine hK _ _ ⟨trivial, ⟨(unhide HA28).a.c0, (unhide HA28).a.c1⟩, ⟨(unhide HA28).b.c0, (unhide HA28).b.c1⟩⟩ ?_
          clear hK K hb28
          refine wpR_op (i := 4) (o := _) (by kernel_rfl) rfl rfl (fun K hK => ?_)
          go_simp
          have hb29 := albel W28 (.cells #[.bool false, .string ⟨#[]⟩, .string ⟨#[]⟩] 61)
          have HA29 := hide ((unhide HA28).later hb29)
          refine hK _ _ ⟨trivial, ⟨(unhide HA29).a.c0, (unhide HA29).a.c1⟩, ⟨(unhide HA29).b.c0, (unhide HA29).b.c1⟩⟩ ?_
          clear hK K
          have FN29 : Hid (FBox (W28.alloc (.cells #[.bool false, .string ⟨#[]⟩, .string ⟨#[]⟩] 61)) W28.heap.size (.bool false) (.string ⟨#[]⟩) (.string ⟨#[]⟩)) := fnew _ _ _ _
          have HL29 : Hid (w.heap.size + 1 + 1 < W28.heap.size) := (unhide HA28).r.lt
          have F729 := hide ((unhide F728).later hb29)
          have HNE : Hid (q26 < W28.heap.size) := (unhide F728).lt
          clear hb29
          obtain ⟨W29, hW29⟩ : ∃ W29, W29 = W28.alloc (.cells #[.bool false, .string ⟨#[]⟩, .string ⟨#[]⟩] 61) := ⟨_, rfl⟩
          obtain ⟨q29, hq29⟩ : ∃ q29, q29 = W28.heap.size := ⟨_, rfl⟩
          rw [← hW29] at HA29 FN29  F729 ⊢
          rw [← hq29] at FN29 HL29 HNE ⊢
          clear hW29 hq29
          have hne : ¬ q29 = q26 := by have h0 := unhide HNE; omega
          have hne1 : ¬ q26 = q29 := by have h0 := unhide HNE; omega
          have x0 := (unhide FN29).c0; have x1 := (unhide FN29).c1; have x2 := (unhide FN29).c2; have xf0 := (unhide FN29).f0; have xf1 := (unhide FN29).f1; have xf2 := (unhide FN29).f2
          have y0 := (unhide F729).c0; have y1 := (unhide F729).c1; have y2 := (unhide F729).c2; have yf0 := (unhide F729).f0; have yf1 := (unhide F729).f1; have yf2 := (unhide F729).f2
          have HT1 := hide ((unhide HA29).st (unhide HL29) (.bool ab) (.string an) (.string ad))
          have HT2 := hide ((unhide HT1).st (unhide HL26) (.bool true) (.string bn) (.string bd))
          refine wpR_late (i := 6) (o := _) (by kernel_rfl) rfl rfl (by kernel_rfl) (fun K hK => ?_)
          go_simp
          refine hK _ _ ⟨⟨(unhide HT1).a.c0, (unhide HT1).a.c1⟩, ⟨(unhide HT1).b.c0, (unhide HT1).b.c1⟩⟩ ?_
          clear hK K
          refine wpR_late (i := 7) (o := _) (by kernel_rfl) rfl rfl (by kernel_rfl) (fun K hK => ?_)
          go_simp
          refine hK _ _ ⟨⟨(unhide HT2).a.c0, (unhide HT2).a.c1⟩, ⟨(unhide HT2).b.c0, (unhide HT2).b.c1⟩⟩ ?_
          clear hK K
          refine wpR_done (by kernel_rfl) ?_
          go_wp2_with fail
          go_meet
          exact ⟨q29, q26, rfl, rfl, qb_fin (unhide HA29) (unhide FN29) (unhide F729) hne (unhide HL29) (unhide HL26)⟩
        · go_simp
          have hb30 := albel W27 (.cells #[.bool false, .string ⟨#[]⟩, .string ⟨#[]⟩] 61)
          have HA30 := hide ((unhide HA27).later hb30)
          refine hK _ _ ⟨trivial, ⟨(unhide HA30).a.c0, (unhide HA30).a.c1⟩, ⟨(unhide HA30).b.c0, (unhide HA30).b.c1⟩⟩ ?_
          clear hK K
          have FN30 : Hid (FBox (W27.alloc (.cells #[.bool false, .string ⟨#[]⟩, .string ⟨#[]⟩] 61)) W27.heap.size (.bool false) (.string ⟨#[]⟩) (.string ⟨#[]⟩)) := fnew _ _ _ _
          have HL30 : Hid (w.heap.size + 1 + 1 < W27.heap.size) := (unhide HA27).r.lt
          have F730 := hide ((unhide F727).later hb30)
          have HNE : Hid (q26 < W27.heap.size) := (unhide F727).lt
          clear hb30
          obtain ⟨W30, hW30⟩ : ∃ W30, W30 = W27.alloc (.cells #[.bool false, .string ⟨#[]⟩, .string ⟨#[]⟩] 61) := ⟨_, rfl⟩
          obtain ⟨q30, hq30⟩ : ∃ q30, q30 = W27.heap.size := ⟨_, rfl⟩
          rw [← hW30] at HA30 FN30  F730 ⊢
          rw [← hq30] at FN30 HL30 HNE ⊢
          clear hW30 hq30
          refine wpR_op (i := 3) (o := _) (by kernel_rfl) rfl rfl (fun K hK => ?_)
          go_simp
          refine (unhide H62B _).mono ?_
          rintro e W31 ⟨rfl, hb31⟩
          have HA31 := hide ((unhide HA30).later hb31)
          have F631 := hide ((unhide FN30).later hb31)
          have F731 := hide ((unhide F730).later hb31)
          refine hK _ _ ⟨trivial, ⟨(unhide HA31).a.c0, (unhide HA31).a.c1⟩, ⟨(unhide HA31).b.c0, (unhide HA31).b.c1⟩⟩ ?_
          clear hK K hb31
          have hne : ¬ q30 = q26 := by have h0 := unhide HNE; omega
          have hne1 : ¬ q26 = q30 := by have h0 := unhide HNE; omega
          have x0 := (unhide F631).c0; have x1 := (unhide F631).c1; have x2 := (unhide F631).c2; have xf0 := (unhide F631).f0; have xf1 := (unhide F631).f1; have xf2 := (unhide F631).f2
          have y0 := (unhide F731).c0; have y1 := (unhide F731).c1; have y2 := (unhide F731).c2; have yf0 := (unhide F731).f0; have yf1 := (unhide F731).f1; have yf2 := (unhide F731).f2
          have HT1 := hide ((unhide HA31).st (unhide HL30) (.bool ab) (.string an) (.string ad))
          have HT2 := hide ((unhide HT1).st (unhide HL26) (.bool true) (.string bn) (.string bd))
          refine wpR_late (i := 6) (o := _) (by kernel_rfl) rfl rfl (by kernel_rfl) (fun K hK => ?_)
          go_simp
          refine hK _ _ ⟨⟨(unhide HT1).a.c0, (unhide HT1).a.c1⟩, ⟨(unhide HT1).b.c0, (unhide HT1).b.c1⟩⟩ ?_
          clear hK K
          refine wpR_late (i := 7) (o := _) (by kernel_rfl) rfl rfl (by kernel_rfl) (fun K hK => ?_)
          go_simp
          refine hK _ _ ⟨⟨(unhide HT2).a.c0, (unhide HT2).a.c1⟩, ⟨(unhide HT2).b.c0, (unhide HT2).b.c1⟩⟩ ?_
          clear hK K
          refine wpR_done (by kernel_rfl) ?_
          go_wp2_with fail
          go_meet
          exact ⟨q30, q26, rfl, rfl, qb_fin (unhide HA31) (unhide F631) (unhide F731) hne (unhide HL30) (unhide HL26)⟩
      · go_simp
        have hb32 := albel W26 (.cells #[.bool false, .string ⟨#[]⟩, .string ⟨#[]⟩] 61)
        have HA32 := hide ((unhide HA26).later hb32)
        refine hK _ _ ⟨trivial, ⟨(unhide HA32).a.c0, (unhide HA32).a.c1⟩, ⟨(unhide HA32).b.c0, (unhide HA32).b.c1⟩⟩ ?_
        clear hK K
        have FN32 : Hid (FBox (W26.alloc (.cells #[.bool false, .string ⟨#[]⟩, .string ⟨#[]⟩] 61)) W26.heap.size (.bool false) (.string ⟨#[]⟩) (.string ⟨#[]⟩)) := fnew _ _ _ _
        have HL32 : Hid (w.heap.size + 1 + 1 < W26.heap.size) := (unhide HA26).r.lt
        have F732 := hide ((unhide FN26).later hb32)
        have HNE : Hid (q26 < W26.heap.size) := (unhide FN26).lt
        clear hb32
        obtain ⟨W32, hW32⟩ : ∃ W32, W32 = W26.alloc (.cells #[.bool false, .string ⟨#[]⟩, .string ⟨#[]⟩] 61) := ⟨_, rfl⟩
        obtain ⟨q32, hq32⟩ : ∃ q32, q32 = W26.heap.size := ⟨_, rfl⟩
        rw [← hW32] at HA32 FN32  F732 ⊢
        rw [← hq32] at FN32 HL32 HNE ⊢
        clear hW32 hq32
        refine wpR_op (i := 1) (o := _) (by kernel_rfl) rfl rfl (fun K hK => ?_)
        go_simp
        refine (unhide H62A _).mono ?_
        rintro e W33 ⟨rfl, hb33⟩
        have HA33 := hide ((unhide HA32).later hb33)
        have F633 := hide ((unhide FN32).later hb33)
        have F733 := hide ((unhide F732).later hb33)
        refine hK _ _ ⟨trivial, ⟨(unhide HA33).a.c0, (unhide HA33).a.c1⟩, ⟨(unhide HA33).b.c0, (unhide HA33).b.c1⟩⟩ ?_
        clear hK K hb33
        refine wpR_op (i := 3) (o := _) (by kernel_rfl) rfl rfl (fun K hK => ?_)
        go_simp
        refine (unhide H62B _).mono ?_
        rintro e W34 ⟨rfl, hb34⟩
        have HA34 := hide ((unhide HA33).later hb34)
        have F634 := hide ((unhide F633).later hb34)
        have F734 := hide ((unhide F733).later hb34)
        refine hK _ _ ⟨trivial, ⟨(unhide HA34).a.c0, (unhide HA34).a.c1⟩, ⟨(unhide HA34).b.c0, (unhide HA34).b.c1⟩⟩ ?_
        clear hK K hb34
        have hne : ¬ q32 = q26 := by have h0 := unhide HNE; omega
        have hne1 : ¬ q26 = q32 := by have h0 := unhide HNE; omega
        have x0 := (unhide F634).c0; have x1 := (unhide F634).c1; have x2 := (unhide F634).c2; have xf0 := (unhide F634).f0; have xf1 := (unhide F634).f1; have xf2 := (unhide F634).f2
        have y0 := (unhide F734).c0; have y1 := (unhide F734).c1; have y2 := (unhide F734).c2; have yf0 := (unhide F734).f0; have yf1 := (unhide F734).f1; have yf2 := (unhide F734).f2
        have HT1 := hide ((unhide HA34).st (unhide HL32) (.bool ab) (.string an) (.string ad))
        have HT2 := hide ((unhide HT1).st (unhide HL26) (.bool true) (.string bn) (.string bd))
        refine wpR_late (i := 6) (o := _) (by kernel_rfl) rfl rfl (by kernel_rfl) (fun K hK => ?_)
        go_simp
        refine hK _ _ ⟨⟨(unhide HT1).a.c0, (unhide HT1).a.c1⟩, ⟨(unhide HT1).b.c0, (unhide HT1).b.c1⟩⟩ ?_
        clear hK K
        refine wpR_late (i := 7) (o := _) (by kernel_rfl) rfl rfl (by kernel_rfl) (fun K hK => ?_)
        go_simp
        refine hK _ _ ⟨⟨(unhide HT2).a.c0, (unhide HT2).a.c1⟩, ⟨(unhide HT2).b.c0, (unhide HT2).b.c1⟩⟩ ?_
        clear hK K
        refine wpR_done (by kernel_rfl) ?_
        go_wp2_with fail
        go_meet
        exact ⟨q32, q26, rfl, rfl, qb_fin (unhide HA34) (unhide F634) (unhide F734) hne (unhide HL32) (unhide HL26)⟩
  case rest =>
    obtain ⟨g6, g7, rfl, rfl, HQ⟩ := hcut
    have p0 := (unhide HQ).f.c0; have p1 := (unhide HQ).f.c1; have p2 := (unhide HQ).f.c2; have q0 := (unhide HQ).g.c0; have q1 := (unhide HQ).g.c1; have q2 := (unhide HQ).g.c2
    go_upto_region 6 with (go_at_call 66; go_must (refine (unhide H64 _).mono ?_; rintro e w4 ⟨rfl, hb4⟩; have HQ4 := hide ((unhide HQ).later hb4); clear hb4; clear p0 p1 p2 q0 q1 q2; have p0 := (unhide HQ4).f.c0; have p1 := (unhide HQ4).f.c1; have p2 := (unhide HQ4).f.c2; have q0 := (unhide HQ4).g.c0; have q1 := (unhide HQ4).g.c1; have q2 := (unhide HQ4).g.c2))
    go_upto_region 9 with fail
    go_upto_region 10 with (go_at_call 119; go_must (refine (unhide H117 _).mono ?_; rintro e w5 ⟨rfl, hb5⟩; have HQ5 := hide ((unhide HQ4).later hb5); clear hb5; clear p0 p1 p2 q0 q1 q2))
    go_wp2_with (go_at_call 76; go_must (refine (unhide H74 _).mono ?_; rintro e w6 ⟨rfl, hb6⟩; have HQ6 := hide ((unhide HQ5).later hb6); clear hb6; have r0 := (unhide HQ6).r.c0; have r1 := (unhide HQ6).r.c1; have rf0 := (unhide HQ6).r.f0; have rf1 := (unhide HQ6).r.f1))
    have hS := ((unhide HQ6).r).store (.string rn) (.string rd)
    have hb : Below w.heap.size w (store2 w6 (w.heap.size + 1 + 1) (.string rn) (.string rd)) := below_store2 ((unhide HQ6).below) (by omega) _ _
    have v0 := hS.c0; have v1 := hS.c1
    exact bodyPost_ret (v := .tuple #[.agg #[.string rn, .string rd], .int .i64 re]) (w := store2 w6 (w.heap.size + 1 + 1) (.string rn) (.string rd)) (by simp [results, Tryz.results56, go_sem, v0, v1]) rfl ⟨rfl, hb⟩

set_option maxRecDepth 100000 in
set_option maxHeartbeats 20000000 in
theorem refSimple_pos (n1 d1 n2 d2 : ByteArray) (an ad bn bd : ByteArray) (k : Int) (w : World)
    (h18a : ∀ W, Calls Tryz.prog 20 #[.agg #[.string n1, .string d1]] W fun r w' => r = .returned (.bool true) ∧ Below W.heap.size W w')
    (h18b : ∀ W, Calls Tryz.prog 20 #[.agg #[.string n2, .string d2]] W fun r w' => r = .returned (.bool true) ∧ Below W.heap.size W w')
    (h62a : ∀ W, Calls Tryz.prog 64 #[.agg #[.string n1, .string d1]] W fun r w' => r = .returned (.agg #[.bool false, .string an, .string ad]) ∧ Below W.heap.size W w')
    (h62b : ∀ W, Calls Tryz.prog 64 #[.agg #[.string n2, .string d2]] W fun r w' => r = .returned (.agg #[.bool false, .string bn, .string bd]) ∧ Below W.heap.size W w')
    (h64 : ∀ W, Calls Tryz.prog 66 #[.agg #[.bool false, .string an, .string ad], .agg #[.bool false, .string bn, .string bd]] W fun r w' => r = .returned (.int .i64 k) ∧ Below W.heap.size W w') (hk : ¬ 0 < k) (hz : (an.toList == [48]) = false) (tn tm rn rd : ByteArray) (re : Int)
    (h117 : ∀ W, Calls Tryz.prog 119 #[.string an, .string ad, .string bn, .string bd] W fun r w' => r = .returned (.tuple #[.string tn, .string tm]) ∧ Below W.heap.size W w')
    (h74 : ∀ W, Calls Tryz.prog 76 #[.agg #[.bool false, .string tn, .string tm]] W fun r w' => r = .returned (.tuple #[.agg #[.string rn, .string rd], .int .i64 re]) ∧ Below W.heap.size W w') : Ans 56 #[.agg #[.string n1, .string d1], .agg #[.string n2, .string d2]] w rn rd re := by
  have H117 := hide h117; have H74 := hide h74
  clear h117 h74
  unfold Ans
  obtain ⟨V, hV⟩ : ∃ V, V = ((w.alloc (.cells #[.string n1, .string d1] 23)).alloc (.cells #[.string n2, .string d2] 23)).alloc (.cells #[.string ⟨#[]⟩, .string ⟨#[]⟩] 23) := ⟨_, rfl⟩
  have HS0 : Hid (A3 w V n1 d1 n2 d2) := by
    rw [hV]
    exact ⟨⟨by simp [go_sem], by simp [go_sem], by simp [go_sem], by simp [go_sem]⟩, ⟨by simp [go_sem], by simp [go_sem], by simp [go_sem], by simp [go_sem]⟩, ⟨by simp [go_sem], by simp [go_sem], by simp [go_sem], by simp [go_sem]⟩, (((Below.refl _ _).alloc (Nat.le_refl _) _).alloc (by simp) _).alloc (by simp; omega) _⟩
  have HV := hide hV
  have H18A := hide h18a; have H18B := hide h18b; have H62A := hide h62a; have H62B := hide h62b; have H64 := hide h64
  clear h18a h18b h62a h62b h64
  go_enter Tryz.func56, Tryz.ntmps56
  go_upto_region 1 with fail
  rw [← unhide HV]
  clear hV HV
  have t0 := (unhide HS0).a.c0; have t1 := (unhide HS0).a.c1; have t2 := (unhide HS0).b.c0; have t3 := (unhide HS0).b.c1
  go_upto_region 3 with (first
    | (go_at_call_of 20 (Value.agg #[Value.string n1, Value.string d1]); go_must (refine (unhide H18A _).mono ?_; rintro e w1 ⟨rfl, hb1⟩; have HS1 := hide ((unhide HS0).later hb1); clear hb1 t0 t1 t2 t3; have t0 := (unhide HS1).a.c0; have t1 := (unhide HS1).a.c1; have t2 := (unhide HS1).b.c0; have t3 := (unhide HS1).b.c1))
    | (go_at_call_of 20 (Value.agg #[Value.string n2, Value.string d2]); go_must (refine (unhide H18B _).mono ?_; rintro e V2 ⟨rfl, hb2⟩; have HS2 := hide ((unhide HS1).later hb2); clear hb2 t0 t1 t2 t3; have t0 := (unhide HS2).a.c0; have t1 := (unhide HS2).a.c1; have t2 := (unhide HS2).b.c0; have t3 := (unhide HS2).b.c1)))
  clear HS0 HS1 H18A H18B
  have lv := (unhide HS2).r.lt
  have lv0 := (unhide HS2).a.lt
  have lv1 := (unhide HS2).b.lt
  go_cut [6, 7] from 8 (fun s6 s7 wx => ∃ g6 g7, s6 = .pointer (some ⟨g6, 0, none⟩) ∧ s7 = .pointer (some ⟨g7, 0, none⟩) ∧ Hid (QB w wx g6 g7 false an ad false bn bd))
  case first =>
    have HA0 : Hid (A3 w V2.drew n1 d1 n2 d2) := (unhide HS2).later (Below.refl _ _).drew
    refine region_reads 6 (fun _ => True) (fun W => (W.cell? ⟨w.heap.size, 0, none⟩ = some (.string n1) ∧ W.cell? ⟨w.heap.size, 1, none⟩ = some (.string d1)) ∧ (W.cell? ⟨w.heap.size + 1, 0, none⟩ = some (.string n2) ∧ W.cell? ⟨w.heap.size + 1, 1, none⟩ = some (.string d2))) 8 rfl (by kernel_rfl) ?_
    obtain ⟨W0, hW0⟩ : ∃ W0, W0 = V2.drew := ⟨_, rfl⟩
    rw [← hW0] at HA0 ⊢
    clear hW0 t0 t1 t2 t3 lv lv0 lv1
    have HC0 : Hid ((W0.cell? ⟨w.heap.size, 0, none⟩ = some (.string n1) ∧ W0.cell? ⟨w.heap.size, 1, none⟩ = some (.string d1)) ∧ (W0.cell? ⟨w.heap.size + 1, 0, none⟩ = some (.string n2) ∧ W0.cell? ⟨w.heap.size + 1, 1, none⟩ = some (.string d2))) := ⟨⟨(unhide HA0).a.c0, (unhide HA0).a.c1⟩, ⟨(unhide HA0).b.c0, (unhide HA0).b.c1⟩⟩
    refine wpR_take7 (i := 0) (oi := _) (v := .agg #[.string n1, .string d1]) rfl (by kernel_rfl) (by kernel_rfl) (by kernel_rfl) (by kernel_rfl) (fun _ _ _ h => h) (Or.inl ⟨by rfl, ?_⟩) ⟨trivial, unhide HC0⟩ ?_
    · intro W hW
      go_split_ands
      go_simp
    refine wpR_take7 (i := 2) (oi := _) (v := .agg #[.string n2, .string d2]) rfl (by kernel_rfl) (by kernel_rfl) (by kernel_rfl) (by kernel_rfl) (fun _ _ _ h => h) (Or.inl ⟨by rfl, ?_⟩) ⟨trivial, unhide HC0⟩ ?_
    · intro W hW
      go_split_ands
      go_simp
    refine wpR_three (i := 1) (j := 4) (m := 5) (by kernel_rfl) rfl rfl rfl rfl rfl rfl (fun K hK => ?_) (fun K hK => ?_) (fun K hK => ?_) 
    · go_simp
      refine (unhide H62A _).mono ?_
      rintro e W1 ⟨rfl, hb1⟩
      have HA1 := hide ((unhide HA0).later hb1)
      refine hK _ _ ⟨trivial, ⟨(unhide HA1).a.c0, (unhide HA1).a.c1⟩, ⟨(unhide HA1).b.c0, (unhide HA1).b.c1⟩⟩ ?_
      clear hK K hb1
      refine wpR_three (i := 3) (j := 4) (m := 5) (by kernel_rfl) rfl rfl rfl rfl rfl rfl (fun K hK => ?_) (fun K hK => ?_) (fun K hK => ?_) 
      · go_simp
        refine (unhide H62B _).mono ?_
        rintro e W2 ⟨rfl, hb2⟩
        have HA2 := hide ((unhide HA1).later hb2)
        refine hK _ _ ⟨trivial, ⟨(unhide HA2).a.c0, (unhide HA2).a.c1⟩, ⟨(unhide HA2).b.c0, (unhide HA2).b.c1⟩⟩ ?_
        clear hK K hb2
        refine wpR_two (i := 4) (j := 5) (by kernel_rfl) rfl rfl rfl rfl (fun K hK => ?_) (fun K hK => ?_) 
        · go_simp
          have hb3 := albel W2 (.cells #[.bool false, .string ⟨#[]⟩, .string ⟨#[]⟩] 61)
          have HA3 := hide ((unhide HA2).later hb3)
          refine hK _ _ ⟨trivial, ⟨(unhide HA3).a.c0, (unhide HA3).a.c1⟩, ⟨(unhide HA3).b.c0, (unhide HA3).b.c1⟩⟩ ?_
          clear hK K
          have FN3 : Hid (FBox (W2.alloc (.cells #[.bool false, .string ⟨#[]⟩, .string ⟨#[]⟩] 61)) W2.heap.size (.bool false) (.string ⟨#[]⟩) (.string ⟨#[]⟩)) := fnew _ _ _ _
          have HL3 : Hid (w.heap.size + 1 + 1 < W2.heap.size) := (unhide HA2).r.lt
          clear hb3
          obtain ⟨W3, hW3⟩ : ∃ W3, W3 = W2.alloc (.cells #[.bool false, .string ⟨#[]⟩, .string ⟨#[]⟩] 61) := ⟨_, rfl⟩
          obtain ⟨q3, hq3⟩ : ∃ q3, q3 = W2.heap.size := ⟨_, rfl⟩
          rw [← hW3] at HA3 FN3   ⊢
          rw [← hq3] at FN3 HL3  ⊢
          clear hW3 hq3
          refine wpR_op (i := 5) (o := _) (by kernel_rfl) rfl rfl (fun K hK => ?_)
          go_simp
          have hb4 := albel W3 (.cells #[.bool false, .string ⟨#[]⟩, .string ⟨#[]⟩] 61)
          have HA4 := hide ((unhide HA3).later hb4)
          refine hK _ _ ⟨trivial, ⟨(unhide HA4).a.c0, (unhide HA4).a.c1⟩, ⟨(unhide HA4).b.c0, (unhide HA4).b.c1⟩⟩ ?_
          clear hK K
          have FN4 : Hid (FBox (W3.alloc (.cells #[.bool false, .string ⟨#[]⟩, .string ⟨#[]⟩] 61)) W3.heap.size (.bool false) (.string ⟨#[]⟩) (.string ⟨#[]⟩)) := fnew _ _ _ _
          have HL4 : Hid (w.heap.size + 1 + 1 < W3.heap.size) := (unhide HA3).r.lt
          have F64 := hide ((unhide FN3).later hb4)
          have HNE : Hid (q3 < W3.heap.size) := (unhide FN3).lt
          clear hb4
          obtain ⟨W4, hW4⟩ : ∃ W4, W4 = W3.alloc (.cells #[.bool false, .string ⟨#[]⟩, .string ⟨#[]⟩] 61) := ⟨_, rfl⟩
          obtain ⟨q4, hq4⟩ : ∃ q4, q4 = W3.heap.size := ⟨_, rfl⟩
          rw [← hW4] at HA4 FN4 F64  ⊢
          rw [← hq4] at FN4 HL4 HNE ⊢
          clear hW4 hq4
          have hne : ¬ q3 = q4 := by have h0 := unhide HNE; omega
          have hne1 : ¬ q4 = q3 := by have h0 := unhide HNE; omega
          have x0 := (unhide F64).c0; have x1 := (unhide F64).c1; have x2 := (unhide F64).c2; have xf0 := (unhide F64).f0; have xf1 := (unhide F64).f1; have xf2 := (unhide F64).f2
          have y0 := (unhide FN4).c0; have y1 := (unhide FN4).c1; have y2 := (unhide FN4).c2; have yf0 := (unhide FN4).f0; have yf1 := (unhide FN4).f1; have yf2 := (unhide FN4).f2
          have HT1 := hide ((unhide HA4).st (unhide HL3) (.bool false) (.string an) (.string ad))
          have HT2 := hide ((unhide HT1).st (unhide HL4) (.bool false) (.string bn) (.string bd))
          refine wpR_late (i := 6) (o := _) (by kernel_rfl) rfl rfl (by kernel_rfl) (fun K hK => ?_)
          go_simp
          refine hK _ _ ⟨⟨(unhide HT1).a.c0, (unhide HT1).a.c1⟩, ⟨(unhide HT1).b.c0, (unhide HT1).b.c1⟩⟩ ?_
          clear hK K
          refine wpR_late (i := 7) (o := _) (by kernel_rfl) rfl rfl (by kernel_rfl) (fun K hK => ?_)
          go_simp
          refine hK _ _ ⟨⟨(unhide HT2).a.c0, (unhide HT2).a.c1⟩, ⟨(unhide HT2).b.c0, (unhide HT2).b.c1⟩⟩ ?_
          clear hK K
          refine wpR_done (by kernel_rfl) ?_
          go_wp2_with fail
          go_meet
          exact ⟨q3, q4, rfl, rfl, qb_fin (unhide HA4) (unhide F64) (unhide FN4) hne (unhide HL3) (unhide HL4)⟩
        · go_simp
          have hb5 := albel W2 (.cells #[.bool false, .string ⟨#[]⟩, .string ⟨#[]⟩] 61)
          have HA5 := hide ((unhide HA2).later hb5)
          refine hK _ _ ⟨trivial, ⟨(unhide HA5).a.c0, (unhide HA5).a.c1⟩, ⟨(unhide HA5).b.c0, (unhide HA5).b.c1⟩⟩ ?_
          clear hK K
          have FN5 : Hid (FBox (W2.alloc (.cells #[.bool false, .string ⟨#[]⟩, .string ⟨#[]⟩] 61)) W2.heap.size (.bool false) (.string ⟨#[]⟩) (.string ⟨#[]⟩)) := fnew _ _ _ _
          have HL5 : Hid (w.heap.size + 1 + 1 < W2.heap.size) := (unhide HA2).r.lt
          clear hb5
          obtain ⟨W5, hW5⟩ : ∃ W5, W5 = W2.alloc (.cells #[.bool false, .string ⟨#[]⟩, .string ⟨#[]⟩] 61) := ⟨_, rfl⟩
          obtain ⟨q5, hq5⟩ : ∃ q5, q5 = W2.heap.size := ⟨_, rfl⟩
          rw [← hW5] at HA5 FN5   ⊢
          rw [← hq5] at FN5 HL5  ⊢
          clear hW5 hq5
          refine wpR_op (i := 4) (o := _) (by kernel_rfl) rfl rfl (fun K hK => ?_)
          go_simp
          have hb6 := albel W5 (.cells #[.bool false, .string ⟨#[]⟩, .string ⟨#[]⟩] 61)
          have HA6 := hide ((unhide HA5).later hb6)
          refine hK _ _ ⟨trivial, ⟨(unhide HA6).a.c0, (unhide HA6).a.c1⟩, ⟨(unhide HA6).b.c0, (unhide HA6).b.c1⟩⟩ ?_
          clear hK K
          have FN6 : Hid (FBox (W5.alloc (.cells #[.bool false, .string ⟨#[]⟩, .string ⟨#[]⟩] 61)) W5.heap.size (.bool false) (.string ⟨#[]⟩) (.string ⟨#[]⟩)) := fnew _ _ _ _
          have HL6 : Hid (w.heap.size + 1 + 1 < W5.heap.size) := (unhide HA5).r.lt
          have F76 := hide ((unhide FN5).later hb6)
          have HNE : Hid (q5 < W5.heap.size) := (unhide FN5).lt
          clear hb6
          obtain ⟨W6, hW6⟩ : ∃ W6, W6 = W5.alloc (.cells #[.bool false, .string ⟨#[]⟩, .string ⟨#[]⟩] 61) := ⟨_, rfl⟩
          obtain ⟨q6, hq6⟩ : ∃ q6, q6 = W5.heap.size := ⟨_, rfl⟩
          rw [← hW6] at HA6 FN6  F76 ⊢
          rw [← hq6] at FN6 HL6 HNE ⊢
          clear hW6 hq6
          have hne : ¬ q6 = q5 := by have h0 := unhide HNE; omega
          have hne1 : ¬ q5 = q6 := by have h0 := unhide HNE; omega
          have x0 := (unhide FN6).c0; have x1 := (unhide FN6).c1; have x2 := (unhide FN6).c2; have xf0 := (unhide FN6).f0; have xf1 := (unhide FN6).f1; have xf2 := (unhide FN6).f2
          have y0 := (unhide F76).c0; have y1 := (unhide F76).c1; have y2 := (unhide F76).c2; have yf0 := (unhide F76).f0; have yf1 := (unhide F76).f1; have yf2 := (unhide F76).f2
          have HT1 := hide ((unhide HA6).st (unhide HL6) (.bool false) (.string an) (.string ad))
          have HT2 := hide ((unhide HT1).st (unhide HL5) (.bool false) (.string bn) (.string bd))
          refine wpR_late (i := 6) (o := _) (by kernel_rfl) rfl rfl (by kernel_rfl) (fun K hK => ?_)
          go_simp
          refine hK _ _ ⟨⟨(unhide HT1).a.c0, (unhide HT1).a.c1⟩, ⟨(unhide HT1).b.c0, (unhide HT1).b.c1⟩⟩ ?_
          clear hK K
          refine wpR_late (i := 7) (o := _) (by kernel_rfl) rfl rfl (by kernel_rfl) (fun K hK => ?_)
          go_simp
          refine hK _ _ ⟨⟨(unhide HT2).a.c0, (unhide HT2).a.c1⟩, ⟨(unhide HT2).b.c0, (unhide HT2).b.c1⟩⟩ ?_
          clear hK K
          refine wpR_done (by kernel_rfl) ?_
          go_wp2_with fail
          go_meet
          exact ⟨q6, q5, rfl, rfl, qb_fin (unhide HA6) (unhide FN6) (unhide F76) hne (unhide HL6) (unhide HL5)⟩
      · go_simp
        have hb7 := albel W1 (.cells #[.bool false, .string ⟨#[]⟩, .string ⟨#[]⟩] 61)
        have HA7 := hide ((unhide HA1).later hb7)
        refine hK _ _ ⟨trivial, ⟨(unhide HA7).a.c0, (unhide HA7).a.c1⟩, ⟨(unhide HA7).b.c0, (unhide HA7).b.c1⟩⟩ ?_
        clear hK K
        have FN7 : Hid (FBox (W1.alloc (.cells #[.bool false, .string ⟨#[]⟩, .string ⟨#[]⟩] 61)) W1.heap.size (.bool false) (.string ⟨#[]⟩) (.string ⟨#[]⟩)) := fnew _ _ _ _
        have HL7 : Hid (w.heap.size + 1 + 1 < W1.heap.size) := (unhide HA1).r.lt
        clear hb7
        obtain ⟨W7, hW7⟩ : ∃ W7, W7 = W1.alloc (.cells #[.bool false, .string ⟨#[]⟩, .string ⟨#[]⟩] 61) := ⟨_, rfl⟩
        obtain ⟨q7, hq7⟩ : ∃ q7, q7 = W1.heap.size := ⟨_, rfl⟩
        rw [← hW7] at HA7 FN7   ⊢
        rw [← hq7] at FN7 HL7  ⊢
        clear hW7 hq7
        refine wpR_two (i := 3) (j := 5) (by kernel_rfl) rfl rfl rfl rfl (fun K hK => ?_) (fun K hK => ?_) 
        · go_simp
          refine (unhide H62B _).mono ?_
          rintro e W8 ⟨rfl, hb8⟩
          have HA8 := hide ((unhide HA7).later hb8)
          have F68 := hide ((unhide FN7).later hb8)
          refine hK _ _ ⟨trivial, ⟨(unhide HA8).a.c0, (unhide HA8).a.c1⟩, ⟨(unhide HA8).b.c0, (unhide HA8).b.c1⟩⟩ ?_
          clear hK K hb8
          refine wpR_op (i := 5) (o := _) (by kernel_rfl) rfl rfl (fun K hK => ?_)
          go_simp
          have hb9 := albel W8 (.cells #[.bool false, .string ⟨#[]⟩, .string ⟨#[]⟩] 61)
          have HA9 := hide ((unhide HA8).later hb9)
          refine hK _ _ ⟨trivial, ⟨(unhide HA9).a.c0, (unhide HA9).a.c1⟩, ⟨(unhide HA9).b.c0, (unhide HA9).b.c1⟩⟩ ?_
          clear hK K
          have FN9 : Hid (FBox (W8.alloc (.cells #[.bool false, .string ⟨#[]⟩, .string ⟨#[]⟩] 61)) W8.heap.size (.bool false) (.string ⟨#[]⟩) (.string ⟨#[]⟩)) := fnew _ _ _ _
          have HL9 : Hid (w.heap.size + 1 + 1 < W8.heap.size) := (unhide HA8).r.lt
          have F69 := hide ((unhide F68).later hb9)
          have HNE : Hid (q7 < W8.heap.size) := (unhide F68).lt
          clear hb9
          obtain ⟨W9, hW9⟩ : ∃ W9, W9 = W8.alloc (.cells #[.bool false, .string ⟨#[]⟩, .string ⟨#[]⟩] 61) := ⟨_, rfl⟩
          obtain ⟨q9, hq9⟩ : ∃ q9, q9 = W8.heap.size := ⟨_, rfl⟩
          rw [← hW9] at HA9 FN9 F69  ⊢
          rw [← hq9] at FN9 HL9 HNE ⊢
          clear hW9 hq9
          have hne : ¬ q7 = q9 := by have h0 := unhide HNE; omega
          have hne1 : ¬ q9 = q7 := by have h0 := unhide HNE; omega
          have x0 := (unhide F69).c0; have x1 := (unhide F69).c1; have x2 := (unhide F69).c2; have xf0 := (unhide F69).f0; have xf1 := (unhide F69).f1; have xf2 := (unhide F69).f2
          have y0 := (unhide FN9).c0; have y1 := (unhide FN9).c1; have y2 := (unhide FN9).c2; have yf0 := (unhide FN9).f0; have yf1 := (unhide FN9).f1; have yf2 := (unhide FN9).f2
          have HT1 := hide ((unhide HA9).st (unhide HL7) (.bool false) (.string an) (.string ad))
          have HT2 := hide ((unhide HT1).st (unhide HL9) (.bool false) (.string bn) (.string bd))
          refine wpR_late (i := 6) (o := _) (by kernel_rfl) rfl rfl (by kernel_rfl) (fun K hK => ?_)
          go_simp
          refine hK _ _ ⟨⟨(unhide HT1).a.c0, (unhide HT1).a.c1⟩, ⟨(unhide HT1).b.c0, (unhide HT1).b.c1⟩⟩ ?_
          clear hK K
          refine wpR_late (i := 7) (o := _) (by kernel_rfl) rfl rfl (by kernel_rfl) (fun K hK => ?_)
          go_simp
          refine hK _ _ ⟨⟨(unhide HT2).a.c0, (unhide HT2).a.c1⟩, ⟨(unhide HT2).b.c0, (unhide HT2).b.c1⟩⟩ ?_
          clear hK K
          refine wpR_done (by kernel_rfl) ?_
          go_wp2_with fail
          go_meet
          exact ⟨q7, q9, rfl, rfl, qb_fin (unhide HA9) (unhide F69) (unhide FN9) hne (unhide HL7) (unhide HL9)⟩
        · go_simp
          have hb10 := albel W7 (.cells #[.bool false, .string ⟨#[]⟩, .string ⟨#[]⟩] 61)
          have HA10 := hide ((unhide HA7).later hb10)
          refine hK _ _ ⟨trivial, ⟨(unhide HA10).a.c0, (unhide HA10).a.c1⟩, ⟨(unhide HA10).b.c0, (unhide HA10).b.c1⟩⟩ ?_
          clear hK K
          have FN10 : Hid (FBox (W7.alloc (.cells #[.bool false, .string ⟨#[]⟩, .string ⟨#[]⟩] 61)) W7.heap.size (.bool false) (.string ⟨#[]⟩) (.string ⟨#[]⟩)) := fnew _ _ _ _
          have HL10 : Hid (w.heap.size + 1 + 1 < W7.heap.size) := (unhide HA7).r.lt
          have F610 := hide ((unhide FN7).later hb10)
          have HNE : Hid (q7 < W7.heap.size) := (unhide FN7).lt
          clear hb10
          obtain ⟨W10, hW10⟩ : ∃ W10, W10 = W7.alloc (.cells #[.bool false, .string ⟨#[]⟩, .string ⟨#[]⟩] 61) := ⟨_, rfl⟩
          obtain ⟨q10, hq10⟩ : ∃ q10, q10 = W7.heap.size := ⟨_, rfl⟩
          rw [← hW10] at HA10 FN10 F610  ⊢
          rw [← hq10] at FN10 HL10 HNE ⊢
          clear hW10 hq10
          refine wpR_op (i := 3) (o := _) (by kernel_rfl) rfl rfl (fun K hK => ?_)
          go_simp
          refine (unhide H62B _).mono ?_
          rintro e W11 ⟨rfl, hb11⟩
          have HA11 := hide ((unhide HA10).later hb11)
          have F611 := hide ((unhide F610).later hb11)
          have F711 := hide ((unhide FN10).later hb11)
          refine hK _ _ ⟨trivial, ⟨(unhide HA11).a.c0, (unhide HA11).a.c1⟩, ⟨(unhide HA11).b.c0, (unhide HA11).b.c1⟩⟩ ?_
          clear hK K hb11
          have hne : ¬ q7 = q10 := by have h0 := unhide HNE; omega
          have hne1 : ¬ q10 = q7 := by have h0 := unhide HNE; omega
          have x0 := (unhide F611).c0; have x1 := (unhide F611).c1; have x2 := (unhide F611).c2; have xf0 := (unhide F611).f0; have xf1 := (unhide F611).f1; have xf2 := (unhide F611).f2
          have y0 := (unhide F711).c0; have y1 := (unhide F711).c1; have y2 := (unhide F711).c2; have yf0 := (unhide F711).f0; have yf1 := (unhide F711).f1; have yf2 := (unhide F711).f2
          have HT1 := hide ((unhide HA11).st (unhide HL7) (.bool false) (.string an) (.string ad))
          have HT2 := hide ((unhide HT1).st (unhide HL10) (.bool false) (.string bn) (.string bd))
          refine wpR_late (i := 6) (o := _) (by kernel_rfl) rfl rfl (by kernel_rfl) (fun K hK => ?_)
          go_simp
          refine hK _ _ ⟨⟨(unhide HT1).a.c0, (unhide HT1).a.c1⟩, ⟨(unhide HT1).b.c0, (unhide HT1).b.c1⟩⟩ ?_
          clear hK K
          refine wpR_late (i := 7) (o := _) (by kernel_rfl) rfl rfl (by kernel_rfl) (fun K hK => ?_)
          go_simp
          refine hK _ _ ⟨⟨(unhide HT2).a.c0, (unhide HT2).a.c1⟩, ⟨(unhide HT2).b.c0, (unhide HT2).b.c1⟩⟩ ?_
          clear hK K
          refine wpR_done (by kernel_rfl) ?_
          go_wp2_with fail
          go_meet
          exact ⟨q7, q10, rfl, rfl, qb_fin (unhide HA11) (unhide F611) (unhide F711) hne (unhide HL7) (unhide HL10)⟩
      · go_simp
        have hb12 := albel W1 (.cells #[.bool false, .string ⟨#[]⟩, .string ⟨#[]⟩] 61)
        have HA12 := hide ((unhide HA1).later hb12)
        refine hK _ _ ⟨trivial, ⟨(unhide HA12).a.c0, (unhide HA12).a.c1⟩, ⟨(unhide HA12).b.c0, (unhide HA12).b.c1⟩⟩ ?_
        clear hK K
        have FN12 : Hid (FBox (W1.alloc (.cells #[.bool false, .string ⟨#[]⟩, .string ⟨#[]⟩] 61)) W1.heap.size (.bool false) (.string ⟨#[]⟩) (.string ⟨#[]⟩)) := fnew _ _ _ _
        have HL12 : Hid (w.heap.size + 1 + 1 < W1.heap.size) := (unhide HA1).r.lt
        clear hb12
        obtain ⟨W12, hW12⟩ : ∃ W12, W12 = W1.alloc (.cells #[.bool false, .string ⟨#[]⟩, .string ⟨#[]⟩] 61) := ⟨_, rfl⟩
        obtain ⟨q12, hq12⟩ : ∃ q12, q12 = W1.heap.size := ⟨_, rfl⟩
        rw [← hW12] at HA12 FN12   ⊢
        rw [← hq12] at FN12 HL12  ⊢
        clear hW12 hq12
        refine wpR_two (i := 3) (j := 4) (by kernel_rfl) rfl rfl rfl rfl (fun K hK => ?_) (fun K hK => ?_) 
        · go_simp
          refine (unhide H62B _).mono ?_
          rintro e W13 ⟨rfl, hb13⟩
          have HA13 := hide ((unhide HA12).later hb13)
          have F713 := hide ((unhide FN12).later hb13)
          refine hK _ _ ⟨trivial, ⟨(unhide HA13).a.c0, (unhide HA13).a.c1⟩, ⟨(unhide HA13).b.c0, (unhide HA13).b.c1⟩⟩ ?_
          clear hK K hb13
          refine wpR_op (i := 4) (o := _) (by kernel_rfl) rfl rfl (fun K hK => ?_)
          go_simp
          have hb14 := albel W13 (.cells #[.bool false, .string ⟨#[]⟩, .string ⟨#[]⟩] 61)
          have HA14 := hide ((unhide HA13).later hb14)
          refine hK _ _ ⟨trivial, ⟨(unhide HA14).a.c0, (unhide HA14).a.c1⟩, ⟨(unhide HA14).b.c0, (unhide HA14).b.c1⟩⟩ ?_
          clear hK K
          have FN14 : Hid (FBox (W13.alloc (.cells #[.bool false, .string ⟨#[]⟩, .string ⟨#[]⟩] 61)) W13.heap.size (.bool false) (.string ⟨#[]⟩) (.string ⟨#[]⟩)) := fnew _ _ _ _
          have HL14 : Hid (w.heap.size + 1 + 1 < W13.heap.size) := (unhide HA13).r.lt
          have F714 := hide ((unhide F713).later hb14)
          have HNE : Hid (q12 < W13.heap.size) := (unhide F713).lt
          clear hb14
          obtain ⟨W14, hW14⟩ : ∃ W14, W14 = W13.alloc (.cells #[.bool false, .string ⟨#[]⟩, .string ⟨#[]⟩] 61) := ⟨_, rfl⟩
          obtain ⟨q14, hq14⟩ : ∃ q14, q14 = W13.heap.size := ⟨_, rfl⟩
          rw [← hW14] at HA14 FN14  F714 ⊢
          rw [← hq14] at FN14 HL14 HNE ⊢
          clear hW14 hq14
          have hne : ¬ q14 = q12 := by have h0 := unhide HNE; omega
          have hne1 : ¬ q12 = q14 := by have h0 := unhide HNE; omega
          have x0 := (unhide FN14).c0; have x1 := (unhide FN14).c1; have x2 := (unhide FN14).c2; have xf0 := (unhide FN14).f0; have xf1 := (unhide FN14).f1; have xf2 := (unhide FN14).f2
          have y0 := (unhide F714).c0; have y1 := (unhide F714).c1; have y2 := (unhide F714).c2; have yf0 := (unhide F714).f0; have yf1 := (unhide F714).f1; have yf2 := (unhide F714).f2
          have HT1 := hide ((unhide HA14).st (unhide HL14) (.bool false) (.string an) (.string ad))
          have HT2 := hide ((unhide HT1).st (unhide HL12) (.bool false) (.string bn) (.string bd))
          refine wpR_late (i := 6) (o := _) (by kernel_rfl) rfl rfl (by kernel_rfl) (fun K hK => ?_)
          go_simp
          refine hK _ _ ⟨⟨(unhide HT1).a.c0, (unhide HT1).a.c1⟩, ⟨(unhide HT1).b.c0, (unhide HT1).b.c1⟩⟩ ?_
          clear hK K
          refine wpR_late (i := 7) (o := _) (by kernel_rfl) rfl rfl (by kernel_rfl) (fun K hK => ?_)
          go_simp
          refine hK _ _ ⟨⟨(unhide HT2).a.c0, (unhide HT2).a.c1⟩, ⟨(unhide HT2).b.c0, (unhide HT2).b.c1⟩⟩ ?_
          clear hK K
          refine wpR_done (by kernel_rfl) ?_
          go_wp2_with fail
          go_meet
          exact ⟨q14, q12, rfl, rfl, qb_fin (unhide HA14) (unhide FN14) (unhide F714) hne (unhide HL14) (unhide HL12)⟩
        · go_simp
          have hb15 := albel W12 (.cells #[.bool false, .string ⟨#[]⟩, .string ⟨#[]⟩] 61)
          have HA15 := hide ((unhide HA12).later hb15)
          refine hK _ _ ⟨trivial, ⟨(unhide HA15).a.c0, (unhide HA15).a.c1⟩, ⟨(unhide HA15).b.c0, (unhide HA15).b.c1⟩⟩ ?_
          clear hK K
          have FN15 : Hid (FBox (W12.alloc (.cells #[.bool false, .string ⟨#[]⟩, .string ⟨#[]⟩] 61)) W12.heap.size (.bool false) (.string ⟨#[]⟩) (.string ⟨#[]⟩)) := fnew _ _ _ _
          have HL15 : Hid (w.heap.size + 1 + 1 < W12.heap.size) := (unhide HA12).r.lt
          have F715 := hide ((unhide FN12).later hb15)
          have HNE : Hid (q12 < W12.heap.size) := (unhide FN12).lt
          clear hb15
          obtain ⟨W15, hW15⟩ : ∃ W15, W15 = W12.alloc (.cells #[.bool false, .string ⟨#[]⟩, .string ⟨#[]⟩] 61) := ⟨_, rfl⟩
          obtain ⟨q15, hq15⟩ : ∃ q15, q15 = W12.heap.size := ⟨_, rfl⟩
          rw [← hW15] at HA15 FN15  F715 ⊢
          rw [← hq15] at FN15 HL15 HNE ⊢
          clear hW15 hq15
          refine wpR_op (i := 3) (o := _) (by kernel_rfl) rfl rfl (fun K hK => ?_)
          go_simp
          refine (unhide H62B _).mono ?_
          rintro e W16 ⟨rfl, hb16⟩
          have HA16 := hide ((unhide HA15).later hb16)
          have F616 := hide ((unhide FN15).later hb16)
          have F716 := hide ((unhide F715).later hb16)
          refine hK _ _ ⟨trivial, ⟨(unhide HA16).a.c0, (unhide HA16).a.c1⟩, ⟨(unhide HA16).b.c0, (unhide HA16).b.c1⟩⟩ ?_
          clear hK K hb16
          have hne : ¬ q15 = q12 := by have h0 := unhide HNE; omega
          have hne1 : ¬ q12 = q15 := by have h0 := unhide HNE; omega
          have x0 := (unhide F616).c0; have x1 := (unhide F616).c1; have x2 := (unhide F616).c2; have xf0 := (unhide F616).f0; have xf1 := (unhide F616).f1; have xf2 := (unhide F616).f2
          have y0 := (unhide F716).c0; have y1 := (unhide F716).c1; have y2 := (unhide F716).c2; have yf0 := (unhide F716).f0; have yf1 := (unhide F716).f1; have yf2 := (unhide F716).f2
          have HT1 := hide ((unhide HA16).st (unhide HL15) (.bool false) (.string an) (.string ad))
          have HT2 := hide ((unhide HT1).st (unhide HL12) (.bool false) (.string bn) (.string bd))
          refine wpR_late (i := 6) (o := _) (by kernel_rfl) rfl rfl (by kernel_rfl) (fun K hK => ?_)
          go_simp
          refine hK _ _ ⟨⟨(unhide HT1).a.c0, (unhide HT1).a.c1⟩, ⟨(unhide HT1).b.c0, (unhide HT1).b.c1⟩⟩ ?_
          clear hK K
          refine wpR_late (i := 7) (o := _) (by kernel_rfl) rfl rfl (by kernel_rfl) (fun K hK => ?_)
          go_simp
          refine hK _ _ ⟨⟨(unhide HT2).a.c0, (unhide HT2).a.c1⟩, ⟨(unhide HT2).b.c0, (unhide HT2).b.c1⟩⟩ ?_
          clear hK K
          refine wpR_done (by kernel_rfl) ?_
          go_wp2_with fail
          go_meet
          exact ⟨q15, q12, rfl, rfl, qb_fin (unhide HA16) (unhide F616) (unhide F716) hne (unhide HL15) (unhide HL12)⟩
    · go_simp
      have hb17 := albel W0 (.cells #[.bool false, .string ⟨#[]⟩, .string ⟨#[]⟩] 61)
      have HA17 := hide ((unhide HA0).later hb17)
      refine hK _ _ ⟨trivial, ⟨(unhide HA17).a.c0, (unhide HA17).a.c1⟩, ⟨(unhide HA17).b.c0, (unhide HA17).b.c1⟩⟩ ?_
      clear hK K
      have FN17 : Hid (FBox (W0.alloc (.cells #[.bool false, .string ⟨#[]⟩, .string ⟨#[]⟩] 61)) W0.heap.size (.bool false) (.string ⟨#[]⟩) (.string ⟨#[]⟩)) := fnew _ _ _ _
      have HL17 : Hid (w.heap.size + 1 + 1 < W0.heap.size) := (unhide HA0).r.lt
      clear hb17
      obtain ⟨W17, hW17⟩ : ∃ W17, W17 = W0.alloc (.cells #[.bool false, .string ⟨#[]⟩, .string ⟨#[]⟩] 61) := ⟨_, rfl⟩
      obtain ⟨q17, hq17⟩ : ∃ q17, q17 = W0.heap.size := ⟨_, rfl⟩
      rw [← hW17] at HA17 FN17   ⊢
      rw [← hq17] at FN17 HL17  ⊢
      clear hW17 hq17
      refine wpR_two (i := 1) (j := 5) (by kernel_rfl) rfl rfl rfl rfl (fun K hK => ?_) (fun K hK => ?_) 
      · go_simp
        refine (unhide H62A _).mono ?_
        rintro e W18 ⟨rfl, hb18⟩
        have HA18 := hide ((unhide HA17).later hb18)
        have F618 := hide ((unhide FN17).later hb18)
        refine hK _ _ ⟨trivial, ⟨(unhide HA18).a.c0, (unhide HA18).a.c1⟩, ⟨(unhide HA18).b.c0, (unhide HA18).b.c1⟩⟩ ?_
        clear hK K hb18
        refine wpR_two (i := 3) (j := 5) (by kernel_rfl) rfl rfl rfl rfl (fun K hK => ?_) (fun K hK => ?_) 
        · go_simp
          refine (unhide H62B _).mono ?_
          rintro e W19 ⟨rfl, hb19⟩
          have HA19 := hide ((unhide HA18).later hb19)
          have F619 := hide ((unhide F618).later hb19)
          refine hK _ _ ⟨trivial, ⟨(unhide HA19).a.c0, (unhide HA19).a.c1⟩, ⟨(unhide HA19).b.c0, (unhide HA19).b.c1⟩⟩ ?_
          clear hK K hb19
          refine wpR_op (i := 5) (o := _) (by kernel_rfl) rfl rfl (fun K hK => ?_)
          go_simp
          have hb20 := albel W19 (.cells #[.bool false, .string ⟨#[]⟩, .string ⟨#[]⟩] 61)
          have HA20 := hide ((unhide HA19).later hb20)
          refine hK _ _ ⟨trivial, ⟨(unhide HA20).a.c0, (unhide HA20).a.c1⟩, ⟨(unhide HA20).b.c0, (unhide HA20).b.c1⟩⟩ ?_
          clear hK K
          have FN20 : Hid (FBox (W19.alloc (.cells #[.bool false, .string ⟨#[]⟩, .string ⟨#[]⟩] 61)) W19.heap.size (.bool false) (.string ⟨#[]⟩) (.string ⟨#[]⟩)) := fnew _ _ _ _
          have HL20 : Hid (w.heap.size + 1 + 1 < W19.heap.size) := (unhide HA19).r.lt
          have F620 := hide ((unhide F619).later hb20)
          have HNE : Hid (q17 < W19.heap.size) := (unhide F619).lt
          clear hb20
          obtain ⟨W20, hW20⟩ : ∃ W20, W20 = W19.alloc (.cells #[.bool false, .string ⟨#[]⟩, .string ⟨#[]⟩] 61) := ⟨_, rfl⟩
          obtain ⟨q20, hq20⟩ : ∃ q20, q20 = W19.heap.size := ⟨_, rfl⟩
          rw [← hW20] at HA20 FN20 F620  ⊢
          rw [← hq20] at FN20 HL20 HNE ⊢
          clear hW20 hq20
          have hne : ¬ q17 = q20 := by have h0 := unhide HNE; omega
          have hne1 : ¬ q20 = q17 := by have h0 := unhide HNE; omega
          have x0 := (unhide F620).c0; have x1 := (unhide F620).c1; have x2 := (unhide F620).c2; have xf0 := (unhide F620).f0; have xf1 := (unhide F620).f1; have xf2 := (unhide F620).f2
          have y0 := (unhide FN20).c0; have y1 := (unhide FN20).c1; have y2 := (unhide FN20).c2; have yf0 := (unhide FN20).f0; have yf1 := (unhide FN20).f1; have yf2 := (unhide FN20).f2
          have HT1 := hide ((unhide HA20).st (unhide HL17) (.bool false) (.string an) (.string ad))
          have HT2 := hide ((unhide HT1).st (unhide HL20) (.bool false) (.string bn) (.string bd))
          refine wpR_late (i := 6) (o := _) (by kernel_rfl) rfl rfl (by kernel_rfl) (fun K hK => ?_)
          go_simp
          refine hK _ _ ⟨⟨(unhide HT1).a.c0, (unhide HT1).a.c1⟩, ⟨(unhide HT1).b.c0, (unhide HT1).b.c1⟩⟩ ?_
          clear hK K
          refine wpR_late (i := 7) (o := _) (by kernel_rfl) rfl rfl (by kernel_rfl) (fun K hK => ?_)
          go_simp
          refine hK _ _ ⟨⟨(unhide HT2).a.c0, (unhide HT2).a.c1⟩, ⟨(unhide HT2).b.c0, (unhide HT2).b.c1⟩⟩ ?_
          clear hK K
          refine wpR_done (by kernel_rfl) ?_
          go_wp2_with fail
          go_meet
          exact ⟨q17, q20, rfl, rfl, qb_fin (unhide HA20) (unhide F620) (unhide FN20) hne (unhide HL17) (unhide HL20)⟩
        · go_simp
          have hb21 := albel W18 (.cells #[.bool false, .string ⟨#[]⟩, .string ⟨#[]⟩] 61)
          have HA21 := hide ((unhide HA18).later hb21)
          refine hK _ _ ⟨trivial, ⟨(unhide HA21).a.c0, (unhide HA21).a.c1⟩, ⟨(unhide HA21).b.c0, (unhide HA21).b.c1⟩⟩ ?_
          clear hK K
          have FN21 : Hid (FBox (W18.alloc (.cells #[.bool false, .string ⟨#[]⟩, .string ⟨#[]⟩] 61)) W18.heap.size (.bool false) (.string ⟨#[]⟩) (.string ⟨#[]⟩)) := fnew _ _ _ _
          have HL21 : Hid (w.heap.size + 1 + 1 < W18.heap.size) := (unhide HA18).r.lt
          have F621 := hide ((unhide F618).later hb21)
          have HNE : Hid (q17 < W18.heap.size) := (unhide F618).lt
          clear hb21
          obtain ⟨W21, hW21⟩ : ∃ W21, W21 = W18.alloc (.cells #[.bool false, .string ⟨#[]⟩, .string ⟨#[]⟩] 61) := ⟨_, rfl⟩
          obtain ⟨q21, hq21⟩ : ∃ q21, q21 = W18.heap.size := ⟨_, rfl⟩
          rw [← hW21] at HA21 FN21 F621  ⊢
          rw [← hq21] at FN21 HL21 HNE ⊢
          clear hW21 hq21
          refine wpR_op (i := 3) (o := _) (by kernel_rfl) rfl rfl (fun K hK => ?_)
          go_simp
          refine (unhide H62B _).mono ?_
          rintro e W22 ⟨rfl, hb22⟩
          have HA22 := hide ((unhide HA21).later hb22)
          have F622 := hide ((unhide F621).later hb22)
          have F722 := hide ((unhide FN21).later hb22)
          refine hK _ _ ⟨trivial, ⟨(unhide HA22).a.c0, (unhide HA22).a.c1⟩, ⟨(unhide HA22).b.c0, (unhide HA22).b.c1⟩⟩ ?_
          clear hK K hb22
          have hne : ¬ q17 = q21 := by have h0 := unhide HNE; omega
          have hne1 : ¬ q21 = q17 := by have h0 := unhide HNE; omega
          have x0 := (unhide F622).c0; have x1 := (unhide F622).c1; have x2 := (unhide F622).c2; have xf0 := (unhide F622).f0; have xf1 := (unhide F622).f1; have xf2 := (unhide F622).f2
          have y0 := (unhide F722).c0; have y1 := (unhide F722).c1; have y2 := (unhide F722).c2; have yf0 := (unhide F722).f0; have yf1 := (unhide F722).f1; have yf2 := (unhide F722).f2
          have HT1 := hide ((unhide HA22).st (unhide HL17) (.bool false) (.string an) (.string ad))
          have HT2 := hide ((unhide HT1).st (unhide HL21) (.bool false) (.string bn) (.string bd))
          refine wpR_late (i := 6) (o := _) (by kernel_rfl) rfl rfl (by kernel_rfl) (fun K hK => ?_)
          go_simp
          refine hK _ _ ⟨⟨(unhide HT1).a.c0, (unhide HT1).a.c1⟩, ⟨(unhide HT1).b.c0, (unhide HT1).b.c1⟩⟩ ?_
          clear hK K
          refine wpR_late (i := 7) (o := _) (by kernel_rfl) rfl rfl (by kernel_rfl) (fun K hK => ?_)
          go_simp
          refine hK _ _ ⟨⟨(unhide HT2).a.c0, (unhide HT2).a.c1⟩, ⟨(unhide HT2).b.c0, (unhide HT2).b.c1⟩⟩ ?_
          clear hK K
          refine wpR_done (by kernel_rfl) ?_
          go_wp2_with fail
          go_meet
          exact ⟨q17, q21, rfl, rfl, qb_fin (unhide HA22) (unhide F622) (unhide F722) hne (unhide HL17) (unhide HL21)⟩
      · go_simp
        have hb23 := albel W17 (.cells #[.bool false, .string ⟨#[]⟩, .string ⟨#[]⟩] 61)
        have HA23 := hide ((unhide HA17).later hb23)
        refine hK _ _ ⟨trivial, ⟨(unhide HA23).a.c0, (unhide HA23).a.c1⟩, ⟨(unhide HA23).b.c0, (unhide HA23).b.c1⟩⟩ ?_
        clear hK K
        have FN23 : Hid (FBox (W17.alloc (.cells #[.bool false, .string ⟨#[]⟩, .string ⟨#[]⟩] 61)) W17.heap.size (.bool false) (.string ⟨#[]⟩) (.string ⟨#[]⟩)) := fnew _ _ _ _
        have HL23 : Hid (w.heap.size + 1 + 1 < W17.heap.size) := (unhide HA17).r.lt
        have F623 := hide ((unhide FN17).later hb23)
        have HNE : Hid (q17 < W17.heap.size) := (unhide FN17).lt
        clear hb23
        obtain ⟨W23, hW23⟩ : ∃ W23, W23 = W17.alloc (.cells #[.bool false, .string ⟨#[]⟩, .string ⟨#[]⟩] 61) := ⟨_, rfl⟩
        obtain ⟨q23, hq23⟩ : ∃ q23, q23 = W17.heap.size := ⟨_, rfl⟩
        rw [← hW23] at HA23 FN23 F623  ⊢
        rw [← hq23] at FN23 HL23 HNE ⊢
        clear hW23 hq23
        refine wpR_op (i := 1) (o := _) (by kernel_rfl) rfl rfl (fun K hK => ?_)
        go_simp
        refine (unhide H62A _).mono ?_
        rintro e W24 ⟨rfl, hb24⟩
        have HA24 := hide ((unhide HA23).later hb24)
        have F624 := hide ((unhide F623).later hb24)
        have F724 := hide ((unhide FN23).later hb24)
        refine hK _ _ ⟨trivial, ⟨(unhide HA24).a.c0, (unhide HA24).a.c1⟩, ⟨(unhide HA24).b.c0, (unhide HA24).b.c1⟩⟩ ?_
        clear hK K hb24
        refine wpR_op (i := 3) (o := _) (by kernel_rfl) rfl rfl (fun K hK => ?_)
        go_simp
        refine (unhide H62B _).mono ?_
        rintro e W25 ⟨rfl, hb25⟩
        have HA25 := hide ((unhide HA24).later hb25)
        have F625 := hide ((unhide F624).later hb25)
        have F725 := hide ((unhide F724).later hb25)
        refine hK _ _ ⟨trivial, ⟨(unhide HA25).a.c0, (unhide HA25).a.c1⟩, ⟨(unhide HA25).b.c0, (unhide HA25).b.c1⟩⟩ ?_
        clear hK K hb25
        have hne : ¬ q17 = q23 := by have h0 := unhide HNE; omega
        have hne1 : ¬ q23 = q17 := by have h0 := unhide HNE; omega
        have x0 := (unhide F625).c0; have x1 := (unhide F625).c1; have x2 := (unhide F625).c2; have xf0 := (unhide F625).f0; have xf1 := (unhide F625).f1; have xf2 := (unhide F625).f2
        have y0 := (unhide F725).c0; have y1 := (unhide F725).c1; have y2 := (unhide F725).c2; have yf0 := (unhide F725).f0; have yf1 := (unhide F725).f1; have yf2 := (unhide F725).f2
        have HT1 := hide ((unhide HA25).st (unhide HL17) (.bool false) (.string an) (.string ad))
        have HT2 := hide ((unhide HT1).st (unhide HL23) (.bool false) (.string bn) (.string bd))
        refine wpR_late (i := 6) (o := _) (by kernel_rfl) rfl rfl (by kernel_rfl) (fun K hK => ?_)
        go_simp
        refine hK _ _ ⟨⟨(unhide HT1).a.c0, (unhide HT1).a.c1⟩, ⟨(unhide HT1).b.c0, (unhide HT1).b.c1⟩⟩ ?_
        clear hK K
        refine wpR_late (i := 7) (o := _) (by kernel_rfl) rfl rfl (by kernel_rfl) (fun K hK => ?_)
        go_simp
        refine hK _ _ ⟨⟨(unhide HT2).a.c0, (unhide HT2).a.c1⟩, ⟨(unhide HT2).b.c0, (unhide HT2).b.c1⟩⟩ ?_
        clear hK K
        refine wpR_done (by kernel_rfl) ?_
        go_wp2_with fail
        go_meet
        exact ⟨q17, q23, rfl, rfl, qb_fin (unhide HA25) (unhide F625) (unhide F725) hne (unhide HL17) (unhide HL23)⟩
    · go_simp
      have hb26 := albel W0 (.cells #[.bool false, .string ⟨#[]⟩, .string ⟨#[]⟩] 61)
      have HA26 := hide ((unhide HA0).later hb26)
      refine hK _ _ ⟨trivial, ⟨(unhide HA26).a.c0, (unhide HA26).a.c1⟩, ⟨(unhide HA26).b.c0, (unhide HA26).b.c1⟩⟩ ?_
      clear hK K
      have FN26 : Hid (FBox (W0.alloc (.cells #[.bool false, .string ⟨#[]⟩, .string ⟨#[]⟩] 61)) W0.heap.size (.bool false) (.string ⟨#[]⟩) (.string ⟨#[]⟩)) := fnew _ _ _ _
      have HL26 : Hid (w.heap.size + 1 + 1 < W0.heap.size) := (unhide HA0).r.lt
      clear hb26
      obtain ⟨W26, hW26⟩ : ∃ W26, W26 = W0.alloc (.cells #[.bool false, .string ⟨#[]⟩, .string ⟨#[]⟩] 61) := ⟨_, rfl⟩
      obtain ⟨q26, hq26⟩ : ∃ q26, q26 = W0.heap.size := ⟨_, rfl⟩
      rw [← hW26] at HA26 FN26   ⊢
      rw [← hq26] at FN26 HL26  ⊢
      clear hW26 hq26
      refine wpR_two (i := 1) (j := 4) (by kernel_rfl) rfl rfl rfl rfl (fun K hK => ?_) (fun K hK => ?_) 
      · go_simp
        refine (unhide H62A _).mono ?_
        rintro e W27 ⟨rfl, hb27⟩
        have HA27 := hide ((unhide HA26).later hb27)
        have F727 := hide ((unhide FN26).later hb27)
        refine hK _ _ ⟨trivial, ⟨(unhide HA27).a.c0, (unhide HA27).a.c1⟩, ⟨(unhide HA27).b.c0, (unhide HA27).b.c1⟩⟩ ?_
        clear hK K hb27
        refine wpR_two (i := 3) (j := 4) (by kernel_rfl) rfl rfl rfl rfl (fun K hK => ?_) (fun K hK => ?_) 
        · go_simp
          refine (unhide H62B _).mono ?_
          rintro e W28 ⟨rfl, hb28⟩
          have HA28 := hide ((unhide HA27).later hb28)
          have F728 := hide ((unhide F727).later hb28)
          refine hK _ _ ⟨trivial, ⟨(unhide HA28).a.c0, (unhide HA28).a.c1⟩, ⟨(unhide HA28).b.c0, (unhide HA28).b.c1⟩⟩ ?_
          clear hK K hb28
          refine wpR_op (i := 4) (o := _) (by kernel_rfl) rfl rfl (fun K hK => ?_)
          go_simp
          have hb29 := albel W28 (.cells #[.bool false, .string ⟨#[]⟩, .string ⟨#[]⟩] 61)
          have HA29 := hide ((unhide HA28).later hb29)
          refine hK _ _ ⟨trivial, ⟨(unhide HA29).a.c0, (unhide HA29).a.c1⟩, ⟨(unhide HA29).b.c0, (unhide HA29).b.c1⟩⟩ ?_
          clear hK K
          have FN29 : Hid (FBox (W28.alloc (.cells #[.bool false, .string ⟨#[]⟩, .string ⟨#[]⟩] 61)) W28.heap.size (.bool false) (.string ⟨#[]⟩) (.string ⟨#[]⟩)) := fnew _ _ _ _
          have HL29 : Hid (w.heap.size + 1 + 1 < W28.heap.size) := (unhide HA28).r.lt
          have F729 := hide ((unhide F728).later hb29)
          have HNE : Hid (q26 < W28.heap.size) := (unhide F728).lt
          clear hb29
          obtain ⟨W29, hW29⟩ : ∃ W29, W29 = W28.alloc (.cells #[.bool false, .string ⟨#[]⟩, .string ⟨#[]⟩] 61) := ⟨_, rfl⟩
          obtain ⟨q29, hq29⟩ : ∃ q29, q29 = W28.heap.size := ⟨_, rfl⟩
          rw [← hW29] at HA29 FN29  F729 ⊢
          rw [← hq29] at FN29 HL29 HNE ⊢
          clear hW29 hq29
          have hne : ¬ q29 = q26 := by have h0 := unhide HNE; omega
          have hne1 : ¬ q26 = q29 := by have h0 := unhide HNE; omega
          have x0 := (unhide FN29).c0; have x1 := (unhide FN29).c1; have x2 := (unhide FN29).c2; have xf0 := (unhide FN29).f0; have xf1 := (unhide FN29).f1; have xf2 := (unhide FN29).f2
          have y0 := (unhide F729).c0; have y1 := (unhide F729).c1; have y2 := (unhide F729).c2; have yf0 := (unhide F729).f0; have yf1 := (unhide F729).f1; have yf2 := (unhide F729).f2
          have HT1 := hide ((unhide HA29).st (unhide HL29) (.bool false) (.string an) (.string ad))
          have HT2 := hide ((unhide HT1).st (unhide HL26) (.bool false) (.string bn) (.string bd))
          refine wpR_late (i := 6) (o := _) (by kernel_rfl) rfl rfl (by kernel_rfl) (fun K hK => ?_)
          go_simp
          refine hK _ _ ⟨⟨(unhide HT1).a.c0, (unhide HT1).a.c1⟩, ⟨(unhide HT1).b.c0, (unhide HT1).b.c1⟩⟩ ?_
          clear hK K
          refine wpR_late (i := 7) (o := _) (by kernel_rfl) rfl rfl (by kernel_rfl) (fun K hK => ?_)
          go_simp
          refine hK _ _ ⟨⟨(unhide HT2).a.c0, (unhide HT2).a.c1⟩, ⟨(unhide HT2).b.c0, (unhide HT2).b.c1⟩⟩ ?_
          clear hK K
          refine wpR_done (by kernel_rfl) ?_
          go_wp2_with fail
          go_meet
          exact ⟨q29, q26, rfl, rfl, qb_fin (unhide HA29) (unhide FN29) (unhide F729) hne (unhide HL29) (unhide HL26)⟩
        · go_simp
          have hb30 := albel W27 (.cells #[.bool false, .string ⟨#[]⟩, .string ⟨#[]⟩] 61)
          have HA30 := hide ((unhide HA27).later hb30)
          refine hK _ _ ⟨trivial, ⟨(unhide HA30).a.c0, (unhide HA30).a.c1⟩, ⟨(unhide HA30).b.c0, (unhide HA30).b.c1⟩⟩ ?_
          clear hK K
          have FN30 : Hid (FBox (W27.alloc (.cells #[.bool false, .string ⟨#[]⟩, .string ⟨#[]⟩] 61)) W27.heap.size (.bool false) (.string ⟨#[]⟩) (.string ⟨#[]⟩)) := fnew _ _ _ _
          have HL30 : Hid (w.heap.size + 1 + 1 < W27.heap.size) := (unhide HA27).r.lt
          have F730 := hide ((unhide F727).later hb30)
          have HNE : Hid (q26 < W27.heap.size) := (unhide F727).lt
          clear hb30
          obtain ⟨W30, hW30⟩ : ∃ W30, W30 = W27.alloc (.cells #[.bool false, .string ⟨#[]⟩, .string ⟨#[]⟩] 61) := ⟨_, rfl⟩
          obtain ⟨q30, hq30⟩ : ∃ q30, q30 = W27.heap.size := ⟨_, rfl⟩
          rw [← hW30] at HA30 FN30  F730 ⊢
          rw [← hq30] at FN30 HL30 HNE ⊢
          clear hW30 hq30
          refine wpR_op (i := 3) (o := _) (by kernel_rfl) rfl rfl (fun K hK => ?_)
          go_simp
          refine (unhide H62B _).mono ?_
          rintro e W31 ⟨rfl, hb31⟩
          have HA31 := hide ((unhide HA30).later hb31)
          have F631 := hide ((unhide FN30).later hb31)
          have F731 := hide ((unhide F730).later hb31)
          refine hK _ _ ⟨trivial, ⟨(unhide HA31).a.c0, (unhide HA31).a.c1⟩, ⟨(unhide HA31).b.c0, (unhide HA31).b.c1⟩⟩ ?_
          clear hK K hb31
          have hne : ¬ q30 = q26 := by have h0 := unhide HNE; omega
          have hne1 : ¬ q26 = q30 := by have h0 := unhide HNE; omega
          have x0 := (unhide F631).c0; have x1 := (unhide F631).c1; have x2 := (unhide F631).c2; have xf0 := (unhide F631).f0; have xf1 := (unhide F631).f1; have xf2 := (unhide F631).f2
          have y0 := (unhide F731).c0; have y1 := (unhide F731).c1; have y2 := (unhide F731).c2; have yf0 := (unhide F731).f0; have yf1 := (unhide F731).f1; have yf2 := (unhide F731).f2
          have HT1 := hide ((unhide HA31).st (unhide HL30) (.bool false) (.string an) (.string ad))
          have HT2 := hide ((unhide HT1).st (unhide HL26) (.bool false) (.string bn) (.string bd))
          refine wpR_late (i := 6) (o := _) (by kernel_rfl) rfl rfl (by kernel_rfl) (fun K hK => ?_)
          go_simp
          refine hK _ _ ⟨⟨(unhide HT1).a.c0, (unhide HT1).a.c1⟩, ⟨(unhide HT1).b.c0, (unhide HT1).b.c1⟩⟩ ?_
          clear hK K
          refine wpR_late (i := 7) (o := _) (by kernel_rfl) rfl rfl (by kernel_rfl) (fun K hK => ?_)
          go_simp
          refine hK _ _ ⟨⟨(unhide HT2).a.c0, (unhide HT2).a.c1⟩, ⟨(unhide HT2).b.c0, (unhide HT2).b.c1⟩⟩ ?_
          clear hK K
          refine wpR_done (by kernel_rfl) ?_
          go_wp2_with fail
          go_meet
          exact ⟨q30, q26, rfl, rfl, qb_fin (unhide HA31) (unhide F631) (unhide F731) hne (unhide HL30) (unhide HL26)⟩
      · go_simp
        have hb32 := albel W26 (.cells #[.bool false, .string ⟨#[]⟩, .string ⟨#[]⟩] 61)
        have HA32 := hide ((unhide HA26).later hb32)
        refine hK _ _ ⟨trivial, ⟨(unhide HA32).a.c0, (unhide HA32).a.c1⟩, ⟨(unhide HA32).b.c0, (unhide HA32).b.c1⟩⟩ ?_
        clear hK K
        have FN32 : Hid (FBox (W26.alloc (.cells #[.bool false, .string ⟨#[]⟩, .string ⟨#[]⟩] 61)) W26.heap.size (.bool false) (.string ⟨#[]⟩) (.string ⟨#[]⟩)) := fnew _ _ _ _
        have HL32 : Hid (w.heap.size + 1 + 1 < W26.heap.size) := (unhide HA26).r.lt
        have F732 := hide ((unhide FN26).later hb32)
        have HNE : Hid (q26 < W26.heap.size) := (unhide FN26).lt
        clear hb32
        obtain ⟨W32, hW32⟩ : ∃ W32, W32 = W26.alloc (.cells #[.bool false, .string ⟨#[]⟩, .string ⟨#[]⟩] 61) := ⟨_, rfl⟩
        obtain ⟨q32, hq32⟩ : ∃ q32, q32 = W26.heap.size := ⟨_, rfl⟩
        rw [← hW32] at HA32 FN32  F732 ⊢
        rw [← hq32] at FN32 HL32 HNE ⊢
        clear hW32 hq32
        refine wpR_op (i := 1) (o := _) (by kernel_rfl) rfl rfl (fun K hK => ?_)
        go_simp
        refine (unhide H62A _).mono ?_
        rintro e W33 ⟨rfl, hb33⟩
        have HA33 := hide ((unhide HA32).later hb33)
        have F633 := hide ((unhide FN32).later hb33)
        have F733 := hide ((unhide F732).later hb33)
        refine hK _ _ ⟨trivial, ⟨(unhide HA33).a.c0, (unhide HA33).a.c1⟩, ⟨(unhide HA33).b.c0, (unhide HA33).b.c1⟩⟩ ?_
        clear hK K hb33
        refine wpR_op (i := 3) (o := _) (by kernel_rfl) rfl rfl (fun K hK => ?_)
        go_simp
        refine (unhide H62B _).mono ?_
        rintro e W34 ⟨rfl, hb34⟩
        have HA34 := hide ((unhide HA33).later hb34)
        have F634 := hide ((unhide F633).later hb34)
        have F734 := hide ((unhide F733).later hb34)
        refine hK _ _ ⟨trivial, ⟨(unhide HA34).a.c0, (unhide HA34).a.c1⟩, ⟨(unhide HA34).b.c0, (unhide HA34).b.c1⟩⟩ ?_
        clear hK K hb34
        have hne : ¬ q32 = q26 := by have h0 := unhide HNE; omega
        have hne1 : ¬ q26 = q32 := by have h0 := unhide HNE; omega
        have x0 := (unhide F634).c0; have x1 := (unhide F634).c1; have x2 := (unhide F634).c2; have xf0 := (unhide F634).f0; have xf1 := (unhide F634).f1; have xf2 := (unhide F634).f2
        have y0 := (unhide F734).c0; have y1 := (unhide F734).c1; have y2 := (unhide F734).c2; have yf0 := (unhide F734).f0; have yf1 := (unhide F734).f1; have yf2 := (unhide F734).f2
        have HT1 := hide ((unhide HA34).st (unhide HL32) (.bool false) (.string an) (.string ad))
        have HT2 := hide ((unhide HT1).st (unhide HL26) (.bool false) (.string bn) (.string bd))
        refine wpR_late (i := 6) (o := _) (by kernel_rfl) rfl rfl (by kernel_rfl) (fun K hK => ?_)
        go_simp
        refine hK _ _ ⟨⟨(unhide HT1).a.c0, (unhide HT1).a.c1⟩, ⟨(unhide HT1).b.c0, (unhide HT1).b.c1⟩⟩ ?_
        clear hK K
        refine wpR_late (i := 7) (o := _) (by kernel_rfl) rfl rfl (by kernel_rfl) (fun K hK => ?_)
        go_simp
        refine hK _ _ ⟨⟨(unhide HT2).a.c0, (unhide HT2).a.c1⟩, ⟨(unhide HT2).b.c0, (unhide HT2).b.c1⟩⟩ ?_
        clear hK K
        refine wpR_done (by kernel_rfl) ?_
        go_wp2_with fail
        go_meet
        exact ⟨q32, q26, rfl, rfl, qb_fin (unhide HA34) (unhide F634) (unhide F734) hne (unhide HL32) (unhide HL26)⟩
  case rest =>
    obtain ⟨g6, g7, rfl, rfl, HQ⟩ := hcut
    have p0 := (unhide HQ).f.c0; have p1 := (unhide HQ).f.c1; have p2 := (unhide HQ).f.c2; have q0 := (unhide HQ).g.c0; have q1 := (unhide HQ).g.c1; have q2 := (unhide HQ).g.c2
    go_upto_region 6 with (go_at_call 66; go_must (refine (unhide H64 _).mono ?_; rintro e w4 ⟨rfl, hb4⟩; have HQ4 := hide ((unhide HQ).later hb4); clear hb4; clear p0 p1 p2 q0 q1 q2; have p0 := (unhide HQ4).f.c0; have p1 := (unhide HQ4).f.c1; have p2 := (unhide HQ4).f.c2; have q0 := (unhide HQ4).g.c0; have q1 := (unhide HQ4).g.c1; have q2 := (unhide HQ4).g.c2))
    go_upto_region 11 with fail
    go_upto_region 12 with (go_at_call 119; go_must (refine (unhide H117 _).mono ?_; rintro e w5 ⟨rfl, hb5⟩; have HQ5 := hide ((unhide HQ4).later hb5); clear hb5; clear p0 p1 p2 q0 q1 q2))
    go_wp2_with (go_at_call 76; go_must (refine (unhide H74 _).mono ?_; rintro e w6 ⟨rfl, hb6⟩; have HQ6 := hide ((unhide HQ5).later hb6); clear hb6; have r0 := (unhide HQ6).r.c0; have r1 := (unhide HQ6).r.c1; have rf0 := (unhide HQ6).r.f0; have rf1 := (unhide HQ6).r.f1))
    have hS := ((unhide HQ6).r).store (.string rn) (.string rd)
    have hb : Below w.heap.size w (store2 w6 (w.heap.size + 1 + 1) (.string rn) (.string rd)) := below_store2 ((unhide HQ6).below) (by omega) _ _
    have v0 := hS.c0; have v1 := hS.c1
    exact bodyPost_ret (v := .tuple #[.agg #[.string rn, .string rd], .int .i64 re]) (w := store2 w6 (w.heap.size + 1 + 1) (.string rn) (.string rd)) (by simp [results, Tryz.results56, go_sem, v0, v1]) rfl ⟨rfl, hb⟩

end Go.Proofs.YtndhinoomlofgaaGreatDoor

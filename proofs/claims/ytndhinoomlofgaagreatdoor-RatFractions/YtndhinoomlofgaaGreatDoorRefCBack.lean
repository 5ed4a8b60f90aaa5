/- The document's Back: the walk. -/
import Derived.Test.YtndhinoomlofgaaGreatDoorChainT
import Derived.Test.YtndhinoomlofgaaGreatDoorSimplest
import Derived.Test.YtndhinoomlofgaaGreatDoorTell
import Derived.Test.YtndhinoomlofgaaGreatDoorRefChain
import Derived.Test.YtndhinoomlofgaaGreatDoorRefRead
import Derived.Deep.Quiet
import Derived.Test.YtndhinoomlofgaaGreatDoorFCmp
import Derived.Deep.RegionHeld3
namespace Go.Proofs.YtndhinoomlofgaaGreatDoor
open Go.RowKit

/-- A natural number above 0, as text. -/
def goodS (s : ByteArray) : Prop := Cub.rightB s.data.toList = true ∧ (s.toList == [48]) = false
/-- A row of numbers that is being filled: so many stand there. -/
structure FillB (W : World) (gt K k : Nat) (ns : List Nat) : Prop where
  row : ∀ j, j < K → ∃ a l c, W.cell? ⟨gt, j, none⟩ = some (.slice a l c) ∧ W.frozen? ⟨gt, j, none⟩ = false ∧ ∀ (_ : j < k) (h' : j < ns.length), IsBig W (.agg #[.slice a l c]) ns[j]
  lt : gt < W.heap.size
theorem FillB.later {W V : World} {gt K k : Nat} {ns : List Nat} (s : FillB W gt K k ns) (hb : Below W.heap.size W V) : FillB V gt K k ns := by
  refine ⟨fun j hj => ?_, by have := s.lt; have := hb.size; omega⟩
  obtain ⟨a, l, c, h1, h2, h3⟩ := s.row j hj
  exact ⟨a, l, c, (hb.cell (p := ⟨gt, j, none⟩) s.lt).trans h1, (hb.frozen (p := ⟨gt, j, none⟩) s.lt).trans h2, fun h h' => (h3 h h').later hb⟩
theorem FillB.set {W : World} {gt K k : Nat} {ns : List Nat} (s : FillB W gt K k ns) (hk : k < K) {a : Option Addr} {l c : Nat} (hx : ∀ h' : k < ns.length, IsBig W (.agg #[.slice a l c]) ns[k]) : FillB (W.setCell ⟨gt, k, none⟩ (.slice a l c)) gt K (k + 1) ns := by
  obtain ⟨a0, l0, c0, k1, k2, _⟩ := s.row k hk
  refine ⟨fun j hj => ?_, by have := s.lt; simpa using this⟩
  by_cases hjk : j = k
  · subst hjk
    exact ⟨a, l, c, World.cell?_setCell_same _ _ _ k1, by rw [World.frozen?_setCell]; exact k2, fun _ h' => (hx h').box _ k1 (sl_no _ _ _)⟩
  · obtain ⟨a1, l1, c1, h1, h2, h3⟩ := s.row j hj
    refine ⟨a1, l1, c1, ?_, by rw [World.frozen?_setCell]; exact h2, fun h h' => (h3 (by omega) h').box _ k1 (sl_no _ _ _)⟩
    rw [World.cell?_setCell_other _ _ _ _ (by intro e; cases e; exact hjk rfl)]
    exact h1
theorem FillB.rowN {W : World} {gt K : Nat} {ns : List Nat} (s : FillB W gt K K ns) (hl : ns.length = K) (hm : K ≤ 9223372036854775807) : RowN W (.slice (some ⟨gt, 0, none⟩) K K) ns := by
  refine ⟨_, K, by rw [hl], by omega, hm, fun i hi => ?_⟩
  obtain ⟨a, l, c, h1, _, h3⟩ := s.row i (by omega)
  exact ⟨gt, 0, a, l, c, rfl, s.lt, by rw [Nat.zero_add]; exact h1, h3 (by omega) hi⟩
theorem FillB.first {w : World} {base K gt : Nat} {ns : List Nat} (h : w.ownsRow base 72 1 (.slice (some ⟨gt, 0, none⟩) K K) K (madeCells (Value.agg #[.slice none 0 0]).cells (K * 1)).toList) : FillB w gt K 0 ns := by
  obtain ⟨hx, h2⟩ := id h
  rcases h2 with ⟨e, _⟩ | ⟨g, cap, cur, e, hb, hg, hcap, hmax, hsz, htk⟩
  · cases e
  · simp only [Value.slice.injEq, Option.some.injEq, Addr.mk.injEq] at e
    obtain ⟨⟨rfl, _⟩, _, rfl⟩ := e
    refine ⟨fun j hj => ?_, (Array.getElem?_eq_some_iff.1 hg).1⟩
    refine ⟨none, 0, 0, ?_, frozen_of_row w gt j cur 72 hg, fun h => absurd h (Nat.not_lt_zero _)⟩
    have := h.cells (g := gt) rfl j (.slice none 0 0) (by simp [madeCells, Value.cells, hj, Nat.mod_one])
    simpa [Addr.add_lit] using this
theorem QOf.cell {W : World} {v : Value} {x : Rat} {k : Nat} (h : QOf W v x k) {p : Addr} {y : Value} (u : Value) (hp : W.cell? p = some y) (hy : ∀ k n, y ≠ .int k n) : QOf (W.setCell p u) v x k := by
  obtain ⟨b, n, d, ⟨s1, s2, e, i1, i2⟩, r⟩ := h
  exact ⟨b, n, d, ⟨s1, s2, e, i1.box u hp hy, i2.box u hp hy⟩, r⟩
theorem T2.otherP {W : World} {g : Nat} {x y : Value} (h : T2 W g x y) (p : Addr) (hp : p.block ≠ g) (u : Value) : T2 (W.setCell p u) g x y :=
  ⟨by rw [World.cell?_setCell_other _ _ _ _ (by intro e; cases e; exact hp rfl)]; exact h.c0, by rw [World.cell?_setCell_other _ _ _ _ (by intro e; cases e; exact hp rfl)]; exact h.c1, by rw [World.frozen?_setCell]; exact h.f0, by rw [World.frozen?_setCell]; exact h.f1⟩
theorem FBox.otherP {W : World} {g : Nat} {x y z : Value} (h : FBox W g x y z) (p : Addr) (hp : p.block ≠ g) (u : Value) : FBox (W.setCell p u) g x y z :=
  ⟨by rw [World.cell?_setCell_other _ _ _ _ (by intro e; cases e; exact hp rfl)]; exact h.c0, by rw [World.cell?_setCell_other _ _ _ _ (by intro e; cases e; exact hp rfl)]; exact h.c1, by rw [World.cell?_setCell_other _ _ _ _ (by intro e; cases e; exact hp rfl)]; exact h.c2, by rw [World.frozen?_setCell]; exact h.f0, by rw [World.frozen?_setCell]; exact h.f1, by rw [World.frozen?_setCell]; exact h.f2⟩
/-- The boxes of Back. -/
structure BB (w W : World) (gf : Nat) (b : Bool) (x1 x2 : Value) (x : Rat) : Prop where
  r : T2 W w.heap.size (.string ⟨#[]⟩) (.string ⟨#[]⟩)
  f : FBox W gf (.bool b) x1 x2
  q : QOf W (.agg #[.bool b, x1, x2]) x 67
  below : Below w.heap.size w W
theorem BB.later {w W V : World} {gf : Nat} {b : Bool} {x1 x2 : Value} {x : Rat} (s : BB w W gf b x1 x2 x) (hb : Below W.heap.size W V) : BB w V gf b x1 x2 x :=
  ⟨s.r.later hb, s.f.later hb, s.q.later hb, s.below.trans (hb.mono s.below.size)⟩
theorem BB.cell {w W : World} {gf : Nat} {b : Bool} {x1 x2 : Value} {x : Rat} (s : BB w W gf b x1 x2 x) {p : Addr} {y : Value} (u : Value) (hp : W.cell? p = some y) (hy : ∀ k n, y ≠ .int k n) (h1 : p.block ≠ w.heap.size) (h2 : p.block ≠ gf) (h3 : w.heap.size ≤ p.block) : BB w (W.setCell p u) gf b x1 x2 x :=
  ⟨s.r.otherP p h1 u, s.f.otherP p h2 u, s.q.cell u hp hy, s.below.setCell (p := p) h3 u⟩
theorem bigT (s : ByteArray) (w : World) (h : Cub.rightB s.data.toList = true) :
    Calls Tryz.prog 73 #[.string s] w fun e w' => ∃ a n c, e = .returned (.agg #[.slice a n c]) ∧ IsBig w' (.agg #[.slice a n c]) (val s) ∧ Below w.heap.size w w' := by
  refine (bigText_any s w (Nat.le_trans (right_digs h).2 (by decide)) (right_digs h).1).mono ?_
  rintro e w' ⟨v, rfl, hv, hb⟩
  obtain ⟨a, n, c, rfl⟩ := hv.shape
  exact ⟨a, n, c, rfl, hv, hb⟩
theorem goodS_val {s : ByteArray} (h : goodS s) : 0 < val s ∧ val s < 10 ^ 600 := by
  obtain ⟨n, hn, rfl⟩ := tb_of h.1
  have e : val (tb n) = n := (tb_right n hn).2
  rw [e]
  refine ⟨?_, hn⟩
  have := h.2
  rw [tb_eq48 n hn] at this
  simpa [Nat.pos_iff_ne_zero] using this

set_option maxRecDepth 100000 in
set_option maxHeartbeats 4000000 in
theorem cback_walk (a : Option Addr) (s : ByteArray) (ss : List ByteArray) (cap : Nat) (w : World) (htab : Tab w) (x : Rat) (rn rd : ByteArray) (re : Int)
    (hrow : RowS w (.slice a (ss.length + 1) cap) (s :: ss)) (hK : ss.length + 1 ≤ 8796093022208) (hsz : ∀ t ∈ ss, t.size ≤ maxLen)
    (hrd : ∀ W, Calls Tryz.prog 78 #[.agg #[.string s, .string ⟨#[49]⟩]] W fun r w' => ∃ v, r = .returned (.tuple #[v, .bool true]) ∧ QOf w' v x 67 ∧ Below W.heap.size W w')
    (hbad : ¬ (∀ t ∈ ss, goodS t) → rn = ⟨#[]⟩ ∧ rd = ⟨#[]⟩ ∧ re = 3)
    (hno : (∀ t ∈ ss, goodS t) → ¬ (Cub.un (ss.map val)).2.1 < 10 ^ 600 → rn = ⟨#[]⟩ ∧ rd = ⟨#[]⟩ ∧ re = 7)
    (hok : (∀ t ∈ ss, goodS t) → (Cub.un (ss.map val)).2.1 < 10 ^ 600 → rn = numT (x + Cub.valQ false (Cub.un (ss.map val)).1.1 (Cub.un (ss.map val)).2.1) ∧ rd = denT (x + Cub.valQ false (Cub.un (ss.map val)).1.1 (Cub.un (ss.map val)).2.1) ∧ re = errT (x + Cub.valQ false (Cub.un (ss.map val)).1.1 (Cub.un (ss.map val)).2.1)) :
    Ans 59 #[.slice a (ss.length + 1) cap] w rn rd re := by
  unfold Ans
  obtain ⟨V, hV⟩ : ∃ V, V = w.alloc (.cells #[.string ⟨#[]⟩, .string ⟨#[]⟩] 23) := ⟨_, rfl⟩
  have HS0 : Hid (T2 V w.heap.size (.string ⟨#[]⟩) (.string ⟨#[]⟩) ∧ Below w.heap.size w V) := by rw [hV]; exact ⟨⟨by simp [go_sem], by simp [go_sem], by simp [go_sem], by simp [go_sem]⟩, alT_below _ _⟩
  have HV := hide hV
  have HROW := hide hrow
  obtain ⟨a', cap', ee, hcap, hmax, _, hcells⟩ := hrow
  simp only [Value.slice.injEq] at ee
  obtain ⟨rfl, _, rfl⟩ := ee
  obtain ⟨b0, o0, rfl, hlt0, hc0⟩ := hcells 0 (by simp)
  simp only [List.length_cons] at hcap hcells
  simp only [Nat.add_zero, List.getElem_cons_zero] at hc0
  have HCE : Hid (∀ i (h : i < ss.length), w.cell? ⟨b0, o0 + 1 + i, none⟩ = some (.string ss[i]) ∧ b0 < w.heap.size) := fun i h => by
    obtain ⟨b, o, e, hl, hc⟩ := hcells (i + 1) (by omega)
    simp only [Option.some.injEq, Addr.mk.injEq, and_true] at e
    obtain ⟨rfl, rfl⟩ := e
    rw [List.getElem_cons_succ, ← Nat.add_assoc, Nat.add_right_comm] at hc
    exact ⟨hc, hl⟩
  have HC0 : Hid (∀ W, Below w.heap.size w W → W.cell? ⟨b0, o0, none⟩ = some (.string s)) := fun W hb => (hb.cell (p := ⟨b0, o0, none⟩) hlt0).trans hc0
  have HRD := hide hrd; have HBAD := hide hbad; have HNO := hide hno; have HOK := hide hok
  have HTW := hide htab; have HSZ := hide hsz
  obtain ⟨K, hKe⟩ : ∃ K, K = ss.length := ⟨_, rfl⟩
  have HKL := hide hKe
  rw [← hKe] at hcap hK HROW ⊢
  clear hcells hc0 hlt0 hrd hbad hno hok htab hKe hsz
  have hz2 : (((K : Int) + 1) == 0) = false := by rw [beq_eq_false_iff_ne]; omega
  have hp1 : (0 : Int) < (K : Int) + 1 := by omega
  have hp2 : (1 : Int) ≤ (K : Int) + 1 := by omega
  have hp3 : (K : Int) + 1 ≤ (cap : Int) := by omega
  obtain ⟨i0, hi, hz0, hz1, hz3⟩ := info_parts info72
  go_enter Tryz.func59, Tryz.ntmps59
  go_upto_region 3 with fail
  rw [← unhide HV]
  clear hV HV
  have t0 := unhide HC0 V (unhide HS0).2
  go_upto_region 4 with (go_at_call 78; go_must (refine (unhide HRD _).mono ?_; rintro e w1 ⟨vf, rfl, hq, hb1⟩; obtain ⟨bf, af, lf, cf, ag, lg, cg, rfl⟩ := hq.form; have HS1 : Hid (T2 w1 w.heap.size (.string ⟨#[]⟩) (.string ⟨#[]⟩) ∧ QOf w1 (.agg #[.bool bf, .slice af lf cf, .slice ag lg cg]) x 67 ∧ Below w.heap.size w w1) := ⟨(unhide HS0).1.later hb1, hq, (unhide HS0).2.trans (hb1.mono (unhide HS0).2.size)⟩; clear hq hb1 t0))
  obtain ⟨V2, hV2⟩ : ∃ V2, V2 = w1.alloc (.cells #[.bool bf, .slice af lf cf, .slice ag lg cg] 74) := ⟨_, rfl⟩
  have HS2 : Hid (BB w V2 w1.heap.size bf (.slice af lf cf) (.slice ag lg cg) x) := by
    have hb : Below w1.heap.size w1 V2 := by rw [hV2]; exact alT_below _ _
    exact ⟨(unhide HS1).1.later hb, by rw [hV2]; exact ⟨by simp [go_sem], by simp [go_sem], by simp [go_sem], by simp [go_sem], by simp [go_sem], by simp [go_sem]⟩, (unhide HS1).2.1.later hb, (unhide HS1).2.2.trans (hb.mono (unhide HS1).2.2.size)⟩
  rw [← hV2]
  clear hV2 HS0 HS1
  generalize w1.heap.size = gf at *
  go_upto_region 7 with (at_make; go_must (refine wpList_make_full _ rfl _ _ 126 rfl w.heap.size 72 i0 (.agg #[.slice none 0 0]) 1 under126 hi hz0 hz1 .i64 .i64 _ _ K rfl rfl (by omega) (by omega) (by rw [hz3]; omega) (by unfold maxLen; omega) (unhide HS2).below.size ?_; intro w4 hown4 hgrow4; have HF4 : Hid (FillB w4 V2.heap.size K 0 (ss.map val)) := FillB.first hown4; have HS4 : Hid (BB w w4 gf bf (.slice af lf cf) (.slice ag lg cg) x) := (unhide HS2).later ((Below.refl _ _).grown hgrow4 (Nat.le_refl _) (fun k hk => by cases hk)); clear hown4 hgrow4))
  obtain ⟨gt, hgt⟩ : ∃ gt, gt = V2.heap.size := ⟨_, rfl⟩
  have HGT : Hid (gf < gt ∧ w.heap.size < gt) := ⟨by rw [hgt]; exact (unhide HS2).f.lt, by rw [hgt]; exact (unhide HS2).r.lt⟩
  rw [← hgt] at HF4 ⊢
  clear hgt HS2
  by_cases hc1 : cap = 1
  · have HK0 : Hid (K = 0) := by show K = 0; omega
    subst hc1
    have hl3 : ¬ (1 : Int) < (K : Int) + 1 := by have := unhide HK0; omega
    have HCC : Hid (∀ i (h : i < ss.length), w.cell? ⟨b0, o0 + i, none⟩ = some (.string ss[i]) ∧ b0 < w.heap.size) := fun i h => by have h1 := unhide HK0; have h2 := unhide HKL; omega
    clear HCE
    go_upto_region 8 with fail
    go_loopw [33] (fun t wr => ∃ k : Nat, k ≤ 0 ∧ t = .int .i64 (k : Int) ∧ Hid (∀ j (h : j < ss.length), j < k → goodS ss[j]) ∧ Hid (FillB wr gt K k (ss.map val)) ∧ Hid (BB w wr gf bf (.slice af lf cf) (.slice ag lg cg) x)) (fun t _ => 0 - (intOf t).toNat)
    case atStart => exact ⟨0, Nat.zero_le _, rfl, (fun j _ h => absurd h (Nat.not_lt_zero _)), HF4, HS4⟩
    case round =>
      clear HF4 HS4
      obtain ⟨k, hk, rfl, HA, HF, HS⟩ := hrel
      by_cases hkn : k < 0
      · exact absurd hkn (Nat.not_lt_zero _)
      · have HKK : Hid (k = K) := by show k = K; have := unhide HK0; omega
        have hkI : ¬ (k : Int) < (0 : Int) := by omega
        have HALL : Hid (∀ t ∈ ss, goodS t) := fun t ht => by
          obtain ⟨j, hj, rfl⟩ := List.getElem_of_mem ht
          exact unhide HA j hj (by have := unhide HKK; have := unhide HKL; omega)
        have HRN : Hid (RowN wr (.slice (some ⟨gt, 0, none⟩) K K) (ss.map val)) := by
          have h := unhide HF
          rw [unhide HKK] at h
          exact h.rowN (by rw [List.length_map, unhide HKL]) (by omega)
        have HPO : Hid (∀ n ∈ ss.map val, 0 < n) := fun n hn => by
          obtain ⟨t, ht, rfl⟩ := List.mem_map.1 hn
          exact (goodS_val (unhide HALL t ht)).1
        have HSM : Hid (∀ n ∈ ss.map val, n < 1000000000 ^ 67) := fun n hn => by
          obtain ⟨t, ht, rfl⟩ := List.mem_map.1 hn
          exact Nat.lt_of_lt_of_le (goodS_val (unhide HALL t ht)).2 (pow_nine 600 67 (by decide))
        have r0 := (unhide HS).r.c0; have r1 := (unhide HS).r.c1; have rf0 := (unhide HS).r.f0; have rf1 := (unhide HS).r.f1
        by_cases hbg : (Cub.un (ss.map val)).2.1 < 10 ^ 600
        · have HR3 := hide (unhide HOK (unhide HALL) hbg)
          have H124 := hide (unfold_ok _ _ wr (unhide HRN) (unhide HPO) (unhide HSM) hbg)
          have HPQ : Hid (∀ W a l c a' l' c', IsBig W (.agg #[.slice a l c]) (Cub.un (ss.map val)).1.1 → IsBig W (.agg #[.slice a' l' c']) (Cub.un (ss.map val)).2.1 → QOf W (.agg #[.bool false, .slice a l c, .slice a' l' c']) (Cub.valQ false (Cub.un (ss.map val)).1.1 (Cub.un (ss.map val)).2.1) 67) := fun W a l c a' l' c' h1 h2 => by
            have g0 := Cub.un_val (ss.map val)
            have g1 := (Cub.un_le (ss.map val) (unhide HPO)).1
            have g2 := Cub.un_mono [] (ss.map val) (unhide HPO)
            have g3 := Nat.lt_of_lt_of_le hbg (pow_nine 600 67 (by decide))
            have g4 := Cub.pr_gcd (ss.map val)
            rw [← g0.1, ← g0.2, Nat.gcd_comm] at g4
            rw [List.nil_append] at g2
            exact pair_q h1 h2 (Nat.lt_of_lt_of_le (by decide) g2) g4 (Nat.lt_of_le_of_lt g1 g3) g3
          have HTE : Hid (∀ W v q, QOf W v q (67 + 67 + 67) → Below w.heap.size w W → Calls Tryz.prog 74 #[v] W fun r w' => r = .returned (.tuple #[.agg #[.string (numT q), .string (denT q)], .int .i64 (errT q)]) ∧ Below W.heap.size W w') := fun W v q h hb => qtell v q _ W h (by decide) ((unhide HTW).later hb)
          obtain ⟨Y, hY⟩ : ∃ Y, Y = Cub.valQ false (Cub.un (ss.map val)).1.1 (Cub.un (ss.map val)).2.1 := ⟨_, rfl⟩
          rw [← hY] at HR3 HPQ
          obtain ⟨N1, hN1⟩ : ∃ N1, N1 = (Cub.un (ss.map val)).1.1 := ⟨_, rfl⟩
          obtain ⟨N2, hN2⟩ : ∃ N2, N2 = (Cub.un (ss.map val)).2.1 := ⟨_, rfl⟩
          rw [← hN1, ← hN2] at HPQ H124
          have HAD : Hid (∀ W u v, QOf W u x 67 → QOf W v Y 67 → Calls Tryz.prog 95 #[u, v] W fun r w' => ∃ v', r = .returned v' ∧ QOf w' v' (x + Y) (67 + 67 + 67) ∧ Below W.heap.size W w') := fun W u v h1 h2 => qadd u v x Y 67 W h1 h2 (by decide)
          clear hY hN1 hN2 hbg r0 r1 rf0 rf1
          go_upto_region 17 with (go_at_call 124; go_must (refine (unhide H124).mono ?_; rintro e w8 ⟨a3, l3, c3, a4, l4, c4, rfl, hn3, hd3, hb8⟩; have HS8 := hide ((unhide HS).later hb8); have HQ8 := hide (And.intro hn3 hd3); clear hn3 hd3 hb8))
          obtain ⟨V9, hV9⟩ : ∃ V9, V9 = (w8.alloc (.cells #[.slice a3 l3 c3] 72)).alloc (.cells #[.slice a4 l4 c4] 72) := ⟨_, rfl⟩
          have HS9 : Hid (BB w V9 gf bf (.slice af lf cf) (.slice ag lg cg) x ∧ Box V9 w8.heap.size (.slice a3 l3 c3) ∧ Box V9 (w8.heap.size + 1) (.slice a4 l4 c4) ∧ IsBig V9 (.agg #[.slice a3 l3 c3]) N1 ∧ IsBig V9 (.agg #[.slice a4 l4 c4]) N2) := by
            have hb : Below w8.heap.size w8 V9 := by rw [hV9]; exact ((Below.refl _ _).alloc (Nat.le_refl _) _).alloc (by simp) _
            exact ⟨(unhide HS8).later hb, by rw [hV9]; exact ⟨by simp [go_sem], by simp [go_sem]⟩, by rw [hV9]; exact ⟨by simp [go_sem], by simp [go_sem]⟩, (unhide HQ8).1.later hb, (unhide HQ8).2.later hb⟩
          rw [← hV9]
          clear hV9 HS HS8 HQ8 HF HA HRN
          obtain ⟨g9, hg9⟩ : ∃ g9, g9 = w8.heap.size := ⟨_, rfl⟩
          obtain ⟨g10, hg10⟩ : ∃ g10, g10 = w8.heap.size + 1 := ⟨_, rfl⟩
          rw [← hg10, ← hg9] at HS9 ⊢
          clear hg9 hg10
          have p0 := (unhide HS9).1.f.c0; have p1 := (unhide HS9).1.f.c1; have p2 := (unhide HS9).1.f.c2; have p3 := (unhide HS9).2.1.c; have p4 := (unhide HS9).2.2.1.c
          go_wp2_with (first
            | (go_at_call 95; go_must (refine (unhide HAD _ _ _ (unhide HS9).1.q (unhide HPQ _ _ _ _ _ _ _ (unhide HS9).2.2.2.1 (unhide HS9).2.2.2.2)).mono ?_; rintro e wa ⟨va, rfl, hqa, hba⟩; have HSA := hide ((unhide HS9).1.later hba); have HQA := hide hqa; clear hqa hba p0 p1 p2 p3 p4))
            | (go_at_call 74; go_must (refine (unhide HTE _ _ _ (unhide HQA) (unhide HSA).below).mono ?_; rintro e wb ⟨rfl, hbb⟩; have HSB := hide ((unhide HSA).later hbb); clear hbb; have r0 := (unhide HSB).r.c0; have r1 := (unhide HSB).r.c1; have rf0 := (unhide HSB).r.f0; have rf1 := (unhide HSB).r.f1)))
          obtain ⟨e1, e2, e3⟩ := unhide HR3
          have hS := (unhide HSB).r.store (.string rn) (.string rd)
          have hb := below_store2 (unhide HSB).below (Nat.le_refl _) (.string rn) (.string rd)
          have v0 := hS.c0; have v1 := hS.c1
          rw [← e1, ← e2, ← e3]
          exact bodyPost_ret (v := .tuple #[.agg #[.string rn, .string rd], .int .i64 re]) (w := store2 wb w.heap.size (.string rn) (.string rd)) (by simp [results, Tryz.results59, go_sem, v0, v1]) rfl ⟨rfl, hb⟩
        · have HB3 := hide (unhide HNO (unhide HALL) hbg)
          have H124 := hide (unfold_no _ _ wr (unhide HRN) (unhide HPO) (unhide HSM) hbg)
          clear hbg r0 r1 rf0 rf1
          go_upto_region 15 with (go_at_call 124; go_must (refine (unhide H124).mono ?_; rintro e w8 ⟨rfl, hb8⟩; have HS8 := hide ((unhide HS).later hb8); clear hb8))
          obtain ⟨V9, hV9⟩ : ∃ V9, V9 = (w8.alloc (.cells #[.slice none 0 0] 72)).alloc (.cells #[.slice none 0 0] 72) := ⟨_, rfl⟩
          have HS9 : Hid (BB w V9 gf bf (.slice af lf cf) (.slice ag lg cg) x) := by
            have hb : Below w8.heap.size w8 V9 := by rw [hV9]; exact ((Below.refl _ _).alloc (Nat.le_refl _) _).alloc (by simp) _
            exact (unhide HS8).later hb
          rw [← hV9]
          clear hV9 HS HS8 HF HA HRN
          have r0 := (unhide HS9).r.c0; have r1 := (unhide HS9).r.c1; have rf0 := (unhide HS9).r.f0; have rf1 := (unhide HS9).r.f1
          go_wp2_with fail
          have hS := (unhide HS9).r.store (.string ⟨#[]⟩) (.string ⟨#[]⟩)
          have hb := below_store2 (unhide HS9).below (Nat.le_refl _) (.string ⟨#[]⟩) (.string ⟨#[]⟩)
          have v0 := hS.c0; have v1 := hS.c1
          obtain ⟨e1, e2, e3⟩ := unhide HB3
          rw [e1, e2, e3]
          exact bodyPost_ret (v := .tuple #[.agg #[.string ⟨#[]⟩, .string ⟨#[]⟩], .int .i64 7]) (w := store2 V9 w.heap.size (.string ⟨#[]⟩) (.string ⟨#[]⟩)) (by simp [results, Tryz.results59, go_sem, v0, v1]) rfl ⟨rfl, hb⟩
  · have HCC := HCE
    have hc2 : ¬ (cap : Int) = 1 := by omega
    clear HCE
    go_upto_region 8 with fail
    go_loopw [33] (fun t wr => ∃ k : Nat, k ≤ K ∧ t = .int .i64 (k : Int) ∧ Hid (∀ j (h : j < ss.length), j < k → goodS ss[j]) ∧ Hid (FillB wr gt K k (ss.map val)) ∧ Hid (BB w wr gf bf (.slice af lf cf) (.slice ag lg cg) x)) (fun t _ => K - (intOf t).toNat)
    case atStart => exact ⟨0, Nat.zero_le _, rfl, (fun j _ h => absurd h (Nat.not_lt_zero _)), HF4, HS4⟩
    case round =>
      clear HF4 HS4
      obtain ⟨k, hk, rfl, HA, HF, HS⟩ := hrel
      by_cases hkn : k < K
      · have hkl : k < ss.length := by have := unhide HKL; omega
        have hkI : (k : Int) < (K : Int) := by omega
        have hk0 : (0 : Int) ≤ (k : Int) := by omega
        obtain ⟨t, ht⟩ : ∃ t, t = ss[k] := ⟨_, rfl⟩
        have c1 : wr.cell? ⟨b0, o0 + 1 + k, none⟩ = some (.string t) := by
          obtain ⟨e1, e2⟩ := unhide HCC k hkl
          rw [(unhide HS).below.cell (p := ⟨b0, o0 + 1 + k, none⟩) e2, e1, ht]
        have HTM : Hid (t ∈ ss) := by rw [ht]; exact List.getElem_mem _
        have H71 := hide (fun W => right_any t W (unhide HSZ t (unhide HTM)))
        by_cases hr : Cub.rightB t.data.toList = true
        · rw [hr] at H71
          by_cases hz : (t.toList == [48]) = true
          · have HB3 := hide (unhide HBAD (fun h => by have h1 := (h t (unhide HTM)).2; rw [hz] at h1; cases h1))
            have r0 := (unhide HS).r.c0; have r1 := (unhide HS).r.c1; have rf0 := (unhide HS).r.f0; have rf1 := (unhide HS).r.f1
            clear ht
            go_wp2_with (go_at_call 71; go_must (refine (unhide H71 _).mono ?_; rintro e w8 ⟨rfl, rfl⟩))
            have hS := (unhide HS).r.store (.string ⟨#[]⟩) (.string ⟨#[]⟩)
            have hb := below_store2 (unhide HS).below (Nat.le_refl _) (.string ⟨#[]⟩) (.string ⟨#[]⟩)
            have v0 := hS.c0; have v1 := hS.c1
            obtain ⟨e1, e2, e3⟩ := unhide HB3
            rw [e1, e2, e3]
            exact bodyPost_ret (v := .tuple #[.agg #[.string ⟨#[]⟩, .string ⟨#[]⟩], .int .i64 3]) (w := store2 _ w.heap.size (.string ⟨#[]⟩) (.string ⟨#[]⟩)) (by simp [results, Tryz.results59, go_sem, v0, v1]) rfl ⟨rfl, hb⟩
          · have hz' : (t.toList == [48]) = false := by simpa using hz
            have HG : Hid (goodS t) := ⟨hr, hz'⟩
            clear hz hr
            have HA2 : Hid (∀ j (h : j < ss.length), j < k + 1 → goodS ss[j]) := fun j h h2 => by
              by_cases e : j = k
              · subst e; rw [← ht]; exact unhide HG
              · exact unhide HA j h (by omega)
            have H73 := hide (fun W => bigT t W (unhide HG).1)
            have HVT : Hid (∀ h' : k < (ss.map val).length, (ss.map val)[k] = val t) := fun h' => by rw [List.getElem_map, ht]
            obtain ⟨qa, ql, qc, d1, d2, _⟩ := (unhide HF).row k (by have := unhide HKL; omega)
            have HD1 := hide (And.intro d1 d2)
            have hkK : (k : Int) < (K : Int) := by have := unhide HKL; omega
            clear ht d1 d2
            go_upto_region 13 with (first
              | (go_at_call 71; go_must (refine (unhide H71 _).mono ?_; rintro e w8 ⟨rfl, rfl⟩))
              | (go_at_call 73; go_must (refine (unhide H73 _).mono ?_; rintro e w9 ⟨at', lt', ct', rfl, hv, hb9⟩; have HF9 := hide ((unhide HF).later hb9); have HS9 := hide ((unhide HS).later hb9); have HV9 := hide hv; have d1 := (hb9.cell (p := ⟨gt, k, none⟩) (unhide HF).lt).trans (unhide HD1).1; have d2 := (hb9.frozen (p := ⟨gt, k, none⟩) (unhide HF).lt).trans (unhide HD1).2; clear hv hb9)))
            have HF10 : Hid (FillB (w9.setCell ⟨gt, k, none⟩ (.slice at' lt' ct')) gt K (k + 1) (ss.map val)) := (unhide HF9).set (by have := unhide HKL; omega) (fun h' => by rw [unhide HVT h']; exact unhide HV9)
            have HS10 : Hid (BB w (w9.setCell ⟨gt, k, none⟩ (.slice at' lt' ct')) gf bf (.slice af lf cf) (.slice ag lg cg) x) := (unhide HS9).cell (p := ⟨gt, k, none⟩) _ d1 (sl_no _ _ _) (by have := (unhide HGT).2; show gt ≠ w.heap.size; omega) (by have := (unhide HGT).1; show gt ≠ gf; omega) (by have := (unhide HGT).2; show w.heap.size ≤ gt; omega)
            generalize w9.setCell ⟨gt, k, none⟩ (.slice at' lt' ct') = W10 at *
            clear d1 d2 HF9 HS9 HV9 HF HS HA
            go_wp2_with fail
            go_roundw
            case rel => exact ⟨k + 1, by omega, by go_num, HA2, HF10, HS10⟩
            case measure => simp [intOf]; omega
        · have hr' : Cub.rightB t.data.toList = false := by simpa using hr
          have HB3 := hide (unhide HBAD (fun h => hr (h t (unhide HTM)).1))
          rw [hr'] at H71
          have r0 := (unhide HS).r.c0; have r1 := (unhide HS).r.c1; have rf0 := (unhide HS).r.f0; have rf1 := (unhide HS).r.f1
          clear ht hr hr'
          go_wp2_with (go_at_call 71; go_must (refine (unhide H71 _).mono ?_; rintro e w8 ⟨rfl, rfl⟩))
          have hS := (unhide HS).r.store (.string ⟨#[]⟩) (.string ⟨#[]⟩)
          have hb := below_store2 (unhide HS).below (Nat.le_refl _) (.string ⟨#[]⟩) (.string ⟨#[]⟩)
          have v0 := hS.c0; have v1 := hS.c1
          obtain ⟨e1, e2, e3⟩ := unhide HB3
          rw [e1, e2, e3]
          exact bodyPost_ret (v := .tuple #[.agg #[.string ⟨#[]⟩, .string ⟨#[]⟩], .int .i64 3]) (w := store2 _ w.heap.size (.string ⟨#[]⟩) (.string ⟨#[]⟩)) (by simp [results, Tryz.results59, go_sem, v0, v1]) rfl ⟨rfl, hb⟩
      · have HKK : Hid (k = K) := by show k = K; omega
        have hkI : ¬ (k : Int) < (K : Int) := by omega
        have HALL : Hid (∀ t ∈ ss, goodS t) := fun t ht => by
          obtain ⟨j, hj, rfl⟩ := List.getElem_of_mem ht
          exact unhide HA j hj (by have := unhide HKK; have := unhide HKL; omega)
        have HRN : Hid (RowN wr (.slice (some ⟨gt, 0, none⟩) K K) (ss.map val)) := by
          have h := unhide HF
          rw [unhide HKK] at h
          exact h.rowN (by rw [List.length_map, unhide HKL]) (by omega)
        have HPO : Hid (∀ n ∈ ss.map val, 0 < n) := fun n hn => by
          obtain ⟨t, ht, rfl⟩ := List.mem_map.1 hn
          exact (goodS_val (unhide HALL t ht)).1
        have HSM : Hid (∀ n ∈ ss.map val, n < 1000000000 ^ 67) := fun n hn => by
          obtain ⟨t, ht, rfl⟩ := List.mem_map.1 hn
          exact Nat.lt_of_lt_of_le (goodS_val (unhide HALL t ht)).2 (pow_nine 600 67 (by decide))
        have r0 := (unhide HS).r.c0; have r1 := (unhide HS).r.c1; have rf0 := (unhide HS).r.f0; have rf1 := (unhide HS).r.f1
        by_cases hbg : (Cub.un (ss.map val)).2.1 < 10 ^ 600
        · have HR3 := hide (unhide HOK (unhide HALL) hbg)
          have H124 := hide (unfold_ok _ _ wr (unhide HRN) (unhide HPO) (unhide HSM) hbg)
          have HPQ : Hid (∀ W a l c a' l' c', IsBig W (.agg #[.slice a l c]) (Cub.un (ss.map val)).1.1 → IsBig W (.agg #[.slice a' l' c']) (Cub.un (ss.map val)).2.1 → QOf W (.agg #[.bool false, .slice a l c, .slice a' l' c']) (Cub.valQ false (Cub.un (ss.map val)).1.1 (Cub.un (ss.map val)).2.1) 67) := fun W a l c a' l' c' h1 h2 => by
            have g0 := Cub.un_val (ss.map val)
            have g1 := (Cub.un_le (ss.map val) (unhide HPO)).1
            have g2 := Cub.un_mono [] (ss.map val) (unhide HPO)
            have g3 := Nat.lt_of_lt_of_le hbg (pow_nine 600 67 (by decide))
            have g4 := Cub.pr_gcd (ss.map val)
            rw [← g0.1, ← g0.2, Nat.gcd_comm] at g4
            rw [List.nil_append] at g2
            exact pair_q h1 h2 (Nat.lt_of_lt_of_le (by decide) g2) g4 (Nat.lt_of_le_of_lt g1 g3) g3
          have HTE : Hid (∀ W v q, QOf W v q (67 + 67 + 67) → Below w.heap.size w W → Calls Tryz.prog 74 #[v] W fun r w' => r = .returned (.tuple #[.agg #[.string (numT q), .string (denT q)], .int .i64 (errT q)]) ∧ Below W.heap.size W w') := fun W v q h hb => qtell v q _ W h (by decide) ((unhide HTW).later hb)
          obtain ⟨Y, hY⟩ : ∃ Y, Y = Cub.valQ false (Cub.un (ss.map val)).1.1 (Cub.un (ss.map val)).2.1 := ⟨_, rfl⟩
          rw [← hY] at HR3 HPQ
          obtain ⟨N1, hN1⟩ : ∃ N1, N1 = (Cub.un (ss.map val)).1.1 := ⟨_, rfl⟩
          obtain ⟨N2, hN2⟩ : ∃ N2, N2 = (Cub.un (ss.map val)).2.1 := ⟨_, rfl⟩
          rw [← hN1, ← hN2] at HPQ H124
          have HAD : Hid (∀ W u v, QOf W u x 67 → QOf W v Y 67 → Calls Tryz.prog 95 #[u, v] W fun r w' => ∃ v', r = .returned v' ∧ QOf w' v' (x + Y) (67 + 67 + 67) ∧ Below W.heap.size W w') := fun W u v h1 h2 => qadd u v x Y 67 W h1 h2 (by decide)
          clear hY hN1 hN2 hbg r0 r1 rf0 rf1
          go_upto_region 17 with (go_at_call 124; go_must (refine (unhide H124).mono ?_; rintro e w8 ⟨a3, l3, c3, a4, l4, c4, rfl, hn3, hd3, hb8⟩; have HS8 := hide ((unhide HS).later hb8); have HQ8 := hide (And.intro hn3 hd3); clear hn3 hd3 hb8))
          obtain ⟨V9, hV9⟩ : ∃ V9, V9 = (w8.alloc (.cells #[.slice a3 l3 c3] 72)).alloc (.cells #[.slice a4 l4 c4] 72) := ⟨_, rfl⟩
          have HS9 : Hid (BB w V9 gf bf (.slice af lf cf) (.slice ag lg cg) x ∧ Box V9 w8.heap.size (.slice a3 l3 c3) ∧ Box V9 (w8.heap.size + 1) (.slice a4 l4 c4) ∧ IsBig V9 (.agg #[.slice a3 l3 c3]) N1 ∧ IsBig V9 (.agg #[.slice a4 l4 c4]) N2) := by
            have hb : Below w8.heap.size w8 V9 := by rw [hV9]; exact ((Below.refl _ _).alloc (Nat.le_refl _) _).alloc (by simp) _
            exact ⟨(unhide HS8).later hb, by rw [hV9]; exact ⟨by simp [go_sem], by simp [go_sem]⟩, by rw [hV9]; exact ⟨by simp [go_sem], by simp [go_sem]⟩, (unhide HQ8).1.later hb, (unhide HQ8).2.later hb⟩
          rw [← hV9]
          clear hV9 HS HS8 HQ8 HF HA HRN
          obtain ⟨g9, hg9⟩ : ∃ g9, g9 = w8.heap.size := ⟨_, rfl⟩
          obtain ⟨g10, hg10⟩ : ∃ g10, g10 = w8.heap.size + 1 := ⟨_, rfl⟩
          rw [← hg10, ← hg9] at HS9 ⊢
          clear hg9 hg10
          have p0 := (unhide HS9).1.f.c0; have p1 := (unhide HS9).1.f.c1; have p2 := (unhide HS9).1.f.c2; have p3 := (unhide HS9).2.1.c; have p4 := (unhide HS9).2.2.1.c
          go_wp2_with (first
            | (go_at_call 95; go_must (refine (unhide HAD _ _ _ (unhide HS9).1.q (unhide HPQ _ _ _ _ _ _ _ (unhide HS9).2.2.2.1 (unhide HS9).2.2.2.2)).mono ?_; rintro e wa ⟨va, rfl, hqa, hba⟩; have HSA := hide ((unhide HS9).1.later hba); have HQA := hide hqa; clear hqa hba p0 p1 p2 p3 p4))
            | (go_at_call 74; go_must (refine (unhide HTE _ _ _ (unhide HQA) (unhide HSA).below).mono ?_; rintro e wb ⟨rfl, hbb⟩; have HSB := hide ((unhide HSA).later hbb); clear hbb; have r0 := (unhide HSB).r.c0; have r1 := (unhide HSB).r.c1; have rf0 := (unhide HSB).r.f0; have rf1 := (unhide HSB).r.f1)))
          obtain ⟨e1, e2, e3⟩ := unhide HR3
          have hS := (unhide HSB).r.store (.string rn) (.string rd)
          have hb := below_store2 (unhide HSB).below (Nat.le_refl _) (.string rn) (.string rd)
          have v0 := hS.c0; have v1 := hS.c1
          rw [← e1, ← e2, ← e3]
          exact bodyPost_ret (v := .tuple #[.agg #[.string rn, .string rd], .int .i64 re]) (w := store2 wb w.heap.size (.string rn) (.string rd)) (by simp [results, Tryz.results59, go_sem, v0, v1]) rfl ⟨rfl, hb⟩
        · have HB3 := hide (unhide HNO (unhide HALL) hbg)
          have H124 := hide (unfold_no _ _ wr (unhide HRN) (unhide HPO) (unhide HSM) hbg)
          clear hbg r0 r1 rf0 rf1
          go_upto_region 15 with (go_at_call 124; go_must (refine (unhide H124).mono ?_; rintro e w8 ⟨rfl, hb8⟩; have HS8 := hide ((unhide HS).later hb8); clear hb8))
          obtain ⟨V9, hV9⟩ : ∃ V9, V9 = (w8.alloc (.cells #[.slice none 0 0] 72)).alloc (.cells #[.slice none 0 0] 72) := ⟨_, rfl⟩
          have HS9 : Hid (BB w V9 gf bf (.slice af lf cf) (.slice ag lg cg) x) := by
            have hb : Below w8.heap.size w8 V9 := by rw [hV9]; exact ((Below.refl _ _).alloc (Nat.le_refl _) _).alloc (by simp) _
            exact (unhide HS8).later hb
          rw [← hV9]
          clear hV9 HS HS8 HF HA HRN
          have r0 := (unhide HS9).r.c0; have r1 := (unhide HS9).r.c1; have rf0 := (unhide HS9).r.f0; have rf1 := (unhide HS9).r.f1
          go_wp2_with fail
          have hS := (unhide HS9).r.store (.string ⟨#[]⟩) (.string ⟨#[]⟩)
          have hb := below_store2 (unhide HS9).below (Nat.le_refl _) (.string ⟨#[]⟩) (.string ⟨#[]⟩)
          have v0 := hS.c0; have v1 := hS.c1
          obtain ⟨e1, e2, e3⟩ := unhide HB3
          rw [e1, e2, e3]
          exact bodyPost_ret (v := .tuple #[.agg #[.string ⟨#[]⟩, .string ⟨#[]⟩], .int .i64 7]) (w := store2 V9 w.heap.size (.string ⟨#[]⟩) (.string ⟨#[]⟩)) (by simp [results, Tryz.results59, go_sem, v0, v1]) rfl ⟨rfl, hb⟩

end Go.Proofs.YtndhinoomlofgaaGreatDoor

namespace Go.Proofs.YtndhinoomlofgaaGreatDoor
open Go.RowKit

theorem goodS_tx {s : ByteArray} (h : goodS s) : s = tx (val s) := by
  obtain ⟨n, hn, rfl⟩ := tb_of h.1
  have e : val (tb n) = n := (tb_right n hn).2
  rw [e, tx_tb n hn]
end Go.Proofs.YtndhinoomlofgaaGreatDoor

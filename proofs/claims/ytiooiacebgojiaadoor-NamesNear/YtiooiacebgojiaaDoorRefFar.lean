/- The document's Far at every two texts. -/
import Derived.Test.YtiooiacebgojiaaDoorFarMem
import Derived.Test.YtiooiacebgojiaaDoorLike
import Derived.Test.YtiooiacebgojiaaDoorWord
import Derived.Test.YtiooiacebgojiaaDoorFar
import Derived.OwnWalk
import Derived.BigRegion
import Derived.BigQuiet
import Derived.Deep.RegionHeld3
import Derived.Deep.Cut
import Derived.Deep.CutRange
namespace Go.Proofs.YtiooiacebgojiaaDoor
open Go.RowKit

theorem info76 : (Tryd.prog.info? 76).map (fun i => (i.zero, i.size, i.bytes)) = some (some (.slice none 0 0), 1, 24) := by kernel_rfl
theorem info3 : (Tryd.prog.info? 3).map (fun i => (i.zero, i.size, i.bytes)) = some (some (.int .i64 0), 1, 8) := by kernel_rfl
theorem rowNil (n : Nat) : (madeCells (Value.slice none 0 0).cells (n * 1)).toList = List.replicate n (.slice none 0 0) := by
  rw [show (Value.slice none 0 0).cells = #[Value.slice none 0 0] from rfl, toList_madeCells_one]
  simp
theorem rowZero (n : Nat) : (madeCells (Value.int .i64 0).cells (n * 1)).toList = ints (List.replicate n 0) := by
  rw [show (Value.int .i64 0).cells = #[Value.int .i64 0] from rfl, toList_madeCells_one]
  simp [ints]
theorem runes_shape2 {w : World} {B : Nat} {v : Value} {s : ByteArray} (h : w.ownsRow B 52 5 v (places s 0).length (runeRow s (places s 0))) : ∃ pa ca, v = .slice pa (places s 0).length ca ∧ (0 < (places s 0).length → ∃ g, pa = some ⟨g, 0, none⟩ ∧ RunesIn w g s) := by
  rcases runes_shape h with ⟨h0, a, c, rfl⟩ | ⟨_, g, cap, rfl, hin⟩
  · have e : (places s 0).length = 0 := by rw [places_end s 0 (by omega)]; rfl
    rw [e]
    exact ⟨a, c, rfl, fun h => absurd h (by omega)⟩
  · exact ⟨_, _, rfl, fun _ => ⟨g, rfl, hin⟩⟩
theorem OutS.first {w2 w3 : World} {n m : Nat} {D : Nat → Nat → Int} (hown : Blk w3 w2.heap.size 76 (List.replicate (n + 1) (.slice none 0 0))) (hb : Below w2.heap.size w2 w3) : OutS w3 w2 w2.heap.size n m 0 D (List.replicate (n + 1) (.slice none 0 0)) :=
  ⟨List.length_replicate .., hown, Nat.le_refl _, fun i' h _ => absurd h (by omega), hb⟩
/-- The cells of the table that a place's number is made of. -/
theorem InS.cells {W w2 : World} {G n m i j : Nat} {D : Nat → Nat → Int} {O : List Value} {H : Nat} {R : List Int} (h : InS W w2 G n m (i + 1) D O H R) (hj : j + 1 ≤ m) (hR : R[j]? = some (D (i + 1) j)) {H1 : Nat} (ho : O[i]? = some (.slice (some ⟨H1, 0, none⟩) (m + 1) (m + 1))) :
    W.cell? ⟨G, i + 1, none⟩ = some (.slice (some ⟨H, 0, none⟩) (m + 1) (m + 1)) ∧ W.cell? ⟨G, i, none⟩ = some (.slice (some ⟨H1, 0, none⟩) (m + 1) (m + 1)) ∧ W.cell? ⟨H1, j + 1, none⟩ = some (.int .i64 (D i (j + 1))) ∧ W.cell? ⟨H1, j, none⟩ = some (.int .i64 (D i j)) ∧ W.cell? ⟨H, j, none⟩ = some (.int .i64 (D (i + 1) j)) := by
  obtain ⟨H1', R1, a, _, c, d⟩ := h.prev i (by omega) (by omega)
  have e : H1' = H1 := by rw [a] at ho; simp only [Option.some.injEq, Value.slice.injEq, Addr.mk.injEq] at ho; exact ho.1.1
  subst e
  exact ⟨(h.blkG.cell _).trans h.oi, (h.blkG.cell _).trans a, (c.cell _).trans (ints_get _ _ _ (d _ (by omega))), (c.cell _).trans (ints_get _ _ _ (d _ (by omega))), (h.blkH.cell _).trans (ints_get _ _ _ hR)⟩
theorem InS.own {W w2 : World} {G n m i j : Nat} {D : Nat → Nat → Int} {O : List Value} {H : Nat} {R : List Int} (h : InS W w2 G n m i D O H R) {v : Int} (hR : R[j]? = some v) : W.cell? ⟨H, j, none⟩ = some (.int .i64 v) ∧ W.frozen? ⟨H, j, none⟩ = false := ⟨(h.blkH.cell _).trans (ints_get _ _ _ hR), h.blkH.frozen j⟩
theorem InS.cells2 {W w2 : World} {G n m i j : Nat} {D : Nat → Nat → Int} {O : List Value} {H : Nat} {R : List Int} (h : InS W w2 G n m (i + 1 + 1) D O H R) (hj : j ≤ m) : ∃ H2, W.cell? ⟨G, i, none⟩ = some (.slice (some ⟨H2, 0, none⟩) (m + 1) (m + 1)) ∧ W.cell? ⟨H2, j, none⟩ = some (.int .i64 (D i j)) := by
  obtain ⟨H2, R2, a, _, c, d⟩ := h.prev i (by omega) (by omega)
  exact ⟨H2, (h.blkG.cell _).trans a, (c.cell _).trans (ints_get _ _ _ (d _ hj))⟩
theorem InS.drew {W w2 : World} {G n m i : Nat} {D : Nat → Nat → Int} {O : List Value} {H : Nat} {R : List Int} (h : InS W w2 G n m i D O H R) : InS W.drew w2 G n m i D O H R := ⟨h.lenO, h.blkG, h.lowG, h.oi, h.neG, h.blkH, h.lenR, h.lowH, h.prev, h.prevG, h.below.drew⟩
/-- The step's number, from its three neighbours. -/
theorem step_far (ca cb : Nat → Int) (D : Nat → Nat → Int) (i j : Nat) (h : D (i + 1) (j + 1) = stepF ca cb D (i + 1) (j + 1)) (v2 v3 : Int) (h2 : v2 = if (ca i == cb j) = true then min (min (min (D i (j + 1)) (D (i + 1) j)) (D i j) + 1) (D i j) else min (min (D i (j + 1)) (D (i + 1) j)) (D i j) + 1)
    (h3 : (¬ (0 < i ∧ 0 < j ∧ (ca i == cb (j - 1)) = true ∧ (ca (i - 1) == cb j) = true) ∧ v3 = v2) ∨ ((0 < i ∧ 0 < j ∧ (ca i == cb (j - 1)) = true ∧ (ca (i - 1) == cb j) = true) ∧ v3 = min v2 (D (i - 1) (j - 1) + 1))) : v3 = D (i + 1) (j + 1) := by
  rw [h]
  unfold stepF
  rw [if_neg (by omega)]
  simp only [beq_iff_eq] at h2 h3
  simp only [Nat.add_sub_cancel, show i + 1 - 2 = i - 1 by omega, show j + 1 - 2 = j - 1 by omega, show (1 < i + 1) = (0 < i) by simp, show (1 < j + 1) = (0 < j) by simp]
  have e2 : v2 = min (min (D i (j + 1) + 1) (D (i + 1) j + 1)) (if ca i = cb j then D i j else D i j + 1) := by
    rw [h2]
    split <;> omega
  rcases h3 with ⟨hn, e⟩ | ⟨hy, e⟩
  · rw [if_neg hn, e, e2]
  · rw [if_pos hy, e, e2]
/-- The worlds that come behind one. -/
structure Later (w : World) where
  world : World
  below : Below w.heap.size w world
instance (w : World) : Nonempty (Later w) := ⟨⟨w, Below.refl _ _⟩⟩
/-- A region that draws its order, whose callees make new memory alone: one walk. -/
theorem quiet_later {P : Program} {id : Nat} {Q : Exit → Act → World → Prop} {a : Act} {w : World} {l : List Oper} (hm : P.follows .mixedOrders = true) (hB : Region.lexB .any l.toArray = true)
    (h : wpQuiet P l.toArray (fun w' => ∃ x : Later w, w' = x.world) (fun a' => ∀ w', (∃ x : Later w, w' = x.world) → Q .normal a' w') l a) : (Code.region id l.toArray true).wp P Q a w :=
  wp_region_quiet (C := fun w' => ∃ x : Later w, w' = x.world) hm hB ⟨⟨_, (Below.refl w.heap.size w).drew⟩, rfl⟩ (by simpa using h)
theorem wrap_small (x : Int) (h0 : 0 ≤ x) (h1 : x ≤ 1000) : IntKind.i64.wrap x = x := by
  simp [IntKind.wrap, IntKind.bits, IntKind.signed]
  omega

set_option maxRecDepth 100000 in
set_option maxHeartbeats 8000000 in
theorem refFar_any (a b : ByteArray) (w : World) (hT : Lib.Utf8Tabs 0 1 w) : Calls Tryd.prog 26 #[.string a, .string b] w fun e w' => e = .returned (farV a b) ∧ Below w.heap.size w w' := by
  have HT := hide hT
  clear hT
  by_cases h1 : 40 < a.size
  · have HV : Hid (farV a b = .tuple #[.int .i64 0, .int .i64 4]) := if_pos (.inl h1)
    go_enter Tryd.func26, Tryd.ntmps26
    go_wp2
    go_ret2
    exact ⟨by rw [unhide HV]; rfl, Below.refl _ _⟩
  by_cases h2 : 40 < b.size
  · have HV : Hid (farV a b = .tuple #[.int .i64 0, .int .i64 4]) := if_pos (.inr h2)
    go_enter Tryd.func26, Tryd.ntmps26
    go_wp2
    go_ret2
    exact ⟨by rw [unhide HV]; rfl, Below.refl _ _⟩
  have HV : Hid (farV a b = .tuple #[.int .i64 (farN a b), .int .i64 0]) := if_neg (by omega)
  have HR := hide (refRunes_any a w (by omega) (unhide HT))
  have HR2 := hide (fun W (h : Lib.Utf8Tabs 0 1 W) => refRunes_any b W (by omega) h)
  have hnle : (places a 0).length ≤ 40 := by have := places_len a 0; omega
  have hmle : (places b 0).length ≤ 40 := by have := places_len b 0; omega
  obtain ⟨ca, hca⟩ : ∃ ca : Nat → Int, ca = fun i => (codes a).getD i 0 := ⟨_, rfl⟩
  obtain ⟨cb, hcb⟩ : ∃ cb : Nat → Int, cb = fun i => (codes b).getD i 0 := ⟨_, rfl⟩
  obtain ⟨D, hD⟩ : ∃ D, D = dF ca cb := ⟨_, rfl⟩
  obtain ⟨n, hn⟩ : ∃ n, n = (places a 0).length := ⟨_, rfl⟩
  obtain ⟨m, hm⟩ : ∃ m, m = (places b 0).length := ⟨_, rfl⟩
  have HFN : Hid (farN a b = D n m) := by
    show _ = _
    unfold farN
    rw [hD, hca, hcb, hn, hm]
    unfold codes
    rw [List.length_map, List.length_map]
  have HST : Hid (∀ i j, D i j = stepF ca cb D i j) := fun i j => by rw [hD]; exact dF_step ca cb i j
  have HLO : Hid (∀ i j, 0 ≤ D i j ∧ D i j ≤ ((i + j : Nat) : Int)) := fun i j => by rw [hD]; exact ⟨dF_lo ca cb _ i j (Nat.le_refl _), dF_hi ca cb _ i j (Nat.le_refl _)⟩
  have HCA : Hid (∀ i, i < n → ∃ p, (places a 0)[i]? = some p ∧ p < a.size ∧ ca i = codeAt a p) := fun i hi => by
    rw [hn] at hi
    refine ⟨(places a 0)[i], List.getElem?_eq_getElem hi, placesF_lt a _ _ _ (List.getElem_mem hi), ?_⟩
    rw [hca]; simp [codes, hi]
  have HCB : Hid (∀ i, i < m → ∃ p, (places b 0)[i]? = some p ∧ p < b.size ∧ cb i = codeAt b p) := fun i hi => by
    rw [hm] at hi
    refine ⟨(places b 0)[i], List.getElem?_eq_getElem hi, placesF_lt b _ _ _ (List.getElem_mem hi), ?_⟩
    rw [hcb]; simp [codes, hi]
  have HSA := hide (fun (W : World) (B : Nat) v (h : W.ownsRow B 52 5 v (places a 0).length (runeRow a (places a 0))) => runes_shape2 h)
  have HSB := hide (fun (W : World) (B : Nat) v (h : W.ownsRow B 52 5 v (places b 0).length (runeRow b (places b 0))) => runes_shape2 h)
  rw [← hn] at hnle HR HSA
  rw [← hm] at hmle HR2 HSB
  clear hca hcb hD hn hm
  obtain ⟨i76, q76, z760, z761, z762⟩ := info_parts info76
  obtain ⟨i3, q3, z30, z31, z32⟩ := info_parts info3
  go_enter Tryd.func26, Tryd.ntmps26
  go_upto_region 4 with (first
    | (go_at_call_of 30 (Value.string a); refine (unhide HR).mono ?_; rintro e w1 ⟨v1, rfl, ho1, hb1⟩; obtain ⟨pa, cpa, rfl, hA1⟩ := unhide HSA _ _ _ ho1; have HA1 := hide hA1; have HB1 := hide hb1; have HT1 := hide (tabs_later (unhide HT) hb1); clear HR hb1 ho1 hA1)
    | (go_at_call_of 30 (Value.string b); refine (unhide HR2 w1 (unhide HT1)).mono ?_; rintro e w2 ⟨v2, rfl, ho2, hb2⟩; obtain ⟨pb, cpb, rfl, hA2⟩ := unhide HSB _ _ _ ho2; have HA2 := hide hA2; have HB2 := hide ((unhide HB1).trans (hb2.mono (unhide HB1).size)); have HA1' : Hid (0 < n → ∃ g, pa = some ⟨g, 0, none⟩ ∧ RunesIn w2 g a) := (fun h => by obtain ⟨g, e, hr⟩ := unhide HA1 h; exact ⟨g, e, hr.later hb2⟩); clear HR2 hb2 ho2 hA2 HA1))
  go_upto_region 5 with (at_make; go_must (refine wpList_make_full _ rfl _ _ 75 rfl w2.heap.size 76 i76 (.slice none 0 0) 1 Tryd.underlying75 q76 z760 z761 .i64 .i64 _ _ (n + 1) rfl rfl (by omega) (by omega) (by rw [z762]; omega) (by unfold maxLen; omega) (Nat.le_refl _) ?_; intro w3 hown3 hgrow3; rw [rowNil] at hown3; have HO3 : Hid (OutS w3 w2 w2.heap.size n m 0 D (List.replicate (n + 1) (.slice none 0 0))) := OutS.first (blk_of_own hown3) ((Below.refl w2.heap.size w2).grown hgrow3 (Nat.le_refl _) (fun k hk => by cases hk)); clear hown3 hgrow3))
  go_upto_region 6 with fail
  go_loopw [30] (fun v wr => ∃ (i : Nat) (O : List Value), v = .int .i64 (i : Int) ∧ i ≤ n + 1 ∧ Hid (OutS wr w2 w2.heap.size n m i D O)) (fun v _ => n + 1 - (intOf v).toNat)
  case atStart => exact ⟨0, _, rfl, by omega, HO3⟩
  case round =>
    obtain ⟨i, O, rfl, hi, HO⟩ := hrel
    by_cases hlt : i < n + 1
    · have hwr : w2.heap.size ≤ wr.heap.size := (unhide HO).below.size
      go_upto_region 9 with (at_make; go_must (refine wpList_make_full _ rfl _ _ 76 rfl wr.heap.size 3 i3 (.int .i64 0) 1 Tryd.underlying76 q3 z30 z31 .i64 .i64 _ _ (m + 1) rfl rfl (by omega) (by omega) (by rw [z32]; omega) (by unfold maxLen; omega) (Nat.le_refl _) ?_; intro w4 hown4 hgrow4; rw [rowZero] at hown4; have HB4 := hide ((Below.refl wr.heap.size wr).grown hgrow4 (Nat.le_refl _) (fun k hk => by cases hk)); have HK4 := hide (blk_of_own hown4); have HG4 := hide ((unhide HO).blkG.later (unhide HB4)); have hg4 : ∃ v, w4.cell? ⟨w2.heap.size, i, none⟩ = some v := (by rw [(unhide HG4).cell]; exact ⟨_, List.getElem?_eq_getElem (by rw [(unhide HO).lenO]; exact hlt)⟩); obtain ⟨vv, hgv⟩ := hg4; have hgf := (unhide HG4).frozen i; clear hown4 hgrow4))
      obtain ⟨W5, hW5⟩ : ∃ W5, W5 = w4.setCell ⟨w2.heap.size, i, none⟩ (.slice (some ⟨wr.heap.size, 0, none⟩) (m + 1) (m + 1)) := ⟨_, rfl⟩
      rw [← hW5]
      have HI5 : Hid (InS W5 w2 w2.heap.size n m i D (O.set i (.slice (some ⟨wr.heap.size, 0, none⟩) (m + 1) (m + 1))) wr.heap.size (List.replicate (m + 1) 0)) := by
        show InS W5 _ _ _ _ _ _ _ _ _
        rw [hW5]
        exact (unhide HO).row (by omega) (unhide HB4) _ (List.length_replicate ..) (unhide HK4)
      clear hW5 HO HB4 HK4 HG4 hgv hgf
      generalize O.set i (.slice (some ⟨wr.heap.size, 0, none⟩) (m + 1) (m + 1)) = O5 at *
      generalize wr.heap.size = H at *
      have cG5 := ((unhide HI5).blkG.cell i).trans (unhide HI5).oi
      go_upto_region 10 with fail
      clear cG5
      go_loopw [45] (fun v wx => ∃ (j : Nat) (R : List Int), v = .int .i64 (j : Int) ∧ j ≤ m + 1 ∧ Hid (InS wx w2 w2.heap.size n m i D O5 H R) ∧ Hid (∀ j', j' < j → R[j']? = some (D i j'))) (fun v _ => m + 1 - (intOf v).toNat)
      case atStart => exact ⟨0, _, rfl, by omega, HI5, fun j' h => absurd h (by omega)⟩
      case round =>
        clear HI5
        obtain ⟨j, R, rfl, hj, HI, HRR⟩ := hrel
        by_cases hjl : j < m + 1
        · have hjR : j < R.length := by rw [(unhide HI).lenR]; exact hjl
          have HNX : Hid (∀ W v, InS W w2 w2.heap.size n m i D O5 H (R.set j v) → v = D i j → ∀ j', j' < j + 1 → (R.set j v)[j']? = some (D i j')) := by
            intro W v _ hv j' hj'
            by_cases e : j' = j
            · subst e; rw [List.getElem?_set_self hjR, hv]
            · rw [List.getElem?_set_ne (by omega)]; exact unhide HRR j' (by omega)
          have cGi := ((unhide HI).blkG.cell i).trans (unhide HI).oi
          obtain ⟨xj, hxj⟩ := ints_some R j hjR
          have cHj := ((unhide HI).blkH.cell j).trans hxj
          have fzj := (unhide HI).blkH.frozen j
          clear hxj
          by_cases hi0 : i = 0
          · as_aux_lemma =>
              subst hi0
              have hv : ((j : Nat) : Int) = D 0 j := by rw [unhide HST]; unfold stepF; rw [if_pos (.inl rfl)]; simp
              have HS2 := hide ((unhide HI).set j ((j : Nat) : Int))
              have HN2 := hide (unhide HNX _ _ (unhide HS2) hv)
              clear hv HNX HI HRR
              go_wp2_with fail
              go_roundw
              case rel => exact ⟨j + 1, _, by go_num, by omega, HS2, HN2⟩
              case measure => simp [intOf]; omega
          · have ei0 : ((i : Int) == 0) = false := by rw [beq_eq_false_iff_ne]; omega
            by_cases hj0 : j = 0
            · as_aux_lemma =>
                subst hj0
                have hv : ((i : Nat) : Int) = D i 0 := by rw [unhide HST]; unfold stepF; rw [if_pos (.inr rfl)]; simp
                have HS2 := hide ((unhide HI).set 0 ((i : Nat) : Int))
                have HN2 := hide (unhide HNX _ _ (unhide HS2) hv)
                clear hv HNX HI HRR
                go_wp2_with fail
                go_roundw
                case rel => exact ⟨0 + 1, _, by go_num, by omega, HS2, HN2⟩
                case measure => simp [intOf]
            · have ej0 : ((j : Int) == 0) = false := by rw [beq_eq_false_iff_ne]; omega
              obtain ⟨i1, rfl⟩ : ∃ i1, i = i1 + 1 := ⟨i - 1, by omega⟩
              obtain ⟨j1, rfl⟩ : ∃ j1, j = j1 + 1 := ⟨j - 1, by omega⟩
              obtain ⟨gA, rfl, hinA⟩ := unhide HA1' (by omega)
              obtain ⟨gB, rfl, hinB⟩ := unhide HA2 (by omega)
              have HLG : Hid (∀ x y, x < n → y < m → ∃ (ra fa : Int) (xa : Bool) (pa na rb fb : Int) (xb : Bool) (pb nb : Int), (∀ W, Below w2.heap.size w2 W → Five W gA x ra fa xa pa na ∧ Five W gB y rb fb xb pb nb) ∧ ∀ W, Calls Tryd.prog 51 #[.string a, .agg #[.int .i32 ra, .int .i32 fa, .bool xa, .int .i64 pa, .int .i64 na], .string b, .agg #[.int .i32 rb, .int .i32 fb, .bool xb, .int .i64 pb, .int .i64 nb]] W fun e w' => e = .returned (.bool (ca x == cb y)) ∧ Below W.heap.size W w') := by
                intro x y hx hy
                obtain ⟨p, hgp, hpl, hcp⟩ := unhide HCA x hx
                obtain ⟨q, hgq, hql, hcq⟩ := unhide HCB y hy
                refine ⟨_, _, _, _, _, _, _, _, _, _, fun W hW => ⟨(hinA.later hW).five hgp, (hinB.later hW).five hgq⟩, fun W => ?_⟩
                rw [hcp, hcq]
                exact like_any a b p q hpl hql W
              have HINA := hide (hinA.later (unhide HI).below)
              have HINB := hide (hinB.later (unhide HI).below)
              clear hinA hinB ei0 ej0 hi0 hj0
              obtain ⟨p, hgp, hpl, hcp⟩ := unhide HCA i1 (by omega)
              obtain ⟨q, hgq, hql, hcq⟩ := unhide HCB j1 (by omega)
              have HLK := hide (like_any a b p q hpl hql)
              rw [← hcp, ← hcq] at HLK
              have HFA : Hid (∀ W, Below wr.heap.size wr W → Five W gA i1 ((Utf8.decode a p).1 : Nat) (foldR ((Utf8.decode a p).1 : Nat)) (brokenAt a p) p ((Utf8.decode a p).2 : Nat)) := fun W hW => ((unhide HINA).later hW).five hgp
              have HFB : Hid (∀ W, Below wr.heap.size wr W → Five W gB j1 ((Utf8.decode b q).1 : Nat) (foldR ((Utf8.decode b q).1 : Nat)) (brokenAt b q) q ((Utf8.decode b q).2 : Nat)) := fun W hW => ((unhide HINB).later hW).five hgq
              have HLK2 : Hid (∀ W, Calls Tryd.prog 51 #[.string a, .agg #[.int .i32 ((Utf8.decode a p).1 : Nat), .int .i32 (foldR ((Utf8.decode a p).1 : Nat)), .bool (brokenAt a p), .int .i64 (p : Int), .int .i64 ((Utf8.decode a p).2 : Nat)], .string b, .agg #[.int .i32 ((Utf8.decode b q).1 : Nat), .int .i32 (foldR ((Utf8.decode b q).1 : Nat)), .bool (brokenAt b q), .int .i64 (q : Int), .int .i64 ((Utf8.decode b q).2 : Nat)]] W fun e w' => e = .returned (.bool (ca i1 == cb j1)) ∧ Below W.heap.size W w') := fun W => unhide HLK W
              clear HLK hgp hgq hpl hql hcp hcq
              obtain ⟨ra, hra⟩ : ∃ ra : Int, ra = ((Utf8.decode a p).1 : Nat) := ⟨_, rfl⟩
              obtain ⟨fa, hfa⟩ : ∃ fa : Int, fa = foldR ((Utf8.decode a p).1 : Nat) := ⟨_, rfl⟩
              obtain ⟨xa, hxa⟩ : ∃ xa, xa = brokenAt a p := ⟨_, rfl⟩
              obtain ⟨na, hna⟩ : ∃ na : Int, na = ((Utf8.decode a p).2 : Nat) := ⟨_, rfl⟩
              obtain ⟨rb, hrb⟩ : ∃ rb : Int, rb = ((Utf8.decode b q).1 : Nat) := ⟨_, rfl⟩
              obtain ⟨fb, hfb⟩ : ∃ fb : Int, fb = foldR ((Utf8.decode b q).1 : Nat) := ⟨_, rfl⟩
              obtain ⟨xb, hxb⟩ : ∃ xb, xb = brokenAt b q := ⟨_, rfl⟩
              obtain ⟨nb, hnb⟩ : ∃ nb : Int, nb = ((Utf8.decode b q).2 : Nat) := ⟨_, rfl⟩
              rw [← hfa, ← hra, ← hxa, ← hna] at HFA HLK2
              rw [← hfb, ← hrb, ← hxb, ← hnb] at HFB HLK2
              obtain ⟨A0, A1, A2, A3, A4⟩ := unhide HFA wr (Below.refl _ _)
              obtain ⟨B0, B1, B2, B3, B4⟩ := unhide HFB wr (Below.refl _ _)
              clear hra hfa hxa hna hrb hfb hxb hnb
              have z0 : (0 : Int) ≤ (i1 : Int) := by omega
              have z1 : (i1 : Int) < (n : Int) := by omega
              have z2 : (0 : Int) ≤ (j1 : Int) := by omega
              have z3 : (j1 : Int) < (m : Int) := by omega
              have wr1 : IntKind.i64.wrap ((i1 : Int) + 1 - 1) = (i1 : Int) := by rw [Int.add_sub_cancel]; exact wrap_small _ (by omega) (by omega)
              have wr2 : IntKind.i64.wrap ((j1 : Int) + 1 - 1) = (j1 : Int) := by rw [Int.add_sub_cancel]; exact wrap_small _ (by omega) (by omega)
              have wr3 : IntKind.i64.wrap (i1 : Int) = (i1 : Int) := wrap_small _ (by omega) (by omega)
              have wr4 : IntKind.i64.wrap (j1 : Int) = (j1 : Int) := wrap_small _ (by omega) (by omega)
              go_upto_region 12 with fail
              go_cut [11, 45] from 46 to 198 (fun s11 s45 wx => s11 = .bool (ca i1 == cb j1) ∧ s45 = .int .i64 ((j1 : Int) + 1) ∧ Hid (Below wr.heap.size wr wx))
              case first =>
                as_aux_lemma =>
                  generalize (ca i1 == cb j1) = sm at *
                  go_region_held3 (fun w' => w'.cell? ⟨gA, i1 * 5, none⟩ = some (.int .i32 ra) ∧ w'.cell? ⟨gA, i1 * 5 + 1, none⟩ = some (.int .i32 fa) ∧ w'.cell? ⟨gA, i1 * 5 + 2, none⟩ = some (.bool xa) ∧ w'.cell? ⟨gA, i1 * 5 + 3, none⟩ = some (.int .i64 (p : Int)) ∧ w'.cell? ⟨gA, i1 * 5 + 4, none⟩ = some (.int .i64 na) ∧ w'.cell? ⟨gB, j1 * 5, none⟩ = some (.int .i32 rb) ∧ w'.cell? ⟨gB, j1 * 5 + 1, none⟩ = some (.int .i32 fb) ∧ w'.cell? ⟨gB, j1 * 5 + 2, none⟩ = some (.bool xb) ∧ w'.cell? ⟨gB, j1 * 5 + 3, none⟩ = some (.int .i64 (q : Int)) ∧ w'.cell? ⟨gB, j1 * 5 + 4, none⟩ = some (.int .i64 nb)) (first | assumption | (refine ⟨?_, ?_, ?_, ?_, ?_, ?_, ?_, ?_, ?_, ?_⟩ <;> first | assumption | (simp [go_sem, *]; done)) | (simp [go_sem, *]; done)) ((go_at_call 51; refine (unhide HLK2 _).mono ?_; rintro e w7 ⟨rfl, hb7⟩; have HB7 := hide (((Below.refl wr.heap.size wr).drew).trans hb7); obtain ⟨E0, E1, E2, E3, E4⟩ := unhide HFA w7 (unhide HB7); obtain ⟨F0, F1, F2, F3, F4⟩ := unhide HFB w7 (unhide HB7); clear hb7))
                  all_goals go_wp2_with fail
                  all_goals go_meet
                  all_goals exact ⟨rfl, rfl, HB7⟩
              case rest =>
                obtain ⟨hs11, rfl, HBW⟩ := hcut
                obtain ⟨sm, hsm⟩ : ∃ sm, sm = (ca i1 == cb j1) := ⟨_, rfl⟩
                rw [← hsm] at hs11
                subst hs11
                have HSM := hide hsm
                clear hsm
                have HI7 := hide ((unhide HI).later (unhide HBW))
                obtain ⟨H1, _, ho1, hne1, _, _⟩ := (unhide HI).prev i1 (by omega) (by omega)
                have hneG := (unhide HI).neG
                have hR1 := unhide HRR j1 (by omega)
                have HR1 := hide hR1
                have HSTEP := hide (step_far ca cb D i1 j1 (unhide HST _ _))
                obtain ⟨bU0, bU1⟩ := unhide HLO i1 (j1 + 1)
                obtain ⟨bL0, bL1⟩ := unhide HLO (i1 + 1) j1
                obtain ⟨bX0, bX1⟩ := unhide HLO i1 j1
                have hBD : Hid (∀ i j, 0 ≤ D i j ∧ D i j ≤ ((i + j : Nat) : Int)) := HLO
                clear HLO HLK2 A0 A1 A2 A3 A4 B0 B1 B2 B3 B4 cGi cHj fzj HFA HFB
                obtain ⟨t0, t1, t2, t3, t4⟩ := (unhide HI7).cells (by omega) hR1 ho1
                obtain ⟨t5, t6⟩ := (unhide HI7).own (List.getElem?_eq_getElem hjR)
                have HO1 := hide ho1
                clear hR1 ho1
                have y0 : (i1 : Int) + 1 < (n : Int) + 1 := by omega
                have y1 : (i1 : Int) < (n : Int) + 1 := by omega
                have y2 : (j1 : Int) + 1 < (m : Int) + 1 := by omega
                have y3 : (j1 : Int) < (m : Int) + 1 := by omega
                have y4 : (0 : Int) ≤ (i1 : Int) + 1 := by omega
                have y5 : (0 : Int) ≤ (j1 : Int) + 1 := by omega
                have y6 : i1 + 1 < n + 1 := by omega
                have y7 : j1 + 1 < m + 1 := by omega
                have y8 : i1 < n + 1 := by omega
                have y9 : j1 < m + 1 := by omega
                have yA : i1 < n := by omega
                have yB : j1 < m := by omega
                have yC : ¬ H = w2.heap.size := hneG
                have yD : ¬ H = H1 := fun h => hne1 h.symm
                generalize hU : D i1 (j1 + 1) = U at *
                generalize hL : D (i1 + 1) j1 = L at *
                generalize hX : D i1 j1 = X at *
                have HU := hide hU
                have HL := hide hL
                have HX := hide hX
                clear hU hL hX
                generalize R[j1 + 1] = xo at *
                go_upto_region 13 with fail
                go_cut [45] from 46 to 198 (fun s45 wx => s45 = .int .i64 ((j1 : Int) + 1) ∧ Hid (InS wx w2 w2.heap.size n m (i1 + 1) D O5 H (R.set (j1 + 1) (min (min U L) X + 1))))
                case first =>
                  as_aux_lemma =>
                    have HS2 : Hid (∀ v, v = min (min U L) X + 1 → InS (wc.setCell ⟨H, j1 + 1, none⟩ (.int .i64 v)).drew w2 w2.heap.size n m (i1 + 1) D O5 H (R.set (j1 + 1) (min (min U L) X + 1))) := fun v hv => by subst hv; exact ((unhide HI7).set _ _).drew
                    go_region_held3 (fun w' => w'.cell? ⟨w2.heap.size, i1 + 1, none⟩ = some (.slice (some ⟨H, 0, none⟩) (m + 1) (m + 1)) ∧ w'.cell? ⟨w2.heap.size, i1, none⟩ = some (.slice (some ⟨H1, 0, none⟩) (m + 1) (m + 1)) ∧ w'.cell? ⟨H1, j1 + 1, none⟩ = some (.int .i64 U) ∧ w'.cell? ⟨H1, j1, none⟩ = some (.int .i64 X) ∧ w'.cell? ⟨H, j1, none⟩ = some (.int .i64 L)) (first | assumption | (refine ⟨?_, ?_, ?_, ?_, ?_⟩ <;> first | assumption | (simp [go_sem, *]; done)) | (simp [go_sem, *]; done)) (fail)
                    all_goals go_wp2_with fail
                    all_goals go_meet
                    all_goals exact ⟨rfl, unhide HS2 _ (by first | omega | (rw [wrap_small _ (by omega) (by omega)]; omega))⟩
                case rest =>
                  obtain ⟨rfl, HI8⟩ := hcut
                  clear t0 t1 t2 t3 t4 t5 t6
                  obtain ⟨v1, hv1⟩ : ∃ v1, v1 = min (min U L) X + 1 := ⟨_, rfl⟩
                  rw [← hv1] at HI8
                  have hv1b : 0 ≤ v1 ∧ v1 ≤ 100 := by omega
                  obtain ⟨v2, hv2⟩ : ∃ v2, v2 = if sm = true then min v1 X else v1 := ⟨_, rfl⟩
                  have hv2b : 0 ≤ v2 ∧ v2 ≤ 100 := by rw [hv2]; split <;> omega
                  have HV12 : Hid (v2 = if (ca i1 == cb j1) = true then min (min (min U L) X + 1) X else min (min U L) X + 1) := by show _ = _; rw [hv2, hv1, unhide HSM]
                  have hR8 : (R.set (j1 + 1) v1)[j1]? = some L := by rw [List.getElem?_set_ne (by omega)]; exact unhide HR1
                  have hc8 := (unhide HI8).cells (by omega) (hR8.trans (by rw [unhide HL])) (unhide HO1)
                  rw [unhide HU, unhide HX, unhide HL] at hc8
                  obtain ⟨t0, t1, t2, t3, t4⟩ := hc8
                  obtain ⟨t5, t6⟩ := (unhide HI8).own (List.getElem?_set_self hjR)
                  have HV2 := hide hv2
                  clear hv1 hv2 hR8
                  go_upto_if 94 with fail
                  go_cut [45] from 46 to 198 (fun s45 wx => s45 = .int .i64 ((j1 : Int) + 1) ∧ Hid (InS wx w2 w2.heap.size n m (i1 + 1) D O5 H (R.set (j1 + 1) v2)))
                  case first =>
                    as_aux_lemma =>
                      clear HV12 HSM
                      cases sm
                      · have e2 : v1 = v2 := by have h := unhide HV2; simpa using h.symm
                        have HS8 : Hid (InS wc w2 w2.heap.size n m (i1 + 1) D O5 H (R.set (j1 + 1) v2)) := by show InS _ _ _ _ _ _ _ _ _ _; rw [← e2]; exact unhide HI8
                        clear e2
                        go_wp2_with fail
                        go_meet
                        exact ⟨rfl, HS8⟩
                      · have e2 : min v1 X = v2 := by have h := unhide HV2; simpa using h.symm
                        have HS8 : Hid (∀ v, v = min v1 X → InS (wc.setCell ⟨H, j1 + 1, none⟩ (.int .i64 v)).drew w2 w2.heap.size n m (i1 + 1) D O5 H (R.set (j1 + 1) v2)) := fun v hv => by
                          have h := ((unhide HI8).set (j1 + 1) v).drew
                          rw [List.set_set, hv, e2] at h
                          rw [hv, e2]
                          exact h
                        clear e2
                        go_upto_region 15 with fail
                        go_region
                        all_goals go_wp2_with fail
                        all_goals go_meet
                        all_goals exact ⟨rfl, unhide HS8 _ (by omega)⟩
                  case rest =>
                    obtain ⟨rfl, HI9⟩ := hcut
                    clear t0 t1 t2 t3 t4 t5 t6 HI8 HV2
                    obtain ⟨tr, htr⟩ : ∃ tr, tr = (decide (0 < i1) && (decide (0 < j1) && ((ca i1 == cb (j1 - 1)) && (ca (i1 - 1) == cb j1)))) := ⟨_, rfl⟩
                    have HTR := hide htr
                    clear htr
                    go_upto_region 16 with fail
                    obtain ⟨I, hI⟩ : ∃ I : Int, I = ((i1 + 1 : Nat) : Int) := ⟨_, rfl⟩
                    obtain ⟨J, hJ⟩ : ∃ J : Int, J = ((j1 + 1 : Nat) : Int) := ⟨_, rfl⟩
                    have wI1 : IntKind.i64.wrap (I - 1) = (i1 : Int) := by rw [hI, show (((i1 + 1 : Nat) : Int)) - 1 = (i1 : Int) by omega]; exact wrap_small _ (by omega) (by omega)
                    have wJ1 : IntKind.i64.wrap (J - 1) = (j1 : Int) := by rw [hJ, show (((j1 + 1 : Nat) : Int)) - 1 = (j1 : Int) by omega]; exact wrap_small _ (by omega) (by omega)
                    rw [← hI, ← hJ]
                    have HIq := hide hI
                    have HJq := hide hJ
                    clear hI hJ
                    go_cut [45, 153] from 46 to 198 (fun s45 s153 wx => s45 = .int .i64 ((j1 : Int) + 1) ∧ s153 = .bool tr ∧ Hid (InS wx w2 w2.heap.size n m (i1 + 1) D O5 H (R.set (j1 + 1) v2)))
                    case first =>
                      as_aux_lemma =>
                        by_cases hi1 : i1 = 0
                        · have e : tr = false := by rw [unhide HTR, hi1]; rfl
                          have g1 : decide ((1 : Int) < I) = false := by rw [unhide HIq]; simp; omega
                          have E := hide e
                          clear hi1 e
                          go_quiet (fail)
                          go_wp2_with fail
                          go_meet
                          exact ⟨rfl, by rw [unhide E], (unhide HI9).drewN _⟩
                        · have g1 : decide ((1 : Int) < I) = true := by rw [unhide HIq]; simp; omega
                          by_cases hj1 : j1 = 0
                          · have e : tr = false := by rw [unhide HTR, hj1]; simp
                            have g4 : decide ((1 : Int) < J) = false := by rw [unhide HJq]; simp; omega
                            have E := hide e
                            clear hi1 hj1 e
                            go_quiet (fail)
                            go_wp2_with fail
                            go_meet
                            exact ⟨rfl, by rw [unhide E], (unhide HI9).drewN _⟩
                          · have g4 : decide ((1 : Int) < J) = true := by rw [unhide HJq]; simp; omega
                            obtain ⟨i2, hi2⟩ : ∃ i2, i1 = i2 + 1 := ⟨i1 - 1, by omega⟩
                            obtain ⟨j2, hj2⟩ : ∃ j2, j1 = j2 + 1 := ⟨j1 - 1, by omega⟩
                            have htr2 : tr = ((ca i1 == cb j2) && (ca i2 == cb j1)) := by
                              rw [unhide HTR, hi2, hj2]
                              simp
                            obtain ⟨ra, fa, xa, pa, na, rb, fb, xb, pb, nb, hF1, hL1⟩ := unhide HLG i1 j2 (by omega) (by omega)
                            obtain ⟨rc, fc, xc, pc, nc, rd, fd, xd, pd, nd, hF2, hL2⟩ := unhide HLG i2 j1 (by omega) (by omega)
                            have HF1 := hide hF1
                            have HF2 := hide hF2
                            have HL1 := hide hL1
                            have HL2 := hide hL2
                            have HB9 := hide (unhide HI9).below
                            have wI2 : IntKind.i64.wrap (I - 2) = (i2 : Int) := by rw [unhide HIq, show (((i1 + 1 : Nat) : Int)) - 2 = (i2 : Int) by omega]; exact wrap_small _ (by omega) (by omega)
                            have wJ2 : IntKind.i64.wrap (J - 2) = (j2 : Int) := by rw [unhide HJq, show (((j1 + 1 : Nat) : Int)) - 2 = (j2 : Int) by omega]; exact wrap_small _ (by omega) (by omega)
                            have s0 : (0 : Int) ≤ (i2 : Int) := by omega
                            have s1 : (i2 : Int) < (n : Int) := by omega
                            have s2 : (0 : Int) ≤ (j2 : Int) := by omega
                            have s3 : (j2 : Int) < (m : Int) := by omega
                            have s8 : i2 < n := by omega
                            have s9 : j2 < m := by omega
                            clear hF1 hF2 hL1 hL2 hi1 hj1 HTR hi2 hj2
                            have HFW : Hid (∀ x : Later wc, Five x.world gA i1 ra fa xa pa na ∧ Five x.world gB j2 rb fb xb pb nb ∧ Five x.world gA i2 rc fc xc pc nc ∧ Five x.world gB j1 rd fd xd pd nd) := fun x => by
                              have hb := (unhide HB9).trans (x.below.mono (unhide HB9).size)
                              exact ⟨(unhide HF1 x.world hb).1, (unhide HF1 x.world hb).2, (unhide HF2 x.world hb).1, (unhide HF2 x.world hb).2⟩
                            have ca0 : ∀ x : Later wc, x.world.cell? ⟨gA, i1 * 5, none⟩ = some (.int .i32 ra) := fun x => (unhide HFW x).1.1
                            have ca1 : ∀ x : Later wc, x.world.cell? ⟨gA, i1 * 5 + 1, none⟩ = some (.int .i32 fa) := fun x => (unhide HFW x).1.2.1
                            have ca2 : ∀ x : Later wc, x.world.cell? ⟨gA, i1 * 5 + 2, none⟩ = some (.bool xa) := fun x => (unhide HFW x).1.2.2.1
                            have ca3 : ∀ x : Later wc, x.world.cell? ⟨gA, i1 * 5 + 3, none⟩ = some (.int .i64 pa) := fun x => (unhide HFW x).1.2.2.2.1
                            have ca4 : ∀ x : Later wc, x.world.cell? ⟨gA, i1 * 5 + 4, none⟩ = some (.int .i64 na) := fun x => (unhide HFW x).1.2.2.2.2
                            have cb0 : ∀ x : Later wc, x.world.cell? ⟨gB, j2 * 5, none⟩ = some (.int .i32 rb) := fun x => (unhide HFW x).2.1.1
                            have cb1 : ∀ x : Later wc, x.world.cell? ⟨gB, j2 * 5 + 1, none⟩ = some (.int .i32 fb) := fun x => (unhide HFW x).2.1.2.1
                            have cb2 : ∀ x : Later wc, x.world.cell? ⟨gB, j2 * 5 + 2, none⟩ = some (.bool xb) := fun x => (unhide HFW x).2.1.2.2.1
                            have cb3 : ∀ x : Later wc, x.world.cell? ⟨gB, j2 * 5 + 3, none⟩ = some (.int .i64 pb) := fun x => (unhide HFW x).2.1.2.2.2.1
                            have cb4 : ∀ x : Later wc, x.world.cell? ⟨gB, j2 * 5 + 4, none⟩ = some (.int .i64 nb) := fun x => (unhide HFW x).2.1.2.2.2.2
                            have cc0 : ∀ x : Later wc, x.world.cell? ⟨gA, i2 * 5, none⟩ = some (.int .i32 rc) := fun x => (unhide HFW x).2.2.1.1
                            have cc1 : ∀ x : Later wc, x.world.cell? ⟨gA, i2 * 5 + 1, none⟩ = some (.int .i32 fc) := fun x => (unhide HFW x).2.2.1.2.1
                            have cc2 : ∀ x : Later wc, x.world.cell? ⟨gA, i2 * 5 + 2, none⟩ = some (.bool xc) := fun x => (unhide HFW x).2.2.1.2.2.1
                            have cc3 : ∀ x : Later wc, x.world.cell? ⟨gA, i2 * 5 + 3, none⟩ = some (.int .i64 pc) := fun x => (unhide HFW x).2.2.1.2.2.2.1
                            have cc4 : ∀ x : Later wc, x.world.cell? ⟨gA, i2 * 5 + 4, none⟩ = some (.int .i64 nc) := fun x => (unhide HFW x).2.2.1.2.2.2.2
                            have cd0 : ∀ x : Later wc, x.world.cell? ⟨gB, j1 * 5, none⟩ = some (.int .i32 rd) := fun x => (unhide HFW x).2.2.2.1
                            have cd1 : ∀ x : Later wc, x.world.cell? ⟨gB, j1 * 5 + 1, none⟩ = some (.int .i32 fd) := fun x => (unhide HFW x).2.2.2.2.1
                            have cd2 : ∀ x : Later wc, x.world.cell? ⟨gB, j1 * 5 + 2, none⟩ = some (.bool xd) := fun x => (unhide HFW x).2.2.2.2.2.1
                            have cd3 : ∀ x : Later wc, x.world.cell? ⟨gB, j1 * 5 + 3, none⟩ = some (.int .i64 pd) := fun x => (unhide HFW x).2.2.2.2.2.2.1
                            have cd4 : ∀ x : Later wc, x.world.cell? ⟨gB, j1 * 5 + 4, none⟩ = some (.int .i64 nd) := fun x => (unhide HFW x).2.2.2.2.2.2.2
                            clear HF1 HF2 HFW HB9
                            cases he1 : (ca i1 == cb j2)
                            · rw [he1] at HL1 htr2
                              have E := hide (show tr = false from htr2)
                              clear he1 htr2 HL2
                              refine quiet_later (by kernel_rfl) (by kernel_rfl) ?_
                              repeat (go_big_quiet_step ((rename_i xx; refine (unhide HL1 _).mono ?_; rintro e w9 ⟨rfl, hb9⟩; have hz := xx.below.trans (hb9.mono xx.below.size); first | exact ⟨rfl, ⟨w9, hz⟩, rfl⟩ | exact ⟨rfl, hz⟩ | exact ⟨rfl, w9, hz, rfl⟩)))
                              refine wpQuiet_nil ?_
                              intro _ hw'
                              obtain ⟨xz, hw''⟩ := hw'
                              subst hw''
                              go_wp2_with fail
                              go_meet
                              exact ⟨rfl, by rw [unhide E], (unhide HI9).later xz.below⟩
                            · rw [he1] at HL1 htr2
                              generalize (ca i2 == cb j1) = e2 at *
                              have E := hide (show tr = e2 from htr2)
                              clear he1 htr2
                              refine quiet_later (by kernel_rfl) (by kernel_rfl) ?_
                              iterate 20 (go_big_quiet_step ((rename_i xx; refine (unhide HL1 _).mono ?_; rintro e w9 ⟨rfl, hb9⟩; have hz := xx.below.trans (hb9.mono xx.below.size); first | exact ⟨rfl, ⟨w9, hz⟩, rfl⟩ | exact ⟨rfl, hz⟩ | exact ⟨rfl, w9, hz, rfl⟩)))
                              repeat (go_big_quiet_step ((rename_i xx; refine (unhide HL2 _).mono ?_; rintro e w9 ⟨rfl, hb9⟩; have hz := xx.below.trans (hb9.mono xx.below.size); first | exact ⟨rfl, ⟨w9, hz⟩, rfl⟩ | exact ⟨rfl, hz⟩ | exact ⟨rfl, w9, hz, rfl⟩)))
                              refine wpQuiet_nil ?_
                              intro _ hw'
                              obtain ⟨xz, hw''⟩ := hw'
                              subst hw''
                              go_wp2_with fail
                              go_meet
                              exact ⟨rfl, by rw [unhide E], (unhide HI9).later xz.below⟩
                    case rest =>
                      obtain ⟨rfl, rfl, HI10⟩ := hcut
                      clear HI9 wI1 wJ1
                      rw [unhide HIq, unhide HJq]
                      clear HIq HJq
                      clear I J
                      go_upto_if 153 with fail
                      cases tr
                      · as_aux_lemma =>
                          have hno : ¬ (0 < i1 ∧ 0 < j1 ∧ (ca i1 == cb (j1 - 1)) = true ∧ (ca (i1 - 1) == cb j1) = true) := by
                            rintro ⟨h1, h2, h3, h4⟩
                            have h := unhide HTR
                            rw [h3, h4] at h
                            simp [h1, h2] at h
                          have hv := unhide HSTEP v2 v2 (unhide HV12) (.inl ⟨hno, rfl⟩)
                          have HN2 := hide (unhide HNX _ _ (unhide HI10) hv)
                          clear hv hno HNX HSTEP HV12
                          go_wp2_with fail
                          go_roundw
                          case rel => exact ⟨j1 + 1 + 1, _, by go_num, by omega, HI10, HN2⟩
                          case measure => simp [intOf]; omega
                      · as_aux_lemma =>
                          have hyes : 0 < i1 ∧ 0 < j1 ∧ (ca i1 == cb (j1 - 1)) = true ∧ (ca (i1 - 1) == cb j1) = true := by
                            have h := (unhide HTR).symm
                            rw [Bool.and_eq_true, Bool.and_eq_true, Bool.and_eq_true, decide_eq_true_eq, decide_eq_true_eq] at h
                            exact ⟨h.1, h.2.1, h.2.2.1, h.2.2.2⟩
                          obtain ⟨hp1, hp2, hp3, hp4⟩ := hyes
                          obtain ⟨i2, hi2⟩ : ∃ i2, i1 = i2 + 1 := ⟨i1 - 1, by omega⟩
                          obtain ⟨j2, hj2⟩ : ∃ j2, j1 = j2 + 1 := ⟨j1 - 1, by omega⟩
                          have hv := unhide HSTEP v2 (min v2 (D i2 j2 + 1)) (unhide HV12) (.inr ⟨⟨hp1, hp2, hp3, hp4⟩, by rw [hi2, hj2]; rfl⟩)
                          have hI10 := unhide HI10
                          obtain ⟨q0, q1⟩ := hI10.own (List.getElem?_set_self hjR)
                          have q2 := (hI10.blkG.cell (i1 + 1)).trans hI10.oi
                          obtain ⟨bZ0, bZ1⟩ := unhide hBD i2 j2
                          have HS10 : Hid (∀ v, v = min v2 (D i2 j2 + 1) → InS (wc.setCell ⟨H, j1 + 1, none⟩ (.int .i64 v)).drew w2 w2.heap.size n m (i1 + 1) D O5 H (R.set (j1 + 1) (min v2 (D i2 j2 + 1)))) := fun v hv => by
                            have h := (hI10.set (j1 + 1) v).drew
                            rw [List.set_set, hv] at h
                            rw [hv]
                            exact h
                          have HN2 : Hid (∀ j', j' < j1 + 1 + 1 → (R.set (j1 + 1) (min v2 (D i2 j2 + 1)))[j']? = some (D (i1 + 1) j')) := unhide HNX _ _ (unhide HS10 _ rfl) hv
                          have hc2 : ∃ H2, wc.cell? ⟨w2.heap.size, i2, none⟩ = some (.slice (some ⟨H2, 0, none⟩) (m + 1) (m + 1)) ∧ wc.cell? ⟨H2, j2, none⟩ = some (.int .i64 (D i2 j2)) := by
                            rw [hi2] at hI10
                            exact hI10.cells2 (by omega)
                          obtain ⟨H2, q3, q4⟩ := hc2
                          have ei : (i1 : Int) + 1 - 2 = (i2 : Int) := by omega
                          have ej : (j1 : Int) + 1 - 2 = (j2 : Int) := by omega
                          have li : i2 < i1 := by omega
                          have lj : j2 < j1 := by omega
                          generalize D i2 j2 = Z at *
                          clear hv hI10 HNX HSTEP HV12 hp1 hp2 hp3 hp4 hi2 hj2 HTR HSM hBD HLG bU0 bU1 bL0 bL1 bX0 bX1 hv1b wr1 wr2 wr3 wr4
                          go_upto_region 17 with fail
                          go_region
                          all_goals go_wp2_with fail
                          all_goals go_roundw
                          case rel => exact ⟨j1 + 1 + 1, _, by go_num, by omega, unhide HS10 _ (by omega), HN2⟩
                          case measure => simp [intOf]; omega
        · obtain rfl : j = m + 1 := by omega
          have HS2 := hide ((unhide HI).out (fun j' h => unhide HRR j' (by omega)))
          clear HI HRR
          go_wp2_with fail
          go_roundw
          case rel => exact ⟨i + 1, _, by go_num, by omega, HS2⟩
          case measure => simp [intOf]; omega
    · obtain rfl : i = n + 1 := by omega
      obtain ⟨H1, R1, e1, _, hb1, hd1⟩ := (unhide HO).prev n (by omega) (by omega)
      have cG := ((unhide HO).blkG.cell n).trans e1
      have cH := (hb1.cell m).trans (ints_get _ _ _ (hd1 m (Nat.le_refl _)))
      have HBO := hide ((unhide HB2).trans ((unhide HO).below.mono (unhide HB2).size))
      clear e1 hb1 hd1 HO
      go_wp2_with fail
      go_ret2
      exact ⟨by rw [unhide HV, unhide HFN]; rfl, unhide HBO⟩
end Go.Proofs.YtiooiacebgojiaaDoor

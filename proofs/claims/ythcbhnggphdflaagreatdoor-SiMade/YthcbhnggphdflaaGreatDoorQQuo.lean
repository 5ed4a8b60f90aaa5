/- Frac.Quo. -/
import Derived.Test.YthcbhnggphdflaaGreatDoorDimMem
import Derived.Test.YthcbhnggphdflaaGreatDoorCopy
import Derived.Deep.RegionHeld3
import Derived.Laws.Tables
import Derived.Laws.CopyOwn
import Derived.Laws.ResultCell
import Derived.Test.YthcbhnggphdflaaGreatDoorPower
import Derived.Test.YthcbhnggphdflaaGreatDoorRead
import Derived.Test.YthcbhnggphdflaaGreatDoorRMul
namespace Go.Proofs.YthcbhnggphdflaaGreatDoor.Dm
open Go.RowKit

set_option maxRecDepth 100000 in
set_option maxHeartbeats 1000000 in
theorem mul_any (b o n c : Nat) (X : Nat → Nat → Int) (w : World) (hn : n ≤ 9223372036854775807) (hd : Dims w b o n X) : Calls Tryz.prog 17 #[.slice (some ⟨b, o, none⟩) n c] w fun e w' => e = .returned (.tuple #[.agg #[.int .i64 (sel (allB X n && rightB (sumL X n)) (sumD X n 0)), .int .i64 (sel (allB X n && rightB (sumL X n)) (sumD X n 1)), .int .i64 (sel (allB X n && rightB (sumL X n)) (sumD X n 2)), .int .i64 (sel (allB X n && rightB (sumL X n)) (sumD X n 3)), .int .i64 (sel (allB X n && rightB (sumL X n)) (sumD X n 4)), .int .i64 (sel (allB X n && rightB (sumL X n)) (sumD X n 5)), .int .i64 (sel (allB X n && rightB (sumL X n)) (sumD X n 6)), .int .i64 (sel (allB X n && rightB (sumL X n)) (sumD X n 7))], .int .i64 (mulErr X n)]) ∧ Below w.heap.size w w' := by
  have HD := hide hd
  have hbw := hd.1
  clear hd
  go_enter Tryz.func17, Tryz.ntmps17
  go_wp2_with fail
  go_loopw [12] (fun i wr => ∃ k : Nat, i = .int .i64 k ∧ k ≤ n ∧ Hid (allB X k = true) ∧ Hid (Own8 wr w.heap.size [0, 0, 0, 0, 0, 0, 0, 0]) ∧ Hid (Own8 wr (w.heap.size + 1) (sumL X k)) ∧ Hid (Below w.heap.size w wr)) (fun i _ => n - (intOf i).toNat)
  case atStart => exact ⟨0, rfl, Nat.zero_le _, rfl, (Own8.new w [0, 0, 0, 0, 0, 0, 0, 0]).alloc _, (by have h := Own8.new (w.alloc (.cells #[.int .i64 0, .int .i64 0, .int .i64 0, .int .i64 0, .int .i64 0, .int .i64 0, .int .i64 0, .int .i64 0] 26)) [0, 0, 0, 0, 0, 0, 0, 0]; rw [size_alloc] at h; exact h), ((Below.refl _ _).alloc (Nat.le_refl _) _).alloc (by simp) _⟩
  case round =>
    obtain ⟨k, rfl, hk, HA, HR, HP, HB⟩ := hrel
    by_cases hlt : k < n
    · obtain ⟨c0, c1, c2, c3, c4, c5, c6, c7⟩ : wr.cell? ⟨b, o + k * 8, none⟩ = some (.int .i64 (X k 0)) ∧ wr.cell? ⟨b, o + k * 8 + 1, none⟩ = some (.int .i64 (X k 1)) ∧ wr.cell? ⟨b, o + k * 8 + 2, none⟩ = some (.int .i64 (X k 2)) ∧ wr.cell? ⟨b, o + k * 8 + 3, none⟩ = some (.int .i64 (X k 3)) ∧ wr.cell? ⟨b, o + k * 8 + 4, none⟩ = some (.int .i64 (X k 4)) ∧ wr.cell? ⟨b, o + k * 8 + 5, none⟩ = some (.int .i64 (X k 5)) ∧ wr.cell? ⟨b, o + k * 8 + 6, none⟩ = some (.int .i64 (X k 6)) ∧ wr.cell? ⟨b, o + k * 8 + 7, none⟩ = some (.int .i64 (X k 7)) := by
        have h := ((un HD).later (un HB)).2 k hlt
        exact ⟨h 0 (by omega), h 1 (by omega), h 2 (by omega), h 3 (by omega), h 4 (by omega), h 5 (by omega), h 6 (by omega), h 7 (by omega)⟩
      have HC := hide (right_any (X k 0) (X k 1) (X k 2) (X k 3) (X k 4) (X k 5) (X k 6) (X k 7))
      have hsz := (un HP).lt
      have hsz0 : w.heap.size < wr.heap.size := by omega
      cases hr : rightB [X k 0, X k 1, X k 2, X k 3, X k 4, X k 5, X k 6, X k 7] with
      | false =>
        rw [hr] at HC
        have HF := hide (allB_false X k n hlt hr)
        clear hr
        go_wp2_with (first
          | (go_at_call 34; refine (un HC _).mono ?_; rintro e w' ⟨rfl, rfl⟩)
          | (refine store8 rfl (.tmp 2) (.tmp 19) rfl w.heap.size _ [0, 0, 0, 0, 0, 0, 0, 0] rfl rfl rfl rfl (((un HR).alloc _).alloc _) ?_))
        refine bodyPost_ret (v := .tuple #[.agg (cells8 [0, 0, 0, 0, 0, 0, 0, 0]), .int .i64 1]) (res2 Tryz.results17 _ _ w.heap.size _ rfl rfl ((((un HR).alloc _).alloc _).setRow _)) rfl ⟨?_, ?_⟩
        · unfold mulErr; rw [un HF]; rfl
        · exact below_setRow (((un HB).alloc (by omega) _).alloc (by simp; omega) _) (Nat.le_refl _) _
      | true =>
        rw [hr] at HC
        have HA' : Hid (allB X (k + 1) = true) := by show allB X (k + 1) = true; unfold allB; rw [un HA]; exact hr
        clear hr
        go_wp2_with (go_at_call 34; refine (un HC _).mono ?_; rintro e w' ⟨rfl, rfl⟩)
        go_loopw [21] (fun i w2 => ∃ j : Nat, i = .int .i64 j ∧ j ≤ 8 ∧ Hid (Own8 w2 (w.heap.size + 1) (mixL X k j)) ∧ Hid (Own8 w2 w.heap.size [0, 0, 0, 0, 0, 0, 0, 0]) ∧ Hid (Below w.heap.size w w2)) (fun i _ => 8 - (intOf i).toNat)
        case atStart => exact ⟨0, rfl, Nat.zero_le _, ((un HP).alloc _).alloc _, ((un HR).alloc _).alloc _, ((un HB).alloc (by omega) _).alloc (by simp; omega) _⟩
        case round =>
          obtain ⟨j, rfl, hj, HP2, HR2, HB2⟩ := hrel
          clear c0 c1 c2 c3 c4 c5 c6 c7 HC
          by_cases hj8 : j < 8
          · have hix := fun w => idxN (X k 0) (X k 1) (X k 2) (X k 3) (X k 4) (X k 5) (X k 6) (X k 7) j (X k j) (dimAt_get X k j hj8) w
            have hcj := (un HP2).cell j _ (mixL_get X k j hj8)
            have hff := (un HP2).frozen j
            have HP3 : Hid (Own8 (wr.setCell ⟨w.heap.size + 1, j, none⟩ (.int .i64 (wrap64 (sumD X k j + X k j)))) (w.heap.size + 1) (mixL X k (j + 1))) := by
              have h := (un HP2).set j (wrap64 (sumD X k j + X k j))
              rw [mixL_set X k j hj8] at h
              exact h
            have HR3 : Hid (Own8 (wr.setCell ⟨w.heap.size + 1, j, none⟩ (.int .i64 (wrap64 (sumD X k j + X k j)))) w.heap.size [0, 0, 0, 0, 0, 0, 0, 0]) := (un HR2).other (by simp) _
            have HB3 : Hid (Below w.heap.size w (wr.setCell ⟨w.heap.size + 1, j, none⟩ (.int .i64 (wrap64 (sumD X k j + X k j))))) := (un HB2).setCell (by simp) _
            go_wp2
            go_roundw
            case rel => exact ⟨j + 1, by go_num, by omega, HP3, HR3, HB3⟩
            case measure => simp [intOf]; omega
          · obtain rfl : j = 8 := by omega
            have HP3 : Hid (Own8 wr (w.heap.size + 1) (sumL X (k + 1))) := un HP2
            go_wp2
            go_roundw
            case rel => exact ⟨k + 1, by go_num, by omega, HA', HR2, HP3, HB2⟩
            case measure => simp [intOf]; omega
    · obtain rfl : k = n := by omega
      obtain ⟨p0, p1, p2, p3, p4, p5, p6, p7⟩ : wr.cell? ⟨w.heap.size + 1, 0, none⟩ = some (.int .i64 (sumD X k 0)) ∧ wr.cell? ⟨w.heap.size + 1, 1, none⟩ = some (.int .i64 (sumD X k 1)) ∧ wr.cell? ⟨w.heap.size + 1, 2, none⟩ = some (.int .i64 (sumD X k 2)) ∧ wr.cell? ⟨w.heap.size + 1, 3, none⟩ = some (.int .i64 (sumD X k 3)) ∧ wr.cell? ⟨w.heap.size + 1, 4, none⟩ = some (.int .i64 (sumD X k 4)) ∧ wr.cell? ⟨w.heap.size + 1, 5, none⟩ = some (.int .i64 (sumD X k 5)) ∧ wr.cell? ⟨w.heap.size + 1, 6, none⟩ = some (.int .i64 (sumD X k 6)) ∧ wr.cell? ⟨w.heap.size + 1, 7, none⟩ = some (.int .i64 (sumD X k 7)) := by
        have h := (un HP).cell
        exact ⟨h 0 _ rfl, h 1 _ rfl, h 2 _ rfl, h 3 _ rfl, h 4 _ rfl, h 5 _ rfl, h 6 _ rfl, h 7 _ rfl⟩
      have hsz := (un HP).lt
      have HT := hide (told_any (sumD X k 0) (sumD X k 1) (sumD X k 2) (sumD X k 3) (sumD X k 4) (sumD X k 5) (sumD X k 6) (sumD X k 7))
      have HM : Hid (mulErr X k = errOf (rightB [sumD X k 0, sumD X k 1, sumD X k 2, sumD X k 3, sumD X k 4, sumD X k 5, sumD X k 6, sumD X k 7]) 51) := by show mulErr X k = _; unfold mulErr; rw [un HA]; rfl
      have HS : Hid ((allB X k && rightB (sumL X k)) = rightB [sumD X k 0, sumD X k 1, sumD X k 2, sumD X k 3, sumD X k 4, sumD X k 5, sumD X k 6, sumD X k 7]) := by show (allB X k && _) = _; rw [un HA]; rfl
      generalize rightB [sumD X k 0, sumD X k 1, sumD X k 2, sumD X k 3, sumD X k 4, sumD X k 5, sumD X k 6, sumD X k 7] = rq at HT HM HS
      go_wp2_with (first
          | (go_at_call 35; refine (un HT _).mono ?_; rintro e w' ⟨rfl, rfl⟩)
          | (refine store8 rfl (.tmp 2) (.tmp 35) rfl w.heap.size _ [sel rq (sumD X k 0), sel rq (sumD X k 1), sel rq (sumD X k 2), sel rq (sumD X k 3), sel rq (sumD X k 4), sel rq (sumD X k 5), sel rq (sumD X k 6), sel rq (sumD X k 7)] rfl rfl rfl rfl ((((un HR).alloc _).alloc _).alloc _) ?_))
      refine bodyPost_ret (v := .tuple #[.agg (cells8 [sel rq (sumD X k 0), sel rq (sumD X k 1), sel rq (sumD X k 2), sel rq (sumD X k 3), sel rq (sumD X k 4), sel rq (sumD X k 5), sel rq (sumD X k 6), sel rq (sumD X k 7)]), .int .i64 (errOf rq 51)]) (res2 Tryz.results17 _ _ w.heap.size _ rfl rfl (((((un HR).alloc _).alloc _).alloc _).setRow _)) rfl ⟨?_, ?_⟩
      · rw [un HM, un HS]; rfl
      · exact below_setRow ((((un HB).alloc (by omega) _).alloc (by simp; omega) _).alloc (by simp; omega) _) (Nat.le_refl _) _
end Go.Proofs.YthcbhnggphdflaaGreatDoor.Dm

namespace Go.Proofs.YthcbhnggphdflaaGreatDoor
open Go.RowKit
/-- A box of many cells. -/
structure UB (W : World) (g : Nat) (vs : Array Value) : Prop where
  lt : g < W.heap.size
  c : ∀ i v, vs[i]? = some v → W.cell? ⟨g, i, none⟩ = some v
  f : ∀ i v, vs[i]? = some v → W.frozen? ⟨g, i, none⟩ = false
theorem UB.later {W V : World} {g : Nat} {vs : Array Value} (h : UB W g vs) (hb : Below W.heap.size W V) : UB V g vs :=
  ⟨Nat.lt_of_lt_of_le h.lt hb.size, fun i v e => (hb.cell (p := ⟨g, i, none⟩) h.lt).trans (h.c i v e), fun i v e => (hb.frozen (p := ⟨g, i, none⟩) h.lt).trans (h.f i v e)⟩
theorem UB.new (W : World) (vs : Array Value) (ty : Nat) : UB (W.alloc (.cells vs ty)) W.heap.size vs :=
  ⟨by simp, fun i v e => by simp [go_sem, e], fun i v e => by simp [go_sem]⟩
/-- A block that holds just these cells. -/
def OwnU (W : World) (g ty : Nat) (vs : Array Value) : Prop := W.heap[g]? = some (.cells vs ty (0, 0))
theorem OwnU.lt {W : World} {g ty : Nat} {vs : Array Value} (h : OwnU W g ty vs) : g < W.heap.size := (Array.getElem?_eq_some_iff.1 h).1
theorem OwnU.ub {W : World} {g ty : Nat} {vs : Array Value} (h : OwnU W g ty vs) : UB W g vs := by
  have hl := h.lt
  unfold OwnU at h
  exact ⟨hl, fun i v e => by simp [World.cell?, h, e], fun i v e => by simp [World.frozen?, h]⟩
theorem OwnU.alloc {W : World} {g ty : Nat} {vs : Array Value} (h : OwnU W g ty vs) (o : Obj) : OwnU (W.alloc o) g ty vs := (Below.heap_alloc W o g h.lt).trans h
theorem OwnU.later {W V : World} {g ty : Nat} {vs : Array Value} (h : OwnU W g ty vs) (hb : Below W.heap.size W V) : OwnU V g ty vs := (hb.block g h.lt).trans h
theorem OwnU.new (W : World) (vs : Array Value) (ty : Nat) : OwnU (W.alloc (.cells vs ty)) W.heap.size ty vs := heap_alloc_new W _
theorem OwnU.setRow {W : World} {g ty : Nat} {vs : Array Value} (h : OwnU W g ty vs) (us : Array Value) : OwnU (W.setRow g us) g ty us := setRow_heap W g _ _ ty (0, 0) h
theorem storeT {ops : Array Oper} {rest : List Oper} {o : Oper} {a : Act} {w : World} {Q : Exit → Act → World → Prop} (ty sz : Nat) (hinfo : (Tryz.prog.info? ty).map (·.size) = some sz) (hgd : o.guard = none) (x y : Operand) (ho : o.op = .store ty x y)
    (g : Nat) (vs us : Array Value) (hv : vs.size = sz) (hu : us.size = sz) (hx : a.eval x = .pointer (some ⟨g, 0, none⟩)) (hy : a.eval y = .agg us) (hg : OwnU w g ty vs) (h1 : us.all (·.oneCell') = true)
    (h : wpList Tryz.prog ops Q rest (a.put o.dst undef) (w.setRow g us)) : wpList Tryz.prog ops Q (o :: rest) a w :=
  wpList_store_row hgd ty x y ho g us hx hy ty _ hg (by rw [hinfo, hu]) (by rw [hv, hu]) h1 h
theorem results_cell1 {fn : Func} {p : Tmp} {ty : TypeId} (h : fn.results = #[.cell p ty]) (tmps : Array Value) (P : Program) (w : World) :
    (results fn tmps).run P w = ((asAddr (tmps.getD p undef)).run P w).andThen fun a w' => (loadVar ty a).run P w' := by
  simp [results, h, go_sem]
end Go.Proofs.YthcbhnggphdflaaGreatDoor

namespace Go.Proofs.YthcbhnggphdflaaGreatDoor
open Go.RowKit
set_option maxRecDepth 100000 in
set_option maxHeartbeats 2000000 in
theorem fpow_pos (b : Bool) (a1 a2 : Option Addr) (l1 c1 l2 c2 : Nat) (N D k NK DK : Nat) (w : World)
    (hN : IsBig w (.agg #[.slice a1 l1 c1]) N) (hD : IsBig w (.agg #[.slice a2 l2 c2]) D) (hk : k ≤ 4096)
    (hp1 : ∀ W v, IsBig W v N → Calls Tryz.prog 167 #[v, .int .i64 (k : Int)] W fun e w' => ∃ a l c, e = .returned (.tuple #[.agg #[.slice a l c], .bool true]) ∧ IsBig w' (.agg #[.slice a l c]) NK ∧ Below W.heap.size W w')
    (hp2 : ∀ W v, IsBig W v D → Calls Tryz.prog 167 #[v, .int .i64 (k : Int)] W fun e w' => ∃ a l c, e = .returned (.tuple #[.agg #[.slice a l c], .bool true]) ∧ IsBig w' (.agg #[.slice a l c]) DK ∧ Below W.heap.size W w') :
    Calls Tryz.prog 120 #[.agg #[.bool b, .slice a1 l1 c1, .slice a2 l2 c2], .int .i64 (k : Int)] w fun e w' => ∃ v, e = .returned (.tuple #[v, .int .i64 0]) ∧ IsFrac w' v (b && decide (k % 2 = 1)) NK DK ∧ Below w.heap.size w w' := by
  obtain ⟨V, hV⟩ : ∃ V, V = (w.alloc (.cells #[.bool b, .slice a1 l1 c1, .slice a2 l2 c2] 118)).alloc (.cells #[.bool false, .slice none 0 0, .slice none 0 0] 118) := ⟨_, rfl⟩
  have HW : Hid (Below w.heap.size w V) := by rw [hV]; exact ((Below.refl _ _).alloc (Nat.le_refl _) _).alloc (by simp) _
  have HA : Hid (FBox V w.heap.size (.bool b) (.slice a1 l1 c1) (.slice a2 l2 c2)) := by rw [hV]; exact (FBox.new _ _ _ _).later ((Below.refl _ _).alloc (Nat.le_refl _) _)
  have HR : Hid (FBox V (w.heap.size + 1) (.bool false) (.slice none 0 0) (.slice none 0 0)) := by rw [hV]; have h := FBox.new (w.alloc (.cells #[.bool b, .slice a1 l1 c1, .slice a2 l2 c2] 118)) (.bool false) (.slice none 0 0) (.slice none 0 0); rw [Dm.size_alloc] at h; exact h
  have HN := hide (hN.later (un HW)); have HD := hide (hD.later (un HW))
  have H1 := hide hp1; have H2 := hide hp2
  have HV := hide hV
  have hk0 : ¬ (k : Int) < 0 := by omega
  have HPAR : Hid (((k : Int) % 2 == 1) = decide (k % 2 = 1)) := by
    show _ = _
    rw [Bool.eq_iff_iff]
    simp
    omega
  clear hV hN hD hp1 hp2
  go_enter Tryz.func120, Tryz.ntmps120
  go_upto_region 1 with fail
  rw [← un HV]
  clear HV
  have t0 := (un HA).c0; have t1 := (un HA).c1; have t2 := (un HA).c2
  go_upto_region 6 with (go_at_call 167; go_must (refine (un H1 _ _ (un HN)).mono ?_; rintro e w1 ⟨p1, p2, p3, rfl, hp, hb⟩; have HP1 := hide hp; have HA1 := hide ((un HA).later hb); have HR1 := hide ((un HR).later hb); have HD1 := hide ((un HD).later hb); have HW1 : Hid (Below w.heap.size w w1) := (un HW).trans (hb.mono (un HW).size); clear hb hp t0 t1 t2))
  obtain ⟨V3, hV3⟩ : ∃ V3, V3 = w1.alloc (.cells #[.slice p1 p2 p3] 116) := ⟨_, rfl⟩
  have hb3 : Below w1.heap.size w1 V3 := by rw [hV3]; exact (Below.refl _ _).alloc (Nat.le_refl _) _
  have HX3 : Hid (Box V3 w1.heap.size (.slice p1 p2 p3)) := by rw [hV3]; exact ⟨by simp [go_sem], by simp [go_sem]⟩
  have HP3 := hide ((un HP1).later hb3); have HA3 := hide ((un HA1).later hb3); have HR3 := hide ((un HR1).later hb3); have HD3 := hide ((un HD1).later hb3); have HW3 : Hid (Below w.heap.size w V3) := (un HW1).trans (hb3.mono (un HW1).size)
  have HNE : Hid (¬ w.heap.size + 1 = w1.heap.size) := (by have := (un HR1).lt; show ¬ _; omega)
  rw [← hV3]
  clear hV3 hb3 HP1 HA1 HR1 HD1 HW1 HA HR HN HD HW H1
  generalize w1.heap.size = g6 at *
  have t0 := (un HA3).c0; have t1 := (un HA3).c1; have t2 := (un HA3).c2
  go_upto_region 7 with (go_at_call 167; go_must (refine (un H2 _ _ (un HD3)).mono ?_; rintro e w4 ⟨q1, q2, q3, rfl, hp, hb⟩; have HQ4 := hide hp; have HA4 := hide ((un HA3).later hb); have HR4 := hide ((un HR3).later hb); have HX4 := hide ((un HX3).later hb); have HP4 := hide ((un HP3).later hb); have HW4 : Hid (Below w.heap.size w w4) := (un HW3).trans (hb.mono (un HW3).size); clear hb hp t0 t1 t2))
  obtain ⟨V5, hV5⟩ : ∃ V5, V5 = w4.alloc (.cells #[.slice q1 q2 q3] 116) := ⟨_, rfl⟩
  have hb5 : Below w4.heap.size w4 V5 := by rw [hV5]; exact (Below.refl _ _).alloc (Nat.le_refl _) _
  have HY5 : Hid (Box V5 w4.heap.size (.slice q1 q2 q3)) := by rw [hV5]; exact ⟨by simp [go_sem], by simp [go_sem]⟩
  have HX5 := hide ((un HX4).later hb5); have HP5 := hide ((un HP4).later hb5); have HQ5 := hide ((un HQ4).later hb5); have HA5 := hide ((un HA4).later hb5); have HR5 := hide ((un HR4).later hb5); have HW5 : Hid (Below w.heap.size w V5) := (un HW4).trans (hb5.mono (un HW4).size)
  rw [← hV5]
  clear hV5 hb5 HX4 HP4 HQ4 HA4 HR4 HW4 HX3 HP3 HA3 HR3 HD3 HW3 H2
  generalize w4.heap.size = g8 at *
  have t0 := (un HA5).c0; have x0 := (un HX5).c; have y0 := (un HY5).c
  have r0 := (un HR5).c0; have r1 := (un HR5).c1; have r2 := (un HR5).c2
  have f0 := (un HR5).f0; have f1 := (un HR5).f1; have f2 := (un HR5).f2
  cases b
  · go_wp2_with fail
    have hS := (un HR5).store (.bool false) (.slice p1 p2 p3) (.slice q1 q2 q3)
    have u0 := hS.c0; have u1 := hS.c1; have u2 := hS.c2
    refine bodyPost_ret (v := .tuple #[.agg #[.bool false, .slice p1 p2 p3, .slice q1 q2 q3], .int .i64 0]) (w := store3 V5 (w.heap.size + 1) (.bool false) (.slice p1 p2 p3) (.slice q1 q2 q3)) (by simp [results, Tryz.results120, go_sem, u0, u1, u2]) rfl ⟨_, rfl, ⟨_, _, ?_, (un HR5).big _ _ _ (un HP5), (un HR5).big _ _ _ (un HQ5)⟩, below_store3 (un HW5) (by omega) _ _ _⟩
    rw [Bool.false_and]
  · go_wp2_with fail
    have hS := (un HR5).store (.bool ((k : Int) % 2 == 1)) (.slice p1 p2 p3) (.slice q1 q2 q3)
    have u0 := hS.c0; have u1 := hS.c1; have u2 := hS.c2
    refine bodyPost_ret (v := .tuple #[.agg #[.bool ((k : Int) % 2 == 1), .slice p1 p2 p3, .slice q1 q2 q3], .int .i64 0]) (w := store3 V5 (w.heap.size + 1) (.bool ((k : Int) % 2 == 1)) (.slice p1 p2 p3) (.slice q1 q2 q3)) (by simp [results, Tryz.results120, go_sem, u0, u1, u2]) rfl ⟨_, rfl, ⟨_, _, ?_, (un HR5).big _ _ _ (un HP5), (un HR5).big _ _ _ (un HQ5)⟩, below_store3 (un HW5) (by omega) _ _ _⟩
    rw [un HPAR, Bool.true_and]
set_option maxRecDepth 100000 in
set_option maxHeartbeats 2000000 in
theorem fpow_neg (b : Bool) (x1 x2 : Option Addr) (y1 z1 y2 z2 : Nat) (N D k NK DK : Nat) (sg : Int) (w : World)
    (hF : IsFrac w (.agg #[.bool b, .slice x1 y1 z1, .slice x2 y2 z2]) b D N) (hk : k ≤ 4096) (hk1 : 0 < k) (hsg0 : sg ≠ 0)
    (hsg : ∀ W, IsFrac W (.agg #[.bool b, .slice x1 y1 z1, .slice x2 y2 z2]) b D N → Calls Tryz.prog 65 #[.agg #[.bool b, .slice x1 y1 z1, .slice x2 y2 z2]] W fun e w' => e = .returned (.int .i64 sg) ∧ Below W.heap.size W w')
    (hin : ∀ W, IsFrac W (.agg #[.bool b, .slice x1 y1 z1, .slice x2 y2 z2]) b D N → Calls Tryz.prog 96 #[.agg #[.bool b, .slice x1 y1 z1, .slice x2 y2 z2]] W fun e w' => ∃ v, e = .returned v ∧ IsFrac w' v b N D ∧ Below W.heap.size W w')
    (hp1 : ∀ W v, IsBig W v N → Calls Tryz.prog 167 #[v, .int .i64 (k : Int)] W fun e w' => ∃ a l c, e = .returned (.tuple #[.agg #[.slice a l c], .bool true]) ∧ IsBig w' (.agg #[.slice a l c]) NK ∧ Below W.heap.size W w')
    (hp2 : ∀ W v, IsBig W v D → Calls Tryz.prog 167 #[v, .int .i64 (k : Int)] W fun e w' => ∃ a l c, e = .returned (.tuple #[.agg #[.slice a l c], .bool true]) ∧ IsBig w' (.agg #[.slice a l c]) DK ∧ Below W.heap.size W w') :
    Calls Tryz.prog 120 #[.agg #[.bool b, .slice x1 y1 z1, .slice x2 y2 z2], .int .i64 (-(k : Int))] w fun e w' => ∃ v, e = .returned (.tuple #[v, .int .i64 0]) ∧ IsFrac w' v (b && decide (k % 2 = 1)) NK DK ∧ Below w.heap.size w w' := by
  obtain ⟨V, hV⟩ : ∃ V, V = (w.alloc (.cells #[.bool b, .slice x1 y1 z1, .slice x2 y2 z2] 118)).alloc (.cells #[.bool false, .slice none 0 0, .slice none 0 0] 118) := ⟨_, rfl⟩
  have HW : Hid (Below w.heap.size w V) := by rw [hV]; exact ((Below.refl _ _).alloc (Nat.le_refl _) _).alloc (by simp) _
  have HA : Hid (FBox V w.heap.size (.bool b) (.slice x1 y1 z1) (.slice x2 y2 z2)) := by rw [hV]; exact (FBox.new _ _ _ _).later ((Below.refl _ _).alloc (Nat.le_refl _) _)
  have HR : Hid (FBox V (w.heap.size + 1) (.bool false) (.slice none 0 0) (.slice none 0 0)) := by rw [hV]; have h := FBox.new (w.alloc (.cells #[.bool b, .slice x1 y1 z1, .slice x2 y2 z2] 118)) (.bool false) (.slice none 0 0) (.slice none 0 0); rw [Dm.size_alloc] at h; exact h
  have HF := hide (hF.later (un HW))
  have H1 := hide hp1; have H2 := hide hp2; have HSG := hide hsg; have HIN := hide hin
  have HV := hide hV
  have hk0 : -(k : Int) < 0 := by omega
  have hsb : (sg == 0) = false := by simpa using hsg0
  have HPAR : Hid (((k : Int) % 2 == 1) = decide (k % 2 = 1)) := by
    show _ = _
    rw [Bool.eq_iff_iff]
    simp
    omega
  clear hV hF hp1 hp2 hsg hin hsg0
  go_enter Tryz.func120, Tryz.ntmps120
  go_upto_region 1 with fail
  rw [← un HV]
  clear HV
  have t0 := (un HA).c0; have t1 := (un HA).c1; have t2 := (un HA).c2
  go_upto_region 4 with (go_at_call 65; go_must (refine (un HSG _ (un HF)).mono ?_; rintro e w1 ⟨rfl, hb⟩; have HF1 := hide ((un HF).later hb); have HA1 := hide ((un HA).later hb); have HR1 := hide ((un HR).later hb); have HW1 : Hid (Below w.heap.size w w1) := (un HW).trans (hb.mono (un HW).size); clear hb t0 t1 t2))
  clear hsb HF HA HR HW HSG
  have t0 := (un HA1).c0; have t1 := (un HA1).c1; have t2 := (un HA1).c2
  have f0 := (un HA1).f0; have f1 := (un HA1).f1; have f2 := (un HA1).f2
  go_upto_region 5 with (go_at_call 96; go_must (refine (un HIN _ (un HF1)).mono ?_; rintro e w2 ⟨v2, rfl, hv, hb⟩; obtain ⟨a1, l1, c1, a2, l2, c2, rfl, hN, hD⟩ := hv.form; have HN2 := hide hN; have HD2 := hide hD; have HA2 := hide ((un HA1).later hb); have HR2 := hide ((un HR1).later hb); have HW2 : Hid (Below w.heap.size w w2) := (un HW1).trans (hb.mono (un HW1).size); clear hb hv hN hD t0 t1 t2 f0 f1 f2; have t0 := (un HA2).c0; have t1 := (un HA2).c1; have t2 := (un HA2).c2; have f0 := (un HA2).f0; have f1 := (un HA2).f1; have f2 := (un HA2).f2))
  have HA : Hid (FBox (store3 w2 w.heap.size (.bool b) (.slice a1 l1 c1) (.slice a2 l2 c2)) w.heap.size (.bool b) (.slice a1 l1 c1) (.slice a2 l2 c2)) := (un HA2).store _ _ _
  have HR : Hid (FBox (store3 w2 w.heap.size (.bool b) (.slice a1 l1 c1) (.slice a2 l2 c2)) (w.heap.size + 1) (.bool false) (.slice none 0 0) (.slice none 0 0)) := (un HR2).other3 (by omega) _ _ _
  have HN : Hid (IsBig (store3 w2 w.heap.size (.bool b) (.slice a1 l1 c1) (.slice a2 l2 c2)) (.agg #[.slice a1 l1 c1]) N) := (un HA2).big _ _ _ (un HN2)
  have HD : Hid (IsBig (store3 w2 w.heap.size (.bool b) (.slice a1 l1 c1) (.slice a2 l2 c2)) (.agg #[.slice a2 l2 c2]) D) := (un HA2).big _ _ _ (un HD2)
  have HW : Hid (Below w.heap.size w (store3 w2 w.heap.size (.bool b) (.slice a1 l1 c1) (.slice a2 l2 c2))) := below_store3 (un HW2) (Nat.le_refl _) _ _ _
  unfold store3 at HA HR HN HD HW
  clear t0 t1 t2 f0 f1 f2 HA2 HR2 HN2 HD2 HW2 HF1 HA1 HR1 HW1 HIN hk0
  generalize ((w2.setCell ⟨w.heap.size, 0, none⟩ (.bool b)).setCell ⟨w.heap.size, 1, none⟩ (.slice a1 l1 c1)).setCell ⟨w.heap.size, 2, none⟩ (.slice a2 l2 c2) = V at *
  have t0 := (un HA).c0; have t1 := (un HA).c1; have t2 := (un HA).c2
  go_upto_region 6 with (go_at_call 167; go_must (refine (un H1 _ _ (un HN)).mono ?_; rintro e w1 ⟨p1, p2, p3, rfl, hp, hb⟩; have HP1 := hide hp; have HA1 := hide ((un HA).later hb); have HR1 := hide ((un HR).later hb); have HD1 := hide ((un HD).later hb); have HW1 : Hid (Below w.heap.size w w1) := (un HW).trans (hb.mono (un HW).size); clear hb hp t0 t1 t2))
  obtain ⟨V3, hV3⟩ : ∃ V3, V3 = w1.alloc (.cells #[.slice p1 p2 p3] 116) := ⟨_, rfl⟩
  have hb3 : Below w1.heap.size w1 V3 := by rw [hV3]; exact (Below.refl _ _).alloc (Nat.le_refl _) _
  have HX3 : Hid (Box V3 w1.heap.size (.slice p1 p2 p3)) := by rw [hV3]; exact ⟨by simp [go_sem], by simp [go_sem]⟩
  have HP3 := hide ((un HP1).later hb3); have HA3 := hide ((un HA1).later hb3); have HR3 := hide ((un HR1).later hb3); have HD3 := hide ((un HD1).later hb3); have HW3 : Hid (Below w.heap.size w V3) := (un HW1).trans (hb3.mono (un HW1).size)
  have HNE : Hid (¬ w.heap.size + 1 = w1.heap.size) := (by have := (un HR1).lt; show ¬ _; omega)
  rw [← hV3]
  clear hV3 hb3 HP1 HA1 HR1 HD1 HW1 HA HR HN HD HW H1
  generalize w1.heap.size = g6 at *
  have t0 := (un HA3).c0; have t1 := (un HA3).c1; have t2 := (un HA3).c2
  go_upto_region 7 with (go_at_call 167; go_must (refine (un H2 _ _ (un HD3)).mono ?_; rintro e w4 ⟨q1, q2, q3, rfl, hp, hb⟩; have HQ4 := hide hp; have HA4 := hide ((un HA3).later hb); have HR4 := hide ((un HR3).later hb); have HX4 := hide ((un HX3).later hb); have HP4 := hide ((un HP3).later hb); have HW4 : Hid (Below w.heap.size w w4) := (un HW3).trans (hb.mono (un HW3).size); clear hb hp t0 t1 t2))
  obtain ⟨V5, hV5⟩ : ∃ V5, V5 = w4.alloc (.cells #[.slice q1 q2 q3] 116) := ⟨_, rfl⟩
  have hb5 : Below w4.heap.size w4 V5 := by rw [hV5]; exact (Below.refl _ _).alloc (Nat.le_refl _) _
  have HY5 : Hid (Box V5 w4.heap.size (.slice q1 q2 q3)) := by rw [hV5]; exact ⟨by simp [go_sem], by simp [go_sem]⟩
  have HX5 := hide ((un HX4).later hb5); have HP5 := hide ((un HP4).later hb5); have HQ5 := hide ((un HQ4).later hb5); have HA5 := hide ((un HA4).later hb5); have HR5 := hide ((un HR4).later hb5); have HW5 : Hid (Below w.heap.size w V5) := (un HW4).trans (hb5.mono (un HW4).size)
  rw [← hV5]
  clear hV5 hb5 HX4 HP4 HQ4 HA4 HR4 HW4 HX3 HP3 HA3 HR3 HD3 HW3 H2
  generalize w4.heap.size = g8 at *
  have t0 := (un HA5).c0; have x0 := (un HX5).c; have y0 := (un HY5).c
  have r0 := (un HR5).c0; have r1 := (un HR5).c1; have r2 := (un HR5).c2
  have f0 := (un HR5).f0; have f1 := (un HR5).f1; have f2 := (un HR5).f2
  cases b
  · go_wp2_with fail
    have hS := (un HR5).store (.bool false) (.slice p1 p2 p3) (.slice q1 q2 q3)
    have u0 := hS.c0; have u1 := hS.c1; have u2 := hS.c2
    refine bodyPost_ret (v := .tuple #[.agg #[.bool false, .slice p1 p2 p3, .slice q1 q2 q3], .int .i64 0]) (w := store3 V5 (w.heap.size + 1) (.bool false) (.slice p1 p2 p3) (.slice q1 q2 q3)) (by simp [results, Tryz.results120, go_sem, u0, u1, u2]) rfl ⟨_, rfl, ⟨_, _, ?_, (un HR5).big _ _ _ (un HP5), (un HR5).big _ _ _ (un HQ5)⟩, below_store3 (un HW5) (by omega) _ _ _⟩
    rw [Bool.false_and]
  · go_wp2_with fail
    have hS := (un HR5).store (.bool ((k : Int) % 2 == 1)) (.slice p1 p2 p3) (.slice q1 q2 q3)
    have u0 := hS.c0; have u1 := hS.c1; have u2 := hS.c2
    refine bodyPost_ret (v := .tuple #[.agg #[.bool ((k : Int) % 2 == 1), .slice p1 p2 p3, .slice q1 q2 q3], .int .i64 0]) (w := store3 V5 (w.heap.size + 1) (.bool ((k : Int) % 2 == 1)) (.slice p1 p2 p3) (.slice q1 q2 q3)) (by simp [results, Tryz.results120, go_sem, u0, u1, u2]) rfl ⟨_, rfl, ⟨_, _, ?_, (un HR5).big _ _ _ (un HP5), (un HR5).big _ _ _ (un HQ5)⟩, below_store3 (un HW5) (by omega) _ _ _⟩
    rw [un HPAR, Bool.true_and]
end Go.Proofs.YthcbhnggphdflaaGreatDoor

namespace Go.Proofs.YthcbhnggphdflaaGreatDoor
open Go.RowKit
set_option maxRecDepth 100000 in
set_option maxHeartbeats 2000000 in
theorem qquo (x y : Value) (p q : Rat) (k : Nat) (w : World) (hx : QOf w x p k) (hy : QOf w y q k) (hk : k + k ≤ 100000) (hq : q ≠ 0) :
    Calls Tryz.prog 66 #[x, y] w fun r w' => ∃ v, r = .returned v ∧ QOf w' v (p * q⁻¹) (k + k) ∧ Below w.heap.size w w' := by
  obtain ⟨b, a1, l1, c1, a2, l2, c2, rfl⟩ := hx.form
  obtain ⟨c, a3, l3, c3, a4, l4, c4, rfl⟩ := hy.form
  obtain ⟨V, hV⟩ : ∃ V, V = (((w.alloc (.cells #[.bool b, .slice a1 l1 c1, .slice a2 l2 c2] 118)).alloc (.cells #[.bool c, .slice a3 l3 c3, .slice a4 l4 c4] 118)).alloc (.cells #[.bool false, .slice none 0 0, .slice none 0 0] 118)) := ⟨_, rfl⟩
  have HS : Hid (AS w V (.bool b) (.slice a1 l1 c1) (.slice a2 l2 c2) (.bool c) (.slice a3 l3 c3) (.slice a4 l4 c4) []) := by rw [hV]; exact AS.first _ _ _ _ _ _ _
  have HX := hide (hx.later (un HS).below)
  have HY := hide (hy.later (un HS).below)
  have HV := hide hV
  have HK := hide hk
  have HC : Hid (∀ w', Below V.heap.size V w' → (w'.cell? ⟨w.heap.size, 0, none⟩ = some (.bool b) ∧ w'.cell? ⟨w.heap.size, 1, none⟩ = some (.slice a1 l1 c1) ∧ w'.cell? ⟨w.heap.size, 2, none⟩ = some (.slice a2 l2 c2) ∧ w'.cell? ⟨w.heap.size + 1, 0, none⟩ = some (.bool c) ∧ w'.cell? ⟨w.heap.size + 1, 1, none⟩ = some (.slice a3 l3 c3) ∧ w'.cell? ⟨w.heap.size + 1, 2, none⟩ = some (.slice a4 l4 c4)) ∧ (w'.cell? ⟨w.heap.size + 1 + 1, 0, none⟩ = some (.bool false) ∧ w'.cell? ⟨w.heap.size + 1 + 1, 1, none⟩ = some (.slice none 0 0) ∧ w'.cell? ⟨w.heap.size + 1 + 1, 2, none⟩ = some (.slice none 0 0) ∧ w'.frozen? ⟨w.heap.size + 1 + 1, 0, none⟩ = false ∧ w'.frozen? ⟨w.heap.size + 1 + 1, 1, none⟩ = false ∧ w'.frozen? ⟨w.heap.size + 1 + 1, 2, none⟩ = false) ∧ w.heap.size < w'.heap.size ∧ w.heap.size + 1 < w'.heap.size ∧ w.heap.size + 1 + 1 < w'.heap.size) := fun U hb => by
    have s := (un HS).later hb
    exact ⟨⟨s.x.c0, s.x.c1, s.x.c2, s.y.c0, s.y.c1, s.y.c2⟩, ⟨s.r.c0, s.r.c1, s.r.c2, s.r.f0, s.r.f1, s.r.f2⟩, s.x.lt, s.y.lt, s.r.lt⟩
  have HQ0 := hide hq
  have HT : Hid (∀ W v1 (j1 j2 j3 : Nat) (o1 : Option Addr) (o2 : Option Addr) (j4 : Nat) (bq : Bool), Below V.heap.size V W → v1 = .agg #[.bool bq, .slice o1 j1 j2, .slice o2 j3 j4] → QOf W v1 q⁻¹ k → Calls Tryz.prog 95 #[.slice (some ⟨W.heap.size, 0, none⟩) 2 2] (W.alloc (.cells #[.bool b, .slice a1 l1 c1, .slice a2 l2 c2, .bool bq, .slice o1 j1 j2, .slice o2 j3 j4] 118)) fun r w' => ∃ v, r = .returned v ∧ QOf w' v (p * q⁻¹) (k + k) ∧ Below W.heap.size W w') := by
    intro W v1 j1 j2 j3 o1 o2 j4 bq hbW hv1 hq1
    subst hv1
    have hb : Below W.heap.size W (W.alloc (.cells #[.bool b, .slice a1 l1 c1, .slice a2 l2 c2, .bool bq, .slice o1 j1 j2, .slice o2 j3 j4] 118)) := (Below.refl _ _).alloc (Nat.le_refl _) _
    refine (qtimes W.heap.size b bq a1 a2 o1 o2 l1 c1 l2 c2 j1 j2 j3 j4 p q⁻¹ k _ (by simp [go_sem]) (by simp [go_sem]) (by simp [go_sem]) (by simp [go_sem]) (by simp [go_sem]) (by simp [go_sem]) (((un HX).later hbW).later hb) (hq1.later hb) hk).mono ?_
    rintro r w' ⟨v, rfl, hv, hb'⟩
    exact ⟨v, rfl, hv, hb.trans (hb'.mono hb.size)⟩
  clear hx hy hk hV hq
  go_enter Tryz.func66, Tryz.ntmps66
  go_upto_region 1 with fail
  rw [← un HV]
  clear HV
  obtain ⟨⟨t0, t1, t2, t3, t4, t5⟩, _⟩ := un HC V (Below.refl _ _)
  go_region_held3 (fun w' => w'.cell? ⟨w.heap.size, 0, none⟩ = some (.bool b) ∧ w'.cell? ⟨w.heap.size, 1, none⟩ = some (.slice a1 l1 c1) ∧ w'.cell? ⟨w.heap.size, 2, none⟩ = some (.slice a2 l2 c2) ∧ w'.cell? ⟨w.heap.size + 1, 0, none⟩ = some (.bool c) ∧ w'.cell? ⟨w.heap.size + 1, 1, none⟩ = some (.slice a3 l3 c3) ∧ w'.cell? ⟨w.heap.size + 1, 2, none⟩ = some (.slice a4 l4 c4)) (first | assumption | (refine ⟨?_, ?_, ?_, ?_, ?_, ?_⟩ <;> first | assumption | (simp [go_sem, *]; done) | (rw [World.cell?_setCell_other _ _ _ _ (by simp), World.cell?_setCell_other _ _ _ _ (by simp), World.cell?_setCell_other _ _ _ _ (by simp)]; assumption)) | (simp [go_sem, *]; done)) ((first
    | (go_at_call 96; go_must (refine (qinv _ q k _ ((un HY).later ((Below.refl _ _).drew)) (un HQ0)).mono ?_; rintro e wa ⟨va, rfl, hva, hba⟩; obtain ⟨bq, o1, j1, j2, o2, j3, j4, rfl⟩ := hva.form; have HVA := hide hva; have HCA := hide (((Below.refl V.heap.size V).drew).trans hba); clear hva hba t0 t1 t2 t3 t4 t5; obtain ⟨⟨t0, t1, t2, t3, t4, t5⟩, _, z1, z2, z3⟩ := un HC wa (un HCA)))
    | (go_at_call 95; go_must (refine (un HT wa _ _ _ _ _ _ _ _ (un HCA) rfl (un HVA)).mono ?_; rintro e wb ⟨vb, rfl, hvb, hbb⟩; obtain ⟨b1, i1, i2, i3, i4, i5, i6, rfl⟩ := hvb.form; have HVB := hide hvb; have HCB := hide ((un HCA).trans (hbb.mono (un HCA).size)); clear hvb hbb t0 t1 t2 t3 t4 t5 z1 z2 z3; obtain ⟨⟨t0, t1, t2, t3, t4, t5⟩, ⟨r0, r1, r2, rf0, rf1, rf2⟩, _⟩ := un HC wb (un HCB)))))
  have HS1 := hide ((un HS).later (un HCB))
  clear r0 r1 r2 rf0 rf1 rf2 t0 t1 t2 t3 t4 t5
  have hS := (un HS1).r.store (.bool b1) (.slice i1 i2 i3) (.slice i4 i5 i6)
  have hb : Below w.heap.size w (store3 wb (w.heap.size + 1 + 1) (.bool b1) (.slice i1 i2 i3) (.slice i4 i5 i6)) := below_store3 (un HS1).below (by omega) _ _ _
  obtain ⟨V9, hV9⟩ : ∃ V9, V9 = store3 wb (w.heap.size + 1 + 1) (.bool b1) (.slice i1 i2 i3) (.slice i4 i5 i6) := ⟨_, rfl⟩
  have hV9' : V9 = ((wb.setCell ⟨w.heap.size + 1 + 1, 0, none⟩ (.bool b1)).setCell ⟨w.heap.size + 1 + 1, 1, none⟩ (.slice i1 i2 i3)).setCell ⟨w.heap.size + 1 + 1, 2, none⟩ (.slice i4 i5 i6) := hV9
  have HQ9 := hide ((un HVB).stored (un HS1).r)
  have u0 := hS.c0; have u1 := hS.c1; have u2 := hS.c2
  rw [← hV9] at u0 u1 u2 HQ9 hb
  rw [← hV9']
  have HB9 := hide hb
  clear hV9 hV9' hS hb
  go_wp2_with fail
  exact bodyPost_ret (v := .agg #[.bool b1, .slice i1 i2 i3, .slice i4 i5 i6]) (by simp [results, Tryz.results66, go_sem, u0, u1, u2]) rfl ⟨_, rfl, un HQ9, un HB9⟩
end Go.Proofs.YthcbhnggphdflaaGreatDoor

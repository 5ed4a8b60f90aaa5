/- The document's Common, DivMod and Gcd. -/
import Derived.Test.YtijifpbpjinmhaaGreatDoorRefTimes
import Derived.WalkSmall
import Derived.Deep.Cut
import Derived.Test.YtijifpbpjinmhaaGreatDoorRefText2
import Derived.Test.YtijifpbpjinmhaaGreatDoorText
import Derived.OwnWalk
set_option maxHeartbeats 1000000
set_option maxRecDepth 100000
namespace Go.Proofs.YtijifpbpjinmhaaGreatDoor
open Go.RowKit
/-- A slice value holds a list of limbs, at whatever place of its block. -/
def RowI (w : World) (v : Value) (l : List Nat) : Prop :=
  ∃ a cap, v = .slice a l.length cap ∧ l.length ≤ cap ∧ cap ≤ 9223372036854775807 ∧ (l ≠ [] → ∃ b o, a = some ⟨b, o, none⟩ ∧ b < w.heap.size ∧ ∀ i (h : i < l.length), w.cell? ⟨b, o + i, none⟩ = some (.int .i64 (l[i] : Int)))
theorem RowI.later {w w' : World} {v : Value} {l : List Nat} (h : RowI w v l) (hb : Below w.heap.size w w') : RowI w' v l := by
  obtain ⟨a, cap, rfl, hc, hm, hr⟩ := h
  refine ⟨a, cap, rfl, hc, hm, fun hne => ?_⟩
  obtain ⟨b, o, rfl, hlt, hcell⟩ := hr hne
  have := hb.size
  exact ⟨b, o, rfl, by omega, fun i hi => (hb.cell (p := ⟨b, o + i, none⟩) hlt).trans (hcell i hi)⟩
theorem RowI.of_own {w : World} {base : Nat} {v : Value} {l : List Nat} (h : OwnI w base v l) : RowI w v l := by
  obtain ⟨a, cap, rfl, hc, hm, hcells⟩ := h.open
  refine ⟨a, cap, rfl, hc, hm, fun hne => ?_⟩
  have h0 : 0 < l.length := List.length_pos_iff.2 hne
  obtain ⟨b, rfl, hc0⟩ := hcells w (Below.refl _ _) 0 h0
  refine ⟨b, 0, rfl, World.block_lt_of_cell? _ _ hc0, fun i hi => ?_⟩
  obtain ⟨b', e, hc1⟩ := hcells w (Below.refl _ _) i hi
  simp only [Option.some.injEq, Addr.mk.injEq] at e
  obtain ⟨rfl, _⟩ := e
  rw [Nat.zero_add]; exact hc1
/-- From a place on. -/
theorem RowI.drop {w : World} {b n cap : Nat} {l : List Nat} (h : RowI w (.slice (some ⟨b, 0, none⟩) n cap) l) (up : Nat) (hu : up < n) : RowI w (.slice (some ⟨b, up, none⟩) (n - up) (cap - up)) (l.drop up) := by
  obtain ⟨a, cap', e, hc, hm, hr⟩ := h
  simp only [Value.slice.injEq] at e
  obtain ⟨rfl, rfl, rfl⟩ := e
  have hl : (l.drop up).length = l.length - up := List.length_drop ..
  refine ⟨_, _, by rw [hl], by rw [hl]; omega, by omega, fun _ => ?_⟩
  obtain ⟨b', o, e, hlt, hcell⟩ := hr (fun e => by rw [e] at hu; simp at hu)
  simp only [Option.some.injEq, Addr.mk.injEq] at e
  obtain ⟨rfl, rfl, _⟩ := e
  refine ⟨b, up, rfl, hlt, fun i hi => ?_⟩
  rw [List.getElem_drop]
  have := hcell (up + i) (by rw [hl] at hi; omega)
  rw [Nat.zero_add] at this
  exact this
theorem RowI.take {w : World} {a : Option Addr} {n cap : Nat} {l : List Nat} (h : RowI w (.slice a n cap) l) (k : Nat) (hk : k ≤ n) : RowI w (.slice a k cap) (l.take k) := by
  obtain ⟨a', cap', e, hc, hm, hr⟩ := h
  simp only [Value.slice.injEq] at e
  obtain ⟨rfl, rfl, rfl⟩ := e
  have hl : (l.take k).length = k := by rw [List.length_take]; omega
  refine ⟨a, cap, by rw [hl], by omega, hm, fun hne => ?_⟩
  obtain ⟨b, o, rfl, hlt, hcell⟩ := hr (fun e => hne (by rw [e]; simp))
  refine ⟨b, o, rfl, hlt, fun i hi => ?_⟩
  rw [List.getElem_take]
  exact hcell i (by omega)
theorem refTrimRow_any (v : Value) (l : List Nat) (w : World) (h : RowI w v l) :
    Calls Tryz.prog 133 #[v] w fun e w' => ∃ v', e = .returned v' ∧ RowI w v' (Cub.trimN l) ∧ w' = w := by
  have H := hide h
  obtain ⟨a, cap, rfl, hc, hm, hr⟩ := h
  have HR := hide hr
  clear hr
  obtain ⟨n, hn⟩ : ∃ n, n = l.length := ⟨_, rfl⟩
  rw [← hn] at H hc ⊢
  have HN := hide hn
  clear hn
  go_enter Tryz.func133, Tryz.ntmps133
  go_wp2
  go_loop [0] (fun t => ∃ k : Nat, k ≤ n ∧ t = .slice a k cap ∧ Hid (Cub.trimN (l.take k) = Cub.trimN l)) (fun t => lenOf t)
  case atStart => exact ⟨n, Nat.le_refl _, rfl, by rw [List.take_of_length_le (by have := unhide HN; omega)]; exact rfl⟩
  case round =>
    obtain ⟨k, hk, rfl, ht⟩ := hrel
    have HT := ht
    clear ht
    by_cases hk0 : k = 0
    · subst hk0
      have E : Hid (Cub.trimN l = l.take 0) := by rw [← unhide HT]; exact rfl
      go_wp2
      go_ret
      exact ⟨_, rfl, by rw [unhide E]; exact (unhide H).take 0 (Nat.zero_le _), rfl⟩
    · obtain ⟨j, rfl⟩ : ∃ j, k = j + 1 := ⟨k - 1, by omega⟩
      have hlt : j < l.length := by have := unhide HN; omega
      obtain ⟨b, o, rfl, _, hcell⟩ := unhide HR (fun e => by rw [e] at hlt; simp at hlt)
      have hx := hcell j hlt
      clear hcell
      by_cases hz : l[j] = 0
      · rw [hz] at hx
        have E : Hid (Cub.trimN (l.take j) = Cub.trimN l) := by
          rw [← unhide HT, List.take_succ_eq_append_getElem hlt, hz, Cub.trimN_snoc_zero]; exact rfl
        clear hz
        go_wp2
        go_round
        case rel => exact ⟨j, by omega, by first | rfl | go_num, E⟩
        case measure => simp [lenOf]
      · have E : Hid (Cub.trimN l = l.take (j + 1)) := by
          rw [← unhide HT, List.take_succ_eq_append_getElem hlt, Cub.trimN_snoc _ _ hz]; exact rfl
        have hz' : ((l[j] : Int) == 0) = false := by rw [beq_eq_false_iff_ne]; omega
        clear hz
        go_wp2
        go_ret
        exact ⟨_, rfl, by rw [unhide E]; exact (unhide H).take (j + 1) hk, rfl⟩
theorem refLess_any (vx vy : Value) (x y : List Nat) (w : World) (hx : RowI w vx x) (hy : RowI w vy y) (hnx : Cub.normal 10000 x) (hny : Cub.normal 10000 y) :
    Calls Tryz.prog 130 #[vx, vy] w fun e w' => e = .returned (.bool (decide (Cub.lval 10000 x < Cub.lval 10000 y))) ∧ Below w.heap.size w w' := by
  obtain ⟨ax, cx, rfl, hcx, hmx, hrx⟩ := hx
  obtain ⟨ay, cy, rfl, hcy, hmy, hry⟩ := hy
  by_cases hlen : x.length = y.length
  · have HRX := hide hrx
    have HRY := hide hry
    have HB : Hid (Cub.limbs 10000 x ∧ Cub.limbs 10000 y) := ⟨hnx.1, hny.1⟩
    have HL := hide hlen
    obtain ⟨n, hn⟩ : ∃ n, n = x.length := ⟨_, rfl⟩
    rw [← hlen] at hcy ⊢
    rw [← hn] at hcx hcy ⊢
    have HN := hide hn
    clear hrx hry hnx hny hlen hn
    go_enter Tryz.func130, Tryz.ntmps130
    go_wp2
    go_loopw [5] (fun t wr => ∃ k : Nat, k ≤ n ∧ t = .int .i64 ((k : Int) - 1) ∧ Hid (x.drop k = y.drop k) ∧ Hid (Below w.heap.size w wr)) (fun t _ => (intOf t + 1).toNat)
    case atStart => exact ⟨n, Nat.le_refl _, rfl, by rw [List.drop_of_length_le (by have := unhide HN; omega), List.drop_of_length_le (by have := unhide HN; have := unhide HL; omega)]; exact rfl, Below.refl _ _⟩
    case round =>
      obtain ⟨k, hk, rfl, HD, HW⟩ := hrel
      by_cases h0 : k = 0
      · subst h0
        have HV : Hid (decide (Cub.lval 10000 x < Cub.lval 10000 y) = false) := by
          have := unhide HD
          rw [List.drop_zero, List.drop_zero] at this
          show _ = _
          rw [this]; simp
        go_wp2
        go_ret
        exact ⟨by rw [unhide HV]; rfl, unhide HW⟩
      · obtain ⟨j, rfl⟩ : ∃ j, k = j + 1 := ⟨k - 1, by omega⟩
        have hjx : j < x.length := by have := unhide HN; omega
        have hjy : j < y.length := by have := unhide HL; omega
        obtain ⟨bx, ox, rfl, hbx, hcellx⟩ := unhide HRX (fun e => by rw [e] at hjx; simp at hjx)
        obtain ⟨by', oy, rfl, hby, hcelly⟩ := unhide HRY (fun e => by rw [e] at hjy; simp at hjy)
        obtain ⟨xv, hxv⟩ : ∃ xv, xv = x[j] := ⟨_, rfl⟩
        obtain ⟨yv, hyv⟩ : ∃ yv, yv = y[j] := ⟨_, rfl⟩
        have c1 : wr.cell? ⟨bx, ox + j, none⟩ = some (.int .i64 (xv : Int)) := by rw [(unhide HW).cell (p := ⟨bx, ox + j, none⟩) hbx, hcellx j hjx, hxv]
        have c2 : wr.cell? ⟨by', oy + j, none⟩ = some (.int .i64 (yv : Int)) := by rw [(unhide HW).cell (p := ⟨by', oy + j, none⟩) hby, hcelly j hjy, hyv]
        have hjn : (j : Int) < (n : Int) := by omega
        have HLT : Hid (xv < yv → Cub.lval 10000 x < Cub.lval 10000 y) := fun h => Cub.less_at (unhide HB).1 hjx hjy (unhide HD) (by rw [← hxv, ← hyv]; exact h)
        have HGT : Hid (yv < xv → Cub.lval 10000 y < Cub.lval 10000 x) := fun h => Cub.less_at (unhide HB).2 hjy hjx (unhide HD).symm (by rw [← hxv, ← hyv]; exact h)
        have HEQ : Hid (xv = yv → x.drop j = y.drop j) := fun h => Cub.drop_same hjx hjy (unhide HD) (by rw [← hxv, ← hyv]; exact h)
        have ej : ((j + 1 : Nat) : Int) - 1 = (j : Int) := by omega
        rw [ej]
        clear hcellx hcelly hxv hyv hjx hjy HD ej h0
        by_cases he : xv = yv
        · have HE' := hide (unhide HEQ he)
          subst he
          have e : ((xv : Int) != (xv : Int)) = false := by simp
          clear HLT HGT HEQ
          go_upto_region 6 with fail
          go_quiet (fail)
          go_wp2_with fail
          go_roundw
          case rel => exact ⟨j, by omega, by go_num, HE', below_drewN (unhide HW) _⟩
          case measure => simp [intOf]
        · have e : ((xv : Int) != (yv : Int)) = true := by rw [bne_iff_ne]; omega
          have HV : Hid (decide (Cub.lval 10000 x < Cub.lval 10000 y) = decide (xv < yv)) := by
            show _ = _
            rcases Nat.lt_or_ge xv yv with h | h
            · rw [decide_eq_true (unhide HLT h), decide_eq_true (by omega)]
            · have := unhide HGT (by omega)
              rw [decide_eq_false (by omega), decide_eq_false (by omega)]
          clear HLT HGT HEQ he
          go_upto_region 6 with fail
          go_quiet (fail)
          go_upto_region 7 with fail
          go_quiet (fail)
          go_wp2_with fail
          go_ret
          exact ⟨by rw [unhide HV]; rfl, below_drewN (below_drewN (unhide HW) _) _⟩
  · have HV : Hid (decide (Cub.lval 10000 x < Cub.lval 10000 y) = decide (x.length < y.length)) := by
      show _ = _
      rcases Nat.lt_or_ge x.length y.length with h | h
      · rw [decide_eq_true (Cub.less_len (by decide) hnx.1 hny h), decide_eq_true (by omega)]
      · have := Cub.less_len (by decide) hny.1 hnx (by omega : y.length < x.length)
        rw [decide_eq_false (by omega), decide_eq_false (by omega)]
    have e : ((x.length : Int) != (y.length : Int)) = true := by rw [bne_iff_ne]; omega
    rw [unhide HV]
    clear hlen HV hrx hry hnx hny
    generalize x.length = nx at *
    generalize y.length = ny at *
    go_enter Tryz.func130, Tryz.ntmps130
    go_wp2
    go_ret
    exact ⟨rfl, Below.refl _ _⟩
end Go.Proofs.YtijifpbpjinmhaaGreatDoor
namespace Cub
/-- The search: low goes, high + 1 does not (or is too great). -/
structure FitInv (X V low high : Nat) : Prop where
  le : low ≤ high
  top : high ≤ 9999
  lo : V * low ≤ X
  hi : high < 9999 → X < V * (high + 1)
theorem FitInv.start (X V : Nat) : FitInv X V 0 9999 := ⟨by omega, by omega, by simp, fun h => by omega⟩
theorem FitInv.down {X V low high q : Nat} (h : FitInv X V low high) (h1 : low < q) (h2 : q ≤ high) (hlt : X < V * q) : FitInv X V low (q - 1) :=
  ⟨by omega, by have := h.top; omega, h.lo, fun _ => by rw [show q - 1 + 1 = q by omega]; exact hlt⟩
theorem FitInv.up {X V low high q : Nat} (h : FitInv X V low high) (h2 : q ≤ high) (hge : ¬ X < V * q) : FitInv X V q high :=
  ⟨h2, h.top, by omega, h.hi⟩
theorem FitInv.done {X V q : Nat} (h : FitInv X V q q) (h9 : X / V ≤ 9999) (hV : 0 < V) : q = X / V := by
  have h1 : q ≤ X / V := (Nat.le_div_iff_mul_le hV).2 (by rw [Nat.mul_comm]; exact h.lo)
  rcases Nat.lt_or_ge q 9999 with hq | hq
  · have h2 := h.hi hq
    have h3 : X / V < q + 1 := (Nat.div_lt_iff_lt_mul hV).2 (by rw [Nat.mul_comm]; exact h2)
    omega
  · omega
end Cub
namespace Go.Proofs.YtijifpbpjinmhaaGreatDoor
open Go.RowKit
theorem OwnI.one (w : World) (q : Nat) : OwnI (w.alloc (.cells #[.int .i64 (q : Int)] 3)) w.heap.size (.slice (some ⟨w.heap.size, 0, none⟩) 1 1) [q] := by
  refine ⟨rfl, Or.inr ⟨w.heap.size, 1, #[.int .i64 (q : Int)], rfl, Nat.le_refl _, heap_alloc_new w _, Nat.le_refl _, by unfold maxLen; omega, rfl, rfl⟩⟩
theorem refFits_any (vx vy : Value) (bx by' : Nat) (X Y : List Nat) (up Q : Nat) (w : World) (hx : OwnI w bx vx X) (hy : OwnI w by' vy Y) (hlx : Cub.limbs 10000 X) (hny : Cub.normal 10000 Y) (hl : X.length ≤ 1000000) (hly : Y.length ≤ 100000) (hup : up < X.length)
    (h9 : Cub.lval 10000 (X.drop up) / Cub.lval 10000 Y ≤ 9999) (hV : 0 < Cub.lval 10000 Y) (hQ : Q = Cub.lval 10000 (X.drop up) / Cub.lval 10000 Y) :
    Calls Tryz.prog 131 #[vx, vy, .int .i64 (up : Int)] w fun e w' => e = .returned (.int .i64 (Q : Int)) ∧ Below w.heap.size w w' := by
  obtain ⟨ax, cx, rfl, hcx, hmx, hcells⟩ := hx.open
  obtain ⟨gx, rfl, hc0⟩ := hcells w (Below.refl _ _) 0 (by omega)
  clear hcells hc0
  have HR : Hid (RowI w (.slice (some ⟨gx, up, none⟩) (X.length - up) (cx - up)) (X.drop up)) := (RowI.of_own hx).drop up hup
  obtain ⟨t1, t2, _⟩ := Cub.lval_trim 10000 _ (X.drop up) rfl
  have HT : Hid (Cub.normal 10000 (Cub.trimN (X.drop up)) ∧ Cub.lval 10000 (Cub.trimN (X.drop up)) = Cub.lval 10000 (X.drop up)) := ⟨t2 (Cub.limbs_drop4 hlx up), t1⟩
  have HY := hide hy
  have HF : Hid (∀ q, Cub.FitInv (Cub.lval 10000 (X.drop up)) (Cub.lval 10000 Y) q q → q = Q) := fun q h => by rw [hQ]; exact h.done h9 hV
  have H81 : Hid (∀ (q : Nat) (W : World), q < 10000 → OwnI W by' vy Y → Calls Tryz.prog 118 #[vy, .slice (some ⟨W.heap.size, 0, none⟩) 1 1] (W.alloc (.cells #[.int .i64 (q : Int)] 3)) fun e w' => ∃ v l, e = .returned v ∧ RowI w' v l ∧ Cub.normal 10000 l ∧ Cub.lval 10000 l = Cub.lval 10000 Y * q ∧ Below W.heap.size W w') := fun q W hq hW => by
    refine (refTimes_any vy _ by' W.heap.size Y [q] _ (hW.later ((Below.refl _ _).alloc (Nat.le_refl _) _)) (OwnI.one W q) hny.1 (fun z hz => by rw [List.mem_singleton] at hz; omega) (by omega) (by simp)).mono ?_
    rintro e w' ⟨v, l, he, ho, hn, hv, _, hb⟩
    exact ⟨v, l, he, RowI.of_own ho, hn, by rw [hv]; simp [Cub.lval], ((Below.refl _ _).alloc (Nat.le_refl _) _).trans (hb.mono (by simp))⟩
  generalize Cub.lval 10000 (X.drop up) = XU at *
  generalize Cub.lval 10000 Y = V at *
  generalize X.length = n at *
  clear hx hy hlx hny hly h9 hV hQ t1 t2
  go_enter Tryz.func131, Tryz.ntmps131
  go_wp2
  go_loopw [7, 8] (fun a b wr => ∃ low high : Nat, a = .int .i64 (low : Int) ∧ b = .int .i64 (high : Int) ∧ low ≤ high ∧ high ≤ 9999 ∧ Hid (Cub.FitInv XU V low high) ∧ Hid (Below w.heap.size w wr)) (fun a b _ => (intOf b - intOf a).toNat)
  case atStart => exact ⟨0, 9999, rfl, rfl, by omega, by omega, Cub.FitInv.start XU V, Below.refl _ _⟩
  case round =>
    obtain ⟨low, high, rfl, rfl, hle, htop, HI, HW⟩ := hrel
    by_cases hlt : low < high
    · obtain ⟨q, hq⟩ : ∃ q, q = (low + high + 1) / 2 := ⟨_, rfl⟩
      have hq' : ((low : Int) + (high : Int) + 1) / 2 = (q : Int) := by omega
      have hq1 : low < q := by omega
      have hq2 : q ≤ high := by omega
      have HWW := hide ((unhide HY).later (unhide HW))
      have H81q := hide (unhide H81 q wr (by omega) (unhide HWW))
      clear hq
      by_cases hc : XU < V * q
      all_goals go_wp2_with (first
        | (go_at_call 118; go_must (refine (unhide H81q).mono ?_; rintro e w2 ⟨vp, lp, rfl, hrp, hnp, hvp, hb2⟩; have HP := hide (And.intro hrp (And.intro hnp hvp)); have HW2 := hide ((unhide HW).trans (hb2.mono (unhide HW).size)); clear hrp hnp hvp hb2))
        | (go_at_call 133; go_must (refine (refTrimRow_any _ (X.drop up) w2 ((unhide HR).later (unhide HW2))).mono ?_; rintro e w3 ⟨vt, rfl, hrt, hw3⟩; rw [hw3]; clear hw3; have H85 := hide (refLess_any vt vp (Cub.trimN (X.drop up)) lp w2 hrt (unhide HP).1 (unhide HT).1 (unhide HP).2.1); rw [(unhide HT).2, (unhide HP).2.2] at H85; clear hrt))
        | (go_at_call 130; go_must (refine (unhide H85).mono ?_; rintro e w4 ⟨rfl, hb4⟩; have HW4 := hide ((unhide HW2).trans (hb4.mono (unhide HW2).size)); clear hb4)))
      · go_roundw
        case rel => exact ⟨low, q - 1, rfl, by go_num, by omega, by omega, (unhide HI).down hq1 hq2 hc, HW4⟩
        case measure => simp [intOf]; omega
      · go_roundw
        case rel => exact ⟨q, high, rfl, rfl, by omega, by omega, (unhide HI).up hq2 hc, HW4⟩
        case measure => simp [intOf]; omega
    · have hie : low = high := by omega
      subst hie
      have HV := hide (unhide HF low (unhide HI))
      clear HF
      go_wp2
      go_ret
      exact ⟨by rw [← unhide HV]; rfl, unhide HW⟩
end Go.Proofs.YtijifpbpjinmhaaGreatDoor
namespace Go.Proofs.YtijifpbpjinmhaaGreatDoor
open Go.RowKit
theorem grown_refl (w : World) (r : Option Nat) : w.grownBy w r := ⟨rfl, rfl, rfl, Nat.le_refl _, fun _ _ _ => rfl⟩
theorem grown_set {w wr : World} {g i : Nat} {v : Value} (h : w.grownBy wr (some g)) : w.grownBy (wr.setCell ⟨g, i, none⟩ v) (some g) :=
  ⟨h.os, h.tape, h.output, by simpa [World.setCell] using h.size, fun k hk hne => by
    rw [Below.heap_setCell _ _ _ _ (fun e => hne (by rw [e]))]; exact h.block k hk hne⟩
theorem own_grown {w wr : World} {g base : Nat} {v : Value} {l : List Nat} (h : OwnI w base v l) (hg : w.grownBy wr (some g)) (hlt : g < base) : OwnI wr base v l := by
  obtain ⟨hx, h2⟩ := h
  refine ⟨hx, ?_⟩
  rcases h2 with h2 | ⟨g', cap, cur, e, hbs, hg', r⟩
  · exact Or.inl h2
  · exact Or.inr ⟨g', cap, cur, e, hbs, (hg.block g' (Array.getElem?_eq_some_iff.1 hg').1 (fun e => by simp only [Option.some.injEq] at e; omega)).trans hg', r⟩
theorem own_set {w : World} {base g n cap i : Nat} {D : List Nat} (h : OwnI w base (.slice (some ⟨g, 0, none⟩) n cap) D) (hn : n = D.length) (x : Nat) (z : Int) (hz : z = (x : Int)) : OwnI (w.setCell ⟨g, i, none⟩ (.int .i64 z)) base (.slice (some ⟨g, 0, none⟩) n cap) (D.set i x) := by
  subst hz
  have h' : w.ownsRow base 3 1 (.slice (some ⟨g, 0, none⟩) n cap) n (i64s D) := by unfold OwnI at h; rw [← hn] at h; exact h
  have h2 := (World.ownsRow.stored h' i (.int .i64 (x : Int))).1
  rw [i64s_set] at h2
  unfold OwnI
  rw [List.length_set, ← hn]; exact h2
theorem refTake_any (vy : Value) (bx by' g n cx : Nat) (X Y : List Nat) (up q : Nat) (w : World) (hn : n = X.length) (hx : OwnI w bx (.slice (some ⟨g, 0, none⟩) n cx) X) (hy : OwnI w by' vy Y) (hg : g < by') (hlx : Cub.limbs 10000 X) (hly : Cub.limbs 10000 Y) (hl : n ≤ 1000000) (hup : up + Y.length ≤ n) (hq : q ≤ 9999)
    (hle : q * Cub.lval 10000 Y ≤ Cub.lval 10000 (X.drop up)) :
    Calls Tryz.prog 132 #[.slice (some ⟨g, 0, none⟩) n cx, vy, .int .i64 (up : Int), .int .i64 (q : Int)] w fun e w' => e = .returned (.tuple #[]) ∧ (∃ D, OwnI w' bx (.slice (some ⟨g, 0, none⟩) n cx) D ∧ D.length = X.length ∧ Cub.limbs 10000 D ∧ D.take up = X.take up ∧ Cub.lval 10000 (D.drop up) + q * Cub.lval 10000 Y = Cub.lval 10000 (X.drop up)) ∧ w.grownBy w' (some g) := by
  obtain ⟨ay, cy, rfl, hcy, hmy, hcells⟩ := hy.open
  have HC := hide hcells
  have HN := hide hn
  have HY := hide hy
  have HLY := hide hly
  have HLE := hide hle
  have HS : Hid (Cub.RefTakeInv X Y X up q 0 0) := Cub.RefTakeInv.start Y up q hlx
  have HX := hide hx
  obtain ⟨ny, hny⟩ : ∃ ny, ny = Y.length := ⟨_, rfl⟩
  rw [← hny] at hcy hup HY ⊢
  have HNY := hide hny
  clear hcells hn hy hly hle hlx hx hny
  go_enter Tryz.func132, Tryz.ntmps132
  go_wp2
  go_loopw [8, 9] (fun a b wr => ∃ (c k : Nat) (D : List Nat), a = .int .i64 (c : Int) ∧ b = .int .i64 (k : Int) ∧ c ≤ 9999 ∧ up + k ≤ n ∧ Hid (Cub.RefTakeInv X Y D up q c k) ∧ Hid (OwnI wr bx (.slice (some ⟨g, 0, none⟩) n cx) D) ∧ Hid (w.grownBy wr (some g))) (fun _ b _ => n - (intOf b).toNat)
  case atStart => exact ⟨0, 0, X, rfl, rfl, by omega, by omega, HS, HX, grown_refl _ _⟩
  case round =>
    obtain ⟨c, k, D, rfl, rfl, hc, hk, HI, HO, HG⟩ := hrel
    clear HS HX
    have hDn : n = D.length := by rw [(unhide HI).len]; exact unhide HN
    by_cases hend : ¬ k < ny ∧ c = 0
    · obtain ⟨hkn, hc0⟩ := hend
      subst hc0
      have HD := hide ((unhide HI).done (by have := unhide HNY; omega) (by have := unhide HN; omega))
      go_wp2
      go_end0
      exact ⟨rfl, ⟨D, unhide HO, (unhide HI).len, (unhide HI).lim, (unhide HI).low, unhide HD⟩, unhide HG⟩
    · have hkn : up + k < n := by
        rcases Nat.lt_or_ge (up + k) n with h | h
        · exact h
        · exfalso
          have hc0 := (unhide HI).owes (by have := unhide HNY; omega) (by have := unhide HN; omega) (unhide HLE)
          exact hend ⟨by omega, hc0⟩
      have hkD : up + k < D.length := by omega
      obtain ⟨x, hx⟩ : ∃ x, x = D[up + k] := ⟨_, rfl⟩
      have hxB : x < 10000 := by rw [hx]; exact (unhide HI).lim _ (List.getElem_mem hkD)
      obtain ⟨gx', cgx, e1, _, _, hcx⟩ := (unhide HO).open
      simp only [Value.slice.injEq] at e1
      obtain ⟨rfl, hn1, rfl⟩ := e1
      clear hn1
      obtain ⟨g2, e2, hcd⟩ := hcx wr (Below.refl _ _) (up + k) hkD
      simp only [Option.some.injEq, Addr.mk.injEq] at e2
      obtain ⟨rfl, hn2⟩ := e2
      clear hn2
      rw [← hx] at hcd
      have hfd : wr.frozen? ⟨g, up + k, none⟩ = false := by
        have h := unhide HO
        unfold OwnI at h; rw [← hDn] at h
        exact h.frozenAt (up + k)
      obtain ⟨y, hy⟩ : ∃ y, Y.getD k 0 = y := ⟨_, rfl⟩
      have hyB : y < 10000 := by rw [← hy]; exact Cub.getD_lt (unhide HLY) (by decide) _
      obtain ⟨p, hp⟩ : ∃ p, p = q * y := ⟨_, rfl⟩
      have hpB : p ≤ 99980001 := by rw [hp]; exact Nat.mul_le_mul hq (show y ≤ 9999 by omega)
      have hpI : (q : Int) * (y : Int) = (p : Int) := by rw [hp]; exact (Int.natCast_mul q y).symm
      have HST : Hid (∀ d c' : Nat, d < 10000 → c' ≤ 9999 → x + c' * 10000 = d + c + p → Cub.RefTakeInv X Y (D.set (up + k) d) up q c' (k + 1)) := fun d c' h1 h2 h3 => (unhide HI).step hkD h1 h2 (by rw [← hx, hy, ← hp]; exact h3)
      have HSET : Hid (∀ (d : Nat) (z : Int), z = (d : Int) → OwnI (wr.setCell ⟨g, up + k, none⟩ (.int .i64 z)) bx (.slice (some ⟨g, 0, none⟩) n cx) (D.set (up + k) d)) := fun d z hz => own_set (unhide HO) hDn d z hz
      have HGS : Hid (∀ z : Int, w.grownBy (wr.setCell ⟨g, up + k, none⟩ (.int .i64 z)) (some g)) := fun z => grown_set (unhide HG)
      have HOY := hide (own_grown (unhide HY) (unhide HG) hg)
      have hkI : (up : Int) + (k : Int) < (n : Int) := by omega
      by_cases hky : k < ny
      · have hkl : k < Y.length := by have := unhide HNY; omega
        obtain ⟨ay2, cy2, e3, _, _, hcy2⟩ := (unhide HOY).open
        simp only [Value.slice.injEq] at e3
        obtain ⟨rfl, hn3, rfl⟩ := e3
        clear hn3
        obtain ⟨b, rfl, hcb⟩ := hcy2 wr (Below.refl _ _) k hkl
        rw [show Y[k] = y by rw [← hy, List.getD_eq_getElem?_getD, List.getElem?_eq_getElem hkl]; rfl] at hcb
        have hkyI : (k : Int) < (ny : Int) := by omega
        clear hx hy hp hcx hcy2 HI HO HG HOY hDn hend hkl HLE HC
        by_cases hneg : x < c + p
        · have hnI : (x : Int) - (c : Int) - (p : Int) < 0 := by omega
          obtain ⟨c', hc'⟩ : ∃ c', c' = (c + p - x + 9999) / 10000 := ⟨_, rfl⟩
          have hcI : (-((x : Int) - (c : Int) - (p : Int)) + 10000 - 1) / 10000 = (c' : Int) := by omega
          have hc9 : c' ≤ 9999 := by omega
          obtain ⟨d, hd⟩ : ∃ d, d = x + c' * 10000 - (c + p) := ⟨_, rfl⟩
          have hdI : (x : Int) - (c : Int) - (p : Int) + (c' : Int) * 10000 = (d : Int) := by omega
          have hd9 : d < 10000 := by omega
          have HST2 := hide (unhide HST d c' hd9 hc9 (by omega))
          clear hc' hd HST
          go_wp2
          go_roundw
          case rel => exact ⟨c', k + 1, D.set (up + k) d, by go_num, by go_num, hc9, by omega, HST2, unhide HSET d _ rfl, unhide HGS _⟩
          case measure => simp [intOf]; omega
        · have hnI : ¬ (x : Int) - (c : Int) - (p : Int) < 0 := by omega
          obtain ⟨d, hd⟩ : ∃ d, d = x - (c + p) := ⟨_, rfl⟩
          have hdI : (x : Int) - (c : Int) - (p : Int) = (d : Int) := by omega
          have HST2 := hide (unhide HST d 0 (by omega) (by omega) (by omega))
          have hnI2 : ¬ (d : Int) < 0 := by omega
          clear hd HST hnI
          go_wp2
          go_roundw
          case rel => exact ⟨0, k + 1, D.set (up + k) d, rfl, by go_num, by omega, by omega, HST2, unhide HSET d _ rfl, unhide HGS _⟩
          case measure => simp [intOf]; omega
      · have hkyI : ¬ (k : Int) < (ny : Int) := by omega
        have hc0 : (0 : Int) < (c : Int) := by omega
        have hp0 : p = 0 := by
          rw [hp, ← hy, List.getD_eq_getElem?_getD, List.getElem?_eq_none (by have := unhide HNY; omega)]; exact Nat.mul_zero q
        clear hx hy hp hcx HI HO HG HOY hDn hend HLE HC hpI hpB
        subst hp0
        by_cases hneg : x < c
        · have hnI : (x : Int) - (c : Int) < 0 := by omega
          obtain ⟨c', hc'⟩ : ∃ c', c' = (c - x + 9999) / 10000 := ⟨_, rfl⟩
          have hcI : (-((x : Int) - (c : Int)) + 10000 - 1) / 10000 = (c' : Int) := by omega
          have hc9 : c' ≤ 9999 := by omega
          obtain ⟨d, hd⟩ : ∃ d, d = x + c' * 10000 - c := ⟨_, rfl⟩
          have hdI : (x : Int) - (c : Int) + (c' : Int) * 10000 = (d : Int) := by omega
          have hd9 : d < 10000 := by omega
          have HST2 := hide (unhide HST d c' hd9 hc9 (by omega))
          clear hc' hd HST
          go_wp2
          go_roundw
          case rel => exact ⟨c', k + 1, D.set (up + k) d, by go_num, by go_num, hc9, by omega, HST2, unhide HSET d _ rfl, unhide HGS _⟩
          case measure => simp [intOf]; omega
        · have hnI : ¬ (x : Int) - (c : Int) < 0 := by omega
          obtain ⟨d, hd⟩ : ∃ d, d = x - c := ⟨_, rfl⟩
          have hdI : (x : Int) - (c : Int) = (d : Int) := by omega
          have HST2 := hide (unhide HST d 0 (by omega) (by omega) (by omega))
          have hnI2 : ¬ (d : Int) < 0 := by omega
          clear hd HST hnI
          go_wp2
          go_roundw
          case rel => exact ⟨0, k + 1, D.set (up + k) d, rfl, by go_num, by omega, by omega, HST2, unhide HSET d _ rfl, unhide HGS _⟩
          case measure => simp [intOf]; omega
theorem own_other {w : World} {base g n c g' i : Nat} {l : List Nat} {u : Value} (h : OwnI w base (.slice (some ⟨g, 0, none⟩) n c) l) (hne : g ≠ g') : OwnI (w.setCell ⟨g', i, none⟩ u) base (.slice (some ⟨g, 0, none⟩) n c) l := by
  obtain ⟨hx, h2⟩ := h
  refine ⟨hx, ?_⟩
  rcases h2 with ⟨e, _⟩ | ⟨g2, cap, cur, e, hbs, hg', r⟩
  · cases e
  · refine Or.inr ⟨g2, cap, cur, e, hbs, ?_, r⟩
    simp only [Value.slice.injEq, Option.some.injEq, Addr.mk.injEq] at e
    obtain ⟨⟨rfl, _⟩, _⟩ := e
    rw [Below.heap_setCell _ _ _ _ (by exact hne)]; exact hg'
theorem own_block {w : World} {base : Nat} {v : Value} {l : List Nat} (h : OwnI w base v l) (hne : l ≠ []) : ∃ g c, v = .slice (some ⟨g, 0, none⟩) l.length c ∧ base ≤ g ∧ g < w.heap.size ∧ l.length ≤ c ∧ c ≤ 9223372036854775807 := by
  obtain ⟨a, c, rfl, hc, hm, hcells⟩ := h.open
  have h0 : 0 < l.length := List.length_pos_iff.2 hne
  obtain ⟨g, rfl, _⟩ := hcells w (Below.refl _ _) 0 h0
  have := World.ownsRow.lt h g rfl
  exact ⟨g, c, rfl, this.1, this.2, hc, hm⟩
theorem mk_tb (m : Nat) (hm : m < 10 ^ 600) : (⟨(Lib.decDigits m).toArray⟩ : ByteArray) = tb m := by
  have := tb_list m hm
  rw [← this]
theorem mod_lt' (m n : Nat) (d : Nat) (hm : m < 10 ^ d) : m % n < 10 ^ d := Nat.lt_of_le_of_lt (Nat.mod_le _ _) hm
end Go.Proofs.YtijifpbpjinmhaaGreatDoor

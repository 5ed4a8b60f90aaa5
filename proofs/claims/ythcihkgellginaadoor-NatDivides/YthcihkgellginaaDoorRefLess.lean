/- The document's less, and its trim at any place of a row. -/
import Derived.Test.YthcihkgellginaaDoorRefDivMath
import Derived.Test.YthcihkgellginaaDoorRefTimes
import Derived.WalkSmall
import Derived.Deep.Cut
namespace Go.Proofs.YthcihkgellginaaDoor
open Go.RowKit

/-- A slice value holds a list of limbs, at whatever place of its block. -/
def RowI (w : World) (v : Value) (l : List Nat) : Prop :=
  ∃ a cap, v = .slice a l.length cap ∧ l.length ≤ cap ∧ cap ≤ 9223372036854775807 ∧ (l ≠ [] → ∃ b o, a = some ⟨b, o, none⟩ ∧ b < w.heap.size ∧ ∀ i (h : i < l.length), w.cell? ⟨b, o + i, none⟩ = some (.int .i64 (l[i] : Int)))
theorem RowI.later {w w' : World} {v : Value} {l : List Nat} (h : RowI w v l) (hb : Below w.heap.size w w') : RowI w' v l := by
  obtain ⟨a, cap, rfl, hc, hm, hr⟩ := h
  refine ⟨a, cap, rfl, hc, hm, fun hne => ?_⟩
  obtain ⟨b, o, rfl, hlt, hcell⟩ := hr hne
  have := hb.size
  exact ⟨b, o, rfl, by omega, fun i hi => (hb.cell (p := ⟨b, o + i, none⟩) hlt).trans (hcell i hi)⟩
theorem RowI.of_own {w : World} {base : Nat} {v : Value} {l : List Nat} (h : OwnI w base v l) : RowI w v l := by
  obtain ⟨a, cap, rfl, hc, hm, hcells⟩ := h.open
  refine ⟨a, cap, rfl, hc, hm, fun hne => ?_⟩
  have h0 : 0 < l.length := List.length_pos_iff.2 hne
  obtain ⟨b, rfl, hc0⟩ := hcells w (Below.refl _ _) 0 h0
  refine ⟨b, 0, rfl, World.block_lt_of_cell? _ _ hc0, fun i hi => ?_⟩
  obtain ⟨b', e, hc1⟩ := hcells w (Below.refl _ _) i hi
  simp only [Option.some.injEq, Addr.mk.injEq] at e
  obtain ⟨rfl, _⟩ := e
  rw [Nat.zero_add]; exact hc1
/-- From a place on. -/
theorem RowI.drop {w : World} {b n cap : Nat} {l : List Nat} (h : RowI w (.slice (some ⟨b, 0, none⟩) n cap) l) (up : Nat) (hu : up < n) : RowI w (.slice (some ⟨b, up, none⟩) (n - up) (cap - up)) (l.drop up) := by
  obtain ⟨a, cap', e, hc, hm, hr⟩ := h
  simp only [Value.slice.injEq] at e
  obtain ⟨rfl, rfl, rfl⟩ := e
  have hl : (l.drop up).length = l.length - up := List.length_drop ..
  refine ⟨_, _, by rw [hl], by rw [hl]; omega, by omega, fun _ => ?_⟩
  obtain ⟨b', o, e, hlt, hcell⟩ := hr (fun e => by rw [e] at hu; simp at hu)
  simp only [Option.some.injEq, Addr.mk.injEq] at e
  obtain ⟨rfl, rfl, _⟩ := e
  refine ⟨b, up, rfl, hlt, fun i hi => ?_⟩
  rw [List.getElem_drop]
  have := hcell (up + i) (by rw [hl] at hi; omega)
  rw [Nat.zero_add] at this
  exact this
theorem RowI.take {w : World} {a : Option Addr} {n cap : Nat} {l : List Nat} (h : RowI w (.slice a n cap) l) (k : Nat) (hk : k ≤ n) : RowI w (.slice a k cap) (l.take k) := by
  obtain ⟨a', cap', e, hc, hm, hr⟩ := h
  simp only [Value.slice.injEq] at e
  obtain ⟨rfl, rfl, rfl⟩ := e
  have hl : (l.take k).length = k := by rw [List.length_take]; omega
  refine ⟨a, cap, by rw [hl], by omega, hm, fun hne => ?_⟩
  obtain ⟨b, o, rfl, hlt, hcell⟩ := hr (fun e => hne (by rw [e]; simp))
  refine ⟨b, o, rfl, hlt, fun i hi => ?_⟩
  rw [List.getElem_take]
  exact hcell i (by omega)

set_option maxRecDepth 100000 in
set_option maxHeartbeats 400000 in
theorem refTrimRow_any (v : Value) (l : List Nat) (w : World) (h : RowI w v l) :
    Calls Tryd.prog 77 #[v] w fun e w' => ∃ v', e = .returned v' ∧ RowI w v' (Cub.trimN l) ∧ w' = w := by
  have H := hide h
  obtain ⟨a, cap, rfl, hc, hm, hr⟩ := h
  have HR := hide hr
  clear hr
  obtain ⟨n, hn⟩ : ∃ n, n = l.length := ⟨_, rfl⟩
  rw [← hn] at H hc ⊢
  have HN := hide hn
  clear hn
  go_enter Tryd.func77, Tryd.ntmps77
  go_wp2
  go_loop [0] (fun t => ∃ k : Nat, k ≤ n ∧ t = .slice a k cap ∧ Hid (Cub.trimN (l.take k) = Cub.trimN l)) (fun t => lenOf t)
  case atStart => exact ⟨n, Nat.le_refl _, rfl, by rw [List.take_of_length_le (by have := unhide HN; omega)]; exact rfl⟩
  case round =>
    obtain ⟨k, hk, rfl, ht⟩ := hrel
    have HT := ht
    clear ht
    by_cases hk0 : k = 0
    · subst hk0
      have E : Hid (Cub.trimN l = l.take 0) := by rw [← unhide HT]; exact rfl
      go_wp2
      go_ret
      exact ⟨_, rfl, by rw [unhide E]; exact (unhide H).take 0 (Nat.zero_le _), rfl⟩
    · obtain ⟨j, rfl⟩ : ∃ j, k = j + 1 := ⟨k - 1, by omega⟩
      have hlt : j < l.length := by have := unhide HN; omega
      obtain ⟨b, o, rfl, _, hcell⟩ := unhide HR (fun e => by rw [e] at hlt; simp at hlt)
      have hx := hcell j hlt
      clear hcell
      by_cases hz : l[j] = 0
      · rw [hz] at hx
        have E : Hid (Cub.trimN (l.take j) = Cub.trimN l) := by
          rw [← unhide HT, List.take_succ_eq_append_getElem hlt, hz, Cub.trimN_snoc_zero]; exact rfl
        clear hz
        go_wp2
        go_round
        case rel => exact ⟨j, by omega, by first | rfl | go_num, E⟩
        case measure => simp [lenOf]
      · have E : Hid (Cub.trimN l = l.take (j + 1)) := by
          rw [← unhide HT, List.take_succ_eq_append_getElem hlt, Cub.trimN_snoc _ _ hz]; exact rfl
        have hz' : ((l[j] : Int) == 0) = false := by rw [beq_eq_false_iff_ne]; omega
        clear hz
        go_wp2
        go_ret
        exact ⟨_, rfl, by rw [unhide E]; exact (unhide H).take (j + 1) hk, rfl⟩

set_option maxRecDepth 100000 in
set_option maxHeartbeats 1000000 in
theorem refLess_any (vx vy : Value) (x y : List Nat) (w : World) (hx : RowI w vx x) (hy : RowI w vy y) (hnx : Cub.normal 10000 x) (hny : Cub.normal 10000 y) :
    Calls Tryd.prog 85 #[vx, vy] w fun e w' => e = .returned (.bool (decide (Cub.lval 10000 x < Cub.lval 10000 y))) ∧ Below w.heap.size w w' := by
  obtain ⟨ax, cx, rfl, hcx, hmx, hrx⟩ := hx
  obtain ⟨ay, cy, rfl, hcy, hmy, hry⟩ := hy
  by_cases hlen : x.length = y.length
  · have HRX := hide hrx
    have HRY := hide hry
    have HB : Hid (Cub.limbs 10000 x ∧ Cub.limbs 10000 y) := ⟨hnx.1, hny.1⟩
    have HL := hide hlen
    obtain ⟨n, hn⟩ : ∃ n, n = x.length := ⟨_, rfl⟩
    rw [← hlen] at hcy ⊢
    rw [← hn] at hcx hcy ⊢
    have HN := hide hn
    clear hrx hry hnx hny hlen hn
    go_enter Tryd.func85, Tryd.ntmps85
    go_wp2
    go_loopw [5] (fun t wr => ∃ k : Nat, k ≤ n ∧ t = .int .i64 ((k : Int) - 1) ∧ Hid (x.drop k = y.drop k) ∧ Hid (Below w.heap.size w wr)) (fun t _ => (intOf t + 1).toNat)
    case atStart => exact ⟨n, Nat.le_refl _, rfl, by rw [List.drop_of_length_le (by have := unhide HN; omega), List.drop_of_length_le (by have := unhide HN; have := unhide HL; omega)]; exact rfl, Below.refl _ _⟩
    case round =>
      obtain ⟨k, hk, rfl, HD, HW⟩ := hrel
      by_cases h0 : k = 0
      · subst h0
        have HV : Hid (decide (Cub.lval 10000 x < Cub.lval 10000 y) = false) := by
          have := unhide HD
          rw [List.drop_zero, List.drop_zero] at this
          show _ = _
          rw [this]; simp
        go_wp2
        go_ret
        exact ⟨by rw [unhide HV]; rfl, unhide HW⟩
      · obtain ⟨j, rfl⟩ : ∃ j, k = j + 1 := ⟨k - 1, by omega⟩
        have hjx : j < x.length := by have := unhide HN; omega
        have hjy : j < y.length := by have := unhide HL; omega
        obtain ⟨bx, ox, rfl, hbx, hcellx⟩ := unhide HRX (fun e => by rw [e] at hjx; simp at hjx)
        obtain ⟨by', oy, rfl, hby, hcelly⟩ := unhide HRY (fun e => by rw [e] at hjy; simp at hjy)
        obtain ⟨xv, hxv⟩ : ∃ xv, xv = x[j] := ⟨_, rfl⟩
        obtain ⟨yv, hyv⟩ : ∃ yv, yv = y[j] := ⟨_, rfl⟩
        have c1 : wr.cell? ⟨bx, ox + j, none⟩ = some (.int .i64 (xv : Int)) := by rw [(unhide HW).cell (p := ⟨bx, ox + j, none⟩) hbx, hcellx j hjx, hxv]
        have c2 : wr.cell? ⟨by', oy + j, none⟩ = some (.int .i64 (yv : Int)) := by rw [(unhide HW).cell (p := ⟨by', oy + j, none⟩) hby, hcelly j hjy, hyv]
        have hjn : (j : Int) < (n : Int) := by omega
        have HLT : Hid (xv < yv → Cub.lval 10000 x < Cub.lval 10000 y) := fun h => Cub.less_at (unhide HB).1 hjx hjy (unhide HD) (by rw [← hxv, ← hyv]; exact h)
        have HGT : Hid (yv < xv → Cub.lval 10000 y < Cub.lval 10000 x) := fun h => Cub.less_at (unhide HB).2 hjy hjx (unhide HD).symm (by rw [← hxv, ← hyv]; exact h)
        have HEQ : Hid (xv = yv → x.drop j = y.drop j) := fun h => Cub.drop_same hjx hjy (unhide HD) (by rw [← hxv, ← hyv]; exact h)
        have ej : ((j + 1 : Nat) : Int) - 1 = (j : Int) := by omega
        rw [ej]
        clear hcellx hcelly hxv hyv hjx hjy HD ej h0
        by_cases he : xv = yv
        · have HE' := hide (unhide HEQ he)
          subst he
          have e : ((xv : Int) != (xv : Int)) = false := by simp
          clear HLT HGT HEQ
          go_upto_region 6 with fail
          go_quiet (fail)
          go_wp2_with fail
          go_roundw
          case rel => exact ⟨j, by omega, by go_num, HE', below_drewN (unhide HW) _⟩
          case measure => simp [intOf]
        · have e : ((xv : Int) != (yv : Int)) = true := by rw [bne_iff_ne]; omega
          have HV : Hid (decide (Cub.lval 10000 x < Cub.lval 10000 y) = decide (xv < yv)) := by
            show _ = _
            rcases Nat.lt_or_ge xv yv with h | h
            · rw [decide_eq_true (unhide HLT h), decide_eq_true (by omega)]
            · have := unhide HGT (by omega)
              rw [decide_eq_false (by omega), decide_eq_false (by omega)]
          clear HLT HGT HEQ he
          go_upto_region 6 with fail
          go_quiet (fail)
          go_upto_region 7 with fail
          go_quiet (fail)
          go_wp2_with fail
          go_ret
          exact ⟨by rw [unhide HV]; rfl, below_drewN (below_drewN (unhide HW) _) _⟩
  · have HV : Hid (decide (Cub.lval 10000 x < Cub.lval 10000 y) = decide (x.length < y.length)) := by
      show _ = _
      rcases Nat.lt_or_ge x.length y.length with h | h
      · rw [decide_eq_true (Cub.less_len (by decide) hnx.1 hny h), decide_eq_true (by omega)]
      · have := Cub.less_len (by decide) hny.1 hnx (by omega : y.length < x.length)
        rw [decide_eq_false (by omega), decide_eq_false (by omega)]
    have e : ((x.length : Int) != (y.length : Int)) = true := by rw [bne_iff_ne]; omega
    rw [unhide HV]
    clear hlen HV hrx hry hnx hny
    generalize x.length = nx at *
    generalize y.length = ny at *
    go_enter Tryd.func85, Tryd.ntmps85
    go_wp2
    go_ret
    exact ⟨rfl, Below.refl _ _⟩
end Go.Proofs.YthcihkgellginaaDoor

/- flo: what a float's + and - and times give, as a function of the bits, no number read as one; rows of floats in memory. -/
import Derived.Test.YtijifpbpjinmhaaGreatDoorMulMath
import Derived.Test.YtijifpbpjinmhaaGreatDoorRefMinus
import Derived.Deep.QuietTactic
import Derived.BigQuiet
import Derived.WalkSmall
import Derived.Deep.Cut
import Derived.Test.YtijifpbpjinmhaaGreatDoorText
import Derived.OwnWalk
import Derived.Test.YtijifpbpjinmhaaGreatDoorGcdFirst
import Derived.Test.YtijifpbpjinmhaaGreatDoorCmpMath
import Derived.Lib.ItoaLen
import Derived.Test.YtijifpbpjinmhaaGreatDoorRoom
import Derived.Maps.OwnSet
import Derived.Maps.RangeWalk
import Derived.Laws.EntriesVeiled
import Derived.Test.YtijifpbpjinmhaaGreatDoorSt2
import Derived.Laws.FloatArith
import Derived.Sort.OwnSorted
import Derived.Laws.AppendOwnNone
import Derived.Lib.SmallJoins
set_option maxHeartbeats 2000000
set_option maxRecDepth 100000
namespace Go.Proofs.YtijifpbpjinmhaaGreatDoor
open Go.RowKit
theorem i64s_made (n : Nat) : (madeCells (Value.int .i64 0).cells (n * 1)).toList = i64s (List.replicate n 0) := by
  rw [show (Value.int .i64 0).cells = #[Value.int .i64 0] from rfl, toList_madeCells_one]
  simp [i64s]
/-- What stands of the row that is filled. -/
structure OutI (w wr : World) (g N : Nat) (O : List Nat) : Prop where
  own : wr.ownsRow w.heap.size 3 1 (.slice (some ⟨g, 0, none⟩) N N) N (i64s O)
  len : O.length = N
  low : w.heap.size ≤ g
  below : Below w.heap.size w wr
theorem OutI.cell {w wr : World} {g N : Nat} {O : List Nat} (h : OutI w wr g N O) (p : Nat) (hp : p < O.length) : wr.cell? ⟨g, p, none⟩ = some (.int .i64 (O[p] : Int)) := by
  rw [h.own.cellAt p (by have := h.len; omega), i64s_get O p hp]
theorem OutI.frozen {w wr : World} {g N : Nat} {O : List Nat} (h : OutI w wr g N O) (p : Nat) : wr.frozen? ⟨g, p, none⟩ = false := h.own.frozenAt p
theorem OutI.set {w wr : World} {g N : Nat} {O : List Nat} (h : OutI w wr g N O) (p x : Nat) (z : Int) (hz : z = (x : Int)) : OutI w (wr.setCell ⟨g, p, none⟩ (.int .i64 z)) g N (O.set p x) := by
  subst hz
  refine ⟨?_, by rw [List.length_set]; exact h.len, h.low, h.below.setCell (by exact h.low) _⟩
  have := (World.ownsRow.stored h.own p (.int .i64 (x : Int))).1
  rw [i64s_set] at this
  exact this
theorem OutI.drew {w wr : World} {g N : Nat} {O : List Nat} (h : OutI w wr g N O) (k : Nat) : OutI w (wr.drewN k) g N O := ⟨h.own, h.len, h.low, below_drewN h.below k⟩
theorem refTimes_any (vx vy : Value) (bx by' : Nat) (lx ly : List Nat) (w : World) (hox : OwnI w bx vx lx) (hoy : OwnI w by' vy ly) (hlx : Cub.limbs 10000 lx) (hly : Cub.limbs 10000 ly) (hnx : lx.length ≤ 1000000) (hny : ly.length ≤ 1000000) :
    Calls Tryz.prog 118 #[vx, vy] w fun e w' => ∃ v l, e = .returned v ∧ OwnI w' w.heap.size v l ∧ Cub.normal 10000 l ∧ Cub.lval 10000 l = Cub.lval 10000 lx * Cub.lval 10000 ly ∧ l.length ≤ lx.length + ly.length ∧ Below w.heap.size w w' := by
  obtain ⟨ax, cx, rfl, _, _, hcx⟩ := hox.open
  obtain ⟨ay, cy, rfl, _, _, hcy⟩ := hoy.open
  have HX := hide (And.intro hlx hcx)
  have HY := hide (And.intro hly hcy)
  obtain ⟨nx, hnx'⟩ : ∃ nx, nx = lx.length := ⟨_, rfl⟩
  obtain ⟨ny, hny'⟩ : ∃ ny, ny = ly.length := ⟨_, rfl⟩
  rw [← hnx'] at hnx ⊢
  rw [← hny'] at hny ⊢
  have HNX := hide hnx'
  have HNY := hide hny'
  clear hox hoy hlx hly hcx hcy hnx' hny'
  obtain ⟨i0, hi, hz0, hz1, hz2⟩ := info_parts Tryz.info3
  go_enter Tryz.func118, Tryz.ntmps118
  go_wp2_with (at_make; refine wpList_make_full _ rfl _ _ 138 rfl w.heap.size 3 i0 (.int .i64 0) 1 Tryz.underlying138 hi hz0 hz1 .i64 .i64 _ _ (nx + ny) rfl rfl (by omega) (by omega) (by rw [hz2]; omega) (by unfold maxLen; omega) (Nat.le_refl _) ?_; intro w3 hown3 hgrow3)
  have hO3 : OutI w w3 w.heap.size (nx + ny) (List.replicate (nx + ny) 0) := by
    refine ⟨?_, List.length_replicate .., Nat.le_refl _, (Below.refl _ _).grown hgrow3 (Nat.le_refl _) (fun k hk => by cases hk)⟩
    rw [i64s_made] at hown3
    exact hown3
  have HO3 := hide hO3
  clear hown3 hgrow3 hO3
  generalize hg : w.heap.size = g at *
  have HG := hide hg
  clear hg
  go_loopw [6] (fun t wr => ∃ (i : Nat) (O : List Nat), t = .int .i64 (i : Int) ∧ i ≤ nx ∧ Hid (OutI w wr g (nx + ny) O) ∧ Hid (Cub.limbs 10000 O ∧ Cub.lval 10000 O = Cub.lval 10000 (lx.take i) * Cub.lval 10000 ly)) (fun t _ => nx - (intOf t).toNat)
  case atStart => exact ⟨0, _, rfl, by omega, HO3, ⟨Cub.limbs_zeros _ _ (by decide), by rw [Cub.lval_zeros]; simp [Cub.lval]⟩⟩
  case round =>
    obtain ⟨i, O, rfl, hi', HO, HV⟩ := hrel
    by_cases hin : i < nx
    · have hil : i < lx.length := by have := unhide HNX; omega
      obtain ⟨xv, hxv⟩ : ∃ xv, xv = lx[i] := ⟨_, rfl⟩
      have hxB : xv < 10000 := by rw [hxv]; exact (unhide HX).1 _ (List.getElem_mem hil)
      have HXV : Hid (lx.getD i 0 = xv) := by rw [hxv, List.getD_eq_getElem?_getD, List.getElem?_eq_getElem hil]; exact rfl
      obtain ⟨bx', rfl, _⟩ := (unhide HX).2 w (Below.refl _ _) i hil
      have HXC : Hid (∀ W, Below w.heap.size w W → W.cell? ⟨bx', i, none⟩ = some (.int .i64 (xv : Int))) := fun W hW => by
        obtain ⟨b, e, hc⟩ := (unhide HX).2 W hW i hil
        simp only [Option.some.injEq, Addr.mk.injEq, and_true] at e
        subst e
        rw [hxv]; exact hc
      have HA0 : Hid (Cub.Acc 10000 O 0 (i + 0) (Cub.lval 10000 (lx.take i) * Cub.lval 10000 ly + 10000 ^ i * (xv * Cub.lval 10000 (ly.take 0)))) := by
        refine ⟨(unhide HV).1, ?_⟩
        rw [(unhide HV).2]; simp [Cub.lval]
      generalize hV0 : Cub.lval 10000 (lx.take i) * Cub.lval 10000 ly = V0 at *
      have HV0 := hide hV0
      clear hxv hV0
      go_wp2
      go_loopw [7, 8] (fun c t wq => ∃ (k j : Nat) (P : List Nat), c = .int .i64 (k : Int) ∧ t = .int .i64 (j : Int) ∧ j ≤ ny ∧ k < 10000 ∧ Hid (OutI w wq g (nx + ny) P) ∧ Hid (Cub.Acc 10000 P k (i + j) (V0 + 10000 ^ i * (xv * Cub.lval 10000 (ly.take j))))) (fun _ t _ => ny - (intOf t).toNat)
      case atStart => exact ⟨0, 0, O, rfl, rfl, by omega, by omega, HO, HA0⟩
      case round =>
        obtain ⟨k, j, P, rfl, rfl, hj, hk, HP, HA⟩ := hrel
        by_cases hjn : j < ny
        · have hpl : i + j < P.length := by rw [(unhide HP).len]; omega
          have hjl : j < ly.length := by have := unhide HNY; omega
          obtain ⟨ov, hov⟩ : ∃ ov, ov = P[i + j] := ⟨_, rfl⟩
          have hoB : ov < 10000 := by rw [hov]; exact (unhide HA).lim _ (List.getElem_mem hpl)
          have hco := (unhide HP).cell (i + j) hpl
          rw [← hov] at hco
          have hfo := (unhide HP).frozen (i + j)
          have hcx := unhide HXC wr (unhide HP).below
          obtain ⟨yv, hyv⟩ : ∃ yv, yv = ly[j] := ⟨_, rfl⟩
          have hyB : yv < 10000 := by rw [hyv]; exact (unhide HY).1 _ (List.getElem_mem hjl)
          obtain ⟨by2, rfl, hcy⟩ := (unhide HY).2 wr (unhide HP).below j hjl
          rw [← hyv] at hcy
          have HYV : Hid (ly.getD j 0 = yv) := by rw [hyv, List.getD_eq_getElem?_getD, List.getElem?_eq_getElem hjl]; exact rfl
          have hin' : (i : Int) < (nx : Int) := by omega
          have hjn' : (j : Int) < (ny : Int) := by omega
          obtain ⟨m, hm⟩ : ∃ m, m = xv * yv := ⟨_, rfl⟩
          have hmB : m ≤ 99980001 := by rw [hm]; exact Nat.mul_le_mul (show xv ≤ 9999 by omega) (show yv ≤ 9999 by omega)
          have hmul : (xv : Int) * (yv : Int) = (m : Int) := by rw [hm]; simp
          have HA' : Hid (Cub.Acc 10000 (P.set (i + j) ((k + ov + m) % 10000)) ((k + ov + m) / 10000) (i + (j + 1)) (V0 + 10000 ^ i * (xv * Cub.lval 10000 (ly.take (j + 1))))) := by
            have h := (unhide HA).step (by decide) hpl (xv * ly.getD j 0)
            rw [Cub.val_inner, unhide HYV, ← hm, ← hov] at h
            exact h
          have hk' : (k + ov + m) / 10000 < 10000 := by rw [hm]; exact Cub.carry_lt 10000 k ov xv yv hk hoB hxB hyB
          clear hov hyv hjl hm hpl
          go_wp2
          go_quiet (fail)
          go_wp2
          go_roundw
          case rel => exact ⟨(k + ov + m) / 10000, j + 1, P.set (i + j) ((k + ov + m) % 10000), by go_num, by go_num, by omega, hk', ((unhide HP).set (i + j) ((k + ov + m) % 10000) _ (by omega)).drew _, HA'⟩
          case measure => simp [intOf]; omega
        · have hje : j = ny := by omega
          subst hje
          have HA1 : Hid (Cub.Acc 10000 P k (i + j) (Cub.lval 10000 (lx.take (i + 1)) * Cub.lval 10000 ly)) := by
            have h := unhide HA
            rw [List.take_of_length_le (by have := unhide HNY; omega), ← unhide HV0, ← unhide HXV, Cub.val_outer] at h
            exact h
          have HVB : Hid (Cub.lval 10000 (lx.take (i + 1)) * Cub.lval 10000 ly < 10000 ^ (nx + j)) := by
            rcases Cub.mul_lt 10000 lx ly (unhide HX).1 (unhide HY).1 (i + 1) with h | h
            · refine Nat.lt_of_lt_of_le h (Nat.pow_le_pow_right (by decide) ?_)
              have := unhide HNY; omega
            · omega
          generalize hV1 : Cub.lval 10000 (lx.take (i + 1)) * Cub.lval 10000 ly = V1 at *
          have HV1 := hide hV1
          clear HA hV1
          go_wp2
          go_loopw [7, 9] (fun c t wq => ∃ (k p : Nat) (P : List Nat), c = .int .i64 (k : Int) ∧ t = .int .i64 (p : Int) ∧ p ≤ nx + j ∧ k < 10000 ∧ Hid (OutI w wq g (nx + j) P) ∧ Hid (Cub.Acc 10000 P k p V1)) (fun _ t _ => nx + j - (intOf t).toNat)
          case atStart => exact ⟨k, i + j, P, rfl, by go_num, by omega, hk, HP, HA1⟩
          case round =>
            clear HP HA1 hk
            obtain ⟨k, p, P, rfl, rfl, hp, hk, HP, HA⟩ := hrel
            by_cases hk0 : k = 0
            · subst hk0
              have HVn : Hid (Cub.limbs 10000 P ∧ Cub.lval 10000 P = Cub.lval 10000 (lx.take (i + 1)) * Cub.lval 10000 ly) := ⟨(unhide HA).lim, by rw [unhide HV1]; have := (unhide HA).val; simpa using this⟩
              go_wp2
              go_roundw
              case rel => exact ⟨i + 1, P, by go_num, by omega, HP, HVn⟩
              case measure => simp [intOf]; omega
            · have hpn : p < nx + j := by
                rcases Nat.lt_or_ge p (nx + j) with h | h
                · exact h
                · exfalso
                  have e : p = nx + j := by omega
                  have h2 := unhide HA
                  rw [e] at h2
                  exact hk0 (h2.none (unhide HVB))
              have hpl : p < P.length := by rw [(unhide HP).len]; omega
              obtain ⟨ov, hov⟩ : ∃ ov, ov = P[p] := ⟨_, rfl⟩
              have hoB : ov < 10000 := by rw [hov]; exact (unhide HA).lim _ (List.getElem_mem hpl)
              have hco := (unhide HP).cell p hpl
              rw [← hov] at hco
              have hfo := (unhide HP).frozen p
              have HA' : Hid (Cub.Acc 10000 (P.set p ((k + ov) % 10000)) ((k + ov) / 10000) (p + 1) V1) := by
                have h := (unhide HA).step (by decide) hpl 0
                rw [← hov, Nat.add_zero, Nat.mul_zero, Nat.add_zero] at h
                exact h
              have hk' : (k + ov) / 10000 < 10000 := Cub.carry_lt' 10000 k ov hk hoB (by decide)
              have HP' : Hid (OutI w (wr.setCell ⟨g, p, none⟩ (.int .i64 (((k : Int) + (ov : Int)) % 10000))) g (nx + j) (P.set p ((k + ov) % 10000))) := (unhide HP).set p ((k + ov) % 10000) _ (by omega)
              clear hov hpl
              go_wp2
              go_roundw
              case rel => exact ⟨(k + ov) / 10000, p + 1, P.set p ((k + ov) % 10000), by go_num, by go_num, by omega, hk', HP', HA'⟩
              case measure => simp [intOf]; omega
    · obtain ⟨t1, t2, t3⟩ := Cub.lval_trim 10000 _ O rfl
      have HF : Hid (Cub.normal 10000 (Cub.trimN O) ∧ Cub.lval 10000 (Cub.trimN O) = Cub.lval 10000 lx * Cub.lval 10000 ly ∧ (Cub.trimN O).length ≤ nx + ny) := by
        refine ⟨t2 (unhide HV).1, ?_, ?_⟩
        · rw [t1, (unhide HV).2, List.take_of_length_le (by have := unhide HNX; omega)]
        · obtain ⟨q, hq⟩ := t3
          have := congrArg List.length hq
          rw [List.length_append, (unhide HO).len] at this; omega
      have HOw : Hid (OwnI wr w.heap.size (.slice (some ⟨g, 0, none⟩) (nx + ny) (nx + ny)) O) := by
        have h := (unhide HO).own
        unfold OwnI Hid
        rw [(unhide HO).len]; exact h
      clear t1 t2 t3
      go_wp2_with (go_at_call 133; refine (refTrim_any _ _ O _ (unhide HOw)).mono ?_; rintro e w5 ⟨v5, rfl, ho5, rfl⟩)
      go_ret
      exact ⟨v5, _, rfl, ho5, (unhide HF).1, (unhide HF).2.1, (unhide HF).2.2, (unhide HO).below⟩
theorem mk_tb (m : Nat) (hm : m < 10 ^ 600) : (⟨(Lib.decDigits m).toArray⟩ : ByteArray) = tb m := by
  have := tb_list m hm
  rw [← this]
/-- A number's text. -/
def tx (n : Nat) : ByteArray := ⟨(Lib.decDigits n).toArray⟩
theorem tx_list (n : Nat) : (tx n).data.toList = Lib.decDigits n := rfl
theorem tx_val (n : Nat) : val (tx n) = n := Cub.dval_dec n
theorem tx_nat (n : Nat) : Cub.isNat (tx n).data.toList := Cub.isNat_dec n
theorem tx_tb (n : Nat) (h : n < 10 ^ 600) : tb n = tx n := (mk_tb n h).symm
theorem tx_size {d n : Nat} (hd : 1 ≤ d) (h : n < 10 ^ d) : (tx n).size ≤ d := by
  have := (Cub.dec_len_lt n d hd).2 h
  rw [← tx_list, list_len] at this
  exact this
theorem refTimesS_any (s t : ByteArray) (w : World) (hs : s.size ≤ 100000) (ht : t.size ≤ 100000) (hds : Cub.digs s.data.toList) (hdt : Cub.digs t.data.toList) :
    Calls Tryz.prog 70 #[.string s, .string t] w fun e w' => e = .returned (.string ⟨(Lib.decDigits (Cub.dval s.data.toList * Cub.dval t.data.toList)).toArray⟩) ∧ Below w.heap.size w w' := by
  have HDS := hide hds
  have HDT := hide hdt
  clear hds hdt
  go_enter Tryz.func70, Tryz.ntmps70
  go_wp2_with (first
    | (go_at_call_of 119 s; refine (refLimbs_any s _ (by omega) (unhide HDS)).mono ?_; rintro e w1 ⟨vx, lx, rfl, hox, hnx, hvx, hb1⟩; have HX := hide (And.intro hnx (And.intro hvx hox)); have hbx : lx.length ≤ 100000 := (by have := Cub.len_le4 (unhide HDS) hnx hvx; rw [list_len] at this; omega); clear hnx hvx hox)
    | (go_at_call_of 119 t; refine (refLimbs_any t _ (by omega) (unhide HDT)).mono ?_; rintro e w2 ⟨vy, ly, rfl, hoy, hny, hvy, hb2⟩; have HY := hide (And.intro hny (And.intro hvy hoy)); have hby : ly.length ≤ 100000 := (by have := Cub.len_le4 (unhide HDT) hny hvy; rw [list_len] at this; omega); clear hny hvy hoy)
    | (go_at_call 118; refine (refTimes_any vx vy _ _ lx ly _ ((unhide HX).2.2.later hb2) (unhide HY).2.2 (unhide HX).1.1 (unhide HY).1.1 (by omega) (by omega)).mono ?_; rintro e w3 ⟨vz, lz, rfl, hoz, hnz, hvz, hlz, hb3⟩; have HZ := hide (And.intro hnz (And.intro hvz hoz)); clear hnz hvz hoz)
    | (go_at_call 117; refine (refText_any _ _ _ _ (unhide HZ).2.2 (unhide HZ).1 (by omega)).mono ?_; rintro e w4 ⟨rfl, hb4⟩))
  go_ret
  have hb12 := hb1.trans (hb2.mono hb1.size)
  have hb13 := hb12.trans (hb3.mono hb12.size)
  exact ⟨by rw [← (unhide HX).2.1, ← (unhide HY).2.1, ← (unhide HZ).2.1]; rfl, hb13.trans (hb4.mono hb13.size)⟩
theorem refTimesM (d m n : Nat) (w : World) (hd1 : 1 ≤ d) (hd : d ≤ 5000) (hm : m < 10 ^ d) (hn : n < 10 ^ d) :
    Calls Tryz.prog 70 #[.string (tx m), .string (tx n)] w fun e w' => e = .returned (.string (tx (m * n))) ∧ Below w.heap.size w w' := by
  have s1 := tx_size hd1 hm
  have s2 := tx_size hd1 hn
  have h := refTimesS_any (tx m) (tx n) w (by omega) (by omega) (tx_nat m).1 (tx_nat n).1
  rw [show Cub.dval (tx m).data.toList = m from tx_val m, show Cub.dval (tx n).data.toList = n from tx_val n] at h
  exact h
theorem toList_less (s t : ByteArray) (hs : Cub.isNat s.data.toList) (ht : Cub.isNat t.data.toList) (hl : s.size = t.size) : Op.bytesLess s.toList t.toList = decide (Cub.dval s.data.toList < Cub.dval t.data.toList) := by
  rw [Lib.toList_data, Lib.toList_data]
  exact Cub.bytesLess_dval _ _ hs.1 ht.1 (by rw [list_len, list_len]; exact hl)
theorem toList_same (s t : ByteArray) (hs : Cub.isNat s.data.toList) (ht : Cub.isNat t.data.toList) : (s.toList == t.toList) = decide (Cub.dval s.data.toList = Cub.dval t.data.toList) := by
  rw [Lib.toList_data, Lib.toList_data, Bool.eq_iff_iff, beq_iff_eq, decide_eq_true_eq]
  exact ⟨fun h => by rw [h], fun h => Cub.dval_inj hs ht h⟩
theorem compare_any (s t : ByteArray) (w : World) (hs : Cub.isNat s.data.toList) (ht : Cub.isNat t.data.toList) :
    Calls Tryz.prog 69 #[.string s, .string t] w fun e w' => e = .returned (.int .i64 (Cub.cmpN (Cub.dval s.data.toList) (Cub.dval t.data.toList))) ∧ w' = w := by
  by_cases hl : s.size = t.size
  · have hne : ((s.size : Int) != (t.size : Int)) = false := by rw [hl]; simp
    have hless := toList_less s t hs ht hl
    have hsame := toList_same s t hs ht
    by_cases hc : Cub.dval s.data.toList < Cub.dval t.data.toList
    · have e : Cub.cmpN (Cub.dval s.data.toList) (Cub.dval t.data.toList) = -1 := if_pos hc
      rw [e]
      rw [decide_eq_true hc] at hless
      clear hsame hs ht hl e hc
      go_enter Tryz.func69, Tryz.ntmps69
      go_wp2
      go_ret
      exact ⟨rfl, rfl⟩
    · rw [decide_eq_false hc] at hless
      by_cases hc2 : Cub.dval t.data.toList < Cub.dval s.data.toList
      · have e : Cub.cmpN (Cub.dval s.data.toList) (Cub.dval t.data.toList) = 1 := by unfold Cub.cmpN; rw [if_neg hc, if_pos hc2]
        rw [e]
        rw [decide_eq_false (by omega)] at hsame
        clear hs ht hl e hc hc2
        go_enter Tryz.func69, Tryz.ntmps69
        go_wp2
        go_ret
        exact ⟨rfl, rfl⟩
      · have e : Cub.cmpN (Cub.dval s.data.toList) (Cub.dval t.data.toList) = 0 := by unfold Cub.cmpN; rw [if_neg hc, if_neg hc2]
        rw [e]
        rw [decide_eq_true (by omega)] at hsame
        clear hs ht hl e hc hc2
        go_enter Tryz.func69, Tryz.ntmps69
        go_wp2
        go_ret
        exact ⟨rfl, rfl⟩
  · have hne : ((s.size : Int) != (t.size : Int)) = true := by rw [bne_iff_ne]; omega
    by_cases hlt : s.size < t.size
    · have e : Cub.cmpN (Cub.dval s.data.toList) (Cub.dval t.data.toList) = -1 := if_pos (Cub.len_lt_dval hs ht (by rw [list_len, list_len]; exact hlt))
      rw [e]
      clear hs ht hl e
      go_enter Tryz.func69, Tryz.ntmps69
      go_wp2
      go_ret
      exact ⟨rfl, rfl⟩
    · have e0 := Cub.len_lt_dval ht hs (by rw [list_len, list_len]; omega)
      have e : Cub.cmpN (Cub.dval s.data.toList) (Cub.dval t.data.toList) = 1 := by unfold Cub.cmpN; rw [if_neg (by omega), if_pos e0]
      rw [e]
      clear hs ht hl e e0
      go_enter Tryz.func69, Tryz.ntmps69
      go_wp2
      go_ret
      exact ⟨rfl, rfl⟩
theorem refCompareM (m n : Nat) (w : World) : Calls Tryz.prog 69 #[.string (tx m), .string (tx n)] w fun e w' => e = .returned (.int .i64 (Cub.cmpN m n)) ∧ w' = w := by
  have h := compare_any (tx m) (tx n) w (tx_nat m) (tx_nat n)
  rw [show Cub.dval (tx m).data.toList = m from tx_val m, show Cub.dval (tx n).data.toList = n from tx_val n] at h
  exact h
theorem pow2_le (n k : Nat) (h : n ≤ 3 * k) : 2 ^ n ≤ 10 ^ k := by
  refine Nat.le_trans (Nat.pow_le_pow_right (by decide) h) ?_
  rw [Nat.pow_mul]
  exact Nat.pow_le_pow_left (by decide) k
theorem pow2_lt (n K : Nat) (h : n + 3 ≤ 3 * K) : 2 ^ n < 10 ^ K := by
  refine Nat.lt_of_lt_of_le (Nat.pow_lt_pow_right (by decide) (by omega : n < n + 3)) ?_
  exact pow2_le (n + 3) K h
theorem mulp_lt (m n K : Nat) (hm : m < 18446744073709551616) (h : n + 3 ≤ 3 * K) : m * 2 ^ n < 10 ^ (20 + K) := by
  rw [Nat.pow_add]
  exact Nat.mul_lt_mul'' (by omega) (pow2_lt n K h)
def scA (A : Nat) (e : Int) : Nat := A * 2 ^ (-e).toNat
def scB (B : Nat) (e : Int) : Nat := B * 2 ^ e.toNat
theorem below_step (A B : Nat) (e : Int) (h : scA A e < scB B e) : scA A (e + 1) < scB B (e + 1) := by
  unfold scA scB at *
  by_cases hz : 0 ≤ e
  · obtain ⟨n, rfl⟩ : ∃ n : Nat, e = (n : Int) := ⟨e.toNat, by omega⟩
    rw [show (-((n : Int) + 1)).toNat = 0 by omega, show ((n : Int) + 1).toNat = n + 1 by omega]
    rw [show (-(n : Int)).toNat = 0 by omega, show ((n : Int)).toNat = n by omega] at h
    refine Nat.lt_of_lt_of_le h ?_
    exact Nat.mul_le_mul_left B (Nat.pow_le_pow_right (by decide) (by omega))
  · obtain ⟨n, rfl⟩ : ∃ n : Nat, e = -((n : Int) + 1) := ⟨(-e - 1).toNat, by omega⟩
    rw [show (-(-((n : Int) + 1) + 1)).toNat = n by omega, show (-((n : Int) + 1) + 1).toNat = 0 by omega]
    rw [show (-(-((n : Int) + 1))).toNat = n + 1 by omega, show (-((n : Int) + 1)).toNat = 0 by omega] at h
    refine Nat.lt_of_le_of_lt ?_ h
    exact Nat.mul_le_mul_left A (Nat.pow_le_pow_right (by decide) (by omega))
theorem below_mono (A B : Nat) (e f : Int) (hle : e ≤ f) (h : scA A e < scB B e) : scA A f < scB B f := by
  obtain ⟨n, rfl⟩ : ∃ n : Nat, f = e + (n : Int) := ⟨(f - e).toNat, by omega⟩
  clear hle
  induction n with
  | zero => simpa using h
  | succ n ih =>
    have := below_step A B (e + (n : Int)) ih
    rwa [show e + ((n + 1 : Nat) : Int) = e + (n : Int) + 1 by omega]
/-- What the search keeps. -/
structure SzInv (A B : Nat) (x y : Int) : Prop where
  hi : scA A (y + 53) < scB B (y + 53)
  lo : ∀ e, -1074 ≤ e → e < x → ¬ scA A (e + 53) < scB B (e + 53)
  l1 : -1074 ≤ x
  l2 : x ≤ y
  l3 : y ≤ 5000
def rndB (q r b : Nat) : Nat := if b < r + r ∨ (r + r = b ∧ q % 2 = 1) then q + 1 else q
theorem sz_one (A B : Nat) (x y : Int) (h1 : SzInv A B x x) (h2 : SzInv A B y y) : x = y := by
  rcases Int.lt_trichotomy x y with h | h | h
  · exact absurd h1.hi (h2.lo x h1.l1 h)
  · exact h
  · exact absurd h2.hi (h1.lo y h2.l1 h)
end Go.Proofs.YtijifpbpjinmhaaGreatDoor
namespace Go.Proofs.YtijifpbpjinmhaaGreatDoor
open Go.RowKit Go.Maps Go.ChangeMaps Go.WideMaps
attribute [local go_sem] run_bits run_from
theorem nan_any (w : World) : Calls Tryz.prog 49 #[] w fun e w' => e = .returned (.float .f64 9221120237041090561) ∧ w' = w := by
  go_enter Tryz.func49, Tryz.ntmps49
  go_wp2
  go_ret
  exact ⟨by simp, rfl⟩
theorem inf_pos (w : World) : Calls Tryz.prog 50 #[.int .i64 1] w fun e w' => e = .returned (.float .f64 9218868437227405312) ∧ w' = w := by
  go_enter Tryz.func50, Tryz.ntmps50
  go_wp2
  go_ret
  exact ⟨by simp, rfl⟩
theorem inf_neg (w : World) : Calls Tryz.prog 50 #[.int .i64 (-1)] w fun e w' => e = .returned (.float .f64 18442240474082181120) ∧ w' = w := by
  go_enter Tryz.func50, Tryz.ntmps50
  go_wp2
  go_ret
  exact ⟨by simp, rfl⟩
/-- A float reads by its bits. -/
def wR : Value → Option (DataW Unit × List MemPlace)
  | .float .f64 b => some (.lit (.int .i64 (b : Int)), [])
  | _ => none
def wD0 : DataW Unit := .map []
def wD1 : DataW Unit := wD0.put (.string [78, 97, 78]) (.lit (.int .i64 9221120237041090561))
def wD2 : DataW Unit := wD1.put (.string [43, 73, 110, 102]) (.lit (.int .i64 9218868437227405312))
def wD3 : DataW Unit := wD2.put (.string [45, 73, 110, 102]) (.lit (.int .i64 18442240474082181120))
def wD : Nat → DataW Unit
  | 0 => wD0
  | 1 => wD1
  | 2 => wD2
  | _ => wD3
theorem underM : Tryz.prog.underlying 70 = some (.map 9 24) := by kernel_rfl
theorem key_of (s : ByteArray) (h : s.size ≤ 20) : keyOf Tryz.prog 9 (.string s) = some (.string s.data.toList) := keyOf_string_mk Tryz.underlying9 (by unfold maxLen; omega)
theorem words_any (w : World) : Calls Tryz.prog 43 #[] w fun r w' => r = .returned (.map (some w.heap.size)) ∧ w'.ownsMap Tryz.prog 9 wR w.heap.size 3 (wD 3) ∧ Below w.heap.size w w' := by
  have hmm := @run_makeMap Tryz.prog
  obtain ⟨W1, hW1⟩ : ∃ W1, W1 = w.alloc (.map #[] 0) := ⟨_, rfl⟩
  have HO : Hid (W1.ownsMap Tryz.prog 9 wR w.heap.size 0 (wD 0)) := by rw [hW1]; exact World.ownsMap_made w Tryz.prog 9 wR
  have HB : Hid (Below w.heap.size w W1 ∧ w.heap.size + 1 ≤ W1.heap.size) := by rw [hW1]; exact ⟨(Below.refl _ _).alloc (Nat.le_refl _) _, by simp⟩
  go_enter Tryz.func43, Tryz.ntmps43
  go_wp2_with (go_at_call 49; go_must (refine (nan_any _).mono ?_; rintro e ww ⟨rfl, hw⟩; have hw2 := hw.symm; subst hw2; clear hw))
  rw [← hW1]
  clear hW1
  obtain ⟨wu0, hrun, r1, r2⟩ := (unhide HO).update (string_keyed Tryz.underlying9) underM (by unfold maxLen; omega) (key_of ⟨#[78, 97, 78]⟩ (by decide)) (show wR (.float .f64 9221120237041090561) = some (.lit (.int .i64 9221120237041090561), []) from rfl)
  rw [hrun]
  clear hrun HO
  have HO : Hid (wu0.ownsMap Tryz.prog 9 wR w.heap.size 1 (wD 1)) := r1
  replace HB : Hid (Below w.heap.size w wu0 ∧ w.heap.size + 1 ≤ wu0.heap.size) := ⟨(unhide HB).1.grown r2 (by have h := (unhide HB).2; omega) (fun j hj => by cases hj; exact Nat.le_refl _), Nat.le_trans (unhide HB).2 r2.size⟩
  clear r1 r2
  go_wp2_with (go_at_call 50; go_must (refine (inf_pos _).mono ?_; rintro e ww ⟨rfl, hw⟩; have hw2 := hw.symm; subst hw2; clear hw))
  obtain ⟨wu1, hrun, r1, r2⟩ := (unhide HO).update (string_keyed Tryz.underlying9) underM (by unfold maxLen; omega) (key_of ⟨#[43, 73, 110, 102]⟩ (by decide)) (show wR (.float .f64 9218868437227405312) = some (.lit (.int .i64 9218868437227405312), []) from rfl)
  rw [hrun]
  clear hrun HO
  have HO : Hid (wu1.ownsMap Tryz.prog 9 wR w.heap.size 2 (wD 2)) := r1
  replace HB : Hid (Below w.heap.size w wu1 ∧ w.heap.size + 1 ≤ wu1.heap.size) := ⟨(unhide HB).1.grown r2 (by have h := (unhide HB).2; omega) (fun j hj => by cases hj; exact Nat.le_refl _), Nat.le_trans (unhide HB).2 r2.size⟩
  clear r1 r2
  go_wp2_with (go_at_call 50; go_must (refine (inf_neg _).mono ?_; rintro e ww ⟨rfl, hw⟩; have hw2 := hw.symm; subst hw2; clear hw))
  obtain ⟨wu2, hrun, r1, r2⟩ := (unhide HO).update (string_keyed Tryz.underlying9) underM (by unfold maxLen; omega) (key_of ⟨#[45, 73, 110, 102]⟩ (by decide)) (show wR (.float .f64 18442240474082181120) = some (.lit (.int .i64 18442240474082181120), []) from rfl)
  rw [hrun]
  clear hrun HO
  have HO : Hid (wu2.ownsMap Tryz.prog 9 wR w.heap.size 3 (wD 3)) := r1
  replace HB : Hid (Below w.heap.size w wu2 ∧ w.heap.size + 1 ≤ wu2.heap.size) := ⟨(unhide HB).1.grown r2 (by have h := (unhide HB).2; omega) (fun j hj => by cases hj; exact Nat.le_refl _), Nat.le_trans (unhide HB).2 r2.size⟩
  clear r1 r2
  go_wp2_with fail
  go_ret
  exact ⟨rfl, unhide HO, (unhide HB).1⟩
theorem wD_at : ∀ kl zd, Maps.has (wD 3) kl = true → (wD 3).atKey kl zd = .lit (.int .i64 9221120237041090561) ∨ (wD 3).atKey kl zd = .lit (.int .i64 9218868437227405312) ∨ (wD 3).atKey kl zd = .lit (.int .i64 18442240474082181120) := by
  intro kl zd h
  by_cases e2 : kl = .string [45, 73, 110, 102]
  · subst e2; right; right; kernel_rfl
  · rw [show wD 3 = (wD 2).put (.string [45, 73, 110, 102]) (.lit (.int .i64 18442240474082181120)) from rfl, Maps.has_put_other e2] at h
    by_cases e1 : kl = .string [43, 73, 110, 102]
    · subst e1; right; left; kernel_rfl
    · rw [show wD 2 = (wD 1).put (.string [43, 73, 110, 102]) (.lit (.int .i64 9218868437227405312)) from rfl, Maps.has_put_other e1] at h
      by_cases e0 : kl = .string [78, 97, 78]
      · subst e0; left; kernel_rfl
      · rw [show wD 1 = (wD 0).put (.string [78, 97, 78]) (.lit (.int .i64 9221120237041090561)) from rfl, Maps.has_put_other e0] at h
        exact absurd h (by simp [wD, wD0, Maps.has])
theorem wR_inv {v : Value} {p : Int} {ps : List MemPlace} (h : wR v = some (.lit (.int .i64 p), ps)) : ∃ b : Nat, v = .float .f64 b ∧ (b : Int) = p := by
  unfold wR at h
  split at h
  · cases h; exact ⟨_, rfl, rfl⟩
  · cases h
end Go.Proofs.YtijifpbpjinmhaaGreatDoor
namespace Go.Proofs.YtijifpbpjinmhaaGreatDoor
open Go.RowKit
attribute [local go_sem] run_bits run_from
def xpB (b : Nat) : Nat := b / 4503599627370496 % 2048
def mtB (b : Nat) : Nat := b % 4503599627370496
def mvB (b : Nat) : Nat := if xpB b = 0 then mtB b else mtB b + 4503599627370496
def evB (b : Nat) : Int := if xpB b = 0 then -1074 else (xpB b : Int) - 1075
def infB (b : Nat) : Bool := decide (b % 9223372036854775808 = 9218868437227405312)
def negB (b : Nat) : Bool := decide (9223372036854775808 < b)
theorem and_2047 (b : Nat) (hb : b < 18446744073709551616) : bits BinOp.and IntKind.u64 ((b : Int) / 4503599627370496) 2047 = ((xpB b : Nat) : Int) := by
  have h := u64_and_nat (b / 4503599627370496) 2047 (by omega) (by decide)
  rw [Nat.and_two_pow_sub_one_eq_mod _ 11] at h
  refine Eq.trans ?_ h
  congr 1
theorem cut_any (b : Nat) (hb : b < 18446744073709551616) : CutAns b (mvB b) (evB b) := by
  intro w
  have hx := and_2047 b hb
  have hm : ((b : Int) % 4503599627370496) = ((mtB b : Nat) : Int) := by unfold mtB; omega
  have hx1 : xpB b < 2048 := Nat.mod_lt _ (by decide)
  have hm1 : mtB b < 4503599627370496 := Nat.mod_lt _ (by decide)
  unfold mvB evB
  generalize xpB b = x at *
  generalize mtB b = m at *
  by_cases h0 : x = 0
  · subst h0
    rw [if_pos rfl, if_pos rfl]
    go_enter Tryz.func66, Tryz.ntmps66
    go_wp2
    exact bodyPost_ret (v := .tuple #[.int .u64 (m : Int), .int .i64 (-1074)]) (by simp [results, Tryz.results66, go_sem]; exact hm) rfl ⟨rfl, rfl⟩
  · rw [if_neg h0, if_neg h0]
    have hxI : (x : Int) ≤ 2047 := by omega
    have hx0 : (0 : Int) ≤ (x : Int) := by omega
    have hxn : ((x : Int) == 0) = false := by rw [beq_eq_false_iff_ne]; omega
    have hmI : (m : Int) < 4503599627370496 := by omega
    have hm0 : (0 : Int) ≤ (m : Int) := by omega
    go_enter Tryz.func66, Tryz.ntmps66
    go_wp2
    exact bodyPost_ret (v := .tuple #[.int .u64 ((m + 4503599627370496 : Nat) : Int), .int .i64 ((x : Int) - 1075)]) (by simp [results, Tryz.results66, go_sem]; omega) rfl ⟨rfl, rfl⟩
theorem isInf_0 (b : Nat) (hb : b < 18446744073709551616) (w : World) : Calls Tryz.prog 37 #[.float .f64 b, .int .i64 0] w fun e w' => e = .returned (.bool (infB b)) ∧ w' = w := by
  have h := gt_max (b % 9223372036854775808) (by omega)
  have HA := hide (abs_any b hb w)
  have hd : decide (b % 9223372036854775808 = 9218868437227405312) = infB b := rfl
  rw [hd] at h
  generalize b % 9223372036854775808 = a at *
  generalize infB b = d at *
  clear hd
  go_enter Tryz.func37, Tryz.ntmps37
  go_wp2_with (go_at_call 65; refine (unhide HA).mono ?_; rintro e w1 ⟨rfl, hw⟩; obtain rfl : w = w1 := hw.symm)
  exact bodyPost_ret (v := .bool d) (by simp [results, Tryz.results37, go_sem]) rfl ⟨rfl, rfl⟩
/-- A finite float is a number. -/
theorem fin_read (b : Nat) (h : b % 9223372036854775808 < 9218868437227405312) : ∃ (m : Nat) (i : Int), Ieee.double.read b = .number (b / 9223372036854775808 % 2 == 1) m i ∧ (m = 0 ↔ b % 9223372036854775808 = 0) := by
  unfold Ieee.Format.read
  simp only [sign_lt, inf_is, binade_is, least_is]
  by_cases h1 : b % 9223372036854775808 < 4503599627370496
  · rw [if_pos h1]; exact ⟨_, _, rfl, Iff.rfl⟩
  · rw [if_neg h1, if_pos h]; exact ⟨_, _, rfl, ⟨fun e => by omega, fun e => by omega⟩⟩
theorem zero_read : Ieee.double.read 0 = .number false 0 (-1074) := by decide +kernel
theorem cmp_lt0 (x : Int) : (some (compare x 0) == some Ordering.lt) = decide (x < 0) := by
  by_cases h : x < 0
  · have : compare x 0 = Ordering.lt := by simp [compare, compareOfLessAndEq, h]
    rw [this]; simp [h]
  · have : compare x 0 ≠ Ordering.lt := by simp only [compare, compareOfLessAndEq]; rw [if_neg h]; split <;> simp
    cases hc : compare x 0 <;> simp_all
theorem lt_zero (b : Nat) (h : b % 9223372036854775808 < 9218868437227405312) (hb : b < 18446744073709551616) : (FloatKind.f64.format.order b 0 == some Ordering.lt) = negB b := by
  obtain ⟨m, i, hr, hm⟩ := fin_read b h
  show ((Ieee.double.read b).order (Ieee.double.read 0) == some Ordering.lt) = _
  rw [hr, zero_read]
  have hn : negB b = decide ((b / 9223372036854775808 % 2 == 1) = true ∧ m ≠ 0) := by
    unfold negB
    rw [decide_eq_decide, beq_iff_eq]
    constructor
    · intro h1; exact ⟨by omega, fun e => by have := hm.1 e; omega⟩
    · rintro ⟨h1, h2⟩
      have : b % 9223372036854775808 ≠ 0 := fun e => h2 (hm.2 e)
      omega
  rw [hn]
  generalize (b / 9223372036854775808 % 2 == 1) = s
  simp only [Ieee.Datum.order]
  have hz : ∀ k, Ieee.signed false 0 k = 0 := fun k => by simp [Ieee.signed]
  rw [hz, cmp_lt0]
  by_cases e : m = 0
  · subst e
    have : ∀ k, Ieee.signed s 0 k = 0 := fun k => by cases s <;> simp [Ieee.signed]
    rw [this]
    cases s <;> simp
  · have hp : ∀ k, 0 < m <<< k := fun k => by rw [Nat.shiftLeft_eq]; exact Nat.mul_pos (by omega) (Nat.two_pow_pos k)
    generalize (i - min i (-1074)).toNat = k
    have hk := hp k
    unfold Ieee.signed
    generalize m <<< k = q at *
    cases s
    · simp
    · simp [e]; omega
end Go.Proofs.YtijifpbpjinmhaaGreatDoor
namespace Go.Proofs.YtijifpbpjinmhaaGreatDoor
open Go.RowKit
/-- The bits, all that are no number read as one. -/
def nm (b : Nat) : Nat := if nanB b then 9221120237041090561 else b
end Go.Proofs.YtijifpbpjinmhaaGreatDoor

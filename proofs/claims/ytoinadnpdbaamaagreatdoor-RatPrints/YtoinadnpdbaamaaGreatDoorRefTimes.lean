/- The document's own product of limbs. -/
import Derived.Test.YtoinadnpdbaamaaGreatDoorPlain
import Derived.Test.YtoinadnpdbaamaaGreatDoorRefMinus
import Derived.Deep.QuietTactic
import Derived.BigQuiet
namespace Go.Proofs.YtoinadnpdbaamaaGreatDoor
open Go.RowKit

theorem i64s_made (n : Nat) : (madeCells (Value.int .i64 0).cells (n * 1)).toList = i64s (List.replicate n 0) := by
  rw [show (Value.int .i64 0).cells = #[Value.int .i64 0] from rfl, toList_madeCells_one]
  simp [i64s]

/-- What stands of the row that is filled. -/
structure OutI (w wr : World) (g N : Nat) (O : List Nat) : Prop where
  own : wr.ownsRow w.heap.size 3 1 (.slice (some ⟨g, 0, none⟩) N N) N (i64s O)
  len : O.length = N
  low : w.heap.size ≤ g
  below : Below w.heap.size w wr

theorem OutI.cell {w wr : World} {g N : Nat} {O : List Nat} (h : OutI w wr g N O) (p : Nat) (hp : p < O.length) : wr.cell? ⟨g, p, none⟩ = some (.int .i64 (O[p] : Int)) := by
  rw [h.own.cellAt p (by have := h.len; omega), i64s_get O p hp]
theorem OutI.frozen {w wr : World} {g N : Nat} {O : List Nat} (h : OutI w wr g N O) (p : Nat) : wr.frozen? ⟨g, p, none⟩ = false := h.own.frozenAt p
theorem OutI.set {w wr : World} {g N : Nat} {O : List Nat} (h : OutI w wr g N O) (p x : Nat) (z : Int) (hz : z = (x : Int)) : OutI w (wr.setCell ⟨g, p, none⟩ (.int .i64 z)) g N (O.set p x) := by
  subst hz
  refine ⟨?_, by rw [List.length_set]; exact h.len, h.low, h.below.setCell (by exact h.low) _⟩
  have := (World.ownsRow.stored h.own p (.int .i64 (x : Int))).1
  rw [i64s_set] at this
  exact this
theorem OutI.drew {w wr : World} {g N : Nat} {O : List Nat} (h : OutI w wr g N O) (k : Nat) : OutI w (wr.drewN k) g N O := ⟨h.own, h.len, h.low, below_drewN h.below k⟩

set_option maxRecDepth 100000 in
set_option maxHeartbeats 2000000 in
theorem refTimes_any (vx vy : Value) (bx by' : Nat) (lx ly : List Nat) (w : World) (hox : OwnI w bx vx lx) (hoy : OwnI w by' vy ly) (hlx : Cub.limbs 10000 lx) (hly : Cub.limbs 10000 ly) (hnx : lx.length ≤ 1000000) (hny : ly.length ≤ 1000000) :
    Calls Tryz.prog 163 #[vx, vy] w fun e w' => ∃ v l, e = .returned v ∧ OwnI w' w.heap.size v l ∧ Cub.normal 10000 l ∧ Cub.lval 10000 l = Cub.lval 10000 lx * Cub.lval 10000 ly ∧ l.length ≤ lx.length + ly.length ∧ Below w.heap.size w w' := by
  obtain ⟨ax, cx, rfl, _, _, hcx⟩ := hox.open
  obtain ⟨ay, cy, rfl, _, _, hcy⟩ := hoy.open
  have HX := hide (And.intro hlx hcx)
  have HY := hide (And.intro hly hcy)
  obtain ⟨nx, hnx'⟩ : ∃ nx, nx = lx.length := ⟨_, rfl⟩
  obtain ⟨ny, hny'⟩ : ∃ ny, ny = ly.length := ⟨_, rfl⟩
  rw [← hnx'] at hnx ⊢
  rw [← hny'] at hny ⊢
  have HNX := hide hnx'
  have HNY := hide hny'
  clear hox hoy hlx hly hcx hcy hnx' hny'
  obtain ⟨i0, hi, hz0, hz1, hz2⟩ := info_parts Tryz.info3
  go_enter Tryz.func163, Tryz.ntmps163
  go_wp2_with (at_make; refine wpList_make_full _ rfl _ _ 156 rfl w.heap.size 3 i0 (.int .i64 0) 1 Tryz.underlying156 hi hz0 hz1 .i64 .i64 _ _ (nx + ny) rfl rfl (by omega) (by omega) (by rw [hz2]; omega) (by unfold maxLen; omega) (Nat.le_refl _) ?_; intro w3 hown3 hgrow3)
  have hO3 : OutI w w3 w.heap.size (nx + ny) (List.replicate (nx + ny) 0) := by
    refine ⟨?_, List.length_replicate .., Nat.le_refl _, (Below.refl _ _).grown hgrow3 (Nat.le_refl _) (fun k hk => by cases hk)⟩
    rw [i64s_made] at hown3
    exact hown3
  have HO3 := hide hO3
  clear hown3 hgrow3 hO3
  generalize hg : w.heap.size = g at *
  have HG := hide hg
  clear hg
  go_loopw [6] (fun t wr => ∃ (i : Nat) (O : List Nat), t = .int .i64 (i : Int) ∧ i ≤ nx ∧ Hid (OutI w wr g (nx + ny) O) ∧ Hid (Cub.limbs 10000 O ∧ Cub.lval 10000 O = Cub.lval 10000 (lx.take i) * Cub.lval 10000 ly)) (fun t _ => nx - (intOf t).toNat)
  case atStart => exact ⟨0, _, rfl, by omega, HO3, ⟨Cub.limbs_zeros _ _ (by decide), by rw [Cub.lval_zeros]; simp [Cub.lval]⟩⟩
  case round =>
    obtain ⟨i, O, rfl, hi', HO, HV⟩ := hrel
    by_cases hin : i < nx
    · have hil : i < lx.length := by have := unhide HNX; omega
      obtain ⟨xv, hxv⟩ : ∃ xv, xv = lx[i] := ⟨_, rfl⟩
      have hxB : xv < 10000 := by rw [hxv]; exact (unhide HX).1 _ (List.getElem_mem hil)
      have HXV : Hid (lx.getD i 0 = xv) := by rw [hxv, List.getD_eq_getElem?_getD, List.getElem?_eq_getElem hil]; exact rfl
      obtain ⟨bx', rfl, _⟩ := (unhide HX).2 w (Below.refl _ _) i hil
      have HXC : Hid (∀ W, Below w.heap.size w W → W.cell? ⟨bx', i, none⟩ = some (.int .i64 (xv : Int))) := fun W hW => by
        obtain ⟨b, e, hc⟩ := (unhide HX).2 W hW i hil
        simp only [Option.some.injEq, Addr.mk.injEq, and_true] at e
        subst e
        rw [hxv]; exact hc
      have HA0 : Hid (Cub.Acc 10000 O 0 (i + 0) (Cub.lval 10000 (lx.take i) * Cub.lval 10000 ly + 10000 ^ i * (xv * Cub.lval 10000 (ly.take 0)))) := by
        refine ⟨(unhide HV).1, ?_⟩
        rw [(unhide HV).2]; simp [Cub.lval]
      generalize hV0 : Cub.lval 10000 (lx.take i) * Cub.lval 10000 ly = V0 at *
      have HV0 := hide hV0
      clear hxv hV0
      go_wp2
      go_loopw [7, 8] (fun c t wq => ∃ (k j : Nat) (P : List Nat), c = .int .i64 (k : Int) ∧ t = .int .i64 (j : Int) ∧ j ≤ ny ∧ k < 10000 ∧ Hid (OutI w wq g (nx + ny) P) ∧ Hid (Cub.Acc 10000 P k (i + j) (V0 + 10000 ^ i * (xv * Cub.lval 10000 (ly.take j))))) (fun _ t _ => ny - (intOf t).toNat)
      case atStart => exact ⟨0, 0, O, rfl, rfl, by omega, by omega, HO, HA0⟩
      case round =>
        obtain ⟨k, j, P, rfl, rfl, hj, hk, HP, HA⟩ := hrel
        by_cases hjn : j < ny
        · have hpl : i + j < P.length := by rw [(unhide HP).len]; omega
          have hjl : j < ly.length := by have := unhide HNY; omega
          obtain ⟨ov, hov⟩ : ∃ ov, ov = P[i + j] := ⟨_, rfl⟩
          have hoB : ov < 10000 := by rw [hov]; exact (unhide HA).lim _ (List.getElem_mem hpl)
          have hco := (unhide HP).cell (i + j) hpl
          rw [← hov] at hco
          have hfo := (unhide HP).frozen (i + j)
          have hcx := unhide HXC wr (unhide HP).below
          obtain ⟨yv, hyv⟩ : ∃ yv, yv = ly[j] := ⟨_, rfl⟩
          have hyB : yv < 10000 := by rw [hyv]; exact (unhide HY).1 _ (List.getElem_mem hjl)
          obtain ⟨by2, rfl, hcy⟩ := (unhide HY).2 wr (unhide HP).below j hjl
          rw [← hyv] at hcy
          have HYV : Hid (ly.getD j 0 = yv) := by rw [hyv, List.getD_eq_getElem?_getD, List.getElem?_eq_getElem hjl]; exact rfl
          have hin' : (i : Int) < (nx : Int) := by omega
          have hjn' : (j : Int) < (ny : Int) := by omega
          obtain ⟨m, hm⟩ : ∃ m, m = xv * yv := ⟨_, rfl⟩
          have hmB : m ≤ 99980001 := by rw [hm]; exact Nat.mul_le_mul (show xv ≤ 9999 by omega) (show yv ≤ 9999 by omega)
          have hmul : (xv : Int) * (yv : Int) = (m : Int) := by rw [hm]; simp
          have HA' : Hid (Cub.Acc 10000 (P.set (i + j) ((k + ov + m) % 10000)) ((k + ov + m) / 10000) (i + (j + 1)) (V0 + 10000 ^ i * (xv * Cub.lval 10000 (ly.take (j + 1))))) := by
            have h := (unhide HA).step (by decide) hpl (xv * ly.getD j 0)
            rw [Cub.val_inner, unhide HYV, ← hm, ← hov] at h
            exact h
          have hk' : (k + ov + m) / 10000 < 10000 := by rw [hm]; exact Cub.carry_lt 10000 k ov xv yv hk hoB hxB hyB
          clear hov hyv hjl hm hpl
          go_wp2
          go_quiet (fail)
          go_wp2
          go_roundw
          case rel => exact ⟨(k + ov + m) / 10000, j + 1, P.set (i + j) ((k + ov + m) % 10000), by go_num, by go_num, by omega, hk', ((unhide HP).set (i + j) ((k + ov + m) % 10000) _ (by omega)).drew _, HA'⟩
          case measure => simp [intOf]; omega
        · have hje : j = ny := by omega
          subst hje
          have HA1 : Hid (Cub.Acc 10000 P k (i + j) (Cub.lval 10000 (lx.take (i + 1)) * Cub.lval 10000 ly)) := by
            have h := unhide HA
            rw [List.take_of_length_le (by have := unhide HNY; omega), ← unhide HV0, ← unhide HXV, Cub.val_outer] at h
            exact h
          have HVB : Hid (Cub.lval 10000 (lx.take (i + 1)) * Cub.lval 10000 ly < 10000 ^ (nx + j)) := by
            rcases Cub.mul_lt 10000 lx ly (unhide HX).1 (unhide HY).1 (i + 1) with h | h
            · refine Nat.lt_of_lt_of_le h (Nat.pow_le_pow_right (by decide) ?_)
              have := unhide HNY; omega
            · omega
          generalize hV1 : Cub.lval 10000 (lx.take (i + 1)) * Cub.lval 10000 ly = V1 at *
          have HV1 := hide hV1
          clear HA hV1
          go_wp2
          go_loopw [7, 9] (fun c t wq => ∃ (k p : Nat) (P : List Nat), c = .int .i64 (k : Int) ∧ t = .int .i64 (p : Int) ∧ p ≤ nx + j ∧ k < 10000 ∧ Hid (OutI w wq g (nx + j) P) ∧ Hid (Cub.Acc 10000 P k p V1)) (fun _ t _ => nx + j - (intOf t).toNat)
          case atStart => exact ⟨k, i + j, P, rfl, by go_num, by omega, hk, HP, HA1⟩
          case round =>
            clear HP HA1 hk
            obtain ⟨k, p, P, rfl, rfl, hp, hk, HP, HA⟩ := hrel
            by_cases hk0 : k = 0
            · subst hk0
              have HVn : Hid (Cub.limbs 10000 P ∧ Cub.lval 10000 P = Cub.lval 10000 (lx.take (i + 1)) * Cub.lval 10000 ly) := ⟨(unhide HA).lim, by rw [unhide HV1]; have := (unhide HA).val; simpa using this⟩
              go_wp2
              go_roundw
              case rel => exact ⟨i + 1, P, by go_num, by omega, HP, HVn⟩
              case measure => simp [intOf]; omega
            · have hpn : p < nx + j := by
                rcases Nat.lt_or_ge p (nx + j) with h | h
                · exact h
                · exfalso
                  have e : p = nx + j := by omega
                  have h2 := unhide HA
                  rw [e] at h2
                  exact hk0 (h2.none (unhide HVB))
              have hpl : p < P.length := by rw [(unhide HP).len]; omega
              obtain ⟨ov, hov⟩ : ∃ ov, ov = P[p] := ⟨_, rfl⟩
              have hoB : ov < 10000 := by rw [hov]; exact (unhide HA).lim _ (List.getElem_mem hpl)
              have hco := (unhide HP).cell p hpl
              rw [← hov] at hco
              have hfo := (unhide HP).frozen p
              have HA' : Hid (Cub.Acc 10000 (P.set p ((k + ov) % 10000)) ((k + ov) / 10000) (p + 1) V1) := by
                have h := (unhide HA).step (by decide) hpl 0
                rw [← hov, Nat.add_zero, Nat.mul_zero, Nat.add_zero] at h
                exact h
              have hk' : (k + ov) / 10000 < 10000 := Cub.carry_lt' 10000 k ov hk hoB (by decide)
              have HP' : Hid (OutI w (wr.setCell ⟨g, p, none⟩ (.int .i64 (((k : Int) + (ov : Int)) % 10000))) g (nx + j) (P.set p ((k + ov) % 10000))) := (unhide HP).set p ((k + ov) % 10000) _ (by omega)
              clear hov hpl
              go_wp2
              go_roundw
              case rel => exact ⟨(k + ov) / 10000, p + 1, P.set p ((k + ov) % 10000), by go_num, by go_num, by omega, hk', HP', HA'⟩
              case measure => simp [intOf]; omega
    · obtain ⟨t1, t2, t3⟩ := Cub.lval_trim 10000 _ O rfl
      have HF : Hid (Cub.normal 10000 (Cub.trimN O) ∧ Cub.lval 10000 (Cub.trimN O) = Cub.lval 10000 lx * Cub.lval 10000 ly ∧ (Cub.trimN O).length ≤ nx + ny) := by
        refine ⟨t2 (unhide HV).1, ?_, ?_⟩
        · rw [t1, (unhide HV).2, List.take_of_length_le (by have := unhide HNX; omega)]
        · obtain ⟨q, hq⟩ := t3
          have := congrArg List.length hq
          rw [List.length_append, (unhide HO).len] at this; omega
      have HOw : Hid (OwnI wr w.heap.size (.slice (some ⟨g, 0, none⟩) (nx + ny) (nx + ny)) O) := by
        have h := (unhide HO).own
        unfold OwnI Hid
        rw [(unhide HO).len]; exact h
      clear t1 t2 t3
      go_wp2_with (go_at_call 162; refine (refTrim_any _ _ O _ (unhide HOw)).mono ?_; rintro e w5 ⟨v5, rfl, ho5, rfl⟩)
      go_ret
      exact ⟨v5, _, rfl, ho5, (unhide HF).1, (unhide HF).2.1, (unhide HF).2.2, (unhide HO).below⟩
end Go.Proofs.YtoinadnpdbaamaaGreatDoor

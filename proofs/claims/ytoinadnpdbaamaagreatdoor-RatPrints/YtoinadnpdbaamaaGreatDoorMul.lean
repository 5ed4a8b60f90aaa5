/- (Big).Mul: the product. -/
import Derived.Test.YtoinadnpdbaamaaGreatDoorAdd
import Derived.Test.YtoinadnpdbaamaaGreatDoorPlain
import Derived.Deep.QuietTactic
import Derived.BigQuiet
namespace Go.Proofs.YtoinadnpdbaamaaGreatDoor
open Go.RowKit

/-- What stands of the product that is filled, and of the three boxes. -/
structure OutU (w wr : World) (a b : Value) (N : Nat) (O : List Nat) : Prop where
  own : Own wr (w.heap.size + 1 + 1 + 1) O
  len : O.length = N
  box : Boxes3 w wr a b (.slice none 0 0)
theorem OutU.set {w wr : World} {a b : Value} {N : Nat} {O : List Nat} (h : OutU w wr a b N O) (p x : Nat) (z : Int) (hz : z = (x : Int)) : OutU w (wr.setCell ⟨w.heap.size + 1 + 1 + 1, p, none⟩ (.int .u64 z)) a b N (O.set p x) := by
  subst hz
  exact ⟨h.own.set p x, by rw [List.length_set]; exact h.len, h.box.on ((Below.refl (w.heap.size + 3) wr).setCell (p := ⟨w.heap.size + 1 + 1 + 1, p, none⟩) (show w.heap.size + 3 ≤ w.heap.size + 1 + 1 + 1 by omega) _)⟩
theorem OutU.drew {w wr : World} {a b : Value} {N : Nat} {O : List Nat} (h : OutU w wr a b N O) (k : Nat) : OutU w (wr.drewN k) a b N O :=
  ⟨h.own, h.len, h.box.on (below_drewN (Below.refl _ _) k)⟩

set_option maxRecDepth 100000 in
set_option maxHeartbeats 2000000 in
theorem mul_any (x y : Value) (m n k : Nat) (w : World) (hx : IsBig w x m) (hy : IsBig w y n) (hk : k ≤ 1000000) (hm : m < 1000000000 ^ k) (hn : n < 1000000000 ^ k) :
    Calls Tryz.prog 147 #[x, y] w fun e w' => ∃ v, e = .returned v ∧ IsBig w' v (m * n) ∧ Below w.heap.size w w' := by
  obtain ⟨ap, lp, cp, rfl, hlp, hrp, hnp, rfl⟩ := hx.form
  obtain ⟨aq, lq, cq, rfl, hlq, hrq, hnq, rfl⟩ := hy.form
  have h1 := Cub.len_le hnp hm
  have h2 := Cub.len_le hnq hn
  have HP : Hid (Cub.limbs 1000000000 lp ∧ Cells w ap lp) := ⟨hnp.1, hrp.cells.2.2.2⟩
  have HQ : Hid (Cub.limbs 1000000000 lq ∧ Cells w aq lq) := ⟨hnq.1, hrq.cells.2.2.2⟩
  obtain ⟨np, hnp'⟩ : ∃ np, np = lp.length := ⟨_, rfl⟩
  obtain ⟨nq, hnq'⟩ : ∃ nq, nq = lq.length := ⟨_, rfl⟩
  rw [← hnp'] at h1 ⊢
  rw [← hnq'] at h2 ⊢
  have HNP := hide hnp'
  have HNQ := hide hnq'
  clear hx hy hm hn hlp hlq hrp hrq hnp hnq hnp' hnq'
  obtain ⟨i0, hi, hz0, hz1, hz2⟩ := info_parts Tryz.info59
  go_enter Tryz.func147, Tryz.ntmps147
  go_wp2_with (first
    | (at_make; go_must (refine wpList_make_full _ rfl _ _ 70 rfl (w.heap.size + 3) 59 i0 (.int .u64 0) 1 Tryz.underlying70 hi hz0 hz1 .i64 .i64 _ _ (np + nq) rfl rfl (by omega) (by omega) (by rw [hz2]; omega) (by unfold maxLen; omega) (by simp) ?_; intro w4 hown4 hgrow4; rw [u64s_made] at hown4; have hO4 : Own w4 (w.heap.size + 1 + 1 + 1) (List.replicate (np + nq) 0) := (by have := Own.of_row hown4; simpa using this); have hB4 := boxes3 ((Below.refl (w.heap.size + 3) _).grown hgrow4 (by simp) (fun k hk => by cases hk)); have bp4 := hB4.c1; have HO4 : Hid (OutU w w4 (.slice ap np cp) (.slice aq nq cq) (np + nq) (List.replicate (np + nq) 0)) := ⟨hO4, List.length_replicate .., hB4⟩; clear hown4 hgrow4 hO4 hB4)))
  go_loopw [22] (fun t wr => ∃ (i : Nat) (O : List Nat), t = .int .i64 (i : Int) ∧ i ≤ np ∧ Hid (OutU w wr (.slice ap np cp) (.slice aq nq cq) (np + nq) O) ∧ Hid (Cub.limbs 1000000000 O ∧ Cub.lval 1000000000 O = Cub.lval 1000000000 (lp.take i) * Cub.lval 1000000000 lq)) (fun t _ => np - (intOf t).toNat)
  case atStart => exact ⟨0, _, rfl, by omega, HO4, ⟨Cub.limbs_zeros _ _ (by decide), by rw [Cub.lval_zeros]; simp [Cub.lval]⟩⟩
  case round =>
    obtain ⟨i, O, rfl, hi', HO, HV⟩ := hrel
    clear bp4
    have bq := (unhide HO).box.c2
    by_cases hin : i < np
    · have hil : i < lp.length := by have := unhide HNP; omega
      obtain ⟨xv, hxv⟩ : ∃ xv, xv = lp[i] := ⟨_, rfl⟩
      have hxB : xv < 1000000000 := by rw [hxv]; exact (unhide HP).1 _ (List.getElem_mem hil)
      have HXV : Hid (lp.getD i 0 = xv) := by rw [hxv, List.getD_eq_getElem?_getD, List.getElem?_eq_getElem hil]; exact rfl
      obtain ⟨b1, o1, rfl, hcx⟩ := (unhide HP).2 wr (unhide HO).box.below i hil
      rw [← hxv] at hcx
      clear hxv
      by_cases hx0 : xv = 0
      · subst hx0
        have HVn : Hid (Cub.limbs 1000000000 O ∧ Cub.lval 1000000000 O = Cub.lval 1000000000 (lp.take (i + 1)) * Cub.lval 1000000000 lq) := by
          refine ⟨(unhide HV).1, ?_⟩
          rw [← Cub.val_outer, unhide HXV, (unhide HV).2]; simp
        go_wp2
        go_roundw
        case rel => exact ⟨i + 1, O, by go_num, by omega, HO, HVn⟩
        case measure => simp [intOf]; omega
      · have hxz : ((xv : Int) == 0) = false := by rw [beq_eq_false_iff_ne]; omega
        have HA0 : Hid (Cub.Acc 1000000000 O 0 (i + 0) (Cub.lval 1000000000 (lp.take i) * Cub.lval 1000000000 lq + 1000000000 ^ i * (xv * Cub.lval 1000000000 (lq.take 0)))) := by
          refine ⟨(unhide HV).1, ?_⟩
          rw [(unhide HV).2]; simp [Cub.lval]
        have HZ0 : Hid (∀ p (hp : p < O.length), i + nq ≤ p → O[p] = 0) := fun p hp hip => by
          apply Cub.get_zero (B := 1000000000) (p := p) _ hp
          rw [(unhide HV).2]
          rcases Cub.mul_lt 1000000000 lp lq (unhide HP).1 (unhide HQ).1 i with h | h
          · refine Nat.lt_of_lt_of_le h (Nat.pow_le_pow_right (by decide) ?_)
            have := unhide HNQ; omega
          · omega
        generalize hV0 : Cub.lval 1000000000 (lp.take i) * Cub.lval 1000000000 lq = V0 at *
        have HV0 := hide hV0
        clear hV0 hx0
        go_wp2
        go_loopw [8, 32] (fun c t wq => ∃ (k j : Nat) (P : List Nat), c = .int .u64 (k : Int) ∧ t = .int .i64 (j : Int) ∧ j ≤ nq ∧ k < 1000000000 ∧ Hid (OutU w wq (.slice (some ⟨b1, o1, none⟩) np cp) (.slice aq nq cq) (np + nq) P) ∧ Hid (∀ p (hp : p < P.length), i + nq ≤ p → P[p] = 0) ∧ Hid (Cub.Acc 1000000000 P k (i + j) (V0 + 1000000000 ^ i * (xv * Cub.lval 1000000000 (lq.take j))))) (fun _ t _ => nq - (intOf t).toNat)
        case atStart => exact ⟨0, 0, O, rfl, rfl, by omega, by omega, HO, HZ0, HA0⟩
        case round =>
          clear bq hcx
          obtain ⟨k, j, P, rfl, rfl, hj, hk, HP', HZ, HA⟩ := hrel
          have bq := (unhide HP').box.c2
          by_cases hjn : j < nq
          · have hpl : i + j < P.length := by rw [(unhide HP').len]; omega
            have hjl : j < lq.length := by have := unhide HNQ; omega
            obtain ⟨ov, hov⟩ : ∃ ov, ov = P[i + j] := ⟨_, rfl⟩
            have hoB : ov < 1000000000 := by rw [hov]; exact (unhide HA).lim _ (List.getElem_mem hpl)
            have hco := (unhide HP').own.cell (i + j) hpl
            rw [← hov] at hco
            have hfo := (unhide HP').own.frozen (i + j)
            obtain ⟨yv, hyv⟩ : ∃ yv, yv = lq[j] := ⟨_, rfl⟩
            have hyB : yv < 1000000000 := by rw [hyv]; exact (unhide HQ).1 _ (List.getElem_mem hjl)
            obtain ⟨b2, o2, rfl, hcy⟩ := (unhide HQ).2 wr (unhide HP').box.below j hjl
            rw [← hyv] at hcy
            have HYV : Hid (lq.getD j 0 = yv) := by rw [hyv, List.getD_eq_getElem?_getD, List.getElem?_eq_getElem hjl]; exact rfl
            obtain ⟨m, hm⟩ : ∃ m, m = xv * yv := ⟨_, rfl⟩
            have hmB : m ≤ 999999998000000001 := by rw [hm]; exact Nat.mul_le_mul (show xv ≤ 999999999 by omega) (show yv ≤ 999999999 by omega)
            have hmul : (xv : Int) * (yv : Int) = (m : Int) := by rw [hm]; simp
            have HA' : Hid (Cub.Acc 1000000000 (P.set (i + j) ((k + ov + m) % 1000000000)) ((k + ov + m) / 1000000000) (i + (j + 1)) (V0 + 1000000000 ^ i * (xv * Cub.lval 1000000000 (lq.take (j + 1))))) := by
              have h := (unhide HA).step (by decide) hpl (xv * lq.getD j 0)
              rw [Cub.val_inner, unhide HYV, ← hm, ← hov] at h
              exact h
            have hk' : (k + ov + m) / 1000000000 < 1000000000 := by rw [hm]; exact Cub.carry_lt 1000000000 k ov xv yv hk hoB hxB hyB
            have HZ' : Hid (∀ p (hp : p < (P.set (i + j) ((k + ov + m) % 1000000000)).length), i + nq ≤ p → (P.set (i + j) ((k + ov + m) % 1000000000))[p] = 0) := fun p hp hip => by
              rw [List.getElem_set_ne (by omega)]; exact unhide HZ p (by rw [List.length_set] at hp; exact hp) hip
            have HPn : Hid (OutU w (wr.setCell ⟨w.heap.size + 1 + 1 + 1, i + j, none⟩ (.int .u64 (((k : Int) + ((ov : Int) + (m : Int))) % 1000000000))) (.slice (some ⟨b1, o1, none⟩) np cp) (.slice (some ⟨b2, o2, none⟩) nq cq) (np + nq) (P.set (i + j) ((k + ov + m) % 1000000000))) := (unhide HP').set (i + j) ((k + ov + m) % 1000000000) _ (by omega)
            clear hov hyv hjl hm hpl HA HZ
            go_wp2
            go_roundw
            case rel => exact ⟨(k + ov + m) / 1000000000, j + 1, P.set (i + j) ((k + ov + m) % 1000000000), by go_num, by go_num, by omega, hk', HPn, HZ', HA'⟩
            case measure => simp [intOf]; omega
          · have hje : j = nq := by omega
            subst hje
            have hpl : i + j < P.length := by rw [(unhide HP').len]; omega
            have hz := unhide HZ (i + j) hpl (Nat.le_refl _)
            have hco := (unhide HP').own.cell (i + j) hpl
            rw [hz] at hco
            have hfo := (unhide HP').own.frozen (i + j)
            have HVn : Hid (Cub.limbs 1000000000 (P.set (i + j) k) ∧ Cub.lval 1000000000 (P.set (i + j) k) = Cub.lval 1000000000 (lp.take (i + 1)) * Cub.lval 1000000000 lq) := by
              have h := (unhide HA).val
              rw [List.take_of_length_le (by have := unhide HNQ; omega), ← unhide HV0, ← unhide HXV, Cub.val_outer] at h
              refine ⟨Cub.limbs_set (unhide HA).lim _ _ hk, ?_⟩
              have e := Cub.lval_set 1000000000 P (i + j) k hpl
              rw [hz] at e
              omega
            have HPn : Hid (OutU w (wr.setCell ⟨w.heap.size + 1 + 1 + 1, i + j, none⟩ (.int .u64 (k : Int))) (.slice (some ⟨b1, o1, none⟩) np cp) (.slice aq j cq) (np + j) (P.set (i + j) k)) := (unhide HP').set (i + j) k _ rfl
            clear hpl hz HA HZ
            go_wp2
            go_roundw
            case rel => exact ⟨i + 1, P.set (i + j) k, by go_num, by omega, HPn, HVn⟩
            case measure => simp [intOf]; omega
    · obtain ⟨t1, t2, _⟩ := Cub.lval_trim 1000000000 _ O rfl
      have HF : Hid (Cub.normal 1000000000 (Cub.trimN O) ∧ Cub.lval 1000000000 (Cub.trimN O) = Cub.lval 1000000000 lp * Cub.lval 1000000000 lq) := by
        refine ⟨t2 (unhide HV).1, ?_⟩
        rw [t1, (unhide HV).2, List.take_of_length_le (by have := unhide HNP; omega)]
      have hsz := (unhide HO).box.size
      have br := (unhide HO).box.c3
      have fr := (unhide HO).box.f3
      clear t1 t2
      go_wp2_with (go_at_call 128; refine (trim_any _ O _ ((unhide HO).own.row (np + nq) (np + nq) (unhide HO).len.symm (Nat.le_refl _) (by unfold maxLen; omega))).mono ?_; rintro e w6 ⟨v', rfl, hrow6, hb6⟩; obtain ⟨a6, cap6, rfl, hcap6⟩ := hrow6.form; obtain ⟨hc6, hf6⟩ := box_later hb6 (g := w.heap.size + 1 + 1) (by omega) br fr)
      refine bodyPost_ret (v := .agg #[.slice a6 (Cub.trimN O).length cap6]) (by simp [results, Tryz.results147, go_sem, hc6]) rfl ⟨_, rfl, ?_, ?_⟩
      · exact ⟨_, _, rfl, hrow6.box _ hc6 (no_int _ _ _), (unhide HF).1, (unhide HF).2⟩
      · exact ((unhide HO).box.below.trans (hb6.mono (by omega))).setCell (p := ⟨w.heap.size + 1 + 1, 0, none⟩) (show w.heap.size ≤ w.heap.size + 1 + 1 by omega) _
end Go.Proofs.YtoinadnpdbaamaaGreatDoor

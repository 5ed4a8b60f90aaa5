/- Plain facts: products limb by limb. -/
import Derived.Test.YtimihoonnglniaaGreatDoorAddSigned
import Derived.Deep.RegionHeld3
import Derived.Test.YtimihoonnglniaaGreatDoorLimb4
import Derived.Test.YtimihoonnglniaaGreatDoorLimb5
namespace Go.Proofs.YtimihoonnglniaaGreatDoor
open Go.RowKit

/-- A Frac holds a sign and two numbers (its cells lie flat). -/
def IsFrac (w : World) (v : Value) (b : Bool) (n d : Nat) : Prop := ∃ s t, v = .agg #[.bool b, s, t] ∧ IsBig w (.agg #[s]) n ∧ IsBig w (.agg #[t]) d
theorem IsFrac.later {w w' : World} {v : Value} {b : Bool} {n d : Nat} (h : IsFrac w v b n d) (hb : Below w.heap.size w w') : IsFrac w' v b n d := by
  obtain ⟨s, t, rfl, h1, h2⟩ := h
  exact ⟨s, t, rfl, h1.later hb, h2.later hb⟩
theorem IsFrac.form {w : World} {v : Value} {b : Bool} {n d : Nat} (h : IsFrac w v b n d) : ∃ a1 l1 c1 a2 l2 c2, v = .agg #[.bool b, .slice a1 l1 c1, .slice a2 l2 c2] ∧ IsBig w (.agg #[.slice a1 l1 c1]) n ∧ IsBig w (.agg #[.slice a2 l2 c2]) d := by
  obtain ⟨s, t, rfl, h1, h2⟩ := h
  obtain ⟨a1, l1, c1, e1⟩ := h1.shape
  obtain ⟨a2, l2, c2, e2⟩ := h2.shape
  simp only [Value.agg.injEq, Array.mk.injEq, List.cons.injEq, and_true] at e1 e2
  subst e1 e2
  exact ⟨a1, l1, c1, a2, l2, c2, rfl, h1, h2⟩
theorem inv_any (v : Value) (b : Bool) (n d : Nat) (w : World) (h : IsFrac w v b n d) :
    Calls Tryz.prog 75 #[v] w fun e w' => ∃ v', e = .returned v' ∧ IsFrac w' v' b d n ∧ Below w.heap.size w w' := by
  obtain ⟨a1, l1, c1, a2, l2, c2, rfl, h1, h2⟩ := h.form
  have H1 := hide h1
  have H2 := hide h2
  clear h h1 h2
  go_enter Tryz.func75, Tryz.ntmps75
  go_wp2
  have hb : Below w.heap.size w ((w.alloc (.cells #[.bool b, .slice a1 l1 c1, .slice a2 l2 c2] 45)).alloc (.cells #[.bool b, .slice a2 l2 c2, .slice a1 l1 c1] 45)) := ((Below.refl _ _).alloc (Nat.le_refl _) _).alloc (by simp) _
  exact bodyPost_ret (v := .agg #[.bool b, .slice a2 l2 c2, .slice a1 l1 c1]) (by simp [results, Tryz.results75, go_sem]) rfl ⟨_, rfl, ⟨_, _, rfl, (unhide H2).later hb, (unhide H1).later hb⟩, hb⟩
/-- Frac.Sign, as an answer. -/
def signI (b : Bool) (n : Nat) : Int := if b then -1 else if n = 0 then 0 else 1
theorem sign_any (v : Value) (b : Bool) (n d : Nat) (w : World) (h : IsFrac w v b n d) :
    Calls Tryz.prog 22 #[v] w fun e w' => e = .returned (.int .i64 (signI b n)) ∧ Below w.heap.size w w' := by
  obtain ⟨a1, l1, c1, a2, l2, c2, rfl, h1, h2⟩ := h.form
  have hb : Below w.heap.size w (w.alloc (.cells #[.bool b, .slice a1 l1 c1, .slice a2 l2 c2] 45)) := (Below.refl _ _).alloc (Nat.le_refl _) _
  have H37 := hide (isZero_any _ n _ (h1.later hb))
  have HB := hide hb
  clear h h1 h2 hb
  cases b with
  | true =>
    go_enter Tryz.func22, Tryz.ntmps22
    go_wp2
    go_ret
    exact ⟨rfl, unhide HB⟩
  | false =>
    by_cases hn : n = 0
    · subst hn
      go_enter Tryz.func22, Tryz.ntmps22
      go_wp2_with (go_at_call 44; go_must (refine (unhide H37).mono ?_; rintro e w1 ⟨rfl, hb1⟩; have HB1 := hide ((unhide HB).trans (hb1.mono (unhide HB).size)); clear hb1))
      go_ret
      exact ⟨rfl, unhide HB1⟩
    · have e : (n == 0) = false := by rw [beq_eq_false_iff_ne]; exact hn
      have HE : Hid (signI false n = 1) := by show _ = _; simp [signI, hn]
      rw [e] at H37
      rw [unhide HE]
      clear e hn HE
      go_enter Tryz.func22, Tryz.ntmps22
      go_wp2_with (go_at_call 44; go_must (refine (unhide H37).mono ?_; rintro e w1 ⟨rfl, hb1⟩; have HB1 := hide ((unhide HB).trans (hb1.mono (unhide HB).size)); clear hb1))
      go_ret
      exact ⟨rfl, unhide HB1⟩
end Go.Proofs.YtimihoonnglniaaGreatDoor

namespace Go.Proofs.YtimihoonnglniaaGreatDoor
open Go.RowKit

set_option maxRecDepth 100000 in
set_option maxHeartbeats 2000000 in
theorem neg_any (v : Value) (b : Bool) (n d : Nat) (w : World) (h : IsFrac w v b n d) :
    Calls Tryz.prog 72 #[v] w fun e w' => ∃ v', e = .returned v' ∧ IsFrac w' v' (!b && decide (n ≠ 0)) n d ∧ Below w.heap.size w w' := by
  obtain ⟨a1, l1, c1, a2, l2, c2, rfl, h1, h2⟩ := h.form
  have H1 := hide h1
  have H2 := hide h2
  clear h h1 h2
  have HB : Hid (Below w.heap.size w ((w.alloc (.cells #[.bool b, .slice a1 l1 c1, .slice a2 l2 c2] 45)).alloc (.cells #[.bool false, .slice none 0 0, .slice none 0 0] 45))) := ((Below.refl _ _).alloc (Nat.le_refl _) _).alloc (by simp) _
  have H37 := hide (fun W (hb : Below w.heap.size w W) => isZero_any _ n W ((unhide H1).later hb))
  go_enter Tryz.func72, Tryz.ntmps72
  go_upto_region 1 with fail
  obtain ⟨V, hV⟩ : ∃ V, V = ((w.alloc (.cells #[.bool b, .slice a1 l1 c1, .slice a2 l2 c2] 45)).alloc (.cells #[.bool false, .slice none 0 0, .slice none 0 0] 45)) := ⟨_, rfl⟩
  have p0 : V.cell? ⟨w.heap.size, 0, none⟩ = some (.bool b) := by rw [hV]; simp [go_sem]
  have p1 : V.cell? ⟨w.heap.size, 1, none⟩ = some (.slice a1 l1 c1) := by rw [hV]; simp [go_sem]
  have p2 : V.cell? ⟨w.heap.size, 2, none⟩ = some (.slice a2 l2 c2) := by rw [hV]; simp [go_sem]
  have q0 : V.cell? ⟨w.heap.size + 1, 0, none⟩ = some (.bool false) := by rw [hV]; simp [go_sem]
  have q1 : V.cell? ⟨w.heap.size + 1, 1, none⟩ = some (.slice none 0 0) := by rw [hV]; simp [go_sem]
  have q2 : V.cell? ⟨w.heap.size + 1, 2, none⟩ = some (.slice none 0 0) := by rw [hV]; simp [go_sem]
  have g0 : V.frozen? ⟨w.heap.size + 1, 0, none⟩ = false := by rw [hV]; simp [go_sem]
  have g1 : V.frozen? ⟨w.heap.size + 1, 1, none⟩ = false := by rw [hV]; simp [go_sem]
  have g2 : V.frozen? ⟨w.heap.size + 1, 2, none⟩ = false := by rw [hV]; simp [go_sem]
  rw [← hV] at HB ⊢
  clear hV
  cases b with
  | true =>
    go_region
    obtain ⟨U, hU⟩ : ∃ U, U = (((V.setCell ⟨w.heap.size + 1, 0, none⟩ (.bool false)).setCell ⟨w.heap.size + 1, 1, none⟩ (.slice a1 l1 c1)).setCell ⟨w.heap.size + 1, 2, none⟩ (.slice a2 l2 c2)).drew := ⟨_, rfl⟩
    have hbU : Below w.heap.size w U := by
      rw [hU]
      have h3 := (((unhide HB).setCell (p := ⟨w.heap.size + 1, 0, none⟩) (by simp) (.bool false)).setCell (p := ⟨w.heap.size + 1, 1, none⟩) (by simp) (.slice a1 l1 c1)).setCell (p := ⟨w.heap.size + 1, 2, none⟩) (by simp) (.slice a2 l2 c2)
      exact h3.trans (((Below.refl _ _).drew).mono h3.size)
    have r0 : U.cell? ⟨w.heap.size + 1, 0, none⟩ = some (.bool false) := by rw [hU]; simp [go_sem, *]
    have r1 : U.cell? ⟨w.heap.size + 1, 1, none⟩ = some (.slice a1 l1 c1) := by rw [hU]; simp [go_sem, *]
    have r2 : U.cell? ⟨w.heap.size + 1, 2, none⟩ = some (.slice a2 l2 c2) := by rw [hU]; simp [go_sem, *]
    have HU := hide hbU
    rw [← hU]
    clear hU hbU q0 q1 q2 g0 g1 g2 p0 p1 p2
    go_wp2_with fail
    exact bodyPost_ret (v := .agg #[.bool false, .slice a1 l1 c1, .slice a2 l2 c2]) (by simp [results, Tryz.results72, go_sem, r0, r1, r2]) rfl ⟨_, rfl, ⟨_, _, rfl, (unhide H1).later (unhide HU), (unhide H2).later (unhide HU)⟩, unhide HU⟩
  | false =>
    have hsV := (unhide HB).size
    have hlt : w.heap.size + 1 < V.heap.size := World.block_lt_of_cell? _ _ q0
    have HF : Hid (∀ W, Below V.heap.size V W → W.cell? ⟨w.heap.size, 0, none⟩ = some (.bool false) ∧ W.cell? ⟨w.heap.size, 1, none⟩ = some (.slice a1 l1 c1) ∧ W.cell? ⟨w.heap.size, 2, none⟩ = some (.slice a2 l2 c2) ∧ W.cell? ⟨w.heap.size + 1, 0, none⟩ = some (.bool false) ∧ W.cell? ⟨w.heap.size + 1, 1, none⟩ = some (.slice none 0 0) ∧ W.cell? ⟨w.heap.size + 1, 2, none⟩ = some (.slice none 0 0) ∧ W.frozen? ⟨w.heap.size + 1, 0, none⟩ = false ∧ W.frozen? ⟨w.heap.size + 1, 1, none⟩ = false ∧ W.frozen? ⟨w.heap.size + 1, 2, none⟩ = false) := fun W hb =>
      ⟨(hb.cell (p := ⟨w.heap.size, 0, none⟩) (show w.heap.size < V.heap.size by omega)).trans p0, (hb.cell (p := ⟨w.heap.size, 1, none⟩) (show w.heap.size < V.heap.size by omega)).trans p1, (hb.cell (p := ⟨w.heap.size, 2, none⟩) (show w.heap.size < V.heap.size by omega)).trans p2,
        (hb.cell (p := ⟨w.heap.size + 1, 0, none⟩) hlt).trans q0, (hb.cell (p := ⟨w.heap.size + 1, 1, none⟩) hlt).trans q1, (hb.cell (p := ⟨w.heap.size + 1, 2, none⟩) hlt).trans q2,
        (hb.frozen (p := ⟨w.heap.size + 1, 0, none⟩) hlt).trans g0, (hb.frozen (p := ⟨w.heap.size + 1, 1, none⟩) hlt).trans g1, (hb.frozen (p := ⟨w.heap.size + 1, 2, none⟩) hlt).trans g2⟩
    clear q0 q1 q2 g0 g1 g2 hlt
    go_region_held3 (fun w' => w'.cell? ⟨w.heap.size, 0, none⟩ = some (.bool false) ∧ w'.cell? ⟨w.heap.size, 1, none⟩ = some (.slice a1 l1 c1) ∧ w'.cell? ⟨w.heap.size, 2, none⟩ = some (.slice a2 l2 c2)) (first | assumption | (refine ⟨?_, ?_, ?_⟩ <;> first | assumption | (simp [go_sem, *]; done)) | (simp [go_sem, *]; done)) ((go_at_call 44; go_must (refine (unhide H37 _ ((unhide HB).trans (((Below.refl _ _).drew).mono hsV))).mono ?_; rintro e w3 ⟨rfl, hb3⟩; have HB3 := hide ((((Below.refl V.heap.size V).drew)).trans hb3); obtain ⟨t0, t1, t2, q0, q1, q2, g0, g1, g2⟩ := unhide HF w3 (unhide HB3); clear hb3)))
    have HB4 := hide ((unhide HB).trans ((unhide HB3).mono hsV))
    obtain ⟨U, hU⟩ : ∃ U, U = (((w3.setCell ⟨w.heap.size + 1, 0, none⟩ (.bool (!n == 0))).setCell ⟨w.heap.size + 1, 1, none⟩ (.slice a1 l1 c1)).setCell ⟨w.heap.size + 1, 2, none⟩ (.slice a2 l2 c2)) := ⟨_, rfl⟩
    have hbU : Below w.heap.size w U := by
      rw [hU]
      exact (((unhide HB4).setCell (p := ⟨w.heap.size + 1, 0, none⟩) (by simp) (.bool (!n == 0))).setCell (p := ⟨w.heap.size + 1, 1, none⟩) (by simp) (.slice a1 l1 c1)).setCell (p := ⟨w.heap.size + 1, 2, none⟩) (by simp) (.slice a2 l2 c2)
    have r0 : U.cell? ⟨w.heap.size + 1, 0, none⟩ = some (.bool (!n == 0)) := by rw [hU]; simp [go_sem, *]
    have r1 : U.cell? ⟨w.heap.size + 1, 1, none⟩ = some (.slice a1 l1 c1) := by rw [hU]; simp [go_sem, *]
    have r2 : U.cell? ⟨w.heap.size + 1, 2, none⟩ = some (.slice a2 l2 c2) := by rw [hU]; simp [go_sem, *]
    have HU := hide hbU
    have HE : Hid ((!n == 0) = (!false && decide (n ≠ 0))) := by show _ = _; by_cases h0 : n = 0 <;> simp [h0]
    rw [← hU]
    clear hU hbU q0 q1 q2 g0 g1 g2 p0 p1 p2 t0 t1 t2
    go_wp2_with fail
    exact bodyPost_ret (v := .agg #[.bool (!n == 0), .slice a1 l1 c1, .slice a2 l2 c2]) (by simp [results, Tryz.results72, go_sem, r0, r1, r2]) rfl ⟨_, rfl, (by rw [← unhide HE]; exact ⟨_, _, rfl, (unhide H1).later (unhide HU), (unhide H2).later (unhide HU)⟩), unhide HU⟩
end Go.Proofs.YtimihoonnglniaaGreatDoor

namespace Go.Proofs.YtimihoonnglniaaGreatDoor
open Go.RowKit

/-- How far BigOf has come: what is told already, and what is left. -/
def OfInv (u : Nat) (L : List Nat) (q : Nat) : Prop := Cub.limbs 1000000000 L ∧ Cub.lval 1000000000 L + 1000000000 ^ L.length * q = u ∧ (q = 0 → Cub.normal 1000000000 L)
theorem OfInv.start (u : Nat) : OfInv u [] u := ⟨fun _ h => (by cases h), by simp [Cub.lval], fun _ => Cub.normal_nil _⟩
theorem OfInv.step {u : Nat} {L : List Nat} {q : Nat} (h : OfInv u L q) (hq : 0 < q) : OfInv u (L ++ [q % 1000000000]) (q / 1000000000) := by
  obtain ⟨h1, h2, h3⟩ := h
  have hl : Cub.limbs 1000000000 (L ++ [q % 1000000000]) := Cub.limbs_append.2 ⟨h1, fun x hx => by simp at hx; subst hx; exact Nat.mod_lt _ (by decide)⟩
  refine ⟨hl, ?_, fun h0 => ⟨hl, ?_⟩⟩
  · rw [Cub.lval_snoc, List.length_append, List.length_singleton, Nat.pow_succ, Nat.mul_assoc, Nat.add_assoc, ← Nat.mul_add]
    rw [Nat.mod_add_div]; exact h2
  · rw [List.getLast?_append]
    simp
    omega
theorem OfInv.short {u : Nat} {L : List Nat} {q : Nat} (h : OfInv u L q) (hq : 0 < q) (hu : u < 18446744073709551616) : L.length ≤ 2 := by
  have h2 := h.2.1
  have h3 : 1000000000 ^ L.length ≤ 1000000000 ^ L.length * q := Nat.le_mul_of_pos_right _ hq
  apply Decidable.byContradiction
  intro hc
  have h4 : 1000000000 ^ 3 ≤ 1000000000 ^ L.length := Nat.pow_le_pow_right (by decide) (by omega)
  omega

set_option maxRecDepth 100000 in
set_option maxHeartbeats 800000 in
theorem bigOf_any (u : Nat) (w : World) (hu : u < 18446744073709551616) :
    Calls Tryz.prog 84 #[.int .u64 (u : Int)] w fun e w' => ∃ a n c, e = .returned (.agg #[.slice a n c]) ∧ IsBig w' (.agg #[.slice a n c]) u ∧ Below w.heap.size w w' := by
  obtain ⟨i0, hi, hz0, hz1, hz2⟩ := info_parts Tryz.info64
  go_enter Tryz.func84, Tryz.ntmps84
  go_wp2
  go_loopw [0, 3] (fun t v wr => ∃ (q : Nat) (L : List Nat), t = .int .u64 (q : Int) ∧ q < 18446744073709551616 ∧ L.length ≤ 3 ∧ Hid (OfInv u L q) ∧ wr.ownsRow (w.heap.size + 1) 64 1 v L.length (u64s L) ∧ Below (w.heap.size + 1) (w.alloc (.cells #[.slice none 0 0] 43)) wr) (fun t _ _ => (intOf t).toNat)
  case atStart => exact ⟨u, [], rfl, hu, by simp, OfInv.start u, ⟨rfl, Or.inl ⟨rfl, rfl⟩⟩, Below.refl _ _⟩
  case round =>
    obtain ⟨q, L, rfl, hq, hL, HI, hown, hb⟩ := hrel
    by_cases h0 : 0 < q
    · have hL2 := (unhide HI).short h0 hu
      have HI' := hide ((unhide HI).step h0)
      have hr : q % 1000000000 < 1000000000 := Nat.mod_lt _ (by decide)
      go_wp2_with (at_builtin; refine wpList_append_own _ rfl _ _ 41 rfl (w.heap.size + 1) 64 i0 (.int .u64 0) 1 8 Tryz.underlying41 hi hz0 hz1 hz2 rfl (by decide) _ _ _ rfl (hown.alloc _) ⟨wr.heap.size, 0, none⟩ 1 1 [.int .u64 ((q % 1000000000 : Nat) : Int)] rfl rfl (cell_one_new _ _ _) (fun x hx => by simp at hx; subst hx; rfl) (by unfold maxLen; omega) (by omega) (by have := hb.size; simp at this ⊢; omega) ?_; intro v' w1 hown' hgrow _)

      have hsz := hb.size
      have hb' : Below (w.heap.size + 1) (w.alloc (.cells #[.slice none 0 0] 43)) w1 := (hb.alloc (by simp at hsz; omega) _).grown hgrow (by simp at hsz ⊢; omega) (fun j hj => (hown.lt j hj).1)
      have hown2 : w1.ownsRow (w.heap.size + 1) 64 1 v' (L ++ [q % 1000000000]).length (u64s (L ++ [q % 1000000000])) := by simpa [u64s] using hown'
      clear hgrow hown' hown hsz
      go_wp2
      go_roundw
      case rel => exact ⟨q / 1000000000, L ++ [q % 1000000000], by go_num, by omega, by simp; omega, HI', hown2, hb'⟩
      case measure => simp [intOf]; omega
    · have hq0 : q = 0 := by omega
      subst hq0
      have hrow := Row.of_own hown
      have HF : Hid (Cub.lval 1000000000 L = u ∧ Cub.normal 1000000000 L) := ⟨by have := (unhide HI).2.1; simpa using this, (unhide HI).2.2 rfl⟩
      have hsz : w.heap.size + 1 ≤ wr.heap.size := by have := hb.size; simpa using this
      have hc0 : wr.cell? ⟨w.heap.size, 0, none⟩ = some (.slice none 0 0) := by rw [hb.cell (p := ⟨w.heap.size, 0, none⟩) (by simp)]; simp
      have hf0 : wr.frozen? ⟨w.heap.size, 0, none⟩ = false := by rw [hb.frozen (p := ⟨w.heap.size, 0, none⟩) (by simp)]; simp
      obtain ⟨a2, cap2, rfl, hcap2⟩ := hrow.form
      have HRow := hide hrow
      clear hrow hown
      go_wp2
      refine bodyPost_ret (v := .agg #[.slice a2 L.length cap2]) (by simp [results, Tryz.results84, go_sem, hc0]) rfl ⟨_, _, _, rfl, ?_, ?_⟩
      · exact ⟨_, _, rfl, (unhide HRow).box _ hc0 (fun _ _ h => by cases h), (unhide HF).2, (unhide HF).1⟩
      · exact (((Below.refl _ _).alloc (Nat.le_refl _) _).trans (hb.mono (Nat.le_succ _))).setCell (Nat.le_refl _) _
end Go.Proofs.YtimihoonnglniaaGreatDoor

namespace Go.Proofs.YtimihoonnglniaaGreatDoor
open Go.RowKit

/-- A Frac's box: three cells. -/
structure FBox (W : World) (g : Nat) (x y z : Value) : Prop where
  c0 : W.cell? ⟨g, 0, none⟩ = some x
  c1 : W.cell? ⟨g, 1, none⟩ = some y
  c2 : W.cell? ⟨g, 2, none⟩ = some z
  f0 : W.frozen? ⟨g, 0, none⟩ = false
  f1 : W.frozen? ⟨g, 1, none⟩ = false
  f2 : W.frozen? ⟨g, 2, none⟩ = false
theorem FBox.lt {W : World} {g : Nat} {x y z : Value} (h : FBox W g x y z) : g < W.heap.size := World.block_lt_of_cell? _ _ h.c0
theorem FBox.later {W V : World} {g : Nat} {x y z : Value} (h : FBox W g x y z) (hb : Below W.heap.size W V) : FBox V g x y z :=
  ⟨(hb.cell (p := ⟨g, 0, none⟩) h.lt).trans h.c0, (hb.cell (p := ⟨g, 1, none⟩) h.lt).trans h.c1, (hb.cell (p := ⟨g, 2, none⟩) h.lt).trans h.c2,
    (hb.frozen (p := ⟨g, 0, none⟩) h.lt).trans h.f0, (hb.frozen (p := ⟨g, 1, none⟩) h.lt).trans h.f1, (hb.frozen (p := ⟨g, 2, none⟩) h.lt).trans h.f2⟩
/-- A whole Frac stored into its box. -/
def store3 (W : World) (g : Nat) (x y z : Value) : World := ((W.setCell ⟨g, 0, none⟩ x).setCell ⟨g, 1, none⟩ y).setCell ⟨g, 2, none⟩ z
theorem FBox.store {W : World} {g : Nat} {x y z : Value} (h : FBox W g x y z) (x' y' z' : Value) : FBox (store3 W g x' y' z') g x' y' z' := by
  have a1 : (W.setCell ⟨g, 0, none⟩ x').cell? ⟨g, 1, none⟩ = some y := by rw [World.cell?_setCell_other _ _ _ _ (by simp)]; exact h.c1
  have a2 : ((W.setCell ⟨g, 0, none⟩ x').setCell ⟨g, 1, none⟩ y').cell? ⟨g, 2, none⟩ = some z := by rw [World.cell?_setCell_other _ _ _ _ (by simp), World.cell?_setCell_other _ _ _ _ (by simp)]; exact h.c2
  unfold store3
  refine ⟨?_, ?_, World.cell?_setCell_same _ _ _ a2, ?_, ?_, ?_⟩
  · rw [World.cell?_setCell_other _ _ _ _ (by simp), World.cell?_setCell_other _ _ _ _ (by simp)]; exact World.cell?_setCell_same _ _ _ h.c0
  · rw [World.cell?_setCell_other _ _ _ _ (by simp)]; exact World.cell?_setCell_same _ _ _ a1
  · rw [World.frozen?_setCell, World.frozen?_setCell, World.frozen?_setCell]; exact h.f0
  · rw [World.frozen?_setCell, World.frozen?_setCell, World.frozen?_setCell]; exact h.f1
  · rw [World.frozen?_setCell, World.frozen?_setCell, World.frozen?_setCell]; exact h.f2
theorem FBox.big {W : World} {g : Nat} {b : Bool} {a1 a2 : Option Addr} {l1 c1 l2 c2 : Nat} (h : FBox W g (.bool b) (.slice a1 l1 c1) (.slice a2 l2 c2)) (x' y' z' : Value) {v : Value} {n : Nat} (hv : IsBig W v n) : IsBig (store3 W g x' y' z') v n := by
  have e1 : (W.setCell ⟨g, 0, none⟩ x').cell? ⟨g, 1, none⟩ = some (.slice a1 l1 c1) := by rw [World.cell?_setCell_other _ _ _ _ (by simp)]; exact h.c1
  have e2 : ((W.setCell ⟨g, 0, none⟩ x').setCell ⟨g, 1, none⟩ y').cell? ⟨g, 2, none⟩ = some (.slice a2 l2 c2) := by rw [World.cell?_setCell_other _ _ _ _ (by simp), World.cell?_setCell_other _ _ _ _ (by simp)]; exact h.c2
  exact ((hv.box _ h.c0 (fun _ _ e => by cases e)).box _ e1 (not_int _ _ _)).box _ e2 (not_int _ _ _)
theorem below_store3 {B g : Nat} {w W : World} (h : Below B w W) (hg : B ≤ g) (x y z : Value) : Below B w (store3 W g x y z) :=
  ((h.setCell (p := ⟨g, 0, none⟩) hg x).setCell (p := ⟨g, 1, none⟩) hg y).setCell (p := ⟨g, 2, none⟩) hg z

set_option maxRecDepth 100000 in
theorem whole_any (u : Nat) (w : World) (hu : u < 18446744073709551616) :
    Calls Tryz.prog 71 #[.int .u64 (u : Int)] w fun e w' => ∃ v', e = .returned v' ∧ IsFrac w' v' false u 1 ∧ Below w.heap.size w w' := by
  have HB0 : Hid (Below w.heap.size w (w.alloc (.cells #[.bool false, .slice none 0 0, .slice none 0 0] 45))) := (Below.refl _ _).alloc (Nat.le_refl _) _
  have H1 := hide (bigOf_any u (w.alloc (.cells #[.bool false, .slice none 0 0, .slice none 0 0] 45)) hu)
  have H2 := hide (fun W => bigOf_any 1 W (by omega))
  have HC : Hid (∀ W, Below (w.heap.size + 1) (w.alloc (.cells #[.bool false, .slice none 0 0, .slice none 0 0] 45)) W → W.cell? ⟨w.heap.size, 0, none⟩ = some (.bool false) ∧ W.cell? ⟨w.heap.size, 1, none⟩ = some (.slice none 0 0) ∧ W.cell? ⟨w.heap.size, 2, none⟩ = some (.slice none 0 0) ∧ W.frozen? ⟨w.heap.size, 0, none⟩ = false ∧ W.frozen? ⟨w.heap.size, 1, none⟩ = false ∧ W.frozen? ⟨w.heap.size, 2, none⟩ = false) := fun W hb => by
    refine ⟨?_, ?_, ?_, ?_, ?_, ?_⟩
    · rw [hb.cell (p := ⟨w.heap.size, 0, none⟩) (show w.heap.size < w.heap.size + 1 by omega)]; simp [go_sem]
    · rw [hb.cell (p := ⟨w.heap.size, 1, none⟩) (show w.heap.size < w.heap.size + 1 by omega)]; simp [go_sem]
    · rw [hb.cell (p := ⟨w.heap.size, 2, none⟩) (show w.heap.size < w.heap.size + 1 by omega)]; simp [go_sem]
    · rw [hb.frozen (p := ⟨w.heap.size, 0, none⟩) (show w.heap.size < w.heap.size + 1 by omega)]; simp [go_sem]
    · rw [hb.frozen (p := ⟨w.heap.size, 1, none⟩) (show w.heap.size < w.heap.size + 1 by omega)]; simp [go_sem]
    · rw [hb.frozen (p := ⟨w.heap.size, 2, none⟩) (show w.heap.size < w.heap.size + 1 by omega)]; simp [go_sem]
  clear hu
  go_enter Tryz.func71, Tryz.ntmps71
  go_wp2_with (first
    | (go_at_call_of 84 (Value.int .u64 (u : Int)); go_must (refine (unhide H1).mono ?_; rintro e w1 ⟨a1, l1, c1, rfl, hv1, hb1⟩; have HV1 := hide hv1; have HB1 := hide hb1; have hs1 := hb1.size; clear hv1 hb1))
    | (go_at_call 84; go_must (refine (unhide H2 w1).mono ?_; rintro e w2 ⟨a2, l2, c2, rfl, hv2, hb2⟩; have HV2 := hide hv2; have HV1' := hide ((unhide HV1).later hb2); have HB2 := hide ((unhide HB1).trans (hb2.mono hs1)); have h1 : w.heap.size + 1 ≤ (w.alloc (.cells #[.bool false, .slice none 0 0, .slice none 0 0] 45)).heap.size := (by simp); obtain ⟨q0, q1, q2, g0, g1, g2⟩ := unhide HC w2 ((unhide HB2).mono h1); clear hv2 hb2)))
  have hF : FBox w2 w.heap.size (.bool false) (.slice none 0 0) (.slice none 0 0) := ⟨q0, q1, q2, g0, g1, g2⟩
  have hS := hF.store (.bool false) (.slice a1 l1 c1) (.slice a2 l2 c2)
  have hb : Below w.heap.size w (store3 w2 w.heap.size (.bool false) (.slice a1 l1 c1) (.slice a2 l2 c2)) := below_store3 ((unhide HB0).trans ((unhide HB2).mono (by simp))) (Nat.le_refl _) _ _ _
  have r0 := hS.c0; have r1 := hS.c1; have r2 := hS.c2
  exact bodyPost_ret (v := .agg #[.bool false, .slice a1 l1 c1, .slice a2 l2 c2]) (w := store3 w2 w.heap.size (.bool false) (.slice a1 l1 c1) (.slice a2 l2 c2)) (by simp [results, Tryz.results71, go_sem, r0, r1, r2]) rfl ⟨_, rfl, ⟨_, _, rfl, hF.big _ _ _ (unhide HV1'), hF.big _ _ _ (unhide HV2)⟩, hb⟩
end Go.Proofs.YtimihoonnglniaaGreatDoor

namespace Go.Proofs.YtimihoonnglniaaGreatDoor
open Go.RowKit

theorem FBox.other {W : World} {g k : Nat} {x y z : Value} (h : FBox W g x y z) (hk : g ≠ k) (u : Value) : FBox (W.setCell ⟨k, 0, none⟩ u) g x y z :=
  ⟨by rw [World.cell?_setCell_other _ _ _ _ (by intro e; cases e; exact hk rfl)]; exact h.c0, by rw [World.cell?_setCell_other _ _ _ _ (by intro e; cases e)]; exact h.c1, by rw [World.cell?_setCell_other _ _ _ _ (by intro e; cases e)]; exact h.c2,
    by rw [World.frozen?_setCell]; exact h.f0, by rw [World.frozen?_setCell]; exact h.f1, by rw [World.frozen?_setCell]; exact h.f2⟩
/-- Two numbers in their boxes, and a Frac's box. -/
structure RSt (w W : World) (u v : Value) : Prop where
  b1 : Box W w.heap.size u
  b2 : Box W (w.heap.size + 1) v
  b3 : FBox W (w.heap.size + 1 + 1) (.bool false) (.slice none 0 0) (.slice none 0 0)
  below : Below w.heap.size w W
theorem RSt.later {w W V : World} {u v : Value} (s : RSt w W u v) (hb : Below W.heap.size W V) : RSt w V u v :=
  ⟨s.b1.later hb, s.b2.later hb, s.b3.later hb, s.below.trans (hb.mono s.below.size)⟩
theorem RSt.first (w : World) (u v : Value) : RSt w (((w.alloc (.cells #[u] 43)).alloc (.cells #[v] 43)).alloc (.cells #[.bool false, .slice none 0 0, .slice none 0 0] 45)) u v :=
  ⟨⟨by simp [go_sem], by simp [go_sem]⟩, ⟨by simp [go_sem], by simp [go_sem]⟩, ⟨by simp [go_sem], by simp [go_sem], by simp [go_sem], by simp [go_sem], by simp [go_sem], by simp [go_sem]⟩,
    (((Below.refl _ _).alloc (Nat.le_refl _) _).alloc (by simp) _).alloc (by simp; omega) _⟩
theorem RSt.both {w W : World} {u v : Value} (s : RSt w W u v) (x y : Value) : RSt w ((W.setCell ⟨w.heap.size, 0, none⟩ x).setCell ⟨w.heap.size + 1, 0, none⟩ y) x y :=
  ⟨(s.b1.set x).other (by omega) y, (s.b2.other (by omega) x).set y, (s.b3.other (by omega) x).other (by omega) y, (s.below.setCell (by simp) _).setCell (by simp) _⟩

end Go.Proofs.YtimihoonnglniaaGreatDoor

namespace Cub
theorem takeB (B : Nat) (l : List Nat) (i : Nat) : lval B (l.take (i + 1)) = lval B (l.take i) + B ^ i * l.getD i 0 := by
  by_cases h : i < l.length
  · rw [List.take_succ_eq_append_getElem h, lval_snoc, List.length_take, Nat.min_eq_left (by omega)]
    simp [List.getD, h]
  · rw [List.take_of_length_le (by omega), List.take_of_length_le (by omega)]
    simp [List.getD, Nat.le_of_not_lt h]
end Cub

namespace Cub
/-- A list in the making, with what is carried to place p: together they are V. -/
structure Acc (B : Nat) (O : List Nat) (c p V : Nat) : Prop where
  lim : limbs B O
  val : lval B O + B ^ p * c = V

theorem Acc.step {B : Nat} {O : List Nat} {c p V : Nat} (h : Acc B O c p V) (hB : 0 < B) (hp : p < O.length) (t : Nat) :
    Acc B (O.set p ((c + O[p] + t) % B)) ((c + O[p] + t) / B) (p + 1) (V + B ^ p * t) := by
  refine ⟨limbs_set h.lim p _ (Nat.mod_lt _ hB), ?_⟩
  have e1 := lval_set B O p ((c + O[p] + t) % B) hp
  have e2 := h.val
  have e3 : c + O[p] + t = B * ((c + O[p] + t) / B) + (c + O[p] + t) % B := (Nat.div_add_mod _ _).symm
  generalize (c + O[p] + t) / B = q at *
  generalize (c + O[p] + t) % B = r at *
  have e4 := congrArg (B ^ p * ·) e3
  simp only [Nat.mul_add] at e4
  rw [Nat.pow_succ]
  have m1 : B ^ p * B * q = B ^ p * (B * q) := Nat.mul_assoc _ _ _
  omega

theorem Acc.none {B : Nat} {O : List Nat} {c p V : Nat} (h : Acc B O c p V) (hV : V < B ^ p) : c = 0 := by
  rcases Nat.eq_zero_or_pos c with h0 | h0
  · exact h0
  · have : B ^ p * 1 ≤ B ^ p * c := Nat.mul_le_mul_left _ h0
    have := h.val
    omega

theorem carry_lt (B c o x y : Nat) (hc : c < B) (ho : o < B) (hx : x < B) (hy : y < B) : (c + o + x * y) / B < B := by
  apply Nat.div_lt_of_lt_mul
  obtain ⟨b, rfl⟩ : ∃ b, B = b + 1 := ⟨B - 1, by omega⟩
  have h1 : x * y ≤ b * b := Nat.mul_le_mul (by omega) (by omega)
  have h2 : (b + 1) * (b + 1) = b * b + b + b + 1 := by rw [Nat.add_mul, Nat.mul_add]; omega
  omega
theorem carry_lt' (B c o : Nat) (hc : c < B) (ho : o < B) (hB : 2 ≤ B) : (c + o) / B < B := by
  apply Nat.div_lt_of_lt_mul
  have : B * 2 ≤ B * B := Nat.mul_le_mul_left _ hB
  omega

theorem get_zero {B : Nat} {O : List Nat} {p : Nat} (h : lval B O < B ^ p) (hp : p < O.length) : O[p] = 0 := by
  rcases Nat.eq_zero_or_pos O[p] with h0 | h0
  · exact h0
  · have e := lval_set B O p 0 hp
    have : B ^ p * 1 ≤ B ^ p * O[p] := Nat.mul_le_mul_left _ h0
    omega

theorem mul_lt (B : Nat) (x y : List Nat) (hx : limbs B x) (hy : limbs B y) (i : Nat) : lval B (x.take i) * lval B y < B ^ (i + y.length) ∨ B = 0 := by
  rcases Nat.eq_zero_or_pos B with h0 | h0
  · exact Or.inr h0
  · left
    have h1 := lval_lt (B := B) (l := x.take i) (fun z hz => hx z (List.mem_of_mem_take hz))
    have h2 := lval_lt hy
    have h3 : B ^ (x.take i).length ≤ B ^ i := Nat.pow_le_pow_right h0 (List.length_take_le _ _)
    rw [Nat.pow_add]
    exact Nat.mul_lt_mul'' (by omega) h2

theorem lval_zeros (B n : Nat) : lval B (List.replicate n 0) = 0 := by
  induction n with
  | zero => rfl
  | succ n ih => simp [List.replicate_succ, lval, ih]
theorem limbs_zeros (B n : Nat) (hB : 0 < B) : limbs B (List.replicate n 0) := fun x hx => by
  rw [List.mem_replicate] at hx; omega

/-- One more limb of y. -/
theorem val_inner (B a i k : Nat) (y : List Nat) (V : Nat) : V + B ^ i * (a * lval B (y.take k)) + B ^ (i + k) * (a * y.getD k 0) = V + B ^ i * (a * lval B (y.take (k + 1))) := by
  rw [takeB, Nat.mul_add, Nat.mul_add, Nat.pow_add]
  have : B ^ i * (a * (B ^ k * y.getD k 0)) = B ^ i * B ^ k * (a * y.getD k 0) := by
    rw [Nat.mul_left_comm a, ← Nat.mul_assoc]
  omega
theorem val_outer (B i : Nat) (x y : List Nat) : lval B (x.take i) * lval B y + B ^ i * (x.getD i 0 * lval B y) = lval B (x.take (i + 1)) * lval B y := by
  rw [takeB, Nat.add_mul, Nat.mul_assoc]
end Cub

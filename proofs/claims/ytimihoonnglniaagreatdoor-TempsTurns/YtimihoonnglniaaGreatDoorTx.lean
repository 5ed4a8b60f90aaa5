/- Texts of rational numbers: rat.cutSign, rat.signed. -/
import Derived.Test.YtimihoonnglniaaGreatDoorTimes
import Derived.Test.YtimihoonnglniaaGreatDoorDivMod
import Derived.Test.YtimihoonnglniaaGreatDoorLong2
import Derived.Test.YtimihoonnglniaaGreatDoorNeg
import Derived.Test.YtimihoonnglniaaGreatDoorOne
namespace Go.Proofs.YtimihoonnglniaaGreatDoor
open Go.RowKit

theorem divAns (k : Nat) (hk : k ≤ 100000) : DivAns k := fun W x y m n hx hy hm hn =>
  divMod_core x y m n k W hx hy (by omega) hm hn (fun h1 h2 => long_any m n k (by omega) hm h1 h2)
theorem divOK (k : Nat) (hk : k ≤ 100000) : DivOK k := divAns k hk
theorem gcdAns (k : Nat) (hk : k ≤ 100000) : GcdAns k := fun W x y m n hx hy hm hn => gcd_any x y m n k W hx hy hk hm hn (divOK k hk)
/-- A Frac that holds a number in its one form, its parts below 1000000000 ^ k. -/
def QOf (w : World) (v : Value) (x : Rat) (k : Nat) : Prop := ∃ b n d, IsFrac w v b n d ∧ Cub.Low b n d ∧ Cub.valQ b n d = x ∧ n < 1000000000 ^ k ∧ d < 1000000000 ^ k
theorem QOf.later {w w' : World} {v : Value} {x : Rat} {k : Nat} (h : QOf w v x k) (hb : Below w.heap.size w w') : QOf w' v x k := by
  obtain ⟨b, n, d, h1, h2⟩ := h
  exact ⟨b, n, d, h1.later hb, h2⟩
theorem QOf.mono {w : World} {v : Value} {x : Rat} {k j : Nat} (h : QOf w v x k) (hk : k ≤ j) : QOf w v x j := by
  obtain ⟨b, n, d, h1, h2, h3, h4, h5⟩ := h
  have : (1000000000 : Nat) ^ k ≤ 1000000000 ^ j := Nat.pow_le_pow_right (by decide) hk
  exact ⟨b, n, d, h1, h2, h3, by omega, by omega⟩
theorem QOf.form {w : World} {v : Value} {x : Rat} {k : Nat} (h : QOf w v x k) : ∃ b a1 l1 c1 a2 l2 c2, v = .agg #[.bool b, .slice a1 l1 c1, .slice a2 l2 c2] := by
  obtain ⟨b, n, d, h1, _⟩ := h
  obtain ⟨a1, l1, c1, a2, l2, c2, rfl, _, _⟩ := h1.form
  exact ⟨b, a1, l1, c1, a2, l2, c2, rfl⟩

theorem qadd (x y : Value) (p q : Rat) (k : Nat) (w : World) (hx : QOf w x p k) (hy : QOf w y q k) (hk : k + k + k ≤ 100000) :
    Calls Tryz.prog 42 #[x, y] w fun r w' => ∃ v, r = .returned v ∧ QOf w' v (p + q) (k + k + k) ∧ Below w.heap.size w w' := by
  obtain ⟨b, n, d, h1, h2, rfl, h4, h5⟩ := hx
  obtain ⟨c, m, e, i1, i2, rfl, i4, i5⟩ := hy
  refine (fadd_any x y b c n d m e k w h1 i1 h2 i2 hk h4 h5 i4 i5 (divAns _ hk) (gcdAns _ hk)).mono ?_
  rintro r w' ⟨v, b', n', d', rfl, j1, j2, j3, j4, j5, hb⟩
  exact ⟨v, rfl, ⟨b', n', d', j1, j2, j3, j4, j5⟩, hb⟩
theorem qneg (x : Value) (p : Rat) (k : Nat) (w : World) (hx : QOf w x p k) :
    Calls Tryz.prog 72 #[x] w fun r w' => ∃ v, r = .returned v ∧ QOf w' v (-p) k ∧ Below w.heap.size w w' := by
  obtain ⟨b, n, d, h1, h2, rfl, h4, h5⟩ := hx
  refine (neg_any x b n d w h1).mono ?_
  rintro r w' ⟨v, rfl, j1, hb⟩
  exact ⟨v, rfl, ⟨_, _, _, j1, (Cub.neg_low h2).1, (Cub.neg_low h2).2, h4, h5⟩, hb⟩
theorem qsign (x : Value) (p : Rat) (k : Nat) (w : World) (hx : QOf w x p k) :
    Calls Tryz.prog 22 #[x] w fun r w' => r = .returned (.int .i64 (Cub.cmpQ p 0)) ∧ Below w.heap.size w w' := by
  obtain ⟨b, n, d, h1, h2, rfl, h4, h5⟩ := hx
  rw [← signI_val h2]
  exact sign_any x b n d w h1
theorem qinv (x : Value) (p : Rat) (k : Nat) (w : World) (hx : QOf w x p k) (hp : p ≠ 0) :
    Calls Tryz.prog 75 #[x] w fun r w' => ∃ v, r = .returned v ∧ QOf w' v p⁻¹ k ∧ Below w.heap.size w w' := by
  obtain ⟨b, n, d, h1, h2, rfl, h4, h5⟩ := hx
  have hn : n ≠ 0 := by intro h; subst h; exact hp (Cub.valQ_zero _ _)
  refine (inv_any x b n d w h1).mono ?_
  rintro r w' ⟨v, rfl, j1, hb⟩
  exact ⟨v, rfl, ⟨_, _, _, j1, (Cub.inv_low h2 hn).1, (Cub.inv_low h2 hn).2, h5, h4⟩, hb⟩
/-- rat.times of a slice of two. -/
theorem qtimes (B : Nat) (b c : Bool) (a1 a2 a3 a4 : Option Addr) (l1 d1 l2 d2 l3 d3 l4 d4 : Nat) (p q : Rat) (k : Nat) (w : World)
    (c0 : w.cell? ⟨B, 0, none⟩ = some (.bool b)) (c1 : w.cell? ⟨B, 1, none⟩ = some (.slice a1 l1 d1)) (c2 : w.cell? ⟨B, 2, none⟩ = some (.slice a2 l2 d2)) (c3 : w.cell? ⟨B, 3, none⟩ = some (.bool c)) (c4 : w.cell? ⟨B, 4, none⟩ = some (.slice a3 l3 d3)) (c5 : w.cell? ⟨B, 5, none⟩ = some (.slice a4 l4 d4))
    (hx : QOf w (.agg #[.bool b, .slice a1 l1 d1, .slice a2 l2 d2]) p k) (hy : QOf w (.agg #[.bool c, .slice a3 l3 d3, .slice a4 l4 d4]) q k) (hk : k + k ≤ 100000) :
    Calls Tryz.prog 74 #[.slice (some ⟨B, 0, none⟩) 2 2] w fun r w' => ∃ v, r = .returned v ∧ QOf w' v (p * q) (k + k) ∧ Below w.heap.size w w' := by
  obtain ⟨b', n, d, ⟨s, t, e1, h1, h1'⟩, h2, rfl, h4, h5⟩ := hx
  obtain ⟨c', m, e, ⟨s', t', e2, i1, i1'⟩, i2, rfl, i4, i5⟩ := hy
  simp only [Value.agg.injEq, Array.mk.injEq, List.cons.injEq, Value.bool.injEq, and_true] at e1 e2
  obtain ⟨rfl, rfl, rfl⟩ := e1
  obtain ⟨rfl, rfl, rfl⟩ := e2
  refine (times_any B b c a1 a2 a3 a4 l1 d1 l2 d2 l3 d3 l4 d4 n d m e k w c0 c1 c2 c3 c4 c5 h1 h1' i1 i1' hk h4 h5 i4 i5 h2.pos i2.pos (divAns k (by omega)) (gcdAns k (by omega))).mono ?_
  rintro r w' ⟨v, rfl, j1, hb⟩
  obtain ⟨o1, o2⟩ := Cub.mul_low h2 i2
  have eb : (b != c && decide (n / n.gcd e * (m / m.gcd d) ≠ 0)) = (!(b == c) && !(n / n.gcd e * (m / m.gcd d) == 0)) := by
    rw [show (b != c) = !(b == c) from rfl]
    by_cases h0 : n / n.gcd e * (m / m.gcd d) = 0
    · simp [h0]
    · rw [show (n / n.gcd e * (m / m.gcd d) == 0) = false from by rw [beq_eq_false_iff_ne]; exact h0]; simp [h0]
  rw [eb] at o1 o2
  have z1 := Nat.div_le_self n (n.gcd e)
  have z2 := Nat.div_le_self m (m.gcd d)
  have z3 := Nat.div_le_self d (m.gcd d)
  have z4 := Nat.div_le_self e (n.gcd e)
  exact ⟨v, rfl, ⟨_, _, _, j1, o1, o2, by rw [Nat.pow_add]; exact Nat.mul_lt_mul'' (by omega) (by omega), by rw [Nat.pow_add]; exact Nat.mul_lt_mul'' (by omega) (by omega)⟩, hb⟩
end Go.Proofs.YtimihoonnglniaaGreatDoor

namespace Go.Proofs.YtimihoonnglniaaGreatDoor
open Go.RowKit

theorem QOf.stored {W : World} {g : Nat} {b b' : Bool} {a1 a2 : Option Addr} {l1 c1 l2 c2 : Nat} (h : FBox W g (.bool b) (.slice a1 l1 c1) (.slice a2 l2 c2)) {a3 a4 : Option Addr} {l3 c3 l4 c4 : Nat} {x : Rat} {k : Nat}
    (hv : QOf W (.agg #[.bool b', .slice a3 l3 c3, .slice a4 l4 c4]) x k) : QOf (store3 W g (.bool b') (.slice a3 l3 c3) (.slice a4 l4 c4)) (.agg #[.bool b', .slice a3 l3 c3, .slice a4 l4 c4]) x k := by
  obtain ⟨b0, n, d, ⟨s, t, e, h1, h1'⟩, h2⟩ := hv
  exact ⟨b0, n, d, ⟨s, t, e, h.big _ _ _ h1, h.big _ _ _ h1'⟩, h2⟩

set_option maxRecDepth 100000 in
set_option maxHeartbeats 2000000 in
theorem qmul (x y : Value) (p q : Rat) (k : Nat) (w : World) (hx : QOf w x p k) (hy : QOf w y q k) (hk : k + k ≤ 100000) :
    Calls Tryz.prog 50 #[x, y] w fun r w' => ∃ v, r = .returned v ∧ QOf w' v (p * q) (k + k) ∧ Below w.heap.size w w' := by
  obtain ⟨b, a1, l1, c1, a2, l2, c2, rfl⟩ := hx.form
  obtain ⟨c, a3, l3, c3, a4, l4, c4, rfl⟩ := hy.form
  obtain ⟨V, hV⟩ : ∃ V, V = (((w.alloc (.cells #[.bool b, .slice a1 l1 c1, .slice a2 l2 c2] 45)).alloc (.cells #[.bool c, .slice a3 l3 c3, .slice a4 l4 c4] 45)).alloc (.cells #[.bool false, .slice none 0 0, .slice none 0 0] 45)) := ⟨_, rfl⟩
  have HS : Hid (AS w V (.bool b) (.slice a1 l1 c1) (.slice a2 l2 c2) (.bool c) (.slice a3 l3 c3) (.slice a4 l4 c4) []) := by rw [hV]; exact AS.first _ _ _ _ _ _ _
  have HX := hide (hx.later (unhide HS).below)
  have HY := hide (hy.later (unhide HS).below)
  have HV := hide hV
  have HK := hide hk
  have HT : Hid (Calls Tryz.prog 74 #[.slice (some ⟨V.heap.size, 0, none⟩) 2 2] (V.alloc (.cells #[.bool b, .slice a1 l1 c1, .slice a2 l2 c2, .bool c, .slice a3 l3 c3, .slice a4 l4 c4] 45)) fun r w' => ∃ v, r = .returned v ∧ QOf w' v (p * q) (k + k) ∧ Below V.heap.size V w') := by
    have hb : Below V.heap.size V (V.alloc (.cells #[.bool b, .slice a1 l1 c1, .slice a2 l2 c2, .bool c, .slice a3 l3 c3, .slice a4 l4 c4] 45)) := (Below.refl _ _).alloc (Nat.le_refl _) _
    refine (qtimes V.heap.size b c a1 a2 a3 a4 l1 c1 l2 c2 l3 c3 l4 c4 p q k _ (by simp [go_sem]) (by simp [go_sem]) (by simp [go_sem]) (by simp [go_sem]) (by simp [go_sem]) (by simp [go_sem]) ((unhide HX).later hb) ((unhide HY).later hb) hk).mono ?_
    rintro r w' ⟨v, rfl, hv, hb'⟩
    exact ⟨v, rfl, hv, hb.trans (hb'.mono hb.size)⟩
  clear hx hy hk hV
  go_enter Tryz.func50, Tryz.ntmps50
  go_upto_region 1 with fail
  rw [← unhide HV]
  clear HV
  have t0 := (unhide HS).x.c0; have t1 := (unhide HS).x.c1; have t2 := (unhide HS).x.c2; have t3 := (unhide HS).y.c0; have t4 := (unhide HS).y.c1; have t5 := (unhide HS).y.c2
  go_wp2_with (go_at_call 74; go_must (refine (unhide HT).mono ?_; rintro e w1 ⟨v1, rfl, hv1, hb1⟩; obtain ⟨b1, i1, i2, i3, i4, i5, i6, rfl⟩ := hv1.form; have HS1 := hide ((unhide HS).later hb1); have HV1 := hide hv1; clear hv1 hb1 t0 t1 t2 t3 t4 t5; have r0 := (unhide HS1).r.c0; have r1 := (unhide HS1).r.c1; have r2 := (unhide HS1).r.c2; have rf0 := (unhide HS1).r.f0; have rf1 := (unhide HS1).r.f1; have rf2 := (unhide HS1).r.f2))
  have hS := (unhide HS1).r.store (.bool b1) (.slice i1 i2 i3) (.slice i4 i5 i6)
  have hb : Below w.heap.size w (store3 w1 (w.heap.size + 1 + 1) (.bool b1) (.slice i1 i2 i3) (.slice i4 i5 i6)) := below_store3 (unhide HS1).below (by omega) _ _ _
  have u0 := hS.c0; have u1 := hS.c1; have u2 := hS.c2
  exact bodyPost_ret (v := .agg #[.bool b1, .slice i1 i2 i3, .slice i4 i5 i6]) (w := store3 w1 (w.heap.size + 1 + 1) (.bool b1) (.slice i1 i2 i3) (.slice i4 i5 i6)) (by simp [results, Tryz.results50, go_sem, u0, u1, u2]) rfl ⟨_, rfl, (unhide HV1).stored (unhide HS1).r, hb⟩

set_option maxRecDepth 100000 in
set_option maxHeartbeats 2000000 in
theorem qsub (x y : Value) (p q : Rat) (k : Nat) (w : World) (hx : QOf w x p k) (hy : QOf w y q k) (hk : k + k + k ≤ 100000) :
    Calls Tryz.prog 43 #[x, y] w fun r w' => ∃ v, r = .returned v ∧ QOf w' v (p + -q) (k + k + k) ∧ Below w.heap.size w w' := by
  obtain ⟨b, a1, l1, c1, a2, l2, c2, rfl⟩ := hx.form
  obtain ⟨c, a3, l3, c3, a4, l4, c4, rfl⟩ := hy.form
  obtain ⟨V, hV⟩ : ∃ V, V = (((w.alloc (.cells #[.bool b, .slice a1 l1 c1, .slice a2 l2 c2] 45)).alloc (.cells #[.bool c, .slice a3 l3 c3, .slice a4 l4 c4] 45)).alloc (.cells #[.bool false, .slice none 0 0, .slice none 0 0] 45)) := ⟨_, rfl⟩
  have HS : Hid (AS w V (.bool b) (.slice a1 l1 c1) (.slice a2 l2 c2) (.bool c) (.slice a3 l3 c3) (.slice a4 l4 c4) []) := by rw [hV]; exact AS.first _ _ _ _ _ _ _
  have HX := hide (hx.later (unhide HS).below)
  have HY := hide (hy.later (unhide HS).below)
  have HV := hide hV
  have HK := hide hk
  have HC : Hid (∀ w', Below V.heap.size V w' → (w'.cell? ⟨w.heap.size, 0, none⟩ = some (.bool b) ∧ w'.cell? ⟨w.heap.size, 1, none⟩ = some (.slice a1 l1 c1) ∧ w'.cell? ⟨w.heap.size, 2, none⟩ = some (.slice a2 l2 c2) ∧ w'.cell? ⟨w.heap.size + 1, 0, none⟩ = some (.bool c) ∧ w'.cell? ⟨w.heap.size + 1, 1, none⟩ = some (.slice a3 l3 c3) ∧ w'.cell? ⟨w.heap.size + 1, 2, none⟩ = some (.slice a4 l4 c4)) ∧ (w'.cell? ⟨w.heap.size + 1 + 1, 0, none⟩ = some (.bool false) ∧ w'.cell? ⟨w.heap.size + 1 + 1, 1, none⟩ = some (.slice none 0 0) ∧ w'.cell? ⟨w.heap.size + 1 + 1, 2, none⟩ = some (.slice none 0 0) ∧ w'.frozen? ⟨w.heap.size + 1 + 1, 0, none⟩ = false ∧ w'.frozen? ⟨w.heap.size + 1 + 1, 1, none⟩ = false ∧ w'.frozen? ⟨w.heap.size + 1 + 1, 2, none⟩ = false) ∧ w.heap.size < w'.heap.size ∧ w.heap.size + 1 < w'.heap.size ∧ w.heap.size + 1 + 1 < w'.heap.size) := fun U hb => by
    have s := (unhide HS).later hb
    exact ⟨⟨s.x.c0, s.x.c1, s.x.c2, s.y.c0, s.y.c1, s.y.c2⟩, ⟨s.r.c0, s.r.c1, s.r.c2, s.r.f0, s.r.f1, s.r.f2⟩, s.x.lt, s.y.lt, s.r.lt⟩
  clear hx hy hk hV
  go_enter Tryz.func43, Tryz.ntmps43
  go_upto_region 1 with fail
  rw [← unhide HV]
  clear HV
  obtain ⟨⟨t0, t1, t2, t3, t4, t5⟩, _⟩ := unhide HC V (Below.refl _ _)
  go_region_held3 (fun w' => w'.cell? ⟨w.heap.size, 0, none⟩ = some (.bool b) ∧ w'.cell? ⟨w.heap.size, 1, none⟩ = some (.slice a1 l1 c1) ∧ w'.cell? ⟨w.heap.size, 2, none⟩ = some (.slice a2 l2 c2) ∧ w'.cell? ⟨w.heap.size + 1, 0, none⟩ = some (.bool c) ∧ w'.cell? ⟨w.heap.size + 1, 1, none⟩ = some (.slice a3 l3 c3) ∧ w'.cell? ⟨w.heap.size + 1, 2, none⟩ = some (.slice a4 l4 c4)) (first | assumption | (refine ⟨?_, ?_, ?_, ?_, ?_, ?_⟩ <;> first | assumption | (simp [go_sem, *]; done) | (rw [World.cell?_setCell_other _ _ _ _ (by simp), World.cell?_setCell_other _ _ _ _ (by simp), World.cell?_setCell_other _ _ _ _ (by simp)]; assumption)) | (simp [go_sem, *]; done)) ((first
    | (go_at_call 72; go_must (refine (qneg _ q k _ ((unhide HY).later ((Below.refl _ _).drew))).mono ?_; rintro e wa ⟨va, rfl, hva, hba⟩; have HVA := hide hva; have HCA := hide (((Below.refl V.heap.size V).drew).trans hba); clear hva hba t0 t1 t2 t3 t4 t5; obtain ⟨⟨t0, t1, t2, t3, t4, t5⟩, _⟩ := unhide HC wa (unhide HCA)))
    | (go_at_call 42; go_must (refine (qadd _ _ p (-q) k _ ((unhide HX).later (unhide HCA)) (unhide HVA) (unhide HK)).mono ?_; rintro e wb ⟨vb, rfl, hvb, hbb⟩; obtain ⟨b1, i1, i2, i3, i4, i5, i6, rfl⟩ := hvb.form; have HVB := hide hvb; have HCB := hide ((unhide HCA).trans (hbb.mono (unhide HCA).size)); clear hvb hbb t0 t1 t2 t3 t4 t5; obtain ⟨⟨t0, t1, t2, t3, t4, t5⟩, ⟨r0, r1, r2, rf0, rf1, rf2⟩, _⟩ := unhide HC wb (unhide HCB)))))
  have HS1 := hide ((unhide HS).later (unhide HCB))
  clear r0 r1 r2 rf0 rf1 rf2 t0 t1 t2 t3 t4 t5
  have hS := (unhide HS1).r.store (.bool b1) (.slice i1 i2 i3) (.slice i4 i5 i6)
  have hb : Below w.heap.size w (store3 wb (w.heap.size + 1 + 1) (.bool b1) (.slice i1 i2 i3) (.slice i4 i5 i6)) := below_store3 (unhide HS1).below (by omega) _ _ _
  obtain ⟨V9, hV9⟩ : ∃ V9, V9 = store3 wb (w.heap.size + 1 + 1) (.bool b1) (.slice i1 i2 i3) (.slice i4 i5 i6) := ⟨_, rfl⟩
  have hV9' : V9 = ((wb.setCell ⟨w.heap.size + 1 + 1, 0, none⟩ (.bool b1)).setCell ⟨w.heap.size + 1 + 1, 1, none⟩ (.slice i1 i2 i3)).setCell ⟨w.heap.size + 1 + 1, 2, none⟩ (.slice i4 i5 i6) := hV9
  have HQ9 := hide ((unhide HVB).stored (unhide HS1).r)
  have u0 := hS.c0; have u1 := hS.c1; have u2 := hS.c2
  rw [← hV9] at u0 u1 u2 HQ9 hb
  rw [← hV9']
  have HB9 := hide hb
  clear hV9 hV9' hS hb
  go_wp2_with fail
  exact bodyPost_ret (v := .agg #[.bool b1, .slice i1 i2 i3, .slice i4 i5 i6]) (by simp [results, Tryz.results43, go_sem, u0, u1, u2]) rfl ⟨_, rfl, unhide HQ9, unhide HB9⟩

set_option maxRecDepth 100000 in
set_option maxHeartbeats 2000000 in
theorem qquo (x y : Value) (p q : Rat) (k : Nat) (w : World) (hx : QOf w x p k) (hy : QOf w y q k) (hk : k + k ≤ 100000) (hq : q ≠ 0) :
    Calls Tryz.prog 51 #[x, y] w fun r w' => ∃ v, r = .returned v ∧ QOf w' v (p * q⁻¹) (k + k) ∧ Below w.heap.size w w' := by
  obtain ⟨b, a1, l1, c1, a2, l2, c2, rfl⟩ := hx.form
  obtain ⟨c, a3, l3, c3, a4, l4, c4, rfl⟩ := hy.form
  obtain ⟨V, hV⟩ : ∃ V, V = (((w.alloc (.cells #[.bool b, .slice a1 l1 c1, .slice a2 l2 c2] 45)).alloc (.cells #[.bool c, .slice a3 l3 c3, .slice a4 l4 c4] 45)).alloc (.cells #[.bool false, .slice none 0 0, .slice none 0 0] 45)) := ⟨_, rfl⟩
  have HS : Hid (AS w V (.bool b) (.slice a1 l1 c1) (.slice a2 l2 c2) (.bool c) (.slice a3 l3 c3) (.slice a4 l4 c4) []) := by rw [hV]; exact AS.first _ _ _ _ _ _ _
  have HX := hide (hx.later (unhide HS).below)
  have HY := hide (hy.later (unhide HS).below)
  have HV := hide hV
  have HK := hide hk
  have HC : Hid (∀ w', Below V.heap.size V w' → (w'.cell? ⟨w.heap.size, 0, none⟩ = some (.bool b) ∧ w'.cell? ⟨w.heap.size, 1, none⟩ = some (.slice a1 l1 c1) ∧ w'.cell? ⟨w.heap.size, 2, none⟩ = some (.slice a2 l2 c2) ∧ w'.cell? ⟨w.heap.size + 1, 0, none⟩ = some (.bool c) ∧ w'.cell? ⟨w.heap.size + 1, 1, none⟩ = some (.slice a3 l3 c3) ∧ w'.cell? ⟨w.heap.size + 1, 2, none⟩ = some (.slice a4 l4 c4)) ∧ (w'.cell? ⟨w.heap.size + 1 + 1, 0, none⟩ = some (.bool false) ∧ w'.cell? ⟨w.heap.size + 1 + 1, 1, none⟩ = some (.slice none 0 0) ∧ w'.cell? ⟨w.heap.size + 1 + 1, 2, none⟩ = some (.slice none 0 0) ∧ w'.frozen? ⟨w.heap.size + 1 + 1, 0, none⟩ = false ∧ w'.frozen? ⟨w.heap.size + 1 + 1, 1, none⟩ = false ∧ w'.frozen? ⟨w.heap.size + 1 + 1, 2, none⟩ = false) ∧ w.heap.size < w'.heap.size ∧ w.heap.size + 1 < w'.heap.size ∧ w.heap.size + 1 + 1 < w'.heap.size) := fun U hb => by
    have s := (unhide HS).later hb
    exact ⟨⟨s.x.c0, s.x.c1, s.x.c2, s.y.c0, s.y.c1, s.y.c2⟩, ⟨s.r.c0, s.r.c1, s.r.c2, s.r.f0, s.r.f1, s.r.f2⟩, s.x.lt, s.y.lt, s.r.lt⟩
  have HQ0 := hide hq
  have HT : Hid (∀ W v1 (j1 j2 j3 : Nat) (o1 : Option Addr) (o2 : Option Addr) (j4 : Nat) (bq : Bool), Below V.heap.size V W → v1 = .agg #[.bool bq, .slice o1 j1 j2, .slice o2 j3 j4] → QOf W v1 q⁻¹ k → Calls Tryz.prog 74 #[.slice (some ⟨W.heap.size, 0, none⟩) 2 2] (W.alloc (.cells #[.bool b, .slice a1 l1 c1, .slice a2 l2 c2, .bool bq, .slice o1 j1 j2, .slice o2 j3 j4] 45)) fun r w' => ∃ v, r = .returned v ∧ QOf w' v (p * q⁻¹) (k + k) ∧ Below W.heap.size W w') := by
    intro W v1 j1 j2 j3 o1 o2 j4 bq hbW hv1 hq1
    subst hv1
    have hb : Below W.heap.size W (W.alloc (.cells #[.bool b, .slice a1 l1 c1, .slice a2 l2 c2, .bool bq, .slice o1 j1 j2, .slice o2 j3 j4] 45)) := (Below.refl _ _).alloc (Nat.le_refl _) _
    refine (qtimes W.heap.size b bq a1 a2 o1 o2 l1 c1 l2 c2 j1 j2 j3 j4 p q⁻¹ k _ (by simp [go_sem]) (by simp [go_sem]) (by simp [go_sem]) (by simp [go_sem]) (by simp [go_sem]) (by simp [go_sem]) (((unhide HX).later hbW).later hb) (hq1.later hb) hk).mono ?_
    rintro r w' ⟨v, rfl, hv, hb'⟩
    exact ⟨v, rfl, hv, hb.trans (hb'.mono hb.size)⟩
  clear hx hy hk hV hq
  go_enter Tryz.func51, Tryz.ntmps51
  go_upto_region 1 with fail
  rw [← unhide HV]
  clear HV
  obtain ⟨⟨t0, t1, t2, t3, t4, t5⟩, _⟩ := unhide HC V (Below.refl _ _)
  go_region_held3 (fun w' => w'.cell? ⟨w.heap.size, 0, none⟩ = some (.bool b) ∧ w'.cell? ⟨w.heap.size, 1, none⟩ = some (.slice a1 l1 c1) ∧ w'.cell? ⟨w.heap.size, 2, none⟩ = some (.slice a2 l2 c2) ∧ w'.cell? ⟨w.heap.size + 1, 0, none⟩ = some (.bool c) ∧ w'.cell? ⟨w.heap.size + 1, 1, none⟩ = some (.slice a3 l3 c3) ∧ w'.cell? ⟨w.heap.size + 1, 2, none⟩ = some (.slice a4 l4 c4)) (first | assumption | (refine ⟨?_, ?_, ?_, ?_, ?_, ?_⟩ <;> first | assumption | (simp [go_sem, *]; done) | (rw [World.cell?_setCell_other _ _ _ _ (by simp), World.cell?_setCell_other _ _ _ _ (by simp), World.cell?_setCell_other _ _ _ _ (by simp)]; assumption)) | (simp [go_sem, *]; done)) ((first
    | (go_at_call 75; go_must (refine (qinv _ q k _ ((unhide HY).later ((Below.refl _ _).drew)) (unhide HQ0)).mono ?_; rintro e wa ⟨va, rfl, hva, hba⟩; obtain ⟨bq, o1, j1, j2, o2, j3, j4, rfl⟩ := hva.form; have HVA := hide hva; have HCA := hide (((Below.refl V.heap.size V).drew).trans hba); clear hva hba t0 t1 t2 t3 t4 t5; obtain ⟨⟨t0, t1, t2, t3, t4, t5⟩, _, z1, z2, z3⟩ := unhide HC wa (unhide HCA)))
    | (go_at_call 74; go_must (refine (unhide HT wa _ _ _ _ _ _ _ _ (unhide HCA) rfl (unhide HVA)).mono ?_; rintro e wb ⟨vb, rfl, hvb, hbb⟩; obtain ⟨b1, i1, i2, i3, i4, i5, i6, rfl⟩ := hvb.form; have HVB := hide hvb; have HCB := hide ((unhide HCA).trans (hbb.mono (unhide HCA).size)); clear hvb hbb t0 t1 t2 t3 t4 t5 z1 z2 z3; obtain ⟨⟨t0, t1, t2, t3, t4, t5⟩, ⟨r0, r1, r2, rf0, rf1, rf2⟩, _⟩ := unhide HC wb (unhide HCB)))))
  have HS1 := hide ((unhide HS).later (unhide HCB))
  clear r0 r1 r2 rf0 rf1 rf2 t0 t1 t2 t3 t4 t5
  have hS := (unhide HS1).r.store (.bool b1) (.slice i1 i2 i3) (.slice i4 i5 i6)
  have hb : Below w.heap.size w (store3 wb (w.heap.size + 1 + 1) (.bool b1) (.slice i1 i2 i3) (.slice i4 i5 i6)) := below_store3 (unhide HS1).below (by omega) _ _ _
  obtain ⟨V9, hV9⟩ : ∃ V9, V9 = store3 wb (w.heap.size + 1 + 1) (.bool b1) (.slice i1 i2 i3) (.slice i4 i5 i6) := ⟨_, rfl⟩
  have hV9' : V9 = ((wb.setCell ⟨w.heap.size + 1 + 1, 0, none⟩ (.bool b1)).setCell ⟨w.heap.size + 1 + 1, 1, none⟩ (.slice i1 i2 i3)).setCell ⟨w.heap.size + 1 + 1, 2, none⟩ (.slice i4 i5 i6) := hV9
  have HQ9 := hide ((unhide HVB).stored (unhide HS1).r)
  have u0 := hS.c0; have u1 := hS.c1; have u2 := hS.c2
  rw [← hV9] at u0 u1 u2 HQ9 hb
  rw [← hV9']
  have HB9 := hide hb
  clear hV9 hV9' hS hb
  go_wp2_with fail
  exact bodyPost_ret (v := .agg #[.bool b1, .slice i1 i2 i3, .slice i4 i5 i6]) (by simp [results, Tryz.results51, go_sem, u0, u1, u2]) rfl ⟨_, rfl, unhide HQ9, unhide HB9⟩
end Go.Proofs.YtimihoonnglniaaGreatDoor

namespace Go.Proofs.YtimihoonnglniaaGreatDoor
open Go.RowKit

/-- Does a - stand ahead? What stands behind it. -/
def isNeg (s : ByteArray) : Bool := s.data.toList.head? == some 45
def digT (s : ByteArray) : ByteArray := if isNeg s then ⟨s.data.toList.tail.toArray⟩ else s
/-- The text of a size with its sign. -/
def sT (b : Bool) (n : Nat) : ByteArray := if b then ⟨#[45]⟩ ++ tb n else tb n
theorem hasPre (l : List UInt8) : Lib.hasPrefix l [45] = (l.head? == some 45) := by
  cases l with
  | nil => rfl
  | cons a t =>
    simp [Lib.hasPrefix, List.isPrefixOf]
    rw [Bool.eq_iff_iff]
    simp
    exact eq_comm
theorem trimPre (l : List UInt8) : Lib.trimPrefix l [45] = if (l.head? == some 45) = true then l.tail else l := by
  unfold Lib.trimPrefix
  rw [hasPre]
  split <;> cases l <;> simp_all
theorem digT_list (s : ByteArray) : (digT s).data.toList = if isNeg s = true then s.data.toList.tail else s.data.toList := by
  unfold digT; split <;> rfl
theorem bytes_ext {s t : ByteArray} (h : s.data.toList = t.data.toList) : s = t := by
  apply ByteArray.ext; exact Array.ext' h
theorem cut_digT (s : ByteArray) : (⟨(Lib.trimPrefix s.data.toList [45]).toArray⟩ : ByteArray) = digT s := by
  apply bytes_ext
  rw [digT_list, mk_list, trimPre]
  rfl
theorem cutSign_any (s : ByteArray) (w : World) :
    Calls Tryz.prog 58 #[.string s] w fun e w' => e = .returned (.tuple #[.bool (isNeg s), .string (digT s)]) ∧ w' = w := by
  have H := hide (Tryz.strings_CutPrefix s ⟨#[45]⟩ w)
  have e1 : Lib.hasPrefix s.data.toList (⟨#[45]⟩ : ByteArray).data.toList = isNeg s := hasPre _
  have e2 : (⟨(Lib.trimPrefix s.data.toList (⟨#[45]⟩ : ByteArray).data.toList).toArray⟩ : ByteArray) = digT s := cut_digT s
  rw [e1, e2] at H
  clear e1 e2
  generalize isNeg s = b at *
  generalize digT s = t at *
  go_enter Tryz.func58, Tryz.ntmps58
  go_wp2_with (go_at_call 79; go_must (refine (unhide H).mono ?_; rintro e w1 ⟨rfl, rfl⟩))
  exact bodyPost_ret (v := .tuple #[.bool b, .string t]) (by simp [results, Tryz.results58, go_sem]) rfl ⟨rfl, rfl⟩
theorem signed_any (b : Bool) (s : ByteArray) (w : World) (hs : s.size ≤ 1000000) :
    Calls Tryz.prog 46 #[.bool b, .string s] w fun e w' => e = .returned (.string (if b then ⟨#[45]⟩ ++ s else s)) ∧ w' = w := by
  cases b with
  | true =>
    have hl : (⟨#[45]⟩ : ByteArray).size = 1 := rfl
    go_enter Tryz.func46, Tryz.ntmps46
    go_wp2
    go_ret
    exact ⟨rfl, rfl⟩
  | false =>
    go_enter Tryz.func46, Tryz.ntmps46
    go_wp2
    go_ret
    exact ⟨rfl, rfl⟩
theorem tb_digs (n : Nat) (h : n < 10 ^ 600) : Cub.digs (tb n).data.toList ∧ (tb n).size ≤ 600 := right_digs (tb_right n h).1
theorem neg_tb (n : Nat) (h : n < 10 ^ 600) : isNeg (tb n) = false := by
  have hd := (tb_digs n h).1
  unfold isNeg
  cases e : (tb n).data.toList with
  | nil => rfl
  | cons a t =>
    rw [e] at hd
    have := hd a (by simp)
    simp only [List.head?_cons]
    rw [show (some a == some (45 : UInt8)) = (a == 45) from rfl]
    rw [beq_eq_false_iff_ne]
    intro e45
    subst e45
    revert this
    decide
theorem sT_list (b : Bool) (n : Nat) : (sT b n).data.toList = if b = true then 45 :: (tb n).data.toList else (tb n).data.toList := by
  cases b
  · rfl
  · simp [sT]
theorem neg_sT (b : Bool) (n : Nat) (h : n < 10 ^ 600) : isNeg (sT b n) = b := by
  cases b
  · exact neg_tb n h
  · unfold isNeg; rw [sT_list]; rfl
theorem dig_sT (b : Bool) (n : Nat) (h : n < 10 ^ 600) : digT (sT b n) = tb n := by
  apply bytes_ext
  rw [digT_list, neg_sT b n h, sT_list]
  cases b <;> rfl
theorem sT_of (s : ByteArray) (n : Nat) (h : digT s = tb n) : s = sT (isNeg s) n := by
  apply bytes_ext
  rw [sT_list, ← h, digT_list]
  by_cases hn : isNeg s = true
  · rw [if_pos hn, if_pos hn]
    unfold isNeg at hn
    cases e : s.data.toList with
    | nil => rw [e] at hn; simp at hn
    | cons a t => rw [e] at hn; simp at hn; rw [hn]; rfl
  · rw [if_neg hn, if_neg hn]
theorem sT_size (b : Bool) (n : Nat) (h : n < 10 ^ 600) : (sT b n).size ≤ 601 := by
  have h1 := (tb_digs n h).2
  have h2 := list_len (sT b n)
  have h3 := list_len (tb n)
  rw [sT_list] at h2
  cases b
  · simp at h2; omega
  · simp at h2; omega
/-- A right number: its two texts. -/
structure RT (num den : ByteArray) (b : Bool) (n d : Nat) : Prop where
  num : num = sT b n
  den : den = tb d
  hn : n < 10 ^ 600
  hd : d < 10 ^ 600
  low : Cub.Low b n d
def RightT (num den : ByteArray) : Prop := ∃ b n d, RT num den b n d
/-- When two texts are a right number. -/
theorem right_iff (num den : ByteArray) : RightT num den ↔ Cub.rightB (digT num).data.toList = true ∧ Cub.rightB den.data.toList = true ∧ ¬ (isNeg num = true ∧ val (digT num) = 0) ∧ val den ≠ 0 ∧ Nat.gcd (val (digT num)) (val den) = 1 := by
  constructor
  · rintro ⟨b, n, d, rfl, rfl, hn, hd, hl⟩
    rw [dig_sT b n hn, neg_sT b n hn]
    have v1 : val (tb n) = n := (tb_right n hn).2
    have v2 : val (tb d) = d := (tb_right d hd).2
    rw [v1, v2]
    exact ⟨(tb_right n hn).1, (tb_right d hd).1, fun h => hl.sign h.1 h.2, by have := hl.pos; omega, hl.cop⟩
  · rintro ⟨h1, h2, h3, h4, h5⟩
    obtain ⟨n, hn, e1⟩ := tb_of h1
    obtain ⟨d, hd, e2⟩ := tb_of h2
    have v1 : val (tb n) = n := (tb_right n hn).2
    have v2 : val (tb d) = d := (tb_right d hd).2
    rw [e1, v1] at h3 h5
    rw [e2, v2] at h4 h5
    exact ⟨isNeg num, n, d, sT_of num n e1, e2, hn, hd, ⟨by omega, h5, fun hb h0 => h3 ⟨hb, h0⟩⟩⟩
theorem tb_eq48 (n : Nat) (h : n < 10 ^ 600) : ((tb n).toList == [48]) = (n == 0) := by
  by_cases h0 : n = 0
  · subst h0; rw [Lib.toList_data, tb_list 0 h, dec_zero]; rfl
  · rw [beq_eq_false_iff_ne.2 h0, beq_eq_false_iff_ne]
    intro e
    rw [Lib.toList_data] at e
    have : val (tb n) = 0 := zero_val e
    rw [show val (tb n) = n from (tb_right n h).2] at this
    exact h0 this
end Go.Proofs.YtimihoonnglniaaGreatDoor

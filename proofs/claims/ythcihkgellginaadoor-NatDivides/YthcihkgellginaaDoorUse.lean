/- (steps).use: both numbers behind the steps. -/
import Derived.Test.YthcihkgellginaaDoorTogether
import Derived.Deep.RegionHeld3
namespace Go.Proofs.YthcihkgellginaaDoor
open Go.RowKit

/-- The steps, two numbers and two results in their boxes. -/
structure Use5 (w W : World) (A B C D : Int) (a b : Value) : Prop where
  s0 : W.cell? ⟨w.heap.size, 0, none⟩ = some (.int .i64 A)
  s1 : W.cell? ⟨w.heap.size, 1, none⟩ = some (.int .i64 B)
  s2 : W.cell? ⟨w.heap.size, 2, none⟩ = some (.int .i64 C)
  s3 : W.cell? ⟨w.heap.size, 3, none⟩ = some (.int .i64 D)
  c1 : W.cell? ⟨w.heap.size + 1, 0, none⟩ = some (a)
  c2 : W.cell? ⟨w.heap.size + 1 + 1, 0, none⟩ = some (b)
  r3 : W.cell? ⟨w.heap.size + 1 + 1 + 1, 0, none⟩ = some (.slice none 0 0)
  r4 : W.cell? ⟨w.heap.size + 1 + 1 + 1 + 1, 0, none⟩ = some (.slice none 0 0)
  f3 : W.frozen? ⟨w.heap.size + 1 + 1 + 1, 0, none⟩ = false
  f4 : W.frozen? ⟨w.heap.size + 1 + 1 + 1 + 1, 0, none⟩ = false
  below : Below w.heap.size w W
  size : w.heap.size + 5 ≤ W.heap.size
theorem Use5.on {w W V : World} {A B C D : Int} {a b : Value} (h : Use5 w W A B C D a b) (hb : Below W.heap.size W V) : Use5 w V A B C D a b := by
  have hz := h.size
  refine ⟨(hb.cell (p := ⟨w.heap.size, 0, none⟩) (show w.heap.size < W.heap.size by omega)).trans h.s0,
    (hb.cell (p := ⟨w.heap.size, 1, none⟩) (show w.heap.size < W.heap.size by omega)).trans h.s1,
    (hb.cell (p := ⟨w.heap.size, 2, none⟩) (show w.heap.size < W.heap.size by omega)).trans h.s2,
    (hb.cell (p := ⟨w.heap.size, 3, none⟩) (show w.heap.size < W.heap.size by omega)).trans h.s3,
    (hb.cell (p := ⟨w.heap.size + 1, 0, none⟩) (show w.heap.size + 1 < W.heap.size by omega)).trans h.c1,
    (hb.cell (p := ⟨w.heap.size + 1 + 1, 0, none⟩) (show w.heap.size + 1 + 1 < W.heap.size by omega)).trans h.c2,
    (hb.cell (p := ⟨w.heap.size + 1 + 1 + 1, 0, none⟩) (show w.heap.size + 1 + 1 + 1 < W.heap.size by omega)).trans h.r3,
    (hb.cell (p := ⟨w.heap.size + 1 + 1 + 1 + 1, 0, none⟩) (show w.heap.size + 1 + 1 + 1 + 1 < W.heap.size by omega)).trans h.r4,
    (hb.frozen (p := ⟨w.heap.size + 1 + 1 + 1, 0, none⟩) (show w.heap.size + 1 + 1 + 1 < W.heap.size by omega)).trans h.f3,
    (hb.frozen (p := ⟨w.heap.size + 1 + 1 + 1 + 1, 0, none⟩) (show w.heap.size + 1 + 1 + 1 + 1 < W.heap.size by omega)).trans h.f4,
    h.below.trans (hb.mono (by omega)),
    by have := hb.size; omega⟩
theorem Use5.done {w W : World} {A B C D : Int} {a b u v : Value} (h : Use5 w W A B C D a b) (n m : Nat) (hn : IsBig W (.agg #[u]) n) (hm : IsBig W (.agg #[v]) m) :
    IsBig ((W.setCell ⟨w.heap.size + 1 + 1 + 1, 0, none⟩ u).setCell ⟨w.heap.size + 1 + 1 + 1 + 1, 0, none⟩ v) (.agg #[u]) n ∧ IsBig ((W.setCell ⟨w.heap.size + 1 + 1 + 1, 0, none⟩ u).setCell ⟨w.heap.size + 1 + 1 + 1 + 1, 0, none⟩ v) (.agg #[v]) m ∧ Below w.heap.size w ((W.setCell ⟨w.heap.size + 1 + 1 + 1, 0, none⟩ u).setCell ⟨w.heap.size + 1 + 1 + 1 + 1, 0, none⟩ v) := by
  have hc : (W.setCell ⟨w.heap.size + 1 + 1 + 1, 0, none⟩ u).cell? ⟨w.heap.size + 1 + 1 + 1 + 1, 0, none⟩ = some (.slice none 0 0) := by
    rw [World.cell?_setCell_other _ _ _ _ (by simp)]; exact h.r4
  exact ⟨(hn.box _ h.r3 (no_int _ _ _)).box _ hc (no_int _ _ _), (hm.box _ h.r3 (no_int _ _ _)).box _ hc (no_int _ _ _), (h.below.setCell (by simp; omega) _).setCell (by simp; omega) _⟩

set_option maxRecDepth 100000 in
set_option maxHeartbeats 2000000 in
theorem use_any (x y : Value) (b c N M k : Nat) (A B C D : Int) (w : World) (hx : IsBig w x b) (hy : IsBig w y c) (hcb : c ≤ b) (hk : k ≤ 1000000) (hbk : b < 1000000000 ^ k)
    (hA : -1000000000 ≤ A ∧ A ≤ 1000000000) (hB : -1000000000 ≤ B ∧ B ≤ 1000000000) (hC : -1000000000 ≤ C ∧ C ≤ 1000000000) (hD : -1000000000 ≤ D ∧ D ≤ 1000000000) (hs : (0 ≤ A ∧ B ≤ 0) ∨ (A ≤ 0 ∧ 0 ≤ B)) (hs' : (0 ≤ C ∧ D ≤ 0) ∨ (C ≤ 0 ∧ 0 ≤ D))
    (hN : (N : Int) = A * (b : Int) + B * (c : Int)) (hNb : N ≤ b) (hM : (M : Int) = C * (b : Int) + D * (c : Int)) (hMb : M ≤ b) :
    Calls Tryd.prog 89 #[.agg #[.int .i64 A, .int .i64 B, .int .i64 C, .int .i64 D], x, y] w fun e w' => ∃ a1 n1 c1 a2 n2 c2, e = .returned (.tuple #[.agg #[.slice a1 n1 c1], .agg #[.slice a2 n2 c2]]) ∧ IsBig w' (.agg #[.slice a1 n1 c1]) N ∧ IsBig w' (.agg #[.slice a2 n2 c2]) M ∧ Below w.heap.size w w' := by
  have H1 := hide (fun W hx hy => together_any x y b c N k A B W hx hy hcb hk hbk hA hB hs hN hNb)
  have H2 := hide (fun W hx hy => together_any x y b c M k C D W hx hy hcb hk hbk hC hD hs' hM hMb)
  have HX := hide hx
  have HY := hide hy
  obtain ⟨ap, np, cp, rfl⟩ := hx.shape
  obtain ⟨aq, nq, cq, rfl⟩ := hy.shape
  clear hx hy hcb hk hbk hA hB hC hD hs hs' hN hNb hM hMb
  go_enter Tryd.func89, Tryd.ntmps89
  go_upto_region 1 with fail
  obtain ⟨W, hW⟩ : ∃ W, W = (((((w.alloc (.cells #[.int .i64 A, .int .i64 B, .int .i64 C, .int .i64 D] 93)).alloc (.cells #[.slice ap np cp] 60)).alloc (.cells #[.slice aq nq cq] 60)).alloc (.cells #[.slice none 0 0] 60)).alloc (.cells #[.slice none 0 0] 60)) := ⟨_, rfl⟩
  have HU : Hid (Use5 w W A B C D (.slice ap np cp) (.slice aq nq cq)) := by
    rw [hW]
    exact ⟨by simp [go_sem], by simp [go_sem], by simp [go_sem], by simp [go_sem], by simp [go_sem], by simp [go_sem], by simp [go_sem], by simp [go_sem], by simp [go_sem], by simp [go_sem], ((((((Below.refl _ _).alloc (Nat.le_refl _) _).alloc (by simp) _).alloc (by simp; omega) _).alloc (by simp; omega) _).alloc (by simp; omega) _), by simp⟩
  rw [← hW]
  clear hW
  have s0 := (unhide HU).s0; have s1 := (unhide HU).s1; have s2 := (unhide HU).s2; have s3 := (unhide HU).s3; have c1 := (unhide HU).c1; have c2 := (unhide HU).c2
  go_region_held3 (fun w' => w'.cell? ⟨w.heap.size, 0, none⟩ = some (.int .i64 A) ∧ w'.cell? ⟨w.heap.size, 1, none⟩ = some (.int .i64 B) ∧ w'.cell? ⟨w.heap.size, 2, none⟩ = some (.int .i64 C) ∧ w'.cell? ⟨w.heap.size, 3, none⟩ = some (.int .i64 D) ∧ w'.cell? ⟨w.heap.size + 1, 0, none⟩ = some (.slice ap np cp) ∧ w'.cell? ⟨w.heap.size + 1 + 1, 0, none⟩ = some (.slice aq nq cq)) (first | assumption | (refine ⟨?_, ?_, ?_, ?_, ?_, ?_⟩ <;> first | assumption | (simp [go_sem, *]; done)) | (simp [go_sem, *]; done))
    (first
      | (go_at_call_of 111 (Value.int IntKind.i64 A); refine (unhide H1 _ ((unhide HX).later ((unhide HU).below.trans ((Below.refl _ _).drew))) ((unhide HY).later ((unhide HU).below.trans ((Below.refl _ _).drew)))).mono ?_; rintro e wB ⟨a1, n1, k1, rfl, hr1, hbB⟩; have hbB' : Below W.heap.size W wB := (Below.refl _ _).drew.trans hbB; have HUB := hide ((unhide HU).on hbB'); have HR1 := hide hr1; clear hbB hbB' hr1; have t0 := (unhide HUB).s0; have t1 := (unhide HUB).s1; have t2 := (unhide HUB).s2; have t3 := (unhide HUB).s3; have d1 := (unhide HUB).c1; have d2 := (unhide HUB).c2)
      | (go_at_call_of 111 (Value.int IntKind.i64 C); refine (unhide H2 wB ((unhide HX).later (unhide HUB).below) ((unhide HY).later (unhide HUB).below)).mono ?_; rintro e wC ⟨a2, n2, k2, rfl, hr2, hbC⟩; have HUC := hide ((unhide HUB).on hbC); have HR2 := hide (And.intro ((unhide HR1).later hbC) hr2); clear hbC hr2; have v0 := (unhide HUC).s0; have v1 := (unhide HUC).s1; have v2 := (unhide HUC).s2; have v3 := (unhide HUC).s3; have g1 := (unhide HUC).c1; have g2 := (unhide HUC).c2; have r3 := (unhide HUC).r3; have r4 := (unhide HUC).r4; have f3 := (unhide HUC).f3; have f4 := (unhide HUC).f4))
  all_goals (
    obtain ⟨q1, q2, q3⟩ := (unhide HUC).done N M (unhide HR2).1 (unhide HR2).2
    go_wp2
    exact bodyPost_ret (v := .tuple #[.agg #[.slice a1 n1 k1], .agg #[.slice a2 n2 k2]]) (by simp [results, Tryd.results89, go_sem, r3, r4]) rfl ⟨_, _, _, _, _, _, rfl, q1, q2, q3⟩)
end Go.Proofs.YthcihkgellginaaDoor

/- What a row tells. -/
import Derived.Test.YtpoapffbpgnkpaaGreatDoorOfs
import Derived.Test.YtpoapffbpgnkpaaGreatDoorMade
import Derived.Test.YtpoapffbpgnkpaaGreatDoorGcdSmall
import Derived.Deep.RegionHeld3
import Derived.Test.YtpoapffbpgnkpaaGreatDoorBigOf
namespace Go.Proofs.YtpoapffbpgnkpaaGreatDoor
open Go.RowKit

theorem one_lt (E : Nat) (h : E = 600) : (1 : Nat) < 10 ^ E := Nat.one_lt_pow (by omega) (by decide)
theorem texts_low {n d : Nat} {x : Rat} (h : Cub.Low false n d) (e : x = Cub.valQ false n d) (hn : n < 10 ^ 600) (hd : d < 10 ^ 600) : numT x = tb n ∧ denT x = tb d ∧ errT x = 0 := by
  subst e
  obtain ⟨e1, e2, e3⟩ := Cub.low_is h
  have hs : Small (Cub.valQ false n d) := ⟨by rw [← e2]; exact hn, by rw [← e3]; exact hd⟩
  unfold numT denT errT
  rw [if_pos hs, if_pos hs, if_pos hs, ← e1, ← e2, ← e3]
  exact ⟨rfl, rfl, rfl⟩
theorem fac_pos (N k : Nat) (j : Int) (hj : j = (k : Int)) (h : N ^ k < 10 ^ 600) : numT (Cub.pw (Cub.valQ false N 1) j) = tb (N ^ k) ∧ denT (Cub.pw (Cub.valQ false N 1) j) = tb 1 ∧ errT (Cub.pw (Cub.valQ false N 1) j) = 0 := by
  have hl : Cub.Low false N 1 := ⟨by decide, Nat.gcd_one_right _, fun h => by cases h⟩
  obtain ⟨h1, h2⟩ := Cub.pow_low hl k
  simp only [Bool.false_and, Nat.one_pow] at h1 h2
  refine texts_low h1 ?_ h (one_lt 600 rfl)
  unfold Cub.pw
  rw [hj, if_neg (by omega), Int.toNat_natCast, h2]
theorem fac_neg (N k : Nat) (j : Int) (hN : 0 < N) (hk : 0 < k) (hj : j = -(k : Int)) (h : N ^ k < 10 ^ 600) : numT (Cub.pw (Cub.valQ false N 1) j) = tb 1 ∧ denT (Cub.pw (Cub.valQ false N 1) j) = tb (N ^ k) ∧ errT (Cub.pw (Cub.valQ false N 1) j) = 0 := by
  have hl : Cub.Low false N 1 := ⟨by decide, Nat.gcd_one_right _, fun h => by cases h⟩
  obtain ⟨i1, i2⟩ := Cub.inv_low hl (by omega)
  obtain ⟨h1, h2⟩ := Cub.pow_low i1 k
  simp only [Bool.false_and, Nat.one_pow] at h1 h2
  refine texts_low h1 ?_ (one_lt 600 rfl) h
  unfold Cub.pw
  rw [hj, if_pos (by omega), Int.neg_neg, Int.toNat_natCast, h2, i2]
theorem bel_al {U W V : World} {O : Obj} (h : Below U.heap.size U W) (hb : Below (W.alloc O).heap.size (W.alloc O) V) : Below U.heap.size U V :=
  (h.alloc h.size O).trans (hb.mono (h.alloc h.size O).size)
theorem bel_alD {W V : World} {O : Obj} (hb : Below (W.alloc O).drew.heap.size (W.alloc O).drew V) : Below W.heap.size W V :=
  have h0 := (Below.refl W.heap.size W).alloc (Nat.le_refl _) O
  have h : Below W.heap.size W (W.alloc O).drew := h0.trans ((Below.refl _ _).drew.mono h0.size)
  h.trans (hb.mono h.size)
theorem T2.past {W V : World} {x y : Value} (h : Below (W.alloc (.cells #[x, y] 26)).heap.size (W.alloc (.cells #[x, y] 26)) V) : T2 V W.heap.size x y :=
  (show T2 (W.alloc (.cells #[x, y] 26)) W.heap.size x y from ⟨by simp [go_sem], by simp [go_sem], by simp [go_sem], by simp [go_sem]⟩).later h
theorem T2.pastD {W V : World} {x y : Value} (h : Below (W.alloc (.cells #[x, y] 26)).drew.heap.size (W.alloc (.cells #[x, y] 26)).drew V) : T2 V W.heap.size x y :=
  ((show T2 (W.alloc (.cells #[x, y] 26)) W.heap.size x y from ⟨by simp [go_sem], by simp [go_sem], by simp [go_sem], by simp [go_sem]⟩).later ((Below.refl _ _).drew)).later h
theorem T2.otherP {W : World} {g : Nat} {x y : Value} (h : T2 W g x y) (k : Nat) (hp : k ≠ g) (u v : Value) : T2 (store2 W k u v) g x y := by
  unfold store2
  have e : ∀ (W : World) (o : Nat) (u : Value), T2 W g x y → T2 (W.setCell ⟨k, o, none⟩ u) g x y := fun W o u h =>
    ⟨by rw [World.cell?_setCell_other _ _ _ _ (by intro e; cases e; exact hp rfl)]; exact h.c0, by rw [World.cell?_setCell_other _ _ _ _ (by intro e; cases e; exact hp rfl)]; exact h.c1, by rw [World.frozen?_setCell]; exact h.f0, by rw [World.frozen?_setCell]; exact h.f1⟩
  exact e _ _ _ (e _ _ _ h)
set_option maxRecDepth 100000 in
set_option maxHeartbeats 4000000 in
theorem factor_walk (N : Nat) (j : Int) (on od fn fd : ByteArray) (w : World)
    (hof : ∀ W, Below w.heap.size w W → Calls Tryz.prog 85 #[.int .i64 (N : Int)] W fun r w' => r = .returned (.agg #[.string on, .string od]) ∧ Below W.heap.size W w')
    (hpw : ∀ W, Below w.heap.size w W → Calls Tryz.prog 84 #[.agg #[.string on, .string od], .int .i64 j] W fun r w' => r = .returned (.tuple #[.agg #[.string fn, .string fd], .int .i64 0]) ∧ Below W.heap.size W w') :
    Calls Tryz.prog 29 #[.agg #[.int .i64 (N : Int), .int .i64 j]] w fun r w' => r = .returned (.agg #[.string fn, .string fd]) ∧ Below w.heap.size w w' := by
  obtain ⟨V, hV⟩ : ∃ V, V = (w.alloc (.cells #[.int .i64 (N : Int), .int .i64 j] 66)).alloc (.cells #[.string ⟨#[]⟩, .string ⟨#[]⟩] 26) := ⟨_, rfl⟩
  have HP : Hid (T2 V w.heap.size (.int .i64 (N : Int)) (.int .i64 j)) := by rw [hV]; exact ⟨by simp [go_sem], by simp [go_sem], by simp [go_sem], by simp [go_sem]⟩
  have HR : Hid (T2 V (w.heap.size + 1) (.string ⟨#[]⟩) (.string ⟨#[]⟩)) := by rw [hV]; exact ⟨by simp [go_sem], by simp [go_sem], by simp [go_sem], by simp [go_sem]⟩
  have HB : Hid (Below w.heap.size w V) := by rw [hV]; exact ((Below.refl _ _).alloc (Nat.le_refl _) _).alloc (by simp) _
  have HV := hide hV
  have HOF := hide hof; have HPW := hide hpw
  clear hof hpw
  go_enter Tryz.func29, Tryz.ntmps29
  go_upto_region 1 with fail
  rw [← unhide HV]
  clear hV HV
  have t0 := (unhide HP).c0; have t1 := (unhide HP).c1
  have HC0 : Hid (Below V.heap.size V V.drew) := (Below.refl _ _).drew
  have HUP : Hid (∀ W, Below V.heap.size V W → Below w.heap.size w W) := fun W h => (unhide HB).trans (h.mono (unhide HB).size)
  have HUA : Hid (∀ W O, Below V.heap.size V W → Below w.heap.size w (W.alloc O)) := fun W O h => (unhide HB).trans ((h.alloc h.size O).mono (unhide HB).size)
  have HUD : Hid (∀ O, Below w.heap.size w (V.alloc O).drew) := fun O => ((unhide HB).alloc (unhide HB).size O).drew
  have hv0 := (unhide HP).lt
  go_region_held3 (fun w' => w'.cell? ⟨w.heap.size, 0, none⟩ = some (.int .i64 (N : Int)) ∧ w'.cell? ⟨w.heap.size, 1, none⟩ = some (.int .i64 j)) (first | assumption | (simp [go_sem, *]; done)) ((first
    | (go_at_call 85; go_must (refine (unhide HOF _ (by first | exact unhide HUP _ (unhide HC0) | exact unhide HUA _ _ (unhide HC0) | exact unhide HUD _)).mono ?_; rintro e wa ⟨rfl, hb⟩; have HCwa : Hid (Below V.heap.size V wa) := (by first | exact (unhide HC0).trans (hb.mono (unhide HC0).size) | exact bel_al (unhide HC0) hb | exact bel_alD hb); (first | (have HZa := hide ((unhide HZ0).later hb); clear u0 u1 uf0 uf1; have u0 := (unhide HZa).c0; have u1 := (unhide HZa).c1; have uf0 := (unhide HZa).f0; have uf1 := (unhide HZa).f1) | (have HZa : Hid (T2 wa V.heap.size (.string ⟨#[]⟩) (.string ⟨#[]⟩)) := (by first | exact T2.past hb | exact T2.pastD hb); have u0 := (unhide HZa).c0; have u1 := (unhide HZa).c1; have uf0 := (unhide HZa).f0; have uf1 := (unhide HZa).f1) | skip); clear hb t0 t1; have t0 := ((unhide HP).later (unhide HCwa)).c0; have t1 := ((unhide HP).later (unhide HCwa)).c1; have hvwa := ((unhide HP).later (unhide HCwa)).lt))
    | (go_at_call 84; go_must (refine (unhide HPW _ (by first | exact unhide HUP _ (unhide HCwa) | exact unhide HUA _ _ (unhide HCwa) | exact unhide HUD _)).mono ?_; rintro e wb ⟨rfl, hb⟩; have HCwb : Hid (Below V.heap.size V wb) := (by first | exact (unhide HCwa).trans (hb.mono (unhide HCwa).size) | exact bel_al (unhide HCwa) hb | exact bel_alD hb); (first | (have HZb := hide ((unhide HZa).later hb); clear u0 u1 uf0 uf1; have u0 := (unhide HZb).c0; have u1 := (unhide HZb).c1; have uf0 := (unhide HZb).f0; have uf1 := (unhide HZb).f1) | (have HZb : Hid (T2 wb wa.heap.size (.string ⟨#[]⟩) (.string ⟨#[]⟩)) := (by first | exact T2.past hb | exact T2.pastD hb); have u0 := (unhide HZb).c0; have u1 := (unhide HZb).c1; have uf0 := (unhide HZb).f0; have uf1 := (unhide HZb).f1) | skip); clear hb t0 t1; have t0 := ((unhide HP).later (unhide HCwb)).c0; have t1 := ((unhide HP).later (unhide HCwb)).c1; have hvwb := ((unhide HP).later (unhide HCwb)).lt))))
  all_goals
    first
    | (obtain ⟨X, hX⟩ : ∃ X, X = wb.heap.size := ⟨_, rfl⟩
       obtain ⟨U, hU⟩ : ∃ U, U = wb.alloc (.cells #[.string fn, .string fd] 26) := ⟨_, rfl⟩
       have HF : Hid (T2 U X (.string fn) (.string fd) ∧ T2 U (w.heap.size + 1) (.string ⟨#[]⟩) (.string ⟨#[]⟩) ∧ Below w.heap.size w U) := by
         rw [hU, hX]
         exact ⟨⟨by simp [go_sem], by simp [go_sem], by simp [go_sem], by simp [go_sem]⟩, ((unhide HR).later (unhide HCwb)).later ((Below.refl _ _).alloc (Nat.le_refl _) _), unhide HUA _ _ (unhide HCwb)⟩
       rw [← hU, ← hX]
       clear hU hX)
    | (obtain ⟨X, hX⟩ : ∃ X, X = wa.heap.size := ⟨_, rfl⟩
       obtain ⟨U, hU⟩ : ∃ U, U = (wb.setCell { block := wa.heap.size, off := 0 } (.string fn)).setCell { block := wa.heap.size, off := 1 } (.string fd) := ⟨_, rfl⟩
       have HF : Hid (T2 U X (.string fn) (.string fd) ∧ T2 U (w.heap.size + 1) (.string ⟨#[]⟩) (.string ⟨#[]⟩) ∧ Below w.heap.size w U) := by
         rw [hU, hX]
         have h1 := ((unhide HR).later (unhide HCwa)).lt
         exact ⟨(unhide HZb).store _ _, ((unhide HR).later (unhide HCwb)).otherP wa.heap.size (by omega) _ _, below_store2 (unhide HUP _ (unhide HCwb)) (by omega) _ _⟩
       rw [← hU, ← hX]
       clear hU hX)
    | (obtain ⟨X, hX⟩ : ∃ X, X = V.heap.size := ⟨_, rfl⟩
       obtain ⟨U, hU⟩ : ∃ U, U = (wb.setCell { block := V.heap.size, off := 0 } (.string fn)).setCell { block := V.heap.size, off := 1 } (.string fd) := ⟨_, rfl⟩
       have HF : Hid (T2 U X (.string fn) (.string fd) ∧ T2 U (w.heap.size + 1) (.string ⟨#[]⟩) (.string ⟨#[]⟩) ∧ Below w.heap.size w U) := by
         rw [hU, hX]
         have h1 := (unhide HR).lt
         exact ⟨(unhide HZb).store _ _, ((unhide HR).later (unhide HCwb)).otherP V.heap.size (by omega) _ _, below_store2 (unhide HUP _ (unhide HCwb)) (by omega) _ _⟩
       rw [← hU, ← hX]
       clear hU hX)
  all_goals
    have x0 := (unhide HF).1.c0; have x1 := (unhide HF).1.c1
    have r0 := (unhide HF).2.1.c0; have r1 := (unhide HF).2.1.c1; have rf0 := (unhide HF).2.1.f0; have rf1 := (unhide HF).2.1.f1
    go_wp2_with fail
    have hS := (unhide HF).2.1.store (.string fn) (.string fd)
    have hb := below_store2 (unhide HF).2.2 (by omega) (.string fn) (.string fd) (g := w.heap.size + 1)
    have v0 := hS.c0; have v1 := hS.c1
    exact bodyPost_ret (v := .agg #[.string fn, .string fd]) (w := store2 U (w.heap.size + 1) (.string fn) (.string fd)) (by simp [results, Tryz.results29, go_sem, v0, v1]) rfl ⟨rfl, hb⟩
theorem factor_any (N : Nat) (j : Int) (fn fd : ByteArray) (w : World) (htab : Tab w) (hN : 0 < N) (hN2 : N < 100000) (hj1 : -4096 ≤ j) (hj2 : j ≤ 4096) (h : numT (Cub.pw (Cub.valQ false N 1) j) = fn ∧ denT (Cub.pw (Cub.valQ false N 1) j) = fd ∧ errT (Cub.pw (Cub.valQ false N 1) j) = 0) :
    Calls Tryz.prog 29 #[.agg #[.int .i64 (N : Int), .int .i64 j]] w fun r w' => r = .returned (.agg #[.string fn, .string fd]) ∧ Below w.heap.size w w' := by
  have hs : N < 10 ^ 600 := u64_600 N (by omega)
  have hl : Cub.Low false N 1 := ⟨by decide, Nat.gcd_one_right _, fun h => by cases h⟩
  obtain ⟨e1, e2, e3⟩ := Cub.low_is hl
  have hsm : Small (Cub.valQ false N 1) := ⟨by rw [← e2]; exact hs, by rw [← e3]; exact one_lt 600 rfl⟩
  have hR : IsR (sT false N) ⟨#[49]⟩ (Cub.valQ false N 1) := by
    refine ⟨hsm, ?_, ?_⟩
    · unfold numT; rw [if_pos hsm, ← e1, ← e2]
    · unfold denT; rw [if_pos hsm, ← e3]; exact (lit_tb ⟨#[49]⟩ 1 (by decide) (by decide)).1
  have hx0 : Cub.valQ false N 1 ≠ 0 := fun e => by
    rw [e] at e2
    have : N = 0 := e2
    omega
  refine factor_walk N j (sT false N) ⟨#[49]⟩ fn fd w (fun W hb => ratOf_pos N W (by omega) (htab.later hb)) (fun W hb => ?_)
  have hp := rpow_ok (sT false N) ⟨#[49]⟩ (Cub.valQ false N 1) j W hR hj1 hj2 hx0 (htab.later hb)
  unfold Ans at hp
  rw [h.1, h.2.1, h.2.2] at hp
  exact hp
end Go.Proofs.YtpoapffbpgnkpaaGreatDoor

namespace Go.Proofs.YtpoapffbpgnkpaaGreatDoor
open Go.RowKit
/-- A block of five cells. -/
structure T5 (W : World) (g : Nat) (a b c d e : Value) : Prop where
  c0 : W.cell? ⟨g, 0, none⟩ = some a
  c1 : W.cell? ⟨g, 1, none⟩ = some b
  c2 : W.cell? ⟨g, 2, none⟩ = some c
  c3 : W.cell? ⟨g, 3, none⟩ = some d
  c4 : W.cell? ⟨g, 4, none⟩ = some e
  f0 : W.frozen? ⟨g, 0, none⟩ = false
  f1 : W.frozen? ⟨g, 1, none⟩ = false
  f2 : W.frozen? ⟨g, 2, none⟩ = false
  f3 : W.frozen? ⟨g, 3, none⟩ = false
  f4 : W.frozen? ⟨g, 4, none⟩ = false
theorem T5.lt {W : World} {g : Nat} {a b c d e : Value} (h : T5 W g a b c d e) : g < W.heap.size := World.block_lt_of_cell? _ _ h.c0
theorem T5.later {W V : World} {g : Nat} {a b c d e : Value} (h : T5 W g a b c d e) (hb : Below W.heap.size W V) : T5 V g a b c d e :=
  ⟨(hb.cell (p := ⟨g, 0, none⟩) h.lt).trans h.c0, (hb.cell (p := ⟨g, 1, none⟩) h.lt).trans h.c1, (hb.cell (p := ⟨g, 2, none⟩) h.lt).trans h.c2, (hb.cell (p := ⟨g, 3, none⟩) h.lt).trans h.c3, (hb.cell (p := ⟨g, 4, none⟩) h.lt).trans h.c4, (hb.frozen (p := ⟨g, 0, none⟩) h.lt).trans h.f0, (hb.frozen (p := ⟨g, 1, none⟩) h.lt).trans h.f1, (hb.frozen (p := ⟨g, 2, none⟩) h.lt).trans h.f2, (hb.frozen (p := ⟨g, 3, none⟩) h.lt).trans h.f3, (hb.frozen (p := ⟨g, 4, none⟩) h.lt).trans h.f4⟩
theorem T5.set0 {W : World} {g : Nat} {a b c d e : Value} (h : T5 W g a b c d e) (u : Value) : T5 (W.setCell ⟨g, 0, none⟩ u) g u b c d e :=
  ⟨World.cell?_setCell_same _ _ _ h.c0, by rw [World.cell?_setCell_other _ _ _ _ (by simp)]; exact h.c1, by rw [World.cell?_setCell_other _ _ _ _ (by simp)]; exact h.c2, by rw [World.cell?_setCell_other _ _ _ _ (by simp)]; exact h.c3, by rw [World.cell?_setCell_other _ _ _ _ (by simp)]; exact h.c4, by rw [World.frozen?_setCell]; exact h.f0, by rw [World.frozen?_setCell]; exact h.f1, by rw [World.frozen?_setCell]; exact h.f2, by rw [World.frozen?_setCell]; exact h.f3, by rw [World.frozen?_setCell]; exact h.f4⟩
theorem T5.set1 {W : World} {g : Nat} {a b c d e : Value} (h : T5 W g a b c d e) (u : Value) : T5 (W.setCell ⟨g, 1, none⟩ u) g a u c d e :=
  ⟨by rw [World.cell?_setCell_other _ _ _ _ (by simp)]; exact h.c0, World.cell?_setCell_same _ _ _ h.c1, by rw [World.cell?_setCell_other _ _ _ _ (by simp)]; exact h.c2, by rw [World.cell?_setCell_other _ _ _ _ (by simp)]; exact h.c3, by rw [World.cell?_setCell_other _ _ _ _ (by simp)]; exact h.c4, by rw [World.frozen?_setCell]; exact h.f0, by rw [World.frozen?_setCell]; exact h.f1, by rw [World.frozen?_setCell]; exact h.f2, by rw [World.frozen?_setCell]; exact h.f3, by rw [World.frozen?_setCell]; exact h.f4⟩
theorem T5.set2 {W : World} {g : Nat} {a b c d e : Value} (h : T5 W g a b c d e) (u : Value) : T5 (W.setCell ⟨g, 2, none⟩ u) g a b u d e :=
  ⟨by rw [World.cell?_setCell_other _ _ _ _ (by simp)]; exact h.c0, by rw [World.cell?_setCell_other _ _ _ _ (by simp)]; exact h.c1, World.cell?_setCell_same _ _ _ h.c2, by rw [World.cell?_setCell_other _ _ _ _ (by simp)]; exact h.c3, by rw [World.cell?_setCell_other _ _ _ _ (by simp)]; exact h.c4, by rw [World.frozen?_setCell]; exact h.f0, by rw [World.frozen?_setCell]; exact h.f1, by rw [World.frozen?_setCell]; exact h.f2, by rw [World.frozen?_setCell]; exact h.f3, by rw [World.frozen?_setCell]; exact h.f4⟩
theorem T5.set3 {W : World} {g : Nat} {a b c d e : Value} (h : T5 W g a b c d e) (u : Value) : T5 (W.setCell ⟨g, 3, none⟩ u) g a b c u e :=
  ⟨by rw [World.cell?_setCell_other _ _ _ _ (by simp)]; exact h.c0, by rw [World.cell?_setCell_other _ _ _ _ (by simp)]; exact h.c1, by rw [World.cell?_setCell_other _ _ _ _ (by simp)]; exact h.c2, World.cell?_setCell_same _ _ _ h.c3, by rw [World.cell?_setCell_other _ _ _ _ (by simp)]; exact h.c4, by rw [World.frozen?_setCell]; exact h.f0, by rw [World.frozen?_setCell]; exact h.f1, by rw [World.frozen?_setCell]; exact h.f2, by rw [World.frozen?_setCell]; exact h.f3, by rw [World.frozen?_setCell]; exact h.f4⟩
theorem T5.set4 {W : World} {g : Nat} {a b c d e : Value} (h : T5 W g a b c d e) (u : Value) : T5 (W.setCell ⟨g, 4, none⟩ u) g a b c d u :=
  ⟨by rw [World.cell?_setCell_other _ _ _ _ (by simp)]; exact h.c0, by rw [World.cell?_setCell_other _ _ _ _ (by simp)]; exact h.c1, by rw [World.cell?_setCell_other _ _ _ _ (by simp)]; exact h.c2, by rw [World.cell?_setCell_other _ _ _ _ (by simp)]; exact h.c3, World.cell?_setCell_same _ _ _ h.c4, by rw [World.frozen?_setCell]; exact h.f0, by rw [World.frozen?_setCell]; exact h.f1, by rw [World.frozen?_setCell]; exact h.f2, by rw [World.frozen?_setCell]; exact h.f3, by rw [World.frozen?_setCell]; exact h.f4⟩
def store5 (W : World) (g : Nat) (a b c d e : Value) : World := ((((W.setCell ⟨g, 0, none⟩ a).setCell ⟨g, 1, none⟩ b).setCell ⟨g, 2, none⟩ c).setCell ⟨g, 3, none⟩ d).setCell ⟨g, 4, none⟩ e
theorem T5.store {W : World} {g : Nat} {a b c d e : Value} (h : T5 W g a b c d e) (x y z u v : Value) : T5 (store5 W g x y z u v) g x y z u v := ((((h.set0 x).set1 y).set2 z).set3 u).set4 v
theorem below_store5 {B g : Nat} {w W : World} (h : Below B w W) (hg : B ≤ g) (x y z u v : Value) : Below B w (store5 W g x y z u v) :=
  ((((h.setCell (p := ⟨g, 0, none⟩) hg x).setCell (p := ⟨g, 1, none⟩) hg y).setCell (p := ⟨g, 2, none⟩) hg z).setCell (p := ⟨g, 3, none⟩) hg u).setCell (p := ⟨g, 4, none⟩) hg v
set_option maxRecDepth 100000 in
set_option maxHeartbeats 2000000 in
theorem binary_any (N : Nat) (j : Int) (bi : Bool) (w : World) (h : (((N : Nat) : Int) == 1024) = bi) : Calls Tryz.prog 38 #[.agg #[.int .i64 (N : Int), .int .i64 j]] w fun r w' => r = .returned (.bool bi) ∧ Below w.heap.size w w' := by
  go_enter Tryz.func38, Tryz.ntmps38
  go_wp2
  go_ret
  exact ⟨by rw [← h]; rfl, (Below.refl _ _).alloc (Nat.le_refl _) _⟩
def RowV (nm sy : ByteArray) (f : Nat) : Value := .agg #[.string nm, .string sy, .func (.func f) #[] #[]]
/-- What the row of one function tells. -/
def Tells (f : Nat) (N : Nat) (j : Int) (bi : Bool) : Prop := ∀ (nm sy fn fd : ByteArray) (w : World), (∀ W, Below w.heap.size w W → Calls Tryz.prog 29 #[.agg #[.int .i64 (N : Int), .int .i64 j]] W fun r w' => r = .returned (.agg #[.string fn, .string fd]) ∧ Below W.heap.size W w') →
    Calls Tryz.prog 18 #[RowV nm sy f] w fun r w' => r = .returned (.agg #[.string nm, .string sy, .string fn, .string fd, .bool bi]) ∧ Below w.heap.size w w'
end Go.Proofs.YtpoapffbpgnkpaaGreatDoor

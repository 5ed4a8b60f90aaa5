/- nat.guess: never too few. -/
import Derived.Test.YtijifpbpjinmhaaGreatDoorMany
import Derived.Test.YtijifpbpjinmhaaGreatDoorBigOf
import Derived.Deep.Cut
import Derived.Deep.QuietTactic
import Derived.BigQuiet
set_option maxHeartbeats 2000000
set_option maxRecDepth 100000
namespace Go.Proofs.YtijifpbpjinmhaaGreatDoor
open Go.RowKit
/-- What the division must answer. -/
def DivOK (k : Nat) : Prop := ∀ (W : World) (x y : Value) (m n : Nat), IsBig W x m → IsBig W y n → m < 1000000000 ^ k → 0 < n →
  Calls Tryz.prog 161 #[x, y] W fun e w' => ∃ a1 n1 c1 a2 n2 c2, e = .returned (.tuple #[.agg #[.slice a1 n1 c1], .agg #[.slice a2 n2 c2]]) ∧ IsBig w' (.agg #[.slice a1 n1 c1]) (m / n) ∧ IsBig w' (.agg #[.slice a2 n2 c2]) (m % n) ∧ Below W.heap.size W w'
/-- Two numbers in their boxes, and the box of the result. -/
structure GSt (w W : World) (u v : Value) (M N : Nat) : Prop where
  c1 : W.cell? ⟨w.heap.size, 0, none⟩ = some u
  f1 : W.frozen? ⟨w.heap.size, 0, none⟩ = false
  c2 : W.cell? ⟨w.heap.size + 1, 0, none⟩ = some v
  f2 : W.frozen? ⟨w.heap.size + 1, 0, none⟩ = false
  c3 : W.cell? ⟨w.heap.size + 1 + 1, 0, none⟩ = some (.slice none 0 0)
  f3 : W.frozen? ⟨w.heap.size + 1 + 1, 0, none⟩ = false
  big1 : IsBig W (.agg #[u]) M
  big2 : IsBig W (.agg #[v]) N
  below : Below w.heap.size w W
theorem GSt.later {w W V : World} {u v : Value} {M N : Nat} (s : GSt w W u v M N) (hb : Below W.heap.size W V) : GSt w V u v M N :=
  ⟨(hb.cell (p := ⟨w.heap.size, 0, none⟩) (World.block_lt_of_cell? _ _ s.c1)).trans s.c1, (hb.frozen (p := ⟨w.heap.size, 0, none⟩) (World.block_lt_of_cell? _ _ s.c1)).trans s.f1,
    (hb.cell (p := ⟨w.heap.size + 1, 0, none⟩) (World.block_lt_of_cell? _ _ s.c2)).trans s.c2, (hb.frozen (p := ⟨w.heap.size + 1, 0, none⟩) (World.block_lt_of_cell? _ _ s.c2)).trans s.f2,
    (hb.cell (p := ⟨w.heap.size + 1 + 1, 0, none⟩) (World.block_lt_of_cell? _ _ s.c3)).trans s.c3, (hb.frozen (p := ⟨w.heap.size + 1 + 1, 0, none⟩) (World.block_lt_of_cell? _ _ s.c3)).trans s.f3,
    s.big1.later hb, s.big2.later hb, s.below.trans (hb.mono s.below.size)⟩
theorem GSt.set1 {w W : World} {u v : Value} {M N : Nat} (s : GSt w W u v M N) (a : Option Addr) (l c : Nat) (hu : ∀ k n, u ≠ .int k n) {M' : Nat} (h : IsBig W (.agg #[.slice a l c]) M') : GSt w (W.setCell ⟨w.heap.size, 0, none⟩ (.slice a l c)) (.slice a l c) v M' N :=
  ⟨World.cell?_setCell_same _ _ _ s.c1, by rw [World.frozen?_setCell]; exact s.f1, by rw [World.cell?_setCell_other _ _ _ _ (by simp)]; exact s.c2, by rw [World.frozen?_setCell]; exact s.f2,
    by rw [World.cell?_setCell_other _ _ _ _ (by simp)]; exact s.c3, by rw [World.frozen?_setCell]; exact s.f3, h.box _ s.c1 hu, s.big2.box _ s.c1 hu, s.below.setCell (by simp) _⟩
theorem GSt.set2 {w W : World} {u v : Value} {M N : Nat} (s : GSt w W u v M N) (a : Option Addr) (l c : Nat) (hv : ∀ k n, v ≠ .int k n) {N' : Nat} (h : IsBig W (.agg #[.slice a l c]) N') : GSt w (W.setCell ⟨w.heap.size + 1, 0, none⟩ (.slice a l c)) u (.slice a l c) M N' :=
  ⟨by rw [World.cell?_setCell_other _ _ _ _ (by simp)]; exact s.c1, by rw [World.frozen?_setCell]; exact s.f1, World.cell?_setCell_same _ _ _ s.c2, by rw [World.frozen?_setCell]; exact s.f2,
    by rw [World.cell?_setCell_other _ _ _ _ (by simp)]; exact s.c3, by rw [World.frozen?_setCell]; exact s.f3, s.big1.box _ s.c2 hv, h.box _ s.c2 hv, s.below.setCell (by simp) _⟩
theorem GSt.both {w W : World} {a1 a2 b1 b2 : Option Addr} {l1 l2 k1 k2 d1 d2 e1 e2 : Nat} {M N M' N' : Nat} (s : GSt w W (.slice a1 l1 d1) (.slice a2 l2 d2) M N) (h1 : IsBig W (.agg #[.slice b1 k1 e1]) M') (h2 : IsBig W (.agg #[.slice b2 k2 e2]) N') :
    GSt w ((W.setCell ⟨w.heap.size, 0, none⟩ (.slice b1 k1 e1)).setCell ⟨w.heap.size + 1, 0, none⟩ (.slice b2 k2 e2)) (.slice b1 k1 e1) (.slice b2 k2 e2) M' N' :=
  (s.set1 b1 k1 e1 (no_int _ _ _) h1).set2 b2 k2 e2 (no_int _ _ _) (h2.box _ s.c1 (no_int _ _ _))
theorem GSt.first {w w2 : World} {u v : Value} {M N : Nat} (hb : Below (w.heap.size + 3) (((w.alloc (.cells #[u] 51)).alloc (.cells #[v] 51)).alloc (.cells #[.slice none 0 0] 51)) w2) (h1 : IsBig w (.agg #[u]) M) (h2 : IsBig w (.agg #[v]) N) : GSt w w2 u v M N := by
  have h := boxes3 hb
  refine ⟨h.c1, ?_, h.c2, ?_, h.c3, h.f3, h1.later h.below, h2.later h.below, h.below⟩
  · rw [hb.frozen (p := ⟨w.heap.size, 0, none⟩) (show w.heap.size < w.heap.size + 3 by omega)]; simp [go_sem]
  · rw [hb.frozen (p := ⟨w.heap.size + 1, 0, none⟩) (show w.heap.size + 1 < w.heap.size + 3 by omega)]; simp [go_sem]
theorem len_two {W : World} {a : Option Addr} {l c N : Nat} (h : IsBig W (.agg #[.slice a l c]) N) : l ≤ 9223372036854775807 ∧ (l ≤ 2 → N < 1000000000000000000) ∧ (2 < l → 1000000000000000000 ≤ N) := by
  obtain ⟨a', lp, cp, e, hlp, hr, hn, hv⟩ := h.form
  simp only [Value.agg.injEq, Array.mk.injEq, List.cons.injEq, Value.slice.injEq, and_true] at e
  obtain ⟨rfl, rfl, rfl⟩ := e
  refine ⟨hlp, fun h2 => ?_, fun h2 => ?_⟩
  · have := Cub.lval_lt hn.1
    have h3 : (1000000000 : Nat) ^ lp.length ≤ 1000000000 ^ 2 := Nat.pow_le_pow_right (by decide) h2
    omega
  · have h3 := Cub.normal_ge hn (by intro e; rw [e] at h2; simp at h2)
    have h4 : (1000000000 : Nat) ^ 2 ≤ 1000000000 ^ (lp.length - 1) := Nat.pow_le_pow_right (by decide) (by omega)
    omega
/-- How far it has come: M and N are left. -/
structure GInv (m n k M N : Nat) : Prop where
  gcd : Nat.gcd M N = Nat.gcd m n
  le : N ≤ M
  lt : M < 1000000000 ^ k
theorem gcd_any (x y : Value) (m n k : Nat) (w : World) (hx : IsBig w x m) (hy : IsBig w y n) (hk : k ≤ 100000) (hm : m < 1000000000 ^ k) (hn : n < 1000000000 ^ k) (hD : DivOK k) :
    Calls Tryz.prog 120 #[x, y] w fun e w' => ∃ a l c, e = .returned (.agg #[.slice a l c]) ∧ IsBig w' (.agg #[.slice a l c]) (Nat.gcd m n) ∧ Below w.heap.size w w' := by
  have HX := hide hx
  have HY := hide hy
  obtain ⟨ap, np, cp, rfl⟩ := hx.shape
  obtain ⟨aq, nq, cq, rfl⟩ := hy.shape
  have HDV := hide hD
  have HKK := hide hk
  have HC : Hid (∃ c : Int, ((c < 0 ↔ m < n)) ∧ ∀ W, IsBig W (.agg #[.slice ap np cp]) m → IsBig W (.agg #[.slice aq nq cq]) n → Calls Tryz.prog 124 #[.agg #[.slice ap np cp], .agg #[.slice aq nq cq]] W fun e w' => e = .returned (.int .i64 c) ∧ Below W.heap.size W w') := by
    refine ⟨Cub.cmpN m n, ?_, fun W hx hy => cmp_any _ _ m n W hx hy⟩
    unfold Cub.cmpN
    split
    · simp_all
    · split <;> simp_all
  obtain ⟨c, hc, h50⟩ := unhide HC
  have HCC := hide hc
  have H50 := hide h50
  clear HC h50 hc
  have HI : Hid (if m < n then GInv m n k n m else GInv m n k m n) := by
    show ite _ _ _
    split
    · exact ⟨Nat.gcd_comm n m, by omega, hn⟩
    · exact ⟨rfl, by omega, hm⟩
  clear hx hy hm hn hD hk
  have HEND : Hid (∀ M N : Nat, GInv m n k M N → N < 1000000000000000000 → 0 < N → Nat.gcd N (M % N) = Nat.gcd m n ∧ M % N < 1000000000000000000 ∧ Nat.gcd N (M % N) < 18446744073709551616) := fun M N h h1 h0 => by
    have h2 : M % N < N := Nat.mod_lt _ h0
    have h3 : Nat.gcd N (M % N) ≤ N := Nat.gcd_le_left _ h0
    refine ⟨?_, by omega, by omega⟩
    rw [← h.gcd, Nat.gcd_comm M N, Nat.gcd_rec N M, Nat.gcd_comm]
  go_enter Tryz.func120, Tryz.ntmps120
  by_cases hlt : c < 0
  case' pos =>
    have HI2 : Hid (GInv m n k n m) := by have := unhide HI; rw [if_pos ((unhide HCC).1 hlt)] at this; exact this
    clear HI HCC
    go_upto_region 2 with (go_at_call 124; go_must (refine (unhide H50 _ ((unhide HX).later ((((Below.refl _ _).alloc (Nat.le_refl _) _).alloc (by simp) _).alloc (by simp; omega) _)) ((unhide HY).later ((((Below.refl _ _).alloc (Nat.le_refl _) _).alloc (by simp) _).alloc (by simp; omega) _))).mono ?_; rintro e w2 ⟨rfl, hb2⟩; have HG2 := hide (GSt.first (hb2.mono (by simp)) (unhide HX) (unhide HY)); clear hb2))
    have b1 := (unhide HG2).c1; have b2 := (unhide HG2).c2; have g1 := (unhide HG2).f1; have g2 := (unhide HG2).f2
    go_wp2_with fail
    obtain ⟨V, a1, l1, d1, a2, l2, d2, M, N, hV, HS, HJ⟩ : ∃ V a1 l1 d1 a2 l2 d2 M N, V = ((w2.setCell ⟨w.heap.size, 0, none⟩ (.slice aq nq cq)).setCell ⟨w.heap.size + 1, 0, none⟩ (.slice ap np cp)) ∧ Hid (GSt w V (.slice a1 l1 d1) (.slice a2 l2 d2) M N) ∧ Hid (GInv m n k M N) :=
      ⟨_, aq, nq, cq, ap, np, cp, n, m, rfl, (unhide HG2).both (unhide HG2).big2 (unhide HG2).big1, HI2⟩
    rw [← hV]
    clear hV b1 b2 g1 g2 HG2 HI2 H50 HX HY
  case' neg =>
    have HI2 : Hid (GInv m n k m n) := by have := unhide HI; rw [if_neg (fun h => hlt ((unhide HCC).2 h))] at this; exact this
    clear HI HCC
    go_wp2_with (go_at_call 124; go_must (refine (unhide H50 _ ((unhide HX).later ((((Below.refl _ _).alloc (Nat.le_refl _) _).alloc (by simp) _).alloc (by simp; omega) _)) ((unhide HY).later ((((Below.refl _ _).alloc (Nat.le_refl _) _).alloc (by simp) _).alloc (by simp; omega) _))).mono ?_; rintro e w2 ⟨rfl, hb2⟩; have HG2 := hide (GSt.first (hb2.mono (by simp)) (unhide HX) (unhide HY)); clear hb2))
    obtain ⟨V, a1, l1, d1, a2, l2, d2, M, N, hV, HS, HJ⟩ : ∃ V a1 l1 d1 a2 l2 d2 M N, V = w2 ∧ Hid (GSt w V (.slice a1 l1 d1) (.slice a2 l2 d2) M N) ∧ Hid (GInv m n k M N) :=
      ⟨_, ap, np, cp, aq, nq, cq, m, n, rfl, unhide HG2, HI2⟩
    rw [← hV]
    clear hV HG2 HI2 H50 HX HY
  all_goals (
    go_loopg [16] N (fun z _ wr => ∃ (a1 : Option Addr) (l1 d1 : Nat) (a2 : Option Addr) (l2 d2 M N : Nat), Hid (z = N) ∧ Hid (GSt w wr (.slice a1 l1 d1) (.slice a2 l2 d2) M N) ∧ Hid (GInv m n k M N))
    case atStart => exact ⟨a1, l1, d1, a2, l2, d2, M, N, rfl, HS, HJ⟩
    case round =>
      clear HS HJ a1 l1 d1 a2 l2 d2 M
      obtain ⟨a1, l1, d1, a2, l2, d2, M, N, HZ, HS, HJ⟩ := hrel
      obtain ⟨hl2, hN1, hN2⟩ := len_two (unhide HS).big2
      have b1 := (unhide HS).c1; have b2 := (unhide HS).c2; have g1 := (unhide HS).f1; have g2 := (unhide HS).f2
      by_cases h2 : 2 < l2
      · have hN := hN2 h2
        have H88 := hide (fun W hx hy => many_any (.agg #[.slice a1 l1 d1]) (.agg #[.slice a2 l2 d2]) M N k W hx hy (unhide HJ).le hN (unhide HKK) (unhide HJ).lt)
        go_upto_region 5 with (go_at_call 167; go_must (refine (unhide H88 wr (unhide HS).big1 (unhide HS).big2).mono ?_; rintro e w3 ⟨A, B, C, D, rfl, HGO, hb3⟩; have HS3 := hide ((unhide HS).later hb3); clear hb3))
        obtain ⟨W, hW⟩ : ∃ W, W = w3.alloc (.cells #[.int .i64 A, .int .i64 B, .int .i64 C, .int .i64 D] 184) := ⟨_, rfl⟩
        have HS4 : Hid (GSt w W (.slice a1 l1 d1) (.slice a2 l2 d2) M N) := by rw [hW]; exact (unhide HS3).later ((Below.refl _ _).alloc (Nat.le_refl _) _)
        have q0 : W.cell? ⟨w3.heap.size, 0, none⟩ = some (.int .i64 A) := by rw [hW]; simp [go_sem]
        have q1 : W.cell? ⟨w3.heap.size, 1, none⟩ = some (.int .i64 B) := by rw [hW]; simp [go_sem]
        have q2 : W.cell? ⟨w3.heap.size, 2, none⟩ = some (.int .i64 C) := by rw [hW]; simp [go_sem]
        have q3 : W.cell? ⟨w3.heap.size, 3, none⟩ = some (.int .i64 D) := by rw [hW]; simp [go_sem]
        rw [← hW]
        clear hW HS3 HS b1 b2 g1 g2 H88
        have b1 := (unhide HS4).c1; have b2 := (unhide HS4).c2
        by_cases hB : B = 0
        · have e : (B != 0) = false := by rw [hB]; rfl
          have hN0 : 0 < N := by have := hN2 h2; omega
          have H57 := hide (fun W x y (hx : IsBig W x M) (hy : IsBig W y N) => unhide HDV W x y M N hx hy (unhide HJ).lt hN0)
          have HLT : Hid (M % N < N) := Nat.mod_lt _ hN0
          have HJ' : Hid (GInv m n k N (M % N)) := ⟨by rw [← (unhide HJ).gcd, Nat.gcd_comm M N, Nat.gcd_rec N M, Nat.gcd_comm], by have := unhide HLT; omega, Nat.lt_of_le_of_lt (unhide HJ).le (unhide HJ).lt⟩
          generalize M / N = Q at *
          generalize M % N = R at *
          clear hB hN1 hN2 h2 hN0 HGO HJ q0 q2 q3 HDV HEND
          go_upto_region 8 with (go_at_call 161; go_must (refine (unhide H57 W _ _ (unhide HS4).big1 (unhide HS4).big2).mono ?_; rintro e w5 ⟨x1, x2, x3, y1, y2, y3, rfl, r1, r2, hb5⟩; have HS5 := hide ((unhide HS4).later hb5); have HR := hide r2; clear r1 r2 hb5))
          have hA : Below w5.heap.size w5 ((w5.alloc (.cells #[.slice x1 x2 x3] 51)).alloc (.cells #[.slice y1 y2 y3] 51)) := ((Below.refl _ _).alloc (Nat.le_refl _) _).alloc (by simp) _
          have HZ5 := (unhide HS5).c3
          have HS6 := hide ((unhide HS5).later hA)
          have HR6 := hide ((unhide HR).later hA)
          have cr : ((w5.alloc (.cells #[.slice x1 x2 x3] 51)).alloc (.cells #[.slice y1 y2 y3] 51)).cell? ⟨w5.heap.size + 1, 0, none⟩ = some (.slice y1 y2 y3) := by simp
          generalize hwA : (w5.alloc (.cells #[.slice x1 x2 x3] 51)).alloc (.cells #[.slice y1 y2 y3] 51) = wA at *
          clear hwA hA HS5 HR HS4 b1 b2
          have v1 := (unhide HS6).c1; have v2 := (unhide HS6).c2; have g1 := (unhide HS6).f1; have g2 := (unhide HS6).f2
          have hz : w.heap.size + 1 + 1 < w5.heap.size := World.block_lt_of_cell? _ _ HZ5
          have n1 : ¬ w5.heap.size + 1 = w.heap.size := by omega
          have n2 : ¬ w.heap.size = w5.heap.size + 1 := by omega
          have n3 : ¬ w5.heap.size + 1 = w.heap.size + 1 := by omega
          have n4 : ¬ w.heap.size + 1 = w5.heap.size + 1 := by omega
          go_region
          all_goals (
            go_wp2_with fail
            go_roundg R
            case measure => have := unhide HZ; have := unhide HLT; omega
            case rel => exact ⟨a2, l2, d2, y1, y2, y3, N, R, rfl, by first | exact ((unhide HS6).both (unhide HS6).big2 (unhide HR6)).later ((Below.refl _ _).drew) | exact ((unhide HS6).both' (unhide HS6).big2 (unhide HR6)).later ((Below.refl _ _).drew) | exact (((unhide HS6).later ((Below.refl _ _).drew)).both ((unhide HS6).big2.later ((Below.refl _ _).drew)) ((unhide HR6).later ((Below.refl _ _).drew))), HJ'⟩)
        · have e : (B != 0) = true := by rw [bne_iff_ne]; exact hB
          obtain ⟨k1, k2, k3, k4, s1, s2, hN⟩ := unhide HGO
          obtain ⟨M', N', hM', hN', hle, hle2, hlt2, hg⟩ := hN hB
          have H89 := hide (fun W hx hy => use_any (.agg #[.slice a1 l1 d1]) (.agg #[.slice a2 l2 d2]) M N M' N' k A B C D W hx hy (unhide HJ).le (by have := unhide HKK; omega) (unhide HJ).lt k1 k2 k3 k4 s1 s2 hM' (Nat.le_trans hle (unhide HJ).le) hN' (Nat.le_trans hle2 (Nat.le_trans hle (unhide HJ).le)))
          have HJ' : Hid (GInv m n k M' N') := ⟨hg.trans (unhide HJ).gcd, hle2, Nat.lt_of_le_of_lt (Nat.le_trans hle (unhide HJ).le) (unhide HJ).lt⟩
          have HLT := hide hlt2
          clear hN1 hN2 hB k1 k2 k3 k4 s1 s2 hN hM' hN' hle hle2 hlt2 hg HGO HJ
          go_wp2_with (go_at_call 168; go_must (refine (unhide H89 W (unhide HS4).big1 (unhide HS4).big2).mono ?_; rintro e w5 ⟨x1, x2, x3, y1, y2, y3, rfl, r1, r2, hb5⟩; have HS5 := hide ((unhide HS4).later hb5); have HR := hide (And.intro r1 r2); clear r1 r2 hb5; have v1 := (unhide HS5).c1; have v2 := (unhide HS5).c2; have g1 := (unhide HS5).f1; have g2 := (unhide HS5).f2))
          go_roundg N'
          case measure => have := unhide HZ; have := unhide HLT; omega
          case rel => exact ⟨x1, x2, x3, y1, y2, y3, M', N', rfl, (unhide HS5).both (unhide HR).1 (unhide HR).2, HJ'⟩
      · have hN := hN1 (by omega)
        have h2' : l2 ≤ 2 := by omega
        clear hN1 hN2 h2
        have H56 := hide (fun W h => isZero_any (.agg #[.slice a2 l2 d2]) N W h)
        by_cases h0 : N = 0
        · have HV : Hid (Nat.gcd m n = M) := by show _ = _; rw [← (unhide HJ).gcd, h0, Nat.gcd_zero_right]
          have e0 : (N == 0) = true := by rw [h0]; rfl
          rw [e0] at H56
          clear h0 e0 hN
          go_wp2_with (go_at_call 85; go_must (refine (unhide H56 wr (unhide HS).big2).mono ?_; rintro e w5 ⟨rfl, hb5⟩; have HS5 := hide ((unhide HS).later hb5); clear hb5; have v1 := (unhide HS5).c1; have v3 := (unhide HS5).c3; have g3 := (unhide HS5).f3))
          refine bodyPost_ret (v := .agg #[.slice a1 l1 d1]) (by simp [results, Tryz.results120, go_sem, v3]) rfl ⟨_, _, _, rfl, ?_, ?_⟩
          · rw [unhide HV]; exact (unhide HS5).big1.box _ v3 (no_int _ _ _)
          · exact (unhide HS5).below.setCell (by simp; omega) _
        · have e0 : (N == 0) = false := by rw [beq_eq_false_iff_ne]; exact h0
          rw [e0] at H56
          have H57 := hide (fun W x y (hx : IsBig W x M) (hy : IsBig W y N) => unhide HDV W x y M N hx hy (unhide HJ).lt (by omega))
          obtain ⟨z1, z2, z3⟩ := unhide HEND M N (unhide HJ) hN (by omega)
          have HV := hide z1
          have H91a := hide (fun W x (hx : IsBig W x N) => bigSmall_any x N W hx hN)
          have H91b := hide (fun W x (hx : IsBig W x (M % N)) => bigSmall_any x (M % N) W hx z2)
          have H90 := hide (fun W => gcdSmall_any N (M % N) W (by omega) (by omega))
          have H68 := hide (fun W => bigOf_any (Nat.gcd N (M % N)) W z3)
          generalize M / N = Q at *
          generalize M % N = R at *
          generalize Nat.gcd N R = G at *
          clear h0 e0 hN z1 z2 z3 HDV HEND
          go_upto_region 12 with (first
            | (go_at_call 85; go_must (refine (unhide H56 wr (unhide HS).big2).mono ?_; rintro e w5 ⟨rfl, hb5⟩; have HS5 := hide ((unhide HS).later hb5); clear hb5; have v1 := (unhide HS5).c1; have v2 := (unhide HS5).c2))
            | (go_at_call 161; go_must (refine (unhide H57 w5 _ _ (unhide HS5).big1 (unhide HS5).big2).mono ?_; rintro e w6 ⟨x1, x2, x3, y1, y2, y3, rfl, r1, r2, hb6⟩; have HS6 := hide ((unhide HS5).later hb6); have HR := hide r2; clear r1 r2 hb6)))
          have hA : Below w6.heap.size w6 ((w6.alloc (.cells #[.slice x1 x2 x3] 51)).alloc (.cells #[.slice y1 y2 y3] 51)) := ((Below.refl _ _).alloc (Nat.le_refl _) _).alloc (by simp) _
          have hz6 : w.heap.size + 1 + 1 < w6.heap.size := World.block_lt_of_cell? _ _ (unhide HS6).c3
          have HS7 := hide ((unhide HS6).later hA)
          have HR7 := hide ((unhide HR).later hA)
          have cr : ((w6.alloc (.cells #[.slice x1 x2 x3] 51)).alloc (.cells #[.slice y1 y2 y3] 51)).cell? ⟨w6.heap.size + 1, 0, none⟩ = some (.slice y1 y2 y3) := by simp
          generalize hwA : (w6.alloc (.cells #[.slice x1 x2 x3] 51)).alloc (.cells #[.slice y1 y2 y3] 51) = wA at *
          clear hwA hA HS6 HR HS5 v1 v2 b1 b2 g1 g2 H56 H57
          have v2 := (unhide HS7).c2
          have n1 : ¬ w6.heap.size + 1 = w.heap.size + 1 + 1 := by omega
          have n2 : ¬ w.heap.size + 1 + 1 = w6.heap.size + 1 := by omega
          go_region_held3 (fun w' => w'.cell? ⟨w.heap.size + 1, 0, none⟩ = some (.slice a2 l2 d2) ∧ w'.cell? ⟨w6.heap.size + 1, 0, none⟩ = some (.slice y1 y2 y3)) (first | assumption | (refine ⟨?_, ?_⟩ <;> first | assumption | (simp [go_sem, *]; done)) | (simp [go_sem, *]; done))
            (first
              | (go_at_call_of 170 (Value.agg #[Value.slice a2 l2 d2]); refine (unhide H91a _ _ ((unhide HS7).big2.later ((Below.refl _ _).drew))).mono ?_; rintro e wB ⟨rfl, hbB⟩; have hbB' : Below wA.heap.size wA wB := (Below.refl _ _).drew.trans hbB; have HS8 := hide ((unhide HS7).later hbB'); have HR8 := hide ((unhide HR7).later hbB'); have crB := (hbB'.cell (p := ⟨w6.heap.size + 1, 0, none⟩) (World.block_lt_of_cell? _ _ cr)).trans cr; have v8 := (unhide HS8).c2; clear hbB hbB')
              | (go_at_call_of 170 (Value.agg #[Value.slice y1 y2 y3]); refine (unhide H91b wB _ (unhide HR8)).mono ?_; rintro e wC ⟨rfl, hbC⟩; have HS9 := hide ((unhide HS8).later hbC); have crC := (hbC.cell (p := ⟨w6.heap.size + 1, 0, none⟩) (World.block_lt_of_cell? _ _ crB)).trans crB; have v9 := (unhide HS9).c2; clear hbC)
              | (go_at_call 169; refine (unhide H90 wC).mono ?_; rintro e wD ⟨rfl, hbD⟩; have HS10 := hide ((unhide HS9).later hbD); have crD := (hbD.cell (p := ⟨w6.heap.size + 1, 0, none⟩) (World.block_lt_of_cell? _ _ crC)).trans crC; have v10 := (unhide HS10).c2; clear hbD)
              | (go_at_call 73; refine (unhide H68 wD).mono ?_; rintro e wE ⟨i1, i2, i3, rfl, hE, hbE⟩; have HS11 := hide ((unhide HS10).later hbE); have HGE := hide hE; have crE := (hbE.cell (p := ⟨w6.heap.size + 1, 0, none⟩) (World.block_lt_of_cell? _ _ crD)).trans crD; have v11 := (unhide HS11).c2; have v3 := (unhide HS11).c3; have g3 := (unhide HS11).f3; clear hbE hE))
          all_goals (
            go_wp2_with fail
            refine bodyPost_ret (v := .agg #[.slice i1 i2 i3]) (by simp [results, Tryz.results120, go_sem, v3]) rfl ⟨_, _, _, rfl, ?_, ?_⟩
            · rw [← unhide HV]; exact (unhide HGE).box _ v3 (no_int _ _ _)
            · exact (unhide HS11).below.setCell (by simp; omega) _))
/-- What the long division must answer. -/
def LongOK (m n : Nat) : Prop := ∀ (W : World) (x y : Value), IsBig W x m → IsBig W y n →
  Calls Tryz.prog 198 #[x, y] W fun e w' => ∃ a1 n1 c1 a2 n2 c2, e = .returned (.tuple #[.agg #[.slice a1 n1 c1], .agg #[.slice a2 n2 c2]]) ∧ IsBig w' (.agg #[.slice a1 n1 c1]) (m / n) ∧ IsBig w' (.agg #[.slice a2 n2 c2]) (m % n) ∧ Below W.heap.size W w'
/-- Two boxes, and two for results, kept. -/
structure Res4 (w w4 : World) (a b : Value) : Prop where
  c0 : w4.cell? ⟨w.heap.size, 0, none⟩ = some a
  c1 : w4.cell? ⟨w.heap.size + 1, 0, none⟩ = some b
  c2 : w4.cell? ⟨w.heap.size + 1 + 1, 0, none⟩ = some (.slice none 0 0)
  f2 : w4.frozen? ⟨w.heap.size + 1 + 1, 0, none⟩ = false
  c3 : w4.cell? ⟨w.heap.size + 1 + 1 + 1, 0, none⟩ = some (.slice none 0 0)
  f3 : w4.frozen? ⟨w.heap.size + 1 + 1 + 1, 0, none⟩ = false
  below : Below w.heap.size w w4
  size : w.heap.size + 4 ≤ w4.heap.size
theorem res4 {w w4 : World} {a b : Value} (hb : Below (w.heap.size + 4) ((((w.alloc (.cells #[a] 51)).alloc (.cells #[b] 51)).alloc (.cells #[.slice none 0 0] 51)).alloc (.cells #[.slice none 0 0] 51)) w4) : Res4 w w4 a b := by
  refine ⟨?_, ?_, ?_, ?_, ?_, ?_, ?_, ?_⟩
  · rw [hb.cell (p := ⟨w.heap.size, 0, none⟩) (show w.heap.size < w.heap.size + 4 by omega)]; simp [go_sem]
  · rw [hb.cell (p := ⟨w.heap.size + 1, 0, none⟩) (show w.heap.size + 1 < w.heap.size + 4 by omega)]; simp [go_sem]
  · rw [hb.cell (p := ⟨w.heap.size + 1 + 1, 0, none⟩) (show w.heap.size + 1 + 1 < w.heap.size + 4 by omega)]; simp [go_sem]
  · rw [hb.frozen (p := ⟨w.heap.size + 1 + 1, 0, none⟩) (show w.heap.size + 1 + 1 < w.heap.size + 4 by omega)]; simp [go_sem]
  · rw [hb.cell (p := ⟨w.heap.size + 1 + 1 + 1, 0, none⟩) (show w.heap.size + 1 + 1 + 1 < w.heap.size + 4 by omega)]; simp [go_sem]
  · rw [hb.frozen (p := ⟨w.heap.size + 1 + 1 + 1, 0, none⟩) (show w.heap.size + 1 + 1 + 1 < w.heap.size + 4 by omega)]; simp [go_sem]
  · exact (((((Below.refl _ _).alloc (Nat.le_refl _) _).alloc (by simp) _).alloc (by simp; omega) _).alloc (by simp; omega) _).trans (hb.mono (by omega))
  · have := hb.size; simp at this; omega
theorem Res4.on {w w4 w5 : World} {a b : Value} (h : Res4 w w4 a b) (hb : Below (w.heap.size + 4) w4 w5) : Res4 w w5 a b :=
  ⟨(hb.cell (p := ⟨w.heap.size, 0, none⟩) (show w.heap.size < w.heap.size + 4 by omega)).trans h.c0, (hb.cell (p := ⟨w.heap.size + 1, 0, none⟩) (show w.heap.size + 1 < w.heap.size + 4 by omega)).trans h.c1,
    (hb.cell (p := ⟨w.heap.size + 1 + 1, 0, none⟩) (show w.heap.size + 1 + 1 < w.heap.size + 4 by omega)).trans h.c2, (hb.frozen (p := ⟨w.heap.size + 1 + 1, 0, none⟩) (show w.heap.size + 1 + 1 < w.heap.size + 4 by omega)).trans h.f2,
    (hb.cell (p := ⟨w.heap.size + 1 + 1 + 1, 0, none⟩) (show w.heap.size + 1 + 1 + 1 < w.heap.size + 4 by omega)).trans h.c3, (hb.frozen (p := ⟨w.heap.size + 1 + 1 + 1, 0, none⟩) (show w.heap.size + 1 + 1 + 1 < w.heap.size + 4 by omega)).trans h.f3,
    h.below.trans (hb.mono (by omega)), by have := hb.size; have := h.size; omega⟩
theorem Res4.done {w w4 : World} {a b u v : Value} (h : Res4 w w4 a b) (n m : Nat) (hn : IsBig w4 (.agg #[u]) n) (hm : IsBig w4 (.agg #[v]) m) :
    IsBig ((w4.setCell ⟨w.heap.size + 1 + 1, 0, none⟩ u).setCell ⟨w.heap.size + 1 + 1 + 1, 0, none⟩ v) (.agg #[u]) n ∧ IsBig ((w4.setCell ⟨w.heap.size + 1 + 1, 0, none⟩ u).setCell ⟨w.heap.size + 1 + 1 + 1, 0, none⟩ v) (.agg #[v]) m ∧ Below w.heap.size w ((w4.setCell ⟨w.heap.size + 1 + 1, 0, none⟩ u).setCell ⟨w.heap.size + 1 + 1 + 1, 0, none⟩ v) := by
  have hc : (w4.setCell ⟨w.heap.size + 1 + 1, 0, none⟩ u).cell? ⟨w.heap.size + 1 + 1 + 1, 0, none⟩ = some (.slice none 0 0) := by
    rw [World.cell?_setCell_other _ _ _ _ (by simp)]; exact h.c3
  exact ⟨(hn.box _ h.c2 (no_int _ _ _)).box _ hc (no_int _ _ _), (hm.box _ h.c2 (no_int _ _ _)).box _ hc (no_int _ _ _), (h.below.setCell (by simp; omega) _).setCell (by simp; omega) _⟩
theorem one_limb {l : List Nat} {n : Nat} (h : Cub.normal 1000000000 l) (hv : Cub.lval 1000000000 l = n) (h1 : l.length = 1) : ∃ y, l = [y] ∧ y = n ∧ 0 < n ∧ n < 1000000000 := by
  obtain ⟨y, rfl⟩ := List.length_eq_one_iff.1 h1
  have e : y = n := by rw [← hv]; simp [Cub.lval]
  subst e
  refine ⟨y, rfl, rfl, ?_, h.1 y (by simp)⟩
  have := h.2
  simp at this
  omega
theorem divMod_core (x y : Value) (m n k : Nat) (w : World) (hx : IsBig w x m) (hy : IsBig w y n) (hk : k ≤ 1000000) (hm : m < 1000000000 ^ k) (hn : 0 < n) (hL : 1000000000 ≤ n → n ≤ m → LongOK m n) :
    Calls Tryz.prog 161 #[x, y] w fun e w' => ∃ a1 n1 c1 a2 n2 c2, e = .returned (.tuple #[.agg #[.slice a1 n1 c1], .agg #[.slice a2 n2 c2]]) ∧ IsBig w' (.agg #[.slice a1 n1 c1]) (m / n) ∧ IsBig w' (.agg #[.slice a2 n2 c2]) (m % n) ∧ Below w.heap.size w w' := by
  have HX := hide hx
  have HY := hide hy
  obtain ⟨ap, lp, cp, rfl, hlp, hrp, hnp, hvp⟩ := hx.form
  obtain ⟨aq, lq, cq, rfl, hlq, hrq, hnq, hvq⟩ := hy.form
  have H50 := hide (fun W hx hy => cmp_any (.agg #[.slice ap lp.length cp]) (.agg #[.slice aq lq.length cq]) m n W hx hy)
  have h1 : lp.length ≤ k := Cub.len_le hnp (by rw [hvp]; exact hm)
  have HP : Hid (Cells w aq lq) := hrq.cells.2.2.2
  have HM := hide hm
  by_cases hlt : m < n
  · have e1 : m / n = 0 := Nat.div_eq_of_lt hlt
    have e2 : m % n = m := Nat.mod_eq_of_lt hlt
    rw [e1, e2]
    rw [Cub.cmpN_lt hlt] at H50
    generalize lp.length = np at *
    generalize lq.length = nq at *
    clear hx hy hm hlp hlq hrp hrq hnp hnq hvp hvq e1 e2 hL h1 HP
    go_enter Tryz.func161, Tryz.ntmps161
    go_upto_region 2 with (go_at_call 124; go_must (refine (unhide H50 _ ((unhide HX).later (((((Below.refl _ _).alloc (Nat.le_refl _) _).alloc (by simp) _).alloc (by simp; omega) _).alloc (by simp; omega) _)) ((unhide HY).later (((((Below.refl _ _).alloc (Nat.le_refl _) _).alloc (by simp) _).alloc (by simp; omega) _).alloc (by simp; omega) _))).mono ?_; rintro e w2 ⟨rfl, hb2⟩; have HB2 := hide (res4 (hb2.mono (by simp))); have b0 := (unhide HB2).c0; have b2 := (unhide HB2).c2; have f2 := (unhide HB2).f2; have b3 := (unhide HB2).c3; have f3 := (unhide HB2).f3; clear hb2))
    go_region
    all_goals (
      obtain ⟨r1, r2, r3⟩ := (unhide HB2).done (u := .slice none 0 0) (v := .slice ap np cp) 0 m (IsBig.zero _) ((unhide HX).later (unhide HB2).below)
      go_wp2
      exact bodyPost_ret (v := .tuple #[.agg #[.slice none 0 0], .agg #[.slice ap np cp]]) (by simp [results, Tryz.results161, go_sem, b2, b3]) rfl ⟨_, _, _, _, _, _, rfl, r1.later ((Below.refl _ _).drew), r2.later ((Below.refl _ _).drew), r3.trans ((Below.refl _ _).drew)⟩)
  · have H50' : Hid (∃ c : Int, (c < 0) = False ∧ ∀ W, IsBig W (.agg #[.slice ap lp.length cp]) m → IsBig W (.agg #[.slice aq lq.length cq]) n → Calls Tryz.prog 124 #[.agg #[.slice ap lp.length cp], .agg #[.slice aq lq.length cq]] W fun e w' => e = .returned (.int .i64 c) ∧ Below W.heap.size W w') := by
      refine ⟨Cub.cmpN m n, ?_, unhide H50⟩
      unfold Cub.cmpN
      rw [if_neg hlt]
      split <;> simp
    obtain ⟨c, hc, h50⟩ := unhide H50'
    have H50c := hide h50
    clear h50 H50 H50'
    by_cases hone : lq.length = 1
    · obtain ⟨yv, hl, hyn, hn0, hnB⟩ := one_limb hnq hvq hone
      have HC1 : Hid (∀ W, Below w.heap.size w W → ∃ b o, aq = some ⟨b, o, none⟩ ∧ W.cell? ⟨b, o, none⟩ = some (.int .u64 (n : Int))) := fun W hW => by
        obtain ⟨b, o, e, hcell⟩ := unhide HP W hW 0 (by omega)
        refine ⟨b, o, e, ?_⟩
        rw [Nat.add_zero] at hcell
        rw [hcell]
        subst hl
        rw [← hyn]; rfl
      have H82 := hide (fun W x (hx : IsBig W x m) => divShort_any x m n k W hx hk (unhide HM) hn0 hnB)
      rw [hone] at HY H50c ⊢
      generalize lp.length = np at *
      clear hx hy hm hlp hlq hrp hrq hnp hnq hvp hvq hL h1 HP hl hyn hone
      go_enter Tryz.func161, Tryz.ntmps161
      go_upto_region 4 with (go_at_call 124; go_must (refine (unhide H50c _ ((unhide HX).later (((((Below.refl _ _).alloc (Nat.le_refl _) _).alloc (by simp) _).alloc (by simp; omega) _).alloc (by simp; omega) _)) ((unhide HY).later (((((Below.refl _ _).alloc (Nat.le_refl _) _).alloc (by simp) _).alloc (by simp; omega) _).alloc (by simp; omega) _))).mono ?_; rintro e w2 ⟨rfl, hb2⟩; have HB2 := hide (res4 (hb2.mono (by simp))); have b0 := (unhide HB2).c0; have b1 := (unhide HB2).c1; clear hb2))
      obtain ⟨bq, oq, rfl, hcq⟩ := unhide HC1 w2 (unhide HB2).below
      go_region_with (go_at_call 197; refine (unhide H82 _ _ (((unhide HX).later (unhide HB2).below).later ((Below.refl _ _).drew))).mono ?_; rintro e w3 ⟨a1, n1, c1, a2, n2, c2, rfl, hr1, hr2, hb3⟩; have hb3' : Below w2.heap.size w2 w3 := (Below.refl _ _).drew.trans hb3; have HB3 := hide ((unhide HB2).on (hb3'.mono (unhide HB2).size)); have HR := hide (And.intro hr1 hr2); clear hr1 hr2 hb3 hb3'; have b2 := (unhide HB3).c2; have f2 := (unhide HB3).f2; have b3 := (unhide HB3).c3; have f3 := (unhide HB3).f3)
      all_goals (
        obtain ⟨r1, r2, r3⟩ := (unhide HB3).done _ _ (unhide HR).1 (unhide HR).2
        go_wp2
        exact bodyPost_ret (v := .tuple #[.agg #[.slice a1 n1 c1], .agg #[.slice a2 n2 c2]]) (by simp [results, Tryz.results161, go_sem, b2, b3]) rfl ⟨_, _, _, _, _, _, rfl, r1, r2, r3⟩)
    · have hnB : 1000000000 ≤ n := by
        apply Decidable.byContradiction
        intro hc2
        have h2 : lq.length ≤ 1 := Cub.len_le hnq (by rw [hvq, Nat.pow_one]; omega)
        have h3 : lq = [] := List.length_eq_zero_iff.1 (by omega)
        rw [h3] at hvq
        have : Cub.lval 1000000000 [] = 0 := rfl
        omega
      have H83 := hide (hL hnB (by omega))
      have hone' : ((lq.length : Int) == 1) = false := by rw [beq_eq_false_iff_ne]; omega
      generalize lp.length = np at *
      generalize lq.length = nq at *
      clear hx hy hm hlp hrp hrq hnp hnq hvp hvq hL h1 HP hone
      go_enter Tryz.func161, Tryz.ntmps161
      go_wp2_with (first
        | (go_at_call 124; go_must (refine (unhide H50c _ ((unhide HX).later (((((Below.refl _ _).alloc (Nat.le_refl _) _).alloc (by simp) _).alloc (by simp; omega) _).alloc (by simp; omega) _)) ((unhide HY).later (((((Below.refl _ _).alloc (Nat.le_refl _) _).alloc (by simp) _).alloc (by simp; omega) _).alloc (by simp; omega) _))).mono ?_; rintro e w2 ⟨rfl, hb2⟩; have HB2 := hide (res4 (hb2.mono (by simp))); have b0 := (unhide HB2).c0; have b1 := (unhide HB2).c1; clear hb2))
        | (go_at_call 198; go_must (refine (unhide H83 _ _ _ ((unhide HX).later (unhide HB2).below) ((unhide HY).later (unhide HB2).below)).mono ?_; rintro e w3 ⟨a1, n1, c1, a2, n2, c2, rfl, hr1, hr2, hb3⟩; have HB3 := hide ((unhide HB2).on (hb3.mono (unhide HB2).size)); have HR := hide (And.intro hr1 hr2); clear hr1 hr2 hb3; have b2 := (unhide HB3).c2; have f2 := (unhide HB3).f2; have b3 := (unhide HB3).c3; have f3 := (unhide HB3).f3)))
      obtain ⟨r1, r2, r3⟩ := (unhide HB3).done _ _ (unhide HR).1 (unhide HR).2
      exact bodyPost_ret (v := .tuple #[.agg #[.slice a1 n1 c1], .agg #[.slice a2 n2 c2]]) (by simp [results, Tryz.results161, go_sem, b2, b3]) rfl ⟨_, _, _, _, _, _, rfl, r1, r2, r3⟩
end Go.Proofs.YtijifpbpjinmhaaGreatDoor
namespace Cub
/-- How far the guess has come: d is not too few; r is what is left of the head. -/
structure GuessInv (h w0 y1 y2 d r : Nat) : Prop where
  lt : d < 1000000000
  sum : r + d * y1 = h
  few : ∀ q, q < 1000000000 → q * y1 ≤ h → q * (y1 * 1000000000 + y2) ≤ h * 1000000000 + w0 → q ≤ d
theorem GuessInv.start (h w0 y1 y2 : Nat) (hy : 0 < y1) : GuessInv h w0 y1 y2 (min (h / y1) 999999999) (h - min (h / y1) 999999999 * y1) := by
  have h1 : min (h / y1) 999999999 * y1 ≤ h := Nat.le_trans (Nat.mul_le_mul_right _ (Nat.min_le_left _ _)) (Nat.div_mul_le_self h y1)
  refine ⟨by omega, by omega, fun q hq hqh _ => ?_⟩
  have h2 : q ≤ h / y1 := (Nat.le_div_iff_mul_le hy).2 hqh
  omega
theorem GuessInv.step {h w0 y1 y2 d r : Nat} (i : GuessInv h w0 y1 y2 d r) (hgt : r * 1000000000 + w0 < d * y2) : 1 ≤ d ∧ GuessInv h w0 y1 y2 (d - 1) (r + y1) := by
  have hd : 1 ≤ d := by
    rcases Nat.eq_zero_or_pos d with e | e
    · subst e; omega
    · exact e
  obtain ⟨e, rfl⟩ : ∃ e, d = e + 1 := ⟨d - 1, by omega⟩
  have h1 := i.sum
  have h2 := i.lt
  refine ⟨hd, by omega, ?_, fun q hq hqh hqm => ?_⟩
  · rw [Nat.add_sub_cancel]
    rw [Nat.add_mul, Nat.one_mul] at h1
    omega
  · have h3 := i.few q hq hqh hqm
    rcases Nat.lt_or_ge e q with h4 | h4
    · have h5 : q = e + 1 := by omega
      subst h5
      rw [Nat.mul_add, ← Nat.mul_assoc] at hqm
      have h6 := congrArg (· * 1000000000) h1
      simp only [Nat.add_mul (_ : Nat) _ 1000000000] at h6
      omega
    · omega
end Cub
namespace Go.Proofs.YtijifpbpjinmhaaGreatDoor
open Go.RowKit
theorem guess_min (h y d : Nat) (hB : h < 1000000000000000000) (hd : d = min (h / y) 999999999) :
    (if 999999999 < IntKind.u64.wrap ((h : Int) / (y : Int)) then (999999999 : Int) else IntKind.u64.wrap ((h : Int) / (y : Int))) = (d : Int) := by
  have h1 := Nat.div_le_self h y
  have e : (h : Int) / (y : Int) = ((h / y : Nat) : Int) := (Int.natCast_ediv h y).symm
  rw [e]
  generalize h / y = q at *
  have w1 : IntKind.u64.wrap (q : Int) = (q : Int) := by rw [IntKind.wrap_u64]; omega
  rw [w1, hd]
  split <;> omega
theorem guess_min' (h y d : Nat) (hB : h < 1000000000000000000) (hd : d = min (h / y) 999999999) :
    min (IntKind.u64.wrap ((h : Int) / (y : Int))) 999999999 = (d : Int) := by
  have h1 := guess_min h y d hB hd
  rw [← h1]
  split <;> omega
theorem guess_any (gw ow n cw : Nat) (ab : Option Addr) (cb w0 w1 w2 y1 y2 : Nat) (gb ob : Nat) (w : World) (hn : 2 ≤ n) (hn2 : n ≤ 10000000) (hcw : n + 1 ≤ cw)
    (hab : ab = some ⟨gb, ob, none⟩) (h2 : w.cell? ⟨gw, ow + n, none⟩ = some (.int .u64 (w2 : Int))) (h1 : w.cell? ⟨gw, ow + (n - 1), none⟩ = some (.int .u64 (w1 : Int))) (h0 : w.cell? ⟨gw, ow + (n - 2), none⟩ = some (.int .u64 (w0 : Int)))
    (k1 : w.cell? ⟨gb, ob + (n - 1), none⟩ = some (.int .u64 (y1 : Int))) (k2 : w.cell? ⟨gb, ob + (n - 2), none⟩ = some (.int .u64 (y2 : Int)))
    (l0 : w0 < 1000000000) (l1 : w1 < 1000000000) (l2 : w2 < 1000000000) (m1 : y1 < 1000000000) (m2 : y2 < 1000000000) (hy : 0 < y1) :
    Calls Tryz.prog 223 #[.slice (some ⟨gw, ow, none⟩) (n + 1) cw, .slice ab n cb] w fun e w' => ∃ d : Nat, e = .returned (.int .u64 (d : Int)) ∧ d < 1000000000 ∧ (∀ q, q < 1000000000 → q * y1 ≤ w2 * 1000000000 + w1 → q * (y1 * 1000000000 + y2) ≤ (w2 * 1000000000 + w1) * 1000000000 + w0 → q ≤ d) ∧ Below w.heap.size w w' := by
  subst hab
  obtain ⟨p, rfl⟩ : ∃ p, n = p + 2 := ⟨n - 2, by omega⟩
  rw [show p + 2 - 1 = p + 1 by omega] at h1 k1
  rw [show p + 2 - 2 = p by omega] at h0 k2
  obtain ⟨h, hh⟩ : ∃ h, h = w2 * 1000000000 + w1 := ⟨_, rfl⟩
  have hB : h < 1000000000000000000 := by omega
  have hhI : (w2 : Int) * 1000000000 + (w1 : Int) = (h : Int) := by omega
  have HG := hide (Cub.GuessInv.start h w0 y1 y2 hy)
  rw [← hh]
  have HHI := hide hhI
  clear hh hhI
  go_enter Tryz.func223, Tryz.ntmps223
  go_wp2
  have j1 : (p : Int) + 2 < (p : Int) + 2 + 1 := by omega
  have j2 : (p : Int) + 1 < (p : Int) + 2 + 1 := by omega
  have j3 : (p : Int) < (p : Int) + 2 + 1 := by omega
  have j4 : (p : Int) + 1 < (p : Int) + 2 := by omega
  have j5 : (p : Int) < (p : Int) + 2 := by omega
  go_quiet (fail)
  rw [unhide HHI]
  have hy0 : ¬ y1 = 0 := by omega
  go_upto_region 4 with fail
  obtain ⟨d0, hd0⟩ : ∃ d0, d0 = min (h / y1) 999999999 := ⟨_, rfl⟩
  first | rw [guess_min h y1 d0 hB hd0] | rw [guess_min' h y1 d0 hB hd0]
  rw [← hd0] at HG
  obtain ⟨m0, hm0⟩ : ∃ m0, m0 = d0 * y1 := ⟨_, rfl⟩
  have hmI : (d0 : Int) * (y1 : Int) = (m0 : Int) := by rw [hm0]; simp
  have hmh : m0 ≤ h := by have := (unhide HG).sum; rw [← hm0] at this; omega
  rw [← hm0] at HG
  clear hd0 hm0
  go_wp2
  go_loopw [7, 8] (fun a b wr => ∃ d r : Nat, a = .int .u64 (d : Int) ∧ b = .int .u64 (r : Int) ∧ r ≤ h ∧ Hid (Cub.GuessInv h w0 y1 y2 d r) ∧ Below w.heap.size w wr) (fun a _ _ => (intOf a).toNat)
  case atStart => exact ⟨d0, h - m0, rfl, by go_num, by omega, HG, below_drewN (Below.refl _ _) _⟩
  case round =>
    obtain ⟨d, r, rfl, rfl, hr, HI, hbl⟩ := hrel
    have h0' := (hbl.cell (p := ⟨gw, ow + p, none⟩) (World.block_lt_of_cell? _ _ h0)).trans h0
    have k1' := (hbl.cell (p := ⟨gb, ob + (p + 1), none⟩) (World.block_lt_of_cell? _ _ k1)).trans k1
    have k2' := (hbl.cell (p := ⟨gb, ob + p, none⟩) (World.block_lt_of_cell? _ _ k2)).trans k2
    clear hmI hmh HG
    have hdl := (unhide HI).lt
    obtain ⟨dy, hdy⟩ : ∃ dy, dy = d * y2 := ⟨_, rfl⟩
    have hdyI : (d : Int) * (y2 : Int) = (dy : Int) := by rw [hdy]; simp
    have hdyB : dy ≤ 999999999 * 999999999 := by rw [hdy]; exact Nat.mul_le_mul (by omega) (by omega)
    by_cases hrB : r < 1000000000
    · have hrd : decide ((r : Int) < 1000000000) = true := by rw [decide_eq_true_eq]; omega
      by_cases hgt : r * 1000000000 + w0 < dy
      · obtain ⟨hd1, hI'⟩ := (unhide HI).step (by rw [← hdy]; exact hgt)
        have HI' := hide hI'
        have hs := hI'.sum
        have hgI : decide ((r : Int) * 1000000000 + (w0 : Int) < (dy : Int)) = true := by rw [decide_eq_true_eq]; omega
        clear hI' hdy
        have hr2 : r + y1 ≤ h := by omega
        clear hs
        go_upto_region 5 with fail
        go_quiet (fail)
        go_wp2
        go_roundw
        case rel => exact ⟨d - 1, r + y1, by go_num, by go_num, hr2, HI', below_drewN hbl _⟩
        case measure => simp [intOf]; omega
      · have hgI : decide ((r : Int) * 1000000000 + (w0 : Int) < (dy : Int)) = false := by rw [decide_eq_false_iff_not]; omega
        clear hdy
        go_upto_region 5 with fail
        go_quiet (fail)
        go_wp2
        go_ret
        exact ⟨d, rfl, hdl, (unhide HI).few, below_drewN hbl _⟩
    · have hrd : decide ((r : Int) < 1000000000) = false := by rw [decide_eq_false_iff_not]; omega
      clear hdy
      go_upto_region 5 with fail
      go_quiet (fail)
      go_wp2
      go_ret
      exact ⟨d, rfl, hdl, (unhide HI).few, below_drewN hbl _⟩
end Go.Proofs.YtijifpbpjinmhaaGreatDoor

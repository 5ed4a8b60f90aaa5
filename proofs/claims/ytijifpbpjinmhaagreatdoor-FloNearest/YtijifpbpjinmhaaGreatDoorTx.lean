/- Texts of rational numbers: rat.cutSign, rat.signed. -/
import Derived.Test.YtijifpbpjinmhaaGreatDoorMany
import Derived.Test.YtijifpbpjinmhaaGreatDoorMulMath
import Derived.Test.YtijifpbpjinmhaaGreatDoorGcdFirst
import Derived.Test.YtijifpbpjinmhaaGreatDoorLong2
import Derived.Deep.RegionHeld3
import Derived.Test.YtijifpbpjinmhaaGreatDoorText
set_option maxHeartbeats 2000000
set_option maxRecDepth 100000
namespace Go.Proofs.YtijifpbpjinmhaaGreatDoor
open Go.RowKit
/-- What the division must answer. -/
def DivOK (k : Nat) : Prop := ∀ (W : World) (x y : Value) (m n : Nat), IsBig W x m → IsBig W y n → m < 1000000000 ^ k → 0 < n →
  Calls Tryz.prog 161 #[x, y] W fun e w' => ∃ a1 n1 c1 a2 n2 c2, e = .returned (.tuple #[.agg #[.slice a1 n1 c1], .agg #[.slice a2 n2 c2]]) ∧ IsBig w' (.agg #[.slice a1 n1 c1]) (m / n) ∧ IsBig w' (.agg #[.slice a2 n2 c2]) (m % n) ∧ Below W.heap.size W w'
/-- Two numbers in their boxes, and the box of the result. -/
structure GSt (w W : World) (u v : Value) (M N : Nat) : Prop where
  c1 : W.cell? ⟨w.heap.size, 0, none⟩ = some u
  f1 : W.frozen? ⟨w.heap.size, 0, none⟩ = false
  c2 : W.cell? ⟨w.heap.size + 1, 0, none⟩ = some v
  f2 : W.frozen? ⟨w.heap.size + 1, 0, none⟩ = false
  c3 : W.cell? ⟨w.heap.size + 1 + 1, 0, none⟩ = some (.slice none 0 0)
  f3 : W.frozen? ⟨w.heap.size + 1 + 1, 0, none⟩ = false
  big1 : IsBig W (.agg #[u]) M
  big2 : IsBig W (.agg #[v]) N
  below : Below w.heap.size w W
theorem GSt.later {w W V : World} {u v : Value} {M N : Nat} (s : GSt w W u v M N) (hb : Below W.heap.size W V) : GSt w V u v M N :=
  ⟨(hb.cell (p := ⟨w.heap.size, 0, none⟩) (World.block_lt_of_cell? _ _ s.c1)).trans s.c1, (hb.frozen (p := ⟨w.heap.size, 0, none⟩) (World.block_lt_of_cell? _ _ s.c1)).trans s.f1,
    (hb.cell (p := ⟨w.heap.size + 1, 0, none⟩) (World.block_lt_of_cell? _ _ s.c2)).trans s.c2, (hb.frozen (p := ⟨w.heap.size + 1, 0, none⟩) (World.block_lt_of_cell? _ _ s.c2)).trans s.f2,
    (hb.cell (p := ⟨w.heap.size + 1 + 1, 0, none⟩) (World.block_lt_of_cell? _ _ s.c3)).trans s.c3, (hb.frozen (p := ⟨w.heap.size + 1 + 1, 0, none⟩) (World.block_lt_of_cell? _ _ s.c3)).trans s.f3,
    s.big1.later hb, s.big2.later hb, s.below.trans (hb.mono s.below.size)⟩
theorem GSt.set1 {w W : World} {u v : Value} {M N : Nat} (s : GSt w W u v M N) (a : Option Addr) (l c : Nat) (hu : ∀ k n, u ≠ .int k n) {M' : Nat} (h : IsBig W (.agg #[.slice a l c]) M') : GSt w (W.setCell ⟨w.heap.size, 0, none⟩ (.slice a l c)) (.slice a l c) v M' N :=
  ⟨World.cell?_setCell_same _ _ _ s.c1, by rw [World.frozen?_setCell]; exact s.f1, by rw [World.cell?_setCell_other _ _ _ _ (by simp)]; exact s.c2, by rw [World.frozen?_setCell]; exact s.f2,
    by rw [World.cell?_setCell_other _ _ _ _ (by simp)]; exact s.c3, by rw [World.frozen?_setCell]; exact s.f3, h.box _ s.c1 hu, s.big2.box _ s.c1 hu, s.below.setCell (by simp) _⟩
theorem GSt.set2 {w W : World} {u v : Value} {M N : Nat} (s : GSt w W u v M N) (a : Option Addr) (l c : Nat) (hv : ∀ k n, v ≠ .int k n) {N' : Nat} (h : IsBig W (.agg #[.slice a l c]) N') : GSt w (W.setCell ⟨w.heap.size + 1, 0, none⟩ (.slice a l c)) u (.slice a l c) M N' :=
  ⟨by rw [World.cell?_setCell_other _ _ _ _ (by simp)]; exact s.c1, by rw [World.frozen?_setCell]; exact s.f1, World.cell?_setCell_same _ _ _ s.c2, by rw [World.frozen?_setCell]; exact s.f2,
    by rw [World.cell?_setCell_other _ _ _ _ (by simp)]; exact s.c3, by rw [World.frozen?_setCell]; exact s.f3, s.big1.box _ s.c2 hv, h.box _ s.c2 hv, s.below.setCell (by simp) _⟩
theorem GSt.both {w W : World} {a1 a2 b1 b2 : Option Addr} {l1 l2 k1 k2 d1 d2 e1 e2 : Nat} {M N M' N' : Nat} (s : GSt w W (.slice a1 l1 d1) (.slice a2 l2 d2) M N) (h1 : IsBig W (.agg #[.slice b1 k1 e1]) M') (h2 : IsBig W (.agg #[.slice b2 k2 e2]) N') :
    GSt w ((W.setCell ⟨w.heap.size, 0, none⟩ (.slice b1 k1 e1)).setCell ⟨w.heap.size + 1, 0, none⟩ (.slice b2 k2 e2)) (.slice b1 k1 e1) (.slice b2 k2 e2) M' N' :=
  (s.set1 b1 k1 e1 (no_int _ _ _) h1).set2 b2 k2 e2 (no_int _ _ _) (h2.box _ s.c1 (no_int _ _ _))
theorem GSt.first {w w2 : World} {u v : Value} {M N : Nat} (hb : Below (w.heap.size + 3) (((w.alloc (.cells #[u] 51)).alloc (.cells #[v] 51)).alloc (.cells #[.slice none 0 0] 51)) w2) (h1 : IsBig w (.agg #[u]) M) (h2 : IsBig w (.agg #[v]) N) : GSt w w2 u v M N := by
  have h := boxes3 hb
  refine ⟨h.c1, ?_, h.c2, ?_, h.c3, h.f3, h1.later h.below, h2.later h.below, h.below⟩
  · rw [hb.frozen (p := ⟨w.heap.size, 0, none⟩) (show w.heap.size < w.heap.size + 3 by omega)]; simp [go_sem]
  · rw [hb.frozen (p := ⟨w.heap.size + 1, 0, none⟩) (show w.heap.size + 1 < w.heap.size + 3 by omega)]; simp [go_sem]
theorem len_two {W : World} {a : Option Addr} {l c N : Nat} (h : IsBig W (.agg #[.slice a l c]) N) : l ≤ 9223372036854775807 ∧ (l ≤ 2 → N < 1000000000000000000) ∧ (2 < l → 1000000000000000000 ≤ N) := by
  obtain ⟨a', lp, cp, e, hlp, hr, hn, hv⟩ := h.form
  simp only [Value.agg.injEq, Array.mk.injEq, List.cons.injEq, Value.slice.injEq, and_true] at e
  obtain ⟨rfl, rfl, rfl⟩ := e
  refine ⟨hlp, fun h2 => ?_, fun h2 => ?_⟩
  · have := Cub.lval_lt hn.1
    have h3 : (1000000000 : Nat) ^ lp.length ≤ 1000000000 ^ 2 := Nat.pow_le_pow_right (by decide) h2
    omega
  · have h3 := Cub.normal_ge hn (by intro e; rw [e] at h2; simp at h2)
    have h4 : (1000000000 : Nat) ^ 2 ≤ 1000000000 ^ (lp.length - 1) := Nat.pow_le_pow_right (by decide) (by omega)
    omega
/-- How far it has come: M and N are left. -/
structure GInv (m n k M N : Nat) : Prop where
  gcd : Nat.gcd M N = Nat.gcd m n
  le : N ≤ M
  lt : M < 1000000000 ^ k
theorem gcd_any (x y : Value) (m n k : Nat) (w : World) (hx : IsBig w x m) (hy : IsBig w y n) (hk : k ≤ 100000) (hm : m < 1000000000 ^ k) (hn : n < 1000000000 ^ k) (hD : DivOK k) :
    Calls Tryz.prog 120 #[x, y] w fun e w' => ∃ a l c, e = .returned (.agg #[.slice a l c]) ∧ IsBig w' (.agg #[.slice a l c]) (Nat.gcd m n) ∧ Below w.heap.size w w' := by
  have HX := hide hx
  have HY := hide hy
  obtain ⟨ap, np, cp, rfl⟩ := hx.shape
  obtain ⟨aq, nq, cq, rfl⟩ := hy.shape
  have HDV := hide hD
  have HKK := hide hk
  have HC : Hid (∃ c : Int, ((c < 0 ↔ m < n)) ∧ ∀ W, IsBig W (.agg #[.slice ap np cp]) m → IsBig W (.agg #[.slice aq nq cq]) n → Calls Tryz.prog 124 #[.agg #[.slice ap np cp], .agg #[.slice aq nq cq]] W fun e w' => e = .returned (.int .i64 c) ∧ Below W.heap.size W w') := by
    refine ⟨Cub.cmpN m n, ?_, fun W hx hy => cmp_any _ _ m n W hx hy⟩
    unfold Cub.cmpN
    split
    · simp_all
    · split <;> simp_all
  obtain ⟨c, hc, h50⟩ := unhide HC
  have HCC := hide hc
  have H50 := hide h50
  clear HC h50 hc
  have HI : Hid (if m < n then GInv m n k n m else GInv m n k m n) := by
    show ite _ _ _
    split
    · exact ⟨Nat.gcd_comm n m, by omega, hn⟩
    · exact ⟨rfl, by omega, hm⟩
  clear hx hy hm hn hD hk
  have HEND : Hid (∀ M N : Nat, GInv m n k M N → N < 1000000000000000000 → 0 < N → Nat.gcd N (M % N) = Nat.gcd m n ∧ M % N < 1000000000000000000 ∧ Nat.gcd N (M % N) < 18446744073709551616) := fun M N h h1 h0 => by
    have h2 : M % N < N := Nat.mod_lt _ h0
    have h3 : Nat.gcd N (M % N) ≤ N := Nat.gcd_le_left _ h0
    refine ⟨?_, by omega, by omega⟩
    rw [← h.gcd, Nat.gcd_comm M N, Nat.gcd_rec N M, Nat.gcd_comm]
  go_enter Tryz.func120, Tryz.ntmps120
  by_cases hlt : c < 0
  case' pos =>
    have HI2 : Hid (GInv m n k n m) := by have := unhide HI; rw [if_pos ((unhide HCC).1 hlt)] at this; exact this
    clear HI HCC
    go_upto_region 2 with (go_at_call 124; go_must (refine (unhide H50 _ ((unhide HX).later ((((Below.refl _ _).alloc (Nat.le_refl _) _).alloc (by simp) _).alloc (by simp; omega) _)) ((unhide HY).later ((((Below.refl _ _).alloc (Nat.le_refl _) _).alloc (by simp) _).alloc (by simp; omega) _))).mono ?_; rintro e w2 ⟨rfl, hb2⟩; have HG2 := hide (GSt.first (hb2.mono (by simp)) (unhide HX) (unhide HY)); clear hb2))
    have b1 := (unhide HG2).c1; have b2 := (unhide HG2).c2; have g1 := (unhide HG2).f1; have g2 := (unhide HG2).f2
    go_wp2_with fail
    obtain ⟨V, a1, l1, d1, a2, l2, d2, M, N, hV, HS, HJ⟩ : ∃ V a1 l1 d1 a2 l2 d2 M N, V = ((w2.setCell ⟨w.heap.size, 0, none⟩ (.slice aq nq cq)).setCell ⟨w.heap.size + 1, 0, none⟩ (.slice ap np cp)) ∧ Hid (GSt w V (.slice a1 l1 d1) (.slice a2 l2 d2) M N) ∧ Hid (GInv m n k M N) :=
      ⟨_, aq, nq, cq, ap, np, cp, n, m, rfl, (unhide HG2).both (unhide HG2).big2 (unhide HG2).big1, HI2⟩
    rw [← hV]
    clear hV b1 b2 g1 g2 HG2 HI2 H50 HX HY
  case' neg =>
    have HI2 : Hid (GInv m n k m n) := by have := unhide HI; rw [if_neg (fun h => hlt ((unhide HCC).2 h))] at this; exact this
    clear HI HCC
    go_wp2_with (go_at_call 124; go_must (refine (unhide H50 _ ((unhide HX).later ((((Below.refl _ _).alloc (Nat.le_refl _) _).alloc (by simp) _).alloc (by simp; omega) _)) ((unhide HY).later ((((Below.refl _ _).alloc (Nat.le_refl _) _).alloc (by simp) _).alloc (by simp; omega) _))).mono ?_; rintro e w2 ⟨rfl, hb2⟩; have HG2 := hide (GSt.first (hb2.mono (by simp)) (unhide HX) (unhide HY)); clear hb2))
    obtain ⟨V, a1, l1, d1, a2, l2, d2, M, N, hV, HS, HJ⟩ : ∃ V a1 l1 d1 a2 l2 d2 M N, V = w2 ∧ Hid (GSt w V (.slice a1 l1 d1) (.slice a2 l2 d2) M N) ∧ Hid (GInv m n k M N) :=
      ⟨_, ap, np, cp, aq, nq, cq, m, n, rfl, unhide HG2, HI2⟩
    rw [← hV]
    clear hV HG2 HI2 H50 HX HY
  all_goals (
    go_loopg [16] N (fun z _ wr => ∃ (a1 : Option Addr) (l1 d1 : Nat) (a2 : Option Addr) (l2 d2 M N : Nat), Hid (z = N) ∧ Hid (GSt w wr (.slice a1 l1 d1) (.slice a2 l2 d2) M N) ∧ Hid (GInv m n k M N))
    case atStart => exact ⟨a1, l1, d1, a2, l2, d2, M, N, rfl, HS, HJ⟩
    case round =>
      clear HS HJ a1 l1 d1 a2 l2 d2 M
      obtain ⟨a1, l1, d1, a2, l2, d2, M, N, HZ, HS, HJ⟩ := hrel
      obtain ⟨hl2, hN1, hN2⟩ := len_two (unhide HS).big2
      have b1 := (unhide HS).c1; have b2 := (unhide HS).c2; have g1 := (unhide HS).f1; have g2 := (unhide HS).f2
      by_cases h2 : 2 < l2
      · have hN := hN2 h2
        have H88 := hide (fun W hx hy => many_any (.agg #[.slice a1 l1 d1]) (.agg #[.slice a2 l2 d2]) M N k W hx hy (unhide HJ).le hN (unhide HKK) (unhide HJ).lt)
        go_upto_region 5 with (go_at_call 167; go_must (refine (unhide H88 wr (unhide HS).big1 (unhide HS).big2).mono ?_; rintro e w3 ⟨A, B, C, D, rfl, HGO, hb3⟩; have HS3 := hide ((unhide HS).later hb3); clear hb3))
        obtain ⟨W, hW⟩ : ∃ W, W = w3.alloc (.cells #[.int .i64 A, .int .i64 B, .int .i64 C, .int .i64 D] 184) := ⟨_, rfl⟩
        have HS4 : Hid (GSt w W (.slice a1 l1 d1) (.slice a2 l2 d2) M N) := by rw [hW]; exact (unhide HS3).later ((Below.refl _ _).alloc (Nat.le_refl _) _)
        have q0 : W.cell? ⟨w3.heap.size, 0, none⟩ = some (.int .i64 A) := by rw [hW]; simp [go_sem]
        have q1 : W.cell? ⟨w3.heap.size, 1, none⟩ = some (.int .i64 B) := by rw [hW]; simp [go_sem]
        have q2 : W.cell? ⟨w3.heap.size, 2, none⟩ = some (.int .i64 C) := by rw [hW]; simp [go_sem]
        have q3 : W.cell? ⟨w3.heap.size, 3, none⟩ = some (.int .i64 D) := by rw [hW]; simp [go_sem]
        rw [← hW]
        clear hW HS3 HS b1 b2 g1 g2 H88
        have b1 := (unhide HS4).c1; have b2 := (unhide HS4).c2
        by_cases hB : B = 0
        · have e : (B != 0) = false := by rw [hB]; rfl
          have hN0 : 0 < N := by have := hN2 h2; omega
          have H57 := hide (fun W x y (hx : IsBig W x M) (hy : IsBig W y N) => unhide HDV W x y M N hx hy (unhide HJ).lt hN0)
          have HLT : Hid (M % N < N) := Nat.mod_lt _ hN0
          have HJ' : Hid (GInv m n k N (M % N)) := ⟨by rw [← (unhide HJ).gcd, Nat.gcd_comm M N, Nat.gcd_rec N M, Nat.gcd_comm], by have := unhide HLT; omega, Nat.lt_of_le_of_lt (unhide HJ).le (unhide HJ).lt⟩
          generalize M / N = Q at *
          generalize M % N = R at *
          clear hB hN1 hN2 h2 hN0 HGO HJ q0 q2 q3 HDV HEND
          go_upto_region 8 with (go_at_call 161; go_must (refine (unhide H57 W _ _ (unhide HS4).big1 (unhide HS4).big2).mono ?_; rintro e w5 ⟨x1, x2, x3, y1, y2, y3, rfl, r1, r2, hb5⟩; have HS5 := hide ((unhide HS4).later hb5); have HR := hide r2; clear r1 r2 hb5))
          have hA : Below w5.heap.size w5 ((w5.alloc (.cells #[.slice x1 x2 x3] 51)).alloc (.cells #[.slice y1 y2 y3] 51)) := ((Below.refl _ _).alloc (Nat.le_refl _) _).alloc (by simp) _
          have HZ5 := (unhide HS5).c3
          have HS6 := hide ((unhide HS5).later hA)
          have HR6 := hide ((unhide HR).later hA)
          have cr : ((w5.alloc (.cells #[.slice x1 x2 x3] 51)).alloc (.cells #[.slice y1 y2 y3] 51)).cell? ⟨w5.heap.size + 1, 0, none⟩ = some (.slice y1 y2 y3) := by simp
          generalize hwA : (w5.alloc (.cells #[.slice x1 x2 x3] 51)).alloc (.cells #[.slice y1 y2 y3] 51) = wA at *
          clear hwA hA HS5 HR HS4 b1 b2
          have v1 := (unhide HS6).c1; have v2 := (unhide HS6).c2; have g1 := (unhide HS6).f1; have g2 := (unhide HS6).f2
          have hz : w.heap.size + 1 + 1 < w5.heap.size := World.block_lt_of_cell? _ _ HZ5
          have n1 : ¬ w5.heap.size + 1 = w.heap.size := by omega
          have n2 : ¬ w.heap.size = w5.heap.size + 1 := by omega
          have n3 : ¬ w5.heap.size + 1 = w.heap.size + 1 := by omega
          have n4 : ¬ w.heap.size + 1 = w5.heap.size + 1 := by omega
          go_region
          all_goals (
            go_wp2_with fail
            go_roundg R
            case measure => have := unhide HZ; have := unhide HLT; omega
            case rel => exact ⟨a2, l2, d2, y1, y2, y3, N, R, rfl, by first | exact ((unhide HS6).both (unhide HS6).big2 (unhide HR6)).later ((Below.refl _ _).drew) | exact ((unhide HS6).both' (unhide HS6).big2 (unhide HR6)).later ((Below.refl _ _).drew) | exact (((unhide HS6).later ((Below.refl _ _).drew)).both ((unhide HS6).big2.later ((Below.refl _ _).drew)) ((unhide HR6).later ((Below.refl _ _).drew))), HJ'⟩)
        · have e : (B != 0) = true := by rw [bne_iff_ne]; exact hB
          obtain ⟨k1, k2, k3, k4, s1, s2, hN⟩ := unhide HGO
          obtain ⟨M', N', hM', hN', hle, hle2, hlt2, hg⟩ := hN hB
          have H89 := hide (fun W hx hy => use_any (.agg #[.slice a1 l1 d1]) (.agg #[.slice a2 l2 d2]) M N M' N' k A B C D W hx hy (unhide HJ).le (by have := unhide HKK; omega) (unhide HJ).lt k1 k2 k3 k4 s1 s2 hM' (Nat.le_trans hle (unhide HJ).le) hN' (Nat.le_trans hle2 (Nat.le_trans hle (unhide HJ).le)))
          have HJ' : Hid (GInv m n k M' N') := ⟨hg.trans (unhide HJ).gcd, hle2, Nat.lt_of_le_of_lt (Nat.le_trans hle (unhide HJ).le) (unhide HJ).lt⟩
          have HLT := hide hlt2
          clear hN1 hN2 hB k1 k2 k3 k4 s1 s2 hN hM' hN' hle hle2 hlt2 hg HGO HJ
          go_wp2_with (go_at_call 168; go_must (refine (unhide H89 W (unhide HS4).big1 (unhide HS4).big2).mono ?_; rintro e w5 ⟨x1, x2, x3, y1, y2, y3, rfl, r1, r2, hb5⟩; have HS5 := hide ((unhide HS4).later hb5); have HR := hide (And.intro r1 r2); clear r1 r2 hb5; have v1 := (unhide HS5).c1; have v2 := (unhide HS5).c2; have g1 := (unhide HS5).f1; have g2 := (unhide HS5).f2))
          go_roundg N'
          case measure => have := unhide HZ; have := unhide HLT; omega
          case rel => exact ⟨x1, x2, x3, y1, y2, y3, M', N', rfl, (unhide HS5).both (unhide HR).1 (unhide HR).2, HJ'⟩
      · have hN := hN1 (by omega)
        have h2' : l2 ≤ 2 := by omega
        clear hN1 hN2 h2
        have H56 := hide (fun W h => isZero_any (.agg #[.slice a2 l2 d2]) N W h)
        by_cases h0 : N = 0
        · have HV : Hid (Nat.gcd m n = M) := by show _ = _; rw [← (unhide HJ).gcd, h0, Nat.gcd_zero_right]
          have e0 : (N == 0) = true := by rw [h0]; rfl
          rw [e0] at H56
          clear h0 e0 hN
          go_wp2_with (go_at_call 85; go_must (refine (unhide H56 wr (unhide HS).big2).mono ?_; rintro e w5 ⟨rfl, hb5⟩; have HS5 := hide ((unhide HS).later hb5); clear hb5; have v1 := (unhide HS5).c1; have v3 := (unhide HS5).c3; have g3 := (unhide HS5).f3))
          refine bodyPost_ret (v := .agg #[.slice a1 l1 d1]) (by simp [results, Tryz.results120, go_sem, v3]) rfl ⟨_, _, _, rfl, ?_, ?_⟩
          · rw [unhide HV]; exact (unhide HS5).big1.box _ v3 (no_int _ _ _)
          · exact (unhide HS5).below.setCell (by simp; omega) _
        · have e0 : (N == 0) = false := by rw [beq_eq_false_iff_ne]; exact h0
          rw [e0] at H56
          have H57 := hide (fun W x y (hx : IsBig W x M) (hy : IsBig W y N) => unhide HDV W x y M N hx hy (unhide HJ).lt (by omega))
          obtain ⟨z1, z2, z3⟩ := unhide HEND M N (unhide HJ) hN (by omega)
          have HV := hide z1
          have H91a := hide (fun W x (hx : IsBig W x N) => bigSmall_any x N W hx hN)
          have H91b := hide (fun W x (hx : IsBig W x (M % N)) => bigSmall_any x (M % N) W hx z2)
          have H90 := hide (fun W => gcdSmall_any N (M % N) W (by omega) (by omega))
          have H68 := hide (fun W => bigOf_any (Nat.gcd N (M % N)) W z3)
          generalize M / N = Q at *
          generalize M % N = R at *
          generalize Nat.gcd N R = G at *
          clear h0 e0 hN z1 z2 z3 HDV HEND
          go_upto_region 12 with (first
            | (go_at_call 85; go_must (refine (unhide H56 wr (unhide HS).big2).mono ?_; rintro e w5 ⟨rfl, hb5⟩; have HS5 := hide ((unhide HS).later hb5); clear hb5; have v1 := (unhide HS5).c1; have v2 := (unhide HS5).c2))
            | (go_at_call 161; go_must (refine (unhide H57 w5 _ _ (unhide HS5).big1 (unhide HS5).big2).mono ?_; rintro e w6 ⟨x1, x2, x3, y1, y2, y3, rfl, r1, r2, hb6⟩; have HS6 := hide ((unhide HS5).later hb6); have HR := hide r2; clear r1 r2 hb6)))
          have hA : Below w6.heap.size w6 ((w6.alloc (.cells #[.slice x1 x2 x3] 51)).alloc (.cells #[.slice y1 y2 y3] 51)) := ((Below.refl _ _).alloc (Nat.le_refl _) _).alloc (by simp) _
          have hz6 : w.heap.size + 1 + 1 < w6.heap.size := World.block_lt_of_cell? _ _ (unhide HS6).c3
          have HS7 := hide ((unhide HS6).later hA)
          have HR7 := hide ((unhide HR).later hA)
          have cr : ((w6.alloc (.cells #[.slice x1 x2 x3] 51)).alloc (.cells #[.slice y1 y2 y3] 51)).cell? ⟨w6.heap.size + 1, 0, none⟩ = some (.slice y1 y2 y3) := by simp
          generalize hwA : (w6.alloc (.cells #[.slice x1 x2 x3] 51)).alloc (.cells #[.slice y1 y2 y3] 51) = wA at *
          clear hwA hA HS6 HR HS5 v1 v2 b1 b2 g1 g2 H56 H57
          have v2 := (unhide HS7).c2
          have n1 : ¬ w6.heap.size + 1 = w.heap.size + 1 + 1 := by omega
          have n2 : ¬ w.heap.size + 1 + 1 = w6.heap.size + 1 := by omega
          go_region_held3 (fun w' => w'.cell? ⟨w.heap.size + 1, 0, none⟩ = some (.slice a2 l2 d2) ∧ w'.cell? ⟨w6.heap.size + 1, 0, none⟩ = some (.slice y1 y2 y3)) (first | assumption | (refine ⟨?_, ?_⟩ <;> first | assumption | (simp [go_sem, *]; done)) | (simp [go_sem, *]; done))
            (first
              | (go_at_call_of 170 (Value.agg #[Value.slice a2 l2 d2]); refine (unhide H91a _ _ ((unhide HS7).big2.later ((Below.refl _ _).drew))).mono ?_; rintro e wB ⟨rfl, hbB⟩; have hbB' : Below wA.heap.size wA wB := (Below.refl _ _).drew.trans hbB; have HS8 := hide ((unhide HS7).later hbB'); have HR8 := hide ((unhide HR7).later hbB'); have crB := (hbB'.cell (p := ⟨w6.heap.size + 1, 0, none⟩) (World.block_lt_of_cell? _ _ cr)).trans cr; have v8 := (unhide HS8).c2; clear hbB hbB')
              | (go_at_call_of 170 (Value.agg #[Value.slice y1 y2 y3]); refine (unhide H91b wB _ (unhide HR8)).mono ?_; rintro e wC ⟨rfl, hbC⟩; have HS9 := hide ((unhide HS8).later hbC); have crC := (hbC.cell (p := ⟨w6.heap.size + 1, 0, none⟩) (World.block_lt_of_cell? _ _ crB)).trans crB; have v9 := (unhide HS9).c2; clear hbC)
              | (go_at_call 169; refine (unhide H90 wC).mono ?_; rintro e wD ⟨rfl, hbD⟩; have HS10 := hide ((unhide HS9).later hbD); have crD := (hbD.cell (p := ⟨w6.heap.size + 1, 0, none⟩) (World.block_lt_of_cell? _ _ crC)).trans crC; have v10 := (unhide HS10).c2; clear hbD)
              | (go_at_call 73; refine (unhide H68 wD).mono ?_; rintro e wE ⟨i1, i2, i3, rfl, hE, hbE⟩; have HS11 := hide ((unhide HS10).later hbE); have HGE := hide hE; have crE := (hbE.cell (p := ⟨w6.heap.size + 1, 0, none⟩) (World.block_lt_of_cell? _ _ crD)).trans crD; have v11 := (unhide HS11).c2; have v3 := (unhide HS11).c3; have g3 := (unhide HS11).f3; clear hbE hE))
          all_goals (
            go_wp2_with fail
            refine bodyPost_ret (v := .agg #[.slice i1 i2 i3]) (by simp [results, Tryz.results120, go_sem, v3]) rfl ⟨_, _, _, rfl, ?_, ?_⟩
            · rw [← unhide HV]; exact (unhide HGE).box _ v3 (no_int _ _ _)
            · exact (unhide HS11).below.setCell (by simp; omega) _))
theorem divAns (k : Nat) (hk : k ≤ 100000) : DivAns k := fun W x y m n hx hy hm hn =>
  divMod_core x y m n k W hx hy (by omega) hm hn (fun h1 h2 => long_any m n k (by omega) hm h1 h2)
theorem divOK (k : Nat) (hk : k ≤ 100000) : DivOK k := divAns k hk
theorem gcdAns (k : Nat) (hk : k ≤ 100000) : GcdAns k := fun W x y m n hx hy hm hn => gcd_any x y m n k W hx hy hk hm hn (divOK k hk)
/-- A Frac that holds a number in its one form, its parts below 1000000000 ^ k. -/
def QOf (w : World) (v : Value) (x : Rat) (k : Nat) : Prop := ∃ b n d, IsFrac w v b n d ∧ Cub.Low b n d ∧ Cub.valQ b n d = x ∧ n < 1000000000 ^ k ∧ d < 1000000000 ^ k
theorem QOf.form {w : World} {v : Value} {x : Rat} {k : Nat} (h : QOf w v x k) : ∃ b a1 l1 c1 a2 l2 c2, v = .agg #[.bool b, .slice a1 l1 c1, .slice a2 l2 c2] := by
  obtain ⟨b, n, d, h1, _⟩ := h
  obtain ⟨a1, l1, c1, a2, l2, c2, rfl, _, _⟩ := h1.form
  exact ⟨b, a1, l1, c1, a2, l2, c2, rfl⟩
/-- Does a - stand ahead? What stands behind it. -/
def isNeg (s : ByteArray) : Bool := s.data.toList.head? == some 45
def digT (s : ByteArray) : ByteArray := if isNeg s then ⟨s.data.toList.tail.toArray⟩ else s
/-- The text of a size with its sign. -/
def sT (b : Bool) (n : Nat) : ByteArray := if b then ⟨#[45]⟩ ++ tb n else tb n
theorem hasPre (l : List UInt8) : Lib.hasPrefix l [45] = (l.head? == some 45) := by
  cases l with
  | nil => rfl
  | cons a t =>
    simp [Lib.hasPrefix, List.isPrefixOf]
    rw [Bool.eq_iff_iff]
    simp
    exact eq_comm
theorem trimPre (l : List UInt8) : Lib.trimPrefix l [45] = if (l.head? == some 45) = true then l.tail else l := by
  unfold Lib.trimPrefix
  rw [hasPre]
  split <;> cases l <;> simp_all
theorem digT_list (s : ByteArray) : (digT s).data.toList = if isNeg s = true then s.data.toList.tail else s.data.toList := by
  unfold digT; split <;> rfl
theorem bytes_ext {s t : ByteArray} (h : s.data.toList = t.data.toList) : s = t := by
  apply ByteArray.ext; exact Array.ext' h
theorem cut_digT (s : ByteArray) : (⟨(Lib.trimPrefix s.data.toList [45]).toArray⟩ : ByteArray) = digT s := by
  apply bytes_ext
  rw [digT_list, mk_list, trimPre]
  rfl
theorem cutSign_any (s : ByteArray) (w : World) :
    Calls Tryz.prog 87 #[.string s] w fun e w' => e = .returned (.tuple #[.bool (isNeg s), .string (digT s)]) ∧ w' = w := by
  have H := hide (Tryz.strings_CutPrefix s ⟨#[45]⟩ w)
  have e1 : Lib.hasPrefix s.data.toList (⟨#[45]⟩ : ByteArray).data.toList = isNeg s := hasPre _
  have e2 : (⟨(Lib.trimPrefix s.data.toList (⟨#[45]⟩ : ByteArray).data.toList).toArray⟩ : ByteArray) = digT s := cut_digT s
  rw [e1, e2] at H
  clear e1 e2
  generalize isNeg s = b at *
  generalize digT s = t at *
  go_enter Tryz.func87, Tryz.ntmps87
  go_wp2_with (go_at_call 30; go_must (refine (unhide H).mono ?_; rintro e w1 ⟨rfl, rfl⟩))
  exact bodyPost_ret (v := .tuple #[.bool b, .string t]) (by simp [results, Tryz.results87, go_sem]) rfl ⟨rfl, rfl⟩
theorem signed_any (b : Bool) (s : ByteArray) (w : World) (hs : s.size ≤ 1000000) :
    Calls Tryz.prog 137 #[.bool b, .string s] w fun e w' => e = .returned (.string (if b then ⟨#[45]⟩ ++ s else s)) ∧ w' = w := by
  cases b with
  | true =>
    have hl : (⟨#[45]⟩ : ByteArray).size = 1 := rfl
    go_enter Tryz.func137, Tryz.ntmps137
    go_wp2
    go_ret
    exact ⟨rfl, rfl⟩
  | false =>
    go_enter Tryz.func137, Tryz.ntmps137
    go_wp2
    go_ret
    exact ⟨rfl, rfl⟩
theorem tb_digs (n : Nat) (h : n < 10 ^ 600) : Cub.digs (tb n).data.toList ∧ (tb n).size ≤ 600 := right_digs (tb_right n h).1
theorem neg_tb (n : Nat) (h : n < 10 ^ 600) : isNeg (tb n) = false := by
  have hd := (tb_digs n h).1
  unfold isNeg
  cases e : (tb n).data.toList with
  | nil => rfl
  | cons a t =>
    rw [e] at hd
    have := hd a (by simp)
    simp only [List.head?_cons]
    rw [show (some a == some (45 : UInt8)) = (a == 45) from rfl]
    rw [beq_eq_false_iff_ne]
    intro e45
    subst e45
    revert this
    decide
theorem sT_list (b : Bool) (n : Nat) : (sT b n).data.toList = if b = true then 45 :: (tb n).data.toList else (tb n).data.toList := by
  cases b
  · rfl
  · simp [sT]
theorem neg_sT (b : Bool) (n : Nat) (h : n < 10 ^ 600) : isNeg (sT b n) = b := by
  cases b
  · exact neg_tb n h
  · unfold isNeg; rw [sT_list]; rfl
theorem dig_sT (b : Bool) (n : Nat) (h : n < 10 ^ 600) : digT (sT b n) = tb n := by
  apply bytes_ext
  rw [digT_list, neg_sT b n h, sT_list]
  cases b <;> rfl
theorem sT_of (s : ByteArray) (n : Nat) (h : digT s = tb n) : s = sT (isNeg s) n := by
  apply bytes_ext
  rw [sT_list, ← h, digT_list]
  by_cases hn : isNeg s = true
  · rw [if_pos hn, if_pos hn]
    unfold isNeg at hn
    cases e : s.data.toList with
    | nil => rw [e] at hn; simp at hn
    | cons a t => rw [e] at hn; simp at hn; rw [hn]; rfl
  · rw [if_neg hn, if_neg hn]
theorem sT_size (b : Bool) (n : Nat) (h : n < 10 ^ 600) : (sT b n).size ≤ 601 := by
  have h1 := (tb_digs n h).2
  have h2 := list_len (sT b n)
  have h3 := list_len (tb n)
  rw [sT_list] at h2
  cases b
  · simp at h2; omega
  · simp at h2; omega
/-- A right number: its two texts. -/
structure RT (num den : ByteArray) (b : Bool) (n d : Nat) : Prop where
  num : num = sT b n
  den : den = tb d
  hn : n < 10 ^ 600
  hd : d < 10 ^ 600
  low : Cub.Low b n d
def RightT (num den : ByteArray) : Prop := ∃ b n d, RT num den b n d
theorem tb_eq48 (n : Nat) (h : n < 10 ^ 600) : ((tb n).toList == [48]) = (n == 0) := by
  by_cases h0 : n = 0
  · subst h0; rw [Lib.toList_data, tb_list 0 h, dec_zero]; rfl
  · rw [beq_eq_false_iff_ne.2 h0, beq_eq_false_iff_ne]
    intro e
    rw [Lib.toList_data] at e
    have : val (tb n) = 0 := zero_val e
    rw [show val (tb n) = n from (tb_right n h).2] at this
    exact h0 this
end Go.Proofs.YtijifpbpjinmhaaGreatDoor

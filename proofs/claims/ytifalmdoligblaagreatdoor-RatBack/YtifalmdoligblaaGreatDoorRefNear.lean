/- The document's Near. -/
import Derived.Test.YtifalmdoligblaaGreatDoorNearest
import Derived.Test.YtifalmdoligblaaGreatDoorParse1
import Derived.Deep.Cut
import Derived.Deep.RegionHeld3
import Derived.Test.YtifalmdoligblaaGreatDoorRefFPA
import Derived.Test.YtifalmdoligblaaGreatDoorFracAny
namespace Go.Proofs.YtifalmdoligblaaGreatDoor
open Go.RowKit

theorem isOdd_any (v : Value) (n : Nat) (w : World) (h : IsBig w v n) :
    Calls Tryz.prog 142 #[v] w fun e w' => e = .returned (.bool (n % 2 == 1)) ∧ Below w.heap.size w w' := by
  obtain ⟨a, l, cap, rfl, hl, hr, hn, rfl⟩ := h.form
  cases l with
  | nil =>
    have ex : (Cub.lval 1000000000 [] % 2 == 1) = false := rfl
    rw [ex]
    clear ex hn h hr
    simp only [List.length_nil] at *
    go_enter Tryz.func142, Tryz.ntmps142
    go_wp2
    go_ret
    exact ⟨rfl, (Below.refl _ _).alloc (Nat.le_refl _) _⟩
  | cons x t =>
    obtain ⟨a', cap', e, _, _, hc⟩ := hr
    simp only [Value.slice.injEq] at e
    obtain ⟨rfl, _, rfl⟩ := e
    obtain ⟨b, o, rfl, hb, hcell⟩ := hc (by simp)
    have c0 := hcell 0 (by simp)
    simp only [List.getElem_cons_zero, Nat.add_zero] at c0
    have ex : (Cub.lval 1000000000 (x :: t) % 2 == 1) = ((x : Int) % 2 == 1) := by
      rw [Bool.eq_iff_iff, beq_iff_eq, beq_iff_eq]
      simp only [Cub.lval]
      omega
    have hx : x < 18446744073709551616 := by have := hn.1 x (by simp); omega
    have hx0 : (0 : Int) ≤ (x : Int) := by omega
    have hlen : (0 : Int) < ((x :: t).length : Int) := by simp only [List.length_cons]; omega
    rw [ex]
    clear ex hn h hcell hc
    generalize (x :: t).length = len at *
    go_enter Tryz.func142, Tryz.ntmps142
    go_wp2
    go_ret
    exact ⟨by simp, (Below.refl _ _).alloc (Nat.le_refl _) _⟩

/-- The nearest whole number to N by D; of two the even one. -/
def nearN (N D : Nat) : Nat := if D < N % D + N % D ∨ (N % D + N % D = D ∧ N / D % 2 = 1) then N / D + 1 else N / D

set_option maxRecDepth 100000 in
set_option maxHeartbeats 4000000 in
theorem nearest_any (v : Value) (b : Bool) (n d N D k : Nat) (p : Int) (w : World) (h : IsFrac w v b n d) (hk : k + 1 ≤ 100000) (hp1 : -100000 ≤ p) (hp2 : p ≤ 100000) (hn : n < 1000000000 ^ k) (hd : d < 1000000000 ^ k)
    (hN : N < 1000000000 ^ k) (hD : D < 1000000000 ^ k) (hD0 : 0 < D) (hND : (p < 0 ∧ N = n ∧ D = d * 10 ^ (-p).toNat) ∨ (¬ p < 0 ∧ N = n * 10 ^ p.toNat ∧ D = d)) :
    Calls Tryz.prog 86 #[v, .int .i64 p] w fun e w' => ∃ a l c, e = .returned (.agg #[.slice a l c]) ∧ IsBig w' (.agg #[.slice a l c]) (nearN N D) ∧ Below w.heap.size w w' := by
  obtain ⟨a1, l1, c1, a2, l2, c2, rfl, h1, h2⟩ := h.form
  obtain ⟨V, hV⟩ : ∃ V, V = (w.alloc (.cells #[.bool b, .slice a1 l1 c1, .slice a2 l2 c2] 74)).alloc (.cells #[.slice none 0 0] 72) := ⟨_, rfl⟩
  have HS : Hid (NB w V (.bool b) (.slice a1 l1 c1) (.slice a2 l2 c2) []) := by rw [hV]; exact NB.first _ _ _ _
  have HV := hide hV
  have HX := hide (h1.later (unhide HS).below)
  have HY := hide (h2.later (unhide HS).below)
  have hq : N / D < 1000000000 ^ k := Nat.lt_of_le_of_lt (Nat.div_le_self _ _) hN
  have hr : N % D < 1000000000 ^ k := Nat.lt_of_le_of_lt (Nat.mod_le _ _) hN
  have h1k : 1 < 1000000000 ^ k := by
    rcases Nat.eq_zero_or_pos k with h0 | h0
    · subst h0; simp at hD; omega
    · have : (1000000000 : Nat) ^ 1 ≤ 1000000000 ^ k := Nat.pow_le_pow_right (by decide) h0
      omega
  have HSN : Hid (¬ p < 0 → ∀ W x, IsBig W x n → Calls Tryz.prog 114 #[x, .int .i64 p] W fun e w' => ∃ a l c, e = .returned (.agg #[.slice a l c]) ∧ IsBig w' (.agg #[.slice a l c]) N ∧ Below W.heap.size W w') := fun hp W x hx => by
    obtain ⟨q, hq⟩ : ∃ q : Nat, p = (q : Int) := ⟨p.toNat, by omega⟩
    rcases hND with h | h
    · exact absurd h.1 hp
    · rw [h.2.1, hq, show (q : Int).toNat = q from by omega]
      exact shift_any x n q k W hx (by omega) hn (by omega)
  have HSD : Hid (p < 0 → ∀ W x, IsBig W x d → Calls Tryz.prog 114 #[x, .int .i64 (-p)] W fun e w' => ∃ a l c, e = .returned (.agg #[.slice a l c]) ∧ IsBig w' (.agg #[.slice a l c]) D ∧ Below W.heap.size W w') := fun hp W x hx => by
    obtain ⟨q, hq⟩ : ∃ q : Nat, -p = (q : Int) := ⟨(-p).toNat, by omega⟩
    rcases hND with h | h
    · rw [h.2.2, hq, show (q : Int).toNat = q from by omega]
      exact shift_any x d q k W hx (by omega) hd (by omega)
    · exact absurd hp h.1
  have HEQ : Hid ((p < 0 → n = N) ∧ (¬ p < 0 → d = D)) := by
    rcases hND with h | h
    · exact ⟨fun _ => h.2.1.symm, fun hp => absurd h.1 hp⟩
    · exact ⟨fun hp => absurd hp h.1, fun _ => h.2.2.symm⟩
  have HDM : Hid (∀ W x y, IsBig W x N → IsBig W y D → Calls Tryz.prog 118 #[x, y] W fun e w' => ∃ a1 n1 c1 a2 n2 c2, e = .returned (.tuple #[.agg #[.slice a1 n1 c1], .agg #[.slice a2 n2 c2]]) ∧ IsBig w' (.agg #[.slice a1 n1 c1]) (N / D) ∧ IsBig w' (.agg #[.slice a2 n2 c2]) (N % D) ∧ Below W.heap.size W w') := fun W x y h1 h2 => divAns k (by omega) W x y N D h1 h2 hN hD0
  have HRES : Hid (∀ up : Bool, (up = true ↔ D < N % D + N % D ∨ (N % D + N % D = D ∧ N / D % 2 = 1)) → nearN N D = if up then N / D + 1 else N / D) := fun up hup => by
    unfold nearN
    by_cases hc : D < N % D + N % D ∨ (N % D + N % D = D ∧ N / D % 2 = 1)
    · rw [if_pos hc, if_pos (hup.2 hc)]
    · rw [if_neg hc, if_neg (fun e => hc (hup.1 e))]
  generalize N / D = Q at *
  generalize N % D = R at *
  have HAD : Hid (∀ W x, IsBig W x R → Calls Tryz.prog 140 #[x, x] W fun e w' => ∃ v, e = .returned v ∧ IsBig w' v (R + R) ∧ Below W.heap.size W w') := fun W x h => add_any x x R R k W h h (by omega) hr hr
  have HCM : Hid (∀ W x y, IsBig W x (R + R) → IsBig W y D → Calls Tryz.prog 141 #[x, y] W fun e w' => e = .returned (.int .i64 (Cub.cmpN (R + R) D)) ∧ Below W.heap.size W w') := fun W x y h1 h2 => cmp_any x y (R + R) D W h1 h2
  have HBO : Hid (∀ W, Calls Tryz.prog 112 #[.int .u64 1] W fun e w' => ∃ a l c, e = .returned (.agg #[.slice a l c]) ∧ IsBig w' (.agg #[.slice a l c]) 1 ∧ Below W.heap.size W w') := fun W => bigOf_any 1 W (by decide)
  have HA1 : Hid (∀ W x y, IsBig W x Q → IsBig W y 1 → Calls Tryz.prog 140 #[x, y] W fun e w' => ∃ v, e = .returned v ∧ IsBig w' v (Q + 1) ∧ Below W.heap.size W w') := fun W x y h1 h2 => add_any x y Q 1 k W h1 h2 (by omega) hq h1k
  obtain ⟨cm, hcm, hcr, hcz⟩ : ∃ cm : Int, Cub.cmpN (R + R) D = cm ∧ (0 < cm ↔ D < R + R) ∧ (cm = 0 ↔ R + R = D) := by
    refine ⟨_, rfl, ?_, ?_⟩ <;> (unfold Cub.cmpN; split <;> (try split) <;> omega)
  have hcl : -1 ≤ cm ∧ cm ≤ 1 := by rw [← hcm]; unfold Cub.cmpN; split <;> (try split) <;> omega
  rw [hcm] at HCM
  obtain ⟨up, hup⟩ : ∃ up : Bool, up = (decide (0 < cm) || (decide (cm = 0) && (Q % 2 == 1))) := ⟨_, rfl⟩
  have HR := hide (unhide HRES up (by rw [hup]; simp [hcr, hcz]))
  have HUP := hide hup
  rw [unhide HR]
  clear h h1 h2 hk hn hN hd hD hD0 hND hq hr h1k hcm hcr hcz hup HRES HR
  go_enter Tryz.func86, Tryz.ntmps86
  go_upto_region 1 with fail
  rw [← unhide HV]
  clear hV HV
  have t1 := (unhide HS).a.c1; have t2 := (unhide HS).a.c2
  have zl := (unhide HS).a.lt
  have zl2 : w.heap.size < V.heap.size + 1 := by omega
  have zn1 : ¬ w.heap.size = V.heap.size := by omega
  have zn2 : ¬ w.heap.size = V.heap.size + 1 := by omega
  go_cut [5, 6] from 7 (fun s5 s6 wx => ∃ g5 g6 : Nat, s5 = .pointer (some ⟨g5, 0, none⟩) ∧ s6 = .pointer (some ⟨g6, 0, none⟩) ∧ g5 ≠ g6 ∧ Hid (NB w wx (.bool b) (.slice a1 l1 c1) (.slice a2 l2 c2) [(g5, .slice a1 l1 c1), (g6, .slice a2 l2 c2)]) ∧ Hid (Below V.heap.size V wx))
  case first =>
    go_region
    all_goals go_wp2_with fail
    all_goals go_meet
    · have hb : Below V.heap.size V (((V.alloc (.cells #[.slice a1 l1 c1] 72)).alloc (.cells #[.slice a2 l2 c2] 72)).drew) := by
        have h2 := ((Below.refl V.heap.size V).alloc (Nat.le_refl _) (.cells #[.slice a1 l1 c1] 72)).alloc (by simp) (.cells #[.slice a2 l2 c2] 72); exact h2.trans (((Below.refl _ _).drew).mono h2.size)
      refine ⟨V.heap.size, V.heap.size + 1, rfl, rfl, by omega, ?_, hb⟩
      have s := ((unhide HS).push (.slice a1 l1 c1)).push (.slice a2 l2 c2)
      rw [show (V.alloc (.cells #[.slice a1 l1 c1] 72)).heap.size = V.heap.size + 1 by simp] at s
      exact (s.sub (by intro p hp; simp at hp ⊢; grind)).later ((Below.refl _ _).drew)
    · have hb : Below V.heap.size V (((V.alloc (.cells #[.slice a2 l2 c2] 72)).alloc (.cells #[.slice a1 l1 c1] 72)).drew) := by
        have h2 := ((Below.refl V.heap.size V).alloc (Nat.le_refl _) (.cells #[.slice a2 l2 c2] 72)).alloc (by simp) (.cells #[.slice a1 l1 c1] 72); exact h2.trans (((Below.refl _ _).drew).mono h2.size)
      refine ⟨V.heap.size + 1, V.heap.size, rfl, rfl, by omega, ?_, hb⟩
      have s := ((unhide HS).push (.slice a2 l2 c2)).push (.slice a1 l1 c1)
      rw [show (V.alloc (.cells #[.slice a2 l2 c2] 72)).heap.size = V.heap.size + 1 by simp] at s
      exact (s.sub (by intro p hp; simp at hp ⊢; grind)).later ((Below.refl _ _).drew)
  case rest =>
    obtain ⟨g5, g6, rfl, rfl, hne, HS1, HBX⟩ := hcut
    have HX1 := hide ((unhide HX).later (unhide HBX)); have HY1 := hide ((unhide HY).later (unhide HBX))
    clear HS HX HY HBX t1 t2 zl zl2 zn1 zn2
    go_upto_if 15 with fail
    have u5 := ((unhide HS1).bx (g5, .slice a1 l1 c1) (by simp)).c
    have u6 := ((unhide HS1).bx (g6, .slice a2 l2 c2) (by simp)).c
    dsimp only at u5 u6
    go_cut [] from 7 (fun wx => ∃ (a3 a4 : Option Addr) (l3 c3 l4 c4 : Nat), Hid (NB w wx (.bool b) (.slice a1 l1 c1) (.slice a2 l2 c2) [(g5, .slice a3 l3 c3), (g6, .slice a4 l4 c4)]) ∧ Hid (IsBig wx (.agg #[.slice a3 l3 c3]) N) ∧ Hid (IsBig wx (.agg #[.slice a4 l4 c4]) D))
    case first =>
      by_cases hp : p < 0
      · have HSX := hide (unhide HSD hp)
        have HE1 := hide ((unhide HEQ).1 hp)
        go_wp2_with (go_at_call 114; go_must (refine (unhide HSX _ _ (unhide HY1)).mono ?_; rintro e w2 ⟨a3, l3, c3, rfl, hv2, hb2⟩; have HS2 := hide ((unhide HS1).later hb2); have HX2 := hide ((unhide HX1).later hb2); have HN2 := hide hv2; clear hv2 hb2 u5 u6; have u6 := ((unhide HS2).bx (g6, .slice a2 l2 c2) (by simp)).c; have k6 := ((unhide HS2).bx (g6, .slice a2 l2 c2) (by simp)).f; dsimp only at u6 k6))
        go_meet
        refine ⟨a1, a3, l1, c1, l3, c3, ?_, ?_, ?_⟩
        · have s : NB w w2 (.bool b) (.slice a1 l1 c1) (.slice a2 l2 c2) [(g6, .slice a2 l2 c2), (g5, .slice a1 l1 c1)] := (unhide HS2).sub (by intro p hp; simp at hp ⊢; grind)
          exact (s.set (by intro p hp; simp at hp; subst hp; exact hne) (.slice a3 l3 c3)).sub (by intro p hp; simp at hp ⊢; grind)
        · have := (unhide HX2).box (.slice a3 l3 c3) u6 (not_int _ _ _)
          rw [unhide HE1] at this
          exact this
        · exact (unhide HN2).box (.slice a3 l3 c3) u6 (not_int _ _ _)
      · have HSX := hide (unhide HSN hp)
        have HE1 := hide ((unhide HEQ).2 hp)
        go_wp2_with (go_at_call 114; go_must (refine (unhide HSX _ _ (unhide HX1)).mono ?_; rintro e w2 ⟨a3, l3, c3, rfl, hv2, hb2⟩; have HS2 := hide ((unhide HS1).later hb2); have HY2 := hide ((unhide HY1).later hb2); have HN2 := hide hv2; clear hv2 hb2 u5 u6; have u5 := ((unhide HS2).bx (g5, .slice a1 l1 c1) (by simp)).c; have k5 := ((unhide HS2).bx (g5, .slice a1 l1 c1) (by simp)).f; dsimp only at u5 k5))
        go_meet
        refine ⟨a3, a2, l3, c3, l2, c2, ?_, ?_, ?_⟩
        · exact (unhide HS2).set (by intro p hp; simp at hp; subst hp; exact hne.symm) _
        · exact (unhide HN2).box (.slice a3 l3 c3) u5 (not_int _ _ _)
        · have := (unhide HY2).box (.slice a3 l3 c3) u5 (not_int _ _ _)
          rw [unhide HE1] at this
          exact this
    case rest =>
      obtain ⟨a3, a4, l3, c3, l4, c4, HS3, HN3, HY3⟩ := hcut
      clear HSN HSD HEQ HX1 HY1 HS1 u5 u6
      have u5 := ((unhide HS3).bx (g5, .slice a3 l3 c3) (by simp)).c; have u6 := ((unhide HS3).bx (g6, .slice a4 l4 c4) (by simp)).c
      dsimp only at u5 u6
      go_upto_region 6 with (go_at_call 118; go_must (refine (unhide HDM _ _ _ (unhide HN3) (unhide HY3)).mono ?_; rintro e w4 ⟨a7, l7, c7, a8, l8, c8, rfl, hq4, hr4, hb4⟩; have HS4 := hide ((unhide HS3).later hb4); have HY4 := hide ((unhide HY3).later hb4); have HQ4 := hide hq4; have HR4 := hide hr4; clear hq4 hr4 hb4 u5 u6))
      obtain ⟨V5, hV5⟩ : ∃ V5, V5 = (w4.alloc (.cells #[.slice a7 l7 c7] 72)).alloc (.cells #[.slice a8 l8 c8] 72) := ⟨_, rfl⟩
      have hb5 : Below w4.heap.size w4 V5 := by rw [hV5]; exact ((Below.refl _ _).alloc (Nat.le_refl _) _).alloc (by simp) _
      have HS5 : Hid (NB w V5 (.bool b) (.slice a1 l1 c1) (.slice a2 l2 c2) [(w4.heap.size + 1, .slice a8 l8 c8), (w4.heap.size, .slice a7 l7 c7), (g6, .slice a4 l4 c4)]) := by
        rw [hV5]
        have s := ((unhide HS4).push (.slice a7 l7 c7)).push (.slice a8 l8 c8)
        rw [show (w4.alloc (.cells #[.slice a7 l7 c7] 72)).heap.size = w4.heap.size + 1 by simp] at s
        exact s.sub (by intro p hp; simp at hp ⊢; grind)
      have HY5 := hide ((unhide HY4).later hb5); have HQ5 := hide ((unhide HQ4).later hb5); have HR5 := hide ((unhide HR4).later hb5)
      rw [← hV5]
      clear hV5 hb5 HS3 HS4 HN3 HY3 HY4 HQ4 HR4
      generalize w4.heap.size = g7 at *
      have HC : Hid (∀ U, Below V5.heap.size V5 U → (U.cell? ⟨g7 + 1, 0, none⟩ = some (.slice a8 l8 c8) ∧ U.cell? ⟨g6, 0, none⟩ = some (.slice a4 l4 c4)) ∧ U.cell? ⟨g7, 0, none⟩ = some (.slice a7 l7 c7)) := fun U hb => by
        have s := (unhide HS5).later hb
        exact ⟨⟨(s.bx (g7 + 1, .slice a8 l8 c8) (by simp)).c, (s.bx (g6, .slice a4 l4 c4) (by simp)).c⟩, (s.bx (g7, .slice a7 l7 c7) (by simp)).c⟩
      obtain ⟨⟨u8, u6⟩, _⟩ := unhide HC V5 (Below.refl _ _)
      go_region_held3 (fun w' => w'.cell? ⟨g7 + 1, 0, none⟩ = some (.slice a8 l8 c8) ∧ w'.cell? ⟨g6, 0, none⟩ = some (.slice a4 l4 c4)) (first | assumption | (refine ⟨?_, ?_⟩ <;> first | assumption | (simp [go_sem, *]; done)) | (simp [go_sem, *]; done)) ((first
        | (go_at_call 140; go_must (refine (unhide HAD _ _ ((unhide HR5).later ((Below.refl _ _).drew))).mono ?_; rintro e wa ⟨va, rfl, hva, hba⟩; obtain ⟨aa, la, ca, rfl⟩ := hva.shape; have HVA := hide hva; have HCA := hide (((Below.refl V5.heap.size V5).drew).trans hba); clear hva hba u8 u6; obtain ⟨⟨u8, u6⟩, _⟩ := unhide HC wa (unhide HCA)))
        | (go_at_call 141; go_must (refine (unhide HCM _ _ _ (unhide HVA) ((unhide HY5).later (unhide HCA))).mono ?_; rintro e wb ⟨rfl, hbb⟩; have HCB := hide ((unhide HCA).trans (hbb.mono (unhide HCA).size)); clear hbb u8 u6; obtain ⟨⟨u8, u6⟩, _⟩ := unhide HC wb (unhide HCB)))))
      have HS6 := hide ((unhide HS5).later (unhide HCB)); have HQ6 := hide ((unhide HQ5).later (unhide HCB))
      clear u8 u6 HS5 HY5 HQ5 HR5 HC HVA HCA HCB HAD HCM HDM
      go_upto_region 7 with fail
      go_cut [43] from 9 (fun s43 wx => s43 = .bool up ∧ Hid (Below wb.heap.size wb wx))
      case first =>
        have u7 := ((unhide HS6).bx (g7, .slice a7 l7 c7) (by simp)).c
        dsimp only at u7
        by_cases k1 : 0 < cm
        · have E : Hid (up = true) := by show _ = _; rw [unhide HUP, decide_eq_true k1]; rfl
          go_wp2_with fail
          go_meet
          exact ⟨by rw [unhide E], Below.refl _ _⟩
        · by_cases k2 : cm = 0
          · have E : Hid (up = (Q % 2 == 1)) := by show _ = _; rw [unhide HUP, decide_eq_false k1, decide_eq_true k2]; simp
            go_wp2_with (go_at_call 142; go_must (refine (isOdd_any _ _ _ (unhide HQ6)).mono ?_; rintro e wo ⟨rfl, hbo⟩; have HBO2 := hide hbo; clear hbo u7))
            go_meet
            exact ⟨by rw [unhide E], unhide HBO2⟩
          · have E : Hid (up = false) := by show _ = _; rw [unhide HUP, decide_eq_false k1, decide_eq_false k2]; rfl
            go_wp2_with fail
            go_meet
            exact ⟨by rw [unhide E], Below.refl _ _⟩
      case rest =>
        obtain ⟨rfl, HBC⟩ := hcut
        have HS7 := hide ((unhide HS6).later (unhide HBC)); have HQ7 := hide ((unhide HQ6).later (unhide HBC))
        clear HS6 HQ6 HBC HUP
        cases up with
        | true =>
          go_upto_region 8 with fail
          have HC : Hid (∀ U, Below wc.heap.size wc U → U.cell? ⟨g7, 0, none⟩ = some (.slice a7 l7 c7) ∧ U.cell? ⟨w.heap.size + 1, 0, none⟩ = some (.slice none 0 0) ∧ U.frozen? ⟨w.heap.size + 1, 0, none⟩ = false) := fun U hb => by
            have s := (unhide HS7).later hb
            exact ⟨(s.bx (g7, .slice a7 l7 c7) (by simp)).c, s.r.c, s.r.f⟩
          have hgt : w.heap.size + 1 < g7 := (unhide HS7).gt (g7, .slice a7 l7 c7) (by simp)
          have hn1 : ¬ g7 = w.heap.size + 1 := by omega
          have hn2 : ¬ w.heap.size + 1 = g7 := by omega
          obtain ⟨u7, _⟩ := unhide HC wc (Below.refl _ _)
          go_region_held3 (fun w' => w'.cell? ⟨g7, 0, none⟩ = some (.slice a7 l7 c7)) (first | assumption | (simp [go_sem, *]; done) | (rw [World.cell?_setCell_other _ _ _ _ (by simp; omega)]; assumption)) ((first
            | (go_at_call 112; go_must (refine (unhide HBO _).mono ?_; rintro e wd ⟨ac, lc, cc, rfl, hvc, hbc⟩; have HVC := hide hvc; have HCC := hide (((Below.refl wc.heap.size wc).drew).trans hbc); clear hvc hbc u7; obtain ⟨u7, _⟩ := unhide HC wd (unhide HCC)))
            | (go_at_call 140; go_must (refine (unhide HA1 _ _ _ ((unhide HQ7).later (unhide HCC)) (unhide HVC)).mono ?_; rintro e we ⟨vd, rfl, hvd, hbd⟩; obtain ⟨ad, ld, cd, rfl⟩ := hvd.shape; have HVD := hide hvd; have HCD := hide ((unhide HCC).trans (hbd.mono (unhide HCC).size)); clear hvd hbd u7; obtain ⟨u7, r0, rf0⟩ := unhide HC we (unhide HCD)))))
          have HS9 := hide ((unhide HS7).later (unhide HCD))
          obtain ⟨V9, hV9⟩ : ∃ V9, V9 = we.setCell ⟨w.heap.size + 1, 0, none⟩ (.slice ad ld cd) := ⟨_, rfl⟩
          have HE : Hid (IsBig V9 (.agg #[.slice ad ld cd]) (Q + 1) ∧ Below w.heap.size w V9) := by rw [hV9]; exact ⟨(unhide HVD).box _ r0 (not_int _ _ _), (unhide HS9).below.setCell (p := ⟨w.heap.size + 1, 0, none⟩) (by simp) _⟩
          have s0 : V9.cell? ⟨w.heap.size + 1, 0, none⟩ = some (.slice ad ld cd) := by rw [hV9]; exact World.cell?_setCell_same _ _ _ r0
          rw [← hV9]
          clear hV9 u7 r0 rf0 hgt hn1 hn2
          go_wp2_with fail
          exact bodyPost_ret (v := .agg #[.slice ad ld cd]) (by simp [results, Tryz.results86, go_sem, s0]) rfl ⟨_, _, _, rfl, (unhide HE).1, (unhide HE).2⟩
        | false =>
          have u7 := ((unhide HS7).bx (g7, .slice a7 l7 c7) (by simp)).c
          dsimp only at u7
          have r0 := (unhide HS7).r.c; have rf0 := (unhide HS7).r.f
          have s0 : (wc.setCell ⟨w.heap.size + 1, 0, none⟩ (.slice a7 l7 c7)).cell? ⟨w.heap.size + 1, 0, none⟩ = some (.slice a7 l7 c7) := World.cell?_setCell_same _ _ _ r0
          have HE : Hid (IsBig (wc.setCell ⟨w.heap.size + 1, 0, none⟩ (.slice a7 l7 c7)) (.agg #[.slice a7 l7 c7]) Q ∧ Below w.heap.size w (wc.setCell ⟨w.heap.size + 1, 0, none⟩ (.slice a7 l7 c7))) := ⟨(unhide HQ7).box _ r0 (not_int _ _ _), (unhide HS7).below.setCell (p := ⟨w.heap.size + 1, 0, none⟩) (by simp) _⟩
          go_wp2_with fail
          exact bodyPost_ret (v := .agg #[.slice a7 l7 c7]) (by simp [results, Tryz.results86, go_sem, s0]) rfl ⟨_, _, _, rfl, (unhide HE).1, (unhide HE).2⟩
end Go.Proofs.YtifalmdoligblaaGreatDoor

namespace Go.Proofs.YtifalmdoligblaaGreatDoor
open Go.RowKit

theorem dec_last (n : Nat) : ∃ l, Lib.decDigits n = l ++ [UInt8.ofNat (48 + n % 10)] := by
  rw [Lib.decDigits]
  split
  · exact ⟨[], by rw [Nat.mod_eq_of_lt (by assumption)]; rfl⟩
  · exact ⟨_, rfl⟩
theorem tx_last (n : Nat) : 0 < (tx n).size ∧ ∀ h : (tx n).size - 1 < (tx n).size, ((tx n)[(tx n).size - 1].toNat) = 48 + n % 10 := by
  obtain ⟨l, hl⟩ := dec_last n
  have hsz : (tx n).size = l.length + 1 := by
    rw [← list_len, tx_list, hl]; simp
  refine ⟨by omega, fun h => ?_⟩
  have e : (tx n)[(tx n).size - 1] = (tx n).data.toList[(tx n).size - 1]'(by rw [list_len]; exact h) := by
    simp [ByteArray.getElem_eq_getElem_data]
  rw [e]
  have e2 : (tx n).data.toList[(tx n).size - 1]'(by rw [list_len]; exact h) = UInt8.ofNat (48 + n % 10) := by
    apply Option.some.inj
    rw [← List.getElem?_eq_getElem, tx_list, hl, hsz]
    simp
  rw [e2, Cub.toNat_dig _ (by omega)]
end Go.Proofs.YtifalmdoligblaaGreatDoor

/- rat.Of and the document's Of. -/
import Derived.Test.YtpoapffbpgnkpaaGreatDoorAddSigned
import Derived.Test.YtpoapffbpgnkpaaGreatDoorLit2
import Derived.Test.YtpoapffbpgnkpaaGreatDoorLimb5
import Derived.Test.YtpoapffbpgnkpaaGreatDoorShelf
namespace Go.Proofs.YtpoapffbpgnkpaaGreatDoor
open Go.RowKit

/-- nat.Pow of a number's text. -/
theorem natPow_tb (N k : Nat) (w : World) (hN : N < 10 ^ 600) (hk : k ≤ 4096) (htab : Tab w) :
    Calls Tryz.prog 112 #[.string (tb N), .int .i64 (k : Int)] w fun e w' => e = .returned (.tuple #[.string (tb (N ^ k)), .int .i64 (toldErr (N ^ k))]) ∧ Below w.heap.size w w' := by
  have h := natPow_any (tb N) (k : Int) w (tb_size N hN) (by omega) (by omega) htab
  have e1 : powText (tb N) (k : Int) = toldText (N ^ k) := by
    unfold powText
    rw [if_pos (tb_right N hN).1, if_pos ⟨by omega, by omega⟩, show val (tb N) = N from (tb_right N hN).2, Int.toNat_natCast]
  have e2 : powErr (tb N) (k : Int) = toldErr (N ^ k) := by
    unfold powErr
    rw [if_pos (tb_right N hN).1, if_pos ⟨by omega, by omega⟩, show val (tb N) = N from (tb_right N hN).2, Int.toNat_natCast]
  rw [e1, e2] at h
  exact h
theorem text_tb (v : Value) (n : Nat) (w : World) (h : IsBig w v n) (hn : n < 10 ^ 600) (htab : Tab w) :
    Calls Tryz.prog 104 #[v] w fun e w' => e = .returned (.string (tb n)) ∧ Below w.heap.size w w' := by
  have := text_any v n 67 w h (by decide) (Nat.lt_of_lt_of_le hn pow600) htab
  rwa [show (⟨(Lib.decDigits n).toArray⟩ : ByteArray) = tb n from bytes_ext (by rw [tb_list n hn])] at this
theorem tell_pow {b : Bool} {N D k : Nat} (h : Cub.Low b N D) :
    ((¬ N ^ k < 10 ^ 600 ∨ ¬ D ^ k < 10 ^ 600) → numT ((Cub.valQ b N D) ^ k) = ⟨#[]⟩ ∧ denT ((Cub.valQ b N D) ^ k) = ⟨#[]⟩ ∧ errT ((Cub.valQ b N D) ^ k) = 7) ∧
    (N ^ k < 10 ^ 600 → D ^ k < 10 ^ 600 → numT ((Cub.valQ b N D) ^ k) = sT (b && decide (k % 2 = 1)) (N ^ k) ∧ denT ((Cub.valQ b N D) ^ k) = tb (D ^ k) ∧ errT ((Cub.valQ b N D) ^ k) = 0) := by
  obtain ⟨h1, h2⟩ := Cub.pow_low h k
  obtain ⟨e1, e2, e3⟩ := Cub.low_is h1
  rw [h2] at e1 e2 e3
  constructor
  · intro hn
    have : ¬ Small ((Cub.valQ b N D) ^ k) := by
      rintro ⟨s1, s2⟩
      rw [← e2] at s1
      rw [← e3] at s2
      rcases hn with hn | hn
      · exact hn s1
      · exact hn s2
    unfold numT denT errT
    rw [if_neg this, if_neg this, if_neg this]
    exact ⟨rfl, rfl, rfl⟩
  · intro s1 s2
    have : Small ((Cub.valQ b N D) ^ k) := ⟨by rw [← e2]; exact s1, by rw [← e3]; exact s2⟩
    unfold numT denT errT
    rw [if_pos this, if_pos this, if_pos this, ← e1, ← e2, ← e3]
    exact ⟨rfl, rfl, rfl⟩

set_option maxRecDepth 100000 in
set_option maxHeartbeats 4000000 in
theorem rpow_pos (n1 d1 : ByteArray) (x : Rat) (b : Bool) (N D k : Nat) (w : World) (h1 : IsR n1 d1 x) (hk : k ≤ 4096) (htab : Tab w) (hl : Cub.Low b N D) (hN : N < 10 ^ 600) (hD : D < 10 ^ 600)
    (hv : x = Cub.valQ b N D) :
    Ans 84 #[.agg #[.string n1, .string d1], .int .i64 (k : Int)] w (numT ((Cub.valQ b N D) ^ k)) (denT ((Cub.valQ b N D) ^ k)) (errT ((Cub.valQ b N D) ^ k)) := by
  unfold Ans
  obtain ⟨V, hV⟩ : ∃ V, V = (w.alloc (.cells #[.string n1, .string d1] 26)).alloc (.cells #[.string ⟨#[]⟩, .string ⟨#[]⟩] 26) := ⟨_, rfl⟩
  have HS : Hid (N1 w V (.string n1) (.string d1)) := by rw [hV]; exact N1.first _ _ _
  have HV := hide hV
  have HR := hide (qread n1 d1 x V h1)
  have HTW := hide htab
  have HL := hide hl
  have HTE := hide (tell_pow (k := k) hl)
  have HTN : Hid (∀ W v, IsBig W v N → Below w.heap.size w W → Calls Tryz.prog 104 #[v] W fun e w' => e = .returned (.string (tb N)) ∧ Below W.heap.size W w') := fun W v h hb => text_tb v N W h hN (htab.later hb)
  have HTD : Hid (∀ W v, IsBig W v D → Below w.heap.size w W → Calls Tryz.prog 104 #[v] W fun e w' => e = .returned (.string (tb D)) ∧ Below W.heap.size W w') := fun W v h hb => text_tb v D W h hD (htab.later hb)
  have HPN : Hid (∀ W, Below w.heap.size w W → Calls Tryz.prog 112 #[.string (tb N), .int .i64 (k : Int)] W fun e w' => e = .returned (.tuple #[.string (tb (N ^ k)), .int .i64 (toldErr (N ^ k))]) ∧ Below W.heap.size W w') := fun W hb => natPow_tb N k W hN hk (htab.later hb)
  have HPD : Hid (∀ W, Below w.heap.size w W → Calls Tryz.prog 112 #[.string (tb D), .int .i64 (k : Int)] W fun e w' => e = .returned (.tuple #[.string (tb (D ^ k)), .int .i64 (toldErr (D ^ k))]) ∧ Below W.heap.size W w') := fun W hb => natPow_tb D k W hD hk (htab.later hb)
  have HSG : Hid (N ^ k < 10 ^ 600 → ∀ W, Calls Tryz.prog 103 #[.bool (b && decide (k % 2 = 1)), .string (tb (N ^ k))] W fun e w' => e = .returned (.string (sT (b && decide (k % 2 = 1)) (N ^ k))) ∧ w' = W) := fun hp W => signed_any _ (tb (N ^ k)) W (by have := (tb_digs _ hp).2; omega)
  have HE1 : Hid (N ^ k < 10 ^ 600 ∧ toldErr (N ^ k) = 0 ∨ ¬ N ^ k < 10 ^ 600 ∧ toldErr (N ^ k) = 7) := by
    by_cases h : N ^ k < 10 ^ 600
    · exact Or.inl ⟨h, toldErr_pos _ h⟩
    · exact Or.inr ⟨h, toldErr_neg _ h⟩
  have HE2 : Hid (D ^ k < 10 ^ 600 ∧ toldErr (D ^ k) = 0 ∨ ¬ D ^ k < 10 ^ 600 ∧ toldErr (D ^ k) = 7) := by
    by_cases h : D ^ k < 10 ^ 600
    · exact Or.inl ⟨h, toldErr_pos _ h⟩
    · exact Or.inr ⟨h, toldErr_neg _ h⟩
  have HPAR : Hid (decide (k % 2 = 1) = ((k : Int) % 2 == 1)) := by
    show _ = _
    rw [Bool.eq_iff_iff]
    simp
    omega
  have HVQ := hide hv
  have k0 : ¬ (k : Int) < 0 := by omega
  have k1 : ¬ (4096 : Int) < (k : Int) := by omega
  have k2 : ¬ (k : Int) < -4096 := by omega
  skip
  skip
  skip
  clear h1 htab hl hN hD hv
  generalize tb N = tN at *
  generalize tb D = tD at *
  generalize hPN : tb (N ^ k) = tP at *
  generalize hPD : tb (D ^ k) = tQ at *
  generalize sT (b && decide (k % 2 = 1)) (N ^ k) = sP at *
  generalize toldErr (N ^ k) = eP at *
  generalize toldErr (D ^ k) = eQ at *
  clear hPN hPD
  go_enter Tryz.func84, Tryz.ntmps84
  go_upto_region 1 with fail
  rw [← unhide HV]
  clear hV HV
  have t0 := (unhide HS).a.c0; have t1 := (unhide HS).a.c1
  go_upto_region 2 with (go_at_call 76; go_must (refine (unhide HR).mono ?_; rintro e w1 ⟨v1, rfl, hv1, hb1⟩; obtain ⟨b1, i1, i2, i3, i4, i5, i6, rfl⟩ := hv1.form; have HS1 := hide ((unhide HS).later hb1); have HV1 := hide hv1; clear hv1 hb1 t0 t1))
  obtain ⟨V2, hV2⟩ : ∃ V2, V2 = w1.alloc (.cells #[.bool b1, .slice i1 i2 i3, .slice i4 i5 i6] 83) := ⟨_, rfl⟩
  have hb : Below w1.heap.size w1 V2 := by rw [hV2]; exact (Below.refl _ _).alloc (Nat.le_refl _) _
  have HS2 := hide ((unhide HS1).later hb); have HX := hide ((unhide HV1).later hb)
  have HP : Hid (FBox V2 w1.heap.size (.bool b1) (.slice i1 i2 i3) (.slice i4 i5 i6)) := by rw [hV2]; exact FBox.new _ _ _ _
  have hgr : w.heap.size + 1 < w1.heap.size := (unhide HS1).r.lt
  rw [← hV2]
  clear hV2 hb HS HS1 HV1 HR
  generalize w1.heap.size = g6 at *
  have t0 := (unhide HP).c0; have t1 := (unhide HP).c1; have t2 := (unhide HP).c2
  obtain ⟨U, hU⟩ : ∃ U, U = V2 := ⟨_, rfl⟩
  rw [← hU] at HX HP HS2 t0 t1 t2 ⊢
  clear hU
  rw [unhide HVQ] at HX
  have HI := hide ((unhide HX).exact (unhide HL))
  have HSS2 := HS2
  have HPP := HP
  clear t0 t1 t2
  obtain ⟨bq, hbq, hI1, hI2⟩ : ∃ bq, bq = b ∧ IsBig U (.agg #[.slice i1 i2 i3]) N ∧ IsBig U (.agg #[.slice i4 i5 i6]) D := by
    obtain ⟨s, t, e, h1, h2⟩ := unhide HI
    simp only [Value.agg.injEq, Array.mk.injEq, List.cons.injEq, Value.bool.injEq, and_true] at e
    obtain ⟨_, rfl, rfl⟩ := e
    exact ⟨b, rfl, h1, h2⟩
  have hbb : b1 = b := by
    obtain ⟨s, t, e, _, _⟩ := unhide HI
    simp only [Value.agg.injEq, Array.mk.injEq, List.cons.injEq, Value.bool.injEq, and_true] at e
    exact e.1
  subst hbb
  have HI1 := hide hI1; have HI2 := hide hI2
  clear hI1 hI2 hbq HI
  have t0 := (unhide HPP).c0; have t1 := (unhide HPP).c1; have t2 := (unhide HPP).c2
  go_upto_region 11 with (first
    | (go_at_call 104; go_must (refine (unhide HTN _ _ (unhide HI1) (unhide HSS2).below).mono ?_; rintro e w7 ⟨rfl, hb7⟩; have HS7 := hide ((unhide HSS2).later hb7); have HP7 := hide ((unhide HPP).later hb7); have HJ7 := hide ((unhide HI2).later hb7); clear hb7 t0 t1 t2))
    | (go_at_call 112; go_must (refine (unhide HPN _ (unhide HS7).below).mono ?_; rintro e w8 ⟨rfl, hb8⟩; have HS8 := hide ((unhide HS7).later hb8); have HP8 := hide ((unhide HP7).later hb8); have HJ8 := hide ((unhide HJ7).later hb8); clear hb8)))
  have r0 := (unhide HS8).r.c0; have r1 := (unhide HS8).r.c1; have rf0 := (unhide HS8).r.f0; have rf1 := (unhide HS8).r.f1
  rcases unhide HE1 with ⟨hp, rfl⟩ | ⟨hp, rfl⟩
  · have HHP := hide hp
    clear hp r0 r1 rf0 rf1
    have t0 := (unhide HP8).c0; have t1 := (unhide HP8).c1; have t2 := (unhide HP8).c2
    go_upto_region 14 with (first
      | (go_at_call 104; go_must (refine (unhide HTD _ _ (unhide HJ8) (unhide HS8).below).mono ?_; rintro e w9 ⟨rfl, hb9⟩; have HS9 := hide ((unhide HS8).later hb9); have HP9 := hide ((unhide HP8).later hb9); clear hb9 t0 t1 t2))
      | (go_at_call 112; go_must (refine (unhide HPD _ (unhide HS9).below).mono ?_; rintro e wA ⟨rfl, hbA⟩; have HSA := hide ((unhide HS9).later hbA); have HPA := hide ((unhide HP9).later hbA); clear hbA)))
    have r0 := (unhide HSA).r.c0; have r1 := (unhide HSA).r.c1; have rf0 := (unhide HSA).r.f0; have rf1 := (unhide HSA).r.f1
    rcases unhide HE2 with ⟨hq, rfl⟩ | ⟨hq, rfl⟩
    · obtain ⟨z1, z2, z3⟩ := (unhide HTE).2 (unhide HHP) hq
      have HZ := hide (And.intro z1 (And.intro z2 z3))
      have HSGW := hide (unhide HSG (unhide HHP))
      clear hq z1 z2 z3
      have hS := (unhide HSA).r.store (.string sP) (.string tQ)
      have hb : Below w.heap.size w (store2 wA (w.heap.size + 1) (.string sP) (.string tQ)) := below_store2 (unhide HSA).below (by omega) _ _
      have HU := hide hS; have HB := hide hb
      clear hS hb
      have t0 := (unhide HPA).c0
      cases b1 with
      | true =>
        rw [Bool.true_and, unhide HPAR] at HSGW
        go_wp2_with (go_at_call 103; go_must (refine (unhide HSGW _).mono ?_; rintro e wB ⟨rfl, hwB⟩; obtain rfl : wA = wB := hwB.symm))
        have u0 := (unhide HU).c0; have u1 := (unhide HU).c1
        exact bodyPost_ret (v := .tuple #[.agg #[.string sP, .string tQ], .int .i64 0]) (w := store2 wA (w.heap.size + 1) (.string sP) (.string tQ)) (by simp [results, Tryz.results84, go_sem, u0, u1]) rfl ⟨by rw [(unhide HZ).1, (unhide HZ).2.1, (unhide HZ).2.2], unhide HB⟩
      | false =>
        rw [Bool.false_and] at HSGW
        go_wp2_with (go_at_call 103; go_must (refine (unhide HSGW _).mono ?_; rintro e wB ⟨rfl, hwB⟩; obtain rfl : wA = wB := hwB.symm))
        have u0 := (unhide HU).c0; have u1 := (unhide HU).c1
        exact bodyPost_ret (v := .tuple #[.agg #[.string sP, .string tQ], .int .i64 0]) (w := store2 wA (w.heap.size + 1) (.string sP) (.string tQ)) (by simp [results, Tryz.results84, go_sem, u0, u1]) rfl ⟨by rw [(unhide HZ).1, (unhide HZ).2.1, (unhide HZ).2.2], unhide HB⟩
    · obtain ⟨z1, z2, z3⟩ := (unhide HTE).1 (Or.inr hq)
      have HZ := hide (And.intro z1 (And.intro z2 z3))
      clear hq z1 z2 z3
      go_wp2_with fail
      have hS := (unhide HSA).r.store (.string ⟨#[]⟩) (.string ⟨#[]⟩)
      have hb : Below w.heap.size w (store2 wA (w.heap.size + 1) (.string ⟨#[]⟩) (.string ⟨#[]⟩)) := below_store2 (unhide HSA).below (by omega) _ _
      have u0 := hS.c0; have u1 := hS.c1
      exact bodyPost_ret (v := .tuple #[.agg #[.string ⟨#[]⟩, .string ⟨#[]⟩], .int .i64 7]) (w := store2 wA (w.heap.size + 1) (.string ⟨#[]⟩) (.string ⟨#[]⟩)) (by simp [results, Tryz.results84, go_sem, u0, u1]) rfl ⟨by rw [(unhide HZ).1, (unhide HZ).2.1, (unhide HZ).2.2], hb⟩
  · obtain ⟨z1, z2, z3⟩ := (unhide HTE).1 (Or.inl hp)
    have HZ := hide (And.intro z1 (And.intro z2 z3))
    clear hp z1 z2 z3
    go_wp2_with fail
    have hS := (unhide HS8).r.store (.string ⟨#[]⟩) (.string ⟨#[]⟩)
    have hb : Below w.heap.size w (store2 w8 (w.heap.size + 1) (.string ⟨#[]⟩) (.string ⟨#[]⟩)) := below_store2 (unhide HS8).below (by omega) _ _
    have u0 := hS.c0; have u1 := hS.c1
    exact bodyPost_ret (v := .tuple #[.agg #[.string ⟨#[]⟩, .string ⟨#[]⟩], .int .i64 7]) (w := store2 w8 (w.heap.size + 1) (.string ⟨#[]⟩) (.string ⟨#[]⟩)) (by simp [results, Tryz.results84, go_sem, u0, u1]) rfl ⟨by rw [(unhide HZ).1, (unhide HZ).2.1, (unhide HZ).2.2], hb⟩

set_option maxRecDepth 100000 in
set_option maxHeartbeats 4000000 in
theorem rpow_neg (n1 d1 : ByteArray) (x : Rat) (b : Bool) (N D k : Nat) (w : World) (h1 : IsR n1 d1 x) (hk : k ≤ 4096) (htab : Tab w) (hl : Cub.Low b N D) (hN : N < 10 ^ 600) (hD : D < 10 ^ 600)
    (hk1 : 1 ≤ k) (hx0 : x ≠ 0) (hv : x⁻¹ = Cub.valQ b N D) :
    Ans 84 #[.agg #[.string n1, .string d1], .int .i64 (-(k : Int))] w (numT ((Cub.valQ b N D) ^ k)) (denT ((Cub.valQ b N D) ^ k)) (errT ((Cub.valQ b N D) ^ k)) := by
  unfold Ans
  obtain ⟨V, hV⟩ : ∃ V, V = (w.alloc (.cells #[.string n1, .string d1] 26)).alloc (.cells #[.string ⟨#[]⟩, .string ⟨#[]⟩] 26) := ⟨_, rfl⟩
  have HS : Hid (N1 w V (.string n1) (.string d1)) := by rw [hV]; exact N1.first _ _ _
  have HV := hide hV
  have HR := hide (qread n1 d1 x V h1)
  have HTW := hide htab
  have HL := hide hl
  have HTE := hide (tell_pow (k := k) hl)
  have HTN : Hid (∀ W v, IsBig W v N → Below w.heap.size w W → Calls Tryz.prog 104 #[v] W fun e w' => e = .returned (.string (tb N)) ∧ Below W.heap.size W w') := fun W v h hb => text_tb v N W h hN (htab.later hb)
  have HTD : Hid (∀ W v, IsBig W v D → Below w.heap.size w W → Calls Tryz.prog 104 #[v] W fun e w' => e = .returned (.string (tb D)) ∧ Below W.heap.size W w') := fun W v h hb => text_tb v D W h hD (htab.later hb)
  have HPN : Hid (∀ W, Below w.heap.size w W → Calls Tryz.prog 112 #[.string (tb N), .int .i64 (k : Int)] W fun e w' => e = .returned (.tuple #[.string (tb (N ^ k)), .int .i64 (toldErr (N ^ k))]) ∧ Below W.heap.size W w') := fun W hb => natPow_tb N k W hN hk (htab.later hb)
  have HPD : Hid (∀ W, Below w.heap.size w W → Calls Tryz.prog 112 #[.string (tb D), .int .i64 (k : Int)] W fun e w' => e = .returned (.tuple #[.string (tb (D ^ k)), .int .i64 (toldErr (D ^ k))]) ∧ Below W.heap.size W w') := fun W hb => natPow_tb D k W hD hk (htab.later hb)
  have HSG : Hid (N ^ k < 10 ^ 600 → ∀ W, Calls Tryz.prog 103 #[.bool (b && decide (k % 2 = 1)), .string (tb (N ^ k))] W fun e w' => e = .returned (.string (sT (b && decide (k % 2 = 1)) (N ^ k))) ∧ w' = W) := fun hp W => signed_any _ (tb (N ^ k)) W (by have := (tb_digs _ hp).2; omega)
  have HE1 : Hid (N ^ k < 10 ^ 600 ∧ toldErr (N ^ k) = 0 ∨ ¬ N ^ k < 10 ^ 600 ∧ toldErr (N ^ k) = 7) := by
    by_cases h : N ^ k < 10 ^ 600
    · exact Or.inl ⟨h, toldErr_pos _ h⟩
    · exact Or.inr ⟨h, toldErr_neg _ h⟩
  have HE2 : Hid (D ^ k < 10 ^ 600 ∧ toldErr (D ^ k) = 0 ∨ ¬ D ^ k < 10 ^ 600 ∧ toldErr (D ^ k) = 7) := by
    by_cases h : D ^ k < 10 ^ 600
    · exact Or.inl ⟨h, toldErr_pos _ h⟩
    · exact Or.inr ⟨h, toldErr_neg _ h⟩
  have HPAR : Hid (decide (k % 2 = 1) = ((k : Int) % 2 == 1)) := by
    show _ = _
    rw [Bool.eq_iff_iff]
    simp
    omega
  have HVQ := hide hv
  have HX0 := hide hx0
  have HSGN : Hid (∀ W v, QOf W v x 67 → ∃ sg : Int, (sg == 0) = false ∧ Calls Tryz.prog 77 #[v] W fun r w' => r = .returned (.int .i64 sg) ∧ Below W.heap.size W w') := fun W v hv => ⟨_, cmp_zero x hx0, qsign v x 67 W hv⟩
  have k0 : ¬ (k : Int) < 0 := by omega
  have k1 : ¬ (4096 : Int) < (k : Int) := by omega
  have k2 : ¬ (k : Int) < -4096 := by omega
  have k3 : -(k : Int) < 0 := by omega
  have k4 : ¬ -(k : Int) < -4096 := by omega
  have k5 : ¬ (4096 : Int) < -(k : Int) := by omega
  clear h1 htab hl hN hD hv hx0
  generalize tb N = tN at *
  generalize tb D = tD at *
  generalize hPN : tb (N ^ k) = tP at *
  generalize hPD : tb (D ^ k) = tQ at *
  generalize sT (b && decide (k % 2 = 1)) (N ^ k) = sP at *
  generalize toldErr (N ^ k) = eP at *
  generalize toldErr (D ^ k) = eQ at *
  clear hPN hPD
  go_enter Tryz.func84, Tryz.ntmps84
  go_upto_region 1 with fail
  rw [← unhide HV]
  clear hV HV
  have t0 := (unhide HS).a.c0; have t1 := (unhide HS).a.c1
  go_upto_region 2 with (go_at_call 76; go_must (refine (unhide HR).mono ?_; rintro e w1 ⟨v1, rfl, hv1, hb1⟩; obtain ⟨b1, i1, i2, i3, i4, i5, i6, rfl⟩ := hv1.form; have HS1 := hide ((unhide HS).later hb1); have HV1 := hide hv1; clear hv1 hb1 t0 t1))
  obtain ⟨V2, hV2⟩ : ∃ V2, V2 = w1.alloc (.cells #[.bool b1, .slice i1 i2 i3, .slice i4 i5 i6] 83) := ⟨_, rfl⟩
  have hb : Below w1.heap.size w1 V2 := by rw [hV2]; exact (Below.refl _ _).alloc (Nat.le_refl _) _
  have HS2 := hide ((unhide HS1).later hb); have HX := hide ((unhide HV1).later hb)
  have HP : Hid (FBox V2 w1.heap.size (.bool b1) (.slice i1 i2 i3) (.slice i4 i5 i6)) := by rw [hV2]; exact FBox.new _ _ _ _
  have hgr : w.heap.size + 1 < w1.heap.size := (unhide HS1).r.lt
  rw [← hV2]
  clear hV2 hb HS HS1 HV1 HR
  generalize w1.heap.size = g6 at *
  have t0 := (unhide HP).c0; have t1 := (unhide HP).c1; have t2 := (unhide HP).c2
  obtain ⟨sg, hsg, hq⟩ := unhide HSGN V2 _ (unhide HX)
  have HSS := hide hq
  clear hq
  go_upto_region 9 with (go_at_call 77; go_must (refine (unhide HSS).mono ?_; rintro e w3 ⟨rfl, hb3⟩; have HX3 := hide ((unhide HX).later hb3); have HS3 := hide ((unhide HS2).later hb3); have HP3 := hide ((unhide HP).later hb3); clear hb3 t0 t1 t2; have t0 := (unhide HP3).c0; have t1 := (unhide HP3).c1; have t2 := (unhide HP3).c2))
  clear HS2 HX HP
  go_upto_region 10 with (go_at_call 111; go_must (refine (qinv _ x 67 _ (unhide HX3) (unhide HX0)).mono ?_; rintro e w4 ⟨v4, rfl, hv4, hb4⟩; obtain ⟨b4, o1, o2, o3, o4, o5, o6, rfl⟩ := hv4.form; have HX4 := hide hv4; have HS4 := hide ((unhide HS3).later hb4); have HP4 := hide ((unhide HP3).later hb4); clear hv4 hb4 t0 t1 t2; have r0 := (unhide HP4).c0; have r1 := (unhide HP4).c1; have r2 := (unhide HP4).c2; have rf0 := (unhide HP4).f0; have rf1 := (unhide HP4).f1; have rf2 := (unhide HP4).f2))
  obtain ⟨V5, hV5⟩ : ∃ V5, V5 = store3 w4 g6 (.bool b4) (.slice o1 o2 o3) (.slice o4 o5 o6) := ⟨_, rfl⟩
  have hV5' : V5 = ((w4.setCell ⟨g6, 0, none⟩ (.bool b4)).setCell ⟨g6, 1, none⟩ (.slice o1 o2 o3)).setCell ⟨g6, 2, none⟩ (.slice o4 o5 o6) := hV5
  have HX5 := hide ((unhide HX4).stored (unhide HP4))
  have HP5 := hide ((unhide HP4).store (.bool b4) (.slice o1 o2 o3) (.slice o4 o5 o6))
  have HS5 : Hid (N1 w (store3 w4 g6 (.bool b4) (.slice o1 o2 o3) (.slice o4 o5 o6)) (.string n1) (.string d1)) := ⟨(unhide HS4).a.other3 (by omega) _ _ _, (unhide HS4).r.other3 (by omega) _ _ _, below_store3 (unhide HS4).below (by omega) _ _ _⟩
  rw [← hV5] at HX5 HP5 HS5
  rw [← hV5']
  clear hV5 hV5' HX3 HX4 HS3 HS4 HP3 HP4 r0 r1 r2 rf0 rf1 rf2
  obtain ⟨U, hU⟩ : ∃ U, U = V5 := ⟨_, rfl⟩
  rw [← hU] at HX5 HP5 HS5 ⊢
  clear hU
  rw [unhide HVQ] at HX5
  have HI := hide ((unhide HX5).exact (unhide HL))
  have HSS2 := HS5
  have HPP := HP5
  obtain ⟨bq, hbq, hI1, hI2⟩ : ∃ bq, bq = b ∧ IsBig U (.agg #[.slice o1 o2 o3]) N ∧ IsBig U (.agg #[.slice o4 o5 o6]) D := by
    obtain ⟨s, t, e, h1, h2⟩ := unhide HI
    simp only [Value.agg.injEq, Array.mk.injEq, List.cons.injEq, Value.bool.injEq, and_true] at e
    obtain ⟨_, rfl, rfl⟩ := e
    exact ⟨b, rfl, h1, h2⟩
  have hbb : b4 = b := by
    obtain ⟨s, t, e, _, _⟩ := unhide HI
    simp only [Value.agg.injEq, Array.mk.injEq, List.cons.injEq, Value.bool.injEq, and_true] at e
    exact e.1
  subst hbb
  have HI1 := hide hI1; have HI2 := hide hI2
  clear hI1 hI2 hbq HI
  have t0 := (unhide HPP).c0; have t1 := (unhide HPP).c1; have t2 := (unhide HPP).c2
  go_upto_region 11 with (first
    | (go_at_call 104; go_must (refine (unhide HTN _ _ (unhide HI1) (unhide HSS2).below).mono ?_; rintro e w7 ⟨rfl, hb7⟩; have HS7 := hide ((unhide HSS2).later hb7); have HP7 := hide ((unhide HPP).later hb7); have HJ7 := hide ((unhide HI2).later hb7); clear hb7 t0 t1 t2))
    | (go_at_call 112; go_must (refine (unhide HPN _ (unhide HS7).below).mono ?_; rintro e w8 ⟨rfl, hb8⟩; have HS8 := hide ((unhide HS7).later hb8); have HP8 := hide ((unhide HP7).later hb8); have HJ8 := hide ((unhide HJ7).later hb8); clear hb8)))
  have r0 := (unhide HS8).r.c0; have r1 := (unhide HS8).r.c1; have rf0 := (unhide HS8).r.f0; have rf1 := (unhide HS8).r.f1
  rcases unhide HE1 with ⟨hp, rfl⟩ | ⟨hp, rfl⟩
  · have HHP := hide hp
    clear hp r0 r1 rf0 rf1
    have t0 := (unhide HP8).c0; have t1 := (unhide HP8).c1; have t2 := (unhide HP8).c2
    go_upto_region 14 with (first
      | (go_at_call 104; go_must (refine (unhide HTD _ _ (unhide HJ8) (unhide HS8).below).mono ?_; rintro e w9 ⟨rfl, hb9⟩; have HS9 := hide ((unhide HS8).later hb9); have HP9 := hide ((unhide HP8).later hb9); clear hb9 t0 t1 t2))
      | (go_at_call 112; go_must (refine (unhide HPD _ (unhide HS9).below).mono ?_; rintro e wA ⟨rfl, hbA⟩; have HSA := hide ((unhide HS9).later hbA); have HPA := hide ((unhide HP9).later hbA); clear hbA)))
    have r0 := (unhide HSA).r.c0; have r1 := (unhide HSA).r.c1; have rf0 := (unhide HSA).r.f0; have rf1 := (unhide HSA).r.f1
    rcases unhide HE2 with ⟨hq, rfl⟩ | ⟨hq, rfl⟩
    · obtain ⟨z1, z2, z3⟩ := (unhide HTE).2 (unhide HHP) hq
      have HZ := hide (And.intro z1 (And.intro z2 z3))
      have HSGW := hide (unhide HSG (unhide HHP))
      clear hq z1 z2 z3
      have hS := (unhide HSA).r.store (.string sP) (.string tQ)
      have hb : Below w.heap.size w (store2 wA (w.heap.size + 1) (.string sP) (.string tQ)) := below_store2 (unhide HSA).below (by omega) _ _
      have HU := hide hS; have HB := hide hb
      clear hS hb
      have t0 := (unhide HPA).c0
      cases b4 with
      | true =>
        rw [Bool.true_and, unhide HPAR] at HSGW
        go_wp2_with (go_at_call 103; go_must (refine (unhide HSGW _).mono ?_; rintro e wB ⟨rfl, hwB⟩; obtain rfl : wA = wB := hwB.symm))
        have u0 := (unhide HU).c0; have u1 := (unhide HU).c1
        exact bodyPost_ret (v := .tuple #[.agg #[.string sP, .string tQ], .int .i64 0]) (w := store2 wA (w.heap.size + 1) (.string sP) (.string tQ)) (by simp [results, Tryz.results84, go_sem, u0, u1]) rfl ⟨by rw [(unhide HZ).1, (unhide HZ).2.1, (unhide HZ).2.2], unhide HB⟩
      | false =>
        rw [Bool.false_and] at HSGW
        go_wp2_with (go_at_call 103; go_must (refine (unhide HSGW _).mono ?_; rintro e wB ⟨rfl, hwB⟩; obtain rfl : wA = wB := hwB.symm))
        have u0 := (unhide HU).c0; have u1 := (unhide HU).c1
        exact bodyPost_ret (v := .tuple #[.agg #[.string sP, .string tQ], .int .i64 0]) (w := store2 wA (w.heap.size + 1) (.string sP) (.string tQ)) (by simp [results, Tryz.results84, go_sem, u0, u1]) rfl ⟨by rw [(unhide HZ).1, (unhide HZ).2.1, (unhide HZ).2.2], unhide HB⟩
    · obtain ⟨z1, z2, z3⟩ := (unhide HTE).1 (Or.inr hq)
      have HZ := hide (And.intro z1 (And.intro z2 z3))
      clear hq z1 z2 z3
      go_wp2_with fail
      have hS := (unhide HSA).r.store (.string ⟨#[]⟩) (.string ⟨#[]⟩)
      have hb : Below w.heap.size w (store2 wA (w.heap.size + 1) (.string ⟨#[]⟩) (.string ⟨#[]⟩)) := below_store2 (unhide HSA).below (by omega) _ _
      have u0 := hS.c0; have u1 := hS.c1
      exact bodyPost_ret (v := .tuple #[.agg #[.string ⟨#[]⟩, .string ⟨#[]⟩], .int .i64 7]) (w := store2 wA (w.heap.size + 1) (.string ⟨#[]⟩) (.string ⟨#[]⟩)) (by simp [results, Tryz.results84, go_sem, u0, u1]) rfl ⟨by rw [(unhide HZ).1, (unhide HZ).2.1, (unhide HZ).2.2], hb⟩
  · obtain ⟨z1, z2, z3⟩ := (unhide HTE).1 (Or.inl hp)
    have HZ := hide (And.intro z1 (And.intro z2 z3))
    clear hp z1 z2 z3
    go_wp2_with fail
    have hS := (unhide HS8).r.store (.string ⟨#[]⟩) (.string ⟨#[]⟩)
    have hb : Below w.heap.size w (store2 w8 (w.heap.size + 1) (.string ⟨#[]⟩) (.string ⟨#[]⟩)) := below_store2 (unhide HS8).below (by omega) _ _
    have u0 := hS.c0; have u1 := hS.c1
    exact bodyPost_ret (v := .tuple #[.agg #[.string ⟨#[]⟩, .string ⟨#[]⟩], .int .i64 7]) (w := store2 w8 (w.heap.size + 1) (.string ⟨#[]⟩) (.string ⟨#[]⟩)) (by simp [results, Tryz.results84, go_sem, u0, u1]) rfl ⟨by rw [(unhide HZ).1, (unhide HZ).2.1, (unhide HZ).2.2], hb⟩

/-- rat.Pow of a number to any power. -/
theorem rpow_ok (n1 d1 : ByteArray) (x : Rat) (j : Int) (w : World) (h1 : IsR n1 d1 x) (hj1 : -4096 ≤ j) (hj2 : j ≤ 4096) (hx0 : x ≠ 0) (htab : Tab w) :
    Ans 84 #[.agg #[.string n1, .string d1], .int .i64 j] w (numT (Cub.pw x j)) (denT (Cub.pw x j)) (errT (Cub.pw x j)) := by
  obtain ⟨l1, l2⟩ := Cub.low_of x
  have r := h1.rt
  unfold Cub.pw
  by_cases hj : j < 0
  · rw [if_pos hj]
    obtain ⟨k, hk⟩ : ∃ k : Nat, j = -(k : Int) := ⟨(-j).toNat, by omega⟩
    have e : (-j).toNat = k := by omega
    rw [e, hk]
    have hn : x.num.natAbs ≠ 0 := by
      intro h0
      apply hx0
      exact Rat.num_eq_zero.1 (by omega)
    obtain ⟨m1, m2⟩ := Cub.inv_low l1 hn
    rw [l2] at m2
    rw [← m2]
    exact rpow_neg n1 d1 x _ _ _ k w h1 (by omega) htab m1 r.hd r.hn (by omega) hx0 m2.symm
  · rw [if_neg hj]
    obtain ⟨k, hk⟩ : ∃ k : Nat, j = (k : Int) := ⟨j.toNat, by omega⟩
    have e : j.toNat = k := by omega
    rw [e, hk]
    have := rpow_pos n1 d1 x _ _ _ k w h1 (by omega) htab l1 r.hn r.hd l2.symm
    rwa [l2] at this
end Go.Proofs.YtpoapffbpgnkpaaGreatDoor

namespace Go.Proofs.YtpoapffbpgnkpaaGreatDoor
open Go.RowKit Go.Sort

theorem below_grow (w : World) (k : Nat) (os : Array Obj) : Below w.heap.size w (grow (w.drewN k) os) := by
  refine ⟨rfl, rfl, rfl, ?_, fun i hi => ?_⟩
  · simp [grow, World.drewN]
  · simp only [grow]
    rw [Array.getElem?_append_left (by simpa [World.drewN] using hi)]; rfl

set_option maxHeartbeats 6400000 in
set_option maxRecDepth 100000 in
theorem intFormatUint_any (u : Nat) (hu64 : u < 18446744073709551616) (w : World) (htab : Tab w) :
    Calls Tryz.prog 166 #[.int .u64 u, .int .i64 10] w fun e w' => e = .returned (.string ⟨(Lib.decDigits u).toArray⟩) ∧ Below w.heap.size w w' := by
  by_cases hs : u < 100
  · clear htab
    go_enter Tryz.func166, Tryz.ntmps166
    go_wp2_with (go_at_call 174; refine (Tryz.internal_strconv_small u hs _).mono ?_; rintro e w' ⟨rfl, rfl⟩)
    go_ret
    exact ⟨rfl, Below.refl _ _⟩
  · have hu1 : 1 ≤ u := by omega
    have hnd20 : Lib.nDigits u ≤ 20 := by have := Lib.numDigits_eq u hu1 hu64; split at this <;> omega
    have hal : Tryz.prog.arrayLen 193 = 24 := by kernel_rfl
    have hsl : ∀ W, (Instr.sliceAt 193 (.pointer (some ⟨w.heap.size, 0, none⟩)) none (some (.int .i64 (Lib.nDigits u : Int))) none).run Tryz.prog W = .ok (.slice (some ⟨w.heap.size, 0, none⟩) (Lib.nDigits u) 24) W := fun W => by
      rw [run_sliceAt_array_h W 193 ⟨w.heap.size, 0, none⟩ (by kernel_rfl) .i64 (Lib.nDigits u : Int) (by omega) (by rw [hal]; omega)]
      go_simp
    have hH0 := Lib.holds_zero0 w 193 (Lib.nDigits u) (by omega)
    have hfmt := Tryz.internal_strconv_formatBase10 w.heap.size 0 24 u (Array.replicate (Lib.nDigits u) 0) (w.alloc (.cells Lib.zeros24 193)) hH0 (by rw [Array.size_replicate]; exact Lib.lt_pow_nDigits u) hu64 (by rw [Array.size_replicate]; omega)
    rw [Array.size_replicate] at hfmt
    have HH0 := Lib.hid hH0
    have HT := hide htab
    have iu : (100 : Int) ≤ (u : Int) := by omega
    clear hH0 hal htab
    go_enter Tryz.func166, Tryz.ntmps166
    go_wp2_with (first
      | (go_at_call 175; refine (Tryz.internal_strconv_numDigits u hu1 hu64 _ (Lib.tabIs_alloc (unhide HT) _)).mono ?_; rintro e w' ⟨rfl, rfl⟩))
    go_at_call 176
    refine hfmt.mono ?_
    rintro e w' ⟨rfl, k, v', dk, rfl, hF⟩
    have hcv : (convert 161 9 (.slice (some ⟨w.heap.size, 0, none⟩) (Lib.nDigits u) 24)).run Tryz.prog ((putRow (fun (b : UInt8) => Value.int .u8 (b.toNat : Int)) (w.alloc (.cells Lib.zeros24 193)) w.heap.size 0 dk).drewN k) = .ok (.string ⟨(Lib.decDigits u).toArray⟩) ((putRow (fun (b : UInt8) => Value.int .u8 (b.toNat : Int)) (w.alloc (.cells Lib.zeros24 193)) w.heap.size 0 dk).drewN k) := by
      have h := run_convert_bytes_back (P := Tryz.prog) ((putRow (fun (b : UInt8) => Value.int .u8 (b.toNat : Int)) (w.alloc (.cells Lib.zeros24 193)) w.heap.size 0 dk).drewN k) 161 9 5 ⟨w.heap.size, 0, none⟩ 24 (Lib.decDigits u) Tryz.underlying161 Tryz.underlying5 Tryz.underlying9 (fun j hj => by
        rw [Lib.row_is_numeral hF j hj, Lib.add_plain, World.cell?_drewN]
        exact cell?_putRow (fun (b : UInt8) => Value.int .u8 (b.toNat : Int)) _ w.heap.size 0 _ dk HH0.out (by rw [hF.size, Array.size_replicate]) j (by rw [hF.size]; rw [Lib.decDigits_length] at hj; exact hj))
      rw [Lib.decDigits_length] at h
      exact h
    go_wp2
    go_ret
    refine ⟨rfl, ?_⟩
    obtain ⟨os', _, e⟩ := putRow_grow_new (fun (b : UInt8) => Value.int .u8 (b.toNat : Int)) w #[.cells Lib.zeros24 193] w.heap.size 0 dk (Nat.le_refl _)
    have e2 : (putRow (fun (b : UInt8) => Value.int .u8 (b.toNat : Int)) (w.alloc (.cells Lib.zeros24 193)) w.heap.size 0 dk).drewN k = grow (w.drewN k) os' := by
      rw [alloc_eq_grow, e]; rfl
    rw [e2]
    exact below_grow w k os'

theorem formatUint_any (u : Nat) (hu64 : u < 18446744073709551616) (w : World) (htab : Tab w) :
    Calls Tryz.prog 143 #[.int .u64 u, .int .i64 10] w fun e w' => e = .returned (.string ⟨(Lib.decDigits u).toArray⟩) ∧ Below w.heap.size w w' := by
  have HT := hide htab
  clear htab
  go_enter Tryz.func143, Tryz.ntmps143
  go_wp2_with (go_at_call 166; refine (intFormatUint_any u hu64 _ (unhide HT)).mono ?_; rintro e w' ⟨rfl, hb⟩)
  go_ret
  exact ⟨rfl, hb⟩
theorem natOf_any (u : Nat) (hu64 : u < 18446744073709551616) (w : World) (htab : Tab w) :
    Calls Tryz.prog 113 #[.int .u64 u] w fun e w' => e = .returned (.string ⟨(Lib.decDigits u).toArray⟩) ∧ Below w.heap.size w w' := by
  have HT := hide htab
  clear htab
  go_enter Tryz.func113, Tryz.ntmps113
  go_wp2_with (go_at_call 143; refine (formatUint_any u hu64 _ (unhide HT)).mono ?_; rintro e w' ⟨rfl, hb⟩)
  go_ret
  exact ⟨rfl, hb⟩
end Go.Proofs.YtpoapffbpgnkpaaGreatDoor

namespace Go.Proofs.YtpoapffbpgnkpaaGreatDoor
open Go.RowKit

theorem pow_grow (e : Nat) (he : 20 ≤ e) : 18446744073709551616 ≤ 10 ^ e := Nat.le_trans (by decide : 18446744073709551616 ≤ 10 ^ 20) (Nat.pow_le_pow_right (by decide) he)
theorem u64_600 (N : Nat) (h : N < 18446744073709551616) : N < 10 ^ 600 := Nat.lt_of_lt_of_le h (pow_grow 600 (by decide))
set_option maxRecDepth 100000 in
set_option maxHeartbeats 2000000 in
theorem ratOf_pos (N : Nat) (w : World) (h2 : N < 9223372036854775808) (htab : Tab w) :
    Calls Tryz.prog 85 #[.int .i64 (N : Int)] w fun r w' => r = .returned (.agg #[.string (sT false N), .string ⟨#[49]⟩]) ∧ Below w.heap.size w w' := by
  obtain ⟨V, hV⟩ : ∃ V, V = w.alloc (.cells #[.string ⟨#[]⟩, .string ⟨#[]⟩] 26) := ⟨_, rfl⟩
  have hbV : Below w.heap.size w V := by rw [hV]; exact (Below.refl _ _).alloc (Nat.le_refl _) _
  have HR : Hid (T2 V w.heap.size (.string ⟨#[]⟩) (.string ⟨#[]⟩) ∧ Below w.heap.size w V) := ⟨by rw [hV]; exact ⟨by simp [go_sem], by simp [go_sem], by simp [go_sem], by simp [go_sem]⟩, hbV⟩
  have HV := hide hV
  have hN : N < 10 ^ 600 := u64_600 N (by omega)
  have HOF : Hid (Calls Tryz.prog 113 #[.int .u64 (N : Int)] V fun e w' => e = .returned (.string (tb N)) ∧ Below V.heap.size V w') := by
    have := natOf_any N (by omega) V (htab.later hbV)
    rwa [show (⟨(Lib.decDigits N).toArray⟩ : ByteArray) = tb N from bytes_ext (by rw [tb_list N hN])] at this
  have HSG : Hid (∀ W, Calls Tryz.prog 103 #[.bool false, .string (tb N)] W fun e w' => e = .returned (.string (sT false N)) ∧ w' = W) := fun W => signed_any false (tb N) W (by have := (tb_digs N hN).2; omega)
  have k0 : ¬ (N : Int) < 0 := by omega
  skip
  skip
  clear hN htab hbV
  generalize sT false N = sn at *
  generalize tb N = tn at *
  go_enter Tryz.func85, Tryz.ntmps85
  go_upto_region 4 with fail
  skip
  rw [← unhide HV]
  clear hV HV
  go_wp2_with (first
    | (go_at_call 113; go_must (refine (unhide HOF).mono ?_; rintro e W9 ⟨rfl, hb1⟩; have HR1 : Hid (T2 W9 w.heap.size (.string ⟨#[]⟩) (.string ⟨#[]⟩) ∧ Below w.heap.size w W9) := ⟨(unhide HR).1.later hb1, (unhide HR).2.trans (hb1.mono (unhide HR).2.size)⟩; clear hb1))
    | (go_at_call 103; go_must (refine (unhide HSG _).mono ?_; rintro e wB ⟨rfl, hwB⟩; obtain rfl : W9 = wB := hwB.symm; have r0 := (unhide HR1).1.c0; have r1 := (unhide HR1).1.c1; have rf0 := (unhide HR1).1.f0; have rf1 := (unhide HR1).1.f1)))
  have hS := (unhide HR1).1.store (.string sn) (.string ⟨#[49]⟩)
  have hb : Below w.heap.size w (store2 W9 w.heap.size (.string sn) (.string ⟨#[49]⟩)) := below_store2 (unhide HR1).2 (Nat.le_refl _) _ _
  have u0 := hS.c0; have u1 := hS.c1
  exact bodyPost_ret (v := .agg #[.string sn, .string ⟨#[49]⟩]) (w := store2 W9 w.heap.size (.string sn) (.string ⟨#[49]⟩)) (by simp [results, Tryz.results85, go_sem, u0, u1]) rfl ⟨rfl, hb⟩

end Go.Proofs.YtpoapffbpgnkpaaGreatDoor

/- Frac.Cmp. -/
import Derived.Test.YtndhinoomlofgaaGreatDoorMul
import Derived.Test.YtndhinoomlofgaaGreatDoorCmp
import Derived.Test.YtndhinoomlofgaaGreatDoorNeg
import Derived.Test.YtndhinoomlofgaaGreatDoorGcdSmall
namespace Go.Proofs.YtndhinoomlofgaaGreatDoor
open Go.RowKit

/-- Two Fracs in their boxes. -/
structure F2 (w W : World) (x0 x1 x2 y0 y1 y2 : Value) : Prop where
  x : FBox W w.heap.size x0 x1 x2
  y : FBox W (w.heap.size + 1) y0 y1 y2
  below : Below w.heap.size w W
theorem F2.later {w W V : World} {x0 x1 x2 y0 y1 y2 : Value} (s : F2 w W x0 x1 x2 y0 y1 y2) (hb : Below W.heap.size W V) : F2 w V x0 x1 x2 y0 y1 y2 :=
  ⟨s.x.later hb, s.y.later hb, s.below.trans (hb.mono s.below.size)⟩
theorem F2.first (w : World) (x0 x1 x2 y0 y1 y2 : Value) : F2 w ((w.alloc (.cells #[x0, x1, x2] 74)).alloc (.cells #[y0, y1, y2] 74)) x0 x1 x2 y0 y1 y2 :=
  ⟨⟨by simp [go_sem], by simp [go_sem], by simp [go_sem], by simp [go_sem], by simp [go_sem], by simp [go_sem]⟩, ⟨by simp [go_sem], by simp [go_sem], by simp [go_sem], by simp [go_sem], by simp [go_sem], by simp [go_sem]⟩,
    ((Below.refl _ _).alloc (Nat.le_refl _) _).alloc (by simp) _⟩
theorem signI_val {b : Bool} {n d : Nat} (h : Cub.Low b n d) : signI b n = Cub.cmpQ (Cub.valQ b n d) 0 := Cub.sign_val h

set_option maxRecDepth 100000 in
set_option maxHeartbeats 2000000 in
theorem fcmp_any (x y : Value) (b c : Bool) (n d m e k : Nat) (w : World) (hx : IsFrac w x b n d) (hy : IsFrac w y c m e) (h1 : Cub.Low b n d) (h2 : Cub.Low c m e) (hk : k ≤ 1000000)
    (hn : n < 1000000000 ^ k) (hd : d < 1000000000 ^ k) (hm : m < 1000000000 ^ k) (he : e < 1000000000 ^ k) :
    Calls Tryz.prog 112 #[x, y] w fun r w' => r = .returned (.int .i64 (Cub.cmpQ (Cub.valQ b n d) (Cub.valQ c m e))) ∧ Below w.heap.size w w' := by
  obtain ⟨a1, l1, c1, a2, l2, c2, rfl, hx1, hx2⟩ := hx.form
  obtain ⟨a3, l3, c3, a4, l4, c4, rfl, hy1, hy2⟩ := hy.form
  obtain ⟨V, hV⟩ : ∃ V, V = ((w.alloc (.cells #[.bool b, .slice a1 l1 c1, .slice a2 l2 c2] 74)).alloc (.cells #[.bool c, .slice a3 l3 c3, .slice a4 l4 c4] 74)) := ⟨_, rfl⟩
  have HS : Hid (F2 w V (.bool b) (.slice a1 l1 c1) (.slice a2 l2 c2) (.bool c) (.slice a3 l3 c3) (.slice a4 l4 c4)) := by rw [hV]; exact F2.first _ _ _ _ _ _ _
  have HX := hide (hx.later (unhide HS).below)
  have HY := hide (hy.later (unhide HS).below)
  have HX1 := hide (hx1.later (unhide HS).below)
  have HX2 := hide (hx2.later (unhide HS).below)
  have HY1 := hide (hy1.later (unhide HS).below)
  have HY2 := hide (hy2.later (unhide HS).below)
  have HV := hide hV
  obtain ⟨s, hs⟩ : ∃ s, s = signI b n := ⟨_, rfl⟩
  obtain ⟨t, ht⟩ : ∃ t, t = signI c m := ⟨_, rfl⟩
  have H97x : Hid (∀ W (z : Later W), Below V.heap.size V W → Calls Tryz.prog 99 #[.agg #[.bool b, .slice a1 l1 c1, .slice a2 l2 c2]] z.world fun r w' => r = .returned (.int .i64 s) ∧ Below z.world.heap.size z.world w') := fun W z hb => by
    rw [hs]; exact sign_any _ b n d z.world ((unhide HX).later (hb.trans (z.below.mono hb.size)))
  have H97y : Hid (∀ W (z : Later W), Below V.heap.size V W → Calls Tryz.prog 99 #[.agg #[.bool c, .slice a3 l3 c3, .slice a4 l4 c4]] z.world fun r w' => r = .returned (.int .i64 t) ∧ Below z.world.heap.size z.world w') := fun W z hb => by
    rw [ht]; exact sign_any _ c m e z.world ((unhide HY).later (hb.trans (z.below.mono hb.size)))
  have HMA : Hid (∀ W, Below V.heap.size V W → Calls Tryz.prog 149 #[.agg #[.slice a1 l1 c1], .agg #[.slice a4 l4 c4]] W fun r w' => ∃ v, r = .returned v ∧ IsBig w' v (n * e) ∧ Below W.heap.size W w') := fun W hb =>
    mul_any _ _ n e k W ((unhide HX1).later hb) ((unhide HY2).later hb) hk hn he
  have HMB : Hid (∀ W, Below V.heap.size V W → Calls Tryz.prog 149 #[.agg #[.slice a3 l3 c3], .agg #[.slice a2 l2 c2]] W fun r w' => ∃ v, r = .returned v ∧ IsBig w' v (m * d) ∧ Below W.heap.size W w') := fun W hb =>
    mul_any _ _ m d k W ((unhide HY1).later hb) ((unhide HX2).later hb) hk hm hd
  have HFIX : Hid (∀ W (z : Later W), Below V.heap.size V W → F2 w z.world (.bool b) (.slice a1 l1 c1) (.slice a2 l2 c2) (.bool c) (.slice a3 l3 c3) (.slice a4 l4 c4)) := fun W z hb => (unhide HS).later (hb.trans (z.below.mono hb.size))
  have hr : -1 ≤ s ∧ s ≤ 1 := by rw [hs]; unfold signI; split <;> (try split) <;> omega
  have hr' : -1 ≤ t ∧ t ≤ 1 := by rw [ht]; unfold signI; split <;> (try split) <;> omega
  have HR : Hid (s ≠ t → Cub.cmpQ (Cub.valQ b n d) (Cub.valQ c m e) = if s < t then -1 else 1) := fun hne => by
    have e1 := signI_val h1; have e2 := signI_val h2
    rw [← hs] at e1; rw [← ht] at e2
    rw [e1, e2] at hne ⊢
    exact Cub.cmp_signs _ _ hne
  have HR' : Hid (s = t → Cub.cmpQ (Cub.valQ b n d) (Cub.valQ c m e) = if b then -Cub.cmpN (n * e) (m * d) else Cub.cmpN (n * e) (m * d)) := fun heq => by
    have := Cub.cmp_val h1 h2 (by rw [hs, ht] at heq; exact heq)
    rw [← this]; rfl
  generalize Cub.cmpQ (Cub.valQ b n d) (Cub.valQ c m e) = R at *
  clear hx hy hx1 hx2 hy1 hy2 h1 h2 hk hn hd hm he hs ht
  go_enter Tryz.func112, Tryz.ntmps112
  go_upto_region 1 with fail
  rw [← unhide HV]
  have q0 : ∀ z : Later V, z.world.cell? ⟨w.heap.size, 0, none⟩ = some (.bool b) := fun z => (unhide HFIX V z (Below.refl _ _)).x.c0
  have q1 : ∀ z : Later V, z.world.cell? ⟨w.heap.size, 1, none⟩ = some (.slice a1 l1 c1) := fun z => (unhide HFIX V z (Below.refl _ _)).x.c1
  have q2 : ∀ z : Later V, z.world.cell? ⟨w.heap.size, 2, none⟩ = some (.slice a2 l2 c2) := fun z => (unhide HFIX V z (Below.refl _ _)).x.c2
  have g0 : ∀ z : Later V, z.world.cell? ⟨w.heap.size + 1, 0, none⟩ = some (.bool c) := fun z => (unhide HFIX V z (Below.refl _ _)).y.c0
  have g1 : ∀ z : Later V, z.world.cell? ⟨w.heap.size + 1, 1, none⟩ = some (.slice a3 l3 c3) := fun z => (unhide HFIX V z (Below.refl _ _)).y.c1
  have g2 : ∀ z : Later V, z.world.cell? ⟨w.heap.size + 1, 2, none⟩ = some (.slice a4 l4 c4) := fun z => (unhide HFIX V z (Below.refl _ _)).y.c2
  clear hV
  refine quiet_later (by kernel_rfl) (by kernel_rfl) ?_
  repeat (go_big_quiet_step (first
    | (go_at_call_of 99 (Value.agg #[Value.bool b, Value.slice a1 l1 c1, Value.slice a2 l2 c2]); rename_i xx; refine (unhide H97x V xx (Below.refl _ _)).mono ?_; rintro e w9 ⟨rfl, hb9⟩; have hz := xx.below.trans (hb9.mono xx.below.size); first | exact ⟨rfl, ⟨w9, hz⟩, rfl⟩ | exact ⟨rfl, hz⟩ | exact ⟨rfl, w9, hz, rfl⟩)
    | (go_at_call_of 99 (Value.agg #[Value.bool c, Value.slice a3 l3 c3, Value.slice a4 l4 c4]); rename_i xx; refine (unhide H97y V xx (Below.refl _ _)).mono ?_; rintro e w9 ⟨rfl, hb9⟩; have hz := xx.below.trans (hb9.mono xx.below.size); first | exact ⟨rfl, ⟨w9, hz⟩, rfl⟩ | exact ⟨rfl, hz⟩ | exact ⟨rfl, w9, hz, rfl⟩)))
  refine wpQuiet_nil ?_
  intro _ hw'
  obtain ⟨xz, hw''⟩ := hw'
  subst hw''
  obtain ⟨W, hW⟩ : ∃ W, W = xz.world := ⟨_, rfl⟩
  have HBW : Hid (Below V.heap.size V W) := by rw [hW]; exact xz.below
  rw [← hW]
  clear hW q0 q1 q2 g0 g1 g2
  by_cases hst : s = t
  · subst hst
    have HE := hide (unhide HR' rfl)
    clear HR HR'
    have HC1 : Hid (∀ X, Below V.heap.size V X → Calls Tryz.prog 143 #[.agg #[.slice a1 l1 c1], .agg #[.slice a3 l3 c3]] X fun r w' => r = .returned (.int .i64 (Cub.cmpN n m)) ∧ Below X.heap.size X w') := fun X hb =>
      cmp_any _ _ n m X ((unhide HX1).later hb) ((unhide HY1).later hb)
    have HC2 : Hid (∀ X, Below V.heap.size V X → Calls Tryz.prog 143 #[.agg #[.slice a2 l2 c2], .agg #[.slice a4 l4 c4]] X fun r w' => r = .returned (.int .i64 (Cub.cmpN d e)) ∧ Below X.heap.size X w') := fun X hb =>
      cmp_any _ _ d e X ((unhide HX2).later hb) ((unhide HY2).later hb)
    have HEQ : Hid (Cub.cmpN n m = 0 → Cub.cmpN d e = 0 → R = 0) := fun u v => by
      have e1 : n = m := by unfold Cub.cmpN at u; split at u <;> (try split at u) <;> omega
      have e2 : d = e := by unfold Cub.cmpN at v; split at v <;> (try split at v) <;> omega
      rw [unhide HE, e1, e2]
      have e3 : Cub.cmpN (m * e) (m * e) = 0 := by unfold Cub.cmpN; simp
      rw [e3]; cases b <;> rfl
    have hp1 : -1 ≤ Cub.cmpN n m ∧ Cub.cmpN n m ≤ 1 := by unfold Cub.cmpN; split <;> (try split) <;> omega
    have hp2 : -1 ≤ Cub.cmpN d e ∧ Cub.cmpN d e ≤ 1 := by unfold Cub.cmpN; split <;> (try split) <;> omega
    generalize Cub.cmpN n m = p at HC1 HEQ hp1
    generalize Cub.cmpN d e = q at HC2 HEQ hp2
    have HFW : Hid (∀ X, Below V.heap.size V X → F2 w X (.bool b) (.slice a1 l1 c1) (.slice a2 l2 c2) (.bool c) (.slice a3 l3 c3) (.slice a4 l4 c4)) := fun X hb => unhide HFIX X ⟨X, Below.refl _ _⟩ hb
    have HT4 := hide (unhide HFW W (unhide HBW))
    have t1 := (unhide HT4).x.c1; have t2 := (unhide HT4).x.c2; have t3 := (unhide HT4).y.c1; have t4 := (unhide HT4).y.c2
    obtain ⟨hp, hq⟩ | hp | ⟨hp, hq⟩ : (p = 0 ∧ q = 0) ∨ (¬ p = 0) ∨ (p = 0 ∧ ¬ q = 0) := by omega
    · go_wp2_with (first | (go_at_call_of 143 (Value.agg #[Value.slice a1 l1 c1]); go_must (refine (unhide HC1 _ (unhide HBW)).mono ?_; rintro e5 w5 ⟨rfl, hb5⟩; have HB5 := hide ((unhide HBW).trans (hb5.mono (unhide HBW).size)); have HT5 := hide (unhide HFW w5 (unhide HB5)); clear hb5; clear t1 t2 t3 t4; have t1 := (unhide HT5).x.c1; have t2 := (unhide HT5).x.c2; have t3 := (unhide HT5).y.c1; have t4 := (unhide HT5).y.c2)) | (go_at_call_of 143 (Value.agg #[Value.slice a2 l2 c2]); go_must (refine (unhide HC2 _ (unhide HB5)).mono ?_; rintro e6 w6 ⟨rfl, hb6⟩; have HB6 := hide ((unhide HB5).trans (hb6.mono (unhide HB5).size)); have HT6 := hide (unhide HFW w6 (unhide HB6)); clear hb6; clear t1 t2 t3 t4; have t1 := (unhide HT6).x.c1; have t2 := (unhide HT6).x.c2; have t3 := (unhide HT6).y.c1; have t4 := (unhide HT6).y.c2)))
      go_ret
      exact ⟨by rw [unhide HEQ hp hq]; rfl, (unhide HT6).below⟩
    · go_upto_region 7 with (first | (go_at_call_of 143 (Value.agg #[Value.slice a1 l1 c1]); go_must (refine (unhide HC1 _ (unhide HBW)).mono ?_; rintro e5 w5 ⟨rfl, hb5⟩; have HB5 := hide ((unhide HBW).trans (hb5.mono (unhide HBW).size)); have HT5 := hide (unhide HFW w5 (unhide HB5)); clear hb5; clear t1 t2 t3 t4; have t1 := (unhide HT5).x.c1; have t2 := (unhide HT5).x.c2; have t3 := (unhide HT5).y.c1; have t4 := (unhide HT5).y.c2)) | (go_at_call_of 143 (Value.agg #[Value.slice a2 l2 c2]); go_must (refine (unhide HC2 _ (unhide HB5)).mono ?_; rintro e6 w6 ⟨rfl, hb6⟩; have HB6 := hide ((unhide HB5).trans (hb6.mono (unhide HB5).size)); have HT6 := hide (unhide HFW w6 (unhide HB6)); clear hb6; clear t1 t2 t3 t4; have t1 := (unhide HT6).x.c1; have t2 := (unhide HT6).x.c2; have t3 := (unhide HT6).y.c1; have t4 := (unhide HT6).y.c2)))
      clear t1 t2 t3 t4
      have HZ := hide (unhide HFIX w5 ⟨w5, Below.refl _ _⟩ (unhide HB5))
      have HFX : Hid (∀ X, Below w5.heap.size w5 X → F2 w X (.bool b) (.slice a1 l1 c1) (.slice a2 l2 c2) (.bool c) (.slice a3 l3 c3) (.slice a4 l4 c4)) := fun X hb => (unhide HZ).later hb
      have t1 := (unhide HZ).x.c1; have t2 := (unhide HZ).x.c2; have t3 := (unhide HZ).y.c1; have t4 := (unhide HZ).y.c2
      have HTR : Hid (∀ X, Below w5.heap.size w5 X → Below V.heap.size V X) := fun X hb => (unhide HB5).trans (hb.mono (unhide HB5).size)
      go_upto_region 7 with fail
      go_region_held3 (fun w' => w'.cell? ⟨w.heap.size, 1, none⟩ = some (.slice a1 l1 c1) ∧ w'.cell? ⟨w.heap.size, 2, none⟩ = some (.slice a2 l2 c2) ∧ w'.cell? ⟨w.heap.size + 1, 1, none⟩ = some (.slice a3 l3 c3) ∧ w'.cell? ⟨w.heap.size + 1, 2, none⟩ = some (.slice a4 l4 c4)) (first | assumption | (refine ⟨?_, ?_, ?_, ?_⟩ <;> first | assumption | (simp [go_sem, *]; done)) | (simp [go_sem, *]; done)) ((first
        | (go_at_call_of 149 (Value.agg #[Value.slice a1 l1 c1]); go_must (refine (unhide HMA _ (unhide HTR _ ((Below.refl _ _).drew))).mono ?_; rintro e wa ⟨va, rfl, hva, hba⟩; obtain ⟨aa, la, ca, rfl⟩ := hva.shape; have HVA := hide hva; have HCA := hide (((Below.refl w5.heap.size w5).drew).trans hba); have HT := hide (unhide HFX wa (unhide HCA)); clear hva hba; clear t1 t2 t3 t4; have t1 := (unhide HT).x.c1; have t2 := (unhide HT).x.c2; have t3 := (unhide HT).y.c1; have t4 := (unhide HT).y.c2))
        | (go_at_call_of 149 (Value.agg #[Value.slice a3 l3 c3]); go_must (refine (unhide HMB _ (unhide HTR _ (unhide HCA))).mono ?_; rintro e wb ⟨vb, rfl, hvb, hbb⟩; obtain ⟨ab, lb, cb, rfl⟩ := hvb.shape; have HVB := hide hvb; have HVA' := hide ((unhide HVA).later hbb); have HCB := hide ((unhide HCA).trans (hbb.mono (unhide HCA).size)); have HT2 := hide (unhide HFX wb (unhide HCB)); clear hvb hbb; clear t1 t2 t3 t4; have t1 := (unhide HT2).x.c1; have t2 := (unhide HT2).x.c2; have t3 := (unhide HT2).y.c1; have t4 := (unhide HT2).y.c2))
        | (go_at_call 143; go_must (refine (cmp_any _ _ _ _ _ (unhide HVA') (unhide HVB)).mono ?_; rintro e wc ⟨rfl, hbc⟩; have HEND := hide ((unhide HCB).trans (hbc.mono (unhide HCB).size)); have HT3 := hide (unhide HFX wc (unhide HEND)); clear hbc; clear t1 t2 t3 t4; have t1 := (unhide HT3).x.c1; have t2 := (unhide HT3).x.c2; have t3 := (unhide HT3).y.c1; have t4 := (unhide HT3).y.c2))))
      all_goals
        clear t1 t2 t3 t4
        have HT9 := hide (unhide HFX wc (unhide HEND))
        have t0 := (unhide HT9).x.c0
        have HBB := hide ((unhide HT9).below)
        obtain ⟨hr1, hr2⟩ : -1 ≤ Cub.cmpN (n * e) (m * d) ∧ Cub.cmpN (n * e) (m * d) ≤ 1 := by unfold Cub.cmpN; split <;> (try split) <;> omega
        generalize Cub.cmpN (n * e) (m * d) = R2 at *
        cases b with
        | true =>
          go_wp2_with fail
          go_ret
          exact ⟨by rw [unhide HE]; simp, unhide HBB⟩
        | false =>
          go_wp2_with fail
          go_ret
          exact ⟨by rw [unhide HE]; simp, unhide HBB⟩
    · go_upto_region 7 with (first | (go_at_call_of 143 (Value.agg #[Value.slice a1 l1 c1]); go_must (refine (unhide HC1 _ (unhide HBW)).mono ?_; rintro e5 w5 ⟨rfl, hb5⟩; have HB5 := hide ((unhide HBW).trans (hb5.mono (unhide HBW).size)); have HT5 := hide (unhide HFW w5 (unhide HB5)); clear hb5; clear t1 t2 t3 t4; have t1 := (unhide HT5).x.c1; have t2 := (unhide HT5).x.c2; have t3 := (unhide HT5).y.c1; have t4 := (unhide HT5).y.c2)) | (go_at_call_of 143 (Value.agg #[Value.slice a2 l2 c2]); go_must (refine (unhide HC2 _ (unhide HB5)).mono ?_; rintro e6 w6 ⟨rfl, hb6⟩; have HB6 := hide ((unhide HB5).trans (hb6.mono (unhide HB5).size)); have HT6 := hide (unhide HFW w6 (unhide HB6)); clear hb6; clear t1 t2 t3 t4; have t1 := (unhide HT6).x.c1; have t2 := (unhide HT6).x.c2; have t3 := (unhide HT6).y.c1; have t4 := (unhide HT6).y.c2)))
      clear t1 t2 t3 t4
      have HZ := hide (unhide HFIX w6 ⟨w6, Below.refl _ _⟩ (unhide HB6))
      have HFX : Hid (∀ X, Below w6.heap.size w6 X → F2 w X (.bool b) (.slice a1 l1 c1) (.slice a2 l2 c2) (.bool c) (.slice a3 l3 c3) (.slice a4 l4 c4)) := fun X hb => (unhide HZ).later hb
      have t1 := (unhide HZ).x.c1; have t2 := (unhide HZ).x.c2; have t3 := (unhide HZ).y.c1; have t4 := (unhide HZ).y.c2
      have HTR : Hid (∀ X, Below w6.heap.size w6 X → Below V.heap.size V X) := fun X hb => (unhide HB6).trans (hb.mono (unhide HB6).size)
      go_upto_region 7 with fail
      go_region_held3 (fun w' => w'.cell? ⟨w.heap.size, 1, none⟩ = some (.slice a1 l1 c1) ∧ w'.cell? ⟨w.heap.size, 2, none⟩ = some (.slice a2 l2 c2) ∧ w'.cell? ⟨w.heap.size + 1, 1, none⟩ = some (.slice a3 l3 c3) ∧ w'.cell? ⟨w.heap.size + 1, 2, none⟩ = some (.slice a4 l4 c4)) (first | assumption | (refine ⟨?_, ?_, ?_, ?_⟩ <;> first | assumption | (simp [go_sem, *]; done)) | (simp [go_sem, *]; done)) ((first
        | (go_at_call_of 149 (Value.agg #[Value.slice a1 l1 c1]); go_must (refine (unhide HMA _ (unhide HTR _ ((Below.refl _ _).drew))).mono ?_; rintro e wa ⟨va, rfl, hva, hba⟩; obtain ⟨aa, la, ca, rfl⟩ := hva.shape; have HVA := hide hva; have HCA := hide (((Below.refl w6.heap.size w6).drew).trans hba); have HT := hide (unhide HFX wa (unhide HCA)); clear hva hba; clear t1 t2 t3 t4; have t1 := (unhide HT).x.c1; have t2 := (unhide HT).x.c2; have t3 := (unhide HT).y.c1; have t4 := (unhide HT).y.c2))
        | (go_at_call_of 149 (Value.agg #[Value.slice a3 l3 c3]); go_must (refine (unhide HMB _ (unhide HTR _ (unhide HCA))).mono ?_; rintro e wb ⟨vb, rfl, hvb, hbb⟩; obtain ⟨ab, lb, cb, rfl⟩ := hvb.shape; have HVB := hide hvb; have HVA' := hide ((unhide HVA).later hbb); have HCB := hide ((unhide HCA).trans (hbb.mono (unhide HCA).size)); have HT2 := hide (unhide HFX wb (unhide HCB)); clear hvb hbb; clear t1 t2 t3 t4; have t1 := (unhide HT2).x.c1; have t2 := (unhide HT2).x.c2; have t3 := (unhide HT2).y.c1; have t4 := (unhide HT2).y.c2))
        | (go_at_call 143; go_must (refine (cmp_any _ _ _ _ _ (unhide HVA') (unhide HVB)).mono ?_; rintro e wc ⟨rfl, hbc⟩; have HEND := hide ((unhide HCB).trans (hbc.mono (unhide HCB).size)); have HT3 := hide (unhide HFX wc (unhide HEND)); clear hbc; clear t1 t2 t3 t4; have t1 := (unhide HT3).x.c1; have t2 := (unhide HT3).x.c2; have t3 := (unhide HT3).y.c1; have t4 := (unhide HT3).y.c2))))
      all_goals
        clear t1 t2 t3 t4
        have HT9 := hide (unhide HFX wc (unhide HEND))
        have t0 := (unhide HT9).x.c0
        have HBB := hide ((unhide HT9).below)
        obtain ⟨hr1, hr2⟩ : -1 ≤ Cub.cmpN (n * e) (m * d) ∧ Cub.cmpN (n * e) (m * d) ≤ 1 := by unfold Cub.cmpN; split <;> (try split) <;> omega
        generalize Cub.cmpN (n * e) (m * d) = R2 at *
        cases b with
        | true =>
          go_wp2_with fail
          go_ret
          exact ⟨by rw [unhide HE]; simp, unhide HBB⟩
        | false =>
          go_wp2_with fail
          go_ret
          exact ⟨by rw [unhide HE]; simp, unhide HBB⟩
  · have HE := hide (unhide HR hst)
    clear HR HR'
    go_upto_region 2 with fail
    have q0 : ∀ z : Later W, z.world.cell? ⟨w.heap.size, 0, none⟩ = some (.bool b) := fun z => (unhide HFIX W z (unhide HBW)).x.c0
    have q1 : ∀ z : Later W, z.world.cell? ⟨w.heap.size, 1, none⟩ = some (.slice a1 l1 c1) := fun z => (unhide HFIX W z (unhide HBW)).x.c1
    have q2 : ∀ z : Later W, z.world.cell? ⟨w.heap.size, 2, none⟩ = some (.slice a2 l2 c2) := fun z => (unhide HFIX W z (unhide HBW)).x.c2
    have g0 : ∀ z : Later W, z.world.cell? ⟨w.heap.size + 1, 0, none⟩ = some (.bool c) := fun z => (unhide HFIX W z (unhide HBW)).y.c0
    have g1 : ∀ z : Later W, z.world.cell? ⟨w.heap.size + 1, 1, none⟩ = some (.slice a3 l3 c3) := fun z => (unhide HFIX W z (unhide HBW)).y.c1
    have g2 : ∀ z : Later W, z.world.cell? ⟨w.heap.size + 1, 2, none⟩ = some (.slice a4 l4 c4) := fun z => (unhide HFIX W z (unhide HBW)).y.c2
    refine quiet_later (by kernel_rfl) (by kernel_rfl) ?_
    repeat (go_big_quiet_step (first
      | (go_at_call_of 99 (Value.agg #[Value.bool b, Value.slice a1 l1 c1, Value.slice a2 l2 c2]); rename_i xx; refine (unhide H97x W xx (unhide HBW)).mono ?_; rintro e w9 ⟨rfl, hb9⟩; have hz := xx.below.trans (hb9.mono xx.below.size); first | exact ⟨rfl, ⟨w9, hz⟩, rfl⟩ | exact ⟨rfl, hz⟩ | exact ⟨rfl, w9, hz, rfl⟩)
      | (go_at_call_of 99 (Value.agg #[Value.bool c, Value.slice a3 l3 c3, Value.slice a4 l4 c4]); rename_i xx; refine (unhide H97y W xx (unhide HBW)).mono ?_; rintro e w9 ⟨rfl, hb9⟩; have hz := xx.below.trans (hb9.mono xx.below.size); first | exact ⟨rfl, ⟨w9, hz⟩, rfl⟩ | exact ⟨rfl, hz⟩ | exact ⟨rfl, w9, hz, rfl⟩)))
    refine wpQuiet_nil ?_
    intro _ hw'
    obtain ⟨xz, hw''⟩ := hw'
    subst hw''
    obtain ⟨U, hU⟩ : ∃ U, U = xz.world := ⟨_, rfl⟩
    have HBU : Hid (Below w.heap.size w U) := by rw [hU]; exact (unhide HFIX W xz (unhide HBW)).below
    rw [← hU]
    clear hU q0 q1 q2 g0 g1 g2
    by_cases hlt : s < t
    · have HF : Hid (R = -1) := by show _ = _; rw [unhide HE, if_pos hlt]
      clear HE
      go_wp2_with fail
      go_ret
      exact ⟨by rw [unhide HF]; rfl, unhide HBU⟩
    · have HF : Hid (R = 1) := by show _ = _; rw [unhide HE, if_neg hlt]
      clear HE
      go_wp2_with fail
      go_ret
      exact ⟨by rw [unhide HF]; rfl, unhide HBU⟩
end Go.Proofs.YtndhinoomlofgaaGreatDoor

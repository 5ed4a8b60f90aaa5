/- FloBack: the law, over all floats. -/
import Derived.Test.YtijifpbpjinmhaaGreatDoorB9
import Derived.Test.YtijifpbpjinmhaaGreatDoorV3
import Derived.Test.YtijifpbpjinmhaaGreatDoorB5
import Derived.Test.YtijifpbpjinmhaaGreatDoorN5
set_option maxHeartbeats 4000000
set_option maxRecDepth 100000
namespace Go.Proofs.YtijifpbpjinmhaaGreatDoor
open Go.RowKit
theorem back_nan (f g : Nat) (n d : ByteArray) (e : Int) (w : World) (htab : Tab w) (hc : Cel w) (hs : sameB f g = true) (PR : ByteArray → Prop) (he : e = 30) (hn : (FloatKind.f64.format.order f f != some Ordering.eq) = true)
    (HE : Calls Tryz.prog 14 #[.float .f64 f] w fun r w' => r = .returned (.tuple #[.agg #[.string n, .string d], .int .i64 e]) ∧ Below w.heap.size w w')
    (HT : ∀ W : World, Tab W → Calls Tryz.prog 18 #[.float .f64 f] W fun r w' => (∃ s, PR s ∧ r = .returned (.string s)) ∧ Below W.heap.size W w')
    (HP : ∀ s, PR s → ∀ W : World, Tab W → Cel W → Calls Tryz.prog 16 #[.string s] W fun r w' => r = .returned (.tuple #[.float .f64 g, .int .i64 0]) ∧ Below W.heap.size W w') :
    Calls Tryz.prog 7 #[.float .f64 f] w fun r w' => r = .returned (.bool true) ∧ Below w.heap.size w w' := by
  have HA := hide HE; have GT := hide HT; have GP := hide HP
  have HS := hide (fun W => same_any f g W)
  rw [hs] at HS
  have HK := hide (fun W (h : Tab W) => known_ok W h)
  have HTW := hide htab
  have HCW := hide hc
  clear htab hc HE HT HP hs
  go_enter Tryz.func7, Tryz.ntmps7
  go_upto_region 2 with (go_at_call 14; refine (unhide HA).mono ?_; rintro e w1 ⟨rfl, hb1⟩; have HB1 := hide hb1; clear hb1 HA)
  obtain ⟨V, hV⟩ : ∃ V, V = w1.alloc (.cells #[.string n, .string d] 23) := ⟨_, rfl⟩
  have HX : Hid (T2 V w1.heap.size (.string n) (.string d)) := by rw [hV]; exact ⟨by simp [go_sem], by simp [go_sem], by simp [go_sem], by simp [go_sem]⟩
  have hbv : Below w1.heap.size w1 V := by rw [hV]; exact (Below.refl _ _).alloc (Nat.le_refl _) _
  have HB2 : Hid (Below w.heap.size w V) := (unhide HB1).trans (hbv.mono (unhide HB1).size)
  try rw [← hV]
  clear hV hbv HB1
  generalize w1.heap.size = q at *
  go_wp2_with (first
    | (go_at_call 18; refine (unhide GT _ ((unhide HTW).later (unhide HB2))).mono ?_; rintro e' w2 ⟨⟨s, hs, rfl⟩, hb⟩; have HPR := hide hs; have HB3 : Hid (Below w.heap.size w w2) := (unhide HB2).trans (hb.mono (unhide HB2).size); have HX3 := hide ((unhide HX).later hb); clear hb hs HX HB2)
    | (go_at_call 16; refine (unhide GP _ (unhide HPR) _ ((unhide HTW).later (unhide HB3)) ((unhide HCW).later (unhide HB3))).mono ?_; rintro e' w3 ⟨rfl, hb⟩; have HB4 : Hid (Below w.heap.size w w3) := (unhide HB3).trans (hb.mono (unhide HB3).size); clear hb HB3)
    | (go_at_call 12; refine (unhide HS _).mono ?_; rintro e' w4 ⟨rfl, hw⟩; obtain rfl : w3 = w4 := hw.symm)
    | (go_at_call 13; refine (unhide HK _ ((unhide HTW).later (unhide HB4))).mono ?_; rintro e' w5 ⟨rfl, hb⟩; have HB5 : Hid (Below w.heap.size w w5) := (unhide HB4).trans (hb.mono (unhide HB4).size); clear hb HB4))
  go_ret
  exact ⟨rfl, unhide HB5⟩
theorem back_inf (f g : Nat) (n d : ByteArray) (e : Int) (w : World) (htab : Tab w) (hc : Cel w) (hs : sameB f g = true) (PR : ByteArray → Prop) (he : e = 31) (hn : (FloatKind.f64.format.order f f != some Ordering.eq) = false) (hi : infB f = true)
    (HE : Calls Tryz.prog 14 #[.float .f64 f] w fun r w' => r = .returned (.tuple #[.agg #[.string n, .string d], .int .i64 e]) ∧ Below w.heap.size w w')
    (HT : ∀ W : World, Tab W → Calls Tryz.prog 18 #[.float .f64 f] W fun r w' => (∃ s, PR s ∧ r = .returned (.string s)) ∧ Below W.heap.size W w')
    (HP : ∀ s, PR s → ∀ W : World, Tab W → Cel W → Calls Tryz.prog 16 #[.string s] W fun r w' => r = .returned (.tuple #[.float .f64 g, .int .i64 0]) ∧ Below W.heap.size W w') :
    Calls Tryz.prog 7 #[.float .f64 f] w fun r w' => r = .returned (.bool true) ∧ Below w.heap.size w w' := by
  have HA := hide HE; have GT := hide HT; have GP := hide HP
  have HS := hide (fun W => same_any f g W)
  rw [hs] at HS
  have HK := hide (fun W (h : Tab W) => known_ok W h)
  have HTW := hide htab
  have HCW := hide hc
  clear htab hc HE HT HP hs
  go_enter Tryz.func7, Tryz.ntmps7
  go_upto_region 2 with (go_at_call 14; refine (unhide HA).mono ?_; rintro e w1 ⟨rfl, hb1⟩; have HB1 := hide hb1; clear hb1 HA)
  obtain ⟨V, hV⟩ : ∃ V, V = w1.alloc (.cells #[.string n, .string d] 23) := ⟨_, rfl⟩
  have HX : Hid (T2 V w1.heap.size (.string n) (.string d)) := by rw [hV]; exact ⟨by simp [go_sem], by simp [go_sem], by simp [go_sem], by simp [go_sem]⟩
  have hbv : Below w1.heap.size w1 V := by rw [hV]; exact (Below.refl _ _).alloc (Nat.le_refl _) _
  have HB2 : Hid (Below w.heap.size w V) := (unhide HB1).trans (hbv.mono (unhide HB1).size)
  try rw [← hV]
  clear hV hbv HB1
  generalize w1.heap.size = q at *
  go_wp2_with (first
    | (go_at_call 18; refine (unhide GT _ ((unhide HTW).later (unhide HB2))).mono ?_; rintro e' w2 ⟨⟨s, hs, rfl⟩, hb⟩; have HPR := hide hs; have HB3 : Hid (Below w.heap.size w w2) := (unhide HB2).trans (hb.mono (unhide HB2).size); have HX3 := hide ((unhide HX).later hb); clear hb hs HX HB2)
    | (go_at_call 16; refine (unhide GP _ (unhide HPR) _ ((unhide HTW).later (unhide HB3)) ((unhide HCW).later (unhide HB3))).mono ?_; rintro e' w3 ⟨rfl, hb⟩; have HB4 : Hid (Below w.heap.size w w3) := (unhide HB3).trans (hb.mono (unhide HB3).size); have HX4 := hide ((unhide HX3).later hb); clear hb HB3 HX3)
    | (go_at_call 12; refine (unhide HS _).mono ?_; rintro e' w4 ⟨rfl, hw⟩; obtain rfl : w3 = w4 := hw.symm)
    | (go_at_call 13; refine (unhide HK _ ((unhide HTW).later (unhide HB4))).mono ?_; rintro e' w5 ⟨rfl, hb⟩; have HB5 : Hid (Below w.heap.size w w5) := (unhide HB4).trans (hb.mono (unhide HB4).size); have HX5 := hide ((unhide HX4).later hb); have c0 := (unhide HX5).c0; have c1 := (unhide HX5).c1; have hs5 := sub_run_inf f hi w5; have hz5 := order_nanC (w5.tape w5.drawn (.nanBits .f64 f f)); clear hb HB4 HX4))
  go_ret
  exact ⟨rfl, (unhide HB5).drew⟩
theorem back_fin (f g : Nat) (n d : ByteArray) (e : Int) (w : World) (htab : Tab w) (hc : Cel w) (hs : sameB f g = true) (k : Nat) (bz : Bool) (PR : ByteArray → Prop) (he : e = 0) (hn : (FloatKind.f64.format.order f f != some Ordering.eq) = false) (hsub : floatBits .sub .f64 f f = some 0) (hk : (FloatKind.f64.format.order k f == some Ordering.eq) = true) (hz : (FloatKind.f64.format.order f 0 != some Ordering.eq) = bz) (hbz : bz = true ∨ k = 0)
    (HN : ∀ W : World, Tab W → Calls Tryz.prog 10 #[.agg #[.string n, .string d]] W fun r w' => r = .returned (.tuple #[.float .f64 k, .int .i64 0]) ∧ Below W.heap.size W w')
    (HE : Calls Tryz.prog 14 #[.float .f64 f] w fun r w' => r = .returned (.tuple #[.agg #[.string n, .string d], .int .i64 e]) ∧ Below w.heap.size w w')
    (HT : ∀ W : World, Tab W → Calls Tryz.prog 18 #[.float .f64 f] W fun r w' => (∃ s, PR s ∧ r = .returned (.string s)) ∧ Below W.heap.size W w')
    (HP : ∀ s, PR s → ∀ W : World, Tab W → Cel W → Calls Tryz.prog 16 #[.string s] W fun r w' => r = .returned (.tuple #[.float .f64 g, .int .i64 0]) ∧ Below W.heap.size W w') :
    Calls Tryz.prog 7 #[.float .f64 f] w fun r w' => r = .returned (.bool true) ∧ Below w.heap.size w w' := by
  have HA := hide HE; have GT := hide HT; have GP := hide HP
  have HS := hide (fun W => same_any f g W)
  rw [hs] at HS
  have HK := hide (fun W (h : Tab W) => known_ok W h)
  have HTW := hide htab
  have HCW := hide hc
  have GN := hide HN
  have hsf := sub_run f hsub
  have hzz := self_zero
  have hfb := run_bits k
  clear htab hc HE HT HP HN hsub
  go_enter Tryz.func7, Tryz.ntmps7
  go_upto_region 2 with (go_at_call 14; refine (unhide HA).mono ?_; rintro e w1 ⟨rfl, hb1⟩; have HB1 := hide hb1; clear hb1 HA)
  obtain ⟨V, hV⟩ : ∃ V, V = w1.alloc (.cells #[.string n, .string d] 23) := ⟨_, rfl⟩
  have HX : Hid (T2 V w1.heap.size (.string n) (.string d)) := by rw [hV]; exact ⟨by simp [go_sem], by simp [go_sem], by simp [go_sem], by simp [go_sem]⟩
  have hbv : Below w1.heap.size w1 V := by rw [hV]; exact (Below.refl _ _).alloc (Nat.le_refl _) _
  have HB2 : Hid (Below w.heap.size w V) := (unhide HB1).trans (hbv.mono (unhide HB1).size)
  try rw [← hV]
  clear hV hbv HB1
  generalize w1.heap.size = q at *
  cases bz
  · have hk0 : k = 0 := hbz.resolve_left (by decide)
    clear hbz
    subst hk0
    go_wp2_with (first
      | (go_at_call 18; refine (unhide GT _ ((unhide HTW).later (unhide HB2))).mono ?_; rintro e' w2 ⟨⟨s, hs, rfl⟩, hb⟩; have HPR := hide hs; have HB3 : Hid (Below w.heap.size w w2) := (unhide HB2).trans (hb.mono (unhide HB2).size); have HX3 := hide ((unhide HX).later hb); clear hb hs HX HB2)
      | (go_at_call 16; refine (unhide GP _ (unhide HPR) _ ((unhide HTW).later (unhide HB3)) ((unhide HCW).later (unhide HB3))).mono ?_; rintro e' w3 ⟨rfl, hb⟩; have HB4 : Hid (Below w.heap.size w w3) := (unhide HB3).trans (hb.mono (unhide HB3).size); have HX4 := hide ((unhide HX3).later hb); clear hb HB3 HX3)
      | (go_at_call 12; refine (unhide HS _).mono ?_; rintro e' w4 ⟨rfl, hw⟩; obtain rfl : w3 = w4 := hw.symm)
      | (go_at_call 13; refine (unhide HK _ ((unhide HTW).later (unhide HB4))).mono ?_; rintro e' w5 ⟨rfl, hb⟩; have HB5 : Hid (Below w.heap.size w w5) := (unhide HB4).trans (hb.mono (unhide HB4).size); have HX5 := hide ((unhide HX4).later hb); have c0 := (unhide HX5).c0; have c1 := (unhide HX5).c1; clear hb HB4 HX4)
      | (go_at_call 10; refine (unhide GN _ ((unhide HTW).later (unhide HB5))).mono ?_; rintro e' w6 ⟨rfl, hb⟩; have HB6 : Hid (Below w.heap.size w w6) := (unhide HB5).trans (hb.mono (unhide HB5).size); clear hb HB5))
    go_ret
    exact ⟨rfl, unhide HB6⟩
  · clear hbz
    go_wp2_with (first
      | (go_at_call 18; refine (unhide GT _ ((unhide HTW).later (unhide HB2))).mono ?_; rintro e' w2 ⟨⟨s, hs, rfl⟩, hb⟩; have HPR := hide hs; have HB3 : Hid (Below w.heap.size w w2) := (unhide HB2).trans (hb.mono (unhide HB2).size); have HX3 := hide ((unhide HX).later hb); clear hb hs HX HB2)
      | (go_at_call 16; refine (unhide GP _ (unhide HPR) _ ((unhide HTW).later (unhide HB3)) ((unhide HCW).later (unhide HB3))).mono ?_; rintro e' w3 ⟨rfl, hb⟩; have HB4 : Hid (Below w.heap.size w w3) := (unhide HB3).trans (hb.mono (unhide HB3).size); have HX4 := hide ((unhide HX3).later hb); clear hb HB3 HX3)
      | (go_at_call 12; refine (unhide HS _).mono ?_; rintro e' w4 ⟨rfl, hw⟩; obtain rfl : w3 = w4 := hw.symm)
      | (go_at_call 13; refine (unhide HK _ ((unhide HTW).later (unhide HB4))).mono ?_; rintro e' w5 ⟨rfl, hb⟩; have HB5 : Hid (Below w.heap.size w w5) := (unhide HB4).trans (hb.mono (unhide HB4).size); have HX5 := hide ((unhide HX4).later hb); have c0 := (unhide HX5).c0; have c1 := (unhide HX5).c1; clear hb HB4 HX4)
      | (go_at_call 10; refine (unhide GN _ ((unhide HTW).later (unhide HB5))).mono ?_; rintro e' w6 ⟨rfl, hb⟩; have HB6 : Hid (Below w.heap.size w w6) := (unhide HB5).trans (hb.mono (unhide HB5).size); clear hb HB5))
    go_ret
    exact ⟨rfl, unhide HB6⟩
theorem rk_inj_word (f tv b : Nat) (tl l : List UInt8) (ht : IsWord tl tv) (hb : IsWord l b) (hf : rk f = rk tv) (W : World) (hf2 : f < 18446744073709551616) :
    Calls Tryz.prog 20 #[.float .f64 f, .float .f64 b] W fun e w' => ∃ q : Int, ((q = 0 ∧ l = tl) ∨ (q ≠ 0 ∧ l ≠ tl)) ∧ e = .returned (.int .i64 q) ∧ w' = W := by
  have hb2 : b < 18446744073709551616 := by rcases hb with ⟨_, rfl⟩ | ⟨_, rfl⟩ | ⟨_, rfl⟩ <;> decide
  refine (order_any f b hf2 hb2 W).mono ?_
  rintro e w' ⟨rfl, hw⟩
  refine ⟨_, ?_, rfl, hw⟩
  rw [hf]
  rcases ht with ⟨rfl, rfl⟩ | ⟨rfl, rfl⟩ | ⟨rfl, rfl⟩ <;> rcases hb with ⟨rfl, rfl⟩ | ⟨rfl, rfl⟩ | ⟨rfl, rfl⟩ <;> decide
theorem back_word (f tv : Nat) (tl : List UInt8) (e : Int) (hf2 : f < 18446744073709551616) (ht : IsWord tl tv) (hf : rk f = rk tv) (hs : sameB f tv = true) (w : World) (htab : Tab w) (hc : Cel w) (hx : exV f = .tuple #[.agg #[.string ⟨#[]⟩, .string ⟨#[]⟩], .int .i64 e]) (h : (e = 30 ∧ nanB f = true) ∨ (e = 31 ∧ nanB f = false ∧ infB f = true)) :
    Calls Tryz.prog 7 #[.float .f64 f] w fun r w' => r = .returned (.bool true) ∧ Below w.heap.size w w' := by
  have HE := exact_any f hf2 w htab
  rw [hx] at HE
  have HT : ∀ W : World, Tab W → Calls Tryz.prog 18 #[.float .f64 f] W fun r w' => (∃ s, s = ⟨tl.toArray⟩ ∧ r = .returned (.string s)) ∧ Below W.heap.size W w' := by
    intro W _
    refine (text_word f tv tl W ht (fun l b hw V => rk_inj_word f tv b tl l ht hw hf V hf2)).mono ?_
    rintro r w' ⟨rfl, hb⟩
    exact ⟨⟨_, rfl, rfl⟩, hb⟩
  have HP : ∀ s : ByteArray, s = ⟨tl.toArray⟩ → ∀ W : World, Tab W → Cel W → Calls Tryz.prog 16 #[.string s] W fun r w' => r = .returned (.tuple #[.float .f64 tv, .int .i64 0]) ∧ Below W.heap.size W w' := by
    rintro s rfl W _ _
    exact parse_word tl tv ht W
  rcases h with ⟨he, hn⟩ | ⟨he, hn, hi⟩
  · exact back_nan f tv _ _ e w htab hc hs _ he (by rw [order_neq]; exact hn) HE HT HP
  · exact back_inf f tv _ _ e w htab hc hs _ he (by rw [order_neq]; exact hn) hi HE HT HP
theorem sgw_nan (b : Bool) (u : Nat) (hu : u < 9218868437227405312) : nanB (sgw b u) = false := by unfold nanB; rw [sgw_mod b u hu]; exact decide_eq_false (by omega)
theorem sgw_inf (b : Bool) (u : Nat) (hu : u < 9218868437227405312) : infB (sgw b u) = false := by unfold infB; rw [sgw_mod b u hu]; exact decide_eq_false (by omega)
theorem back_number (b : Bool) (u : Nat) (hu : u < 9218868437227405312) (hsm : errT (qB (sgw b u)) = 0) (w : World) (htab : Tab w) (hc : Cel w) :
    Calls Tryz.prog 7 #[.float .f64 (sgw b u)] w fun r w' => r = .returned (.bool true) ∧ Below w.heap.size w w' := by
  have hf2 := sgw_lt b u hu
  have hm := sgw_mod b u hu
  have hx : exV (sgw b u) = .tuple #[.agg #[.string (numT (qB (sgw b u))), .string (denT (qB (sgw b u)))], .int .i64 0] := by
    unfold exV; rw [sgw_nan b u hu, sgw_inf b u hu, if_neg Bool.false_ne_true, if_neg Bool.false_ne_true, hsm]
  have HE := exact_any _ hf2 w htab
  rw [hx] at HE
  have hz := eq_zero (sgw b u) (by rw [hm]; exact hu)
  rw [hm] at hz
  refine back_fin (sgw b u) (sgw b u) _ _ 0 w htab hc (same_refl _) (if u = 0 then 0 else sgw b u) (!decide (u = 0)) (fun s => ∃ (T : ByteArray) (n : Int), PT u T n ∧ s = (if b then ⟨#[45]⟩ ++ laidT T n else laidT T n)) rfl (by rw [order_neq]; exact sgw_nan b u hu) (sub_fin _ (by rw [hm]; exact hu)) ?_ ?_ ?_ (fun W hW => near_exact b u _ _ hu hx W hW) HE ?_ ?_
  · by_cases h0 : u = 0
    · rw [if_pos h0]
      subst h0
      cases b <;> decide +kernel
    · rw [if_neg h0, order_self, sgw_nan b u hu]; rfl
  · unfold bne; rw [hz]
  · by_cases h0 : u = 0
    · exact Or.inr (if_pos h0)
    · left; rw [decide_eq_false h0]; rfl
  · intro W hW
    refine (text_fin b u hu W hW).mono ?_
    rintro r w' ⟨⟨T, n, hp, rfl⟩, hb⟩
    exact ⟨⟨_, ⟨T, n, hp, rfl⟩, rfl⟩, hb⟩
  · rintro s ⟨T, n, hp, rfl⟩ W hW hC
    exact parse_text b u T n hp W hW hC
theorem qB_small (b : Nat) (h : finB b = true) : errT (qB b) = 0 := by
  obtain ⟨K, hK⟩ : ∃ K, K = 400 := ⟨_, rfl⟩
  obtain ⟨h1, _, h3⟩ := bnds b K hK h
  have hd : 0 < 2 ^ eN b := Nat.two_pow_pos _
  obtain ⟨l1, l2⟩ := Cub.ratio_low (b := negB b) (n := mvB b * 2 ^ eP b) hd
  obtain ⟨_, g2, g3⟩ := Cub.low_is l1
  unfold errT
  rw [if_pos]
  unfold Small qB
  rw [← l2, ← g2, ← g3]
  exact ⟨Nat.lt_of_le_of_lt (Nat.div_le_self _ _) h1, Nat.lt_of_le_of_lt (Nat.div_le_self _ _) h3⟩
theorem rk_nan (f : Nat) (h : nanB f = true) : rk f = 18446744073709551615 := by unfold rk; rw [if_pos h]
/-- FloBack: the law, over all floats. -/
theorem law_back (f : Nat) (hf : f < 18446744073709551616) (w : World) (htab : Tab w) (hc : Cel w) :
    Calls Tryz.prog 7 #[.float .f64 f] w fun r w' => r = .returned (.bool true) ∧ Below w.heap.size w w' := by
  cases hn : nanB f with
  | true =>
    refine back_word f 9221120237041090561 [78, 97, 78] 30 hf (Or.inl ⟨rfl, rfl⟩) ?_ ?_ w htab hc ?_ (Or.inl ⟨rfl, hn⟩)
    · rw [rk_nan f hn]; decide
    · unfold sameB; rw [hn]; rfl
    · unfold exV; rw [hn]; rfl
  | false =>
    cases hi : infB f with
    | true =>
      have hx : exV f = .tuple #[.agg #[.string ⟨#[]⟩, .string ⟨#[]⟩], .int .i64 31] := by unfold exV; rw [hn, hi]; rfl
      have hm : f % 9223372036854775808 = 9218868437227405312 := of_decide_eq_true hi
      have h2 : f = 9218868437227405312 ∨ f = 18442240474082181120 := by omega
      rcases h2 with rfl | rfl
      · exact back_word _ _ [43, 73, 110, 102] 31 hf (Or.inr (Or.inl ⟨rfl, rfl⟩)) rfl (same_refl _) w htab hc hx (Or.inr ⟨rfl, hn, hi⟩)
      · exact back_word _ _ [45, 73, 110, 102] 31 hf (Or.inr (Or.inr ⟨rfl, rfl⟩)) rfl (same_refl _) w htab hc hx (Or.inr ⟨rfl, hn, hi⟩)
    | false =>
      have hfin := fin_of f hn hi
      have hu : f % 9223372036854775808 < 9218868437227405312 := of_decide_eq_true hfin
      have e : f = sgw (decide (9223372036854775808 ≤ f)) (f % 9223372036854775808) := by
        unfold sgw
        by_cases h : 9223372036854775808 ≤ f
        · rw [decide_eq_true h, if_pos rfl]; omega
        · rw [decide_eq_false h, if_neg Bool.false_ne_true]; omega
      have hs := qB_small f hfin
      rw [e] at hs
      have := back_number (decide (9223372036854775808 ≤ f)) (f % 9223372036854775808) hu hs w htab hc
      rwa [← e] at this
end Go.Proofs.YtijifpbpjinmhaaGreatDoor

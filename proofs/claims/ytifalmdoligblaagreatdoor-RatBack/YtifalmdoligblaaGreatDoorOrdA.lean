/- The document's Compare. -/
import Derived.Test.YtifalmdoligblaaGreatDoorPairs
import Derived.Test.YtifalmdoligblaaGreatDoorRound
import Derived.Test.YtifalmdoligblaaGreatDoorGcdSmall
import Derived.Test.YtifalmdoligblaaGreatDoorLast
import Derived.Test.YtifalmdoligblaaGreatDoorFracAny
import Derived.Deep.RegionHeld3
namespace Go.Proofs.YtifalmdoligblaaGreatDoor
open Go.RowKit

/-- A function answers a text and an error. -/
def AnsS (f : Nat) (args : Array Value) (w : World) (s : ByteArray) (e : Int) : Prop := Calls Tryz.prog f args w fun r w' => r = .returned (.tuple #[.string s, .int .i64 e]) ∧ Below w.heap.size w w'
/-- What Print tells. -/
def printT (ok : Bool) (n d : ByteArray) : ByteArray := if ok then (if (d.toList == [49]) then n else n ++ ⟨#[47]⟩ ++ d) else ⟨#[]⟩

set_option maxRecDepth 100000 in
set_option maxHeartbeats 2000000 in
theorem print24 (n d : ByteArray) (ok : Bool) (w : World) (hn : ok = true → n.size ≤ 1000000 ∧ d.size ≤ 1000000)
    (h : ∀ W, Calls Tryz.prog 17 #[.agg #[.string n, .string d]] W fun r w' => r = .returned (.bool ok) ∧ Below W.heap.size W w') : AnsS 24 #[.agg #[.string n, .string d]] w (printT ok n d) (if ok then 0 else 3) := by
  unfold AnsS
  obtain ⟨V, hV⟩ : ∃ V, V = w.alloc (.cells #[.string n, .string d] 23) := ⟨_, rfl⟩
  have HB0 : Hid (Below w.heap.size w V) := by rw [hV]; exact (Below.refl _ _).alloc (Nat.le_refl _) _
  have HS1 : Hid (T2 V w.heap.size (.string n) (.string d)) := by rw [hV]; exact ⟨by simp [go_sem], by simp [go_sem], by simp [go_sem], by simp [go_sem]⟩
  have HV := hide hV
  have HA := hide h
  have hl : (⟨#[47]⟩ : ByteArray).size = 1 := rfl
  obtain ⟨e1, he1⟩ : ∃ e1, e1 = (d.toList == [49]) := ⟨_, rfl⟩
  unfold printT
  rw [← he1]
  have he1' := he1.symm
  clear h hV he1
  have HNN := hide hn
  clear hn
  cases ok with
  | false =>
    clear he1' HNN
    go_enter Tryz.func24, Tryz.ntmps24
    go_upto_region 1 with fail
    rw [← unhide HV]
    clear HV
    have t0 := (unhide HS1).c0; have t1 := (unhide HS1).c1
    go_wp2_with (go_at_call 17; go_must (refine (unhide HA _).mono ?_; rintro e w1 ⟨rfl, hb1⟩; have HE := hide ((unhide HB0).trans (hb1.mono (unhide HB0).size)); clear hb1 t0 t1))
    exact bodyPost_ret (v := .tuple #[.string ⟨#[]⟩, .int .i64 3]) (by simp [results, Tryz.results24, go_sem]) rfl ⟨rfl, unhide HE⟩
  | true =>
    obtain ⟨z1, z2⟩ := unhide HNN rfl
    clear HNN
    cases e1 with
    | true =>
      go_enter Tryz.func24, Tryz.ntmps24
      go_upto_region 1 with fail
      rw [← unhide HV]
      clear HV
      have t0 := (unhide HS1).c0; have t1 := (unhide HS1).c1
      go_wp2_with (go_at_call 17; go_must (refine (unhide HA _).mono ?_; rintro e w1 ⟨rfl, hb1⟩; have HE := hide ((unhide HB0).trans (hb1.mono (unhide HB0).size)); have HS2 := hide ((unhide HS1).later hb1); clear hb1 t0 t1; have t0 := (unhide HS2).c0; have t1 := (unhide HS2).c1))
      exact bodyPost_ret (v := .tuple #[.string n, .int .i64 0]) (by simp [results, Tryz.results24, go_sem]) rfl ⟨rfl, unhide HE⟩
    | false =>
      go_enter Tryz.func24, Tryz.ntmps24
      go_upto_region 1 with fail
      rw [← unhide HV]
      clear HV
      have t0 := (unhide HS1).c0; have t1 := (unhide HS1).c1
      go_wp2_with (go_at_call 17; go_must (refine (unhide HA _).mono ?_; rintro e w1 ⟨rfl, hb1⟩; have HE := hide ((unhide HB0).trans (hb1.mono (unhide HB0).size)); have HS2 := hide ((unhide HS1).later hb1); clear hb1 t0 t1; have t0 := (unhide HS2).c0; have t1 := (unhide HS2).c1))
      exact bodyPost_ret (v := .tuple #[.string (n ++ ⟨#[47]⟩ ++ d), .int .i64 0]) (by simp [results, Tryz.results24, go_sem]) rfl ⟨rfl, unhide HE⟩

set_option maxRecDepth 100000 in
set_option maxHeartbeats 2000000 in
theorem pointed_zero (s : ByteArray) (w : World) : Calls Tryz.prog 89 #[.string s, .int .i64 0] w fun r w' => r = .returned (.string s) ∧ Below w.heap.size w w' := by
  go_enter Tryz.func89, Tryz.ntmps89
  go_wp2
  go_ret
  exact ⟨rfl, Below.refl _ _⟩
/-- The digits, with a point. -/
def ptT (s : ByteArray) (p : Nat) : ByteArray := if p = 0 then s else ⟨(pt s.data.toList p).toArray⟩
theorem pointed_all (s : ByteArray) (p : Nat) (w : World) (hp2 : p ≤ 100000) (hs : s.size ≤ 100000) (hs1 : 1 ≤ s.size) :
    Calls Tryz.prog 89 #[.string s, .int .i64 (p : Int)] w fun r w' => r = .returned (.string (ptT s p)) ∧ Below w.heap.size w w' := by
  unfold ptT
  by_cases h : p = 0
  · rw [if_pos h, h]; exact pointed_zero s w
  · rw [if_neg h]; exact pointed_any s p w (by omega) hp2 hs hs1
theorem pt_length (s : List UInt8) (p : Nat) : (pt s p).length ≤ s.length + p + 3 := by
  unfold pt padZ
  simp
  omega
theorem ptT_size (s : ByteArray) (p : Nat) : (ptT s p).size ≤ s.size + p + 3 := by
  unfold ptT
  split
  · omega
  · have := pt_length s.data.toList p
    rw [list_len] at this
    show (pt s.data.toList p).toArray.size ≤ _
    simpa using this
end Go.Proofs.YtifalmdoligblaaGreatDoor

namespace Go.Proofs.YtifalmdoligblaaGreatDoor
open Go.RowKit

/-- What Digits tells of a number: its text, and the error. -/
def digS (x : Rat) (p : Nat) : ByteArray := if decide (x < 0) && !(stepsN x p == 0) then ⟨#[45]⟩ ++ ptT (tx (stepsN x p)) p else ptT (tx (stepsN x p)) p
def digitsT (x : Rat) (p : Nat) : ByteArray := if 600 < (tx (stepsN x p)).size then ⟨#[]⟩ else digS x p
def digitsE (x : Rat) (p : Nat) : Int := if 600 < (tx (stepsN x p)).size then 7 else 0
theorem tx_digits (n : Nat) : (tx n).size = Lib.nDigits n := by rw [← list_len, tx_list, Lib.decDigits_length]

set_option maxRecDepth 100000 in
set_option maxHeartbeats 4000000 in
theorem rdigits_ok (n1 d1 : ByteArray) (x : Rat) (p : Nat) (w : World) (h1 : IsR n1 d1 x) (hp : p ≤ 600) (htab : Tab w) : AnsS 26 #[.agg #[.string n1, .string d1], .int .i64 (p : Int)] w (digitsT x p) (digitsE x p) := by
  unfold AnsS
  obtain ⟨V, hV⟩ : ∃ V, V = w.alloc (.cells #[.string n1, .string d1] 23) := ⟨_, rfl⟩
  have HB0 : Hid (Below w.heap.size w V) := by rw [hV]; exact (Below.refl _ _).alloc (Nat.le_refl _) _
  have HS1 : Hid (T2 V w.heap.size (.string n1) (.string d1)) := by rw [hV]; exact ⟨by simp [go_sem], by simp [go_sem], by simp [go_sem], by simp [go_sem]⟩
  have HV := hide hV
  have HR := hide (qread n1 d1 x V h1)
  have hb6 : Bd 600 x := h1.bd
  have HNR : Hid (∀ W v, QOf W v x 67 → Calls Tryz.prog 86 #[v, .int .i64 (p : Int)] W fun e w' => ∃ a l c, e = .returned (.agg #[.slice a l c]) ∧ IsBig w' (.agg #[.slice a l c]) (stepsN x p) ∧ Below W.heap.size W w') := fun W v hv => by
    obtain ⟨b, n, d, hf, hl, hvq, hn, hd⟩ := hv
    obtain ⟨l1, l2, l3⟩ := Cub.low_is hl
    rw [hvq] at l1 l2 l3
    have hN := rN_lt (x := x) (p := (p : Int)) (e := 600) hb6 (by omega)
    have hD := rD_lt (x := x) (p := (p : Int)) (e := 600) hb6 (by omega)
    have hD0 := rD_pos x (p : Int)
    unfold stepsN
    rw [← l2] at hN ⊢
    rw [← l3] at hD hD0 ⊢
    refine nearest_any v b n d _ _ 134 p W hf (by omega) (by omega) (by omega) (Nat.lt_of_lt_of_le hn (Nat.pow_le_pow_right (by omega) (by omega))) (Nat.lt_of_lt_of_le hd (Nat.pow_le_pow_right (by omega) (by omega))) (pow_limbs hN (by omega)) (pow_limbs hD (by omega)) hD0 ?_
    unfold rN rD
    have hj : ¬ (p : Int) < 0 := by omega
    right; rw [if_neg hj, if_neg hj]; exact ⟨hj, rfl, rfl⟩
  have hs := pow_limbs (k := 134) (stepsN_lt (x := x) (p := (p : Int)) (e := 600) hb6 (by omega)) (by omega)
  have HSG : Hid (∀ W b s t, QOf W (.agg #[.bool b, s, t]) x 67 → b = decide (x < 0)) := fun W b s t h => by
    obtain ⟨b', n, d, ⟨s', t', e, _⟩, hl, hvq, _⟩ := h
    obtain ⟨l1, _, _⟩ := Cub.low_is hl
    rw [hvq] at l1
    simp only [Value.agg.injEq, Array.mk.injEq, List.cons.injEq, Value.bool.injEq] at e
    rw [e.1]; exact l1
  have HLN : Hid (∀ W v, IsBig W v (stepsN x p) → Calls Tryz.prog 87 #[v] W fun e w' => e = .returned (.int .i64 ((tx (stepsN x p)).size : Int)) ∧ Below W.heap.size W w') := fun W v hv => by
    rw [tx_digits]; exact len_any v _ 134 W hv (by omega) hs
  have HTX : Hid (∀ W v, IsBig W v (stepsN x p) → Tab W → Calls Tryz.prog 90 #[v] W fun e w' => e = .returned (.string (tx (stepsN x p))) ∧ Below W.heap.size W w') := fun W v hv ht => text_any v _ 134 W hv (by omega) hs ht
  have HT := hide htab
  have k1 : ¬ (p : Int) < 0 := by omega
  have k2 : ¬ 600 < (p : Int) := by omega
  have hts : 1 ≤ (tx (stepsN x p)).size := (tx_last _).1
  obtain ⟨R, hR⟩ : ∃ R, R = digitsT x p := ⟨_, rfl⟩
  obtain ⟨E, hE⟩ : ∃ E, E = digitsE x p := ⟨_, rfl⟩
  rw [← hR, ← hE]
  unfold digitsT digS at hR
  unfold digitsE at hE
  have HRE := hide (And.intro hR hE)
  clear hR hE
  have HPT : Hid ((tx (stepsN x p)).size ≤ 600 → (∀ W, Calls Tryz.prog 89 #[.string (tx (stepsN x p)), .int .i64 (p : Int)] W fun r w' => r = .returned (.string (ptT (tx (stepsN x p)) p)) ∧ Below W.heap.size W w') ∧ (ptT (tx (stepsN x p)) p).size ≤ 1000000) := fun h600 => ⟨fun W => pointed_all _ p W (by omega) (by omega) hts, by have := ptT_size (tx (stepsN x p)) p; omega⟩
  generalize ptT (tx (stepsN x p)) p = pT at *
  generalize tx (stepsN x p) = tT at *
  generalize stepsN x p = sn at *
  clear h1 hb6 hs htab hts
  go_enter Tryz.func26, Tryz.ntmps26
  go_upto_region 1 with fail
  rw [← unhide HV]
  clear hV HV
  have t0 := (unhide HS1).c0; have t1 := (unhide HS1).c1
  go_upto_region 2 with (go_at_call 76; go_must (refine (unhide HR).mono ?_; rintro e w1 ⟨v1, rfl, hv1, hb1⟩; obtain ⟨b1, i1, i2, i3, i4, i5, i6, rfl⟩ := hv1.form; have HB1 := hide ((unhide HB0).trans (hb1.mono (unhide HB0).size)); have HV1 := hide hv1; clear hv1 hb1 t0 t1))
  obtain ⟨V2, hV2⟩ : ∃ V2, V2 = w1.alloc (.cells #[.bool b1, .slice i1 i2 i3, .slice i4 i5 i6] 74) := ⟨_, rfl⟩
  have hb : Below w1.heap.size w1 V2 := by rw [hV2]; exact (Below.refl _ _).alloc (Nat.le_refl _) _
  have HB2 := hide ((unhide HB1).trans (hb.mono (unhide HB1).size)); have HX := hide ((unhide HV1).later hb)
  have HP : Hid (FBox V2 w1.heap.size (.bool b1) (.slice i1 i2 i3) (.slice i4 i5 i6)) := by rw [hV2]; exact FBox.new _ _ _ _
  rw [← hV2]
  clear hV2 hb HV1 HR HB1 HB0 HS1
  generalize w1.heap.size = g8 at *
  have HSGN := hide (unhide HSG _ _ _ _ (unhide HX))
  clear HSG
  have t0 := (unhide HP).c0; have t1 := (unhide HP).c1; have t2 := (unhide HP).c2
  go_upto_region 7 with (go_at_call 86; go_must (refine (unhide HNR _ _ (unhide HX)).mono ?_; rintro e w3 ⟨a3, l3, c3, rfl, hv3, hb3⟩; have HB3 := hide ((unhide HB2).trans (hb3.mono (unhide HB2).size)); have HP3 := hide ((unhide HP).later hb3); have HN3 := hide hv3; clear hv3 hb3 t0 t1 t2))
  obtain ⟨V5, hV5⟩ : ∃ V5, V5 = w3.alloc (.cells #[.slice a3 l3 c3] 72) := ⟨_, rfl⟩
  have hb5 : Below w3.heap.size w3 V5 := by rw [hV5]; exact (Below.refl _ _).alloc (Nat.le_refl _) _
  have HBX : Hid (Box V5 w3.heap.size (.slice a3 l3 c3)) := by rw [hV5]; exact Box.new72 _ _
  have HB5 := hide ((unhide HB3).trans (hb5.mono (unhide HB3).size)); have HP5 := hide ((unhide HP3).later hb5); have HN5 := hide ((unhide HN3).later hb5)
  rw [← hV5]
  clear hV5 hb5 HB2 HB3 HP HP3 HN3 HX HNR
  generalize w3.heap.size = g9 at *
  have u9 := (unhide HBX).c
  by_cases h6 : 600 < tT.size
  · have h6' : (600 : Int) < (tT.size : Int) := by omega
    have HI : Hid (R = ⟨#[]⟩ ∧ E = 7) := ⟨by rw [(unhide HRE).1, if_pos h6], by rw [(unhide HRE).2, if_pos h6]⟩
    clear HRE
    go_wp2_with (go_at_call 87; go_must (refine (unhide HLN _ _ (unhide HN5)).mono ?_; rintro e w6 ⟨rfl, hb6⟩; have HE := hide ((unhide HB5).trans (hb6.mono (unhide HB5).size)); clear hb6 u9))
    exact bodyPost_ret (v := .tuple #[.string ⟨#[]⟩, .int .i64 7]) (by simp [results, Tryz.results26, go_sem]) rfl ⟨by rw [(unhide HI).1, (unhide HI).2], unhide HE⟩
  · have h6' : ¬ (600 : Int) < (tT.size : Int) := by omega
    obtain ⟨hpt, hps⟩ := unhide HPT (by omega)
    have HPP := hide hpt
    obtain ⟨zb, hzb⟩ : ∃ zb, zb = (sn == 0) := ⟨_, rfl⟩
    have HI : Hid (R = (if b1 && !zb then ⟨#[45]⟩ ++ pT else pT) ∧ E = 0) := ⟨by rw [(unhide HRE).1, if_neg h6, unhide HSGN, hzb], by rw [(unhide HRE).2, if_neg h6]⟩
    have HZ := hide hzb
    clear hzb HRE
    clear hpt HPT HSGN
    go_upto_region 9 with (go_at_call 87; go_must (refine (unhide HLN _ _ (unhide HN5)).mono ?_; rintro e w6 ⟨rfl, hb6⟩; have HB6 := hide hb6; clear hb6 u9))
    have q0 : ∀ z : Later w6, z.world.cell? ⟨g8, 0, none⟩ = some (.bool b1) := fun z => ((unhide HP5).later ((unhide HB6).trans (z.below.mono (unhide HB6).size))).c0
    have q1 : ∀ z : Later w6, z.world.cell? ⟨g9, 0, none⟩ = some (.slice a3 l3 c3) := fun z => ((unhide HBX).later ((unhide HB6).trans (z.below.mono (unhide HB6).size))).c
    have HZB : Hid (∀ z : Later w6, Below w.heap.size w z.world ∧ IsBig z.world (.agg #[.slice a3 l3 c3]) sn) := fun z => by
      have hb := (unhide HB6).trans (z.below.mono (unhide HB6).size)
      exact ⟨(unhide HB5).trans (hb.mono (unhide HB5).size), (unhide HN5).later hb⟩
    have H88 : Hid (∀ z : Later w6, Calls Tryz.prog 88 #[.agg #[.slice a3 l3 c3]] z.world fun e w' => e = .returned (.bool zb) ∧ Below z.world.heap.size z.world w') := fun z => by rw [unhide HZ]; exact isZero_any _ _ _ (unhide HZB z).2
    have H90 : Hid (∀ z : Later w6, Calls Tryz.prog 90 #[.agg #[.slice a3 l3 c3]] z.world fun e w' => e = .returned (.string tT) ∧ Below z.world.heap.size z.world w') := fun z => unhide HTX _ _ (unhide HZB z).2 ((unhide HT).later (unhide HZB z).1)
    have H89 : Hid (∀ z : Later w6, Calls Tryz.prog 89 #[.string tT, .int .i64 (p : Int)] z.world fun e w' => e = .returned (.string pT) ∧ Below z.world.heap.size z.world w') := fun z => unhide HPP _
    have H78 : Hid (∀ (z : Later w6) (b : Bool), Calls Tryz.prog 78 #[.bool b, .string pT] z.world fun e w' => e = .returned (.string (if b then ⟨#[45]⟩ ++ pT else pT)) ∧ Below z.world.heap.size z.world w') := fun z b => (signed_any b pT z.world hps).mono (by rintro e w' ⟨rfl, rfl⟩; exact ⟨rfl, Below.refl _ _⟩)
    cases b1 with
    | false =>
      refine quiet_later (by kernel_rfl) (by kernel_rfl) ?_
      repeat (go_big_quiet_step (first
        | (go_at_call 88; rename_i xx; refine (unhide H88 xx).mono ?_; rintro e w9 ⟨rfl, hb9⟩; have hz := xx.below.trans (hb9.mono xx.below.size); first | exact ⟨rfl, ⟨w9, hz⟩, rfl⟩ | exact ⟨rfl, hz⟩ | exact ⟨rfl, w9, hz, rfl⟩)
        | (go_at_call 90; rename_i xx; refine (unhide H90 xx).mono ?_; rintro e w9 ⟨rfl, hb9⟩; have hz := xx.below.trans (hb9.mono xx.below.size); first | exact ⟨rfl, ⟨w9, hz⟩, rfl⟩ | exact ⟨rfl, hz⟩ | exact ⟨rfl, w9, hz, rfl⟩)
        | (go_at_call 89; rename_i xx; refine (unhide H89 xx).mono ?_; rintro e w9 ⟨rfl, hb9⟩; have hz := xx.below.trans (hb9.mono xx.below.size); first | exact ⟨rfl, ⟨w9, hz⟩, rfl⟩ | exact ⟨rfl, hz⟩ | exact ⟨rfl, w9, hz, rfl⟩)
        | (go_at_call 78; rename_i xx; refine (unhide H78 xx _).mono ?_; rintro e w9 ⟨rfl, hb9⟩; have hz := xx.below.trans (hb9.mono xx.below.size); first | exact ⟨rfl, ⟨w9, hz⟩, rfl⟩ | exact ⟨rfl, hz⟩ | exact ⟨rfl, w9, hz, rfl⟩)))
      refine wpQuiet_nil ?_
      intro _ hw'
      obtain ⟨xz, hw''⟩ := hw'
      subst hw''
      have HE := hide (unhide HZB xz).1
      clear q0 q1
      go_wp2_with fail
      exact bodyPost_ret (v := .tuple #[.string pT, .int .i64 0]) (by simp [results, Tryz.results26, go_sem]) rfl ⟨by rw [(unhide HI).1, (unhide HI).2]; rfl, unhide HE⟩
    | true =>
      cases zb with
      | true =>
        refine quiet_later (by kernel_rfl) (by kernel_rfl) ?_
        repeat (go_big_quiet_step (first
          | (go_at_call 88; rename_i xx; refine (unhide H88 xx).mono ?_; rintro e w9 ⟨rfl, hb9⟩; have hz := xx.below.trans (hb9.mono xx.below.size); first | exact ⟨rfl, ⟨w9, hz⟩, rfl⟩ | exact ⟨rfl, hz⟩ | exact ⟨rfl, w9, hz, rfl⟩)
          | (go_at_call 90; rename_i xx; refine (unhide H90 xx).mono ?_; rintro e w9 ⟨rfl, hb9⟩; have hz := xx.below.trans (hb9.mono xx.below.size); first | exact ⟨rfl, ⟨w9, hz⟩, rfl⟩ | exact ⟨rfl, hz⟩ | exact ⟨rfl, w9, hz, rfl⟩)
          | (go_at_call 89; rename_i xx; refine (unhide H89 xx).mono ?_; rintro e w9 ⟨rfl, hb9⟩; have hz := xx.below.trans (hb9.mono xx.below.size); first | exact ⟨rfl, ⟨w9, hz⟩, rfl⟩ | exact ⟨rfl, hz⟩ | exact ⟨rfl, w9, hz, rfl⟩)
          | (go_at_call 78; rename_i xx; refine (unhide H78 xx _).mono ?_; rintro e w9 ⟨rfl, hb9⟩; have hz := xx.below.trans (hb9.mono xx.below.size); first | exact ⟨rfl, ⟨w9, hz⟩, rfl⟩ | exact ⟨rfl, hz⟩ | exact ⟨rfl, w9, hz, rfl⟩)))
        refine wpQuiet_nil ?_
        intro _ hw'
        obtain ⟨xz, hw''⟩ := hw'
        subst hw''
        have HE := hide (unhide HZB xz).1
        clear q0 q1
        go_wp2_with fail
        exact bodyPost_ret (v := .tuple #[.string pT, .int .i64 0]) (by simp [results, Tryz.results26, go_sem]) rfl ⟨by rw [(unhide HI).1, (unhide HI).2]; rfl, unhide HE⟩
      | false =>
        refine quiet_later (by kernel_rfl) (by kernel_rfl) ?_
        repeat (go_big_quiet_step (first
          | (go_at_call 88; rename_i xx; refine (unhide H88 xx).mono ?_; rintro e w9 ⟨rfl, hb9⟩; have hz := xx.below.trans (hb9.mono xx.below.size); first | exact ⟨rfl, ⟨w9, hz⟩, rfl⟩ | exact ⟨rfl, hz⟩ | exact ⟨rfl, w9, hz, rfl⟩)
          | (go_at_call 90; rename_i xx; refine (unhide H90 xx).mono ?_; rintro e w9 ⟨rfl, hb9⟩; have hz := xx.below.trans (hb9.mono xx.below.size); first | exact ⟨rfl, ⟨w9, hz⟩, rfl⟩ | exact ⟨rfl, hz⟩ | exact ⟨rfl, w9, hz, rfl⟩)
          | (go_at_call 89; rename_i xx; refine (unhide H89 xx).mono ?_; rintro e w9 ⟨rfl, hb9⟩; have hz := xx.below.trans (hb9.mono xx.below.size); first | exact ⟨rfl, ⟨w9, hz⟩, rfl⟩ | exact ⟨rfl, hz⟩ | exact ⟨rfl, w9, hz, rfl⟩)
          | (go_at_call 78; rename_i xx; refine (unhide H78 xx _).mono ?_; rintro e w9 ⟨rfl, hb9⟩; have hz := xx.below.trans (hb9.mono xx.below.size); first | exact ⟨rfl, ⟨w9, hz⟩, rfl⟩ | exact ⟨rfl, hz⟩ | exact ⟨rfl, w9, hz, rfl⟩)))
        refine wpQuiet_nil ?_
        intro _ hw'
        obtain ⟨xz, hw''⟩ := hw'
        subst hw''
        have HE := hide (unhide HZB xz).1
        clear q0 q1
        go_wp2_with fail
        exact bodyPost_ret (v := .tuple #[.string (⟨#[45]⟩ ++ pT), .int .i64 0]) (by simp [results, Tryz.results26, go_sem]) rfl ⟨by rw [(unhide HI).1, (unhide HI).2]; rfl, unhide HE⟩
end Go.Proofs.YtifalmdoligblaaGreatDoor

namespace Go.Proofs.YtifalmdoligblaaGreatDoor
open Go.RowKit
set_option maxRecDepth 100000 in
set_option maxHeartbeats 2000000 in
theorem refCompare_walk (b1 b2 b3 b4 z : Bool) (s1 t1 s2 t2 s3 t3 s4 t4 : ByteArray) (w : World)
    (hm : ∀ W, Calls Tryz.prog 63 #[.agg #[.bool b2, .string s2, .string t2]] W fun r w' => r = .returned (.agg #[.bool b3, .string s3, .string t3]) ∧ Below W.heap.size W w')
    (hp : ∀ W, Calls Tryz.prog 61 #[.agg #[.bool b1, .string s1, .string t1], .agg #[.bool b3, .string s3, .string t3]] W fun r w' => r = .returned (.agg #[.bool b4, .string s4, .string t4]) ∧ Below W.heap.size W w')
    (hz : (s4.toList == [48]) = z) :
    Calls Tryz.prog 64 #[.agg #[.bool b1, .string s1, .string t1], .agg #[.bool b2, .string s2, .string t2]] w fun r w' => r = .returned (.int .i64 (if z then 0 else if b4 then -1 else 1)) ∧ Below w.heap.size w w' := by
  obtain ⟨V, hV⟩ : ∃ V, V = (w.alloc (.cells #[.bool b1, .string s1, .string t1] 61)).alloc (.cells #[.bool b2, .string s2, .string t2] 61) := ⟨_, rfl⟩
  have HB : Hid (Below w.heap.size w V) := by rw [hV]; exact ((Below.refl _ _).alloc (Nat.le_refl _) _).alloc (by simp) _
  have HF : Hid (FBox V w.heap.size (.bool b1) (.string s1) (.string t1)) := by rw [hV]; exact ⟨by simp [go_sem], by simp [go_sem], by simp [go_sem], by simp [go_sem], by simp [go_sem], by simp [go_sem]⟩
  have HG : Hid (FBox V (w.heap.size + 1) (.bool b2) (.string s2) (.string t2)) := by rw [hV]; exact ⟨by simp [go_sem], by simp [go_sem], by simp [go_sem], by simp [go_sem], by simp [go_sem], by simp [go_sem]⟩
  have HV := hide hV
  have HM := hide hm; have HP := hide hp
  clear hm hp
  go_enter Tryz.func64, Tryz.ntmps64
  go_upto_region 1 with fail
  rw [← unhide HV]
  clear hV HV
  have HFX : Hid (∀ X, Below V.heap.size V X → X.cell? ⟨w.heap.size, 0, none⟩ = some (.bool b1) ∧ X.cell? ⟨w.heap.size, 1, none⟩ = some (.string s1) ∧ X.cell? ⟨w.heap.size, 2, none⟩ = some (.string t1) ∧ X.cell? ⟨w.heap.size + 1, 0, none⟩ = some (.bool b2) ∧ X.cell? ⟨w.heap.size + 1, 1, none⟩ = some (.string s2) ∧ X.cell? ⟨w.heap.size + 1, 2, none⟩ = some (.string t2)) := fun X h => ⟨((unhide HF).later h).c0, ((unhide HF).later h).c1, ((unhide HF).later h).c2, ((unhide HG).later h).c0, ((unhide HG).later h).c1, ((unhide HG).later h).c2⟩
  obtain ⟨c0, c1, c2, c3, c4, c5⟩ := unhide HFX V (Below.refl _ _)
  have zl : w.heap.size < V.heap.size := (unhide HF).lt
  have zl2 : w.heap.size + 1 < V.heap.size := (unhide HG).lt
  have kv : V.heap.size ≠ w.heap.size := by omega
  have kv' : V.heap.size ≠ w.heap.size + 1 := by omega
  clear HF HG
  go_region_held3 (fun w' => w'.cell? ⟨w.heap.size, 0, none⟩ = some (.bool b1) ∧ w'.cell? ⟨w.heap.size, 1, none⟩ = some (.string s1) ∧ w'.cell? ⟨w.heap.size, 2, none⟩ = some (.string t1) ∧ w'.cell? ⟨w.heap.size + 1, 0, none⟩ = some (.bool b2) ∧ w'.cell? ⟨w.heap.size + 1, 1, none⟩ = some (.string s2) ∧ w'.cell? ⟨w.heap.size + 1, 2, none⟩ = some (.string t2)) (first | assumption | (refine ⟨?_, ?_, ?_, ?_, ?_, ?_⟩ <;> first | assumption | ((rw [World.cell?_setCell_far, World.cell?_setCell_far, World.cell?_setCell_far] <;> first | assumption | (simp [*, World.cell?_alloc_some]; done)); done) | (simp [*, World.cell?_alloc_some]; done))) ((first
    | (go_at_call 63; go_must (refine (unhide HM _).mono ?_; rintro e wa ⟨rfl, hba⟩; first
        | (have HCA := hide (((Below.refl V.heap.size V).drew).trans hba))
        | (have HCA := hide ((((Below.refl V.heap.size V).drew).alloc (Nat.le_refl _) (.cells #[.bool false, .string ⟨#[]⟩, .string ⟨#[]⟩] 61)).trans (hba.mono (by simp))); have HN : Hid (FBox wa V.heap.size (.bool false) (.string ⟨#[]⟩) (.string ⟨#[]⟩)) := hide ((FBox.new61 V.drew (.bool false) (.string ⟨#[]⟩) (.string ⟨#[]⟩)).later hba))); clear hba c0 c1 c2 c3 c4 c5; obtain ⟨c0, c1, c2, c3, c4, c5⟩ := unhide HFX wa (unhide HCA); have ka : wa.heap.size ≠ w.heap.size := (by have := (unhide HCA).size; omega); have ka' : wa.heap.size ≠ w.heap.size + 1 := (by have := (unhide HCA).size; omega))
    | (go_at_call 61; go_must (refine (unhide HP _).mono ?_; rintro e wb ⟨rfl, hbb⟩; first
        | (have HCB := hide ((unhide HCA).trans (hbb.mono (unhide HCA).size)); first | (have HN2 := hide ((unhide HN).later hbb)) | skip)
        | (have HCB := hide ((unhide HCA).trans ((((Below.refl wa.heap.size wa)).alloc (Nat.le_refl _) (.cells #[.bool false, .string ⟨#[]⟩, .string ⟨#[]⟩] 61)).trans (hbb.mono (by simp)) |>.mono (unhide HCA).size)); have HN2 := hide ((FBox.new61 wa (.bool false) (.string ⟨#[]⟩) (.string ⟨#[]⟩)).later hbb))); clear hbb c0 c1 c2 c3 c4 c5; obtain ⟨c0, c1, c2, c3, c4, c5⟩ := unhide HFX wb (unhide HCB); have kb : wb.heap.size ≠ w.heap.size := (by have := (unhide HCB).size; omega); have kb' : wb.heap.size ≠ w.heap.size + 1 := (by have := (unhide HCB).size; omega); first | (have n0 := (unhide HN2).c0; have n1 := (unhide HN2).c1; have n2 := (unhide HN2).c2; have nf0 := (unhide HN2).f0; have nf1 := (unhide HN2).f1; have nf2 := (unhide HN2).f2) | skip)))
  · obtain ⟨X, hX⟩ : ∃ X, X = wb.alloc (.cells #[.bool b4, .string s4, .string t4] 61) := ⟨_, rfl⟩
    have hb : Below V.heap.size V X := by rw [hX]; exact (unhide HCB).alloc (unhide HCB).size _
    have q : FBox X wb.heap.size (.bool b4) (.string s4) (.string t4) := by rw [hX]; exact FBox.new61 _ _ _ _
    have HE : Hid (Below w.heap.size w X) := (unhide HB).trans (hb.mono (unhide HB).size)
    rw [← hX]
    clear hX hb HM HP HFX c0 c1 c2 c3 c4 c5 ka ka' kb kb' kv kv' zl zl2
    have d0 := q.c0; have d1 := q.c1
    clear q
    cases z <;> cases b4 <;> (
      go_wp2_with fail
      go_ret
      exact ⟨by simp, unhide HE⟩)
  · obtain ⟨X, hX⟩ : ∃ X, X = ((wb.setCell ⟨wa.heap.size, 0, none⟩ (.bool b4)).setCell ⟨wa.heap.size, 1, none⟩ (.string s4)).setCell ⟨wa.heap.size, 2, none⟩ (.string t4) := ⟨_, rfl⟩
    have hb : Below V.heap.size V X := by rw [hX]; exact below_store3 (unhide HCB) (unhide HCA).size _ _ _
    have q : FBox X wa.heap.size (.bool b4) (.string s4) (.string t4) := by rw [hX]; exact (unhide HN2).store _ _ _
    have HE : Hid (Below w.heap.size w X) := (unhide HB).trans (hb.mono (unhide HB).size)
    rw [← hX]
    clear hX hb HM HP HFX c0 c1 c2 c3 c4 c5 ka ka' kb kb' kv kv' zl zl2
    have d0 := q.c0; have d1 := q.c1
    clear q
    cases z <;> cases b4 <;> (
      go_wp2_with fail
      go_ret
      exact ⟨by simp, unhide HE⟩)
  · obtain ⟨X, hX⟩ : ∃ X, X = ((wb.setCell ⟨V.heap.size, 0, none⟩ (.bool b4)).setCell ⟨V.heap.size, 1, none⟩ (.string s4)).setCell ⟨V.heap.size, 2, none⟩ (.string t4) := ⟨_, rfl⟩
    have hb : Below V.heap.size V X := by rw [hX]; exact below_store3 (unhide HCB) (Nat.le_refl _) _ _ _
    have q : FBox X V.heap.size (.bool b4) (.string s4) (.string t4) := by rw [hX]; exact (unhide HN2).store _ _ _
    have HE : Hid (Below w.heap.size w X) := (unhide HB).trans (hb.mono (unhide HB).size)
    rw [← hX]
    clear hX hb HM HP HFX c0 c1 c2 c3 c4 c5 ka ka' kb kb' kv kv' zl zl2
    have d0 := q.c0; have d1 := q.c1
    clear q
    cases z <;> cases b4 <;> (
      go_wp2_with fail
      go_ret
      exact ⟨by simp, unhide HE⟩)
/-- The document's Compare of two numbers. -/
theorem refCompare (d : Nat) (x y : Rat) (w : World) (hd1 : 1 ≤ d) (hd : d + d + 1 ≤ 5000) (hx : Bd d x) (hy : Bd d y) :
    Calls Tryz.prog 64 #[fx x, fx y] w fun r w' => r = .returned (.int .i64 (Cub.cmpQ x y)) ∧ Below w.heap.size w w' := by
  have h0 : ((tx (x + -y).num.natAbs).toList == [48]) = decide (x + -y = 0) := by
    by_cases e : (x + -y).num.natAbs = 0
    · rw [e, tx_zero, decide_eq_true (Rat.num_eq_zero.1 (Int.natAbs_eq_zero.1 e))]
    · rw [tx_pos _ (by omega), decide_eq_false (fun e' => e (by rw [e']; rfl))]
  have h := refCompare_walk _ _ _ (decide (x + -y < 0)) _ _ _ _ _ _ _ (tx (x + -y).num.natAbs) (tx (x + -y).den) w (fun W => refFMinus y W) (fun W => refFPlus d x (-y) W hd1 hd hx (bd_neg hy)) h0
  have e : (if decide (x + -y = 0) = true then (0 : Int) else if decide (x + -y < 0) = true then -1 else 1) = Cub.cmpQ x y := by
    unfold Cub.cmpQ
    rw [← Rat.sub_eq_add_neg]
    simp only [decide_eq_true_eq]
    grind
  rw [e] at h
  exact h
end Go.Proofs.YtifalmdoligblaaGreatDoor

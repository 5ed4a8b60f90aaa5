/- rat.Right, rat.New; the document's Lowest, Told, New. -/
import Derived.Test.YtndhinoomlofgaaGreatDoorParse2
import Derived.Test.YtndhinoomlofgaaGreatDoorPoint
import Derived.Test.YtndhinoomlofgaaGreatDoorTwo
import Derived.Test.YtndhinoomlofgaaGreatDoorHas
namespace Go.Proofs.YtndhinoomlofgaaGreatDoor
open Go.RowKit

theorem lit_tb (s : ByteArray) (n : Nat) (h : Cub.rightB s.data.toList = true) (hv : Cub.dval s.data.toList = n) : s = tb n ∧ n < 10 ^ 600 := by
  obtain ⟨m, hm, rfl⟩ := tb_of h
  have := (tb_right m hm).2
  have e : m = n := this.symm.trans hv
  subst e
  exact ⟨rfl, hm⟩
theorem QOf.exact {w : World} {v : Value} {b : Bool} {n d k : Nat} (h : QOf w v (Cub.valQ b n d) k) (hl : Cub.Low b n d) : IsFrac w v b n d := by
  obtain ⟨b', n', d', h1, h2, h3, _⟩ := h
  obtain ⟨rfl, rfl, rfl⟩ := Cub.low_unique h2 hl h3
  exact h1

set_option maxRecDepth 100000 in
set_option maxHeartbeats 2000000 in
theorem digits_S (w : World) (htab : Tab w) : Calls Tryz.prog 28 #[.agg #[.string ⟨#[50, 50]⟩, .string ⟨#[55]⟩], .int .i64 4] w fun r w' => r = .returned (.tuple #[.string ⟨#[51, 46, 49, 52, 50, 57]⟩, .int .i64 0]) ∧ Below w.heap.size w w' := by
  obtain ⟨V, hV⟩ : ∃ V, V = w.alloc (.cells #[.string ⟨#[50, 50]⟩, .string ⟨#[55]⟩] 23) := ⟨_, rfl⟩
  have hbV : Below w.heap.size w V := by rw [hV]; exact (Below.refl _ _).alloc (Nat.le_refl _) _
  have HBV := hide hbV
  have HV := hide hV
  have hl : Cub.Low false 22 7 := ⟨by decide, by decide, by decide⟩
  obtain ⟨e22, l22⟩ := lit_tb ⟨#[50, 50]⟩ 22 (by decide) (by decide)
  obtain ⟨e7, l7⟩ := lit_tb ⟨#[55]⟩ 7 (by decide) (by decide)
  have HRD : Hid (Calls Tryz.prog 78 #[.agg #[.string ⟨#[50, 50]⟩, .string ⟨#[55]⟩]] V fun r w' => ∃ v, r = .returned (.tuple #[v, .bool true]) ∧ IsFrac w' v false 22 7 ∧ Below V.heap.size V w') := by
    refine (read_ok ⟨#[50, 50]⟩ ⟨#[55]⟩ false 22 7 V e22 e7 l22 l7 (by decide) (by decide) (by decide)).mono ?_
    rintro r w' ⟨v, rfl, hv, hb⟩
    exact ⟨v, rfl, hv.exact hl, hb⟩
  have HNE : Hid (∀ W v, IsFrac W v false 22 7 → Calls Tryz.prog 88 #[v, .int .i64 4] W fun e w' => ∃ a l c, e = .returned (.agg #[.slice a l c]) ∧ IsBig w' (.agg #[.slice a l c]) 31429 ∧ Below W.heap.size W w') := fun W v h => nearest_up v false 22 7 4 1 W h (by decide) (by decide) (by decide) (by decide) (by decide) (by decide) (by decide)
  obtain ⟨e5, l5⟩ := lit_tb ⟨#[51, 49, 52, 50, 57]⟩ 31429 (by decide) (by decide)
  have HLE : Hid (∀ W v, IsBig W v 31429 → ∃ L : Nat, L ≤ 600 ∧ Calls Tryz.prog 89 #[v] W fun e w' => e = .returned (.int .i64 (L : Int)) ∧ Below W.heap.size W w') := fun W v h => ⟨_, (len600 31429).2 l5, len_any v 31429 1 W h (by decide) (by decide)⟩
  have HTX : Hid (∀ W v, Tab W → IsBig W v 31429 → Calls Tryz.prog 92 #[v] W fun e w' => e = .returned (.string ⟨#[51, 49, 52, 50, 57]⟩) ∧ Below W.heap.size W w') := fun W v ht h => by
    have := text_any v 31429 1 W h (by decide) (by decide) ht
    rwa [show (⟨(Lib.decDigits 31429).toArray⟩ : ByteArray) = ⟨#[51, 49, 52, 50, 57]⟩ from by rw [e5]; exact bytes_ext (by rw [tb_list _ l5])] at this
  have HPT : Hid (∀ W, Calls Tryz.prog 91 #[.string ⟨#[51, 49, 52, 50, 57]⟩, .int .i64 4] W fun r w' => r = .returned (.string ⟨#[51, 46, 49, 52, 50, 57]⟩) ∧ Below W.heap.size W w') := fun W => pointed_S W
  have HSG : Hid (∀ W, Calls Tryz.prog 80 #[.bool false, .string ⟨#[51, 46, 49, 52, 50, 57]⟩] W fun e w' => e = .returned (.string ⟨#[51, 46, 49, 52, 50, 57]⟩) ∧ w' = W) := fun W => signed_any false ⟨#[51, 46, 49, 52, 50, 57]⟩ W (by decide)
  have HTW := hide htab
  clear htab hbV hl e22 l22 e7 l7 e5 l5
  generalize (⟨#[51, 49, 52, 50, 57]⟩ : ByteArray) = s5 at *
  generalize (⟨#[51, 46, 49, 52, 50, 57]⟩ : ByteArray) = s6 at *
  go_enter Tryz.func28, Tryz.ntmps28
  go_upto_region 1 with fail
  rw [← unhide HV]
  have c0 : V.cell? ⟨w.heap.size, 0, none⟩ = some (.string ⟨#[50, 50]⟩) := by rw [hV]; simp [go_sem]
  have c1 : V.cell? ⟨w.heap.size, 1, none⟩ = some (.string ⟨#[55]⟩) := by rw [hV]; simp [go_sem]
  clear hV HV
  generalize (⟨#[50, 50]⟩ : ByteArray) = n22 at *
  generalize (⟨#[55]⟩ : ByteArray) = n7 at *
  go_upto_region 2 with (go_at_call 78; go_must (refine (unhide HRD).mono ?_; rintro e w1 ⟨v1, rfl, hv1, hb1⟩; obtain ⟨i1, i2, i3, i4, i5, i6, rfl, _, _⟩ := hv1.form; have HF1 := hide hv1; have HB1 := hide ((unhide HBV).trans (hb1.mono (unhide HBV).size)); clear hv1 hb1 c0 c1))
  obtain ⟨V2, hV2⟩ : ∃ V2, V2 = w1.alloc (.cells #[.bool false, .slice i1 i2 i3, .slice i4 i5 i6] 74) := ⟨_, rfl⟩
  have hb2 : Below w1.heap.size w1 V2 := by rw [hV2]; exact (Below.refl _ _).alloc (Nat.le_refl _) _
  have HP : Hid (FBox V2 w1.heap.size (.bool false) (.slice i1 i2 i3) (.slice i4 i5 i6)) := by rw [hV2]; exact FBox.new _ _ _ _
  have HF2 := hide ((unhide HF1).later hb2); have HB2 := hide ((unhide HB1).trans (hb2.mono (unhide HB1).size))
  rw [← hV2]
  clear hV2 hb2 HF1 HB1 HRD HBV
  generalize w1.heap.size = g6 at *
  have t0 := (unhide HP).c0; have t1 := (unhide HP).c1; have t2 := (unhide HP).c2
  go_upto_region 7 with (go_at_call 88; go_must (refine (unhide HNE _ _ (unhide HF2)).mono ?_; rintro e w3 ⟨a3, l3, c3, rfl, hv3, hb3⟩; have HN3 := hide hv3; have HP3 := hide ((unhide HP).later hb3); have HB3 := hide ((unhide HB2).trans (hb3.mono (unhide HB2).size)); clear hv3 hb3 t0 t1 t2))
  obtain ⟨V4, hV4⟩ : ∃ V4, V4 = w3.alloc (.cells #[.slice a3 l3 c3] 72) := ⟨_, rfl⟩
  have hb4 : Below w3.heap.size w3 V4 := by rw [hV4]; exact (Below.refl _ _).alloc (Nat.le_refl _) _
  have HX : Hid (Box V4 w3.heap.size (.slice a3 l3 c3)) := by rw [hV4]; exact Box.new _ _
  have HN4 := hide ((unhide HN3).later hb4); have HP4 := hide ((unhide HP3).later hb4); have HB4 := hide ((unhide HB3).trans (hb4.mono (unhide HB3).size))
  rw [← hV4]
  clear hV4 hb4 HN3 HP3 HB3 HP HB2 HF2
  generalize w3.heap.size = g8 at *
  obtain ⟨L, hL, hcl⟩ := unhide HLE V4 _ (unhide HN4)
  have HCL := hide hcl
  clear hcl
  have u8 := (unhide HX).c
  go_upto_region 9 with (go_at_call 89; go_must (refine (unhide HCL).mono ?_; rintro e w5 ⟨rfl, hb5⟩; have HN5 := hide ((unhide HN4).later hb5); have HP5 := hide ((unhide HP4).later hb5); have HX5 := hide ((unhide HX).later hb5); have HB5 := hide ((unhide HB4).trans (hb5.mono (unhide HB4).size)); clear hb5 u8))
  have q0 : ∀ z : Later w5, z.world.cell? ⟨g6, 0, none⟩ = some (.bool false) := fun z => ((unhide HP5).later z.below).c0
  have q8 : ∀ z : Later w5, z.world.cell? ⟨g8, 0, none⟩ = some (.slice a3 l3 c3) := fun z => ((unhide HX5).later z.below).c
  have HTX5 : Hid (∀ z : Later w5, Calls Tryz.prog 92 #[.agg #[.slice a3 l3 c3]] z.world fun e w' => e = .returned (.string s5) ∧ Below z.world.heap.size z.world w') := fun z => unhide HTX _ _ ((unhide HTW).later ((unhide HB5).trans (z.below.mono (unhide HB5).size))) ((unhide HN5).later z.below)
  refine quiet_later (by kernel_rfl) (by kernel_rfl) ?_
  repeat (go_big_quiet_step (first
    | (go_at_call 92; rename_i xx; refine (unhide HTX5 xx).mono ?_; rintro e w9 ⟨rfl, hb9⟩; have hz := xx.below.trans (hb9.mono xx.below.size); first | exact ⟨rfl, ⟨w9, hz⟩, rfl⟩ | exact ⟨rfl, hz⟩ | exact ⟨rfl, w9, hz, rfl⟩)
    | (go_at_call 91; rename_i xx; refine (unhide HPT xx.world).mono ?_; rintro e w9 ⟨rfl, hb9⟩; have hz := xx.below.trans (hb9.mono xx.below.size); first | exact ⟨rfl, ⟨w9, hz⟩, rfl⟩ | exact ⟨rfl, hz⟩ | exact ⟨rfl, w9, hz, rfl⟩)
    | (go_at_call 80; rename_i xx; refine (unhide HSG xx.world).mono ?_; rintro e w9 ⟨rfl, rfl⟩; first | exact ⟨rfl, xx, rfl⟩ | exact ⟨rfl, xx.below⟩ | exact ⟨rfl, _, xx.below, rfl⟩)))
  refine wpQuiet_nil ?_
  intro _ hw'
  obtain ⟨xz, hw''⟩ := hw'
  subst hw''
  have HE := hide ((unhide HB5).trans (xz.below.mono (unhide HB5).size))
  clear q0 q8
  go_wp2_with fail
  exact bodyPost_ret (v := .tuple #[.string s6, .int .i64 0]) (by simp [results, Tryz.results28, go_sem]) rfl ⟨rfl, unhide HE⟩

set_option maxRecDepth 100000 in
set_option maxHeartbeats 2000000 in
theorem awake_any (w : World) (htab : Tab w) : Calls Tryz.prog 23 #[] w fun r w' => r = .returned (.bool true) ∧ Below w.heap.size w w' := by
  obtain ⟨e1, l1⟩ := lit_tb ⟨#[49]⟩ 1 (by decide) (by decide)
  obtain ⟨e8, l8⟩ := lit_tb ⟨#[56]⟩ 8 (by decide) (by decide)
  have es : sT true 1 = ⟨#[45, 49]⟩ := by unfold sT; rw [if_pos rfl, ← e1]; exact bytes_ext (by rfl)
  have HP := hide (parse_S w htab)
  rw [es, ← e8] at HP
  have HD := hide (fun W (hb : Below w.heap.size w W) => digits_S W (htab.later hb))
  have hS : exS = ⟨#[45, 49, 46, 50, 53, 48, 101, 45, 49]⟩ := rfl
  rw [hS] at HP
  clear htab e1 l1 e8 l8 es hS
  go_enter Tryz.func23, Tryz.ntmps23
  go_upto_region 2 with (go_at_call 24; go_must (refine (unhide HP).mono ?_; rintro e w1 ⟨rfl, hb1⟩; have HB1 := hide hb1; clear hb1))
  obtain ⟨V2, hV2⟩ : ∃ V2, V2 = w1.alloc (.cells #[.string ⟨#[45, 49]⟩, .string ⟨#[56]⟩] 23) := ⟨_, rfl⟩
  have hb2 : Below w1.heap.size w1 V2 := by rw [hV2]; exact (Below.refl _ _).alloc (Nat.le_refl _) _
  have HB2 := hide ((unhide HB1).trans (hb2.mono (unhide HB1).size))
  have HX : Hid (T2 V2 w1.heap.size (.string ⟨#[45, 49]⟩) (.string ⟨#[56]⟩)) := by rw [hV2]; exact ⟨by simp [go_sem], by simp [go_sem], by simp [go_sem], by simp [go_sem]⟩
  rw [← hV2]
  clear hV2 hb2 HB1
  generalize w1.heap.size = g1 at *
  go_upto_region 3 with (go_at_call 28; go_must (refine (unhide HD _ (unhide HB2)).mono ?_; rintro e w3 ⟨rfl, hb3⟩; have HX3 := hide ((unhide HX).later hb3); have HB3 := hide ((unhide HB2).trans (hb3.mono (unhide HB2).size)); clear hb3))
  have u0 := (unhide HX3).c0; have u1 := (unhide HX3).c1
  go_wp2_with fail
  go_ret
  exact ⟨rfl, unhide HB3⟩
end Go.Proofs.YtndhinoomlofgaaGreatDoor

namespace Go.Proofs.YtndhinoomlofgaaGreatDoor
open Go.RowKit

/-- Three numbers in their boxes, and more of them. -/
structure L3 (w W : World) (n1 d1 n2 d2 n3 d3 : ByteArray) (L : List (Nat × ByteArray × ByteArray)) : Prop where
  a : T2 W w.heap.size (.string n1) (.string d1)
  b : T2 W (w.heap.size + 1) (.string n2) (.string d2)
  c : T2 W (w.heap.size + 1 + 1) (.string n3) (.string d3)
  bx : ∀ p ∈ L, T2 W p.1 (.string p.2.1) (.string p.2.2)
  below : Below w.heap.size w W
theorem L3.later {w W V : World} {n1 d1 n2 d2 n3 d3 : ByteArray} {L : List (Nat × ByteArray × ByteArray)} (s : L3 w W n1 d1 n2 d2 n3 d3 L) (hb : Below W.heap.size W V) : L3 w V n1 d1 n2 d2 n3 d3 L :=
  ⟨s.a.later hb, s.b.later hb, s.c.later hb, fun p hp => (s.bx p hp).later hb, s.below.trans (hb.mono s.below.size)⟩
theorem L3.first (w : World) (n1 d1 n2 d2 n3 d3 : ByteArray) : L3 w (((w.alloc (.cells #[.string n1, .string d1] 23)).alloc (.cells #[.string n2, .string d2] 23)).alloc (.cells #[.string n3, .string d3] 23)) n1 d1 n2 d2 n3 d3 [] :=
  ⟨⟨by simp [go_sem], by simp [go_sem], by simp [go_sem], by simp [go_sem]⟩, ⟨by simp [go_sem], by simp [go_sem], by simp [go_sem], by simp [go_sem]⟩, ⟨by simp [go_sem], by simp [go_sem], by simp [go_sem], by simp [go_sem]⟩, (fun _ h => by cases h),
    (((Below.refl _ _).alloc (Nat.le_refl _) _).alloc (by simp) _).alloc (by simp; omega) _⟩
theorem L3.push {w W : World} {n1 d1 n2 d2 n3 d3 : ByteArray} {L : List (Nat × ByteArray × ByteArray)} (s : L3 w W n1 d1 n2 d2 n3 d3 L) (x y : ByteArray) : L3 w (W.alloc (.cells #[.string x, .string y] 23)) n1 d1 n2 d2 n3 d3 ((W.heap.size, x, y) :: L) := by
  have t := s.later ((Below.refl W.heap.size W).alloc (Nat.le_refl _) (.cells #[.string x, .string y] 23))
  refine ⟨t.a, t.b, t.c, ?_, t.below⟩
  intro p hp
  rcases List.mem_cons.1 hp with rfl | hp
  · exact ⟨by simp [go_sem], by simp [go_sem], by simp [go_sem], by simp [go_sem]⟩
  · exact t.bx p hp
theorem cmpQ_le (x y : Rat) : Cub.cmpQ x y ≤ 0 ↔ x ≤ y := by
  unfold Cub.cmpQ
  by_cases h1 : x < y
  · rw [if_pos h1]; constructor
    · intro _; grind
    · intro _; omega
  · rw [if_neg h1]
    by_cases h2 : y < x
    · rw [if_pos h2]; constructor
      · intro h; omega
      · intro h; grind
    · rw [if_neg h2]; constructor
      · intro _; grind
      · intro _; omega
end Go.Proofs.YtndhinoomlofgaaGreatDoor

namespace Go.Proofs.YtndhinoomlofgaaGreatDoor
open Go.RowKit

/-- What the document's Right answers. -/
def RB (n d : ByteArray) (ok : Bool) : Prop := ∀ W, Calls Tryz.prog 20 #[.agg #[.string n, .string d]] W fun r w' => r = .returned (.bool ok) ∧ Below W.heap.size W w'
theorem rb_yes {n d : ByteArray} (s1 : n.size ≤ maxLen) (s2 : d.size ≤ maxLen) (h : RightT n d) : RB n d true := fun W => by
  obtain ⟨ok, hok, hc⟩ := refR_any n d W s1 s2
  rwa [hok.2 h] at hc
theorem rb_no {n d : ByteArray} (s1 : n.size ≤ maxLen) (s2 : d.size ≤ maxLen) (h : ¬ RightT n d) : RB n d false := fun W => by
  obtain ⟨ok, hok, hc⟩ := refR_any n d W s1 s2
  have : ok = false := by cases ok with
    | false => rfl
    | true => exact absurd (hok.1 rfl) h
  rwa [this] at hc

end Go.Proofs.YtndhinoomlofgaaGreatDoor

namespace Go.Proofs.YtndhinoomlofgaaGreatDoor
open Go.RowKit

theorem errT_pos {x : Rat} (h : Small x) : errT x = 0 := by unfold errT; rw [if_pos h]
theorem small_neg {x : Rat} (h : Small x) : Small (-x) := by
  obtain ⟨h1, h2⟩ := h
  have e1 : (-x).num = -x.num := rfl
  have e2 : (-x).den = x.den := rfl
  exact ⟨by rw [e1, Int.natAbs_neg]; exact h1, by rw [e2]; exact h2⟩
theorem small_zero : Small 0 := ⟨pow_lt_ten 0 600 (by decide) (by decide), pow_lt_ten 1 600 (by decide) (by decide)⟩
end Go.Proofs.YtndhinoomlofgaaGreatDoor

namespace Go.Proofs.YtndhinoomlofgaaGreatDoor
open Go.RowKit

/-- What a quotient of two texts comes to. -/
theorem ratio_q {b : Bool} {m n : Nat} (hn : 0 < n) (hm6 : m < 10 ^ 600) (hn6 : n < 10 ^ 600) :
    Small (Cub.valQ b m n) ∧ numT (Cub.valQ b m n) = sT (b && decide (m / Nat.gcd m n ≠ 0)) (m / Nat.gcd m n) ∧ denT (Cub.valQ b m n) = tb (n / Nat.gcd m n) ∧ errT (Cub.valQ b m n) = 0 := by
  obtain ⟨l1, l2⟩ := Cub.ratio_low (b := b) (n := m) hn
  obtain ⟨e1, e2, e3⟩ := Cub.low_is l1
  rw [l2] at e1 e2 e3
  have hs : Small (Cub.valQ b m n) := ⟨by rw [← e2]; exact Nat.lt_of_le_of_lt (Nat.div_le_self _ _) hm6, by rw [← e3]; exact Nat.lt_of_le_of_lt (Nat.div_le_self _ _) hn6⟩
  refine ⟨hs, ?_, ?_, errT_pos hs⟩
  · unfold numT; rw [if_pos hs, ← e1, ← e2]
  · unfold denT; rw [if_pos hs, ← e3]

set_option maxRecDepth 100000 in
set_option maxHeartbeats 2000000 in
theorem new_ok (num den : ByteArray) (b : Bool) (m n : Nat) (w : World) (hnum : num = sT b m) (hden : den = tb n) (hm : m < 10 ^ 600) (hn : n < 10 ^ 600) (hn0 : n ≠ 0) (htab : Tab w) :
    Ans 17 #[.string num, .string den] w (numT (Cub.valQ b m n)) (denT (Cub.valQ b m n)) (errT (Cub.valQ b m n)) := by
  unfold Ans
  obtain ⟨V, hV⟩ : ∃ V, V = w.alloc (.cells #[.string ⟨#[]⟩, .string ⟨#[]⟩] 23) := ⟨_, rfl⟩
  have hbV : Below w.heap.size w V := by rw [hV]; exact (Below.refl _ _).alloc (Nat.le_refl _) _
  have HR : Hid (T2 V w.heap.size (.string ⟨#[]⟩) (.string ⟨#[]⟩) ∧ Below w.heap.size w V) := ⟨by rw [hV]; exact ⟨by simp [go_sem], by simp [go_sem], by simp [go_sem], by simp [go_sem]⟩, hbV⟩
  have HV := hide hV
  have HTW := hide htab
  have HC68 : Hid (Calls Tryz.prog 70 #[.string num] V fun e w' => e = .returned (.tuple #[.bool b, .string (tb m)]) ∧ w' = V) := by
    have := cutSign_any num V
    rw [hnum, neg_sT b m hm, dig_sT b m hm] at this
    rw [hnum]; exact this
  have HR1 : Hid (Calls Tryz.prog 71 #[.string (tb m)] V fun e w' => e = .returned (.bool true) ∧ w' = V) := by
    have := right_any (tb m) V (tb_size m hm)
    rwa [(tb_right m hm).1] at this
  have HR2 : Hid (Calls Tryz.prog 71 #[.string den] V fun e w' => e = .returned (.bool true) ∧ w' = V) := by
    have := right_any (tb n) V (tb_size n hn)
    rw [(tb_right n hn).1] at this
    rw [hden]; exact this
  have z2 : (den.toList == [48]) = false := by rw [hden, tb_eq48 n hn, beq_eq_false_iff_ne]; exact hn0
  have HB1 : Hid (∀ W, Calls Tryz.prog 73 #[.string (tb m)] W fun e w' => ∃ v, e = .returned v ∧ IsBig w' v m ∧ Below W.heap.size W w') := fun W => by
    have := bigText_any (tb m) W (by have := (tb_digs m hm).2; omega) (tb_digs m hm).1
    rwa [(tb_right m hm).2] at this
  have HB2 : Hid (∀ W, Calls Tryz.prog 73 #[.string den] W fun e w' => ∃ v, e = .returned v ∧ IsBig w' v n ∧ Below W.heap.size W w') := fun W => by
    have := bigText_any (tb n) W (by have := (tb_digs n hn).2; omega) (tb_digs n hn).1
    rw [(tb_right n hn).2] at this
    rw [hden]; exact this
  have p6 := pow600
  have hmk := Nat.lt_of_lt_of_le hm p6
  have hnk := Nat.lt_of_lt_of_le hn p6
  have HRA : Hid (∀ W x y, IsBig W x m → IsBig W y n → Calls Tryz.prog 72 #[.bool b, x, y] W fun e w' => ∃ v', e = .returned v' ∧ QOf w' v' (Cub.valQ b m n) 67 ∧ Below W.heap.size W w') := fun W x y h1 h2 => by
    refine (ratio_any b x y m n 67 W h1 h2 hmk hnk (by omega) (divAns 67 (by decide)) (gcdAns 67 (by decide))).mono ?_
    rintro e w' ⟨v', rfl, hf, hb⟩
    obtain ⟨l1, l2⟩ := Cub.ratio_low (b := b) (n := m) (show 0 < n by omega)
    exact ⟨v', rfl, ⟨_, _, _, hf, l1, l2, Nat.lt_of_le_of_lt (Nat.div_le_self _ _) hmk, Nat.lt_of_le_of_lt (Nat.div_le_self _ _) hnk⟩, hb⟩
  have HTE : Hid (∀ W v, QOf W v (Cub.valQ b m n) 67 → Tab W → Calls Tryz.prog 74 #[v] W fun r w' => r = .returned (.tuple #[.agg #[.string (numT (Cub.valQ b m n)), .string (denT (Cub.valQ b m n))], .int .i64 (errT (Cub.valQ b m n))]) ∧ Below W.heap.size W w') := fun W v h ht => qtell v _ 67 W h (by decide) ht
  clear hnum hden hm hn hn0 htab hbV p6 hmk hnk
  generalize numT (Cub.valQ b m n) = rn at *
  generalize denT (Cub.valQ b m n) = rd at *
  generalize errT (Cub.valQ b m n) = re at *
  generalize tb m = ds at *
  go_enter Tryz.func17, Tryz.ntmps17
  go_upto_region 1 with fail
  rw [← unhide HV]
  clear hV HV
  go_upto_region 6 with (first
    | (go_at_call 70; go_must (refine (unhide HC68).mono ?_; rintro e w1 ⟨rfl, hw1⟩; obtain rfl : V = w1 := hw1.symm))
    | (go_at_call_of 71 (Value.string ds); go_must (refine (unhide HR1).mono ?_; rintro e w1 ⟨rfl, hw1⟩; obtain rfl : V = w1 := hw1.symm))
    | (go_at_call 71; go_must (refine (unhide HR2).mono ?_; rintro e w1 ⟨rfl, hw1⟩; obtain rfl : V = w1 := hw1.symm)))
  clear z2
  go_wp2_with (first
    | (go_at_call_of 73 (Value.string ds); go_must (refine (unhide HB1 _).mono ?_; rintro e w2 ⟨v2, rfl, hv2, hb2⟩; have HX2 := hide hv2; have HR2' : Hid (T2 w2 w.heap.size (.string ⟨#[]⟩) (.string ⟨#[]⟩) ∧ Below w.heap.size w w2) := ⟨(unhide HR).1.later hb2, (unhide HR).2.trans (hb2.mono (unhide HR).2.size)⟩; clear hv2 hb2))
    | (go_at_call 73; go_must (refine (unhide HB2 _).mono ?_; rintro e w3 ⟨v3, rfl, hv3, hb3⟩; have HX3 := hide ((unhide HX2).later hb3); have HY3 := hide hv3; have HR3 : Hid (T2 w3 w.heap.size (.string ⟨#[]⟩) (.string ⟨#[]⟩) ∧ Below w.heap.size w w3) := ⟨(unhide HR2').1.later hb3, (unhide HR2').2.trans (hb3.mono (unhide HR2').2.size)⟩; clear hv3 hb3))
    | (go_at_call 72; go_must (refine (unhide HRA _ _ _ (unhide HX3) (unhide HY3)).mono ?_; rintro e w4 ⟨v4, rfl, hv4, hb4⟩; have HQ4 := hide hv4; have HR4 : Hid (T2 w4 w.heap.size (.string ⟨#[]⟩) (.string ⟨#[]⟩) ∧ Below w.heap.size w w4) := ⟨(unhide HR3).1.later hb4, (unhide HR3).2.trans (hb4.mono (unhide HR3).2.size)⟩; clear hv4 hb4))
    | (go_at_call 74; go_must (refine (unhide HTE _ _ (unhide HQ4) ((unhide HTW).later (unhide HR4).2)).mono ?_; rintro e w5 ⟨rfl, hb5⟩; have HR5 : Hid (T2 w5 w.heap.size (.string ⟨#[]⟩) (.string ⟨#[]⟩) ∧ Below w.heap.size w w5) := ⟨(unhide HR4).1.later hb5, (unhide HR4).2.trans (hb5.mono (unhide HR4).2.size)⟩; clear hb5; have r0 := (unhide HR5).1.c0; have r1 := (unhide HR5).1.c1; have rf0 := (unhide HR5).1.f0; have rf1 := (unhide HR5).1.f1)))
  have hS := (unhide HR5).1.store (.string rn) (.string rd)
  have hb : Below w.heap.size w (store2 w5 (w.heap.size) (.string rn) (.string rd)) := below_store2 (unhide HR5).2 (by omega) _ _
  have u0 := hS.c0; have u1 := hS.c1
  exact bodyPost_ret (v := .tuple #[.agg #[.string rn, .string rd], .int .i64 re]) (w := store2 w5 (w.heap.size) (.string rn) (.string rd)) (by simp [results, Tryz.results17, go_sem, u0, u1]) rfl ⟨rfl, hb⟩

set_option maxRecDepth 100000 in
set_option maxHeartbeats 2000000 in
/-- rat.New where it answers an error: 3, or 8 where the second text is 0. -/
theorem new_err (num den ds : ByteArray) (b r1 r2 e2 : Bool) (er : Int) (w : World) (hc : ∀ W, Calls Tryz.prog 70 #[.string num] W fun e w' => e = .returned (.tuple #[.bool b, .string ds]) ∧ w' = W)
    (h1 : ∀ W, Calls Tryz.prog 71 #[.string ds] W fun e w' => e = .returned (.bool r1) ∧ w' = W) (h2 : ∀ W, Calls Tryz.prog 71 #[.string den] W fun e w' => e = .returned (.bool r2) ∧ w' = W)
    (z2 : (den.toList == [48]) = e2) (h : ((!r1 || !r2) = true ∧ er = 3) ∨ (r1 = true ∧ r2 = true ∧ e2 = true ∧ er = 8)) :
    Ans 17 #[.string num, .string den] w ⟨#[]⟩ ⟨#[]⟩ er := by
  unfold Ans
  obtain ⟨V, hV⟩ : ∃ V, V = w.alloc (.cells #[.string ⟨#[]⟩, .string ⟨#[]⟩] 23) := ⟨_, rfl⟩
  have hbV : Below w.heap.size w V := by rw [hV]; exact (Below.refl _ _).alloc (Nat.le_refl _) _
  have HR : Hid (T2 V w.heap.size (.string ⟨#[]⟩) (.string ⟨#[]⟩) ∧ Below w.heap.size w V) := ⟨by rw [hV]; exact ⟨by simp [go_sem], by simp [go_sem], by simp [go_sem], by simp [go_sem]⟩, hbV⟩
  have HV := hide hV
  have HC68 := hide (hc V); have HR1 := hide (h1 V); have HR2 := hide (h2 V)
  clear hc h1 h2 hbV
  go_enter Tryz.func17, Tryz.ntmps17
  go_upto_region 1 with fail
  rw [← unhide HV]
  clear hV HV
  have r0 := (unhide HR).1.c0; have q1 := (unhide HR).1.c1; have rf0 := (unhide HR).1.f0; have rf1 := (unhide HR).1.f1
  rcases h with ⟨hh, rfl⟩ | ⟨rfl, rfl, rfl, rfl⟩
  · cases r1 with
    | false =>
      clear hh z2
      go_wp2_with (first
        | (go_at_call 70; go_must (refine (unhide HC68).mono ?_; rintro e w1 ⟨rfl, hw1⟩; obtain rfl : V = w1 := hw1.symm))
        | (go_at_call_of 71 (Value.string ds); go_must (refine (unhide HR1).mono ?_; rintro e w1 ⟨rfl, hw1⟩; obtain rfl : V = w1 := hw1.symm))
        | (go_at_call 71; go_must (refine (unhide HR2).mono ?_; rintro e w1 ⟨rfl, hw1⟩; obtain rfl : V = w1 := hw1.symm)))
      have hS := (unhide HR).1.store (.string ⟨#[]⟩) (.string ⟨#[]⟩)
      have hb : Below w.heap.size w (store2 V (w.heap.size) (.string ⟨#[]⟩) (.string ⟨#[]⟩)) := below_store2 (unhide HR).2 (by omega) _ _
      have u0 := hS.c0; have u1 := hS.c1
      exact bodyPost_ret (v := .tuple #[.agg #[.string ⟨#[]⟩, .string ⟨#[]⟩], .int .i64 3]) (w := store2 V (w.heap.size) (.string ⟨#[]⟩) (.string ⟨#[]⟩)) (by simp [results, Tryz.results17, go_sem, u0, u1]) rfl ⟨rfl, hb⟩
    | true =>
      obtain rfl : r2 = false := by simpa using hh
      clear hh z2
      go_wp2_with (first
        | (go_at_call 70; go_must (refine (unhide HC68).mono ?_; rintro e w1 ⟨rfl, hw1⟩; obtain rfl : V = w1 := hw1.symm))
        | (go_at_call_of 71 (Value.string ds); go_must (refine (unhide HR1).mono ?_; rintro e w1 ⟨rfl, hw1⟩; obtain rfl : V = w1 := hw1.symm))
        | (go_at_call 71; go_must (refine (unhide HR2).mono ?_; rintro e w1 ⟨rfl, hw1⟩; obtain rfl : V = w1 := hw1.symm)))
      have hS := (unhide HR).1.store (.string ⟨#[]⟩) (.string ⟨#[]⟩)
      have hb : Below w.heap.size w (store2 V (w.heap.size) (.string ⟨#[]⟩) (.string ⟨#[]⟩)) := below_store2 (unhide HR).2 (by omega) _ _
      have u0 := hS.c0; have u1 := hS.c1
      exact bodyPost_ret (v := .tuple #[.agg #[.string ⟨#[]⟩, .string ⟨#[]⟩], .int .i64 3]) (w := store2 V (w.heap.size) (.string ⟨#[]⟩) (.string ⟨#[]⟩)) (by simp [results, Tryz.results17, go_sem, u0, u1]) rfl ⟨rfl, hb⟩
  · go_wp2_with (first
      | (go_at_call 70; go_must (refine (unhide HC68).mono ?_; rintro e w1 ⟨rfl, hw1⟩; obtain rfl : V = w1 := hw1.symm))
      | (go_at_call_of 71 (Value.string ds); go_must (refine (unhide HR1).mono ?_; rintro e w1 ⟨rfl, hw1⟩; obtain rfl : V = w1 := hw1.symm))
      | (go_at_call 71; go_must (refine (unhide HR2).mono ?_; rintro e w1 ⟨rfl, hw1⟩; obtain rfl : V = w1 := hw1.symm)))
    have hS := (unhide HR).1.store (.string ⟨#[]⟩) (.string ⟨#[]⟩)
    have hb : Below w.heap.size w (store2 V (w.heap.size) (.string ⟨#[]⟩) (.string ⟨#[]⟩)) := below_store2 (unhide HR).2 (by omega) _ _
    have u0 := hS.c0; have u1 := hS.c1
    exact bodyPost_ret (v := .tuple #[.agg #[.string ⟨#[]⟩, .string ⟨#[]⟩], .int .i64 8]) (w := store2 V (w.heap.size) (.string ⟨#[]⟩) (.string ⟨#[]⟩)) (by simp [results, Tryz.results17, go_sem, u0, u1]) rfl ⟨rfl, hb⟩
end Go.Proofs.YtndhinoomlofgaaGreatDoor

/- What rat.Parse answers to what Print and Digits tell. -/
import Derived.Test.YtifalmdoligblaaGreatDoorQuo
import Derived.Test.YtifalmdoligblaaGreatDoorPairs
import Derived.Test.YtifalmdoligblaaGreatDoorOrdA
import Derived.Test.YtifalmdoligblaaGreatDoorParse1
import Derived.Test.YtifalmdoligblaaGreatDoorRound
import Derived.Test.YtifalmdoligblaaGreatDoorRefParse
import Derived.Test.YtifalmdoligblaaGreatDoorNearest
import Derived.Deep.Cut
import Derived.Deep.RegionHeld3
import Derived.Test.YtifalmdoligblaaGreatDoorFracAny
namespace Go.Proofs.YtifalmdoligblaaGreatDoor
open Go.RowKit

set_option maxRecDepth 100000 in
set_option maxHeartbeats 2000000 in
theorem rfloor_walk (n1 d1 : ByteArray) (x rq : Rat) (m : Nat) (w : World) (h1 : IsR n1 d1 x) (htab : Tab w) (hm : m < 1000000000 ^ 67) (hrq : rq = Cub.valQ (decide (x < 0)) m 1)
    (hF : ∀ W v, QOf W v x 67 → Calls Tryz.prog 111 #[v] W fun e w' => ∃ a l c a' l' c', e = .returned (.tuple #[.agg #[.slice a l c], .agg #[.slice a' l' c']]) ∧ IsBig w' (.agg #[.slice a l c]) m ∧ Below W.heap.size W w') :
    Ans 49 #[.agg #[.string n1, .string d1]] w (numT rq) (denT rq) (errT rq) := by
  unfold Ans
  obtain ⟨V, hV⟩ : ∃ V, V = (w.alloc (.cells #[.string n1, .string d1] 23)).alloc (.cells #[.string ⟨#[]⟩, .string ⟨#[]⟩] 23) := ⟨_, rfl⟩
  have HS : Hid (N1 w V (.string n1) (.string d1)) := by rw [hV]; exact N1.first _ _ _
  have HV := hide hV
  have HR := hide (qread n1 d1 x V h1)
  have HFL := hide hF
  have HT := hide htab
  have h1k : 1 < 1000000000 ^ 67 := Nat.one_lt_pow (by omega) (by omega)
  have HBO : Hid (∀ W, Calls Tryz.prog 112 #[.int .u64 1] W fun e w' => ∃ a l c, e = .returned (.agg #[.slice a l c]) ∧ IsBig w' (.agg #[.slice a l c]) 1 ∧ Below W.heap.size W w') := fun W => bigOf_any 1 W (by decide)
  have HRA : Hid (∀ b W y z, b = decide (x < 0) → IsBig W y m → IsBig W z 1 → Calls Tryz.prog 70 #[.bool b, y, z] W fun e w' => ∃ v', e = .returned v' ∧ QOf w' v' rq 67 ∧ Below W.heap.size W w') := fun b W y z hbx hy hz => by
    subst hbx
    refine (ratio_any _ y z _ _ 67 W hy hz hm h1k (by omega) (divAns 67 (by omega)) (gcdAns 67 (by omega))).mono ?_
    rintro e w' ⟨v', rfl, hf, hb⟩
    obtain ⟨l1, l2⟩ := Cub.ratio_low (b := decide (x < 0)) (n := m) (show 0 < 1 by omega)
    exact ⟨v', rfl, ⟨_, _, _, hf, l1, l2.trans hrq.symm, Nat.lt_of_le_of_lt (Nat.div_le_self _ _) hm, Nat.lt_of_le_of_lt (Nat.div_le_self _ _) h1k⟩, hb⟩
  have HSG : Hid (∀ W b s t, QOf W (.agg #[.bool b, s, t]) x 67 → b = decide (x < 0)) := fun W b s t h => by
    obtain ⟨b', n, d, ⟨s', t', e, _⟩, hl, hvq, _⟩ := h
    obtain ⟨l1, _, _⟩ := Cub.low_is hl
    rw [hvq] at l1
    simp only [Value.agg.injEq, Array.mk.injEq, List.cons.injEq, Value.bool.injEq] at e
    rw [e.1]; exact l1
  clear h1 hF hm hrq htab h1k
  go_enter Tryz.func49, Tryz.ntmps49
  go_upto_region 1 with fail
  rw [← unhide HV]
  clear hV HV
  have t0 := (unhide HS).a.c0; have t1 := (unhide HS).a.c1
  go_upto_region 2 with (go_at_call 76; go_must (refine (unhide HR).mono ?_; rintro e w1 ⟨v1, rfl, hv1, hb1⟩; obtain ⟨b1, i1, i2, i3, i4, i5, i6, rfl⟩ := hv1.form; have HS1 := hide ((unhide HS).later hb1); have HV1 := hide hv1; clear hv1 hb1 t0 t1))
  obtain ⟨V2, hV2⟩ : ∃ V2, V2 = w1.alloc (.cells #[.bool b1, .slice i1 i2 i3, .slice i4 i5 i6] 74) := ⟨_, rfl⟩
  have hb : Below w1.heap.size w1 V2 := by rw [hV2]; exact (Below.refl _ _).alloc (Nat.le_refl _) _
  have HS2 := hide ((unhide HS1).later hb); have HX := hide ((unhide HV1).later hb)
  have HP : Hid (FBox V2 w1.heap.size (.bool b1) (.slice i1 i2 i3) (.slice i4 i5 i6)) := by rw [hV2]; exact FBox.new _ _ _ _
  have hgr : w.heap.size + 1 < w1.heap.size := (unhide HS1).r.lt
  rw [← hV2]
  clear hV2 hb HS HS1 HV1 HR
  generalize w1.heap.size = g8 at *
  have t0 := (unhide HP).c0; have t1 := (unhide HP).c1; have t2 := (unhide HP).c2
  have HSGN := hide (unhide HSG _ _ _ _ (unhide HX))
  clear HSG
  go_upto_region 5 with (go_at_call 111; go_must (refine (unhide HFL _ _ (unhide HX)).mono ?_; rintro e w3 ⟨a3, l3, c3, a4, l4, c4, rfl, hv3, hb3⟩; have HS3 := hide ((unhide HS2).later hb3); have HP3 := hide ((unhide HP).later hb3); have HN3 := hide hv3; clear hv3 hb3 t0 t1 t2))
  obtain ⟨V5, hV5⟩ : ∃ V5, V5 = (w3.alloc (.cells #[.slice a3 l3 c3] 72)).alloc (.cells #[.slice a4 l4 c4] 72) := ⟨_, rfl⟩
  have hb5 : Below w3.heap.size w3 V5 := by rw [hV5]; exact ((Below.refl _ _).alloc (Nat.le_refl _) _).alloc (by simp) _
  have hg3 : w.heap.size + 1 < w3.heap.size := (unhide HS3).r.lt
  have HB5 : Hid (Box V5 w3.heap.size (.slice a3 l3 c3)) := by rw [hV5]; exact (⟨by simp [go_sem], by simp [go_sem]⟩ : Box (w3.alloc (.cells #[.slice a3 l3 c3] 72)) w3.heap.size (.slice a3 l3 c3)).later ((Below.refl _ _).alloc (Nat.le_refl _) _)
  have HS5 := hide ((unhide HS3).later hb5); have HP5 := hide ((unhide HP3).later hb5); have HN5 := hide ((unhide HN3).later hb5)
  rw [← hV5]
  clear hV5 hb5 HS2 HS3 HP HP3 HN3 HX HFL
  generalize w3.heap.size = g9 at *
  have HC : Hid (∀ U, Below V5.heap.size V5 U → (U.cell? ⟨g8, 0, none⟩ = some (.bool b1) ∧ U.cell? ⟨g9, 0, none⟩ = some (.slice a3 l3 c3)) ∧ (U.cell? ⟨w.heap.size + 1, 0, none⟩ = some (.string ⟨#[]⟩) ∧ U.cell? ⟨w.heap.size + 1, 1, none⟩ = some (.string ⟨#[]⟩) ∧ U.frozen? ⟨w.heap.size + 1, 0, none⟩ = false ∧ U.frozen? ⟨w.heap.size + 1, 1, none⟩ = false)) := fun U hb => by
    have s := (unhide HS5).later hb
    exact ⟨⟨((unhide HP5).later hb).c0, ((unhide HB5).later hb).c⟩, s.r.c0, s.r.c1, s.r.f0, s.r.f1⟩
  obtain ⟨⟨u1, u2⟩, _⟩ := unhide HC V5 (Below.refl _ _)
  have n8 : w.heap.size + 1 ≠ g8 := by omega
  have n9 : w.heap.size + 1 ≠ g9 := by omega
  go_region_held3 (fun w' => w'.cell? ⟨g8, 0, none⟩ = some (.bool b1) ∧ w'.cell? ⟨g9, 0, none⟩ = some (.slice a3 l3 c3)) (first | assumption | (refine ⟨?_, ?_⟩ <;> first | assumption | ((rw [World.cell?_setCell_far, World.cell?_setCell_far] <;> assumption); done) | (simp [go_sem, *]; done)) | (simp [go_sem, *]; done)) ((first
    | (go_at_call 112; go_must (refine (unhide HBO _).mono ?_; rintro e wd ⟨ac, lc, cc, rfl, hvc, hbc⟩; have HVC := hide hvc; have HCC := hide (((Below.refl V5.heap.size V5).drew).trans hbc); clear hvc hbc u1 u2; obtain ⟨⟨u1, u2⟩, _⟩ := unhide HC wd (unhide HCC)))
    | (go_at_call 70; go_must (refine (unhide HRA _ _ _ _ (unhide HSGN) ((unhide HN5).later (unhide HCC)) (unhide HVC)).mono ?_; rintro e we ⟨v8, rfl, hv8, hb8⟩; have HV8 := hide hv8; have HCD := hide ((unhide HCC).trans (hb8.mono (unhide HCC).size)); clear hv8 hb8 u1 u2; obtain ⟨⟨u1, u2⟩, _⟩ := unhide HC we (unhide HCD)))
    | (go_at_call 72; go_must (refine (qtell _ _ 67 _ (unhide HV8) (by decide) ((unhide HT).later ((unhide HS5).later (unhide HCD)).below)).mono ?_; rintro e wf ⟨rfl, hb9⟩; have HCE := hide ((unhide HCD).trans (hb9.mono (unhide HCD).size)); clear hb9 u1 u2; obtain ⟨⟨u1, u2⟩, r0, r1, rf0, rf1⟩ := unhide HC wf (unhide HCE)))))
  all_goals
    have HS9 := hide ((unhide HS5).later (unhide HCE))
    have hS := (unhide HS9).r.store (.string (numT rq)) (.string (denT rq))
    have hb : Below w.heap.size w (store2 wf (w.heap.size + 1) (.string (numT rq)) (.string (denT rq))) := below_store2 (unhide HS9).below (by omega) _ _
    obtain ⟨V9, hV9⟩ : ∃ V9, V9 = store2 wf (w.heap.size + 1) (.string (numT rq)) (.string (denT rq)) := ⟨_, rfl⟩
    have hV9' : V9 = (wf.setCell ⟨w.heap.size + 1, 0, none⟩ (.string (numT rq))).setCell ⟨w.heap.size + 1, 1, none⟩ (.string (denT rq)) := hV9
    have u0' := hS.c0; have u1' := hS.c1
    rw [← hV9] at u0' u1' hb
    rw [← hV9']
    have HB9 := hide hb
    clear hV9 hV9' hS hb u1 u2 r0 r1 rf0 rf1
    go_wp2_with fail
    exact bodyPost_ret (v := .tuple #[.agg #[.string (numT rq), .string (denT rq)], .int .i64 (errT rq)]) (by simp [results, Tryz.results49, go_sem, u0', u1']) rfl ⟨rfl, unhide HB9⟩

end Go.Proofs.YtifalmdoligblaaGreatDoor

namespace Go.Proofs.YtifalmdoligblaaGreatDoor
/-- The size of the greatest whole number not above, and how far it is above. -/
def floorN (b : Bool) (n d : Nat) : Nat := if b = true ∧ n % d ≠ 0 then n / d + 1 else n / d
def floorR (b : Bool) (n d : Nat) : Nat := if b = true ∧ n % d ≠ 0 then d - n % d else n % d
end Go.Proofs.YtifalmdoligblaaGreatDoor

namespace Go.Proofs.YtifalmdoligblaaGreatDoor
open Go.RowKit

/-- The greatest whole number not above. -/
def floorQ (x : Rat) : Rat := Cub.valQ (decide (x < 0)) (floorN (decide (x < 0)) x.num.natAbs x.den) 1
theorem floorN_le (b : Bool) (n d : Nat) : floorN b n d ≤ n + 1 := by
  unfold floorN
  have := Nat.div_le_self n d
  split <;> omega
end Go.Proofs.YtifalmdoligblaaGreatDoor

namespace Go.Proofs.YtifalmdoligblaaGreatDoor
open Go.RowKit

/-- A Frac and the boxes of two numbers. -/
structure FB (w W : World) (x y z s r : Value) : Prop where
  a : FBox W w.heap.size x y z
  s : Box W (w.heap.size + 1) s
  r : Box W (w.heap.size + 1 + 1) r
  below : Below w.heap.size w W
theorem FB.later {w W V : World} {x y z s r : Value} (h : FB w W x y z s r) (hb : Below W.heap.size W V) : FB w V x y z s r :=
  ⟨h.a.later hb, h.s.later hb, h.r.later hb, h.below.trans (hb.mono h.below.size)⟩
theorem FB.first (w : World) (x y z : Value) : FB w (((w.alloc (.cells #[x, y, z] 74)).alloc (.cells #[.slice none 0 0] 72)).alloc (.cells #[.slice none 0 0] 72)) x y z (.slice none 0 0) (.slice none 0 0) :=
  ⟨⟨by simp [go_sem], by simp [go_sem], by simp [go_sem], by simp [go_sem], by simp [go_sem], by simp [go_sem]⟩, ⟨by simp [go_sem], by simp [go_sem]⟩, ⟨by simp [go_sem], by simp [go_sem]⟩, (((Below.refl _ _).alloc (Nat.le_refl _) _).alloc (by simp) _).alloc (by simp; omega) _⟩
theorem FB.both {w W : World} {x y z s r : Value} (h : FB w W x y z s r) (u v : Value) : FB w ((W.setCell ⟨w.heap.size + 1, 0, none⟩ u).setCell ⟨w.heap.size + 1 + 1, 0, none⟩ v) x y z u v :=
  ⟨(h.a.otherAt (by omega) u).otherAt (by omega) v, (h.s.set u).other (by omega) v, (h.r.other (by omega) u).set v, (h.below.setCell (p := ⟨w.heap.size + 1, 0, none⟩) (by show w.heap.size ≤ w.heap.size + 1; omega) u).setCell (p := ⟨w.heap.size + 1 + 1, 0, none⟩) (by show w.heap.size ≤ w.heap.size + 1 + 1; omega) v⟩
theorem FB.big {w W : World} {x y z v : Value} {a1 a2 : Option Addr} {l1 c1 l2 c2 n : Nat} (h : FB w W x y z (.slice a1 l1 c1) (.slice a2 l2 c2)) (u u' : Value) (hv : IsBig W v n) : IsBig ((W.setCell ⟨w.heap.size + 1, 0, none⟩ u).setCell ⟨w.heap.size + 1 + 1, 0, none⟩ u') v n :=
  (hv.box u h.s.c (not_int _ _ _)).box u' (h.r.other (by omega) u).c (not_int _ _ _)

set_option maxRecDepth 100000 in
set_option maxHeartbeats 4000000 in
theorem floor_any (v : Value) (b : Bool) (n d k : Nat) (w : World) (h : IsFrac w v b n d) (hk : k + 1 ≤ 100000) (hn : n < 1000000000 ^ k) (hd : d < 1000000000 ^ k) (hd0 : 0 < d) :
    Calls Tryz.prog 111 #[v] w fun e w' => ∃ a l c a' l' c', e = .returned (.tuple #[.agg #[.slice a l c], .agg #[.slice a' l' c']]) ∧ IsBig w' (.agg #[.slice a l c]) (floorN b n d) ∧ IsBig w' (.agg #[.slice a' l' c']) (floorR b n d) ∧ Below w.heap.size w w' := by
  obtain ⟨a1, l1, c1, a2, l2, c2, rfl, h1, h2⟩ := h.form
  obtain ⟨V, hV⟩ : ∃ V, V = (((w.alloc (.cells #[.bool b, .slice a1 l1 c1, .slice a2 l2 c2] 74)).alloc (.cells #[.slice none 0 0] 72)).alloc (.cells #[.slice none 0 0] 72)) := ⟨_, rfl⟩
  have HS : Hid (FB w V (.bool b) (.slice a1 l1 c1) (.slice a2 l2 c2) (.slice none 0 0) (.slice none 0 0)) := by rw [hV]; exact FB.first _ _ _ _
  have HV := hide hV
  have HX := hide (h1.later (unhide HS).below)
  have HY := hide (h2.later (unhide HS).below)
  have hq : n / d < 1000000000 ^ k := Nat.lt_of_le_of_lt (Nat.div_le_self _ _) hn
  have hr : n % d ≤ d := Nat.le_of_lt (Nat.mod_lt _ hd0)
  have h1k : 1 < 1000000000 ^ k := by
    rcases Nat.eq_zero_or_pos k with h0 | h0
    · subst h0; simp at hd; omega
    · have : (1000000000 : Nat) ^ 1 ≤ 1000000000 ^ k := Nat.pow_le_pow_right (by decide) h0
      omega
  have HDM : Hid (∀ W x y, IsBig W x n → IsBig W y d → Calls Tryz.prog 118 #[x, y] W fun e w' => ∃ a1 n1 c1 a2 n2 c2, e = .returned (.tuple #[.agg #[.slice a1 n1 c1], .agg #[.slice a2 n2 c2]]) ∧ IsBig w' (.agg #[.slice a1 n1 c1]) (n / d) ∧ IsBig w' (.agg #[.slice a2 n2 c2]) (n % d) ∧ Below W.heap.size W w') := fun W x y h1 h2 => divAns k (by omega) W x y n d h1 h2 hn hd0
  unfold floorN floorR
  generalize n / d = Q at *
  generalize n % d = R at *
  have HBO : Hid (∀ W, Calls Tryz.prog 112 #[.int .u64 1] W fun e w' => ∃ a l c, e = .returned (.agg #[.slice a l c]) ∧ IsBig w' (.agg #[.slice a l c]) 1 ∧ Below W.heap.size W w') := fun W => bigOf_any 1 W (by decide)
  have HA1 : Hid (∀ W x y, IsBig W x Q → IsBig W y 1 → Calls Tryz.prog 140 #[x, y] W fun e w' => ∃ v, e = .returned v ∧ IsBig w' v (Q + 1) ∧ Below W.heap.size W w') := fun W x y h1 h2 => add_any x y Q 1 k W h1 h2 (by omega) hq h1k
  have HSB : Hid (∀ W x y, IsBig W x d → IsBig W y R → Calls Tryz.prog 153 #[x, y] W fun e w' => ∃ v, e = .returned v ∧ IsBig w' v (d - R) ∧ Below W.heap.size W w') := fun W x y h1 h2 => sub_any x y d R k W h1 h2 (by omega) hd hr
  obtain ⟨F, hF⟩ : ∃ F, F = (if b = true ∧ R ≠ 0 then Q + 1 else Q) := ⟨_, rfl⟩
  obtain ⟨G, hG⟩ : ∃ G, G = (if b = true ∧ R ≠ 0 then d - R else R) := ⟨_, rfl⟩
  rw [← hF, ← hG]
  have HFG := hide (And.intro hF hG)
  clear h h1 h2 hk hn hd hd0 hq hr h1k hF hG
  go_enter Tryz.func111, Tryz.ntmps111
  go_upto_region 1 with fail
  rw [← unhide HV]
  clear hV HV
  have t0 := (unhide HS).a.c0; have t1 := (unhide HS).a.c1; have t2 := (unhide HS).a.c2
  go_upto_region 2 with (go_at_call 118; go_must (refine (unhide HDM _ _ _ (unhide HX) (unhide HY)).mono ?_; rintro e w1 ⟨a7, l7, c7, a8, l8, c8, rfl, hq4, hr4, hb4⟩; have HS1 := hide ((unhide HS).later hb4); have HY1 := hide ((unhide HY).later hb4); have HQ1 := hide hq4; have HR1 := hide hr4; clear hq4 hr4 hb4 t0 t1 t2; have k1 := (unhide HS1).s.c; have k2 := (unhide HS1).s.f; have k3 := (unhide HS1).r.c; have k4 := (unhide HS1).r.f))
  obtain ⟨V2, hV2⟩ : ∃ V2, V2 = (w1.setCell ⟨w.heap.size + 1, 0, none⟩ (.slice a7 l7 c7)).setCell ⟨w.heap.size + 1 + 1, 0, none⟩ (.slice a8 l8 c8) := ⟨_, rfl⟩
  have HS2 : Hid (FB w V2 (.bool b) (.slice a1 l1 c1) (.slice a2 l2 c2) (.slice a7 l7 c7) (.slice a8 l8 c8)) := by rw [hV2]; exact (unhide HS1).both _ _
  have HY2 : Hid (IsBig V2 (.agg #[.slice a2 l2 c2]) d) := by rw [hV2]; exact (unhide HS1).big _ _ (unhide HY1)
  have HQ2 : Hid (IsBig V2 (.agg #[.slice a7 l7 c7]) Q) := by rw [hV2]; exact (unhide HS1).big _ _ (unhide HQ1)
  have HR2 : Hid (IsBig V2 (.agg #[.slice a8 l8 c8]) R) := by rw [hV2]; exact (unhide HS1).big _ _ (unhide HR1)
  rw [← hV2]
  clear hV2 HS HS1 HX HY HY1 HQ1 HR1 HDM k1 k2 k3 k4
  obtain ⟨up, hup⟩ : ∃ up : Bool, up = (b && !(R == 0)) := ⟨_, rfl⟩
  have HUP := hide hup
  have HCU : Hid ((b = true ∧ R ≠ 0) ↔ up = true) := by rw [hup]; show _ ↔ _; simp
  clear hup
  go_cut [18] from 12 (fun s18 wx => s18 = .bool up ∧ Hid (Below V2.heap.size V2 wx))
  case first =>
    have t0 := (unhide HS2).a.c0; have k3 := (unhide HS2).r.c
    cases b with
    | false =>
      have E : Hid (up = false) := unhide HUP
      go_wp2_with fail
      go_meet
      exact ⟨by rw [unhide E], Below.refl _ _⟩
    | true =>
      have E : Hid (up = !(R == 0)) := by show _ = _; rw [unhide HUP]; simp
      go_wp2_with (go_at_call 88; go_must (refine (isZero_any _ _ _ (unhide HR2)).mono ?_; rintro e wo ⟨rfl, hbo⟩; have HBO2 := hide hbo; clear hbo t0 k3))
      go_meet
      exact ⟨by rw [unhide E], unhide HBO2⟩
  case rest =>
    obtain ⟨rfl, HBC⟩ := hcut
    have HS3 := hide ((unhide HS2).later (unhide HBC)); have HQ3 := hide ((unhide HQ2).later (unhide HBC)); have HR3 := hide ((unhide HR2).later (unhide HBC)); have HY3 := hide ((unhide HY2).later (unhide HBC))
    clear HS2 HQ2 HR2 HY2 HBC HUP
    cases up with
    | true =>
      have hc := (unhide HCU).2 rfl
      have HFG2 : Hid (Q + 1 = F ∧ d - R = G) := ⟨by rw [(unhide HFG).1, if_pos hc], by rw [(unhide HFG).2, if_pos hc]⟩
      clear hc HCU HFG
      go_upto_region 3 with fail
      have HC : Hid (∀ U, Below wc.heap.size wc U → (U.cell? ⟨w.heap.size + 1, 0, none⟩ = some (.slice a7 l7 c7) ∧ U.cell? ⟨w.heap.size + 1 + 1, 0, none⟩ = some (.slice a8 l8 c8) ∧ U.cell? ⟨w.heap.size, 2, none⟩ = some (.slice a2 l2 c2)) ∧ (U.frozen? ⟨w.heap.size + 1, 0, none⟩ = false ∧ U.frozen? ⟨w.heap.size + 1 + 1, 0, none⟩ = false)) := fun U hb => by
        have s := (unhide HS3).later hb
        exact ⟨⟨s.s.c, s.r.c, s.a.c2⟩, s.s.f, s.r.f⟩
      obtain ⟨⟨u1, u2, u3⟩, _⟩ := unhide HC wc (Below.refl _ _)
      have n1 : w.heap.size + 1 ≠ w.heap.size := by omega
      have n2 : w.heap.size + 1 + 1 ≠ w.heap.size := by omega
      have n3 : w.heap.size + 1 + 1 ≠ w.heap.size + 1 := by omega
      go_region_with ((first
        | (go_at_call 112; go_must (refine (unhide HBO _).mono ?_; rintro e wd ⟨ac, lc, cc, rfl, hvc, hbc⟩; have HVC := hide hvc; have HCC := hide (((Below.refl wc.heap.size wc).drew).trans hbc); clear hvc hbc u1 u2 u3; obtain ⟨⟨u1, u2, u3⟩, _⟩ := unhide HC wd (unhide HCC)))
        | (go_at_call 140; go_must (refine (unhide HA1 _ _ _ ((unhide HQ3).later (unhide HCC)) (unhide HVC)).mono ?_; rintro e we ⟨vd, rfl, hvd, hbd⟩; obtain ⟨ad, ld, cd, rfl⟩ := hvd.shape; have HVD := hide hvd; have HCD := hide ((unhide HCC).trans (hbd.mono (unhide HCC).size)); clear hvd hbd u1 u2 u3; obtain ⟨⟨u1, u2, u3⟩, _⟩ := unhide HC we (unhide HCD)))
        | (go_at_call 153; go_must (refine (unhide HSB _ _ _ ((unhide HY3).later (unhide HCD)) ((unhide HR3).later (unhide HCD))).mono ?_; rintro e wf ⟨ve, rfl, hve, hbe⟩; obtain ⟨ae, le, ce, rfl⟩ := hve.shape; have HVE := hide hve; have HVD2 := hide ((unhide HVD).later hbe); have HCE := hide ((unhide HCD).trans (hbe.mono (unhide HCD).size)); clear hve hbe u1 u2 u3; obtain ⟨⟨u1, u2, u3⟩, f1, f2⟩ := unhide HC wf (unhide HCE)))))
      all_goals
        have hS := (unhide HS3).later (unhide HCE)
        have HE : Hid (FB w ((wf.setCell ⟨w.heap.size + 1, 0, none⟩ (.slice ad ld cd)).setCell ⟨w.heap.size + 1 + 1, 0, none⟩ (.slice ae le ce)) (.bool b) (.slice a1 l1 c1) (.slice a2 l2 c2) (.slice ad ld cd) (.slice ae le ce)) := hS.both _ _
        have HF1 := hide (hS.big (.slice ad ld cd) (.slice ae le ce) (unhide HVD2)); have HF2 := hide (hS.big (.slice ad ld cd) (.slice ae le ce) (unhide HVE))
        clear hS u1 u2 u3 f1 f2
        obtain ⟨V9, hV9⟩ : ∃ V9, V9 = (wf.setCell ⟨w.heap.size + 1, 0, none⟩ (.slice ad ld cd)).setCell ⟨w.heap.size + 1 + 1, 0, none⟩ (.slice ae le ce) := ⟨_, rfl⟩
        rw [← hV9] at HE HF1 HF2 ⊢
        clear hV9
        have s0 := (unhide HE).s.c; have s1 := (unhide HE).r.c
        go_wp2_with fail
        exact bodyPost_ret (v := .tuple #[.agg #[.slice ad ld cd], .agg #[.slice ae le ce]]) (by simp [results, Tryz.results111, go_sem, s0, s1]) rfl ⟨_, _, _, _, _, _, rfl, by rw [← (unhide HFG2).1]; exact unhide HF1, by rw [← (unhide HFG2).2]; exact unhide HF2, (unhide HE).below⟩
    | false =>
      have hc : ¬ (b = true ∧ R ≠ 0) := fun e => absurd ((unhide HCU).1 e) (by decide)
      have HFG2 : Hid (Q = F ∧ R = G) := ⟨by rw [(unhide HFG).1, if_neg hc], by rw [(unhide HFG).2, if_neg hc]⟩
      clear hc HCU HFG
      go_upto_region 4 with fail
      have k1 := (unhide HS3).s.c; have k2 := (unhide HS3).s.f; have k3 := (unhide HS3).r.c; have k4 := (unhide HS3).r.f
      have n3 : ¬ w.heap.size + 1 = w.heap.size + 1 + 1 := by omega
      have n4 : ¬ w.heap.size + 1 + 1 = w.heap.size + 1 := by omega
      go_region
      have hS := ((unhide HS3).both (.slice a7 l7 c7) (.slice a8 l8 c8)).later ((Below.refl _ _).drew)
      have HE := hide hS
      have HF1 := hide (((unhide HS3).big (.slice a7 l7 c7) (.slice a8 l8 c8) (unhide HQ3)).later ((Below.refl _ _).drew)); have HF2 := hide (((unhide HS3).big (.slice a7 l7 c7) (.slice a8 l8 c8) (unhide HR3)).later ((Below.refl _ _).drew))
      clear hS k1 k2 k3 k4
      obtain ⟨V9, hV9⟩ : ∃ V9, V9 = ((wc.setCell ⟨w.heap.size + 1, 0, none⟩ (.slice a7 l7 c7)).setCell ⟨w.heap.size + 1 + 1, 0, none⟩ (.slice a8 l8 c8)).drew := ⟨_, rfl⟩
      rw [← hV9] at HE HF1 HF2 ⊢
      clear hV9
      have s0 := (unhide HE).s.c; have s1 := (unhide HE).r.c
      go_wp2_with fail
      exact bodyPost_ret (v := .tuple #[.agg #[.slice a7 l7 c7], .agg #[.slice a8 l8 c8]]) (by simp [results, Tryz.results111, go_sem, s0, s1]) rfl ⟨_, _, _, _, _, _, rfl, by rw [← (unhide HFG2).1]; exact unhide HF1, by rw [← (unhide HFG2).2]; exact unhide HF2, (unhide HE).below⟩
end Go.Proofs.YtifalmdoligblaaGreatDoor

namespace Go.Proofs.YtifalmdoligblaaGreatDoor
open Go.RowKit

theorem floorN_lt {d : Nat} {x : Rat} (hx : Bd d x) : floorN (decide (x < 0)) x.num.natAbs x.den < 10 ^ (d + 1) := by
  have h2 := floorN_le (decide (x < 0)) x.num.natAbs x.den
  have h3 := hx.1
  rw [Nat.pow_succ]
  omega
theorem rfloor_ok (n1 d1 : ByteArray) (x : Rat) (w : World) (h1 : IsR n1 d1 x) (htab : Tab w) : Ans 49 #[.agg #[.string n1, .string d1]] w (numT (floorQ x)) (denT (floorQ x)) (errT (floorQ x)) := by
  have hb := h1.bd
  have hm : floorN (decide (x < 0)) x.num.natAbs x.den < 1000000000 ^ 67 := pow_limbs (floorN_lt hb) (by omega)
  refine rfloor_walk n1 d1 x (floorQ x) _ w h1 htab hm rfl (fun W v hv => ?_)
  obtain ⟨b, n, d, hf, hl, hvq, hn, hd⟩ := hv
  obtain ⟨l1, l2, l3⟩ := Cub.low_is hl
  rw [hvq] at l1 l2 l3
  rw [← l1, ← l2, ← l3]
  refine (floor_any v b n d 67 W hf (by omega) hn hd hl.pos).mono ?_
  rintro e w' ⟨a, l, c, a', l', c', rfl, hq, _, hb'⟩
  exact ⟨a, l, c, a', l', c', rfl, hq, hb'⟩
end Go.Proofs.YtifalmdoligblaaGreatDoor

namespace Go.Proofs.YtifalmdoligblaaGreatDoor
open Go.RowKit

theorem bytes_self (s : ByteArray) : (⟨s.data.toList.toArray⟩ : ByteArray) = s := by cases s with | mk d => simp
theorem dv_tx (n : Nat) : dv (tx n) = n := tx_val n
theorem dg_tx (n : Nat) : Dg (tx n) := (tx_nat n).1
theorem tx_pos_len (n : Nat) : 0 < (tx n).data.toList.length := List.length_pos_iff.2 (tx_nat n).2.1
theorem sT_sgL (b : Bool) (n : Nat) (h : n < 10 ^ 600) : (sT b n).data.toList = sgL b ++ (tx n).data.toList := by
  unfold sT sgL
  rw [tx_tb n h]
  cases b with
  | true => rw [if_pos rfl, if_pos rfl]; simp
  | false => rw [if_neg (by decide), if_neg (by decide)]; rfl
theorem dv_nil : dv ⟨#[]⟩ = 0 := rfl
theorem app_nil (t : ByteArray) : t ++ ⟨#[]⟩ = t := by
  apply ByteArray.ext; simp
theorem dec_ok (b : Bool) (t u : ByteArray) (S p : Nat) (hS : dv (t ++ u) = S) (hl : (tx S).size ≤ 600) (hu : u.size = p) (hp : p ≤ 199) :
    decN b false t u ⟨#[]⟩ = numT (Cub.valQ b S (10 ^ p)) ∧ decD b false t u ⟨#[]⟩ = denT (Cub.valQ b S (10 ^ p)) ∧ decE b false t u ⟨#[]⟩ = errT (Cub.valQ b S (10 ^ p)) := by
  have hk : decK false ⟨#[]⟩ u = -(p : Int) := by
    unfold decK
    rw [dv_nil, hu, if_neg (by decide)]
    omega
  have hf : farQ S (-(p : Int)) = false := by
    rw [far_prog hl, decide_eq_false (by omega), Bool.false_or]
    by_cases h0 : p = 0
    · subst h0
      rw [decide_eq_false (show ¬ 600 < ((tx S).size : Int) + -((0 : Nat) : Int) by omega), Bool.and_false]
    · rw [decide_eq_false (show ¬ (0 : Int) ≤ -(p : Int) by omega), Bool.false_and, Bool.false_and]
  have hok : decOk false t u ⟨#[]⟩ = true := by
    unfold decOk
    rw [hk, hS, hf, dv_nil]
    rfl
  have hq : scQ b S (-(p : Int)) = Cub.valQ b S (10 ^ p) := by
    unfold scQ
    rw [show (-(p : Int)).toNat = 0 by omega, show (-(-(p : Int))).toNat = p by omega, Nat.pow_zero, Nat.mul_one]
  unfold decN decD decE
  rw [hok, hk, hS, hq]
  exact ⟨rfl, rfl, rfl⟩
theorem parse_print (n1 d1 : ByteArray) (x : Rat) (h : IsR n1 d1 x) (w : World) (htab : Tab w) :
    Calls Tryz.prog 22 #[.string (printT true n1 d1)] w fun r w' => r = .returned (.tuple #[.agg #[.string n1, .string d1], .int .i64 0, .int .i64 0]) ∧ Below w.heap.size w w' := by
  have hr := h.rt
  have hv := (Cub.low_of x).2
  obtain ⟨hsm, en, ed⟩ := h
  have he : errT x = 0 := by unfold errT; rw [if_pos hsm]
  obtain ⟨b, hb⟩ : ∃ b, b = decide (x < 0) := ⟨_, rfl⟩
  obtain ⟨n, hn⟩ : ∃ n, n = x.num.natAbs := ⟨_, rfl⟩
  obtain ⟨d, hd⟩ : ∃ d, d = x.den := ⟨_, rfl⟩
  rw [← hb, ← hn, ← hd] at hr hv
  have zn := tx_size (by decide) hr.hn
  have zd := tx_size (by decide) hr.hd
  have hL := sT_sgL b n hr.hn
  rw [← hr.num] at hL
  have hD : d1 = tx d := hr.den.trans (tx_tb d hr.hd)
  have hd0 : 0 < d := hr.low.pos
  have zl : (tx n).data.toList.length ≤ 600 := by rw [list_len]; exact zn
  have zld : (tx d).data.toList.length ≤ 600 := by rw [list_len]; exact zd
  have zs : (sgL b).length ≤ 1 := by cases b <;> simp [sgL]
  unfold printT
  rw [if_pos rfl]
  by_cases h1 : (d1.toList == [49]) = true
  · rw [if_pos h1]
    have hd1 : d = 1 := by
      have e := eq_of_beq h1
      have e' : d1.data.toList = [49] := by rw [← e]; exact (Lib.toList_data d1).symm
      have := tx_val d
      rw [← hD] at this
      rw [← this]
      unfold val
      rw [e']
      decide
    have hsz : n1.size ≤ 65536 := by rw [← list_len, hL, List.length_append]; omega
    have h80 := fun w => cut_whole n1 b _ hL hsz (dg_tx n) (tx_pos_len n) w
    rw [bytes_self] at h80
    have hle : (tx n).size ≤ n1.size := by rw [← list_len, ← list_len, hL, List.length_append]; omega
    have hb := both_dec n1 (tx n) ⟨#[]⟩ ⟨#[]⟩ b false w htab hsz ⟨dg_tx n, tx_some n, hle⟩ ⟨dg_nil, Nat.zero_le _⟩ ⟨dg_nil, Nat.zero_le _⟩ h80
    obtain ⟨k1, k2, k3⟩ := dec_ok b (tx n) ⟨#[]⟩ n 0 (by rw [app_nil]; exact dv_tx n) zn rfl (by decide)
    rw [k1, k2, k3, Nat.pow_zero] at hb
    rw [hd1] at hv
    rw [hv, ← en, ← ed, he] at hb
    exact hb
  · rw [if_neg h1]
    have hL2 : (n1 ++ ⟨#[47]⟩ ++ d1).data.toList = sgL b ++ (tx n).data.toList ++ 47 :: (tx d).data.toList := by
      rw [ByteArray.data_append, ByteArray.data_append, Array.toList_append, Array.toList_append, hL, hD]
      simp
    have hsz : (n1 ++ ⟨#[47]⟩ ++ d1).size ≤ 65536 := by
      rw [← list_len, hL2, List.length_append, List.length_append, List.length_cons]
      omega
    have h80 := fun w => cut_frac _ b _ _ hL2 hsz (dg_tx n) (tx_pos_len n) (dg_tx d) (tx_pos_len d) w
    rw [bytes_self, bytes_self] at h80
    have hp := parse_frac _ (tx n) (tx d) _ _ b _ _ _ w hsz (by omega) h80 (fun W hb => fraction_any b (tx n) (tx d) _ W (htab.later hb) ⟨dg_tx n, tx_some n⟩ ⟨dg_tx d, tx_some d⟩)
    have e0 : dv (tx d) ≠ 0 := by rw [dv_tx]; omega
    have el : ¬ (600 < (tx (dv (tx n))).size ∨ 600 < (tx (dv (tx d))).size) := by rw [dv_tx, dv_tx]; omega
    unfold frN frD frE frK at hp
    rw [if_neg e0, if_neg e0, if_neg e0, if_neg e0, if_neg el, if_neg el, if_neg el, dv_tx, dv_tx, hv, ← en, ← ed, he] at hp
    exact hp
/-- A rounded number's digits. -/
theorem dval_pad (k : Nat) (l : List UInt8) (hl : Cub.digs l) : Cub.dval (List.replicate k 48 ++ l) = Cub.dval l ∧ Cub.digs (List.replicate k 48 ++ l) := by
  induction k with
  | zero => exact ⟨rfl, hl⟩
  | succ k ih =>
    rw [List.replicate_succ, List.cons_append]
    refine ⟨?_, fun c hc => ?_⟩
    · rw [← ih.1]; rfl
    · rcases List.mem_cons.1 hc with rfl | hc
      · decide
      · exact ih.2 c hc
theorem round_val (x : Rat) (p : Nat) : roundQ x (p : Int) = Cub.valQ (decide (x < 0)) (stepsN x p) (10 ^ p) := by
  unfold roundQ roundM roundD
  rw [if_neg (by omega), if_neg (by omega), Int.toNat_natCast]
theorem parse_digits (x : Rat) (p : Nat) (hp : p ≤ 199) (hl : (tx (stepsN x p)).size ≤ 600) (w : World) (htab : Tab w) :
    Calls Tryz.prog 22 #[.string (digS x p)] w fun r w' => r = .returned (.tuple #[.agg #[.string (numT (roundQ x p)), .string (denT (roundQ x p))], .int .i64 (errT (roundQ x p)), .int .i64 0]) ∧ Below w.heap.size w w' := by
  rw [round_val]
  obtain ⟨S, hS⟩ : ∃ S, S = stepsN x p := ⟨_, rfl⟩
  unfold digS
  rw [← hS] at hl ⊢
  obtain ⟨b, hb⟩ : ∃ b, b = (decide (x < 0) && !(S == 0)) := ⟨_, rfl⟩
  rw [← hb]
  have hq : Cub.valQ (decide (x < 0)) S (10 ^ p) = Cub.valQ b S (10 ^ p) := by
    rw [hb]
    by_cases h0 : S = 0
    · rw [h0, Cub.valQ_zero, Cub.valQ_zero]
    · rw [show (S == 0) = false from beq_eq_false_iff_ne.2 h0]; simp
  rw [hq]
  have zl : (tx S).data.toList.length ≤ 600 := by rw [list_len]; exact hl
  have zs : (sgL b).length ≤ 1 := by cases b <;> simp [sgL]
  have hsg : ∀ t : ByteArray, (if b = true then ⟨#[45]⟩ ++ t else t).data.toList = sgL b ++ t.data.toList := fun t => by
    unfold sgL
    cases b with
    | true => rw [if_pos rfl, if_pos rfl]; simp
    | false => rw [if_neg (by decide), if_neg (by decide)]; rfl
  by_cases h0 : p = 0
  · subst h0
    unfold ptT
    rw [if_pos rfl]
    have hL := hsg (tx S)
    have hsz : (if b = true then ⟨#[45]⟩ ++ tx S else tx S).size ≤ 65536 := by rw [← list_len, hL, List.length_append]; omega
    have hle : (tx S).size ≤ (if b = true then ⟨#[45]⟩ ++ tx S else tx S).size := by rw [← list_len, ← list_len, hL, List.length_append]; omega
    have h80 := fun w => cut_whole _ b _ hL hsz (dg_tx S) (tx_pos_len S) w
    rw [bytes_self] at h80
    have hb := both_dec _ (tx S) ⟨#[]⟩ ⟨#[]⟩ b false w htab hsz ⟨dg_tx S, tx_some S, hle⟩ ⟨dg_nil, Nat.zero_le _⟩ ⟨dg_nil, Nat.zero_le _⟩ h80
    obtain ⟨k1, k2, k3⟩ := dec_ok b (tx S) ⟨#[]⟩ S 0 (by rw [app_nil]; exact dv_tx S) hl rfl (by decide)
    rw [k1, k2, k3] at hb
    exact hb
  · obtain ⟨P, hP⟩ : ∃ P, P = padZ (tx S).data.toList p := ⟨_, rfl⟩
    obtain ⟨v1, v2⟩ := dval_pad (p + 1 - (tx S).data.toList.length) (tx S).data.toList (dg_tx S)
    have hPl : p + 1 ≤ P.length ∧ P.length ≤ 800 := by rw [hP]; unfold padZ; rw [List.length_append, List.length_replicate]; omega
    have v1' : Cub.dval P = S := by rw [hP]; unfold padZ; rw [v1]; exact tx_val S
    have v2' : Cub.digs P := by rw [hP]; unfold padZ; exact v2
    have hpt : (ptT (tx S) p).data.toList = P.take (P.length - p) ++ 46 :: P.drop (P.length - p) := by
      unfold ptT pt
      rw [if_neg h0, ← hP, bytes_mk]
      simp
    have hsp : P.take (P.length - p) ++ P.drop (P.length - p) = P := List.take_append_drop _ _
    have hdd : Cub.digs (P.take (P.length - p)) ∧ Cub.digs (P.drop (P.length - p)) := Cub.digs_append.1 (by rw [hsp]; exact v2')
    have l1 : (P.take (P.length - p)).length = P.length - p := by rw [List.length_take]; omega
    have l2 : (P.drop (P.length - p)).length = p := by rw [List.length_drop]; omega
    have hL := hsg (ptT (tx S) p)
    rw [hpt, ← List.append_assoc] at hL
    obtain ⟨T, hT⟩ : ∃ T, T = P.take (P.length - p) := ⟨_, rfl⟩
    obtain ⟨U, hU⟩ : ∃ U, U = P.drop (P.length - p) := ⟨_, rfl⟩
    rw [← hT, ← hU] at hL hdd hsp
    rw [← hT] at l1
    rw [← hU] at l2
    have hsl := congrArg List.length hL
    rw [list_len, List.length_append, List.length_append, List.length_cons] at hsl
    have h80 := fun w => cut_point _ b T U hL (by omega) hdd.1 (by omega) hdd.2 (by omega) w
    have zT : (⟨T.toArray⟩ : ByteArray).size = T.length := by rw [← list_len]
    have zU : (⟨U.toArray⟩ : ByteArray).size = U.length := by rw [← list_len]
    have hb := both_dec _ ⟨T.toArray⟩ ⟨U.toArray⟩ ⟨#[]⟩ b false w htab (by omega) ⟨hdd.1, by omega, by omega⟩ ⟨hdd.2, by omega⟩ ⟨dg_nil, Nat.zero_le _⟩ h80
    have hdv : dv (⟨T.toArray⟩ ++ ⟨U.toArray⟩ : ByteArray) = S := by
      unfold dv
      rw [ByteArray.data_append, Array.toList_append, bytes_mk, bytes_mk, hsp]
      exact v1'
    obtain ⟨k1, k2, k3⟩ := dec_ok b ⟨T.toArray⟩ ⟨U.toArray⟩ S p hdv hl (by omega) hp
    rw [k1, k2, k3] at hb
    exact hb
end Go.Proofs.YtifalmdoligblaaGreatDoor

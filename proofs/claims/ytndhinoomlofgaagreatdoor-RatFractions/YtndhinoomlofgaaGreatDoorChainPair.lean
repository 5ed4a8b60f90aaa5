/- Chain: the program and the document answer the same. -/
import Derived.Test.YtndhinoomlofgaaGreatDoorRefText2
import Derived.Test.YtndhinoomlofgaaGreatDoorNearest
import Derived.Deep.Cut
import Derived.Deep.RegionHeld3
import Derived.Test.YtndhinoomlofgaaGreatDoorQuo
import Derived.Test.YtndhinoomlofgaaGreatDoorRefChain
import Derived.Test.YtndhinoomlofgaaGreatDoorRefFr
namespace Go.Proofs.YtndhinoomlofgaaGreatDoor
open Go.RowKit

/-- A Frac and the boxes of two numbers. -/
structure FB (w W : World) (x y z s r : Value) : Prop where
  a : FBox W w.heap.size x y z
  s : Box W (w.heap.size + 1) s
  r : Box W (w.heap.size + 1 + 1) r
  below : Below w.heap.size w W
theorem FB.later {w W V : World} {x y z s r : Value} (h : FB w W x y z s r) (hb : Below W.heap.size W V) : FB w V x y z s r :=
  ⟨h.a.later hb, h.s.later hb, h.r.later hb, h.below.trans (hb.mono h.below.size)⟩
theorem FB.first (w : World) (x y z : Value) : FB w (((w.alloc (.cells #[x, y, z] 74)).alloc (.cells #[.slice none 0 0] 72)).alloc (.cells #[.slice none 0 0] 72)) x y z (.slice none 0 0) (.slice none 0 0) :=
  ⟨⟨by simp [go_sem], by simp [go_sem], by simp [go_sem], by simp [go_sem], by simp [go_sem], by simp [go_sem]⟩, ⟨by simp [go_sem], by simp [go_sem]⟩, ⟨by simp [go_sem], by simp [go_sem]⟩, (((Below.refl _ _).alloc (Nat.le_refl _) _).alloc (by simp) _).alloc (by simp; omega) _⟩
theorem FB.both {w W : World} {x y z s r : Value} (h : FB w W x y z s r) (u v : Value) : FB w ((W.setCell ⟨w.heap.size + 1, 0, none⟩ u).setCell ⟨w.heap.size + 1 + 1, 0, none⟩ v) x y z u v :=
  ⟨(h.a.otherAt (by omega) u).otherAt (by omega) v, (h.s.set u).other (by omega) v, (h.r.other (by omega) u).set v, (h.below.setCell (p := ⟨w.heap.size + 1, 0, none⟩) (by show w.heap.size ≤ w.heap.size + 1; omega) u).setCell (p := ⟨w.heap.size + 1 + 1, 0, none⟩) (by show w.heap.size ≤ w.heap.size + 1 + 1; omega) v⟩
theorem FB.big {w W : World} {x y z v : Value} {a1 a2 : Option Addr} {l1 c1 l2 c2 n : Nat} (h : FB w W x y z (.slice a1 l1 c1) (.slice a2 l2 c2)) (u u' : Value) (hv : IsBig W v n) : IsBig ((W.setCell ⟨w.heap.size + 1, 0, none⟩ u).setCell ⟨w.heap.size + 1 + 1, 0, none⟩ u') v n :=
  (hv.box u h.s.c (not_int _ _ _)).box u' (h.r.other (by omega) u).c (not_int _ _ _)

set_option maxRecDepth 100000 in
set_option maxHeartbeats 4000000 in
theorem floor_any (v : Value) (b : Bool) (n d k : Nat) (w : World) (h : IsFrac w v b n d) (hk : k + 1 ≤ 100000) (hn : n < 1000000000 ^ k) (hd : d < 1000000000 ^ k) (hd0 : 0 < d) :
    Calls Tryz.prog 113 #[v] w fun e w' => ∃ a l c a' l' c', e = .returned (.tuple #[.agg #[.slice a l c], .agg #[.slice a' l' c']]) ∧ IsBig w' (.agg #[.slice a l c]) (floorN b n d) ∧ IsBig w' (.agg #[.slice a' l' c']) (floorR b n d) ∧ Below w.heap.size w w' := by
  obtain ⟨a1, l1, c1, a2, l2, c2, rfl, h1, h2⟩ := h.form
  obtain ⟨V, hV⟩ : ∃ V, V = (((w.alloc (.cells #[.bool b, .slice a1 l1 c1, .slice a2 l2 c2] 74)).alloc (.cells #[.slice none 0 0] 72)).alloc (.cells #[.slice none 0 0] 72)) := ⟨_, rfl⟩
  have HS : Hid (FB w V (.bool b) (.slice a1 l1 c1) (.slice a2 l2 c2) (.slice none 0 0) (.slice none 0 0)) := by rw [hV]; exact FB.first _ _ _ _
  have HV := hide hV
  have HX := hide (h1.later (unhide HS).below)
  have HY := hide (h2.later (unhide HS).below)
  have hq : n / d < 1000000000 ^ k := Nat.lt_of_le_of_lt (Nat.div_le_self _ _) hn
  have hr : n % d ≤ d := Nat.le_of_lt (Nat.mod_lt _ hd0)
  have h1k : 1 < 1000000000 ^ k := by
    rcases Nat.eq_zero_or_pos k with h0 | h0
    · subst h0; simp at hd; omega
    · have : (1000000000 : Nat) ^ 1 ≤ 1000000000 ^ k := Nat.pow_le_pow_right (by decide) h0
      omega
  have HDM : Hid (∀ W x y, IsBig W x n → IsBig W y d → Calls Tryz.prog 120 #[x, y] W fun e w' => ∃ a1 n1 c1 a2 n2 c2, e = .returned (.tuple #[.agg #[.slice a1 n1 c1], .agg #[.slice a2 n2 c2]]) ∧ IsBig w' (.agg #[.slice a1 n1 c1]) (n / d) ∧ IsBig w' (.agg #[.slice a2 n2 c2]) (n % d) ∧ Below W.heap.size W w') := fun W x y h1 h2 => divAns k (by omega) W x y n d h1 h2 hn hd0
  unfold floorN floorR
  generalize n / d = Q at *
  generalize n % d = R at *
  have HBO : Hid (∀ W, Calls Tryz.prog 114 #[.int .u64 1] W fun e w' => ∃ a l c, e = .returned (.agg #[.slice a l c]) ∧ IsBig w' (.agg #[.slice a l c]) 1 ∧ Below W.heap.size W w') := fun W => bigOf_any 1 W (by decide)
  have HA1 : Hid (∀ W x y, IsBig W x Q → IsBig W y 1 → Calls Tryz.prog 142 #[x, y] W fun e w' => ∃ v, e = .returned v ∧ IsBig w' v (Q + 1) ∧ Below W.heap.size W w') := fun W x y h1 h2 => add_any x y Q 1 k W h1 h2 (by omega) hq h1k
  have HSB : Hid (∀ W x y, IsBig W x d → IsBig W y R → Calls Tryz.prog 155 #[x, y] W fun e w' => ∃ v, e = .returned v ∧ IsBig w' v (d - R) ∧ Below W.heap.size W w') := fun W x y h1 h2 => sub_any x y d R k W h1 h2 (by omega) hd hr
  obtain ⟨F, hF⟩ : ∃ F, F = (if b = true ∧ R ≠ 0 then Q + 1 else Q) := ⟨_, rfl⟩
  obtain ⟨G, hG⟩ : ∃ G, G = (if b = true ∧ R ≠ 0 then d - R else R) := ⟨_, rfl⟩
  rw [← hF, ← hG]
  have HFG := hide (And.intro hF hG)
  clear h h1 h2 hk hn hd hd0 hq hr h1k hF hG
  go_enter Tryz.func113, Tryz.ntmps113
  go_upto_region 1 with fail
  rw [← unhide HV]
  clear hV HV
  have t0 := (unhide HS).a.c0; have t1 := (unhide HS).a.c1; have t2 := (unhide HS).a.c2
  go_upto_region 2 with (go_at_call 120; go_must (refine (unhide HDM _ _ _ (unhide HX) (unhide HY)).mono ?_; rintro e w1 ⟨a7, l7, c7, a8, l8, c8, rfl, hq4, hr4, hb4⟩; have HS1 := hide ((unhide HS).later hb4); have HY1 := hide ((unhide HY).later hb4); have HQ1 := hide hq4; have HR1 := hide hr4; clear hq4 hr4 hb4 t0 t1 t2; have k1 := (unhide HS1).s.c; have k2 := (unhide HS1).s.f; have k3 := (unhide HS1).r.c; have k4 := (unhide HS1).r.f))
  obtain ⟨V2, hV2⟩ : ∃ V2, V2 = (w1.setCell ⟨w.heap.size + 1, 0, none⟩ (.slice a7 l7 c7)).setCell ⟨w.heap.size + 1 + 1, 0, none⟩ (.slice a8 l8 c8) := ⟨_, rfl⟩
  have HS2 : Hid (FB w V2 (.bool b) (.slice a1 l1 c1) (.slice a2 l2 c2) (.slice a7 l7 c7) (.slice a8 l8 c8)) := by rw [hV2]; exact (unhide HS1).both _ _
  have HY2 : Hid (IsBig V2 (.agg #[.slice a2 l2 c2]) d) := by rw [hV2]; exact (unhide HS1).big _ _ (unhide HY1)
  have HQ2 : Hid (IsBig V2 (.agg #[.slice a7 l7 c7]) Q) := by rw [hV2]; exact (unhide HS1).big _ _ (unhide HQ1)
  have HR2 : Hid (IsBig V2 (.agg #[.slice a8 l8 c8]) R) := by rw [hV2]; exact (unhide HS1).big _ _ (unhide HR1)
  rw [← hV2]
  clear hV2 HS HS1 HX HY HY1 HQ1 HR1 HDM k1 k2 k3 k4
  obtain ⟨up, hup⟩ : ∃ up : Bool, up = (b && !(R == 0)) := ⟨_, rfl⟩
  have HUP := hide hup
  have HCU : Hid ((b = true ∧ R ≠ 0) ↔ up = true) := by rw [hup]; show _ ↔ _; simp
  clear hup
  go_cut [18] from 12 (fun s18 wx => s18 = .bool up ∧ Hid (Below V2.heap.size V2 wx))
  case first =>
    have t0 := (unhide HS2).a.c0; have k3 := (unhide HS2).r.c
    cases b with
    | false =>
      have E : Hid (up = false) := unhide HUP
      go_wp2_with fail
      go_meet
      exact ⟨by rw [unhide E], Below.refl _ _⟩
    | true =>
      have E : Hid (up = !(R == 0)) := by show _ = _; rw [unhide HUP]; simp
      go_wp2_with (go_at_call 90; go_must (refine (isZero_any _ _ _ (unhide HR2)).mono ?_; rintro e wo ⟨rfl, hbo⟩; have HBO2 := hide hbo; clear hbo t0 k3))
      go_meet
      exact ⟨by rw [unhide E], unhide HBO2⟩
  case rest =>
    obtain ⟨rfl, HBC⟩ := hcut
    have HS3 := hide ((unhide HS2).later (unhide HBC)); have HQ3 := hide ((unhide HQ2).later (unhide HBC)); have HR3 := hide ((unhide HR2).later (unhide HBC)); have HY3 := hide ((unhide HY2).later (unhide HBC))
    clear HS2 HQ2 HR2 HY2 HBC HUP
    cases up with
    | true =>
      have hc := (unhide HCU).2 rfl
      have HFG2 : Hid (Q + 1 = F ∧ d - R = G) := ⟨by rw [(unhide HFG).1, if_pos hc], by rw [(unhide HFG).2, if_pos hc]⟩
      clear hc HCU HFG
      go_upto_region 3 with fail
      have HC : Hid (∀ U, Below wc.heap.size wc U → (U.cell? ⟨w.heap.size + 1, 0, none⟩ = some (.slice a7 l7 c7) ∧ U.cell? ⟨w.heap.size + 1 + 1, 0, none⟩ = some (.slice a8 l8 c8) ∧ U.cell? ⟨w.heap.size, 2, none⟩ = some (.slice a2 l2 c2)) ∧ (U.frozen? ⟨w.heap.size + 1, 0, none⟩ = false ∧ U.frozen? ⟨w.heap.size + 1 + 1, 0, none⟩ = false)) := fun U hb => by
        have s := (unhide HS3).later hb
        exact ⟨⟨s.s.c, s.r.c, s.a.c2⟩, s.s.f, s.r.f⟩
      obtain ⟨⟨u1, u2, u3⟩, _⟩ := unhide HC wc (Below.refl _ _)
      have n1 : w.heap.size + 1 ≠ w.heap.size := by omega
      have n2 : w.heap.size + 1 + 1 ≠ w.heap.size := by omega
      have n3 : w.heap.size + 1 + 1 ≠ w.heap.size + 1 := by omega
      go_region_with ((first
        | (go_at_call 114; go_must (refine (unhide HBO _).mono ?_; rintro e wd ⟨ac, lc, cc, rfl, hvc, hbc⟩; have HVC := hide hvc; have HCC := hide (((Below.refl wc.heap.size wc).drew).trans hbc); clear hvc hbc u1 u2 u3; obtain ⟨⟨u1, u2, u3⟩, _⟩ := unhide HC wd (unhide HCC)))
        | (go_at_call 142; go_must (refine (unhide HA1 _ _ _ ((unhide HQ3).later (unhide HCC)) (unhide HVC)).mono ?_; rintro e we ⟨vd, rfl, hvd, hbd⟩; obtain ⟨ad, ld, cd, rfl⟩ := hvd.shape; have HVD := hide hvd; have HCD := hide ((unhide HCC).trans (hbd.mono (unhide HCC).size)); clear hvd hbd u1 u2 u3; obtain ⟨⟨u1, u2, u3⟩, _⟩ := unhide HC we (unhide HCD)))
        | (go_at_call 155; go_must (refine (unhide HSB _ _ _ ((unhide HY3).later (unhide HCD)) ((unhide HR3).later (unhide HCD))).mono ?_; rintro e wf ⟨ve, rfl, hve, hbe⟩; obtain ⟨ae, le, ce, rfl⟩ := hve.shape; have HVE := hide hve; have HVD2 := hide ((unhide HVD).later hbe); have HCE := hide ((unhide HCD).trans (hbe.mono (unhide HCD).size)); clear hve hbe u1 u2 u3; obtain ⟨⟨u1, u2, u3⟩, f1, f2⟩ := unhide HC wf (unhide HCE)))))
      all_goals
        have hS := (unhide HS3).later (unhide HCE)
        have HE : Hid (FB w ((wf.setCell ⟨w.heap.size + 1, 0, none⟩ (.slice ad ld cd)).setCell ⟨w.heap.size + 1 + 1, 0, none⟩ (.slice ae le ce)) (.bool b) (.slice a1 l1 c1) (.slice a2 l2 c2) (.slice ad ld cd) (.slice ae le ce)) := hS.both _ _
        have HF1 := hide (hS.big (.slice ad ld cd) (.slice ae le ce) (unhide HVD2)); have HF2 := hide (hS.big (.slice ad ld cd) (.slice ae le ce) (unhide HVE))
        clear hS u1 u2 u3 f1 f2
        obtain ⟨V9, hV9⟩ : ∃ V9, V9 = (wf.setCell ⟨w.heap.size + 1, 0, none⟩ (.slice ad ld cd)).setCell ⟨w.heap.size + 1 + 1, 0, none⟩ (.slice ae le ce) := ⟨_, rfl⟩
        rw [← hV9] at HE HF1 HF2 ⊢
        clear hV9
        have s0 := (unhide HE).s.c; have s1 := (unhide HE).r.c
        go_wp2_with fail
        exact bodyPost_ret (v := .tuple #[.agg #[.slice ad ld cd], .agg #[.slice ae le ce]]) (by simp [results, Tryz.results113, go_sem, s0, s1]) rfl ⟨_, _, _, _, _, _, rfl, by rw [← (unhide HFG2).1]; exact unhide HF1, by rw [← (unhide HFG2).2]; exact unhide HF2, (unhide HE).below⟩
    | false =>
      have hc : ¬ (b = true ∧ R ≠ 0) := fun e => absurd ((unhide HCU).1 e) (by decide)
      have HFG2 : Hid (Q = F ∧ R = G) := ⟨by rw [(unhide HFG).1, if_neg hc], by rw [(unhide HFG).2, if_neg hc]⟩
      clear hc HCU HFG
      go_upto_region 4 with fail
      have k1 := (unhide HS3).s.c; have k2 := (unhide HS3).s.f; have k3 := (unhide HS3).r.c; have k4 := (unhide HS3).r.f
      have n3 : ¬ w.heap.size + 1 = w.heap.size + 1 + 1 := by omega
      have n4 : ¬ w.heap.size + 1 + 1 = w.heap.size + 1 := by omega
      go_region
      have hS := ((unhide HS3).both (.slice a7 l7 c7) (.slice a8 l8 c8)).later ((Below.refl _ _).drew)
      have HE := hide hS
      have HF1 := hide (((unhide HS3).big (.slice a7 l7 c7) (.slice a8 l8 c8) (unhide HQ3)).later ((Below.refl _ _).drew)); have HF2 := hide (((unhide HS3).big (.slice a7 l7 c7) (.slice a8 l8 c8) (unhide HR3)).later ((Below.refl _ _).drew))
      clear hS k1 k2 k3 k4
      obtain ⟨V9, hV9⟩ : ∃ V9, V9 = ((wc.setCell ⟨w.heap.size + 1, 0, none⟩ (.slice a7 l7 c7)).setCell ⟨w.heap.size + 1 + 1, 0, none⟩ (.slice a8 l8 c8)).drew := ⟨_, rfl⟩
      rw [← hV9] at HE HF1 HF2 ⊢
      clear hV9
      have s0 := (unhide HE).s.c; have s1 := (unhide HE).r.c
      go_wp2_with fail
      exact bodyPost_ret (v := .tuple #[.agg #[.slice a7 l7 c7], .agg #[.slice a8 l8 c8]]) (by simp [results, Tryz.results113, go_sem, s0, s1]) rfl ⟨_, _, _, _, _, _, rfl, by rw [← (unhide HFG2).1]; exact unhide HF1, by rw [← (unhide HFG2).2]; exact unhide HF2, (unhide HE).below⟩
end Go.Proofs.YtndhinoomlofgaaGreatDoor

namespace Go.Proofs.YtndhinoomlofgaaGreatDoor
open Go.RowKit

/-- Two functions answer the same. -/
def Both (f g : Nat) (args : Array Value) : Prop := ∃ (s t : ByteArray) (e : Int), (∀ w, Tab w → Ans f args w s t e) ∧ (∀ w, Ans g args w s t e)
section
variable (n1 d1 n2 d2 : ByteArray) (s1 : n1.size ≤ maxLen) (s2 : d1.size ≤ maxLen) (s3 : n2.size ≤ maxLen) (s4 : d2.size ≤ maxLen)
include s1 s2 s3 s4
end
end Go.Proofs.YtndhinoomlofgaaGreatDoor

namespace Go.Proofs.YtndhinoomlofgaaGreatDoor
open Go.RowKit

theorem floorN_le (b : Bool) (n d : Nat) : floorN b n d ≤ n + 1 := by
  have := Nat.div_le_self n d
  unfold floorN
  split <;> omega
theorem tx_size_le (E F n : Nat) (h : n < 10 ^ E) (hF : F ≤ n + 1) : (tx F).size ≤ E + 1 := by
  have := (Cub.dec_len_lt F (E + 1) (by omega)).2 (by rw [Nat.pow_succ]; omega)
  rw [← list_len]
  exact this
theorem lt_68 (E F n : Nat) (h : n < 10 ^ E) (hF : F ≤ n + 1) (hE : 10 ^ E ≤ 1000000000 ^ 67) : F < 1000000000 ^ 68 := by
  have : (1000000000 : Nat) ^ 67 < 1000000000 ^ 68 := Nat.pow_lt_pow_right (by decide) (by decide)
  omega
/-- The chain of a number, by both. -/
theorem chains_ok (num den : ByteArray) (x : Rat) (h : IsR num den x) : ∃ ts, Cub.EU x.den (floorR (decide (x < 0)) x.num.natAbs x.den) ts ∧
    (∀ w, Tab w → Calls Tryz.prog 57 #[.agg #[.string num, .string den]] w fun e w' => ∃ v, e = .returned (.tuple #[v, .int .i64 0]) ∧ RowS w' v (chT (decide (x < 0)) (floorN (decide (x < 0)) x.num.natAbs x.den) ts) ∧ Below w.heap.size w w') ∧
    (∀ w, Calls Tryz.prog 58 #[.agg #[.string num, .string den]] w fun e w' => ∃ v, e = .returned (.tuple #[v, .int .i64 0]) ∧ RowS w' v (chT (decide (x < 0)) (floorN (decide (x < 0)) x.num.natAbs x.den) ts) ∧ Below w.heap.size w w') := by
  obtain ⟨ts, hts⟩ := Cub.EU.some x.den (floorR (decide (x < 0)) x.num.natAbs x.den)
  have p9 := pow_nine 600 67 (by decide)
  refine ⟨ts, hts, fun w ht => ?_, fun w => ?_⟩
  · refine chain_walk num den (decide (x < 0)) x.num.natAbs x.den _ _ ts w ht (floorR_lt _ _ _ x.den_pos) h.bd.2 (lt_68 600 _ _ h.bd.1 (floorN_le _ _ _) p9) (Nat.le_trans (tx_size_le 600 _ _ h.bd.1 (floorN_le _ _ _)) (by decide)) (fun W => ?_) (fun W a1 l1 c1 a2 l2 c2 i1 i2 => ?_) hts
    · refine (qread num den x W h).mono ?_
      rintro r w' ⟨v, rfl, hq, hb⟩
      obtain ⟨b, n, d, hf, hl, e, _, _⟩ := hq
      obtain ⟨e1, e2, e3⟩ := Cub.low_is hl
      rw [e] at e1 e2 e3
      subst e1; subst e2; subst e3
      obtain ⟨a1, l1, c1, a2, l2, c2, rfl, i1, i2⟩ := hf.form
      exact ⟨a1, l1, c1, a2, l2, c2, rfl, i1, i2, hb⟩
    · exact floor_any _ _ _ _ 67 W ⟨_, _, rfl, i1, i2⟩ (by decide) (Nat.lt_of_lt_of_le h.bd.1 p9) (Nat.lt_of_lt_of_le h.bd.2 p9) x.den_pos
  · exact refChain_walk num den (decide (x < 0)) x.num.natAbs x.den _ _ ts w rfl rfl x.den_pos h.bd.1 h.bd.2 (ref18_yes h) (fun W => refRead num den x W h) hts
end Go.Proofs.YtndhinoomlofgaaGreatDoor

/- RatSimple: the law whole. -/
import Derived.Test.YtndhinoomlofgaaGreatDoorOrdA
import Derived.Test.YtndhinoomlofgaaGreatDoorQuo
import Derived.Test.YtndhinoomlofgaaGreatDoorNeg
import Derived.Test.YtndhinoomlofgaaGreatDoorRefSimple
import Derived.Test.YtndhinoomlofgaaGreatDoorRefLess
import Derived.Test.YtndhinoomlofgaaGreatDoorRefText2
import Derived.Test.YtndhinoomlofgaaGreatDoorFrCf
import Derived.Test.YtndhinoomlofgaaGreatDoorNearest
import Derived.Test.YtndhinoomlofgaaGreatDoorRead
import Derived.Deep.Cut
import Derived.Deep.RegionHeld3
import Derived.Deep.Quiet
import Derived.Test.YtndhinoomlofgaaGreatDoorGcdSmall
namespace Go.Proofs.YtndhinoomlofgaaGreatDoor
open Go.RowKit

set_option maxRecDepth 100000 in
set_option maxHeartbeats 2000000 in
theorem refSimple_no (n1 d1 n2 d2 : ByteArray) (p q : Bool) (w : World)
    (h18a : ∀ W, Calls Tryz.prog 20 #[.agg #[.string n1, .string d1]] W fun r w' => r = .returned (.bool p) ∧ Below W.heap.size W w')
    (h18b : ∀ W, Calls Tryz.prog 20 #[.agg #[.string n2, .string d2]] W fun r w' => r = .returned (.bool q) ∧ Below W.heap.size W w')
    (h : (p && q) = false) : Ans 56 #[.agg #[.string n1, .string d1], .agg #[.string n2, .string d2]] w ⟨#[]⟩ ⟨#[]⟩ 3 := by
  unfold Ans
  obtain ⟨V, hV⟩ : ∃ V, V = ((w.alloc (.cells #[.string n1, .string d1] 23)).alloc (.cells #[.string n2, .string d2] 23)).alloc (.cells #[.string ⟨#[]⟩, .string ⟨#[]⟩] 23) := ⟨_, rfl⟩
  have HS : Hid (O3 w V (.string n1) (.string d1) (.string n2) (.string d2)) := by rw [hV]; exact O3.first _ _ _ _ _
  have HV := hide hV
  have HA := hide h18a
  have HB := hide h18b
  clear h18a h18b
  go_enter Tryz.func56, Tryz.ntmps56
  go_upto_region 1 with fail
  rw [← unhide HV]
  clear hV HV
  have t0 := (unhide HS).a.c0; have t1 := (unhide HS).a.c1; have t2 := (unhide HS).b.c0; have t3 := (unhide HS).b.c1
  cases p with
  | false =>
    clear h HB
    go_wp2_with (go_at_call_of 20 n1; go_must (refine (unhide HA _).mono ?_; rintro e wa ⟨rfl, hba⟩; have HSA := hide ((unhide HS).later hba); clear hba t0 t1 t2 t3; have t2 := (unhide HSA).b.c0; have t3 := (unhide HSA).b.c1; have r0 := (unhide HSA).r.c0; have r1 := (unhide HSA).r.c1; have rf0 := (unhide HSA).r.f0; have rf1 := (unhide HSA).r.f1))
    have hS := (unhide HSA).r.store (.string ⟨#[]⟩) (.string ⟨#[]⟩)
    have hb : Below w.heap.size w (store2 wa (w.heap.size + 1 + 1) (.string ⟨#[]⟩) (.string ⟨#[]⟩)) := below_store2 (unhide HSA).below (by omega) _ _
    have u0 := hS.c0; have u1 := hS.c1
    exact bodyPost_ret (v := .tuple #[.agg #[.string ⟨#[]⟩, .string ⟨#[]⟩], .int .i64 3]) (w := store2 wa (w.heap.size + 1 + 1) (.string ⟨#[]⟩) (.string ⟨#[]⟩)) (by simp [results, Tryz.results56, go_sem, u0, u1]) rfl ⟨rfl, hb⟩
  | true =>
    cases q with
    | true => cases h
    | false =>
      clear h
      go_wp2_with (first | (go_at_call_of 20 n1; go_must (refine (unhide HA _).mono ?_; rintro e wa ⟨rfl, hba⟩; have HSA := hide ((unhide HS).later hba); clear hba t0 t1 t2 t3; have t2 := (unhide HSA).b.c0; have t3 := (unhide HSA).b.c1; have r0 := (unhide HSA).r.c0; have r1 := (unhide HSA).r.c1; have rf0 := (unhide HSA).r.f0; have rf1 := (unhide HSA).r.f1)) | (go_at_call_of 20 n2; go_must (refine (unhide HB _).mono ?_; rintro e wb ⟨rfl, hbb⟩; have HSB := hide ((unhide HSA).later hbb); clear hbb t2 t3 r0 r1 rf0 rf1; have t2 := (unhide HSB).b.c0; have r0 := (unhide HSB).r.c0; have r1 := (unhide HSB).r.c1; have rf0 := (unhide HSB).r.f0; have rf1 := (unhide HSB).r.f1)))
      have hS := (unhide HSB).r.store (.string ⟨#[]⟩) (.string ⟨#[]⟩)
      have hb : Below w.heap.size w (store2 wb (w.heap.size + 1 + 1) (.string ⟨#[]⟩) (.string ⟨#[]⟩)) := below_store2 (unhide HSB).below (by omega) _ _
      have u0 := hS.c0; have u1 := hS.c1
      exact bodyPost_ret (v := .tuple #[.agg #[.string ⟨#[]⟩, .string ⟨#[]⟩], .int .i64 3]) (w := store2 wb (w.heap.size + 1 + 1) (.string ⟨#[]⟩) (.string ⟨#[]⟩)) (by simp [results, Tryz.results56, go_sem, u0, u1]) rfl ⟨rfl, hb⟩

end Go.Proofs.YtndhinoomlofgaaGreatDoor

namespace Go.Proofs.YtndhinoomlofgaaGreatDoor
open Go.RowKit

/-- Two functions answer the same. -/
def Both (f g : Nat) (args : Array Value) : Prop := ∃ (s t : ByteArray) (e : Int), (∀ w, Tab w → Ans f args w s t e) ∧ (∀ w, Ans g args w s t e)
theorem ref18_any (num den : ByteArray) (s1 : num.size ≤ maxLen) (s2 : den.size ≤ maxLen) : ∃ ok : Bool, (ok = true ↔ RightT num den) ∧ ∀ W, Calls Tryz.prog 20 #[.agg #[.string num, .string den]] W fun r w' => r = .returned (.bool ok) ∧ Below W.heap.size W w' := by
  by_cases h : RightT num den
  · refine ⟨true, ⟨fun _ => h, fun _ => rfl⟩, fun W => ?_⟩
    obtain ⟨ok, h1, h2⟩ := refR_any num den W s1 s2
    rw [h1.2 h] at h2; exact h2
  · refine ⟨false, ⟨fun e => absurd e (by decide), fun h' => absurd h' h⟩, fun W => ?_⟩
    obtain ⟨ok, h1, h2⟩ := refR_any num den W s1 s2
    have : ok = false := by cases ok with | false => rfl | true => exact absurd (h1.1 rfl) h
    rw [this] at h2; exact h2
theorem and_no {p q : Bool} {P Q : Prop} (h1 : p = true ↔ P) (h2 : q = true ↔ Q) (h : ¬ (P ∧ Q)) : (p && q) = false := by
  cases p <;> cases q <;> simp_all
section
variable (n1 d1 n2 d2 : ByteArray) (s1 : n1.size ≤ maxLen) (s2 : d1.size ≤ maxLen) (s3 : n2.size ≤ maxLen) (s4 : d2.size ≤ maxLen)
include s1 s2 s3 s4
end
end Go.Proofs.YtndhinoomlofgaaGreatDoor

namespace Cub
theorem valQ_neg (b : Bool) (n d : Nat) : valQ (!b) n d = -valQ b n d := by
  unfold valQ
  rw [sg_neg, Rat.intCast_neg, Rat.div_def, Rat.div_def, Rat.neg_mul]
end Cub

namespace Go.Proofs.YtndhinoomlofgaaGreatDoor
open Go.RowKit
theorem cf_above {a b c d : Nat} {ts : List Nat} (r : Cub.CF a b c d ts) (o : Cub.Ord a b c d) (ha : 0 < a) : (Cub.pr ts).1 ≠ 0 := by
  cases r with
  | whole h =>
    simp only [Cub.pr, Nat.mul_one, Nat.add_zero]
    have h1 := Nat.div_add_mod a b
    intro e
    rw [e, h] at h1
    omega
  | least h h2 => simp only [Cub.pr, Nat.mul_one, Nat.add_zero]; exact Nat.succ_ne_zero _
  | on h h2 r =>
    obtain ⟨o2, _⟩ := o.on h h2
    have := (r.bound o2).2.2.2.2
    simp only [Cub.pr]
    omega
theorem cf_low {a b c d : Nat} {ts : List Nat} (r : Cub.CF a b c d ts) (o : Cub.Ord a b c d) (ha : 0 < a) (s : Bool) : Cub.Low s (Cub.pr ts).1 (Cub.pr ts).2 :=
  ⟨(r.bound o).2.2.2.2, Cub.pr_gcd ts, fun _ => cf_above r o ha⟩
theorem cmpQ_lt {x y : Rat} : Cub.cmpQ x y < 0 ↔ x < y := by unfold Cub.cmpQ; grind
theorem cmpQ_gt {x y : Rat} : 0 < Cub.cmpQ x y ↔ y < x := by unfold Cub.cmpQ; grind
theorem abs_pos {x : Rat} (h : x ≠ 0) : 0 < x.num.natAbs := by
  have h1 : x.num ≠ 0 := fun e => h (Rat.num_eq_zero.1 e)
  omega
theorem neg_abs (x : Rat) : (-x).num.natAbs = x.num.natAbs ∧ (-x).den = x.den := by
  rw [Rat.neg_num, Rat.neg_den]
  exact ⟨Int.natAbs_neg _, rfl⟩
theorem sT_zero : sT false 0 = ⟨#[48]⟩ := by decide +kernel
theorem both_simple (n1 d1 n2 d2 : ByteArray) (s1 : n1.size ≤ maxLen) (s2 : d1.size ≤ maxLen) (s3 : n2.size ≤ maxLen) (s4 : d2.size ≤ maxLen) : Both 55 56 #[.agg #[.string n1, .string d1], .agg #[.string n2, .string d2]] := by
  by_cases h : RightT n1 d1 ∧ RightT n2 d2
  · obtain ⟨x, h1⟩ := (right_isR n1 d1).1 h.1
    obtain ⟨y, h2⟩ := (right_isR n2 d2).1 h.2
    have h64 := fun W => refCompare 600 x y W (by omega) (by omega) h1.bd h2.bd
    have h62a := fun W => refRead n1 d1 x W h1
    have h62b := fun W => refRead n2 d2 y W h2
    by_cases hc : y < x
    · exact ⟨_, _, _, fun w _ => simple_below n1 d1 n2 d2 x y w h1 h2 (cmpQ_lt.2 hc), fun w => refSimple_below n1 d1 n2 d2 _ _ _ _ _ _ _ w (ref18_yes h1) (ref18_yes h2) h62a h62b h64 (cmpQ_gt.2 hc)⟩
    · have hcp : ¬ Cub.cmpQ y x < 0 := fun h => hc (cmpQ_lt.1 h)
      have hcr : ¬ 0 < Cub.cmpQ x y := fun h => hc (cmpQ_gt.1 h)
      by_cases hx : 0 < x
      · have hx0 : decide (x < 0) = false := valQ_pos hx
        have hy : 0 < y := Std.lt_of_lt_of_le hx (Rat.not_lt.1 hc)
        have hy0 : decide (y < 0) = false := valQ_pos hy
        have ho := ord_of hx hc
        obtain ⟨ts, hcf⟩ := Cub.CF.some ho
        have hxn : x ≠ 0 := fun e => by rw [e] at hx; exact absurd hx (by decide)
        have hl := cf_low hcf ho (abs_pos hxn) false
        have hbn := hcf.bound ho
        have e1 : fx x = .agg #[.bool false, .string (tx x.num.natAbs), .string (tx x.den)] := by unfold fx; rw [hx0]
        have e2 : fx y = .agg #[.bool false, .string (tx y.num.natAbs), .string (tx y.den)] := by unfold fx; rw [hy0]
        rw [e1] at h62a h64
        rw [e2] at h62b h64
        refine ⟨_, _, _, fun w ht => simple_pos n1 d1 n2 d2 x y w h1 h2 ht hcp (fun h => ?_) hx0 (Cub.valQ false (Cub.pr ts).1 (Cub.pr ts).2) (fun W u v hu hv => simplestQ u v x y ts W hu hv hx hc h1.1 h2.1 hcf), fun w => refSimple_pos n1 d1 n2 d2 _ _ _ _ _ w (ref18_yes h1) (ref18_yes h2) h62a h62b h64 hcr ?_ (tx (Cub.pr ts).1) (tx (Cub.pr ts).2) _ _ _ (between_any 600 (by omega) (by omega) hcf ho h1.bd.1 h1.bd.2 h2.bd.1 h2.bd.2) (fun W => ?_)⟩
        · exact absurd (cmpQ_gt.2 hx) (by omega)
        · rw [tx_b0]; exact decide_eq_false (by have := abs_pos hxn; omega)
        · rw [fx_of hl]
          exact refToldQ 600 _ W (by omega) (by omega) (bd_val _ hl.pos (Nat.lt_of_le_of_lt hbn.1 h1.bd.1) (Nat.lt_of_le_of_lt hbn.2.2.1 h1.bd.2))
      · have hs1 : Cub.cmpQ x 0 ≤ 0 := by
          have : ¬ 0 < Cub.cmpQ x 0 := fun h => hx (cmpQ_gt.1 h)
          omega
        by_cases hy : y < 0
        · have hx' : x < 0 := Std.lt_of_le_of_lt (Rat.not_lt.1 hc) hy
          have hx0 : decide (x < 0) = true := decide_eq_true hx'
          have hy0 : decide (y < 0) = true := decide_eq_true hy
          have hyp : 0 < -y := by grind
          have hc2 : ¬ -x < -y := by grind
          have ho := ord_of hyp hc2
          obtain ⟨ts, hcf⟩ := Cub.CF.some ho
          have hcf' := hcf
          have ho' := ho
          rw [(neg_abs y).1, (neg_abs y).2, (neg_abs x).1, (neg_abs x).2] at hcf' ho'
          have hyn : y ≠ 0 := fun e => by rw [e] at hy; exact absurd hy (by decide)
          have hl := cf_low hcf' ho' (abs_pos hyn) true
          have hbn := hcf'.bound ho'
          have e1 : fx x = .agg #[.bool true, .string (tx x.num.natAbs), .string (tx x.den)] := by unfold fx; rw [hx0]
          have e2 : fx y = .agg #[.bool true, .string (tx y.num.natAbs), .string (tx y.den)] := by unfold fx; rw [hy0]
          rw [e1] at h62a h64
          rw [e2] at h62b h64
          refine ⟨_, _, _, fun w ht => simple_neg n1 d1 n2 d2 x y w h1 h2 ht hcp hs1 (fun h => ?_) hx0 (Cub.valQ false (Cub.pr ts).1 (Cub.pr ts).2) (fun W u v hu hv => simplestQ u v (-y) (-x) ts W hu hv hyp hc2 (small_neg h2.1) (small_neg h1.1) hcf), fun w => refSimple_neg n1 d1 n2 d2 _ _ _ _ _ _ w (ref18_yes h1) (ref18_yes h2) h62a h62b h64 hcr (tx (Cub.pr ts).1) (tx (Cub.pr ts).2) _ _ _ (between_any 600 (by omega) (by omega) hcf' ho' h2.bd.1 h2.bd.2 h1.bd.1 h1.bd.2) (fun W => ?_)⟩
          · exact absurd (cmpQ_lt.2 hy) (by omega)
          · rw [fx_of hl, ← Cub.valQ_neg]
            exact refToldQ 600 _ W (by omega) (by omega) (bd_val _ hl.pos (Nat.lt_of_le_of_lt hbn.1 h2.bd.1) (Nat.lt_of_le_of_lt hbn.2.2.1 h2.bd.2))
        · have hy0 : decide (y < 0) = false := decide_eq_false hy
          have hs2 : 0 ≤ Cub.cmpQ y 0 := by
            have : ¬ Cub.cmpQ y 0 < 0 := fun h => hy (cmpQ_lt.1 h)
            omega
          have e2 : fx y = .agg #[.bool false, .string (tx y.num.natAbs), .string (tx y.den)] := by unfold fx; rw [hy0]
          rw [e2] at h62b h64
          refine ⟨_, _, _, fun w ht => simple_zero n1 d1 n2 d2 x y w h1 h2 hcp hs1 hs2 (fun W hb => ?_), fun w => refSimple_zero n1 d1 n2 d2 _ _ _ _ _ _ w (ref18_yes h1) (ref18_yes h2) h62a h62b h64 hcr ?_⟩
          · have h := ratOf_pos 0 W (by omega) (ht.later hb)
            rw [sT_zero] at h
            exact h
          · by_cases hz : x < 0
            · exact Or.inl (decide_eq_true hz)
            · refine Or.inr ?_
              have hx00 : x = 0 := by grind
              rw [tx_b0, hx00]; rfl
  · obtain ⟨p, hp, h18a⟩ := ref18_any n1 d1 s1 s2
    obtain ⟨q, hq, h18b⟩ := ref18_any n2 d2 s3 s4
    exact ⟨_, _, _, fun w _ => simple_no n1 d1 n2 d2 w (fun W => readTwo_no n1 d1 n2 d2 W s1 s2 s3 s4 h), fun w => refSimple_no n1 d1 n2 d2 p q w h18a h18b (and_no hp hq h)⟩
end Go.Proofs.YtndhinoomlofgaaGreatDoor

namespace Go.Proofs.YtndhinoomlofgaaGreatDoor
open Go.RowKit

/-- Noughts as far as i, made in a block of n bytes. -/
structure ZB (w wr : World) (g n i : Nat) : Prop where
  cell : ∀ q, q < n → wr.cell? ⟨g, q, none⟩ = some (.int .u8 (if q < i then 48 else 0))
  froz : ∀ q, q < n → wr.frozen? ⟨g, q, none⟩ = false
  low : w.heap.size ≤ g
  below : Below w.heap.size w wr
theorem ZB.step {w wr : World} {g n i : Nat} (h : ZB w wr g n i) (hi : i < n) : ZB w (wr.setCell ⟨g, i, none⟩ (.int .u8 48)) g n (i + 1) := by
  refine ⟨fun q hq => ?_, fun q hq => by rw [World.frozen?_setCell]; exact h.froz q hq, h.low, h.below.setCell (p := ⟨g, i, none⟩) h.low _⟩
  by_cases e : q = i
  · subst e
    rw [World.cell?_setCell_same _ _ _ (h.cell q hq), if_pos (by omega)]
  · rw [World.cell?_setCell_other _ _ _ _ (by intro h; cases h; exact e rfl), h.cell q hq]
    by_cases e2 : q < i
    · rw [if_pos e2, if_pos (by omega)]
    · rw [if_neg e2, if_neg (by omega)]
end Go.Proofs.YtndhinoomlofgaaGreatDoor

namespace Go.Proofs.YtndhinoomlofgaaGreatDoor
open Go.RowKit

/-- The arguments, a Frac, and two numbers in their boxes. -/
structure NumDen (w W : World) (n1 d1 : ByteArray) (g6 : Nat) (x y z : Value) (g8 g9 : Nat) (u v : Value) : Prop where
  n : N1 w W (.string n1) (.string d1)
  f : FBox W g6 x y z
  p : Box W g8 u
  q : Box W g9 v
  ne : g8 ≠ g9
  h6 : w.heap.size + 1 < g6
  h8 : w.heap.size + 1 < g8
  h9 : w.heap.size + 1 < g9
  n68 : g6 ≠ g8
  n69 : g6 ≠ g9
theorem N1.otherBox {w W : World} {x y : Value} (h : N1 w W x y) {g : Nat} (hg : w.heap.size + 1 < g) (u : Value) : N1 w (W.setCell ⟨g, 0, none⟩ u) x y :=
  ⟨h.a.otherAt (by omega) u, h.r.otherAt (by omega) u, h.below.setCell (p := ⟨g, 0, none⟩) (by show w.heap.size ≤ g; omega) u⟩
section
variable {w W V : World} {n1 d1 : ByteArray} {g6 g8 g9 : Nat} {x y z u v : Value}
theorem NumDen.later (h : NumDen w W n1 d1 g6 x y z g8 g9 u v) (hb : Below W.heap.size W V) : NumDen w V n1 d1 g6 x y z g8 g9 u v :=
  ⟨h.n.later hb, h.f.later hb, h.p.later hb, h.q.later hb, h.ne, h.h6, h.h8, h.h9, h.n68, h.n69⟩
theorem NumDen.setP (h : NumDen w W n1 d1 g6 x y z g8 g9 u v) (t : Value) : NumDen w (W.setCell ⟨g8, 0, none⟩ t) n1 d1 g6 x y z g8 g9 t v :=
  ⟨h.n.otherBox h.h8 t, h.f.otherAt h.n68 t, h.p.set t, h.q.other h.ne.symm t, h.ne, h.h6, h.h8, h.h9, h.n68, h.n69⟩
theorem NumDen.setQ (h : NumDen w W n1 d1 g6 x y z g8 g9 u v) (t : Value) : NumDen w (W.setCell ⟨g9, 0, none⟩ t) n1 d1 g6 x y z g8 g9 u t :=
  ⟨h.n.otherBox h.h9 t, h.f.otherAt h.n69 t, h.p.other h.ne t, h.q.set t, h.ne, h.h6, h.h8, h.h9, h.n68, h.n69⟩
end
end Go.Proofs.YtndhinoomlofgaaGreatDoor

namespace Go.Proofs.YtndhinoomlofgaaGreatDoor
open Go.RowKit

/-- A Frac and the boxes of two numbers. -/
structure FB (w W : World) (x y z s r : Value) : Prop where
  a : FBox W w.heap.size x y z
  s : Box W (w.heap.size + 1) s
  r : Box W (w.heap.size + 1 + 1) r
  below : Below w.heap.size w W
theorem FB.later {w W V : World} {x y z s r : Value} (h : FB w W x y z s r) (hb : Below W.heap.size W V) : FB w V x y z s r :=
  ⟨h.a.later hb, h.s.later hb, h.r.later hb, h.below.trans (hb.mono h.below.size)⟩
theorem FB.first (w : World) (x y z : Value) : FB w (((w.alloc (.cells #[x, y, z] 74)).alloc (.cells #[.slice none 0 0] 72)).alloc (.cells #[.slice none 0 0] 72)) x y z (.slice none 0 0) (.slice none 0 0) :=
  ⟨⟨by simp [go_sem], by simp [go_sem], by simp [go_sem], by simp [go_sem], by simp [go_sem], by simp [go_sem]⟩, ⟨by simp [go_sem], by simp [go_sem]⟩, ⟨by simp [go_sem], by simp [go_sem]⟩, (((Below.refl _ _).alloc (Nat.le_refl _) _).alloc (by simp) _).alloc (by simp; omega) _⟩
theorem FB.both {w W : World} {x y z s r : Value} (h : FB w W x y z s r) (u v : Value) : FB w ((W.setCell ⟨w.heap.size + 1, 0, none⟩ u).setCell ⟨w.heap.size + 1 + 1, 0, none⟩ v) x y z u v :=
  ⟨(h.a.otherAt (by omega) u).otherAt (by omega) v, (h.s.set u).other (by omega) v, (h.r.other (by omega) u).set v, (h.below.setCell (p := ⟨w.heap.size + 1, 0, none⟩) (by show w.heap.size ≤ w.heap.size + 1; omega) u).setCell (p := ⟨w.heap.size + 1 + 1, 0, none⟩) (by show w.heap.size ≤ w.heap.size + 1 + 1; omega) v⟩
theorem FB.big {w W : World} {x y z v : Value} {a1 a2 : Option Addr} {l1 c1 l2 c2 n : Nat} (h : FB w W x y z (.slice a1 l1 c1) (.slice a2 l2 c2)) (u u' : Value) (hv : IsBig W v n) : IsBig ((W.setCell ⟨w.heap.size + 1, 0, none⟩ u).setCell ⟨w.heap.size + 1 + 1, 0, none⟩ u') v n :=
  (hv.box u h.s.c (not_int _ _ _)).box u' (h.r.other (by omega) u).c (not_int _ _ _)

end Go.Proofs.YtndhinoomlofgaaGreatDoor

namespace Go.Proofs.YtndhinoomlofgaaGreatDoor
open Go.RowKit

/-- Both arguments in their boxes. -/
structure O2 (w W : World) (a1 a2 b1 b2 : Value) : Prop where
  a : T2 W w.heap.size a1 a2
  b : T2 W (w.heap.size + 1) b1 b2
  below : Below w.heap.size w W
  lt : w.heap.size + 1 < W.heap.size
theorem O2.later {w W V : World} {a1 a2 b1 b2 : Value} (s : O2 w W a1 a2 b1 b2) (hb : Below W.heap.size W V) : O2 w V a1 a2 b1 b2 :=
  ⟨s.a.later hb, s.b.later hb, s.below.trans (hb.mono s.below.size), Nat.lt_of_lt_of_le s.lt hb.size⟩

end Go.Proofs.YtndhinoomlofgaaGreatDoor

namespace Go.Proofs.YtndhinoomlofgaaGreatDoor
open Go.RowKit
set_option maxRecDepth 100000 in
set_option maxHeartbeats 2000000 in
theorem law_simple (n1 d1 n2 d2 : ByteArray) (w : World) (htab : Tab w) (s1 : n1.size ≤ maxLen) (s2 : d1.size ≤ maxLen) (s3 : n2.size ≤ maxLen) (s4 : d2.size ≤ maxLen) :
    Calls Tryz.prog 9 #[.agg #[.string n1, .string d1], .agg #[.string n2, .string d2]] w fun r w' => r = .returned (.bool true) ∧ Below w.heap.size w w' := by
  obtain ⟨rn, rd, re, hp, hd⟩ := both_simple n1 d1 n2 d2 s1 s2 s3 s4
  unfold Ans at hp hd
  have HP := hide hp; have HD := hide hd
  clear hp hd
  obtain ⟨V, hV⟩ : ∃ V, V = (w.alloc (.cells #[.string n1, .string d1] 23)).alloc (.cells #[.string n2, .string d2] 23) := ⟨_, rfl⟩
  have hbV : Below w.heap.size w V := by rw [hV]; exact ((Below.refl _ _).alloc (Nat.le_refl _) _).alloc (by simp) _
  have hsz : V.heap.size = w.heap.size + 1 + 1 := by rw [hV]; simp
  have HS : Hid (O2 w V (.string n1) (.string d1) (.string n2) (.string d2)) := ⟨by rw [hV]; exact ⟨by simp [go_sem], by simp [go_sem], by simp [go_sem], by simp [go_sem]⟩, by rw [hV]; exact ⟨by simp [go_sem], by simp [go_sem], by simp [go_sem], by simp [go_sem]⟩, hbV, by omega⟩
  have HV := hide hV
  have HTW := hide htab
  have HAW := hide (fun W (hb : Below w.heap.size w W) => awake_any W (htab.later hb))
  clear s1 s2 s3 s4 htab hbV hsz
  go_enter Tryz.func9, Tryz.ntmps9
  go_upto_region 1 with fail
  rw [← unhide HV]
  clear hV HV
  have t0 := (unhide HS).a.c0; have t1 := (unhide HS).a.c1; have t2 := (unhide HS).b.c0; have t3 := (unhide HS).b.c1
  go_upto_region 2 with (go_at_call 55; go_must (refine (unhide HP _ ((unhide HTW).later (unhide HS).below)).mono ?_; rintro e w1 ⟨rfl, hb⟩; have HS1 := hide ((unhide HS).later hb); clear hb t0 t1 t2 t3))
  obtain ⟨V2, hV2⟩ : ∃ V2, V2 = w1.alloc (.cells #[.string rn, .string rd] 23) := ⟨_, rfl⟩
  have hb2 : Below w1.heap.size w1 V2 := by rw [hV2]; exact (Below.refl _ _).alloc (Nat.le_refl _) _
  have HS2 := hide ((unhide HS1).later hb2)
  have HB2 : Hid (T2 V2 w1.heap.size (.string rn) (.string rd)) := by rw [hV2]; exact T2.new _ _ _
  rw [← hV2]
  clear hV2 hb2 HS1 HS
  generalize w1.heap.size = g9 at *
  have t0 := (unhide HS2).a.c0; have t1 := (unhide HS2).a.c1; have t2 := (unhide HS2).b.c0; have t3 := (unhide HS2).b.c1
  go_upto_region 3 with (go_at_call 56; go_must (refine (unhide HD _).mono ?_; rintro e w3 ⟨rfl, hb⟩; have HS3 := hide ((unhide HS2).later hb); have HB3 := hide ((unhide HB2).later hb); clear hb t0 t1 t2 t3))
  obtain ⟨V4, hV4⟩ : ∃ V4, V4 = w3.alloc (.cells #[.string rn, .string rd] 23) := ⟨_, rfl⟩
  have hb4 : Below w3.heap.size w3 V4 := by rw [hV4]; exact (Below.refl _ _).alloc (Nat.le_refl _) _
  have HS4 : Hid (Below w.heap.size w V4) := ((unhide HS3).later hb4).below
  have HB4 := hide ((unhide HB3).later hb4)
  have HC4 : Hid (T2 V4 w3.heap.size (.string rn) (.string rd)) := by rw [hV4]; exact T2.new _ _ _
  rw [← hV4]
  clear hV4 hb4 HS2 HS3 HB2 HB3
  generalize w3.heap.size = g11 at *
  have q2 := (unhide HB4).c0; have q3 := (unhide HB4).c1
  have q4 := (unhide HC4).c0; have q5 := (unhide HC4).c1
  go_wp2_with (go_at_call 23; go_must (refine (unhide HAW _ (unhide HS4)).mono ?_; rintro e w9 ⟨rfl, hb9⟩; have HE := hide ((unhide HS4).trans (hb9.mono (unhide HS4).size)); clear hb9))
  go_ret
  exact ⟨by simp, unhide HE⟩
end Go.Proofs.YtndhinoomlofgaaGreatDoor

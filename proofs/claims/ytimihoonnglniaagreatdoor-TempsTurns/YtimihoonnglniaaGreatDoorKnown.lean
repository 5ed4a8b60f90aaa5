/- A unit of temperature by a word. -/
import Derived.Test.YtimihoonnglniaaGreatDoorReadNo
import Derived.Test.YtimihoonnglniaaGreatDoorUnit
import Derived.OwnWalk
import Derived.Laws.AppendOwn
import Derived.Laws.EntriesVeiled
import Derived.Test.YtimihoonnglniaaGreatDoorScale
namespace Go.Proofs.YtimihoonnglniaaGreatDoor
open Go.RowKit
/-- A row: its texts, how it is made, and what comes of that. -/
structure Sc where
  nm : ByteArray
  sy : ByteArray
  f : Nat
  a : Nat
  b : Nat
  c : Nat
  d : Nat
def sct : Nat → Sc
  | 0 => ⟨⟨#[114, 97, 110, 107, 105, 110, 101]⟩, ⟨#[194, 176, 82]⟩, 89, 5, 9, 0, 1⟩
  | 1 => ⟨⟨#[99, 101, 108, 115, 105, 117, 115]⟩, ⟨#[194, 176, 67]⟩, 90, 1, 1, 27315, 100⟩
  | 2 => ⟨⟨#[102, 97, 104, 114, 101, 110, 104, 101, 105, 116]⟩, ⟨#[194, 176, 70]⟩, 91, 5, 9, 229835, 900⟩
  | _ => ⟨⟨#[107, 101, 108, 118, 105, 110]⟩, ⟨#[75]⟩, 65, 1, 1, 0, 1⟩
theorem made_sc : ∀ k, k < 4 → MadeS (sct k).f (sct k).a (sct k).b (sct k).c (sct k).d
  | 0, _ => rankine_made
  | 1, _ => celsius_made
  | 2, _ => fahrenheit_made
  | 3, _ => kelvin_made
  | n + 4, h => absurd h (by omega)
theorem enter_sc : ∀ k, k < 4 → ∀ W, (callFunc (sct k).f #[]).run Tryz.prog W = .ok (.enter (sct k).f #[]) W
  | 0, _, W => by kernel_rfl
  | 1, _, W => by kernel_rfl
  | 2, _, W => by kernel_rfl
  | 3, _, W => by kernel_rfl
  | n + 4, h, _ => absurd h (by omega)
/-- The three cells of a row. -/
structure R3 (W : World) (g k : Nat) : Prop where
  c0 : W.cell? ⟨g, k * 3, none⟩ = some (.string (sct k).nm)
  c1 : W.cell? ⟨g, k * 3 + 1, none⟩ = some (.string (sct k).sy)
  c2 : W.cell? ⟨g, k * 3 + 2, none⟩ = some (.func (.func (sct k).f) #[] #[])
theorem R3.later {W V : World} {B g k : Nat} (h : R3 W g k) (hb : Below B W V) (hg : g < B) : R3 V g k :=
  ⟨(hb.cell (p := ⟨g, k * 3, none⟩) hg).trans h.c0, (hb.cell (p := ⟨g, k * 3 + 1, none⟩) hg).trans h.c1, (hb.cell (p := ⟨g, k * 3 + 2, none⟩) hg).trans h.c2⟩
def rows3 : Array Value := #[.string ⟨#[114, 97, 110, 107, 105, 110, 101]⟩, .string ⟨#[194, 176, 82]⟩, .func (.func 89) #[] #[], .string ⟨#[99, 101, 108, 115, 105, 117, 115]⟩, .string ⟨#[194, 176, 67]⟩, .func (.func 90) #[] #[], .string ⟨#[102, 97, 104, 114, 101, 110, 104, 101, 105, 116]⟩, .string ⟨#[194, 176, 70]⟩, .func (.func 91) #[] #[]]
set_option maxRecDepth 100000 in
set_option maxHeartbeats 4000000 in
theorem rows_any (w : World) : Calls Tryz.prog 64 #[] w fun r w' => r = .returned (.slice (some ⟨w.heap.size, 0, none⟩) 3 3) ∧ w' = w.alloc (.cells rows3 90) := by
  go_enter Tryz.func64, Tryz.ntmps64
  go_wp2
  go_ret
  exact ⟨rfl, rfl⟩
def plainB (s nm sy : ByteArray) : Bool := nm.toList == s.toList || sy.toList == s.toList
set_option maxRecDepth 100000 in
set_option maxHeartbeats 2000000 in
theorem closure_any (nm sy : ByteArray) (fv : Value) (s : ByteArray) (b : Nat) (w : World) (hb : w.cell? ⟨b, 0, none⟩ = some (.string s)) (hlt : b < w.heap.size) : Calls Tryz.prog 88 #[.agg #[.string nm, .string sy, fv], .pointer (some ⟨b, 0, none⟩)] w fun r w' => r = .returned (.bool (plainB s nm sy)) ∧ Below w.heap.size w w' := by
  unfold plainB
  go_enter Tryz.func88, Tryz.ntmps88
  go_wp2_with fail
  all_goals
    go_ret
    refine ⟨?_, (Below.refl _ _).alloc (Nat.le_refl _) _⟩
    first | rfl | (simp [*]; done) | (simp_all; done)
def scB (s : ByteArray) (k : Nat) : Bool := plainB s (sct k).nm (sct k).sy
/-- The first of the four that answers, or none. -/
def IsFirst (p : Nat → Bool) (j : Int) : Prop := (∃ k : Nat, k < 4 ∧ j = (k : Int) ∧ p k = true ∧ ∀ i, i < k → p i = false) ∨ (j = -1 ∧ ∀ i, i < 4 → p i = false)
theorem none_succ {p : Nat → Bool} {k : Nat} (h : ∀ i, i < k → p i = false) (hk : p k = false) : ∀ i, i < k + 1 → p i = false := fun i hi => by
  by_cases e : i = k
  · rw [e]; exact hk
  · exact h i (by omega)
set_option maxRecDepth 100000 in
set_option maxHeartbeats 2000000 in
theorem index_any (s : ByteArray) (g cap b : Nat) (w : World) (hr : ∀ k, k < 4 → R3 w g k) (hg : g < w.heap.size) (hb : w.cell? ⟨b, 0, none⟩ = some (.string s)) (hlt : b < w.heap.size) :
    Calls Tryz.prog 87 #[.slice (some ⟨g, 0, none⟩) 4 cap, .func (.func 88) #[] #[.pointer (some ⟨b, 0, none⟩)]] w fun r w' => ∃ j : Int, r = .returned (.int .i64 j) ∧ IsFirst (scB s) j ∧ Below w.heap.size w w' := by
  have HR := hide hr; have HBC := hide hb
  clear hr hb
  go_enter Tryz.func87, Tryz.ntmps87
  go_wp2_with fail
  go_loopw [8] (fun s8 wr => ∃ (k : Nat), k ≤ 4 ∧ s8 = .int .i64 (k : Int) ∧ Hid (∀ i, i < k → scB s i = false) ∧ Hid (Below w.heap.size w wr)) (fun s8 _ => 4 - (intOf s8).toNat)
  case atStart => exact ⟨0, by omega, rfl, fun i hi => absurd hi (by omega), Below.refl _ _⟩
  case round =>
    obtain ⟨k, hk, rfl, HN, HB⟩ := hrel
    by_cases hk4 : k < 4
    · have hkI : (k : Int) < 4 := by omega
      have hk0 : (0 : Int) ≤ (k : Int) := by omega
      have hrow := (unhide HR k hk4).later (unhide HB) hg
      have c0 := hrow.c0; have c1 := hrow.c1; have c2 := hrow.c2
      clear hrow
      have HC : Hid (∀ W, Below wr.heap.size wr W → Calls Tryz.prog 88 #[.agg #[.string (sct k).nm, .string (sct k).sy, .func (.func (sct k).f) #[] #[]], .pointer (some ⟨b, 0, none⟩)] W fun r w' => r = .returned (.bool (scB s k)) ∧ Below W.heap.size W w') := fun W hW =>
        closure_any _ _ _ s b W (((unhide HB).trans (hW.mono (unhide HB).size)).cell (p := ⟨b, 0, none⟩) hlt |>.trans (unhide HBC)) (Nat.lt_of_lt_of_le hlt (((unhide HB).trans (hW.mono (unhide HB).size)).size))
      have HNK := hide (fun (e : scB s k = false) => none_succ (unhide HN) e)
      have HYK := hide (fun (e : scB s k = true) => (Or.inl ⟨k, hk4, rfl, e, unhide HN⟩ : IsFirst (scB s) (k : Int)))
      generalize (sct k).nm = nm at *
      generalize (sct k).sy = sy at *
      generalize (sct k).f = f at *
      by_cases hB : scB s k = true
      · have HJ := hide (unhide HYK hB)
        rw [hB] at HC
        clear HNK HYK hB
        go_wp2_with (go_at_call 88; go_must (refine (unhide HC _ (Below.refl _ _)).mono ?_; rintro e wt ⟨rfl, hbt⟩; have HBT := hide hbt; clear hbt))
        go_ret
        exact ⟨_, rfl, unhide HJ, (unhide HB).trans ((unhide HBT).mono (unhide HB).size)⟩
      · have hB' : scB s k = false := by simpa using hB
        have HJ := hide (unhide HNK hB')
        rw [hB'] at HC
        clear HNK HYK hB hB'
        go_wp2_with (go_at_call 88; go_must (refine (unhide HC _ (Below.refl _ _)).mono ?_; rintro e wt ⟨rfl, hbt⟩; have HBT := hide hbt; clear hbt))
        go_roundw
        case rel => exact ⟨k + 1, by omega, by go_num, HJ, (unhide HB).trans ((unhide HBT).mono (unhide HB).size)⟩
        case measure => simp [intOf]; omega
    · have hkI : ¬ (k : Int) < 4 := by omega
      go_wp2_with fail
      go_ret
      exact ⟨-1, rfl, Or.inr ⟨rfl, fun i hi => unhide HN i (by omega)⟩, unhide HB⟩
set_option maxRecDepth 100000 in
set_option maxHeartbeats 2000000 in
theorem find_any (s : ByteArray) (g cap : Nat) (w : World) (hr : ∀ k, k < 4 → R3 w g k) (hg : g < w.heap.size) :
    Calls Tryz.prog 63 #[.string s, .slice (some ⟨g, 0, none⟩) 4 cap] w fun r w' => ((∃ k : Nat, k < 4 ∧ r = .returned (.tuple #[.agg #[.string (sct k).nm, .string (sct k).sy, .func (.func (sct k).f) #[] #[]], .bool true]) ∧ IsFirst (scB s) (k : Int)) ∨ (r = .returned (.tuple #[.agg #[.string ⟨#[]⟩, .string ⟨#[]⟩, .nilFunc], .bool false]) ∧ IsFirst (scB s) (-1))) ∧ Below w.heap.size w w' := by
  obtain ⟨V, hV⟩ : ∃ V, V = (w.alloc (.cells #[.string s] 9)).alloc (.cells #[.string ⟨#[]⟩, .string ⟨#[]⟩, .nilFunc] 90) := ⟨_, rfl⟩
  have HBX : Hid (V.cell? ⟨w.heap.size, 0, none⟩ = some (.string s) ∧ w.heap.size < V.heap.size) := by rw [hV]; exact ⟨by simp [go_sem], by simp; omega⟩
  have HZ : Hid (FBox V (w.heap.size + 1) (.string ⟨#[]⟩) (.string ⟨#[]⟩) (.nilFunc)) := by rw [hV]; exact ⟨by simp [go_sem], by simp [go_sem], by simp [go_sem], by simp [go_sem], by simp [go_sem], by simp [go_sem]⟩
  have HB : Hid (Below w.heap.size w V) := by rw [hV]; exact ((Below.refl _ _).alloc (Nat.le_refl _) _).alloc (by simp) _
  have HR := hide (fun k hk => (hr k hk).later (unhide HB) hg)
  have HG : Hid (g < V.heap.size) := Nat.lt_of_lt_of_le hg (unhide HB).size
  have HV := hide hV
  have HIX := hide (index_any s g cap w.heap.size V (unhide HR) (unhide HG) (unhide HBX).1 (unhide HBX).2)
  clear hV hr
  go_enter Tryz.func63, Tryz.ntmps63
  go_upto_region 1 with fail
  rw [← unhide HV]
  clear HV
  have t0 := (unhide HBX).1
  go_upto_region 2 with (go_at_call 87; go_must (refine (unhide HIX).mono ?_; rintro e w1 ⟨j, rfl, hj, hb1⟩; have HJ := hide hj; have HB1 := hide hb1; clear hj hb1 t0))
  have HZ1 := hide ((unhide HZ).later (unhide HB1))
  have HBW : Hid (Below w.heap.size w w1) := (unhide HB).trans ((unhide HB1).mono (unhide HB).size)
  have z0 := (unhide HZ1).c0; have z1 := (unhide HZ1).c1; have z2 := (unhide HZ1).c2; have f0 := (unhide HZ1).f0; have f1 := (unhide HZ1).f1; have f2 := (unhide HZ1).f2
  rcases unhide HJ with ⟨k, hk, rfl, hk1, hk2⟩ | ⟨rfl, hn⟩
  · have hk0 : (0 : Int) ≤ (k : Int) := by omega
    have hkI : (k : Int) < 4 := by omega
    have hrow := (unhide HR k hk).later (unhide HB1) (unhide HG)
    have c0 := hrow.c0; have c1 := hrow.c1; have c2 := hrow.c2
    have HOUT : Hid (∀ w', Below w.heap.size w w' → (((∃ k' : Nat, k' < 4 ∧ Ending.returned (.tuple #[.agg #[.string (sct k).nm, .string (sct k).sy, .func (.func (sct k).f) #[] #[]], .bool true]) = .returned (.tuple #[.agg #[.string (sct k').nm, .string (sct k').sy, .func (.func (sct k').f) #[] #[]], .bool true]) ∧ IsFirst (scB s) (k' : Int)) ∨ (Ending.returned (.tuple #[.agg #[.string (sct k).nm, .string (sct k).sy, .func (.func (sct k).f) #[] #[]], .bool true]) = .returned (.tuple #[.agg #[.string ⟨#[]⟩, .string ⟨#[]⟩, .nilFunc], .bool false]) ∧ IsFirst (scB s) (-1))) ∧ Below w.heap.size w w')) := fun w' hb => ⟨Or.inl ⟨k, hk, rfl, Or.inl ⟨k, hk, rfl, hk1, hk2⟩⟩, hb⟩
    clear hrow hk1 hk2
    generalize (sct k).nm = nm at c0 c1 c2 HOUT
    generalize (sct k).sy = sy at c0 c1 c2 HOUT
    generalize (sct k).f = f at c0 c1 c2 HOUT
    go_wp2_with fail
    have hS := (unhide HZ1).store (.string nm) (.string sy) (.func (.func f) #[] #[])
    have v0 := hS.c0; have v1 := hS.c1; have v2 := hS.c2
    exact bodyPost_ret (v := .tuple #[.agg #[.string nm, .string sy, .func (.func f) #[] #[]], .bool true]) (w := store3 w1 (w.heap.size + 1) (.string nm) (.string sy) (.func (.func f) #[] #[])) (by simp [results, Tryz.results63, go_sem, v0, v1, v2]) rfl (unhide HOUT _ (below_store3 (unhide HBW) (Nat.le_succ _) _ _ _))
  · go_wp2_with fail
    have hS := (unhide HZ1).store (.string ⟨#[]⟩) (.string ⟨#[]⟩) (.nilFunc)
    have v0 := hS.c0; have v1 := hS.c1; have v2 := hS.c2
    exact bodyPost_ret (v := .tuple #[.agg #[.string ⟨#[]⟩, .string ⟨#[]⟩, .nilFunc], .bool false]) (w := store3 w1 (w.heap.size + 1) (.string ⟨#[]⟩) (.string ⟨#[]⟩) (.nilFunc)) (by simp [results, Tryz.results63, go_sem, v0, v1, v2]) rfl ⟨Or.inr ⟨rfl, Or.inr ⟨rfl, hn⟩⟩, below_store3 (unhide HBW) (Nat.le_succ _) _ _ _⟩
end Go.Proofs.YtimihoonnglniaaGreatDoor

namespace Go.Proofs.YtimihoonnglniaaGreatDoor
open Go.RowKit
/-- The factors, the offsets. -/
def fq : Nat → Rat
  | 0 => 5 / 9
  | 1 => 1
  | 2 => 5 / 9
  | _ => 1
def oq : Nat → Rat
  | 0 => 0
  | 1 => 5463 / 20
  | 2 => 45967 / 180
  | _ => 0
theorem frac_f : ∀ k, k < 4 → ∀ w, Tab w → Calls Tryz.prog 66 #[.agg #[.int .i64 ((sct k).a : Int), .int .i64 ((sct k).b : Int)]] w fun r w' => ∃ v, r = .returned v ∧ QOf w' v (fq k) 67 ∧ Below w.heap.size w w'
  | 0, _, w, ht => frac_any 5 9 (5 / 9) w (by decide) (by decide) (by decide +kernel) (by decide +kernel) (small_of (by decide +kernel) (by decide +kernel)) ht
  | 1, _, w, ht => frac_any 1 1 1 w (by decide) (by decide) (by decide +kernel) (by decide +kernel) (small_of (by decide +kernel) (by decide +kernel)) ht
  | 2, _, w, ht => frac_any 5 9 (5 / 9) w (by decide) (by decide) (by decide +kernel) (by decide +kernel) (small_of (by decide +kernel) (by decide +kernel)) ht
  | 3, _, w, ht => frac_any 1 1 1 w (by decide) (by decide) (by decide +kernel) (by decide +kernel) (small_of (by decide +kernel) (by decide +kernel)) ht
  | n + 4, h, _, _ => absurd h (by omega)
theorem frac_o : ∀ k, k < 4 → ∀ w, Tab w → Calls Tryz.prog 66 #[.agg #[.int .i64 ((sct k).c : Int), .int .i64 ((sct k).d : Int)]] w fun r w' => ∃ v, r = .returned v ∧ QOf w' v (oq k) 67 ∧ Below w.heap.size w w'
  | 0, _, w, ht => frac_any 0 1 0 w (by decide) (by decide) (by decide +kernel) (by decide +kernel) (small_of (by decide +kernel) (by decide +kernel)) ht
  | 1, _, w, ht => frac_any 27315 100 (5463 / 20) w (by decide) (by decide) (by decide +kernel) (by decide +kernel) (small_of (by decide +kernel) (by decide +kernel)) ht
  | 2, _, w, ht => frac_any 229835 900 (45967 / 180) w (by decide) (by decide) (by decide +kernel) (by decide +kernel) (small_of (by decide +kernel) (by decide +kernel)) ht
  | 3, _, w, ht => frac_any 0 1 0 w (by decide) (by decide) (by decide +kernel) (by decide +kernel) (small_of (by decide +kernel) (by decide +kernel)) ht
  | n + 4, h, _, _ => absurd h (by omega)
def store6 (W : World) (g : Nat) (a b c d e f : Value) : World := (((((W.setCell ⟨g, 0, none⟩ a).setCell ⟨g, 1, none⟩ b).setCell ⟨g, 2, none⟩ c).setCell ⟨g, 3, none⟩ d).setCell ⟨g, 4, none⟩ e).setCell ⟨g, 5, none⟩ f
theorem T6.store {W : World} {g : Nat} {a b c d e f : Value} (h : T6 W g a b c d e f) (x y z t u v : Value) : T6 (store6 W g x y z t u v) g x y z t u v := by
  have c0 := h.c0; have c1 := h.c1; have c2 := h.c2; have c3 := h.c3; have c4 := h.c4; have c5 := h.c5; have f0 := h.f0; have f1 := h.f1; have f2 := h.f2; have f3 := h.f3; have f4 := h.f4; have f5 := h.f5
  unfold store6
  exact ⟨by simp [go_sem, *], by simp [go_sem, *], by simp [go_sem, *], by simp [go_sem, *], by simp [go_sem, *], by simp [go_sem, *], by simp [go_sem, *], by simp [go_sem, *], by simp [go_sem, *], by simp [go_sem, *], by simp [go_sem, *], by simp [go_sem, *]⟩
theorem below_store6 {B g : Nat} {w W : World} (h : Below B w W) (hg : B ≤ g) (a b c d e f : Value) : Below B w (store6 W g a b c d e f) :=
  (((((h.setCell (p := ⟨g, 0, none⟩) hg a).setCell (p := ⟨g, 1, none⟩) hg b).setCell (p := ⟨g, 2, none⟩) hg c).setCell (p := ⟨g, 3, none⟩) hg d).setCell (p := ⟨g, 4, none⟩) hg e).setCell (p := ⟨g, 5, none⟩) hg f
theorem QOf.box {W : World} {vv : Value} {q : Rat} {k : Nat} (hq : QOf W vv q k) {p : Addr} {x : Value} (u : Value) (hp : W.cell? p = some x) (hx : ∀ k n, x ≠ .int k n) : QOf (W.setCell p u) vv q k := by
  obtain ⟨b0, n, d, ⟨s, t, e, h1, h1'⟩, h2⟩ := hq
  exact ⟨b0, n, d, ⟨s, t, e, h1.box u hp hx, h1'.box u hp hx⟩, h2⟩
theorem QOf.six {W : World} {g : Nat} {b0 b1 : Bool} {a1 a2 a3 a4 : Option Addr} {l1 c1 l2 c2 l3 c3 l4 c4 : Nat} (h : T6 W g (.bool b0) (.slice a1 l1 c1) (.slice a2 l2 c2) (.bool b1) (.slice a3 l3 c3) (.slice a4 l4 c4)) (x y z t u v : Value) {vv : Value} {q : Rat} {k : Nat} (hq : QOf W vv q k) : QOf (store6 W g x y z t u v) vv q k := by
  unfold store6
  refine QOf.box (QOf.box (QOf.box (QOf.box (QOf.box (QOf.box hq _ h.c0 (fun _ _ e => by cases e)) _ (x := .slice a1 l1 c1) ?_ (not_int _ _ _)) _ (x := .slice a2 l2 c2) ?_ (not_int _ _ _)) _ (x := .bool b1) ?_ (fun _ _ e => by cases e)) _ (x := .slice a3 l3 c3) ?_ (not_int _ _ _)) _ (x := .slice a4 l4 c4) ?_ (not_int _ _ _)
  · rw [World.cell?_setCell_other _ _ _ _ (by simp)]; exact h.c1
  · rw [World.cell?_setCell_other _ _ _ _ (by simp), World.cell?_setCell_other _ _ _ _ (by simp)]; exact h.c2
  · rw [World.cell?_setCell_other _ _ _ _ (by simp), World.cell?_setCell_other _ _ _ _ (by simp), World.cell?_setCell_other _ _ _ _ (by simp)]; exact h.c3
  · rw [World.cell?_setCell_other _ _ _ _ (by simp), World.cell?_setCell_other _ _ _ _ (by simp), World.cell?_setCell_other _ _ _ _ (by simp), World.cell?_setCell_other _ _ _ _ (by simp)]; exact h.c4
  · rw [World.cell?_setCell_other _ _ _ _ (by simp), World.cell?_setCell_other _ _ _ _ (by simp), World.cell?_setCell_other _ _ _ _ (by simp), World.cell?_setCell_other _ _ _ _ (by simp), World.cell?_setCell_other _ _ _ _ (by simp)]; exact h.c5
theorem own_later {w w' : World} {base e s n : Nat} {v : Value} {xs : List Value} (h : w.ownsRow base e s v n xs) (hb : Below w.heap.size w w') : w'.ownsRow base e s v n xs := by
  obtain ⟨hx, h2⟩ := h
  refine ⟨hx, ?_⟩
  rcases h2 with h2 | ⟨g, cap, cur, ee, hbs, hg, r⟩
  · exact Or.inl h2
  · exact Or.inr ⟨g, cap, cur, ee, hbs, (hb.block g (Array.getElem?_eq_some_iff.1 hg).1).trans hg, r⟩
theorem info90 : (Tryz.prog.info? 90).map (fun i => (i.zero, i.size, i.bytes)) = some (some (.agg #[.string ⟨#[]⟩, .string ⟨#[]⟩, .nilFunc]), 3, 40) := by kernel_rfl
theorem under93 : Tryz.prog.underlying 93 = some (.slice 90) := by kernel_rfl
def kelL : List Value := [.string ⟨#[107, 101, 108, 118, 105, 110]⟩, .string ⟨#[75]⟩, .func (.func 65) #[] #[]]
theorem kel_new (W : World) : ∀ j u, kelL[j]? = some u → (W.alloc (.cells #[.string ⟨#[107, 101, 108, 118, 105, 110]⟩, .string ⟨#[75]⟩, .func (.func 65) #[] #[]] 90)).cell? ((⟨W.heap.size, 0, none⟩ : Addr).add j) = some u := by
  intro j u hu
  unfold kelL at hu
  rcases j with _ | _ | _ | j <;> simp at hu
  all_goals (subst hu; simp [Addr.add, go_sem])
theorem kel_one : ∀ u ∈ kelL, u.oneCell' = true := by
  intro u hu
  unfold kelL at hu
  simp only [List.mem_cons, List.not_mem_nil, or_false] at hu
  rcases hu with rfl | rfl | rfl <;> rfl
theorem rows3_own (w : World) : (w.alloc (.cells rows3 90)).ownsRow w.heap.size 90 3 (.slice (some ⟨w.heap.size, 0, none⟩) 3 3) 3 rows3.toList :=
  ⟨rfl, Or.inr ⟨w.heap.size, 3, rows3, rfl, Nat.le_refl _, heap_alloc_new w _, Nat.le_refl _, by unfold maxLen; omega, rfl, rfl⟩⟩
theorem rows4_at {W : World} {base : Nat} {v : Value} (h : W.ownsRow base 90 3 v 4 (rows3.toList ++ kelL)) : ∃ g cap, v = .slice (some ⟨g, 0, none⟩) 4 cap ∧ g < W.heap.size ∧ ∀ k, k < 4 → R3 W g k := by
  obtain ⟨g, cap, rfl⟩ := Joins.ownsRow_form h (by decide)
  refine ⟨g, cap, rfl, (h.lt g rfl).2, fun k hk => ?_⟩
  have e : ∀ q u, (rows3.toList ++ kelL)[q]? = some u → q < 12 → W.cell? ⟨g, q, none⟩ = some u := fun q u hu hq => by
    rw [h.cellAt q (by omega), hu]
  match k, hk with
  | 0, _ => exact ⟨e 0 _ rfl (by omega), e 1 _ rfl (by omega), e 2 _ rfl (by omega)⟩
  | 1, _ => exact ⟨e 3 _ rfl (by omega), e 4 _ rfl (by omega), e 5 _ rfl (by omega)⟩
  | 2, _ => exact ⟨e 6 _ rfl (by omega), e 7 _ rfl (by omega), e 8 _ rfl (by omega)⟩
  | 3, _ => exact ⟨e 9 _ rfl (by omega), e 10 _ rfl (by omega), e 11 _ rfl (by omega)⟩
/-- What known answers. -/
def KnownR (s : ByteArray) (v : Value) (w : World) : Prop :=
  (∃ (k : Nat) (b c : Bool) (a1 a2 a3 a4 : Option Addr) (l1 c1 l2 c2 l3 c3 l4 c4 : Nat), k < 4 ∧ IsFirst (scB s) (k : Int) ∧ v = .tuple #[.agg #[.bool b, .slice a1 l1 c1, .slice a2 l2 c2, .bool c, .slice a3 l3 c3, .slice a4 l4 c4], .bool true] ∧ QOf w (.agg #[.bool b, .slice a1 l1 c1, .slice a2 l2 c2]) (fq k) 67 ∧ QOf w (.agg #[.bool c, .slice a3 l3 c3, .slice a4 l4 c4]) (oq k) 67)
  ∨ (IsFirst (scB s) (-1) ∧ v = .tuple #[.agg #[.bool false, .slice none 0 0, .slice none 0 0, .bool false, .slice none 0 0, .slice none 0 0], .bool false])
set_option maxRecDepth 100000 in
set_option maxHeartbeats 4000000 in
theorem known_any (s : ByteArray) (w : World) (htab : Tab w) : Calls Tryz.prog 41 #[.string s] w fun r w' => ∃ v, r = .returned v ∧ KnownR s v w' ∧ Below w.heap.size w w' := by
  obtain ⟨i0, hi, hz0, hz1, hz2⟩ := info_parts info90
  obtain ⟨V, hV⟩ : ∃ V, V = w.alloc (.cells #[.bool false, .slice none 0 0, .slice none 0 0, .bool false, .slice none 0 0, .slice none 0 0] 47) := ⟨_, rfl⟩
  have HZ : Hid (T6 V w.heap.size (.bool false) (.slice none 0 0) (.slice none 0 0) (.bool false) (.slice none 0 0) (.slice none 0 0)) := by rw [hV]; exact ⟨by simp [go_sem], by simp [go_sem], by simp [go_sem], by simp [go_sem], by simp [go_sem], by simp [go_sem], by simp [go_sem], by simp [go_sem], by simp [go_sem], by simp [go_sem], by simp [go_sem], by simp [go_sem]⟩
  have HB : Hid (Below w.heap.size w V) := by rw [hV]; exact (Below.refl _ _).alloc (Nat.le_refl _) _
  have HV := hide hV
  have HTW := hide htab
  clear hV htab
  have HRO := hide (rows_any V)
  go_enter Tryz.func41, Tryz.ntmps41
  go_upto_region 1 with fail
  rw [← unhide HV]
  clear HV
  go_upto_region 2 with (first
    | (go_at_call 64; go_must (refine (unhide HRO).mono ?_; rintro e w1 ⟨rfl, hw1⟩; have HO1 : Hid (w1.ownsRow V.heap.size 90 3 (.slice (some ⟨V.heap.size, 0, none⟩) 3 3) 3 rows3.toList) := (by rw [hw1]; exact rows3_own V); have HB1 : Hid (Below V.heap.size V w1) := (by rw [hw1]; exact (Below.refl _ _).alloc (Nat.le_refl _) _); clear hw1))
    | (at_builtin; refine wpList_append_own _ rfl _ _ 93 rfl V.heap.size 90 i0 (.agg #[.string ⟨#[]⟩, .string ⟨#[]⟩, .nilFunc]) 3 40 under93 hi hz0 hz1 hz2 rfl (by decide) _ 3 rows3.toList rfl (own_later (unhide HO1) ((Below.refl _ _).alloc (Nat.le_refl _) _)) ⟨w1.heap.size, 0, none⟩ 1 1 kelL rfl rfl (kel_new _) kel_one (by unfold maxLen; omega) (by omega) (by have h1 := (unhide HB1).size; simp; omega) ?_; intro v2 w2 hown hgrow hnil; obtain ⟨g, cap, rfl, hg, hr4⟩ := rows4_at hown; have HR4 := hide hr4; have HG := hide hg; have HB2 : Hid (Below V.heap.size V w2) := ((unhide HB1).alloc (unhide HB1).size _).grown hgrow (by have h1 := (unhide HB1).size; simp; omega) (fun j hj => ((unhide HO1).lt j hj).1); clear hown hgrow hnil hr4 hg)
    | (go_at_call 63; go_must (refine (find_any s g cap _ (unhide HR4) (unhide HG)).mono ?_; rintro e w3 ⟨hf, hb3⟩; have HB3 : Hid (Below V.heap.size V w3) := (unhide HB2).trans (hb3.mono (unhide HB2).size); have HFD := hide hf; clear hf hb3; rcases unhide HFD with ⟨k, hk, rfl, hfk⟩ | ⟨rfl, hfn⟩)))
  · have HFK := hide hfk
    clear hfk HFD
    obtain ⟨Y, hY⟩ : ∃ Y, Y = w3.alloc (.cells #[.string (sct k).nm, .string (sct k).sy, .func (.func (sct k).f) #[] #[]] 90) := ⟨_, rfl⟩
    have HXY : Hid (FBox Y w3.heap.size (.string (sct k).nm) (.string (sct k).sy) (.func (.func (sct k).f) #[] #[])) := by rw [hY]; exact ⟨by simp [go_sem], by simp [go_sem], by simp [go_sem], by simp [go_sem], by simp [go_sem], by simp [go_sem]⟩
    have HBY : Hid (Below V.heap.size V Y) := by rw [hY]; exact (unhide HB3).alloc (unhide HB3).size _
    rw [← hY]
    clear hY
    generalize w3.heap.size = g3 at *
    have HM := hide (made_sc k hk)
    unfold MadeS at HM
    have hen := enter_sc k hk
    have HFF := hide (fun W (ht : Tab W) => frac_f k hk W ht)
    have HFO := hide (fun W (ht : Tab W) => frac_o k hk W ht)
    have HOUT : Hid (∀ (b c : Bool) (a1 a2 a3 a4 : Option Addr) (l1 c1 l2 c2 l3 c3 l4 c4 : Nat) (W : World), QOf W (.agg #[.bool b, .slice a1 l1 c1, .slice a2 l2 c2]) (fq k) 67 → QOf W (.agg #[.bool c, .slice a3 l3 c3, .slice a4 l4 c4]) (oq k) 67 → KnownR s (.tuple #[.agg #[.bool b, .slice a1 l1 c1, .slice a2 l2 c2, .bool c, .slice a3 l3 c3, .slice a4 l4 c4], .bool true]) W) := fun b c a1 a2 a3 a4 l1 c1 l2 c2 l3 c3 l4 c4 W h1 h2 => Or.inl ⟨k, b, c, a1, a2, a3, a4, l1, c1, l2, c2, l3, c3, l4, c4, hk, unhide HFK, rfl, h1, h2⟩
    generalize (sct k).nm = nm at *
    generalize (sct k).sy = sy at *
    generalize (sct k).f = f at *
    generalize (sct k).a = na at *
    generalize (sct k).b = nb at *
    generalize (sct k).c = nc at *
    generalize (sct k).d = nd at *
    have x2 := (unhide HXY).c2
    go_upto_region 5 with (refine (unhide HM _).mono ?_; rintro e w5 ⟨rfl, hb5⟩; have HB5 : Hid (Below V.heap.size V w5) := (unhide HBY).trans (hb5.mono (unhide HBY).size); clear hb5 x2)
    obtain ⟨U, hU⟩ : ∃ U, U = w5.alloc (.cells #[.int .i64 (na : Int), .int .i64 (nb : Int), .int .i64 (nc : Int), .int .i64 (nd : Int)] 98) := ⟨_, rfl⟩
    have HU4 : Hid (T4 U w5.heap.size (.int .i64 (na : Int)) (.int .i64 (nb : Int)) (.int .i64 (nc : Int)) (.int .i64 (nd : Int))) := by rw [hU]; exact ⟨by simp [go_sem], by simp [go_sem], by simp [go_sem], by simp [go_sem], by simp [go_sem], by simp [go_sem], by simp [go_sem], by simp [go_sem]⟩
    have HBU : Hid (Below V.heap.size V U) := by rw [hU]; exact (unhide HB5).alloc (unhide HB5).size _
    rw [← hU]
    clear hU
    generalize w5.heap.size = g6 at *
    have HZU := hide ((unhide HZ).later (unhide HBU))
    have HBW : Hid (Below w.heap.size w U) := (unhide HB).trans ((unhide HBU).mono (unhide HB).size)
    have HTD : Hid (∀ W, Below U.heap.size U W → Tab W) := fun W hb => (unhide HTW).later ((unhide HBW).trans (hb.mono (unhide HBW).size))
    have HSS : Hid (∀ W, Below U.heap.size U W → W.cell? ⟨g6, 0, none⟩ = some (.int .i64 (na : Int)) ∧ W.cell? ⟨g6, 1, none⟩ = some (.int .i64 (nb : Int)) ∧ W.cell? ⟨g6, 2, none⟩ = some (.int .i64 (nc : Int)) ∧ W.cell? ⟨g6, 3, none⟩ = some (.int .i64 (nd : Int))) := fun W hb => by
      have h1 := (unhide HU4).later hb
      exact ⟨h1.c0, h1.c1, h1.c2, h1.c3⟩
    have HS0 := hide (unhide HSS U.drew ((Below.refl _ _).drew))
    refine region_reads 7 (fun W => W.cell? ⟨g6, 0, none⟩ = some (.int .i64 (na : Int)) ∧ W.cell? ⟨g6, 1, none⟩ = some (.int .i64 (nb : Int)) ∧ W.cell? ⟨g6, 2, none⟩ = some (.int .i64 (nc : Int)) ∧ W.cell? ⟨g6, 3, none⟩ = some (.int .i64 (nd : Int))) (fun _ => True) 9 rfl (by kernel_rfl) ?_
    refine wpR_take (i := 0) (oi := _) (v := .pointer (some ⟨g6, 0, none⟩)) rfl (by kernel_rfl) (by kernel_rfl) (by kernel_rfl) (by kernel_rfl) (fun _ _ _ h => h) (Or.inl ⟨by rfl, ?_⟩) ⟨unhide HS0, trivial⟩ ?_
    · intro W hW
      go_split_ands
      go_simp
    refine wpR_take (i := 1) (oi := _) (v := .agg #[.int .i64 (na : Int), .int .i64 (nb : Int)]) rfl (by kernel_rfl) (by kernel_rfl) (by kernel_rfl) (by kernel_rfl) (fun _ _ _ h => h) (Or.inl ⟨by rfl, ?_⟩) ⟨unhide HS0, trivial⟩ ?_
    · intro W hW
      go_split_ands
      go_simp
    refine wpR_take (i := 3) (oi := _) (v := .pointer (some ⟨g6, 2, none⟩)) rfl (by kernel_rfl) (by kernel_rfl) (by kernel_rfl) (by kernel_rfl) (fun _ _ _ h => h) (Or.inl ⟨by rfl, ?_⟩) ⟨unhide HS0, trivial⟩ ?_
    · intro W hW
      go_split_ands
      go_simp
    refine wpR_take (i := 4) (oi := _) (v := .agg #[.int .i64 (nc : Int), .int .i64 (nd : Int)]) rfl (by kernel_rfl) (by kernel_rfl) (by kernel_rfl) (by kernel_rfl) (fun _ _ _ h => h) (Or.inl ⟨by rfl, ?_⟩) ⟨unhide HS0, trivial⟩ ?_
    · intro W hW
      go_split_ands
      go_simp
    refine wpR_op (i := 2) (o := _) (by kernel_rfl) rfl rfl (fun K hK => ?_)
    go_simp
    refine (unhide HFF _ (unhide HTD _ ((Below.refl _ _).drew))).mono ?_
    rintro e wa ⟨va, rfl, hva, hba⟩
    obtain ⟨b, a1, l1, c1, a2, l2, c2, rfl⟩ := hva.form
    have HBA : Hid (Below U.heap.size U wa) := (Below.refl _ _).drew.trans (hba.mono (Below.refl U.heap.size U).drew.size)
    have HSA := hide (unhide HSS wa (unhide HBA))
    have HVA := hide hva
    clear hba hva
    refine hK _ _ ⟨unhide HSA, trivial⟩ ?_
    clear hK K
    refine wpR_op (i := 5) (o := _) (by kernel_rfl) rfl rfl (fun K hK => ?_)
    go_simp
    refine (unhide HFO _ (unhide HTD _ (unhide HBA))).mono ?_
    rintro e wc ⟨vc, rfl, hvc, hbc⟩
    obtain ⟨c, a3, l3, c3, a4, l4, c4, rfl⟩ := hvc.form
    have HBC : Hid (Below U.heap.size U wc) := (unhide HBA).trans (hbc.mono (unhide HBA).size)
    have HSC := hide (unhide HSS wc (unhide HBC))
    have HVC := hide hvc
    have HVA2 := hide ((unhide HVA).later hbc)
    have HZC := hide ((unhide HZU).later (unhide HBC))
    clear hbc hvc
    have z0 := (unhide HZC).c0; have z1 := (unhide HZC).c1; have z2 := (unhide HZC).c2; have z3 := (unhide HZC).c3; have z4 := (unhide HZC).c4; have z5 := (unhide HZC).c5; have f0 := (unhide HZC).f0; have f1 := (unhide HZC).f1; have f2 := (unhide HZC).f2; have f3 := (unhide HZC).f3; have f4 := (unhide HZC).f4; have f5 := (unhide HZC).f5
    refine hK _ _ ⟨unhide HSC, trivial⟩ ?_
    clear hK K
    refine wpR_op (i := 6) (o := _) (by kernel_rfl) rfl rfl (fun K hK => ?_)
    go_simp
    refine hK _ _ ⟨unhide HSC, trivial⟩ ?_
    clear hK K
    refine wpR_late (i := 7) (o := _) (by kernel_rfl) rfl rfl (by kernel_rfl) (fun K hK => ?_)
    go_simp
    refine hK _ _ trivial ?_
    clear hK K
    refine wpR_late (i := 8) (o := _) (by kernel_rfl) rfl rfl (by kernel_rfl) (fun K hK => ?_)
    go_simp
    refine hK _ _ trivial ?_
    clear hK K
    refine wpR_done (by kernel_rfl) ?_
    go_wp2_with fail
    have hS := (unhide HZC).store (.bool b) (.slice a1 l1 c1) (.slice a2 l2 c2) (.bool c) (.slice a3 l3 c3) (.slice a4 l4 c4)
    have v0 := hS.c0; have v1 := hS.c1; have v2 := hS.c2; have v3 := hS.c3; have v4 := hS.c4; have v5 := hS.c5
    exact bodyPost_ret (v := .tuple #[.agg #[.bool b, .slice a1 l1 c1, .slice a2 l2 c2, .bool c, .slice a3 l3 c3, .slice a4 l4 c4], .bool true]) (w := store6 wc w.heap.size (.bool b) (.slice a1 l1 c1) (.slice a2 l2 c2) (.bool c) (.slice a3 l3 c3) (.slice a4 l4 c4)) (by simp [results, Tryz.results41, go_sem, v0, v1, v2, v3, v4, v5]) rfl ⟨_, rfl, unhide HOUT b c a1 a2 a3 a4 l1 c1 l2 c2 l3 c3 l4 c4 _ ((unhide HVA2).six (unhide HZC) _ _ _ _ _ _) ((unhide HVC).six (unhide HZC) _ _ _ _ _ _), below_store6 ((unhide HBW).trans ((unhide HBC).mono (unhide HBW).size)) (Nat.le_refl _) _ _ _ _ _ _⟩
  · have HFN := hide hfn
    clear hfn HFD
    obtain ⟨Y, hY⟩ : ∃ Y, Y = w3.alloc (.cells #[.string ⟨#[]⟩, .string ⟨#[]⟩, .nilFunc] 90) := ⟨_, rfl⟩
    have HBY : Hid (Below V.heap.size V Y) := by rw [hY]; exact (unhide HB3).alloc (unhide HB3).size _
    rw [← hY]
    clear hY
    generalize w3.heap.size = g3 at *
    have HZY := hide ((unhide HZ).later (unhide HBY))
    have z0 := (unhide HZY).c0; have z1 := (unhide HZY).c1; have z2 := (unhide HZY).c2; have z3 := (unhide HZY).c3; have z4 := (unhide HZY).c4; have z5 := (unhide HZY).c5; have f0 := (unhide HZY).f0; have f1 := (unhide HZY).f1; have f2 := (unhide HZY).f2; have f3 := (unhide HZY).f3; have f4 := (unhide HZY).f4; have f5 := (unhide HZY).f5
    go_wp2_with fail
    have hS := (unhide HZY).store (.bool false) (.slice none 0 0) (.slice none 0 0) (.bool false) (.slice none 0 0) (.slice none 0 0)
    have v0 := hS.c0; have v1 := hS.c1; have v2 := hS.c2; have v3 := hS.c3; have v4 := hS.c4; have v5 := hS.c5
    exact bodyPost_ret (v := .tuple #[.agg #[.bool false, .slice none 0 0, .slice none 0 0, .bool false, .slice none 0 0, .slice none 0 0], .bool false]) (w := store6 Y w.heap.size (.bool false) (.slice none 0 0) (.slice none 0 0) (.bool false) (.slice none 0 0) (.slice none 0 0)) (by simp [results, Tryz.results41, go_sem, v0, v1, v2, v3, v4, v5]) rfl ⟨_, rfl, Or.inr ⟨unhide HFN, rfl⟩, below_store6 ((unhide HB).trans ((unhide HBY).mono (unhide HB).size)) (Nat.le_refl _) _ _ _ _ _ _⟩
end Go.Proofs.YtimihoonnglniaaGreatDoor

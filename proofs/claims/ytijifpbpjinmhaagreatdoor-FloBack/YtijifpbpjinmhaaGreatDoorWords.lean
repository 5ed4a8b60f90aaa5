/- flo: NaN (48), Inf (49), words (33): a map that is made at each call. -/
import Derived.Test.YtijifpbpjinmhaaGreatDoorFloor
import Derived.RangeFuncNested
import Derived.RangeFuncBound
import Derived.RangeFuncCalls
import Derived.RangeFuncLeaves
import Derived.RangeFuncFrom
import Derived.Shelf.Abstract
import Derived.Shelf.RegionOpen
import Derived.OwnWalkIn
import Derived.TacticsInMore
import Derived.LoopNIn
import Derived.LoopIn
import Derived.Laws.EntriesVeiled
import Derived.Test.YtijifpbpjinmhaaGreatDoorTell
import Derived.Test.YtijifpbpjinmhaaGreatDoorGuess
import Derived.Test.YtijifpbpjinmhaaGreatDoorCut
import Derived.Test.YtijifpbpjinmhaaGreatDoorBigOf
import Derived.Test.YtijifpbpjinmhaaGreatDoorText
import Derived.Lib.ItoaLen
import Derived.Test.YtijifpbpjinmhaaGreatDoorGcdMath
import Derived.Test.YtijifpbpjinmhaaGreatDoorSt
import Derived.Deep.RegionHeldLaw
import Derived.Test.YtijifpbpjinmhaaGreatDoorAdd
import Derived.OneCell
import Derived.Deep.QuietTactic
import Derived.BigQuiet
import Derived.WalkSmall
import Derived.Deep.Cut
import Derived.Test.YtijifpbpjinmhaaGreatDoorOrd
import Derived.Maps.OwnSet
import Derived.Maps.RangeWalk
set_option maxHeartbeats 8000000
set_option maxRecDepth 100000
namespace Go.Proofs.YtijifpbpjinmhaaGreatDoor
open Go.RowKit Go.Shelf
theorem OwnU.kept {A B : World} {g ty : Nat} {vs : Array Value} {row : Option Nat} (h : OwnU A g ty vs) (hg : A.grownBy B row) (hr : ∀ r, row = some r → ∃ o : Obj, A.heap[r]? = some o ∧ o.isCells = false) : OwnU B g ty vs := by
  refine (hg.block g h.lt (fun e => ?_)).trans h
  obtain ⟨o, h1, h2⟩ := hr g (by first | exact e | exact e.symm)
  unfold OwnU at h
  rw [h] at h1
  cases h1
  cases h2
def P1074 : Nat := 2 ^ 1074
theorem P_is : 2 ^ 1074 = P1074 := by delta P1074; exact Eq.refl _
def szN (f : Nat) : Nat × Nat := if f = 4591870180066957721 then (7205759403792793 * 1, 1 * 2 ^ 56) else if f = 4591870180066957722 then (7205759403792794 * 1, 1 * 2 ^ 56) else (0 * 1, 1 * P1074)
def dN (f : Nat) : Nat := if 1 * (szN f).2 < (szN f).1 * 10 then (szN f).1 * 10 - 1 * (szN f).2 else 1 * (szN f).2 - (szN f).1 * 10
def cOf (f g : Nat) : Int := Cub.cmpN (dN f * (szN g).2) (dN g * (szN f).2)
def bestStep (g f : Nat) : Nat := if nearO (cOf f g) f then f else g
def F3 (f : Nat) : Prop := f = 0 ∨ f = 4591870180066957721 ∨ f = 4591870180066957722
theorem size_any (f : Nat) (h : F3 f) : SizeAns f (szN f).1 (szN f).2 := by
  rcases h with rfl | rfl | rfl
  · exact sizeZ P1074 P_is (by decide +kernel)
  · exact size_lo
  · exact size_hi
theorem sz_lt (f : Nat) (h : F3 f) : (szN f).1 < 1000000000 ^ 50 ∧ (szN f).2 < 1000000000 ^ 50 := by
  rcases h with rfl | rfl | rfl <;> decide +kernel
theorem dN_lt (f : Nat) (h : F3 f) : dN f < 1000000000 ^ 100 ∧ (szN f).2 < 1000000000 ^ 100 := by
  rcases h with rfl | rfl | rfl <;> decide +kernel
theorem cmp3 (m n : Nat) : Cub.cmpN m n = -1 ∨ Cub.cmpN m n = 0 ∨ Cub.cmpN m n = 1 := by unfold Cub.cmpN; split <;> (try split) <;> simp
theorem away3 (a1 : Option Addr) (l1 c1 : Nat) (a2 : Option Addr) (l2 c2 f : Nat) (w : World) (hf : F3 f) (hp : IsBig w (.agg #[.slice a1 l1 c1]) 1) (hq : IsBig w (.agg #[.slice a2 l2 c2]) 10) :
    Calls Tryz.prog 126 #[.agg #[.slice a1 l1 c1, .slice a2 l2 c2], .float .f64 f] w fun e w' => ∃ v, e = .returned v ∧ IsSz w' v (dN f) (szN f).2 ∧ Below w.heap.size w w' :=
  away_any a1 l1 c1 a2 l2 c2 1 10 (szN f).1 (szN f).2 50 f w hp hq (size_any f hf) (by decide) ⟨by decide +kernel, by decide +kernel, (sz_lt f hf).1, (sz_lt f hf).2⟩
theorem nearer3 (a1 : Option Addr) (l1 c1 : Nat) (a2 : Option Addr) (l2 c2 f g gx : Nat) (w : World) (hf : F3 f) (hg : F3 g) (hx : OwnU w gx 54 #[.slice a1 l1 c1, .slice a2 l2 c2]) (hp : IsBig w (.agg #[.slice a1 l1 c1]) 1) (hq : IsBig w (.agg #[.slice a2 l2 c2]) 10) :
    Calls Tryz.prog 125 #[.float .f64 f, .float .f64 g, .pointer (some ⟨gx, 0, none⟩)] w fun e w' => e = .returned (.bool (nearO (cOf f g) f)) ∧ Below w.heap.size w w' :=
  nearer_any a1 l1 c1 a2 l2 c2 1 10 (dN f) (szN f).2 (dN g) (szN g).2 100 f g gx (cOf f g) w hx hp hq (fun W hb => away3 _ _ _ _ _ _ f W hf (hp.later hb) (hq.later hb)) (fun W hb => away3 _ _ _ _ _ _ g W hg (hp.later hb) (hq.later hb)) (by decide) ⟨(dN_lt f hf).1, (dN_lt f hf).2, (dN_lt g hg).1, (dN_lt g hg).2⟩ rfl (cmp3 _ _)
abbrev LH := { x : Nat // x = 4591870180066957721 ∨ x = 4591870180066957722 }
def lo : LH := ⟨4591870180066957721, Or.inl rfl⟩
def hi : LH := ⟨4591870180066957722, Or.inr rfl⟩
def bestOf (l : List LH) : Nat := l.foldl (fun g x => bestStep g x.1) 0
theorem bestOf_snoc (l : List LH) (x : LH) : bestOf (l ++ [x]) = bestStep (bestOf l) x.1 := by simp [bestOf]
theorem LH.f3 (x : LH) : F3 x.1 := by rcases x.2 with h | h <;> simp [F3, h]
theorem bestStep_f3 (g : Nat) (x : LH) (h : F3 g) : F3 (bestStep g x.1) := by
  unfold bestStep
  split
  · exact x.f3
  · exact h
theorem bestOf_f3 (l : List LH) : F3 (bestOf l) := by
  suffices h : ∀ (l : List LH) (g : Nat), F3 g → F3 (l.foldl (fun g x => bestStep g x.1) g) from h l 0 (Or.inl rfl)
  intro l
  induction l with
  | nil => exact fun g h => h
  | cons x t ih => exact fun g h => ih _ (bestStep_f3 g x h)
attribute [local go_sem] Oper.semAt_some
theorem around_any (a1 : Option Addr) (l1 c1 : Nat) (a2 : Option Addr) (l2 c2 : Nat) (w : World) : Calls Tryz.prog 127 #[.agg #[.slice a1 l1 c1, .slice a2 l2 c2]] w fun e w' => e = .returned (.func (.func 173) #[] #[.pointer (some ⟨w.heap.size, 0, none⟩)]) ∧ w' = w.alloc (.cells #[.slice a1 l1 c1, .slice a2 l2 c2] 54) := by
  go_enter Tryz.func127, Tryz.ntmps127
  go_wp2
  go_ret
  exact ⟨rfl, rfl⟩
theorem next_lo (w : World) : Calls Tryz.prog 22 #[.float .f64 4591870180066957721, .bool true] w fun e w' => e = .returned (.float .f64 4591870180066957722) ∧ w' = w := by
  have := next_any 4591870180066957721 true (by decide) w
  rwa [show nextF 4591870180066957721 true = 4591870180066957722 by decide +kernel] at this
theorem grown_of {w w' : World} (h : Below w.heap.size w w') : w.grownBy w' none := by
  first | exact ⟨h.os, h.tape, h.output, h.size, fun k hk _ => h.block k hk⟩ | skip
theorem around1_stops (n₀ b : Nat) (a1 : Option Addr) (l1 c1 : Nat) (a2 : Option Addr) (l2 c2 : Nat) (w : World) (ho : OwnU w b 54 #[.slice a1 l1 c1, .slice a2 l2 c2]) (hp : IsBig w (.agg #[.slice a1 l1 c1]) 1) (hq : IsBig w (.agg #[.slice a2 l2 c2]) 10) (htab : Tab w) :
    SeqStopsK Fence.wide 2 Tryz.prog 173 #[.pointer (some ⟨b, 0, none⟩)] (fun x : LH => #[.float .f64 x.1]) (Below n₀) (fun xs => xs = [lo, hi]) (fun _ => True) 2 w := fun l J Jx W hW hJ hJx hY h0 => by
  have HFL := hide (floor_tenth a1 l1 c1 a2 l2 c2 W (hp.later hW) (hq.later hW) (htab.later hW))
  have u0 : W.cell? ⟨b, 0, none⟩ = some (.slice a1 l1 c1) := (ho.later hW).ub.c 0 _ rfl
  have u1 : W.cell? ⟨b, 1, none⟩ = some (.slice a2 l2 c2) := (ho.later hW).ub.c 1 _ rfl
  have hlt : (FloatKind.f64.format.order 4591870180066957721 9218868437227405311 == some Ordering.lt) = true := by decide +kernel
  clear ho hp hq htab
  refine callsIn_of_wp Tryz.func173 rfl trivial ?_ rfl
  simp only [Tryz.ntmps173, List.size_toArray, List.length_cons, List.length_nil, Nat.reduceAdd, Nat.reduceSub, Array.replicate_succ, Array.replicate_zero, List.push_toArray, List.append_toArray, List.nil_append, List.cons_append]
  gi_wp2_with (refine ⟨trivial, ?_⟩; gi_at_call 174; refine (callsIn_wide.2 (unhide HFL)).mono ?_; rintro e W1 ⟨rfl, hb⟩; have h01 : J [] W1 := hJ _ _ _ none h0 (grown_of hb) (fun r e => by cases e); clear u0 u1 hb; obtain ⟨f1, t1, as1, b1, hy1, hR1⟩ := hY [] lo W1 h01 (by simp); dsimp only [lo] at hy1)
  refine hR1.mono ?_
  rintro e W2 (⟨rfl, hJ2, _⟩ | ⟨rfl, hx2⟩)
  · gi_wp2_with (refine ⟨trivial, ?_⟩; gi_at_call 22; refine (callsIn_wide.2 (next_lo _)).mono ?_; rintro e W3 ⟨rfl, rfl⟩; obtain ⟨f2, t2, as2, b2, hy2, hR2⟩ := hY [lo] hi _ hJ2 (by simp); dsimp only [hi] at hy2)
    refine hR2.mono ?_
    rintro e W4 (⟨rfl, hJ4, _⟩ | ⟨rfl, hx4⟩)
    · gi_wp2
      go_end0
      exact ⟨⟨_, rfl⟩, .inl ⟨[lo, hi], rfl, hJ4⟩⟩
    · gi_wp2
      go_end0
      exact ⟨⟨_, rfl⟩, .inr ⟨[lo, hi], trivial, hx4⟩⟩
  · gi_wp2
    go_end0
    exact ⟨⟨_, rfl⟩, .inr ⟨[lo], trivial, hx2⟩⟩
end Go.Proofs.YtijifpbpjinmhaaGreatDoor
namespace Go.Proofs.YtijifpbpjinmhaaGreatDoor
open Go.RowKit Go.Shelf
theorem run_store_float (P : Program) (w : World) (a : Addr) (m : Mode) (k : FloatKind) (b : Nat) : (store a (.float k b) m).run P w = stored P w a (.float k b) m := run_store P w a _ m rfl
attribute [local go_sem] Oper.semAt_some run_store_float
theorem best_all : bestOf [lo, hi] = 4591870180066957722 := by decide +kernel
theorem keeps_below {W W' : World} (h : Below W.heap.size W W') : KeepsOthers W W' := ⟨h.size, fun k _ hk _ => (h.block k (Array.getElem?_eq_some_iff.1 hk).1).trans hk⟩
theorem nearest_tenth (a1 : Option Addr) (l1 c1 : Nat) (a2 : Option Addr) (l2 c2 : Nat) (w : World) (hp : IsBig w (.agg #[.slice a1 l1 c1]) 1) (hq : IsBig w (.agg #[.slice a2 l2 c2]) 10) (htab : Tab w) :
    Calls Tryz.prog 76 #[.agg #[.slice a1 l1 c1, .slice a2 l2 c2]] w fun e w' => e = .returned (.float .f64 4591870180066957722) ∧ Below w.heap.size w w' := by
  refine (callsIn_wide (n := 3)).1 ?_
  refine callsIn_of_wp_marks Tryz.func76 rfl trivial ?_ rfl
  simp only [Tryz.ntmps76, List.size_toArray, List.length_cons, List.length_nil, Nat.reduceAdd, Nat.reduceSub, Array.replicate_succ, Array.replicate_zero, List.push_toArray, List.append_toArray, List.nil_append, List.cons_append]
  gi_wp2_with (refine ⟨trivial, ?_⟩; gi_at_call 127; refine (callsIn_wide.2 (around_any _ _ _ _ _ _ _)).mono ?_; rintro e w' ⟨rfl, rfl⟩)
  obtain ⟨V, hV⟩ : ∃ V, V = (((w.alloc (.cells #[.slice a1 l1 c1, .slice a2 l2 c2] 54)).alloc (.cells #[.func (.func 125) #[] #[.pointer (some ⟨w.heap.size, 0, none⟩)]] 28)).alloc (.cells #[.float .f64 0] 24)).alloc (.cells #[.slice a1 l1 c1, .slice a2 l2 c2] 54) := ⟨_, rfl⟩
  have hS : St w [(w.heap.size + 1 + 1 + 1, 54, #[.slice a1 l1 c1, .slice a2 l2 c2]), (w.heap.size + 1 + 1, 24, #[.float .f64 0]), (w.heap.size + 1, 28, #[.func (.func 125) #[] #[.pointer (some ⟨w.heap.size, 0, none⟩)]]), (w.heap.size, 54, #[.slice a1 l1 c1, .slice a2 l2 c2])] [] V := by
    rw [hV]
    have h := ((((St.nil (Below.refl _ w)).new #[.slice a1 l1 c1, .slice a2 l2 c2] 54).new #[.func (.func 125) #[] #[.pointer (some ⟨w.heap.size, 0, none⟩)]] 28).new #[.float .f64 0] 24).new #[.slice a1 l1 c1, .slice a2 l2 c2] 54
    simp only [World.size_alloc] at h
    exact h
  have hsz : V.heap.size = w.heap.size + 4 := by rw [hV]; simp
  have HP : Hid (∀ W, Below w.heap.size w W → IsBig W (.agg #[.slice a1 l1 c1]) 1 ∧ IsBig W (.agg #[.slice a2 l2 c2]) 10) := fun W hb => ⟨hp.later hb, hq.later hb⟩
  have HSQ := hide (around1_stops w.heap.size (w.heap.size + 1 + 1 + 1) a1 l1 c1 a2 l2 c2 V (hS.at 0 rfl) (hp.later hS.below) (hq.later hS.below) (htab.later hS.below))
  have HS := hide hS
  rw [← hV]
  clear hp hq htab hS hV
  refine wpIn_rangeFunc_ownF rfl (by decide) (gf := 173) (lb := #[.pointer (some ⟨w.heap.size + 1 + 1 + 1, 0, none⟩)]) rfl trivial (enters_of Tryz.func173 (by kernel_rfl) rfl) (unhide HSQ) belowK_t (belowK_b (by omega)) (Below.refl _ _) (fun _ => rfl)
    (fun pre W => (OwnU W w.heap.size 54 #[.slice a1 l1 c1, .slice a2 l2 c2] ∧ OwnU W (w.heap.size + 1) 28 #[.func (.func 125) #[] #[.pointer (some ⟨w.heap.size, 0, none⟩)]] ∧ OwnU W (w.heap.size + 1 + 1) 24 #[.float .f64 (bestOf pre)]) ∧ Below w.heap.size w W)
    (fun _ _ _ => False)
    (OwnFrom.and (Own.from (fun s A B row hs hg hr => ⟨hs.1.kept hg hr, hs.2.1.kept hg hr, hs.2.2.kept hg hr⟩) _) (ownFrom_below (Nat.le_refl _) (by omega)))
    (fun _ _ _ _ _ hs _ _ => hs)
    ⟨⟨(unhide HS).at 3 rfl, (unhide HS).at 2 rfl, (unhide HS).at 1 rfl⟩, (unhide HS).below⟩
    (fun x => { tmps := #[.agg #[.slice a1 l1 c1, .slice a2 l2 c2], .pointer (some ⟨w.heap.size, 0, none⟩), .float .f64 0, .pointer (some ⟨w.heap.size + 1, 0, none⟩), .pointer (some ⟨w.heap.size + 1 + 1, 0, none⟩), .float .f64 x.1, .func (.func 125) #[] #[.pointer (some ⟨w.heap.size, 0, none⟩)], .agg #[.slice a1 l1 c1, .slice a2 l2 c2], .func (.func 173) #[] #[.pointer (some ⟨w.heap.size + 1 + 1 + 1, 0, none⟩)], .float .f64 x.1, undef, undef, undef, undef, undef, undef], defers := [] }) ?assign ?body ?done ?stop
  case assign =>
    intro l x W K hK
    gi_wp2
    exact hK
  case body =>
    rintro l pre x W ⟨⟨h1, h2, h3⟩, hB⟩ _
    have u0 := h2.ub.c 0 _ rfl
    have u1 := h3.ub.c 0 _ rfl
    have u2 := h3.ub.f 0 _ rfl
    have HN := hide (nearer3 a1 l1 c1 a2 l2 c2 x.1 (bestOf pre) w.heap.size W x.f3 (bestOf_f3 pre) h1 (unhide HP W hB).1 (unhide HP W hB).2)
    have HB := hide hB
    have HO := hide (And.intro h1 (And.intro h2 h3))
    have HE : Hid (∀ b, nearO (cOf x.1 (bestOf pre)) x.1 = b → bestOf (pre ++ [x]) = if b then x.1 else bestOf pre) := fun b hb => by rw [bestOf_snoc]; unfold bestStep; rw [hb]
    generalize nearO (cOf x.1 (bestOf pre)) x.1 = nb at *
    clear h1 h2 h3 hB
    cases nb
    · gi_wp2_with (refine ⟨trivial, ?_⟩; gi_at_call 125; refine (CallsIn.inRound l (callsIn_wide.2 (unhide HN))).mono ?_; rintro e W2 ⟨rfl, hb⟩; have HO2 := hide (And.intro ((unhide HO).1.later hb) (And.intro ((unhide HO).2.1.later hb) ((unhide HO).2.2.later hb))); have HB2 : Hid (Below w.heap.size w W2) := (unhide HB).trans (hb.mono (unhide HB).size); have HK2 : Hid (KeepsOthers W W2 ∧ Below w.heap.size W W2) := ⟨keeps_below hb, hb.mono (unhide HB).size⟩; clear u0 u1 u2 hb; have u1 := (unhide HO2).2.2.ub.c 0 _ rfl; have u2 := (unhide HO2).2.2.ub.f 0 _ rfl)
      have e : bestOf (pre ++ [x]) = bestOf pre := unhide HE false rfl
      refine ⟨(unhide HK2).1, (unhide HK2).2, ⟨(unhide HO2).1, (unhide HO2).2.1, ?_⟩, unhide HB2⟩
      rw [e]
      exact (unhide HO2).2.2
    · gi_wp2_with (refine ⟨trivial, ?_⟩; gi_at_call 125; refine (CallsIn.inRound l (callsIn_wide.2 (unhide HN))).mono ?_; rintro e W2 ⟨rfl, hb⟩; have HO2 := hide (And.intro ((unhide HO).1.later hb) (And.intro ((unhide HO).2.1.later hb) ((unhide HO).2.2.later hb))); have HB2 : Hid (Below w.heap.size w W2) := (unhide HB).trans (hb.mono (unhide HB).size); have HK2 : Hid (KeepsOthers W W2 ∧ Below w.heap.size W W2) := ⟨keeps_below hb, hb.mono (unhide HB).size⟩; clear u0 u1 u2 hb; have u1 := (unhide HO2).2.2.ub.c 0 _ rfl; have u2 := (unhide HO2).2.2.ub.f 0 _ rfl)
      have e : bestOf (pre ++ [x]) = x.1 := unhide HE true rfl
      refine ⟨(unhide HK2).1.trans (KeepsOthers.setCell _ _ _), (unhide HK2).2.setCell (p := ⟨w.heap.size + 1 + 1, 0, none⟩) (by show w.heap.size ≤ w.heap.size + 1 + 1; omega) _, ⟨?_, ?_, ?_⟩, (unhide HB2).setCell (p := ⟨w.heap.size + 1 + 1, 0, none⟩) (by show w.heap.size ≤ w.heap.size + 1 + 1; omega) _⟩
      all_goals rw [(unhide HO2).2.2.set1]
      · exact (unhide HO2).1.other (by omega) _
      · exact (unhide HO2).2.1.other (by omega) _
      · rw [e]; exact (unhide HO2).2.2.setRow _
  case done =>
    rintro D ys W hD rfl ⟨⟨_, _, h3⟩, hB⟩ hK
    have u1 := h3.ub.c 0 _ rfl
    rw [best_all] at u1
    gi_wp2
    refine ⟨by simp, .inl ⟨_, _, rfl, run_takeDeferred hK, ?_⟩⟩
    exact ⟨_, results_tmp rfl _ _ _, rfl, hB.trans (belowK_b (w := w) (Nat.le_refl _) W D _ _ (by omega) hK rfl rfl)⟩
  case stop =>
    rintro D c pre W _ _ h _
    exact h.elim
end Go.Proofs.YtijifpbpjinmhaaGreatDoor
namespace Go.Proofs.YtijifpbpjinmhaaGreatDoor
open Go.RowKit
def P970 : Nat := 2 ^ 970
theorem P970_is : 2 ^ 970 = P970 := by delta P970; exact Eq.refl _
theorem read_tenth (w : World) : Calls Tryz.prog 71 #[.agg #[.string ⟨#[49]⟩, .string ⟨#[49, 48]⟩]] w fun r w' => ∃ b a1 l1 c1 a2 l2 c2, r = .returned (.tuple #[.agg #[.bool b, .slice a1 l1 c1, .slice a2 l2 c2], .bool true]) ∧ Below w.heap.size w w' := by
  refine (read_ok ⟨#[49]⟩ ⟨#[49, 48]⟩ false 1 10 w (by decide +kernel) (by decide +kernel) (by decide +kernel) (by decide +kernel) (by decide) (by decide) (by decide)).mono ?_
  rintro e w' ⟨v, rfl, hv, hb⟩
  obtain ⟨b, a1, l1, c1, a2, l2, c2, rfl⟩ := hv.form
  exact ⟨_, _, _, _, _, _, _, rfl, hb⟩
theorem right_tenth (w : World) : Calls Tryz.prog 29 #[.agg #[.string ⟨#[49]⟩, .string ⟨#[49, 48]⟩]] w fun r w' => r = .returned (.bool true) ∧ Below w.heap.size w w' := by
  obtain ⟨V, hV⟩ : ∃ V, V = w.alloc (.cells #[.string ⟨#[49]⟩, .string ⟨#[49, 48]⟩] 23) := ⟨_, rfl⟩
  have HN : Hid (OwnU V w.heap.size 23 #[.string ⟨#[49]⟩, .string ⟨#[49, 48]⟩]) := by rw [hV]; exact OwnU.new _ _ _
  have HB : Hid (Below w.heap.size w V) := by rw [hV]; exact (Below.refl _ _).alloc (Nat.le_refl _) _
  have HV := hide hV
  clear hV
  go_enter Tryz.func29, Tryz.ntmps29
  go_upto_region 1 with fail
  rw [← unhide HV]
  clear HV
  have t0 : V.cell? ⟨w.heap.size, 0, none⟩ = some (.string ⟨#[49]⟩) := (unhide HN).ub.c 0 _ rfl
  have t1 : V.cell? ⟨w.heap.size, 1, none⟩ = some (.string ⟨#[49, 48]⟩) := (unhide HN).ub.c 1 _ rfl
  go_upto_region 2 with (go_at_call 71; go_must (refine (read_tenth _).mono ?_; rintro e w1 ⟨bz, az, lz, cz, dz, mz, ez, rfl, hb1⟩; have HB1 := hide ((unhide HB).trans (hb1.mono (unhide HB).size)); clear hb1 t0 t1))
  go_wp2_with fail
  go_ret
  exact ⟨rfl, (unhide HB1).alloc (unhide HB1).size _⟩
theorem big_one (w : World) : Calls Tryz.prog 32 #[.string ⟨#[49]⟩] w fun e w' => ∃ a l c, e = .returned (.agg #[.slice a l c]) ∧ IsBig w' (.agg #[.slice a l c]) 1 ∧ Below w.heap.size w w' := by
  refine (bigText_any ⟨#[49]⟩ w (by decide) (by unfold Cub.digs; decide)).mono ?_
  rintro e w' ⟨v, rfl, hv, hb⟩
  obtain ⟨a, n, c, rfl⟩ := hv.shape
  rw [show Cub.dval (⟨#[49]⟩ : ByteArray).data.toList = 1 by decide] at hv
  exact ⟨a, n, c, rfl, hv, hb⟩
theorem big_ten (w : World) : Calls Tryz.prog 32 #[.string ⟨#[49, 48]⟩] w fun e w' => ∃ a l c, e = .returned (.agg #[.slice a l c]) ∧ IsBig w' (.agg #[.slice a l c]) 10 ∧ Below w.heap.size w w' := by
  refine (bigText_any ⟨#[49, 48]⟩ w (by decide) (by unfold Cub.digs; decide)).mono ?_
  rintro e w' ⟨v, rfl, hv, hb⟩
  obtain ⟨a, n, c, rfl⟩ := hv.shape
  rw [show Cub.dval (⟨#[49, 48]⟩ : ByteArray).data.toList = 10 by decide] at hv
  exact ⟨a, n, c, rfl, hv, hb⟩
theorem nearestTo_tenth (a1 : Option Addr) (l1 c1 : Nat) (a2 : Option Addr) (l2 c2 : Nat) (w : World) (hp : IsBig w (.agg #[.slice a1 l1 c1]) 1) (hq : IsBig w (.agg #[.slice a2 l2 c2]) 10) (htab : Tab w) :
    Calls Tryz.prog 31 #[.bool false, .agg #[.slice a1 l1 c1, .slice a2 l2 c2]] w fun e w' => e = .returned (.tuple #[.float .f64 4591870180066957722, .int .i64 0]) ∧ Below w.heap.size w w' := by
  have hta : ∀ W, Below w.heap.size w W → Tab W := fun W hb => htab.later hb
  have HTAB := hide hta
  have hlim : (1 : Nat) < 1000000000 ^ 50 ∧ 18014398509481983 < 1000000000 ^ 50 ∧ P970 < 1000000000 ^ 50 ∧ 1 < 1000000000 ^ 100 ∧ 10 < 1000000000 ^ 100 ∧ 18014398509481983 * P970 < 1000000000 ^ 100 ∧ 1 * 1 < 1000000000 ^ 100 ∧ 2 < 1000000000 ^ 50 := by decide +kernel
  have HLIM := hide hlim
  have hc : Cub.cmpN (1 * (1 * 1)) (18014398509481983 * P970 * 10) = -1 := by decide +kernel
  have HC := hide hc
  have HTW := hide (fun W => twoToP 970 P970 50 (by decide) P970_is (by decide) (by decide) (unhide HLIM).2.2.1 (unhide HLIM).2.2.2.2.2.2.2 W)
  obtain ⟨V, hV⟩ : ∃ V, V = (w.alloc (.cells #[.slice a1 l1 c1, .slice a2 l2 c2] 54)) := ⟨_, rfl⟩
  have HS0 : Hid (St w [(w.heap.size, 54, #[.slice a1 l1 c1, .slice a2 l2 c2])] [(.agg #[.slice a2 l2 c2], 10), (.agg #[.slice a1 l1 c1], 1)] V) := by rw [hV]; have h := ((((St.nil (Below.refl _ w)).push hp).push hq).new #[.slice a1 l1 c1, .slice a2 l2 c2] 54); (try simp only [World.size_alloc] at h); exact h
  have HV := hide hV
  clear hV hp hq htab hta hlim hc
  go_enter Tryz.func31, Tryz.ntmps31
  go_upto_region 1 with fail
  rw [← unhide HV]
  clear HV
  generalize P970 = P at *
  go_upto_region 2 with (first
    | (have hchk := HS4; clear hchk; refine storeT 54 2 info59 rfl (.tmp 6) (.tmp 11) rfl U4.heap.size #[.slice none 0 0, .slice none 0 0] #[.slice a8 l8 c8, .slice a9 l9 c9] rfl rfl rfl rfl (OwnU.new _ _ _) (by kernel_rfl) ?_)
    | (have hchk := HS3; clear hchk; go_at_call 47; go_must (refine (times_any _ _ _ _ _ _ _ _ _ _ _ _ 18014398509481983 1 P 1 50 _ ((unhide HS3).bgt 3 rfl) ((unhide HS3).bgt 2 rfl) ((unhide HS3).bgt 1 rfl) ((unhide HS3).bgt 0 rfl) (by decide) (unhide HLIM).2.1 (unhide HLIM).1 (unhide HLIM).2.2.1 (unhide HLIM).1).mono ?_; rintro e U4 ⟨_, rfl, ⟨a8, l8, c8, a9, l9, c9, rfl, hv1, hv2⟩, hb⟩; have HS4 := hide ((((unhide HS3).later hb).push hv1).push hv2); clear HS3; clear hv1 hv2 hb))
    | (have hchk := HS2; clear hchk; go_at_call 74; go_must (refine (unhide HTW _).mono ?_; rintro e U3 ⟨_, rfl, ⟨a6, l6, c6, a7, l7, c7, rfl, hv1, hv2⟩, hb⟩; have HS3 := hide ((((unhide HS2).later hb).push hv1).push hv2); clear HS2; clear hv1 hv2 hb))
    | (have hchk := HS1; clear hchk; go_at_call 46; go_must (refine (whole_any _ _ _ 18014398509481983 _ ((unhide HS1).bgt 0 rfl)).mono ?_; rintro e U2 ⟨_, rfl, ⟨a4, l4, c4, a5, l5, c5, rfl, hv1, hv2⟩, hb⟩; have HS2 := hide ((((unhide HS1).later hb).push hv1).push hv2); clear HS1; clear hv1 hv2 hb))
    | (have hchk := HS0; clear hchk; go_at_call 73; go_must (refine (bigOf_any 18014398509481983 _ (by decide)).mono ?_; rintro e U1 ⟨a3, l3, c3, rfl, hv, hb⟩; have HS1 := hide (((unhide HS0).later hb).push hv); clear HS0; clear hv hb)))
  have HS5 := hide ((unhide HS4).new #[.slice none 0 0, .slice none 0 0] 54)
  clear HS4
  generalize U4.alloc (.cells #[.slice none 0 0, .slice none 0 0] 54) = U5 at *
  generalize U4.heap.size = g6 at *
  have HS6 := hide (((unhide HS5)).set (nz2 _ _ _ _ _ _) #[.slice a8 l8 c8, .slice a9 l9 c9])
  clear HS5
  generalize U5.setRow g6 #[.slice a8 l8 c8, .slice a9 l9 c9] = U6 at *
  have u0 := ((unhide HS6).at 1 rfl).ub.c 0 _ rfl
  have u1 := ((unhide HS6).at 1 rfl).ub.c 1 _ rfl
  have u2 := ((unhide HS6).at 0 rfl).ub.c 0 _ rfl
  have u3 := ((unhide HS6).at 0 rfl).ub.c 1 _ rfl
  go_upto_region 4 with (have hchk := HS6; clear hchk; go_at_call 75; go_must (refine (szcmp_any _ _ _ _ _ _ _ _ _ _ _ _ 1 10 (18014398509481983 * P) (1 * 1) 100 _ ((unhide HS6).bgt 8 rfl) ((unhide HS6).bgt 7 rfl) ((unhide HS6).bgt 1 rfl) ((unhide HS6).bgt 0 rfl) (by decide) (unhide HLIM).2.2.2.1 (unhide HLIM).2.2.2.2.1 (unhide HLIM).2.2.2.2.2.1 (unhide HLIM).2.2.2.2.2.2.1).mono ?_; rintro e U7 ⟨rfl, hb⟩; have HS7 := hide ((unhide HS6).later hb); clear HS6; clear hb u0 u1 u2 u3; rw [unhide HC]))
  have u0 := ((unhide HS7).at 1 rfl).ub.c 0 _ rfl
  have u1 := ((unhide HS7).at 1 rfl).ub.c 1 _ rfl
  go_wp2_with (have hchk := HS7; clear hchk; go_at_call 76; go_must (refine (nearest_tenth _ _ _ _ _ _ _ ((unhide HS7).bgt 8 rfl) ((unhide HS7).bgt 7 rfl) (unhide HTAB _ (unhide HS7).below)).mono ?_; rintro e U8 ⟨rfl, hb⟩; have HS8 := hide ((unhide HS7).later hb); clear HS7; clear hb u0 u1))
  exact bodyPost_ret (v := .tuple #[.float .f64 4591870180066957722, .int .i64 0]) (by simp [results, Tryz.results31, go_sem]) rfl ⟨rfl, (unhide HS8).below⟩
theorem cutP (w : World) : Calls Tryz.prog 30 #[.string ⟨#[49]⟩, .string ⟨#[45]⟩] w fun e w' => e = .returned (.tuple #[.string ⟨#[49]⟩, .bool false]) ∧ w' = w := Tryz.strings_CutPrefix ⟨#[49]⟩ ⟨#[45]⟩ w
theorem near_tenth (w : World) (htab : Tab w) : Calls Tryz.prog 10 #[.agg #[.string ⟨#[49]⟩, .string ⟨#[49, 48]⟩]] w fun e w' => e = .returned (.tuple #[.float .f64 4591870180066957722, .int .i64 0]) ∧ Below w.heap.size w w' := by
  have hta : ∀ W, Below w.heap.size w W → Tab W := fun W hb => htab.later hb
  have HTAB := hide hta
  obtain ⟨V, hV⟩ : ∃ V, V = (w.alloc (.cells #[.string ⟨#[49]⟩, .string ⟨#[49, 48]⟩] 23)) := ⟨_, rfl⟩
  have HS0 : Hid (St w [(w.heap.size, 23, #[.string ⟨#[49]⟩, .string ⟨#[49, 48]⟩])] [] V) := by rw [hV]; have h := ((St.nil (Below.refl _ w)).new #[.string ⟨#[49]⟩, .string ⟨#[49, 48]⟩] 23); (try simp only [World.size_alloc] at h); exact h
  have HV := hide hV
  clear hV htab hta
  go_enter Tryz.func10, Tryz.ntmps10
  go_upto_region 1 with fail
  rw [← unhide HV]
  clear HV
  have u0 := ((unhide HS0).at 0 rfl).ub.c 0 _ rfl
  have u1 := ((unhide HS0).at 0 rfl).ub.c 1 _ rfl
  go_upto_region 3 with (have hchk := HS0; clear hchk; go_at_call 29; go_must (refine (right_tenth _).mono ?_; rintro e U1 ⟨rfl, hb⟩; have HS1 := hide ((unhide HS0).later hb); clear HS0; clear hb u0 u1))
  have u0 := ((unhide HS1).at 0 rfl).ub.c 0 _ rfl
  go_upto_region 4 with (go_at_call 30; go_must (refine (cutP _).mono ?_; rintro e ww ⟨rfl, hw⟩; have hw2 := hw.symm; subst hw2; clear hw))
  clear u0
  refine region_reads 11 (fun _ => True) (fun W' => W'.cell? ⟨w.heap.size, 1, none⟩ = some (.string ⟨#[49, 48]⟩)) 12 rfl (by kernel_rfl) ?_
  have HS2 := hide ((unhide HS1).later ((Below.refl _ _).drew))
  clear HS1
  generalize U1.drew = X0 at *
  refine wpR_take7 (i := 0) (oi := _) (v := .bool false) rfl (by kernel_rfl) (by kernel_rfl) (by kernel_rfl) (by kernel_rfl) (fun _ _ _ h => h) (Or.inl ⟨by rfl, ?_⟩) ⟨trivial, ((unhide HS2).at 0 rfl).ub.c 1 _ rfl⟩ ?_
  · intro W' hW
    go_simp
  refine wpR_take7 (i := 1) (oi := _) (v := .string ⟨#[49]⟩) rfl (by kernel_rfl) (by kernel_rfl) (by kernel_rfl) (by kernel_rfl) (fun _ _ _ h => h) (Or.inl ⟨by rfl, ?_⟩) ⟨trivial, ((unhide HS2).at 0 rfl).ub.c 1 _ rfl⟩ ?_
  · intro W' hW
    go_simp
  refine wpR_take7 (i := 3) (oi := _) (v := .pointer (some ⟨w.heap.size, 1, none⟩)) rfl (by kernel_rfl) (by kernel_rfl) (by kernel_rfl) (by kernel_rfl) (fun _ _ _ h => h) (Or.inl ⟨by rfl, ?_⟩) ⟨trivial, ((unhide HS2).at 0 rfl).ub.c 1 _ rfl⟩ ?_
  · intro W' hW
    go_simp
  refine wpR_take7 (i := 4) (oi := _) (v := .string ⟨#[49, 48]⟩) rfl (by kernel_rfl) (by kernel_rfl) (by kernel_rfl) (by kernel_rfl) (fun _ _ _ h => h) (Or.inl ⟨by rfl, ?_⟩) ⟨trivial, ((unhide HS2).at 0 rfl).ub.c 1 _ rfl⟩ ?_
  · intro W' hW
    go_simp
  refine wpR_op (i := 2) (o := _) (by kernel_rfl) rfl rfl (fun K hK => ?_)
  go_simp
  refine (big_one _).mono ?_
  rintro e X1 ⟨a1, l1, c1, rfl, hv, hb⟩
  have HS3 := hide (((unhide HS2).later hb).push hv)
  clear HS2
  clear hv hb
  refine hK _ _ ⟨trivial, ((unhide HS3).at 0 rfl).ub.c 1 _ rfl⟩ ?_
  clear hK K
  refine wpR_op (i := 5) (o := _) (by kernel_rfl) rfl rfl (fun K hK => ?_)
  go_simp
  refine (big_ten _).mono ?_
  rintro e X2 ⟨a2, l2, c2, rfl, hv, hb⟩
  have HS4 := hide (((unhide HS3).later hb).push hv)
  clear HS3
  clear hv hb
  refine hK _ _ ⟨trivial, ((unhide HS4).at 0 rfl).ub.c 1 _ rfl⟩ ?_
  clear hK K
  refine wpR_op (i := 6) (o := _) (by kernel_rfl) rfl rfl (fun K hK => ?_)
  go_simp
  refine hK _ _ ⟨trivial, ((unhide HS4).at 0 rfl).ub.c 1 _ rfl⟩ ?_
  clear hK K
  refine wpR_op (i := 7) (o := _) (by kernel_rfl) rfl rfl (fun K hK => ?_)
  go_simp
  refine (nearestTo_tenth _ _ _ _ _ _ _ ((unhide HS4).bgt 1 rfl) ((unhide HS4).bgt 0 rfl) (unhide HTAB _ (unhide HS4).below)).mono ?_
  rintro e X3 ⟨rfl, hb⟩
  have HS5 := hide ((unhide HS4).later hb)
  clear HS4
  clear hb
  refine hK _ _ ⟨trivial, ((unhide HS5).at 0 rfl).ub.c 1 _ rfl⟩ ?_
  clear hK K
  refine wpR_take7 (i := 8) (oi := _) (v := .float .f64 4591870180066957722) rfl (by kernel_rfl) (by kernel_rfl) (by kernel_rfl) (by kernel_rfl) (fun _ _ _ h => h) (Or.inl ⟨by rfl, ?_⟩) ⟨trivial, ((unhide HS5).at 0 rfl).ub.c 1 _ rfl⟩ ?_
  · intro W' hW
    go_simp
  refine wpR_take7 (i := 9) (oi := _) (v := .int .i64 0) rfl (by kernel_rfl) (by kernel_rfl) (by kernel_rfl) (by kernel_rfl) (fun _ _ _ h => h) (Or.inl ⟨by rfl, ?_⟩) ⟨trivial, ((unhide HS5).at 0 rfl).ub.c 1 _ rfl⟩ ?_
  · intro W' hW
    go_simp
  refine wpR_op (i := 10) (o := _) (by kernel_rfl) rfl rfl (fun K hK => ?_)
  go_simp
  refine hK _ _ ⟨trivial, ((unhide HS5).at 0 rfl).ub.c 1 _ rfl⟩ ?_
  clear hK K
  refine wpR_late (i := 11) (o := _) (by kernel_rfl) rfl rfl (by kernel_rfl) (fun K hK => ?_)
  go_simp
  refine hK _ _ (((unhide HS5).at 0 rfl).ub.c 1 _ rfl) ?_
  clear hK K
  refine wpR_done (by kernel_rfl) ?_
  go_wp2_with fail
  exact bodyPost_ret (v := .tuple #[.float .f64 4591870180066957722, .int .i64 0]) (by simp [results, Tryz.results10, go_sem]) rfl ⟨rfl, (unhide HS5).below⟩
theorem pow2_le (n k : Nat) (h : n ≤ 3 * k) : 2 ^ n ≤ 10 ^ k := by
  refine Nat.le_trans (Nat.pow_le_pow_right (by decide) h) ?_
  rw [Nat.pow_mul]
  exact Nat.pow_le_pow_left (by decide) k
theorem pow2_lt (n K : Nat) (h : n + 3 ≤ 3 * K) : 2 ^ n < 10 ^ K := by
  refine Nat.lt_of_lt_of_le (Nat.pow_lt_pow_right (by decide) (by omega : n < n + 3)) ?_
  exact pow2_le (n + 3) K h
theorem mulp_lt (m n K : Nat) (hm : m < 18446744073709551616) (h : n + 3 ≤ 3 * K) : m * 2 ^ n < 10 ^ (20 + K) := by
  rw [Nat.pow_add]
  exact Nat.mul_lt_mul'' (by omega) (pow2_lt n K h)
def scA (A : Nat) (e : Int) : Nat := A * 2 ^ (-e).toNat
def scB (B : Nat) (e : Int) : Nat := B * 2 ^ e.toNat
theorem below_step (A B : Nat) (e : Int) (h : scA A e < scB B e) : scA A (e + 1) < scB B (e + 1) := by
  unfold scA scB at *
  by_cases hz : 0 ≤ e
  · obtain ⟨n, rfl⟩ : ∃ n : Nat, e = (n : Int) := ⟨e.toNat, by omega⟩
    rw [show (-((n : Int) + 1)).toNat = 0 by omega, show ((n : Int) + 1).toNat = n + 1 by omega]
    rw [show (-(n : Int)).toNat = 0 by omega, show ((n : Int)).toNat = n by omega] at h
    refine Nat.lt_of_lt_of_le h ?_
    exact Nat.mul_le_mul_left B (Nat.pow_le_pow_right (by decide) (by omega))
  · obtain ⟨n, rfl⟩ : ∃ n : Nat, e = -((n : Int) + 1) := ⟨(-e - 1).toNat, by omega⟩
    rw [show (-(-((n : Int) + 1) + 1)).toNat = n by omega, show (-((n : Int) + 1) + 1).toNat = 0 by omega]
    rw [show (-(-((n : Int) + 1))).toNat = n + 1 by omega, show (-((n : Int) + 1)).toNat = 0 by omega] at h
    refine Nat.lt_of_le_of_lt ?_ h
    exact Nat.mul_le_mul_left A (Nat.pow_le_pow_right (by decide) (by omega))
theorem below_mono (A B : Nat) (e f : Int) (hle : e ≤ f) (h : scA A e < scB B e) : scA A f < scB B f := by
  obtain ⟨n, rfl⟩ : ∃ n : Nat, f = e + (n : Int) := ⟨(f - e).toNat, by omega⟩
  clear hle
  induction n with
  | zero => simpa using h
  | succ n ih =>
    have := below_step A B (e + (n : Int)) ih
    rwa [show e + ((n + 1 : Nat) : Int) = e + (n : Int) + 1 by omega]
/-- What the search keeps. -/
structure SzInv (A B : Nat) (x y : Int) : Prop where
  hi : scA A (y + 53) < scB B (y + 53)
  lo : ∀ e, -1074 ≤ e → e < x → ¬ scA A (e + 53) < scB B (e + 53)
  l1 : -1074 ≤ x
  l2 : x ≤ y
  l3 : y ≤ 5000
def rndB (q r b : Nat) : Nat := if b < r + r ∨ (r + r = b ∧ q % 2 = 1) then q + 1 else q
theorem sz_one (A B : Nat) (x y : Int) (h1 : SzInv A B x x) (h2 : SzInv A B y y) : x = y := by
  rcases Int.lt_trichotomy x y with h | h | h
  · exact absurd h1.hi (h2.lo x h1.l1 h)
  · exact h
  · exact absurd h2.hi (h1.lo y h2.l1 h)
end Go.Proofs.YtijifpbpjinmhaaGreatDoor
namespace Go.Proofs.YtijifpbpjinmhaaGreatDoor
open Go.RowKit Go.Maps Go.ChangeMaps Go.WideMaps
attribute [local go_sem] run_bits run_from
theorem nan_any (w : World) : Calls Tryz.prog 49 #[] w fun e w' => e = .returned (.float .f64 9221120237041090561) ∧ w' = w := by
  go_enter Tryz.func49, Tryz.ntmps49
  go_wp2
  go_ret
  exact ⟨by simp, rfl⟩
theorem inf_pos (w : World) : Calls Tryz.prog 50 #[.int .i64 1] w fun e w' => e = .returned (.float .f64 9218868437227405312) ∧ w' = w := by
  go_enter Tryz.func50, Tryz.ntmps50
  go_wp2
  go_ret
  exact ⟨by simp, rfl⟩
theorem inf_neg (w : World) : Calls Tryz.prog 50 #[.int .i64 (-1)] w fun e w' => e = .returned (.float .f64 18442240474082181120) ∧ w' = w := by
  go_enter Tryz.func50, Tryz.ntmps50
  go_wp2
  go_ret
  exact ⟨by simp, rfl⟩
/-- A float reads by its bits. -/
def wR : Value → Option (DataW Unit × List MemPlace)
  | .float .f64 b => some (.lit (.int .i64 (b : Int)), [])
  | _ => none
def wD0 : DataW Unit := .map []
def wD1 : DataW Unit := wD0.put (.string [78, 97, 78]) (.lit (.int .i64 9221120237041090561))
def wD2 : DataW Unit := wD1.put (.string [43, 73, 110, 102]) (.lit (.int .i64 9218868437227405312))
def wD3 : DataW Unit := wD2.put (.string [45, 73, 110, 102]) (.lit (.int .i64 18442240474082181120))
def wD : Nat → DataW Unit
  | 0 => wD0
  | 1 => wD1
  | 2 => wD2
  | _ => wD3
theorem underM : Tryz.prog.underlying 70 = some (.map 9 24) := by kernel_rfl
theorem key_of (s : ByteArray) (h : s.size ≤ 20) : keyOf Tryz.prog 9 (.string s) = some (.string s.data.toList) := keyOf_string_mk Tryz.underlying9 (by unfold maxLen; omega)
theorem words_any (w : World) : Calls Tryz.prog 43 #[] w fun r w' => r = .returned (.map (some w.heap.size)) ∧ w'.ownsMap Tryz.prog 9 wR w.heap.size 3 (wD 3) ∧ Below w.heap.size w w' := by
  have hmm := @run_makeMap Tryz.prog
  obtain ⟨W1, hW1⟩ : ∃ W1, W1 = w.alloc (.map #[] 0) := ⟨_, rfl⟩
  have HO : Hid (W1.ownsMap Tryz.prog 9 wR w.heap.size 0 (wD 0)) := by rw [hW1]; exact World.ownsMap_made w Tryz.prog 9 wR
  have HB : Hid (Below w.heap.size w W1 ∧ w.heap.size + 1 ≤ W1.heap.size) := by rw [hW1]; exact ⟨(Below.refl _ _).alloc (Nat.le_refl _) _, by simp⟩
  go_enter Tryz.func43, Tryz.ntmps43
  go_wp2_with (go_at_call 49; go_must (refine (nan_any _).mono ?_; rintro e ww ⟨rfl, hw⟩; have hw2 := hw.symm; subst hw2; clear hw))
  rw [← hW1]
  clear hW1
  obtain ⟨wu0, hrun, r1, r2⟩ := (unhide HO).update (string_keyed Tryz.underlying9) underM (by unfold maxLen; omega) (key_of ⟨#[78, 97, 78]⟩ (by decide)) (show wR (.float .f64 9221120237041090561) = some (.lit (.int .i64 9221120237041090561), []) from rfl)
  rw [hrun]
  clear hrun HO
  have HO : Hid (wu0.ownsMap Tryz.prog 9 wR w.heap.size 1 (wD 1)) := r1
  replace HB : Hid (Below w.heap.size w wu0 ∧ w.heap.size + 1 ≤ wu0.heap.size) := ⟨(unhide HB).1.grown r2 (by have h := (unhide HB).2; omega) (fun j hj => by cases hj; exact Nat.le_refl _), Nat.le_trans (unhide HB).2 r2.size⟩
  clear r1 r2
  go_wp2_with (go_at_call 50; go_must (refine (inf_pos _).mono ?_; rintro e ww ⟨rfl, hw⟩; have hw2 := hw.symm; subst hw2; clear hw))
  obtain ⟨wu1, hrun, r1, r2⟩ := (unhide HO).update (string_keyed Tryz.underlying9) underM (by unfold maxLen; omega) (key_of ⟨#[43, 73, 110, 102]⟩ (by decide)) (show wR (.float .f64 9218868437227405312) = some (.lit (.int .i64 9218868437227405312), []) from rfl)
  rw [hrun]
  clear hrun HO
  have HO : Hid (wu1.ownsMap Tryz.prog 9 wR w.heap.size 2 (wD 2)) := r1
  replace HB : Hid (Below w.heap.size w wu1 ∧ w.heap.size + 1 ≤ wu1.heap.size) := ⟨(unhide HB).1.grown r2 (by have h := (unhide HB).2; omega) (fun j hj => by cases hj; exact Nat.le_refl _), Nat.le_trans (unhide HB).2 r2.size⟩
  clear r1 r2
  go_wp2_with (go_at_call 50; go_must (refine (inf_neg _).mono ?_; rintro e ww ⟨rfl, hw⟩; have hw2 := hw.symm; subst hw2; clear hw))
  obtain ⟨wu2, hrun, r1, r2⟩ := (unhide HO).update (string_keyed Tryz.underlying9) underM (by unfold maxLen; omega) (key_of ⟨#[45, 73, 110, 102]⟩ (by decide)) (show wR (.float .f64 18442240474082181120) = some (.lit (.int .i64 18442240474082181120), []) from rfl)
  rw [hrun]
  clear hrun HO
  have HO : Hid (wu2.ownsMap Tryz.prog 9 wR w.heap.size 3 (wD 3)) := r1
  replace HB : Hid (Below w.heap.size w wu2 ∧ w.heap.size + 1 ≤ wu2.heap.size) := ⟨(unhide HB).1.grown r2 (by have h := (unhide HB).2; omega) (fun j hj => by cases hj; exact Nat.le_refl _), Nat.le_trans (unhide HB).2 r2.size⟩
  clear r1 r2
  go_wp2_with fail
  go_ret
  exact ⟨rfl, unhide HO, (unhide HB).1⟩
theorem wD_at : ∀ kl zd, Maps.has (wD 3) kl = true → (wD 3).atKey kl zd = .lit (.int .i64 9221120237041090561) ∨ (wD 3).atKey kl zd = .lit (.int .i64 9218868437227405312) ∨ (wD 3).atKey kl zd = .lit (.int .i64 18442240474082181120) := by
  intro kl zd h
  by_cases e2 : kl = .string [45, 73, 110, 102]
  · subst e2; right; right; kernel_rfl
  · rw [show wD 3 = (wD 2).put (.string [45, 73, 110, 102]) (.lit (.int .i64 18442240474082181120)) from rfl, Maps.has_put_other e2] at h
    by_cases e1 : kl = .string [43, 73, 110, 102]
    · subst e1; right; left; kernel_rfl
    · rw [show wD 2 = (wD 1).put (.string [43, 73, 110, 102]) (.lit (.int .i64 9218868437227405312)) from rfl, Maps.has_put_other e1] at h
      by_cases e0 : kl = .string [78, 97, 78]
      · subst e0; left; kernel_rfl
      · rw [show wD 1 = (wD 0).put (.string [78, 97, 78]) (.lit (.int .i64 9221120237041090561)) from rfl, Maps.has_put_other e0] at h
        exact absurd h (by simp [wD, wD0, Maps.has])
theorem wR_inv {v : Value} {p : Int} {ps : List MemPlace} (h : wR v = some (.lit (.int .i64 p), ps)) : ∃ b : Nat, v = .float .f64 b ∧ (b : Int) = p := by
  unfold wR at h
  split at h
  · cases h; exact ⟨_, rfl, rfl⟩
  · cases h
end Go.Proofs.YtijifpbpjinmhaaGreatDoor

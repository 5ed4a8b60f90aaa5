/- (Big).Root. -/
import Derived.Test.YtlodfcdckeiafabDoorDivMod
import Derived.Test.YtlodfcdckeiafabDoorShift
import Derived.Test.YtlodfcdckeiafabDoorPow
import Derived.Test.YtlodfcdckeiafabDoorPlain
import Derived.Deep.Cut
import Derived.Deep.RegionHeld3
import Derived.Deep.CutRange
import Derived.Deep.LoopGhost
namespace Go.Proofs.YtlodfcdckeiafabDoor
open Go.RowKit

theorem Row.uniq {w : World} {v : Value} {l l' : List Nat} (h : Row w v l) (h' : Row w v l') : l = l' := by
  obtain ⟨a, cap, rfl, _, _, hr⟩ := h
  obtain ⟨a', cap', e, _, _, hr'⟩ := h'
  simp only [Value.slice.injEq] at e
  obtain ⟨rfl, hl, rfl⟩ := e
  refine List.ext_getElem hl fun i h1 h2 => ?_
  obtain ⟨b, o, rfl, _, hc⟩ := hr (fun e => by rw [e] at h1; simp at h1)
  obtain ⟨b', o', e', _, hc'⟩ := hr' (fun e => by rw [e] at h2; simp at h2)
  simp only [Option.some.injEq, Addr.mk.injEq] at e'
  obtain ⟨rfl, rfl, _⟩ := e'
  have e1 := (hc i h1).symm.trans (hc' i h2)
  simp only [Option.some.injEq, Value.int.injEq, true_and] at e1
  omega
theorem IsBig.uniq {w : World} {v : Value} {n n' : Nat} (h : IsBig w v n) (h' : IsBig w v n') : n = n' := by
  obtain ⟨s, l, rfl, hr, _, hv⟩ := h
  obtain ⟨s', l', e, hr', _, hv'⟩ := h'
  simp only [Value.agg.injEq, Array.mk.injEq, List.cons.injEq, and_true] at e
  subst e
  rw [← hv, ← hv', hr.uniq hr']
open Classical in
/-- The number of a Big in memory. -/
noncomputable def bigVal (w : World) (v : Value) : Nat := if h : ∃ n, IsBig w v n then Classical.choose h else 0
theorem IsBig.bigVal {w : World} {v : Value} {n : Nat} (h : IsBig w v n) : bigVal w v = n := by
  unfold Go.Proofs.YtlodfcdckeiafabDoor.bigVal
  rw [dif_pos ⟨n, h⟩]
  exact (Classical.choose_spec (⟨n, h⟩ : ∃ n, IsBig w v n)).uniq h
noncomputable def boxV (w : World) (g : Nat) : Nat := match w.cell? ⟨g, 0, none⟩ with | some s => bigVal w (.agg #[s]) | none => 0
theorem boxV_of {w : World} {g n : Nat} {s : Value} (hc : w.cell? ⟨g, 0, none⟩ = some s) (h : IsBig w (.agg #[s]) n) : boxV w g = n := by
  unfold boxV; rw [hc]; exact h.bigVal

/-- The boxes of a search: b, the result's, low, high, two. -/
structure RootSt (w wr : World) (gl gh gt : Nat) (bv lv hv tv : Value) (m lo hi : Nat) : Prop where
  b : wr.cell? ⟨w.heap.size, 0, none⟩ = some bv
  r : wr.cell? ⟨w.heap.size + 1, 0, none⟩ = some (.slice none 0 0)
  rf : wr.frozen? ⟨w.heap.size + 1, 0, none⟩ = false
  l : wr.cell? ⟨gl, 0, none⟩ = some lv
  lf : wr.frozen? ⟨gl, 0, none⟩ = false
  h : wr.cell? ⟨gh, 0, none⟩ = some hv
  hf : wr.frozen? ⟨gh, 0, none⟩ = false
  t : wr.cell? ⟨gt, 0, none⟩ = some tv
  bigB : IsBig wr (.agg #[bv]) m
  bigL : IsBig wr (.agg #[lv]) lo
  bigH : IsBig wr (.agg #[hv]) hi
  bigT : IsBig wr (.agg #[tv]) 2
  below : Below w.heap.size w wr
theorem RootSt.later {w wr wr' : World} {gl gh gt : Nat} {bv lv hv tv : Value} {m lo hi : Nat} (s : RootSt w wr gl gh gt bv lv hv tv m lo hi) (hb : Below wr.heap.size wr wr') : RootSt w wr' gl gh gt bv lv hv tv m lo hi :=
  ⟨(hb.cell (p := ⟨w.heap.size, 0, none⟩) (World.block_lt_of_cell? _ _ s.b)).trans s.b, (hb.cell (p := ⟨w.heap.size + 1, 0, none⟩) (World.block_lt_of_cell? _ _ s.r)).trans s.r, (hb.frozen (p := ⟨w.heap.size + 1, 0, none⟩) (World.block_lt_of_cell? _ _ s.r)).trans s.rf,
   (hb.cell (p := ⟨gl, 0, none⟩) (World.block_lt_of_cell? _ _ s.l)).trans s.l, (hb.frozen (p := ⟨gl, 0, none⟩) (World.block_lt_of_cell? _ _ s.l)).trans s.lf, (hb.cell (p := ⟨gh, 0, none⟩) (World.block_lt_of_cell? _ _ s.h)).trans s.h, (hb.frozen (p := ⟨gh, 0, none⟩) (World.block_lt_of_cell? _ _ s.h)).trans s.hf,
   (hb.cell (p := ⟨gt, 0, none⟩) (World.block_lt_of_cell? _ _ s.t)).trans s.t, s.bigB.later hb, s.bigL.later hb, s.bigH.later hb, s.bigT.later hb, s.below.trans (hb.mono s.below.size)⟩
theorem RootSt.setL {w wr : World} {gl gh gt : Nat} {bv lv hv tv u : Value} {m lo hi lo' : Nat} (s : RootSt w wr gl gh gt bv lv hv tv m lo hi) (h1 : w.heap.size + 2 ≤ gl) (h2 : gl ≠ gh) (h3 : gl ≠ gt) (hl : ∀ k n, lv ≠ .int k n) (hu : IsBig wr (.agg #[u]) lo') :
    RootSt w (wr.setCell ⟨gl, 0, none⟩ u) gl gh gt bv u hv tv m lo' hi :=
  ⟨by rw [World.cell?_setCell_other _ _ _ _ (by simp <;> omega)]; exact s.b, by rw [World.cell?_setCell_other _ _ _ _ (by simp <;> omega)]; exact s.r, by rw [World.frozen?_setCell]; exact s.rf,
   World.cell?_setCell_same _ _ _ s.l, by rw [World.frozen?_setCell]; exact s.lf, by rw [World.cell?_setCell_other _ _ _ _ (by simp <;> omega)]; exact s.h, by rw [World.frozen?_setCell]; exact s.hf,
   by rw [World.cell?_setCell_other _ _ _ _ (by simp <;> omega)]; exact s.t, s.bigB.box _ s.l hl, hu.box _ s.l hl, s.bigH.box _ s.l hl, s.bigT.box _ s.l hl, s.below.setCell (by simp <;> omega) _⟩
theorem RootSt.setH {w wr : World} {gl gh gt : Nat} {bv lv hv tv u : Value} {m lo hi hi' : Nat} (s : RootSt w wr gl gh gt bv lv hv tv m lo hi) (h1 : w.heap.size + 2 ≤ gh) (h2 : gl ≠ gh) (h3 : gh ≠ gt) (hl : ∀ k n, hv ≠ .int k n) (hu : IsBig wr (.agg #[u]) hi') :
    RootSt w (wr.setCell ⟨gh, 0, none⟩ u) gl gh gt bv lv u tv m lo hi' :=
  ⟨by rw [World.cell?_setCell_other _ _ _ _ (by simp <;> omega)]; exact s.b, by rw [World.cell?_setCell_other _ _ _ _ (by simp <;> omega)]; exact s.r, by rw [World.frozen?_setCell]; exact s.rf,
   by rw [World.cell?_setCell_other _ _ _ _ (by simp <;> omega)]; exact s.l, by rw [World.frozen?_setCell]; exact s.lf, World.cell?_setCell_same _ _ _ s.h, by rw [World.frozen?_setCell]; exact s.hf,
   by rw [World.cell?_setCell_other _ _ _ _ (by simp <;> omega)]; exact s.t, s.bigB.box _ s.h hl, s.bigL.box _ s.h hl, hu.box _ s.h hl, s.bigT.box _ s.h hl, s.below.setCell (by simp <;> omega) _⟩

theorem RootSt.start {w wc w5 : World} {g g' m hi : Nat} {bv hv tv : Value} (HB : Res1 w wc bv) (cg : wc.cell? ⟨g, 0, none⟩ = some (.slice none 0 0)) (fg : wc.frozen? ⟨g, 0, none⟩ = false) (ch : wc.cell? ⟨g', 0, none⟩ = some hv) (fh : wc.frozen? ⟨g', 0, none⟩ = false)
    (bigB : IsBig wc (.agg #[bv]) m) (bigH : IsBig wc (.agg #[hv]) hi) (hb5 : Below wc.heap.size wc w5) (bigT : IsBig w5 (.agg #[tv]) 2) : RootSt w (w5.alloc (.cells #[tv] 43)) g g' w5.heap.size bv (.slice none 0 0) hv tv m 0 hi := by
  have hb : Below wc.heap.size wc (w5.alloc (.cells #[tv] 43)) := hb5.alloc hb5.size _
  exact ⟨(hb.cell (p := ⟨w.heap.size, 0, none⟩) (World.block_lt_of_cell? _ _ HB.c1)).trans HB.c1, (hb.cell (p := ⟨w.heap.size + 1, 0, none⟩) (World.block_lt_of_cell? _ _ HB.c2)).trans HB.c2, (hb.frozen (p := ⟨w.heap.size + 1, 0, none⟩) (World.block_lt_of_cell? _ _ HB.c2)).trans HB.f2,
    (hb.cell (p := ⟨g, 0, none⟩) (World.block_lt_of_cell? _ _ cg)).trans cg, (hb.frozen (p := ⟨g, 0, none⟩) (World.block_lt_of_cell? _ _ cg)).trans fg, (hb.cell (p := ⟨g', 0, none⟩) (World.block_lt_of_cell? _ _ ch)).trans ch, (hb.frozen (p := ⟨g', 0, none⟩) (World.block_lt_of_cell? _ _ ch)).trans fh,
    World.cell?_alloc_at _ _ _ _ rfl, bigB.later hb, IsBig.zero _, bigH.later hb, bigT.later ((Below.refl _ _).alloc (Nat.le_refl _) _), HB.below.trans (hb.mono HB.below.size)⟩
theorem cell_alloc_keep {W : World} {p : Addr} {v : Value} {o : Obj} (h : W.cell? p = some v) : (W.alloc o).cell? p = some v :=
  ((((Below.refl W.heap.size W).alloc (Nat.le_refl _) o)).cell (World.block_lt_of_cell? _ _ h)).trans h
theorem frozen_alloc_keep {W : World} {p : Addr} {v : Value} {o : Obj} (h : W.cell? p = some v) (hf : W.frozen? p = false) : (W.alloc o).frozen? p = false :=
  ((((Below.refl W.heap.size W).alloc (Nat.le_refl _) o)).frozen (World.block_lt_of_cell? _ _ h)).trans hf
theorem cell_set_keep {W : World} {p q : Addr} {v u : Value} (h : W.cell? p = some v) (hne : q ≠ p) : (W.setCell q u).cell? p = some v := by
  rw [World.cell?_setCell_other _ _ _ _ hne]; exact h
theorem new1 {W0 w' : World} {v : Value} {T : TypeId} (hb : Below (W0.alloc (.cells #[v] T)).heap.size (W0.alloc (.cells #[v] T)) w') : w'.cell? ⟨W0.heap.size, 0, none⟩ = some v ∧ w'.frozen? ⟨W0.heap.size, 0, none⟩ = false :=
  box_later hb (g := W0.heap.size) (by simp) (by simp) (by simp)
theorem new2 {W0 w' : World} {u v : Value} {T S : TypeId} (hb : Below ((W0.alloc (.cells #[v] T)).alloc (.cells #[u] S)).heap.size ((W0.alloc (.cells #[v] T)).alloc (.cells #[u] S)) w') : (w'.cell? ⟨W0.heap.size, 0, none⟩ = some v ∧ w'.frozen? ⟨W0.heap.size, 0, none⟩ = false) ∧ w'.cell? ⟨W0.heap.size + 1, 0, none⟩ = some u ∧ w'.frozen? ⟨W0.heap.size + 1, 0, none⟩ = false :=
  ⟨box_later hb (g := W0.heap.size) (by simp; omega) (by simp) (by simp), box_later hb (g := W0.heap.size + 1) (by simp) (by simp) (by simp)⟩
theorem new1d {W0 w' : World} {v : Value} {T : TypeId} (hb : Below (W0.alloc (.cells #[v] T)).drew.heap.size (W0.alloc (.cells #[v] T)).drew w') : w'.cell? ⟨W0.heap.size, 0, none⟩ = some v ∧ w'.frozen? ⟨W0.heap.size, 0, none⟩ = false :=
  new1 ((Below.refl _ _).drew.trans hb)
theorem new2d {W0 w' : World} {u v : Value} {T S : TypeId} (hb : Below ((W0.alloc (.cells #[v] T)).alloc (.cells #[u] S)).drew.heap.size ((W0.alloc (.cells #[v] T)).alloc (.cells #[u] S)).drew w') : (w'.cell? ⟨W0.heap.size, 0, none⟩ = some v ∧ w'.frozen? ⟨W0.heap.size, 0, none⟩ = false) ∧ w'.cell? ⟨W0.heap.size + 1, 0, none⟩ = some u ∧ w'.frozen? ⟨W0.heap.size + 1, 0, none⟩ = false :=
  new2 ((Below.refl _ _).drew.trans hb)
theorem upto1 {W0 w' : World} {o : Obj} (hb : Below (W0.alloc o).heap.size (W0.alloc o) w') : Below W0.heap.size W0 w' := ((Below.refl _ _).alloc (Nat.le_refl _) _).trans (hb.mono (by simp))
theorem upto2 {W0 w' : World} {o o' : Obj} (hb : Below ((W0.alloc o).alloc o').heap.size ((W0.alloc o).alloc o') w') : Below W0.heap.size W0 w' := upto1 (upto1 hb)
theorem upto0d {W0 w' : World} (hb : Below W0.drew.heap.size W0.drew w') : Below W0.heap.size W0 w' := (Below.refl _ _).drew.trans hb
theorem big_alloc {W : World} {v : Value} {n : Nat} {o : Obj} (h : IsBig W v n) : IsBig (W.alloc o) v n := h.later ((Below.refl _ _).alloc (Nat.le_refl _) _)
theorem big_store {W : World} {v : Value} {n : Nat} {p : Addr} {u : Value} (hc : W.cell? p = some (.slice none 0 0)) (h : IsBig W v n) : IsBig (W.setCell p u) v n := h.box u hc (no_int _ _ _)
theorem lt_more (x a b : Nat) (h : x < 1000000000 ^ a) (hab : a ≤ b) : x < 1000000000 ^ b := Nat.lt_of_lt_of_le h (Nat.pow_le_pow_right (by decide) hab)
theorem cmpN_not (a b : Nat) (h : a ≤ b) : ¬ 0 < Cub.cmpN a b := by
  rcases Nat.lt_or_eq_of_le h with h | h
  · rw [Cub.cmpN_lt h]; decide
  · subst h; rw [Cub.cmpN_eq]; decide
theorem root_wrap (L n q : Nat) (h : L ≤ 600) (hq : (L : Int) / (n : Int) + 1 = (q : Int)) : IntKind.i64.wrap (IntKind.i64.wrap ((L : Int) / (n : Int)) + 1) = (q : Int) := by
  have e : (L : Int) / (n : Int) = ((L / n : Nat) : Int) := (Int.natCast_ediv L n).symm
  have hle := Nat.div_le_self L n
  have w1 : IntKind.i64.wrap ((L : Int) / (n : Int)) = (L : Int) / (n : Int) := IntWalk.i64_in _ ⟨by rw [e]; omega, by rw [e]; omega⟩
  rw [w1, hq]
  exact IntWalk.i64_in _ ⟨by omega, by rw [← hq, e]; omega⟩
theorem lt_digits (m : Nat) : m < 10 ^ Lib.nDigits m := by
  have h := (Cub.dec_len_lt m (Lib.nDigits m) (by
    rw [← Lib.decDigits_length]; exact List.length_pos_iff.2 (Cub.dec_ne_nil m))).1 (by rw [Lib.decDigits_length]; exact Nat.le_refl _)
  exact h

set_option maxRecDepth 100000 in
set_option maxHeartbeats 8000000 in
theorem root_any (x : Value) (m n E : Nat) (w : World) (hx : IsBig w x m) (hE : E ≤ 600) (hE1 : 1 ≤ E) (hm : m < 10 ^ E) (hn : 1 ≤ n) (hn2 : n ≤ 4096) :
    Calls Tryd.prog 32 #[x, .int .i64 (n : Int)] w fun e w' => ∃ a l c, e = .returned (.agg #[.slice a l c]) ∧ IsBig w' (.agg #[.slice a l c]) (Cub.rootOf m n) ∧ Below w.heap.size w w' := by
  obtain ⟨ap, np, cp, rfl⟩ := hx.shape
  have HX := hide hx
  by_cases h1 : n = 1
  · subst h1
    rw [Cub.root_one]
    clear hx hm
    go_enter Tryd.func32, Tryd.ntmps32
    go_wp2
    have hb : Below w.heap.size w ((w.alloc (.cells #[.slice ap np cp] 43)).alloc (.cells #[.slice ap np cp] 43)) := ((Below.refl _ _).alloc (Nat.le_refl _) _).alloc (by simp) _
    exact bodyPost_ret (v := .agg #[.slice ap np cp]) (by simp [results, Tryd.results32, go_sem]) rfl ⟨_, _, _, rfl, (unhide HX).later hb, hb⟩
  · have hne : ((n : Int) == 1) = false := by rw [beq_eq_false_iff_ne]; omega
    obtain ⟨L, hL⟩ : ∃ L, L = Lib.nDigits m := ⟨_, rfl⟩
    have hL1 : L ≤ E := by
      rw [hL, ← Lib.decDigits_length]; exact (Cub.dec_len_lt m E hE1).2 hm
    have HM : Hid (m < 10 ^ L) := by rw [hL]; exact lt_digits m
    obtain ⟨q, hq⟩ : ∃ q, q = L / n + 1 := ⟨_, rfl⟩
    have hq2 : q ≤ 601 := by
      have := Nat.div_le_self L n
      omega
    have HT := hide (And.intro hL hq)
    have H69 := hide (fun W hx => len_any (.agg #[.slice ap np cp]) m 67 W hx (by decide) (Nat.lt_of_lt_of_le hm (Nat.le_trans (Nat.pow_le_pow_right (by decide) hE) (pow_nine 600 67 (by decide)))))
    rw [← hL] at H69
    have H93 := hide (fun W x (hx : IsBig W x 1) => by
      have h := shift_any x 1 q 1 W hx (by decide) (by decide) (by omega)
      rw [Nat.one_mul] at h
      exact h)
    have HQ : Hid ((L : Int) / (n : Int) + 1 = (q : Int)) := by rw [hq]; exact (by rw [Int.natCast_add, Int.natCast_ediv]; rfl : (L : Int) / (n : Int) + 1 = ((L / n + 1 : Nat) : Int))
    have hLb : L ≤ 600 := by omega
    have HQW : Hid (IntKind.i64.wrap (IntKind.i64.wrap ((L : Int) / (n : Int)) + 1) = (q : Int)) := root_wrap L n q hLb (unhide HQ)
    have hn0 : ¬ n = 0 := by omega
    clear hx hm hL hq
    go_enter Tryd.func32, Tryd.ntmps32
    go_upto_region 3 with fail
    have HB0 := hide (res1 (a := .slice ap np cp) (Below.refl (w.heap.size + 2) ((w.alloc (.cells #[.slice ap np cp] 43)).alloc (.cells #[.slice none 0 0] 43))))
    go_cut [5, 6] from 13 (fun s5 s6 wx => ∃ (g g' : Nat) (ha : Option Addr) (hl hc : Nat), s5 = .pointer (some ⟨g, 0, none⟩) ∧ s6 = .pointer (some ⟨g', 0, none⟩) ∧ w.heap.size + 2 ≤ g ∧ w.heap.size + 2 ≤ g' ∧ g ≠ g' ∧ wx.cell? ⟨g, 0, none⟩ = some (.slice none 0 0) ∧ wx.frozen? ⟨g, 0, none⟩ = false ∧ wx.cell? ⟨g', 0, none⟩ = some (.slice ha hl hc) ∧ wx.frozen? ⟨g', 0, none⟩ = false ∧ Hid (IsBig wx (.agg #[.slice ha hl hc]) (10 ^ q)) ∧ Hid (Res1 w wx (.slice ap np cp)))
    case first =>
      have hE0 : ((w.alloc (.cells #[.slice ap np cp] 43)).alloc (.cells #[.slice none 0 0] 43)).heap.size = w.heap.size + 1 + 1 := by simp
      go_region_held3 (fun w' => w'.cell? ⟨w.heap.size, 0, none⟩ = some (.slice ap np cp)) (first | assumption | ((repeat' first | assumption | refine cell_alloc_keep ?_ | refine cell_set_keep ?_ ?_) <;> (simp <;> omega)) | (simp [go_sem]; done))
        (first
          | (go_at_call 41; refine (bigOf_any 1 _ (by decide)).mono ?_; rintro e w2 ⟨ba, bn, bc, rfl, hbig, hb2⟩; have HT2 : Hid (Below (w.heap.size + 1 + 1) ((w.alloc (.cells #[.slice ap np cp] 43)).alloc (.cells #[.slice none 0 0] 43)) w2) := (by rw [← hE0]; first | exact upto0d hb2 | exact upto1 (upto0d hb2) | exact upto2 (upto0d hb2)); have HB2 := hide ((unhide HB0).on (unhide HT2)); have HBIG := hide hbig; have b2 := (unhide HB2).c1; have m2 : w.heap.size < w2.heap.size := World.block_lt_of_cell? _ _ b2; (first | (have hh := new2d (W0 := ((w.alloc (.cells #[.slice ap np cp] 43)).alloc (.cells #[.slice none 0 0] 43))) hb2; rw [hE0] at hh; have HA2 := hide hh.1; have HC2 := hide hh.2; clear hh) | (have hh := new1d (W0 := ((w.alloc (.cells #[.slice ap np cp] 43)).alloc (.cells #[.slice none 0 0] 43))) hb2; rw [hE0] at hh; have HA2 := hide hh; clear hh) | skip); clear hbig hb2)
          | (go_at_call 47; refine (unhide H69 _ ((unhide HX).later (by first | exact (unhide HB2).below | exact (unhide HB2).below.alloc (unhide HB2).below.size _ | exact ((unhide HB2).below.alloc (unhide HB2).below.size _).alloc (by have := (unhide HB2).below.size; simp; omega) _))).mono ?_; rintro e w3 ⟨rfl, hb3⟩; have HT3 : Hid (Below w2.heap.size w2 w3) := (by first | exact hb3 | exact upto1 hb3 | exact upto2 hb3); have HB3 := hide ((unhide HB2).on ((unhide HT3).mono (unhide HB2).size)); have HBIG3 := hide ((unhide HBIG).later (unhide HT3)); have b3 := (unhide HB3).c1; have m3 : w.heap.size < w3.heap.size := World.block_lt_of_cell? _ _ b3; (try (have HA3 := hide (box_later (unhide HT3) (g := w.heap.size + 1 + 1) (World.block_lt_of_cell? _ _ (unhide HA2).1) (unhide HA2).1 (unhide HA2).2))); (try (have HC3 := hide (box_later (unhide HT3) (g := w.heap.size + 1 + 1 + 1) (World.block_lt_of_cell? _ _ (unhide HC2).1) (unhide HC2).1 (unhide HC2).2))); (first | (have hh := new2 (W0 := w2) hb3; have HD3 := hide hh.1; have HE3 := hide hh.2; clear hh) | (have hh := new1 (W0 := w2) hb3; have HD3 := hide hh; clear hh) | skip); clear hb3 b2)
          | (go_at_call 50; rw [unhide HQW]; refine (unhide H93 _ _ (by first | exact unhide HBIG3 | exact (unhide HBIG3).later ((Below.refl _ _).alloc (Nat.le_refl _) _) | exact (unhide HBIG3).later (((Below.refl _ _).alloc (Nat.le_refl _) _).alloc (by simp) _))).mono ?_; rintro e w4 ⟨ha, hl, hc, rfl, hbig4, hb4⟩; have HT4 : Hid (Below w3.heap.size w3 w4) := (by first | exact hb4 | exact upto1 hb4 | exact upto2 hb4); have HB4 := hide ((unhide HB3).on ((unhide HT4).mono (unhide HB3).size)); have HBIG4 := hide hbig4; have b4 := (unhide HB4).c1; have l0 : w.heap.size < w4.heap.size := World.block_lt_of_cell? _ _ b4; (try (have HA4 := hide (box_later (unhide HT4) (g := w.heap.size + 1 + 1) (World.block_lt_of_cell? _ _ (unhide HA3).1) (unhide HA3).1 (unhide HA3).2))); (try (have HC4 := hide (box_later (unhide HT4) (g := w.heap.size + 1 + 1 + 1) (World.block_lt_of_cell? _ _ (unhide HC3).1) (unhide HC3).1 (unhide HC3).2))); (try (have HD4 := hide (box_later (unhide HT4) (g := w2.heap.size) (World.block_lt_of_cell? _ _ (unhide HD3).1) (unhide HD3).1 (unhide HD3).2))); (try (have HE4 := hide (box_later (unhide HT4) (g := w2.heap.size + 1) (World.block_lt_of_cell? _ _ (unhide HE3).1) (unhide HE3).1 (unhide HE3).2))); (first | (have hh := new2 (W0 := w3) hb4; have HF4 := hide hh.1; have HG4 := hide hh.2; clear hh) | (have hh := new1 (W0 := w3) hb4; have HF4 := hide hh; clear hh) | skip); have nAD : Hid (w.heap.size + 2 ≤ w2.heap.size ∧ w2.heap.size ≤ w3.heap.size ∧ w3.heap.size ≤ w4.heap.size) := ⟨(unhide HB2).size, (unhide HT3).size, (unhide HT4).size⟩; (try (have hh := Nat.lt_of_lt_of_le (World.block_lt_of_cell? _ _ (unhide HA2).1) (Nat.le_refl w2.heap.size); have k1 : ¬ w.heap.size + 1 + 1 = w2.heap.size := Nat.ne_of_lt hh; have k2 : ¬ w2.heap.size = w.heap.size + 1 + 1 := Nat.ne_of_gt hh; have k3 : ¬ w.heap.size + 1 + 1 = w3.heap.size := Nat.ne_of_lt (Nat.lt_of_lt_of_le hh (unhide nAD).2.1); have k4 : ¬ w3.heap.size = w.heap.size + 1 + 1 := Nat.ne_of_gt (Nat.lt_of_lt_of_le hh (unhide nAD).2.1); clear hh)); (try (have hh := Nat.lt_of_lt_of_le (World.block_lt_of_cell? _ _ (unhide HD3).1) (Nat.le_refl w3.heap.size); have k5 : ¬ w2.heap.size = w3.heap.size := Nat.ne_of_lt hh; have k6 : ¬ w3.heap.size = w2.heap.size := Nat.ne_of_gt hh; clear hh)); (try (obtain ⟨cA, fA⟩ := unhide HA4; have lA : w.heap.size + 1 + 1 < w4.heap.size := World.block_lt_of_cell? _ _ cA)); (try (obtain ⟨cC, fC⟩ := unhide HC4; have lC : w.heap.size + 1 + 1 + 1 < w4.heap.size := World.block_lt_of_cell? _ _ cC)); (try (obtain ⟨cD, fD⟩ := unhide HD4; have lD : w2.heap.size < w4.heap.size := World.block_lt_of_cell? _ _ cD)); (try (obtain ⟨cE, fE⟩ := unhide HE4; have lE : w2.heap.size + 1 < w4.heap.size := World.block_lt_of_cell? _ _ cE)); (try (obtain ⟨cF, fF⟩ := unhide HF4; have lF : w3.heap.size < w4.heap.size := World.block_lt_of_cell? _ _ cF)); (try (obtain ⟨cG, fG⟩ := unhide HG4; have lG : w3.heap.size + 1 < w4.heap.size := World.block_lt_of_cell? _ _ cG)); clear hbig4 hb4 b3))
      all_goals (
        go_wp2_with fail
        go_meet
        have hAD := unhide nAD
        refine ⟨_, _, ha, hl, hc, rfl, rfl, by omega, by omega, by omega, ?_, ?_, ?_, ?_, ?_, ?_⟩
        · first | (simp [go_sem, *]; done) | (rw [World.cell?_setCell_other _ _ _ _ (by simp <;> omega)]; first | (simp [go_sem, *]; done) | exact World.cell?_setCell_same _ _ _ (by simp [go_sem, *]))
        · simp [go_sem, *]
        · first | (simp [go_sem, *]; done) | exact World.cell?_setCell_same _ _ _ (by simp [go_sem, *])
        · simp [go_sem, *]
        · show IsBig _ _ _
          repeat' first | exact unhide HBIG4 | refine big_alloc ?_ | refine big_store ?_ ?_
          all_goals (simp [go_sem, *])
        · refine (unhide HB4).on ?_
          repeat' first | exact Below.refl _ _ | refine Below.alloc ?_ ?_ _ | refine Below.setCell ?_ ?_ _
          all_goals (first | omega | (simp <;> omega)))
    case rest =>
      obtain ⟨g, g', ha, hl, hc, rfl, rfl, hg, hg', hgg, cg, fg, ch, fh, HBIG, HB⟩ := hcut
      clear HB0
      have bB := (unhide HB).c1
      have HXc := hide ((unhide HX).later (unhide HB).below)
      go_wp2_with (go_at_call 41; go_must (refine (bigOf_any 2 _ (by decide)).mono ?_; rintro e w5 ⟨ta, tn, tc, rfl, hbig5, hb5⟩; have HST := hide (RootSt.start (unhide HB) cg fg ch fh (unhide HXc) (unhide HBIG) hb5 hbig5); have s5 := hb5.size; have lg := Nat.lt_of_lt_of_le (World.block_lt_of_cell? _ _ cg) s5; have lg' := Nat.lt_of_lt_of_le (World.block_lt_of_cell? _ _ ch) s5; clear hbig5 hb5))
      clear cg fg ch fh HBIG HB bB HXc
      have HBT : Hid (Cub.Between m n 0 (10 ^ q)) := by rw [(unhide HT).2]; exact Cub.Between.start m n L hn (unhide HM)
      have hq9 := pow_nine 601 67 (by decide)
      have HQ9 : Hid ((10 : Nat) ^ q ≤ 1000000000 ^ 67) := Nat.le_trans (Nat.pow_le_pow_right (by decide) hq2) hq9
      have HTE := hide (unhide HT).2
      clear hq9 HT H69 H93 HQ HQW
      go_loopg [8] (10 ^ q) (fun k s8 wr => ∃ (lo hi : Nat) (la : Option Addr) (ln lc : Nat) (ha : Option Addr) (hl hc : Nat), Hid (k = hi - lo ∧ Cub.Between m n lo hi ∧ hi ≤ 10 ^ q) ∧ Hid (RootSt w wr g g' w5.heap.size (.slice ap np cp) (.slice la ln lc) (.slice ha hl hc) (.slice ta tn tc) m lo hi))
      case atStart => exact ⟨0, 10 ^ q, none, 0, 0, ha, hl, hc, ⟨(Nat.sub_zero _).symm, unhide HBT, Nat.le_refl _⟩, HST⟩
      case round =>
        clear HST HBT
        obtain ⟨lo, hi, la, ln, lc, ha, hl, hc, HI, HR⟩ := hrel
        have hlt := (unhide HI).2.1.lt
        have hB : hi ≤ 1000000000 ^ 67 := Nat.le_trans (unhide HI).2.2 (unhide HQ9)
        have hB1 : (1000000000 : Nat) ^ 67 < 1000000000 ^ 68 := Nat.pow_lt_pow_right (by decide) (by decide)
        have hB2 : 1000000000 ^ 67 + 1000000000 ^ 67 ≤ 1000000000 ^ 68 := by rw [Nat.pow_succ 1000000000 67]; generalize (1000000000 : Nat) ^ 67 = B; omega
        have hB3 : lo < 1000000000 ^ 68 ∧ hi < 1000000000 ^ 68 ∧ lo + hi < 1000000000 ^ 68 := by
          generalize (1000000000 : Nat) ^ 68 = B at *
          generalize (1000000000 : Nat) ^ 67 = C at *
          omega
        obtain ⟨mid, hmid⟩ : ∃ mid, mid = (lo + hi) / 2 := ⟨_, rfl⟩
        have hml : lo ≤ mid ∧ mid < hi := by omega
        have H45 := hide (fun W x y (hx : IsBig W x lo) (hy : IsBig W y hi) => addS x y lo hi (lo + hi) 68 W hx hy (by decide) hB3.1 hB3.2.1 rfl)
        have H57 := hide (fun W x y (hx : IsBig W x (lo + hi)) (hy : IsBig W y 2) => by
          have h := divMod_core x y (lo + hi) 2 68 W hx hy (by decide) hB3.2.2 (by decide) (fun h => absurd h (by decide))
          rw [← hmid] at h
          exact h)
        have hP := Nat.lt_of_lt_of_le (Cub.mid_small L n 4700 mid (by rw [← unhide HTE]; exact Nat.lt_of_lt_of_le hml.2 (unhide HI).2.2) hn (by omega)) (pow_nine 4700 523 (by decide))
        have hM := lt_more mid 68 523 (Nat.lt_trans hml.2 hB3.2.1) (by decide)
        have H63 := hide (fun W x (hx : IsBig W x mid) => bigPow_any x mid n 523 W hx (by omega) (by decide) (by decide) hP hM)
        have HMID := hide hmid
        clear hP hM hB hB1 hB2 hB3 hmid
        have hbb := (unhide HR).b
        have hcl := (unhide HR).l
        have hch := (unhide HR).h
        have hct := (unhide HR).t
        have lr1 : g < wr.heap.size := World.block_lt_of_cell? _ _ hcl
        have lr2 : g' < wr.heap.size := World.block_lt_of_cell? _ _ hch
        have lr3 : w5.heap.size < wr.heap.size := World.block_lt_of_cell? _ _ hct
        go_upto_region 5 with fail
        go_cut [8, 9] from 22 to 42 (fun s8 s9 wx => ∃ (g8 g9 : Nat) (ma : Option Addr) (ml mc : Nat), s8 = .pointer (some ⟨g8, 0, none⟩) ∧ s9 = .pointer (some ⟨g9, 0, none⟩) ∧ wx.cell? ⟨g8, 0, none⟩ = some (.slice ma ml mc) ∧ Hid (IsBig wx (.agg #[.slice ma ml mc]) mid) ∧ Hid (RootSt w wx g g' w5.heap.size (.slice ap np cp) (.slice la ln lc) (.slice ha hl hc) (.slice ta tn tc) m lo hi))
        case first =>
          go_region_held3 (fun w' => w'.cell? ⟨g, 0, none⟩ = some (.slice la ln lc) ∧ w'.cell? ⟨g', 0, none⟩ = some (.slice ha hl hc) ∧ w'.cell? ⟨w5.heap.size, 0, none⟩ = some (.slice ta tn tc)) (first | assumption | (refine ⟨?_, ?_, ?_⟩ <;> first | assumption | (simp [go_sem, *]; done) | ((repeat' first | assumption | refine cell_alloc_keep ?_ | refine cell_set_keep ?_ ?_) <;> (simp <;> omega))) | (simp [go_sem, *]; done) | ((repeat' first | assumption | refine cell_alloc_keep ?_ | refine cell_set_keep ?_ ?_) <;> (simp <;> omega)))
            (first
              | (go_at_call 38; refine (unhide H45 _ _ _ ((unhide HR).bigL.later (by first | exact (Below.refl _ _).drew | exact ((Below.refl _ _).alloc (Nat.le_refl _) _).drew | exact (((Below.refl _ _).alloc (Nat.le_refl _) _).alloc (by simp) _).drew)) ((unhide HR).bigH.later (by first | exact (Below.refl _ _).drew | exact ((Below.refl _ _).alloc (Nat.le_refl _) _).drew | exact (((Below.refl _ _).alloc (Nat.le_refl _) _).alloc (by simp) _).drew))).mono ?_; rintro e w2 ⟨xa, xn, xc, rfl, hx2, hb2⟩; have HT2 : Hid (Below wr.heap.size wr w2) := (by first | exact upto0d hb2 | exact upto1 (upto0d hb2) | exact upto2 (upto0d hb2)); have HX2 := hide hx2; have HR2 := hide ((unhide HR).later (unhide HT2)); have b2 : w2.cell? ⟨g, 0, none⟩ = some (.slice la ln lc) ∧ w2.cell? ⟨g', 0, none⟩ = some (.slice ha hl hc) ∧ w2.cell? ⟨w5.heap.size, 0, none⟩ = some (.slice ta tn tc) := ⟨(unhide HR2).l, (unhide HR2).h, (unhide HR2).t⟩; obtain ⟨b2a, b2b, b2c⟩ := b2; have m2 : wr.heap.size ≤ w2.heap.size := (unhide HT2).size; (first | (have hh := new2d (W0 := wr) hb2; have HA2 := hide hh.1; have HC2 := hide hh.2; clear hh) | (have hh := new1d (W0 := wr) hb2; have HA2 := hide hh; clear hh) | skip); clear hx2 hb2)
              | (go_at_call 20; refine (unhide H57 _ _ _ ((unhide HX2).later (by first | exact Below.refl _ _ | exact (Below.refl _ _).alloc (Nat.le_refl _) _ | exact ((Below.refl _ _).alloc (Nat.le_refl _) _).alloc (by simp) _)) ((unhide HR2).bigT.later (by first | exact Below.refl _ _ | exact (Below.refl _ _).alloc (Nat.le_refl _) _ | exact ((Below.refl _ _).alloc (Nat.le_refl _) _).alloc (by simp) _))).mono ?_; rintro e w3 ⟨ma, ml, mc, ra, rl, rc, rfl, hm3, hr3, hb3⟩; have HT3 : Hid (Below w2.heap.size w2 w3) := (by first | exact hb3 | exact upto1 hb3 | exact upto2 hb3); have HM3 := hide hm3; have HR3 := hide ((unhide HR2).later (unhide HT3)); have b3 : w3.cell? ⟨g, 0, none⟩ = some (.slice la ln lc) ∧ w3.cell? ⟨g', 0, none⟩ = some (.slice ha hl hc) ∧ w3.cell? ⟨w5.heap.size, 0, none⟩ = some (.slice ta tn tc) := ⟨(unhide HR3).l, (unhide HR3).h, (unhide HR3).t⟩; obtain ⟨b3a, b3b, b3c⟩ := b3; have m3 : w2.heap.size ≤ w3.heap.size := (unhide HT3).size; (try (have HA3 := hide (box_later (unhide HT3) (g := wr.heap.size) (World.block_lt_of_cell? _ _ (unhide HA2).1) (unhide HA2).1 (unhide HA2).2))); (try (have HC3 := hide (box_later (unhide HT3) (g := wr.heap.size + 1) (World.block_lt_of_cell? _ _ (unhide HC2).1) (unhide HC2).1 (unhide HC2).2))); (first | (have hh := new2 (W0 := w2) hb3; have HD3 := hide hh.1; have HE3 := hide hh.2; clear hh) | (have hh := new1 (W0 := w2) hb3; have HD3 := hide hh; clear hh) | skip); (try (have hh : wr.heap.size < w2.heap.size := World.block_lt_of_cell? _ _ (unhide HA2).1; have k1 : ¬ wr.heap.size = w2.heap.size := Nat.ne_of_lt hh; have k2 : ¬ w2.heap.size = wr.heap.size := Nat.ne_of_gt hh; clear hh)); (try (obtain ⟨cA, fA⟩ := unhide HA3; have lA : wr.heap.size < w3.heap.size := World.block_lt_of_cell? _ _ cA)); (try (obtain ⟨cC, fC⟩ := unhide HC3; have lC : wr.heap.size + 1 < w3.heap.size := World.block_lt_of_cell? _ _ cC)); (try (obtain ⟨cD, fD⟩ := unhide HD3; have lD : w2.heap.size < w3.heap.size := World.block_lt_of_cell? _ _ cD)); (try (obtain ⟨cE, fE⟩ := unhide HE3; have lE : w2.heap.size + 1 < w3.heap.size := World.block_lt_of_cell? _ _ cE)); clear hm3 hr3 hb3 b2a b2b b2c))
          all_goals (
            go_wp2_with fail
            go_meet
            have hW : Hid (Below wr.heap.size wr w3) := (unhide HT2).trans ((unhide HT3).mono m2)
            refine ⟨_, _, ma, ml, mc, rfl, rfl, ?_, ?_, ?_⟩
            · first | (simp [go_sem, *]; done) | (rw [World.cell?_setCell_other _ _ _ _ (by simp <;> omega)]; first | (simp [go_sem, *]; done) | exact World.cell?_setCell_same _ _ _ (by simp [go_sem, *]))
            · show IsBig _ _ _
              repeat' first | exact unhide HM3 | refine big_alloc ?_ | refine big_store ?_ ?_
              all_goals (simp [go_sem, *])
            · refine (unhide HR).later ?_
              repeat' first | exact unhide hW | refine Below.alloc ?_ ?_ _ | refine Below.setCell ?_ ?_ _
              all_goals (first | omega | (simp <;> omega)))
        case rest =>
          obtain ⟨g8, g9, ma, ml, mc, rfl, rfl, cm, HM, HS⟩ := hcut
          clear HR hbb hcl hch hct lr1 lr2 lr3 H45 H57
          have hcl := (unhide HS).l
          have H50a := hide (fun W x y (hx : IsBig W x mid) (hy : IsBig W y lo) => cmp_any x y mid lo W hx hy)
          by_cases hdone : mid = lo
          · have HROOT := hide ((unhide HI).2.1.done hn (by rw [← unhide HMID]; exact hdone))
            rw [hdone, Cub.cmpN_eq] at H50a
            rw [hdone] at HM
            clear hdone H63 HMID HI hlt hml
            go_wp2_with (go_at_call 27; go_must (refine (unhide H50a _ _ _ (unhide HM) (unhide HS).bigL).mono ?_; rintro e w6 ⟨rfl, hb6⟩; have HS6 := hide ((unhide HS).later hb6); have c6 := (unhide HS6).l; have r6 := (unhide HS6).r; have rf6 := (unhide HS6).rf; clear hb6))
            refine bodyPost_ret (v := .agg #[.slice la ln lc]) (by simp [results, Tryd.results32, go_sem, r6]) rfl ⟨_, _, _, rfl, ?_, ?_⟩
            · rw [← unhide HROOT]; exact (unhide HS6).bigL.box _ r6 (no_int _ _ _)
            · exact (unhide HS6).below.setCell (by simp) _
          · have hc0 : ((Cub.cmpN mid lo : Int) == 0) = false := by
              rw [beq_eq_false_iff_ne, Cub.cmpN_gt (show lo < mid by omega)]; decide
            generalize Cub.cmpN mid lo = c0 at *
            have HIH : Hid (∀ (_ : m < mid ^ n), mid - lo < gk ∧ (Cub.Between m n lo mid ∧ mid ≤ 10 ^ q)) := fun h => ⟨by have := (unhide HI).1; omega, ⟨(unhide HI).2.1.1, h⟩, by have := (unhide HI).2.2; omega⟩
            have HIL : Hid (∀ (_ : mid ^ n ≤ m), hi - mid < gk ∧ (Cub.Between m n mid hi ∧ hi ≤ 10 ^ q)) := fun h => ⟨by have := (unhide HI).1; omega, ⟨h, (unhide HI).2.1.2⟩, (unhide HI).2.2⟩
            have H50b := hide (fun W x y (hx : IsBig W x (mid ^ n)) (hy : IsBig W y m) => cmp_any x y (mid ^ n) m W hx hy)
            clear hdone HMID HI hlt hml
            by_cases hgt : m < mid ^ n
            · rw [Cub.cmpN_gt hgt] at H50b
              have HIH' := hide (unhide HIH hgt)
              clear HIH HIL hgt
              generalize mid ^ n = PW at *
              go_upto_region 8 with (go_at_call 27; go_must (refine (unhide H50a _ _ _ (unhide HM) (unhide HS).bigL).mono ?_; rintro e w6 ⟨rfl, hb6⟩; have HS6 := hide ((unhide HS).later hb6); have HM6 := hide ((unhide HM).later hb6); have c6 := (hb6.cell (p := ⟨g8, 0, none⟩) (World.block_lt_of_cell? _ _ cm)).trans cm; have b6 := (unhide HS6).b; clear hb6))
              go_region_held3 (fun w' => w'.cell? ⟨g8, 0, none⟩ = some (.slice ma ml mc) ∧ w'.cell? ⟨w.heap.size, 0, none⟩ = some (.slice ap np cp)) (first | assumption | (refine ⟨?_, ?_⟩ <;> first | assumption | (simp [go_sem, *]; done)) | (simp [go_sem, *]; done))
                (first
                  | (go_at_call 31; refine (unhide H63 _ _ ((unhide HM6).later ((Below.refl _ _).drew))).mono ?_; rintro e w7 ⟨pa, pn, pc, rfl, hp7, hb7⟩; have hb7' := upto0d hb7; have HS7 := hide ((unhide HS6).later hb7'); have HM7 := hide ((unhide HM6).later hb7'); have HP7 := hide hp7; have c7 := (hb7'.cell (p := ⟨g8, 0, none⟩) (World.block_lt_of_cell? _ _ c6)).trans c6; have b7 := (unhide HS7).b; clear hp7 hb7 hb7')
                  | (go_at_call 27; refine (unhide H50b _ _ _ (unhide HP7) (unhide HS7).bigB).mono ?_; rintro e w8 ⟨rfl, hb8⟩; have HS8 := hide ((unhide HS7).later hb8); have HM8 := hide ((unhide HM7).later hb8); have c8 := (hb8.cell (p := ⟨g8, 0, none⟩) (World.block_lt_of_cell? _ _ c7)).trans c7; have b8 := (unhide HS8).b; have h8 := (unhide HS8).h; have hf8 := (unhide HS8).hf; clear hb8))
              all_goals (
                go_wp2
                go_roundg (mid - lo)
                case measure => exact (unhide HIH').1
                case rel => exact ⟨lo, mid, la, ln, lc, ma, ml, mc, ⟨rfl, (unhide HIH').2⟩, (unhide HS8).setH hg' hgg (by omega) (no_int _ _ _) (unhide HM8)⟩)
            · have hle : mid ^ n ≤ m := by omega
              have hcmp := cmpN_not (mid ^ n) m hle
              have HIL' := hide (unhide HIL hle)
              clear HIH HIL hgt hle
              generalize Cub.cmpN (mid ^ n) m = c1 at *
              generalize mid ^ n = PW at *
              go_upto_region 8 with (go_at_call 27; go_must (refine (unhide H50a _ _ _ (unhide HM) (unhide HS).bigL).mono ?_; rintro e w6 ⟨rfl, hb6⟩; have HS6 := hide ((unhide HS).later hb6); have HM6 := hide ((unhide HM).later hb6); have c6 := (hb6.cell (p := ⟨g8, 0, none⟩) (World.block_lt_of_cell? _ _ cm)).trans cm; have b6 := (unhide HS6).b; clear hb6))
              go_region_held3 (fun w' => w'.cell? ⟨g8, 0, none⟩ = some (.slice ma ml mc) ∧ w'.cell? ⟨w.heap.size, 0, none⟩ = some (.slice ap np cp)) (first | assumption | (refine ⟨?_, ?_⟩ <;> first | assumption | (simp [go_sem, *]; done)) | (simp [go_sem, *]; done))
                (first
                  | (go_at_call 31; refine (unhide H63 _ _ ((unhide HM6).later ((Below.refl _ _).drew))).mono ?_; rintro e w7 ⟨pa, pn, pc, rfl, hp7, hb7⟩; have hb7' := upto0d hb7; have HS7 := hide ((unhide HS6).later hb7'); have HM7 := hide ((unhide HM6).later hb7'); have HP7 := hide hp7; have c7 := (hb7'.cell (p := ⟨g8, 0, none⟩) (World.block_lt_of_cell? _ _ c6)).trans c6; have b7 := (unhide HS7).b; clear hp7 hb7 hb7')
                  | (go_at_call 27; refine (unhide H50b _ _ _ (unhide HP7) (unhide HS7).bigB).mono ?_; rintro e w8 ⟨rfl, hb8⟩; have HS8 := hide ((unhide HS7).later hb8); have HM8 := hide ((unhide HM7).later hb8); have c8 := (hb8.cell (p := ⟨g8, 0, none⟩) (World.block_lt_of_cell? _ _ c7)).trans c7; have b8 := (unhide HS8).b; have l8 := (unhide HS8).l; have lf8 := (unhide HS8).lf; clear hb8))
              all_goals (
                go_wp2
                go_roundg (hi - mid)
                case measure => exact (unhide HIL').1
                case rel => exact ⟨mid, hi, ma, ml, mc, ha, hl, hc, ⟨rfl, (unhide HIL').2⟩, (unhide HS8).setL hg hgg (by omega) (no_int _ _ _) (unhide HM8)⟩)
end Go.Proofs.YtlodfcdckeiafabDoor

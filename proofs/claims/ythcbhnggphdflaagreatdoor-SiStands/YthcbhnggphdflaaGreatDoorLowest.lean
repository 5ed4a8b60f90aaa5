/- rat.lowest: both divided by what they share. -/
import Derived.Test.YthcbhnggphdflaaGreatDoorLimb2
import Derived.Test.YthcbhnggphdflaaGreatDoorShelf
import Derived.Lib.AppendIntMem
import Derived.Test.YthcbhnggphdflaaGreatDoorCards
import Derived.Test.YthcbhnggphdflaaGreatDoorTie
import Derived.WalkKit
import Derived.ProofKit
import Derived.OpenShut
import Derived.ChangeSame
import Derived.Deep.DeepHandedRow
import Derived.Lib.LaidTab
import Derived.LaidSub
import Derived.LaidLaws
import Derived.Carry
import Derived.BigQuiet
import Derived.Deep.Cut
import Derived.WalkSmall
namespace Go.Proofs.YthcbhnggphdflaaGreatDoor
open Go.RowKit
/-- The table of the powers of ten lies as its initialiser lays it. -/
def Tab (w : World) : Prop := Lib.TabIs Tryz.prog w "internal/strconv.uint64pow10" .u64 Lib.pow10Tab
theorem Tab.later {w w' : World} (h : Tab w) (hb : Below w.heap.size w w') : Tab w' := Lib.tabBelow_of_tabIs h w' hb
theorem appendUint_any (B n u : Nat) (hu : u < 18446744073709551616) (sv : Value) (xs : List Value) (w : World) (hown : w.ownsRow B 5 1 sv n xs) (hBw : B ≤ w.heap.size) (hlim : n + 20 ≤ 140737488355328) (htab : Tab w) :
  Calls Tryz.prog 130 #[sv, .int .u64 u, I 10] w fun e w' => ∃ v', e = .returned v' ∧ w'.ownsRow B 5 1 v' (n + (Lib.decDigits u).length) (xs ++ Lib.byteCells (Lib.decDigits u)) ∧ Below B w w' := by
 have HO := hide hown
 have HT := hide htab
 clear hown htab
 go_enter Tryz.func130, Tryz.ntmps130
 go_wp2_with (go_at_call 178; refine (Tryz.internal_strconv_AppendUint_10 B n u hu sv xs _ (un HO) hBw hlim (un HT)).mono ?_; rintro e w2 ⟨v', rfl, h1, h2, _⟩)
 go_ret
 exact ⟨v', rfl, h1, h2⟩
set_option maxRecDepth 100000 in
set_option maxHeartbeats 1000000 in
theorem text_any (v : Value) (n k : Nat) (w : World) (h : IsBig w v n) (hk : k ≤ 1000000) (hn : n < 1000000000 ^ k) (htab : Tab w) :
  Calls Tryz.prog 98 #[v] w fun e w' => e = .returned (.string ⟨(Lib.decDigits n).toArray⟩) ∧ Below w.heap.size w w' := by
 have H := hide h
 have HT := hide htab
 obtain ⟨a, l, cap, rfl, hl, hr, hnm, rfl⟩ := h.form
 have hlk := Cub.len_le hnm hn
 clear hn hl h htab
 by_cases h0 : l = []
 ·subst h0
  have e1 : Lib.decDigits (Cub.lval 1000000000 []) = [48] := by decide +kernel
  rw [e1]
  clear e1
  go_enter Tryz.func98, Tryz.ntmps98
  go_wp2_with (go_at_call 94; refine (isZero_any _ _ _ ((un H).later ((Below.refl _ _).alloc (Nat.le_refl _) _))).mono ?_; rintro e w2 ⟨rfl, hb2⟩)
  go_ret
  exact ⟨rfl, ((Below.refl _ _).alloc (Nat.le_refl _) _).trans (hb2.mono (by simp))⟩
 ·have hlp : 0 < l.length := by cases l with | nil => exact absurd rfl h0 | cons a t => simp
  obtain ⟨len, hlen⟩ : ∃ len, len = l.length := ⟨_, rfl⟩
  rw [← hlen] at H hr hlk hlp ⊢
  have hz : (Cub.lval 1000000000 l == 0) = false := by
   rw [beq_eq_false_iff_ne]; intro e; exact h0 ((Cub.normal_zero hnm (by decide)).1 e)
  obtain ⟨a', cap', ev, hc, hm, hcells⟩ := hr
  simp only [Value.slice.injEq] at ev
  obtain ⟨rfl, hdum, rfl⟩ := ev
  clear hdum
  obtain ⟨b, o, rfl, hbw, hcell⟩ := hcells h0
  have HC : Hid (∀ W, Below w.heap.size w W → ∀ i (hi : i < l.length), W.cell? ⟨b, o + i, none⟩ = some (.int .u64 (l[i] : Int))) := fun W hW i hi => (hW.cell (p := ⟨b, o + i, none⟩) hbw).trans (hcell i hi)
  have HZ := hide hz
  have HN := hide hnm
  have HLen := hide hlen
  clear hcell hcells hz h0 hnm hlen hc hm
  obtain ⟨m, rfl⟩ : ∃ m, len = m + 1 := ⟨len - 1, by omega⟩
  have hml : m < l.length := by have := un HLen; omega
  obtain ⟨x, hx⟩ : ∃ x, x = l[m] := ⟨_, rfl⟩
  have hxB : x < 1000000000 := by rw [hx]; exact (un HN).1 _ (List.getElem_mem hml)
  have HX : Hid (∀ W, Below w.heap.size w W → W.cell? ⟨b, o + m, none⟩ = some (.int .u64 (x : Int))) := fun W hW => by rw [hx]; exact un HC W hW m hml
  have HXl := hide hx
  clear hx hlp
  obtain ⟨i5, hi5, hz50, hz51, hz52⟩ := info_parts Tryz.info5
  go_enter Tryz.func98, Tryz.ntmps98
  go_wp2_with (first
   | (go_at_call 94; refine (isZero_any _ _ _ ((un H).later ((Below.refl _ _).alloc (Nat.le_refl _) _))).mono ?_; rintro e w2 ⟨rfl, hb2⟩; rw [un HZ]; obtain ⟨hcb, _⟩ := box_later hb2 (g := w.heap.size) (x := .slice (some ⟨b, o, none⟩) (m + 1) cap) (by simp) (by simp) (by simp); have hb3 := ((Below.refl w.heap.size w).alloc (Nat.le_refl _) (.cells #[.slice (some ⟨b, o, none⟩) (m + 1) cap] 116)).trans (hb2.mono (by simp)); have hs2 : w.heap.size + 1 ≤ w2.heap.size := (by have := hb2.size; simpa using this); clear hb2)
   | (at_make; refine wpList_make_own _ rfl _ _ 179 rfl (w.heap.size + 1) 5 i5 (.int .u8 0) 1 Tryz.underlying179 hi5 hz50 hz51 .i64 .i64 _ ((m + 1) * 9) rfl rfl (by omega) (by rw [hz52]; omega) (by unfold maxLen; omega) hs2 ?_; intro w3 hown3 hgrow3; have hb4 : Below (w.heap.size + 1) w2 w3 := (Below.refl _ _).grown hgrow3 hs2 (fun k hk => by cases hk); have hcb3 := (hb4.cell (p := ⟨w.heap.size, 0, none⟩) (Nat.lt_succ_self _)).trans hcb; have hb5 := hb3.trans (hb4.mono (Nat.le_succ _)); have hx3 := un HX w3 hb5; have hs3 : w.heap.size + 1 ≤ w3.heap.size := (by have := hb4.size; omega); have HO3 := hide hown3; clear hown3 hgrow3 hb4 hcb)
   | (go_at_call 130; refine (appendUint_any (w.heap.size + 1) 0 x (by omega) _ [] _ (un HO3) hs3 (by omega) ((un HT).later hb5)).mono ?_; rintro e w4 ⟨v4, rfl, hown4, hb6⟩; have hcb4 := (hb6.cell (p := ⟨w.heap.size, 0, none⟩) (Nat.lt_succ_self _)).trans hcb3; have hb7 := hb5.trans (hb6.mono (Nat.le_succ _)); have hs4 : w.heap.size + 1 ≤ w4.heap.size := (by have := hb6.size; omega); have HO4 := hide hown4; clear hown4 hb6 hcb3))
  have hT0 : (Lib.decDigits x).length ≤ 9 := by rw [Lib.decDigits_length]; exact Cub.nDigits_le9 x hxB
  have hst : w4.ownsRow (w.heap.size + 1) 5 1 v4 (Lib.decDigits x).length (Lib.byteCells (Lib.decDigits x)) := by simpa using un HO4
  have HT0 : Hid (Lib.decDigits x = Lib.decDigits (Cub.lval 1000000000 (l.drop m))) := by
   have e : l.drop m = [x] := by
    rw [List.drop_eq_getElem_cons hml, ← un HXl, List.drop_of_length_le (by have := un HLen; omega)]
   rw [e]; exact (by simp [Cub.lval] : Lib.decDigits x = Lib.decDigits (Cub.lval 1000000000 [x]))
  clear HO4 hx3
  go_loopw [4, 5] (fun v i wr => ∃ (j : Nat) (T : List UInt8), j ≤ m ∧ i = I ((j : Int) - 1) ∧ T.length ≤ 9 * (m + 1 - j) ∧ Hid (T = Lib.decDigits (Cub.lval 1000000000 (l.drop j))) ∧
    wr.ownsRow (w.heap.size + 1) 5 1 v T.length (Lib.byteCells T) ∧ wr.cell? ⟨w.heap.size, 0, none⟩ = some (.slice (some ⟨b, o, none⟩) (m + 1) cap) ∧ Below w.heap.size w wr ∧ w.heap.size + 1 ≤ wr.heap.size)
   (fun _ i _ => (intOf i + 1).toNat)
  case atStart => exact ⟨m, Lib.decDigits x, Nat.le_refl _, rfl, by omega, HT0, hst, hcb4, hb7, hs4⟩
  case round =>
   obtain ⟨j, T, hjm, rfl, hTl, HTd, hown, hbox, hbl, hsz⟩ := hrel
   clear hst hcb4 hb7 hs4 hT0 HT0
   by_cases hj0 : j = 0
   ·subst hj0
    have hTpos : 0 < T.length := by
     rw [un HTd]
     cases e : Lib.decDigits (Cub.lval 1000000000 (l.drop 0)) with
     | nil => exact absurd e (Cub.dec_ne_nil _)
     | cons a t => simp
    obtain ⟨g, cg, rfl⟩ := Joins.ownsRow_form hown hTpos
    have hcv := run_convert_bytes_back (P := Tryz.prog) wr 179 9 5 ⟨g, 0, none⟩ cg T Tryz.underlying179 Tryz.underlying5 Tryz.underlying9 (fun q hq => by
     have := hown.cellAt q (by simpa using hq)
     rw [Lib.add_plain, Nat.zero_add, this]
     simp [Lib.byteCells, hq])
    have HTd' : Hid (T = Lib.decDigits (Cub.lval 1000000000 l)) := by have := un HTd; rwa [List.drop_zero] at this
    clear hown HTd
    go_wp2
    go_ret
    exact ⟨by rw [← un HTd']; rfl, hbl⟩
   ·obtain ⟨i, rfl⟩ : ∃ i, j = i + 1 := ⟨j - 1, by omega⟩
    have hil : i < l.length := by have := un HLen; omega
    obtain ⟨d, hd⟩ : ∃ d, d = l[i] := ⟨_, rfl⟩
    have hdB : d < 1000000000 := by rw [hd]; exact (un HN).1 _ (List.getElem_mem hil)
    have HXd : Hid (∀ W, Below w.heap.size w W → W.cell? ⟨b, o + i, none⟩ = some (.int .u64 (d : Int))) := fun W hW => by rw [hd]; exact un HC W hW i hil
    have HDd := hide hd
    clear hd hj0
    rw [show (((i + 1 : Nat) : Int) - 1) = (i : Int) from by omega]
    go_wp2
    go_loopw [4, 6] (fun v u wq => ∃ (q y : Nat) (T' : List UInt8), q ≤ 9 ∧ u = .int .u64 (y : Int) ∧ y ≤ 100000000 ∧ Hid (y = Cub.unitOf q) ∧ T'.length + q ≤ T.length + 9 ∧ Hid (T' = T ++ Cub.padn (9 - q) (d / 10 ^ q)) ∧
      wq.ownsRow (w.heap.size + 1) 5 1 v T'.length (Lib.byteCells T') ∧ wq.cell? ⟨w.heap.size, 0, none⟩ = some (.slice (some ⟨b, o, none⟩) (m + 1) cap) ∧ Below w.heap.size w wq ∧ w.heap.size + 1 ≤ wq.heap.size)
     (fun _ u _ => (intOf u).toNat)
    case atStart => exact ⟨9, 100000000, T, Nat.le_refl _, rfl, Nat.le_refl _, rfl, Nat.le_refl _, (List.append_nil T).symm, hown, hbox, hbl, hsz⟩
    case round =>
     obtain ⟨q, y, T', hq9, rfl, hy, HY, hTl', HT', hown', hbox', hbl', hsz'⟩ := hrel
     clear hown hbox hbl hsz
     by_cases hq0 : q = 0
     ·subst hq0
      have hy0 : y = 0 := un HY
      subst hy0
      have HTn : Hid (T' = Lib.decDigits (Cub.lval 1000000000 (l.drop i))) := by
       rw [Cub.dec_limb l i hil (un HN).1 (Cub.drop_pos (un HN) (i + 1) (by have := un HLen; omega)), ← un HDd, ← un HTd, un HT', Cub.pad_all]; exact rfl
      go_wp2
      go_roundw
      case rel => exact ⟨i, T', by omega, rfl, by omega, HTn, hown', hbox', hbl', hsz'⟩
      case measure => simp [intOf]
     ·obtain ⟨p, rfl⟩ : ∃ p, q = p + 1 := ⟨q - 1, by omega⟩
      have hyp : 0 < y := by rw [un HY]; exact (Cub.unit_pos _).2 (by omega)
      have hyz : ((y : Int) == 0) = false := by rw [beq_eq_false_iff_ne]; omega
      have hxd := un HXd wr hbl'
      clear hq0
      obtain ⟨z, hz⟩ : ∃ z, z = d / y := ⟨_, rfl⟩
      have hzd : z < 1000000000 := by rw [hz]; exact Nat.lt_of_le_of_lt (Nat.div_le_self _ _) hdB
      have hq : (d : Int) / (y : Int) = (z : Int) := by rw [hz]; simp
      have HZd : Hid (z = d / 10 ^ p) := by rw [hz, un HY, Cub.unit_at]; exact rfl
      clear hz
      go_wp2_with (at_builtin; refine wpList_append_own _ rfl _ _ 179 rfl (w.heap.size + 1) 5 i5 (.int .u8 0) 1 1 Tryz.underlying179 hi5 hz50 hz51 hz52 rfl (by decide) _ _ _ rfl (hown'.alloc _) ⟨wr.heap.size, 0, none⟩ 1 1 [.int .u8 (48 + (z : Int) % 10)] rfl rfl (cell_one_new _ _ _) (fun x hx => by simp at hx; subst hx; rfl) (by unfold maxLen; omega) (by omega) (by simp; omega) ?_; intro v' w1 hownN hgrow _)
      have hsN : w.heap.size + 1 ≤ w1.heap.size := by have := hgrow.size; simp at this; omega
      have hbN : Below (w.heap.size + 1) wr w1 := ((Below.refl _ _).alloc (by omega) _).grown hgrow (by simp; omega) (fun k hk => (hown'.lt k hk).1)
      have hboxN := (hbN.cell (p := ⟨w.heap.size, 0, none⟩) (Nat.lt_succ_self _)).trans hbox'
      have hblN := hbl'.trans (hbN.mono (Nat.le_succ _))
      have hown2 : w1.ownsRow (w.heap.size + 1) 5 1 v' (T' ++ [UInt8.ofNat (48 + z % 10)]).length (Lib.byteCells (T' ++ [UInt8.ofNat (48 + z % 10)])) := by
       rw [← byteCells_snoc _ _ (Nat.mod_lt _ (by decide))]
       simpa using hownN
      have HTn : Hid (T' ++ [UInt8.ofNat (48 + z % 10)] = T ++ Cub.padn (9 - p) (d / 10 ^ p)) := by
       rw [un HT', List.append_assoc, un HZd, Cub.pad_step d p (by omega)]; exact rfl
      have HYn : Hid (y / 10 = Cub.unitOf p) := by rw [un HY, Cub.unit_div]; exact rfl
      clear hownN hgrow hown' hbox' hbl' hbN hxd hq
      go_wp2
      go_roundw
      case rel => exact ⟨p, y / 10, T' ++ [UInt8.ofNat (48 + z % 10)], by omega, by go_num, by omega, HYn, by simp; omega, HTn, hown2, hboxN, hblN, hsN⟩
      case measure => simp [intOf]; omega
end Go.Proofs.YthcbhnggphdflaaGreatDoor

namespace Go.Proofs.YthcbhnggphdflaaGreatDoor
open Go.ChangeShapes Go.WideShapes Go.ChangeAt Go.RowKit
theorem own : ownKnob Tryz.prog.godebug = none := by kernel_rfl
theorem gPow : Tryz.prog.globalNamed "internal/strconv.uint64pow10" = some 0 := by kernel_rfl
theorem gPowType : (Tryz.prog.globals[0]?).map (·.type) = some 228 := by kernel_rfl
theorem cells228 : Tryz.prog.cellsOf 228 = 20 := by kernel_rfl
theorem cells138 : Tryz.prog.cellsOf 138 = 1 := by kernel_rfl
theorem tab_of {W : World} {l : List (String × DataW Unit)} (h : laidMet Tryz.prog l W) (e : l.filter (fun x => x.1 == "internal/strconv.uint64pow10") = [("internal/strconv.uint64pow10", Rows.laid_internal_strconv_uint64pow10)]) : Tab W := by
 have h1 := laidMet.filter (fun x => x.1 == "internal/strconv.uint64pow10") h
 rw [e] at h1
 exact Lib.tabIs_of_head (rest := []) gPow gPowType Tryz.underlying228 Tryz.underlying138 cells138 cells228 h1
/-- A table's cells, off its datum. -/
def cellsOf1 : DataW Unit → List Value
 | .lit (.int k n) => [Value.int k n]
 | .agg l => l.map fun | .lit (.int k n) => Value.int k n | _ => .nilIface
 | _ => []
def cellsOfData : DataW Unit → Array Value
 | .agg l => (l.flatMap cellsOf1).toArray
 | _ => #[]
def putObj (h : Array Obj) (g : Nat) (c : Array Value) : Array Obj := h.modify g fun
 | .cells _ t frozen => .cells c t frozen
 | o => o
/-- A world for the witness: the settled one, the variables holding what their initialisers lay. -/
noncomputable def laidWorld (os : Os) : World :=
 let w0 := World.holding Tryz.prog os ⟨#[], #[], []⟩
 { w0 with heap := putObj (putObj (putObj w0.heap 0 (cellsOfData Rows.laid_internal_strconv_uint64pow10)) 1 (cellsOfData Rows.laid_math_bits_deBruijn32tab)) 2 (cellsOfData Rows.laid_math_bits_deBruijn64tab) }
end Go.Proofs.YthcbhnggphdflaaGreatDoor

namespace Go.Proofs.YthcbhnggphdflaaGreatDoor
open Go.RowKit
theorem one_list {l : List Nat} (hn : Cub.normal 1000000000 l) : Cub.lval 1000000000 l = 1 ↔ l = [1] := by
 constructor
 ·intro h
  match l, hn, h with
  | [], _, h => simp [Cub.lval] at h
  | [x], _, h => simp [Cub.lval] at h; rw [h]
  | x :: y :: t, hn, h =>
   have := Cub.normal_ge hn (by simp)
   have h2 : (1000000000 : Nat) ^ 1 ≤ 1000000000 ^ ((x :: y :: t).length - 1) := Nat.pow_le_pow_right (by decide) (by simp)
   omega
 ·rintro rfl; rfl
theorem isOne_any (v : Value) (n : Nat) (w : World) (h : IsBig w v n) :
  Calls Tryz.prog 126 #[v] w fun e w' => e = .returned (.bool (n == 1)) ∧ Below w.heap.size w w' := by
 obtain ⟨a, l, cap, rfl, hl, hr, hn, rfl⟩ := h.form
 have h1 := one_list hn
 by_cases hlen : l.length = 1
 ·match l, hlen with
  | [x], _ =>
   obtain ⟨a', cap', e, _, _, hc⟩ := hr
   simp only [Value.slice.injEq] at e
   obtain ⟨rfl, _, rfl⟩ := e
   obtain ⟨b, o, rfl, hb, hcell⟩ := hc (by simp)
   have c0 := hcell 0 (by simp)
   simp only [List.getElem_cons_zero, Nat.add_zero] at c0
   have ex : (Cub.lval 1000000000 [x] == 1) = ((x : Int) == 1) := by
    simp [Cub.lval]
    rw [Bool.eq_iff_iff]; simp; omega
   have hx : x < 18446744073709551616 := by have := hn.1 x (by simp); omega
   rw [ex]
   simp only [List.length_cons, List.length_nil, Nat.zero_add] at *
   clear ex h1 hn h hcell hc
   go_enter Tryz.func126, Tryz.ntmps126
   go_wp2
   go_ret
   exact ⟨rfl, (Below.refl _ _).alloc (Nat.le_refl _) _⟩
 ·have ex : (Cub.lval 1000000000 l == 1) = false := by
   rw [beq_eq_false_iff_ne]; intro e; exact hlen (by rw [h1.1 e]; rfl)
  have el : ((l.length : Int) == 1) = false := by rw [beq_eq_false_iff_ne]; omega
  rw [ex]
  clear ex h1 hn h hr
  generalize l.length = len at *
  go_enter Tryz.func126, Tryz.ntmps126
  go_wp2
  go_ret
  exact ⟨rfl, (Below.refl _ _).alloc (Nat.le_refl _) _⟩
/-- A box that the call has made holds a value. -/
structure Box (W : World) (g : Nat) (u : Value) : Prop where
 c : W.cell? ⟨g, 0, none⟩ = some u
 f : W.frozen? ⟨g, 0, none⟩ = false
theorem Box.lt {W : World} {g : Nat} {u : Value} (h : Box W g u) : g < W.heap.size := World.block_lt_of_cell? _ _ h.c
theorem Box.later {W V : World} {g : Nat} {u : Value} (h : Box W g u) (hb : Below W.heap.size W V) : Box V g u :=
 ⟨(hb.cell (p := ⟨g, 0, none⟩) h.lt).trans h.c, (hb.frozen (p := ⟨g, 0, none⟩) h.lt).trans h.f⟩
theorem Box.set {W : World} {g : Nat} {u : Value} (h : Box W g u) (x : Value) : Box (W.setCell ⟨g, 0, none⟩ x) g x :=
 ⟨World.cell?_setCell_same _ _ _ h.c, by rw [World.frozen?_setCell]; exact h.f⟩
theorem Box.other {W : World} {g k : Nat} {u : Value} (h : Box W g u) (hk : g ≠ k) (x : Value) : Box (W.setCell ⟨k, 0, none⟩ x) g u :=
 ⟨by rw [World.cell?_setCell_other _ _ _ _ (by intro e; cases e; exact hk rfl)]; exact h.c, by rw [World.frozen?_setCell]; exact h.f⟩
end Go.Proofs.YthcbhnggphdflaaGreatDoor

namespace Go.Proofs.YthcbhnggphdflaaGreatDoor
open Go.RowKit
/-- What the division and the greatest common divisor must answer. -/
def DivAns (k : Nat) : Prop := ∀ (W : World) (x y : Value) (m n : Nat), IsBig W x m → IsBig W y n → m < 1000000000 ^ k → 0 < n →
 Calls Tryz.prog 174 #[x, y] W fun e w' => ∃ a1 n1 c1 a2 n2 c2, e = .returned (.tuple #[.agg #[.slice a1 n1 c1], .agg #[.slice a2 n2 c2]]) ∧ IsBig w' (.agg #[.slice a1 n1 c1]) (m / n) ∧ IsBig w' (.agg #[.slice a2 n2 c2]) (m % n) ∧ Below W.heap.size W w'
def GcdAns (k : Nat) : Prop := ∀ (W : World) (x y : Value) (m n : Nat), IsBig W x m → IsBig W y n → m < 1000000000 ^ k → n < 1000000000 ^ k →
 Calls Tryz.prog 125 #[x, y] W fun e w' => ∃ a l c, e = .returned (.agg #[.slice a l c]) ∧ IsBig w' (.agg #[.slice a l c]) (Nat.gcd m n) ∧ Below W.heap.size W w'
/-- Two numbers in their boxes, and the boxes of the results. -/
structure LwSt (w W : World) (u v p q : Value) : Prop where
 b1 : Box W w.heap.size u
 b2 : Box W (w.heap.size + 1) v
 b3 : Box W (w.heap.size + 1 + 1) p
 b4 : Box W (w.heap.size + 1 + 1 + 1) q
 below : Below w.heap.size w W
theorem LwSt.later {w W V : World} {u v p q : Value} (s : LwSt w W u v p q) (hb : Below W.heap.size W V) : LwSt w V u v p q :=
 ⟨s.b1.later hb, s.b2.later hb, s.b3.later hb, s.b4.later hb, s.below.trans (hb.mono s.below.size)⟩
theorem LwSt.first (w : World) (u v p q : Value) : LwSt w ((((w.alloc (.cells #[u] 116)).alloc (.cells #[v] 116)).alloc (.cells #[p] 116)).alloc (.cells #[q] 116)) u v p q :=
 ⟨⟨by simp [go_sem], by simp [go_sem]⟩, ⟨by simp [go_sem], by simp [go_sem]⟩, ⟨by simp [go_sem], by simp [go_sem]⟩, ⟨by simp [go_sem], by simp [go_sem]⟩,
  ((((Below.refl _ _).alloc (Nat.le_refl _) _).alloc (by simp) _).alloc (by simp; omega) _).alloc (by simp; omega) _⟩
theorem LwSt.set3 {w W : World} {u v p q : Value} (s : LwSt w W u v p q) (x : Value) : LwSt w (W.setCell ⟨w.heap.size + 1 + 1, 0, none⟩ x) u v x q :=
 ⟨s.b1.other (by omega) x, s.b2.other (by omega) x, s.b3.set x, s.b4.other (by omega) x, s.below.setCell (by simp; omega) _⟩
theorem LwSt.set4 {w W : World} {u v p q : Value} (s : LwSt w W u v p q) (x : Value) : LwSt w (W.setCell ⟨w.heap.size + 1 + 1 + 1, 0, none⟩ x) u v p x :=
 ⟨s.b1.other (by omega) x, s.b2.other (by omega) x, s.b3.other (by omega) x, s.b4.set x, s.below.setCell (by simp; omega) _⟩
theorem LwSt.set1 {w W : World} {u v p q : Value} (s : LwSt w W u v p q) (x : Value) : LwSt w (W.setCell ⟨w.heap.size, 0, none⟩ x) x v p q :=
 ⟨s.b1.set x, s.b2.other (by omega) x, s.b3.other (by omega) x, s.b4.other (by omega) x, s.below.setCell (by simp) _⟩
theorem LwSt.set2 {w W : World} {u v p q : Value} (s : LwSt w W u v p q) (x : Value) : LwSt w (W.setCell ⟨w.heap.size + 1, 0, none⟩ x) u x p q :=
 ⟨s.b1.other (by omega) x, s.b2.set x, s.b3.other (by omega) x, s.b4.other (by omega) x, s.below.setCell (by simp) _⟩
theorem not_int (a : Option Addr) (l c : Nat) : ∀ k n, (Value.slice a l c) ≠ .int k n := fun _ _ e => by cases e
set_option maxRecDepth 100000 in
set_option maxHeartbeats 2000000 in
theorem lowest_any (x y : Value) (m n k : Nat) (w : World) (hx : IsBig w x m) (hy : IsBig w y n) (hm : m < 1000000000 ^ k) (hn : n < 1000000000 ^ k) (h0 : 0 < n) (hD : DivAns k) (hG : GcdAns k) :
  Calls Tryz.prog 127 #[x, y] w fun e w' => ∃ a1 l1 c1 a2 l2 c2, e = .returned (.tuple #[.agg #[.slice a1 l1 c1], .agg #[.slice a2 l2 c2]]) ∧ IsBig w' (.agg #[.slice a1 l1 c1]) (m / Nat.gcd m n) ∧ IsBig w' (.agg #[.slice a2 l2 c2]) (n / Nat.gcd m n) ∧ Below w.heap.size w w' := by
 have HX := hide hx
 have HY := hide hy
 obtain ⟨ap, np, cp, rfl⟩ := hx.shape
 obtain ⟨aq, nq, cq, rfl⟩ := hy.shape
 have H51x : Hid (∀ W, IsBig W (.agg #[.slice ap np cp]) m → Calls Tryz.prog 126 #[.agg #[.slice ap np cp]] W fun e w' => e = .returned (.bool (m == 1)) ∧ Below W.heap.size W w') := fun W h => isOne_any _ m W h
 have H51y : Hid (∀ W, IsBig W (.agg #[.slice aq nq cq]) n → Calls Tryz.prog 126 #[.agg #[.slice aq nq cq]] W fun e w' => e = .returned (.bool (n == 1)) ∧ Below W.heap.size W w') := fun W h => isOne_any _ n W h
 have HD := hide hD
 have HG := hide hG
 have HM := hide hm
 have HNN := hide hn
 have H0 := hide h0
 clear hx hy hm hn h0 hD hG
 have HS0 := hide (LwSt.first w (.slice ap np cp) (.slice aq nq cq) (.slice none 0 0) (.slice none 0 0))
 go_enter Tryz.func127, Tryz.ntmps127
 by_cases h1 : m = 1
 ·have hg : m / Nat.gcd m n = m ∧ n / Nat.gcd m n = n := by rw [h1]; simp
  rw [hg.1, hg.2]
  rw [show (m == 1) = true by rw [h1]; rfl] at H51x
  clear hg h1
  go_upto_region 2 with (go_at_call_of 126 (Value.agg #[Value.slice ap np cp]); go_must (refine (un H51x _ ((un HX).later (un HS0).below)).mono ?_; rintro e w1 ⟨rfl, hb1⟩; have HS := hide ((un HS0).later hb1); have HX1 := hide (((un HX).later (un HS0).below).later hb1); have HY1 := hide (((un HY).later (un HS0).below).later hb1); have b1 := (un HS).b1.c; have b2 := (un HS).b2.c; clear hb1))
  clear HS0 b1 b2
  have b1 := (un HS).b1.c; have b2 := (un HS).b2.c; have b3 := (un HS).b3.c; have b4 := (un HS).b4.c
  have f3 := (un HS).b3.f; have f4 := (un HS).b4.f
  go_region
  obtain ⟨V, hV⟩ : ∃ V, V = (((w1.setCell ⟨w.heap.size + 1 + 1, 0, none⟩ (.slice ap np cp)).setCell ⟨w.heap.size + 1 + 1 + 1, 0, none⟩ (.slice aq nq cq)).drew) := ⟨_, rfl⟩
  have HE : Hid (LwSt w V (.slice ap np cp) (.slice aq nq cq) (.slice ap np cp) (.slice aq nq cq) ∧ IsBig V (.agg #[.slice ap np cp]) m ∧ IsBig V (.agg #[.slice aq nq cq]) n) := by
   rw [hV]
   refine ⟨(((un HS).set3 _).set4 _).later ((Below.refl _ _).drew), ?_, ?_⟩
   ·exact (((un HX1).box _ (un HS).b3.c (not_int _ _ _)).box _ ((un HS).set3 _).b4.c (not_int _ _ _)).later ((Below.refl _ _).drew)
   ·exact (((un HY1).box _ (un HS).b3.c (not_int _ _ _)).box _ ((un HS).set3 _).b4.c (not_int _ _ _)).later ((Below.refl _ _).drew)
  rw [← hV]
  clear hV b1 b2 b3 b4 f3 f4
  have d3 := (un HE).1.b3.c; have d4 := (un HE).1.b4.c
  go_wp2_with fail
  exact bodyPost_ret (v := .tuple #[.agg #[.slice ap np cp], .agg #[.slice aq nq cq]]) (by simp [results, Tryz.results127, go_sem, d3, d4]) rfl ⟨_, _, _, _, _, _, rfl, (un HE).2.1, (un HE).2.2, (un HE).1.below⟩
 ·rw [show (m == 1) = false by rw [beq_eq_false_iff_ne]; exact h1] at H51x
  by_cases h2 : n = 1
  ·have hg : m / Nat.gcd m n = m ∧ n / Nat.gcd m n = n := by rw [h2]; simp
   rw [hg.1, hg.2]
   rw [show (n == 1) = true by rw [h2]; rfl] at H51y
   clear hg h1 h2
   go_upto_region 2 with (first
    | (go_at_call_of 126 (Value.agg #[Value.slice ap np cp]); go_must (refine (un H51x _ ((un HX).later (un HS0).below)).mono ?_; rintro e w1 ⟨rfl, hb1⟩; have HS := hide ((un HS0).later hb1); have HX1 := hide (((un HX).later (un HS0).below).later hb1); have HY1 := hide (((un HY).later (un HS0).below).later hb1); have b1 := (un HS).b1.c; have b2 := (un HS).b2.c; clear hb1))
    | (go_at_call_of 126 (Value.agg #[Value.slice aq nq cq]); go_must (refine (un H51y w1 (un HY1)).mono ?_; rintro e w2 ⟨rfl, hb2⟩; have HS2 := hide ((un HS).later hb2); have HX2 := hide ((un HX1).later hb2); have HY2 := hide ((un HY1).later hb2); clear b1 b2 hb2; have b1 := (un HS2).b1.c; have b2 := (un HS2).b2.c)))
   clear HS0 b1 b2
   have b1 := (un HS2).b1.c; have b2 := (un HS2).b2.c; have b3 := (un HS2).b3.c; have b4 := (un HS2).b4.c
   have f3 := (un HS2).b3.f; have f4 := (un HS2).b4.f
   go_region
   obtain ⟨V, hV⟩ : ∃ V, V = (((w2.setCell ⟨w.heap.size + 1 + 1, 0, none⟩ (.slice ap np cp)).setCell ⟨w.heap.size + 1 + 1 + 1, 0, none⟩ (.slice aq nq cq)).drew) := ⟨_, rfl⟩
   have HE : Hid (LwSt w V (.slice ap np cp) (.slice aq nq cq) (.slice ap np cp) (.slice aq nq cq) ∧ IsBig V (.agg #[.slice ap np cp]) m ∧ IsBig V (.agg #[.slice aq nq cq]) n) := by
    rw [hV]
    refine ⟨(((un HS2).set3 _).set4 _).later ((Below.refl _ _).drew), ?_, ?_⟩
    ·exact (((un HX2).box _ (un HS2).b3.c (not_int _ _ _)).box _ ((un HS2).set3 _).b4.c (not_int _ _ _)).later ((Below.refl _ _).drew)
    ·exact (((un HY2).box _ (un HS2).b3.c (not_int _ _ _)).box _ ((un HS2).set3 _).b4.c (not_int _ _ _)).later ((Below.refl _ _).drew)
   rw [← hV]
   clear hV b1 b2 b3 b4 f3 f4
   have d3 := (un HE).1.b3.c; have d4 := (un HE).1.b4.c
   go_wp2_with fail
   exact bodyPost_ret (v := .tuple #[.agg #[.slice ap np cp], .agg #[.slice aq nq cq]]) (by simp [results, Tryz.results127, go_sem, d3, d4]) rfl ⟨_, _, _, _, _, _, rfl, (un HE).2.1, (un HE).2.2, (un HE).1.below⟩
  ·rw [show (n == 1) = false by rw [beq_eq_false_iff_ne]; exact h2] at H51y
   clear h1 h2
   go_upto_region 4 with (first
    | (go_at_call_of 126 (Value.agg #[Value.slice ap np cp]); go_must (refine (un H51x _ ((un HX).later (un HS0).below)).mono ?_; rintro e w1 ⟨rfl, hb1⟩; have HS := hide ((un HS0).later hb1); have HX1 := hide (((un HX).later (un HS0).below).later hb1); have HY1 := hide (((un HY).later (un HS0).below).later hb1); have b1 := (un HS).b1.c; have b2 := (un HS).b2.c; clear hb1))
    | (go_at_call_of 126 (Value.agg #[Value.slice aq nq cq]); go_must (refine (un H51y w1 (un HY1)).mono ?_; rintro e w2 ⟨rfl, hb2⟩; have HS2 := hide ((un HS).later hb2); have HX2 := hide ((un HX1).later hb2); have HY2 := hide ((un HY1).later hb2); clear b1 b2 hb2; have b1 := (un HS2).b1.c; have b2 := (un HS2).b2.c))
    | (go_at_call 125; go_must (refine (un HG w2 _ _ m n (un HX2) (un HY2) (un HM) (un HNN)).mono ?_; rintro e w3 ⟨ag, lg, cg, rfl, hg3, hb3⟩; have HS3 := hide ((un HS2).later hb3); have HX3 := hide ((un HX2).later hb3); have HY3 := hide ((un HY2).later hb3); have HG3 := hide hg3; clear b1 b2 hg3 hb3)))
   clear HS0
   obtain ⟨V, hV⟩ : ∃ V, V = w3.alloc (.cells #[.slice ag lg cg] 116) := ⟨_, rfl⟩
   have hbV : Below w3.heap.size w3 V := by rw [hV]; exact (Below.refl _ _).alloc (Nat.le_refl _) _
   have HS4 := hide ((un HS3).later hbV); have HX4 := hide ((un HX3).later hbV); have HY4 := hide ((un HY3).later hbV); have HG4 := hide ((un HG3).later hbV)
   have HB4 : Hid (Box V w3.heap.size (.slice ag lg cg)) := by rw [hV]; exact ⟨by simp [go_sem], by simp [go_sem]⟩
   have hlt : w.heap.size + 1 + 1 + 1 < w3.heap.size := (un HS3).b4.lt
   rw [← hV]
   clear hV hbV HS3 HX3 HY3 HG3 HS2 HX2 HY2 HS HX1 HY1
   generalize hgb : w3.heap.size = gb at *
   clear hgb
   have H51g : Hid (∀ W, IsBig W (.agg #[.slice ag lg cg]) (Nat.gcd m n) → Calls Tryz.prog 126 #[.agg #[.slice ag lg cg]] W fun e w' => e = .returned (.bool (Nat.gcd m n == 1)) ∧ Below W.heap.size W w') := fun W h => isOne_any _ _ W h
   have q6 := (un HB4).c
   by_cases h3 : Nat.gcd m n = 1
   ·have HGE : Hid (m / Nat.gcd m n = m ∧ n / Nat.gcd m n = n) := ⟨by rw [h3]; simp, by rw [h3]; simp⟩
    rw [show (Nat.gcd m n == 1) = true by rw [h3]; rfl] at H51g
    clear h3
    go_upto_region 5 with (go_at_call 126; go_must (refine (un H51g V (un HG4)).mono ?_; rintro e w4 ⟨rfl, hb4⟩; have HS5 := hide ((un HS4).later hb4); have HX5 := hide ((un HX4).later hb4); have HY5 := hide ((un HY4).later hb4); clear hb4 q6))
    clear HS4 HX4 HY4 HG4 HB4
    have b1 := (un HS5).b1.c; have b2 := (un HS5).b2.c; have b3 := (un HS5).b3.c; have b4 := (un HS5).b4.c
    have f3 := (un HS5).b3.f; have f4 := (un HS5).b4.f
    go_region
    obtain ⟨V, hV⟩ : ∃ V, V = (((w4.setCell ⟨w.heap.size + 1 + 1, 0, none⟩ (.slice ap np cp)).setCell ⟨w.heap.size + 1 + 1 + 1, 0, none⟩ (.slice aq nq cq)).drew) := ⟨_, rfl⟩
    have HE : Hid (LwSt w V (.slice ap np cp) (.slice aq nq cq) (.slice ap np cp) (.slice aq nq cq) ∧ IsBig V (.agg #[.slice ap np cp]) m ∧ IsBig V (.agg #[.slice aq nq cq]) n) := by
     rw [hV]
     refine ⟨(((un HS5).set3 _).set4 _).later ((Below.refl _ _).drew), ?_, ?_⟩
     ·exact (((un HX5).box _ (un HS5).b3.c (not_int _ _ _)).box _ ((un HS5).set3 _).b4.c (not_int _ _ _)).later ((Below.refl _ _).drew)
     ·exact (((un HY5).box _ (un HS5).b3.c (not_int _ _ _)).box _ ((un HS5).set3 _).b4.c (not_int _ _ _)).later ((Below.refl _ _).drew)
    rw [← hV]
    clear hV b1 b2 b3 b4 f3 f4
    have d3 := (un HE).1.b3.c; have d4 := (un HE).1.b4.c
    go_wp2_with fail
    exact bodyPost_ret (v := .tuple #[.agg #[.slice ap np cp], .agg #[.slice aq nq cq]]) (by simp [results, Tryz.results127, go_sem, d3, d4]) rfl ⟨_, _, _, _, _, _, rfl, (by rw [(un HGE).1]; exact (un HE).2.1), (by rw [(un HGE).2]; exact (un HE).2.2), (un HE).1.below⟩
   ·have HGP : Hid (0 < Nat.gcd m n) := Nat.gcd_pos_of_pos_right _ (un H0)
    rw [show (Nat.gcd m n == 1) = false by rw [beq_eq_false_iff_ne]; exact h3] at H51g
    clear h3
    go_upto_region 6 with (go_at_call 126; go_must (refine (un H51g V (un HG4)).mono ?_; rintro e w4 ⟨rfl, hb4⟩; have HS5 := hide ((un HS4).later hb4); have HX5 := hide ((un HX4).later hb4); have HY5 := hide ((un HY4).later hb4); have HG5 := hide ((un HG4).later hb4); have HB5 := hide ((un HB4).later hb4); clear hb4 q6))
    clear HS4 HX4 HY4 HG4 HB4
    have b1 := (un HS5).b1.c; have b2 := (un HS5).b2.c; have q6 := (un HB5).c
    go_upto_region 7 with (go_at_call 174; go_must (refine (un HD w4 _ _ m (Nat.gcd m n) (un HX5) (un HG5) (un HM) (un HGP)).mono ?_; rintro e w5 ⟨a1, l1, c1, a2, l2, c2, rfl, hq, hr, hb5⟩; have HS6 := hide ((un HS5).later hb5); have HY6 := hide ((un HY5).later hb5); have HG6 := hide ((un HG5).later hb5); have HB6 := hide ((un HB5).later hb5); have HQ6 := hide hq; clear hb5 hq hr b1 b2 q6; have b1 := (un HS6).b1.c; have f1 := (un HS6).b1.f))
    obtain ⟨V6, hV6⟩ : ∃ V6, V6 = w5.setCell ⟨w.heap.size, 0, none⟩ (.slice a1 l1 c1) := ⟨_, rfl⟩
    have HS7 : Hid (LwSt w V6 (.slice a1 l1 c1) (.slice aq nq cq) (.slice none 0 0) (.slice none 0 0)) := by rw [hV6]; exact (un HS6).set1 _
    have HY7 : Hid (IsBig V6 (.agg #[.slice aq nq cq]) n) := by rw [hV6]; exact (un HY6).box _ b1 (not_int _ _ _)
    have HG7 : Hid (IsBig V6 (.agg #[.slice ag lg cg]) (Nat.gcd m n)) := by rw [hV6]; exact (un HG6).box _ b1 (not_int _ _ _)
    have HQ7 : Hid (IsBig V6 (.agg #[.slice a1 l1 c1]) (m / Nat.gcd m n)) := by rw [hV6]; exact (un HQ6).box _ b1 (not_int _ _ _)
    have HB7 : Hid (Box V6 gb (.slice ag lg cg)) := by rw [hV6]; exact (un HB6).other (by omega) _
    rw [← hV6]
    clear hV6 HS6 HY6 HG6 HQ6 HB6 HS5 HX5 HY5 HG5 HB5 b1 f1
    have b2 := (un HS7).b2.c; have q6 := (un HB7).c
    go_upto_region 8 with (go_at_call 174; go_must (refine (un HD V6 _ _ n (Nat.gcd m n) (un HY7) (un HG7) (un HNN) (un HGP)).mono ?_; rintro e w7 ⟨a3, l3, c3, a4, l4, c4, rfl, hq, hr, hb7⟩; have HS8 := hide ((un HS7).later hb7); have HQ8 := hide ((un HQ7).later hb7); have HR8 := hide hq; clear hb7 hq hr b2 q6; have b2 := (un HS8).b2.c; have f2 := (un HS8).b2.f))
    obtain ⟨V8, hV8⟩ : ∃ V8, V8 = w7.setCell ⟨w.heap.size + 1, 0, none⟩ (.slice a3 l3 c3) := ⟨_, rfl⟩
    have HS9 : Hid (LwSt w V8 (.slice a1 l1 c1) (.slice a3 l3 c3) (.slice none 0 0) (.slice none 0 0)) := by rw [hV8]; exact (un HS8).set2 _
    have HQ9 : Hid (IsBig V8 (.agg #[.slice a1 l1 c1]) (m / Nat.gcd m n)) := by rw [hV8]; exact (un HQ8).box _ b2 (not_int _ _ _)
    have HR9 : Hid (IsBig V8 (.agg #[.slice a3 l3 c3]) (n / Nat.gcd m n)) := by rw [hV8]; exact (un HR8).box _ b2 (not_int _ _ _)
    rw [← hV8]
    clear hV8 HS8 HQ8 HR8 HS7 HY7 HG7 HQ7 HB7 b2 f2
    have b1 := (un HS9).b1.c; have b2 := (un HS9).b2.c; have b3 := (un HS9).b3.c; have b4 := (un HS9).b4.c
    have f3 := (un HS9).b3.f; have f4 := (un HS9).b4.f
    go_region
    obtain ⟨V, hV⟩ : ∃ V, V = (((V8.setCell ⟨w.heap.size + 1 + 1, 0, none⟩ (.slice a1 l1 c1)).setCell ⟨w.heap.size + 1 + 1 + 1, 0, none⟩ (.slice a3 l3 c3)).drew) := ⟨_, rfl⟩
    have HE : Hid (LwSt w V (.slice a1 l1 c1) (.slice a3 l3 c3) (.slice a1 l1 c1) (.slice a3 l3 c3) ∧ IsBig V (.agg #[.slice a1 l1 c1]) (m / Nat.gcd m n) ∧ IsBig V (.agg #[.slice a3 l3 c3]) (n / Nat.gcd m n)) := by
     rw [hV]
     refine ⟨(((un HS9).set3 _).set4 _).later ((Below.refl _ _).drew), ?_, ?_⟩
     ·exact (((un HQ9).box _ (un HS9).b3.c (not_int _ _ _)).box _ ((un HS9).set3 _).b4.c (not_int _ _ _)).later ((Below.refl _ _).drew)
     ·exact (((un HR9).box _ (un HS9).b3.c (not_int _ _ _)).box _ ((un HS9).set3 _).b4.c (not_int _ _ _)).later ((Below.refl _ _).drew)
    rw [← hV]
    clear hV b1 b2 b3 b4 f3 f4
    have d3 := (un HE).1.b3.c; have d4 := (un HE).1.b4.c
    go_wp2_with fail
    exact bodyPost_ret (v := .tuple #[.agg #[.slice a1 l1 c1], .agg #[.slice a3 l3 c3]]) (by simp [results, Tryz.results127, go_sem, d3, d4]) rfl ⟨_, _, _, _, _, _, rfl, (un HE).2.1, (un HE).2.2, (un HE).1.below⟩
end Go.Proofs.YthcbhnggphdflaaGreatDoor

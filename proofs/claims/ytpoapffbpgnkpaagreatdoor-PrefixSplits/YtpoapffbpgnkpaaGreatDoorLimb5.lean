/- Plain facts: one limb of a list set anew; sums limb by limb. -/
import Derived.Test.YtpoapffbpgnkpaaGreatDoorShelf
import Derived.Lib.AppendIntMem
import Derived.Test.YtpoapffbpgnkpaaGreatDoorCards
import Derived.Test.YtpoapffbpgnkpaaGreatDoorTie
import Derived.WalkKit
import Derived.ProofKit
import Derived.OpenShut
import Derived.ChangeSame
import Derived.Deep.DeepHandedRow
import Derived.Lib.LaidTab
import Derived.LaidSub
import Derived.LaidLaws
import Derived.Carry
import Derived.Test.YtpoapffbpgnkpaaGreatDoorLimb2
namespace Go.Proofs.YtpoapffbpgnkpaaGreatDoor
open Go.RowKit

/-- The table of the powers of ten lies as its initialiser lays it. -/
def Tab (w : World) : Prop := Lib.TabIs Tryz.prog w "internal/strconv.uint64pow10" .u64 Lib.pow10Tab
theorem Tab.later {w w' : World} (h : Tab w) (hb : Below w.heap.size w w') : Tab w' := Lib.tabBelow_of_tabIs h w' hb


theorem appendUint_any (B n u : Nat) (hu : u < 18446744073709551616) (sv : Value) (xs : List Value) (w : World) (hown : w.ownsRow B 5 1 sv n xs) (hBw : B ≤ w.heap.size) (hlim : n + 20 ≤ 140737488355328) (htab : Tab w) :
    Calls Tryz.prog 136 #[sv, .int .u64 u, .int .i64 10] w fun e w' => ∃ v', e = .returned v' ∧ w'.ownsRow B 5 1 v' (n + (Lib.decDigits u).length) (xs ++ Lib.byteCells (Lib.decDigits u)) ∧ Below B w w' := by
  have HO := hide hown
  have HT := hide htab
  clear hown htab
  go_enter Tryz.func136, Tryz.ntmps136
  go_wp2_with (go_at_call 155; refine (Tryz.internal_strconv_AppendUint_10 B n u hu sv xs _ (unhide HO) hBw hlim (unhide HT)).mono ?_; rintro e w2 ⟨v', rfl, h1, h2, _⟩)
  go_ret
  exact ⟨v', rfl, h1, h2⟩

set_option maxRecDepth 100000 in
set_option maxHeartbeats 1000000 in
theorem text_any (v : Value) (n k : Nat) (w : World) (h : IsBig w v n) (hk : k ≤ 1000000) (hn : n < 1000000000 ^ k) (htab : Tab w) :
    Calls Tryz.prog 104 #[v] w fun e w' => e = .returned (.string ⟨(Lib.decDigits n).toArray⟩) ∧ Below w.heap.size w w' := by
  have H := hide h
  have HT := hide htab
  obtain ⟨a, l, cap, rfl, hl, hr, hnm, rfl⟩ := h.form
  have hlk := Cub.len_le hnm hn
  clear hn hl h htab
  by_cases h0 : l = []
  · subst h0
    have e1 : Lib.decDigits (Cub.lval 1000000000 []) = [48] := by decide +kernel
    rw [e1]
    clear e1
    go_enter Tryz.func104, Tryz.ntmps104
    go_wp2_with (go_at_call 101; refine (isZero_any _ _ _ ((unhide H).later ((Below.refl _ _).alloc (Nat.le_refl _) _))).mono ?_; rintro e w2 ⟨rfl, hb2⟩)
    go_ret
    exact ⟨rfl, ((Below.refl _ _).alloc (Nat.le_refl _) _).trans (hb2.mono (by simp))⟩
  · have hlp : 0 < l.length := by cases l with | nil => exact absurd rfl h0 | cons a t => simp
    obtain ⟨len, hlen⟩ : ∃ len, len = l.length := ⟨_, rfl⟩
    rw [← hlen] at H hr hlk hlp ⊢
    have hz : (Cub.lval 1000000000 l == 0) = false := by
      rw [beq_eq_false_iff_ne]; intro e; exact h0 ((Cub.normal_zero hnm (by decide)).1 e)
    obtain ⟨a', cap', ev, hc, hm, hcells⟩ := hr
    simp only [Value.slice.injEq] at ev
    obtain ⟨rfl, hdum, rfl⟩ := ev
    clear hdum
    obtain ⟨b, o, rfl, hbw, hcell⟩ := hcells h0
    have HC : Hid (∀ W, Below w.heap.size w W → ∀ i (hi : i < l.length), W.cell? ⟨b, o + i, none⟩ = some (.int .u64 (l[i] : Int))) := fun W hW i hi => (hW.cell (p := ⟨b, o + i, none⟩) hbw).trans (hcell i hi)
    have HZ := hide hz
    have HN := hide hnm
    have HLen := hide hlen
    clear hcell hcells hz h0 hnm hlen hc hm
    obtain ⟨m, rfl⟩ : ∃ m, len = m + 1 := ⟨len - 1, by omega⟩
    have hml : m < l.length := by have := unhide HLen; omega
    obtain ⟨x, hx⟩ : ∃ x, x = l[m] := ⟨_, rfl⟩
    have hxB : x < 1000000000 := by rw [hx]; exact (unhide HN).1 _ (List.getElem_mem hml)
    have HX : Hid (∀ W, Below w.heap.size w W → W.cell? ⟨b, o + m, none⟩ = some (.int .u64 (x : Int))) := fun W hW => by rw [hx]; exact unhide HC W hW m hml
    have HXl := hide hx
    clear hx hlp
    obtain ⟨i5, hi5, hz50, hz51, hz52⟩ := info_parts Tryz.info5
    go_enter Tryz.func104, Tryz.ntmps104
    go_wp2_with (first
      | (go_at_call 101; refine (isZero_any _ _ _ ((unhide H).later ((Below.refl _ _).alloc (Nat.le_refl _) _))).mono ?_; rintro e w2 ⟨rfl, hb2⟩; rw [unhide HZ]; obtain ⟨hcb, _⟩ := box_later hb2 (g := w.heap.size) (x := .slice (some ⟨b, o, none⟩) (m + 1) cap) (by simp) (by simp) (by simp); have hb3 := ((Below.refl w.heap.size w).alloc (Nat.le_refl _) (.cells #[.slice (some ⟨b, o, none⟩) (m + 1) cap] 81)).trans (hb2.mono (by simp)); have hs2 : w.heap.size + 1 ≤ w2.heap.size := (by have := hb2.size; simpa using this); clear hb2)
      | (at_make; refine wpList_make_own _ rfl _ _ 161 rfl (w.heap.size + 1) 5 i5 (.int .u8 0) 1 Tryz.underlying161 hi5 hz50 hz51 .i64 .i64 _ ((m + 1) * 9) rfl rfl (by omega) (by rw [hz52]; omega) (by unfold maxLen; omega) hs2 ?_; intro w3 hown3 hgrow3; have hb4 : Below (w.heap.size + 1) w2 w3 := (Below.refl _ _).grown hgrow3 hs2 (fun k hk => by cases hk); have hcb3 := (hb4.cell (p := ⟨w.heap.size, 0, none⟩) (Nat.lt_succ_self _)).trans hcb; have hb5 := hb3.trans (hb4.mono (Nat.le_succ _)); have hx3 := unhide HX w3 hb5; have hs3 : w.heap.size + 1 ≤ w3.heap.size := (by have := hb4.size; omega); have HO3 := hide hown3; clear hown3 hgrow3 hb4 hcb)
      | (go_at_call 136; refine (appendUint_any (w.heap.size + 1) 0 x (by omega) _ [] _ (unhide HO3) hs3 (by omega) ((unhide HT).later hb5)).mono ?_; rintro e w4 ⟨v4, rfl, hown4, hb6⟩; have hcb4 := (hb6.cell (p := ⟨w.heap.size, 0, none⟩) (Nat.lt_succ_self _)).trans hcb3; have hb7 := hb5.trans (hb6.mono (Nat.le_succ _)); have hs4 : w.heap.size + 1 ≤ w4.heap.size := (by have := hb6.size; omega); have HO4 := hide hown4; clear hown4 hb6 hcb3))
    have hT0 : (Lib.decDigits x).length ≤ 9 := by rw [Lib.decDigits_length]; exact Cub.nDigits_le9 x hxB
    have hst : w4.ownsRow (w.heap.size + 1) 5 1 v4 (Lib.decDigits x).length (Lib.byteCells (Lib.decDigits x)) := by simpa using unhide HO4
    have HT0 : Hid (Lib.decDigits x = Lib.decDigits (Cub.lval 1000000000 (l.drop m))) := by
      have e : l.drop m = [x] := by
        rw [List.drop_eq_getElem_cons hml, ← unhide HXl, List.drop_of_length_le (by have := unhide HLen; omega)]
      rw [e]; exact (by simp [Cub.lval] : Lib.decDigits x = Lib.decDigits (Cub.lval 1000000000 [x]))
    clear HO4 hx3
    go_loopw [4, 5] (fun v i wr => ∃ (j : Nat) (T : List UInt8), j ≤ m ∧ i = .int .i64 ((j : Int) - 1) ∧ T.length ≤ 9 * (m + 1 - j) ∧ Hid (T = Lib.decDigits (Cub.lval 1000000000 (l.drop j))) ∧
        wr.ownsRow (w.heap.size + 1) 5 1 v T.length (Lib.byteCells T) ∧ wr.cell? ⟨w.heap.size, 0, none⟩ = some (.slice (some ⟨b, o, none⟩) (m + 1) cap) ∧ Below w.heap.size w wr ∧ w.heap.size + 1 ≤ wr.heap.size)
      (fun _ i _ => (intOf i + 1).toNat)
    case atStart => exact ⟨m, Lib.decDigits x, Nat.le_refl _, rfl, by omega, HT0, hst, hcb4, hb7, hs4⟩
    case round =>
      obtain ⟨j, T, hjm, rfl, hTl, HTd, hown, hbox, hbl, hsz⟩ := hrel
      clear hst hcb4 hb7 hs4 hT0 HT0
      by_cases hj0 : j = 0
      · subst hj0
        have hTpos : 0 < T.length := by
          rw [unhide HTd]
          cases e : Lib.decDigits (Cub.lval 1000000000 (l.drop 0)) with
          | nil => exact absurd e (Cub.dec_ne_nil _)
          | cons a t => simp
        obtain ⟨g, cg, rfl⟩ := Joins.ownsRow_form hown hTpos
        have hcv := run_convert_bytes_back (P := Tryz.prog) wr 161 9 5 ⟨g, 0, none⟩ cg T Tryz.underlying161 Tryz.underlying5 Tryz.underlying9 (fun q hq => by
          have := hown.cellAt q (by simpa using hq)
          rw [Lib.add_plain, Nat.zero_add, this]
          simp [Lib.byteCells, hq])
        have HTd' : Hid (T = Lib.decDigits (Cub.lval 1000000000 l)) := by have := unhide HTd; rwa [List.drop_zero] at this
        clear hown HTd
        go_wp2
        go_ret
        exact ⟨by rw [← unhide HTd']; rfl, hbl⟩
      · obtain ⟨i, rfl⟩ : ∃ i, j = i + 1 := ⟨j - 1, by omega⟩
        have hil : i < l.length := by have := unhide HLen; omega
        obtain ⟨d, hd⟩ : ∃ d, d = l[i] := ⟨_, rfl⟩
        have hdB : d < 1000000000 := by rw [hd]; exact (unhide HN).1 _ (List.getElem_mem hil)
        have HXd : Hid (∀ W, Below w.heap.size w W → W.cell? ⟨b, o + i, none⟩ = some (.int .u64 (d : Int))) := fun W hW => by rw [hd]; exact unhide HC W hW i hil
        have HDd := hide hd
        clear hd hj0
        rw [show (((i + 1 : Nat) : Int) - 1) = (i : Int) from by omega]
        go_wp2
        go_loopw [4, 6] (fun v u wq => ∃ (q y : Nat) (T' : List UInt8), q ≤ 9 ∧ u = .int .u64 (y : Int) ∧ y ≤ 100000000 ∧ Hid (y = Cub.unitOf q) ∧ T'.length + q ≤ T.length + 9 ∧ Hid (T' = T ++ Cub.padn (9 - q) (d / 10 ^ q)) ∧
            wq.ownsRow (w.heap.size + 1) 5 1 v T'.length (Lib.byteCells T') ∧ wq.cell? ⟨w.heap.size, 0, none⟩ = some (.slice (some ⟨b, o, none⟩) (m + 1) cap) ∧ Below w.heap.size w wq ∧ w.heap.size + 1 ≤ wq.heap.size)
          (fun _ u _ => (intOf u).toNat)
        case atStart => exact ⟨9, 100000000, T, Nat.le_refl _, rfl, Nat.le_refl _, rfl, Nat.le_refl _, (List.append_nil T).symm, hown, hbox, hbl, hsz⟩
        case round =>
          obtain ⟨q, y, T', hq9, rfl, hy, HY, hTl', HT', hown', hbox', hbl', hsz'⟩ := hrel
          clear hown hbox hbl hsz
          by_cases hq0 : q = 0
          · subst hq0
            have hy0 : y = 0 := unhide HY
            subst hy0
            have HTn : Hid (T' = Lib.decDigits (Cub.lval 1000000000 (l.drop i))) := by
              rw [Cub.dec_limb l i hil (unhide HN).1 (Cub.drop_pos (unhide HN) (i + 1) (by have := unhide HLen; omega)), ← unhide HDd, ← unhide HTd, unhide HT', Cub.pad_all]; exact rfl
            go_wp2
            go_roundw
            case rel => exact ⟨i, T', by omega, rfl, by omega, HTn, hown', hbox', hbl', hsz'⟩
            case measure => simp [intOf]
          · obtain ⟨p, rfl⟩ : ∃ p, q = p + 1 := ⟨q - 1, by omega⟩
            have hyp : 0 < y := by rw [unhide HY]; exact (Cub.unit_pos _).2 (by omega)
            have hyz : ((y : Int) == 0) = false := by rw [beq_eq_false_iff_ne]; omega
            have hxd := unhide HXd wr hbl'
            clear hq0
            obtain ⟨z, hz⟩ : ∃ z, z = d / y := ⟨_, rfl⟩
            have hzd : z < 1000000000 := by rw [hz]; exact Nat.lt_of_le_of_lt (Nat.div_le_self _ _) hdB
            have hq : (d : Int) / (y : Int) = (z : Int) := by rw [hz]; simp
            have HZd : Hid (z = d / 10 ^ p) := by rw [hz, unhide HY, Cub.unit_at]; exact rfl
            clear hz
            go_wp2_with (at_builtin; refine wpList_append_own _ rfl _ _ 161 rfl (w.heap.size + 1) 5 i5 (.int .u8 0) 1 1 Tryz.underlying161 hi5 hz50 hz51 hz52 rfl (by decide) _ _ _ rfl (hown'.alloc _) ⟨wr.heap.size, 0, none⟩ 1 1 [.int .u8 (48 + (z : Int) % 10)] rfl rfl (cell_one_new _ _ _) (fun x hx => by simp at hx; subst hx; rfl) (by unfold maxLen; omega) (by omega) (by simp; omega) ?_; intro v' w1 hownN hgrow _)
            have hsN : w.heap.size + 1 ≤ w1.heap.size := by have := hgrow.size; simp at this; omega
            have hbN : Below (w.heap.size + 1) wr w1 := ((Below.refl _ _).alloc (by omega) _).grown hgrow (by simp; omega) (fun k hk => (hown'.lt k hk).1)
            have hboxN := (hbN.cell (p := ⟨w.heap.size, 0, none⟩) (Nat.lt_succ_self _)).trans hbox'
            have hblN := hbl'.trans (hbN.mono (Nat.le_succ _))
            have hown2 : w1.ownsRow (w.heap.size + 1) 5 1 v' (T' ++ [UInt8.ofNat (48 + z % 10)]).length (Lib.byteCells (T' ++ [UInt8.ofNat (48 + z % 10)])) := by
              rw [← byteCells_snoc _ _ (Nat.mod_lt _ (by decide))]
              simpa using hownN
            have HTn : Hid (T' ++ [UInt8.ofNat (48 + z % 10)] = T ++ Cub.padn (9 - p) (d / 10 ^ p)) := by
              rw [unhide HT', List.append_assoc, unhide HZd, Cub.pad_step d p (by omega)]; exact rfl
            have HYn : Hid (y / 10 = Cub.unitOf p) := by rw [unhide HY, Cub.unit_div]; exact rfl
            clear hownN hgrow hown' hbox' hbl' hbN hxd hq
            go_wp2
            go_roundw
            case rel => exact ⟨p, y / 10, T' ++ [UInt8.ofNat (48 + z % 10)], by omega, by go_num, by omega, HYn, by simp; omega, HTn, hown2, hboxN, hblN, hsN⟩
            case measure => simp [intOf]; omega
end Go.Proofs.YtpoapffbpgnkpaaGreatDoor

namespace Go.Proofs.YtpoapffbpgnkpaaGreatDoor
open Go.ChangeShapes Go.WideShapes Go.ChangeAt Go.RowKit

theorem own : ownKnob Tryz.prog.godebug = none := by kernel_rfl
theorem laidOut : laidOutB Tryz.prog = true := by kernel_rfl
theorem gPow : Tryz.prog.globalNamed "internal/strconv.uint64pow10" = some 1 := by kernel_rfl
theorem gPowType : (Tryz.prog.globals[1]?).map (·.type) = some 204 := by kernel_rfl
theorem cells204 : Tryz.prog.cellsOf 204 = 20 := by kernel_rfl
theorem cells130 : Tryz.prog.cellsOf 130 = 1 := by kernel_rfl

theorem tab_of {W : World} {l : List (String × DataW Unit)} (h : laidMet Tryz.prog l W) (e : l.filter (fun x => x.1 == "internal/strconv.uint64pow10") = [("internal/strconv.uint64pow10", Rows.laid_internal_strconv_uint64pow10)]) : Tab W := by
  have h1 := laidMet.filter (fun x => x.1 == "internal/strconv.uint64pow10") h
  rw [e] at h1
  exact Lib.tabIs_of_head (rest := []) gPow gPowType Tryz.underlying204 Tryz.underlying130 cells130 cells204 h1

/-- A table's cells, off its datum. -/
def cellsOf1 : DataW Unit → List Value
  | .lit (.int k n) => [Value.int k n]
  | .agg l => l.map fun | .lit (.int k n) => Value.int k n | _ => .nilIface
  | _ => []
def cellsOfData : DataW Unit → Array Value
  | .agg l => (l.flatMap cellsOf1).toArray
  | _ => #[]
def putAt (h : Array Obj) (g : Nat) (c : Array Value) : Array Obj := h.modify g fun
  | .cells _ t frozen => .cells c t frozen
  | o => o
/-- A world for the witness: the settled one, the variables holding what their initialisers lay. -/
noncomputable def laidWorld (os : Os) : World :=
  let w0 := World.holding Tryz.prog os ⟨#[], #[], []⟩
  { w0 with heap := putAt (putAt (putAt w0.heap 1 (cellsOfData Rows.laid_internal_strconv_uint64pow10)) 2 (cellsOfData Rows.laid_math_bits_deBruijn32tab)) 3 (cellsOfData Rows.laid_math_bits_deBruijn64tab) }
end Go.Proofs.YtpoapffbpgnkpaaGreatDoor

namespace Cub
/-- After an even number of steps: x, y are what the steps make of x0, y0; the signs alternate; both ends stay at 0 or above. (After an odd number: the same with the columns exchanged.) -/
structure Ev (x0 y0 x y A B C D : Int) : Prop where
  ex : x = A * x0 + B * y0
  ey : y = C * x0 + D * y0
  sA : 0 ≤ A
  sB : B ≤ 0
  sC : C ≤ 0
  sD : 0 ≤ D
  det : A * D - B * C = 1
  p1 : 0 ≤ x + A
  p2 : 0 ≤ x + B
  r1 : 0 ≤ y + C
  r2 : 0 ≤ y + D
  bA : A ≤ 1000000000
  bB : -1000000000 ≤ B
  bC : -1000000000 ≤ C
  bD : D ≤ 1000000000
theorem Ev.start (x0 y0 : Int) (hx : 0 ≤ x0) (hy : 0 ≤ y0) : Ev x0 y0 x0 y0 1 0 0 1 := by
  constructor <;> omega
theorem sq_bound {C y : Int} (h0 : 0 ≤ C) (h1 : C ≤ y) (h2 : C * y < 1000000000000000000) : C ≤ 1000000000 := by
  apply Decidable.byContradiction
  intro hc
  have h3 : 1000000000 ≤ y := by omega
  have h4 : 1000000000 * 1000000000 ≤ C * y := Int.mul_le_mul (by omega) h3 (by omega) (by omega)
  omega
theorem Ev.step {x0 y0 x y A B C D q : Int} (h : Ev x0 y0 x y A B C D) (hq : 0 ≤ q) (a1 : q * (y + C) ≤ x + A) (a2 : x + A < q * (y + C) + (y + C)) (b1 : q * (y + D) ≤ x + B)
    (hx : x0 < 1000000000000000000) (hy : y0 < 1000000000000000000) : Ev y0 x0 y (x - q * y) D C (B - q * D) (A - q * C) := by
  have qD : 0 ≤ q * D := Int.mul_nonneg hq h.sD
  have qC : q * C ≤ 0 := Int.mul_nonpos_of_nonneg_of_nonpos hq h.sC
  have e1 : q * (y + C) = q * y + q * C := Int.mul_add ..
  have e2 : q * (y + D) = q * y + q * D := Int.mul_add ..
  have sA := h.sA; have sB := h.sB; have sC := h.sC; have sD := h.sD
  have ex := h.ex; have ey := h.ey; have det := h.det
  have r1 := h.r1; have r2 := h.r2
  have hy1 : 0 ≤ x - q * y := by omega
  have k1 : (A - q * C) * y - C * (x - q * y) = y0 := by
    have : (A - q * C) * y - C * (x - q * y) = A * y - C * x := by grind
    rw [this, ex, ey]
    have : A * (C * x0 + D * y0) - C * (A * x0 + B * y0) = (A * D - B * C) * y0 := by grind
    rw [this, det, Int.one_mul]
  have k2 : (q * D - B) * y + D * (x - q * y) = x0 := by
    have : (q * D - B) * y + D * (x - q * y) = D * x - B * y := by grind
    rw [this, ex, ey]
    have : D * (A * x0 + B * y0) - B * (C * x0 + D * y0) = (A * D - B * C) * x0 := by grind
    rw [this, det, Int.one_mul]
  have m1 : 0 ≤ -(C * (x - q * y)) := by
    have := Int.mul_nonpos_of_nonpos_of_nonneg sC hy1
    omega
  have m2 : 0 ≤ D * (x - q * y) := Int.mul_nonneg sD hy1
  have c1 : A - q * C ≤ 1000000000 := sq_bound (y := y) (by omega) (by omega) (by omega)
  have c2 : q * D - B ≤ 1000000000 := sq_bound (y := y) (by omega) (by omega) (by omega)
  refine ⟨?_, ?_, sD, sC, by omega, by omega, ?_, r2, r1, by omega, by omega, h.bD, h.bC, by omega, c1⟩
  · rw [ey]; omega
  · rw [ex, ey]; grind
  · have : D * (A - q * C) - C * (B - q * D) = A * D - B * C := by grind
    rw [this, det]
/-- The numbers themselves: what is left is not below 0, and below what divides. -/
theorem Ev.rest {x0 y0 x y A B C D q b c U P u v : Int} (h : Ev x0 y0 x y A B C D) (hq : 0 ≤ q) (a2 : x + A < q * (y + C) + (y + C)) (b1 : q * (y + D) ≤ x + B)
    (hb : b * U = x0 * P + u) (hc : c * U = y0 * P + v) (hu : 0 ≤ u) (hu2 : u ≤ P) (hv : 0 ≤ v) (hv2 : v ≤ P) (hP : 0 < P) (hU : 0 < U) :
    0 ≤ (A * b + B * c) - q * (C * b + D * c) ∧ (A * b + B * c) - q * (C * b + D * c) < C * b + D * c := by
  have qD : 0 ≤ q * D := Int.mul_nonneg hq h.sD
  have qC : q * C ≤ 0 := Int.mul_nonpos_of_nonneg_of_nonpos hq h.sC
  have sA := h.sA; have sB := h.sB; have sC := h.sC; have sD := h.sD
  have ex := h.ex; have ey := h.ey
  have e1 : U * ((A * b + B * c) - q * (C * b + D * c)) = (x - q * y) * P + (A - q * C) * u + (B - q * D) * v := by
    have : U * ((A * b + B * c) - q * (C * b + D * c)) = A * (b * U) + B * (c * U) - q * (C * (b * U) + D * (c * U)) := by grind
    rw [this, hb, hc, ex, ey]; grind
  have e2 : U * (C * b + D * c) = y * P + C * u + D * v := by
    have : U * (C * b + D * c) = C * (b * U) + D * (c * U) := by grind
    rw [this, hb, hc, ey]; grind
  have m1 : 0 ≤ (A - q * C) * u := Int.mul_nonneg (by omega) hu
  have m2 : (B - q * D) * P ≤ (B - q * D) * v := Int.mul_le_mul_of_nonpos_left (by omega) hv2
  have m3 : 0 ≤ ((x + B) - q * (y + D)) * P := Int.mul_nonneg (by omega) (by omega)
  have m4 : (x - q * y) * P + (B - q * D) * P = ((x + B) - q * (y + D)) * P := by grind
  have n1 : (A - q * C - C) * u ≤ (A - q * C - C) * P := Int.mul_le_mul_of_nonneg_left hu2 (by omega)
  have n2 : (B - q * D - D) * v ≤ 0 := Int.mul_nonpos_of_nonpos_of_nonneg (by omega) hv
  have n3 : ((x + A) - q * (y + C) - (y + C)) * P < 0 := Int.mul_neg_of_neg_of_pos (by omega) hP
  have n4 : (x - q * y) * P - y * P + (A - q * C - C) * P = ((x + A) - q * (y + C) - (y + C)) * P := by grind
  have n5 : (A - q * C - C) * u = (A - q * C) * u - C * u := by grind
  have n6 : (B - q * D - D) * v = (B - q * D) * v - D * v := by grind
  refine ⟨?_, ?_⟩
  · apply Decidable.byContradiction
    intro hn
    have : U * ((A * b + B * c) - q * (C * b + D * c)) < 0 := Int.mul_neg_of_pos_of_neg hU (by omega)
    omega
  · apply Decidable.byContradiction
    intro hn
    have h1 : U * (C * b + D * c) ≤ U * ((A * b + B * c) - q * (C * b + D * c)) := Int.mul_le_mul_of_nonneg_left (by omega) (by omega)
    omega
/-- A step of Euclid's keeps the greatest common divisor. -/
theorem gcd_step (b c q : Int) : Int.gcd c (b - q * c) = Int.gcd b c := by
  rw [Int.gcd_comm, Int.sub_eq_add_neg, ← Int.neg_mul, Int.gcd_add_mul_right_left]
end Cub

namespace Cub

theorem lval_set (B : Nat) : ∀ (l : List Nat) (i : Nat) (x : Nat) (h : i < l.length), lval B (l.set i x) + B ^ i * l[i] = lval B l + B ^ i * x := by
  intro l
  induction l with
  | nil => intro i x h; simp at h
  | cons a l ih =>
    intro i x h
    cases i with
    | zero => simp [lval]; omega
    | succ i =>
      have hi : i < l.length := by simpa using h
      have e := ih i x hi
      simp only [List.set_cons_succ, lval, List.getElem_cons_succ, Nat.pow_succ]
      have e2 := congrArg (B * ·) e
      simp only [Nat.mul_add] at e2
      have m1 : B ^ i * B * l[i] = B * (B ^ i * l[i]) := by rw [Nat.mul_comm (B ^ i) B, Nat.mul_assoc]
      have m2 : B ^ i * B * x = B * (B ^ i * x) := by rw [Nat.mul_comm (B ^ i) B, Nat.mul_assoc]
      omega

theorem limbs_set {B : Nat} {l : List Nat} (h : limbs B l) (i x : Nat) (hx : x < B) : limbs B (l.set i x) := by
  intro y hy
  rcases List.mem_or_eq_of_mem_set hy with h1 | h1
  · exact h y h1
  · omega

/-- What holds of a sum in the making: S the list (so long as the greater one, and one more), k what is carried, i the place. -/
structure AddInv (lp lq : List Nat) (S : List Nat) (k i : Nat) : Prop where
  len : S.length = lp.length + 1
  lim : limbs 1000000000 S
  rest : ∀ j (h : j < S.length), i ≤ j → S[j] = (lp ++ [0])[j]'(by simp; omega)
  val : lval 1000000000 S + 1000000000 ^ i * k = lval 1000000000 lp + lval 1000000000 (lq.take i)
  carry : k ≤ 1
  place : i ≤ lp.length + 1

theorem AddInv.start {lp lq : List Nat} (hp : limbs 1000000000 lp) : AddInv lp lq (lp ++ [0]) 0 0 :=
  ⟨by simp, limbs_append.2 ⟨hp, fun x hx => by rw [List.mem_singleton] at hx; omega⟩, fun j h _ => rfl, by rw [lval_snoc]; simp [lval], by omega, by omega⟩

theorem take_val (l : List Nat) (i : Nat) (h : i < l.length) : lval 1000000000 (l.take (i + 1)) = lval 1000000000 (l.take i) + 1000000000 ^ i * l[i] := by
  rw [List.take_succ_eq_append_getElem h, lval_snoc, List.length_take, Nat.min_eq_left (by omega)]

theorem take_val' (l : List Nat) (i : Nat) (h : l.length ≤ i) : lval 1000000000 (l.take (i + 1)) = lval 1000000000 (l.take i) := by
  rw [List.take_of_length_le (by omega), List.take_of_length_le h]

/-- One place more; c is the other one's limb there, or 0. -/
theorem AddInv.step {lp lq S : List Nat} {k i c : Nat} (h : AddInv lp lq S k i) (hi : i < S.length) (hc : c < 1000000000)
    (hcv : lval 1000000000 (lq.take (i + 1)) = lval 1000000000 (lq.take i) + 1000000000 ^ i * c) :
    AddInv lp lq (S.set i ((k + S[i] + c) % 1000000000)) ((k + S[i] + c) / 1000000000) (i + 1) := by
  have hS := h.lim S[i] (List.getElem_mem hi)
  have hk := h.carry
  have hl := h.len
  refine ⟨by simp [h.len], limbs_set h.lim i _ (Nat.mod_lt _ (by decide)), ?_, ?_, by omega, by omega⟩
  · intro j hj hij
    rw [List.getElem_set_ne (by omega)]
    exact h.rest j (by simpa using hj) (by omega)
  · have e1 := lval_set 1000000000 S i ((k + S[i] + c) % 1000000000) hi
    have e2 := h.val
    have e3 : k + S[i] + c = 1000000000 * ((k + S[i] + c) / 1000000000) + (k + S[i] + c) % 1000000000 := (Nat.div_add_mod _ _).symm
    generalize (k + S[i] + c) / 1000000000 = q at *
    generalize (k + S[i] + c) % 1000000000 = r at *
    rw [hcv, Nat.pow_succ]
    have e4 := congrArg (1000000000 ^ i * ·) e3
    simp only [Nat.mul_add] at e4
    have m1 : 1000000000 ^ i * 1000000000 * q = 1000000000 ^ i * (1000000000 * q) := Nat.mul_assoc _ _ _
    omega

/-- At the end nothing is carried. -/
theorem AddInv.last {lp lq S : List Nat} {k i : Nat} (h : AddInv lp lq S k i) (hp : limbs 1000000000 lp) (hq : limbs 1000000000 lq) (hl : lq.length ≤ lp.length) (hi : i = lp.length + 1) : k = 0 := by
  have h1 := lval_lt hp
  have h2 : lval 1000000000 (lq.take i) < 1000000000 ^ lp.length := by
    have := lval_lt (B := 1000000000) (l := lq.take i) (fun x hx => hq x (List.mem_of_mem_take hx))
    exact Nat.lt_of_lt_of_le this (Nat.pow_le_pow_right (by decide) (by rw [List.length_take]; omega))
  have h3 := h.val
  rw [hi, Nat.pow_succ] at h3
  rcases Nat.eq_zero_or_pos k with h0 | h0
  · exact h0
  · have : 1000000000 ^ lp.length * 1000000000 * 1 ≤ 1000000000 ^ lp.length * 1000000000 * k := Nat.mul_le_mul_left _ h0
    rw [hi] at h2
    omega

theorem AddInv.sum {lp lq S : List Nat} {i : Nat} (h : AddInv lp lq S 0 i) (hi : lq.length ≤ i) : lval 1000000000 S = lval 1000000000 lp + lval 1000000000 lq := by
  have := h.val
  rw [List.take_of_length_le hi] at this
  simpa using this
end Cub

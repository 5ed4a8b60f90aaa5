/- Rows of int in memory, for the document's own numbers: limbs of four digits. -/
import Derived.Test.YtndhinoomlofgaaGreatDoorShelf
import Derived.Test.YtndhinoomlofgaaGreatDoorLimb4
import Derived.Lib.AppendIntMem
import Derived.Test.YtndhinoomlofgaaGreatDoorCards
import Derived.Test.YtndhinoomlofgaaGreatDoorTie
import Derived.WalkKit
import Derived.ProofKit
import Derived.OpenShut
import Derived.ChangeSame
import Derived.Deep.DeepHandedRow
import Derived.Lib.LaidTab
import Derived.LaidSub
import Derived.LaidLaws
import Derived.Carry
namespace Go.Proofs.YtndhinoomlofgaaGreatDoor
open Go.RowKit

/-- The table of the powers of ten lies as its initialiser lays it. -/
def Tab (w : World) : Prop := Lib.TabIs Tryz.prog w "internal/strconv.uint64pow10" .u64 Lib.pow10Tab
theorem Tab.later {w w' : World} (h : Tab w) (hb : Below w.heap.size w w') : Tab w' := Lib.tabBelow_of_tabIs h w' hb


theorem appendUint_any (B n u : Nat) (hu : u < 18446744073709551616) (sv : Value) (xs : List Value) (w : World) (hown : w.ownsRow B 5 1 sv n xs) (hBw : B ≤ w.heap.size) (hlim : n + 20 ≤ 140737488355328) (htab : Tab w) :
    Calls Tryz.prog 146 #[sv, .int .u64 u, .int .i64 10] w fun e w' => ∃ v', e = .returned v' ∧ w'.ownsRow B 5 1 v' (n + (Lib.decDigits u).length) (xs ++ Lib.byteCells (Lib.decDigits u)) ∧ Below B w w' := by
  have HO := hide hown
  have HT := hide htab
  clear hown htab
  go_enter Tryz.func146, Tryz.ntmps146
  go_wp2_with (go_at_call 184; refine (Tryz.internal_strconv_AppendUint_10 B n u hu sv xs _ (unhide HO) hBw hlim (unhide HT)).mono ?_; rintro e w2 ⟨v', rfl, h1, h2, _⟩)
  go_ret
  exact ⟨v', rfl, h1, h2⟩

set_option maxRecDepth 100000 in
set_option maxHeartbeats 1000000 in
theorem text_any (v : Value) (n k : Nat) (w : World) (h : IsBig w v n) (hk : k ≤ 1000000) (hn : n < 1000000000 ^ k) (htab : Tab w) :
    Calls Tryz.prog 92 #[v] w fun e w' => e = .returned (.string ⟨(Lib.decDigits n).toArray⟩) ∧ Below w.heap.size w w' := by
  have H := hide h
  have HT := hide htab
  obtain ⟨a, l, cap, rfl, hl, hr, hnm, rfl⟩ := h.form
  have hlk := Cub.len_le hnm hn
  clear hn hl h htab
  by_cases h0 : l = []
  · subst h0
    have e1 : Lib.decDigits (Cub.lval 1000000000 []) = [48] := by decide +kernel
    rw [e1]
    clear e1
    go_enter Tryz.func92, Tryz.ntmps92
    go_wp2_with (go_at_call 90; refine (isZero_any _ _ _ ((unhide H).later ((Below.refl _ _).alloc (Nat.le_refl _) _))).mono ?_; rintro e w2 ⟨rfl, hb2⟩)
    go_ret
    exact ⟨rfl, ((Below.refl _ _).alloc (Nat.le_refl _) _).trans (hb2.mono (by simp))⟩
  · have hlp : 0 < l.length := by cases l with | nil => exact absurd rfl h0 | cons a t => simp
    obtain ⟨len, hlen⟩ : ∃ len, len = l.length := ⟨_, rfl⟩
    rw [← hlen] at H hr hlk hlp ⊢
    have hz : (Cub.lval 1000000000 l == 0) = false := by
      rw [beq_eq_false_iff_ne]; intro e; exact h0 ((Cub.normal_zero hnm (by decide)).1 e)
    obtain ⟨a', cap', ev, hc, hm, hcells⟩ := hr
    simp only [Value.slice.injEq] at ev
    obtain ⟨rfl, hdum, rfl⟩ := ev
    clear hdum
    obtain ⟨b, o, rfl, hbw, hcell⟩ := hcells h0
    have HC : Hid (∀ W, Below w.heap.size w W → ∀ i (hi : i < l.length), W.cell? ⟨b, o + i, none⟩ = some (.int .u64 (l[i] : Int))) := fun W hW i hi => (hW.cell (p := ⟨b, o + i, none⟩) hbw).trans (hcell i hi)
    have HZ := hide hz
    have HN := hide hnm
    have HLen := hide hlen
    clear hcell hcells hz h0 hnm hlen hc hm
    obtain ⟨m, rfl⟩ : ∃ m, len = m + 1 := ⟨len - 1, by omega⟩
    have hml : m < l.length := by have := unhide HLen; omega
    obtain ⟨x, hx⟩ : ∃ x, x = l[m] := ⟨_, rfl⟩
    have hxB : x < 1000000000 := by rw [hx]; exact (unhide HN).1 _ (List.getElem_mem hml)
    have HX : Hid (∀ W, Below w.heap.size w W → W.cell? ⟨b, o + m, none⟩ = some (.int .u64 (x : Int))) := fun W hW => by rw [hx]; exact unhide HC W hW m hml
    have HXl := hide hx
    clear hx hlp
    obtain ⟨i5, hi5, hz50, hz51, hz52⟩ := info_parts Tryz.info5
    go_enter Tryz.func92, Tryz.ntmps92
    go_wp2_with (first
      | (go_at_call 90; refine (isZero_any _ _ _ ((unhide H).later ((Below.refl _ _).alloc (Nat.le_refl _) _))).mono ?_; rintro e w2 ⟨rfl, hb2⟩; rw [unhide HZ]; obtain ⟨hcb, _⟩ := box_later hb2 (g := w.heap.size) (x := .slice (some ⟨b, o, none⟩) (m + 1) cap) (by simp) (by simp) (by simp); have hb3 := ((Below.refl w.heap.size w).alloc (Nat.le_refl _) (.cells #[.slice (some ⟨b, o, none⟩) (m + 1) cap] 72)).trans (hb2.mono (by simp)); have hs2 : w.heap.size + 1 ≤ w2.heap.size := (by have := hb2.size; simpa using this); clear hb2)
      | (at_make; refine wpList_make_own _ rfl _ _ 130 rfl (w.heap.size + 1) 5 i5 (.int .u8 0) 1 Tryz.underlying130 hi5 hz50 hz51 .i64 .i64 _ ((m + 1) * 9) rfl rfl (by omega) (by rw [hz52]; omega) (by unfold maxLen; omega) hs2 ?_; intro w3 hown3 hgrow3; have hb4 : Below (w.heap.size + 1) w2 w3 := (Below.refl _ _).grown hgrow3 hs2 (fun k hk => by cases hk); have hcb3 := (hb4.cell (p := ⟨w.heap.size, 0, none⟩) (Nat.lt_succ_self _)).trans hcb; have hb5 := hb3.trans (hb4.mono (Nat.le_succ _)); have hx3 := unhide HX w3 hb5; have hs3 : w.heap.size + 1 ≤ w3.heap.size := (by have := hb4.size; omega); have HO3 := hide hown3; clear hown3 hgrow3 hb4 hcb)
      | (go_at_call 146; refine (appendUint_any (w.heap.size + 1) 0 x (by omega) _ [] _ (unhide HO3) hs3 (by omega) ((unhide HT).later hb5)).mono ?_; rintro e w4 ⟨v4, rfl, hown4, hb6⟩; have hcb4 := (hb6.cell (p := ⟨w.heap.size, 0, none⟩) (Nat.lt_succ_self _)).trans hcb3; have hb7 := hb5.trans (hb6.mono (Nat.le_succ _)); have hs4 : w.heap.size + 1 ≤ w4.heap.size := (by have := hb6.size; omega); have HO4 := hide hown4; clear hown4 hb6 hcb3))
    have hT0 : (Lib.decDigits x).length ≤ 9 := by rw [Lib.decDigits_length]; exact Cub.nDigits_le9 x hxB
    have hst : w4.ownsRow (w.heap.size + 1) 5 1 v4 (Lib.decDigits x).length (Lib.byteCells (Lib.decDigits x)) := by simpa using unhide HO4
    have HT0 : Hid (Lib.decDigits x = Lib.decDigits (Cub.lval 1000000000 (l.drop m))) := by
      have e : l.drop m = [x] := by
        rw [List.drop_eq_getElem_cons hml, ← unhide HXl, List.drop_of_length_le (by have := unhide HLen; omega)]
      rw [e]; exact (by simp [Cub.lval] : Lib.decDigits x = Lib.decDigits (Cub.lval 1000000000 [x]))
    clear HO4 hx3
    go_loopw [4, 5] (fun v i wr => ∃ (j : Nat) (T : List UInt8), j ≤ m ∧ i = .int .i64 ((j : Int) - 1) ∧ T.length ≤ 9 * (m + 1 - j) ∧ Hid (T = Lib.decDigits (Cub.lval 1000000000 (l.drop j))) ∧
        wr.ownsRow (w.heap.size + 1) 5 1 v T.length (Lib.byteCells T) ∧ wr.cell? ⟨w.heap.size, 0, none⟩ = some (.slice (some ⟨b, o, none⟩) (m + 1) cap) ∧ Below w.heap.size w wr ∧ w.heap.size + 1 ≤ wr.heap.size)
      (fun _ i _ => (intOf i + 1).toNat)
    case atStart => exact ⟨m, Lib.decDigits x, Nat.le_refl _, rfl, by omega, HT0, hst, hcb4, hb7, hs4⟩
    case round =>
      obtain ⟨j, T, hjm, rfl, hTl, HTd, hown, hbox, hbl, hsz⟩ := hrel
      clear hst hcb4 hb7 hs4 hT0 HT0
      by_cases hj0 : j = 0
      · subst hj0
        have hTpos : 0 < T.length := by
          rw [unhide HTd]
          cases e : Lib.decDigits (Cub.lval 1000000000 (l.drop 0)) with
          | nil => exact absurd e (Cub.dec_ne_nil _)
          | cons a t => simp
        obtain ⟨g, cg, rfl⟩ := Joins.ownsRow_form hown hTpos
        have hcv := run_convert_bytes_back (P := Tryz.prog) wr 130 9 5 ⟨g, 0, none⟩ cg T Tryz.underlying130 Tryz.underlying5 Tryz.underlying9 (fun q hq => by
          have := hown.cellAt q (by simpa using hq)
          rw [Lib.add_plain, Nat.zero_add, this]
          simp [Lib.byteCells, hq])
        have HTd' : Hid (T = Lib.decDigits (Cub.lval 1000000000 l)) := by have := unhide HTd; rwa [List.drop_zero] at this
        clear hown HTd
        go_wp2
        go_ret
        exact ⟨by rw [← unhide HTd']; rfl, hbl⟩
      · obtain ⟨i, rfl⟩ : ∃ i, j = i + 1 := ⟨j - 1, by omega⟩
        have hil : i < l.length := by have := unhide HLen; omega
        obtain ⟨d, hd⟩ : ∃ d, d = l[i] := ⟨_, rfl⟩
        have hdB : d < 1000000000 := by rw [hd]; exact (unhide HN).1 _ (List.getElem_mem hil)
        have HXd : Hid (∀ W, Below w.heap.size w W → W.cell? ⟨b, o + i, none⟩ = some (.int .u64 (d : Int))) := fun W hW => by rw [hd]; exact unhide HC W hW i hil
        have HDd := hide hd
        clear hd hj0
        rw [show (((i + 1 : Nat) : Int) - 1) = (i : Int) from by omega]
        go_wp2
        go_loopw [4, 6] (fun v u wq => ∃ (q y : Nat) (T' : List UInt8), q ≤ 9 ∧ u = .int .u64 (y : Int) ∧ y ≤ 100000000 ∧ Hid (y = Cub.unitOf q) ∧ T'.length + q ≤ T.length + 9 ∧ Hid (T' = T ++ Cub.padn (9 - q) (d / 10 ^ q)) ∧
            wq.ownsRow (w.heap.size + 1) 5 1 v T'.length (Lib.byteCells T') ∧ wq.cell? ⟨w.heap.size, 0, none⟩ = some (.slice (some ⟨b, o, none⟩) (m + 1) cap) ∧ Below w.heap.size w wq ∧ w.heap.size + 1 ≤ wq.heap.size)
          (fun _ u _ => (intOf u).toNat)
        case atStart => exact ⟨9, 100000000, T, Nat.le_refl _, rfl, Nat.le_refl _, rfl, Nat.le_refl _, (List.append_nil T).symm, hown, hbox, hbl, hsz⟩
        case round =>
          obtain ⟨q, y, T', hq9, rfl, hy, HY, hTl', HT', hown', hbox', hbl', hsz'⟩ := hrel
          clear hown hbox hbl hsz
          by_cases hq0 : q = 0
          · subst hq0
            have hy0 : y = 0 := unhide HY
            subst hy0
            have HTn : Hid (T' = Lib.decDigits (Cub.lval 1000000000 (l.drop i))) := by
              rw [Cub.dec_limb l i hil (unhide HN).1 (Cub.drop_pos (unhide HN) (i + 1) (by have := unhide HLen; omega)), ← unhide HDd, ← unhide HTd, unhide HT', Cub.pad_all]; exact rfl
            go_wp2
            go_roundw
            case rel => exact ⟨i, T', by omega, rfl, by omega, HTn, hown', hbox', hbl', hsz'⟩
            case measure => simp [intOf]
          · obtain ⟨p, rfl⟩ : ∃ p, q = p + 1 := ⟨q - 1, by omega⟩
            have hyp : 0 < y := by rw [unhide HY]; exact (Cub.unit_pos _).2 (by omega)
            have hyz : ((y : Int) == 0) = false := by rw [beq_eq_false_iff_ne]; omega
            have hxd := unhide HXd wr hbl'
            clear hq0
            obtain ⟨z, hz⟩ : ∃ z, z = d / y := ⟨_, rfl⟩
            have hzd : z < 1000000000 := by rw [hz]; exact Nat.lt_of_le_of_lt (Nat.div_le_self _ _) hdB
            have hq : (d : Int) / (y : Int) = (z : Int) := by rw [hz]; simp
            have HZd : Hid (z = d / 10 ^ p) := by rw [hz, unhide HY, Cub.unit_at]; exact rfl
            clear hz
            go_wp2_with (at_builtin; refine wpList_append_own _ rfl _ _ 130 rfl (w.heap.size + 1) 5 i5 (.int .u8 0) 1 1 Tryz.underlying130 hi5 hz50 hz51 hz52 rfl (by decide) _ _ _ rfl (hown'.alloc _) ⟨wr.heap.size, 0, none⟩ 1 1 [.int .u8 (48 + (z : Int) % 10)] rfl rfl (cell_one_new _ _ _) (fun x hx => by simp at hx; subst hx; rfl) (by unfold maxLen; omega) (by omega) (by simp; omega) ?_; intro v' w1 hownN hgrow _)
            have hsN : w.heap.size + 1 ≤ w1.heap.size := by have := hgrow.size; simp at this; omega
            have hbN : Below (w.heap.size + 1) wr w1 := ((Below.refl _ _).alloc (by omega) _).grown hgrow (by simp; omega) (fun k hk => (hown'.lt k hk).1)
            have hboxN := (hbN.cell (p := ⟨w.heap.size, 0, none⟩) (Nat.lt_succ_self _)).trans hbox'
            have hblN := hbl'.trans (hbN.mono (Nat.le_succ _))
            have hown2 : w1.ownsRow (w.heap.size + 1) 5 1 v' (T' ++ [UInt8.ofNat (48 + z % 10)]).length (Lib.byteCells (T' ++ [UInt8.ofNat (48 + z % 10)])) := by
              rw [← byteCells_snoc _ _ (Nat.mod_lt _ (by decide))]
              simpa using hownN
            have HTn : Hid (T' ++ [UInt8.ofNat (48 + z % 10)] = T ++ Cub.padn (9 - p) (d / 10 ^ p)) := by
              rw [unhide HT', List.append_assoc, unhide HZd, Cub.pad_step d p (by omega)]; exact rfl
            have HYn : Hid (y / 10 = Cub.unitOf p) := by rw [unhide HY, Cub.unit_div]; exact rfl
            clear hownN hgrow hown' hbox' hbl' hbN hxd hq
            go_wp2
            go_roundw
            case rel => exact ⟨p, y / 10, T' ++ [UInt8.ofNat (48 + z % 10)], by omega, by go_num, by omega, HYn, by simp; omega, HTn, hown2, hboxN, hblN, hsN⟩
            case measure => simp [intOf]; omega
end Go.Proofs.YtndhinoomlofgaaGreatDoor

namespace Go.Proofs.YtndhinoomlofgaaGreatDoor
open Go.ChangeShapes Go.WideShapes Go.ChangeAt Go.RowKit

theorem own : ownKnob Tryz.prog.godebug = none := by kernel_rfl
theorem laidOut : laidOutB Tryz.prog = true := by kernel_rfl
theorem gPow : Tryz.prog.globalNamed "internal/strconv.uint64pow10" = some 0 := by kernel_rfl
theorem gPowType : (Tryz.prog.globals[0]?).map (·.type) = some 215 := by kernel_rfl
theorem cells215 : Tryz.prog.cellsOf 215 = 20 := by kernel_rfl
theorem cells59 : Tryz.prog.cellsOf 59 = 1 := by kernel_rfl
theorem cells23 : Tryz.prog.cellsOf 23 = 2 := by kernel_rfl
theorem cells9 : Tryz.prog.cellsOf 9 = 1 := by kernel_rfl

theorem tab_of {W : World} {l : List (String × DataW Unit)} (h : laidMet Tryz.prog l W) (e : l.filter (fun x => x.1 == "internal/strconv.uint64pow10") = [("internal/strconv.uint64pow10", Rows.laid_internal_strconv_uint64pow10)]) : Tab W := by
  have h1 := laidMet.filter (fun x => x.1 == "internal/strconv.uint64pow10") h
  rw [e] at h1
  exact Lib.tabIs_of_head (rest := []) gPow gPowType Tryz.underlying215 Tryz.underlying59 cells59 cells215 h1

set_option maxRecDepth 100000 in
/-- A number that comes in: two texts. -/
theorem open_rat {H : Type} {enc : TypeId × Value → H} {w : World} {r : Reach} {b0 base : Nat} {spare : Nat → Bool} {held : Bool} {v : Value} {d : DataW H} {p : List MemPlace}
    (hv : Value.okWide Tryz.prog w r b0 23 v) (h : DataW.Trod enc Tryz.prog w base spare held 23 v d p) :
    ∃ s t : ByteArray, v = .agg #[.string s, .string t] ∧ s.size ≤ maxLen ∧ t.size ≤ maxLen := by
  obtain ⟨cs, rfl, hsz⟩ : ∃ cs, v = .agg cs ∧ cs.size = 2 := by
    simp only [Value.okWide, Tryz.underlying23] at hv
    obtain ⟨cs, h1, h2, _⟩ := hv
    exact ⟨cs, h1, h2.trans cells23⟩
  obtain ⟨fuel, hf⟩ := h
  obtain ⟨_, _, _, _, _, g0, g1⟩ := trod_struct2 Tryz.underlying23 hf
  obtain ⟨s, e0, _, hs⟩ := DataW.trod_string Tryz.underlying9 g0
  obtain ⟨t, e1, _, ht⟩ := DataW.trod_string Tryz.underlying9 g1
  refine ⟨s, t, ?_, hs, ht⟩
  obtain ⟨l⟩ := cs
  match l, hsz with
  | [x, y], _ =>
    have k0 : [x] = [.string s] := by rw [← e0]; show [x] = List.take (Tryz.prog.cellsOf 9) (List.drop 0 [x, y]); rw [cells9]; rfl
    have k1 : [y] = [.string t] := by rw [← e1]; show [y] = List.take (Tryz.prog.cellsOf 9) (List.drop 1 [x, y]); rw [cells9]; rfl
    simp only [List.cons.injEq, and_true] at k0 k1
    rw [k0, k1]

/-- A table's cells, off its datum. -/
def cellsOf1 : DataW Unit → List Value
  | .lit (.int k n) => [Value.int k n]
  | .agg l => l.map fun | .lit (.int k n) => Value.int k n | _ => .nilIface
  | _ => []
def cellsOfData : DataW Unit → Array Value
  | .agg l => (l.flatMap cellsOf1).toArray
  | _ => #[]
def synS : ByteArray := ⟨#[105, 110, 118, 97, 108, 105, 100, 32, 115, 121, 110, 116, 97, 120]⟩
def rngS : ByteArray := ⟨#[118, 97, 108, 117, 101, 32, 111, 117, 116, 32, 111, 102, 32, 114, 97, 110, 103, 101]⟩
noncomputable def low : Nat := (World.holding Tryz.prog default ⟨#[], #[], []⟩).heap.size
def putAt (h : Array Obj) (g : Nat) (c : Array Value) : Array Obj := h.modify g fun
  | .cells _ t frozen => .cells c t frozen
  | o => o
/-- A world for the witness: the settled one, the variables holding what their initialisers lay. -/
noncomputable def laidWorld (os : Os) : World :=
  let w0 := World.holding Tryz.prog os ⟨#[.cells #[.string synS] 233, .cells #[.string rngS] 233], #[], []⟩
  { w0 with heap := putAt (putAt (putAt (putAt (putAt (putAt (putAt w0.heap 1 #[.iface 231 (.pointer (some ⟨low, 0, none⟩))]) 2 #[.iface 231 (.pointer (some ⟨low + 1, 0, none⟩))]) 0 (cellsOfData Rows.laid_internal_strconv_uint64pow10)) 4 (cellsOfData Rows.laid_math_bits_deBruijn32tab)) 5 (cellsOfData Rows.laid_math_bits_deBruijn64tab)) 6 (cellsOfData Rows.laid_unicode_utf8_first)) 7 (cellsOfData Rows.laid_unicode_utf8_acceptRanges) }
end Go.Proofs.YtndhinoomlofgaaGreatDoor

namespace Cub

theorem lval_set (B : Nat) : ∀ (l : List Nat) (i : Nat) (x : Nat) (h : i < l.length), lval B (l.set i x) + B ^ i * l[i] = lval B l + B ^ i * x := by
  intro l
  induction l with
  | nil => intro i x h; simp at h
  | cons a l ih =>
    intro i x h
    cases i with
    | zero => simp [lval]; omega
    | succ i =>
      have hi : i < l.length := by simpa using h
      have e := ih i x hi
      simp only [List.set_cons_succ, lval, List.getElem_cons_succ, Nat.pow_succ]
      have e2 := congrArg (B * ·) e
      simp only [Nat.mul_add] at e2
      have m1 : B ^ i * B * l[i] = B * (B ^ i * l[i]) := by rw [Nat.mul_comm (B ^ i) B, Nat.mul_assoc]
      have m2 : B ^ i * B * x = B * (B ^ i * x) := by rw [Nat.mul_comm (B ^ i) B, Nat.mul_assoc]
      omega

theorem limbs_set {B : Nat} {l : List Nat} (h : limbs B l) (i x : Nat) (hx : x < B) : limbs B (l.set i x) := by
  intro y hy
  rcases List.mem_or_eq_of_mem_set hy with h1 | h1
  · exact h y h1
  · omega

/-- What holds of a sum in the making: S the list (so long as the greater one, and one more), k what is carried, i the place. -/
structure AddInv (lp lq : List Nat) (S : List Nat) (k i : Nat) : Prop where
  len : S.length = lp.length + 1
  lim : limbs 1000000000 S
  rest : ∀ j (h : j < S.length), i ≤ j → S[j] = (lp ++ [0])[j]'(by simp; omega)
  val : lval 1000000000 S + 1000000000 ^ i * k = lval 1000000000 lp + lval 1000000000 (lq.take i)
  carry : k ≤ 1
  place : i ≤ lp.length + 1

theorem AddInv.start {lp lq : List Nat} (hp : limbs 1000000000 lp) : AddInv lp lq (lp ++ [0]) 0 0 :=
  ⟨by simp, limbs_append.2 ⟨hp, fun x hx => by rw [List.mem_singleton] at hx; omega⟩, fun j h _ => rfl, by rw [lval_snoc]; simp [lval], by omega, by omega⟩

theorem take_val (l : List Nat) (i : Nat) (h : i < l.length) : lval 1000000000 (l.take (i + 1)) = lval 1000000000 (l.take i) + 1000000000 ^ i * l[i] := by
  rw [List.take_succ_eq_append_getElem h, lval_snoc, List.length_take, Nat.min_eq_left (by omega)]

theorem take_val' (l : List Nat) (i : Nat) (h : l.length ≤ i) : lval 1000000000 (l.take (i + 1)) = lval 1000000000 (l.take i) := by
  rw [List.take_of_length_le (by omega), List.take_of_length_le h]

/-- One place more; c is the other one's limb there, or 0. -/
theorem AddInv.step {lp lq S : List Nat} {k i c : Nat} (h : AddInv lp lq S k i) (hi : i < S.length) (hc : c < 1000000000)
    (hcv : lval 1000000000 (lq.take (i + 1)) = lval 1000000000 (lq.take i) + 1000000000 ^ i * c) :
    AddInv lp lq (S.set i ((k + S[i] + c) % 1000000000)) ((k + S[i] + c) / 1000000000) (i + 1) := by
  have hS := h.lim S[i] (List.getElem_mem hi)
  have hk := h.carry
  have hl := h.len
  refine ⟨by simp [h.len], limbs_set h.lim i _ (Nat.mod_lt _ (by decide)), ?_, ?_, by omega, by omega⟩
  · intro j hj hij
    rw [List.getElem_set_ne (by omega)]
    exact h.rest j (by simpa using hj) (by omega)
  · have e1 := lval_set 1000000000 S i ((k + S[i] + c) % 1000000000) hi
    have e2 := h.val
    have e3 : k + S[i] + c = 1000000000 * ((k + S[i] + c) / 1000000000) + (k + S[i] + c) % 1000000000 := (Nat.div_add_mod _ _).symm
    generalize (k + S[i] + c) / 1000000000 = q at *
    generalize (k + S[i] + c) % 1000000000 = r at *
    rw [hcv, Nat.pow_succ]
    have e4 := congrArg (1000000000 ^ i * ·) e3
    simp only [Nat.mul_add] at e4
    have m1 : 1000000000 ^ i * 1000000000 * q = 1000000000 ^ i * (1000000000 * q) := Nat.mul_assoc _ _ _
    omega

/-- At the end nothing is carried. -/
theorem AddInv.last {lp lq S : List Nat} {k i : Nat} (h : AddInv lp lq S k i) (hp : limbs 1000000000 lp) (hq : limbs 1000000000 lq) (hl : lq.length ≤ lp.length) (hi : i = lp.length + 1) : k = 0 := by
  have h1 := lval_lt hp
  have h2 : lval 1000000000 (lq.take i) < 1000000000 ^ lp.length := by
    have := lval_lt (B := 1000000000) (l := lq.take i) (fun x hx => hq x (List.mem_of_mem_take hx))
    exact Nat.lt_of_lt_of_le this (Nat.pow_le_pow_right (by decide) (by rw [List.length_take]; omega))
  have h3 := h.val
  rw [hi, Nat.pow_succ] at h3
  rcases Nat.eq_zero_or_pos k with h0 | h0
  · exact h0
  · have : 1000000000 ^ lp.length * 1000000000 * 1 ≤ 1000000000 ^ lp.length * 1000000000 * k := Nat.mul_le_mul_left _ h0
    rw [hi] at h2
    omega

theorem AddInv.sum {lp lq S : List Nat} {i : Nat} (h : AddInv lp lq S 0 i) (hi : lq.length ≤ i) : lval 1000000000 S = lval 1000000000 lp + lval 1000000000 lq := by
  have := h.val
  rw [List.take_of_length_le hi] at this
  simpa using this
end Cub

namespace Cub
theorem takeB (B : Nat) (l : List Nat) (i : Nat) : lval B (l.take (i + 1)) = lval B (l.take i) + B ^ i * l.getD i 0 := by
  by_cases h : i < l.length
  · rw [List.take_succ_eq_append_getElem h, lval_snoc, List.length_take, Nat.min_eq_left (by omega)]
    simp [List.getD, h]
  · rw [List.take_of_length_le (by omega), List.take_of_length_le (by omega)]
    simp [List.getD, Nat.le_of_not_lt h]
end Cub

namespace Cub
theorem pow4 (m : Nat) : 10 ^ (4 * m) = 10000 ^ m := by rw [Nat.pow_mul]
theorem dval_cut4 (l : List UInt8) (m e f : Nat) (he : e + 4 * m = l.length) (hf : f ≤ e) :
    dval (l.drop f) = dval (l.drop e) + 10000 ^ m * dval ((l.drop f).take (e - f)) := by
  have h1 : l.drop f = (l.drop f).take (e - f) ++ l.drop e := by
    have := List.take_append_drop (e - f) (l.drop f)
    rw [List.drop_drop] at this
    rw [show f + (e - f) = e by omega] at this
    exact this.symm
  rw [← pow4]
  have hl : (l.drop e).length = 4 * m := by rw [List.length_drop]; omega
  rw [h1, dval_append, hl, ← h1, Nat.mul_comm, Nat.add_comm]
theorem seg4_lt {l : List UInt8} (h : digs l) (f k : Nat) (hk : k ≤ 4) : dval ((l.drop f).take k) < 10000 := by
  have h1 := dval_lt (digs_sub h f k)
  have h2 : ((l.drop f).take k).length ≤ 4 := by rw [List.length_take]; omega
  have h3 : 10 ^ ((l.drop f).take k).length ≤ 10 ^ 4 := Nat.pow_le_pow_right (by decide) h2
  omega
theorem cut4_step (l : List UInt8) (L : List Nat) (e f : Nat) (he : e + 4 * L.length = l.length) (hf : f = e - 4) (hd : digs l) (hL : limbs 10000 L)
    (hv : lval 10000 L = dval (l.drop e)) :
    limbs 10000 (L ++ [dval ((l.drop f).take (e - f))]) ∧ lval 10000 (L ++ [dval ((l.drop f).take (e - f))]) = dval (l.drop f) := by
  refine ⟨limbs_append.2 ⟨hL, fun x hx => ?_⟩, ?_⟩
  · rw [List.mem_singleton] at hx; subst hx; exact seg4_lt hd f _ (by omega)
  · rw [lval_snoc, hv, dval_cut4 l L.length e f he (by omega)]
end Cub
namespace Go.Proofs.YtndhinoomlofgaaGreatDoor
open Go.RowKit

theorem Tryz.info3 : (Tryz.prog.info? 3).map (fun i => (i.zero, i.size, i.bytes)) = some (some (.int .i64 0), 1, 8) := by kernel_rfl

def i64s (l : List Nat) : List Value := l.map fun x : Nat => Value.int .i64 (x : Int)
theorem i64s_length (l : List Nat) : (i64s l).length = l.length := by simp [i64s]
theorem i64s_get (l : List Nat) (i : Nat) (h : i < l.length) : (i64s l)[i]? = some (.int .i64 (l[i] : Int)) := by simp [i64s, h]

/-- The call owns a row of these limbs. -/
def OwnI (w : World) (base : Nat) (v : Value) (l : List Nat) : Prop := w.ownsRow base 3 1 v l.length (i64s l)

/-- What is read of it in every later world. -/
def CellsI (w : World) (a : Option Addr) (l : List Nat) : Prop :=
  ∀ W, Below w.heap.size w W → ∀ i (hi : i < l.length), ∃ b, a = some ⟨b, 0, none⟩ ∧ W.cell? ⟨b, i, none⟩ = some (.int .i64 (l[i] : Int))

theorem OwnI.open {w : World} {base : Nat} {v : Value} {l : List Nat} (h : OwnI w base v l) : ∃ a cap, v = .slice a l.length cap ∧ l.length ≤ cap ∧ cap ≤ 9223372036854775807 ∧ CellsI w a l := by
  have h' : w.ownsRow base 3 1 v l.length (i64s l) := h
  rcases Joins.ownsRow_forms h' with ⟨rfl, h0⟩ | ⟨g, cap, rfl⟩
  · refine ⟨none, 0, by rw [h0], by omega, by omega, fun W hW i hi => by omega⟩
  · obtain ⟨hx, h2⟩ := id h'
    rcases h2 with ⟨e, _⟩ | ⟨g', cap', cur, e, hb, hg, hcap, hmax, hsz, htk⟩
    · cases e
    · simp only [Value.slice.injEq, Option.some.injEq, Addr.mk.injEq] at e
      obtain ⟨⟨rfl, _⟩, _, rfl⟩ := e
      refine ⟨some ⟨g, 0, none⟩, cap, rfl, hcap, hmax, fun W hW i hi => ⟨g, rfl, ?_⟩⟩
      have hlt : g < w.heap.size := (Array.getElem?_eq_some_iff.1 hg).1
      rw [hW.cell (p := ⟨g, i, none⟩) hlt, h'.cellAt i (by omega), i64s_get l i hi]

theorem OwnI.later {w w' : World} {base : Nat} {v : Value} {l : List Nat} (h : OwnI w base v l) (hb : Below w.heap.size w w') : OwnI w' base v l := by
  obtain ⟨hx, h2⟩ := h
  refine ⟨hx, ?_⟩
  rcases h2 with h2 | ⟨g, cap, cur, e, hbs, hg, r⟩
  · exact Or.inl h2
  · exact Or.inr ⟨g, cap, cur, e, hbs, (hb.block g (Array.getElem?_eq_some_iff.1 hg).1).trans hg, r⟩

theorem OwnI.mono {w : World} {base base' : Nat} {v : Value} {l : List Nat} (h : OwnI w base v l) (hb : base' ≤ base) : OwnI w base' v l := Joins.ownsRow_le h hb

/-- The first ones. -/
theorem OwnI.take {w : World} {base n cap : Nat} {a : Option Addr} {l : List Nat} (h : OwnI w base (.slice a n cap) l) (k : Nat) (hk : k ≤ n) : OwnI w base (.slice a k cap) (l.take k) := by
  obtain ⟨hx, h2⟩ := h
  rcases h2 with ⟨e, h0⟩ | ⟨g, cap', cur, e, hbs, hg, hcap, hmax, hsz, htk⟩
  · simp only [Value.slice.injEq] at e
    obtain ⟨rfl, rfl, rfl⟩ := e
    have : l = [] := List.length_eq_zero_iff.1 h0
    subst this
    have hk0 : k = 0 := by simpa using hk
    subst hk0
    exact World.ownsRow_nil _ _ _ _
  · simp only [Value.slice.injEq] at e
    obtain ⟨rfl, rfl, rfl⟩ := e
    have hl : (l.take k).length = k := by rw [List.length_take]; omega
    unfold OwnI
    rw [hl]
    refine ⟨by rw [i64s_length, hl]; omega, Or.inr ⟨g, cap, cur, rfl, hbs, hg, by omega, hmax, hsz, ?_⟩⟩
    rw [Nat.mul_one] at htk ⊢
    have e3 : cur.toList.take k = (cur.toList.take l.length).take k := by rw [List.take_take, Nat.min_eq_left hk]
    rw [e3, htk]
    simp [i64s, List.map_take]

/-- A slice's length, for a measure. -/
def lenOf : Value → Nat | .slice _ n _ => n | _ => 0

set_option maxRecDepth 100000 in
set_option maxHeartbeats 400000 in
/-- ref trim. -/
theorem refTrim_any (v : Value) (base : Nat) (l : List Nat) (w : World) (h : OwnI w base v l) :
    Calls Tryz.prog 164 #[v] w fun e w' => ∃ v', e = .returned v' ∧ OwnI w base v' (Cub.trimN l) ∧ w' = w := by
  obtain ⟨a, cap, rfl, hc, hm, hcells⟩ := h.open
  have H := hide h
  have HC := hide hcells
  clear h hcells
  obtain ⟨n, hn⟩ : ∃ n, n = l.length := ⟨_, rfl⟩
  rw [← hn] at H hc ⊢
  have HN := hide hn
  clear hn
  go_enter Tryz.func164, Tryz.ntmps164
  go_wp2
  go_loop [0] (fun t => ∃ k : Nat, k ≤ n ∧ t = .slice a k cap ∧ Hid (Cub.trimN (l.take k) = Cub.trimN l)) (fun t => lenOf t)
  case atStart => exact ⟨n, Nat.le_refl _, rfl, by rw [List.take_of_length_le (by have := unhide HN; omega)]; exact rfl⟩
  case round =>
    obtain ⟨k, hk, rfl, ht⟩ := hrel
    have HT := ht
    clear ht
    by_cases hk0 : k = 0
    · subst hk0
      have E : Hid (Cub.trimN l = l.take 0) := by rw [← unhide HT]; exact rfl
      go_wp2
      go_ret
      exact ⟨_, rfl, by rw [unhide E]; exact (unhide H).take 0 (Nat.zero_le _), rfl⟩
    · obtain ⟨j, rfl⟩ : ∃ j, k = j + 1 := ⟨k - 1, by omega⟩
      have hlt : j < l.length := by have := unhide HN; omega
      obtain ⟨b, rfl, hx⟩ := unhide HC w (Below.refl _ _) j hlt
      by_cases hz : l[j] = 0
      · rw [hz] at hx
        have E : Hid (Cub.trimN (l.take j) = Cub.trimN l) := by
          rw [← unhide HT, List.take_succ_eq_append_getElem hlt, hz, Cub.trimN_snoc_zero]; exact rfl
        clear hz
        go_wp2
        go_round
        case rel => exact ⟨j, by omega, by first | rfl | go_num, E⟩
        case measure => simp [lenOf]
      · have E : Hid (Cub.trimN l = l.take (j + 1)) := by
          rw [← unhide HT, List.take_succ_eq_append_getElem hlt, Cub.trimN_snoc _ _ hz]; exact rfl
        have hz' : ((l[j] : Int) == 0) = false := by rw [beq_eq_false_iff_ne]; omega
        clear hz
        go_wp2
        go_ret
        exact ⟨_, rfl, by rw [unhide E]; exact (unhide H).take (j + 1) hk, rfl⟩
end Go.Proofs.YtndhinoomlofgaaGreatDoor

/- Plain facts: products limb by limb. -/
import Derived.Test.YtannhlmcajncaaaGreatDoorShelf
import Derived.Lib.AppendIntMem
import Derived.Test.YtannhlmcajncaaaGreatDoorCards
import Derived.Test.YtannhlmcajncaaaGreatDoorTie
import Derived.WalkKit
import Derived.ProofKit
import Derived.OpenShut
import Derived.ChangeSame
import Derived.Deep.DeepHandedRow
import Derived.Lib.LaidTab
import Derived.LaidSub
import Derived.LaidLaws
import Derived.Carry
import Derived.Deep.RegionWith
import Derived.Lib.ItoaMem
namespace Go.Proofs.YtannhlmcajncaaaGreatDoor
open Go.RowKit

/-- The table of the powers of ten lies as its initialiser lays it. -/
def Tab (w : World) : Prop := Lib.TabIs Tryz.prog w "internal/strconv.uint64pow10" .u64 Lib.pow10Tab
theorem Tab.later {w w' : World} (h : Tab w) (hb : Below w.heap.size w w') : Tab w' := Lib.tabBelow_of_tabIs h w' hb


theorem appendUint_any (B n u : Nat) (hu : u < 18446744073709551616) (sv : Value) (xs : List Value) (w : World) (hown : w.ownsRow B 5 1 sv n xs) (hBw : B ≤ w.heap.size) (hlim : n + 20 ≤ 140737488355328) (htab : Tab w) :
    Calls Tryz.prog 76 #[sv, .int .u64 u, .int .i64 10] w fun e w' => ∃ v', e = .returned v' ∧ w'.ownsRow B 5 1 v' (n + (Lib.decDigits u).length) (xs ++ Lib.byteCells (Lib.decDigits u)) ∧ Below B w w' := by
  have HO := hide hown
  have HT := hide htab
  clear hown htab
  go_enter Tryz.func76, Tryz.ntmps76
  go_wp2_with (go_at_call 97; refine (Tryz.internal_strconv_AppendUint_10 B n u hu sv xs _ (unhide HO) hBw hlim (unhide HT)).mono ?_; rintro e w2 ⟨v', rfl, h1, h2, _⟩)
  go_ret
  exact ⟨v', rfl, h1, h2⟩

set_option maxRecDepth 100000 in
set_option maxHeartbeats 1000000 in
theorem text_any (v : Value) (n k : Nat) (w : World) (h : IsBig w v n) (hk : k ≤ 1000000) (hn : n < 1000000000 ^ k) (htab : Tab w) :
    Calls Tryz.prog 27 #[v] w fun e w' => e = .returned (.string ⟨(Lib.decDigits n).toArray⟩) ∧ Below w.heap.size w w' := by
  have H := hide h
  have HT := hide htab
  obtain ⟨a, l, cap, rfl, hl, hr, hnm, rfl⟩ := h.form
  have hlk := Cub.len_le hnm hn
  clear hn hl h htab
  by_cases h0 : l = []
  · subst h0
    have e1 : Lib.decDigits (Cub.lval 1000000000 []) = [48] := by decide +kernel
    rw [e1]
    clear e1
    go_enter Tryz.func27, Tryz.ntmps27
    go_wp2_with (go_at_call 73; refine (isZero_any _ _ _ ((unhide H).later ((Below.refl _ _).alloc (Nat.le_refl _) _))).mono ?_; rintro e w2 ⟨rfl, hb2⟩)
    go_ret
    exact ⟨rfl, ((Below.refl _ _).alloc (Nat.le_refl _) _).trans (hb2.mono (by simp))⟩
  · have hlp : 0 < l.length := by cases l with | nil => exact absurd rfl h0 | cons a t => simp
    obtain ⟨len, hlen⟩ : ∃ len, len = l.length := ⟨_, rfl⟩
    rw [← hlen] at H hr hlk hlp ⊢
    have hz : (Cub.lval 1000000000 l == 0) = false := by
      rw [beq_eq_false_iff_ne]; intro e; exact h0 ((Cub.normal_zero hnm (by decide)).1 e)
    obtain ⟨a', cap', ev, hc, hm, hcells⟩ := hr
    simp only [Value.slice.injEq] at ev
    obtain ⟨rfl, hdum, rfl⟩ := ev
    clear hdum
    obtain ⟨b, o, rfl, hbw, hcell⟩ := hcells h0
    have HC : Hid (∀ W, Below w.heap.size w W → ∀ i (hi : i < l.length), W.cell? ⟨b, o + i, none⟩ = some (.int .u64 (l[i] : Int))) := fun W hW i hi => (hW.cell (p := ⟨b, o + i, none⟩) hbw).trans (hcell i hi)
    have HZ := hide hz
    have HN := hide hnm
    have HLen := hide hlen
    clear hcell hcells hz h0 hnm hlen hc hm
    obtain ⟨m, rfl⟩ : ∃ m, len = m + 1 := ⟨len - 1, by omega⟩
    have hml : m < l.length := by have := unhide HLen; omega
    obtain ⟨x, hx⟩ : ∃ x, x = l[m] := ⟨_, rfl⟩
    have hxB : x < 1000000000 := by rw [hx]; exact (unhide HN).1 _ (List.getElem_mem hml)
    have HX : Hid (∀ W, Below w.heap.size w W → W.cell? ⟨b, o + m, none⟩ = some (.int .u64 (x : Int))) := fun W hW => by rw [hx]; exact unhide HC W hW m hml
    have HXl := hide hx
    clear hx hlp
    obtain ⟨i5, hi5, hz50, hz51, hz52⟩ := info_parts Tryz.info5
    go_enter Tryz.func27, Tryz.ntmps27
    go_wp2_with (first
      | (go_at_call 73; refine (isZero_any _ _ _ ((unhide H).later ((Below.refl _ _).alloc (Nat.le_refl _) _))).mono ?_; rintro e w2 ⟨rfl, hb2⟩; rw [unhide HZ]; obtain ⟨hcb, _⟩ := box_later hb2 (g := w.heap.size) (x := .slice (some ⟨b, o, none⟩) (m + 1) cap) (by simp) (by simp) (by simp); have hb3 := ((Below.refl w.heap.size w).alloc (Nat.le_refl _) (.cells #[.slice (some ⟨b, o, none⟩) (m + 1) cap] 58)).trans (hb2.mono (by simp)); have hs2 : w.heap.size + 1 ≤ w2.heap.size := (by have := hb2.size; simpa using this); clear hb2)
      | (at_make; refine wpList_make_own _ rfl _ _ 84 rfl (w.heap.size + 1) 5 i5 (.int .u8 0) 1 Tryz.underlying84 hi5 hz50 hz51 .i64 .i64 _ ((m + 1) * 9) rfl rfl (by omega) (by rw [hz52]; omega) (by unfold maxLen; omega) hs2 ?_; intro w3 hown3 hgrow3; have hb4 : Below (w.heap.size + 1) w2 w3 := (Below.refl _ _).grown hgrow3 hs2 (fun k hk => by cases hk); have hcb3 := (hb4.cell (p := ⟨w.heap.size, 0, none⟩) (Nat.lt_succ_self _)).trans hcb; have hb5 := hb3.trans (hb4.mono (Nat.le_succ _)); have hx3 := unhide HX w3 hb5; have hs3 : w.heap.size + 1 ≤ w3.heap.size := (by have := hb4.size; omega); have HO3 := hide hown3; clear hown3 hgrow3 hb4 hcb)
      | (go_at_call 76; refine (appendUint_any (w.heap.size + 1) 0 x (by omega) _ [] _ (unhide HO3) hs3 (by omega) ((unhide HT).later hb5)).mono ?_; rintro e w4 ⟨v4, rfl, hown4, hb6⟩; have hcb4 := (hb6.cell (p := ⟨w.heap.size, 0, none⟩) (Nat.lt_succ_self _)).trans hcb3; have hb7 := hb5.trans (hb6.mono (Nat.le_succ _)); have hs4 : w.heap.size + 1 ≤ w4.heap.size := (by have := hb6.size; omega); have HO4 := hide hown4; clear hown4 hb6 hcb3))
    have hT0 : (Lib.decDigits x).length ≤ 9 := by rw [Lib.decDigits_length]; exact Cub.nDigits_le9 x hxB
    have hst : w4.ownsRow (w.heap.size + 1) 5 1 v4 (Lib.decDigits x).length (Lib.byteCells (Lib.decDigits x)) := by simpa using unhide HO4
    have HT0 : Hid (Lib.decDigits x = Lib.decDigits (Cub.lval 1000000000 (l.drop m))) := by
      have e : l.drop m = [x] := by
        rw [List.drop_eq_getElem_cons hml, ← unhide HXl, List.drop_of_length_le (by have := unhide HLen; omega)]
      rw [e]; exact (by simp [Cub.lval] : Lib.decDigits x = Lib.decDigits (Cub.lval 1000000000 [x]))
    clear HO4 hx3
    go_loopw [4, 5] (fun v i wr => ∃ (j : Nat) (T : List UInt8), j ≤ m ∧ i = .int .i64 ((j : Int) - 1) ∧ T.length ≤ 9 * (m + 1 - j) ∧ Hid (T = Lib.decDigits (Cub.lval 1000000000 (l.drop j))) ∧
        wr.ownsRow (w.heap.size + 1) 5 1 v T.length (Lib.byteCells T) ∧ wr.cell? ⟨w.heap.size, 0, none⟩ = some (.slice (some ⟨b, o, none⟩) (m + 1) cap) ∧ Below w.heap.size w wr ∧ w.heap.size + 1 ≤ wr.heap.size)
      (fun _ i _ => (intOf i + 1).toNat)
    case atStart => exact ⟨m, Lib.decDigits x, Nat.le_refl _, rfl, by omega, HT0, hst, hcb4, hb7, hs4⟩
    case round =>
      obtain ⟨j, T, hjm, rfl, hTl, HTd, hown, hbox, hbl, hsz⟩ := hrel
      clear hst hcb4 hb7 hs4 hT0 HT0
      by_cases hj0 : j = 0
      · subst hj0
        have hTpos : 0 < T.length := by
          rw [unhide HTd]
          cases e : Lib.decDigits (Cub.lval 1000000000 (l.drop 0)) with
          | nil => exact absurd e (Cub.dec_ne_nil _)
          | cons a t => simp
        obtain ⟨g, cg, rfl⟩ := Joins.ownsRow_form hown hTpos
        have hcv := run_convert_bytes_back (P := Tryz.prog) wr 84 9 5 ⟨g, 0, none⟩ cg T Tryz.underlying84 Tryz.underlying5 Tryz.underlying9 (fun q hq => by
          have := hown.cellAt q (by simpa using hq)
          rw [Lib.add_plain, Nat.zero_add, this]
          simp [Lib.byteCells, hq])
        have HTd' : Hid (T = Lib.decDigits (Cub.lval 1000000000 l)) := by have := unhide HTd; rwa [List.drop_zero] at this
        clear hown HTd
        go_wp2
        go_ret
        exact ⟨by rw [← unhide HTd']; rfl, hbl⟩
      · obtain ⟨i, rfl⟩ : ∃ i, j = i + 1 := ⟨j - 1, by omega⟩
        have hil : i < l.length := by have := unhide HLen; omega
        obtain ⟨d, hd⟩ : ∃ d, d = l[i] := ⟨_, rfl⟩
        have hdB : d < 1000000000 := by rw [hd]; exact (unhide HN).1 _ (List.getElem_mem hil)
        have HXd : Hid (∀ W, Below w.heap.size w W → W.cell? ⟨b, o + i, none⟩ = some (.int .u64 (d : Int))) := fun W hW => by rw [hd]; exact unhide HC W hW i hil
        have HDd := hide hd
        clear hd hj0
        rw [show (((i + 1 : Nat) : Int) - 1) = (i : Int) from by omega]
        go_wp2
        go_loopw [4, 6] (fun v u wq => ∃ (q y : Nat) (T' : List UInt8), q ≤ 9 ∧ u = .int .u64 (y : Int) ∧ y ≤ 100000000 ∧ Hid (y = Cub.unitOf q) ∧ T'.length + q ≤ T.length + 9 ∧ Hid (T' = T ++ Cub.padn (9 - q) (d / 10 ^ q)) ∧
            wq.ownsRow (w.heap.size + 1) 5 1 v T'.length (Lib.byteCells T') ∧ wq.cell? ⟨w.heap.size, 0, none⟩ = some (.slice (some ⟨b, o, none⟩) (m + 1) cap) ∧ Below w.heap.size w wq ∧ w.heap.size + 1 ≤ wq.heap.size)
          (fun _ u _ => (intOf u).toNat)
        case atStart => exact ⟨9, 100000000, T, Nat.le_refl _, rfl, Nat.le_refl _, rfl, Nat.le_refl _, (List.append_nil T).symm, hown, hbox, hbl, hsz⟩
        case round =>
          obtain ⟨q, y, T', hq9, rfl, hy, HY, hTl', HT', hown', hbox', hbl', hsz'⟩ := hrel
          clear hown hbox hbl hsz
          by_cases hq0 : q = 0
          · subst hq0
            have hy0 : y = 0 := unhide HY
            subst hy0
            have HTn : Hid (T' = Lib.decDigits (Cub.lval 1000000000 (l.drop i))) := by
              rw [Cub.dec_limb l i hil (unhide HN).1 (Cub.drop_pos (unhide HN) (i + 1) (by have := unhide HLen; omega)), ← unhide HDd, ← unhide HTd, unhide HT', Cub.pad_all]; exact rfl
            go_wp2
            go_roundw
            case rel => exact ⟨i, T', by omega, rfl, by omega, HTn, hown', hbox', hbl', hsz'⟩
            case measure => simp [intOf]
          · obtain ⟨p, rfl⟩ : ∃ p, q = p + 1 := ⟨q - 1, by omega⟩
            have hyp : 0 < y := by rw [unhide HY]; exact (Cub.unit_pos _).2 (by omega)
            have hyz : ((y : Int) == 0) = false := by rw [beq_eq_false_iff_ne]; omega
            have hxd := unhide HXd wr hbl'
            clear hq0
            obtain ⟨z, hz⟩ : ∃ z, z = d / y := ⟨_, rfl⟩
            have hzd : z < 1000000000 := by rw [hz]; exact Nat.lt_of_le_of_lt (Nat.div_le_self _ _) hdB
            have hq : (d : Int) / (y : Int) = (z : Int) := by rw [hz]; simp
            have HZd : Hid (z = d / 10 ^ p) := by rw [hz, unhide HY, Cub.unit_at]; exact rfl
            clear hz
            go_wp2_with (at_builtin; refine wpList_append_own _ rfl _ _ 84 rfl (w.heap.size + 1) 5 i5 (.int .u8 0) 1 1 Tryz.underlying84 hi5 hz50 hz51 hz52 rfl (by decide) _ _ _ rfl (hown'.alloc _) ⟨wr.heap.size, 0, none⟩ 1 1 [.int .u8 (48 + (z : Int) % 10)] rfl rfl (cell_one_new _ _ _) (fun x hx => by simp at hx; subst hx; rfl) (by unfold maxLen; omega) (by omega) (by simp; omega) ?_; intro v' w1 hownN hgrow _)
            have hsN : w.heap.size + 1 ≤ w1.heap.size := by have := hgrow.size; simp at this; omega
            have hbN : Below (w.heap.size + 1) wr w1 := ((Below.refl _ _).alloc (by omega) _).grown hgrow (by simp; omega) (fun k hk => (hown'.lt k hk).1)
            have hboxN := (hbN.cell (p := ⟨w.heap.size, 0, none⟩) (Nat.lt_succ_self _)).trans hbox'
            have hblN := hbl'.trans (hbN.mono (Nat.le_succ _))
            have hown2 : w1.ownsRow (w.heap.size + 1) 5 1 v' (T' ++ [UInt8.ofNat (48 + z % 10)]).length (Lib.byteCells (T' ++ [UInt8.ofNat (48 + z % 10)])) := by
              rw [← byteCells_snoc _ _ (Nat.mod_lt _ (by decide))]
              simpa using hownN
            have HTn : Hid (T' ++ [UInt8.ofNat (48 + z % 10)] = T ++ Cub.padn (9 - p) (d / 10 ^ p)) := by
              rw [unhide HT', List.append_assoc, unhide HZd, Cub.pad_step d p (by omega)]; exact rfl
            have HYn : Hid (y / 10 = Cub.unitOf p) := by rw [unhide HY, Cub.unit_div]; exact rfl
            clear hownN hgrow hown' hbox' hbl' hbN hxd hq
            go_wp2
            go_roundw
            case rel => exact ⟨p, y / 10, T' ++ [UInt8.ofNat (48 + z % 10)], by omega, by go_num, by omega, HYn, by simp; omega, HTn, hown2, hboxN, hblN, hsN⟩
            case measure => simp [intOf]; omega
end Go.Proofs.YtannhlmcajncaaaGreatDoor

namespace Go.Proofs.YtannhlmcajncaaaGreatDoor
open Go.ChangeShapes Go.WideShapes Go.ChangeAt Go.RowKit

theorem own : ownKnob Tryz.prog.godebug = none := by kernel_rfl
theorem gPow : Tryz.prog.globalNamed "internal/strconv.uint64pow10" = some 0 := by kernel_rfl
theorem gPowType : (Tryz.prog.globals[0]?).map (·.type) = some 134 := by kernel_rfl
theorem cells134 : Tryz.prog.cellsOf 134 = 20 := by kernel_rfl
theorem cells86 : Tryz.prog.cellsOf 86 = 1 := by kernel_rfl

theorem tab_of {W : World} {l : List (String × DataW Unit)} (h : laidMet Tryz.prog l W) (e : l.filter (fun x => x.1 == "internal/strconv.uint64pow10") = [("internal/strconv.uint64pow10", Rows.laid_internal_strconv_uint64pow10)]) : Tab W := by
  have h1 := laidMet.filter (fun x => x.1 == "internal/strconv.uint64pow10") h
  rw [e] at h1
  exact Lib.tabIs_of_head (rest := []) gPow gPowType Tryz.underlying134 Tryz.underlying86 cells86 cells134 h1

/-- A table's cells, off its datum. -/
def cellsOf1 : DataW Unit → List Value
  | .lit (.int k n) => [Value.int k n]
  | .agg l => l.map fun | .lit (.int k n) => Value.int k n | _ => .nilIface
  | _ => []
def cellsOfData : DataW Unit → Array Value
  | .agg l => (l.flatMap cellsOf1).toArray
  | _ => #[]
def putAt (h : Array Obj) (g : Nat) (c : Array Value) : Array Obj := h.modify g fun
  | .cells _ t frozen => .cells c t frozen
  | o => o
/-- A world for the witness: the settled one, the variables holding what their initialisers lay. -/
noncomputable def laidWorld (os : Os) : World :=
  let w0 := World.holding Tryz.prog os ⟨#[], #[], []⟩
  { w0 with heap := putAt (putAt (putAt w0.heap 0 (cellsOfData Rows.laid_internal_strconv_uint64pow10)) 1 (cellsOfData Rows.laid_math_bits_deBruijn32tab)) 2 (cellsOfData Rows.laid_math_bits_deBruijn64tab) }
end Go.Proofs.YtannhlmcajncaaaGreatDoor

namespace Cub

theorem lval_set (B : Nat) : ∀ (l : List Nat) (i : Nat) (x : Nat) (h : i < l.length), lval B (l.set i x) + B ^ i * l[i] = lval B l + B ^ i * x := by
  intro l
  induction l with
  | nil => intro i x h; simp at h
  | cons a l ih =>
    intro i x h
    cases i with
    | zero => simp [lval]; omega
    | succ i =>
      have hi : i < l.length := by simpa using h
      have e := ih i x hi
      simp only [List.set_cons_succ, lval, List.getElem_cons_succ, Nat.pow_succ]
      have e2 := congrArg (B * ·) e
      simp only [Nat.mul_add] at e2
      have m1 : B ^ i * B * l[i] = B * (B ^ i * l[i]) := by rw [Nat.mul_comm (B ^ i) B, Nat.mul_assoc]
      have m2 : B ^ i * B * x = B * (B ^ i * x) := by rw [Nat.mul_comm (B ^ i) B, Nat.mul_assoc]
      omega

theorem limbs_set {B : Nat} {l : List Nat} (h : limbs B l) (i x : Nat) (hx : x < B) : limbs B (l.set i x) := by
  intro y hy
  rcases List.mem_or_eq_of_mem_set hy with h1 | h1
  · exact h y h1
  · omega

/-- What holds of a sum in the making: S the list (so long as the greater one, and one more), k what is carried, i the place. -/
structure AddInv (lp lq : List Nat) (S : List Nat) (k i : Nat) : Prop where
  len : S.length = lp.length + 1
  lim : limbs 1000000000 S
  rest : ∀ j (h : j < S.length), i ≤ j → S[j] = (lp ++ [0])[j]'(by simp; omega)
  val : lval 1000000000 S + 1000000000 ^ i * k = lval 1000000000 lp + lval 1000000000 (lq.take i)
  carry : k ≤ 1
  place : i ≤ lp.length + 1

theorem AddInv.start {lp lq : List Nat} (hp : limbs 1000000000 lp) : AddInv lp lq (lp ++ [0]) 0 0 :=
  ⟨by simp, limbs_append.2 ⟨hp, fun x hx => by rw [List.mem_singleton] at hx; omega⟩, fun j h _ => rfl, by rw [lval_snoc]; simp [lval], by omega, by omega⟩

theorem take_val (l : List Nat) (i : Nat) (h : i < l.length) : lval 1000000000 (l.take (i + 1)) = lval 1000000000 (l.take i) + 1000000000 ^ i * l[i] := by
  rw [List.take_succ_eq_append_getElem h, lval_snoc, List.length_take, Nat.min_eq_left (by omega)]

theorem take_val' (l : List Nat) (i : Nat) (h : l.length ≤ i) : lval 1000000000 (l.take (i + 1)) = lval 1000000000 (l.take i) := by
  rw [List.take_of_length_le (by omega), List.take_of_length_le h]

/-- One place more; c is the other one's limb there, or 0. -/
theorem AddInv.step {lp lq S : List Nat} {k i c : Nat} (h : AddInv lp lq S k i) (hi : i < S.length) (hc : c < 1000000000)
    (hcv : lval 1000000000 (lq.take (i + 1)) = lval 1000000000 (lq.take i) + 1000000000 ^ i * c) :
    AddInv lp lq (S.set i ((k + S[i] + c) % 1000000000)) ((k + S[i] + c) / 1000000000) (i + 1) := by
  have hS := h.lim S[i] (List.getElem_mem hi)
  have hk := h.carry
  have hl := h.len
  refine ⟨by simp [h.len], limbs_set h.lim i _ (Nat.mod_lt _ (by decide)), ?_, ?_, by omega, by omega⟩
  · intro j hj hij
    rw [List.getElem_set_ne (by omega)]
    exact h.rest j (by simpa using hj) (by omega)
  · have e1 := lval_set 1000000000 S i ((k + S[i] + c) % 1000000000) hi
    have e2 := h.val
    have e3 : k + S[i] + c = 1000000000 * ((k + S[i] + c) / 1000000000) + (k + S[i] + c) % 1000000000 := (Nat.div_add_mod _ _).symm
    generalize (k + S[i] + c) / 1000000000 = q at *
    generalize (k + S[i] + c) % 1000000000 = r at *
    rw [hcv, Nat.pow_succ]
    have e4 := congrArg (1000000000 ^ i * ·) e3
    simp only [Nat.mul_add] at e4
    have m1 : 1000000000 ^ i * 1000000000 * q = 1000000000 ^ i * (1000000000 * q) := Nat.mul_assoc _ _ _
    omega

/-- At the end nothing is carried. -/
theorem AddInv.last {lp lq S : List Nat} {k i : Nat} (h : AddInv lp lq S k i) (hp : limbs 1000000000 lp) (hq : limbs 1000000000 lq) (hl : lq.length ≤ lp.length) (hi : i = lp.length + 1) : k = 0 := by
  have h1 := lval_lt hp
  have h2 : lval 1000000000 (lq.take i) < 1000000000 ^ lp.length := by
    have := lval_lt (B := 1000000000) (l := lq.take i) (fun x hx => hq x (List.mem_of_mem_take hx))
    exact Nat.lt_of_lt_of_le this (Nat.pow_le_pow_right (by decide) (by rw [List.length_take]; omega))
  have h3 := h.val
  rw [hi, Nat.pow_succ] at h3
  rcases Nat.eq_zero_or_pos k with h0 | h0
  · exact h0
  · have : 1000000000 ^ lp.length * 1000000000 * 1 ≤ 1000000000 ^ lp.length * 1000000000 * k := Nat.mul_le_mul_left _ h0
    rw [hi] at h2
    omega

theorem AddInv.sum {lp lq S : List Nat} {i : Nat} (h : AddInv lp lq S 0 i) (hi : lq.length ≤ i) : lval 1000000000 S = lval 1000000000 lp + lval 1000000000 lq := by
  have := h.val
  rw [List.take_of_length_le hi] at this
  simpa using this
end Cub

namespace Go.Proofs.YtannhlmcajncaaaGreatDoor
open Go.RowKit

theorem Tryz.size86 : (Tryz.prog.info? 86).map (·.size) = some 1 := by kernel_rfl

/-- What is read of a row in every later world. -/
def Cells (w : World) (a : Option Addr) (l : List Nat) : Prop :=
  ∀ W, Below w.heap.size w W → ∀ i (hi : i < l.length), ∃ b o, a = some ⟨b, o, none⟩ ∧ W.cell? ⟨b, o + i, none⟩ = some (.int .u64 (l[i] : Int))

theorem Row.cells {w : World} {a : Option Addr} {n cap : Nat} {l : List Nat} (h : Row w (.slice a n cap) l) : n = l.length ∧ n ≤ cap ∧ cap ≤ 9223372036854775807 ∧ Cells w a l := by
  obtain ⟨a', cap', e, hc, hm, hr⟩ := h
  simp only [Value.slice.injEq] at e
  obtain ⟨rfl, rfl, rfl⟩ := e
  refine ⟨rfl, hc, hm, fun W hW i hi => ?_⟩
  obtain ⟨b, o, rfl, hlt, hcell⟩ := hr (fun e => by rw [e] at hi; simp at hi)
  exact ⟨b, o, rfl, (hW.cell (p := ⟨b, o + i, none⟩) hlt).trans (hcell i hi)⟩

/-- The source of a copy. -/
theorem Cells.src {w W : World} {a : Option Addr} {l : List Nat} (h : Cells w a l) (hW : Below w.heap.size w W) (h0 : 0 < l.length) :
    ∃ ad, a = some ad ∧ ∀ j v, (u64s l)[j]? = some v → W.cell? (ad.add j) = some v := by
  obtain ⟨b, o, rfl, _⟩ := h W hW 0 h0
  refine ⟨⟨b, o, none⟩, rfl, fun j v hj => ?_⟩
  have hjl : j < l.length := by
    have := (List.getElem?_eq_some_iff.1 hj).1
    rwa [u64s_length] at this
  rw [u64s_get l j hjl, Option.some.injEq] at hj
  obtain ⟨b', o', e, hc⟩ := h W hW j hjl
  simp only [Option.some.injEq, Addr.mk.injEq] at e
  obtain ⟨rfl, rfl, _⟩ := e
  rw [Lib.add_plain, hc, hj]

theorem u64s_one (l : List Nat) : ∀ v ∈ u64s l, v.oneCell' = true := by
  intro v hv
  simp only [u64s, List.mem_map] at hv
  obtain ⟨x, _, rfl⟩ := hv
  rfl

/-- Three boxes, kept. -/
structure Boxes3 (w w4 : World) (a b c : Value) : Prop where
  c1 : w4.cell? ⟨w.heap.size, 0, none⟩ = some a
  c2 : w4.cell? ⟨w.heap.size + 1, 0, none⟩ = some b
  c3 : w4.cell? ⟨w.heap.size + 1 + 1, 0, none⟩ = some c
  f3 : w4.frozen? ⟨w.heap.size + 1 + 1, 0, none⟩ = false
  below : Below w.heap.size w w4
  size : w.heap.size + 3 ≤ w4.heap.size

theorem boxes3 {w w4 : World} {a b c : Value} (hb : Below (w.heap.size + 3) (((w.alloc (.cells #[a] 58)).alloc (.cells #[b] 58)).alloc (.cells #[c] 58)) w4) : Boxes3 w w4 a b c := by
  refine ⟨?_, ?_, ?_, ?_, ?_, ?_⟩
  · rw [hb.cell (p := ⟨w.heap.size, 0, none⟩) (show w.heap.size < w.heap.size + 3 by omega)]; simp [go_sem]
  · rw [hb.cell (p := ⟨w.heap.size + 1, 0, none⟩) (show w.heap.size + 1 < w.heap.size + 3 by omega)]; simp [go_sem]
  · rw [hb.cell (p := ⟨w.heap.size + 1 + 1, 0, none⟩) (show w.heap.size + 1 + 1 < w.heap.size + 3 by omega)]; simp [go_sem]
  · rw [hb.frozen (p := ⟨w.heap.size + 1 + 1, 0, none⟩) (show w.heap.size + 1 + 1 < w.heap.size + 3 by omega)]; simp [go_sem]
  · exact ((((Below.refl _ _).alloc (Nat.le_refl _) _).alloc (by simp) _).alloc (by simp; omega) _).trans (hb.mono (by omega))
  · have := hb.size; simp at this; omega

theorem Boxes3.on {w w4 w5 : World} {a b c : Value} (h : Boxes3 w w4 a b c) (hb : Below (w.heap.size + 3) w4 w5) : Boxes3 w w5 a b c :=
  ⟨(hb.cell (p := ⟨w.heap.size, 0, none⟩) (show w.heap.size < w.heap.size + 3 by omega)).trans h.c1, (hb.cell (p := ⟨w.heap.size + 1, 0, none⟩) (show w.heap.size + 1 < w.heap.size + 3 by omega)).trans h.c2,
    (hb.cell (p := ⟨w.heap.size + 1 + 1, 0, none⟩) (show w.heap.size + 1 + 1 < w.heap.size + 3 by omega)).trans h.c3, (hb.frozen (p := ⟨w.heap.size + 1 + 1, 0, none⟩) (show w.heap.size + 1 + 1 < w.heap.size + 3 by omega)).trans h.f3,
    h.below.trans (hb.mono (by omega)), by have := hb.size; have := h.size; omega⟩

end Go.Proofs.YtannhlmcajncaaaGreatDoor

namespace Cub
theorem takeB (B : Nat) (l : List Nat) (i : Nat) : lval B (l.take (i + 1)) = lval B (l.take i) + B ^ i * l.getD i 0 := by
  by_cases h : i < l.length
  · rw [List.take_succ_eq_append_getElem h, lval_snoc, List.length_take, Nat.min_eq_left (by omega)]
    simp [List.getD, h]
  · rw [List.take_of_length_le (by omega), List.take_of_length_le (by omega)]
    simp [List.getD, Nat.le_of_not_lt h]
end Cub

namespace Cub
/-- A list in the making, with what is carried to place p: together they are V. -/
structure Acc (B : Nat) (O : List Nat) (c p V : Nat) : Prop where
  lim : limbs B O
  val : lval B O + B ^ p * c = V

theorem Acc.step {B : Nat} {O : List Nat} {c p V : Nat} (h : Acc B O c p V) (hB : 0 < B) (hp : p < O.length) (t : Nat) :
    Acc B (O.set p ((c + O[p] + t) % B)) ((c + O[p] + t) / B) (p + 1) (V + B ^ p * t) := by
  refine ⟨limbs_set h.lim p _ (Nat.mod_lt _ hB), ?_⟩
  have e1 := lval_set B O p ((c + O[p] + t) % B) hp
  have e2 := h.val
  have e3 : c + O[p] + t = B * ((c + O[p] + t) / B) + (c + O[p] + t) % B := (Nat.div_add_mod _ _).symm
  generalize (c + O[p] + t) / B = q at *
  generalize (c + O[p] + t) % B = r at *
  have e4 := congrArg (B ^ p * ·) e3
  simp only [Nat.mul_add] at e4
  rw [Nat.pow_succ]
  have m1 : B ^ p * B * q = B ^ p * (B * q) := Nat.mul_assoc _ _ _
  omega

theorem Acc.none {B : Nat} {O : List Nat} {c p V : Nat} (h : Acc B O c p V) (hV : V < B ^ p) : c = 0 := by
  rcases Nat.eq_zero_or_pos c with h0 | h0
  · exact h0
  · have : B ^ p * 1 ≤ B ^ p * c := Nat.mul_le_mul_left _ h0
    have := h.val
    omega

theorem carry_lt (B c o x y : Nat) (hc : c < B) (ho : o < B) (hx : x < B) (hy : y < B) : (c + o + x * y) / B < B := by
  apply Nat.div_lt_of_lt_mul
  obtain ⟨b, rfl⟩ : ∃ b, B = b + 1 := ⟨B - 1, by omega⟩
  have h1 : x * y ≤ b * b := Nat.mul_le_mul (by omega) (by omega)
  have h2 : (b + 1) * (b + 1) = b * b + b + b + 1 := by rw [Nat.add_mul, Nat.mul_add]; omega
  omega
theorem get_zero {B : Nat} {O : List Nat} {p : Nat} (h : lval B O < B ^ p) (hp : p < O.length) : O[p] = 0 := by
  rcases Nat.eq_zero_or_pos O[p] with h0 | h0
  · exact h0
  · have e := lval_set B O p 0 hp
    have : B ^ p * 1 ≤ B ^ p * O[p] := Nat.mul_le_mul_left _ h0
    omega

theorem mul_lt (B : Nat) (x y : List Nat) (hx : limbs B x) (hy : limbs B y) (i : Nat) : lval B (x.take i) * lval B y < B ^ (i + y.length) ∨ B = 0 := by
  rcases Nat.eq_zero_or_pos B with h0 | h0
  · exact Or.inr h0
  · left
    have h1 := lval_lt (B := B) (l := x.take i) (fun z hz => hx z (List.mem_of_mem_take hz))
    have h2 := lval_lt hy
    have h3 : B ^ (x.take i).length ≤ B ^ i := Nat.pow_le_pow_right h0 (List.length_take_le _ _)
    rw [Nat.pow_add]
    exact Nat.mul_lt_mul'' (by omega) h2

theorem lval_zeros (B n : Nat) : lval B (List.replicate n 0) = 0 := by
  induction n with
  | zero => rfl
  | succ n ih => simp [List.replicate_succ, lval, ih]
theorem limbs_zeros (B n : Nat) (hB : 0 < B) : limbs B (List.replicate n 0) := fun x hx => by
  rw [List.mem_replicate] at hx; omega

/-- One more limb of y. -/
theorem val_inner (B a i k : Nat) (y : List Nat) (V : Nat) : V + B ^ i * (a * lval B (y.take k)) + B ^ (i + k) * (a * y.getD k 0) = V + B ^ i * (a * lval B (y.take (k + 1))) := by
  rw [takeB, Nat.mul_add, Nat.mul_add, Nat.pow_add]
  have : B ^ i * (a * (B ^ k * y.getD k 0)) = B ^ i * B ^ k * (a * y.getD k 0) := by
    rw [Nat.mul_left_comm a, ← Nat.mul_assoc]
  omega
theorem val_outer (B i : Nat) (x y : List Nat) : lval B (x.take i) * lval B y + B ^ i * (x.getD i 0 * lval B y) = lval B (x.take (i + 1)) * lval B y := by
  rw [takeB, Nat.add_mul, Nat.mul_assoc]
end Cub

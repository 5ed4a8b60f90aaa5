/- dim.Print: the text of a dimension. -/
import Derived.Test.YtccnbnfafhpeaaaDoorTerm
import Derived.Test.YtccnbnfafhpeaaaDoorMem
import Derived.Lib.OthersKept
import Derived.WalkSmall
import Derived.Lib.SmallJoins
import Derived.Lib.Join
import Derived.Lib.AppendIntMem
namespace Go.Proofs.YtccnbnfafhpeaaaDoor
open Go.RowKit

/-- The term of place k, if there is one. -/
def termAt (l : List Int) (k : Nat) : List (List UInt8) := match l[k]? with | some x => if x = 0 then [] else [termText (lettersL.getD k 0) x] | none => []
/-- The terms of the first k places. -/
def termsTo (l : List Int) : Nat → List (List UInt8)
  | 0 => []
  | k + 1 => termsTo l k ++ termAt l k
def strsV (ss : List (List UInt8)) : List Value := ss.map fun s => Value.string ⟨s.toArray⟩
theorem strsV_snoc (ss : List (List UInt8)) (t : List UInt8) : strsV ss ++ [.string ⟨t.toArray⟩] = strsV (ss ++ [t]) := by simp [strsV]
theorem termAt_zero (l : List Int) (k : Nat) (h : l[k]? = some 0) : termAt l k = [] := by simp [termAt, h]
theorem termAt_one (l : List Int) (k : Nat) (x : Int) (h : l[k]? = some x) (hx : x ≠ 0) : termAt l k = [termText (lettersL.getD k 0) x] := by simp [termAt, h, hx]
theorem termAt_len (l : List Int) (k : Nat) : (termAt l k).length ≤ 1 := by
  unfold termAt
  split
  · split <;> simp
  · simp
theorem termsTo_len (l : List Int) (k : Nat) : (termsTo l k).length ≤ k := by
  induction k with
  | zero => simp [termsTo]
  | succ k ih =>
    have := termAt_len l k
    simp [termsTo]; omega
/-- A dimension's text. -/
def dimText (l : List Int) : List UInt8 := if termsTo l 8 = [] then [49] else Lib.join (termsTo l 8) [32]
def letters8 : ByteArray := ⟨#[76, 77, 84, 73, 72, 78, 74, 66]⟩
theorem letter_get (k : Nat) (h : k < 8) : ∃ r : Nat, lettersL.getD k 0 = r ∧ r ∈ lettersL ∧ (letters8[k]'h).toNat = r ∧ r < 128 := by
  rcases eight (Nat.le_of_lt h) with rfl | rfl | rfl | rfl | rfl | rfl | rfl | rfl | rfl
  all_goals first | exact ⟨_, rfl, by decide, rfl, by decide⟩ | omega
theorem own_of_below {w w' : World} {B g : Nat} {o : Obj} (h : w.heap[g]? = some o) (hb : Below B w w') (hg : g < B) : w'.heap[g]? = some o := (hb.block g hg).trans h
theorem Tryd.info9x : (Tryd.prog.info? 9).map (fun i => (i.zero, i.size, i.bytes)) = some (some (.string ⟨#[]⟩), 1, 16) := by kernel_rfl
theorem Tryd.underlying54x : Tryd.prog.underlying 54 = some (.slice 9) := by kernel_rfl
theorem info_parts {e : TypeId} {z : Value} {a b : Nat} (h : (Tryd.prog.info? e).map (fun i => (i.zero, i.size, i.bytes)) = some (some z, a, b)) : ∃ i, Tryd.prog.info? e = some i ∧ i.zero = some z ∧ i.size = a ∧ i.bytes = b := by
  cases hi : Tryd.prog.info? e with
  | none => simp [hi] at h
  | some i => simp only [hi, Option.map_some, Option.some.injEq, Prod.mk.injEq] at h; exact ⟨i, rfl, h.1, h.2.1, h.2.2⟩
theorem Tab.later {w w' : World} (h : Tab w) (hb : Below w.heap.size w w') : Tab w' := Lib.tabBelow_of_tabIs h w' hb
theorem owns_later {w w' : World} {base : Nat} {e : TypeId} {size : Nat} {v : Value} {n : Nat} {xs : List Value} (h : w.ownsRow base e size v n xs) (hb : Below w.heap.size w w') : w'.ownsRow base e size v n xs := by
  obtain ⟨hx, h2⟩ := h
  refine ⟨hx, ?_⟩
  rcases h2 with h2 | ⟨g, cap, cur, e1, hbg, hg, rest⟩
  · exact .inl h2
  · exact .inr ⟨g, cap, cur, e1, hbg, (hb.block g (Array.getElem?_eq_some_iff.1 hg).1).trans hg, rest⟩
theorem ownsRow_drop_iter {w : World} {base : Nat} {v : Value} {n : Nat} {xs : List Value} (h : w.ownsRow base 9 1 v n xs) {k : Nat} (hk : k < base) (s : ByteArray) (p : Nat) : (w.iterAt k s p).ownsRow base 9 1 v n xs := ownsRow_iterAt h hk s p
theorem termText_len (r : Nat) (x : Int) (hx : -99 ≤ x ∧ x ≤ 99) : (termText r x).length ≤ 100 := by
  have := Lib.itoa_length_le x (by omega) (by omega)
  unfold termText
  split <;> simp <;> omega
theorem termsTo_small (l : List Int) (h : rightB l = true) (k : Nat) : ∀ s ∈ termsTo l k, s.length ≤ 100 := by
  induction k with
  | zero => intro s hs; simp [termsTo] at hs
  | succ k ih =>
    intro s hs
    simp only [termsTo, List.mem_append] at hs
    rcases hs with hs | hs
    · exact ih s hs
    · unfold termAt at hs
      split at hs
      · rename_i x hx
        split at hs
        · cases hs
        · simp at hs
          subst hs
          exact termText_len _ _ (rightB_get h k x hx)
      · cases hs

/-- What strings.Join answers, of a list that the call owns. -/
def JoinOK : Prop := ∀ (base : Nat) (v : Value) (ss : List (List UInt8)) (w : World), w.ownsRow base 9 1 v ss.length (strsV ss) → ss ≠ [] → ss.length ≤ 8 → (∀ s ∈ ss, s.length ≤ 100) →
  Calls Tryd.prog 42 #[v, .string ⟨#[32]⟩] w fun e w' => e = .returned (.string ⟨(Lib.join ss [32]).toArray⟩) ∧ Below w.heap.size w w'

set_option maxRecDepth 100000 in
set_option maxHeartbeats 1000000 in
theorem print_any (hI : ItoaOK) (hJ : JoinOK) (x0 x1 x2 x3 x4 x5 x6 x7 : Int) (w : World) (ht : Tab w) :
    Calls Tryd.prog 22 #[.agg #[.int .i64 x0, .int .i64 x1, .int .i64 x2, .int .i64 x3, .int .i64 x4, .int .i64 x5, .int .i64 x6, .int .i64 x7]] w fun e w' =>
      e = .returned (.tuple #[.string ⟨(if rightB [x0, x1, x2, x3, x4, x5, x6, x7] = true then dimText [x0, x1, x2, x3, x4, x5, x6, x7] else []).toArray⟩, .int .i64 (errOf (rightB [x0, x1, x2, x3, x4, x5, x6, x7]) 1)]) ∧ Below w.heap.size w w' := by
  have HC := hide (right_any x0 x1 x2 x3 x4 x5 x6 x7)
  have HL8 : Hid ([x0, x1, x2, x3, x4, x5, x6, x7].length = 8) := rfl
  have HT := hide ht
  have HI := hide hI
  have HJ := hide hJ
  clear ht hI hJ
  cases hr : rightB [x0, x1, x2, x3, x4, x5, x6, x7] with
  | false =>
    rw [hr] at HC
    simp only [Bool.false_eq_true, if_false, errOf_false]
    clear hr
    go_enter Tryd.func22, Tryd.ntmps22
    go_wp2_with (go_at_call 13; refine (unhide HC _).mono ?_; rintro e w' ⟨rfl, rfl⟩)
    go_ret2
    exact ⟨rfl, ((Below.refl _ _).alloc (Nat.le_refl _) _).alloc (by simp) _⟩
  | true =>
    rw [hr] at HC
    simp only [if_true, errOf_true]
    have HG := hide (rightB_get hr)
    have HSM := hide (termsTo_small _ hr 8)
    have HO0 := hide (Own8.new w [x0, x1, x2, x3, x4, x5, x6, x7])
    clear hr
    generalize hl : [x0, x1, x2, x3, x4, x5, x6, x7] = l at HG HL8 HO0 HSM
    have HO1 : ∀ o1 o2, Hid (Own8 (((w.alloc (.cells #[.int .i64 x0, .int .i64 x1, .int .i64 x2, .int .i64 x3, .int .i64 x4, .int .i64 x5, .int .i64 x6, .int .i64 x7] 24)).alloc o1).alloc o2) w.heap.size l) := fun o1 o2 => by
      rw [← hl] at HO0 ⊢
      exact ((unhide HO0).alloc o1).alloc o2
    clear hl HO0
    obtain ⟨i0, hi, hz0, hz1, hz2⟩ := info_parts Tryd.info9x
    go_enter Tryd.func22, Tryd.ntmps22
    go_wp2_with (go_at_call 13; refine (unhide HC _).mono ?_; rintro e w' ⟨rfl, rfl⟩)
    go_loopw [4] (fun v wr => ∃ k : Nat, k ≤ 8 ∧ Hid (wr.heap[w.heap.size + 1 + 1]? = some (.stringIter letters8 k)) ∧ Hid (Own8 wr w.heap.size l) ∧ Hid (wr.ownsRow (w.heap.size + 1 + 1 + 1) 9 1 v (termsTo l k).length (strsV (termsTo l k))) ∧ Hid (Below w.heap.size w wr) ∧ Hid (w.heap.size + 1 + 1 + 1 ≤ wr.heap.size)) (fun _ wr => 8 - wr.iterPos (w.heap.size + 1 + 1))
    case atStart => exact ⟨0, Nat.zero_le _, (by rw [show w.heap.size + 1 + 1 = ((w.alloc (.cells #[.int .i64 x0, .int .i64 x1, .int .i64 x2, .int .i64 x3, .int .i64 x4, .int .i64 x5, .int .i64 x6, .int .i64 x7] 24)).alloc (.cells #[.int .i64 x0, .int .i64 x1, .int .i64 x2, .int .i64 x3, .int .i64 x4, .int .i64 x5, .int .i64 x6, .int .i64 x7] 24)).heap.size by simp]; exact World.iter_heap _ _ _), HO1 _ _, World.ownsRow_nil _ _ _ _, (((Below.refl _ _).alloc (Nat.le_refl _) _).alloc (by simp) _).alloc (by simp; omega) _, (by show _ ≤ (World.alloc _ _).heap.size; simp)⟩
    case round =>
      obtain ⟨k, hk, HIT, HO, HV, HB, HS⟩ := hrel
      have hsz := unhide HS
      by_cases hlt : k < 8
      · obtain ⟨r, hr1, hr2, hr3, hr4⟩ := letter_get k hlt
        obtain ⟨W2, hW2⟩ : ∃ W2, W2 = wr.iterAt (w.heap.size + 1 + 1) letters8 (k + 1) := ⟨_, rfl⟩
        have hnx : ∀ ty, (Instr.next (.pointer (some ⟨w.heap.size + 1 + 1, 0, none⟩)) true ty).run Tryd.prog wr = .ok (.tuple #[.bool true, .int .i64 k, .int .i32 (r : Int)]) W2 := fun ty => by
          rw [hW2, Lib.run_next_ascii_at wr _ letters8 k ty (unhide HIT) hlt (by rw [hr3]; exact hr4), hr3]
        have HIT2 : Hid (W2.heap[w.heap.size + 1 + 1]? = some (.stringIter letters8 (k + 1))) := by show W2.heap[_]? = _; rw [hW2]; exact Lib.iterAt_heap _ _ _ _ _ (unhide HIT)
        have HO2 : Hid (Own8 W2 w.heap.size l) := by show Own8 W2 _ _; rw [hW2]; exact (Lib.iterAt_other _ _ _ _ _ (by omega)).trans (unhide HO)
        have HV2 : Hid (W2.ownsRow (w.heap.size + 1 + 1 + 1) 9 1 u4 (termsTo l k).length (strsV (termsTo l k))) := by show W2.ownsRow _ _ _ _ _ _; rw [hW2]; exact ownsRow_iterAt (unhide HV) (by omega) _ _
        have HB2 : Hid (Below w.heap.size w W2) := by show Below _ _ W2; rw [hW2]; exact Lib.below_iterAt (unhide HB) (by omega) _ _
        have HS2 : w.heap.size + 1 + 1 + 1 ≤ W2.heap.size := by rw [hW2, Lib.iterAt_size]; exact hsz
        have HM : Hid (wr.iterPos (w.heap.size + 1 + 1) = k) := iterPos_of (unhide HIT)
        clear hW2 HIT HO HV HB HS
        obtain ⟨x, hx⟩ : ∃ x, l[k]? = some x := ⟨_, List.getElem?_eq_getElem (by rw [unhide HL8]; exact hlt)⟩
        have hcx := (unhide HO2).cell k x hx
        have hxb := unhide HG k x hx
        by_cases hx0 : x = 0
        · subst hx0
          have HTT : Hid (termsTo l (k + 1) = termsTo l k) := by show termsTo l k ++ termAt l k = _; rw [termAt_zero l k hx, List.append_nil]
          clear hx
          go_wp2
          go_roundw
          case rel => exact ⟨k + 1, by omega, HIT2, HO2, by rw [unhide HTT]; exact HV2, HB2, HS2⟩
          case measure => rw [unhide HM, iterPos_of (unhide HIT2)]; omega
        · have hxn : (x != 0) = true := by simp [hx0]
          have HTT : Hid (termsTo l (k + 1) = termsTo l k ++ [termText r x]) := by show termsTo l (k + 1) = _; rw [← hr1]; show termsTo l k ++ termAt l k = _; rw [termAt_one l k x hx hx0]
          have HC2 := hide (term_any (unhide HI) r x W2 hr2 hxb ((unhide HT).later (unhide HB2)))
          have hlen := termsTo_len l k
          generalize termText r x = tt at *
          generalize termsTo l k = ts at *
          clear hx hx0 hr1 hr2 hr3
          go_wp2_with (first
            | (go_at_call 41; refine (unhide HC2).mono ?_; rintro e w3 ⟨rfl, hb3⟩)
            | (at_builtin; go_must (refine wpList_append_own _ rfl _ _ 54 rfl (w.heap.size + 1 + 1 + 1) 9 i0 (.string ⟨#[]⟩) 1 16 Tryd.underlying54x hi hz0 hz1 hz2 rfl (by decide) _ _ _ rfl ((owns_later (unhide HV2) hb3).alloc _) ⟨w3.heap.size, 0, none⟩ 1 1 [.string ⟨tt.toArray⟩] rfl rfl (cell_one_new _ _ _) (fun x hx => by simp at hx; subst hx; rfl) (by unfold maxLen; omega) (by omega) (by have := hb3.size; simp; omega) ?_; intro v' w4 hown hgrow hnil)))
          have hb4 : Below (w.heap.size + 1 + 1 + 1) W2 w4 := ((hb3.mono HS2).alloc (by have := hb3.size; omega) _).grown hgrow (by have := hb3.size; simp; omega) (fun j hj => ((unhide HV2).lt j hj).1)
          have HIT4 := hide (own_of_below (unhide HIT2) hb4 (by omega))
          have HO4 : Hid (Own8 w4 w.heap.size l) := (unhide HO2).later hb4 (by omega)
          have HV4 : Hid (w4.ownsRow (w.heap.size + 1 + 1 + 1) 9 1 v' (ts ++ [tt]).length (strsV (ts ++ [tt]))) := by
            show w4.ownsRow _ _ _ _ _ _
            rw [← strsV_snoc, List.length_append]; exact hown
          have HB4 : Hid (Below w.heap.size w w4) := (unhide HB2).trans (hb4.mono (by omega))
          have HS4 : Hid (w.heap.size + 1 + 1 + 1 ≤ w4.heap.size) := Nat.le_trans HS2 hb4.size
          clear hown hgrow hnil hb4 hb3
          go_roundw
          case rel => exact ⟨k + 1, by omega, HIT4, HO4, by rw [unhide HTT]; exact HV4, HB4, HS4⟩
          case measure => rw [unhide HM, iterPos_of (unhide HIT4)]; omega
      · obtain rfl : k = 8 := by omega
        have hnx : ∀ ty, (Instr.next (.pointer (some ⟨w.heap.size + 1 + 1, 0, none⟩)) true ty).run Tryd.prog wr = .ok (.tuple #[.bool false]) wr := fun ty => Lib.run_next_end_at wr _ letters8 8 ty (unhide HIT) (by decide)
        by_cases he : termsTo l 8 = []
        · have HE : Hid (dimText l = [49]) := by show dimText l = _; unfold dimText; rw [if_pos he]
          have hv := unhide HV
          rw [he] at hv
          obtain ⟨a4, c4, rfl⟩ : ∃ a4 c4, u4 = .slice a4 0 c4 := by
            rcases Joins.ownsRow_forms hv with ⟨rfl, _⟩ | ⟨g, cap, rfl⟩
            · exact ⟨none, 0, rfl⟩
            · exact ⟨_, cap, rfl⟩
          clear hv he
          go_wp2_with fail
          go_ret2
          exact ⟨by rw [unhide HE]; rfl, unhide HB⟩
        · have HE : Hid (dimText l = Lib.join (termsTo l 8) [32]) := by show dimText l = _; unfold dimText; rw [if_neg he]
          have HCJ := hide (unhide HJ _ _ (termsTo l 8) wr (unhide HV) he (termsTo_len l 8) (unhide HSM))
          have hpos : 0 < (termsTo l 8).length := List.length_pos_iff.2 he
          obtain ⟨g4, c4, rfl⟩ : ∃ g4 c4, u4 = .slice (some ⟨g4, 0, none⟩) (termsTo l 8).length c4 := by
            rcases Joins.ownsRow_forms (unhide HV) with ⟨rfl, h0⟩ | ⟨g, cap, rfl⟩
            · omega
            · exact ⟨_, cap, rfl⟩
          have hn0 : (((termsTo l 8).length : Int) == 0) = false := by rw [beq_eq_false_iff_ne]; omega
          generalize Lib.join (termsTo l 8) [32] = J at *
          clear he
          go_wp2_with (go_at_call 42; refine (unhide HCJ).mono ?_; rintro e w5 ⟨rfl, hb5⟩)
          go_ret2
          exact ⟨by rw [unhide HE]; rfl, (unhide HB).trans (hb5.mono (unhide HB).size)⟩
end Go.Proofs.YtccnbnfafhpeaaaDoor

/- The document's own Print. -/
import Derived.Test.YtccnbnfafhpeaaaDoorPrint
import Derived.Test.YtccnbnfafhpeaaaDoorRef
namespace Go.Proofs.YtccnbnfafhpeaaaDoor
open Go.RowKit

/-- The text of the first k places. -/
def jt (l : List Int) (k : Nat) : List UInt8 := Lib.join (termsTo l k) [32]
theorem join_snoc (ts : List (List UInt8)) (t : List UInt8) : Lib.join (ts ++ [t]) [32] = if ts = [] then t else Lib.join ts [32] ++ 32 :: t := by
  cases ts with
  | nil => simp [Lib.join_one]
  | cons x r =>
    rw [if_neg (by simp), List.cons_append, Lib.join_cons, Lib.join_cons]
    simp [Lib.joinTail]
theorem termText_ne (r : Nat) (x : Int) : termText r x ≠ [] := by unfold termText; split <;> simp
theorem termsTo_ne (l : List Int) (k : Nat) : ∀ s ∈ termsTo l k, s ≠ [] := by
  induction k with
  | zero => intro s hs; simp [termsTo] at hs
  | succ k ih =>
    intro s hs
    simp only [termsTo, List.mem_append] at hs
    rcases hs with hs | hs
    · exact ih s hs
    · unfold termAt at hs
      split at hs
      · split at hs
        · cases hs
        · simp at hs; subst hs; exact termText_ne _ _
      · cases hs
theorem jt_nil (l : List Int) (k : Nat) : jt l k = [] ↔ termsTo l k = [] := by
  unfold jt
  constructor
  · intro h
    cases e : termsTo l k with
    | nil => rfl
    | cons x r =>
      exfalso
      rw [e, Lib.join_cons] at h
      have := termsTo_ne l k x (by rw [e]; simp)
      simp at h
      exact this h.1
  · intro h; rw [h]; rfl
theorem jt_zero (l : List Int) (k : Nat) (h : l[k]? = some 0) : jt l (k + 1) = jt l k := by
  unfold jt; rw [termsTo, termAt_zero l k h, List.append_nil]
theorem jt_one (l : List Int) (k : Nat) (x : Int) (h : l[k]? = some x) (hx : x ≠ 0) : jt l (k + 1) = if jt l k = [] then termText (lettersL.getD k 0) x else jt l k ++ 32 :: termText (lettersL.getD k 0) x := by
  have h2 : jt l (k + 1) = if termsTo l k = [] then termText (lettersL.getD k 0) x else jt l k ++ 32 :: termText (lettersL.getD k 0) x := by
    unfold jt
    rw [termsTo, termAt_one l k x h hx, join_snoc]
  rw [h2]
  by_cases h0 : termsTo l k = []
  · rw [if_pos h0, if_pos ((jt_nil l k).2 h0)]
  · rw [if_neg h0, if_neg (fun e => h0 ((jt_nil l k).1 e))]
theorem jt_len (l : List Int) (hr : rightB l = true) (k : Nat) : (jt l k).length ≤ 101 * k := by
  induction k with
  | zero => simp [jt, termsTo, Lib.join_nil]
  | succ k ih =>
    cases hx : l[k]? with
    | none => unfold jt; rw [termsTo]; unfold termAt; rw [hx, List.append_nil]; unfold jt at ih; omega
    | some x =>
      by_cases h0 : x = 0
      · subst h0; rw [jt_zero l k hx]; omega
      · rw [jt_one l k x hx h0]
        have := termText_len (lettersL.getD k 0) x (rightB_get hr k x hx)
        split
        · omega
        · rw [List.length_append, List.length_cons]; omega
theorem dimText_jt (l : List Int) : dimText l = if jt l 8 = [] then [49] else jt l 8 := by
  unfold dimText
  by_cases h0 : termsTo l 8 = []
  · rw [if_pos h0, if_pos ((jt_nil l 8).2 h0)]
  · rw [if_neg h0, if_neg (fun e => h0 ((jt_nil l 8).1 e))]
    rfl
/-- Text and byte array. -/
def ba (l : List UInt8) : ByteArray := ⟨l.toArray⟩
theorem ba_size (l : List UInt8) : (ba l).size = l.length := by simp [ba, ByteArray.size]
theorem ba_app (a b : List UInt8) : ba a ++ ba b = ba (a ++ b) := by apply ByteArray.ext; simp [ba, ByteArray.data_append]
theorem ba_empty (l : List UInt8) : (ba l).toList.isEmpty = decide (l = []) := by
  unfold ba
  rw [ByteArray.toList_mk]
  cases l <;> rfl
theorem ext_letter (k : Nat) (h : k < 8) : (⟨#[76, 77, 84, 73, 72, 78, 74, 66]⟩ : ByteArray).extract k (k + 1) = ba [UInt8.ofNat (lettersL.getD k 0)] := by
  rcases eight (Nat.le_of_lt h) with rfl | rfl | rfl | rfl | rfl | rfl | rfl | rfl | rfl
  all_goals first | omega | decide +kernel | kernel_rfl
def RP (l : List Int) (w : World) (a b : Value) (wr : World) : Prop := ∃ k : Nat, a = .string (ba (jt l k)) ∧ b = .int .i64 (k : Int) ∧ k ≤ 8 ∧ Hid (Own8 wr w.heap.size l) ∧ Hid (Below w.heap.size w wr)
theorem rp_mk {l : List Int} {w : World} {a b : Value} {wr : World} (k : Nat) (h1 : a = .string (ba (jt l k))) (h2 : b = .int .i64 (k : Int)) (h3 : k ≤ 8) (h4 : Hid (Own8 wr w.heap.size l)) (h5 : Hid (Below w.heap.size w wr)) : RP l w a b wr := ⟨k, h1, h2, h3, h4, h5⟩

set_option maxRecDepth 100000 in
set_option maxHeartbeats 1000000 in
theorem refPrint_any (hI : ItoaOK) (x0 x1 x2 x3 x4 x5 x6 x7 : Int) (w : World) (ht : Tab w) :
    Calls Tryd.prog 23 #[.agg #[.int .i64 x0, .int .i64 x1, .int .i64 x2, .int .i64 x3, .int .i64 x4, .int .i64 x5, .int .i64 x6, .int .i64 x7]] w fun e w' =>
      e = .returned (.tuple #[.string ⟨(if rightB [x0, x1, x2, x3, x4, x5, x6, x7] = true then dimText [x0, x1, x2, x3, x4, x5, x6, x7] else []).toArray⟩, .int .i64 (errOf (rightB [x0, x1, x2, x3, x4, x5, x6, x7]) 1)]) ∧ Below w.heap.size w w' := by
  have HC := hide (rright_any x0 x1 x2 x3 x4 x5 x6 x7)
  have HL8 : Hid ([x0, x1, x2, x3, x4, x5, x6, x7].length = 8) := rfl
  have HT := hide ht
  have HI := hide hI
  clear ht hI
  cases hr : rightB [x0, x1, x2, x3, x4, x5, x6, x7] with
  | false =>
    rw [hr] at HC
    simp only [Bool.false_eq_true, if_false, errOf_false]
    clear hr
    go_enter Tryd.func23, Tryd.ntmps23
    go_wp2_with (go_at_call 14; refine (unhide HC _).mono ?_; rintro e w' ⟨rfl, rfl⟩)
    go_ret2
    exact ⟨rfl, ((Below.refl _ _).alloc (Nat.le_refl _) _).alloc (by simp) _⟩
  | true =>
    rw [hr] at HC
    simp only [if_true, errOf_true]
    have HG := hide (rightB_get hr)
    have HJL := hide (jt_len _ hr)
    have HO0 := hide (Own8.new w [x0, x1, x2, x3, x4, x5, x6, x7])
    clear hr
    generalize hl : [x0, x1, x2, x3, x4, x5, x6, x7] = l at HG HL8 HO0 HJL
    have HO1 : ∀ o1, Hid (Own8 ((w.alloc (.cells #[.int .i64 x0, .int .i64 x1, .int .i64 x2, .int .i64 x3, .int .i64 x4, .int .i64 x5, .int .i64 x6, .int .i64 x7] 24)).alloc o1) w.heap.size l) := fun o1 => by
      rw [← hl] at HO0 ⊢
      exact (unhide HO0).alloc o1
    clear hl HO0
    go_enter Tryd.func23, Tryd.ntmps23
    go_wp2_with (go_at_call 14; refine (unhide HC _).mono ?_; rintro e w' ⟨rfl, rfl⟩)
    go_loopw [4, 5] (fun a b wr => RP l w a b wr) (fun _ b _ => 8 - (intOf b).toNat)
    case atStart => exact rp_mk 0 rfl rfl (by omega) (HO1 _) (((Below.refl _ _).alloc (Nat.le_refl _) _).alloc (by simp) _)
    case round =>
      obtain ⟨k, rfl, rfl, hk, HO, HB⟩ := hrel
      by_cases hlt : k < 8
      · obtain ⟨x, hx⟩ : ∃ x, l[k]? = some x := ⟨_, List.getElem?_eq_getElem (by rw [unhide HL8]; exact hlt)⟩
        have hcx := (unhide HO).cell k x hx
        have hxb := unhide HG k x hx
        have hex := ext_letter k hlt
        have hjl := unhide HJL k
        have hlw := (unhide HO).lt
        by_cases hx0 : x = 0
        · subst hx0
          have HJ := hide (jt_zero l k hx)
          clear hx
          go_wp2
          go_roundw
          case rel => exact rp_mk (k + 1) (by rw [unhide HJ]) (by go_num) (by omega) HO HB
          case measure => simp [intOf]; omega
        · have HJ := hide (jt_one l k x hx hx0)
          have hxn : (x == 0) = false := by rw [beq_eq_false_iff_ne]; exact hx0
          have hje := ba_empty (jt l k)
          have hjs := ba_size (jt l k)
          have HIT := hide (unhide HI x wr (by omega) (by omega) ((unhide HT).later (unhide HB)))
          have hll : (Lib.itoa x).length ≤ 21 := Lib.itoa_length_le x (by omega) (by omega)
          clear hx hx0
          have hT0 : Hid (∃ T, T = ba (Lib.itoa x)) := ⟨_, rfl⟩
          obtain ⟨T, hT⟩ := unhide hT0
          obtain ⟨J, hJ⟩ : ∃ J, J = ba (jt l k) := ⟨_, rfl⟩
          obtain ⟨E, hE⟩ : ∃ E, E = ba [UInt8.ofNat (lettersL.getD k 0)] := ⟨_, rfl⟩
          have hTs : T.size ≤ 21 := by rw [hT, ba_size]; exact hll
          have hEs : E.size = 1 := by rw [hE, ba_size]; rfl
          have hJs : J.size ≤ 1000 := by rw [hJ, hjs]; omega
          have HTT : Hid (T = ⟨(Lib.itoa x).toArray⟩) := hT
          rw [← hE] at hex
          rw [← hJ] at hje ⊢
          generalize lettersL.getD k 0 = r at *
          clear hll hjs hjl hT0
          by_cases he : jt l k = []
          · rw [show decide (jt l k = []) = true by simp [he]] at hje
            by_cases h1 : x = 1
            · have HV : Hid (J ++ E = ba (jt l (k + 1))) := by
                show J ++ E = ba (jt l (k + 1))
                rw [hJ, hE]
                show ba (jt l k) ++ ba [UInt8.ofNat r] = _
                rw [ba_app, unhide HJ, if_pos he]
                congr 1
                simp [termText, he, h1]
              have h1b : (x != 1) = false := by rw [bne_eq_false_iff_eq]; exact h1
              clear h1 he hJ hE hT
              go_wp2
              go_roundw
              case rel => exact rp_mk (k + 1) (congrArg Value.string (unhide HV)) (by go_num) (by omega) HO HB
              case measure => simp [intOf]; omega
            · have HV : Hid ((J ++ E) ++ ⟨#[94]⟩ ++ T = ba (jt l (k + 1))) := by
                show (J ++ E) ++ ⟨#[94]⟩ ++ T = ba (jt l (k + 1))
                rw [hJ, hE, hT]
                show (ba (jt l k) ++ ba [UInt8.ofNat r]) ++ ba [94] ++ ba (Lib.itoa x) = _
                rw [ba_app, ba_app, ba_app, unhide HJ, if_pos he]
                congr 1
                simp [termText, he, h1]
              have h1b : (x != 1) = true := by rw [bne_iff_ne]; exact h1
              clear h1 he hJ hE hT
              go_wp2_with (go_at_call 43; refine (unhide HIT).mono ?_; rintro e w3 ⟨rfl, hb3⟩; rw [← unhide HTT])
              have HO3 : Hid (Own8 w3 w.heap.size l) := (unhide HO).later hb3 hlw
              have HB3 : Hid (Below w.heap.size w w3) := (unhide HB).trans (hb3.mono (unhide HB).size)
              clear hb3
              go_roundw
              case rel => exact rp_mk (k + 1) (congrArg Value.string (unhide HV)) (by go_num) (by omega) HO3 HB3
              case measure => simp [intOf]; omega
          · rw [show decide (jt l k = []) = false by simp [he]] at hje
            by_cases h1 : x = 1
            · have HV : Hid (J ++ ⟨#[32]⟩ ++ E = ba (jt l (k + 1))) := by
                show J ++ ⟨#[32]⟩ ++ E = ba (jt l (k + 1))
                rw [hJ, hE]
                show ba (jt l k) ++ ba [32] ++ ba [UInt8.ofNat r] = _
                rw [ba_app, ba_app, unhide HJ, if_neg he]
                congr 1
                simp [termText, h1]
              have h1b : (x != 1) = false := by rw [bne_eq_false_iff_eq]; exact h1
              clear h1 he hJ hE hT
              go_wp2
              go_roundw
              case rel => exact rp_mk (k + 1) (congrArg Value.string (unhide HV)) (by go_num) (by omega) HO HB
              case measure => simp [intOf]; omega
            · have HV : Hid ((J ++ ⟨#[32]⟩ ++ E) ++ ⟨#[94]⟩ ++ T = ba (jt l (k + 1))) := by
                show (J ++ ⟨#[32]⟩ ++ E) ++ ⟨#[94]⟩ ++ T = ba (jt l (k + 1))
                rw [hJ, hE, hT]
                show (ba (jt l k) ++ ba [32] ++ ba [UInt8.ofNat r]) ++ ba [94] ++ ba (Lib.itoa x) = _
                rw [ba_app, ba_app, ba_app, ba_app, unhide HJ, if_neg he]
                congr 1
                simp [termText, h1]
              have h1b : (x != 1) = true := by rw [bne_iff_ne]; exact h1
              clear h1 he hJ hE hT
              go_wp2_with (go_at_call 43; refine (unhide HIT).mono ?_; rintro e w3 ⟨rfl, hb3⟩; rw [← unhide HTT])
              have HO3 : Hid (Own8 w3 w.heap.size l) := (unhide HO).later hb3 hlw
              have HB3 : Hid (Below w.heap.size w w3) := (unhide HB).trans (hb3.mono (unhide HB).size)
              clear hb3
              go_roundw
              case rel => exact rp_mk (k + 1) (congrArg Value.string (unhide HV)) (by go_num) (by omega) HO3 HB3
              case measure => simp [intOf]; omega
      · obtain rfl : k = 8 := by omega
        have HE := hide (dimText_jt l)
        have hje := ba_empty (jt l 8)
        by_cases he : jt l 8 = []
        · have hd : decide (jt l 8 = []) = true := by simp [he]
          rw [hd] at hje
          clear hd
          have HE2 : Hid (dimText l = [49]) := (unhide HE).trans (if_pos he)
          clear HE he
          go_wp2
          go_ret2
          exact ⟨by rw [unhide HE2]; rfl, unhide HB⟩
        · have hd : decide (jt l 8 = []) = false := by simp [he]
          rw [hd] at hje
          clear hd
          have HE2 : Hid (dimText l = jt l 8) := (unhide HE).trans (if_neg he)
          clear HE he
          go_wp2
          go_ret2
          exact ⟨by rw [unhide HE2]; rfl, unhide HB⟩
end Go.Proofs.YtccnbnfafhpeaaaDoor

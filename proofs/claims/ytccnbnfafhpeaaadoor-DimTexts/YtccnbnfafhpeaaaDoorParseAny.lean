/- dim.Parse, at every text. -/
import Derived.Test.YtccnbnfafhpeaaaDoorTakeAny
import Derived.Test.YtccnbnfafhpeaaaDoorShelf
import Derived.Laws.RangeAny
namespace Go.Proofs.YtccnbnfafhpeaaaDoor
open Go.RowKit

def zeros : List Int := [0, 0, 0, 0, 0, 0, 0, 0]
/-- What comes of a text, as the call answers it. -/
def outV : Out → Value
  | .err e pl => .tuple #[.agg (cells8 zeros), .int .i64 e, .int .i64 pl]
  | .done l => .tuple #[.agg (cells8 l), .int .i64 0, .int .i64 0]
/-- What comes of a text. -/
def parseOut (s : ByteArray) : Out := if Lib.hasPrefix s.data.toList [49] = true then (if s = ⟨#[49]⟩ then .done zeros else .err 3 1) else scan s 0 rd0

theorem not_empty_of (s : ByteArray) (h : 0 < s.size) : s.toList.isEmpty = false := by
  rw [Lib.toList_data]
  cases e : s.data.toList with
  | nil => have hl : s.data.toList.length = s.size := by simp
           rw [e] at hl; simp at hl; omega
  | cons a t => rfl
set_option maxRecDepth 100000 in
set_option maxHeartbeats 400000 in
theorem parse_long (s : ByteArray) (w : World) (h49 : Lib.hasPrefix s.data.toList [49] = true) (hne : s ≠ ⟨#[49]⟩) : Calls Tryd.prog 24 #[.string s] w fun e w' => e = .returned (.tuple #[.agg #[.int .i64 0, .int .i64 0, .int .i64 0, .int .i64 0, .int .i64 0, .int .i64 0, .int .i64 0, .int .i64 0], .int .i64 3, .int .i64 1]) ∧ Below w.heap.size w w' := by
  have HC := hide (Tryd.strings_CutPrefix s ⟨#[49]⟩)
  rw [show ((⟨#[49]⟩ : ByteArray).data.toList) = [49] from rfl, h49] at HC
  obtain ⟨c, cs, hcs⟩ : ∃ c cs, Lib.trimPrefix s.data.toList [49] = c :: cs := by
    cases ht : Lib.trimPrefix s.data.toList [49] with
    | cons c cs => exact ⟨c, cs, rfl⟩
    | nil =>
      exfalso
      apply hne
      unfold Lib.trimPrefix at ht
      rw [if_pos h49] at ht
      unfold Lib.hasPrefix at h49
      have h2 := List.isPrefixOf_iff_prefix.1 h49
      obtain ⟨t, h3⟩ := h2
      rw [← h3] at ht
      simp at ht
      subst ht
      apply ByteArray.ext
      apply Array.ext'
      exact h3.symm.trans (by simp)
  rw [hcs] at HC
  have hni : (⟨(c :: cs).toArray⟩ : ByteArray).toList.isEmpty = false := not_empty_of _ (by show 0 < (c :: cs).toArray.size; simp)
  generalize (⟨(c :: cs).toArray⟩ : ByteArray) = tp at *
  clear h49 hne hcs
  go_enter Tryd.func24, Tryd.ntmps24
  go_wp2_with (go_at_call 44; refine (unhide HC _).mono ?_; rintro e w' ⟨rfl, rfl⟩)
  exact bodyPost_ret (v := .tuple #[.agg #[.int .i64 0, .int .i64 0, .int .i64 0, .int .i64 0, .int .i64 0, .int .i64 0, .int .i64 0, .int .i64 0], .int .i64 3, .int .i64 1]) (by simp [results, Tryd.results24, go_sem]) rfl ⟨rfl, (Below.refl _ _).alloc (Nat.le_refl _) _⟩

set_option maxRecDepth 100000 in
set_option maxHeartbeats 1000000 in
theorem parse_scan (s : ByteArray) (O : Out) (w : World) (h49 : Lib.hasPrefix s.data.toList [49] = false) (hsz : s.size ≤ 9223372036854775807) (hO : scan s 0 rd0 = O) :
    Calls Tryd.prog 24 #[.string s] w fun e w' => e = .returned (outV O) ∧ Below w.heap.size w w' := by
  have HC := hide (Tryd.strings_CutPrefix s ⟨#[49]⟩)
  rw [show ((⟨#[49]⟩ : ByteArray).data.toList) = [49] from rfl, h49] at HC
  have HS := hide hO
  have HSZ := hide hsz
  generalize (⟨(Lib.trimPrefix s.data.toList [49]).toArray⟩ : ByteArray) = tp at *
  clear hO h49 hsz
  go_enter Tryd.func24, Tryd.ntmps24
  go_upto_region 8 with (go_at_call 44; refine (unhide HC _).mono ?_; rintro e w' ⟨rfl, rfl⟩)
  go_loopw [8] (fun _ wr => ∃ (k : Nat) (st : Rd), k ≤ s.size ∧ Hid (wr.heap[w.heap.size + 1 + 1]? = some (.stringIter s k)) ∧ Hid (OwnR wr (w.heap.size + 1) st) ∧ Hid (Own8 wr w.heap.size [0, 0, 0, 0, 0, 0, 0, 0]) ∧ Hid (scan s k st = O) ∧ Hid (Good st) ∧ Hid (Below w.heap.size w wr)) (fun _ wr => s.size - wr.iterPos (w.heap.size + 1 + 1))
  case atStart =>
    refine ⟨0, rd0, Nat.zero_le _, ?_, ?_, ?_, ?_, ?_, ?_⟩
    · show _ = _
      rw [show w.heap.size + 1 + 1 = ((w.alloc (.cells #[.int .i64 0, .int .i64 0, .int .i64 0, .int .i64 0, .int .i64 0, .int .i64 0, .int .i64 0, .int .i64 0] 24)).alloc (.cells #[.int .i64 0, .int .i64 0, .int .i64 0, .int .i64 0, .int .i64 0, .int .i64 0, .int .i64 0, .int .i64 0, .int .i64 0, .bool false, .int .i64 0, .int .i64 0, .int .i64 0, .bool false, .int .i64 0] 60)).heap.size by simp]
      exact World.iter_heap _ _ _
    · have h := OwnR.new (w.alloc (.cells #[.int .i64 0, .int .i64 0, .int .i64 0, .int .i64 0, .int .i64 0, .int .i64 0, .int .i64 0, .int .i64 0] 24)) rd0 rfl
      rw [size_alloc] at h
      exact h.alloc _
    · exact ((Own8.new w [0, 0, 0, 0, 0, 0, 0, 0]).alloc _).alloc _
    · exact unhide HS
    · exact good_fresh (d := zeros) false rfl (by decide)
    · exact (((Below.refl _ _).alloc (Nat.le_refl _) _).alloc (by simp) _).alloc (by simp; omega) _
  case round =>
    obtain ⟨k, st, hk, HI, HO, HZ, HST, HG, HB⟩ := hrel
    by_cases hlt : k < s.size
    · obtain ⟨r, k2, hr, hk2⟩ : ∃ (r : Int) (k2 : Nat), ((Utf8.decode s k).1 : Int) = r ∧ k + (Utf8.decode s k).2 = k2 := ⟨_, _, rfl, rfl⟩
      obtain ⟨W2, hW2⟩ : ∃ W2, W2 = wr.iterAt (w.heap.size + 1 + 1) s k2 := ⟨_, rfl⟩
      have hnx : ∀ ty, (Instr.next (.pointer (some ⟨w.heap.size + 1 + 1, 0, none⟩)) true ty).run Tryd.prog wr = .ok (.tuple #[.bool true, .int .i64 k, .int .i32 r]) W2 := fun ty => by
        rw [hW2, ← hk2, ← hr]
        exact Lib.run_next_any_at wr _ s k ty (unhide HI) hlt
      have HI2 : Hid (W2.heap[w.heap.size + 1 + 1]? = some (.stringIter s k2)) := by show W2.heap[_]? = _; rw [hW2]; exact Lib.iterAt_heap _ _ _ _ _ (unhide HI)
      have HO2 : OwnR W2 (w.heap.size + 1) st := by rw [hW2]; exact ⟨(unhide HO).1, (Lib.iterAt_other _ _ _ _ _ (by omega)).trans (unhide HO).2⟩
      have HZ2 : Hid (Own8 W2 w.heap.size [0, 0, 0, 0, 0, 0, 0, 0]) := by show Own8 W2 _ _; rw [hW2]; exact (Lib.iterAt_other _ _ _ _ _ (by omega)).trans (unhide HZ)
      have HB2 : Hid (Below w.heap.size w W2) := by show Below _ _ W2; rw [hW2]; exact Lib.below_iterAt (unhide HB) (by omega) _ _
      have HM : Hid (wr.iterPos (w.heap.size + 1 + 1) = k) := iterPos_of (unhide HI)
      have hca : byteAt s k < 128 → r = (byteAt s k : Int) ∧ k2 = k + 1 := fun h => by
        rw [byteAt_eq s k hlt] at h ⊢
        rw [← hr, ← hk2, decode_ascii s k hlt h]
        exact ⟨rfl, rfl⟩
      have hcb : 128 ≤ byteAt s k → 128 ≤ r := fun h => by
        rw [byteAt_eq s k hlt] at h
        have := (decode_high s k hlt h).1
        omega
      have hsame : takeE st (k : Int) r = takeE st (k : Int) (byteAt s k : Int) := by
        by_cases h : byteAt s k < 128
        · rw [(hca h).1]
        · exact (takeE_big (by have := hcb (by omega); omega) (by omega)).1
      have hT := take_any st (unhide HG) (k : Int) r (fun _ => by have := unhide HSZ; omega)
      rw [hsame] at hT
      cases ht : takeE st (k : Int) (byteAt s k : Int) with
      | err e pl =>
        rw [ht] at hT
        have HT := hide (hT (w.heap.size + 1) W2 HO2)
        have HOO : Hid (O = .err e pl) := (unhide HST).symm.trans (scan_err hlt ht)
        have he := takeE_err ht
        clear hW2 HI HO HZ HB HST ht hT HO2 hca hcb hsame hr hk2 HI2 HG
        rcases he with rfl | rfl
        all_goals
          go_wp2_with (first
            | (go_at_call 45; refine (unhide HT).mono ?_; rintro e w3 ⟨rfl, hk3⟩; have HZ3 : Hid (Own8 w3 w.heap.size [0, 0, 0, 0, 0, 0, 0, 0]) := heap2 hk3 (unhide HZ2) (by omega))
            | (refine store8 rfl (.tmp 2) (.tmp 39) rfl w.heap.size _ [0, 0, 0, 0, 0, 0, 0, 0] rfl rfl rfl rfl (unhide HZ3) ?_))
          refine bodyPost_ret (v := .tuple #[.agg (cells8 zeros), .int .i64 _, .int .i64 pl]) (res3 Tryd.results24 _ _ w.heap.size _ rfl rfl ((unhide HZ3).setRow _)) rfl ⟨?_, ?_⟩
          · rw [unhide HOO]; rfl
          · exact below_setRow (hk3.below (unhide HB2) (by omega)) (Nat.le_refl _) _
      | ok s1 =>
        rw [ht] at hT
        have hb128 : byteAt s k < 128 := by
          apply Classical.byContradiction
          intro h
          obtain ⟨e, pl, h2⟩ := (takeE_big (s := st) (at_ := (k : Int)) (c := (byteAt s k : Int)) (r := (byteAt s k : Int)) (by omega) (by omega)).2
          rw [h2] at ht
          cases ht
        obtain ⟨hrr, rfl⟩ := hca hb128
        clear hrr
        have HT := hide (hT (w.heap.size + 1) W2 HO2)
        have HS1 : Hid (scan s (k + 1) s1 = O) := (scan_ok hlt ht).symm.trans (unhide HST)
        have HG1 := hide (takeE_good (unhide HG) ht)
        clear hW2 HI HO HZ HB HST ht hT HO2 hca hcb hsame hr hk2 hb128 HG
        go_wp2_with (go_at_call 45; refine (unhide HT).mono ?_; rintro e w3 ⟨rfl, ho3, hk3⟩)
        have HI3 := hide (heap2 hk3 (unhide HI2) (by omega))
        have HO3 := hide ho3
        have HZ3 : Hid (Own8 w3 w.heap.size [0, 0, 0, 0, 0, 0, 0, 0]) := heap2 hk3 (unhide HZ2) (by omega)
        have HB3 := hide (hk3.below (unhide HB2) (by omega))
        clear ho3 hk3
        go_roundw
        case rel => exact ⟨k + 1, s1, by omega, HI3, HO3, HZ3, HS1, HG1, HB3⟩
        case measure => rw [unhide HM, iterPos_of (unhide HI3)]; omega
    · obtain rfl : k = s.size := by omega
      have hnx : ∀ ty, (Instr.next (.pointer (some ⟨w.heap.size + 1 + 1, 0, none⟩)) true ty).run Tryd.prog wr = .ok (.tuple #[.bool false]) wr := fun ty => Lib.run_next_end_at wr _ s _ ty (unhide HI) (by omega)
      have hT := take_any st (unhide HG) (s.size : Int) (-1) (fun h => absurd h (by decide))
      cases ht : takeE st (s.size : Int) (-1) with
      | err e pl =>
        rw [ht] at hT
        have HT := hide (hT (w.heap.size + 1) wr (unhide HO))
        have HOO : Hid (O = .err e pl) := (unhide HST).symm.trans (scan_end_err ht)
        have he := takeE_err ht
        clear HI HO HST ht hT HG
        rcases he with rfl | rfl
        all_goals
          go_wp2_with (first
            | (go_at_call 45; refine (unhide HT).mono ?_; rintro e w3 ⟨rfl, hk3⟩; have HZ3 : Hid (Own8 w3 w.heap.size [0, 0, 0, 0, 0, 0, 0, 0]) := heap2 hk3 (unhide HZ) (by omega))
            | (refine store8 rfl (.tmp 2) (.tmp 50) rfl w.heap.size _ [0, 0, 0, 0, 0, 0, 0, 0] rfl rfl rfl rfl (unhide HZ3) ?_))
          refine bodyPost_ret (v := .tuple #[.agg (cells8 zeros), .int .i64 _, .int .i64 pl]) (res3 Tryd.results24 _ _ w.heap.size _ rfl rfl ((unhide HZ3).setRow _)) rfl ⟨?_, ?_⟩
          · rw [unhide HOO]; rfl
          · exact below_setRow (hk3.below (unhide HB) (by omega)) (Nat.le_refl _) _
      | ok sF =>
        rw [ht] at hT
        have HT := hide (hT (w.heap.size + 1) wr (unhide HO))
        have HOO : Hid (O = .done sF.prod) := (unhide HST).symm.trans (scan_end_ok ht)
        obtain ⟨r0, r1, r2, r3, r4, r5, r6, r7, hR⟩ := list8 sF.prod (takeE_good (unhide HG) ht).len
        have HR := hide hR
        clear hR HST HG ht hT
        go_upto_region 16 with (go_at_call 45; refine (unhide HT).mono ?_; rintro e w3 ⟨rfl, ho3, hk3⟩)
        have HZ3 : Hid (Own8 w3 w.heap.size [0, 0, 0, 0, 0, 0, 0, 0]) := heap2 hk3 (unhide HZ) (by omega)
        have HB3 := hide (hk3.below (unhide HB) (by omega))
        obtain ⟨c0, c1, c2, c3, c4, c5, c6, c7⟩ : w3.cell? ⟨w.heap.size + 1, 0, none⟩ = some (.int .i64 r0) ∧ w3.cell? ⟨w.heap.size + 1, 1, none⟩ = some (.int .i64 r1) ∧ w3.cell? ⟨w.heap.size + 1, 2, none⟩ = some (.int .i64 r2) ∧ w3.cell? ⟨w.heap.size + 1, 3, none⟩ = some (.int .i64 r3) ∧ w3.cell? ⟨w.heap.size + 1, 4, none⟩ = some (.int .i64 r4) ∧ w3.cell? ⟨w.heap.size + 1, 5, none⟩ = some (.int .i64 r5) ∧ w3.cell? ⟨w.heap.size + 1, 6, none⟩ = some (.int .i64 r6) ∧ w3.cell? ⟨w.heap.size + 1, 7, none⟩ = some (.int .i64 r7) := by
          have hh := fun i y hi => ho3.cell i _ (cells_prod i y hi)
          rw [unhide HR] at hh
          exact ⟨hh 0 _ rfl, hh 1 _ rfl, hh 2 _ rfl, hh 3 _ rfl, hh 4 _ rfl, hh 5 _ rfl, hh 6 _ rfl, hh 7 _ rfl⟩
        clear ho3 hk3
        go_wp2_with (refine store8 rfl (.tmp 2) (.tmp 54) rfl w.heap.size _ [r0, r1, r2, r3, r4, r5, r6, r7] rfl rfl rfl rfl (unhide HZ3) ?_)
        refine bodyPost_ret (v := .tuple #[.agg (cells8 [r0, r1, r2, r3, r4, r5, r6, r7]), .int .i64 0, .int .i64 0]) (res3 Tryd.results24 _ _ w.heap.size _ rfl rfl ((unhide HZ3).setRow _)) rfl ⟨?_, ?_⟩
        · rw [unhide HOO, unhide HR]; rfl
        · exact below_setRow (unhide HB3) (Nat.le_refl _) _
theorem parse_any (s : ByteArray) (w : World) (hsz : s.size ≤ 9223372036854775807) : Calls Tryd.prog 24 #[.string s] w fun e w' => e = .returned (outV (parseOut s)) ∧ Below w.heap.size w w' := by
  unfold parseOut
  cases h : Lib.hasPrefix s.data.toList [49] with
  | true =>
    rw [if_pos rfl]
    by_cases h1 : s = ⟨#[49]⟩
    · rw [if_pos h1]; subst h1; exact parse_one w
    · rw [if_neg h1]; exact parse_long s w h h1
  | false =>
    rw [if_neg (by simp)]
    exact parse_scan s _ w h hsz rfl
end Go.Proofs.YtccnbnfafhpeaaaDoor

/- names.Raise, at every number from -99 to 99. -/
import Derived.Test.YtiooiacebgojiaaDoorLow
import Derived.Test.YtiooiacebgojiaaDoorWrite
import Derived.Test.YtiooiacebgojiaaDoorLongest
import Derived.Test.YtiooiacebgojiaaDoorPlaces
import Derived.Laws.RangeAny
import Derived.Laws.RangeString
import Derived.Lib.RuneCount
import Derived.Lib.OthersKept
import Derived.Lib.ItoaNum
import Derived.Lib.ItoaLen
namespace Go.Proofs.YtiooiacebgojiaaDoor
open Go.RowKit

def digR (c : UInt8) : Int := if c = 45 then 8315 else ([8304, 185, 178, 179, 8308, 8309, 8310, 8311, 8312, 8313] : List Int).getD (c.toNat - 48) 0
/-- A number in raised digits. -/
def raiseT (n : Int) : List UInt8 := (Lib.itoa n).flatMap fun c => Lib.encodeRune (digR c)
theorem itoa_ok (n : Int) (h0 : -99 ≤ n) (h1 : n ≤ 99) : (Lib.itoa n).all (fun c => c == 45 || (decide (48 ≤ c.toNat) && decide (c.toNat ≤ 57))) = true ∧ (Lib.itoa n).length ≤ 3 := by
  obtain ⟨k, rfl⟩ : ∃ k : Nat, n = (k : Int) - 99 := ⟨(n + 99).toNat, by omega⟩
  have hk : k < 199 := by omega
  clear h0 h1
  revert k
  decide +kernel
def Tab (w : World) : Prop := Lib.TabIs Tryd.prog w "internal/strconv.uint64pow10" .u64 Lib.pow10Tab
theorem below_grow (w : World) (k : Nat) (os : Array Obj) : Below w.heap.size w (Go.Sort.grow (w.drewN k) os) :=
  (below_drewN (Below.refl _ _) k).trans ⟨rfl, rfl, rfl, by simp [Go.Sort.grow], fun i hi => by
    show ((w.drewN k).heap ++ os)[i]? = _
    exact Array.getElem?_append_left hi⟩
theorem itoa_call (n : Int) (w : World) (h0 : -99 ≤ n) (h1 : n ≤ 99) (ht : Tab w) : Calls Tryd.prog 41 #[.int .i64 n] w fun e w' => e = .returned (.string ⟨(Lib.itoa n).toArray⟩) ∧ Below w.heap.size w w' :=
  (Tryd.strconv_Itoa n (by omega) (by omega) w ht).mono fun _ _ ⟨he, k, os, hw⟩ => ⟨he, by subst hw; exact below_grow w k os⟩
theorem digR_range (c : UInt8) : -2147483648 ≤ digR c ∧ digR c ≤ 2147483647 := by
  unfold digR
  split
  · omega
  · generalize c.toNat - 48 = k
    rcases k with _ | _ | _ | _ | _ | _ | _ | _ | _ | _ | k <;> simp

set_option maxRecDepth 100000 in
set_option maxHeartbeats 1000000 in
theorem raise_any (n : Int) (h0 : -99 ≤ n) (h1 : n ≤ 99) (w : World) (ht : ∀ W, Below w.heap.size w W → Tab W) :
    Calls Tryd.prog 20 #[.int .i64 n] w fun e w' => e = .returned (.tuple #[.string ⟨(raiseT n).toArray⟩, .int .i64 0]) ∧ Below w.heap.size w w' := by
  obtain ⟨t, htt⟩ : ∃ t, t = Lib.itoa n := ⟨_, rfl⟩
  have hok := itoa_ok n h0 h1
  have HI0 := hide (fun W (h : Tab W) => itoa_call n W h0 h1 h)
  rw [← htt] at hok HI0
  obtain ⟨hall, hlen⟩ := hok
  have HALL := hide hall
  have HTT := hide htt
  have HT := hide ht
  clear hall htt ht
  have hsz : (⟨t.toArray⟩ : ByteArray).size = t.length := by simp [ByteArray.size]
  go_enter Tryd.func20, Tryd.ntmps20
  go_upto_region 5 with (go_at_call 41; refine (unhide HI0 _ (unhide HT _ ((Below.refl _ _).alloc (Nat.le_refl _) _))).mono ?_; rintro e w1 ⟨rfl, hb1⟩)
  have HB1 : Hid (Below w.heap.size w w1) := ((Below.refl _ _).alloc (Nat.le_refl _) _).trans (hb1.mono (by simp))
  have hs1 : w.heap.size + 1 ≤ w1.heap.size := by have := hb1.size; simpa using this
  have HK1 : Hid (w1.heap[w.heap.size]? = some (.cells #[.pointer none, .slice none 0 0] 62 (0, 0))) := (hb1.block _ (by simp)).trans (heap_alloc_new w _)
  clear hb1
  go_loopw [6] (fun _ wr => ∃ p : Nat, p ≤ t.length ∧ Hid (wr.heap[w1.heap.size]? = some (.stringIter ⟨t.toArray⟩ p)) ∧ Hid (Lib.IsBuilderF 62 5 w.heap.size w.heap.size (Lib.byteCells ((t.take p).flatMap fun c => Lib.encodeRune (digR c))) wr) ∧ Hid (Below w.heap.size w wr)) (fun _ wr => t.length - wr.iterPos w1.heap.size)
  case atStart =>
    refine ⟨0, Nat.zero_le _, World.iter_heap _ _ _, ?_, (unhide HB1).alloc (unhide HB1).size _⟩
    refine .inl ⟨Nat.le_refl _, .slice none 0 0, ?_, World.ownsRowF_nil _ _ _ _, by simp [Value.ownBlock]⟩
    exact (Below.heap_alloc _ _ _ (by omega)).trans (unhide HK1)
  case round =>
    obtain ⟨p, hpt, HI, HBU, HB⟩ := hrel
    have hB0 : w.heap.size ≤ wr.heap.size := (unhide HB).size
    have HM : Hid (wr.iterPos w1.heap.size = p) := iterPos_of (unhide HI)
    obtain ⟨acc, hacc⟩ : ∃ acc, acc = (t.take p).flatMap fun c => Lib.encodeRune (digR c) := ⟨_, rfl⟩
    have haccl : acc.length ≤ 4 * p := by
      rw [hacc, List.length_flatMap]
      have h2 : ∀ l : List UInt8, (l.map fun c => (Lib.encodeRune (digR c)).length).sum ≤ 4 * l.length := by
        intro l
        induction l with
        | nil => simp
        | cons x r ih =>
          have h1 := (Lib.runeCells_le (digR x)).2
          rw [Lib.runeCells_length] at h1
          simp only [List.map_cons, List.sum_cons, List.length_cons]
          omega
      have h3 := h2 (t.take p)
      rw [List.length_take, Nat.min_eq_left hpt] at h3
      exact h3
    have HACC := hide hacc
    rw [← hacc] at HBU
    clear hacc
    by_cases hlt : p < t.length
    · obtain ⟨c, hc⟩ : ∃ c, c = t[p] := ⟨_, rfl⟩
      have hcm : c = 45 ∨ (48 ≤ c.toNat ∧ c.toNat ≤ 57) := by
        have h := (List.all_eq_true.1 (unhide HALL)) c (by rw [hc]; exact List.getElem_mem _)
        simpa using h
      have hc128 : c.toNat < 128 := by rcases hcm with rfl | h; decide; omega
      obtain ⟨W2, hW2⟩ : ∃ W2, W2 = wr.iterAt w1.heap.size ⟨t.toArray⟩ (p + 1) := ⟨_, rfl⟩
      have hnx : ∀ ty, (Instr.next (.pointer (some ⟨w1.heap.size, 0, none⟩)) true ty).run Tryd.prog wr = .ok (.tuple #[.bool true, .int .i64 p, .int .i32 ((c.toNat : Nat) : Int)]) W2 := fun ty => by
        have h := Lib.run_next_any_at (P := Tryd.prog) wr _ ⟨t.toArray⟩ p ty (unhide HI) (by rw [hsz]; exact hlt)
        have hd : Utf8.decode ⟨t.toArray⟩ p = (c.toNat, 1) := by
          have h2 := decode_ascii ⟨t.toArray⟩ p (by rw [hsz]; exact hlt) (by show (t[p]).toNat < 128; rw [← hc]; exact hc128)
          rw [h2, hc]
          rfl
        rw [hd] at h
        rw [hW2]
        exact h
      have HI2 : Hid (W2.heap[w1.heap.size]? = some (.stringIter ⟨t.toArray⟩ (p + 1))) := by show W2.heap[_]? = _; rw [hW2]; exact Lib.iterAt_heap _ _ _ _ _ (unhide HI)
      have HBU2 : Hid (Lib.IsBuilderF 62 5 w.heap.size w.heap.size (Lib.byteCells acc) W2) := by show Lib.IsBuilderF _ _ _ _ _ W2; rw [hW2]; exact (unhide HBU).iterAt (unhide HI) _
      have HB2 : Hid (Below w.heap.size w W2) := by show Below _ _ W2; rw [hW2]; exact Lib.below_iterAt (unhide HB) (by omega) _ _
      have hdr := digR_range c
      have HWR := hide (writeRune_any w.heap.size w.heap.size (Lib.byteCells acc) (digR c) hdr.1 hdr.2 W2 (unhide HBU2) (by rw [byteCells_len]; omega) (unhide HB2).size)
      have HST : Hid (acc ++ Lib.encodeRune (digR c) = (t.take (p + 1)).flatMap fun c => Lib.encodeRune (digR c)) := by
        show _ = _
        rw [List.take_succ_eq_append_getElem hlt, List.flatMap_append, ← unhide HACC, hc]
        simp
      clear hW2 HI HBU HB hc HACC
      rcases hcm with rfl | hcm
      · rw [show digR 45 = 8315 from rfl] at HWR HST
        go_wp2_with (go_at_call 42; refine (unhide HWR).mono ?_; rintro e w4 ⟨⟨n4, rfl⟩, hbu4, hb4, hk4⟩)
        have HI4 : Hid (w4.heap[w1.heap.size]? = some (.stringIter ⟨t.toArray⟩ (p + 1))) := hk4.iter (unhide HI2) (by omega)
        have HBU4 : Hid (Lib.IsBuilderF 62 5 w.heap.size w.heap.size (Lib.byteCells ((t.take (p + 1)).flatMap fun c => Lib.encodeRune (digR c))) w4) := .inr (by rw [← unhide HST, byteCells_app, Lib.byteCells_encodeRune]; exact hbu4)
        exact ⟨⟨p + 1, by omega, HI4, HBU4, (unhide HB2).trans hb4⟩, by rw [unhide HM, iterPos_of (unhide HI4)]; omega⟩
      · obtain ⟨d, hd⟩ : ∃ d, c.toNat = 48 + d := ⟨c.toNat - 48, by omega⟩
        have hd10 : d < 10 := by omega
        have hcne : ¬ c = 45 := by rintro rfl; exact absurd hcm.1 (by decide)
        have hdg : digR c = ([8304, 185, 178, 179, 8308, 8309, 8310, 8311, 8312, 8313] : List Int).getD d 0 := by unfold digR; rw [if_neg hcne, hd, Nat.add_sub_cancel_left]
        have HRA := hide (raised_any d hd10 W2)
        rw [← hdg] at HRA
        have hc45 : (((c.toNat : Nat) : Int) == 45) = false := by rw [beq_eq_false_iff_ne]; omega
        have hsub : ((c.toNat : Nat) : Int) - 48 = (d : Int) := by omega
        clear hdg hcne hd hcm hc128
        obtain ⟨R, hR⟩ : ∃ R, R = digR c := ⟨_, rfl⟩
        rw [← hR] at HRA HWR HST
        clear hR hdr
        generalize ((c.toNat : Nat) : Int) = CI at hnx hc45 hsub
        go_wp2_with (first
          | (go_at_call 43; refine (unhide HRA).mono ?_; rintro e w3 ⟨rfl, h3⟩; rw [h3]; clear h3)
          | (go_at_call 42; refine (unhide HWR).mono ?_; rintro e w4 ⟨⟨n4, rfl⟩, hbu4, hb4, hk4⟩))
        have HI4 : Hid (w4.heap[w1.heap.size]? = some (.stringIter ⟨t.toArray⟩ (p + 1))) := hk4.iter (unhide HI2) (by omega)
        have HBU4 : Hid (Lib.IsBuilderF 62 5 w.heap.size w.heap.size (Lib.byteCells ((t.take (p + 1)).flatMap fun c => Lib.encodeRune (digR c))) w4) := .inr (by rw [← unhide HST, byteCells_app, Lib.byteCells_encodeRune]; exact hbu4)
        exact ⟨⟨p + 1, by omega, HI4, HBU4, (unhide HB2).trans hb4⟩, by rw [unhide HM, iterPos_of (unhide HI4)]; omega⟩
    · obtain rfl : p = t.length := by omega
      have hnx : ∀ ty, (Instr.next (.pointer (some ⟨w1.heap.size, 0, none⟩)) true ty).run Tryd.prog wr = .ok (.tuple #[.bool false]) wr := fun ty => Lib.run_next_end_at wr _ ⟨t.toArray⟩ _ ty (unhide HI) (by rw [hsz]; omega)
      have HE : Hid (raiseT n = acc) := by
        show _ = _
        unfold raiseT
        rw [unhide HACC, List.take_length, unhide HTT]
      have HSG := hide (Tryd.Builder_String_any_k w.heap.size w.heap.size acc wr (unhide HBU) hB0)
      clear HI HBU HACC HM
      go_wp2_with (go_at_call 44; refine (unhide HSG).mono ?_; rintro e w3 ⟨rfl, _, hb3, _⟩)
      go_ret2
      exact ⟨by rw [unhide HE]; rfl, (unhide HB).trans hb3⟩
end Go.Proofs.YtiooiacebgojiaaDoor

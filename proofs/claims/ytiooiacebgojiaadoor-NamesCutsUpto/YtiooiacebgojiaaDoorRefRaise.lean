/- The document's Raise at every number, and names.Raise at those that are out of range. -/
import Derived.Test.YtiooiacebgojiaaDoorRaise
import Derived.Lib.ConvBytes
import Derived.Lib.SmallJoins
namespace Go.Proofs.YtiooiacebgojiaaDoor
open Go.RowKit

theorem raise_out (n : Int) (h : n < -99 ∨ 99 < n) (w : World) : Calls Tryd.prog 20 #[.int .i64 n] w fun e w' => e = .returned (.tuple #[.string ⟨#[]⟩, .int .i64 51]) ∧ Below w.heap.size w w' := by
  by_cases h0 : n < -99
  · clear h
    go_enter Tryd.func20, Tryd.ntmps20
    go_wp2
    go_ret2
    first | exact ⟨rfl, Below.refl _ _⟩ | exact ⟨rfl, (Below.refl _ _).alloc (Nat.le_refl _) _⟩
  · have h1 : 99 < n := by omega
    clear h
    go_enter Tryd.func20, Tryd.ntmps20
    go_wp2
    go_ret2
    first | exact ⟨rfl, Below.refl _ _⟩ | exact ⟨rfl, (Below.refl _ _).alloc (Nat.le_refl _) _⟩
theorem refRaise_out (n : Int) (h : n < -99 ∨ 99 < n) (w : World) : Calls Tryd.prog 21 #[.int .i64 n] w fun e w' => e = .returned (.tuple #[.string ⟨#[]⟩, .int .i64 51]) ∧ Below w.heap.size w w' := by
  by_cases h0 : n < -99
  · clear h
    go_enter Tryd.func21, Tryd.ntmps21
    go_wp2
    go_ret2
    exact ⟨rfl, Below.refl _ _⟩
  · have h1 : 99 < n := by omega
    clear h
    go_enter Tryd.func21, Tryd.ntmps21
    go_wp2
    go_ret2
    exact ⟨rfl, Below.refl _ _⟩
theorem text_app (a : List UInt8) (x : ByteArray) (b : List UInt8) (h : x.data.toList = b) : (⟨a.toArray⟩ : ByteArray) ++ x = ⟨(a ++ b).toArray⟩ := by
  subst h
  apply ByteArray.ext
  simp [ByteArray.data_append]
theorem conv960 (t : List UInt8) (W : World) : (convert 9 60 (.string ⟨t.toArray⟩)).run Tryd.prog W = .ok (.slice (some ⟨W.heap.size, 0, none⟩) t.length (grownCap W t.length 0 5)) (Lib.bytesWorld W 5 ⟨t.toArray⟩) := by
  have h := Lib.run_convert_string_bytes (P := Tryd.prog) W 9 60 5 ⟨t.toArray⟩ Tryd.underlying9 Tryd.underlying60 Tryd.underlying5
  have e : (⟨t.toArray⟩ : ByteArray).size = t.length := by simp [ByteArray.size]
  rw [e] at h
  exact h

set_option maxRecDepth 100000 in
set_option maxHeartbeats 1000000 in
theorem refRaise_any (n : Int) (h0 : -99 ≤ n) (h1 : n ≤ 99) (w : World) (ht : Tab w) :
    Calls Tryd.prog 21 #[.int .i64 n] w fun e w' => e = .returned (.tuple #[.string ⟨(raiseT n).toArray⟩, .int .i64 0]) ∧ Below w.heap.size w w' := by
  obtain ⟨t, htt⟩ : ∃ t, t = Lib.itoa n := ⟨_, rfl⟩
  have hok := itoa_ok n h0 h1
  have HI0 := hide (itoa_call n w h0 h1 ht)
  rw [← htt] at hok HI0
  obtain ⟨hall, hlen⟩ := hok
  have HALL := hide hall
  have HTT := hide htt
  clear hall htt ht
  have hcv := conv960 t
  go_enter Tryd.func21, Tryd.ntmps21
  go_upto_region 5 with (go_at_call 41; refine (unhide HI0).mono ?_; rintro e w1 ⟨rfl, hb1⟩)
  have HB1 : Hid (Below w.heap.size w (Lib.bytesWorld w1 5 ⟨t.toArray⟩)) := hb1.trans (Joins.below_bytesWorld _ w1 5 ⟨t.toArray⟩ hb1.size)
  have HC : Hid (∀ i (hi : i < t.length), (Lib.bytesWorld w1 5 ⟨t.toArray⟩).cell? ⟨w1.heap.size, i, none⟩ = some (.int .u8 (t[i].toNat : Nat))) := by
    intro i hi
    have h := Lib.bytesWorld_cell w1 5 ⟨t.toArray⟩ i (by simpa [ByteArray.size] using hi)
    rw [h]
    simp [List.getD, hi]
  clear hcv hb1 HI0
  generalize Lib.bytesWorld w1 5 ⟨t.toArray⟩ = W1 at *
  generalize grownCap w1 t.length 0 5 = cap at *
  generalize w1.heap.size = g at *
  go_loopw [4, 17] (fun v4 v17 wr => ∃ i : Nat, v17 = .int .i64 (i : Int) ∧ i ≤ t.length ∧ v4 = .string ⟨((t.take i).flatMap fun c => Lib.encodeRune (digR c)).toArray⟩ ∧ wr = W1) (fun _ v17 _ => t.length - (intOf v17).toNat)
  case atStart => exact ⟨0, rfl, Nat.zero_le _, rfl, rfl⟩
  case round =>
    obtain ⟨i, rfl, hit, rfl, rfl⟩ := hrel
    obtain ⟨acc, hacc⟩ : ∃ acc, acc = (t.take i).flatMap fun c => Lib.encodeRune (digR c) := ⟨_, rfl⟩
    rw [← hacc]
    have haccl : acc.length ≤ 12 := by
      rw [hacc, List.length_flatMap]
      have h2 : ∀ l : List UInt8, (l.map fun c => (Lib.encodeRune (digR c)).length).sum ≤ 4 * l.length := by
        intro l
        induction l with
        | nil => simp
        | cons x r ih =>
          have h1 := (Lib.runeCells_le (digR x)).2
          rw [Lib.runeCells_length] at h1
          simp only [List.map_cons, List.sum_cons, List.length_cons]
          omega
      have h3 := h2 (t.take i)
      rw [List.length_take, Nat.min_eq_left hit] at h3
      omega
    have HACC := hide hacc
    clear hacc
    by_cases hlt : i < t.length
    · obtain ⟨c, hc⟩ : ∃ c, c = t[i] := ⟨_, rfl⟩
      have hcm : c = 45 ∨ (48 ≤ c.toNat ∧ c.toNat ≤ 57) := by
        have h := (List.all_eq_true.1 (unhide HALL)) c (by rw [hc]; exact List.getElem_mem _)
        simpa using h
      have hcell := unhide HC i hlt
      rw [← hc] at hcell
      have HST : Hid (acc ++ Lib.encodeRune (digR c) = (t.take (i + 1)).flatMap fun c => Lib.encodeRune (digR c)) := by
        show _ = _
        rw [List.take_succ_eq_append_getElem hlt, List.flatMap_append, ← unhide HACC, hc]
        simp
      have hcc : c = 45 ∨ c = 48 ∨ c = 49 ∨ c = 50 ∨ c = 51 ∨ c = 52 ∨ c = 53 ∨ c = 54 ∨ c = 55 ∨ c = 56 ∨ c = 57 := by
        rcases hcm with rfl | ⟨a, b⟩
        · exact .inl rfl
        · right
          have hz : c.toNat = 48 ∨ c.toNat = 49 ∨ c.toNat = 50 ∨ c.toNat = 51 ∨ c.toNat = 52 ∨ c.toNat = 53 ∨ c.toNat = 54 ∨ c.toNat = 55 ∨ c.toNat = 56 ∨ c.toNat = 57 := by omega
          rcases hz with h | h | h | h | h | h | h | h | h | h
          · exact .inl (UInt8.toNat_inj.1 h)
          · exact .inr (.inl (UInt8.toNat_inj.1 h))
          · exact .inr (.inr (.inl (UInt8.toNat_inj.1 h)))
          · exact .inr (.inr (.inr (.inl (UInt8.toNat_inj.1 h))))
          · exact .inr (.inr (.inr (.inr (.inl (UInt8.toNat_inj.1 h)))))
          · exact .inr (.inr (.inr (.inr (.inr (.inl (UInt8.toNat_inj.1 h))))))
          · exact .inr (.inr (.inr (.inr (.inr (.inr (.inl (UInt8.toNat_inj.1 h)))))))
          · exact .inr (.inr (.inr (.inr (.inr (.inr (.inr (.inl (UInt8.toNat_inj.1 h))))))))
          · exact .inr (.inr (.inr (.inr (.inr (.inr (.inr (.inr (.inl (UInt8.toNat_inj.1 h)))))))))
          · exact .inr (.inr (.inr (.inr (.inr (.inr (.inr (.inr (.inr (UInt8.toNat_inj.1 h)))))))))
      clear hcm hc HACC
      have z178 : (Utf8.encode 178).size = 2 := by decide
      have z179 : (Utf8.encode 179).size = 2 := by decide
      have z8304 : (Utf8.encode 8304).size = 3 := by decide
      have z8308 : (Utf8.encode 8308).size = 3 := by decide
      have z8309 : (Utf8.encode 8309).size = 3 := by decide
      have z8310 : (Utf8.encode 8310).size = 3 := by decide
      have z8311 : (Utf8.encode 8311).size = 3 := by decide
      have z8312 : (Utf8.encode 8312).size = 3 := by decide
      have z8313 : (Utf8.encode 8313).size = 3 := by decide
      rcases hcc with rfl | rfl | rfl | rfl | rfl | rfl | rfl | rfl | rfl | rfl | rfl
      all_goals
        go_wp2_with fail
        go_roundw
        case rel =>
          refine ⟨i + 1, by go_num, by omega, ?_, by first | rfl | trivial⟩
          rw [← unhide HST]
          first
            | exact congrArg Value.string (text_app acc _ _ (by decide))
            | exact congrArg Value.string (text_app acc _ _ (by decide +kernel))
        case measure => simp [intOf]; omega
    · obtain rfl : i = t.length := by omega
      have HE : Hid (raiseT n = acc) := by
        show _ = _
        unfold raiseT
        rw [unhide HACC, List.take_length, unhide HTT]
      clear HACC
      go_wp2_with fail
      go_ret2
      exact ⟨by rw [unhide HE]; rfl, unhide HB1⟩
end Go.Proofs.YtiooiacebgojiaaDoor

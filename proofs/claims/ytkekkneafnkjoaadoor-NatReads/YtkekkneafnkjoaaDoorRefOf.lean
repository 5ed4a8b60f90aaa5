/- The document's own Of and Int. -/
import Derived.Test.YtkekkneafnkjoaaDoorInt
import Derived.Test.YtkekkneafnkjoaaDoorOf
import Derived.Lib.ItoaLen
namespace Go.Proofs.YtkekkneafnkjoaaDoor
open Go.RowKit

theorem one_byte (wr : World) (c : Nat) (hc : c < 10) : (convert 54 9 (.slice (some ⟨wr.heap.size, 0, none⟩) 1 1)).run Tryd.prog (wr.alloc (.cells #[.int .u8 (48 + (c : Int))] 5)) = .ok (.string ⟨#[UInt8.ofNat (48 + c)]⟩) (wr.alloc (.cells #[.int .u8 (48 + (c : Int))] 5)) := by
  have h := run_convert_bytes_back (P := Tryd.prog) (wr.alloc (.cells #[.int .u8 (48 + (c : Int))] 5)) 54 9 5 ⟨wr.heap.size, 0, none⟩ 1 [UInt8.ofNat (48 + c)] Tryd.underlying54 Tryd.underlying5 Tryd.underlying9 (fun j hj => by
    have : j = 0 := by simpa using hj
    subst this
    rw [Lib.add_plain]
    simp only [List.getElem_cons_zero, Cub.toNat_dig c hc]
    simp [go_sem])
  exact h

theorem append_one (b : UInt8) (T : List UInt8) : (⟨([b] ++ T).toArray⟩ : ByteArray) = ⟨#[b]⟩ ++ ⟨T.toArray⟩ := by
  apply ByteArray.ext
  simp

theorem dval_take (l : List UInt8) (k : Nat) : Cub.dval (l.take k) ≤ Cub.dval l := by
  have h := Cub.dval_append (l.take k) (l.drop k)
  rw [List.take_append_drop] at h
  have : Cub.dval (l.take k) * 1 ≤ Cub.dval (l.take k) * 10 ^ (l.drop k).length := Nat.mul_le_mul_left _ (Nat.one_le_pow _ _ (by decide))
  omega

theorem max_nat : Cub.isNat (⟨#[49, 56, 52, 52, 54, 55, 52, 52, 48, 55, 51, 55, 48, 57, 53, 53, 49, 54, 49, 53]⟩ : ByteArray).data.toList := (Cub.natB_iff _).1 (by decide +kernel)
theorem max_val : Cub.dval (⟨#[49, 56, 52, 52, 54, 55, 52, 52, 48, 55, 51, 55, 48, 57, 53, 53, 49, 54, 49, 53]⟩ : ByteArray).data.toList = 18446744073709551615 := by decide +kernel

set_option maxRecDepth 100000 in
set_option maxHeartbeats 400000 in
theorem refOf_any (u : Nat) (hu : u < 18446744073709551616) (w : World) :
    Calls Tryd.prog 15 #[.int .u64 u] w fun e w' => e = .returned (.string ⟨(Lib.decDigits u).toArray⟩) ∧ Below w.heap.size w w' := by
  go_enter Tryd.func15, Tryd.ntmps15
  go_wp2
  go_loopw [0, 3] (fun n s wr => ∃ (q : Nat) (T : List UInt8), n = .int .u64 (q : Int) ∧ s = .string ⟨T.toArray⟩ ∧ q < 18446744073709551616 ∧ T.length ≤ 30 ∧ Hid (Lib.decDigits u = Lib.decDigits q ++ T) ∧ Below w.heap.size w wr) (fun n _ _ => (intOf n).toNat)
  case atStart => exact ⟨u, [], rfl, rfl, hu, by simp, (List.append_nil _).symm, Below.refl _ _⟩
  case round =>
    obtain ⟨q, T, rfl, rfl, hq, hT, HT, hb⟩ := hrel
    by_cases h9 : 9 < q
    · have hcv := one_byte wr (q % 10) (Nat.mod_lt _ (by decide))
      rw [show (((q % 10 : Nat)) : Int) = (q : Int) % 10 from by omega] at hcv
      have HB : Hid (Lib.decDigits u = Lib.decDigits (q / 10) ++ ([UInt8.ofNat (48 + q % 10)] ++ T)) := by
        rw [unhide HT, ← List.append_assoc]
        rw [show Lib.decDigits q = Lib.decDigits (q / 10) ++ [UInt8.ofNat (48 + q % 10)] from by rw [Lib.decDigits, dif_neg (by omega)]]
        exact rfl
      have hT' : T.length + 1 ≤ 30 := by
        have h1 := congrArg List.length (unhide HB)
        simp only [List.length_append, List.length_cons, List.length_nil, Lib.decDigits_length] at h1
        have h2 := Lib.nDigits_le20 u hu
        omega
      generalize UInt8.ofNat (48 + q % 10) = b at *
      go_wp2
      go_roundw
      case rel => exact ⟨q / 10, [b] ++ T, by go_num, by rw [append_one], by omega, by simpa using hT', HB, hb.alloc hb.size _⟩
      case measure => simp [intOf]; omega
    · have hcv := one_byte wr q (by omega)
      have HB : Hid (Lib.decDigits u = [UInt8.ofNat (48 + q)] ++ T) := by
        rw [unhide HT, Lib.decDigits_one (by omega)]; exact rfl
      generalize UInt8.ofNat (48 + q) = b at *
      go_wp2
      go_ret
      exact ⟨by rw [unhide HB, append_one]; rfl, hb.alloc hb.size _⟩

set_option maxRecDepth 100000 in
set_option maxHeartbeats 400000 in
theorem refInt_any (s : ByteArray) (w : World) (hs : s.size ≤ maxLen) :
    Calls Tryd.prog 10 #[.string s] w fun e w' => e = .returned (.tuple #[.int .u64 (intVal s.data.toList : Nat), .int .i64 (intErr s.data.toList)]) ∧ w' = w := by
  have r1 := fun W => refRight_any s W hs
  cases hr : Cub.rightB s.data.toList with
  | false =>
    have e1 : intVal s.data.toList = 0 := if_neg (by rw [hr]; simp)
    have e2 : intErr s.data.toList = 3 := by unfold intErr; rw [hr]; rfl
    rw [e1, e2]
    rw [hr] at r1
    have R1 := hide r1
    clear r1 hr e1 e2
    go_enter Tryd.func10, Tryd.ntmps10
    go_wp2_with (go_at_call 12; refine (unhide R1 _).mono ?_; rintro e w' ⟨rfl, rfl⟩)
    go_ret2
    exact ⟨rfl, rfl⟩
  | true =>
    have h6 := (right_digs hr).2
    have hd := (right_digs hr).1
    have hn := ((Cub.rightB_iff _).1 hr).1
    have hcmp := fun W => compare_any s ⟨#[49, 56, 52, 52, 54, 55, 52, 52, 48, 55, 51, 55, 48, 57, 53, 53, 49, 54, 49, 53]⟩ W hn max_nat
    rw [max_val] at hcmp
    rw [hr] at r1
    have R1 := hide r1
    by_cases hle : Cub.dval s.data.toList ≤ 18446744073709551615
    · have e1 : intVal s.data.toList = Cub.dval s.data.toList := if_pos ⟨hr, hle⟩
      have e2 : intErr s.data.toList = 0 := by unfold intErr; rw [if_pos hr, if_pos hle]
      have hc : Cub.cmpN (Cub.dval s.data.toList) 18446744073709551615 ≤ 0 := by unfold Cub.cmpN; split <;> (try split) <;> omega
      have hc0 : -1 ≤ Cub.cmpN (Cub.dval s.data.toList) 18446744073709551615 := by unfold Cub.cmpN; split <;> (try split) <;> omega
      rw [e1, e2]
      generalize Cub.cmpN (Cub.dval s.data.toList) 18446744073709551615 = c at *
      have HC := hide hcmp
      have HD := hide hd
      have HLE := hide hle
      clear r1 hr e1 e2 hcmp hd hle hn
      go_enter Tryd.func10, Tryd.ntmps10
      go_wp2_with (first
        | (go_at_call 12; refine (unhide R1 _).mono ?_; rintro e w' ⟨rfl, rfl⟩)
        | (go_at_call 24; refine (unhide HC _).mono ?_; rintro e w' ⟨rfl, rfl⟩))
      go_loop [4, 5] (fun n i => ∃ (k m : Nat), k ≤ s.size ∧ i = .int .i64 (k : Int) ∧ n = .int .u64 (m : Int) ∧ m ≤ 18446744073709551615 ∧ Hid (m = Cub.dval (s.data.toList.take k))) (fun _ i => s.size - (intOf i).toNat)
      case atStart => exact ⟨0, 0, Nat.zero_le _, rfl, rfl, by omega, rfl⟩
      case round =>
        obtain ⟨k, m, hk, rfl, rfl, hm, HM⟩ := hrel
        by_cases hlt : k < s.size
        · obtain ⟨d1, d2⟩ := unhide HD s[k] (by rw [← list_get s k hlt]; exact List.getElem_mem _)
          have HN : Hid (10 * m + (s[k].toNat - 48) = Cub.dval (s.data.toList.take (k + 1))) := by
            rw [List.take_succ_eq_append_getElem (by rw [list_len]; exact hlt), Cub.dval_snoc, ← unhide HM]; exact rfl
          have hb : 10 * m + (s[k].toNat - 48) ≤ 18446744073709551615 := by rw [unhide HN]; exact Nat.le_trans (dval_take _ _) (unhide HLE)
          have hb1 : (10 : Int) * (m : Int) ≤ 18446744073709551615 := by omega
          go_wp2
          go_round
          case rel => exact ⟨k + 1, 10 * m + (s[k].toNat - 48), by omega, by go_num, by go_num, hb, HN⟩
          case measure => simp [intOf]; omega
        · have HN : Hid (m = Cub.dval s.data.toList) := by
            have := unhide HM; rw [List.take_of_length_le (by rw [list_len]; omega)] at this; exact this
          go_wp2
          go_ret2
          exact ⟨by rw [← unhide HN]; rfl, rfl⟩
    · have e1 : intVal s.data.toList = 0 := if_neg (fun hh => hle hh.2)
      have e2 : intErr s.data.toList = 7 := by unfold intErr; rw [if_pos hr, if_neg hle]
      have hc : Cub.cmpN (Cub.dval s.data.toList) 18446744073709551615 = 1 := by unfold Cub.cmpN; rw [if_neg (by omega), if_pos (by omega)]
      rw [hc] at hcmp
      rw [e1, e2]
      have HC := hide hcmp
      clear r1 hr e1 e2 hcmp hd hle hn hc
      go_enter Tryd.func10, Tryd.ntmps10
      go_wp2_with (first
        | (go_at_call 12; refine (unhide R1 _).mono ?_; rintro e w' ⟨rfl, rfl⟩)
        | (go_at_call 24; refine (unhide HC _).mono ?_; rintro e w' ⟨rfl, rfl⟩))
      go_ret2
      exact ⟨rfl, rfl⟩
end Go.Proofs.YtkekkneafnkjoaaDoor

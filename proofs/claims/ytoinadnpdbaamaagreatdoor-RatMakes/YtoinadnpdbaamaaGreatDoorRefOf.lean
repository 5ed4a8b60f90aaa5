/- The document's own Of and Int. -/
import Derived.Test.YtoinadnpdbaamaaGreatDoorOf
import Derived.Lib.ItoaLen
namespace Go.Proofs.YtoinadnpdbaamaaGreatDoor
open Go.RowKit

theorem one_byte (wr : World) (c : Nat) (hc : c < 10) : (convert 130 9 (.slice (some ⟨wr.heap.size, 0, none⟩) 1 1)).run Tryz.prog (wr.alloc (.cells #[.int .u8 (48 + (c : Int))] 5)) = .ok (.string ⟨#[UInt8.ofNat (48 + c)]⟩) (wr.alloc (.cells #[.int .u8 (48 + (c : Int))] 5)) := by
  have h := run_convert_bytes_back (P := Tryz.prog) (wr.alloc (.cells #[.int .u8 (48 + (c : Int))] 5)) 130 9 5 ⟨wr.heap.size, 0, none⟩ 1 [UInt8.ofNat (48 + c)] Tryz.underlying130 Tryz.underlying5 Tryz.underlying9 (fun j hj => by
    have : j = 0 := by simpa using hj
    subst this
    rw [Lib.add_plain]
    simp only [List.getElem_cons_zero, Cub.toNat_dig c hc]
    simp [go_sem])
  exact h

theorem append_one (b : UInt8) (T : List UInt8) : (⟨([b] ++ T).toArray⟩ : ByteArray) = ⟨#[b]⟩ ++ ⟨T.toArray⟩ := by
  apply ByteArray.ext
  simp

theorem dval_take (l : List UInt8) (k : Nat) : Cub.dval (l.take k) ≤ Cub.dval l := by
  have h := Cub.dval_append (l.take k) (l.drop k)
  rw [List.take_append_drop] at h
  have : Cub.dval (l.take k) * 1 ≤ Cub.dval (l.take k) * 10 ^ (l.drop k).length := Nat.mul_le_mul_left _ (Nat.one_le_pow _ _ (by decide))
  omega

theorem max_nat : Cub.isNat (⟨#[49, 56, 52, 52, 54, 55, 52, 52, 48, 55, 51, 55, 48, 57, 53, 53, 49, 54, 49, 53]⟩ : ByteArray).data.toList := (Cub.natB_iff _).1 (by decide +kernel)
theorem max_val : Cub.dval (⟨#[49, 56, 52, 52, 54, 55, 52, 52, 48, 55, 51, 55, 48, 57, 53, 53, 49, 54, 49, 53]⟩ : ByteArray).data.toList = 18446744073709551615 := by decide +kernel

set_option maxRecDepth 100000 in
set_option maxHeartbeats 400000 in
theorem refOf_any (u : Nat) (hu : u < 18446744073709551616) (w : World) :
    Calls Tryz.prog 125 #[.int .u64 u] w fun e w' => e = .returned (.string ⟨(Lib.decDigits u).toArray⟩) ∧ Below w.heap.size w w' := by
  go_enter Tryz.func125, Tryz.ntmps125
  go_wp2
  go_loopw [0, 3] (fun n s wr => ∃ (q : Nat) (T : List UInt8), n = .int .u64 (q : Int) ∧ s = .string ⟨T.toArray⟩ ∧ q < 18446744073709551616 ∧ T.length ≤ 30 ∧ Hid (Lib.decDigits u = Lib.decDigits q ++ T) ∧ Below w.heap.size w wr) (fun n _ _ => (intOf n).toNat)
  case atStart => exact ⟨u, [], rfl, rfl, hu, by simp, (List.append_nil _).symm, Below.refl _ _⟩
  case round =>
    obtain ⟨q, T, rfl, rfl, hq, hT, HT, hb⟩ := hrel
    by_cases h9 : 9 < q
    · have hcv := one_byte wr (q % 10) (Nat.mod_lt _ (by decide))
      rw [show (((q % 10 : Nat)) : Int) = (q : Int) % 10 from by omega] at hcv
      have HB : Hid (Lib.decDigits u = Lib.decDigits (q / 10) ++ ([UInt8.ofNat (48 + q % 10)] ++ T)) := by
        rw [unhide HT, ← List.append_assoc]
        rw [show Lib.decDigits q = Lib.decDigits (q / 10) ++ [UInt8.ofNat (48 + q % 10)] from by rw [Lib.decDigits, dif_neg (by omega)]]
        exact rfl
      have hT' : T.length + 1 ≤ 30 := by
        have h1 := congrArg List.length (unhide HB)
        simp only [List.length_append, List.length_cons, List.length_nil, Lib.decDigits_length] at h1
        have h2 := Lib.nDigits_le20 u hu
        omega
      generalize UInt8.ofNat (48 + q % 10) = b at *
      go_wp2
      go_roundw
      case rel => exact ⟨q / 10, [b] ++ T, by go_num, by rw [append_one], by omega, by simpa using hT', HB, hb.alloc hb.size _⟩
      case measure => simp [intOf]; omega
    · have hcv := one_byte wr q (by omega)
      have HB : Hid (Lib.decDigits u = [UInt8.ofNat (48 + q)] ++ T) := by
        rw [unhide HT, Lib.decDigits_one (by omega)]; exact rfl
      generalize UInt8.ofNat (48 + q) = b at *
      go_wp2
      go_ret
      exact ⟨by rw [unhide HB, append_one]; rfl, hb.alloc hb.size _⟩

end Go.Proofs.YtoinadnpdbaamaaGreatDoor

/- The walk of NatBack: it answers true, whatever it is handed. -/
import Derived.Test.YtkekkneafnkjoabDoorInt
import Derived.Test.YtkekkneafnkjoabDoorOf
import Derived.Lib.ItoaLen
namespace Go.Proofs.YtkekkneafnkjoabDoor
open Go.RowKit

theorem dec_right (u : Nat) (hu : u < 18446744073709551616) : Cub.rightB (Lib.decDigits u) = true := by
  rw [Cub.rightB_iff]
  refine ⟨Cub.isNat_dec u, ?_⟩
  rw [Lib.decDigits_length]
  have := Lib.nDigits_le20 u hu
  omega
theorem int_dec (u : Nat) (hu : u < 18446744073709551616) : intVal (Lib.decDigits u) = u ∧ intErr (Lib.decDigits u) = 0 := by
  have h := dec_right u hu
  have hd : Cub.dval (Lib.decDigits u) ≤ 18446744073709551615 := by rw [Cub.dval_dec]; omega
  refine ⟨?_, ?_⟩
  · unfold intVal; rw [if_pos ⟨h, hd⟩, Cub.dval_dec]
  · unfold intErr; rw [if_pos h, if_pos hd]

set_option maxRecDepth 100000 in
set_option maxHeartbeats 1000000 in
theorem natBack_walk (u : Nat) (s : ByteArray) (w : World) (hs : s.size ≤ maxLen) (hu : u < 18446744073709551616) (htab : Tab w) (her : ErrR w) :
    Calls Tryd.prog 5 #[.int .u64 (u : Int), .string s] w fun e w' => e = .returned (.bool true) ∧ Below w.heap.size w w' := by
  have HT := hide htab
  have HE := hide her
  have C17 := hide (fun W h => natOf_any u hu W h)
  have C16 : Hid (∀ W, ErrR W → Calls Tryd.prog 16 #[.string ⟨(Lib.decDigits u).toArray⟩] W fun e w' => e = .returned (.tuple #[.int .u64 (u : Int), .int .i64 0]) ∧ Below W.heap.size W w') := fun W h => by
    have hsz : (⟨(Lib.decDigits u).toArray⟩ : ByteArray).size ≤ maxLen := by
      rw [← list_len]
      show (Lib.decDigits u).length ≤ maxLen
      rw [Lib.decDigits_length]
      have := Lib.nDigits_le20 u hu
      unfold maxLen; omega
    have h1 := natInt_any ⟨(Lib.decDigits u).toArray⟩ W hsz h
    have e : (⟨(Lib.decDigits u).toArray⟩ : ByteArray).data.toList = Lib.decDigits u := rfl
    rw [e, (int_dec u hu).1, (int_dec u hu).2] at h1
    exact h1
  have C16s := hide (fun W h => natInt_any s W hs h)
  generalize (⟨(Lib.decDigits u).toArray⟩ : ByteArray) = D at *
  clear htab her hs
  by_cases hr : Cub.rightB s.data.toList = true ∧ Cub.dval s.data.toList ≤ 18446744073709551615
  · have e1 : intVal s.data.toList = Cub.dval s.data.toList := if_pos hr
    have e2 : intErr s.data.toList = 0 := by unfold intErr; rw [if_pos hr.1, if_pos hr.2]
    rw [e1, e2] at C16s
    have hd : Cub.dval s.data.toList < 18446744073709551616 := by omega
    have C17s : Hid (∀ W, Tab W → Calls Tryd.prog 17 #[.int .u64 ((Cub.dval s.data.toList : Nat) : Int)] W fun e w' => e = .returned (.string s) ∧ Below W.heap.size W w') := fun W h => by
      have h1 := natOf_any (Cub.dval s.data.toList) hd W h
      rw [Cub.dec_dval _ _ rfl ((Cub.rightB_iff _).1 hr.1).1] at h1
      exact h1
    generalize Cub.dval s.data.toList = v at *
    clear hr e1 e2
    go_enter Tryd.func5, Tryd.ntmps5
    go_wp2_with fail
    refine (unhide C17 _ (unhide HT)).mono ?_
    rintro e w1 ⟨rfl, hb1⟩
    go_wp2_with fail
    refine (unhide C16 _ ((unhide HE).later hb1)).mono ?_
    rintro e w2 ⟨rfl, hc2⟩
    have hb2 := hb1.trans (hc2.mono hb1.size)
    go_wp2_with fail
    refine (unhide C16s _ ((unhide HE).later hb2)).mono ?_
    rintro e w3 ⟨rfl, hc3⟩
    have hb3 := hb2.trans (hc3.mono hb2.size)
    go_wp2_with fail
    refine (unhide C17s _ ((unhide HT).later hb3)).mono ?_
    rintro e w4 ⟨rfl, hc4⟩
    have hb4 := hb3.trans (hc4.mono hb3.size)
    go_wp2_with fail
    refine (known_any _ ((unhide HT).later hb4)).mono ?_
    rintro e w5 ⟨rfl, hc5⟩
    have hb5 := hb4.trans (hc5.mono hb4.size)
    go_wp2
    go_ret
    exact ⟨rfl, hb5⟩
  · have hE : (intErr s.data.toList != 0) = true := by
      rw [bne_iff_ne]
      unfold intErr
      by_cases h1 : Cub.rightB s.data.toList = true
      · rw [if_pos h1, if_neg (fun h2 => hr ⟨h1, h2⟩)]; decide
      · rw [if_neg h1]; decide
    generalize intErr s.data.toList = E at *
    generalize intVal s.data.toList = V at *
    clear hr
    go_enter Tryd.func5, Tryd.ntmps5
    go_wp2_with fail
    refine (unhide C17 _ (unhide HT)).mono ?_
    rintro e w1 ⟨rfl, hb1⟩
    go_wp2_with fail
    refine (unhide C16 _ ((unhide HE).later hb1)).mono ?_
    rintro e w2 ⟨rfl, hc2⟩
    have hb2 := hb1.trans (hc2.mono hb1.size)
    go_wp2_with fail
    refine (unhide C16s _ ((unhide HE).later hb2)).mono ?_
    rintro e w3 ⟨rfl, hc3⟩
    have hb3 := hb2.trans (hc3.mono hb2.size)
    go_wp2_with fail
    refine (known_any _ ((unhide HT).later hb3)).mono ?_
    rintro e w5 ⟨rfl, hc5⟩
    have hb5 := hb3.trans (hc5.mono hb3.size)
    go_wp2
    go_ret
    exact ⟨rfl, hb5⟩
end Go.Proofs.YtkekkneafnkjoabDoor

/- What the tests of a text answer: nat.Right, and the document's own Right. -/
import Derived.Test.YtoinadnpdbaamaaGreatDoorProg
import Derived.Test.YtoinadnpdbaamaaGreatDoorPlain
import Derived.WalkKit
import Derived.WalkSpells
import Derived.WalkLawsBesides
import Derived.Lib.Strings
namespace Go.Proofs.YtoinadnpdbaamaaGreatDoor
open Go.RowKit

theorem hide {p : Prop} (h : p) : Hid p := h
theorem unhide {p : Prop} (h : Hid p) : p := h
theorem list_len (s : ByteArray) : s.data.toList.length = s.size := Array.length_toList
theorem list_get (s : ByteArray) (k : Nat) (hk : k < s.size) : s.data.toList[k]'(by rw [list_len]; exact hk) = s[k] := rfl
theorem list_head (s : ByteArray) (h : 0 < s.size) : s.data.toList.head? = some s[0] := by
  rw [List.head?_eq_getElem?, List.getElem?_eq_getElem (by rw [list_len]; exact h)]; rfl
theorem byte_48 (c : UInt8) : ((c.toNat : Int) = 48) ↔ c = 48 := by
  constructor
  · intro h
    have : c.toNat = 48 := by omega
    rw [← Cub.ofNat_toNat c, this]; rfl
  · intro h; subst h; rfl

set_option maxHeartbeats 400000 in
theorem right_any (s : ByteArray) (w : World) (hs : s.size ≤ maxLen) :
    Calls Tryz.prog 69 #[.string s] w fun e w' => e = .returned (.bool (Cub.rightB s.data.toList)) ∧ w' = w := by
  unfold maxLen at hs
  by_cases h0 : s.size = 0
  · have hf := Cub.rightB_empty s.data.toList (by rw [list_len]; exact h0)
    rw [hf]
    have hz : ((s.size : Int) == 0) = true := by rw [h0]; rfl
    clear hf h0
    go_enter Tryz.func69, Tryz.ntmps69
    go_wp2
    go_ret
    exact ⟨rfl, rfl⟩
  · have hz : ((s.size : Int) == 0) = false := by rw [beq_eq_false_iff_ne]; omega
    by_cases h6 : 600 < s.size
    · have hf := Cub.rightB_long s.data.toList (by rw [list_len]; exact h6)
      rw [hf]
      clear hf
      go_enter Tryz.func69, Tryz.ntmps69
      go_wp2
      go_ret
      exact ⟨rfl, rfl⟩
    · have hp : 0 < s.size := by omega
      by_cases hc : s[0] = 48 ∧ 1 < s.size
      · have hf := Cub.rightB_zero s.data.toList (by rw [list_head s hp, hc.1]) (by rw [list_len]; exact hc.2)
        rw [hf]
        have h48 : ((s[0].toNat : Int) == 48) = true := by rw [beq_iff_eq]; exact (byte_48 _).2 hc.1
        have h1 := hc.2
        clear hf hc h0
        go_enter Tryz.func69, Tryz.ntmps69
        go_wp2
        go_ret
        exact ⟨rfl, rfl⟩
      · have hh : s.data.toList.head? = some 48 → s.data.toList.length = 1 := by
          intro e
          rw [list_head s hp, Option.some.injEq] at e
          rw [list_len]
          by_cases h1 : 1 < s.size
          · exact absurd ⟨e, h1⟩ hc
          · omega
        have HH := hide hh
        have h6' : s.size ≤ 600 := by omega
        have hpk : (((s[0].toNat : Int) == 48) = true ∧ ¬ 1 < s.size) ∨ ((s[0].toNat : Int) == 48) = false := by
          by_cases e : s[0] = 48
          · exact Or.inl ⟨by rw [beq_iff_eq]; exact (byte_48 _).2 e, fun h => hc ⟨e, h⟩⟩
          · exact Or.inr (by rw [beq_eq_false_iff_ne]; exact fun h => e ((byte_48 _).1 h))
        clear hh h0 hc h6
        rcases hpk with ⟨h48, h1⟩ | h48
        all_goals
          go_enter Tryz.func69, Tryz.ntmps69
          go_wp2
          go_loop [24] (fun i => ∃ k : Nat, k ≤ s.size ∧ i = .int .i64 k ∧ ∀ j (hj : j < s.size), j < k → Hid (48 ≤ s[j].toNat ∧ s[j].toNat ≤ 57)) (fun i => s.size - (intOf i).toNat)
          case atStart => exact ⟨0, Nat.zero_le _, rfl, fun j _ h => absurd h (Nat.not_lt_zero _)⟩
          case round =>
            obtain ⟨k, hk, rfl, hall⟩ := hrel
            have HA := hide hall
            clear hall
            by_cases hlt : k < s.size
            · by_cases hd : 48 ≤ s[k].toNat ∧ s[k].toNat ≤ 57
              · obtain ⟨d1, d2⟩ := hd
                go_wp2
                go_round
                case rel => exact ⟨k + 1, by omega, by go_num, fun j hj h => (by
                  by_cases e : j < k
                  · exact unhide HA j hj e
                  · have : j = k := by omega
                    subst this; exact ⟨d1, d2⟩)⟩
                case measure => simp [intOf]; omega
              · have hf := Cub.rightB_bad s.data.toList k (by rw [list_len]; exact hlt) hd
                have HF := hide hf
                clear hf
                by_cases d1 : 48 ≤ s[k].toNat
                · have d2 : 57 < s[k].toNat := by omega
                  clear hd
                  go_wp2
                  go_ret
                  exact ⟨by rw [unhide HF]; rfl, rfl⟩
                · clear hd
                  go_wp2
                  go_ret
                  exact ⟨by rw [unhide HF]; rfl, rfl⟩
            · have e : k = s.size := by omega
              have hf := Cub.rightB_good s.data.toList (by rw [list_len]; omega) (by rw [list_len]; omega) (unhide HH) (fun j hj => (unhide HA j (by rw [list_len] at hj; exact hj) (by rw [list_len] at hj; omega)).out)
              have HF := hide hf
              clear hf e
              go_wp2
              go_ret
              exact ⟨by rw [unhide HF]; rfl, rfl⟩
end Go.Proofs.YtoinadnpdbaamaaGreatDoor

namespace Go.Proofs.YtoinadnpdbaamaaGreatDoor
open Go.RowKit

theorem empty_of (s : ByteArray) (h : s.size = 0) : s.toList.isEmpty = true := by
  rw [Lib.toList_data]; have : s.data.toList = [] := List.length_eq_zero_iff.1 (by rw [list_len]; exact h)
  rw [this]; rfl
theorem not_empty_of (s : ByteArray) (h : 0 < s.size) : s.toList.isEmpty = false := by
  rw [Lib.toList_data]
  cases e : s.data.toList with
  | nil => have := list_len s; rw [e] at this; simp at this; omega
  | cons a t => rfl

set_option maxHeartbeats 400000 in
theorem natural_any (s : ByteArray) (w : World) (hs : s.size ≤ maxLen) :
    Calls Tryz.prog 129 #[.string s] w fun e w' => e = .returned (.bool (Cub.natB s.data.toList)) ∧ w' = w := by
  unfold maxLen at hs
  by_cases h0 : s.size = 0
  · have hf : Cub.natB s.data.toList = false := by
      have : s.data.toList = [] := List.length_eq_zero_iff.1 (by rw [list_len]; exact h0)
      rw [this]; rfl
    rw [hf]
    have hz := empty_of s h0
    clear hf h0
    go_enter Tryz.func129, Tryz.ntmps129
    go_wp2
    go_ret
    exact ⟨rfl, rfl⟩
  · have hp : 0 < s.size := by omega
    have hz := not_empty_of s hp
    by_cases hc : s[0] = 48 ∧ 1 < s.size
    · have hf := Cub.natB_zero s.data.toList (by rw [list_head s hp, hc.1]) (by rw [list_len]; exact hc.2)
      rw [hf]
      have h48 : ((s[0].toNat : Int) == 48) = true := by rw [beq_iff_eq]; exact (byte_48 _).2 hc.1
      have h1 := hc.2
      clear hf hc h0
      go_enter Tryz.func129, Tryz.ntmps129
      go_wp2
      go_ret
      exact ⟨rfl, rfl⟩
    · have hh : s.data.toList.head? = some 48 → s.data.toList.length = 1 := by
        intro e
        rw [list_head s hp, Option.some.injEq] at e
        rw [list_len]
        by_cases h1 : 1 < s.size
        · exact absurd ⟨e, h1⟩ hc
        · omega
      have HH := hide hh
      have hpk : (((s[0].toNat : Int) == 48) = true ∧ ¬ 1 < s.size) ∨ ((s[0].toNat : Int) == 48) = false := by
        by_cases e : s[0] = 48
        · exact Or.inl ⟨by rw [beq_iff_eq]; exact (byte_48 _).2 e, fun h => hc ⟨e, h⟩⟩
        · exact Or.inr (by rw [beq_eq_false_iff_ne]; exact fun h => e ((byte_48 _).1 h))
      clear hh h0 hc
      rcases hpk with ⟨h48, h1⟩ | h48
      all_goals
        go_enter Tryz.func129, Tryz.ntmps129
        go_wp2
        go_loop [3] (fun i => ∃ k : Nat, k ≤ s.size ∧ i = .int .i64 k ∧ ∀ j (hj : j < s.size), j < k → Hid (48 ≤ s[j].toNat ∧ s[j].toNat ≤ 57)) (fun i => s.size - (intOf i).toNat)
        case atStart => exact ⟨0, Nat.zero_le _, rfl, fun j _ h => absurd h (Nat.not_lt_zero _)⟩
        case round =>
          obtain ⟨k, hk, rfl, hall⟩ := hrel
          have HA := hide hall
          clear hall
          by_cases hlt : k < s.size
          · by_cases hd : 48 ≤ s[k].toNat ∧ s[k].toNat ≤ 57
            · obtain ⟨d1, d2⟩ := hd
              go_wp2
              go_round
              case rel => exact ⟨k + 1, by omega, by go_num, fun j hj h => (by
                by_cases e : j < k
                · exact unhide HA j hj e
                · have : j = k := by omega
                  subst this; exact ⟨d1, d2⟩)⟩
              case measure => simp [intOf]; omega
            · have hf := Cub.natB_bad s.data.toList k (by rw [list_len]; exact hlt) hd
              have HF := hide hf
              clear hf
              by_cases d1 : 48 ≤ s[k].toNat
              · have d2 : 57 < s[k].toNat := by omega
                clear hd
                go_wp2
                go_ret
                exact ⟨by rw [unhide HF]; rfl, rfl⟩
              · clear hd
                go_wp2
                go_ret
                exact ⟨by rw [unhide HF]; rfl, rfl⟩
          · have e : k = s.size := by omega
            have hf := Cub.natB_good s.data.toList (by rw [list_len]; omega) (unhide HH) (fun j hj => (unhide HA j (by rw [list_len] at hj; exact hj) (by rw [list_len] at hj; omega)).out)
            have HF := hide hf
            clear hf e
            go_wp2
            go_ret
            exact ⟨by rw [unhide HF]; rfl, rfl⟩

set_option maxHeartbeats 400000 in
theorem refRight_any (s : ByteArray) (w : World) (hs : s.size ≤ maxLen) :
    Calls Tryz.prog 73 #[.string s] w fun e w' => e = .returned (.bool (Cub.rightB s.data.toList)) ∧ w' = w := by
  by_cases h6 : s.size ≤ 600
  · have hf : Cub.rightB s.data.toList = Cub.natB s.data.toList := by
      unfold Cub.rightB; rw [list_len]; simp [h6]
    rw [hf]
    clear hf
    go_enter Tryz.func73, Tryz.ntmps73
    go_wp2_with (go_at_call 129; refine (natural_any s _ hs).mono ?_; rintro e w' ⟨rfl, rfl⟩)
    go_ret
    exact ⟨rfl, rfl⟩
  · have hf := Cub.rightB_long s.data.toList (by rw [list_len]; omega)
    rw [hf]
    clear hf
    go_enter Tryz.func73, Tryz.ntmps73
    go_wp2_with fail
    go_ret
    exact ⟨rfl, rfl⟩

end Go.Proofs.YtoinadnpdbaamaaGreatDoor

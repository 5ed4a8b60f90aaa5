/- The document's own test of a list of texts, and of what is too large. -/
import Derived.Test.YthcihkgellginaaDoorTell
namespace Go.Proofs.YthcihkgellginaaDoor
open Go.RowKit

/-- Are all right? -/
def allRight (ss : List ByteArray) : Bool := ss.all fun s => Cub.rightB s.data.toList

theorem allRight_bad (ss : List ByteArray) (i : Nat) (hi : i < ss.length) (h : Cub.rightB ss[i].data.toList = false) : allRight ss = false := by
  cases hb : allRight ss with
  | false => rfl
  | true =>
    have := List.all_eq_true.1 hb ss[i] (List.getElem_mem hi)
    rw [h] at this; cases this
theorem allRight_good (ss : List ByteArray) (h : ∀ i (hi : i < ss.length), Cub.rightB ss[i].data.toList = true) : allRight ss = true := by
  apply List.all_eq_true.2
  intro s hs
  obtain ⟨i, hi, rfl⟩ := List.getElem_of_mem hs
  exact h i hi

set_option maxRecDepth 100000 in
set_option maxHeartbeats 400000 in
theorem refRightL_any (a : Option Addr) (n cap : Nat) (ss : List ByteArray) (w : World) (hn : n = ss.length) (hmax : n ≤ 9223372036854775807)
    (hc : ∀ i (hi : i < ss.length), ∃ b o, a = some ⟨b, o, none⟩ ∧ w.cell? ⟨b, o + i, none⟩ = some (.string ss[i])) (hs : ∀ i (hi : i < ss.length), ss[i].size ≤ maxLen) :
    Calls Tryd.prog 46 #[.slice a n cap] w fun e w' => e = .returned (.bool (allRight ss)) ∧ w' = w := by
  have HN := hide hn
  have HC := hide hc
  have HS := hide hs
  clear hn hc hs
  go_enter Tryd.func46, Tryd.ntmps46
  go_wp2
  go_loop [3] (fun t => ∃ k : Nat, k ≤ n ∧ t = .int .i64 (k : Int) ∧ Hid (∀ i (hi : i < ss.length), i < k → Cub.rightB ss[i].data.toList = true)) (fun t => n - (intOf t).toNat)
  case atStart => exact ⟨0, Nat.zero_le _, rfl, fun i _ h => absurd h (Nat.not_lt_zero _)⟩
  case round =>
    obtain ⟨k, hk, rfl, HA⟩ := hrel
    by_cases hkn : k < n
    · have hkl : k < ss.length := by have := unhide HN; omega
      obtain ⟨b, o, rfl, hx⟩ := unhide HC k hkl
      have hsz := unhide HS k hkl
      have HR := hide (fun W => refRight_any ss[k] W hsz)
      cases hb : Cub.rightB ss[k].data.toList with
      | true =>
        have HA' : Hid (∀ i (hi : i < ss.length), i < k + 1 → Cub.rightB ss[i].data.toList = true) := fun i hi h => by
          by_cases e : i < k
          · exact unhide HA i hi e
          · have : i = k := by omega
            subst this; exact hb
        rw [hb] at HR
        generalize ss[k] = s at *
        clear hb
        go_wp2_with (go_at_call 12; refine (unhide HR _).mono ?_; rintro e w' ⟨rfl, rfl⟩)
        go_round
        case rel => exact ⟨k + 1, by omega, by go_num, HA'⟩
        case measure => simp [intOf]; omega
      | false =>
        have HF := hide (allRight_bad ss k hkl hb)
        rw [hb] at HR
        generalize ss[k] = s at *
        clear hb
        go_wp2_with (go_at_call 12; refine (unhide HR _).mono ?_; rintro e w' ⟨rfl, rfl⟩)
        go_ret
        exact ⟨by rw [unhide HF]; rfl, rfl⟩
    · have HF : Hid (allRight ss = true) := allRight_good ss (fun i hi => unhide HA i hi (by have := unhide HN; omega))
      go_wp2
      go_ret
      exact ⟨by rw [unhide HF]; rfl, rfl⟩

theorem allRight_two (s t : ByteArray) : allRight [s, t] = (Cub.rightB s.data.toList && Cub.rightB t.data.toList) := by simp [allRight]

theorem right2_any (s t : ByteArray) (w : World) (hs : s.size ≤ maxLen) (ht : t.size ≤ maxLen) :
    Calls Tryd.prog 46 #[.slice (some ⟨w.heap.size, 0, none⟩) 2 2] (w.alloc (.cells #[.string s, .string t] 9)) fun e w' => e = .returned (.bool (Cub.rightB s.data.toList && Cub.rightB t.data.toList)) ∧ w' = w.alloc (.cells #[.string s, .string t] 9) := by
  have h := refRightL_any (some ⟨w.heap.size, 0, none⟩) 2 2 [s, t] (w.alloc (.cells #[.string s, .string t] 9)) rfl (by omega) (fun i hi => ⟨w.heap.size, 0, rfl, by
    rw [Nat.zero_add, World.cell?_alloc_at _ _ _ _ rfl]
    match i, hi with
    | 0, _ => rfl
    | 1, _ => rfl⟩) (fun i hi => by
    match i, hi with
    | 0, _ => exact hs
    | 1, _ => exact ht)
  rw [allRight_two] at h
  exact h

/-- ref small. -/
theorem small_any (n : Nat) (w : World) (hn : Lib.nDigits n ≤ 9000000000) :
    Calls Tryd.prog 47 #[.string ⟨(Lib.decDigits n).toArray⟩] w fun e w' => e = .returned (.tuple #[.string ⟨(toldText n).toArray⟩, .int .i64 (toldErr n)]) ∧ w' = w := by
  have hsz : (⟨(Lib.decDigits n).toArray⟩ : ByteArray).size = Lib.nDigits n := by
    rw [← list_len, ← Lib.decDigits_length]
  obtain ⟨q, hq⟩ : ∃ q, q = Lib.nDigits n := ⟨_, rfl⟩
  rw [← hq] at hsz hn
  by_cases h6 : q ≤ 600
  · have e1 : toldText n = Lib.decDigits n := if_pos ((len600 n).1 (hq ▸ h6))
    have e2 : toldErr n = 0 := if_pos ((len600 n).1 (hq ▸ h6))
    rw [e1, e2]
    clear e1 e2 hq
    generalize (⟨(Lib.decDigits n).toArray⟩ : ByteArray) = s at *
    subst hsz
    go_enter Tryd.func47, Tryd.ntmps47
    go_wp2
    go_ret2
    exact ⟨rfl, rfl⟩
  · have e1 : toldText n = [] := if_neg (fun hh => h6 (hq ▸ (len600 n).2 hh))
    have e2 : toldErr n = 7 := if_neg (fun hh => h6 (hq ▸ (len600 n).2 hh))
    rw [e1, e2]
    clear e1 e2 hq
    generalize (⟨(Lib.decDigits n).toArray⟩ : ByteArray) = s at *
    subst hsz
    go_enter Tryd.func47, Tryd.ntmps47
    go_wp2
    go_ret2
    exact ⟨rfl, rfl⟩
end Go.Proofs.YthcihkgellginaaDoor

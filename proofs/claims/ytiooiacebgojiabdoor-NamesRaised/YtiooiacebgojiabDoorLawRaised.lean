/- NamesRaised: true, whatever the input. -/
import Derived.Test.YtiooiacebgojiabDoorRaisedText
import Derived.Test.YtiooiacebgojiabDoorAwake
import Derived.Lib.AppendIntMem
namespace Go.Proofs.YtiooiacebgojiabDoor
open Go.RowKit

theorem tab_later {w w' : World} (h : Tab w) (hb : Below w.heap.size w w') : Tab w' := Lib.tabBelow_of_tabIs h w' hb
theorem raise_len (n : Int) (h0 : -99 ≤ n) (h1 : n ≤ 99) : (raiseT n).length ≤ 12 := by
  obtain ⟨k, rfl⟩ : ∃ k : Nat, n = (k : Int) - 99 := ⟨(n + 99).toNat, by omega⟩
  have hk : k < 199 := by omega
  clear h0 h1
  revert k
  decide +kernel
set_option maxRecDepth 100000 in
set_option maxHeartbeats 1000000 in
theorem raised_law (x : Int) (s : ByteArray) (w : World) (hs : s.size ≤ 1000000000000000000) (hT : Lib.Utf8Tabs 0 1 w) (ht : Tab w) :
    Calls Tryd.prog 4 #[.int .i64 x, .string s] w fun e w' => e = .returned (.bool true) ∧ Below w.heap.size w w' := by
  obtain ⟨n, hn⟩ : ∃ n, n = x.tmod 100 := ⟨_, rfl⟩
  have n1 : n < 100 := by rw [hn]; exact Int.tmod_lt_of_pos x (by decide)
  have n0 : -100 < n := by rw [hn]; exact Int.lt_tmod_of_pos x (by decide)
  have HR := hide (raise_any n (by omega) (by omega) w (fun W h => tab_later ht h))
  obtain ⟨T, hTT⟩ : ∃ T, T = raiseT n := ⟨_, rfl⟩
  rw [← hTT] at HR
  have hl : (⟨T.toArray⟩ : ByteArray).size = T.length := by simp [ByteArray.size]
  have hTl : T.length ≤ 12 := by rw [hTT]; exact raise_len n (by omega) (by omega)
  have P1 : Hid (∀ W, Calls Tryd.prog 13 #[.string ⟨T.toArray⟩, .int .i64 0] W fun e w' => e = .returned (.tuple #[.int .i64 n, .int .i64 (T.length : Nat), .int .i64 0]) ∧ Below W.heap.size W w') := fun W => by
    refine (power_any ⟨T.toArray⟩ W (by rw [hl]; omega)).mono ?_
    rintro e w' ⟨⟨a, z, b, rfl, hp⟩, hb⟩
    refine ⟨?_, hb⟩
    rw [pw_raised n (by omega) (by omega) _ [] (.inl rfl) (by simp [hTT]) a z b hp, hTT]
  have P2 : Hid (∀ W, Calls Tryd.prog 13 #[.string ((⟨T.toArray⟩ : ByteArray) ++ ⟨#[109]⟩ ++ s), .int .i64 0] W fun e w' => e = .returned (.tuple #[.int .i64 n, .int .i64 (T.length : Nat), .int .i64 0]) ∧ Below W.heap.size W w') := fun W => by
    have hsz : ((⟨T.toArray⟩ : ByteArray) ++ ⟨#[109]⟩ ++ s).size = T.length + 1 + s.size := by
      rw [ByteArray.size_append, ByteArray.size_append, hl]; rfl
    refine (power_any _ W (by rw [hsz]; omega)).mono ?_
    rintro e w' ⟨⟨a, z, b, rfl, hp⟩, hb⟩
    refine ⟨?_, hb⟩
    rw [pw_raised n (by omega) (by omega) _ (109 :: s.data.toList) (.inr ⟨_, rfl⟩) (by simp [hTT]) a z b hp, hTT]
  have HA := hide awake_any
  have HT := hide hT
  clear hT ht hTT
  go_enter Tryd.func4, Tryd.ntmps4
  go_upto_region 2 with fail
  rw [← hn]
  clear hn
  generalize hTb : (⟨T.toArray⟩ : ByteArray) = TB at *
  clear hTb
  go_upto_region 5 with (go_at_call 12; refine (unhide HR).mono ?_; rintro e w1 ⟨rfl, hb1⟩; have HB1 := hide hb1; have HT1 := hide (tabs_later (unhide HT) hb1); clear HR hb1)
  go_upto_region 8 with (go_at_call 13; refine (unhide P1 w1).mono ?_; rintro e w2 ⟨rfl, hb2⟩; have HB2 := hide ((unhide HB1).trans (hb2.mono (unhide HB1).size)); have HT2 := hide (tabs_later (unhide HT1) hb2); clear P1 hb2)
  go_wp2_with (first
    | (go_at_call 13; refine (unhide P2 w2).mono ?_; rintro e w3 ⟨rfl, hb3⟩; have HB3 := hide ((unhide HB2).trans (hb3.mono (unhide HB2).size)); have HT3 := hide (tabs_later (unhide HT2) hb3); clear P2 hb3)
    | (go_at_call 10; refine (unhide HA w3 (unhide HT3)).mono ?_; rintro e w4 ⟨rfl, hb4⟩))
  go_ret
  exact ⟨rfl, (unhide HB3).trans (hb4.mono (unhide HB3).size)⟩
end Go.Proofs.YtiooiacebgojiabDoor

/- utf8.DecodeRuneInString with what it leaves behind said to the block: for the sort's order. -/
import Derived.Shelf.Unicode.DecodeAny
import Derived.Shelf.SlSortCmp.NoneTotal
import Derived.Test.YtiooiacebgojiabDoorShelf2
import Derived.Deep.DeepFit
namespace Go.Proofs.YtiooiacebgojiabDoor
open Go.RowKit Go.Lib Go.Sort

/-- Some draws, some new blocks, and nothing else. -/
def Grw (w w' : World) : Prop := ∃ q os, w' = grow (w.drewN q) os
theorem Grw.refl (w : World) : Grw w w := ⟨0, #[], by simp [World.drewN]⟩
theorem drewN_drewN (w : World) (a b : Nat) : (w.drewN a).drewN b = w.drewN (a + b) := by
  simp [World.drewN, Nat.add_assoc]
theorem Grw.trans {a b c : World} (h : Grw a b) (k : Grw b c) : Grw a c := by
  obtain ⟨q, os, rfl⟩ := h
  obtain ⟨q', os', rfl⟩ := k
  refine ⟨q + q', os ++ os', ?_⟩
  rw [← grow_grow, ← drewN_drewN]
  rfl
theorem Grw.alloc {a b : World} (h : Grw a b) (o : Obj) : Grw a (b.alloc o) := h.trans ⟨0, #[o], by rw [alloc_eq_grow]; rfl⟩
theorem Grw.drewN {a b : World} (h : Grw a b) (n : Nat) : Grw a (b.drewN n) := h.trans ⟨n, #[], by rw [grow_empty]⟩
theorem Grw.below {a b : World} (h : Grw a b) : Below a.heap.size a b := by
  obtain ⟨q, os, rfl⟩ := h
  exact ⟨rfl, rfl, rfl, by rw [size_grow]; exact Nat.le_add_right _ _, fun k hk => heap_grow_old (a.drewN q) os hk⟩

set_option maxHeartbeats 8000000 in
set_option maxRecDepth 1000000 in
theorem decodeSlow_grw (s : ByteArray) (w : World) (hT : Lib.Utf8Tabs 0 1 w) :
    Calls Tryd.prog 47 #[.string s] w fun e w' => e = .returned (.tuple #[.int .i32 (Lib.decodeGo s).1, .int .i64 (Lib.decodeGo s).2]) ∧ Grw w w' := by
  by_cases h0 : s.size = 0
  · have hz : (s.size : Int) < 1 := by omega
    simp only [Lib.decodeGo, h0, if_true]
    clear hT
    go_enter Tryd.func47, Tryd.ntmps47
    go_wp2
    go_ret2
    exact ⟨rfl, Grw.refl _⟩
  · have hz0 : (0 : Int) < (s.size : Int) := by omega
    have hz0' : ¬ ((s.size : Int) < 1) := by omega
    obtain ⟨x0, hx0⟩ : ∃ x0, s.get! 0 = x0 := ⟨_, rfl⟩
    obtain ⟨x1, hx1⟩ : ∃ x1, s.get! 1 = x1 := ⟨_, rfl⟩
    obtain ⟨x2, hx2⟩ : ∃ x2, s.get! 2 = x2 := ⟨_, rfl⟩
    obtain ⟨x3, hx3⟩ : ∃ x3, s.get! 3 = x3 := ⟨_, rfl⟩
    have hs0 : s[0]'(by omega) = x0 := by rw [← hx0]; exact (Utf8W.get!_of_lt s 0 (by omega)).symm
    have l0 := x0.toNat_lt; have l1 := x1.toNat_lt; have l2 := x2.toNat_lt; have l3 := x3.toNat_lt
    have hdec : Lib.decodeGo s = decodeN s.size x0.toNat x1.toNat x2.toNat x3.toNat := by
      simp only [Lib.decodeGo, h0, if_false]
      rw [Lib.decode_at, Nat.sub_zero, Nat.zero_add, Nat.zero_add, Nat.zero_add, hx0, hx1, hx2, hx3]
    rw [hdec]
    clear hdec
    have hc0 := hT.1 x0.toNat (by omega)
    have hres : firstT x0.toNat < 240 → decodeN s.size x0.toNat x1.toNat x2.toNat x3.toNat = slowN s.size x0.toNat x1.toNat x2.toNat x3.toNat (firstT x0.toNat % 8) (accLo (firstT x0.toNat / 16)) (accHi (firstT x0.toNat / 16)) :=
      fun h => (Lib.slow_eq _ _ _ _ _ (by omega) (by omega) (by omega) (by omega) h).symm
    have hac : firstT x0.toNat / 16 < 16 := by rcases Lib.firstT_cases x0.toNat with h | h | h | h | h | h | h | h | h <;> rw [h] <;> decide
    have ha0 := (hT.2 _ hac).1
    have ha1 := (hT.2 _ hac).2
    clear hT hac
    rcases Lib.firstT_cases x0.toNat with hX | hX | hX | hX | hX | hX | hX | hX | hX
    · rw [Lib.ascii_eq _ _ _ _ _ hX]
      rw [hX] at hc0
      clear hres hX ha0 ha1
      go_enter Tryd.func47, Tryd.ntmps47
      go_wp2
      rw [Utf8W.mask240, Utf8W.keep_byte ⟨x0.toNat, l0⟩]
      go_ret2
      exact ⟨rfl, Grw.refl _⟩
    · rw [Lib.bad_eq _ _ _ _ _ (by omega) hX]
      rw [hX] at hc0
      clear hres hX ha0 ha1
      go_enter Tryd.func47, Tryd.ntmps47
      go_wp2
      rw [Utf8W.mask241, Utf8W.drop_byte ⟨x0.toNat, l0⟩]
      go_ret2
      exact ⟨rfl, Grw.refl _⟩
    all_goals (
      replace hres := hres (by omega)
      rw [hX] at hc0 hres ha0 ha1
      simp only [accLo, accHi, Nat.reduceMul, Nat.reduceAdd, Nat.reduceEqDiff, if_true, if_false, Nat.reduceMod, Nat.reduceDiv] at ha0 ha1 hres
      rw [hres]
      clear hres hX
      rcases (by omega : s.size = 1 ∨ s.size = 2 ∨ s.size = 3 ∨ 4 ≤ s.size) with hn | hn | hn | hn)
    all_goals first
      | (have hq : s.size = 1 := hn; have ha2 : (s.size : Int) < 2 := (by omega); have ha3 : (s.size : Int) < 3 := (by omega); have ha4 : (s.size : Int) < 4 := (by omega); clear hn hq; go_enter Tryd.func47, Tryd.ntmps47; go_wp2; all_goals (go_ret2; refine ⟨?_, (Grw.refl _).alloc _⟩; utf8_leaf))
      | (have hq : s.size = 2 := hn; have hp1 : (1 : Int) < (s.size : Int) := (by omega); have ha3 : (s.size : Int) < 3 := (by omega); have ha4 : (s.size : Int) < 4 := (by omega); have hn2 : ¬ (s.size : Int) < 2 := (by omega); have b1 : 1 < s.size := (by omega); have hs1 : s[1]'b1 = x1 := (by rw [← hx1]; exact (Utf8W.get!_of_lt s 1 b1).symm); clear hn hq; go_enter Tryd.func47, Tryd.ntmps47; go_wp2; all_goals (go_ret2; refine ⟨?_, (Grw.refl _).alloc _⟩; utf8_leaf))
      | (have hq : s.size = 3 := hn; have hp1 : (1 : Int) < (s.size : Int) := (by omega); have hp2 : (2 : Int) < (s.size : Int) := (by omega); have ha4 : (s.size : Int) < 4 := (by omega); have hn2 : ¬ (s.size : Int) < 2 := (by omega); have hn3 : ¬ (s.size : Int) < 3 := (by omega); have b1 : 1 < s.size := (by omega); have hs1 : s[1]'b1 = x1 := (by rw [← hx1]; exact (Utf8W.get!_of_lt s 1 b1).symm); have b2 : 2 < s.size := (by omega); have hs2 : s[2]'b2 = x2 := (by rw [← hx2]; exact (Utf8W.get!_of_lt s 2 b2).symm); clear hn hq; go_enter Tryd.func47, Tryd.ntmps47; go_wp2; all_goals (go_ret2; refine ⟨?_, (Grw.refl _).alloc _⟩; utf8_leaf))
      | (have hq : 4 ≤ s.size := hn; have hp1 : (1 : Int) < (s.size : Int) := (by omega); have hp2 : (2 : Int) < (s.size : Int) := (by omega); have hp3 : (3 : Int) < (s.size : Int) := (by omega); have hn2 : ¬ (s.size : Int) < 2 := (by omega); have hn3 : ¬ (s.size : Int) < 3 := (by omega); have hn4 : ¬ (s.size : Int) < 4 := (by omega); have b1 : 1 < s.size := (by omega); have hs1 : s[1]'b1 = x1 := (by rw [← hx1]; exact (Utf8W.get!_of_lt s 1 b1).symm); have b2 : 2 < s.size := (by omega); have hs2 : s[2]'b2 = x2 := (by rw [← hx2]; exact (Utf8W.get!_of_lt s 2 b2).symm); have b3 : 3 < s.size := (by omega); have hs3 : s[3]'b3 = x3 := (by rw [← hx3]; exact (Utf8W.get!_of_lt s 3 b3).symm); clear hn; go_enter Tryd.func47, Tryd.ntmps47; go_wp2; all_goals (go_ret2; refine ⟨?_, (Grw.refl _).alloc _⟩; utf8_leaf))
end Go.Proofs.YtiooiacebgojiabDoor

/- The document's like: are two runes the same? -/
import Derived.Test.YtiooiacebgojiaaDoorRefPower2
import Derived.BigQuiet
namespace Go.Proofs.YtiooiacebgojiaaDoor
open Go.RowKit

theorem code_sound (s : ByteArray) (p : Nat) (h : brokenAt s p = false) : codeAt s p = ((Utf8.decode s p).1 : Nat) := by unfold codeAt; rw [h]; rfl
theorem code_broken (s : ByteArray) (p : Nat) (h : brokenAt s p = true) : codeAt s p = 1114112 + ((s.get! p).toNat : Int) := by unfold codeAt; rw [h]; rfl
theorem get_bang (s : ByteArray) (p : Nat) (h : p < s.size) : s.get! p = s[p] := by
  simp [ByteArray.get!, ByteArray.getElem_eq_getElem_data, h]
set_option maxRecDepth 100000 in
set_option maxHeartbeats 1000000 in
theorem like_core (a b : ByteArray) (p q : Nat) (hp : p < a.size) (hq : q < b.size) (r f n r' f' n' : Int) (x y : Bool) (w : World) :
    Calls Tryd.prog 51 #[.string a, .agg #[.int .i32 r, .int .i32 f, .bool x, .int .i64 (p : Int), .int .i64 n], .string b, .agg #[.int .i32 r', .int .i32 f', .bool y, .int .i64 (q : Int), .int .i64 n']] w fun e w' =>
      e = .returned (.bool (if x = false ∧ y = false then r == r' else if x = true ∧ y = true then ((a[p].toNat : Int) == (b[q].toNat : Int)) else false)) ∧ Below w.heap.size w w' := by
  cases x
  · cases y
    · go_enter Tryd.func51, Tryd.ntmps51
      go_wp2
      go_ret
      exact ⟨rfl, ((Below.refl _ _).alloc (Nat.le_refl _) _).alloc (by simp) _⟩
    · go_enter Tryd.func51, Tryd.ntmps51
      go_upto_region 2 with fail
      go_quiet (fail)
      go_wp2
      go_ret
      exact ⟨rfl, below_drewN (((Below.refl _ _).alloc (Nat.le_refl _) _).alloc (by simp) _) _⟩
  · cases y
    · go_enter Tryd.func51, Tryd.ntmps51
      go_upto_region 2 with fail
      go_quiet (fail)
      go_wp2
      go_ret
      exact ⟨rfl, below_drewN (((Below.refl _ _).alloc (Nat.le_refl _) _).alloc (by simp) _) _⟩
    · go_enter Tryd.func51, Tryd.ntmps51
      go_upto_region 2 with fail
      go_quiet (fail)
      go_wp2
      go_ret
      exact ⟨rfl, below_drewN (((Below.refl _ _).alloc (Nat.le_refl _) _).alloc (by simp) _) _⟩
theorem like_any (a b : ByteArray) (p q : Nat) (hp : p < a.size) (hq : q < b.size) (w : World) :
    Calls Tryd.prog 51 #[.string a, .agg (cells5 a p).toArray, .string b, .agg (cells5 b q).toArray] w fun e w' => e = .returned (.bool (codeAt a p == codeAt b q)) ∧ Below w.heap.size w w' := by
  refine (like_core a b p q hp hq _ _ _ _ _ _ (brokenAt a p) (brokenAt b q) w).mono ?_
  rintro e w' ⟨rfl, h⟩
  refine ⟨?_, h⟩
  have l1 := decode_rune_le a p
  have l2 := decode_rune_le b q
  cases hx : brokenAt a p
  · cases hy : brokenAt b q
    · rw [code_sound a p hx, code_sound b q hy]; rfl
    · rw [code_sound a p hx, code_broken b q hy]
      have : ((((Utf8.decode a p).1 : Nat) : Int) == 1114112 + ((b.get! q).toNat : Int)) = false := by rw [beq_eq_false_iff_ne]; omega
      rw [this]; rfl
  · cases hy : brokenAt b q
    · rw [code_broken a p hx, code_sound b q hy]
      have : (1114112 + ((a.get! p).toNat : Int) == (((Utf8.decode b q).1 : Nat) : Int)) = false := by rw [beq_eq_false_iff_ne]; omega
      rw [this]; rfl
    · rw [code_broken a p hx, code_broken b q hy, get_bang a p hp, get_bang b q hq]
      have : (1114112 + (a[p].toNat : Int) == 1114112 + (b[q].toNat : Int)) = ((a[p].toNat : Int) == (b[q].toNat : Int)) := by
        rw [Bool.eq_iff_iff, beq_iff_eq, beq_iff_eq]; omega
      rw [this]; rfl
end Go.Proofs.YtiooiacebgojiaaDoor

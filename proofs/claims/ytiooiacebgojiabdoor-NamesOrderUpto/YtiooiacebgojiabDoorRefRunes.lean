/- The document's Runes: the runes of a text, each with its place. -/
import Derived.Test.YtiooiacebgojiabDoorText
import Derived.Test.YtiooiacebgojiabDoorClass
import Derived.Test.YtiooiacebgojiabDoorShelf2
import Derived.OwnWalk
import Derived.WalkSmall
import Derived.Deep.Cut
import Derived.Deep.CutRange
namespace Go.Proofs.YtiooiacebgojiabDoor
open Go.RowKit

theorem info67 : (Tryd.prog.info? 67).map (fun i => (i.zero, i.size, i.bytes)) = some (some (.agg #[.int .i32 0, .int .i32 0, .bool false, .int .i64 0, .int .i64 0]), 5, 32) := by kernel_rfl
theorem und44 : Tryd.prog.underlying 44 = some (.slice 67) := by kernel_rfl
/-- One rune, as the document's answer has it. -/
def cells5 (s : ByteArray) (p : Nat) : List Value := [.int .i32 ((Utf8.decode s p).1 : Nat), .int .i32 (foldR ((Utf8.decode s p).1 : Nat)), .bool (brokenAt s p), .int .i64 (p : Nat), .int .i64 ((Utf8.decode s p).2 : Nat)]
def runeRow (s : ByteArray) (l : List Nat) : List Value := l.flatMap (cells5 s)
theorem runeRow_snoc (s : ByteArray) (l : List Nat) (p : Nat) : runeRow s (l ++ [p]) = runeRow s l ++ cells5 s p := by simp [runeRow]
theorem own_below {w w' : World} {B : Nat} {e : TypeId} {k : Nat} {v : Value} {n : Nat} {xs : List Value} (h : w.ownsRow B e k v n xs) (hb : Below w.heap.size w w') : w'.ownsRow B e k v n xs := by
  obtain ⟨h1, h2⟩ := h
  refine ⟨h1, ?_⟩
  rcases h2 with h2 | ⟨g, cap, cur, a, b, c, d⟩
  · exact .inl h2
  · exact .inr ⟨g, cap, cur, a, b, (hb.block g (Array.getElem?_eq_some_iff.1 c).1).trans c, d⟩
theorem cell_five_new (w : World) (a b c d e : Value) (t : TypeId) : ∀ j u, [a, b, c, d, e][j]? = some u → (w.alloc (.cells #[a, b, c, d, e] t)).cell? ((⟨w.heap.size, 0, none⟩ : Addr).add j) = some u := by
  intro j u hj
  match j, hj with
  | 0, hj => simp at hj; subst hj; simp [Addr.add]
  | 1, hj => simp at hj; subst hj; simp [Addr.add]
  | 2, hj => simp at hj; subst hj; simp [Addr.add]
  | 3, hj => simp at hj; subst hj; simp [Addr.add]
  | 4, hj => simp at hj; subst hj; simp [Addr.add]
  | j + 5, hj => simp at hj

set_option maxRecDepth 100000 in
set_option maxHeartbeats 1000000 in
theorem refRunes_any (s : ByteArray) (w : World) (hs : s.size ≤ 1000000000000) (hT : Lib.Utf8Tabs 0 1 w) :
    Calls Tryd.prog 18 #[.string s] w fun e w' => ∃ v, e = .returned v ∧ w'.ownsRow w.heap.size 67 5 v (places s 0).length (runeRow s (places s 0)) ∧ Below w.heap.size w w' := by
  obtain ⟨i0, hi, hz0, hz1, hz2⟩ := info_parts info67
  have HT := hide hT
  clear hT
  go_enter Tryd.func18, Tryd.ntmps18
  go_upto_region 3 with fail
  go_loopw [3, 4] (fun v t wr => ∃ (p : Nat) (L : List Nat), t = .int .i64 (p : Int) ∧ p ≤ s.size ∧ L.length ≤ p ∧ Hid (wr.ownsRow w.heap.size 67 5 v L.length (runeRow s L)) ∧ Hid (L ++ places s p = places s 0) ∧ Hid (Below w.heap.size w wr)) (fun _ t _ => s.size - (intOf t).toNat)
  case atStart =>
    exact ⟨0, [], rfl, by omega, by simp, World.ownsRow_nil _ _ _ _, rfl, Below.refl _ _⟩
  case round =>
    obtain ⟨p, L, rfl, hp4, hLp, HO, HL, HB⟩ := hrel
    have hB0 : w.heap.size ≤ wr.heap.size := (unhide HB).size
    by_cases hlt : p < s.size
    · obtain ⟨r, n, hrn⟩ : ∃ (r n : Nat), Utf8.decode s p = (r, n) := ⟨_, _, rfl⟩
      have hw := Lib.decode_width_pos s p hlt
      rw [hrn] at hw
      have hr1 : (r : Int) ≤ 2147483647 := by have := decode_le s p; rw [hrn] at this; omega
      have hn4 : p + n ≤ s.size := by have h := width_le s p hlt; rw [hrn] at h; exact h
      have HT2 : Hid (Lib.Utf8Tabs 0 1 wr) := tabs_later (unhide HT) (unhide HB)
      have HD : Hid (Calls Tryd.prog 35 #[.string (s.extract p s.size)] wr fun e w' => e = .returned (.tuple #[.int .i32 r, .int .i64 n]) ∧ Below wr.heap.size wr w') := by
        have h := Tryd.utf8_DecodeRuneInString (s.extract p s.size) wr (unhide HT2)
        rw [decode_tail s p hlt, hrn] at h
        exact h
      have HF := hide (rfold_any r)
      have HST : Hid ((L ++ [p]) ++ places s (p + n) = places s 0) := by
        have h := unhide HL
        rw [places_step s p hlt, hrn] at h
        show _ = _
        rw [List.append_assoc]
        exact h
      have HC : Hid (cells5 s p = [.int .i32 (r : Int), .int .i32 (foldR r), .bool (brokenAt s p), .int .i64 (p : Int), .int .i64 (n : Int)]) := by
        show _ = _
        unfold cells5
        rw [hrn]
      have HBR : Hid (brokenAt s p = (decide (r = 65533) && decide (n = 1))) := by
        show _ = _
        unfold brokenAt
        rw [hrn]
        rfl
      clear HL
      go_upto_region 5 with (go_at_call 35; refine (unhide HD).mono ?_; rintro e w3 ⟨rfl, hb3⟩)
      have HB3 : Hid (Below w.heap.size w w3) := (unhide HB).trans (hb3.mono (unhide HB).size)
      have HO3 : Hid (w3.ownsRow w.heap.size 67 5 u3 L.length (runeRow s L)) := own_below (unhide HO) hb3
      have hsz3 : w.heap.size ≤ w3.heap.size := (unhide HB3).size
      clear HB HO hb3 HD HT2
      obtain ⟨BR, hBR⟩ : ∃ BR, BR = brokenAt s p := ⟨_, rfl⟩
      rw [← hBR] at HC HBR
      clear hBR
      by_cases hr : r = 65533
      · subst hr
        by_cases hn : n = 1
        · subst hn
          obtain rfl : BR = true := by have h := unhide HBR; simpa using h
          go_wp2_with (first
            | (go_at_call 36; refine (unhide HF w3).mono ?_; rintro e w4 ⟨rfl, h4⟩; rw [h4]; clear h4)
            | (at_builtin; refine wpList_append_own _ rfl _ _ 44 rfl w.heap.size 67 i0 (.agg #[.int .i32 0, .int .i32 0, .bool false, .int .i64 0, .int .i64 0]) 5 32 und44 hi hz0 hz1 hz2 rfl (by decide) _ _ _ rfl ((unhide HO3).alloc _) ⟨w3.heap.size, 0, none⟩ 1 1 [.int .i32 ((65533 : Nat) : Int), .int .i32 (foldR ((65533 : Nat) : Int)), .bool true, .int .i64 (p : Int), .int .i64 ((1 : Nat) : Int)] rfl rfl (cell_five_new _ _ _ _ _ _ _) (fun x hx => by simp at hx; rcases hx with rfl | rfl | rfl | rfl | rfl <;> rfl) (by unfold maxLen; omega) (by omega) (by simp; omega) ?_; intro v' w5 hown' hgrow _))
          have HB4 : Hid (Below w.heap.size w w5) := ((unhide HB3).alloc (by omega) _).grown hgrow (by simp; omega) (fun j hj => ((unhide HO3).lt j hj).1)
          have HO4 : Hid (w5.ownsRow w.heap.size 67 5 v' (L ++ [p]).length (runeRow s (L ++ [p]))) := by
            show World.ownsRow w5 _ _ _ _ _ _
            rw [runeRow_snoc, unhide HC, List.length_append]
            exact hown'
          clear hgrow hown' HO3 HB3
          go_wp2
          go_roundw
          case rel => exact ⟨p + 1, L ++ [p], by go_num, by omega, by simp; omega, HO4, HST, HB4⟩
          case measure => simp [intOf]; omega
        · have hn1 : ((n : Int) == 1) = false := by rw [beq_eq_false_iff_ne]; omega
          obtain rfl : BR = false := by have h := unhide HBR; simpa [hn] using h
          go_wp2_with (first
            | (go_at_call 36; refine (unhide HF w3).mono ?_; rintro e w4 ⟨rfl, h4⟩; rw [h4]; clear h4)
            | (at_builtin; refine wpList_append_own _ rfl _ _ 44 rfl w.heap.size 67 i0 (.agg #[.int .i32 0, .int .i32 0, .bool false, .int .i64 0, .int .i64 0]) 5 32 und44 hi hz0 hz1 hz2 rfl (by decide) _ _ _ rfl ((unhide HO3).alloc _) ⟨w3.heap.size, 0, none⟩ 1 1 [.int .i32 ((65533 : Nat) : Int), .int .i32 (foldR ((65533 : Nat) : Int)), .bool false, .int .i64 (p : Int), .int .i64 (n : Int)] rfl rfl (cell_five_new _ _ _ _ _ _ _) (fun x hx => by simp at hx; rcases hx with rfl | rfl | rfl | rfl | rfl <;> rfl) (by unfold maxLen; omega) (by omega) (by simp; omega) ?_; intro v' w5 hown' hgrow _))
          have HB4 : Hid (Below w.heap.size w w5) := ((unhide HB3).alloc (by omega) _).grown hgrow (by simp; omega) (fun j hj => ((unhide HO3).lt j hj).1)
          have HO4 : Hid (w5.ownsRow w.heap.size 67 5 v' (L ++ [p]).length (runeRow s (L ++ [p]))) := by
            show World.ownsRow w5 _ _ _ _ _ _
            rw [runeRow_snoc, unhide HC, List.length_append]
            exact hown'
          clear hgrow hown' HO3 HB3
          go_wp2
          go_roundw
          case rel => exact ⟨p + n, L ++ [p], by go_num, by omega, by simp; omega, HO4, HST, HB4⟩
          case measure => simp [intOf]; omega
      · have hr0 : ((r : Int) == 65533) = false := by rw [beq_eq_false_iff_ne]; omega
        obtain rfl : BR = false := by have h := unhide HBR; simpa [hr] using h
        go_wp2_with (first
          | (go_at_call 36; refine (unhide HF w3).mono ?_; rintro e w4 ⟨rfl, h4⟩; rw [h4]; clear h4)
          | (at_builtin; refine wpList_append_own _ rfl _ _ 44 rfl w.heap.size 67 i0 (.agg #[.int .i32 0, .int .i32 0, .bool false, .int .i64 0, .int .i64 0]) 5 32 und44 hi hz0 hz1 hz2 rfl (by decide) _ _ _ rfl ((unhide HO3).alloc _) ⟨w3.heap.size, 0, none⟩ 1 1 [.int .i32 (r : Int), .int .i32 (foldR (r : Int)), .bool false, .int .i64 (p : Int), .int .i64 (n : Int)] rfl rfl (cell_five_new _ _ _ _ _ _ _) (fun x hx => by simp at hx; rcases hx with rfl | rfl | rfl | rfl | rfl <;> rfl) (by unfold maxLen; omega) (by omega) (by simp; omega) ?_; intro v' w5 hown' hgrow _))
        have HB4 : Hid (Below w.heap.size w w5) := ((unhide HB3).alloc (by omega) _).grown hgrow (by simp; omega) (fun j hj => ((unhide HO3).lt j hj).1)
        have HO4 : Hid (w5.ownsRow w.heap.size 67 5 v' (L ++ [p]).length (runeRow s (L ++ [p]))) := by
          show World.ownsRow w5 _ _ _ _ _ _
          rw [runeRow_snoc, unhide HC, List.length_append]
          exact hown'
        clear hgrow hown' HO3 HB3
        go_wp2
        go_roundw
        case rel => exact ⟨p + n, L ++ [p], by go_num, by omega, by simp; omega, HO4, HST, HB4⟩
        case measure => simp [intOf]; omega
    · have HST : Hid (L = places s 0) := by
        have h := unhide HL
        rw [places_end s p hlt, List.append_nil] at h
        exact h
      clear HL
      go_wp2
      go_ret
      refine ⟨_, rfl, ?_, unhide HB⟩
      rw [← unhide HST]
      exact unhide HO
end Go.Proofs.YtiooiacebgojiabDoor

/- names.runes: the codes of a text's runes. -/
import Derived.Test.YtiooiacebgojiabDoorPlaces
import Derived.Test.YtiooiacebgojiabDoorShelf2
import Derived.Test.YtiooiacebgojiabDoorChangesPre
import Derived.OwnWalk
import Derived.WalkSmall
import Derived.Deep.Cut
import Derived.Deep.CutRange
namespace Go.Proofs.YtiooiacebgojiabDoor
open Go.RowKit

theorem info21 : (Tryd.prog.info? 21).map (fun i => (i.zero, i.size, i.bytes)) = some (some (.int .i32 0), 1, 4) := by kernel_rfl
theorem und73 : Tryd.prog.underlying 30 = some (.slice 21) := by kernel_rfl
theorem w32_in (n : Int) (h0 : -2147483648 ≤ n) (h1 : n ≤ 2147483647) : wrap32 n = n := by unfold wrap32; omega
def i32s (l : List Int) : List Value := l.map fun x => Value.int .i32 x
theorem own_below {w w' : World} {B : Nat} {e : TypeId} {k : Nat} {v : Value} {n : Nat} {xs : List Value} (h : w.ownsRow B e k v n xs) (hb : Below w.heap.size w w') : w'.ownsRow B e k v n xs := by
  obtain ⟨h1, h2⟩ := h
  refine ⟨h1, ?_⟩
  rcases h2 with h2 | ⟨g, cap, cur, a, b, c, d⟩
  · exact .inl h2
  · exact .inr ⟨g, cap, cur, a, b, (hb.block g (Array.getElem?_eq_some_iff.1 c).1).trans c, d⟩
theorem runes_of_own {w : World} {B : Nat} {v : Value} {L : List Int} (h : w.ownsRow B 21 1 v L.length (i32s L)) (hn : L.length ≤ 40) : Runes w v L.length (fun i => L.getD i 0) := by
  obtain ⟨h1, h2⟩ := h
  rcases h2 with ⟨rfl, h0⟩ | ⟨g, cap, cur, rfl, hg, hh, hcap, hmx, hsz, htk⟩
  · exact ⟨none, 0, by rw [h0], hn, fun hp => by omega⟩
  · refine ⟨some ⟨g, 0, none⟩, cap, rfl, hn, fun _ => ⟨g, 0, rfl, (Array.getElem?_eq_some_iff.1 hh).1, fun i hi => ?_⟩⟩
    have e1 : (cur.toList.take (L.length * 1))[i]? = some (.int .i32 (L.getD i 0)) := by
      rw [htk]
      simp [i32s, hi]
    rw [List.getElem?_take_of_lt (by omega)] at e1
    simp [World.cell?, hh]
    simpa using e1

set_option maxRecDepth 100000 in
set_option maxHeartbeats 1000000 in
theorem runes_any (s : ByteArray) (w : World) (hs : s.size ≤ 40) (hT : Lib.Utf8Tabs 0 1 w) :
    Calls Tryd.prog 34 #[.string s] w fun e w' => ∃ v, e = .returned v ∧ Runes w' v (codes s).length (fun i => (codes s).getD i 0) ∧ Below w.heap.size w w' := by
  obtain ⟨i0, hi, hz0, hz1, hz2⟩ := info_parts info21
  have HT := hide hT
  clear hT
  go_enter Tryd.func34, Tryd.ntmps34
  go_upto_region 3 with fail
  go_loopw [3] (fun v wr => ∃ (p : Nat) (L : List Int), L.length ≤ p ∧ Hid (wr.ownsRow (w.heap.size + 1) 21 1 v L.length (i32s L)) ∧ Hid (wr.heap[w.heap.size]? = some (.stringIter s p)) ∧ Hid (L ++ (places s p).map (codeAt s) = codes s) ∧ Hid (Below w.heap.size w wr)) (fun _ wr => s.size - wr.iterPos w.heap.size)
  case atStart =>
    exact ⟨0, [], by simp, World.ownsRow_nil _ _ _ _, World.iter_heap _ _ _, rfl, (Below.refl _ _).alloc (Nat.le_refl _) _⟩
  case round =>
    obtain ⟨p, L, hLp, HO, HI, HL, HB⟩ := hrel
    have hB0 : w.heap.size ≤ wr.heap.size := (unhide HB).size
    have HM : Hid (wr.iterPos w.heap.size = p) := iterPos_of (unhide HI)
    by_cases hlt : p < s.size
    · obtain ⟨r, n, hrn⟩ : ∃ (r n : Nat), Utf8.decode s p = (r, n) := ⟨_, _, rfl⟩
      have hw := Lib.decode_width_pos s p hlt
      rw [hrn] at hw
      have hr1 : (r : Int) ≤ 2147483647 := by have := decode_le s p; rw [hrn] at this; omega
      obtain ⟨W2, hW2⟩ : ∃ W2, W2 = wr.iterAt w.heap.size s (p + n) := ⟨_, rfl⟩
      have hnx : ∀ ty, (Instr.next (.pointer (some ⟨w.heap.size, 0, none⟩)) true ty).run Tryd.prog wr = .ok (.tuple #[.bool true, .int .i64 p, .int .i32 (r : Int)]) W2 := fun ty => by
        have h := Lib.run_next_any_at (P := Tryd.prog) wr _ s p ty (unhide HI) hlt
        rw [hrn] at h
        rw [hW2]
        exact h
      have HI2 : Hid (W2.heap[w.heap.size]? = some (.stringIter s (p + n))) := by show W2.heap[_]? = _; rw [hW2]; exact Lib.iterAt_heap _ _ _ _ _ (unhide HI)
      have HO2 : Hid (W2.ownsRow (w.heap.size + 1) 21 1 u3 L.length (i32s L)) := by show World.ownsRow W2 _ _ _ _ _ _; rw [hW2]; exact ownsRow_iterAt (unhide HO) (by omega) _ _
      have HB2 : Hid (Below w.heap.size w W2) := by show Below _ _ W2; rw [hW2]; exact Lib.below_iterAt (unhide HB) (by omega) _ _
      have HT2 : Hid (Lib.Utf8Tabs 0 1 W2) := tabs_later (unhide HT) (unhide HB2)
      have HD : Hid (Calls Tryd.prog 35 #[.string (s.extract p s.size)] W2 fun e w' => e = .returned (.tuple #[.int .i32 r, .int .i64 n]) ∧ Below W2.heap.size W2 w') := by
        have h := Tryd.utf8_DecodeRuneInString (s.extract p s.size) W2 (unhide HT2)
        rw [decode_tail s p hlt, hrn] at h
        exact h
      have HST : Hid (L ++ codeAt s p :: (places s (p + n)).map (codeAt s) = codes s) := by
        have h := unhide HL
        rw [places_step s p hlt, hrn] at h
        exact h
      clear HL HI HO HB hW2
      go_upto_region 6 with (go_at_call 35; refine (unhide HD).mono ?_; rintro e w3 ⟨rfl, hb3⟩)
      have HB3 : Hid (Below w.heap.size w w3) := (unhide HB2).trans (hb3.mono (unhide HB2).size)
      have HI3 : Hid (w3.heap[w.heap.size]? = some (.stringIter s (p + n))) := (hb3.block _ (Array.getElem?_eq_some_iff.1 (unhide HI2)).1).trans (unhide HI2)
      have HO3 : Hid (w3.ownsRow (w.heap.size + 1) 21 1 u3 L.length (i32s L)) := own_below (unhide HO2) hb3
      have hsz3 : w.heap.size + 1 ≤ w3.heap.size := (Array.getElem?_eq_some_iff.1 (unhide HI3)).1
      clear HB2 HI2 HO2 hb3 HD HT2
      obtain ⟨C, hC⟩ : ∃ C, C = codeAt s p := ⟨_, rfl⟩
      rw [← hC] at HST
      have hCb : 0 ≤ C ∧ C ≤ 2147483647 := by
        rw [hC]; unfold codeAt
        split
        · have := (s.get! p).toNat_lt; omega
        · rw [hrn]; omega
      have HC : Hid (C = if r = 65533 ∧ n = 1 then 1114112 + ((s.get! p).toNat : Int) else (r : Int)) := by
        show _ = _
        rw [hC]; unfold codeAt brokenAt
        rw [hrn]
        simp
      clear hC
      by_cases hr : r = 65533
      · subst hr
        by_cases hn : n = 1
        · subst hn
          have hx : ∀ h : p < s.size, wrap32 (1114112 + wrap32 (((s[p]'h).toNat : Nat) : Int)) = C := fun h => by
            have e : (s.get! p).toNat = (s[p]'h).toNat := by simp [ByteArray.get!, ByteArray.getElem_eq_getElem_data, getElem!_pos, h]
            rw [unhide HC, if_pos ⟨rfl, rfl⟩, e]
            have hb : (((s[p]'h).toNat : Nat) : Int) < 256 := by have := (s[p]'h).toNat_lt; omega
            have hb0 : 0 ≤ (((s[p]'h).toNat : Nat) : Int) := Int.natCast_nonneg _
            generalize (((s[p]'h).toNat : Nat) : Int) = z at hb hb0 ⊢
            rw [w32_in z (by omega) (by omega), w32_in _ (by omega) (by omega)]
          have hx' := hx hlt
          go_upto_region 8 with fail
          go_wp2_with (at_builtin; refine wpList_append_own _ rfl _ _ 30 rfl (w.heap.size + 1) 21 i0 (.int .i32 0) 1 4 und73 hi hz0 hz1 hz2 rfl (by decide) _ _ _ rfl ((unhide HO3).alloc _) ⟨w3.heap.size, 0, none⟩ 1 1 [.int .i32 C] rfl rfl (cell_one_new _ _ _) (fun x hx => by simp at hx; subst hx; rfl) (by unfold maxLen; omega) (by omega) (by simp; omega) ?_; intro v' w4 hown' hgrow _)
          have HB4 : Hid (Below w.heap.size w w4) := ((unhide HB3).alloc (by omega) _).grown hgrow (by simp; omega) (fun j hj => by have := ((unhide HO3).lt j hj).1; omega)
          have HI4 : Hid (w4.heap[w.heap.size]? = some (.stringIter s (p + 1))) := by
            show w4.heap[_]? = _
            rw [hgrow.block _ (by simp; omega) (fun e => by have := ((unhide HO3).lt _ e.symm).1; omega), Lib.alloc_old w3 _ _ (by omega)]
            exact unhide HI3
          have HO4 : Hid (w4.ownsRow (w.heap.size + 1) 21 1 v' (L ++ [C]).length (i32s (L ++ [C]))) := by show World.ownsRow w4 _ _ _ _ _ _; simpa [i32s] using hown'
          clear hgrow hown' HO3 HI3 HB3
          go_wp2
          go_roundw
          case rel => exact ⟨p + 1, L ++ [C], by simp; omega, HO4, HI4, by show _ = _; rw [← unhide HST, List.append_assoc]; rfl, HB4⟩
          case measure => rw [unhide HM, iterPos_of (unhide HI4)]; omega
        · have hn1 : ((n : Int) == 1) = false := by rw [beq_eq_false_iff_ne]; omega
          obtain rfl : C = 65533 := by have h := unhide HC; rw [if_neg (by omega)] at h; exact h
          go_upto_region 8 with fail
          go_wp2_with (at_builtin; refine wpList_append_own _ rfl _ _ 30 rfl (w.heap.size + 1) 21 i0 (.int .i32 0) 1 4 und73 hi hz0 hz1 hz2 rfl (by decide) _ _ _ rfl ((unhide HO3).alloc _) ⟨w3.heap.size, 0, none⟩ 1 1 [.int .i32 65533] rfl rfl (cell_one_new _ _ _) (fun x hx => by simp at hx; subst hx; rfl) (by unfold maxLen; omega) (by omega) (by simp; omega) ?_; intro v' w4 hown' hgrow _)
          have HB4 : Hid (Below w.heap.size w w4) := ((unhide HB3).alloc (by omega) _).grown hgrow (by simp; omega) (fun j hj => by have := ((unhide HO3).lt j hj).1; omega)
          have HI4 : Hid (w4.heap[w.heap.size]? = some (.stringIter s (p + n))) := by
            show w4.heap[_]? = _
            rw [hgrow.block _ (by simp; omega) (fun e => by have := ((unhide HO3).lt _ e.symm).1; omega), Lib.alloc_old w3 _ _ (by omega)]
            exact unhide HI3
          have HO4 : Hid (w4.ownsRow (w.heap.size + 1) 21 1 v' (L ++ [65533]).length (i32s (L ++ [65533]))) := by show World.ownsRow w4 _ _ _ _ _ _; simpa [i32s] using hown'
          clear hgrow hown' HO3 HI3 HB3
          go_wp2
          go_roundw
          case rel => exact ⟨p + n, L ++ [65533], by simp; omega, HO4, HI4, by show _ = _; rw [← unhide HST, List.append_assoc]; rfl, HB4⟩
          case measure => rw [unhide HM, iterPos_of (unhide HI4)]; omega
      · have hr0 : ((r : Int) == 65533) = false := by rw [beq_eq_false_iff_ne]; omega
        obtain rfl : C = r := by have h := unhide HC; rw [if_neg (by omega)] at h; exact h
        go_upto_region 8 with fail
        go_wp2_with (at_builtin; refine wpList_append_own _ rfl _ _ 30 rfl (w.heap.size + 1) 21 i0 (.int .i32 0) 1 4 und73 hi hz0 hz1 hz2 rfl (by decide) _ _ _ rfl ((unhide HO3).alloc _) ⟨w3.heap.size, 0, none⟩ 1 1 [.int .i32 (r : Int)] rfl rfl (cell_one_new _ _ _) (fun x hx => by simp at hx; subst hx; rfl) (by unfold maxLen; omega) (by omega) (by simp; omega) ?_; intro v' w4 hown' hgrow _)
        have HB4 : Hid (Below w.heap.size w w4) := ((unhide HB3).alloc (by omega) _).grown hgrow (by simp; omega) (fun j hj => by have := ((unhide HO3).lt j hj).1; omega)
        have HI4 : Hid (w4.heap[w.heap.size]? = some (.stringIter s (p + n))) := by
          show w4.heap[_]? = _
          rw [hgrow.block _ (by simp; omega) (fun e => by have := ((unhide HO3).lt _ e.symm).1; omega), Lib.alloc_old w3 _ _ (by omega)]
          exact unhide HI3
        have HO4 : Hid (w4.ownsRow (w.heap.size + 1) 21 1 v' (L ++ [(r : Int)]).length (i32s (L ++ [(r : Int)]))) := by show World.ownsRow w4 _ _ _ _ _ _; simpa [i32s] using hown'
        clear hgrow hown' HO3 HI3 HB3
        go_wp2
        go_roundw
        case rel => exact ⟨p + n, L ++ [(r : Int)], by simp; omega, HO4, HI4, by show _ = _; rw [← unhide HST, List.append_assoc]; rfl, HB4⟩
        case measure => rw [unhide HM, iterPos_of (unhide HI4)]; omega
    · have hnx : ∀ ty, (Instr.next (.pointer (some ⟨w.heap.size, 0, none⟩)) true ty).run Tryd.prog wr = .ok (.tuple #[.bool false]) wr := fun ty => Lib.run_next_end_at wr _ s _ ty (unhide HI) hlt
      have HST : Hid (L = codes s) := by
        have h := unhide HL
        rw [places_end s p hlt, List.map_nil, List.append_nil] at h
        exact h
      clear HI HL HM
      go_wp2
      go_ret
      refine ⟨_, rfl, ?_, unhide HB⟩
      rw [← unhide HST]
      exact runes_of_own (unhide HO) (by rw [unhide HST]; have := codes_len s; omega)
end Go.Proofs.YtiooiacebgojiabDoor

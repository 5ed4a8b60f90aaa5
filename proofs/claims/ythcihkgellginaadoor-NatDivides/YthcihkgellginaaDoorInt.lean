/- nat.Int and the document's own Int and Compare. -/
import Derived.Test.YthcihkgellginaaDoorKnown
import Derived.Test.YthcihkgellginaaDoorPlain
namespace Go.Proofs.YthcihkgellginaaDoor
open Go.RowKit

/-- Nothing that is there turns, and the sentinel of the range lies there. -/
def ErrR (w : World) : Prop := ∃ tp p, w.var? Tryd.prog "strconv.ErrRange" = some #[.iface tp p]
theorem Tryd.gRange : Tryd.prog.globalNamed "strconv.ErrRange" = some 1 := by kernel_rfl
theorem var_lt {w : World} {cs : Array Value} {g : Nat} {nm : String} (hg : Tryd.prog.globalNamed nm = some g) (h : w.var? Tryd.prog nm = some cs) : g < w.heap.size := by
  simp only [World.var?, hg] at h
  apply Decidable.byContradiction
  intro hlt
  have : w.heap[g]? = none := Array.getElem?_eq_none (by omega)
  simp [this] at h
theorem ErrR.later {w w' : World} (h : ErrR w) (hb : Below w.heap.size w w') : ErrR w' := by
  obtain ⟨tp, p, hv⟩ := h
  exact ⟨tp, p, var?_below hb Tryd.gRange (var_lt Tryd.gRange hv) hv⟩

/-- What Int answers. -/
def intVal (l : List UInt8) : Nat := if Cub.rightB l = true ∧ Cub.dval l ≤ 18446744073709551615 then Cub.dval l else 0
def intErr (l : List UInt8) : Int := if Cub.rightB l = true then (if Cub.dval l ≤ 18446744073709551615 then 0 else 7) else 3

theorem parse_any (s : ByteArray) (w : World) (h : Cub.rightB s.data.toList = true) (hs : s.size ≤ 600) (he : ErrR w) :
    Calls Tryd.prog 41 #[.string s, .int .i64 10, .int .i64 64] w fun e w' => (∃ (m : Int) (b : Value), e = .returned (.tuple #[.int .u64 m, b]) ∧ ((Cub.dval s.data.toList ≤ 18446744073709551615 ∧ m = (Cub.dval s.data.toList : Nat) ∧ b = .nilIface) ∨ (¬ Cub.dval s.data.toList ≤ 18446744073709551615 ∧ ∃ t p, b = .iface t p))) ∧ Below w.heap.size w w' := by
  have hn := ((Cub.rightB_iff _).1 h).1
  have hp := Cub.parse64 _ hn
  by_cases hd : Cub.dval s.data.toList ≤ 18446744073709551615
  · rw [if_pos hd] at hp
    refine (Tryd.strconv_ParseUint_10_at64_ok s (by omega) _ hp w).mono ?_
    rintro e w' ⟨rfl, hw⟩
    refine ⟨⟨_, _, rfl, Or.inl ⟨hd, rfl, rfl⟩⟩, ?_⟩
    rcases hw with rfl | rfl
    · exact Below.refl _ _
    · exact Joins.below_bytesWorld _ _ _ _ (Nat.le_refl _)
  · rw [if_neg hd] at hp
    obtain ⟨tp, p, hv⟩ := he
    refine (Tryd.strconv_ParseUint_10_at64_range_var s (by omega) hp tp p w hv).mono ?_
    rintro e w' ⟨N, rfl, _, _, hb⟩
    exact ⟨⟨_, _, rfl, Or.inr ⟨hd, _, _, rfl⟩⟩, hb⟩

set_option maxRecDepth 100000 in
set_option maxHeartbeats 400000 in
theorem natInt_any (s : ByteArray) (w : World) (hs : s.size ≤ maxLen) (he : ErrR w) :
    Calls Tryd.prog 9 #[.string s] w fun e w' => e = .returned (.tuple #[.int .u64 (intVal s.data.toList : Nat), .int .i64 (intErr s.data.toList)]) ∧ Below w.heap.size w w' := by
  have r1 := fun W => right_any s W hs
  cases hr : Cub.rightB s.data.toList with
  | false =>
    have e1 : intVal s.data.toList = 0 := if_neg (by rw [hr]; simp)
    have e2 : intErr s.data.toList = 3 := by unfold intErr; rw [hr]; rfl
    rw [e1, e2]
    rw [hr] at r1
    have R1 := hide r1
    clear r1 hr e1 e2 he
    go_enter Tryd.func9, Tryd.ntmps9
    go_wp2_with (go_at_call 13; refine (unhide R1 _).mono ?_; rintro e w' ⟨rfl, rfl⟩)
    go_ret2
    exact ⟨rfl, Below.refl _ _⟩
  | true =>
    have h6 := (right_digs hr).2
    have HP := hide (parse_any s w hr h6 he)
    have e1 : ∀ m : Int, Cub.dval s.data.toList ≤ 18446744073709551615 → m = (Cub.dval s.data.toList : Nat) → m = (intVal s.data.toList : Nat) := fun m h hm => by unfold intVal; rw [if_pos ⟨hr, h⟩]; exact hm
    have e2 : Cub.dval s.data.toList ≤ 18446744073709551615 → intErr s.data.toList = 0 := fun h => by unfold intErr; rw [if_pos hr, if_pos h]
    have e3 : ¬ Cub.dval s.data.toList ≤ 18446744073709551615 → intVal s.data.toList = 0 ∧ intErr s.data.toList = 7 := fun h => by unfold intVal intErr; rw [if_neg (fun hh => h hh.2), if_pos hr, if_neg h]; exact ⟨rfl, rfl⟩
    have E := hide (And.intro e1 (And.intro e2 e3))
    rw [hr] at r1
    have R1 := hide r1
    clear r1 hr e1 e2 e3 he
    go_enter Tryd.func9, Tryd.ntmps9
    go_wp2_with fail
    refine (unhide R1 _).mono ?_
    rintro e w' ⟨rfl, rfl⟩
    go_wp2_with fail
    refine (unhide HP).mono ?_
    rintro e w2 ⟨⟨m, b, rfl, hc⟩, hb2⟩
    have HC := hide hc
    rcases hc with ⟨h1, h2, rfl⟩ | ⟨h1, t, p, rfl⟩
    · have F1 := hide ((unhide E).1 m h1 h2)
      have F2 := hide ((unhide E).2.1 h1)
      clear h1 h2 HC
      go_wp2
      go_ret2
      exact ⟨by rw [unhide F2, ← unhide F1]; rfl, hb2⟩
    · have F := hide ((unhide E).2.2 h1)
      clear h1 HC
      go_wp2
      go_ret2
      exact ⟨by rw [(unhide F).1, (unhide F).2]; rfl, hb2⟩

theorem toList_less (s t : ByteArray) (hs : Cub.isNat s.data.toList) (ht : Cub.isNat t.data.toList) (hl : s.size = t.size) : Op.bytesLess s.toList t.toList = decide (Cub.dval s.data.toList < Cub.dval t.data.toList) := by
  rw [Lib.toList_data, Lib.toList_data]
  exact Cub.bytesLess_dval _ _ hs.1 ht.1 (by rw [list_len, list_len]; exact hl)
theorem toList_same (s t : ByteArray) (hs : Cub.isNat s.data.toList) (ht : Cub.isNat t.data.toList) : (s.toList == t.toList) = decide (Cub.dval s.data.toList = Cub.dval t.data.toList) := by
  rw [Lib.toList_data, Lib.toList_data, Bool.eq_iff_iff, beq_iff_eq, decide_eq_true_eq]
  exact ⟨fun h => by rw [h], fun h => Cub.dval_inj hs ht h⟩

set_option maxRecDepth 100000 in
set_option maxHeartbeats 400000 in
theorem compare_any (s t : ByteArray) (w : World) (hs : Cub.isNat s.data.toList) (ht : Cub.isNat t.data.toList) :
    Calls Tryd.prog 24 #[.string s, .string t] w fun e w' => e = .returned (.int .i64 (Cub.cmpN (Cub.dval s.data.toList) (Cub.dval t.data.toList))) ∧ w' = w := by
  by_cases hl : s.size = t.size
  · have hne : ((s.size : Int) != (t.size : Int)) = false := by rw [hl]; simp
    have hless := toList_less s t hs ht hl
    have hsame := toList_same s t hs ht
    by_cases hc : Cub.dval s.data.toList < Cub.dval t.data.toList
    · have e : Cub.cmpN (Cub.dval s.data.toList) (Cub.dval t.data.toList) = -1 := if_pos hc
      rw [e]
      rw [decide_eq_true hc] at hless
      clear hsame hs ht hl e hc
      go_enter Tryd.func24, Tryd.ntmps24
      go_wp2
      go_ret
      exact ⟨rfl, rfl⟩
    · rw [decide_eq_false hc] at hless
      by_cases hc2 : Cub.dval t.data.toList < Cub.dval s.data.toList
      · have e : Cub.cmpN (Cub.dval s.data.toList) (Cub.dval t.data.toList) = 1 := by unfold Cub.cmpN; rw [if_neg hc, if_pos hc2]
        rw [e]
        rw [decide_eq_false (by omega)] at hsame
        clear hs ht hl e hc hc2
        go_enter Tryd.func24, Tryd.ntmps24
        go_wp2
        go_ret
        exact ⟨rfl, rfl⟩
      · have e : Cub.cmpN (Cub.dval s.data.toList) (Cub.dval t.data.toList) = 0 := by unfold Cub.cmpN; rw [if_neg hc, if_neg hc2]
        rw [e]
        rw [decide_eq_true (by omega)] at hsame
        clear hs ht hl e hc hc2
        go_enter Tryd.func24, Tryd.ntmps24
        go_wp2
        go_ret
        exact ⟨rfl, rfl⟩
  · have hne : ((s.size : Int) != (t.size : Int)) = true := by rw [bne_iff_ne]; omega
    by_cases hlt : s.size < t.size
    · have e : Cub.cmpN (Cub.dval s.data.toList) (Cub.dval t.data.toList) = -1 := if_pos (Cub.len_lt_dval hs ht (by rw [list_len, list_len]; exact hlt))
      rw [e]
      clear hs ht hl e
      go_enter Tryd.func24, Tryd.ntmps24
      go_wp2
      go_ret
      exact ⟨rfl, rfl⟩
    · have e0 := Cub.len_lt_dval ht hs (by rw [list_len, list_len]; omega)
      have e : Cub.cmpN (Cub.dval s.data.toList) (Cub.dval t.data.toList) = 1 := by unfold Cub.cmpN; rw [if_neg (by omega), if_pos e0]
      rw [e]
      clear hs ht hl e e0
      go_enter Tryd.func24, Tryd.ntmps24
      go_wp2
      go_ret
      exact ⟨rfl, rfl⟩
end Go.Proofs.YthcihkgellginaaDoor

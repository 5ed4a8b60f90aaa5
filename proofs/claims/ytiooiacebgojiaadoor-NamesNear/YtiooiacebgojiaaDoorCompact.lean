/- slices.Compact at a list that the call owns. -/
import Derived.Test.YtiooiacebgojiaaDoorNearMath
import Derived.Test.YtiooiacebgojiaaDoorLawSorts
namespace Go.Proofs.YtiooiacebgojiaaDoor
open Go.RowKit Go.Lib Go.Sort

theorem compact_any (base : Nat) (v : Value) (ts : List ByteArray) (w : World) (hO : OwnS w base v ts) (ha : Asc ts) (hmax : ts.length ≤ 8796093022208) :
    Calls Tryd.prog 52 #[v] w fun e w' => ∃ v' us, e = .returned v' ∧ RowS w' v' us ∧ (∀ x, x ∈ us ↔ x ∈ ts) ∧ us.Nodup ∧ Asc us ∧ ∀ w0, Below base w0 w → Below base w0 w' := by
  rcases Joins.ownsRow_forms (show w.ownsRow base 9 1 v ts.length (strsV ts) from hO) with ⟨rfl, h0⟩ | ⟨g, cap, rfl⟩
  · have hts : ts = [] := List.length_eq_zero_iff.1 h0
    subst hts
    refine (Tryd.slices_Compact_string_empty none 0 w).mono ?_
    rintro e w' ⟨rfl, rfl⟩
    exact ⟨_, [], rfl, RowS.of_own hO, fun x => Iff.rfl, List.nodup_nil, List.Pairwise.nil, fun _ h => h⟩
  · have h' : w.ownsRow base 9 1 (.slice (some ⟨g, 0, none⟩) ts.length cap) ts.length (strsV ts) := hO
    obtain ⟨a', cap', e, hc, hm, hn, hr⟩ := RowS.of_own hO
    simp only [Value.slice.injEq] at e
    obtain ⟨rfl, _, rfl⟩ := e
    obtain ⟨us, e, h1, h2, h3, h4⟩ := compact_asc ts ha ts.length (Nat.le_refl _)
    have hz : (ts.map bytesL).length = ts.length := List.length_map ..
    have hH : Holds encStr w g 0 (ts.map bytesL).toArray := by
      intro j hj
      have hj' : j < ts.length := by simpa using hj
      refine ⟨?_, by rw [Nat.zero_add]; exact h'.frozenAt j⟩
      rw [Nat.zero_add, h'.cellAt j (by omega), strsV_get ts j hj', at_map ts j hj']
      simp [encStr, bytesL]
    have h := Tryd.slices_Compact_string g 0 cap (ts.map bytesL) w hH (by omega) (by omega)
    have hcp : Lib.compact (ts.map bytesL) = us.map bytesL := by unfold Lib.compact; rw [hz]; exact e
    rw [hcp, hz] at h
    have hul : (us.map bytesL).length = us.length := List.length_map ..
    rw [hul] at h
    refine Calls.mono h ?_
    rintro e w' ⟨rfl, q, rfl⟩
    have hHa : Holds encStr (Sort.ahead w q) g 0 (ts.map bytesL).toArray := hH
    have hsz : (us.map bytesL ++ List.replicate (ts.length - us.length) []).toArray.size = (ts.map bytesL).toArray.size := by
      simp; omega
    have hgl := h'.lt g rfl
    have hH2 := holds_putRow encStr (Sort.ahead w q) g 0 _ _ hHa hsz
    refine ⟨_, us, rfl, ⟨_, cap, rfl, by omega, hm, fun e => by (cases e), fun i hi => ⟨g, 0, rfl, by simpa [Sort.ahead] using hgl.2, ?_⟩⟩, fun x => by rw [h1 x, List.take_of_length_le (Nat.le_refl _)], h2, h3, fun w0 hb => ?_⟩
    · have := (hH2 i (by simp; omega)).1
      rw [this, getElem!_pos _ i (by simp; omega)]
      simp [hi, encStr, bytesL]
    · have hgr : w.grownBy (putRow encStr (Sort.ahead w q) g 0 (us.map bytesL ++ List.replicate (ts.length - us.length) []).toArray) (some g) := by
        refine ⟨rfl, rfl, rfl, by simp [Sort.ahead], fun k hk hne => ?_⟩
        have : g ≠ k := fun e => hne (by rw [e])
        simp [putRow, mapBlock, Sort.ahead, Array.getElem?_modify, this]
      exact hb.grown hgr (by omega) (fun k hk => by simp only [Option.some.injEq] at hk; subst hk; exact hgl.1)
end Go.Proofs.YtiooiacebgojiaaDoor

/- names.Sort at every list that is handed in, also an empty one wherever its memory lies. -/
import Derived.Test.YtiooiacebgojiabDoorSort
namespace Go.Proofs.YtiooiacebgojiabDoor
open Go.RowKit Go.Lib Go.Sort

set_option maxRecDepth 100000 in
theorem clone_empty (ad : Addr) (cap : Nat) (w : World) : Calls Tryd.prog 30 #[.slice (some ad) 0 cap] w fun e w' => ∃ g c, e = .returned (.slice (some ⟨g, 0, none⟩) 0 c) ∧ w'.ownsRow w.heap.size 9 1 (.slice (some ⟨g, 0, none⟩) 0 c) 0 [] ∧ Below w.heap.size w w' := by
  obtain ⟨i0, hi, hz0, hz1, hz2⟩ := info_parts info9
  have q37 : ∀ (w : World) (a : Option Addr) (n c n' c' : Nat), (binOp .eql 37 (.slice a n c) (.slice none n' c')).run Tryd.prog w = .ok (.bool a.isNone) w := fun w a n c n' c' => Lib.run_eql_slice_nil w _ _ a n c n' c' under37
  go_enter Tryd.func30, Tryd.ntmps30
  go_wp2_with (at_builtin; go_must (refine wpList_append_own _ rfl _ _ 37 rfl w.heap.size 9 i0 (.string ⟨#[]⟩) 1 16 under37 hi hz0 hz1 hz2 rfl (by decide) (.slice (some ⟨w.heap.size, 0, none⟩) 0 0) 0 [] rfl (World.ownsRow_made w #[] 0 (Nat.le_refl _) (Nat.zero_le _) rfl) ad 0 cap [] rfl rfl (fun j u hu => by cases hu) (fun u hu => by cases hu) (by unfold maxLen; omega) (by omega) (by simp) ?_; intro v1 w1 hown1 hgrow1 hnil1; have HO := hide hown1; have HNE : Hid (v1 ≠ .slice none 0 0) := (fun e => by have := (hnil1.1 e).1; cases this); have HB : Hid (Below w.heap.size w w1) := ((Below.refl _ _).alloc (Nat.le_refl _) _).grown hgrow1 (by simp) (fun k hk => by simp [Value.ownBlock] at hk; omega); clear hown1 hgrow1 hnil1))
  go_ret
  rcases Joins.ownsRow_forms (unhide HO) with ⟨e0, _⟩ | ⟨g, c, e0⟩
  · exact absurd e0 (unhide HNE)
  · have h := unhide HO
    rw [e0] at h
    exact ⟨g, c, by rw [e0]; rfl, h, unhide HB⟩
set_option maxRecDepth 100000 in
theorem sort_empty (ad : Addr) (cap : Nat) (w : World) (hT : Lib.Utf8Tabs 0 1 w) : Calls Tryd.prog 14 #[.slice (some ad) 0 cap] w fun e w' => ∃ v', e = .returned v' ∧ OwnS w' w.heap.size v' [] ∧ Below w.heap.size w w' := by
  have h2 : 2 ≤ w.heap.size := World.block_lt_of_cell? _ _ (hT.2 0 (by omega)).1
  have HT := hide hT
  have H45 := hide (clone_empty ad cap w)
  have H46 : Hid (∀ W g c, W.ownsRow w.heap.size 9 1 (.slice (some ⟨g, 0, none⟩) 0 c) 0 [] → Below w.heap.size w W → Calls Tryd.prog 31 #[.slice (some ⟨g, 0, none⟩) 0 c, .func (.func 32) #[] #[]] W fun e w' => ∃ ts, e = .returned (.tuple #[]) ∧ OwnS w' w.heap.size (.slice (some ⟨g, 0, none⟩) 0 c) ts ∧ ts.Perm [] ∧ Asc ts ∧ W.grownBy w' (some g)) := fun W g c hO hb =>
    sortFunc_any w.heap.size g 0 c [] W hO rfl (fun s hs => by cases hs) (by omega) (tabs_later (unhide HT) hb) h2
  clear hT
  go_enter Tryd.func14, Tryd.ntmps14
  go_wp2_with (first
    | (go_at_call 30; refine (unhide H45).mono ?_; rintro e w1 ⟨g, c, rfl, hown, hb1⟩; have HO1 := hide hown; have HB1 := hide hb1; clear hown hb1)
    | (go_at_call 31; refine (unhide H46 w1 g c (unhide HO1) (unhide HB1)).mono ?_; rintro e w2 ⟨ts, rfl, ho2, hp, ha, hg⟩; obtain rfl : ts = [] := List.Perm.eq_nil hp; have HF := hide ho2; have HB2 := hide ((unhide HB1).grown hg (unhide HB1).size (fun k hk => by simp only [Option.some.injEq] at hk; subst hk; exact ((unhide HO1).lt g rfl).1)); clear ho2 hp ha hg))
  go_ret
  exact ⟨_, rfl, unhide HF, unhide HB2⟩
theorem sort_all (v : Value) (ss : List ByteArray) (w : World) (hr : RowS w v ss) (hmax : ss.length ≤ 8796093022208) (hsz : ∀ s ∈ ss, s.size ≤ 1000000000000000) (hT : Lib.Utf8Tabs 0 1 w) :
    Calls Tryd.prog 14 #[v] w fun e w' => ∃ v' ts, e = .returned v' ∧ OwnS w' w.heap.size v' ts ∧ ts.Perm ss ∧ Asc ts ∧ Below w.heap.size w w' := by
  by_cases h0 : ss.length = 0
  · have hss : ss = [] := List.length_eq_zero_iff.1 h0
    subst hss
    obtain ⟨a, cap, e, hc, hm, hnn, _⟩ := id hr
    cases a with
    | none => exact sort_any v [] w hr (fun ad n c e' => by rw [e] at e'; cases e') hmax hsz hT
    | some ad =>
      rw [e]
      refine (sort_empty ad cap w hT).mono ?_
      rintro e w' ⟨v', rfl, ho, hb⟩
      exact ⟨v', [], rfl, ho, List.Perm.refl _, List.Pairwise.nil, hb⟩
  · refine sort_any v ss w hr (fun ad n c e' => ?_) hmax hsz hT
    obtain ⟨a, cap, e, hc, hm, hnn, hcells⟩ := id hr
    obtain ⟨b, o, ha, _⟩ := hcells 0 (by omega)
    rw [e, ha] at e'
    simp only [Value.slice.injEq, Option.some.injEq] at e'
    rw [← e'.1]
end Go.Proofs.YtiooiacebgojiabDoor

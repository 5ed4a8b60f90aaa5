/- What the library answers, and known: the fixed calls. -/
import Derived.Test.YtccnbnfafhpeaaaDoorShelf
import Derived.Test.YtccnbnfafhpeaaaDoorPrint
import Derived.Test.YtccnbnfafhpeaaaDoorKind
namespace Go.Proofs.YtccnbnfafhpeaaaDoor
open Go.RowKit

theorem below_grow (w : World) (k : Nat) (os : Array Obj) : Below w.heap.size w (Go.Sort.grow (w.drewN k) os) :=
  (below_drewN (Below.refl _ _) k).trans ⟨rfl, rfl, rfl, by simp [Go.Sort.grow], fun i hi => by
    show ((w.drewN k).heap ++ os)[i]? = _
    exact Array.getElem?_append_left hi⟩
theorem itoa_ok : ItoaOK := fun n w h0 h1 ht => (Tryd.strconv_Itoa n h0 h1 w ht).mono fun _ _ ⟨he, k, os, hw⟩ => ⟨he, by subst hw; exact below_grow w k os⟩
theorem join_len (ss : List (List UInt8)) (h : ∀ s ∈ ss, s.length ≤ 100) : (Lib.join ss [32]).length ≤ 101 * ss.length := by
  cases ss with
  | nil => simp [Lib.join_nil]
  | cons x r =>
    rw [Lib.join_cons]
    have h1 := h x (by simp)
    have h2 : (Lib.joinTail [32] r).length ≤ 101 * r.length := by
      have hr : ∀ s ∈ r, s.length ≤ 100 := fun s hs => h s (by simp [hs])
      clear h h1
      unfold Lib.joinTail
      induction r with
      | nil => simp
      | cons y r ih =>
        have h3 := hr y (by simp)
        have h4 := ih (fun s hs => hr s (by simp [hs]))
        simp only [List.map_cons, List.flatten_cons, List.length_append, List.length_cons, List.length_nil] at h4 ⊢
        omega
    simp only [List.length_append, List.length_cons]
    omega
theorem join_ok : JoinOK := by
  intro base v ss w hown hne hl hs
  have hlen : (ss.map fun s => (⟨s.toArray⟩ : ByteArray)).length = ss.length := by simp
  rcases hown.2 with ⟨rfl, h0⟩ | ⟨g, cap, cur, rfl, hb, hg, hcap, hmax, hsz, htk⟩
  · exact absurd (List.length_eq_zero_iff.1 h0) hne
  · have hmap : (ss.map fun s => (⟨s.toArray⟩ : ByteArray)).map (·.data.toList) = ss := by rw [List.map_map]; exact List.map_id ss
    have h := Tryd.strings_Join g 0 cap (ss.map fun s => (⟨s.toArray⟩ : ByteArray)) ⟨#[32]⟩ w (fun j x hj => by
      have hj' : j < ss.length := by have := (List.getElem?_eq_some_iff.1 hj).1; simpa using this
      have hc := hown.cellAt j (by simpa using hj')
      rw [List.getElem?_map] at hj
      simp only [Nat.zero_add]
      rw [hc]
      unfold strsV
      rw [List.getElem?_map]
      cases hq : ss[j]? with
      | none => simp [hq] at hj
      | some s => simp only [hq, Option.map_some, Option.some.injEq] at hj ⊢; subst hj; rfl) (Array.getElem?_eq_some_iff.1 hg).1 (by rw [hlen]; omega) (by rw [hlen]; omega) (by rw [hmap]; have := join_len ss hs; show (Lib.join ss [32]).length ≤ _; omega)
    rw [hmap, hlen] at h
    exact h

theorem known_text : dimText [1, 1, -2, 0, 0, 0, 0, 0] = [76, 32, 77, 32, 84, 94, 45, 50] := by decide +kernel
theorem known_right : rightB [1, 1, -2, 0, 0, 0, 0, 0] = true := by decide +kernel
theorem known_kind : kindOf [2, 1, -2, 0, 0, 0, 0, 0] = some ([101, 110, 101, 114, 103, 121], [2, 1, -2, 0, 0, 0, 0, 0]) := by decide +kernel
theorem known_print (w : World) (ht : Tab w) : Calls Tryd.prog 22 #[.agg #[.int .i64 1, .int .i64 1, .int .i64 (-2), .int .i64 0, .int .i64 0, .int .i64 0, .int .i64 0, .int .i64 0]] w fun e w' => e = .returned (.tuple #[.string ⟨#[76, 32, 77, 32, 84, 94, 45, 50]⟩, .int .i64 0]) ∧ Below w.heap.size w w' := by
  have h := print_any itoa_ok join_ok 1 1 (-2) 0 0 0 0 0 w ht
  rw [known_right, known_text] at h
  exact h
theorem known_kinds (w : World) : Calls Tryd.prog 26 #[.agg #[.int .i64 2, .int .i64 1, .int .i64 (-2), .int .i64 0, .int .i64 0, .int .i64 0, .int .i64 0, .int .i64 0]] w fun e w' => e = .returned (.tuple #[.string ⟨#[101, 110, 101, 114, 103, 121]⟩, .bool true]) ∧ Below w.heap.size w w' := by
  have h := kind_any 2 1 (-2) 0 0 0 0 0 w
  rw [known_kind] at h
  exact h

set_option maxRecDepth 100000 in
set_option maxHeartbeats 400000 in
theorem known_any (w : World) (ht : Tab w) : Calls Tryd.prog 21 #[] w fun e w' => e = .returned (.bool true) ∧ Below w.heap.size w w' := by
  have HT := hide ht
  clear ht
  go_enter Tryd.func21, Tryd.ntmps21
  go_wp2_with (first
    | (go_at_call 22; refine (known_print _ (unhide HT)).mono ?_; rintro e w2 ⟨rfl, hb2⟩)
    | (go_at_call 26; refine (known_kinds _).mono ?_; rintro e w3 ⟨rfl, hb3⟩))
  go_ret
  exact ⟨rfl, hb2.trans (hb3.mono hb2.size)⟩
end Go.Proofs.YtccnbnfafhpeaaaDoor

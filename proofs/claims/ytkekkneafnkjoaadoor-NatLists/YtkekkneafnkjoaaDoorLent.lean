/- The document's own LentTexts, SameTexts, KeptTexts. -/
import Derived.Test.YtkekkneafnkjoaaDoorListRef
import Derived.Laws.AppendOwnNone
namespace Go.Proofs.YtkekkneafnkjoaaDoor
open Go.RowKit

theorem Tryd.info9x : (Tryd.prog.info? 9).map (fun i => (i.zero, i.size, i.bytes)) = some (some (.string ⟨#[]⟩), 1, 16) := by kernel_rfl
theorem Tryd.underlying41x : Tryd.prog.underlying 41 = some (.slice 9) := by kernel_rfl

def mark : ByteArray := ⟨#[52, 51, 50, 49]⟩
def strsV (ss : List ByteArray) : List Value := ss.map Value.string

theorem inMem_news {w : World} {ad : Addr} {ss : List ByteArray} (h : InMem w (some ad) ss) : ∀ j u, (strsV ss)[j]? = some u → w.cell? (ad.add j) = some u := by
  intro j u hu
  unfold strsV at hu
  rw [List.getElem?_map, Option.map_eq_some_iff] at hu
  obtain ⟨s, hs, rfl⟩ := hu
  obtain ⟨hj, rfl⟩ := List.getElem?_eq_some_iff.1 hs
  obtain ⟨b, o, e, hc⟩ := h j hj
  cases e
  simp only [Addr.add]
  split
  · rename_i hj0; subst hj0; exact hc
  · exact hc
theorem strsV_one (ss : List ByteArray) : ∀ u ∈ strsV ss, u.oneCell' = true := by
  intro u hu
  unfold strsV at hu
  obtain ⟨s, _, rfl⟩ := List.mem_map.1 hu
  rfl

/-- What the list is, and the mark behind it. -/
def Lent (w : World) (base : Nat) (v : Value) (n : Nat) (ss : List ByteArray) : Prop := ∃ g cap, v = .slice (some ⟨g, 0, none⟩) n cap ∧ n + 1 ≤ cap ∧ cap ≤ 9223372036854775807 ∧ base ≤ g ∧ InMem w (some ⟨g, 0, none⟩) ss ∧ w.cell? ⟨g, n, none⟩ = some (.string mark)

theorem lent_of {w : World} {base : Nat} {v : Value} {n : Nat} {ss : List ByteArray} (h : w.ownsRow base 9 1 v (n + 1) (strsV ss ++ [.string mark])) (hn : n = ss.length) :
    ∃ g cap, v = .slice (some ⟨g, 0, none⟩) (n + 1) cap ∧ n + 1 ≤ cap ∧ cap ≤ 9223372036854775807 ∧ base ≤ g ∧ InMem w (some ⟨g, 0, none⟩) ss ∧ w.cell? ⟨g, n, none⟩ = some (.string mark) := by
  rcases Joins.ownsRow_forms h with ⟨rfl, h0⟩ | ⟨g, cap, rfl⟩
  · omega
  · obtain ⟨hx, h2⟩ := id h
    rcases h2 with ⟨e, _⟩ | ⟨g', cap', cur, e, hb, hg, hcap, hmax, hsz, htk⟩
    · cases e
    · simp only [Value.slice.injEq, Option.some.injEq, Addr.mk.injEq] at e
      obtain ⟨⟨rfl, _⟩, _, rfl⟩ := e
      refine ⟨g, cap, rfl, by omega, hmax, hb, fun i hi => ⟨g, 0, rfl, ?_⟩, ?_⟩
      · have := h.cellAt i (by omega)
        rw [List.getElem?_append_left (by unfold strsV; simpa using hi)] at this
        unfold strsV at this
        simpa [hi] using this
      · have := h.cellAt n (by omega)
        rw [List.getElem?_append_right (by unfold strsV; simp [hn])] at this
        unfold strsV at this
        simpa [hn] using this

set_option maxRecDepth 100000 in
set_option maxHeartbeats 800000 in
theorem lent_any (a : Option Addr) (n cap : Nat) (ss : List ByteArray) (w : World) (hn : n = ss.length) (hmax : n ≤ 8796093022207) (hcap : a = none → cap = 0)
    (hc : InMem w a ss) :
    Calls Tryd.prog 33 #[.slice a n cap] w fun e w' => ∃ v, e = .returned v ∧ Lent w' w.heap.size v n ss ∧ Below w.heap.size w w' := by
  obtain ⟨i0, hi, hz0, hz1, hz2⟩ := info_parts Tryd.info9x
  cases a with
  | none =>
    have h0 : ss = [] := by
      cases ss with
      | nil => rfl
      | cons s t => obtain ⟨b, o, e, _⟩ := hc 0 (by simp); cases e
    subst h0
    have hn0 : n = 0 := hn
    subst hn0
    have hc0 := hcap rfl
    subst hc0
    clear hc hn hcap
    go_enter Tryd.func33, Tryd.ntmps33
    go_wp2_with (first
      | (at_builtin; refine wpList_append_own_none rfl _ _ 41 rfl w.heap.size 9 i0 1 Tryd.underlying41x hi _ 0 [] rfl (World.ownsRow_nil _ _ _ _) rfl ?_)
      | (at_builtin; refine wpList_append_own _ rfl _ _ 41 rfl w.heap.size 9 i0 (.string ⟨#[]⟩) 1 16 Tryd.underlying41x hi hz0 hz1 hz2 rfl (by decide) _ 0 [] rfl (World.ownsRow_nil _ _ _ _) ⟨w.heap.size, 0, none⟩ 1 1 [.string mark] rfl rfl (cell_one_new _ _ _) (fun x hx => by simp at hx; subst hx; rfl) (by unfold maxLen; omega) (by omega) (by simp) ?_; intro v' w1 hown hgrow hnil; obtain ⟨g, cap2, rfl, hg1, hg2, hg3, hin, hmk⟩ := lent_of (n := 0) (ss := []) (by simpa [strsV] using hown) rfl; clear hnil))
    go_ret
    exact ⟨_, rfl, ⟨g, cap2, rfl, hg1, hg2, hg3, hin, hmk⟩, ((Below.refl _ _).alloc (Nat.le_refl _) _).grown hgrow (by simp) (fun k hk => by cases hk)⟩
  | some ad =>
    have HNew := hide (inMem_news hc)
    have HN := hide hn
    clear hc hn hcap
    go_enter Tryd.func33, Tryd.ntmps33
    go_wp2_with (first
      | (at_builtin; refine wpList_append_own _ rfl _ _ 41 rfl w.heap.size 9 i0 (.string ⟨#[]⟩) 1 16 Tryd.underlying41x hi hz0 hz1 hz2 rfl (by decide) (.slice none 0 0) 0 [] rfl (World.ownsRow_nil _ _ _ _) ad n cap (strsV ss) rfl (by unfold strsV; rw [List.length_map, Nat.mul_one]; exact (unhide HN).symm) (unhide HNew) (strsV_one ss) (by unfold maxLen; omega) (by omega) (Nat.le_refl _) ?_; intro v1 w1 hown1 hgrow1 hnil1; simp only [Nat.zero_add, List.nil_append] at hown1; have hb1 : Below w.heap.size w w1 := (Below.refl _ _).grown hgrow1 (Nat.le_refl _) (fun k hk => by cases hk); clear hnil1 hgrow1)
      | (at_builtin; refine wpList_append_own _ rfl _ _ 41 rfl w.heap.size 9 i0 (.string ⟨#[]⟩) 1 16 Tryd.underlying41x hi hz0 hz1 hz2 rfl (by decide) _ n (strsV ss) rfl (hown1.alloc _) ⟨w1.heap.size, 0, none⟩ 1 1 [.string mark] rfl rfl (cell_one_new _ _ _) (fun x hx => by simp at hx; subst hx; rfl) (by unfold maxLen; omega) (by omega) (by have := hb1.size; simp at this ⊢; omega) ?_; intro v' w2 hown hgrow hnil; have hb2 := (hb1.alloc hb1.size _).grown hgrow (by have := hb1.size; simp at this ⊢; omega) (fun j hj => (hown1.lt j hj).1); obtain ⟨g, cap2, rfl, hg1, hg2, hg3, hin, hmk⟩ := lent_of hown (unhide HN); clear hnil hgrow))
    go_ret
    exact ⟨_, rfl, ⟨g, cap2, rfl, hg1, hg2, hg3, hin, hmk⟩, hb2⟩
end Go.Proofs.YtkekkneafnkjoaaDoor

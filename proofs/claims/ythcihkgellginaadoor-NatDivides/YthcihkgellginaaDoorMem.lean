/- Rows of limbs in memory: what it is for a slice of uint64 to hold a list of numbers, and for a Big to hold a number. -/
import Derived.Test.YthcihkgellginaaDoorRef
import Derived.Test.YthcihkgellginaaDoorPlain
import Derived.Laws.CopyOwn
import Derived.Lib.SmallJoins
import Derived.OneCell
namespace Go.Proofs.YthcihkgellginaaDoor
open Go.RowKit

/-- Limbs as cells. -/
def u64s (l : List Nat) : List Value := l.map fun x : Nat => Value.int .u64 (x : Int)
theorem u64s_length (l : List Nat) : (u64s l).length = l.length := by simp [u64s]
theorem u64s_get (l : List Nat) (i : Nat) (h : i < l.length) : (u64s l)[i]? = some (.int .u64 (l[i] : Int)) := by simp [u64s, h]

/-- A slice value holds a list of limbs. -/
def Row (w : World) (v : Value) (l : List Nat) : Prop :=
  ∃ a cap, v = .slice a l.length cap ∧ l.length ≤ cap ∧ cap ≤ maxLen ∧ (l ≠ [] → ∃ b o, a = some ⟨b, o, none⟩ ∧ b < w.heap.size ∧ ∀ i (h : i < l.length), w.cell? ⟨b, o + i, none⟩ = some (.int .u64 (l[i] : Int)))

theorem Row.later {w w' : World} {v : Value} {l : List Nat} (h : Row w v l) (hb : Below w.heap.size w w') : Row w' v l := by
  obtain ⟨a, cap, rfl, hc, hm, hr⟩ := h
  refine ⟨a, cap, rfl, hc, hm, fun hne => ?_⟩
  obtain ⟨b, o, rfl, hlt, hcell⟩ := hr hne
  have := hb.size
  exact ⟨b, o, rfl, by omega, fun i hi => (hb.cell (p := ⟨b, o + i, none⟩) hlt).trans (hcell i hi)⟩

theorem Row.nil (w : World) : Row w (.slice none 0 0) [] := ⟨none, 0, rfl, Nat.le_refl _, Nat.zero_le _, fun h => absurd rfl h⟩

/-- The first ones of a row. -/
theorem Row.take {w : World} {a : Option Addr} {n cap : Nat} {l : List Nat} (h : Row w (.slice a n cap) l) (k : Nat) (hk : k ≤ n) : Row w (.slice a k cap) (l.take k) := by
  obtain ⟨a', cap', e, hc, hm, hr⟩ := h
  simp only [Value.slice.injEq] at e
  obtain ⟨rfl, rfl, rfl⟩ := e
  have hl : (l.take k).length = k := by rw [List.length_take]; omega
  refine ⟨a, cap, by rw [hl], by omega, hm, fun hne => ?_⟩
  obtain ⟨b, o, rfl, hlt, hcell⟩ := hr (fun e => hne (by rw [e]; simp))
  refine ⟨b, o, rfl, hlt, fun i hi => ?_⟩
  rw [List.getElem_take]
  exact hcell i (by omega)

/-- What the call owns is a row. -/
theorem Row.of_own {w : World} {base : Nat} {v : Value} {n : Nat} {l : List Nat} (h : w.ownsRow base 22 1 v n (u64s l)) : Row w v l := by
  have hn : l.length = n := by have := h.1; rw [u64s_length] at this; omega
  rcases Joins.ownsRow_forms h with ⟨rfl, h0⟩ | ⟨g, cap, rfl⟩
  · have : l = [] := List.length_eq_zero_iff.1 (by omega)
    subst this; exact Row.nil w
  · obtain ⟨hx, h2⟩ := id h
    rcases h2 with ⟨e, _⟩ | ⟨g', cap', cur, e, hb, hg, hcap, hmax, hsz, htk⟩
    · cases e
    · simp only [Value.slice.injEq, Option.some.injEq, Addr.mk.injEq] at e
      obtain ⟨⟨rfl, _⟩, _, rfl⟩ := e
      refine ⟨some ⟨g, 0, none⟩, cap, by rw [hn], by omega, hmax, fun _ => ⟨g, 0, rfl, (Array.getElem?_eq_some_iff.1 hg).1, fun i hi => ?_⟩⟩
      have := h.cellAt i (by omega)
      rw [u64s_get l i hi] at this
      simpa using this

/-- A Big holds a number. -/
def IsBig (w : World) (v : Value) (n : Nat) : Prop := ∃ s l, v = .agg #[s] ∧ Row w s l ∧ Cub.normal 1000000000 l ∧ Cub.lval 1000000000 l = n

theorem IsBig.later {w w' : World} {v : Value} {n : Nat} (h : IsBig w v n) (hb : Below w.heap.size w w') : IsBig w' v n := by
  obtain ⟨s, l, rfl, hr, hn, hv⟩ := h
  exact ⟨s, l, rfl, hr.later hb, hn, hv⟩

/-- Block g holds just these limbs. -/
def Own (w : World) (g : Nat) (l : List Nat) : Prop := w.heap[g]? = some (.cells (u64s l).toArray 22 (0, 0))

theorem Own.of_row {w : World} {base g n : Nat} {l : List Nat} (h : w.ownsRow base 22 1 (.slice (some ⟨g, 0, none⟩) n n) n (u64s l)) : Own w g l := by
  obtain ⟨hx, h2⟩ := h
  rcases h2 with ⟨e, _⟩ | ⟨g', cap', cur, e, hb, hg, hcap, hmax, hsz, htk⟩
  · cases e
  · simp only [Value.slice.injEq, Option.some.injEq, Addr.mk.injEq] at e
    obtain ⟨⟨rfl, _⟩, _, rfl⟩ := e
    have e2 : cur.toList = u64s l := by rw [← htk, List.take_of_length_le (by simp [hsz])]
    unfold Own
    rw [hg, ← e2]
theorem Own.lt {w : World} {g : Nat} {l : List Nat} (h : Own w g l) : g < w.heap.size := (Array.getElem?_eq_some_iff.1 h).1
theorem Own.cell {w : World} {g : Nat} {l : List Nat} (h : Own w g l) (i : Nat) (hi : i < l.length) : w.cell? ⟨g, i, none⟩ = some (.int .u64 (l[i] : Int)) := by
  unfold Own at h
  simp [World.cell?, h, u64s, hi]
theorem Own.frozen {w : World} {g : Nat} {l : List Nat} (h : Own w g l) (i : Nat) : w.frozen? ⟨g, i, none⟩ = false := by
  unfold Own at h
  simp [World.frozen?, h]
theorem Own.set {w : World} {g : Nat} {l : List Nat} (h : Own w g l) (i : Nat) (x : Nat) : Own (w.setCell ⟨g, i, none⟩ (.int .u64 (x : Int))) g (l.set i x) := by
  unfold Own at h ⊢
  simp only [World.setCell, Array.getElem?_modify, h, Option.map_some]
  simp [u64s, List.map_set]
theorem Own.later {w w' : World} {g B : Nat} {l : List Nat} (h : Own w g l) (hb : Below B w w') (hg : g < B) : Own w' g l := (hb.block g hg).trans h
theorem Own.row {w : World} {g : Nat} {l : List Nat} (h : Own w g l) (n cap : Nat) (hn : n = l.length) (hc : n ≤ cap) (hm : cap ≤ maxLen) : Row w (.slice (some ⟨g, 0, none⟩) n cap) l := by
  subst hn
  exact ⟨some ⟨g, 0, none⟩, cap, rfl, hc, hm, fun _ => ⟨g, 0, rfl, h.lt, fun i hi => by rw [Nat.zero_add]; exact h.cell i hi⟩⟩
theorem u64s_made (n : Nat) : (madeCells (Value.int .u64 0).cells (n * 1)).toList = u64s (List.replicate n 0) := by
  rw [show (Value.int .u64 0).cells = #[Value.int .u64 0] from rfl, toList_madeCells_one]
  simp [u64s]

theorem bcell {W w1 : World} (hb : Below W.heap.size W w1) : (∀ b o, b < W.heap.size → w1.cell? ⟨b, o, none⟩ = W.cell? ⟨b, o, none⟩) ∧ (∀ b o, b < W.heap.size → w1.frozen? ⟨b, o, none⟩ = W.frozen? ⟨b, o, none⟩) :=
  ⟨fun b o h => hb.cell (p := ⟨b, o, none⟩) h, fun b o h => hb.frozen (p := ⟨b, o, none⟩) h⟩

/-- A result's box, later. -/
theorem box_later {w w' : World} {g : Nat} {x : Value} (hb : Below w.heap.size w w') (hg : g < w.heap.size) (hc : w.cell? ⟨g, 0, none⟩ = some x) (hf : w.frozen? ⟨g, 0, none⟩ = false) :
    w'.cell? ⟨g, 0, none⟩ = some x ∧ w'.frozen? ⟨g, 0, none⟩ = false :=
  ⟨(hb.cell (p := ⟨g, 0, none⟩) hg).trans hc, (hb.frozen (p := ⟨g, 0, none⟩) hg).trans hf⟩

theorem Row.form {w : World} {v : Value} {l : List Nat} (h : Row w v l) : ∃ a cap, v = .slice a l.length cap ∧ l.length ≤ cap ∧ cap ≤ 9223372036854775807 := by
  obtain ⟨a, cap, rfl, hc, hm, _⟩ := h
  exact ⟨a, cap, rfl, hc, hm⟩

/-- A store into a cell that holds no limb leaves every row. -/
theorem Row.box {w : World} {v : Value} {l : List Nat} (h : Row w v l) {p : Addr} {x : Value} (u : Value) (hp : w.cell? p = some x) (hx : ∀ k n, x ≠ .int k n) : Row (w.setCell p u) v l := by
  obtain ⟨a, cap, rfl, hc, hm, hr⟩ := h
  refine ⟨a, cap, rfl, hc, hm, fun h0 => ?_⟩
  obtain ⟨b, o, rfl, hlt, hcell⟩ := hr h0
  refine ⟨b, o, rfl, by simpa [World.setCell] using hlt, fun i hi => ?_⟩
  rw [World.cell?_setCell_other _ _ _ _ (by
    intro e
    have h1 := hcell i hi
    rw [← e, hp, Option.some.injEq] at h1
    exact hx _ _ h1)]
  exact hcell i hi

theorem IsBig.box {w : World} {v : Value} {n : Nat} (h : IsBig w v n) {p : Addr} {x : Value} (u : Value) (hp : w.cell? p = some x) (hx : ∀ k n, x ≠ .int k n) : IsBig (w.setCell p u) v n := by
  obtain ⟨s, l, rfl, hr, hn, hv⟩ := h
  exact ⟨s, l, rfl, hr.box u hp hx, hn, hv⟩
theorem IsBig.shape {w : World} {v : Value} {n : Nat} (h : IsBig w v n) : ∃ a len cap, v = .agg #[.slice a len cap] := by
  obtain ⟨s, l, rfl, hr, hn, hv⟩ := h
  obtain ⟨a, cap, rfl, _⟩ := hr
  exact ⟨a, _, cap, rfl⟩
theorem no_int (a : Option Addr) (n c : Nat) : ∀ k m, Value.slice a n c ≠ .int k m := fun _ _ h => by cases h
theorem IsBig.zero (w : World) : IsBig w (.agg #[.slice none 0 0]) 0 := ⟨_, [], rfl, Row.nil w, Cub.normal_nil _, rfl⟩

set_option maxHeartbeats 400000 in
/-- nat.trim: noughts at the top are left out. -/
theorem trim_any (v : Value) (l : List Nat) (w : World) (h : Row w v l) :
    Calls Tryd.prog 74 #[v] w fun e w' => ∃ v', e = .returned (.agg #[v']) ∧ Row w' v' (Cub.trimN l) ∧ Below w.heap.size w w' := by
  have H := hide h
  obtain ⟨a, cap, rfl, hc, hm, hr⟩ := h
  have HR := hide hr
  clear hr
  unfold maxLen at hm
  go_enter Tryd.func74, Tryd.ntmps74
  go_wp2
  go_loop [3] (fun n => ∃ k : Nat, k ≤ l.length ∧ n = .int .i64 k ∧ Hid (Cub.trimN (l.take k) = Cub.trimN l)) (fun n => (intOf n).toNat)
  case atStart => exact ⟨l.length, Nat.le_refl _, rfl, by rw [List.take_length]; exact rfl⟩
  case round =>
    obtain ⟨k, hk, rfl, ht⟩ := hrel
    by_cases hk0 : k = 0
    · subst hk0
      have e : Cub.trimN l = l.take 0 := by rw [← unhide ht]; rfl
      have E := hide e
      clear e ht
      go_wp2
      refine bodyPost_ret (v := .agg #[.slice a 0 cap]) (by simp [results, Tryd.results74, go_sem]) rfl ⟨_, rfl, ?_, ?_⟩
      · rw [unhide E]
        exact ((unhide H).take 0 (Nat.zero_le _)).later (by exact (Below.refl _ _).alloc (Nat.le_refl _) _)
      · exact (Below.refl _ _).alloc (Nat.le_refl _) _
    · have hlt : k - 1 < l.length := by omega
      obtain ⟨b, o, rfl, hbw, hcell⟩ := unhide HR (fun e => by rw [e] at hlt; simp at hlt)
      have hx := hcell (k - 1) hlt
      obtain ⟨j, rfl⟩ : ∃ j, k = j + 1 := ⟨k - 1, by omega⟩
      simp only [Nat.add_sub_cancel] at hx hlt
      have HT := ht
      clear ht
      by_cases hz : l[j] = 0
      · rw [hz] at hx
        have e : Cub.trimN (l.take j) = Cub.trimN l := by
          rw [← unhide HT, List.take_succ_eq_append_getElem hlt, hz, Cub.trimN_snoc_zero]
        have E := hide e
        clear hcell e hz
        go_wp2
        go_round
        case rel => exact ⟨j, by omega, by go_num, E⟩
        case measure => simp [intOf]
      · have e : Cub.trimN l = l.take (j + 1) := by
          rw [← unhide HT, List.take_succ_eq_append_getElem hlt, Cub.trimN_snoc _ _ hz]
        have E := hide e
        have hz' : ((l[j] : Int) == 0) = false := by rw [beq_eq_false_iff_ne]; omega
        clear hcell e hz
        go_wp2
        refine bodyPost_ret (v := .agg #[.slice (some ⟨b, o, none⟩) (j + 1) cap]) (by simp [results, Tryd.results74, go_sem]) rfl ⟨_, rfl, ?_, ?_⟩
        · rw [unhide E]
          exact ((unhide H).take (j + 1) hk).later (by exact (Below.refl _ _).alloc (Nat.le_refl _) _)
        · exact (Below.refl _ _).alloc (Nat.le_refl _) _
end Go.Proofs.YthcihkgellginaaDoor

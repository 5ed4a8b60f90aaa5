/- dim.Kind and dim.Of. -/
import Derived.Test.YtccnbnfafhpeaaaDoorKinds
import Derived.Deep.MidRow
namespace Go.Proofs.YtccnbnfafhpeaaaDoor
open Go.RowKit

theorem flat_get {α β : Type} (f : α → List β) (m : Nat) : ∀ (L : List α), (∀ x ∈ L, (f x).length = m) → ∀ (k j : Nat) (x : α), L[k]? = some x → j < m → (L.flatMap f)[k * m + j]? = (f x)[j]?
  | [], _, k, _, _, h, _ => by simp at h
  | a :: L, hl, 0, j, x, h, hj => by
    simp at h
    subst h
    rw [List.flatMap_cons, Nat.zero_mul, Nat.zero_add, List.getElem?_append_left (by rw [hl a (by simp)]; exact hj)]
  | a :: L, hl, k + 1, j, x, h, hj => by
    have ha := hl a (by simp)
    rw [List.flatMap_cons, List.getElem?_append_right (by rw [ha, Nat.succ_mul]; omega), ha, show (k + 1) * m + j - m = k * m + j by rw [Nat.succ_mul]; omega]
    exact flat_get f m L (fun y hy => hl y (by simp [hy])) k j x (by simpa using h) hj
/-- A kind's cells. -/
def kindRow (x : List UInt8 × List Int) : List Value := Value.string ⟨x.1.toArray⟩ :: x.2.map fun z => Value.int .i64 z
theorem tab_eight : ∀ x ∈ kindTab, x.2.length = 8 := by decide
theorem kcells_get (k j : Nat) (x : List UInt8 × List Int) (h : kindTab[k]? = some x) (hj : j < 9) : kcells[k * 9 + j]? = (kindRow x)[j]? := by
  unfold kcells
  rw [List.getElem?_toArray]
  exact flat_get kindRow 9 kindTab (fun y hy => by simp [kindRow, tab_eight y hy]) k j x h hj
theorem kind_shape (k : Nat) (h : k < 30) : ∃ (s : ByteArray) (e0 e1 e2 e3 e4 e5 e6 e7 : Int), kindTab[k]? = some (s.data.toList, [e0, e1, e2, e3, e4, e5, e6, e7]) ∧ kindRow (s.data.toList, [e0, e1, e2, e3, e4, e5, e6, e7]) = [.string s, .int .i64 e0, .int .i64 e1, .int .i64 e2, .int .i64 e3, .int .i64 e4, .int .i64 e5, .int .i64 e6, .int .i64 e7] := by
  have hk : k < kindTab.length := h
  have hm := tab_eight _ (List.getElem_mem hk)
  obtain ⟨nm, l, hx⟩ : ∃ nm l, kindTab[k] = (nm, l) := ⟨_, _, rfl⟩
  rw [hx] at hm
  match l, hm with
  | [e0, e1, e2, e3, e4, e5, e6, e7], _ => exact ⟨⟨nm.toArray⟩, e0, e1, e2, e3, e4, e5, e6, e7, by rw [List.getElem?_eq_getElem hk, hx], by simp [kindRow]⟩
/-- The block of kinds. -/
def Tab30 (w : World) (g t : Nat) : Prop := w.heap[g]? = some (.cells kcells t (0, 0))
theorem Tab30.later {w w' : World} {g t B : Nat} (h : Tab30 w g t) (hb : Below B w w') (hg : g < B) : Tab30 w' g t := (hb.block g hg).trans h
theorem Tab30.alloc {w : World} {g t : Nat} (h : Tab30 w g t) (o : Obj) : Tab30 (w.alloc o) g t := (Below.heap_alloc w o g (Array.getElem?_eq_some_iff.1 h).1).trans h
theorem Tab30.new (w : World) (t : Nat) : Tab30 (w.alloc (.cells kcells t)) w.heap.size t := heap_alloc_new w _
theorem Tab30.lt {w : World} {g t : Nat} (h : Tab30 w g t) : g < w.heap.size := (Array.getElem?_eq_some_iff.1 h).1
theorem Tab30.cell {w : World} {g t : Nat} (h : Tab30 w g t) (k j : Nat) (x : List UInt8 × List Int) (hk : kindTab[k]? = some x) (hj : j < 9) : w.cell? ⟨g, k * 9 + j, none⟩ = (kindRow x)[j]? := by
  unfold Tab30 at h
  rw [← kcells_get k j x hk hj]
  simp [World.cell?, h]
theorem Tab30.range {w : World} {g t : Nat} (h : Tab30 w g t) (k : Nat) (x : List UInt8 × List Int) (hk : kindTab[k]? = some x) : w.rangeAt g (k * 9) (kindRow x) := by
  intro j v hv
  have hj : j < (kindRow x).length := (List.getElem?_eq_some_iff.1 hv).1
  have hl : (kindRow x).length = 9 := by simp [kindRow, tab_eight x (List.mem_of_getElem? hk)]
  rw [h.cell k j x hk (by omega)]
  exact hv

theorem find_take {α : Type} (p : α → Bool) (L : List α) (k : Nat) (x : α) (h : (L.take k).find? p = none) (hk : L[k]? = some x) (hp : p x = true) : L.find? p = some x := by
  obtain ⟨hlt, hx⟩ := List.getElem?_eq_some_iff.1 hk
  rw [← List.take_append_drop k L, List.find?_append, h, Option.none_or, List.drop_eq_getElem_cons hlt, hx, List.find?_cons_of_pos hp]
theorem find_step {α : Type} (p : α → Bool) (L : List α) (k : Nat) (x : α) (h : (L.take k).find? p = none) (hk : L[k]? = some x) (hp : p x = false) : (L.take (k + 1)).find? p = none := by
  rw [List.take_add_one, hk, List.find?_append, h, Option.none_or]
  simp [hp]
/-- The kind of a dimension. -/
def kindOf (l : List Int) : Option (List UInt8 × List Int) := kindTab.find? fun x => eqB x.2 l
def kindName (o : Option (List UInt8 × List Int)) : ByteArray := match o with | some x => ⟨x.1.toArray⟩ | none => ⟨#[]⟩
/-- The kind of a name. -/
def kindNamed (s : List UInt8) : Option (List UInt8 × List Int) := kindTab.find? fun x => x.1 == s
def kindDim (o : Option (List UInt8 × List Int)) : List Int := match o with | some x => x.2 | none => [0, 0, 0, 0, 0, 0, 0, 0]
theorem info68 : (Tryd.prog.info? 68).map (·.size) = some 9 := by kernel_rfl
theorem info72 : (Tryd.prog.info? 72).map (·.size) = some 9 := by kernel_rfl

theorem Tab30.cells {w : World} {g t : Nat} (h : Tab30 w g t) (k : Nat) (s : ByteArray) (e0 e1 e2 e3 e4 e5 e6 e7 : Int) (hk : kindTab[k]? = some (s.data.toList, [e0, e1, e2, e3, e4, e5, e6, e7])) (hv : kindRow (s.data.toList, [e0, e1, e2, e3, e4, e5, e6, e7]) = [.string s, .int .i64 e0, .int .i64 e1, .int .i64 e2, .int .i64 e3, .int .i64 e4, .int .i64 e5, .int .i64 e6, .int .i64 e7]) :
    w.cell? ⟨g, k * 9, none⟩ = some (.string s) ∧ w.cell? ⟨g, k * 9 + 1, none⟩ = some (.int .i64 e0) ∧ w.cell? ⟨g, k * 9 + 2, none⟩ = some (.int .i64 e1) ∧ w.cell? ⟨g, k * 9 + 3, none⟩ = some (.int .i64 e2) ∧ w.cell? ⟨g, k * 9 + 4, none⟩ = some (.int .i64 e3) ∧ w.cell? ⟨g, k * 9 + 5, none⟩ = some (.int .i64 e4) ∧ w.cell? ⟨g, k * 9 + 6, none⟩ = some (.int .i64 e5) ∧ w.cell? ⟨g, k * 9 + 7, none⟩ = some (.int .i64 e6) ∧ w.cell? ⟨g, k * 9 + 8, none⟩ = some (.int .i64 e7) := by
  have h1 := fun j hj => h.cell k j _ hk hj
  rw [hv] at h1
  exact ⟨h1 0 (by omega), h1 1 (by omega), h1 2 (by omega), h1 3 (by omega), h1 4 (by omega), h1 5 (by omega), h1 6 (by omega), h1 7 (by omega), h1 8 (by omega)⟩

set_option maxRecDepth 100000 in
set_option maxHeartbeats 1000000 in
theorem kind_any (x0 x1 x2 x3 x4 x5 x6 x7 : Int) (w : World) : Calls Tryd.prog 26 #[.agg #[.int .i64 x0, .int .i64 x1, .int .i64 x2, .int .i64 x3, .int .i64 x4, .int .i64 x5, .int .i64 x6, .int .i64 x7]] w fun e w' => e = .returned (.tuple #[.string (kindName (kindOf [x0, x1, x2, x3, x4, x5, x6, x7])), .bool (kindOf [x0, x1, x2, x3, x4, x5, x6, x7]).isSome]) ∧ Below w.heap.size w w' := by
  have HEQ := hide (fun e0 e1 e2 e3 e4 e5 e6 e7 => eqIn24 e0 e1 e2 e3 e4 e5 e6 e7 x0 x1 x2 x3 x4 x5 x6 x7)
  generalize hl : [x0, x1, x2, x3, x4, x5, x6, x7] = l at HEQ
  have HL := hide hl
  clear hl
  go_enter Tryd.func26, Tryd.ntmps26
  go_wp2_with (go_at_call 47; refine (kinds_any _).mono ?_; rintro e w' ⟨rfl, rfl⟩)
  go_loopw [8] (fun i wr => ∃ k : Nat, i = .int .i64 k ∧ k ≤ 30 ∧ Hid ((kindTab.take k).find? (fun x => eqB x.2 l) = none) ∧ Hid (Own8 wr w.heap.size l) ∧ Hid (Tab30 wr (w.heap.size + 1) 68) ∧ Hid (Below w.heap.size w wr)) (fun i _ => 30 - (intOf i).toNat)
  case atStart => exact ⟨0, rfl, Nat.zero_le _, rfl, (by rw [← unhide HL]; exact (Own8.new w [x0, x1, x2, x3, x4, x5, x6, x7]).alloc _), (by have h := Tab30.new (w.alloc (.cells #[.int .i64 x0, .int .i64 x1, .int .i64 x2, .int .i64 x3, .int .i64 x4, .int .i64 x5, .int .i64 x6, .int .i64 x7] 24)) 68; rw [size_alloc] at h; exact h), ((Below.refl _ _).alloc (Nat.le_refl _) _).alloc (by simp) _⟩
  case round =>
    obtain ⟨k, rfl, hk, HN, HO, HK, HB⟩ := hrel
    have hsz := (unhide HK).lt
    have hsz0 : w.heap.size < wr.heap.size := by omega
    by_cases hlt : k < 30
    · obtain ⟨s, e0, e1, e2, e3, e4, e5, e6, e7, hrow, hval⟩ := kind_shape k hlt
      obtain ⟨t0, t1, t2, t3, t4, t5, t6, t7, t8⟩ := (unhide HK).cells k s e0 e1 e2 e3 e4 e5 e6 e7 hrow hval
      have HROW := hide hrow
      clear hval hrow
      obtain ⟨c0, c1, c2, c3, c4, c5, c6, c7⟩ : wr.cell? ⟨w.heap.size, 0, none⟩ = some (.int .i64 x0) ∧ wr.cell? ⟨w.heap.size, 1, none⟩ = some (.int .i64 x1) ∧ wr.cell? ⟨w.heap.size, 2, none⟩ = some (.int .i64 x2) ∧ wr.cell? ⟨w.heap.size, 3, none⟩ = some (.int .i64 x3) ∧ wr.cell? ⟨w.heap.size, 4, none⟩ = some (.int .i64 x4) ∧ wr.cell? ⟨w.heap.size, 5, none⟩ = some (.int .i64 x5) ∧ wr.cell? ⟨w.heap.size, 6, none⟩ = some (.int .i64 x6) ∧ wr.cell? ⟨w.heap.size, 7, none⟩ = some (.int .i64 x7) := by
        have h := (unhide HO).cell
        rw [← unhide HL] at h
        exact ⟨h 0 _ rfl, h 1 _ rfl, h 2 _ rfl, h 3 _ rfl, h 4 _ rfl, h 5 _ rfl, h 6 _ rfl, h 7 _ rfl⟩
      have heq := unhide HEQ e0 e1 e2 e3 e4 e5 e6 e7
      have HO2 := fun a => hide ((unhide HO).alloc a)
      have HK2 := fun a => hide ((unhide HK).alloc a)
      have HB2 := fun a => hide ((unhide HB).alloc (Nat.le_of_lt hsz0) a)
      cases hq : eqB [e0, e1, e2, e3, e4, e5, e6, e7] l with
      | true =>
        have HF : Hid (kindOf l = some (s.data.toList, [e0, e1, e2, e3, e4, e5, e6, e7])) := find_take (fun x : List UInt8 × List Int => eqB x.2 l) kindTab k _ (unhide HN) (unhide HROW) hq
        rw [hq] at heq
        clear hq
        go_wp2
        go_ret2
        exact ⟨by rw [unhide HF]; rfl, unhide (HB2 _)⟩
      | false =>
        have HN2 := hide (find_step (fun x : List UInt8 × List Int => eqB x.2 l) kindTab k _ (unhide HN) (unhide HROW) hq)
        rw [hq] at heq
        clear hq
        go_wp2
        go_roundw
        case rel => exact ⟨k + 1, by go_num, by omega, HN2, HO2 _, HK2 _, HB2 _⟩
        case measure => simp [intOf]; omega
    · obtain rfl : k = 30 := by omega
      have HF : Hid (kindOf l = none) := unhide HN
      go_wp2
      go_ret2
      exact ⟨by rw [unhide HF]; rfl, unhide HB⟩

set_option maxRecDepth 100000 in
set_option maxHeartbeats 1000000 in
theorem of_any (t : ByteArray) (w : World) : Calls Tryd.prog 28 #[.string t] w fun e w' => e = .returned (.tuple #[.agg (cells8 (kindDim (kindNamed t.data.toList))), .bool (kindNamed t.data.toList).isSome]) ∧ Below w.heap.size w w' := by
  go_enter Tryd.func28, Tryd.ntmps28
  go_wp2_with (go_at_call 47; refine (kinds_any _).mono ?_; rintro e w' ⟨rfl, rfl⟩)
  go_loopw [8] (fun i wr => ∃ k : Nat, i = .int .i64 k ∧ k ≤ 30 ∧ Hid ((kindTab.take k).find? (fun x => x.1 == t.data.toList) = none) ∧ Hid (Own8 wr w.heap.size [0, 0, 0, 0, 0, 0, 0, 0]) ∧ Hid (Tab30 wr (w.heap.size + 1) 68) ∧ Hid (Below w.heap.size w wr)) (fun i _ => 30 - (intOf i).toNat)
  case atStart => exact ⟨0, rfl, Nat.zero_le _, rfl, (Own8.new w [0, 0, 0, 0, 0, 0, 0, 0]).alloc _, (by have h := Tab30.new (w.alloc (.cells #[.int .i64 0, .int .i64 0, .int .i64 0, .int .i64 0, .int .i64 0, .int .i64 0, .int .i64 0, .int .i64 0] 24)) 68; rw [size_alloc] at h; exact h), ((Below.refl _ _).alloc (Nat.le_refl _) _).alloc (by simp) _⟩
  case round =>
    obtain ⟨k, rfl, hk, HN, HO, HK, HB⟩ := hrel
    have hsz := (unhide HK).lt
    have hsz0 : w.heap.size < wr.heap.size := by omega
    by_cases hlt : k < 30
    · obtain ⟨s, e0, e1, e2, e3, e4, e5, e6, e7, hrow, hval⟩ := kind_shape k hlt
      obtain ⟨t0, t1, t2, t3, t4, t5, t6, t7, t8⟩ := (unhide HK).cells k s e0 e1 e2 e3 e4 e5 e6 e7 hrow hval
      have HROW := hide hrow
      clear hval hrow
      have HO2 := fun a => hide ((unhide HO).alloc a)
      have HK2 := fun a => hide ((unhide HK).alloc a)
      have HB2 := fun a => hide ((unhide HB).alloc (Nat.le_of_lt hsz0) a)
      cases hq : (s.data.toList == t.data.toList) with
      | true =>
        have HF : Hid (kindNamed t.data.toList = some (s.data.toList, [e0, e1, e2, e3, e4, e5, e6, e7])) := find_take (fun x : List UInt8 × List Int => x.1 == t.data.toList) kindTab k _ (unhide HN) (unhide HROW) hq
        have hq' : (s.toList == t.toList) = true := by rw [ByteArray.toList_eq, ByteArray.toList_eq]; exact hq
        clear hq
        go_wp2_with (refine store8 rfl (.tmp 2) (.tmp 17) rfl w.heap.size _ [e0, e1, e2, e3, e4, e5, e6, e7] rfl rfl rfl rfl (unhide (HO2 _)) ?_)
        refine bodyPost_ret (v := .tuple #[.agg (cells8 [e0, e1, e2, e3, e4, e5, e6, e7]), .bool true]) (res2 Tryd.results28 _ _ w.heap.size _ rfl rfl ((unhide (HO2 _)).setRow _)) rfl ⟨?_, ?_⟩
        · rw [unhide HF]; rfl
        · exact below_setRow (unhide (HB2 _)) (Nat.le_refl _) _
      | false =>
        have HN2 := hide (find_step (fun x : List UInt8 × List Int => x.1 == t.data.toList) kindTab k _ (unhide HN) (unhide HROW) hq)
        have hq' : (s.toList == t.toList) = false := by rw [ByteArray.toList_eq, ByteArray.toList_eq]; exact hq
        clear hq
        go_wp2
        go_roundw
        case rel => exact ⟨k + 1, by go_num, by omega, HN2, HO2 _, HK2 _, HB2 _⟩
        case measure => simp [intOf]; omega
    · obtain rfl : k = 30 := by omega
      have HF : Hid (kindNamed t.data.toList = none) := unhide HN
      go_wp2_with (refine store8 rfl (.tmp 2) (.tmp 19) rfl w.heap.size _ [0, 0, 0, 0, 0, 0, 0, 0] rfl rfl rfl rfl (unhide HO) ?_)
      refine bodyPost_ret (v := .tuple #[.agg (cells8 [0, 0, 0, 0, 0, 0, 0, 0]), .bool false]) (res2 Tryd.results28 _ _ w.heap.size _ rfl rfl ((unhide HO).setRow _)) rfl ⟨?_, ?_⟩
      · rw [unhide HF]; rfl
      · exact below_setRow (unhide HB) (Nat.le_refl _) _
end Go.Proofs.YtccnbnfafhpeaaaDoor

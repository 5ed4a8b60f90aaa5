/- names.Sort: a new list of the same texts, in order. -/
import Derived.Test.YtiooiacebgojiabDoorGrow2
import Derived.Test.YtiooiacebgojiabDoorShelf4
import Derived.Test.YtiooiacebgojiabDoorShelf3
import Derived.Test.YtiooiacebgojiabDoorTextRows
namespace Go.Proofs.YtiooiacebgojiabDoor
open Go.RowKit Go.Lib Go.Sort

/-- Texts that a machine can hold. -/
abbrev Txt := { b : ByteArray // b.size ≤ 1000000000000000 }
instance : Inhabited Txt := ⟨⟨⟨#[]⟩, by decide⟩⟩
def encT (x : Txt) : Value := .string x.1
def cfT (x y : Txt) : Int := ordC x.1 y.1
theorem ltT (x y : Txt) : ltOf cfT x y = ltC x.1 y.1 := rfl
theorem swoT : SWO (ltOf cfT) where
  irrefl x := ltC_swo.irrefl x.1
  trans x y z := ltC_swo.trans x.1 y.1 z.1
  ntrans x y z := ltC_swo.ntrans x.1 y.1 z.1
theorem totT (x y : Txt) (h1 : ltOf cfT x y = false) (h2 : ltOf cfT y x = false) : x = y := Subtype.ext (ltC_total x.1 y.1 h1 h2)

theorem tabs_sort {w : World} {blk off m : Nat} {dk : Array Txt} {os : Array Obj} (hT : Lib.Utf8Tabs 0 1 w) (h2 : 2 ≤ blk) : Lib.Utf8Tabs 0 1 (sortWorld encT w blk off m dk os) := by
  have key : ∀ (b o : Nat) (v : Value), b < 2 → w.cell? ⟨b, o, none⟩ = some v → (sortWorld encT w blk off m dk os).cell? ⟨b, o, none⟩ = some v := fun b o v hb hc => by
    have hlt := World.block_lt_of_cell? _ _ hc
    unfold sortWorld
    rw [cell?_grow _ _ _ (by simpa [putRow, mapBlock, Sort.ahead] using hlt)]
    have : (putRow encT (Sort.ahead w m) blk off dk).heap[b]? = w.heap[b]? := by
      simp [putRow, mapBlock, Sort.ahead, Array.getElem?_modify, show blk ≠ b by omega]
    rw [World.cell?_of_block (w := w) this]
    exact hc
  exact ⟨fun c hc => key 0 c _ (by omega) (hT.1 c hc), fun i hi => ⟨key 1 _ _ (by omega) (hT.2 i hi).1, key 1 _ _ (by omega) (hT.2 i hi).2⟩⟩
theorem order_lays (blk off size : Nat) (w : World) (hT : Lib.Utf8Tabs 0 1 w) (h2 : 2 ≤ blk) : CmpLays1 Tryd.prog 32 #[] encT cfT blk off size w := fun _ _ _ _ x y =>
  (order_grw x.1 y.1 _ x.2 y.2 (tabs_sort hT h2)).mono fun _ _ ⟨he, q, os', hw⟩ => ⟨he, q, os', hw⟩
theorem holds_own {w : World} {base g n cap : Nat} {T : List Txt} (h : w.ownsRow base 9 1 (.slice (some ⟨g, 0, none⟩) n cap) n (T.map encT)) (hn : n = T.length) : Holds encT w g 0 T.toArray := by
  intro j hj
  have hj' : j < T.length := by simpa using hj
  refine ⟨?_, by rw [Nat.zero_add]; exact h.frozenAt j⟩
  rw [Nat.zero_add, h.cellAt j (by omega)]
  simp [hj']
theorem take_put (cur : Array Value) (ts : List Txt) (h : ts.length ≤ cur.size) : (putCells encT 0 ts.toArray cur).toList.take ts.length = ts.map encT := by
  apply List.ext_getElem?
  intro j
  by_cases hj : j < ts.length
  · rw [List.getElem?_take_of_lt hj, Array.getElem?_toList]
    simp [putCells, hj, show j < cur.size by omega]
  · rw [List.getElem?_take_eq_none (by omega), List.getElem?_eq_none (by simp; omega)]
/-- Behind the sort the same slice owns the sorted list, and nothing else has turned. -/
theorem own_sorted {w : World} {base g n cap m : Nat} {os : Array Obj} {T S : List Txt} (h : w.ownsRow base 9 1 (.slice (some ⟨g, 0, none⟩) n cap) n (T.map encT)) (hn : n = S.length) :
    (sortWorld encT w g 0 m S.toArray os).ownsRow base 9 1 (.slice (some ⟨g, 0, none⟩) n cap) n (S.map encT) ∧ w.grownBy (sortWorld encT w g 0 m S.toArray os) (some g) := by
  obtain ⟨hx, h2⟩ := h
  rcases h2 with ⟨e, _⟩ | ⟨g', cap', cur, e, hb, hg, hcap, hmax, hsz, htk⟩
  · cases e
  · simp only [Value.slice.injEq, Option.some.injEq, Addr.mk.injEq] at e
    obtain ⟨⟨rfl, _⟩, _, rfl⟩ := e
    have hlt : g < w.heap.size := (Array.getElem?_eq_some_iff.1 hg).1
    constructor
    · refine ⟨by simp [hn], .inr ⟨g, cap, putCells encT 0 S.toArray cur, rfl, hb, ?_, hcap, hmax, ?_, ?_⟩⟩
      · unfold sortWorld
        rw [heap_grow_old _ _ (by simpa [putRow, mapBlock, Sort.ahead] using hlt)]
        simp [putRow, mapBlock, Sort.ahead, Array.getElem?_modify, hg, onCells]
      · simp [putCells, hsz]
      · rw [Nat.mul_one, hn]; exact take_put cur S (by omega)
    · unfold sortWorld
      refine ⟨rfl, rfl, rfl, by simp [putRow, mapBlock, Sort.ahead], fun k hk hne => ?_⟩
      rw [heap_grow_old _ _ (by simpa [putRow, mapBlock, Sort.ahead] using hk)]
      have : g ≠ k := fun e => hne (by rw [e])
      simp [putRow, mapBlock, Sort.ahead, Array.getElem?_modify, this]
/-- The list, each with its bound. -/
def lift (ss : List ByteArray) (h : ∀ s ∈ ss, s.size ≤ 1000000000000000) : List Txt := ss.pmap Subtype.mk h
theorem lift_val (ss : List ByteArray) (h : ∀ s ∈ ss, s.size ≤ 1000000000000000) : (lift ss h).map Subtype.val = ss := by
  unfold lift; simp [List.map_pmap]
theorem lift_enc (ss : List ByteArray) (h : ∀ s ∈ ss, s.size ≤ 1000000000000000) : (lift ss h).map encT = strsV ss := by
  have : encT = Value.string ∘ Subtype.val := rfl
  rw [this, ← List.map_map, lift_val]; rfl
theorem vals_enc (T : List Txt) : T.map encT = strsV (T.map Subtype.val) := by
  unfold strsV; rw [List.map_map]; rfl
theorem sorted_vals (T : List Txt) : ((T.mergeSort fun x y => !(ltOf cfT) y x).map Subtype.val).Perm (T.map Subtype.val) ∧ Asc ((T.mergeSort fun x y => !(ltOf cfT) y x).map Subtype.val) := by
  refine ⟨(List.mergeSort_perm T _).map _, ?_⟩
  have h := List.pairwise_mergeSort (le := fun x y : Txt => !(ltOf cfT) y x) (fun a b c h1 h2 => by
    simp only [Bool.not_eq_true'] at h1 h2 ⊢
    exact swoT.ntrans _ _ _ h2 h1) (fun a b => by
    cases h : ltOf cfT b a with
    | false => simp
    | true => have := ltC_asymm (x := b.1) (y := a.1) h; rw [ltT, this]; rfl) T
  unfold Asc
  rw [List.pairwise_map]
  refine h.imp ?_
  intro a b h
  have h' : ltOf cfT b a = false := by simpa using h
  exact h'

theorem sortFunc_any (base g n cap : Nat) (ss : List ByteArray) (w : World) (hO : w.ownsRow base 9 1 (.slice (some ⟨g, 0, none⟩) n cap) n (strsV ss)) (hn : n = ss.length) (hsz : ∀ s ∈ ss, s.size ≤ 1000000000000000) (hmax : n ≤ 8796093022208) (hT : Lib.Utf8Tabs 0 1 w) (hb2 : 2 ≤ base) :
    Calls Tryd.prog 31 #[.slice (some ⟨g, 0, none⟩) n cap, .func (.func 32) #[] #[]] w fun e w' => ∃ ts, e = .returned (.tuple #[]) ∧ OwnS w' base (.slice (some ⟨g, 0, none⟩) n cap) ts ∧ ts.Perm ss ∧ Asc ts ∧ w.grownBy w' (some g) := by
  have hO' := hO
  rw [← lift_enc ss hsz] at hO'
  have hlen : n = (lift ss hsz).length := by unfold lift; simpa using hn
  have hg := hO.lt g rfl
  have eg : ∀ args w, (callFunc 32 args).run Tryd.prog w = .ok (.enter 32 args) w := enters_of Tryd.func32 (by kernel_rfl) rfl
  have hsize : (lift ss hsz).toArray.size = n := by rw [hlen]; simp
  have h := Any.slices_SortFunc_total Tryd.laysSort encT (fun _ => rfl) cfT swoT 32 #[] g 0 cap (lift ss hsz).toArray w eg (order_lays g 0 _ w hT (by omega)) (holds_own hO' hlen) hg.2 (by rw [hsize]; omega) totT
  rw [hsize] at h
  refine Calls.mono (show Calls Tryd.prog 31 _ _ _ from h) ?_
  rintro e w' ⟨rfl, m, os, rfl⟩
  have hl2 : n = ((lift ss hsz).mergeSort fun x y => !(ltOf cfT) y x).length := by rw [List.length_mergeSort]; exact hlen
  obtain ⟨o1, o2⟩ := own_sorted (m := m) (os := os) hO' hl2
  obtain ⟨p1, p2⟩ := sorted_vals (lift ss hsz)
  rw [lift_val] at p1
  refine ⟨_, rfl, ?_, p1, p2, o2⟩
  unfold OwnS
  rw [← vals_enc, List.length_map, ← hl2]
  exact o1

set_option maxRecDepth 100000 in
set_option maxHeartbeats 1000000 in
theorem sort_any (v : Value) (ss : List ByteArray) (w : World) (hr : RowS w v ss) (hsp : ∀ ad n c, v = .slice (some ad) n c → ad.spot = none) (hmax : ss.length ≤ 8796093022208) (hsz : ∀ s ∈ ss, s.size ≤ 1000000000000000) (hT : Lib.Utf8Tabs 0 1 w) :
    Calls Tryd.prog 14 #[v] w fun e w' => ∃ v' ts, e = .returned v' ∧ OwnS w' w.heap.size v' ts ∧ ts.Perm ss ∧ Asc ts ∧ Below w.heap.size w w' := by
  obtain ⟨a, cap, rfl, hc, hm, hnn, hcells⟩ := hr
  have h2 : 2 ≤ w.heap.size := World.block_lt_of_cell? _ _ (hT.2 0 (by omega)).1
  have HT := hide hT
  clear hT
  cases a with
  | none =>
    have hc0 := hnn rfl
    subst hc0
    have h0 : ss = [] := List.length_eq_zero_iff.1 (by omega)
    subst h0
    have H45 := hide (Tryd.slices_Clone_string_nil 0 0 w)
    have H46 := hide (show Calls Tryd.prog 31 #[.slice none 0 0, .func (.func 32) #[] #[]] w fun e w' => e = .returned (.tuple #[]) ∧ w' = w from AnyF.slices_SortFunc_none (P := Tryd.prog) (ρ := Tryd.laysSort_ren) { Tryd.laysSort with } none 0 (.func (.func 32) #[] #[]) w)
    clear hcells hsp hsz hnn
    simp only [List.length_nil]
    go_enter Tryd.func14, Tryd.ntmps14
    go_wp2_with (first
      | (go_at_call 30; refine (unhide H45).mono ?_; rintro e w1 ⟨rfl, hw⟩; rw [hw]; clear hw)
      | (go_at_call 31; refine (unhide H46).mono ?_; rintro e w2 ⟨rfl, hw⟩; rw [hw]; clear hw))
    go_ret
    exact ⟨_, [], rfl, World.ownsRow_nil _ _ _ _, List.Perm.refl _, List.Pairwise.nil, Below.refl _ _⟩
  | some ad =>
    have hs := hsp ad _ _ rfl
    obtain ⟨b, o, sp⟩ := ad
    have hs' : sp = none := hs
    subst hs'
    have H45 : Hid (∀ W, W = w → Calls Tryd.prog 30 #[.slice (some ⟨b, o, none⟩) ss.length cap] W fun e w' => ∃ g c, e = .returned (.slice (some ⟨g, 0, none⟩) ss.length c) ∧ w'.ownsRow w.heap.size 9 1 (.slice (some ⟨g, 0, none⟩) ss.length c) ss.length (strsV ss) ∧ Below w.heap.size w w') := fun W hW => by
      subst hW
      refine (Tryd.slices_Clone_string b o ss.length cap ss W (Nat.le_refl _) (by omega) (fun j hj => ?_)).mono ?_
      · obtain ⟨b', o', e, _, hcell⟩ := hcells j hj
        simp only [Option.some.injEq, Addr.mk.injEq] at e
        obtain ⟨rfl, rfl, _⟩ := e
        rw [hcell]; simp [List.getD, hj]
      · rintro e w' ⟨v', rfl, hown, hne, hb⟩
        rw [List.take_of_length_le (Nat.le_refl _)] at hown
        rcases Joins.ownsRow_forms hown with ⟨e0, _⟩ | ⟨g, c, e0⟩
        · exact absurd e0 hne
        · rw [e0] at hown
          exact ⟨g, c, by rw [e0], hown, hb⟩
    have H46 : Hid (∀ W g c, W.ownsRow w.heap.size 9 1 (.slice (some ⟨g, 0, none⟩) ss.length c) ss.length (strsV ss) → Below w.heap.size w W → Calls Tryd.prog 31 #[.slice (some ⟨g, 0, none⟩) ss.length c, .func (.func 32) #[] #[]] W fun e w' => ∃ ts, e = .returned (.tuple #[]) ∧ OwnS w' w.heap.size (.slice (some ⟨g, 0, none⟩) ss.length c) ts ∧ ts.Perm ss ∧ Asc ts ∧ W.grownBy w' (some g)) := fun W g c hO hb =>
      sortFunc_any w.heap.size g ss.length c ss W hO rfl hsz hmax (tabs_later (unhide HT) hb) h2
    clear hcells hsp hsz hnn
    generalize ss.length = n at *
    go_enter Tryd.func14, Tryd.ntmps14
    go_wp2_with (first
      | (go_at_call 30; refine (unhide H45 w rfl).mono ?_; rintro e w1 ⟨g, c, rfl, hown, hb1⟩; have HO1 := hide hown; have HB1 := hide hb1; clear hown hb1)
      | (go_at_call 31; refine (unhide H46 w1 g c (unhide HO1) (unhide HB1)).mono ?_; rintro e w2 ⟨ts, rfl, ho2, hp, ha, hg⟩; have HF := hide (And.intro ho2 (And.intro hp ha)); have HB2 := hide ((unhide HB1).grown hg (unhide HB1).size (fun k hk => by simp only [Option.some.injEq] at hk; subst hk; exact ((unhide HO1).lt g rfl).1)); clear ho2 hp ha hg))
    go_ret
    exact ⟨_, ts, rfl, (unhide HF).1, (unhide HF).2.1, (unhide HF).2.2, unhide HB2⟩
end Go.Proofs.YtiooiacebgojiabDoor

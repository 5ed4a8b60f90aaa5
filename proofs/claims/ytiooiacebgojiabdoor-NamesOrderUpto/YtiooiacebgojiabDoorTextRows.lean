/- Rows of texts in memory. -/
import Derived.Test.YtiooiacebgojiabDoorSortMath
import Derived.Sort.OwnSorted
import Derived.Laws.AppendOwnNone
import Derived.WalkSmall
import Derived.BigQuiet
import Derived.Deep.Cut
import Derived.Lib.SmallJoins
import Derived.OwnWalk
namespace Go.Proofs.YtiooiacebgojiabDoor
open Go.RowKit

theorem info9 : (Tryd.prog.info? 9).map (fun i => (i.zero, i.size, i.bytes)) = some (some (.string ⟨#[]⟩), 1, 16) := by kernel_rfl
theorem under37 : Tryd.prog.underlying 37 = some (.slice 9) := by kernel_rfl
def strsV (ss : List ByteArray) : List Value := ss.map Value.string
theorem strsV_length (ss : List ByteArray) : (strsV ss).length = ss.length := by simp [strsV]
theorem strsV_get (ss : List ByteArray) (i : Nat) (h : i < ss.length) : (strsV ss)[i]? = some (.string ss[i]) := by simp [strsV, h]
theorem strsV_one (ss : List ByteArray) : ∀ u ∈ strsV ss, u.oneCell' = true := by
  intro u hu
  unfold strsV at hu
  obtain ⟨s, _, rfl⟩ := List.mem_map.1 hu
  rfl
/-- The call owns a row of these texts. -/
def OwnS (w : World) (base : Nat) (v : Value) (l : List ByteArray) : Prop := w.ownsRow base 9 1 v l.length (strsV l)
/-- A slice value holds these texts, at whatever place of its block. -/
def RowS (w : World) (v : Value) (l : List ByteArray) : Prop :=
  ∃ a cap, v = .slice a l.length cap ∧ l.length ≤ cap ∧ cap ≤ 9223372036854775807 ∧ (a = none → cap = 0) ∧ ∀ i (h : i < l.length), ∃ b o, a = some ⟨b, o, none⟩ ∧ b < w.heap.size ∧ w.cell? ⟨b, o + i, none⟩ = some (.string l[i])
theorem RowS.later {w w' : World} {v : Value} {l : List ByteArray} (h : RowS w v l) (hb : Below w.heap.size w w') : RowS w' v l := by
  obtain ⟨a, cap, rfl, hc, hm, hn, hr⟩ := h
  refine ⟨a, cap, rfl, hc, hm, hn, fun i hi => ?_⟩
  obtain ⟨b, o, rfl, hlt, hcell⟩ := hr i hi
  have := hb.size
  exact ⟨b, o, rfl, by omega, (hb.cell (p := ⟨b, o + i, none⟩) hlt).trans hcell⟩
theorem RowS.of_own {w : World} {base : Nat} {v : Value} {l : List ByteArray} (h : OwnS w base v l) : RowS w v l := by
  have h' : w.ownsRow base 9 1 v l.length (strsV l) := h
  rcases Joins.ownsRow_forms h' with ⟨rfl, h0⟩ | ⟨g, cap, rfl⟩
  · exact ⟨none, 0, by rw [h0], by omega, by omega, fun _ => rfl, fun i hi => by omega⟩
  · obtain ⟨hx, h2⟩ := id h'
    rcases h2 with ⟨e, _⟩ | ⟨g', cap', cur, e, hb, hg, hcap, hmax, hsz, htk⟩
    · cases e
    · simp only [Value.slice.injEq, Option.some.injEq, Addr.mk.injEq] at e
      obtain ⟨⟨rfl, _⟩, _, rfl⟩ := e
      refine ⟨some ⟨g, 0, none⟩, cap, rfl, hcap, hmax, fun e => (by cases e), fun i hi => ⟨g, 0, rfl, (Array.getElem?_eq_some_iff.1 hg).1, ?_⟩⟩
      rw [Nat.zero_add, h'.cellAt i (by omega), strsV_get l i hi]
theorem OwnS.later {w w' : World} {base : Nat} {v : Value} {l : List ByteArray} (h : OwnS w base v l) (hb : Below w.heap.size w w') : OwnS w' base v l := by
  obtain ⟨hx, h2⟩ := h
  refine ⟨hx, ?_⟩
  rcases h2 with h2 | ⟨g, cap, cur, e, hbs, hg, r⟩
  · exact Or.inl h2
  · exact Or.inr ⟨g, cap, cur, e, hbs, (hb.block g (Array.getElem?_eq_some_iff.1 hg).1).trans hg, r⟩
theorem OwnS.mono {w : World} {base base' : Nat} {v : Value} {l : List ByteArray} (h : OwnS w base v l) (hb : base' ≤ base) : OwnS w base' v l := Joins.ownsRow_le h hb
theorem RowS.take {w : World} {a : Option Addr} {n cap : Nat} {l : List ByteArray} (h : RowS w (.slice a n cap) l) (k : Nat) (hk : k ≤ n) : RowS w (.slice a k cap) (l.take k) := by
  obtain ⟨a', cap', e, hc, hm, hn, hr⟩ := h
  simp only [Value.slice.injEq] at e
  obtain ⟨rfl, rfl, rfl⟩ := e
  have hl : (l.take k).length = k := by rw [List.length_take]; omega
  refine ⟨a, cap, by rw [hl], by omega, hm, hn, fun i hi => ?_⟩
  rw [List.getElem_take]
  exact hr i (by omega)
theorem RowS.drop {w : World} {b n cap : Nat} {l : List ByteArray} (h : RowS w (.slice (some ⟨b, 0, none⟩) n cap) l) (k : Nat) (hk : k ≤ n) : RowS w (.slice (some ⟨b, k, none⟩) (n - k) (cap - k)) (l.drop k) := by
  obtain ⟨a', cap', e, hc, hm, hn, hr⟩ := h
  simp only [Value.slice.injEq] at e
  obtain ⟨rfl, rfl, rfl⟩ := e
  have hl : (l.drop k).length = l.length - k := List.length_drop ..
  refine ⟨_, _, by rw [hl], by rw [hl]; omega, by omega, fun e => by (cases e), fun i hi => ?_⟩
  rw [List.getElem_drop]
  obtain ⟨b', o, e, hlt, hcell⟩ := hr (k + i) (by rw [hl] at hi; omega)
  simp only [Option.some.injEq, Addr.mk.injEq] at e
  obtain ⟨rfl, rfl, _⟩ := e
  rw [Nat.zero_add] at hcell
  exact ⟨b, k, rfl, hlt, hcell⟩
/-- What an append takes of it. -/
theorem RowS.news {w : World} {ad : Addr} {n cap : Nat} {l : List ByteArray} (h : RowS w (.slice (some ad) n cap) l) : n = l.length ∧ ∀ j u, (strsV l)[j]? = some u → w.cell? (ad.add j) = some u := by
  obtain ⟨a', cap', e, hc, hm, hn, hr⟩ := h
  simp only [Value.slice.injEq] at e
  obtain ⟨rfl, rfl, rfl⟩ := e
  refine ⟨rfl, fun j u hu => ?_⟩
  unfold strsV at hu
  rw [List.getElem?_map, Option.map_eq_some_iff] at hu
  obtain ⟨s, hs, rfl⟩ := hu
  obtain ⟨hj, rfl⟩ := List.getElem?_eq_some_iff.1 hs
  obtain ⟨b, o, e, _, hcell⟩ := hr j hj
  cases e
  simp only [Addr.add]
  split
  · rename_i hj0; subst hj0; exact hcell
  · exact hcell

set_option maxRecDepth 100000 in
set_option maxHeartbeats 400000 in
/-- The law's own texts: are two lists the same? -/
theorem texts_any (va vb : Value) (x y : List ByteArray) (w : World) (hx : RowS w va x) (hy : RowS w vb y) :
    Calls Tryd.prog 15 #[va, vb] w fun e w' => e = .returned (.bool (decide (x = y))) ∧ Below w.heap.size w w' := by
  obtain ⟨ax, cx, rfl, hcx, hmx, hnx, hrx⟩ := hx
  obtain ⟨ay, cy, rfl, hcy, hmy, hny, hry⟩ := hy
  by_cases hlen : x.length = y.length
  · have HRX := hide hrx
    have HRY := hide hry
    have HL := hide hlen
    obtain ⟨n, hn⟩ : ∃ n, n = x.length := ⟨_, rfl⟩
    rw [← hlen] at hcy ⊢
    rw [← hn] at hcx hcy ⊢
    have HN := hide hn
    have e0 : ((n : Int) != (n : Int)) = false := by simp
    clear hrx hry hlen hn
    go_enter Tryd.func15, Tryd.ntmps15
    go_wp2
    go_loopw [13] (fun t wr => ∃ k : Nat, k ≤ n ∧ t = .int .i64 (k : Int) ∧ Hid (x.take k = y.take k) ∧ Hid (Below w.heap.size w wr)) (fun t _ => n - (intOf t).toNat)
    case atStart => exact ⟨0, Nat.zero_le _, rfl, rfl, Below.refl _ _⟩
    case round =>
      obtain ⟨k, hk, rfl, HT, HW⟩ := hrel
      by_cases hkn : k < n
      · have hkx : k < x.length := by have := unhide HN; omega
        have hky : k < y.length := by have := unhide HL; omega
        obtain ⟨bx, ox, rfl, hbx, hcellx⟩ := unhide HRX k hkx
        obtain ⟨by', oy, rfl, hby, hcelly⟩ := unhide HRY k hky
        obtain ⟨xv, hxv⟩ : ∃ xv, xv = x[k] := ⟨_, rfl⟩
        obtain ⟨yv, hyv⟩ : ∃ yv, yv = y[k] := ⟨_, rfl⟩
        have c1 : wr.cell? ⟨bx, ox + k, none⟩ = some (.string xv) := by rw [(unhide HW).cell (p := ⟨bx, ox + k, none⟩) hbx, hcellx, hxv]
        have c2 : wr.cell? ⟨by', oy + k, none⟩ = some (.string yv) := by rw [(unhide HW).cell (p := ⟨by', oy + k, none⟩) hby, hcelly, hyv]
        have hkI : (k : Int) < (n : Int) := by omega
        by_cases he : xv = yv
        · have HT2 : Hid (x.take (k + 1) = y.take (k + 1)) := by
            show _ = _
            rw [List.take_succ_eq_append_getElem hkx, List.take_succ_eq_append_getElem hky, unhide HT, ← hxv, ← hyv, he]
          subst he
          clear hcellx hcelly hxv hyv hkx hky HT
          go_upto_region 6 with fail
          go_quiet (fail)
          go_wp2_with fail
          go_roundw
          case rel => exact ⟨k + 1, by omega, by go_num, HT2, below_drewN (unhide HW) _⟩
          case measure => simp [intOf]; omega
        · have HV : Hid (decide (x = y) = false) := by
            show _ = _
            rw [decide_eq_false_iff_not]
            intro e
            subst e
            exact he (hxv.trans hyv.symm)
          have e2 : (xv.toList == yv.toList) = false := by
            rw [beq_eq_false_iff_ne, Lib.toList_data, Lib.toList_data]
            intro e
            exact he (ByteArray.ext (Array.toList_inj.1 e))
          clear hcellx hcelly hxv hyv hkx hky HT he
          go_upto_region 6 with fail
          go_quiet (fail)
          go_wp2_with fail
          go_ret
          exact ⟨by rw [unhide HV]; rfl, below_drewN (unhide HW) _⟩
      · have HV : Hid (decide (x = y) = true) := by
          show _ = _
          rw [decide_eq_true_iff]
          have := unhide HT
          rw [List.take_of_length_le (by have := unhide HN; omega), List.take_of_length_le (by have := unhide HN; have := unhide HL; omega)] at this
          exact this
        go_wp2_with fail
        go_ret
        exact ⟨by rw [unhide HV]; rfl, unhide HW⟩
  · have HV : Hid (decide (x = y) = false) := by
      show _ = _
      rw [decide_eq_false_iff_not]
      intro e
      exact hlen (by rw [e])
    have e : ((x.length : Int) != (y.length : Int)) = true := by rw [bne_iff_ne]; omega
    rw [unhide HV]
    clear hlen HV hrx hry
    generalize x.length = nx at *
    generalize y.length = ny at *
    go_enter Tryd.func15, Tryd.ntmps15
    go_wp2
    go_ret
    exact ⟨rfl, Below.refl _ _⟩
end Go.Proofs.YtiooiacebgojiabDoor

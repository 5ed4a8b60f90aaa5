/- The document's own text of limbs: the walk. -/
import Derived.Test.YthcihkgellginaaDoorRefText
namespace Go.Proofs.YthcihkgellginaaDoor
open Go.RowKit

/-- Four bytes of a limb. -/
def four (x : Nat) : List Value := [Value.int .u8 (48 + (x : Int) / 1000), .int .u8 (48 + (x : Int) / 100 % 10), .int .u8 (48 + (x : Int) / 10 % 10), .int .u8 (48 + (x : Int) % 10)]

theorem byteCells_pad (l : List UInt8) (x : Nat) (h : x < 10000) : Lib.byteCells l ++ four x = Lib.byteCells (l ++ Cub.padn 4 x) := by
  rw [Lib.byteCells_append, Cub.pad4 x h]
  congr 1
  simp only [Lib.byteCells, List.map_cons, List.map_nil, four]
  rw [Cub.toNat_dig _ (by omega), Cub.toNat_dig _ (by omega), Cub.toNat_dig _ (by omega), Cub.toNat_dig _ (by omega)]
  rfl

/-- The same as the region spells them. -/
def fourW (x : Nat) : List Value := [Value.int .u8 (IntKind.u8.wrap (IntKind.i64.wrap (48 + IntKind.i64.wrap ((x : Int) / 1000)))), Value.int .u8 (IntKind.u8.wrap (IntKind.i64.wrap (48 + (IntKind.i64.wrap ((x : Int) / 100)).tmod 10))), Value.int .u8 (IntKind.u8.wrap (IntKind.i64.wrap (48 + (IntKind.i64.wrap ((x : Int) / 10)).tmod 10))), Value.int .u8 (IntKind.u8.wrap (IntKind.i64.wrap (48 + (x : Int).tmod 10)))]
theorem w64 (n : Int) (h0 : 0 ≤ n) (h1 : n ≤ 100000) : IntKind.i64.wrap n = n := IntWalk.i64_in _ ⟨by omega, by omega⟩
theorem w8 (n : Int) (h0 : 0 ≤ n) (h1 : n ≤ 255) : IntKind.u8.wrap n = n := by rw [IntKind.wrap_u8]; omega
theorem tm (n : Int) (h0 : 0 ≤ n) : n.tmod 10 = n % 10 := Int.tmod_eq_emod_of_nonneg h0
theorem fourW_eq (x : Nat) (h : x < 10000) : fourW x = four x := by
  unfold fourW four
  rw [w64 ((x : Int) / 1000) (by omega) (by omega), w64 ((x : Int) / 100) (by omega) (by omega), w64 ((x : Int) / 10) (by omega) (by omega), tm ((x : Int) / 100) (by omega), tm ((x : Int) / 10) (by omega), tm (x : Int) (by omega)]
  rw [w64 _ (by omega) (by omega), w64 _ (by omega) (by omega), w64 _ (by omega) (by omega), w64 _ (by omega) (by omega)]
  rw [w8 _ (by omega) (by omega), w8 _ (by omega) (by omega), w8 _ (by omega) (by omega), w8 _ (by omega) (by omega)]
theorem cells4 (W : World) (x : Nat) : ∀ j u, (fourW x)[j]? = some u → ((W.alloc (.cells #[Value.int .u8 (IntKind.u8.wrap (IntKind.i64.wrap (48 + IntKind.i64.wrap ((x : Int) / 1000)))), Value.int .u8 (IntKind.u8.wrap (IntKind.i64.wrap (48 + (IntKind.i64.wrap ((x : Int) / 100)).tmod 10))), Value.int .u8 (IntKind.u8.wrap (IntKind.i64.wrap (48 + (IntKind.i64.wrap ((x : Int) / 10)).tmod 10))), Value.int .u8 (IntKind.u8.wrap (IntKind.i64.wrap (48 + (x : Int).tmod 10)))] 5)).drew).cell? ((⟨W.heap.size, 0, none⟩ : Addr).add j) = some u := by
  intro j u hj
  rw [Lib.add_plain, Nat.zero_add]
  show (W.alloc _).cell? _ = _
  rw [World.cell?_alloc_at _ _ _ _ rfl]
  unfold fourW at hj
  simpa using hj

set_option maxRecDepth 100000 in
set_option maxHeartbeats 2000000 in
theorem refText_any (v : Value) (base : Nat) (l : List Nat) (w : World) (h : OwnI w base v l) (hn : Cub.normal 10000 l) (hl : l.length ≤ 1000000) :
    Calls Tryd.prog 76 #[v] w fun e w' => e = .returned (.string ⟨(Lib.decDigits (Cub.lval 10000 l)).toArray⟩) ∧ Below w.heap.size w w' := by
  obtain ⟨a, cap, rfl, hc, hm, hcells⟩ := h.open
  have HC := hide hcells
  have HN := hide hn
  obtain ⟨n, hnl⟩ : ∃ n, n = l.length := ⟨_, rfl⟩
  rw [← hnl] at hl hc ⊢
  have HL := hide hnl
  clear h hcells hn hnl
  by_cases h0 : n = 0
  · subst h0
    have hl0 : l = [] := List.length_eq_zero_iff.1 (unhide HL).symm
    have HE : Hid (Lib.decDigits (Cub.lval 10000 l) = [48]) := by rw [hl0]; exact (by decide +kernel : Lib.decDigits (Cub.lval 10000 []) = [48])
    rw [unhide HE]
    clear hl0
    go_enter Tryd.func76, Tryd.ntmps76
    go_wp2
    go_ret
    exact ⟨rfl, Below.refl _ _⟩
  · have hz : ((n : Int) == 0) = false := by rw [beq_eq_false_iff_ne]; omega
    obtain ⟨i5, hi5, hz50, hz51, hz52⟩ := info_parts Tryd.info5
    go_enter Tryd.func76, Tryd.ntmps76
    go_wp2_with (at_make; refine wpList_make_own _ rfl _ _ 54 rfl w.heap.size 5 i5 (.int .u8 0) 1 Tryd.underlying54 hi5 hz50 hz51 .i64 .i64 _ (4 * n) rfl rfl (by omega) (by rw [hz52]; omega) (by unfold maxLen; omega) (Nat.le_refl _) ?_; intro w3 hown3 hgrow3)
    have hb3 : Below w.heap.size w w3 := (Below.refl _ _).grown hgrow3 (Nat.le_refl _) (fun k hk => by cases hk)
    have hst : w3.ownsRow w.heap.size 5 1 (.slice (some ⟨w.heap.size, 0, none⟩) 0 (4 * n)) 0 (Lib.byteCells []) := hown3
    clear hown3 hgrow3
    go_loopw [3, 4] (fun v i wr => ∃ (j : Nat) (P : List UInt8), j ≤ n ∧ i = .int .i64 ((j : Int) - 1) ∧ Hid (P.length = 4 * (n - j)) ∧ Hid (P = Cub.padAll (l.drop j)) ∧ wr.ownsRow w.heap.size 5 1 v P.length (Lib.byteCells P) ∧ Below w.heap.size w wr) (fun _ i _ => (intOf i + 1).toNat)
    case atStart => exact ⟨n, [], Nat.le_refl _, rfl, by rw [Nat.sub_self]; exact rfl, by rw [List.drop_of_length_le (by have := unhide HL; omega)]; exact rfl, hst, hb3⟩
    case round =>
      obtain ⟨j, P, hj, rfl, HPl, HP, hown, hb⟩ := hrel
      have hP2 : P.length ≤ 4 * (n - j) := by have := unhide HPl; omega
      clear hst hb3
      by_cases hj0 : j = 0
      · subst hj0
        have hnm := unhide HN
        have HV : Hid (Cub.dval P = Cub.lval 10000 l) := by rw [unhide HP, List.drop_zero, Cub.padAll_val l hnm.1]; exact rfl
        have hdg : Cub.digs P := by rw [unhide HP]; exact Cub.padAll_digs _
        have hpos : 0 < Cub.dval P := by
          rw [unhide HV]
          rcases Nat.eq_zero_or_pos (Cub.lval 10000 l) with h | h
          · have := (Cub.normal_zero hnm (by decide)).1 h
            have h2 := unhide HL
            rw [this] at h2; simp at h2; omega
          · exact h
        obtain ⟨jd, hjd, hne⟩ := Cub.some_digit P hpos
        have hP4 : P.length = 4 * n := by have := unhide HPl; omega
        obtain ⟨g, cg, rfl⟩ := Joins.ownsRow_form hown (by omega)
        have HCell : Hid (∀ q (hq : q < P.length), wr.cell? ⟨g, q, none⟩ = some (.int .u8 (P[q].toNat : Int))) := fun q hq => by
          rw [hown.cellAt q (by simpa using hq)]
          simp [Lib.byteCells, hq]
        obtain ⟨_, hcg, hcm⟩ : True ∧ P.length ≤ cg ∧ cg ≤ 9223372036854775807 := by
          rcases hown.2 with ⟨e, _⟩ | ⟨g', c', cur, e, _, _, hcap, hmax, _⟩
          · simp at e
          · simp only [Value.slice.injEq] at e; obtain ⟨_, _, rfl⟩ := e; exact ⟨trivial, hcap, hmax⟩
        have HDg := hide hdg
        have HNe := hide hne
        have hP5 : P.length ≤ 4 * n := by omega
        clear hnm hdg hpos hne hown hP2 hP4
        go_wp2
        go_loop [5] (fun t => ∃ k : Nat, k ≤ jd ∧ t = .int .i64 (k : Int) ∧ Hid (∀ q (hq : q < P.length), q < k → P[q] = 48)) (fun t => jd - (intOf t).toNat)
        case atStart => exact ⟨0, Nat.zero_le _, rfl, fun q _ h => absurd h (Nat.not_lt_zero _)⟩
        case round =>
          obtain ⟨k, hk, rfl, HK⟩ := hrel
          have hkP : k < P.length := by omega
          have hx := unhide HCell k hkP
          by_cases h48 : P[k] = 48
          · have hkj : k < jd := by
              rcases Nat.lt_or_ge k jd with h | h
              · exact h
              · exfalso
                have e : k = jd := by omega
                subst e
                exact unhide HNe h48
            have HK' : Hid (∀ q (hq : q < P.length), q < k + 1 → P[q] = 48) := fun q hq h => by
              by_cases e : q < k
              · exact unhide HK q hq e
              · have : q = k := by omega
                subst this; exact h48
            have h48' : ((P[k].toNat : Int) == 48) = true := by rw [beq_iff_eq]; exact (byte_48 _).2 h48
            clear h48
            go_wp2
            go_round
            case rel => exact ⟨k + 1, by omega, by go_num, HK'⟩
            case measure => simp [intOf]; omega
          · have h48' : ((P[k].toNat : Int) == 48) = false := by rw [beq_eq_false_iff_ne]; exact fun h => h48 ((byte_48 _).1 h)
            have HE : Hid (P.drop k = Lib.decDigits (Cub.lval 10000 l)) := by rw [← unhide HV]; exact Cub.strip_noughts P k hkP (unhide HDg) (unhide HK) h48
            have hcv := run_convert_bytes_back (P := Tryd.prog) wr 54 9 5 ⟨g, k, none⟩ (cg - k) (P.drop k) Tryd.underlying54 Tryd.underlying5 Tryd.underlying9 (fun q hq => by
              rw [Lib.add_plain, unhide HCell (k + q) (by rw [List.length_drop] at hq; omega), List.getElem_drop])
            rw [List.length_drop] at hcv
            clear h48
            go_wp2
            go_ret
            exact ⟨by rw [← unhide HE]; rfl, hb⟩
      · obtain ⟨i, rfl⟩ : ∃ i, j = i + 1 := ⟨j - 1, by omega⟩
        have hil : i < l.length := by have := unhide HL; omega
        obtain ⟨d, hd⟩ : ∃ d, d = l[i] := ⟨_, rfl⟩
        have hdB : d < 10000 := by rw [hd]; exact (unhide HN).1 _ (List.getElem_mem hil)
        obtain ⟨b, rfl, hx⟩ := unhide HC wr hb i hil
        rw [← hd] at hx
        have HD := hide hd
        have hin : (i : Int) < (n : Int) := by omega
        have hbw : b < wr.heap.size := World.block_lt_of_cell? wr ⟨b, i, none⟩ hx
        have hbo : some b ≠ u3.ownBlock := by
          intro e
          obtain ⟨b', eb, hx'⟩ := unhide HC w (Below.refl _ _) i hil
          simp only [Option.some.injEq, Addr.mk.injEq] at eb
          have h1 := World.block_lt_of_cell? w ⟨b', i, none⟩ hx'
          have h2 := (hown.lt b e.symm).1
          have h3 : b' < w.heap.size := h1
          omega
        have hl1 : P.length + 4 ≤ maxLen := by unfold maxLen; omega
        have hl2 : (P.length + 4) * 1 ≤ 140737488355328 := by omega
        have hl3 : w.heap.size ≤ wr.heap.size := hb.size
        have hl4 : ∀ W : World, w.heap.size ≤ wr.heap.size → W.heap.size = wr.heap.size → ∀ o, w.heap.size ≤ (W.alloc o).heap.size := fun W h1 h2 o => by simp; omega
        have hone : ∀ u ∈ fourW d, u.oneCell' = true := by
          intro u hu
          simp only [fourW, List.mem_cons, List.not_mem_nil, or_false] at hu
          rcases hu with rfl | rfl | rfl | rfl <;> rfl
        clear hd hj0
        rw [show (((i + 1 : Nat) : Int) - 1) = (i : Int) from by omega]
        go_wp2
        go_region_held_law (fun w' => w'.cell? ⟨b, i, none⟩ = some (.int .i64 (d : Int))) (first | go_keep | exact hgrow.cell (by simp [*]) hbo) (first | (refine step_append_own rfl _ _ 54 rfl w.heap.size 5 i5 (.int .u8 0) 1 1 Tryd.underlying54 hi5 hz50 hz51 hz52 rfl (by decide) _ _ _ rfl (hown.alloc _).drew ⟨wr.heap.size, 0, none⟩ 4 4 (fourW d) rfl rfl (cells4 _ _) hone hl1 hl2 (hl4 _ hl3 rfl _) ?_; intro v' w1 hown' hgrow))
        have hsz1 : w.heap.size ≤ w1.heap.size := by have := hgrow.size; simp at this; omega
        have hb1 : Below w.heap.size w w1 := ((hb.alloc hb.size _).drew).grown hgrow (by simp; omega) (fun k hk => (hown.lt k hk).1)
        have hownN : w1.ownsRow w.heap.size 5 1 v' (P ++ Cub.padn 4 d).length (Lib.byteCells (P ++ Cub.padn 4 d)) := by
          rw [← byteCells_pad P d hdB, ← fourW_eq d hdB]
          rw [List.length_append, Cub.padn_length]
          exact hown'
        have HPN : Hid (P ++ Cub.padn 4 d = Cub.padAll (l.drop i)) := by
          rw [Cub.padAll_drop l i hil, ← unhide HP, ← unhide HD]; exact rfl
        have HPLN : Hid ((P ++ Cub.padn 4 d).length = 4 * (n - i)) := by
          rw [List.length_append, Cub.padn_length]; have := unhide HPl; exact (by omega : P.length + 4 = 4 * (n - i))
        clear hown' hgrow hown hb hone hl1 hl2 hl3 hl4 hx
        go_wp2
        go_roundw
        case rel => exact ⟨i, P ++ Cub.padn 4 d, by omega, rfl, HPLN, HPN, hownN, hb1⟩
        case measure => simp [intOf]
end Go.Proofs.YthcihkgellginaaDoor

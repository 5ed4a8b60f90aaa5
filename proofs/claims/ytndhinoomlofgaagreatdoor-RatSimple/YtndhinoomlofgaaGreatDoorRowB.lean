/- Rows of numbers in memory: a row of boxes that hold no integer. -/
import Derived.Test.YtndhinoomlofgaaGreatDoorFrCf
import Derived.Test.YtndhinoomlofgaaGreatDoorOne
import Derived.Laws.AppendOwnNone
import Derived.OwnWalk
namespace Go.Proofs.YtndhinoomlofgaaGreatDoor
open Go.RowKit

set_option maxRecDepth 100000 in
set_option maxHeartbeats 4000000 in
theorem between_whole (ta tb' tc td tq : ByteArray) (tr : ByteArray) (w : World) (hr : (tr.toList == [48]) = true)
    (h1 : ∀ W, Calls Tryz.prog 121 #[.string ta, .string tb'] W fun e w' => e = .returned (.tuple #[.string tq, .string tr]) ∧ Below W.heap.size W w') :
    Calls Tryz.prog 119 #[.string ta, .string tb', .string tc, .string td] w fun r w' => r = .returned (.tuple #[.string tq, .string ⟨#[49]⟩]) ∧ Below w.heap.size w w' := by
  have H1 := hide h1
  clear h1
  go_enter Tryz.func119, Tryz.ntmps119
  go_wp2_with (go_at_call 121; go_must (refine (unhide H1 _).mono ?_; rintro e w1 ⟨rfl, hb1⟩; have HE := hide hb1; clear hb1))
  exact bodyPost_ret (v := .tuple #[.string tq, .string ⟨#[49]⟩]) (by simp [results, Tryz.results119, go_sem]) rfl ⟨rfl, unhide HE⟩

set_option maxRecDepth 100000 in
set_option maxHeartbeats 4000000 in
theorem between_least (ta tb' tc td tq tr tn tm : ByteArray) (k : Int) (w : World) (hr : (tr.toList == [48]) = false) (hk : k ≤ 0)
    (h1 : ∀ W, Calls Tryz.prog 121 #[.string ta, .string tb'] W fun e w' => e = .returned (.tuple #[.string tq, .string tr]) ∧ Below W.heap.size W w')
    (h2 : ∀ W, Calls Tryz.prog 122 #[.string tq, .string ⟨#[49]⟩] W fun e w' => e = .returned (.string tn) ∧ Below W.heap.size W w')
    (h3 : ∀ W, Calls Tryz.prog 125 #[.string tn, .string td] W fun e w' => e = .returned (.string tm) ∧ Below W.heap.size W w')
    (h4 : ∀ W, Calls Tryz.prog 126 #[.string tm, .string tc] W fun e w' => e = .returned (.int .i64 k) ∧ w' = W) :
    Calls Tryz.prog 119 #[.string ta, .string tb', .string tc, .string td] w fun r w' => r = .returned (.tuple #[.string tn, .string ⟨#[49]⟩]) ∧ Below w.heap.size w w' := by
  have H1 := hide h1; have H2 := hide h2; have H3 := hide h3; have H4 := hide h4
  clear h1 h2 h3 h4
  go_enter Tryz.func119, Tryz.ntmps119
  go_wp2_with (first
    | (go_at_call 121; go_must (refine (unhide H1 _).mono ?_; rintro e w1 ⟨rfl, hb1⟩; have HB1 := hide hb1; clear hb1))
    | (go_at_call 122; go_must (refine (unhide H2 _).mono ?_; rintro e w2 ⟨rfl, hb2⟩; have HB2 := hide ((unhide HB1).trans (hb2.mono (unhide HB1).size)); clear hb2))
    | (go_at_call 125; go_must (refine (unhide H3 _).mono ?_; rintro e w3 ⟨rfl, hb3⟩; have HB3 := hide ((unhide HB2).trans (hb3.mono (unhide HB2).size)); clear hb3))
    | (go_at_call 126; go_must (refine (unhide H4 _).mono ?_; rintro e w4 ⟨rfl, hw4⟩; obtain rfl : w3 = w4 := hw4.symm)))
  exact bodyPost_ret (v := .tuple #[.string tn, .string ⟨#[49]⟩]) (by simp [results, Tryz.results119, go_sem]) rfl ⟨rfl, unhide HB3⟩

set_option maxRecDepth 100000 in
set_option maxHeartbeats 4000000 in
theorem between_on (ta tb' tc td tq tr tn tm t2 to' xn xm ty tz : ByteArray) (k : Int) (w : World) (hr : (tr.toList == [48]) = false) (hk : ¬ k ≤ 0)
    (h1 : ∀ W, Calls Tryz.prog 121 #[.string ta, .string tb'] W fun e w' => e = .returned (.tuple #[.string tq, .string tr]) ∧ Below W.heap.size W w')
    (h2 : ∀ W, Calls Tryz.prog 122 #[.string tq, .string ⟨#[49]⟩] W fun e w' => e = .returned (.string tn) ∧ Below W.heap.size W w')
    (h3 : ∀ W, Calls Tryz.prog 125 #[.string tn, .string td] W fun e w' => e = .returned (.string tm) ∧ Below W.heap.size W w')
    (h4 : ∀ W, Calls Tryz.prog 126 #[.string tm, .string tc] W fun e w' => e = .returned (.int .i64 k) ∧ w' = W)
    (h5 : ∀ W, Calls Tryz.prog 125 #[.string tq, .string td] W fun e w' => e = .returned (.string t2) ∧ Below W.heap.size W w')
    (h6 : ∀ W, Calls Tryz.prog 123 #[.string tc, .string t2] W fun e w' => e = .returned (.string to') ∧ Below W.heap.size W w')
    (h7 : ∀ W, Calls Tryz.prog 119 #[.string td, .string to', .string tb', .string tr] W fun e w' => e = .returned (.tuple #[.string xn, .string xm]) ∧ Below W.heap.size W w')
    (h8 : ∀ W, Calls Tryz.prog 125 #[.string tq, .string xn] W fun e w' => e = .returned (.string ty) ∧ Below W.heap.size W w')
    (h9 : ∀ W, Calls Tryz.prog 122 #[.string ty, .string xm] W fun e w' => e = .returned (.string tz) ∧ Below W.heap.size W w') :
    Calls Tryz.prog 119 #[.string ta, .string tb', .string tc, .string td] w fun r w' => r = .returned (.tuple #[.string tz, .string xn]) ∧ Below w.heap.size w w' := by
  have H1 := hide h1; have H2 := hide h2; have H3 := hide h3; have H4 := hide h4; have H5 := hide h5; have H6 := hide h6; have H7 := hide h7; have H8 := hide h8; have H9 := hide h9
  clear h1 h2 h3 h4 h5 h6 h7 h8 h9
  go_enter Tryz.func119, Tryz.ntmps119
  go_upto_region 5 with (first
    | (go_at_call 121; go_must (refine (unhide H1 _).mono ?_; rintro e w1 ⟨rfl, hb1⟩; have HB1 := hide hb1; clear hb1))
    | (go_at_call 122; go_must (refine (unhide H2 _).mono ?_; rintro e w2 ⟨rfl, hb2⟩; have HB2 := hide ((unhide HB1).trans (hb2.mono (unhide HB1).size)); clear hb2)))
  go_upto_region 7 with (first
    | (go_at_call 125; go_must (refine (unhide H3 _).mono ?_; rintro e w3 ⟨rfl, hb3⟩; have HB3 := hide ((unhide HB2).trans (hb3.mono (unhide HB2).size)); clear hb3))
    | (go_at_call 126; go_must (refine (unhide H4 _).mono ?_; rintro e w4 ⟨rfl, hw4⟩; obtain rfl : w3 = w4 := hw4.symm)))
  go_upto_region 8 with (first
    | (go_at_call 125; go_must (refine (unhide H5 _).mono ?_; rintro e w5 ⟨rfl, hb5⟩; have HB5 := hide ((unhide HB3).trans (hb5.mono (unhide HB3).size)); clear hb5))
    | (go_at_call 123; go_must (refine (unhide H6 _).mono ?_; rintro e w6 ⟨rfl, hb6⟩; have HB6 := hide ((unhide HB5).trans (hb6.mono (unhide HB5).size)); clear hb6))
    | (go_at_call 119; go_must (refine (unhide H7 _).mono ?_; rintro e w7 ⟨rfl, hb7⟩; have HB7 := hide ((unhide HB6).trans (hb7.mono (unhide HB6).size)); clear hb7)))
  go_wp2_with (first
    | (go_at_call 125; go_must (refine (unhide H8 _).mono ?_; rintro e w8 ⟨rfl, hb8⟩; have HB8 := hide ((unhide HB7).trans (hb8.mono (unhide HB7).size)); clear hb8))
    | (go_at_call 122; go_must (refine (unhide H9 _).mono ?_; rintro e w9 ⟨rfl, hb9⟩; have HB9 := hide ((unhide HB8).trans (hb9.mono (unhide HB8).size)); clear hb9)))
  exact bodyPost_ret (v := .tuple #[.string tz, .string xn]) (by simp [results, Tryz.results119, go_sem]) rfl ⟨rfl, unhide HB9⟩
theorem tx_b0 (n : Nat) : ((tx n).toList == [48]) = decide (n = 0) := by
  rw [Bool.eq_iff_iff, beq_iff_eq, decide_eq_true_iff]; exact tx_is0 n
theorem cmpN_le {m n : Nat} : Cub.cmpN m n ≤ 0 ↔ m ≤ n := by
  unfold Cub.cmpN
  split
  · constructor <;> intro _ <;> omega
  · split
    · constructor <;> intro _ <;> omega
    · constructor <;> intro _ <;> omega
theorem next_le {a b c d : Nat} (hd : 0 < d) : (a / b + 1) * d ≤ c ↔ a / b < c / d := by rw [← Nat.le_div_iff_mul_le hd]; exact Iff.rfl
/-- Both numbers have at most E digits. -/
theorem between_any {a b c d : Nat} {ts : List Nat} (E : Nat) (h1 : 1 ≤ E) (h2 : E + E ≤ 5000) (r : Cub.CF a b c d ts) : Cub.Ord a b c d → a < 10 ^ E → b < 10 ^ E → c < 10 ^ E → d < 10 ^ E →
    ∀ w, Calls Tryz.prog 119 #[.string (tx a), .string (tx b), .string (tx c), .string (tx d)] w fun e w' => e = .returned (.tuple #[.string (tx (Cub.pr ts).1), .string (tx (Cub.pr ts).2)]) ∧ Below w.heap.size w w' := by
  have hE : ∀ m, m < 10 ^ E → m < 10 ^ (E + E) := fun m hm => Nat.lt_of_lt_of_le hm (Nat.pow_le_pow_right (by decide) (by omega))
  have hM : ∀ m n, m < 10 ^ E → n < 10 ^ E → m * n < 10 ^ (E + E) := fun m n hm hn => by rw [Nat.pow_add]; exact Nat.mul_lt_mul'' hm hn
  have h1E : 1 < 10 ^ E := Nat.one_lt_pow (by omega) (by decide)
  induction r with
  | whole h =>
    rename_i a b c d
    intro o ha hb hc hd w
    have hD := fun W => refDivideM E a b W h1 (by omega) ha hb o.b0
    have := between_whole (tx a) (tx b) (tx c) (tx d) (tx (a / b)) (tx (a % b)) w (by rw [tx_b0, decide_eq_true h]) hD
    simp only [Cub.pr, Nat.mul_one, Nat.add_zero]
    rw [tx_oneP]
    exact this
  | least h hl =>
    rename_i a b c d
    intro o ha hb hc hd w
    have hD := fun W => refDivideM E a b W h1 (by omega) ha hb o.b0
    have hq : a / b + 1 < 10 ^ E := by
      have := Nat.div_le_self c d
      exact Nat.lt_of_le_of_lt (Nat.succ_le_of_lt hl) (Nat.lt_of_le_of_lt this hc)
    have hP := fun W => refPlusM E (a / b) 1 W h1 (by omega) (by omega) h1E
    rw [tx_oneP] at hP
    have hT := fun W => refTimesM E (a / b + 1) d W h1 (by omega) hq hd
    have := between_least (tx a) (tx b) (tx c) (tx d) (tx (a / b)) (tx (a % b)) _ _ _ w (by rw [tx_b0, decide_eq_false h]) (cmpN_le.2 ((next_le o.d0).2 hl)) hD hP hT (fun W => refCompareM _ _ W)
    simp only [Cub.pr, Nat.mul_one, Nat.add_zero]
    rw [tx_oneP]
    exact this
  | on h hl r ih =>
    rename_i a b c d ts
    intro o ha hb hc hd w
    obtain ⟨o2, e, l1, l2⟩ := o.on h hl
    have hbd := r.bound o2
    have hD := fun W => refDivideM E a b W h1 (by omega) ha hb o.b0
    have hqa : a / b < 10 ^ E := Nat.lt_of_le_of_lt (Nat.div_le_self a b) ha
    have hP := fun W => refPlusM E (a / b) 1 W h1 (by omega) hqa h1E
    rw [tx_oneP] at hP
    have hq2 : a / b + 1 < 10 ^ (E + E) := by
      have h3 : a / b + 1 ≤ 10 ^ E := hqa
      have h4 : 10 ^ E < 10 ^ (E + E) := Nat.pow_lt_pow_right (by decide) (by omega)
      omega
    have hT := fun W => refTimesM (E + E) (a / b + 1) d W (by omega) (by omega) hq2 (hE _ hd)
    have hT2 := fun W => refTimesM E (a / b) d W h1 (by omega) hqa hd
    have hm : a / b * d ≤ c := by rw [e]; exact Nat.div_mul_le_self c d
    have hMi := fun W => refMinusM E c (a / b * d) W h1 (by omega) hc (Nat.lt_of_le_of_lt hm hc) hm
    have ho : c - a / b * d = c % d := by
      have := Nat.div_add_mod c d
      rw [e, Nat.mul_comm]; omega
    rw [ho] at hMi
    have h7 := fun W => ih o2 hd (by omega) hb (by omega) W
    have hn : (Cub.pr ts).1 < 10 ^ E := Nat.lt_of_le_of_lt hbd.1 hd
    have hT8 := fun W => refTimesM E (a / b) (Cub.pr ts).1 W h1 (by omega) hqa hn
    have h9 := fun W => refPlusM (E + E) (a / b * (Cub.pr ts).1) (Cub.pr ts).2 W (by omega) (by omega) (hM _ _ hqa hn) (hE _ (by omega))
    exact between_on (tx a) (tx b) (tx c) (tx d) (tx (a / b)) (tx (a % b)) _ _ _ _ _ _ _ _ _ w (by rw [tx_b0, decide_eq_false h]) (fun hh => hl ((next_le o.d0).1 (cmpN_le.1 hh))) hD hP hT (fun W => refCompareM _ _ W) hT2 hMi h7 hT8 h9
end Go.Proofs.YtndhinoomlofgaaGreatDoor

namespace Go.Proofs.YtndhinoomlofgaaGreatDoor
open Go.RowKit

theorem info72 : (Tryz.prog.info? 72).map (fun i => (i.zero, i.size, i.bytes)) = some (some (.agg #[.slice none 0 0]), 1, 24) := by kernel_rfl
theorem under126 : Tryz.prog.underlying 126 = some (.slice 72) := by kernel_rfl
def NoInt (u : Value) : Prop := ∀ k m, u ≠ .int k m
/-- The call owns a row whose block holds no integer. -/
def OwnN (w : World) (base : Nat) (v : Value) (xs : List Value) : Prop :=
  (v = .slice none 0 0 ∧ xs = []) ∨ ∃ g cap cur, v = .slice (some ⟨g, 0, none⟩) xs.length cap ∧ base ≤ g ∧ w.heap[g]? = some (.cells cur 72 (0, 0)) ∧ xs.length ≤ cap ∧ cap ≤ maxLen ∧ cur.size = cap ∧ cur.toList.take xs.length = xs ∧ ∀ u ∈ cur.toList, NoInt u
theorem OwnN.nil (w : World) (base : Nat) : OwnN w base (.slice none 0 0) [] := Or.inl ⟨rfl, rfl⟩
theorem OwnN.row {w : World} {base : Nat} {v : Value} {xs : List Value} (h : OwnN w base v xs) : w.ownsRow base 72 1 v xs.length xs := by
  rcases h with ⟨rfl, rfl⟩ | ⟨g, cap, cur, rfl, h1, h2, h3, h4, h5, h6, _⟩
  · exact World.ownsRow_nil _ _ _ _
  · exact ⟨by rw [Nat.mul_one], Or.inr ⟨g, cap, cur, rfl, h1, h2, h3, h4, by rw [Nat.mul_one]; exact h5, by rw [Nat.mul_one]; exact h6⟩⟩
theorem OwnN.later {w w' : World} {base : Nat} {v : Value} {xs : List Value} (h : OwnN w base v xs) (hb : Below w.heap.size w w') : OwnN w' base v xs := by
  rcases h with h | ⟨g, cap, cur, h0, h1, h2, r⟩
  · exact Or.inl h
  · exact Or.inr ⟨g, cap, cur, h0, h1, (hb.block g (Array.getElem?_eq_some_iff.1 h2).1).trans h2, r⟩
theorem OwnN.lt {w : World} {base : Nat} {v : Value} {xs : List Value} (h : OwnN w base v xs) : ∀ k, v.ownBlock = some k → base ≤ k ∧ k < w.heap.size := h.row.lt
/-- A store into a block that is not the row's leaves it. -/
theorem OwnN.other {w : World} {base : Nat} {v : Value} {xs : List Value} (h : OwnN w base v xs) (p : Addr) (u : Value) (hp : p.block < base) : OwnN (w.setCell p u) base v xs := by
  rcases h with h | ⟨g, cap, cur, h0, h1, h2, r⟩
  · exact Or.inl h
  · refine Or.inr ⟨g, cap, cur, h0, h1, ?_, r⟩
    rw [← h2]
    exact heap_setCell_other _ _ _ _ (by omega)
theorem OwnN.cells {w : World} {base : Nat} {v : Value} {xs : List Value} (h : OwnN w base v xs) (i : Nat) (hi : i < xs.length) : ∃ g cap, v = .slice (some ⟨g, 0, none⟩) xs.length cap ∧ xs.length ≤ cap ∧ cap ≤ maxLen ∧ w.cell? ⟨g, i, none⟩ = some xs[i] := by
  rcases h with ⟨rfl, rfl⟩ | ⟨g, cap, cur, h0, h1, h2, h3, h4, h5, h6, h7⟩
  · exact absurd hi (by simp)
  · subst h0
    refine ⟨g, cap, rfl, h3, h4, ?_⟩
    have hr : w.ownsRow base 72 1 (.slice (some ⟨g, 0, none⟩) xs.length cap) xs.length xs := OwnN.row (Or.inr ⟨g, cap, cur, rfl, h1, h2, h3, h4, h5, h6, h7⟩)
    have := hr.cells (g := g) rfl i xs[i] (List.getElem?_eq_getElem hi)
    simpa [Addr.add_lit] using this
/-- A number's limbs lie elsewhere. -/
theorem IsBig.apart {w w' : World} {v : Value} {n : Nat} {row : Option Nat} (h : IsBig w v n) (hg : w.grownBy w' row) (hr : ∀ g, row = some g → ∃ cur, w.heap[g]? = some (.cells cur 72 (0, 0)) ∧ ∀ u ∈ cur.toList, NoInt u) : IsBig w' v n := by
  obtain ⟨s, l, rfl, ⟨a, cap, rfl, hc, hm, hrow⟩, hn, hv⟩ := h
  refine ⟨_, l, rfl, ⟨a, cap, rfl, hc, hm, fun hne => ?_⟩, hn, hv⟩
  obtain ⟨b, o, rfl, hlt, hcell⟩ := hrow hne
  have hl0 : 0 < l.length := List.length_pos_iff.2 hne
  have hb : some b ≠ row := by
    intro e
    obtain ⟨cur, hcur, hno⟩ := hr b e.symm
    have h0 := hcell 0 hl0
    rw [World.cell?] at h0
    simp only [hcur] at h0
    have h1 : cur[o]? = some (.int .u64 (l[0] : Int)) := by simpa using h0
    exact hno _ (Array.mem_toList_iff.2 (Array.mem_of_getElem? h1)) _ _ rfl
  obtain ⟨_, _, _, h4, h5⟩ := hg
  refine ⟨b, o, rfl, by omega, fun i hi => ?_⟩
  rw [← hcell i hi]
  exact World.cell?_of_block (a := ⟨b, o + i, none⟩) (h5 b hlt hb)

theorem zero_no (n : Nat) : ∀ u ∈ (Builtin.zeroCells (Value.agg #[.slice none 0 0]).cells n).toList, NoInt u := by
  intro u hu k m e
  subst e
  simp [Builtin.zeroCells, Value.cells, Nat.mod_one] at hu
theorem run_appendN {w : World} (base : Nat) (i : TypeInfo) (hi : Tryz.prog.info? 72 = some i) (hz : i.zero = some (.agg #[.slice none 0 0])) (hs : i.size = 1) (hby : i.bytes = 24) (ty : TypeId)
    (v : Value) (xs : List Value) (hown : OwnN w base v xs) (ad : Addr) (c : Nat) (x : Value) (hx : w.cell? ad = some x) (h1 : x.oneCell' = true) (hno : NoInt x) (hl : xs.length ≤ 1000000) (hbase : base ≤ w.heap.size) (had : ad.add 0 = ad) :
    ∃ v' w', (Builtin.append_ #[126, 126] ty #[v, .slice (some ad) 1 c]).run Tryz.prog w = .ok v' w' ∧ OwnN w' base v' (xs ++ [x]) ∧ w.grownBy w' v.ownBlock := by
  have hnews : ∀ j u, [x][j]? = some u → w.cell? (ad.add j) = some u := fun j u hu => by
    cases j with
    | zero => simp at hu; subst hu; rw [had]; exact hx
    | succ j => simp at hu
  have hone : ∀ u ∈ [x], u.oneCell' = true := fun u hu => by rw [List.mem_singleton.1 hu]; exact h1
  have hln : [x].length = 1 * i.size := by rw [hs]; rfl
  have mk : ∀ old, ∃ cap, grownCap w (xs.length + 1) old 72 = cap ∧ xs.length + 1 ≤ cap ∧ cap ≤ maxLen := fun old =>
    ⟨_, rfl, grownCap_ge _ _ _ _, grownCap_le_maxLen _ _ _ _ (by simp only [maxLen]; omega)⟩
  have fin : ∀ cap, xs.length + 1 ≤ cap → cap ≤ maxLen → OwnN (w.drew.alloc (.cells (xs.toArray ++ [x].toArray ++ Builtin.zeroCells (Value.agg #[.slice none 0 0]).cells (cap - (xs.length + 1))) 72)) base (.slice (some ⟨w.heap.size, 0, none⟩) (xs.length + 1) cap) (xs ++ [x]) ∨ ¬ ∀ u ∈ xs, NoInt u := fun cap h2 h3 => by
    by_cases hxs : ∀ u ∈ xs, NoInt u
    · refine Or.inl (Or.inr ⟨w.heap.size, cap, _, by simp, hbase, heap_alloc_new w.drew _, by simpa using h2, h3, ?_, ?_, ?_⟩)
      · simp only [Array.size_append, List.size_toArray, size_zeroCells, List.length_singleton]
        have : (Value.agg #[.slice none 0 0]).cells.size = 1 := rfl
        rw [this]; omega
      · simp only [Array.toList_append, List.length_append, List.length_singleton]
        rw [← List.length_singleton (a := x), ← List.length_append]
        exact List.take_left
      · intro u hu
        simp only [Array.toList_append, List.mem_append] at hu
        rcases hu with (hu | hu) | hu
        · exact hxs u hu
        · rw [List.mem_singleton.1 hu]; exact hno
        · exact zero_no _ u hu
    · exact Or.inr hxs
  have hgr : ∀ (o : Obj) (row : Option Nat), w.grownBy (w.drew.alloc o) row := fun o row => ⟨rfl, rfl, rfl, by simp, fun k hk _ => heap_alloc_old w.drew o hk⟩
  rcases hown with ⟨rfl, rfl⟩ | ⟨g, cap, cur, rfl, hbg, hg, hnc, hcm, hcs, htake, hni⟩
  · have hr := run_append_nil (P := Tryz.prog) w 126 ty 72 i _ under126 hi hz ad 1 c [x] hln hnews (by decide) (by decide) (by rw [hby]; decide)
    obtain ⟨cp, e, c1, c2⟩ := mk 0
    simp only [List.length_nil, Nat.zero_add] at e
    rw [e] at hr
    rcases fin cp c1 c2 with hf | hf
    · exact ⟨_, _, hr, by simpa using hf, hgr _ _⟩
    · exact absurd (fun u hu => by cases hu) hf
  · have hxs : ∀ u ∈ xs, NoInt u := fun u hu => hni u (List.mem_of_mem_take (by rw [htake]; exact hu))
    by_cases hroom : xs.length + 1 ≤ cap
    · have hfit : xs.length * i.size + [x].length ≤ cur.size := by rw [hs, hcs]; simpa using hroom
      have hr := run_append_room (P := Tryz.prog) w 126 ty 72 i under126 hi g xs.length cap cur hg ad 1 c [x] hln hnews hone hroom hfit
      rw [hs, Nat.mul_one] at hr
      refine ⟨_, _, hr, Or.inr ⟨g, cap, _, by simp, hbg, setRow_heap w g cur _ 72 _ hg, by simpa using hroom, hcm, ?_, ?_, ?_⟩, ⟨rfl, rfl, rfl, by simp, fun k _ hk => setRow_other w g k _ (fun e => hk (by simp [Value.ownBlock, e]))⟩⟩
      · simp only [List.size_toArray, List.length_append, List.length_take, List.length_drop, Array.length_toList, List.length_singleton]
        omega
      · rw [htake, List.length_append]
        show List.take (xs.length + [x].length) (xs ++ [x] ++ List.drop (xs.length + [x].length) cur.toList) = xs ++ [x]
        rw [← List.length_append]
        exact List.take_left
      · intro u hu
        simp only [List.mem_append] at hu
        rcases hu with (hu | hu) | hu
        · rw [htake] at hu; exact hxs u hu
        · rw [List.mem_singleton.1 hu]; exact hno
        · exact hni u (List.mem_of_mem_drop hu)
    · have hown' : w.ownsRow base 72 1 (.slice (some ⟨g, 0, none⟩) xs.length cap) xs.length xs := OwnN.row (Or.inr ⟨g, cap, cur, rfl, hbg, hg, hnc, hcm, hcs, htake, hni⟩)
      have holds : ∀ j u, xs[j]? = some u → w.cell? ((⟨g, 0, none⟩ : Addr).add j) = some u := hown'.cells (g := g) rfl
      have hr := run_append_grow (P := Tryz.prog) w 126 ty 72 i _ under126 hi hz ⟨g, 0, none⟩ xs.length cap xs (by rw [hs, Nat.mul_one]) holds ad 1 c [x] hln hnews (by omega) (by omega) (growslice_fits (by omega) (by rw [hby]; omega))
      obtain ⟨cp, e, c1, c2⟩ := mk cap
      rw [e] at hr
      rcases fin cp c1 c2 with hf | hf
      · exact ⟨_, _, hr, hf, hgr _ _⟩
      · exact absurd hxs hf
/-- What an append leaves. -/
structure AppN (w w' : World) (base : Nat) (v v' : Value) (xs : List Value) (x : Value) : Prop where
  own : OwnN w' base v' (xs ++ [x])
  grown : w.grownBy w' v.ownBlock
  big : ∀ y n, IsBig w y n → IsBig w' y n
theorem AppN.of {w w' : World} {base : Nat} {v v' : Value} {xs : List Value} {x : Value} (h : OwnN w base v xs) (h1 : OwnN w' base v' (xs ++ [x])) (h2 : w.grownBy w' v.ownBlock) : AppN w w' base v v' xs x := by
  refine ⟨h1, h2, fun y n hy => hy.apart h2 fun g hg => ?_⟩
  rcases h with ⟨rfl, rfl⟩ | ⟨g', cap, cur, rfl, _, h3, _, _, _, _, h4⟩
  · cases hg
  · simp only [Value.ownBlock, Option.some.injEq] at hg
    subst hg
    exact ⟨cur, h3, h4⟩
theorem AppN.box {w w' : World} {base : Nat} {v v' : Value} {xs : List Value} {x : Value} (h : AppN w w' base v v' xs x) {k : Nat} (hk : k < w.heap.size) (hne : some k ≠ v.ownBlock) (o : Nat) : w'.cell? ⟨k, o, none⟩ = w.cell? ⟨k, o, none⟩ ∧ w'.frozen? ⟨k, o, none⟩ = w.frozen? ⟨k, o, none⟩ := by
  obtain ⟨_, _, _, _, h5⟩ := h.grown
  exact ⟨World.cell?_of_block (a := ⟨k, o, none⟩) (h5 k hk hne), World.frozen?_of_block (a := ⟨k, o, none⟩) (h5 k hk hne)⟩
theorem AppN.below {w0 w w' : World} {base : Nat} {v v' : Value} {xs : List Value} {x : Value} (h : AppN w w' base v v' xs x) (ho : OwnN w base v xs) {B : Nat} (hb : Below B w0 w) (hB : B ≤ base) (hs : B ≤ w.heap.size) : Below B w0 w' :=
  hb.grown h.grown hs (fun k hk => Nat.le_trans hB (ho.lt k hk).1)
theorem wpList_appendN {ops : Array Oper} {rest : List Oper} {o : Oper} {a : Act} {Q : Exit → Act → World → Prop} {w : World} (hgd : o.guard = none) (s y : Operand)
    (ho : o.op = .call { callee := .builtin .append, args := #[s, y], argTypes := #[126, 126] }) (base : Nat)
    (v : Value) (xs : List Value) (hv : a.eval s = v) (hown : OwnN w base v xs) (ad : Addr) (c : Nat) (x : Value) (hy : a.eval y = .slice (some ad) 1 c) (hx : w.cell? ad = some x) (h1 : x.oneCell' = true) (hno : NoInt x) (hl : xs.length ≤ 1000000) (hbase : base ≤ w.heap.size) (had : ad.add 0 = ad)
    (h : ∀ v' w', AppN w w' base v v' xs x → wpList Tryz.prog ops Q rest (a.put o.dst v') w') : wpList Tryz.prog ops Q (o :: rest) a w := by
  obtain ⟨i, hi, hz, hs, hby⟩ := info_parts info72
  obtain ⟨v', w', hr, h2, h3⟩ := run_appendN (w := w) base i hi hz hs hby o.type v xs hown ad c x hx h1 hno hl hbase had
  refine wpList_plain hgd fun _ hK => ?_
  unfold Oper.wp execOp
  simp only [ho, resolve, invoke, builtin, Sem.run_bind, Sem.run_pure, Result.andThen_ok, List.map_toArray, List.map_cons, List.map_nil, hv, hy, hr]
  exact hK _ _ (h v' w' (AppN.of hown h2 h3))
theorem wp_appendN {o : Oper} {a : Act} {w : World} {K : Act → World → Prop} {Q : Exit → Act → World → Prop}
    (s y : Operand) (ho : o.op = .call { callee := .builtin .append, args := #[s, y], argTypes := #[126, 126] }) (base : Nat)
    (v : Value) (xs : List Value) (hv : a.eval s = v) (hown : OwnN w base v xs) (ad : Addr) (c : Nat) (x : Value) (hy : a.eval y = .slice (some ad) 1 c) (hx : w.cell? ad = some x) (h1 : x.oneCell' = true) (hno : NoInt x) (hl : xs.length ≤ 1000000) (hbase : base ≤ w.heap.size) (had : ad.add 0 = ad)
    (h : ∀ v' w', AppN w w' base v v' xs x → K (a.put o.dst v') w') : Oper.wp Tryz.prog o a w K Q := by
  obtain ⟨i, hi, hz, hs, hby⟩ := info_parts info72
  obtain ⟨v', w', hr, h2, h3⟩ := run_appendN (w := w) base i hi hz hs hby o.type v xs hown ad c x hx h1 hno hl hbase had
  unfold Oper.wp execOp
  simp only [ho, resolve, invoke, builtin, Sem.run_bind, Sem.run_pure, Result.andThen_ok, List.map_toArray, List.map_cons, List.map_nil, hv, hy, hr]
  exact h v' w' (AppN.of hown h2 h3)
end Go.Proofs.YtndhinoomlofgaaGreatDoor

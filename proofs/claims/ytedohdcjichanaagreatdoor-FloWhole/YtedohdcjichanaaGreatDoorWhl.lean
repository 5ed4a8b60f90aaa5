/- FloWhole (6): true, whatever the whole numbers. -/
import Derived.Test.YtedohdcjichanaaGreatDoorWords
import Derived.Test.YtedohdcjichanaaGreatDoorNearest2
import Derived.Test.YtedohdcjichanaaGreatDoorNearTo
import Derived.Test.YtedohdcjichanaaGreatDoorIntRows
import Derived.Deep.Onto
namespace Go.Proofs.YtedohdcjichanaaGreatDoor
open Go.RowKit Go.Maps Go.ChangeMaps Go.WideMaps
attribute [local go_sem] run_bits run_from
set_option maxRecDepth 100000 in
theorem signbit_tenth (w : World) : Calls Tryz.prog 36 #[.float .f64 4591870180066957722] w fun e w' => e = .returned (.bool false) ∧ w' = w := by
  go_enter Tryz.func36, Tryz.ntmps36
  go_wp2
  go_ret
  exact ⟨rfl, rfl⟩
theorem keyOf_string_inv {P : Program} {k : TypeId} (hk : P.underlying k = some .string) {key : Value} {kl : Lit} (h : keyOf P k key = some kl) : ∃ s, key = .string s := by
  cases key <;> simp [keyOf, hk, mapKey] at h
  exact ⟨_, rfl⟩
theorem order_word (b : Nat) (h : b = 9221120237041090561 ∨ b = 9218868437227405312 ∨ b = 18442240474082181120) (w : World) : Calls Tryz.prog 17 #[.float .f64 4591870180066957722, .float .f64 b] w fun e w' => ∃ q : Int, q ≠ 0 ∧ e = .returned (.int .i64 q) ∧ w' = w := by
  have hb : b < 18446744073709551616 ∧ Cub.cmpN (rk 4591870180066957722) (rk b) ≠ 0 := by
    rcases h with rfl | rfl | rfl <;> decide +kernel
  refine (order_any 4591870180066957722 b (by decide) hb.1 w).mono ?_
  rintro e w' ⟨rfl, hw⟩
  exact ⟨_, hb.2, rfl, hw⟩
theorem word_left {kl : Lit} {v : Value} {y : DataW Unit × List MemPlace} (h1 : Maps.has (wD 3) kl = true) (h2 : wR v = some y) (h3 : ∀ zd, (wD 3).atKey kl zd = y.1) : ∃ b : Nat, v = .float .f64 b ∧ (b = 9221120237041090561 ∨ b = 9218868437227405312 ∨ b = 18442240474082181120) := by
  obtain ⟨d, ps⟩ := y
  have e := h3 (.map [])
  have hd : d = .lit (.int .i64 9221120237041090561) ∨ d = .lit (.int .i64 9218868437227405312) ∨ d = .lit (.int .i64 18442240474082181120) := by
    rcases wD_at kl (.map []) h1 with h | h | h
    · exact Or.inl (e.symm.trans h)
    · exact Or.inr (Or.inl (e.symm.trans h))
    · exact Or.inr (Or.inr (e.symm.trans h))
  clear e h3 h1
  rcases hd with rfl | rfl | rfl
  · obtain ⟨b, rfl, hb⟩ := wR_inv h2
    exact ⟨b, rfl, Or.inl (by omega)⟩
  · obtain ⟨b, rfl, hb⟩ := wR_inv h2
    exact ⟨b, rfl, Or.inr (Or.inl (by omega))⟩
  · obtain ⟨b, rfl, hb⟩ := wR_inv h2
    exact ⟨b, rfl, Or.inr (Or.inr (by omega))⟩
set_option maxRecDepth 100000 in
set_option maxHeartbeats 2000000 in
theorem text_tenth (w : World) (htab : Tab w) : Calls Tryz.prog 22 #[.float .f64 4591870180066957722] w fun r w' => r = .returned (.string ⟨#[48, 46, 49]⟩) ∧ Below w.heap.size w w' := by
  have HTAB := hide htab
  clear htab
  obtain ⟨g, hg⟩ : ∃ g, g = w.heap.size := ⟨_, rfl⟩
  have HG0 : Hid (g = w.heap.size) := hg
  clear hg
  have HW : Hid (Calls Tryz.prog 33 #[] w fun r w' => r = .returned (.map (some g)) ∧ w'.ownsMap Tryz.prog 9 wR g 3 (wD 3) ∧ Below w.heap.size w w') := by rw [unhide HG0]; exact words_any w
  have HS : Hid (∀ W, Below w.heap.size w W → Calls Tryz.prog 35 #[.float .f64 4591870180066957722] W fun e w' => e = .returned (.tuple #[.string ⟨#[49]⟩, .int .i64 0]) ∧ Below W.heap.size W w') := fun W hW => shortest_hi W ((unhide HTAB).later hW)
  go_enter Tryz.func22, Tryz.ntmps22
  go_wp2_with (first
    | (go_at_call 33; go_must (refine (unhide HW).mono ?_; rintro e w1 ⟨rfl, hown, hb⟩; have HO := hide hown; have HB := hide hb; clear hown hb))
    | (at_range; refine wpList_range_own _ rfl _ 60 rfl 9 25 (string_keyed Tryz.underlying9) underM wR g 3 (wD 3) rfl (unhide HO) ?_; intro w3 hrg hgr hsz; go_frame))
  have HRG : Hid (w3.ranges Tryz.prog 9 wR g w1.heap.size 3 (wD 3) (Maps.has (wD 3)) (Maps.size (wD 3))) := hrg
  have HB3 : Hid (Below w.heap.size w w3 ∧ w1.heap.size < w3.heap.size) := ⟨(unhide HB).grown hgr (unhide HB).size (fun j hj => by cases hj), by omega⟩
  clear hrg hgr hsz
  go_loopw [3, 4] (fun _ _ wr => ∃ (left : Lit → Bool) (cnt : Nat), Hid (wr.ranges Tryz.prog 9 wR g w1.heap.size 3 (wD 3) left cnt) ∧ Hid (∀ kl, left kl = true → Maps.has (wD 3) kl = true) ∧ Hid (Below w.heap.size w wr)) (fun _ _ wr => wr.rangeLeft g w1.heap.size)
  case atStart => exact ⟨_, _, HRG, fun _ h => h, (unhide HB3).1⟩
  case round =>
    obtain ⟨left, cnt, HG, HL, HBr⟩ := hrel
    go_wp2_with (at_next; go_loud (refine wpList_next_ranges _ rfl _ rfl 9 (string_keyed Tryz.underlying9) wR (fun x : ByteArray => .string x) (fun v : Value => v) (fun key kl h => keyOf_string_inv Tryz.underlying9 h) (fun v y _ => ⟨v, rfl⟩) g w1.heap.size 3 (wD 3) left cnt rfl (unhide HG) ?_ ?_))
    · intro _ hl0
      clear hl0 HL HG
      go_wp2_with (first
        | (go_at_call 35; go_must (refine (unhide HS _ (unhide HBr)).mono ?_; rintro e w5 ⟨rfl, hb⟩; have HB5 := hide ((unhide HBr).trans (hb.mono (unhide HBr).size)); clear hb))
        | (go_at_call 34; go_must (refine (laid_one _).mono ?_; rintro e w6 ⟨rfl, hw6⟩; have hw7 := hw6.symm; subst hw7; clear hw6))
        | (go_at_call 36; go_must (refine (signbit_tenth _).mono ?_; rintro e w6 ⟨rfl, hw6⟩; have hw7 := hw6.symm; subst hw7; clear hw6)))
      go_ret
      exact ⟨rfl, unhide HB5⟩
    · intro x v kl d ps w4 cnt4 hkx hlx hv hat hrg4 hlt hg4 hs4 hen
      obtain ⟨b, rfl, hb3⟩ := word_left (y := (d, ps)) ((unhide HL) kl hlx) hv hat
      have HB4 : Hid (Below w.heap.size w w4) := (unhide HBr).grown hg4 (unhide HBr).size (fun j hj => by cases hj; exact (unhide HB).size)
      have HORD : Hid (∀ W, Calls Tryz.prog 17 #[.float .f64 4591870180066957722, .float .f64 b] W fun e w' => ∃ q : Int, q ≠ 0 ∧ e = .returned (.int .i64 q) ∧ w' = W) := order_word b hb3
      have HG4 := hide hrg4
      have HLT : Hid (cnt4 < cnt) := hlt
      have HL1 : Hid (∀ z, (left z && !z.sameKey kl) = true → Maps.has (wD 3) z = true) := fun z h => (unhide HL) z (by simp at h; exact h.1)
      clear hrg4 hlt hkx hlx hv hat hg4 hs4 hb3
      go_wp2_with (go_at_call 17; go_must (refine (unhide HORD _).mono ?_; rintro e w6 ⟨q, hq, rfl, hw6⟩; have hw7 := hw6.symm; subst hw7; clear hw6))
      go_roundw
      case rel => exact ⟨_, _, HG4, HL1, HB4⟩
      case measure => rw [(unhide HG4).left_eq, (unhide HG).left_eq]; exact unhide HLT
/-- The law's known answers. -/
theorem known_ok (w : World) (htab : Tab w) : Calls Tryz.prog 14 #[] w fun r w' => r = .returned (.bool true) ∧ Below w.heap.size w w' := by
  have HN : Hid (Calls Tryz.prog 21 #[.agg #[.string ⟨#[49]⟩, .string ⟨#[49, 48]⟩]] w fun e w' => e = .returned (.tuple #[.float .f64 4591870180066957722, .int .i64 0]) ∧ Below w.heap.size w w') := near_tenth w htab
  have HT : Hid (∀ W, Below w.heap.size w W → Calls Tryz.prog 22 #[.float .f64 4591870180066957722] W fun r w' => r = .returned (.string ⟨#[48, 46, 49]⟩) ∧ Below W.heap.size W w') := fun W hW => text_tenth W (htab.later hW)
  have HO : Hid (∀ W, Calls Tryz.prog 17 #[.float .f64 4607182418800017408, .float .f64 4611686018427387904] W fun e w' => e = .returned (.int .i64 (-1)) ∧ w' = W) := fun W => by
    have h : Cub.cmpN (rk 4607182418800017408) (rk 4611686018427387904) = -1 := by decide +kernel
    rw [← h]
    exact order_any _ _ (by decide) (by decide) W
  clear htab
  go_enter Tryz.func14, Tryz.ntmps14
  go_wp2_with (first
    | (go_at_call 21; go_must (refine (unhide HN).mono ?_; rintro e w1 ⟨rfl, hb⟩; have HB := hide hb; clear hb))
    | (go_at_call 22; go_must (refine (unhide HT _ (unhide HB)).mono ?_; rintro e w2 ⟨rfl, hb⟩; have HB2 := hide ((unhide HB).trans (hb.mono (unhide HB).size)); clear hb))
    | (go_at_call 17; go_must (refine (unhide HO _).mono ?_; rintro e w6 ⟨rfl, hw6⟩; have hw7 := hw6.symm; subst hw7; clear hw6)))
  go_ret
  exact ⟨rfl, unhide HB2⟩
end Go.Proofs.YtedohdcjichanaaGreatDoor

namespace Go.Proofs.YtedohdcjichanaaGreatDoor
open Go.RowKit
attribute [local go_sem] run_bits run_from
theorem InMem.later {w w' : World} {a : Option Addr} {l : List Nat} (h : InMem w a l) (hb : Below w.heap.size w w') : InMem w' a l := fun i hi => by
  obtain ⟨b, o, rfl, hc⟩ := h i hi
  exact ⟨b, o, rfl, (hb.cell (p := ⟨b, o + i, none⟩) (World.block_lt_of_cell? _ _ hc)).trans hc⟩
theorem Lent.row {w : World} {base n : Nat} {v : Value} {l : List Nat} (h : Lent w base v n l) (hn : n = l.length) : RowF w v l := by
  obtain ⟨g, cap, rfl, h1, h2, _, hin, _⟩ := h
  refine ⟨some ⟨g, 0, none⟩, cap, by rw [hn], by omega, h2, fun e => (by cases e), fun i hi => ?_⟩
  obtain ⟨b, o, e, hc⟩ := hin i hi
  cases e
  exact ⟨g, 0, rfl, World.block_lt_of_cell? _ _ hc, hc⟩
theorem Lent.later {w w' : World} {base n : Nat} {v : Value} {l : List Nat} (h : Lent w base v n l) (hb : Below w.heap.size w w') : Lent w' base v n l := by
  obtain ⟨g, cap, rfl, h1, h2, h3, hin, hm⟩ := h
  exact ⟨g, cap, rfl, h1, h2, h3, hin.later hb, (hb.cell (p := ⟨g, n, none⟩) (World.block_lt_of_cell? _ _ hm)).trans hm⟩
end Go.Proofs.YtedohdcjichanaaGreatDoor


namespace Go.Proofs.YtedohdcjichanaaGreatDoor
open Go.RowKit
theorem own_one (w : World) {base : Nat} (b : Nat) (hb : base ≤ w.heap.size) : OwnF (w.alloc (.cells #[.float .f64 b] 25)) base (.slice (some ⟨w.heap.size, 0, none⟩) 1 1) [b] :=
  ⟨by simp [fV], .inr ⟨w.heap.size, 1, #[.float .f64 b], rfl, hb, heap_alloc_new w _, Nat.le_refl _, by unfold maxLen; omega, rfl, by simp [fV]⟩⟩
theorem fV_snoc (l : List Nat) (b : Nat) : fV (l ++ [b]) = fV l ++ [.float .f64 b] := by simp [fV]
theorem enc_lt (n : Int) : enc n < 18446744073709551616 := by
  have h := floatOfInt_wf .f64 n
  show floatOfInt .f64 n < _
  simpa [Lit.wf] using h
theorem add_block (g j : Nat) : ((⟨g, 0, none⟩ : Addr).add j).block = g := by unfold Addr.add; split <;> rfl
/-- What stands behind k rounds. -/
structure Rnd (w wr : World) (k : Nat) (S : Int) (v3 v4 : Value) (ns bs : List Int) : Prop where
  own3 : OwnF wr w.heap.size v3 (ns.map enc)
  own4 : OwnF wr w.heap.size v4 (bs.map enc)
  apart : ∀ g, v3.ownBlock = some g → v4.ownBlock = some g → False
  s3 : ns.sum = S
  s4 : bs.sum = S
  sm3 : Small ns
  sm4 : Small bs
  l3 : ns.length = k
  l4 : bs.length = k
  bel : Below w.heap.size w wr
theorem rnd_start (w : World) : Rnd w w 0 0 (.slice none 0 0) (.slice none 0 0) [] [] := by
  refine ⟨World.ownsRow_nil _ _ _ _, World.ownsRow_nil _ _ _ _, ?_, rfl, rfl, ?_, ?_, rfl, rfl, Below.refl _ _⟩
  · intro g h
    cases h
  · intro _ h
    cases h
  · intro _ h
    cases h
set_option maxRecDepth 100000 in
set_option maxHeartbeats 2000000 in
theorem law_whole (v : Value) (l : List Int) (w : World) (h : RowI w v l) (htab : Tab w) : Calls Tryz.prog 6 #[v] w fun r w' => r = .returned (.bool true) ∧ Below w.heap.size w w' := by
  obtain ⟨i0, hi, hz0, hz1, hz2⟩ := info_parts Tryz.info25x
  obtain ⟨a, cap, rfl, hc, hm, hnn, hr⟩ := h
  have HR := hide hr
  have HTB := hide htab
  obtain ⟨n, hl⟩ : ∃ n, n = l.length := ⟨_, rfl⟩
  rw [← hl] at hc ⊢
  have HL := hide hl
  clear hr hl hnn htab hc hm
  go_enter Tryz.func6, Tryz.ntmps6
  go_wp2
  go_loopw [3, 4, 5, 6] (fun s3 s4 s5 s6 wr => ∃ (k : Nat) (S : Int) (v3 v4 : Value) (ns bs : List Int), k ≤ n ∧ k ≤ 4096 ∧ s6 = .int .i64 (k : Int) ∧ s5 = .int .i64 S ∧ s3 = v3 ∧ s4 = v4 ∧ -4503599627370496 ≤ S ∧ S ≤ 4503599627370496 ∧ Rnd w wr k S v3 v4 ns bs) (fun _ _ _ s6 _ => n - (intOf s6).toNat)
  case atStart => exact ⟨0, 0, _, _, [], [], Nat.zero_le _, by omega, rfl, rfl, rfl, rfl, by omega, by omega, rnd_start w⟩
  case round =>
    obtain ⟨k, S, v3, v4, ns, bs, hk, hk2, rfl, rfl, rfl, rfl, hS1, hS2, HRN⟩ := hrel
    by_cases hkn : k < n ∧ k < 4096
    · obtain ⟨hkn, hk4⟩ := hkn
      have hkl : k < l.length := by have := unhide HL; omega
      obtain ⟨b, o, rfl, hb, hcell⟩ := unhide HR k hkl
      obtain ⟨x, hx⟩ : ∃ x, x = l[k] := ⟨_, rfl⟩
      have c1 : wr.cell? ⟨b, o + k, none⟩ = some (.int .i64 x) := by rw [HRN.bel.cell (p := ⟨b, o + k, none⟩) hb, hcell, hx]
      have hkI : (k : Int) < (n : Int) := by omega
      have hkI4 : (k : Int) < 4096 := by omega
      clear hcell hx hkl
      have HT := hide (tmod_small x)
      have HRH := hide HRN
      clear HRN
      go_upto_region 8 with fail
      obtain ⟨nn, hnn⟩ : ∃ nn, nn = x.tmod 1099511627776 := ⟨_, rfl⟩
      rw [← hnn] at HT ⊢
      clear hnn
      have hn1 : -1099511627776 < nn := by have := unhide HT; omega
      have hn2 : nn < 1099511627776 := by have := unhide HT; omega
      go_upto_region 9 with fail
      have hkl4 : k ≤ 4096 := hk2
      have hbs : w.heap.size ≤ wr.heap.size := (unhide HRH).bel.size
      have HO3 : Hid (wr.ownsRow w.heap.size 25 1 u3 k (fV (ns.map enc))) := by have h := (unhide HRH).own3; unfold OwnF at h; rw [List.length_map, (unhide HRH).l3] at h; exact h
      have HO4 : Hid (wr.ownsRow w.heap.size 25 1 u4 k (fV (bs.map enc))) := by have h := (unhide HRH).own4; unfold OwnF at h; rw [List.length_map, (unhide HRH).l4] at h; exact h
      have HI0 := hide hi; have HZ0 := hide hz0; have HZ1 := hide hz1; have HZ2 := hide hz2
      clear hi hz0 hz1 hz2
      have hsum := sum_bound (ns ++ [nn]) (small_snoc (unhide HT) (unhide HRH).sm3)
      rw [sum_snoc, (unhide HRH).s3, List.length_append, (unhide HRH).l3, List.length_singleton] at hsum
      have hS3 : -4503599627370496 ≤ S + nn := by omega
      have hS4 : S + nn ≤ 4503599627370496 := by omega
      clear hsum
      go_upto_region 10 with (at_builtin; go_must (refine wpList_append_own _ rfl (.tmp 26) (.tmp 29) 22 rfl w.heap.size 25 i0 (.float .f64 0) 1 8 Tryz.underlying22x (unhide HI0) (unhide HZ0) (unhide HZ1) (unhide HZ2) rfl (by decide) _ k (fV (ns.map enc)) rfl ((unhide HO3).alloc _) ⟨wr.heap.size, 0, none⟩ 1 1 [.float .f64 (floatOfInt .f64 nn)] rfl rfl (cell_one_new _ _ _) (fun x hx => by simp at hx; subst hx; rfl) (by unfold maxLen; omega) (by omega) (by simp; omega) ?_; intro v3 w1 hown1 hgrow1 hnil1; have HO31 := hide hown1; have HG1 := hide hgrow1; clear hown1 hgrow1 hnil1))
      have hsz : wr.heap.size + 1 ≤ w1.heap.size := by have := (unhide HG1).size; simp at this; exact this
      have hb1 : w.heap.size ≤ w1.heap.size := by omega
      have HO41 : Hid (w1.ownsRow w.heap.size 25 1 u4 k (fV (bs.map enc))) := ((unhide HO4).alloc _).kept (unhide HG1) (by
        cases h4 : u4.ownBlock with
        | none => exact Or.inl rfl
        | some g => exact Or.inr fun e => (unhide HRH).apart g e.symm h4)
      have HB1 : Hid (Below w.heap.size w w1) := ((unhide HRH).bel.alloc hbs _).grown (unhide HG1) (by simp; omega) (fun j hj => ((unhide HO3).lt j hj).1)
      have HEND : Hid (∀ (v4 : Value) (w2 : World), w2.ownsRow w1.heap.size 25 1 v4 (1 + k) (fV (enc nn :: bs.map enc)) → (w1.alloc (.cells #[.float .f64 (floatOfInt .f64 nn)] 25)).grownBy w2 (some w1.heap.size) → Rnd w w2 (k + 1) (S + nn) v3 v4 (ns ++ [nn]) (nn :: bs)) := fun v4 w2 h4 hg4 => by
        have hlt3 : ∀ g, v3.ownBlock = some g → g < w1.heap.size := fun g hg => ((unhide HO31).lt g hg).2
        have h3 : w2.ownsRow w.heap.size 25 1 v3 (k + 1) (fV (ns.map enc) ++ [.float .f64 (floatOfInt .f64 nn)]) := ((unhide HO31).alloc _).kept hg4 (by
          cases h : v3.ownBlock with
          | none => exact Or.inl rfl
          | some g => exact Or.inr fun e => by have := hlt3 g h; cases e; omega)
        refine ⟨?_, ?_, fun g e3 e4 => ?_, ?_, ?_, small_snoc (unhide HT) (unhide HRH).sm3, small_cons (unhide HT) (unhide HRH).sm4, ?_, ?_, ?_⟩
        · unfold OwnF
          rw [List.map_append, List.length_append, List.length_map, (unhide HRH).l3]
          show w2.ownsRow _ 25 1 v3 (k + 1) (fV (ns.map enc ++ [enc nn]))
          rw [fV_snoc]; exact h3
        · unfold OwnF
          rw [List.map_cons, List.length_cons, List.length_map, (unhide HRH).l4, Nat.add_comm]
          exact h4.mono hb1
        · have := hlt3 g e3
          have := (h4.lt g e4).1
          omega
        · rw [sum_snoc, (unhide HRH).s3]
        · rw [List.sum_cons, (unhide HRH).s4, Int.add_comm]
        · rw [List.length_append, (unhide HRH).l3]; rfl
        · rw [List.length_cons, (unhide HRH).l4]
        · exact ((unhide HB1).alloc hb1 _).grown hg4 (by simp; omega) (fun j hj => by cases hj; exact hb1)
      have HNK : Hid (bs.length = k) := (unhide HRH).l4
      clear HRH HO4 HO31 HO3 HG1 HB1 HT
      rcases Joins.ownsRow_forms (unhide HO41) with ⟨rfl, h0⟩ | ⟨g4, cap4, rfl⟩
      · have HE1 : Hid (Rnd w (w1.alloc (.cells #[.float .f64 (floatOfInt .f64 nn)] 25)) (k + 1) (S + nn) v3 (.slice (some ⟨w1.heap.size, 0, none⟩) 1 1) (ns ++ [nn]) (nn :: bs)) := by
          have hk0 : bs = [] := List.length_eq_zero_iff.1 (by rw [unhide HNK, h0])
          refine unhide HEND _ _ ?_ ⟨rfl, rfl, rfl, Nat.le_refl _, fun _ _ _ => rfl⟩
          have h := own_one w1 (enc nn) (Nat.le_refl _)
          unfold OwnF at h
          rw [hk0, h0]
          exact h
        clear h0 HEND HO41 HNK
        go_wp2_with (at_builtin; go_must (refine wpList_append_own_none rfl (.tmp 33) (.tmp 34) 22 rfl w.heap.size 25 i0 1 Tryz.underlying22x (unhide HI0) _ 1 (fV [enc nn]) rfl (own_one w1 (enc nn) hb1) rfl ?_))
        go_roundw
        case rel => exact ⟨k + 1, S + nn, _, _, _, _, by omega, by omega, by go_num, rfl, rfl, rfl, hS3, hS4, unhide HE1⟩
        case measure => simp [intOf]; omega
      · have HNW : Hid (∀ j u, (fV (bs.map enc))[j]? = some u → w1.cell? ((⟨g4, 0, none⟩ : Addr).add j) = some u) := (unhide HO41).cells rfl
        have HG4 : Hid (∀ j, ((⟨g4, 0, none⟩ : Addr).add j).block < w1.heap.size) := fun j => by rw [add_block]; exact ((unhide HO41).lt g4 rfl).2
        have HONE := own_one w1 (enc nn) (Nat.le_refl w1.heap.size)
        have HOO := hide HONE
        clear HONE
        go_wp2_with (at_builtin; go_must (refine wpList_append_own _ rfl (.tmp 33) (.tmp 34) 22 rfl w1.heap.size 25 i0 (.float .f64 0) 1 8 Tryz.underlying22x (unhide HI0) (unhide HZ0) (unhide HZ1) (unhide HZ2) rfl (by decide) _ 1 (fV [enc nn]) rfl (unhide HOO) ⟨g4, 0, none⟩ k cap4 (fV (bs.map enc)) rfl (by rw [fV_length, List.length_map, unhide HNK, Nat.mul_one]) (fun j u hu => (World.cell?_of_block (heap_alloc_old w1 _ (unhide HG4 j))).trans (unhide HNW j u hu)) (fV_one _) (by unfold maxLen; omega) (by omega) (by simp) ?_; intro v4 w2 hown2 hgrow2 hnil2; have HE2 := hide (unhide HEND v4 w2 hown2 hgrow2); clear hown2 hgrow2 hnil2))
        go_roundw
        case rel => exact ⟨k + 1, S + nn, _, _, _, _, by omega, by omega, by go_num, rfl, rfl, rfl, hS3, hS4, unhide HE2⟩
        case measure => simp [intOf]; omega
    · have hS5 : S.natAbs < 9007199254740992 := by omega
      have hself : (FloatKind.f64.format.order (floatOfInt .f64 S) (floatOfInt .f64 S) == some Ordering.eq) = true := enc_self S hS5
      have hL3 : ns.length ≤ 4096 := by have := HRN.l3; omega
      have hL4 : bs.length ≤ 4096 := by have := HRN.l4; omega
      have hB := HRN.bel
      have R3 := RowF.of_own HRN.own3
      have R4 := RowF.of_own HRN.own4
      have hlt3 : ∀ x ∈ ns.map enc, x < 18446744073709551616 := fun x hx => by obtain ⟨m, _, rfl⟩ := List.mem_map.1 hx; exact enc_lt m
      have H93 : Hid (∀ W, Below wr.heap.size wr W → Calls Tryz.prog 9 #[u3] W fun e w' => e = .returned (.float .f64 (floatOfInt .f64 S)) ∧ Below W.heap.size W w') := fun W hb => by
        refine (sum_any u3 _ W (R3.later hb)).mono ?_
        rintro e w' ⟨r, rfl, h1, _, h2⟩
        rw [sumN_enc ns HRN.sm3 hL3, HRN.s3] at h1
        exact ⟨by rw [nm_is r S hS5 h1]; rfl, h2⟩
      have H94 : Hid (∀ W, Below wr.heap.size wr W → Calls Tryz.prog 9 #[u4] W fun e w' => e = .returned (.float .f64 (floatOfInt .f64 S)) ∧ Below W.heap.size W w') := fun W hb => by
        refine (sum_any u4 _ W (R4.later hb)).mono ?_
        rintro e w' ⟨r, rfl, h1, _, h2⟩
        rw [sumN_enc bs HRN.sm4 hL4, HRN.s4] at h1
        exact ⟨by rw [nm_is r S hS5 h1]; rfl, h2⟩
      have H11 : Hid (∀ W, Below wr.heap.size wr W → Calls Tryz.prog 11 #[u3] W fun e w' => e = .returned (.float .f64 (floatOfInt .f64 S)) ∧ Below W.heap.size W w') := fun W hb => by
        refine (kept_any u3 _ W (R3.later hb) hlt3).mono ?_
        rintro e w' ⟨r, rfl, h1, _, h2⟩
        rw [keptN_enc ns HRN.sm3 hL3, HRN.s3] at h1
        exact ⟨by rw [nm_is r S hS5 h1]; rfl, h2⟩
      have H14 : Hid (∀ W, Below w.heap.size w W → Calls Tryz.prog 14 #[] W fun r w' => r = .returned (.bool true) ∧ Below W.heap.size W w') := fun W hb => known_ok W ((unhide HTB).later hb)
      have HB0 := hide hB
      have HR0 : Hid (Below wr.heap.size wr wr) := Below.refl _ _
      clear hB R3 R4 hlt3 HRN hL3 hL4
      have hcase : ¬ (k : Int) < (n : Int) ∨ (k : Int) < (n : Int) ∧ ¬ (k : Int) < 4096 := by omega
      clear hkn
      rcases hcase with hkI | ⟨hkI, hk4⟩
      all_goals
        go_upto_region 11 with fail
        go_wp2_with (first
          | (go_at_call 9; (with_reducible refine (unhide H93 _ (unhide HR0)).mono ?_); rintro e w1 ⟨rfl, hb⟩; have HR1 := hide hb; clear hb)
          | (go_at_call 9; (with_reducible refine (unhide H94 _ (unhide HR1)).mono ?_); rintro e w2 ⟨rfl, hb⟩; have HR2 := hide ((unhide HR1).trans (hb.mono (unhide HR1).size)); clear hb)
          | (go_at_call 11; refine (unhide H11 _ (unhide HR2)).mono ?_; rintro e w3 ⟨rfl, hb⟩; have HR3 := hide ((unhide HR2).trans (hb.mono (unhide HR2).size)); have HR4 := hide ((unhide HB0).trans ((unhide HR3).mono (unhide HB0).size)); clear hb)
          | (go_at_call 14; refine (unhide H14 _ (unhide HR4)).mono ?_; rintro e w4 ⟨rfl, hb⟩; have HR5 := hide ((unhide HR4).trans (hb.mono (unhide HR4).size)); clear hb))
        go_ret
        exact ⟨rfl, unhide HR5⟩
end Go.Proofs.YtedohdcjichanaaGreatDoor

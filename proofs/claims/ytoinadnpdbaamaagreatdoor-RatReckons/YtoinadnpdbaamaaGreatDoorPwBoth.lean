/- The document's own Power. -/
import Derived.Test.YtoinadnpdbaamaaGreatDoorRefOk
import Derived.Deep.Quiet
import Derived.Test.YtoinadnpdbaamaaGreatDoorGcdSmall
import Derived.Test.YtoinadnpdbaamaaGreatDoorFrPow
import Derived.Deep.RegionHeld3
import Derived.Test.YtoinadnpdbaamaaGreatDoorPairs
import Derived.Test.YtoinadnpdbaamaaGreatDoorRPow
namespace Go.Proofs.YtoinadnpdbaamaaGreatDoor
open Go.RowKit

/-- How far Power has come: what is there times what is still to come is the power; nothing on the way is M or above. -/
def PowInv (P M out a q : Nat) : Prop := out * a ^ q = P ∧ out < M ∧ (0 < q → a < M) ∧ (out = 0 → a = 0)
theorem PowInv.start (m n M : Nat) (h : m ^ n < M) (h1 : 1 < M) : PowInv (m ^ n) M 1 m n := by
  refine ⟨Nat.one_mul _, h1, fun hn => ?_, fun h => by omega⟩
  by_cases h0 : m = 0
  · omega
  · have : m ^ 1 ≤ m ^ n := Nat.pow_le_pow_right (by omega) hn
    rw [Nat.pow_one] at this; omega
theorem PowInv.last {P M out a : Nat} (h : PowInv P M out a 0) : out = P := by
  have := h.1; rw [Nat.pow_zero, Nat.mul_one] at this; exact this
theorem sq_pow (a q : Nat) : (a * a) ^ (q / 2) * a ^ (q % 2) = a ^ q := by
  rw [← Nat.pow_two, ← Nat.pow_mul, ← Nat.pow_add]
  congr 1; omega
theorem PowInv.outLt {P M out a q : Nat} (h : PowInv P M out a q) (hP : P < M) (hq : 0 < q) : out * a < M := by
  by_cases h0 : a = 0
  · subst h0; have := h.2.1; omega
  · have h1 : a ^ 1 ≤ a ^ q := Nat.pow_le_pow_right (by omega) hq
    rw [Nat.pow_one] at h1
    have h2 : out * a ≤ out * a ^ q := Nat.mul_le_mul_left _ h1
    have := h.1; omega
theorem PowInv.sqLt {P M out a q : Nat} (h : PowInv P M out a q) (hP : P < M) (hq : 2 ≤ q) : a * a < M := by
  by_cases h0 : a = 0
  · subst h0; have := h.2.1; omega
  · have h1 : a ^ 2 ≤ a ^ q := Nat.pow_le_pow_right (by omega) hq
    rw [Nat.pow_two] at h1
    have h2 : 0 < out := Nat.pos_of_ne_zero fun e => h0 (h.2.2.2 e)
    have h3 : a ^ q ≤ out * a ^ q := Nat.le_mul_of_pos_left _ h2
    have := h.1; omega
theorem PowInv.odd {P M out a q : Nat} (h : PowInv P M out a q) (hP : P < M) (hq : q % 2 = 1) : PowInv P M (out * a) (a * a) (q / 2) := by
  refine ⟨?_, h.outLt hP (by omega), fun h2 => h.sqLt hP (by omega), fun e => ?_⟩
  · rw [← h.1, ← sq_pow a q, hq, Nat.pow_one, Nat.mul_assoc, Nat.mul_comm a]
  · rcases Nat.mul_eq_zero.1 e with e | e
    · rw [h.2.2.2 e]
    · rw [e]
theorem PowInv.even {P M out a q : Nat} (h : PowInv P M out a q) (hP : P < M) (hq : q % 2 = 0) (h0 : 0 < q) : PowInv P M out (a * a) (q / 2) := by
  refine ⟨?_, h.2.1, fun h2 => h.sqLt hP (by omega), fun e => ?_⟩
  · rw [← h.1, ← sq_pow a q, hq, Nat.pow_zero, Nat.mul_one]
  · rw [h.2.2.2 e]
/-- The last square is not taken. -/
theorem PowInv.any {P M out a q b : Nat} (h : PowInv P M out a q) (hq : q = 0) (hb : out = 0 → b = 0) : PowInv P M out b q := by
  subst hq
  exact ⟨h.1, h.2.1, fun h => by omega, hb⟩

theorem tx_one : tx 1 = ⟨#[49]⟩ := by rw [← tx_tb 1 (lit_tb ⟨#[49]⟩ 1 (by decide) (by decide)).2]; exact (lit_tb ⟨#[49]⟩ 1 (by decide) (by decide)).1.symm
theorem timesNN (m n r K : Nat) (w : World) (hK : 1 ≤ K) (hK2 : K ≤ 100000) (hm : m < 10 ^ K) (hn : n < 10 ^ K) (hr : r = m * n) :
    Calls Tryz.prog 123 #[.string (tx m), .string (tx n)] w fun e w' => e = .returned (.string (tx r)) ∧ Below w.heap.size w w' := by
  subst hr
  have h := refTimesS_any (tx m) (tx n) w (Nat.le_trans (tx_size hK hm) hK2) (Nat.le_trans (tx_size hK hn) hK2) (tx_nat m).1 (tx_nat n).1
  rw [show Cub.dval (tx m).data.toList = m from tx_val m, show Cub.dval (tx n).data.toList = n from tx_val n] at h
  exact h

set_option maxRecDepth 100000 in
set_option maxHeartbeats 800000 in
theorem refPower_any (m n K : Nat) (w : World) (hn : n ≤ 9223372036854775807) (hK : 1 ≤ K) (hK2 : K ≤ 100000) (hP : m ^ n < 10 ^ K) :
    Calls Tryz.prog 184 #[.string (tx m), .int .i64 (n : Int)] w fun e w' => e = .returned (.string (tx (m ^ n))) ∧ Below w.heap.size w w' := by
  have HS := hide (PowInv.start m n (10 ^ K) hP (Nat.one_lt_pow (by omega) (by decide)))
  have HP := hide hP
  clear hP
  go_enter Tryz.func184, Tryz.ntmps184
  go_wp2
  go_loopw [0, 1, 5] (fun a t o wr => ∃ (av q ov : Nat), a = .string (tx av) ∧ t = .int .i64 (q : Int) ∧ o = .string (tx ov) ∧ q ≤ 9223372036854775807 ∧ Hid (PowInv (m ^ n) (10 ^ K) ov av q) ∧ Below w.heap.size w wr) (fun _ t _ _ => (intOf t).toNat)
  case atStart => exact ⟨m, n, 1, rfl, rfl, by rw [tx_one], hn, HS, Below.refl _ _⟩
  case round =>
    obtain ⟨av, q, ov, rfl, rfl, rfl, hq, HI, hbl⟩ := hrel
    by_cases h0 : 0 < q
    · have H1 := hide (fun W => timesNN ov av (ov * av) K W hK hK2 (unhide HI).2.1 ((unhide HI).2.2.1 h0) rfl)
      have H2 := hide (fun W => timesNN av av (av * av) K W hK hK2 ((unhide HI).2.2.1 h0) ((unhide HI).2.2.1 h0) rfl)
      have HO := hide (fun h => (unhide HI).odd (unhide HP) h)
      have HE := hide (fun h => (unhide HI).even (unhide HP) h h0)
      generalize hA : tx av = A at *
      generalize hO : tx ov = O at *
      generalize hAA : tx (av * av) = AA at *
      generalize hOA : tx (ov * av) = OA at *
      have HEQ := hide (And.intro (And.intro hA hO) (And.intro hAA hOA))
      clear hA hO hAA hOA
      by_cases h1 : q % 2 = 1
      · by_cases h2 : 2 ≤ q
        · go_wp2_with (first
            | (go_at_call_of 123 O; refine (unhide H1 _).mono ?_; rintro e w2 ⟨rfl, hc2⟩; have hb2 := hbl.trans (hc2.mono hbl.size); clear hc2)
            | (go_at_call_of 123 A; refine (unhide H2 _).mono ?_; rintro e w3 ⟨rfl, hc3⟩; have hb3 := hb2.trans (hc3.mono hb2.size); clear hc3))
          go_roundw
          case rel => exact ⟨av * av, q / 2, ov * av, by rw [(unhide HEQ).2.1], by go_num, by rw [(unhide HEQ).2.2], by omega, unhide HO h1, hb3⟩
          case measure => simp [intOf]; omega
        · have hq1 : q = 1 := by omega
          subst hq1
          have HI1 : Hid (PowInv (m ^ n) (10 ^ K) (ov * av) av 0) := (unhide HO (by decide)).any (by decide) (fun e => by
            rcases Nat.mul_eq_zero.1 e with e | e
            · exact (unhide HI).2.2.2 e
            · exact e)
          go_wp2_with (go_at_call_of 123 O; refine (unhide H1 _).mono ?_; rintro e w2 ⟨rfl, hc2⟩; have hb2 := hbl.trans (hc2.mono hbl.size); clear hc2)
          go_roundw
          case rel => exact ⟨av, 0, ov * av, by rw [(unhide HEQ).1.1], by go_num, by rw [(unhide HEQ).2.2], by omega, HI1, hb2⟩
          case measure => simp [intOf]
      · have h2 : 2 ≤ q := by omega
        have h3 : q % 2 = 0 := by omega
        go_wp2_with (go_at_call_of 123 A; refine (unhide H2 _).mono ?_; rintro e w2 ⟨rfl, hc2⟩; have hb2 := hbl.trans (hc2.mono hbl.size); clear hc2)
        go_roundw
        case rel => exact ⟨av * av, q / 2, ov, by rw [(unhide HEQ).2.1], by go_num, by rw [(unhide HEQ).1.2], by omega, unhide HE h3, hb2⟩
        case measure => simp [intOf]; omega
    · have hq0 : q = 0 := by omega
      subst hq0
      have HL := hide (unhide HI).last
      go_wp2
      go_ret
      exact ⟨by rw [unhide HL]; rfl, hbl⟩
end Go.Proofs.YtoinadnpdbaamaaGreatDoor

namespace Go.Proofs.YtoinadnpdbaamaaGreatDoor
open Go.RowKit

/-- Has the power surely more digits than may be? -/
def farB (m n : Nat) : Bool := (decide (1 < (tx m).size) && decide (600 ≤ ((tx m).size - 1) * n)) || (decide (1 < m) && decide (2000 ≤ n))
theorem tx_eq49 (n : Nat) : ((tx n).toList == [49]) = (n == 1) := by
  rw [Lib.toList_data, tx_list, Bool.eq_iff_iff, beq_iff_eq, beq_iff_eq]
  have e : Lib.decDigits 1 = [49] := by decide +kernel
  exact ⟨fun h => Cub.dec_inj (h.trans e.symm), fun h => by rw [h, e]⟩
set_option maxRecDepth 100000 in
set_option maxHeartbeats 2000000 in
theorem refFar (m n : Nat) (w : World) (hm : (tx m).size ≤ 5000) (hn : n ≤ 4096) :
    Calls Tryz.prog 151 #[.string (tx m), .int .i64 (n : Int)] w fun r w' => r = .returned (.bool (farB m n)) ∧ w' = w := by
  have z0 : ((tx m).toList == [48]) = (m == 0) := by
    rcases Nat.eq_zero_or_pos m with h | h
    · rw [h, tx_zero]; rfl
    · rw [tx_pos m h]; symm; rw [beq_eq_false_iff_ne]; omega
  have z1 := tx_eq49 m
  have hp : 0 < (tx m).size := by
    rcases Nat.eq_zero_or_pos (tx m).size with h | h
    · exfalso
      have := (tx_nat m).2.1
      apply this
      rw [← List.length_eq_zero_iff, list_len]; exact h
    · exact h
  have hmul : ((tx m).size - 1) * n ≤ 5000 * 4096 := Nat.mul_le_mul (by omega) hn
  have HF : Hid (farB m n = ((decide (1 < (tx m).size) && decide (600 ≤ ((tx m).size - 1) * n)) || ((!(m == 0) && !(m == 1)) && decide (2000 ≤ n)))) := by
    show _ = _
    unfold farB
    congr 2
    by_cases h0 : m = 0
    · subst h0; rfl
    · by_cases h1 : m = 1
      · subst h1; rfl
      · rw [decide_eq_true (by omega : 1 < m)]; simp [h0, h1]
  rw [unhide HF]
  obtain ⟨k, hk⟩ : ∃ k, (tx m).size = k + 1 := ⟨(tx m).size - 1, by omega⟩
  rw [hk] at hmul ⊢
  rw [show k + 1 - 1 = k from rfl] at hmul ⊢
  have hk' : ((tx m).size : Int) - 1 = (k : Int) := by omega
  have hkn : (k : Int) * (n : Int) = ((k * n : Nat) : Int) := by push_cast; rfl
  generalize hM : k * n = M at *
  generalize tx m = s at *
  generalize (m == 0) = b0 at *
  generalize (m == 1) = b1 at *
  have HK := hide (And.intro hk hkn)
  clear hp HF hk'
  by_cases c1 : 1 < k + 1
  · have i1 : (1 : Int) < (s.size : Int) := by omega
    rw [decide_eq_true c1]
    by_cases c2 : 600 ≤ M
    · rw [decide_eq_true c2]
      have i2 : (600 : Int) ≤ ((s.size : Int) - 1) * (n : Int) := by rw [hk]; push_cast; rw [Int.add_sub_cancel, hkn]; omega
      have i3 : ((s.size : Int) - 1) * (n : Int) ≤ 20480000 := by rw [hk]; push_cast; rw [Int.add_sub_cancel, hkn]; omega
      clear hk hkn HK hmul hM
      go_enter Tryz.func151, Tryz.ntmps151
      go_wp2
      go_ret
      exact ⟨by simp, rfl⟩
    · rw [decide_eq_false c2]
      have i2 : ¬ (600 : Int) ≤ ((s.size : Int) - 1) * (n : Int) := by rw [hk]; push_cast; rw [Int.add_sub_cancel, hkn]; omega
      have i3 : 0 ≤ ((s.size : Int) - 1) * (n : Int) := by rw [hk]; push_cast; rw [Int.add_sub_cancel, hkn]; omega
      clear hk hkn HK hmul hM
      cases b0 <;> cases b1 <;> by_cases c3 : 2000 ≤ n <;> (
        go_enter Tryz.func151, Tryz.ntmps151
        go_wp2
        go_ret
        exact ⟨by first | (simp; done) | (simp; omega), rfl⟩)
  · have i1 : ¬ (1 : Int) < (s.size : Int) := by omega
    rw [decide_eq_false c1]
    clear hk hkn HK hmul hM
    cases b0 <;> cases b1 <;> by_cases c3 : 2000 ≤ n <;> (
      go_enter Tryz.func151, Tryz.ntmps151
      go_wp2
      go_ret
      exact ⟨by first | (simp; done) | (simp; omega), rfl⟩)

end Go.Proofs.YtoinadnpdbaamaaGreatDoor

namespace Go.Proofs.YtoinadnpdbaamaaGreatDoor
open Go.RowKit
section
variable {P : Program} {ops : Array Oper} {md : Region.Mode} {C : World → Prop}

def waitsB (md : Region.Mode) (o : Oper) (i : Nat) : Bool := o.after.any fun e => Region.binds md e && e.on == i
theorem waits_spec {o : Oper} {i : Nat} (h : waitsB md o i = true) : ∃ e ∈ o.after, Region.binds md e = true ∧ e.on = i := by
  unfold waitsB at h
  rw [Array.any_eq_true] at h
  obtain ⟨j, hj, h2⟩ := h
  rw [Bool.and_eq_true, beq_iff_eq] at h2
  exact ⟨_, Array.getElem_mem hj, h2⟩

/-- Whatever order is picked from here on: number k comes last. -/
def wpAnyL (P : Program) (md : Region.Mode) (ops : Array Oper) (C : World → Prop) (Q : Act → Prop) (k : Nat) : Nat → Array Bool → Act → Prop
  | 0, listed, a => Region.ready md ops listed = [k] ∧ Region.ready md ops (listed.setIfInBounds k true) = [] ∧ Q a
  | fuel + 1, listed, a => Region.ready md ops listed ≠ [] ∧
    ∀ i ∈ Region.ready md ops listed, qOp P ops C i (wpAnyL P md ops C Q k fuel (listed.setIfInBounds i true)) a

theorem wpAny_of_last {k : Nat} {Q : Act → Prop} {Q' : Exit → Act → World → Prop} (hQ : ∀ a w, C w → Q a → wpOp P ops Q' k (fun a w => Q' .normal a w) a w) : ∀ (fuel : Nat) (listed : Array Bool) (a : Act) (w : World), C w →
    wpAnyL P md ops C Q k fuel listed a → wpAny P md ops Q' (fuel + 1) listed a w
  | 0, _, _, _, hw, h => ⟨fun h0 => (by rw [h.1] at h0; cases h0), fun i hi => by
      rw [h.1, List.mem_singleton] at hi
      subst hi
      exact wpOp_mono (fun a w hq => ⟨h.2.1, hq⟩) (hQ _ _ hw h.2.2)⟩
  | fuel + 1, _, _, _, hw, h => ⟨fun h0 => absurd h0 h.1, fun i hi => wpOp_of_qOp hw (fun a' w' hw' => wpAny_of_last hQ fuel _ a' w' hw') (h.2 i hi)⟩

theorem wpAnyL_first {Q : Act → Prop} {i k : Nat} {oi ok : Oper} {v : Value} (hi : ops[i]? = some oi) (hk : ops[k]? = some ok) (hwait : ∃ e ∈ ok.after, Region.binds md e = true ∧ e.on = i)
    (hsel : ∀ (j : Nat) (o : Oper) cs b, ops[j]? = some o → o.op ≠ .select cs b) :
    ∀ (fuel : Nat) (listed : Array Bool) (a : Act),
      (∀ j oj, ops[j]? = some oj → j ≠ i → listed.getD j true = false → (∀ e ∈ oj.after, Region.binds md e = true → e.on ≠ i) → oi.apart ops oj = true) →
      i ∈ Region.ready md ops listed → YieldsIn P ops C oi v a →
      wpAnyL P md ops C Q k fuel (listed.setIfInBounds i true) (a.put oi.dst v) → wpAnyL P md ops C Q k (fuel + 1) listed a := by
  have late : ∀ (listed : Array Bool), i ∈ Region.ready md ops listed → k ∉ Region.ready md ops listed := fun listed hr hkr => by
    obtain ⟨e, he, hb, hon⟩ := hwait
    obtain ⟨_, o, ho, hall⟩ := mem_ready.1 hkr
    rw [hk] at ho; cases ho
    have h1 := hall e he hb
    have h0 := (mem_ready.1 hr).1
    rw [hon] at h1
    rcases Nat.lt_or_ge i listed.size with h' | h'
    · simp [h'] at h0 h1; rw [h0] at h1; cases h1
    · simp [Array.getElem?_eq_none h'] at h1
  intro fuel
  induction fuel with
  | zero =>
    intro listed a _ hr hy H
    refine ⟨fun h => (by rw [h] at hr; cases hr), fun j hj => ?_⟩
    by_cases hji : j = i
    · subst hji; exact hy.qOp hi H
    · have := ready_mono hj hji
      rw [H.1, List.mem_singleton] at this
      subst this
      exact absurd hj (late listed hr)
  | succ fuel ih =>
    intro listed a hfree hr hy H
    refine ⟨fun h => (by rw [h] at hr; cases hr), fun j hj => ?_⟩
    by_cases hji : j = i
    · subst hji; exact hy.qOp hi H
    · have h1 := H.2 j (ready_mono hj hji)
      obtain ⟨hjun, oj, hoj, hall⟩ := mem_ready.1 hj
      have hnot : ∀ e ∈ oj.after, Region.binds md e = true → e.on ≠ i := fun e he hb heq => by
        have h1 := hall e he hb
        have h0 := (mem_ready.1 hr).1
        rw [heq] at h1
        rcases Nat.lt_or_ge i listed.size with h' | h'
        · simp [h'] at h0 h1; rw [h0] at h1; cases h1
        · simp [Array.getElem?_eq_none h'] at h1
      have h2 := qOp_put hoj (hfree j oj hoj hji hjun hnot) (fun cs b => hsel i oi cs b hi) (fun cs b => hsel j oj cs b hoj) hy h1
      have hfree' : ∀ k ok, ops[k]? = some ok → k ≠ i → (listed.setIfInBounds j true).getD k true = false →
          (∀ e ∈ ok.after, Region.binds md e = true → e.on ≠ i) → oi.apart ops ok = true := fun k ok hk hki hun hno => by
        refine hfree k ok hk hki ?_ hno
        by_cases hjk : j = k
        · subst hjk; exact hjun
        · rw [getD_set_ne true hjk] at hun; exact hun
      refine qOp_mono (fun a' h3 => ih (listed.setIfInBounds j true) a' hfree' (ready_mono hr (Ne.symm hji)) h3.1 ?_) h2
      rw [Array.setIfInBounds_comm _ _ hji]
      exact h3.2

def lexLast (md : Region.Mode) (ops : Array Oper) (o : Oper) : Nat → Nat → Array Bool → Bool
  | 0, k, listed => (Region.ready md ops listed == [k]) && (Region.ready md ops (listed.setIfInBounds k true)).isEmpty
  | fuel + 1, k, listed => (Region.ready md ops listed).contains k && Region.free md ops listed k && waitsB md o k && lexLast md ops o fuel (k + 1) (listed.setIfInBounds k true)

theorem wpAnyL_lex {Q : Act → Prop} {ok : Oper} (hs : Region.noSelect ops = true) : ∀ (l : List Oper) (k : Nat) (listed : Array Bool) (a : Act), (∀ j, j < l.length → l[j]? = ops[k + j]?) → ops[k + l.length]? = some ok →
    lexLast md ops ok l.length k listed = true → wpQuiet P ops C Q l a → wpAnyL P md ops C Q (k + l.length) l.length listed a
  | [], k, _, _, _, _, hB, h => by
    simp only [List.length_nil, lexLast, Bool.and_eq_true, beq_iff_eq, List.isEmpty_iff] at hB
    exact ⟨hB.1, hB.2, h⟩
  | o :: l, k, listed, a, hl, hk, hB, h => by
    have h0 : ops[k]? = some o := by simpa using (hl 0 (by simp)).symm
    simp only [List.length_cons, lexLast, Bool.and_eq_true] at hB
    obtain ⟨⟨⟨hr, hf⟩, hwt⟩, hB'⟩ := hB
    have hst : qOp P ops C k (wpQuiet P ops C Q l) a := by unfold qOp; simp only [h0]; exact h
    obtain ⟨v, hy, hK⟩ := yieldsIn_of_qOp h0 hst
    have e : k + (o :: l).length = (k + 1) + l.length := by simp only [List.length_cons]; omega
    rw [e] at hk ⊢
    exact wpAnyL_first h0 hk (waits_spec hwt) (Region.noSelect_spec hs) l.length listed a (Region.free_spec h0 hf) (by simpa using hr) hy
      (wpAnyL_lex hs l (k + 1) _ _ (fun j hj => by have := hl (j + 1) (by simp only [List.length_cons]; omega); simpa [Nat.add_assoc, Nat.add_comm 1 j] using this) hk hB' hK)

def lastB (l : List Oper) (st : Oper) : Bool := Region.noSelect (l ++ [st]).toArray && lexLast .any (l ++ [st]).toArray st l.length 0 (Array.replicate (l ++ [st]).toArray.size false)

theorem quiet_last {id : Nat} {Q : Exit → Act → World → Prop} {a : Act} {w : World} {L l : List Oper} {st : Oper} (hL : L = l ++ [st]) (hm : P.follows .mixedOrders = true) (hB : lastB l st = true)
    (h : wpQuiet P L.toArray (fun w' => ∃ x : Later w, w' = x.world) (fun a' => ∀ w', (∃ x : Later w, w' = x.world) → if Region.wanted st (yielded L.toArray a'.tmps) then st.wp P a' w' (fun a w => Q .normal a w) Q else Q .normal (a'.put st.dst undef) w') l a) : (Code.region id L.toArray true).wp P Q a w := by
  subst hL
  simp only [lastB, Bool.and_eq_true] at hB
  have hlast : (l ++ [st]).toArray[0 + l.length]? = some st := by simp
  refine wp_region_any hm ?_
  have hsz : (l ++ [st]).toArray.size = l.length + 1 := by simp
  rw [hsz] at hB ⊢
  refine wpAny_of_last (k := 0 + l.length) (C := fun w' => ∃ x : Later w, w' = x.world) (Q := fun a' => ∀ w', (∃ x : Later w, w' = x.world) → if Region.wanted st (yielded (l ++ [st]).toArray a'.tmps) then st.wp P a' w' (fun a w => Q .normal a w) Q else Q .normal (a'.put st.dst undef) w') ?_ _ _ _ _ ⟨⟨_, (Below.refl w.heap.size w).drew⟩, rfl⟩ ?_
  · intro a' w' hw' hq
    have := hq w' hw'
    unfold wpOp
    rw [hlast]
    dsimp only
    split
    · rename_i hwt; simp only [hwt, if_true] at this; exact .inl this
    · rename_i hwt; simp only [hwt] at this; exact this
  · exact wpAnyL_lex hB.1 l 0 _ a (fun j hj => by simp [List.getElem?_append_left hj]) hlast hB.2 h
/-- The last one of a list. -/
def lastOf (d : Oper) : List Oper → Oper
  | [] => d
  | o :: l => lastOf o l
theorem front_last (d : Oper) : ∀ L : List Oper, L ≠ [] → L = L.dropLast ++ [lastOf d L]
  | [], h => absurd rfl h
  | [o], _ => rfl
  | o :: o' :: l, _ => by
    have h := front_last o (o' :: l) (by simp)
    rw [List.dropLast_cons_cons, List.cons_append]
    exact congrArg (o :: ·) h
/-- The same, of a region that is written out. -/
theorem quiet_end {id : Nat} {Q : Exit → Act → World → Prop} {a : Act} {w : World} {o : Oper} {L : List Oper} (hm : P.follows .mixedOrders = true) (hB : lastB (o :: L).dropLast (lastOf o L) = true)
    (h : wpQuiet P (o :: L).toArray (fun w' => ∃ x : Later w, w' = x.world) (fun a' => ∀ w', (∃ x : Later w, w' = x.world) → if Region.wanted (lastOf o L) (yielded (o :: L).toArray a'.tmps) then (lastOf o L).wp P a' w' (fun a w => Q .normal a w) Q else Q .normal (a'.put (lastOf o L).dst undef) w') (o :: L).dropLast a) : (Code.region id (o :: L).toArray true).wp P Q a w :=
  quiet_last (l := (o :: L).dropLast) (st := lastOf o L) (front_last o (o :: L) (by simp)) hm hB h
end
end Go.Proofs.YtoinadnpdbaamaaGreatDoor

namespace Go.Proofs.YtoinadnpdbaamaaGreatDoor
open Go.RowKit
set_option maxRecDepth 100000 in
set_option maxHeartbeats 4000000 in
theorem refPowF_walk (b : Bool) (s t s2 t2 : ByteArray) (n : Nat) (w : World) (hn : n ≤ 4096)
    (hA : ∀ X, Calls Tryz.prog 184 #[.string s, .int .i64 (n : Int)] X fun r w' => r = .returned (.string s2) ∧ Below X.heap.size X w')
    (hB : ∀ X, Calls Tryz.prog 184 #[.string t, .int .i64 (n : Int)] X fun r w' => r = .returned (.string t2) ∧ Below X.heap.size X w') :
    Calls Tryz.prog 152 #[.agg #[.bool b, .string s, .string t], .int .i64 (n : Int)] w fun r w' => r = .returned (.agg #[.bool (b && decide (n % 2 = 1)), .string s2, .string t2]) ∧ Below w.heap.size w w' := by
  obtain ⟨V, hV⟩ : ∃ V, V = (w.alloc (.cells #[.bool b, .string s, .string t] 61)).alloc (.cells #[.bool false, .string ⟨#[]⟩, .string ⟨#[]⟩] 61) := ⟨_, rfl⟩
  have HB : Hid (Below w.heap.size w V) := by rw [hV]; exact ((Below.refl _ _).alloc (Nat.le_refl _) _).alloc (by simp) _
  have HR : Hid (FBox V (w.heap.size + 1) (.bool false) (.string ⟨#[]⟩) (.string ⟨#[]⟩)) := by rw [hV]; exact ⟨by simp [go_sem], by simp [go_sem], by simp [go_sem], by simp [go_sem], by simp [go_sem], by simp [go_sem]⟩
  have HF : Hid (FBox V w.heap.size (.bool b) (.string s) (.string t)) := by rw [hV]; exact ⟨by simp [go_sem], by simp [go_sem], by simp [go_sem], by simp [go_sem], by simp [go_sem], by simp [go_sem]⟩
  have HA := hide hA; have HBB := hide hB
  have HV := hide hV
  have HN2 : Hid (((n : Int) % 2 == 1) = decide (n % 2 = 1)) := by
    show _ = _
    rw [Bool.eq_iff_iff, beq_iff_eq, decide_eq_true_iff]; omega
  clear hA hB
  go_enter Tryz.func152, Tryz.ntmps152
  go_upto_region 1 with fail
  rw [← unhide HV]
  clear hV HV
  have t0 : ∀ z : Later V, z.world.cell? ⟨w.heap.size, 0, none⟩ = some (.bool b) := fun z => ((unhide HF).later z.below).c0
  have t1 : ∀ z : Later V, z.world.cell? ⟨w.heap.size, 1, none⟩ = some (.string s) := fun z => ((unhide HF).later z.below).c1
  have t2' : ∀ z : Later V, z.world.cell? ⟨w.heap.size, 2, none⟩ = some (.string t) := fun z => ((unhide HF).later z.below).c2
  refine quiet_end (by kernel_rfl) (by kernel_rfl) ?_
  simp only [List.dropLast, lastOf]
  cases b with
  | false =>
    repeat (go_big_quiet_step (first
      | (go_at_call_of 184 (Value.string s); rename_i xx; refine (unhide HA _).mono ?_; rintro e w9 ⟨rfl, hb9⟩; have hz := xx.below.trans (hb9.mono xx.below.size); first | exact ⟨rfl, ⟨w9, hz⟩, rfl⟩ | exact ⟨rfl, hz⟩ | exact ⟨rfl, w9, hz, rfl⟩)
      | (go_at_call_of 184 (Value.string t); rename_i xx; refine (unhide HBB _).mono ?_; rintro e w9 ⟨rfl, hb9⟩; have hz := xx.below.trans (hb9.mono xx.below.size); first | exact ⟨rfl, ⟨w9, hz⟩, rfl⟩ | exact ⟨rfl, hz⟩ | exact ⟨rfl, w9, hz, rfl⟩)))
    refine wpQuiet_nil ?_
    intro _ hw'
    obtain ⟨xz, hw''⟩ := hw'
    subst hw''
    obtain ⟨U, hU⟩ : ∃ U, U = xz.world := ⟨_, rfl⟩
    have HBU : Hid (Below w.heap.size w U) := by rw [hU]; exact (unhide HB).trans (xz.below.mono (unhide HB).size)
    have HRU : Hid (FBox U (w.heap.size + 1) (.bool false) (.string ⟨#[]⟩) (.string ⟨#[]⟩)) := by rw [hU]; exact (unhide HR).later xz.below
    rw [← hU]
    clear hU t0 t1 t2' HB HR HF
    have r0 := (unhide HRU).c0; have r1 := (unhide HRU).c1; have r2 := (unhide HRU).c2; have rf0 := (unhide HRU).f0; have rf1 := (unhide HRU).f1; have rf2 := (unhide HRU).f2
    go_simp
    go_wp2_with fail
    have hS := (unhide HRU).store (.bool false) (.string s2) (.string t2)
    have HB9 : Below w.heap.size w (store3 U (w.heap.size + 1) (.bool false) (.string s2) (.string t2)) := below_store3 (unhide HBU) (by omega) _ _ _
    have u0 := hS.c0; have u1 := hS.c1; have u2 := hS.c2
    exact bodyPost_ret (v := .agg #[.bool false, .string s2, .string t2]) (w := store3 U (w.heap.size + 1) (.bool false) (.string s2) (.string t2)) (by simp [results, Tryz.results152, go_sem, u0, u1, u2]) rfl ⟨by simp, HB9⟩
  | true =>
    repeat (go_big_quiet_step (first
      | (go_at_call_of 184 (Value.string s); rename_i xx; refine (unhide HA _).mono ?_; rintro e w9 ⟨rfl, hb9⟩; have hz := xx.below.trans (hb9.mono xx.below.size); first | exact ⟨rfl, ⟨w9, hz⟩, rfl⟩ | exact ⟨rfl, hz⟩ | exact ⟨rfl, w9, hz, rfl⟩)
      | (go_at_call_of 184 (Value.string t); rename_i xx; refine (unhide HBB _).mono ?_; rintro e w9 ⟨rfl, hb9⟩; have hz := xx.below.trans (hb9.mono xx.below.size); first | exact ⟨rfl, ⟨w9, hz⟩, rfl⟩ | exact ⟨rfl, hz⟩ | exact ⟨rfl, w9, hz, rfl⟩)))
    refine wpQuiet_nil ?_
    intro _ hw'
    obtain ⟨xz, hw''⟩ := hw'
    subst hw''
    obtain ⟨U, hU⟩ : ∃ U, U = xz.world := ⟨_, rfl⟩
    have HBU : Hid (Below w.heap.size w U) := by rw [hU]; exact (unhide HB).trans (xz.below.mono (unhide HB).size)
    have HRU : Hid (FBox U (w.heap.size + 1) (.bool false) (.string ⟨#[]⟩) (.string ⟨#[]⟩)) := by rw [hU]; exact (unhide HR).later xz.below
    rw [← hU]
    clear hU t0 t1 t2' HB HR HF
    have r0 := (unhide HRU).c0; have r1 := (unhide HRU).c1; have r2 := (unhide HRU).c2; have rf0 := (unhide HRU).f0; have rf1 := (unhide HRU).f1; have rf2 := (unhide HRU).f2
    go_simp
    go_wp2_with fail
    have hS := (unhide HRU).store (.bool ((n : Int) % 2 == 1)) (.string s2) (.string t2)
    have HB9 : Below w.heap.size w (store3 U (w.heap.size + 1) (.bool ((n : Int) % 2 == 1)) (.string s2) (.string t2)) := below_store3 (unhide HBU) (by omega) _ _ _
    have u0 := hS.c0; have u1 := hS.c1; have u2 := hS.c2
    exact bodyPost_ret (v := .agg #[.bool ((n : Int) % 2 == 1), .string s2, .string t2]) (w := store3 U (w.heap.size + 1) (.bool ((n : Int) % 2 == 1)) (.string s2) (.string t2)) (by simp [results, Tryz.results152, go_sem, u0, u1, u2]) rfl ⟨by rw [unhide HN2]; simp, HB9⟩
theorem refPowF (x : Rat) (n K : Nat) (w : World) (hn : n ≤ 4096) (hK : 1 ≤ K) (hK2 : K ≤ 100000) (hP : x.num.natAbs ^ n < 10 ^ K) (hQ : x.den ^ n < 10 ^ K) :
    Calls Tryz.prog 152 #[fx x, .int .i64 (n : Int)] w fun r w' => r = .returned (fx (x ^ n)) ∧ Below w.heap.size w w' := by
  have lx := Cub.low_of x
  obtain ⟨h1, h2⟩ := Cub.pow_low lx.1 n
  rw [lx.2] at h2
  rw [← h2, ← fx_of h1]
  exact refPowF_walk _ _ _ _ _ n w hn (fun X => refPower_any _ n K X (by omega) hK hK2 hP) (fun X => refPower_any _ n K X (by omega) hK hK2 hQ)
end Go.Proofs.YtoinadnpdbaamaaGreatDoor

namespace Go.Proofs.YtoinadnpdbaamaaGreatDoor
open Go.RowKit

theorem tx_lt (m : Nat) : m < 10 ^ (tx m).size := by
  have h := (tx_nat m)
  have h1 : Cub.dval (tx m).data.toList = m := tx_val m
  rcases Nat.lt_or_ge m (10 ^ (tx m).size) with h2 | h2
  · exact h2
  · exfalso
    have h3 := (Cub.dec_len_lt m (tx m).size (by
      rcases Nat.eq_zero_or_pos (tx m).size with h0 | h0
      · exfalso; apply h.2.1; rw [← List.length_eq_zero_iff, list_len]; exact h0
      · exact h0)).1 (by rw [← tx_list, list_len]; exact Nat.le_refl _)
    omega
/-- What is not far is below 10^2000. -/
theorem far_not {m n : Nat} (h : farB m n = false) (e : Nat) (he : e = 2000) : m ^ n < 10 ^ e := by
  unfold farB at h
  rw [Bool.or_eq_false_iff, Bool.and_eq_false_iff, Bool.and_eq_false_iff, decide_eq_false_iff_not, decide_eq_false_iff_not, decide_eq_false_iff_not, decide_eq_false_iff_not] at h
  obtain ⟨h1, h2⟩ := h
  have hlt := tx_lt m
  generalize (tx m).size = k at *
  rcases Nat.lt_or_ge 1 k with hk | hk
  · have h3 : (k - 1) * n < 600 := by rcases h1 with h1 | h1 <;> omega
    have h4 : k * n ≤ 2 * ((k - 1) * n) := by
      rw [← Nat.mul_assoc]; exact Nat.mul_le_mul_right _ (by omega)
    have h5 : m ^ n ≤ (10 ^ k) ^ n := Nat.pow_le_pow_left (Nat.le_of_lt hlt) n
    rw [← Nat.pow_mul] at h5
    have h6 : 10 ^ (k * n) < 10 ^ e := Nat.pow_lt_pow_right (by omega) (by omega)
    omega
  · rcases Nat.lt_or_ge 1 m with hm | hm
    · have hn : n < 2000 := by rcases h2 with h2 | h2 <;> omega
      have h7 : m < 10 ^ 1 := Nat.lt_of_lt_of_le hlt (Nat.pow_le_pow_right (by omega) hk)
      have h5 : m ^ n ≤ (10 ^ 1) ^ n := Nat.pow_le_pow_left (Nat.le_of_lt h7) n
      rw [← Nat.pow_mul, Nat.one_mul] at h5
      have h6 : 10 ^ n < 10 ^ e := Nat.pow_lt_pow_right (by omega) (by omega)
      omega
    · have h5 : m ^ n ≤ 1 ^ n := Nat.pow_le_pow_left hm n
      rw [Nat.one_pow] at h5
      have h6 : 1 < 10 ^ e := Nat.one_lt_pow (by omega) (by omega)
      omega
theorem tx_big {m : Nat} (h : 600 < (tx m).size) : 10 ^ 600 ≤ m := by
  have h3 := Cub.dec_len_lt m 600 (by omega)
  rcases Nat.lt_or_ge m (10 ^ 600) with h2 | h2
  · have := h3.2 h2
    rw [← tx_list, list_len] at this; omega
  · exact h2
/-- What is far has more than 600 digits. -/
theorem far_big {m n : Nat} (h : farB m n = true) (e : Nat) (he : e = 600) : 10 ^ e ≤ m ^ n := by
  unfold farB at h
  rw [Bool.or_eq_true, Bool.and_eq_true, Bool.and_eq_true, decide_eq_true_iff, decide_eq_true_iff, decide_eq_true_iff, decide_eq_true_iff] at h
  rcases h with ⟨h1, h2⟩ | ⟨h1, h2⟩
  · have h3 : 10 ^ ((tx m).size - 1) ≤ m := by
      rcases Nat.lt_or_ge m (10 ^ ((tx m).size - 1)) with h4 | h4
      · have := (Cub.dec_len_lt m ((tx m).size - 1) (by omega)).2 h4
        rw [← tx_list, list_len] at this; omega
      · exact h4
    have h5 : (10 ^ ((tx m).size - 1)) ^ n ≤ m ^ n := Nat.pow_le_pow_left h3 n
    rw [← Nat.pow_mul] at h5
    exact Nat.le_trans (Nat.pow_le_pow_right (by omega) (by omega)) h5
  · have h5 : 2 ^ n ≤ m ^ n := Nat.pow_le_pow_left h1 n
    obtain ⟨k, hk⟩ : ∃ k, k = 200 := ⟨_, rfl⟩
    have h6 : 2 ^ (10 * k) ≤ 2 ^ n := Nat.pow_le_pow_right (by omega) (by omega)
    have h7 : (10 ^ 3) ^ k ≤ (2 ^ 10) ^ k := Nat.pow_le_pow_left (by decide) k
    rw [← Nat.pow_mul, ← Nat.pow_mul, show 3 * k = e from by omega] at h7
    exact Nat.le_trans h7 (Nat.le_trans h6 h5)

/-- Has the power surely too many digits? -/
def farQ (x : Rat) (n : Nat) : Bool := farB x.num.natAbs n || farB x.den n
def raisedV (x : Rat) (n : Nat) : Value := if farQ x n then .tuple #[.agg #[.bool false, .string ⟨#[]⟩, .string ⟨#[]⟩], .bool false] else .tuple #[fx (x ^ n), .bool true]
set_option maxRecDepth 100000 in
set_option maxHeartbeats 2000000 in
theorem refRaised_pos (x : Rat) (n : Nat) (w : World) (hn : n ≤ 4096) (h1 : (tx x.num.natAbs).size ≤ 5000) (h2 : (tx x.den).size ≤ 5000) :
    Calls Tryz.prog 103 #[fx x, .int .i64 (n : Int)] w fun r w' => r = .returned (raisedV x n) ∧ Below w.heap.size w w' := by
  have HP : Hid (farQ x n = false → ∀ X, Calls Tryz.prog 152 #[fx x, .int .i64 (n : Int)] X fun r w' => r = .returned (fx (x ^ n)) ∧ Below X.heap.size X w') := fun hf X => by
    unfold farQ at hf
    rw [Bool.or_eq_false_iff] at hf
    obtain ⟨e, he⟩ : ∃ e, e = 2000 := ⟨_, rfl⟩
    exact refPowF x n e X hn (by omega) (by omega) (far_not hf.1 e he) (far_not hf.2 e he)
  have HA : Hid (∀ X, Calls Tryz.prog 151 #[.string (tx x.num.natAbs), .int .i64 (n : Int)] X fun r w' => r = .returned (.bool (farB x.num.natAbs n)) ∧ w' = X) := fun X => refFar _ n X h1 hn
  have HB : Hid (∀ X, Calls Tryz.prog 151 #[.string (tx x.den), .int .i64 (n : Int)] X fun r w' => r = .returned (.bool (farB x.den n)) ∧ w' = X) := fun X => refFar _ n X h2 hn
  have hi : (0 : Int) ≤ (n : Int) := by omega
  obtain ⟨y, hy⟩ : ∃ y, y = fx (x ^ n) := ⟨_, rfl⟩
  unfold raisedV
  rw [← hy] at HP ⊢
  have hys : ∃ b s t, y = .agg #[.bool b, .string s, .string t] := ⟨_, _, _, hy⟩
  unfold fx at HP ⊢
  unfold farQ at HP ⊢
  generalize farB x.num.natAbs n = f1 at *
  generalize farB x.den n = f2 at *
  generalize tx x.num.natAbs = s at *
  generalize tx x.den = t at *
  generalize decide (x < 0) = b at *
  clear hy h1 h2
  obtain ⟨b', s', t', rfl⟩ := hys
  obtain ⟨V, hV⟩ : ∃ V, V = (w.alloc (.cells #[.bool b, .string s, .string t] 61)).alloc (.cells #[.bool false, .string ⟨#[]⟩, .string ⟨#[]⟩] 61) := ⟨_, rfl⟩
  have HBV : Hid (Below w.heap.size w V) := by rw [hV]; exact ((Below.refl _ _).alloc (Nat.le_refl _) _).alloc (by simp) _
  have HR : Hid (FBox V (w.heap.size + 1) (.bool false) (.string ⟨#[]⟩) (.string ⟨#[]⟩)) := by rw [hV]; exact ⟨by simp [go_sem], by simp [go_sem], by simp [go_sem], by simp [go_sem], by simp [go_sem], by simp [go_sem]⟩
  have HF : Hid (FBox V w.heap.size (.bool b) (.string s) (.string t)) := by rw [hV]; exact ⟨by simp [go_sem], by simp [go_sem], by simp [go_sem], by simp [go_sem], by simp [go_sem], by simp [go_sem]⟩
  have HV := hide hV
  clear hV
  have t0 := (unhide HF).c0; have t1 := (unhide HF).c1; have t2 := (unhide HF).c2
  have r0 := (unhide HR).c0; have r1 := (unhide HR).c1; have r2 := (unhide HR).c2; have rf0 := (unhide HR).f0; have rf1 := (unhide HR).f1; have rf2 := (unhide HR).f2
  by_cases hf : (f1 || f2) = true
  · rw [if_pos hf]
    have hS := (unhide HR).store (.bool false) (.string ⟨#[]⟩) (.string ⟨#[]⟩)
    have hb : Below w.heap.size w (store3 V (w.heap.size + 1) (.bool false) (.string ⟨#[]⟩) (.string ⟨#[]⟩)) := below_store3 (unhide HBV) (by omega) _ _ _
    have HU := hide (And.intro hS hb)
    clear hS hb
    cases f1 <;> cases f2 <;> first | (exact absurd hf (by decide)) | (
      clear hf
      go_enter Tryz.func103, Tryz.ntmps103
      go_upto_region 1 with fail
      rw [← unhide HV]
      clear HV
      go_wp2_with (first
        | (go_at_call_of 151 (Value.string s); go_must (refine (unhide HA _).mono ?_; rintro e w1 ⟨rfl, hw1⟩; rw [hw1]; clear hw1))
        | (go_at_call_of 151 (Value.string t); go_must (refine (unhide HB _).mono ?_; rintro e w1 ⟨rfl, hw1⟩; rw [hw1]; clear hw1)))
      have u0 := (unhide HU).1.c0; have u1 := (unhide HU).1.c1; have u2 := (unhide HU).1.c2
      exact bodyPost_ret (v := .tuple #[.agg #[.bool false, .string ⟨#[]⟩, .string ⟨#[]⟩], .bool false]) (w := store3 V (w.heap.size + 1) (.bool false) (.string ⟨#[]⟩) (.string ⟨#[]⟩)) (by simp [results, Tryz.results103, go_sem, u0, u1, u2]) rfl ⟨rfl, (unhide HU).2⟩)
  · rw [if_neg hf]
    cases f1 <;> cases f2 <;> first | (exact absurd rfl hf) | skip
    have HPP := hide (unhide HP rfl)
    clear HP hf
    go_enter Tryz.func103, Tryz.ntmps103
    go_upto_region 1 with fail
    rw [← unhide HV]
    clear HV
    go_wp2_with (first
      | (go_at_call_of 151 (Value.string s); go_must (refine (unhide HA _).mono ?_; rintro e w1 ⟨rfl, hw1⟩; rw [hw1]; clear hw1))
      | (go_at_call_of 151 (Value.string t); go_must (refine (unhide HB _).mono ?_; rintro e w1 ⟨rfl, hw1⟩; rw [hw1]; clear hw1))
      | (go_at_call 152; go_must (refine (unhide HPP _).mono ?_; rintro e w5 ⟨rfl, hb5⟩; have HR5 := hide ((unhide HR).later hb5); have HB5 := hide ((unhide HBV).trans (hb5.mono (unhide HBV).size)); clear hb5 t0 t1 t2 r0 r1 r2 rf0 rf1 rf2; have r0 := (unhide HR5).c0; have r1 := (unhide HR5).c1; have r2 := (unhide HR5).c2; have rf0 := (unhide HR5).f0; have rf1 := (unhide HR5).f1; have rf2 := (unhide HR5).f2)))
    have hS := (unhide HR5).store (.bool b') (.string s') (.string t')
    have hb : Below w.heap.size w (store3 w5 (w.heap.size + 1) (.bool b') (.string s') (.string t')) := below_store3 (unhide HB5) (by omega) _ _ _
    have u0 := hS.c0; have u1 := hS.c1; have u2 := hS.c2
    exact bodyPost_ret (v := .tuple #[.agg #[.bool b', .string s', .string t'], .bool true]) (w := store3 w5 (w.heap.size + 1) (.bool b') (.string s') (.string t')) (by simp [results, Tryz.results103, go_sem, u0, u1, u2]) rfl ⟨rfl, hb⟩
end Go.Proofs.YtoinadnpdbaamaaGreatDoor

namespace Go.Proofs.YtoinadnpdbaamaaGreatDoor
open Go.RowKit

set_option maxRecDepth 100000 in
set_option maxHeartbeats 2000000 in
theorem refRaised_neg (x : Rat) (n : Nat) (w : World) (hn : n ≤ 4096) (hn1 : 1 ≤ n) (hx : x ≠ 0) (h1 : (tx x.num.natAbs).size ≤ 5000) (h2 : (tx x.den).size ≤ 5000) :
    Calls Tryz.prog 103 #[fx x, .int .i64 (-(n : Int))] w fun r w' => r = .returned (raisedV x⁻¹ n) ∧ Below w.heap.size w w' := by
  have HO : Hid (∀ X, Calls Tryz.prog 99 #[fx x] X fun r w' => r = .returned (fx x⁻¹) ∧ Below X.heap.size X w') := fun X => refFOver x hx X
  have HP : Hid (∀ X, Calls Tryz.prog 103 #[fx x⁻¹, .int .i64 (n : Int)] X fun r w' => r = .returned (raisedV x⁻¹ n) ∧ Below X.heap.size X w') := fun X => by
    have lx := Cub.low_of x
    have hn : x.num.natAbs ≠ 0 := fun e => hx (Rat.num_eq_zero.1 (Int.natAbs_eq_zero.1 e))
    obtain ⟨l1, l2⟩ := Cub.inv_low lx.1 hn
    rw [lx.2] at l2
    obtain ⟨e1, e2, e3⟩ := Cub.low_is l1
    rw [l2] at e1 e2 e3
    exact refRaised_pos x⁻¹ n X (by assumption) (by rw [← e2]; exact h2) (by rw [← e3]; exact h1)
  have hys : ∃ b s t q, raisedV x⁻¹ n = .tuple #[.agg #[.bool b, .string s, .string t], .bool q] := by
    unfold raisedV
    split
    · exact ⟨_, _, _, _, rfl⟩
    · exact ⟨_, _, _, _, rfl⟩
  obtain ⟨b', s', t', q', hy⟩ := hys
  rw [hy] at HP ⊢
  clear hy
  unfold fx at HO ⊢
  have hzs : ∃ b s t, fx x⁻¹ = .agg #[.bool b, .string s, .string t] := ⟨_, _, _, rfl⟩
  obtain ⟨b2, s2, t2, hz⟩ := hzs
  have hz' := hz
  unfold fx at hz'
  rw [hz'] at HO
  rw [hz] at HP
  clear hz hz'
  generalize tx x.num.natAbs = s at *
  generalize tx x.den = t at *
  generalize decide (x < 0) = b at *
  have k0 : -(n : Int) < 0 := by omega
  have k1 : -(-(n : Int)) = (n : Int) := by omega
  clear h1 h2 hx
  obtain ⟨V, hV⟩ : ∃ V, V = (w.alloc (.cells #[.bool b, .string s, .string t] 61)).alloc (.cells #[.bool false, .string ⟨#[]⟩, .string ⟨#[]⟩] 61) := ⟨_, rfl⟩
  have HBV : Hid (Below w.heap.size w V) := by rw [hV]; exact ((Below.refl _ _).alloc (Nat.le_refl _) _).alloc (by simp) _
  have HR : Hid (FBox V (w.heap.size + 1) (.bool false) (.string ⟨#[]⟩) (.string ⟨#[]⟩)) := by rw [hV]; exact ⟨by simp [go_sem], by simp [go_sem], by simp [go_sem], by simp [go_sem], by simp [go_sem], by simp [go_sem]⟩
  have HF : Hid (FBox V w.heap.size (.bool b) (.string s) (.string t)) := by rw [hV]; exact ⟨by simp [go_sem], by simp [go_sem], by simp [go_sem], by simp [go_sem], by simp [go_sem], by simp [go_sem]⟩
  have HV := hide hV
  clear hV
  go_enter Tryz.func103, Tryz.ntmps103
  go_upto_region 1 with fail
  rw [← unhide HV]
  clear HV
  have t0 := (unhide HF).c0; have t1 := (unhide HF).c1; have t2' := (unhide HF).c2
  go_wp2_with (first
    | (go_at_call 99; go_must (refine (unhide HO _).mono ?_; rintro e w3 ⟨rfl, hb3⟩; have HR3 := hide ((unhide HR).later hb3); have HB3 := hide ((unhide HBV).trans (hb3.mono (unhide HBV).size)); clear hb3 t0 t1 t2'))
    | (go_at_call 103; go_must (refine (unhide HP _).mono ?_; rintro e w5 ⟨rfl, hb5⟩; have HR5 := hide ((unhide HR3).later hb5); have HB5 := hide ((unhide HB3).trans (hb5.mono (unhide HB3).size)); clear hb5; have r0 := (unhide HR5).c0; have r1 := (unhide HR5).c1; have r2 := (unhide HR5).c2; have rf0 := (unhide HR5).f0; have rf1 := (unhide HR5).f1; have rf2 := (unhide HR5).f2)))
  have hS := (unhide HR5).store (.bool b') (.string s') (.string t')
  have hb : Below w.heap.size w (store3 w5 (w.heap.size + 1) (.bool b') (.string s') (.string t')) := below_store3 (unhide HB5) (by omega) _ _ _
  have u0 := hS.c0; have u1 := hS.c1; have u2 := hS.c2
  exact bodyPost_ret (v := .tuple #[.agg #[.bool b', .string s', .string t'], .bool q']) (w := store3 w5 (w.heap.size + 1) (.bool b') (.string s') (.string t')) (by simp [results, Tryz.results103, go_sem, u0, u1, u2]) rfl ⟨rfl, hb⟩
theorem FBox.new61 (w : World) (a b c : Value) : FBox (w.alloc (.cells #[a, b, c] 61)) w.heap.size a b c := ⟨by simp [go_sem], by simp [go_sem], by simp [go_sem], by simp [go_sem], by simp [go_sem], by simp [go_sem]⟩

set_option maxRecDepth 100000 in
set_option maxHeartbeats 2000000 in
theorem refPow_no (n1 d1 : ByteArray) (j : Int) (w : World) (h18 : ∀ W, Calls Tryz.prog 18 #[.agg #[.string n1, .string d1]] W fun r w' => r = .returned (.bool false) ∧ Below W.heap.size W w') : Ans 41 #[.agg #[.string n1, .string d1], .int .i64 j] w ⟨#[]⟩ ⟨#[]⟩ 3 := by
  unfold Ans at *
  obtain ⟨V, hV⟩ : ∃ V, V = (w.alloc (.cells #[.string n1, .string d1] 23)).alloc (.cells #[.string ⟨#[]⟩, .string ⟨#[]⟩] 23) := ⟨_, rfl⟩
  have HS : Hid (N1 w V (.string n1) (.string d1)) := by rw [hV]; exact N1.first _ _ _
  have HV := hide hV
  have HA := hide h18
  clear h18
  go_enter Tryz.func41, Tryz.ntmps41
  go_upto_region 1 with fail
  rw [← unhide HV]
  clear hV HV
  have t0 := (unhide HS).a.c0; have t1 := (unhide HS).a.c1
  go_wp2_with (go_at_call 18; go_must (refine (unhide HA _).mono ?_; rintro e w1 ⟨rfl, hb1⟩; have HS1 := hide ((unhide HS).later hb1); clear hb1 t0 t1; have t0 := (unhide HS1).a.c0; have t1 := (unhide HS1).a.c1; have r0 := (unhide HS1).r.c0; have r1 := (unhide HS1).r.c1; have rf0 := (unhide HS1).r.f0; have rf1 := (unhide HS1).r.f1))
  have hS := (unhide HS1).r.store (.string ⟨#[]⟩) (.string ⟨#[]⟩)
  have hb : Below w.heap.size w (store2 w1 (w.heap.size + 1) (.string ⟨#[]⟩) (.string ⟨#[]⟩)) := below_store2 (unhide HS1).below (by omega) _ _
  have u0 := hS.c0; have u1 := hS.c1
  exact bodyPost_ret (v := .tuple #[.agg #[.string ⟨#[]⟩, .string ⟨#[]⟩], .int .i64 3]) (w := store2 w1 (w.heap.size + 1) (.string ⟨#[]⟩) (.string ⟨#[]⟩)) (by simp [results, Tryz.results41, go_sem, u0, u1]) rfl ⟨rfl, hb⟩

set_option maxRecDepth 100000 in
set_option maxHeartbeats 2000000 in
theorem refPow_arg (n1 d1 : ByteArray) (j : Int) (w : World) (h18 : ∀ W, Calls Tryz.prog 18 #[.agg #[.string n1, .string d1]] W fun r w' => r = .returned (.bool true) ∧ Below W.heap.size W w') (hj : j < -4096 ∨ 4096 < j) : Ans 41 #[.agg #[.string n1, .string d1], .int .i64 j] w ⟨#[]⟩ ⟨#[]⟩ 1 := by
  unfold Ans at *
  obtain ⟨V, hV⟩ : ∃ V, V = (w.alloc (.cells #[.string n1, .string d1] 23)).alloc (.cells #[.string ⟨#[]⟩, .string ⟨#[]⟩] 23) := ⟨_, rfl⟩
  have HS : Hid (N1 w V (.string n1) (.string d1)) := by rw [hV]; exact N1.first _ _ _
  have HV := hide hV
  have HA := hide h18
  clear h18
  go_enter Tryz.func41, Tryz.ntmps41
  go_upto_region 1 with fail
  rw [← unhide HV]
  clear hV HV
  have t0 := (unhide HS).a.c0; have t1 := (unhide HS).a.c1
  by_cases h : j < -4096
  · go_wp2_with (go_at_call 18; go_must (refine (unhide HA _).mono ?_; rintro e w1 ⟨rfl, hb1⟩; have HS1 := hide ((unhide HS).later hb1); clear hb1 t0 t1; have t0 := (unhide HS1).a.c0; have t1 := (unhide HS1).a.c1; have r0 := (unhide HS1).r.c0; have r1 := (unhide HS1).r.c1; have rf0 := (unhide HS1).r.f0; have rf1 := (unhide HS1).r.f1))
    have hS := (unhide HS1).r.store (.string ⟨#[]⟩) (.string ⟨#[]⟩)
    have hb : Below w.heap.size w (store2 w1 (w.heap.size + 1) (.string ⟨#[]⟩) (.string ⟨#[]⟩)) := below_store2 (unhide HS1).below (by omega) _ _
    have u0 := hS.c0; have u1 := hS.c1
    exact bodyPost_ret (v := .tuple #[.agg #[.string ⟨#[]⟩, .string ⟨#[]⟩], .int .i64 1]) (w := store2 w1 (w.heap.size + 1) (.string ⟨#[]⟩) (.string ⟨#[]⟩)) (by simp [results, Tryz.results41, go_sem, u0, u1]) rfl ⟨rfl, hb⟩
  · have h' : 4096 < j := by omega
    go_wp2_with (go_at_call 18; go_must (refine (unhide HA _).mono ?_; rintro e w1 ⟨rfl, hb1⟩; have HS1 := hide ((unhide HS).later hb1); clear hb1 t0 t1; have t0 := (unhide HS1).a.c0; have t1 := (unhide HS1).a.c1; have r0 := (unhide HS1).r.c0; have r1 := (unhide HS1).r.c1; have rf0 := (unhide HS1).r.f0; have rf1 := (unhide HS1).r.f1))
    have hS := (unhide HS1).r.store (.string ⟨#[]⟩) (.string ⟨#[]⟩)
    have hb : Below w.heap.size w (store2 w1 (w.heap.size + 1) (.string ⟨#[]⟩) (.string ⟨#[]⟩)) := below_store2 (unhide HS1).below (by omega) _ _
    have u0 := hS.c0; have u1 := hS.c1
    exact bodyPost_ret (v := .tuple #[.agg #[.string ⟨#[]⟩, .string ⟨#[]⟩], .int .i64 1]) (w := store2 w1 (w.heap.size + 1) (.string ⟨#[]⟩) (.string ⟨#[]⟩)) (by simp [results, Tryz.results41, go_sem, u0, u1]) rfl ⟨rfl, hb⟩

set_option maxRecDepth 100000 in
set_option maxHeartbeats 2000000 in
theorem refPow_zero (n1 d1 : ByteArray) (j : Int) (w : World) (h18 : ∀ W, Calls Tryz.prog 18 #[.agg #[.string n1, .string d1]] W fun r w' => r = .returned (.bool true) ∧ Below W.heap.size W w') (hj1 : -4096 ≤ j) (hj2 : j < 0) (hz : (n1.toList == [48]) = true) : Ans 41 #[.agg #[.string n1, .string d1], .int .i64 j] w ⟨#[]⟩ ⟨#[]⟩ 8 := by
  unfold Ans at *
  obtain ⟨V, hV⟩ : ∃ V, V = (w.alloc (.cells #[.string n1, .string d1] 23)).alloc (.cells #[.string ⟨#[]⟩, .string ⟨#[]⟩] 23) := ⟨_, rfl⟩
  have HS : Hid (N1 w V (.string n1) (.string d1)) := by rw [hV]; exact N1.first _ _ _
  have HV := hide hV
  have HA := hide h18
  clear h18
  have k1 : ¬ j < -4096 := by omega
  have k2 : ¬ 4096 < j := by omega
  go_enter Tryz.func41, Tryz.ntmps41
  go_upto_region 1 with fail
  rw [← unhide HV]
  clear hV HV
  have t0 := (unhide HS).a.c0; have t1 := (unhide HS).a.c1
  go_wp2_with (go_at_call 18; go_must (refine (unhide HA _).mono ?_; rintro e w1 ⟨rfl, hb1⟩; have HS1 := hide ((unhide HS).later hb1); clear hb1 t0 t1; have t0 := (unhide HS1).a.c0; have t1 := (unhide HS1).a.c1; have r0 := (unhide HS1).r.c0; have r1 := (unhide HS1).r.c1; have rf0 := (unhide HS1).r.f0; have rf1 := (unhide HS1).r.f1))
  have hS := (unhide HS1).r.store (.string ⟨#[]⟩) (.string ⟨#[]⟩)
  have hb : Below w.heap.size w (store2 w1 (w.heap.size + 1) (.string ⟨#[]⟩) (.string ⟨#[]⟩)) := below_store2 (unhide HS1).below (by omega) _ _
  have u0 := hS.c0; have u1 := hS.c1
  exact bodyPost_ret (v := .tuple #[.agg #[.string ⟨#[]⟩, .string ⟨#[]⟩], .int .i64 8]) (w := store2 w1 (w.heap.size + 1) (.string ⟨#[]⟩) (.string ⟨#[]⟩)) (by simp [results, Tryz.results41, go_sem, u0, u1]) rfl ⟨rfl, hb⟩

set_option maxRecDepth 100000 in
set_option maxHeartbeats 2000000 in
theorem refPow_far (n1 d1 : ByteArray) (j : Int) (v1 : Value) (w : World) (h18 : ∀ W, Calls Tryz.prog 18 #[.agg #[.string n1, .string d1]] W fun r w' => r = .returned (.bool true) ∧ Below W.heap.size W w') (hj1 : -4096 ≤ j) (hj2 : j ≤ 4096) (hz : ¬ j < 0 ∨ (n1.toList == [48]) = false) (hrd : ∀ W, Calls Tryz.prog 62 #[.agg #[.string n1, .string d1]] W fun r w' => r = .returned v1 ∧ Below W.heap.size W w')
    (hrs : ∀ W, Calls Tryz.prog 103 #[v1, .int .i64 j] W fun r w' => r = .returned (.tuple #[.agg #[.bool false, .string ⟨#[]⟩, .string ⟨#[]⟩], .bool false]) ∧ Below W.heap.size W w') : Ans 41 #[.agg #[.string n1, .string d1], .int .i64 j] w ⟨#[]⟩ ⟨#[]⟩ 7 := by
  unfold Ans at *
  obtain ⟨V, hV⟩ : ∃ V, V = (w.alloc (.cells #[.string n1, .string d1] 23)).alloc (.cells #[.string ⟨#[]⟩, .string ⟨#[]⟩] 23) := ⟨_, rfl⟩
  have HS : Hid (N1 w V (.string n1) (.string d1)) := by rw [hV]; exact N1.first _ _ _
  have HV := hide hV
  have HA := hide h18
  have HRD := hide hrd
  have HRS := hide hrs
  clear h18 hrd hrs
  have k1 : ¬ j < -4096 := by omega
  have k2 : ¬ 4096 < j := by omega
  go_enter Tryz.func41, Tryz.ntmps41
  go_upto_region 1 with fail
  rw [← unhide HV]
  clear hV HV
  have t0 := (unhide HS).a.c0; have t1 := (unhide HS).a.c1
  by_cases hj : j < 0
  · have hz' : (n1.toList == [48]) = false := by rcases hz with h | h; exact absurd hj h; exact h
    go_upto_region 8 with (first | (go_at_call 18; go_must (refine (unhide HA _).mono ?_; rintro e w1 ⟨rfl, hb1⟩; have HS1 := hide ((unhide HS).later hb1); clear hb1 t0 t1; have t0 := (unhide HS1).a.c0; have t1 := (unhide HS1).a.c1; have r0 := (unhide HS1).r.c0; have r1 := (unhide HS1).r.c1; have rf0 := (unhide HS1).r.f0; have rf1 := (unhide HS1).r.f1)) | (go_at_call 62; go_must (refine (unhide HRD _).mono ?_; rintro e w2 ⟨rfl, hb2⟩; have HS2 := hide ((unhide HS1).later hb2); clear hb2 t0 t1 r0 r1 rf0 rf1; have r0 := (unhide HS2).r.c0; have r1 := (unhide HS2).r.c1; have rf0 := (unhide HS2).r.f0; have rf1 := (unhide HS2).r.f1)) | (go_at_call 103; go_must (refine (unhide HRS _).mono ?_; rintro e w3 ⟨rfl, hb3⟩; have HS3 := hide ((unhide HS2).later hb3); clear hb3 r0 r1 rf0 rf1; have r0 := (unhide HS3).r.c0; have r1 := (unhide HS3).r.c1; have rf0 := (unhide HS3).r.f0; have rf1 := (unhide HS3).r.f1)))
    obtain ⟨V2, hV2⟩ : ∃ V2, V2 = w3.alloc (.cells #[.bool false, .string ⟨#[]⟩, .string ⟨#[]⟩] 61) := ⟨_, rfl⟩
    have hb : Below w3.heap.size w3 V2 := by rw [hV2]; exact (Below.refl _ _).alloc (Nat.le_refl _) _
    have HS5 := hide ((unhide HS3).later hb)
    have HP : Hid (FBox V2 w3.heap.size (.bool false) (.string ⟨#[]⟩) (.string ⟨#[]⟩)) := by rw [hV2]; exact FBox.new61 _ _ _ _
    rw [← hV2]
    clear hV2 hb r0 r1 rf0 rf1
    generalize w3.heap.size = g8 at *
    have p0 := (unhide HP).c0; have p1 := (unhide HP).c1; have p2 := (unhide HP).c2
    have r0 := (unhide HS5).r.c0; have r1 := (unhide HS5).r.c1; have rf0 := (unhide HS5).r.f0; have rf1 := (unhide HS5).r.f1
    go_wp2_with fail
    have hS := (unhide HS5).r.store (.string ⟨#[]⟩) (.string ⟨#[]⟩)
    have hb : Below w.heap.size w (store2 V2 (w.heap.size + 1) (.string ⟨#[]⟩) (.string ⟨#[]⟩)) := below_store2 (unhide HS5).below (by omega) _ _
    have u0 := hS.c0; have u1 := hS.c1
    exact bodyPost_ret (v := .tuple #[.agg #[.string ⟨#[]⟩, .string ⟨#[]⟩], .int .i64 7]) (w := store2 V2 (w.heap.size + 1) (.string ⟨#[]⟩) (.string ⟨#[]⟩)) (by simp [results, Tryz.results41, go_sem, u0, u1]) rfl ⟨rfl, hb⟩
  · clear hz
    go_upto_region 8 with (first | (go_at_call 18; go_must (refine (unhide HA _).mono ?_; rintro e w1 ⟨rfl, hb1⟩; have HS1 := hide ((unhide HS).later hb1); clear hb1 t0 t1; have t0 := (unhide HS1).a.c0; have t1 := (unhide HS1).a.c1; have r0 := (unhide HS1).r.c0; have r1 := (unhide HS1).r.c1; have rf0 := (unhide HS1).r.f0; have rf1 := (unhide HS1).r.f1)) | (go_at_call 62; go_must (refine (unhide HRD _).mono ?_; rintro e w2 ⟨rfl, hb2⟩; have HS2 := hide ((unhide HS1).later hb2); clear hb2 t0 t1 r0 r1 rf0 rf1; have r0 := (unhide HS2).r.c0; have r1 := (unhide HS2).r.c1; have rf0 := (unhide HS2).r.f0; have rf1 := (unhide HS2).r.f1)) | (go_at_call 103; go_must (refine (unhide HRS _).mono ?_; rintro e w3 ⟨rfl, hb3⟩; have HS3 := hide ((unhide HS2).later hb3); clear hb3 r0 r1 rf0 rf1; have r0 := (unhide HS3).r.c0; have r1 := (unhide HS3).r.c1; have rf0 := (unhide HS3).r.f0; have rf1 := (unhide HS3).r.f1)))
    obtain ⟨V2, hV2⟩ : ∃ V2, V2 = w3.alloc (.cells #[.bool false, .string ⟨#[]⟩, .string ⟨#[]⟩] 61) := ⟨_, rfl⟩
    have hb : Below w3.heap.size w3 V2 := by rw [hV2]; exact (Below.refl _ _).alloc (Nat.le_refl _) _
    have HS5 := hide ((unhide HS3).later hb)
    have HP : Hid (FBox V2 w3.heap.size (.bool false) (.string ⟨#[]⟩) (.string ⟨#[]⟩)) := by rw [hV2]; exact FBox.new61 _ _ _ _
    rw [← hV2]
    clear hV2 hb r0 r1 rf0 rf1
    generalize w3.heap.size = g8 at *
    have p0 := (unhide HP).c0; have p1 := (unhide HP).c1; have p2 := (unhide HP).c2
    have r0 := (unhide HS5).r.c0; have r1 := (unhide HS5).r.c1; have rf0 := (unhide HS5).r.f0; have rf1 := (unhide HS5).r.f1
    go_wp2_with fail
    have hS := (unhide HS5).r.store (.string ⟨#[]⟩) (.string ⟨#[]⟩)
    have hb : Below w.heap.size w (store2 V2 (w.heap.size + 1) (.string ⟨#[]⟩) (.string ⟨#[]⟩)) := below_store2 (unhide HS5).below (by omega) _ _
    have u0 := hS.c0; have u1 := hS.c1
    exact bodyPost_ret (v := .tuple #[.agg #[.string ⟨#[]⟩, .string ⟨#[]⟩], .int .i64 7]) (w := store2 V2 (w.heap.size + 1) (.string ⟨#[]⟩) (.string ⟨#[]⟩)) (by simp [results, Tryz.results41, go_sem, u0, u1]) rfl ⟨rfl, hb⟩

set_option maxRecDepth 100000 in
set_option maxHeartbeats 2000000 in
theorem refPow_told (n1 d1 s t : ByteArray) (er j : Int) (v1 : Value) (b : Bool) (p q : ByteArray) (w : World) (h18 : ∀ W, Calls Tryz.prog 18 #[.agg #[.string n1, .string d1]] W fun r w' => r = .returned (.bool true) ∧ Below W.heap.size W w') (hj1 : -4096 ≤ j) (hj2 : j ≤ 4096) (hz : ¬ j < 0 ∨ (n1.toList == [48]) = false) (hrd : ∀ W, Calls Tryz.prog 62 #[.agg #[.string n1, .string d1]] W fun r w' => r = .returned v1 ∧ Below W.heap.size W w')
    (hrs : ∀ W, Calls Tryz.prog 103 #[v1, .int .i64 j] W fun r w' => r = .returned (.tuple #[.agg #[.bool b, .string p, .string q], .bool true]) ∧ Below W.heap.size W w')
    (ht : ∀ W, Ans 74 #[.agg #[.bool b, .string p, .string q]] W s t er) : Ans 41 #[.agg #[.string n1, .string d1], .int .i64 j] w s t er := by
  unfold Ans at *
  obtain ⟨V, hV⟩ : ∃ V, V = (w.alloc (.cells #[.string n1, .string d1] 23)).alloc (.cells #[.string ⟨#[]⟩, .string ⟨#[]⟩] 23) := ⟨_, rfl⟩
  have HS : Hid (N1 w V (.string n1) (.string d1)) := by rw [hV]; exact N1.first _ _ _
  have HV := hide hV
  have HA := hide h18
  have HRD := hide hrd
  have HRS := hide hrs
  have HT := hide ht
  clear h18 hrd hrs ht
  have k1 : ¬ j < -4096 := by omega
  have k2 : ¬ 4096 < j := by omega
  go_enter Tryz.func41, Tryz.ntmps41
  go_upto_region 1 with fail
  rw [← unhide HV]
  clear hV HV
  have t0 := (unhide HS).a.c0; have t1 := (unhide HS).a.c1
  by_cases hj : j < 0
  · have hz' : (n1.toList == [48]) = false := by rcases hz with h | h; exact absurd hj h; exact h
    go_upto_region 8 with (first | (go_at_call 18; go_must (refine (unhide HA _).mono ?_; rintro e w1 ⟨rfl, hb1⟩; have HS1 := hide ((unhide HS).later hb1); clear hb1 t0 t1; have t0 := (unhide HS1).a.c0; have t1 := (unhide HS1).a.c1; have r0 := (unhide HS1).r.c0; have r1 := (unhide HS1).r.c1; have rf0 := (unhide HS1).r.f0; have rf1 := (unhide HS1).r.f1)) | (go_at_call 62; go_must (refine (unhide HRD _).mono ?_; rintro e w2 ⟨rfl, hb2⟩; have HS2 := hide ((unhide HS1).later hb2); clear hb2 t0 t1 r0 r1 rf0 rf1; have r0 := (unhide HS2).r.c0; have r1 := (unhide HS2).r.c1; have rf0 := (unhide HS2).r.f0; have rf1 := (unhide HS2).r.f1)) | (go_at_call 103; go_must (refine (unhide HRS _).mono ?_; rintro e w3 ⟨rfl, hb3⟩; have HS3 := hide ((unhide HS2).later hb3); clear hb3 r0 r1 rf0 rf1; have r0 := (unhide HS3).r.c0; have r1 := (unhide HS3).r.c1; have rf0 := (unhide HS3).r.f0; have rf1 := (unhide HS3).r.f1)))
    obtain ⟨V2, hV2⟩ : ∃ V2, V2 = w3.alloc (.cells #[.bool b, .string p, .string q] 61) := ⟨_, rfl⟩
    have hb : Below w3.heap.size w3 V2 := by rw [hV2]; exact (Below.refl _ _).alloc (Nat.le_refl _) _
    have HS5 := hide ((unhide HS3).later hb)
    have HP : Hid (FBox V2 w3.heap.size (.bool b) (.string p) (.string q)) := by rw [hV2]; exact FBox.new61 _ _ _ _
    rw [← hV2]
    clear hV2 hb r0 r1 rf0 rf1
    generalize w3.heap.size = g8 at *
    have p0 := (unhide HP).c0; have p1 := (unhide HP).c1; have p2 := (unhide HP).c2
    have r0 := (unhide HS5).r.c0; have r1 := (unhide HS5).r.c1; have rf0 := (unhide HS5).r.f0; have rf1 := (unhide HS5).r.f1
    go_wp2_with (go_at_call 74; go_must (refine (unhide HT _).mono ?_; rintro e w4 ⟨rfl, hb4⟩; have HS4 := hide ((unhide HS5).later hb4); clear hb4 r0 r1 rf0 rf1; have r0 := (unhide HS4).r.c0; have r1 := (unhide HS4).r.c1; have rf0 := (unhide HS4).r.f0; have rf1 := (unhide HS4).r.f1))
    have hS := (unhide HS4).r.store (.string s) (.string t)
    have hb : Below w.heap.size w (store2 w4 (w.heap.size + 1) (.string s) (.string t)) := below_store2 (unhide HS4).below (by omega) _ _
    have u0 := hS.c0; have u1 := hS.c1
    exact bodyPost_ret (v := .tuple #[.agg #[.string s, .string t], .int .i64 er]) (w := store2 w4 (w.heap.size + 1) (.string s) (.string t)) (by simp [results, Tryz.results41, go_sem, u0, u1]) rfl ⟨rfl, hb⟩
  · clear hz
    go_upto_region 8 with (first | (go_at_call 18; go_must (refine (unhide HA _).mono ?_; rintro e w1 ⟨rfl, hb1⟩; have HS1 := hide ((unhide HS).later hb1); clear hb1 t0 t1; have t0 := (unhide HS1).a.c0; have t1 := (unhide HS1).a.c1; have r0 := (unhide HS1).r.c0; have r1 := (unhide HS1).r.c1; have rf0 := (unhide HS1).r.f0; have rf1 := (unhide HS1).r.f1)) | (go_at_call 62; go_must (refine (unhide HRD _).mono ?_; rintro e w2 ⟨rfl, hb2⟩; have HS2 := hide ((unhide HS1).later hb2); clear hb2 t0 t1 r0 r1 rf0 rf1; have r0 := (unhide HS2).r.c0; have r1 := (unhide HS2).r.c1; have rf0 := (unhide HS2).r.f0; have rf1 := (unhide HS2).r.f1)) | (go_at_call 103; go_must (refine (unhide HRS _).mono ?_; rintro e w3 ⟨rfl, hb3⟩; have HS3 := hide ((unhide HS2).later hb3); clear hb3 r0 r1 rf0 rf1; have r0 := (unhide HS3).r.c0; have r1 := (unhide HS3).r.c1; have rf0 := (unhide HS3).r.f0; have rf1 := (unhide HS3).r.f1)))
    obtain ⟨V2, hV2⟩ : ∃ V2, V2 = w3.alloc (.cells #[.bool b, .string p, .string q] 61) := ⟨_, rfl⟩
    have hb : Below w3.heap.size w3 V2 := by rw [hV2]; exact (Below.refl _ _).alloc (Nat.le_refl _) _
    have HS5 := hide ((unhide HS3).later hb)
    have HP : Hid (FBox V2 w3.heap.size (.bool b) (.string p) (.string q)) := by rw [hV2]; exact FBox.new61 _ _ _ _
    rw [← hV2]
    clear hV2 hb r0 r1 rf0 rf1
    generalize w3.heap.size = g8 at *
    have p0 := (unhide HP).c0; have p1 := (unhide HP).c1; have p2 := (unhide HP).c2
    have r0 := (unhide HS5).r.c0; have r1 := (unhide HS5).r.c1; have rf0 := (unhide HS5).r.f0; have rf1 := (unhide HS5).r.f1
    go_wp2_with (go_at_call 74; go_must (refine (unhide HT _).mono ?_; rintro e w4 ⟨rfl, hb4⟩; have HS4 := hide ((unhide HS5).later hb4); clear hb4 r0 r1 rf0 rf1; have r0 := (unhide HS4).r.c0; have r1 := (unhide HS4).r.c1; have rf0 := (unhide HS4).r.f0; have rf1 := (unhide HS4).r.f1))
    have hS := (unhide HS4).r.store (.string s) (.string t)
    have hb : Below w.heap.size w (store2 w4 (w.heap.size + 1) (.string s) (.string t)) := below_store2 (unhide HS4).below (by omega) _ _
    have u0 := hS.c0; have u1 := hS.c1
    exact bodyPost_ret (v := .tuple #[.agg #[.string s, .string t], .int .i64 er]) (w := store2 w4 (w.heap.size + 1) (.string s) (.string t)) (by simp [results, Tryz.results41, go_sem, u0, u1]) rfl ⟨rfl, hb⟩

end Go.Proofs.YtoinadnpdbaamaaGreatDoor

namespace Go.Proofs.YtoinadnpdbaamaaGreatDoor
open Go.RowKit
set_option maxRecDepth 100000 in
set_option maxHeartbeats 2000000 in
theorem rpow_no (n1 d1 : ByteArray) (j : Int) (w : World) (h1 : Reads n1 d1 false) : Ans 40 #[.agg #[.string n1, .string d1], .int .i64 j] w ⟨#[]⟩ ⟨#[]⟩ 3 := by
  unfold Ans
  obtain ⟨V, hV⟩ : ∃ V, V = (w.alloc (.cells #[.string n1, .string d1] 23)).alloc (.cells #[.string ⟨#[]⟩, .string ⟨#[]⟩] 23) := ⟨_, rfl⟩
  have HS : Hid (N1 w V (.string n1) (.string d1)) := by rw [hV]; exact N1.first _ _ _
  have HV := hide hV
  have HR := hide (h1 V)
  clear h1
  go_enter Tryz.func40, Tryz.ntmps40
  go_upto_region 1 with fail
  rw [← unhide HV]
  clear hV HV
  have t0 := (unhide HS).a.c0; have t1 := (unhide HS).a.c1
  go_upto_region 2 with (go_at_call 76; go_must (refine (unhide HR).mono ?_; rintro e w1 ⟨b1, i1, i2, i3, i4, i5, i6, rfl, hb1⟩; have HS1 := hide ((unhide HS).later hb1); clear hb1 t0 t1))
  obtain ⟨V2, hV2⟩ : ∃ V2, V2 = w1.alloc (.cells #[.bool b1, .slice i1 i2 i3, .slice i4 i5 i6] 74) := ⟨_, rfl⟩
  have hb : Below w1.heap.size w1 V2 := by rw [hV2]; exact (Below.refl _ _).alloc (Nat.le_refl _) _
  have HS2 := hide ((unhide HS1).later hb)
  rw [← hV2]
  clear hV2 hb HS HS1 HR
  generalize w1.heap.size = g8 at *
  have r0 := (unhide HS2).r.c0; have r1 := (unhide HS2).r.c1; have rf0 := (unhide HS2).r.f0; have rf1 := (unhide HS2).r.f1
  go_wp2_with fail
  have hS := (unhide HS2).r.store (.string ⟨#[]⟩) (.string ⟨#[]⟩)
  have hb : Below w.heap.size w (store2 V2 (w.heap.size + 1) (.string ⟨#[]⟩) (.string ⟨#[]⟩)) := below_store2 (unhide HS2).below (by omega) _ _
  have u0 := hS.c0; have u1 := hS.c1
  exact bodyPost_ret (v := .tuple #[.agg #[.string ⟨#[]⟩, .string ⟨#[]⟩], .int .i64 3]) (w := store2 V2 (w.heap.size + 1) (.string ⟨#[]⟩) (.string ⟨#[]⟩)) (by simp [results, Tryz.results40, go_sem, u0, u1]) rfl ⟨rfl, hb⟩

set_option maxRecDepth 100000 in
set_option maxHeartbeats 2000000 in
theorem rpow_arg (n1 d1 : ByteArray) (x : Rat) (j : Int) (w : World) (h1 : IsR n1 d1 x) (hj : j < -4096 ∨ 4096 < j) : Ans 40 #[.agg #[.string n1, .string d1], .int .i64 j] w ⟨#[]⟩ ⟨#[]⟩ 1 := by
  unfold Ans
  obtain ⟨V, hV⟩ : ∃ V, V = (w.alloc (.cells #[.string n1, .string d1] 23)).alloc (.cells #[.string ⟨#[]⟩, .string ⟨#[]⟩] 23) := ⟨_, rfl⟩
  have HS : Hid (N1 w V (.string n1) (.string d1)) := by rw [hV]; exact N1.first _ _ _
  have HV := hide hV
  have HR := hide (qread n1 d1 x V h1)
  clear h1
  go_enter Tryz.func40, Tryz.ntmps40
  go_upto_region 1 with fail
  rw [← unhide HV]
  clear hV HV
  have t0 := (unhide HS).a.c0; have t1 := (unhide HS).a.c1
  go_upto_region 2 with (go_at_call 76; go_must (refine (unhide HR).mono ?_; rintro e w1 ⟨v1, rfl, hv1, hb1⟩; obtain ⟨b1, i1, i2, i3, i4, i5, i6, rfl⟩ := hv1.form; have HS1 := hide ((unhide HS).later hb1); have HV1 := hide hv1; clear hv1 hb1 t0 t1))
  obtain ⟨V2, hV2⟩ : ∃ V2, V2 = w1.alloc (.cells #[.bool b1, .slice i1 i2 i3, .slice i4 i5 i6] 74) := ⟨_, rfl⟩
  have hb : Below w1.heap.size w1 V2 := by rw [hV2]; exact (Below.refl _ _).alloc (Nat.le_refl _) _
  have HS2 := hide ((unhide HS1).later hb); have HX := hide ((unhide HV1).later hb)
  have HP : Hid (FBox V2 w1.heap.size (.bool b1) (.slice i1 i2 i3) (.slice i4 i5 i6)) := by rw [hV2]; exact FBox.new _ _ _ _
  rw [← hV2]
  clear hV2 hb HS HS1 HV1 HR
  generalize w1.heap.size = g8 at *
  have r0 := (unhide HS2).r.c0; have r1 := (unhide HS2).r.c1; have rf0 := (unhide HS2).r.f0; have rf1 := (unhide HS2).r.f1
  by_cases h : j < -4096
  · go_wp2_with fail
    have hS := (unhide HS2).r.store (.string ⟨#[]⟩) (.string ⟨#[]⟩)
    have hb : Below w.heap.size w (store2 V2 (w.heap.size + 1) (.string ⟨#[]⟩) (.string ⟨#[]⟩)) := below_store2 (unhide HS2).below (by omega) _ _
    have u0 := hS.c0; have u1 := hS.c1
    exact bodyPost_ret (v := .tuple #[.agg #[.string ⟨#[]⟩, .string ⟨#[]⟩], .int .i64 1]) (w := store2 V2 (w.heap.size + 1) (.string ⟨#[]⟩) (.string ⟨#[]⟩)) (by simp [results, Tryz.results40, go_sem, u0, u1]) rfl ⟨rfl, hb⟩
  · have h' : 4096 < j := by omega
    go_wp2_with fail
    have hS := (unhide HS2).r.store (.string ⟨#[]⟩) (.string ⟨#[]⟩)
    have hb : Below w.heap.size w (store2 V2 (w.heap.size + 1) (.string ⟨#[]⟩) (.string ⟨#[]⟩)) := below_store2 (unhide HS2).below (by omega) _ _
    have u0 := hS.c0; have u1 := hS.c1
    exact bodyPost_ret (v := .tuple #[.agg #[.string ⟨#[]⟩, .string ⟨#[]⟩], .int .i64 1]) (w := store2 V2 (w.heap.size + 1) (.string ⟨#[]⟩) (.string ⟨#[]⟩)) (by simp [results, Tryz.results40, go_sem, u0, u1]) rfl ⟨rfl, hb⟩

set_option maxRecDepth 100000 in
set_option maxHeartbeats 2000000 in
theorem rpow_zero (n1 d1 : ByteArray) (x : Rat) (j : Int) (w : World) (h1 : IsR n1 d1 x) (hj1 : -4096 ≤ j) (hj2 : j < 0) (hx0 : x = 0) : Ans 40 #[.agg #[.string n1, .string d1], .int .i64 j] w ⟨#[]⟩ ⟨#[]⟩ 8 := by
  unfold Ans
  obtain ⟨V, hV⟩ : ∃ V, V = (w.alloc (.cells #[.string n1, .string d1] 23)).alloc (.cells #[.string ⟨#[]⟩, .string ⟨#[]⟩] 23) := ⟨_, rfl⟩
  have HS : Hid (N1 w V (.string n1) (.string d1)) := by rw [hV]; exact N1.first _ _ _
  have HV := hide hV
  have HR := hide (qread n1 d1 x V h1)
  have hz : (Cub.cmpQ x 0 == 0) = true := by rw [hx0]; decide
  have k1 : ¬ j < -4096 := by omega
  have k2 : ¬ 4096 < j := by omega
  clear h1 hx0
  go_enter Tryz.func40, Tryz.ntmps40
  go_upto_region 1 with fail
  rw [← unhide HV]
  clear hV HV
  have t0 := (unhide HS).a.c0; have t1 := (unhide HS).a.c1
  go_upto_region 2 with (go_at_call 76; go_must (refine (unhide HR).mono ?_; rintro e w1 ⟨v1, rfl, hv1, hb1⟩; obtain ⟨b1, i1, i2, i3, i4, i5, i6, rfl⟩ := hv1.form; have HS1 := hide ((unhide HS).later hb1); have HV1 := hide hv1; clear hv1 hb1 t0 t1))
  obtain ⟨V2, hV2⟩ : ∃ V2, V2 = w1.alloc (.cells #[.bool b1, .slice i1 i2 i3, .slice i4 i5 i6] 74) := ⟨_, rfl⟩
  have hb : Below w1.heap.size w1 V2 := by rw [hV2]; exact (Below.refl _ _).alloc (Nat.le_refl _) _
  have HS2 := hide ((unhide HS1).later hb); have HX := hide ((unhide HV1).later hb)
  have HP : Hid (FBox V2 w1.heap.size (.bool b1) (.slice i1 i2 i3) (.slice i4 i5 i6)) := by rw [hV2]; exact FBox.new _ _ _ _
  rw [← hV2]
  clear hV2 hb HS HS1 HV1 HR
  generalize w1.heap.size = g8 at *
  have t0 := (unhide HP).c0; have t1 := (unhide HP).c1; have t2 := (unhide HP).c2
  go_wp2_with (go_at_call 97; go_must (refine (qsign _ x 67 _ (unhide HX)).mono ?_; rintro e w3 ⟨rfl, hb3⟩; have HS3 := hide ((unhide HS2).later hb3); clear hb3 t0 t1 t2; have r0 := (unhide HS3).r.c0; have r1 := (unhide HS3).r.c1; have rf0 := (unhide HS3).r.f0; have rf1 := (unhide HS3).r.f1))
  have hS := (unhide HS3).r.store (.string ⟨#[]⟩) (.string ⟨#[]⟩)
  have hb : Below w.heap.size w (store2 w3 (w.heap.size + 1) (.string ⟨#[]⟩) (.string ⟨#[]⟩)) := below_store2 (unhide HS3).below (by omega) _ _
  have u0 := hS.c0; have u1 := hS.c1
  exact bodyPost_ret (v := .tuple #[.agg #[.string ⟨#[]⟩, .string ⟨#[]⟩], .int .i64 8]) (w := store2 w3 (w.heap.size + 1) (.string ⟨#[]⟩) (.string ⟨#[]⟩)) (by simp [results, Tryz.results40, go_sem, u0, u1]) rfl ⟨rfl, hb⟩

end Go.Proofs.YtoinadnpdbaamaaGreatDoor

namespace Go.Proofs.YtoinadnpdbaamaaGreatDoor
open Go.RowKit

theorem rpow_all (n1 d1 : ByteArray) (x : Rat) (j : Int) (w : World) (h1 : IsR n1 d1 x) (hj1 : -4096 ≤ j) (hj2 : j ≤ 4096) (hz : ¬ (j < 0 ∧ x = 0)) (htab : Tab w) :
    Ans 40 #[.agg #[.string n1, .string d1], .int .i64 j] w (numT (Cub.pw x j)) (denT (Cub.pw x j)) (errT (Cub.pw x j)) := by
  by_cases hx : x = 0
  · have hj : ¬ j < 0 := fun h => hz ⟨h, hx⟩
    obtain ⟨l1, l2⟩ := Cub.low_of x
    have r := h1.rt
    unfold Cub.pw
    rw [if_neg hj]
    obtain ⟨k, hk⟩ : ∃ k : Nat, j = (k : Int) := ⟨j.toNat, by omega⟩
    have e : j.toNat = k := by omega
    rw [e, hk]
    have := rpow_pos n1 d1 x _ _ _ k w h1 (by omega) htab l1 r.hn r.hd l2.symm
    rwa [l2] at this
  · exact rpow_ok n1 d1 x j w h1 hj1 hj2 hx htab
theorem far_told {z : Rat} {k : Nat} (h : farQ z k = true) : numT (z ^ k) = ⟨#[]⟩ ∧ denT (z ^ k) = ⟨#[]⟩ ∧ errT (z ^ k) = 7 := by
  obtain ⟨l1, l2⟩ := Cub.low_of z
  have := (tell_pow (k := k) l1).1 (by
    unfold farQ at h
    rw [Bool.or_eq_true] at h
    obtain ⟨e, he⟩ : ∃ e, e = 600 := ⟨_, rfl⟩
    rw [← he]
    rcases h with h | h
    · exact Or.inl (Nat.not_lt.2 (far_big h e he))
    · exact Or.inr (Nat.not_lt.2 (far_big h e he)))
  rwa [l2] at this
theorem near_bd {z : Rat} {k : Nat} (h : farQ z k = false) (e : Nat) (he : e = 2000) : Bd e (z ^ k) := by
  obtain ⟨l1, l2⟩ := Cub.low_of z
  obtain ⟨h1, h2⟩ := Cub.pow_low l1 k
  rw [l2] at h2
  obtain ⟨_, e2, e3⟩ := Cub.low_is h1
  rw [h2] at e2 e3
  unfold farQ at h
  rw [Bool.or_eq_false_iff] at h
  exact ⟨by rw [← e2]; exact far_not h.1 e he, by rw [← e3]; exact far_not h.2 e he⟩
theorem both_pow (n1 d1 : ByteArray) (j : Int) (s1 : n1.size ≤ maxLen) (s2 : d1.size ≤ maxLen) : Both 40 41 #[.agg #[.string n1, .string d1], .int .i64 j] := by
  by_cases h : RightT n1 d1
  · obtain ⟨x, h1⟩ := (right_isR n1 d1).1 h
    by_cases hr : j < -4096 ∨ 4096 < j
    · exact ⟨_, _, _, fun w _ => rpow_arg n1 d1 x j w h1 hr, fun w => refPow_arg n1 d1 j w (ref18_yes h1) hr⟩
    · by_cases hz : j < 0 ∧ x = 0
      · exact ⟨_, _, _, fun w _ => rpow_zero n1 d1 x j w h1 (by omega) hz.1 hz.2, fun w => refPow_zero n1 d1 j w (ref18_yes h1) (by omega) hz.1 (by rw [isR_num_zero h1, decide_eq_true hz.2])⟩
      · have t1 : (tx x.num.natAbs).size ≤ 5000 := Nat.le_trans (tx_size (by omega) h1.1.1) (by omega)
        have t2 : (tx x.den).size ≤ 5000 := Nat.le_trans (tx_size (by omega) h1.1.2) (by omega)
        have hx : ¬ j < 0 ∨ (n1.toList == [48]) = false := by
          by_cases hj : j < 0
          · right
            rw [isR_num_zero h1, decide_eq_false (fun e => hz ⟨hj, e⟩)]
          · exact Or.inl hj
        obtain ⟨z, k, e, hrs⟩ : ∃ (z : Rat) (k : Nat), Cub.pw x j = z ^ k ∧ ∀ W, Calls Tryz.prog 103 #[fx x, .int .i64 j] W fun r w' => r = .returned (raisedV z k) ∧ Below W.heap.size W w' := by
          unfold Cub.pw
          by_cases hj : j < 0
          · rw [if_pos hj]
            obtain ⟨k, hk⟩ : ∃ k : Nat, j = -(k : Int) := ⟨(-j).toNat, by omega⟩
            refine ⟨x⁻¹, (-j).toNat, rfl, fun W => ?_⟩
            rw [show (-j).toNat = k from by omega, hk]
            exact refRaised_neg x k W (by omega) (by omega) (fun e => hz ⟨hj, e⟩) t1 t2
          · rw [if_neg hj]
            obtain ⟨k, hk⟩ : ∃ k : Nat, j = (k : Int) := ⟨j.toNat, by omega⟩
            refine ⟨x, j.toNat, rfl, fun W => ?_⟩
            rw [show j.toNat = k from by omega, hk]
            exact refRaised_pos x k W (by omega) t1 t2
        refine ⟨_, _, _, fun w ht => rpow_all n1 d1 x j w h1 (by omega) (by omega) hz ht, fun w => ?_⟩
        rw [e]
        by_cases hf : farQ z k = true
        · obtain ⟨e1, e2, e3⟩ := far_told hf
          rw [e1, e2, e3]
          refine refPow_far n1 d1 j (fx x) w (ref18_yes h1) (by omega) (by omega) hx (fun W => refRead n1 d1 x W h1) (fun W => ?_)
          have := hrs W
          unfold raisedV at this
          rw [if_pos hf] at this
          exact this
        · have hf' : farQ z k = false := by simpa using hf
          obtain ⟨e9, he9⟩ : ∃ e, e = 2000 := ⟨_, rfl⟩
          refine refPow_told n1 d1 _ _ _ j (fx x) _ _ _ w (ref18_yes h1) (by omega) (by omega) hx (fun W => refRead n1 d1 x W h1) (fun W => ?_) (fun W => refToldQ e9 (z ^ k) W (by omega) (by omega) (near_bd hf' e9 he9))
          have := hrs W
          unfold raisedV at this
          rw [if_neg hf] at this
          exact this
  · obtain ⟨p, hp, h18a⟩ := ref18_any n1 d1 s1 s2
    have hp' : p = false := by cases p with | false => rfl | true => exact absurd (hp.1 rfl) h
    rw [hp'] at h18a
    exact ⟨⟨#[]⟩, ⟨#[]⟩, 3, fun w _ => rpow_no n1 d1 j w (reads_no s1 s2 h), fun w => refPow_no n1 d1 j w h18a⟩

end Go.Proofs.YtoinadnpdbaamaaGreatDoor

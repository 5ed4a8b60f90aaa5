/- The document's Find. -/
import Derived.Test.YtlbfpjamfmghlaaDoorUnit2
import Derived.OwnWalk
import Derived.Laws.AppendOwn
import Derived.Laws.EntriesVeiled
namespace Go.Proofs.YtlbfpjamfmghlaaDoor
open Go.RowKit
structure Sc where
  nm : ByteArray
  sy : ByteArray
  tk : Int
  f : Nat
  u : Array Value
def sct : Nat → Sc
  | 0 => ⟨⟨#[98, 105, 116]⟩, ⟨#[98]⟩, 3, 11, #[.string ⟨#[98, 105, 116]⟩, .string ⟨#[98]⟩, .int .i64 0, .int .i64 0, .int .i64 0, .int .i64 0, .int .i64 0, .int .i64 0, .int .i64 0, .int .i64 1, .string ⟨#[49]⟩, .string ⟨#[49]⟩, .string ⟨#[48]⟩, .string ⟨#[49]⟩, .int .i64 3]⟩
  | 1 => ⟨⟨#[109, 111, 108, 101]⟩, ⟨#[109, 111, 108]⟩, 1, 12, #[.string ⟨#[109, 111, 108, 101]⟩, .string ⟨#[109, 111, 108]⟩, .int .i64 0, .int .i64 0, .int .i64 0, .int .i64 0, .int .i64 0, .int .i64 1, .int .i64 0, .int .i64 0, .string ⟨#[49]⟩, .string ⟨#[49]⟩, .string ⟨#[48]⟩, .string ⟨#[49]⟩, .int .i64 1]⟩
  | 2 => ⟨⟨#[115, 101, 99, 111, 110, 100]⟩, ⟨#[115]⟩, 1, 13, #[.string ⟨#[115, 101, 99, 111, 110, 100]⟩, .string ⟨#[115]⟩, .int .i64 0, .int .i64 0, .int .i64 1, .int .i64 0, .int .i64 0, .int .i64 0, .int .i64 0, .int .i64 0, .string ⟨#[49]⟩, .string ⟨#[49]⟩, .string ⟨#[48]⟩, .string ⟨#[49]⟩, .int .i64 1]⟩
  | 3 => ⟨⟨#[97, 109, 112, 101, 114, 101]⟩, ⟨#[65]⟩, 1, 14, #[.string ⟨#[97, 109, 112, 101, 114, 101]⟩, .string ⟨#[65]⟩, .int .i64 0, .int .i64 0, .int .i64 0, .int .i64 1, .int .i64 0, .int .i64 0, .int .i64 0, .int .i64 0, .string ⟨#[49]⟩, .string ⟨#[49]⟩, .string ⟨#[48]⟩, .string ⟨#[49]⟩, .int .i64 1]⟩
  | 4 => ⟨⟨#[109, 101, 116, 114, 101]⟩, ⟨#[109]⟩, 1, 15, #[.string ⟨#[109, 101, 116, 114, 101]⟩, .string ⟨#[109]⟩, .int .i64 1, .int .i64 0, .int .i64 0, .int .i64 0, .int .i64 0, .int .i64 0, .int .i64 0, .int .i64 0, .string ⟨#[49]⟩, .string ⟨#[49]⟩, .string ⟨#[48]⟩, .string ⟨#[49]⟩, .int .i64 1]⟩
  | 5 => ⟨⟨#[103, 114, 97, 109]⟩, ⟨#[103]⟩, 1, 16, #[.string ⟨#[103, 114, 97, 109]⟩, .string ⟨#[103]⟩, .int .i64 0, .int .i64 1, .int .i64 0, .int .i64 0, .int .i64 0, .int .i64 0, .int .i64 0, .int .i64 0, .string ⟨#[49]⟩, .string ⟨#[49, 48, 48, 48]⟩, .string ⟨#[48]⟩, .string ⟨#[49]⟩, .int .i64 1]⟩
  | 6 => ⟨⟨#[99, 97, 110, 100, 101, 108, 97]⟩, ⟨#[99, 100]⟩, 1, 17, #[.string ⟨#[99, 97, 110, 100, 101, 108, 97]⟩, .string ⟨#[99, 100]⟩, .int .i64 0, .int .i64 0, .int .i64 0, .int .i64 0, .int .i64 0, .int .i64 0, .int .i64 1, .int .i64 0, .string ⟨#[49]⟩, .string ⟨#[49]⟩, .string ⟨#[48]⟩, .string ⟨#[49]⟩, .int .i64 1]⟩
  | _ => ⟨⟨#[107, 101, 108, 118, 105, 110]⟩, ⟨#[75]⟩, 1, 18, #[.string ⟨#[107, 101, 108, 118, 105, 110]⟩, .string ⟨#[75]⟩, .int .i64 0, .int .i64 0, .int .i64 0, .int .i64 0, .int .i64 1, .int .i64 0, .int .i64 0, .int .i64 0, .string ⟨#[49]⟩, .string ⟨#[49]⟩, .string ⟨#[48]⟩, .string ⟨#[49]⟩, .int .i64 1]⟩
theorem told_sc : ∀ k, k < 8 → ∀ W, Tab W → Calls Tryd.prog 10 #[.agg #[.string (sct k).nm, .string (sct k).sy, .int .i64 (sct k).tk, .func (.func (sct k).f) #[] #[]]] W fun r w' => r = .returned (.agg (sct k).u) ∧ Below W.heap.size W w'
  | 0, _, W, ht => told_0 W ht
  | 1, _, W, ht => told_1 W ht
  | 2, _, W, ht => told_2 W ht
  | 3, _, W, ht => told_3 W ht
  | 4, _, W, ht => told_4 W ht
  | 5, _, W, ht => told_5 W ht
  | 6, _, W, ht => told_6 W ht
  | 7, _, W, ht => told_7 W ht
  | n + 8, h, _, _ => absurd h (by omega)
theorem size_sc : ∀ k, (sct k).u.size = 15
  | 0 => rfl
  | 1 => rfl
  | 2 => rfl
  | 3 => rfl
  | 4 => rfl
  | 5 => rfl
  | 6 => rfl
  | _ + 7 => rfl
theorem ones_sc : ∀ k, (sct k).u.all (·.oneCell') = true
  | 0 => by kernel_rfl
  | 1 => by kernel_rfl
  | 2 => by kernel_rfl
  | 3 => by kernel_rfl
  | 4 => by kernel_rfl
  | 5 => by kernel_rfl
  | 6 => by kernel_rfl
  | _ + 7 => by kernel_rfl
structure R4 (W : World) (g k : Nat) : Prop where
  c0 : W.cell? ⟨g, k * 4, none⟩ = some (.string (sct k).nm)
  c1 : W.cell? ⟨g, k * 4 + 1, none⟩ = some (.string (sct k).sy)
  c2 : W.cell? ⟨g, k * 4 + 2, none⟩ = some (.int .i64 (sct k).tk)
  c3 : W.cell? ⟨g, k * 4 + 3, none⟩ = some (.func (.func (sct k).f) #[] #[])
theorem R4.later {W V : World} {B g k : Nat} (h : R4 W g k) (hb : Below B W V) (hg : g < B) : R4 V g k :=
  ⟨(hb.cell (p := ⟨g, k * 4, none⟩) hg).trans h.c0, (hb.cell (p := ⟨g, k * 4 + 1, none⟩) hg).trans h.c1, (hb.cell (p := ⟨g, k * 4 + 2, none⟩) hg).trans h.c2, (hb.cell (p := ⟨g, k * 4 + 3, none⟩) hg).trans h.c3⟩
def rows8 : Array Value := #[.string ⟨#[98, 105, 116]⟩, .string ⟨#[98]⟩, .int .i64 3, .func (.func 11) #[] #[], .string ⟨#[109, 111, 108, 101]⟩, .string ⟨#[109, 111, 108]⟩, .int .i64 1, .func (.func 12) #[] #[], .string ⟨#[115, 101, 99, 111, 110, 100]⟩, .string ⟨#[115]⟩, .int .i64 1, .func (.func 13) #[] #[], .string ⟨#[97, 109, 112, 101, 114, 101]⟩, .string ⟨#[65]⟩, .int .i64 1, .func (.func 14) #[] #[], .string ⟨#[109, 101, 116, 114, 101]⟩, .string ⟨#[109]⟩, .int .i64 1, .func (.func 15) #[] #[], .string ⟨#[103, 114, 97, 109]⟩, .string ⟨#[103]⟩, .int .i64 1, .func (.func 16) #[] #[], .string ⟨#[99, 97, 110, 100, 101, 108, 97]⟩, .string ⟨#[99, 100]⟩, .int .i64 1, .func (.func 17) #[] #[], .string ⟨#[107, 101, 108, 118, 105, 110]⟩, .string ⟨#[75]⟩, .int .i64 1, .func (.func 18) #[] #[]]
set_option maxRecDepth 100000 in
set_option maxHeartbeats 4000000 in
theorem rows_any (w : World) : Calls Tryd.prog 8 #[] w fun r w' => r = .returned (.slice (some ⟨w.heap.size, 0, none⟩) 8 8) ∧ w' = w.alloc (.cells rows8 36) := by
  go_enter Tryd.func8, Tryd.ntmps8
  go_wp2
  go_ret
  exact ⟨rfl, rfl⟩
theorem rows8_at (W : World) : ∀ k, k < 8 → R4 (W.alloc (.cells rows8 36)) W.heap.size k
  | 0, _ => ⟨(OwnU.new W rows8 36).ub.c 0 _ rfl, (OwnU.new W rows8 36).ub.c 1 _ rfl, (OwnU.new W rows8 36).ub.c 2 _ rfl, (OwnU.new W rows8 36).ub.c 3 _ rfl⟩
  | 1, _ => ⟨(OwnU.new W rows8 36).ub.c 4 _ rfl, (OwnU.new W rows8 36).ub.c 5 _ rfl, (OwnU.new W rows8 36).ub.c 6 _ rfl, (OwnU.new W rows8 36).ub.c 7 _ rfl⟩
  | 2, _ => ⟨(OwnU.new W rows8 36).ub.c 8 _ rfl, (OwnU.new W rows8 36).ub.c 9 _ rfl, (OwnU.new W rows8 36).ub.c 10 _ rfl, (OwnU.new W rows8 36).ub.c 11 _ rfl⟩
  | 3, _ => ⟨(OwnU.new W rows8 36).ub.c 12 _ rfl, (OwnU.new W rows8 36).ub.c 13 _ rfl, (OwnU.new W rows8 36).ub.c 14 _ rfl, (OwnU.new W rows8 36).ub.c 15 _ rfl⟩
  | 4, _ => ⟨(OwnU.new W rows8 36).ub.c 16 _ rfl, (OwnU.new W rows8 36).ub.c 17 _ rfl, (OwnU.new W rows8 36).ub.c 18 _ rfl, (OwnU.new W rows8 36).ub.c 19 _ rfl⟩
  | 5, _ => ⟨(OwnU.new W rows8 36).ub.c 20 _ rfl, (OwnU.new W rows8 36).ub.c 21 _ rfl, (OwnU.new W rows8 36).ub.c 22 _ rfl, (OwnU.new W rows8 36).ub.c 23 _ rfl⟩
  | 6, _ => ⟨(OwnU.new W rows8 36).ub.c 24 _ rfl, (OwnU.new W rows8 36).ub.c 25 _ rfl, (OwnU.new W rows8 36).ub.c 26 _ rfl, (OwnU.new W rows8 36).ub.c 27 _ rfl⟩
  | 7, _ => ⟨(OwnU.new W rows8 36).ub.c 28 _ rfl, (OwnU.new W rows8 36).ub.c 29 _ rfl, (OwnU.new W rows8 36).ub.c 30 _ rfl, (OwnU.new W rows8 36).ub.c 31 _ rfl⟩
  | n + 8, h => absurd h (by omega)
def plainB (s nm sy : ByteArray) : Bool := nm.toList == s.toList || sy.toList == s.toList
set_option maxRecDepth 100000 in
set_option maxHeartbeats 2000000 in
theorem closure_any (nm sy : ByteArray) (tk : Int) (fv : Value) (s : ByteArray) (b : Nat) (w : World) (hb : w.cell? ⟨b, 0, none⟩ = some (.string s)) (hlt : b < w.heap.size) : Calls Tryd.prog 7 #[.agg #[.string nm, .string sy, .int .i64 tk, fv], .pointer (some ⟨b, 0, none⟩)] w fun r w' => r = .returned (.bool (plainB s nm sy)) ∧ Below w.heap.size w w' := by
  unfold plainB
  go_enter Tryd.func7, Tryd.ntmps7
  go_wp2_with fail
  all_goals
    go_ret
    refine ⟨?_, (Below.refl _ _).alloc (Nat.le_refl _) _⟩
    first | rfl | (simp [*]; done) | (simp_all; done)
def scB (s : ByteArray) (k : Nat) : Bool := plainB s (sct k).nm (sct k).sy
def IsFirst (p : Nat → Bool) (j : Int) : Prop := (∃ k : Nat, k < 8 ∧ j = (k : Int) ∧ p k = true ∧ ∀ i, i < k → p i = false) ∨ (j = -1 ∧ ∀ i, i < 8 → p i = false)
theorem none_succ {p : Nat → Bool} {k : Nat} (h : ∀ i, i < k → p i = false) (hk : p k = false) : ∀ i, i < k + 1 → p i = false := fun i hi => by
  by_cases e : i = k
  · rw [e]; exact hk
  · exact h i (by omega)
set_option maxRecDepth 100000 in
set_option maxHeartbeats 2000000 in
theorem index_any (s : ByteArray) (g cap b : Nat) (w : World) (hr : ∀ k, k < 8 → R4 w g k) (hg : g < w.heap.size) (hb : w.cell? ⟨b, 0, none⟩ = some (.string s)) (hlt : b < w.heap.size) :
    Calls Tryd.prog 9 #[.slice (some ⟨g, 0, none⟩) 8 cap, .func (.func 7) #[] #[.pointer (some ⟨b, 0, none⟩)]] w fun r w' => ∃ j : Int, r = .returned (.int .i64 j) ∧ IsFirst (scB s) j ∧ Below w.heap.size w w' := by
  have HR := hide hr; have HBC := hide hb
  clear hr hb
  go_enter Tryd.func9, Tryd.ntmps9
  go_wp2_with fail
  go_loopw [8] (fun s8 wr => ∃ (k : Nat), k ≤ 8 ∧ s8 = .int .i64 (k : Int) ∧ Hid (∀ i, i < k → scB s i = false) ∧ Hid (Below w.heap.size w wr)) (fun s8 _ => 8 - (intOf s8).toNat)
  case atStart => exact ⟨0, by omega, rfl, fun i hi => absurd hi (by omega), Below.refl _ _⟩
  case round =>
    obtain ⟨k, hk, rfl, HN, HB⟩ := hrel
    by_cases hk4 : k < 8
    · have hkI : (k : Int) < 8 := by omega
      have hk0 : (0 : Int) ≤ (k : Int) := by omega
      have hrow := (unhide HR k hk4).later (unhide HB) hg
      have c0 := hrow.c0; have c1 := hrow.c1; have c2 := hrow.c2; have c3 := hrow.c3
      clear hrow
      have HC : Hid (∀ W, Below wr.heap.size wr W → Calls Tryd.prog 7 #[.agg #[.string (sct k).nm, .string (sct k).sy, .int .i64 (sct k).tk, .func (.func (sct k).f) #[] #[]], .pointer (some ⟨b, 0, none⟩)] W fun r w' => r = .returned (.bool (scB s k)) ∧ Below W.heap.size W w') := fun W hW =>
        closure_any _ _ _ _ s b W (((unhide HB).trans (hW.mono (unhide HB).size)).cell (p := ⟨b, 0, none⟩) hlt |>.trans (unhide HBC)) (Nat.lt_of_lt_of_le hlt (((unhide HB).trans (hW.mono (unhide HB).size)).size))
      have HNK := hide (fun (e : scB s k = false) => none_succ (unhide HN) e)
      have HYK := hide (fun (e : scB s k = true) => (Or.inl ⟨k, hk4, rfl, e, unhide HN⟩ : IsFirst (scB s) (k : Int)))
      generalize (sct k).nm = nm at *
      generalize (sct k).sy = sy at *
      generalize (sct k).tk = tk at *
      generalize (sct k).f = f at *
      by_cases hB : scB s k = true
      · have HJ := hide (unhide HYK hB)
        rw [hB] at HC
        clear HNK HYK hB
        go_wp2_with (go_at_call 7; go_must (refine (unhide HC _ (Below.refl _ _)).mono ?_; rintro e wt ⟨rfl, hbt⟩; have HBT := hide hbt; clear hbt))
        go_ret
        exact ⟨_, rfl, unhide HJ, (unhide HB).trans ((unhide HBT).mono (unhide HB).size)⟩
      · have hB' : scB s k = false := by simpa using hB
        have HJ := hide (unhide HNK hB')
        rw [hB'] at HC
        clear HNK HYK hB hB'
        go_wp2_with (go_at_call 7; go_must (refine (unhide HC _ (Below.refl _ _)).mono ?_; rintro e wt ⟨rfl, hbt⟩; have HBT := hide hbt; clear hbt))
        go_roundw
        case rel => exact ⟨k + 1, by omega, by go_num, HJ, (unhide HB).trans ((unhide HBT).mono (unhide HB).size)⟩
        case measure => simp [intOf]; omega
    · have hkI : ¬ (k : Int) < 8 := by omega
      go_wp2_with fail
      go_ret
      exact ⟨-1, rfl, Or.inr ⟨rfl, fun i hi => unhide HN i (by omega)⟩, unhide HB⟩
theorem first_unique {p : Nat → Bool} {i j : Int} (h1 : IsFirst p i) (h2 : IsFirst p j) : i = j := by
  rcases h1 with ⟨a, ha, rfl, pa, qa⟩ | ⟨rfl, na⟩ <;> rcases h2 with ⟨c, hc, rfl, pc, qc⟩ | ⟨rfl, nc⟩
  · rcases Nat.lt_trichotomy a c with h | h | h
    · rw [qc a h] at pa; cases pa
    · rw [h]
    · rw [qa c h] at pc; cases pc
  · rw [nc a ha] at pa; cases pa
  · rw [na c hc] at pc; cases pc
  · rfl
/-- base.Find, whatever the text. -/
def FindV (p : Nat → Bool) (v : Value) : Prop := (∃ k : Nat, k < 8 ∧ IsFirst p (k : Int) ∧ v = .tuple #[.agg (sct k).u, .bool true]) ∨ (IsFirst p (-1) ∧ v = .tuple #[.agg #[.string ⟨#[]⟩, .string ⟨#[]⟩, .int .i64 0, .int .i64 0, .int .i64 0, .int .i64 0, .int .i64 0, .int .i64 0, .int .i64 0, .int .i64 0, .string ⟨#[]⟩, .string ⟨#[]⟩, .string ⟨#[]⟩, .string ⟨#[]⟩, .int .i64 0], .bool false])
theorem FindV.det {p : Nat → Bool} {v u : Value} (h1 : FindV p v) (h2 : FindV p u) : v = u := by
  rcases h1 with ⟨a, ha, fa, rfl⟩ | ⟨fa, rfl⟩ <;> rcases h2 with ⟨c, hc, fc, rfl⟩ | ⟨fc, rfl⟩
  · have := first_unique fa fc
    have e : a = c := by omega
    rw [e]
  · have := first_unique fa fc; omega
  · have := first_unique fa fc; omega
  · rfl
set_option maxRecDepth 100000 in
set_option maxHeartbeats 4000000 in
theorem find_any (s : ByteArray) (w : World) (htab : Tab w) : Calls Tryd.prog 4 #[.string s] w fun r w' => ∃ v, r = .returned v ∧ FindV (scB s) v ∧ Below w.heap.size w w' := by
  obtain ⟨V, hV⟩ : ∃ V, V = (w.alloc (.cells #[.string s] 9)).alloc (.cells #[.string ⟨#[]⟩, .string ⟨#[]⟩, .int .i64 0, .int .i64 0, .int .i64 0, .int .i64 0, .int .i64 0, .int .i64 0, .int .i64 0, .int .i64 0, .string ⟨#[]⟩, .string ⟨#[]⟩, .string ⟨#[]⟩, .string ⟨#[]⟩, .int .i64 0] 27) := ⟨_, rfl⟩
  have HBX : Hid (V.cell? ⟨w.heap.size, 0, none⟩ = some (.string s) ∧ w.heap.size < V.heap.size) := by rw [hV]; exact ⟨by simp [go_sem], by simp; omega⟩
  have HR : Hid (OwnU V (w.heap.size + 1) 27 #[.string ⟨#[]⟩, .string ⟨#[]⟩, .int .i64 0, .int .i64 0, .int .i64 0, .int .i64 0, .int .i64 0, .int .i64 0, .int .i64 0, .int .i64 0, .string ⟨#[]⟩, .string ⟨#[]⟩, .string ⟨#[]⟩, .string ⟨#[]⟩, .int .i64 0]) := by rw [hV]; have h := OwnU.new (w.alloc (.cells #[.string s] 9)) #[.string ⟨#[]⟩, .string ⟨#[]⟩, .int .i64 0, .int .i64 0, .int .i64 0, .int .i64 0, .int .i64 0, .int .i64 0, .int .i64 0, .int .i64 0, .string ⟨#[]⟩, .string ⟨#[]⟩, .string ⟨#[]⟩, .string ⟨#[]⟩, .int .i64 0] 27; rw [Dm.size_alloc] at h; exact h
  have HB : Hid (Below w.heap.size w V) := by rw [hV]; exact ((Below.refl _ _).alloc (Nat.le_refl _) _).alloc (by simp) _
  have HTA : Hid (∀ W, Below w.heap.size w W → Tab W) := fun W h => htab.later h
  have HV := hide hV
  clear hV htab
  go_enter Tryd.func4, Tryd.ntmps4
  go_upto_region 1 with fail
  rw [← unhide HV]
  clear HV
  go_upto_region 3 with (go_at_call 8; go_must (refine (rows_any _).mono ?_; rintro e W0 ⟨rfl, rfl⟩))
  obtain ⟨W1, hW1⟩ : ∃ W1, W1 = V.alloc (.cells rows8 36) := ⟨_, rfl⟩
  rw [← hW1]
  have HW : Hid (Below V.heap.size V W1) := by rw [hW1]; exact (Below.refl _ _).alloc (Nat.le_refl _) _
  have HRW : Hid (∀ k, k < 8 → R4 W1 V.heap.size k) := by rw [hW1]; exact rows8_at V
  have HG : Hid (V.heap.size < W1.heap.size) := by rw [hW1]; show _ < _; simp
  clear hW1
  have HBX1 : Hid (W1.cell? ⟨w.heap.size, 0, none⟩ = some (.string s) ∧ w.heap.size < W1.heap.size) := ⟨((unhide HW).cell (p := ⟨w.heap.size, 0, none⟩) (unhide HBX).2).trans (unhide HBX).1, Nat.lt_trans (unhide HBX).2 (unhide HG)⟩
  have HIX := hide (index_any s V.heap.size 8 w.heap.size W1 (unhide HRW) (unhide HG) (unhide HBX1).1 (unhide HBX1).2)
  have HR1 := hide ((unhide HR).later (unhide HW)); have HB1 := hide ((unhide HB).trans ((unhide HW).mono (unhide HB).size))
  obtain ⟨gR, hgR⟩ : ∃ gR, gR = V.heap.size := ⟨_, rfl⟩
  rw [← hgR] at HRW HG HIX ⊢
  clear hgR HW HBX HBX1 HR HB
  go_upto_region 4 with (go_at_call 9; go_must (refine (unhide HIX).mono ?_; rintro e W2 ⟨j, rfl, hj, hb⟩; have HJ := hide hj; have HB2 := hide ((unhide HB1).trans (hb.mono (unhide HB1).size)); have HR2 := hide ((unhide HR1).later hb); have HRW2 := hide (fun k hk => (unhide HRW k hk).later hb (unhide HG)); have HG2 := hide (Nat.lt_of_lt_of_le (unhide HG) hb.size); clear hj hb))
  clear HIX HRW HG HR1 HB1
  rcases unhide HJ with ⟨k, hk, rfl, hk1, hk2⟩ | ⟨rfl, hn⟩
  · have hk0 : (0 : Int) ≤ (k : Int) := by omega
    have hkI : (k : Int) < 8 := by omega
    have hkn : ¬ (k : Int) < 0 := by omega
    have hrow := unhide HRW2 k hk
    have c0 := hrow.c0; have c1 := hrow.c1; have c2 := hrow.c2; have c3 := hrow.c3
    have HTO := hide (told_sc k hk)
    have HOUT : Hid (FindV (scB s) (.tuple #[.agg (sct k).u, .bool true])) := Or.inl ⟨k, hk, Or.inl ⟨k, hk, rfl, hk1, hk2⟩, rfl⟩
    have HSZ := hide (size_sc k); have HON := hide (ones_sc k)
    clear hrow hk1 hk2 HRW2 HJ
    generalize (sct k).nm = nm at *
    generalize (sct k).sy = sy at *
    generalize (sct k).tk = tk at *
    generalize (sct k).f = f at *
    generalize (sct k).u = u at *
    go_wp2_with (first
      | (go_at_call 10; go_must (refine (unhide HTO _ (unhide HTA _ (unhide HB2))).mono ?_; rintro e W3 ⟨rfl, hb⟩; have HB3 := hide ((unhide HB2).trans (hb.mono (unhide HB2).size)); have HR3 := hide ((unhide HR2).later hb); clear hb c0 c1 c2 c3))
      | (refine storeT 27 15 info27 rfl (.tmp 2) (.tmp 19) rfl (w.heap.size + 1) #[.string ⟨#[]⟩, .string ⟨#[]⟩, .int .i64 0, .int .i64 0, .int .i64 0, .int .i64 0, .int .i64 0, .int .i64 0, .int .i64 0, .int .i64 0, .string ⟨#[]⟩, .string ⟨#[]⟩, .string ⟨#[]⟩, .string ⟨#[]⟩, .int .i64 0] u rfl (unhide HSZ) rfl rfl (unhide HR3) (unhide HON) ?_))
    exact bodyPost_ret (v := .tuple #[.agg u, .bool true]) (res27b Tryd.results4 _ _ (w.heap.size + 1) _ (unhide HSZ) rfl ((unhide HR3).setRow _)) rfl ⟨_, rfl, unhide HOUT, below_setRow (unhide HB3) (by omega) _⟩
  · have hn1 : ((-1 : Int) < 0) := by decide
    go_wp2_with (refine storeT 27 15 info27 rfl (.tmp 2) (.tmp 14) rfl (w.heap.size + 1) #[.string ⟨#[]⟩, .string ⟨#[]⟩, .int .i64 0, .int .i64 0, .int .i64 0, .int .i64 0, .int .i64 0, .int .i64 0, .int .i64 0, .int .i64 0, .string ⟨#[]⟩, .string ⟨#[]⟩, .string ⟨#[]⟩, .string ⟨#[]⟩, .int .i64 0] #[.string ⟨#[]⟩, .string ⟨#[]⟩, .int .i64 0, .int .i64 0, .int .i64 0, .int .i64 0, .int .i64 0, .int .i64 0, .int .i64 0, .int .i64 0, .string ⟨#[]⟩, .string ⟨#[]⟩, .string ⟨#[]⟩, .string ⟨#[]⟩, .int .i64 0] rfl rfl rfl rfl (unhide HR2) (by kernel_rfl) ?_)
    exact bodyPost_ret (v := .tuple #[.agg #[.string ⟨#[]⟩, .string ⟨#[]⟩, .int .i64 0, .int .i64 0, .int .i64 0, .int .i64 0, .int .i64 0, .int .i64 0, .int .i64 0, .int .i64 0, .string ⟨#[]⟩, .string ⟨#[]⟩, .string ⟨#[]⟩, .string ⟨#[]⟩, .int .i64 0], .bool false]) (res27b Tryd.results4 _ _ (w.heap.size + 1) _ rfl rfl ((unhide HR2).setRow _)) rfl ⟨_, rfl, Or.inr ⟨Or.inr ⟨rfl, hn⟩, rfl⟩, below_setRow (unhide HB2) (by omega) _⟩
end Go.Proofs.YtlbfpjamfmghlaaDoor

namespace Go.Proofs.YtlbfpjamfmghlaaDoor
open Go.RowKit
def uAll : Array Value := #[.string ⟨#[98, 105, 116]⟩, .string ⟨#[98]⟩, .int .i64 0, .int .i64 0, .int .i64 0, .int .i64 0, .int .i64 0, .int .i64 0, .int .i64 0, .int .i64 1, .string ⟨#[49]⟩, .string ⟨#[49]⟩, .string ⟨#[48]⟩, .string ⟨#[49]⟩, .int .i64 3, .string ⟨#[109, 111, 108, 101]⟩, .string ⟨#[109, 111, 108]⟩, .int .i64 0, .int .i64 0, .int .i64 0, .int .i64 0, .int .i64 0, .int .i64 1, .int .i64 0, .int .i64 0, .string ⟨#[49]⟩, .string ⟨#[49]⟩, .string ⟨#[48]⟩, .string ⟨#[49]⟩, .int .i64 1, .string ⟨#[115, 101, 99, 111, 110, 100]⟩, .string ⟨#[115]⟩, .int .i64 0, .int .i64 0, .int .i64 1, .int .i64 0, .int .i64 0, .int .i64 0, .int .i64 0, .int .i64 0, .string ⟨#[49]⟩, .string ⟨#[49]⟩, .string ⟨#[48]⟩, .string ⟨#[49]⟩, .int .i64 1, .string ⟨#[97, 109, 112, 101, 114, 101]⟩, .string ⟨#[65]⟩, .int .i64 0, .int .i64 0, .int .i64 0, .int .i64 1, .int .i64 0, .int .i64 0, .int .i64 0, .int .i64 0, .string ⟨#[49]⟩, .string ⟨#[49]⟩, .string ⟨#[48]⟩, .string ⟨#[49]⟩, .int .i64 1, .string ⟨#[109, 101, 116, 114, 101]⟩, .string ⟨#[109]⟩, .int .i64 1, .int .i64 0, .int .i64 0, .int .i64 0, .int .i64 0, .int .i64 0, .int .i64 0, .int .i64 0, .string ⟨#[49]⟩, .string ⟨#[49]⟩, .string ⟨#[48]⟩, .string ⟨#[49]⟩, .int .i64 1, .string ⟨#[103, 114, 97, 109]⟩, .string ⟨#[103]⟩, .int .i64 0, .int .i64 1, .int .i64 0, .int .i64 0, .int .i64 0, .int .i64 0, .int .i64 0, .int .i64 0, .string ⟨#[49]⟩, .string ⟨#[49, 48, 48, 48]⟩, .string ⟨#[48]⟩, .string ⟨#[49]⟩, .int .i64 1, .string ⟨#[99, 97, 110, 100, 101, 108, 97]⟩, .string ⟨#[99, 100]⟩, .int .i64 0, .int .i64 0, .int .i64 0, .int .i64 0, .int .i64 0, .int .i64 0, .int .i64 1, .int .i64 0, .string ⟨#[49]⟩, .string ⟨#[49]⟩, .string ⟨#[48]⟩, .string ⟨#[49]⟩, .int .i64 1, .string ⟨#[107, 101, 108, 118, 105, 110]⟩, .string ⟨#[75]⟩, .int .i64 0, .int .i64 0, .int .i64 0, .int .i64 0, .int .i64 1, .int .i64 0, .int .i64 0, .int .i64 0, .string ⟨#[49]⟩, .string ⟨#[49]⟩, .string ⟨#[48]⟩, .string ⟨#[49]⟩, .int .i64 1]
set_option maxRecDepth 100000 in
set_option maxHeartbeats 8000000 in
theorem refUnits (w : World) : Calls Tryd.prog 6 #[] w fun r w' => ∃ W, r = .returned (.slice (some ⟨W.heap.size, 0, none⟩) 8 8) ∧ w' = W.alloc (.cells uAll 27) ∧ Below w.heap.size w W := by
  go_enter Tryd.func6, Tryd.ntmps6
  go_wp2
  go_ret
  have e : ((w.alloc (.cells #[.string ⟨#[49]⟩, .string ⟨#[49]⟩] 25)).alloc (.cells #[.string ⟨#[48]⟩, .string ⟨#[49]⟩] 25)).heap.size = w.heap.size + 1 + 1 := by simp
  exact ⟨(w.alloc (.cells #[.string ⟨#[49]⟩, .string ⟨#[49]⟩] 25)).alloc (.cells #[.string ⟨#[48]⟩, .string ⟨#[49]⟩] 25), by rw [e]; rfl, rfl, ((Below.refl _ _).alloc (Nat.le_refl _) _).alloc (by simp) _⟩
theorem u_form : ∀ k, ∃ x2 x3 x4 x5 x6 x7 x8 x9 x10 x11 x12 x13 x14 : Value, (sct k).u = #[.string (sct k).nm, .string (sct k).sy, x2, x3, x4, x5, x6, x7, x8, x9, x10, x11, x12, x13, x14]
  | 0 => ⟨_, _, _, _, _, _, _, _, _, _, _, _, _, rfl⟩
  | 1 => ⟨_, _, _, _, _, _, _, _, _, _, _, _, _, rfl⟩
  | 2 => ⟨_, _, _, _, _, _, _, _, _, _, _, _, _, rfl⟩
  | 3 => ⟨_, _, _, _, _, _, _, _, _, _, _, _, _, rfl⟩
  | 4 => ⟨_, _, _, _, _, _, _, _, _, _, _, _, _, rfl⟩
  | 5 => ⟨_, _, _, _, _, _, _, _, _, _, _, _, _, rfl⟩
  | 6 => ⟨_, _, _, _, _, _, _, _, _, _, _, _, _, rfl⟩
  | _ + 7 => ⟨_, _, _, _, _, _, _, _, _, _, _, _, _, rfl⟩
def UR (W : World) (g k : Nat) : Prop := ∀ i v, (sct k).u[i]? = some v → W.cell? ⟨g, k * 15 + i, none⟩ = some v
theorem UR.later {W V : World} {B g k : Nat} (h : UR W g k) (hb : Below B W V) (hg : g < B) : UR V g k := fun i v e => (hb.cell (p := ⟨g, k * 15 + i, none⟩) hg).trans (h i v e)
set_option maxRecDepth 100000 in
theorem uAll_row : ∀ k, k < 8 → ∀ i v, (sct k).u[i]? = some v → uAll[k * 15 + i]? = some v := by
  intro k hk i v e
  have hi : i < 15 := by rw [← size_sc k]; exact (Array.getElem?_eq_some_iff.1 e).1
  rw [← e]
  rcases (by omega : k = 0 ∨ k = 1 ∨ k = 2 ∨ k = 3 ∨ k = 4 ∨ k = 5 ∨ k = 6 ∨ k = 7) with rfl | rfl | rfl | rfl | rfl | rfl | rfl | rfl <;> rcases (by omega : i = 0 ∨ i = 1 ∨ i = 2 ∨ i = 3 ∨ i = 4 ∨ i = 5 ∨ i = 6 ∨ i = 7 ∨ i = 8 ∨ i = 9 ∨ i = 10 ∨ i = 11 ∨ i = 12 ∨ i = 13 ∨ i = 14) with rfl | rfl | rfl | rfl | rfl | rfl | rfl | rfl | rfl | rfl | rfl | rfl | rfl | rfl | rfl <;> rfl
theorem uAll_at (W : World) (k : Nat) (hk : k < 8) : UR (W.alloc (.cells uAll 27)) W.heap.size k := fun i v e => (OwnU.new W uAll 27).ub.c _ _ (uAll_row k hk i v e)
end Go.Proofs.YtlbfpjamfmghlaaDoor

namespace Go.Proofs.YtlbfpjamfmghlaaDoor
open Go.RowKit
set_option maxRecDepth 100000 in
set_option maxHeartbeats 8000000 in
theorem refFind_any (s : ByteArray) (g cap : Nat) (w : World) (hr : ∀ k, k < 8 → UR w g k) (hg : g < w.heap.size) :
    Calls Tryd.prog 5 #[.slice (some ⟨g, 0, none⟩) 8 cap, .string s] w fun r w' => ∃ v, r = .returned v ∧ FindV (scB s) v ∧ Below w.heap.size w w' := by
  have HR := hide hr
  have HRB0 : Hid (OwnU (w.alloc (.cells #[.string ⟨#[]⟩, .string ⟨#[]⟩, .int .i64 0, .int .i64 0, .int .i64 0, .int .i64 0, .int .i64 0, .int .i64 0, .int .i64 0, .int .i64 0, .string ⟨#[]⟩, .string ⟨#[]⟩, .string ⟨#[]⟩, .string ⟨#[]⟩, .int .i64 0] 27)) w.heap.size 27 #[.string ⟨#[]⟩, .string ⟨#[]⟩, .int .i64 0, .int .i64 0, .int .i64 0, .int .i64 0, .int .i64 0, .int .i64 0, .int .i64 0, .int .i64 0, .string ⟨#[]⟩, .string ⟨#[]⟩, .string ⟨#[]⟩, .string ⟨#[]⟩, .int .i64 0]) := OwnU.new _ _ _
  clear hr
  go_enter Tryd.func5, Tryd.ntmps5
  go_wp2_with fail
  go_loopw [6] (fun s6 wr => ∃ (k : Nat), k ≤ 8 ∧ s6 = .int .i64 (k : Int) ∧ Hid (∀ i, i < k → scB s i = false) ∧ Hid (OwnU wr w.heap.size 27 #[.string ⟨#[]⟩, .string ⟨#[]⟩, .int .i64 0, .int .i64 0, .int .i64 0, .int .i64 0, .int .i64 0, .int .i64 0, .int .i64 0, .int .i64 0, .string ⟨#[]⟩, .string ⟨#[]⟩, .string ⟨#[]⟩, .string ⟨#[]⟩, .int .i64 0]) ∧ Hid (Below w.heap.size w wr)) (fun s6 _ => 8 - (intOf s6).toNat)
  case atStart => exact ⟨0, by omega, rfl, fun i hi => absurd hi (by omega), HRB0, (Below.refl _ _).alloc (Nat.le_refl _) _⟩
  case round =>
    obtain ⟨k, hk, rfl, HN, HO, HB⟩ := hrel
    by_cases hk8 : k < 8
    · have hkI : (k : Int) < 8 := by omega
      have hk0 : (0 : Int) ≤ (k : Int) := by omega
      have hrow := (unhide HR k hk8).later (unhide HB) hg
      obtain ⟨x2, x3, x4, x5, x6, x7, x8, x9, x10, x11, x12, x13, x14, hu⟩ := u_form k
      have hrw : ∀ i v, #[.string (sct k).nm, .string (sct k).sy, x2, x3, x4, x5, x6, x7, x8, x9, x10, x11, x12, x13, x14][i]? = some v → wr.cell? ⟨g, k * 15 + i, none⟩ = some v := by rw [← hu]; exact hrow
      have HNK := hide (fun (e : scB s k = false) => none_succ (unhide HN) e)
      have HYK := hide (fun (e : scB s k = true) => (Or.inl ⟨k, hk8, Or.inl ⟨k, hk8, rfl, e, unhide HN⟩, by rw [hu]⟩ : FindV (scB s) (.tuple #[.agg #[.string (sct k).nm, .string (sct k).sy, x2, x3, x4, x5, x6, x7, x8, x9, x10, x11, x12, x13, x14], .bool true])))
      have HON : Hid (#[.string (sct k).nm, .string (sct k).sy, x2, x3, x4, x5, x6, x7, x8, x9, x10, x11, x12, x13, x14].all (·.oneCell') = true) := by have h := ones_sc k; rw [hu] at h; exact h
      have HSB : Hid (scB s k = ((sct k).nm.toList == s.toList || (sct k).sy.toList == s.toList)) := rfl
      clear hrow hu
      generalize (sct k).nm = nm at *
      generalize (sct k).sy = sy at *
      have c0 : wr.cell? ⟨g, k * 15, none⟩ = some (.string nm) := hrw 0 _ rfl
      have c1 : wr.cell? ⟨g, k * 15 + 1, none⟩ = some (.string sy) := hrw 1 _ rfl
      have c2 : wr.cell? ⟨g, k * 15 + 2, none⟩ = some x2 := hrw 2 _ rfl; have c3 : wr.cell? ⟨g, k * 15 + 3, none⟩ = some x3 := hrw 3 _ rfl; have c4 : wr.cell? ⟨g, k * 15 + 4, none⟩ = some x4 := hrw 4 _ rfl; have c5 : wr.cell? ⟨g, k * 15 + 5, none⟩ = some x5 := hrw 5 _ rfl; have c6 : wr.cell? ⟨g, k * 15 + 6, none⟩ = some x6 := hrw 6 _ rfl; have c7 : wr.cell? ⟨g, k * 15 + 7, none⟩ = some x7 := hrw 7 _ rfl; have c8 : wr.cell? ⟨g, k * 15 + 8, none⟩ = some x8 := hrw 8 _ rfl; have c9 : wr.cell? ⟨g, k * 15 + 9, none⟩ = some x9 := hrw 9 _ rfl; have c10 : wr.cell? ⟨g, k * 15 + 10, none⟩ = some x10 := hrw 10 _ rfl; have c11 : wr.cell? ⟨g, k * 15 + 11, none⟩ = some x11 := hrw 11 _ rfl; have c12 : wr.cell? ⟨g, k * 15 + 12, none⟩ = some x12 := hrw 12 _ rfl; have c13 : wr.cell? ⟨g, k * 15 + 13, none⟩ = some x13 := hrw 13 _ rfl; have c14 : wr.cell? ⟨g, k * 15 + 14, none⟩ = some x14 := hrw 14 _ rfl
      clear hrw
      by_cases hB : scB s k = true
      · have HJ := hide (unhide HYK hB)
        have hor : (nm.toList == s.toList) = true ∨ ((nm.toList == s.toList) = false ∧ (sy.toList == s.toList) = true) := by
          have h := (unhide HSB).symm.trans hB
          cases h1 : (nm.toList == s.toList) with
          | true => exact Or.inl rfl
          | false => rw [h1] at h; exact Or.inr ⟨rfl, by simpa using h⟩
        clear HNK HYK hB HSB HN
        rcases hor with hn1 | ⟨hn1, hn2⟩
        all_goals
          go_wp2_with (refine storeT 27 15 info27 rfl (.tmp 4) (.tmp 32) rfl w.heap.size #[.string ⟨#[]⟩, .string ⟨#[]⟩, .int .i64 0, .int .i64 0, .int .i64 0, .int .i64 0, .int .i64 0, .int .i64 0, .int .i64 0, .int .i64 0, .string ⟨#[]⟩, .string ⟨#[]⟩, .string ⟨#[]⟩, .string ⟨#[]⟩, .int .i64 0] #[.string nm, .string sy, x2, x3, x4, x5, x6, x7, x8, x9, x10, x11, x12, x13, x14] rfl rfl rfl rfl (unhide HO) (unhide HON) ?_)
          exact bodyPost_ret (v := .tuple #[.agg #[.string nm, .string sy, x2, x3, x4, x5, x6, x7, x8, x9, x10, x11, x12, x13, x14], .bool true]) (res27b Tryd.results5 _ _ w.heap.size _ rfl rfl ((unhide HO).setRow _)) rfl ⟨_, rfl, unhide HJ, below_setRow (unhide HB) (Nat.le_refl _) _⟩
      · have hB' : scB s k = false := by simpa using hB
        have HJ := hide (unhide HNK hB')
        obtain ⟨hn1, hn2⟩ : (nm.toList == s.toList) = false ∧ (sy.toList == s.toList) = false := by
          have h := (unhide HSB).symm.trans hB'
          simpa using h
        clear HNK HYK hB hB' HSB HN
        go_wp2_with fail
        go_roundw
        case rel => exact ⟨k + 1, by omega, by go_num, HJ, HO, HB⟩
        case measure => simp [intOf]; omega
    · have hkI : ¬ (k : Int) < 8 := by omega
      go_wp2_with (refine storeT 27 15 info27 rfl (.tmp 4) (.tmp 33) rfl w.heap.size #[.string ⟨#[]⟩, .string ⟨#[]⟩, .int .i64 0, .int .i64 0, .int .i64 0, .int .i64 0, .int .i64 0, .int .i64 0, .int .i64 0, .int .i64 0, .string ⟨#[]⟩, .string ⟨#[]⟩, .string ⟨#[]⟩, .string ⟨#[]⟩, .int .i64 0] #[.string ⟨#[]⟩, .string ⟨#[]⟩, .int .i64 0, .int .i64 0, .int .i64 0, .int .i64 0, .int .i64 0, .int .i64 0, .int .i64 0, .int .i64 0, .string ⟨#[]⟩, .string ⟨#[]⟩, .string ⟨#[]⟩, .string ⟨#[]⟩, .int .i64 0] rfl rfl rfl rfl (unhide HO) (by kernel_rfl) ?_)
      exact bodyPost_ret (v := .tuple #[.agg #[.string ⟨#[]⟩, .string ⟨#[]⟩, .int .i64 0, .int .i64 0, .int .i64 0, .int .i64 0, .int .i64 0, .int .i64 0, .int .i64 0, .int .i64 0, .string ⟨#[]⟩, .string ⟨#[]⟩, .string ⟨#[]⟩, .string ⟨#[]⟩, .int .i64 0], .bool false]) (res27b Tryd.results5 _ _ w.heap.size _ rfl rfl ((unhide HO).setRow _)) rfl ⟨_, rfl, Or.inr ⟨Or.inr ⟨rfl, fun i hi => unhide HN i (by omega)⟩, rfl⟩, below_setRow (unhide HB) (Nat.le_refl _) _⟩
end Go.Proofs.YtlbfpjamfmghlaaDoor

/- A number's text, cut by the program and by the document: the same at every text. -/
import Derived.Test.YtijifpbpjinmhaaGreatDoorHas
import Derived.Test.YtijifpbpjinmhaaGreatDoorText
import Derived.Deep.RegionHeldLaw
import Derived.Deep.Cut
import Derived.Deep.Quiet
import Derived.Test.YtijifpbpjinmhaaGreatDoorGcdMath2
import Derived.Test.YtijifpbpjinmhaaGreatDoorGcdMath
import Derived.Test.YtijifpbpjinmhaaGreatDoorAdd
import Derived.OneCell
import Derived.Deep.QuietTactic
import Derived.BigQuiet
import Derived.WalkSmall
import Derived.OwnWalk
set_option maxHeartbeats 4000000
set_option maxRecDepth 100000
namespace Go.Proofs.YtijifpbpjinmhaaGreatDoor
open Go.RowKit
/-- Where the digits from k on end. -/
def dE (s : ByteArray) (k : Nat) : Nat := if h : k < s.size then (if 48 ≤ s[k].toNat ∧ s[k].toNat ≤ 57 then dE s (k + 1) else k) else k
  termination_by s.size - k
theorem dE_end (s : ByteArray) : ∀ (n k : Nat), s.size - k = n → k ≤ s.size → DEnd s k (dE s k) := by
  intro n
  induction n with
  | zero =>
    intro k hn hk
    have e : k = s.size := by omega
    rw [dE, dif_neg (by omega)]
    exact ⟨Nat.le_refl _, hk, fun j _ h1 h2 => by omega, fun h => by omega⟩
  | succ n ih =>
    intro k hn hk
    have hlt : k < s.size := by omega
    rw [dE, dif_pos hlt]
    by_cases hd : 48 ≤ s[k].toNat ∧ s[k].toNat ≤ 57
    · rw [if_pos hd]
      obtain ⟨h1, h2, h3, h4⟩ := ih (k + 1) (by omega) (by omega)
      refine ⟨by omega, h2, fun j hj i1 i2 => ?_, h4⟩
      by_cases e : j = k
      · subst e; exact hd
      · exact h3 j hj (by omega) i2
    · rw [if_neg hd]
      exact ⟨Nat.le_refl _, by omega, fun j _ h1 h2 => by omega, fun _ => hd⟩
theorem dE_ge (s : ByteArray) (k : Nat) (hk : k ≤ s.size) : k ≤ dE s k ∧ dE s k ≤ s.size := ⟨(dE_end s _ k rfl hk).1, (dE_end s _ k rfl hk).2.1⟩
theorem cutDigits_dE (s : ByteArray) (k : Nat) (w : World) (hk : k ≤ s.size) (hm : s.size ≤ 9223372036854775806) :
    Calls Tryz.prog 180 #[.string s, .int .i64 (k : Int)] w fun r w' => r = .returned (.tuple #[.string (s.extract k (dE s k)), .int .i64 (dE s k : Int)]) ∧ w' = w := by
  refine (cutDigits_any s k w hk hm).mono ?_
  rintro r w' ⟨e, he, rfl, hw⟩
  rw [he.det (dE_end s _ k rfl hk)]
  exact ⟨rfl, hw⟩
/-- Does one of these bytes stand at that place? -/
def has (s : ByteArray) (k : Nat) (b : List UInt8) : Bool := if h : k < s.size then decide (0 ≤ Lib.indexByte b s[k]) else false
theorem hasAt_any (s bytes : ByteArray) (k : Nat) (w : World) : Calls Tryz.prog 179 #[.string s, .int .i64 (k : Int), .string bytes] w fun e w' => e = .returned (.bool (has s k bytes.data.toList)) ∧ w' = w := by
  unfold has
  by_cases h : k < s.size
  · rw [dif_pos h]; exact hasAt_in s bytes k w h
  · rw [dif_neg h]; exact hasAt_out s bytes k w (by omega)
theorem ended_out (b b' : Bool) (p1 p2 p3 p5 s : ByteArray) (p6 : Int) (k : Int) (w : World) (hk : ¬ k < (s.size : Int)) :
    Calls Tryz.prog 181 #[.agg #[.bool b, .string p1, .string p2, .string p3, .bool b', .string p5, .int .i64 p6], .string s, .int .i64 k] w fun r w' => r = .returned (.tuple #[.agg #[.bool b, .string p1, .string p2, .string p3, .bool b', .string p5, .int .i64 p6], .int .i64 (-1)]) ∧ Below w.heap.size w w' := by
  go_enter Tryz.func181, Tryz.ntmps181
  go_wp2
  refine bodyPost_ret (v := .tuple #[.agg #[.bool b, .string p1, .string p2, .string p3, .bool b', .string p5, .int .i64 p6], .int .i64 (-1)]) (by simp [results, Tryz.results181, go_sem]) rfl ⟨rfl, ?_⟩
  exact ((Below.refl _ _).alloc (Nat.le_refl _) _).alloc (by simp) _
def partsV (neg : Bool) (ahead behind exp : ByteArray) (down : Bool) (under : ByteArray) (denAt : Int) : Value := .agg #[.bool neg, .string ahead, .string behind, .string exp, .bool down, .string under, .int .i64 denAt]
def failV (k : Int) : Value := .tuple #[partsV false ⟨#[]⟩ ⟨#[]⟩ ⟨#[]⟩ false ⟨#[]⟩ 0, .int .i64 k]
theorem ended_in (b b' : Bool) (p1 p2 p3 p5 s : ByteArray) (p6 : Int) (k : Int) (w : World) (hk : k < (s.size : Int)) :
    Calls Tryz.prog 181 #[.agg #[.bool b, .string p1, .string p2, .string p3, .bool b', .string p5, .int .i64 p6], .string s, .int .i64 k] w fun r w' => r = .returned (.tuple #[.agg #[.bool false, .string ⟨#[]⟩, .string ⟨#[]⟩, .string ⟨#[]⟩, .bool false, .string ⟨#[]⟩, .int .i64 0], .int .i64 k]) ∧ Below w.heap.size w w' := by
  go_enter Tryz.func181, Tryz.ntmps181
  go_wp2
  refine bodyPost_ret (v := failV k) (by simp [results, Tryz.results181, go_sem, failV, partsV]) rfl ⟨rfl, ?_⟩
  exact ((Below.refl _ _).alloc (Nat.le_refl _) _).alloc (by simp) _
theorem cutParts_walk (s t1 t5 t2 t6 t3 : ByteArray) (hb : Int → ByteArray → Bool) (ct : Int → ByteArray) (ce : Int → Int) (R : Value) (w : World) (hs : s.size ≤ 65536)
    (h133 : ∀ W (k : Int) (bytes : ByteArray), 0 ≤ k → k ≤ 70000 → Calls Tryz.prog 179 #[.string s, .int .i64 k, .string bytes] W fun e w' => e = .returned (.bool (hb k bytes)) ∧ w' = W)
    (h134 : ∀ W (k : Int), 0 ≤ k → k ≤ (s.size : Int) → Calls Tryz.prog 180 #[.string s, .int .i64 k] W fun r w' => r = .returned (.tuple #[.string (ct k), .int .i64 (ce k)]) ∧ w' = W)
    (b0 z1 sl z5 pt ex dn sg z6 : Bool) (a e1 e5 e2 a3 e6 e3 : Nat)
    (f0 : hb 0 ⟨#[45]⟩ = b0) (ha : a = if b0 then 1 else 0) (has : a ≤ s.size)
    (g1 : ct (a : Int) = t1) (g2 : ce (a : Int) = (e1 : Int)) (m1 : t1.toList.isEmpty = z1) (he1 : e1 ≤ s.size)
    (f1 : hb (e1 : Int) ⟨#[47]⟩ = sl) (f2 : hb (e1 : Int) ⟨#[46]⟩ = pt) (hsp : sl = true ∨ pt = true → e1 + 1 ≤ s.size)
    (g3 : ct ((e1 : Int) + 1) = t5) (g4 : ce ((e1 : Int) + 1) = (e5 : Int)) (m5 : t5.toList.isEmpty = z5) (he5 : e5 ≤ s.size)
    (he2 : e2 = if pt then e5 else e1) (ht2 : t2 = if pt then t5 else ⟨#[]⟩)
    (f3 : hb (e2 : Int) ⟨#[101, 69]⟩ = ex) (hex : ex = true → e2 + 1 ≤ s.size)
    (f4 : hb ((e2 : Int) + 1) ⟨#[45]⟩ = dn) (f5 : hb ((e2 : Int) + 1) ⟨#[43, 45]⟩ = sg) (hsg : sg = true → e2 + 2 ≤ s.size) (ha3 : a3 = if sg then e2 + 2 else e2 + 1)
    (g5 : ct (a3 : Int) = t6) (g6 : ce (a3 : Int) = (e6 : Int)) (m6 : t6.toList.isEmpty = z6)
    (he3 : e3 = if ex then e6 else e2) (ht3 : t3 = if ex then t6 else ⟨#[]⟩)
    (hR : R = if z1 then failV e1 else if sl then (if z5 then failV e5 else if e5 < s.size then failV e5 else .tuple #[partsV b0 t1 ⟨#[]⟩ ⟨#[]⟩ false t5 ((e1 : Int) + 1), .int .i64 (-1)]) else if pt && z5 then failV e5 else if ex && z6 then failV e6 else if e3 < s.size then failV e3 else .tuple #[partsV b0 t1 t2 t3 (ex && dn) ⟨#[]⟩ 0, .int .i64 (-1)]) :
    Calls Tryz.prog 138 #[.string s] w fun r w' => r = .returned R ∧ Below w.heap.size w w' := by
  have H133 := hide h133
  have H134 := hide h134
  have HV := hide hR
  have HA := hide ha
  have HE2 := hide (And.intro he2 ht2)
  have HE3 := hide (And.intro he3 ht3)
  have HA3 := hide ha3
  clear h133 h134 hR ha he2 ht2 he3 ht3 ha3
  go_enter Tryz.func138, Tryz.ntmps138
  go_upto_if 12 with (go_at_call 179; go_must (refine (unhide H133 _ _ _ (by omega) (by omega)).mono ?_; rintro e w1 ⟨rfl, hw1⟩; rw [hw1, f0]; clear hw1))
  go_cut [5] from 6 (fun s5 wx => s5 = .int .i64 (a : Int) ∧ wx = ((w.alloc (.cells #[.bool false, .string ⟨#[]⟩, .string ⟨#[]⟩, .string ⟨#[]⟩, .bool false, .string ⟨#[]⟩, .int .i64 0] 154)).alloc (.cells #[.bool b0, .string ⟨#[]⟩, .string ⟨#[]⟩, .string ⟨#[]⟩, .bool false, .string ⟨#[]⟩, .int .i64 0] 154)))
  case first =>
    cases b0 with
    | true =>
      have ha1 : a = 1 := unhide HA
      go_wp2_with fail
      go_meet
      exact ⟨by rw [ha1]; rfl, rfl⟩
    | false =>
      have ha1 : a = 0 := unhide HA
      go_wp2_with fail
      go_meet
      exact ⟨by rw [ha1]; rfl, rfl⟩
  case rest =>
    obtain ⟨rfl, rfl⟩ := hcut
    clear HA f0
    cases z1 with
    | true =>
      have HF : Hid (R = failV e1) := by show _ = _; rw [unhide HV]; rfl
      go_wp2_with (go_at_call 180; go_must (refine (unhide H134 _ _ (by omega) (by omega)).mono ?_; rintro e w1 ⟨rfl, hw1⟩; rw [hw1, g1, g2]; clear hw1))
      exact bodyPost_ret (v := failV e1) (by simp [results, Tryz.results138, go_sem, failV, partsV]) rfl ⟨by rw [unhide HF], ((Below.refl _ _).alloc (Nat.le_refl _) _).alloc (by simp) _⟩
    | false =>
      go_upto_if 29 with (first
        | (go_at_call 180; go_must (refine (unhide H134 _ _ (by omega) (by omega)).mono ?_; rintro e w1 ⟨rfl, hw1⟩; rw [hw1, g1, g2]; clear hw1))
        | (go_at_call 179; go_must (refine (unhide H133 _ _ _ (by omega) (by omega)).mono ?_; rintro e w1 ⟨rfl, hw1⟩; rw [hw1, f1]; clear hw1)))
      cases sl with
      | true =>
        have hsp1 : e1 + 1 ≤ s.size := hsp (Or.inl rfl)
        cases z5 with
        | true =>
          have HF : Hid (R = failV e5) := by show _ = _; rw [unhide HV]; rfl
          go_wp2_with (go_at_call 180; go_must (refine (unhide H134 _ _ (by omega) (by omega)).mono ?_; rintro e w1 ⟨rfl, hw1⟩; rw [hw1, g3, g4]; clear hw1))
          exact bodyPost_ret (v := failV e5) (by simp [results, Tryz.results138, go_sem, failV, partsV]) rfl ⟨by rw [unhide HF], ((Below.refl _ _).alloc (Nat.le_refl _) _).alloc (by simp) _⟩
        | false =>
          by_cases h5 : e5 < s.size
          · have HF : Hid (R = failV e5) := by show _ = _; rw [unhide HV]; simp [h5]
            go_wp2_with (first
              | (go_at_call 180; go_must (refine (unhide H134 _ _ (by omega) (by omega)).mono ?_; rintro e w1 ⟨rfl, hw1⟩; rw [hw1, g3, g4]; clear hw1))
              | (go_at_call 181; go_must (refine (ended_in _ _ _ _ _ _ _ _ _ _ (by omega)).mono ?_; rintro e w1 ⟨rfl, hb1⟩; have c0 : w1.cell? ⟨w.heap.size, 0, none⟩ = some (.bool false) := (hb1.cell (p := ⟨w.heap.size, 0, none⟩) (by simp; omega)).trans (by simp [go_sem]); have c1 : w1.cell? ⟨w.heap.size, 1, none⟩ = some (.string ⟨#[]⟩) := (hb1.cell (p := ⟨w.heap.size, 1, none⟩) (by simp; omega)).trans (by simp [go_sem]); have c2 : w1.cell? ⟨w.heap.size, 2, none⟩ = some (.string ⟨#[]⟩) := (hb1.cell (p := ⟨w.heap.size, 2, none⟩) (by simp; omega)).trans (by simp [go_sem]); have c3 : w1.cell? ⟨w.heap.size, 3, none⟩ = some (.string ⟨#[]⟩) := (hb1.cell (p := ⟨w.heap.size, 3, none⟩) (by simp; omega)).trans (by simp [go_sem]); have c4 : w1.cell? ⟨w.heap.size, 4, none⟩ = some (.bool false) := (hb1.cell (p := ⟨w.heap.size, 4, none⟩) (by simp; omega)).trans (by simp [go_sem]); have c5 : w1.cell? ⟨w.heap.size, 5, none⟩ = some (.string ⟨#[]⟩) := (hb1.cell (p := ⟨w.heap.size, 5, none⟩) (by simp; omega)).trans (by simp [go_sem]); have c6 : w1.cell? ⟨w.heap.size, 6, none⟩ = some (.int .i64 0) := (hb1.cell (p := ⟨w.heap.size, 6, none⟩) (by simp; omega)).trans (by simp [go_sem]); have k0 : w1.frozen? ⟨w.heap.size, 0, none⟩ = false := (hb1.frozen (p := ⟨w.heap.size, 0, none⟩) (by simp; omega)).trans (by simp [go_sem]); have k1 : w1.frozen? ⟨w.heap.size, 1, none⟩ = false := (hb1.frozen (p := ⟨w.heap.size, 1, none⟩) (by simp; omega)).trans (by simp [go_sem]); have k2 : w1.frozen? ⟨w.heap.size, 2, none⟩ = false := (hb1.frozen (p := ⟨w.heap.size, 2, none⟩) (by simp; omega)).trans (by simp [go_sem]); have k3 : w1.frozen? ⟨w.heap.size, 3, none⟩ = false := (hb1.frozen (p := ⟨w.heap.size, 3, none⟩) (by simp; omega)).trans (by simp [go_sem]); have k4 : w1.frozen? ⟨w.heap.size, 4, none⟩ = false := (hb1.frozen (p := ⟨w.heap.size, 4, none⟩) (by simp; omega)).trans (by simp [go_sem]); have k5 : w1.frozen? ⟨w.heap.size, 5, none⟩ = false := (hb1.frozen (p := ⟨w.heap.size, 5, none⟩) (by simp; omega)).trans (by simp [go_sem]); have k6 : w1.frozen? ⟨w.heap.size, 6, none⟩ = false := (hb1.frozen (p := ⟨w.heap.size, 6, none⟩) (by simp; omega)).trans (by simp [go_sem]); have HB1 := hide (Below.trans (((Below.refl w.heap.size w).alloc (Nat.le_refl _) _).alloc (by simp) _) (hb1.mono (by simp; omega))); clear hb1)))
            exact bodyPost_ret (v := failV e5) (by simp [results, Tryz.results138, go_sem, failV, partsV, c0, c1, c2, c3, c4, c5, c6]) rfl ⟨by rw [unhide HF], (((((((unhide HB1).setCell (p := ⟨w.heap.size, 0, none⟩) (Nat.le_refl _) _).setCell (p := ⟨w.heap.size, 1, none⟩) (Nat.le_refl _) _).setCell (p := ⟨w.heap.size, 2, none⟩) (Nat.le_refl _) _).setCell (p := ⟨w.heap.size, 3, none⟩) (Nat.le_refl _) _).setCell (p := ⟨w.heap.size, 4, none⟩) (Nat.le_refl _) _).setCell (p := ⟨w.heap.size, 5, none⟩) (Nat.le_refl _) _).setCell (p := ⟨w.heap.size, 6, none⟩) (Nat.le_refl _) _⟩
          · have HF : Hid (R = .tuple #[partsV b0 t1 ⟨#[]⟩ ⟨#[]⟩ false t5 ((e1 : Int) + 1), .int .i64 (-1)]) := by show _ = _; rw [unhide HV]; simp [h5]
            go_wp2_with (first
              | (go_at_call 180; go_must (refine (unhide H134 _ _ (by omega) (by omega)).mono ?_; rintro e w1 ⟨rfl, hw1⟩; rw [hw1, g3, g4]; clear hw1))
              | (go_at_call 181; go_must (refine (ended_out _ _ _ _ _ _ _ _ _ _ (by omega)).mono ?_; rintro e w1 ⟨rfl, hb1⟩; have c0 : w1.cell? ⟨w.heap.size, 0, none⟩ = some (.bool false) := (hb1.cell (p := ⟨w.heap.size, 0, none⟩) (by simp; omega)).trans (by simp [go_sem]); have c1 : w1.cell? ⟨w.heap.size, 1, none⟩ = some (.string ⟨#[]⟩) := (hb1.cell (p := ⟨w.heap.size, 1, none⟩) (by simp; omega)).trans (by simp [go_sem]); have c2 : w1.cell? ⟨w.heap.size, 2, none⟩ = some (.string ⟨#[]⟩) := (hb1.cell (p := ⟨w.heap.size, 2, none⟩) (by simp; omega)).trans (by simp [go_sem]); have c3 : w1.cell? ⟨w.heap.size, 3, none⟩ = some (.string ⟨#[]⟩) := (hb1.cell (p := ⟨w.heap.size, 3, none⟩) (by simp; omega)).trans (by simp [go_sem]); have c4 : w1.cell? ⟨w.heap.size, 4, none⟩ = some (.bool false) := (hb1.cell (p := ⟨w.heap.size, 4, none⟩) (by simp; omega)).trans (by simp [go_sem]); have c5 : w1.cell? ⟨w.heap.size, 5, none⟩ = some (.string ⟨#[]⟩) := (hb1.cell (p := ⟨w.heap.size, 5, none⟩) (by simp; omega)).trans (by simp [go_sem]); have c6 : w1.cell? ⟨w.heap.size, 6, none⟩ = some (.int .i64 0) := (hb1.cell (p := ⟨w.heap.size, 6, none⟩) (by simp; omega)).trans (by simp [go_sem]); have k0 : w1.frozen? ⟨w.heap.size, 0, none⟩ = false := (hb1.frozen (p := ⟨w.heap.size, 0, none⟩) (by simp; omega)).trans (by simp [go_sem]); have k1 : w1.frozen? ⟨w.heap.size, 1, none⟩ = false := (hb1.frozen (p := ⟨w.heap.size, 1, none⟩) (by simp; omega)).trans (by simp [go_sem]); have k2 : w1.frozen? ⟨w.heap.size, 2, none⟩ = false := (hb1.frozen (p := ⟨w.heap.size, 2, none⟩) (by simp; omega)).trans (by simp [go_sem]); have k3 : w1.frozen? ⟨w.heap.size, 3, none⟩ = false := (hb1.frozen (p := ⟨w.heap.size, 3, none⟩) (by simp; omega)).trans (by simp [go_sem]); have k4 : w1.frozen? ⟨w.heap.size, 4, none⟩ = false := (hb1.frozen (p := ⟨w.heap.size, 4, none⟩) (by simp; omega)).trans (by simp [go_sem]); have k5 : w1.frozen? ⟨w.heap.size, 5, none⟩ = false := (hb1.frozen (p := ⟨w.heap.size, 5, none⟩) (by simp; omega)).trans (by simp [go_sem]); have k6 : w1.frozen? ⟨w.heap.size, 6, none⟩ = false := (hb1.frozen (p := ⟨w.heap.size, 6, none⟩) (by simp; omega)).trans (by simp [go_sem]); have HB1 := hide (Below.trans (((Below.refl w.heap.size w).alloc (Nat.le_refl _) _).alloc (by simp) _) (hb1.mono (by simp; omega))); clear hb1)))
            exact bodyPost_ret (v := .tuple #[partsV b0 t1 ⟨#[]⟩ ⟨#[]⟩ false t5 ((e1 : Int) + 1), .int .i64 (-1)]) (by simp [results, Tryz.results138, go_sem, partsV, c0, c1, c2, c3, c4, c5, c6]) rfl ⟨by rw [unhide HF], (((((((unhide HB1).setCell (p := ⟨w.heap.size, 0, none⟩) (Nat.le_refl _) _).setCell (p := ⟨w.heap.size, 1, none⟩) (Nat.le_refl _) _).setCell (p := ⟨w.heap.size, 2, none⟩) (Nat.le_refl _) _).setCell (p := ⟨w.heap.size, 3, none⟩) (Nat.le_refl _) _).setCell (p := ⟨w.heap.size, 4, none⟩) (Nat.le_refl _) _).setCell (p := ⟨w.heap.size, 5, none⟩) (Nat.le_refl _) _).setCell (p := ⟨w.heap.size, 6, none⟩) (Nat.le_refl _) _⟩
      | false =>
        go_upto_if 54 with (go_at_call 179; go_must (refine (unhide H133 _ _ _ (by omega) (by omega)).mono ?_; rintro e w1 ⟨rfl, hw1⟩; rw [hw1, f2]; clear hw1))
        go_cut [5] from 6 (fun s5 wx => s5 = .int .i64 (e2 : Int) ∧ (pt && z5) = false ∧ wx = ((w.alloc (.cells #[.bool false, .string ⟨#[]⟩, .string ⟨#[]⟩, .string ⟨#[]⟩, .bool false, .string ⟨#[]⟩, .int .i64 0] 154)).alloc (.cells #[.bool b0, .string t1, .string t2, .string ⟨#[]⟩, .bool false, .string ⟨#[]⟩, .int .i64 0] 154)))
        case first =>
          cases pt with
          | false =>
            have h2 : e2 = e1 ∧ t2 = ⟨#[]⟩ := unhide HE2
            go_wp2_with fail
            go_meet
            exact ⟨by rw [h2.1], rfl, by rw [h2.2]⟩
          | true =>
            have hsp1 : e1 + 1 ≤ s.size := hsp (Or.inr rfl)
            have h2 : e2 = e5 ∧ t2 = t5 := unhide HE2
            cases z5 with
            | true =>
              have HF : Hid (R = failV e5) := by show _ = _; rw [unhide HV]; rfl
              clear h2
              go_wp2_with (go_at_call 180; go_must (refine (unhide H134 _ _ (by omega) (by omega)).mono ?_; rintro e w1 ⟨rfl, hw1⟩; rw [hw1, g3, g4]; clear hw1))
              exact bodyPost_ret (v := failV e5) (by simp [results, Tryz.results138, go_sem, failV, partsV]) rfl ⟨by rw [unhide HF], ((Below.refl _ _).alloc (Nat.le_refl _) _).alloc (by simp) _⟩
            | false =>
              have h21 := hide h2.1; have h22 := hide h2.2
              clear h2
              go_wp2_with (go_at_call 180; go_must (refine (unhide H134 _ _ (by omega) (by omega)).mono ?_; rintro e w1 ⟨rfl, hw1⟩; rw [hw1, g3, g4]; clear hw1))
              go_meet
              exact ⟨by rw [unhide h21], rfl, by rw [unhide h22]⟩
        case rest =>
          obtain ⟨rfl, hpz, rfl⟩ := hcut
          have HPZ := hide hpz
          clear hpz
          have he2s : e2 ≤ s.size := by have := unhide HE2; cases pt <;> simp at this <;> omega
          go_upto_if 70 with (go_at_call 179; go_must (refine (unhide H133 _ _ _ (by omega) (by omega)).mono ?_; rintro e w1 ⟨rfl, hw1⟩; rw [hw1, f3]; clear hw1))
          go_cut [5] from 6 (fun s5 wx => s5 = .int .i64 (e3 : Int) ∧ (ex && z6) = false ∧ wx = ((w.alloc (.cells #[.bool false, .string ⟨#[]⟩, .string ⟨#[]⟩, .string ⟨#[]⟩, .bool false, .string ⟨#[]⟩, .int .i64 0] 154)).alloc (.cells #[.bool b0, .string t1, .string t2, .string t3, .bool (ex && dn), .string ⟨#[]⟩, .int .i64 0] 154)))
          case first =>
            cases ex with
            | false =>
              have h3 : e3 = e2 ∧ t3 = ⟨#[]⟩ := unhide HE3
              go_wp2_with fail
              go_meet
              exact ⟨by rw [h3.1], rfl, by rw [h3.2]; rfl⟩
            | true =>
              have hex1 : e2 + 1 ≤ s.size := hex rfl
              have h3 : e3 = e6 ∧ t3 = t6 := unhide HE3
              have h31 := hide h3.1; have h32 := hide h3.2
              clear h3
              cases sg with
              | false =>
                have ha31 : a3 = e2 + 1 := unhide HA3
                rw [ha31] at g5 g6
                rw [show ((e2 + 1 : Nat) : Int) = (e2 : Int) + 1 by omega] at g5 g6
                cases z6 with
                | true =>
                  have HF : Hid (R = failV e6) := by show _ = _; rw [unhide HV, unhide HPZ]; rfl
                  go_wp2_with (first
                    | (go_at_call 179; go_must (refine (unhide H133 _ _ _ (by omega) (by omega)).mono ?_; rintro e w1 ⟨rfl, hw1⟩; rw [hw1]; first | rw [f4] | rw [f5]; clear hw1))
                    | (go_at_call 180; go_must (refine (unhide H134 _ _ (by omega) (by omega)).mono ?_; rintro e w1 ⟨rfl, hw1⟩; rw [hw1, g5, g6]; clear hw1)))
                  exact bodyPost_ret (v := failV e6) (by simp [results, Tryz.results138, go_sem, failV, partsV]) rfl ⟨by rw [unhide HF], ((Below.refl _ _).alloc (Nat.le_refl _) _).alloc (by simp) _⟩
                | false =>
                  go_wp2_with (first
                    | (go_at_call 179; go_must (refine (unhide H133 _ _ _ (by omega) (by omega)).mono ?_; rintro e w1 ⟨rfl, hw1⟩; rw [hw1]; first | rw [f4] | rw [f5]; clear hw1))
                    | (go_at_call 180; go_must (refine (unhide H134 _ _ (by omega) (by omega)).mono ?_; rintro e w1 ⟨rfl, hw1⟩; rw [hw1, g5, g6]; clear hw1)))
                  go_meet
                  exact ⟨by rw [unhide h31], rfl, by rw [unhide h32]; rfl⟩
              | true =>
                have hsg1 : e2 + 2 ≤ s.size := hsg rfl
                have ha31 : a3 = e2 + 2 := unhide HA3
                rw [ha31] at g5 g6
                rw [show ((e2 + 2 : Nat) : Int) = (e2 : Int) + 1 + 1 by omega] at g5 g6
                cases z6 with
                | true =>
                  have HF : Hid (R = failV e6) := by show _ = _; rw [unhide HV, unhide HPZ]; rfl
                  go_wp2_with (first
                    | (go_at_call 179; go_must (refine (unhide H133 _ _ _ (by omega) (by omega)).mono ?_; rintro e w1 ⟨rfl, hw1⟩; rw [hw1]; first | rw [f4] | rw [f5]; clear hw1))
                    | (go_at_call 180; go_must (refine (unhide H134 _ _ (by omega) (by omega)).mono ?_; rintro e w1 ⟨rfl, hw1⟩; rw [hw1, g5, g6]; clear hw1)))
                  exact bodyPost_ret (v := failV e6) (by simp [results, Tryz.results138, go_sem, failV, partsV]) rfl ⟨by rw [unhide HF], ((Below.refl _ _).alloc (Nat.le_refl _) _).alloc (by simp) _⟩
                | false =>
                  go_wp2_with (first
                    | (go_at_call 179; go_must (refine (unhide H133 _ _ _ (by omega) (by omega)).mono ?_; rintro e w1 ⟨rfl, hw1⟩; rw [hw1]; first | rw [f4] | rw [f5]; clear hw1))
                    | (go_at_call 180; go_must (refine (unhide H134 _ _ (by omega) (by omega)).mono ?_; rintro e w1 ⟨rfl, hw1⟩; rw [hw1, g5, g6]; clear hw1)))
                  go_meet
                  exact ⟨by rw [unhide h31], rfl, by rw [unhide h32]; rfl⟩
          case rest =>
            obtain ⟨rfl, hez, rfl⟩ := hcut
            have HEZ := hide hez
            clear hez
            by_cases h3 : e3 < s.size
            · have HF : Hid (R = failV e3) := by show _ = _; rw [unhide HV, unhide HPZ, unhide HEZ]; simp [h3]
              go_wp2_with (go_at_call 181; go_must (refine (ended_in _ _ _ _ _ _ _ _ _ _ (by omega)).mono ?_; rintro e w1 ⟨rfl, hb1⟩; have c0 : w1.cell? ⟨w.heap.size, 0, none⟩ = some (.bool false) := (hb1.cell (p := ⟨w.heap.size, 0, none⟩) (by simp; omega)).trans (by simp [go_sem]); have c1 : w1.cell? ⟨w.heap.size, 1, none⟩ = some (.string ⟨#[]⟩) := (hb1.cell (p := ⟨w.heap.size, 1, none⟩) (by simp; omega)).trans (by simp [go_sem]); have c2 : w1.cell? ⟨w.heap.size, 2, none⟩ = some (.string ⟨#[]⟩) := (hb1.cell (p := ⟨w.heap.size, 2, none⟩) (by simp; omega)).trans (by simp [go_sem]); have c3 : w1.cell? ⟨w.heap.size, 3, none⟩ = some (.string ⟨#[]⟩) := (hb1.cell (p := ⟨w.heap.size, 3, none⟩) (by simp; omega)).trans (by simp [go_sem]); have c4 : w1.cell? ⟨w.heap.size, 4, none⟩ = some (.bool false) := (hb1.cell (p := ⟨w.heap.size, 4, none⟩) (by simp; omega)).trans (by simp [go_sem]); have c5 : w1.cell? ⟨w.heap.size, 5, none⟩ = some (.string ⟨#[]⟩) := (hb1.cell (p := ⟨w.heap.size, 5, none⟩) (by simp; omega)).trans (by simp [go_sem]); have c6 : w1.cell? ⟨w.heap.size, 6, none⟩ = some (.int .i64 0) := (hb1.cell (p := ⟨w.heap.size, 6, none⟩) (by simp; omega)).trans (by simp [go_sem]); have k0 : w1.frozen? ⟨w.heap.size, 0, none⟩ = false := (hb1.frozen (p := ⟨w.heap.size, 0, none⟩) (by simp; omega)).trans (by simp [go_sem]); have k1 : w1.frozen? ⟨w.heap.size, 1, none⟩ = false := (hb1.frozen (p := ⟨w.heap.size, 1, none⟩) (by simp; omega)).trans (by simp [go_sem]); have k2 : w1.frozen? ⟨w.heap.size, 2, none⟩ = false := (hb1.frozen (p := ⟨w.heap.size, 2, none⟩) (by simp; omega)).trans (by simp [go_sem]); have k3 : w1.frozen? ⟨w.heap.size, 3, none⟩ = false := (hb1.frozen (p := ⟨w.heap.size, 3, none⟩) (by simp; omega)).trans (by simp [go_sem]); have k4 : w1.frozen? ⟨w.heap.size, 4, none⟩ = false := (hb1.frozen (p := ⟨w.heap.size, 4, none⟩) (by simp; omega)).trans (by simp [go_sem]); have k5 : w1.frozen? ⟨w.heap.size, 5, none⟩ = false := (hb1.frozen (p := ⟨w.heap.size, 5, none⟩) (by simp; omega)).trans (by simp [go_sem]); have k6 : w1.frozen? ⟨w.heap.size, 6, none⟩ = false := (hb1.frozen (p := ⟨w.heap.size, 6, none⟩) (by simp; omega)).trans (by simp [go_sem]); have HB1 := hide (Below.trans (((Below.refl w.heap.size w).alloc (Nat.le_refl _) _).alloc (by simp) _) (hb1.mono (by simp; omega))); clear hb1))
              exact bodyPost_ret (v := failV e3) (by simp [results, Tryz.results138, go_sem, failV, partsV, c0, c1, c2, c3, c4, c5, c6]) rfl ⟨by rw [unhide HF], (((((((unhide HB1).setCell (p := ⟨w.heap.size, 0, none⟩) (Nat.le_refl _) _).setCell (p := ⟨w.heap.size, 1, none⟩) (Nat.le_refl _) _).setCell (p := ⟨w.heap.size, 2, none⟩) (Nat.le_refl _) _).setCell (p := ⟨w.heap.size, 3, none⟩) (Nat.le_refl _) _).setCell (p := ⟨w.heap.size, 4, none⟩) (Nat.le_refl _) _).setCell (p := ⟨w.heap.size, 5, none⟩) (Nat.le_refl _) _).setCell (p := ⟨w.heap.size, 6, none⟩) (Nat.le_refl _) _⟩
            · have HF : Hid (R = .tuple #[partsV b0 t1 t2 t3 (ex && dn) ⟨#[]⟩ 0, .int .i64 (-1)]) := by show _ = _; rw [unhide HV, unhide HPZ, unhide HEZ]; simp [h3]
              go_wp2_with (go_at_call 181; go_must (refine (ended_out _ _ _ _ _ _ _ _ _ _ (by omega)).mono ?_; rintro e w1 ⟨rfl, hb1⟩; have c0 : w1.cell? ⟨w.heap.size, 0, none⟩ = some (.bool false) := (hb1.cell (p := ⟨w.heap.size, 0, none⟩) (by simp; omega)).trans (by simp [go_sem]); have c1 : w1.cell? ⟨w.heap.size, 1, none⟩ = some (.string ⟨#[]⟩) := (hb1.cell (p := ⟨w.heap.size, 1, none⟩) (by simp; omega)).trans (by simp [go_sem]); have c2 : w1.cell? ⟨w.heap.size, 2, none⟩ = some (.string ⟨#[]⟩) := (hb1.cell (p := ⟨w.heap.size, 2, none⟩) (by simp; omega)).trans (by simp [go_sem]); have c3 : w1.cell? ⟨w.heap.size, 3, none⟩ = some (.string ⟨#[]⟩) := (hb1.cell (p := ⟨w.heap.size, 3, none⟩) (by simp; omega)).trans (by simp [go_sem]); have c4 : w1.cell? ⟨w.heap.size, 4, none⟩ = some (.bool false) := (hb1.cell (p := ⟨w.heap.size, 4, none⟩) (by simp; omega)).trans (by simp [go_sem]); have c5 : w1.cell? ⟨w.heap.size, 5, none⟩ = some (.string ⟨#[]⟩) := (hb1.cell (p := ⟨w.heap.size, 5, none⟩) (by simp; omega)).trans (by simp [go_sem]); have c6 : w1.cell? ⟨w.heap.size, 6, none⟩ = some (.int .i64 0) := (hb1.cell (p := ⟨w.heap.size, 6, none⟩) (by simp; omega)).trans (by simp [go_sem]); have k0 : w1.frozen? ⟨w.heap.size, 0, none⟩ = false := (hb1.frozen (p := ⟨w.heap.size, 0, none⟩) (by simp; omega)).trans (by simp [go_sem]); have k1 : w1.frozen? ⟨w.heap.size, 1, none⟩ = false := (hb1.frozen (p := ⟨w.heap.size, 1, none⟩) (by simp; omega)).trans (by simp [go_sem]); have k2 : w1.frozen? ⟨w.heap.size, 2, none⟩ = false := (hb1.frozen (p := ⟨w.heap.size, 2, none⟩) (by simp; omega)).trans (by simp [go_sem]); have k3 : w1.frozen? ⟨w.heap.size, 3, none⟩ = false := (hb1.frozen (p := ⟨w.heap.size, 3, none⟩) (by simp; omega)).trans (by simp [go_sem]); have k4 : w1.frozen? ⟨w.heap.size, 4, none⟩ = false := (hb1.frozen (p := ⟨w.heap.size, 4, none⟩) (by simp; omega)).trans (by simp [go_sem]); have k5 : w1.frozen? ⟨w.heap.size, 5, none⟩ = false := (hb1.frozen (p := ⟨w.heap.size, 5, none⟩) (by simp; omega)).trans (by simp [go_sem]); have k6 : w1.frozen? ⟨w.heap.size, 6, none⟩ = false := (hb1.frozen (p := ⟨w.heap.size, 6, none⟩) (by simp; omega)).trans (by simp [go_sem]); have HB1 := hide (Below.trans (((Below.refl w.heap.size w).alloc (Nat.le_refl _) _).alloc (by simp) _) (hb1.mono (by simp; omega))); clear hb1))
              exact bodyPost_ret (v := .tuple #[partsV b0 t1 t2 t3 (ex && dn) ⟨#[]⟩ 0, .int .i64 (-1)]) (by simp [results, Tryz.results138, go_sem, partsV, c0, c1, c2, c3, c4, c5, c6]) rfl ⟨by rw [unhide HF], (((((((unhide HB1).setCell (p := ⟨w.heap.size, 0, none⟩) (Nat.le_refl _) _).setCell (p := ⟨w.heap.size, 1, none⟩) (Nat.le_refl _) _).setCell (p := ⟨w.heap.size, 2, none⟩) (Nat.le_refl _) _).setCell (p := ⟨w.heap.size, 3, none⟩) (Nat.le_refl _) _).setCell (p := ⟨w.heap.size, 4, none⟩) (Nat.le_refl _) _).setCell (p := ⟨w.heap.size, 5, none⟩) (Nat.le_refl _) _).setCell (p := ⟨w.heap.size, 6, none⟩) (Nat.le_refl _) _⟩
/-- Digits without noughts ahead; the last one stays. -/
def bareL : List UInt8 → List UInt8
  | [] => []
  | [c] => [c]
  | c :: d :: t => if c = 48 then bareL (d :: t) else c :: d :: t
def bareT (s : ByteArray) : ByteArray := ⟨(bareL s.data.toList).toArray⟩
section
variable {P : Program}
end
theorem below_drewN (w : World) : ∀ n : Nat, Below w.heap.size w (w.drewN n)
  | 0 => Below.refl _ _
  | n + 1 => by have := (below_drewN w n).drew; rwa [World.drew_drewN] at this
theorem has_out (s : ByteArray) (k : Nat) (l : List UInt8) (h : ¬ k < s.size) : has s k l = false := by unfold has; rw [dif_neg h]
theorem has_one (s : ByteArray) (k : Nat) (c : UInt8) (h : k < s.size) : has s k [c] = decide (s[k] = c) := by
  unfold has; rw [dif_pos h]
  by_cases e : s[k] = c
  · rw [decide_eq_true e, e]; simp [Lib.indexByte]
  · rw [decide_eq_false e]; simp [Lib.indexByte, Ne.symm e]
theorem mk_tb (m : Nat) (hm : m < 10 ^ 600) : (⟨(Lib.decDigits m).toArray⟩ : ByteArray) = tb m := by
  have := tb_list m hm
  rw [← this]
/-- A number's text. -/
def tx (n : Nat) : ByteArray := ⟨(Lib.decDigits n).toArray⟩
theorem tx_list (n : Nat) : (tx n).data.toList = Lib.decDigits n := rfl
theorem tx_val (n : Nat) : val (tx n) = n := Cub.dval_dec n
theorem tx_nat (n : Nat) : Cub.isNat (tx n).data.toList := Cub.isNat_dec n
theorem tx_tb (n : Nat) (h : n < 10 ^ 600) : tb n = tx n := (mk_tb n h).symm
theorem tx_size {d n : Nat} (hd : 1 ≤ d) (h : n < 10 ^ d) : (tx n).size ≤ d := by
  have := (Cub.dec_len_lt n d hd).2 h
  rw [← tx_list, list_len] at this
  exact this
def Dg (t : ByteArray) : Prop := Cub.digs t.data.toList
/-- Where digits end; out of the text: 0. -/
def cE (s : ByteArray) (k : Int) : Int := if k ≤ (s.size : Int) then ((dE s k.toNat : Nat) : Int) else 0
def cT (s : ByteArray) (k : Int) : ByteArray := if k ≤ (s.size : Int) then s.extract k.toNat (dE s k.toNat) else ⟨#[]⟩
def hB (s : ByteArray) (k : Int) (b : ByteArray) : Bool := has s k.toNat b.data.toList
theorem h133_all (s : ByteArray) (W : World) (k : Int) (bytes : ByteArray) (h0 : 0 ≤ k) (_ : k ≤ 70000) : Calls Tryz.prog 179 #[.string s, .int .i64 k, .string bytes] W fun e w' => e = .returned (.bool (hB s k bytes)) ∧ w' = W := by
  have := hasAt_any s bytes k.toNat W
  rwa [Int.toNat_of_nonneg h0] at this
theorem h134_all (s : ByteArray) (hs : s.size ≤ 65536) (W : World) (k : Int) (h0 : 0 ≤ k) (h1 : k ≤ (s.size : Int)) : Calls Tryz.prog 180 #[.string s, .int .i64 k] W fun r w' => r = .returned (.tuple #[.string (cT s k), .int .i64 (cE s k)]) ∧ w' = W := by
  have := cutDigits_dE s k.toNat W (by omega) (by omega)
  rw [Int.toNat_of_nonneg h0] at this
  unfold cT cE
  rwa [if_pos h1, if_pos h1]
/-- The same as numbers. -/
def nE (s : ByteArray) (k : Nat) : Nat := if k ≤ s.size then dE s k else 0
def nT (s : ByteArray) (k : Nat) : ByteArray := if k ≤ s.size then s.extract k (dE s k) else ⟨#[]⟩
theorem cE_nE (s : ByteArray) (k : Nat) : cE s (k : Int) = (nE s k : Int) := by
  unfold cE nE
  by_cases h : k ≤ s.size
  · rw [if_pos h, if_pos (by omega)]; rfl
  · rw [if_neg h, if_neg (by omega)]; rfl
theorem cT_nT (s : ByteArray) (k : Nat) : cT s (k : Int) = nT s k := by
  unfold cT nT
  by_cases h : k ≤ s.size
  · rw [if_pos h, if_pos (by omega)]; rfl
  · rw [if_neg h, if_neg (by omega)]
theorem nE_in (s : ByteArray) (k : Nat) (h : k ≤ s.size) : k ≤ nE s k ∧ nE s k ≤ s.size := by unfold nE; rw [if_pos h]; exact dE_ge s k h
theorem nE_le (s : ByteArray) (k : Nat) : nE s k ≤ s.size := by
  by_cases h : k ≤ s.size
  · exact (nE_in s k h).2
  · unfold nE; rw [if_neg h]; omega
theorem empty_iff (t : ByteArray) : t.toList.isEmpty = decide (t.size = 0) := by
  by_cases h : t.size = 0
  · rw [decide_eq_true h]; exact empty_of t h
  · rw [decide_eq_false h]; exact not_empty_of t (by omega)
theorem has_lt {s : ByteArray} {k : Nat} {l : List UInt8} (h : has s k l = true) : k < s.size := by
  by_cases hk : k < s.size
  · exact hk
  · rw [has_out s k l hk] at h; cases h
/-- What rat's cut makes of a text, from where its parts end. -/
def cutV' (s : ByteArray) (a e1 b1 e5 a3 e6 e3 : Nat) (b0 sl pt ex dn : Bool) : Value :=
  if decide ((nT s a).size = 0) then failV (e1 : Int) else if sl then (if decide ((nT s b1).size = 0) then failV (e5 : Int) else if e5 < s.size then failV (e5 : Int) else .tuple #[partsV b0 (nT s a) ⟨#[]⟩ ⟨#[]⟩ false (nT s b1) ((e1 : Int) + 1), .int .i64 (-1)]) else if pt && decide ((nT s b1).size = 0) then failV (e5 : Int) else if ex && decide ((nT s a3).size = 0) then failV (e6 : Int) else if e3 < s.size then failV (e3 : Int) else .tuple #[partsV b0 (nT s a) (if pt then nT s b1 else ⟨#[]⟩) (if ex then nT s a3 else ⟨#[]⟩) (ex && dn) ⟨#[]⟩ 0, .int .i64 (-1)]
def qcA (s : ByteArray) : Nat := if has s 0 [45] then 1 else 0
def qc1 (s : ByteArray) : Nat := nE s (qcA s)
def qc5 (s : ByteArray) : Nat := nE s (qc1 s + 1)
def qc2 (s : ByteArray) : Nat := if has s (qc1 s) [46] then qc5 s else qc1 s
def qc3a (s : ByteArray) : Nat := if has s (qc2 s + 1) [43, 45] then qc2 s + 1 + 1 else qc2 s + 1
def qc6 (s : ByteArray) : Nat := nE s (qc3a s)
def qc3 (s : ByteArray) : Nat := if has s (qc2 s) [101, 69] then qc6 s else qc2 s
def ratCut (s : ByteArray) : Value := cutV' s (qcA s) (qc1 s) (qc1 s + 1) (qc5 s) (qc3a s) (qc6 s) (qc3 s) (has s 0 [45]) (has s (qc1 s) [47]) (has s (qc1 s) [46]) (has s (qc2 s) [101, 69]) (has s (qc2 s + 1) [45])
theorem cut_prog (s : ByteArray) (hs : s.size ≤ 65536) (w : World) : Calls Tryz.prog 138 #[.string s] w fun r w' => r = .returned (ratCut s) ∧ Below w.heap.size w w' := by
  obtain ⟨b0, hb0⟩ : ∃ b0, b0 = has s 0 [45] := ⟨_, rfl⟩
  obtain ⟨a, ha⟩ : ∃ a : Nat, a = if b0 then 1 else 0 := ⟨_, rfl⟩
  have hal : a ≤ s.size := by
    cases b0 with
    | true => have := has_lt hb0.symm; rw [ha]; simp; omega
    | false => rw [ha]; simp
  obtain ⟨e1, he1⟩ : ∃ e1, e1 = nE s a := ⟨_, rfl⟩
  have q1 := nE_in s a hal
  rw [← he1] at q1
  obtain ⟨sl, hsl⟩ : ∃ sl, sl = has s e1 [47] := ⟨_, rfl⟩
  obtain ⟨pt, hpt⟩ : ∃ pt, pt = has s e1 [46] := ⟨_, rfl⟩
  obtain ⟨b1, hb1⟩ : ∃ b1, b1 = e1 + 1 := ⟨_, rfl⟩
  obtain ⟨e5, he5⟩ : ∃ e5, e5 = nE s b1 := ⟨_, rfl⟩
  have hsp : sl = true ∨ pt = true → b1 ≤ s.size ∧ b1 ≤ e5 ∧ e5 ≤ s.size := by
    intro h
    have hlt : e1 < s.size := h.elim (fun h => has_lt (hsl.symm.trans h)) (fun h => has_lt (hpt.symm.trans h))
    have := nE_in s b1 (by omega)
    rw [← he5] at this
    exact ⟨by omega, this⟩
  obtain ⟨e2, he2⟩ : ∃ e2, e2 = if pt then e5 else e1 := ⟨_, rfl⟩
  have q2 : e2 ≤ s.size := by
    rw [he2]; split
    · rw [he5]; exact nE_le s b1
    · exact q1.2
  obtain ⟨ex, hex⟩ : ∃ ex, ex = has s e2 [101, 69] := ⟨_, rfl⟩
  obtain ⟨b2, hb2⟩ : ∃ b2, b2 = e2 + 1 := ⟨_, rfl⟩
  obtain ⟨dn, hdn⟩ : ∃ dn, dn = has s b2 [45] := ⟨_, rfl⟩
  obtain ⟨sg, hsg⟩ : ∃ sg, sg = has s b2 [43, 45] := ⟨_, rfl⟩
  obtain ⟨a3, ha3⟩ : ∃ a3, a3 = if sg then b2 + 1 else b2 := ⟨_, rfl⟩
  obtain ⟨e6, he6⟩ : ∃ e6, e6 = nE s a3 := ⟨_, rfl⟩
  have q3 : ex = true → b2 ≤ s.size := fun h => by have := has_lt (hex.symm.trans h); omega
  have q4 : ex = true → a3 ≤ s.size ∧ a3 ≤ e6 ∧ e6 ≤ s.size := fun h => by
    have h1 := q3 h
    have h2 : a3 ≤ s.size := by
      rw [ha3]; split
      · rename_i hg; have := has_lt (hsg.symm.trans hg); omega
      · exact h1
    have := nE_in s a3 h2
    rw [← he6] at this
    exact ⟨h2, this⟩
  obtain ⟨e3, he3⟩ : ∃ e3, e3 = if ex then e6 else e2 := ⟨_, rfl⟩
  have q5 : e3 ≤ s.size := by
    rw [he3]; split
    · rw [he6]; exact nE_le s a3
    · exact q2
  have W1 := fun (R : Value) (w : World) => cutParts_walk s (nT s a) (nT s b1) (if pt then nT s b1 else ⟨#[]⟩) (nT s a3) (if ex then nT s a3 else ⟨#[]⟩) (hB s) (cT s) (cE s) R w hs (h133_all s) (h134_all s hs) b0 (decide ((nT s a).size = 0)) sl (decide ((nT s b1).size = 0)) pt ex dn sg (decide ((nT s a3).size = 0)) a e1 e5 e2 a3 e6 e3
    hb0.symm ha hal (cT_nT s a) (by rw [cE_nE, he1]) (empty_iff _) q1.2 (by rw [hsl]; rfl) (by rw [hpt]; rfl) (fun h => by have := (hsp h).1; omega) (by have := cT_nT s b1; rw [hb1] at this ⊢; simpa using this) (by have := cE_nE s b1; rw [← he5, hb1] at this; simpa using this) (empty_iff _) (by rw [he5]; exact nE_le s b1) he2 rfl
    (by rw [hex]; rfl) (fun h => by have := q3 h; omega) (by rw [hdn, hb2]; rfl) (by rw [hsg, hb2]; rfl) (fun h => by have := has_lt (hsg.symm.trans h); omega) (by rw [ha3, hb2]) (cT_nT s a3) (by rw [cE_nE, he6]) (empty_iff _) he3 rfl
  subst he3 he6 ha3 hsg hdn hb2 hex he2 he5 hb1 hpt hsl he1 ha hb0
  exact W1 (ratCut s) w rfl
end Go.Proofs.YtijifpbpjinmhaaGreatDoor

/- The document's Zeros. -/
import Derived.Test.YtoinadnpdbaamaaGreatDoorRefTimes
import Derived.Test.YtoinadnpdbaamaaGreatDoorRefText2
import Derived.Test.YtoinadnpdbaamaaGreatDoorRefOk
import Derived.Test.YtoinadnpdbaamaaGreatDoorNear
import Derived.Test.YtoinadnpdbaamaaGreatDoorBoxes
namespace Go.Proofs.YtoinadnpdbaamaaGreatDoor
open Go.RowKit

/-- Noughts as far as i, made in a block of n bytes. -/
structure ZB (w wr : World) (g n i : Nat) : Prop where
  cell : ∀ q, q < n → wr.cell? ⟨g, q, none⟩ = some (.int .u8 (if q < i then 48 else 0))
  froz : ∀ q, q < n → wr.frozen? ⟨g, q, none⟩ = false
  low : w.heap.size ≤ g
  below : Below w.heap.size w wr
theorem ZB.step {w wr : World} {g n i : Nat} (h : ZB w wr g n i) (hi : i < n) : ZB w (wr.setCell ⟨g, i, none⟩ (.int .u8 48)) g n (i + 1) := by
  refine ⟨fun q hq => ?_, fun q hq => by rw [World.frozen?_setCell]; exact h.froz q hq, h.low, h.below.setCell (p := ⟨g, i, none⟩) h.low _⟩
  by_cases e : q = i
  · subst e
    rw [World.cell?_setCell_same _ _ _ (h.cell q hq), if_pos (by omega)]
  · rw [World.cell?_setCell_other _ _ _ _ (by intro h; cases h; exact e rfl), h.cell q hq]
    by_cases e2 : q < i
    · rw [if_pos e2, if_pos (by omega)]
    · rw [if_neg e2, if_neg (by omega)]
set_option maxRecDepth 100000 in
set_option maxHeartbeats 2000000 in
theorem refZeros (n : Nat) (w : World) (hn : n ≤ 100000) :
    Calls Tryz.prog 66 #[.int .i64 (n : Int)] w fun r w' => r = .returned (.string ⟨(List.replicate n 48).toArray⟩) ∧ Below w.heap.size w w' := by
  obtain ⟨i5, hi5, hz50, hz51, hz52⟩ := info_parts Tryz.info5
  go_enter Tryz.func66, Tryz.ntmps66
  go_wp2_with (at_make; refine wpList_make_full _ rfl _ _ 130 rfl w.heap.size 5 i5 (.int .u8 0) 1 Tryz.underlying130 hi5 hz50 hz51 .i64 .i64 _ _ n rfl rfl (by omega) (by omega) (by rw [hz52]; omega) (by unfold maxLen; omega) (Nat.le_refl _) ?_; intro w3 hown3 hgrow3)
  have HZ : Hid (ZB w w3 w.heap.size n 0) := by
    refine ⟨fun q hq => ?_, fun q hq => hown3.frozenAt q, Nat.le_refl _, (Below.refl _ _).grown hgrow3 (Nat.le_refl _) (fun k hk => by cases hk)⟩
    rw [show (madeCells (Value.int .u8 0).cells (n * 1)).toList = List.replicate n (Value.int .u8 0) from by
      rw [show (Value.int .u8 0).cells = #[Value.int .u8 0] from rfl, toList_madeCells_one]; simp] at hown3
    rw [hown3.cellAt q (by omega), if_neg (by omega)]
    simp [hq]
  clear hown3 hgrow3
  generalize hg : w.heap.size = g at *
  clear hg
  go_loopw [9] (fun t wr => ∃ i : Nat, t = .int .i64 (i : Int) ∧ i ≤ n ∧ Hid (ZB w wr g n i)) (fun t _ => n - (intOf t).toNat)
  case atStart => exact ⟨0, rfl, by omega, HZ⟩
  case round =>
    obtain ⟨i, rfl, hin, HI⟩ := hrel
    clear HZ
    by_cases hlt : i < n
    · have c0 := (unhide HI).cell i hlt
      have f0 := (unhide HI).froz i hlt
      rw [if_neg (by omega)] at c0
      have HJ := hide ((unhide HI).step hlt)
      have hlt' : (i : Int) < (n : Int) := by omega
      go_wp2
      go_round
      case rel => exact ⟨i + 1, by go_num, by omega, HJ⟩
      case measure => simp [intOf]; omega
    · have e : i = n := by omega
      subst e
      have hcv := run_convert_bytes_back (P := Tryz.prog) wr 130 9 5 ⟨g, 0, none⟩ i (List.replicate i 48) Tryz.underlying130 Tryz.underlying5 Tryz.underlying9 (fun q hq => by
        rw [Lib.add_plain, Nat.zero_add, (unhide HI).cell q (by simpa using hq), if_pos (by simpa using hq)]
        simp)
      rw [List.length_replicate] at hcv
      have HB := hide (unhide HI).below
      go_wp2
      go_ret
      exact ⟨rfl, unhide HB⟩
end Go.Proofs.YtoinadnpdbaamaaGreatDoor

namespace Go.Proofs.YtoinadnpdbaamaaGreatDoor
open Go.RowKit

theorem dec_last (n : Nat) : ∃ l, Lib.decDigits n = l ++ [UInt8.ofNat (48 + n % 10)] := by
  rw [Lib.decDigits]
  split
  · exact ⟨[], by rw [Nat.mod_eq_of_lt (by assumption)]; rfl⟩
  · exact ⟨_, rfl⟩
theorem tx_last (n : Nat) : 0 < (tx n).size ∧ ∀ h : (tx n).size - 1 < (tx n).size, ((tx n)[(tx n).size - 1].toNat) = 48 + n % 10 := by
  obtain ⟨l, hl⟩ := dec_last n
  have hsz : (tx n).size = l.length + 1 := by
    rw [← list_len, tx_list, hl]; simp
  refine ⟨by omega, fun h => ?_⟩
  have e : (tx n)[(tx n).size - 1] = (tx n).data.toList[(tx n).size - 1]'(by rw [list_len]; exact h) := by
    simp [ByteArray.getElem_eq_getElem_data]
  rw [e]
  have e2 : (tx n).data.toList[(tx n).size - 1]'(by rw [list_len]; exact h) = UInt8.ofNat (48 + n % 10) := by
    apply Option.some.inj
    rw [← List.getElem?_eq_getElem, tx_list, hl, hsz]
    simp
  rw [e2, Cub.toNat_dig _ (by omega)]
/-- 1 and noughts. -/
theorem one_zeros (p : Nat) : (⟨#[49]⟩ : ByteArray) ++ ⟨(List.replicate p 48).toArray⟩ = tx (10 ^ p) := by
  apply bytes_ext
  rw [tx_list]
  have e : Cub.dval (49 :: List.replicate p 48) = 10 ^ p := by
    rw [Cub.dval_cons, Cub.dval_noughts]; simp
  have h := Cub.dec_dval _ (49 :: List.replicate p 48) rfl ⟨?_, by simp, fun h => by simp at h⟩
  · rw [e] at h
    rw [h]
    simp
  · intro c hc
    rcases List.mem_cons.1 hc with rfl | hc
    · decide
    · rw [List.eq_of_mem_replicate hc]; decide

set_option maxRecDepth 100000 in
set_option maxHeartbeats 2000000 in
theorem refNear_walk (N D q r t1 q1 : ByteArray) (cm : Int) (par : Nat) (w : World) (hq0 : 0 < q.size) (hqs : q.size ≤ 100000) (hql : ∀ h : q.size - 1 < q.size, (q[q.size - 1].toNat) = 48 + par) (hpar : par < 10)
    (hD : ∀ W, Calls Tryz.prog 119 #[.string N, .string D] W fun e w' => e = .returned (.tuple #[.string q, .string r]) ∧ Below W.heap.size W w')
    (hT : ∀ W, Calls Tryz.prog 123 #[.string r, .string ⟨#[50]⟩] W fun e w' => e = .returned (.string t1) ∧ Below W.heap.size W w')
    (hC : ∀ W, Calls Tryz.prog 124 #[.string t1, .string D] W fun e w' => e = .returned (.int .i64 cm) ∧ w' = W)
    (hP : ∀ W, Calls Tryz.prog 120 #[.string q, .string ⟨#[49]⟩] W fun e w' => e = .returned (.string q1) ∧ Below W.heap.size W w') :
    Calls Tryz.prog 145 #[.string N, .string D] w fun e w' => e = .returned (.string (if 0 < cm ∨ (cm = 0 ∧ par % 2 = 1) then q1 else q)) ∧ Below w.heap.size w w' := by
  have HD := hide hD; have HT := hide hT; have HC := hide hC; have HP := hide hP
  obtain ⟨up, hup⟩ : ∃ up : Bool, up = (decide (0 < cm) || (decide (cm = 0) && decide (par % 2 = 1))) := ⟨_, rfl⟩
  have hif : (if 0 < cm ∨ (cm = 0 ∧ par % 2 = 1) then q1 else q) = if up then q1 else q := by
    rw [hup]; simp
  rw [hif]
  have HUP := hide hup
  obtain ⟨k, hk⟩ : ∃ k, q.size = k + 1 := ⟨q.size - 1, by omega⟩
  have hkq : k < q.size := by omega
  have hlast : (q[k].toNat : Int) = 48 + par := by
    have := hql (by omega)
    simp only [hk, Nat.add_sub_cancel] at this
    omega
  have hk1 : (q.size : Int) - 1 = (k : Int) := by omega
  clear hql hq0
  clear hD hT hC hP hif hup
  go_enter Tryz.func145, Tryz.ntmps145
  go_upto_region 3 with (first
    | (go_at_call 119; go_must (refine (unhide HD _).mono ?_; rintro e w1 ⟨rfl, hb1⟩; have HB1 := hide hb1; clear hb1))
    | (go_at_call 123; go_must (refine (unhide HT _).mono ?_; rintro e w2 ⟨rfl, hb2⟩; have HB2 := hide ((unhide HB1).trans (hb2.mono (unhide HB1).size)); clear hb2))
    | (go_at_call 124; go_must (refine (unhide HC _).mono ?_; rintro e w3 ⟨rfl, hw3⟩; rw [hw3]; clear hw3 w3)))
  go_cut [33] from 7 (fun s33 wx => s33 = .bool up ∧ wx = w2)
  case first =>
    by_cases k1 : 0 < cm
    · have E : Hid (up = true) := by show _ = _; rw [unhide HUP, decide_eq_true k1]; rfl
      go_wp2_with fail
      go_meet
      exact ⟨by rw [unhide E], rfl⟩
    · by_cases k2 : cm = 0
      · have E : Hid (up = decide (par % 2 = 1)) := by show _ = _; rw [unhide HUP, decide_eq_false k1, decide_eq_true k2]; simp
        go_wp2_with fail
        go_meet
        refine ⟨?_, rfl⟩
        rw [unhide E]
        congr 1
        rw [Bool.eq_iff_iff, beq_iff_eq, decide_eq_true_iff]
        omega
      · have E : Hid (up = false) := by show _ = _; rw [unhide HUP, decide_eq_false k1, decide_eq_false k2]; rfl
        go_wp2_with fail
        go_meet
        exact ⟨by rw [unhide E], rfl⟩
  case rest =>
    obtain ⟨rfl, hwx⟩ := hcut
    obtain rfl : w2 = wc := hwx.symm
    clear HUP
    cases up with
    | true =>
      go_wp2_with (go_at_call 120; go_must (refine (unhide HP _).mono ?_; rintro e w5 ⟨rfl, hb5⟩; have HE := hide ((unhide HB2).trans (hb5.mono (unhide HB2).size)); clear hb5))
      go_ret
      exact ⟨by simp, unhide HE⟩
    | false =>
      go_wp2_with fail
      go_ret
      exact ⟨by simp, unhide HB2⟩
/-- The document's Near of two natural numbers. -/
theorem refNear (d N D : Nat) (w : World) (hd1 : 1 ≤ d) (hd : d + 1 ≤ 5000) (hN : N < 10 ^ d) (hD : D < 10 ^ d) (h0 : 0 < D) :
    Calls Tryz.prog 145 #[.string (tx N), .string (tx D)] w fun e w' => e = .returned (.string (tx (nearN N D))) ∧ Below w.heap.size w w' := by
  have hq : N / D < 10 ^ d := Nat.lt_of_le_of_lt (Nat.div_le_self _ _) hN
  have hr : N % D < 10 ^ d := Nat.lt_of_le_of_lt (Nat.mod_le _ _) hN
  have h1 : (1 : Nat) < 10 ^ d := Nat.one_lt_pow (by omega) (by omega)
  have h2 : (2 : Nat) < 10 ^ d := by
    have : 10 ^ 1 ≤ 10 ^ d := Nat.pow_le_pow_right (by omega) hd1
    omega
  have hl := tx_last (N / D)
  have t2 : tx 2 = ⟨#[50]⟩ := by rw [← tx_tb 2 (lit_tb ⟨#[50]⟩ 2 (by decide) (by decide)).2]; exact (lit_tb ⟨#[50]⟩ 2 (by decide) (by decide)).1.symm
  have h := refNear_walk (tx N) (tx D) (tx (N / D)) (tx (N % D)) (tx (N % D * 2)) (tx (N / D + 1)) (Cub.cmpN (N % D * 2) D) (N / D % 10) w hl.1 (Nat.le_trans (tx_size hd1 hq) (by omega)) hl.2 (by omega)
    (fun W => refDivideM d N D W hd1 (by omega) hN hD h0)
    (fun W => by rw [← t2]; exact refTimesM d (N % D) 2 W hd1 (by omega) hr h2)
    (fun W => refCompareM _ _ W)
    (fun W => by rw [← tx_one]; exact refPlusM d (N / D) 1 W hd1 (by omega) hq h1)
  have e : (if 0 < Cub.cmpN (N % D * 2) D ∨ (Cub.cmpN (N % D * 2) D = 0 ∧ N / D % 10 % 2 = 1) then tx (N / D + 1) else tx (N / D)) = tx (nearN N D) := by
    unfold nearN
    have e1 : (0 < Cub.cmpN (N % D * 2) D) ↔ D < N % D + N % D := by unfold Cub.cmpN; split <;> (try split) <;> omega
    have e2 : (Cub.cmpN (N % D * 2) D = 0) ↔ N % D + N % D = D := by unfold Cub.cmpN; split <;> (try split) <;> omega
    have e3 : N / D % 10 % 2 = N / D % 2 := by omega
    simp only [e1, e2, e3]
    split <;> rfl
  rw [e] at h
  exact h
end Go.Proofs.YtoinadnpdbaamaaGreatDoor

namespace Go.Proofs.YtoinadnpdbaamaaGreatDoor
open Go.RowKit

set_option maxRecDepth 100000 in
set_option maxHeartbeats 2000000 in
theorem refSteps_pos (b : Bool) (s t z u v : ByteArray) (p : Nat) (w : World) (hp : p ≤ 100000) (hsz : z.size ≤ 1000000)
    (hZ : ∀ W, Calls Tryz.prog 66 #[.int .i64 (p : Int)] W fun e w' => e = .returned (.string z) ∧ Below W.heap.size W w')
    (hT : ∀ W, Calls Tryz.prog 123 #[.string s, .string (⟨#[49]⟩ ++ z)] W fun e w' => e = .returned (.string u) ∧ Below W.heap.size W w')
    (hN : ∀ W, Calls Tryz.prog 145 #[.string u, .string t] W fun e w' => e = .returned (.string v) ∧ Below W.heap.size W w') :
    Calls Tryz.prog 91 #[.agg #[.bool b, .string s, .string t], .int .i64 (p : Int)] w fun e w' => e = .returned (.string v) ∧ Below w.heap.size w w' := by
  obtain ⟨V, hV⟩ : ∃ V, V = w.alloc (.cells #[.bool b, .string s, .string t] 61) := ⟨_, rfl⟩
  have HB : Hid (Below w.heap.size w V) := by rw [hV]; exact (Below.refl _ _).alloc (Nat.le_refl _) _
  have HF : Hid (FBox V w.heap.size (.bool b) (.string s) (.string t)) := by rw [hV]; exact FBox.new61 _ _ _ _
  have HV := hide hV
  have HZ := hide hZ; have HT := hide hT; have HN := hide hN
  have k0 : (0 : Int) ≤ (p : Int) := by omega
  have k1 : -(-(p : Int)) = (p : Int) := by omega
  clear hZ hT hN
  go_enter Tryz.func91, Tryz.ntmps91
  go_upto_region 1 with fail
  rw [← unhide HV]
  clear hV HV
  go_upto_region 2 with fail
  have t0 : ∀ z : Later V, z.world.cell? ⟨w.heap.size, 0, none⟩ = some (.bool b) := fun z => ((unhide HF).later z.below).c0
  have t1 : ∀ z : Later V, z.world.cell? ⟨w.heap.size, 1, none⟩ = some (.string s) := fun z => ((unhide HF).later z.below).c1
  have t2 : ∀ z : Later V, z.world.cell? ⟨w.heap.size, 2, none⟩ = some (.string t) := fun z => ((unhide HF).later z.below).c2
  refine quiet_later (by kernel_rfl) (by kernel_rfl) ?_
  repeat (go_big_quiet_step (first
    | (go_at_call 66; rename_i xx; refine (unhide HZ _).mono ?_; rintro e w9 ⟨rfl, hb9⟩; have hz := xx.below.trans (hb9.mono xx.below.size); first | exact ⟨rfl, ⟨w9, hz⟩, rfl⟩ | exact ⟨rfl, hz⟩ | exact ⟨rfl, w9, hz, rfl⟩)
    | (go_at_call 123; rename_i xx; refine (unhide HT _).mono ?_; rintro e w9 ⟨rfl, hb9⟩; have hz := xx.below.trans (hb9.mono xx.below.size); first | exact ⟨rfl, ⟨w9, hz⟩, rfl⟩ | exact ⟨rfl, hz⟩ | exact ⟨rfl, w9, hz, rfl⟩)
    | (go_at_call 145; rename_i xx; refine (unhide HN _).mono ?_; rintro e w9 ⟨rfl, hb9⟩; have hz := xx.below.trans (hb9.mono xx.below.size); first | exact ⟨rfl, ⟨w9, hz⟩, rfl⟩ | exact ⟨rfl, hz⟩ | exact ⟨rfl, w9, hz, rfl⟩)))
  refine wpQuiet_nil ?_
  intro _ hw'
  obtain ⟨xz, hw''⟩ := hw'
  subst hw''
  have HE := hide ((unhide HB).trans (xz.below.mono (unhide HB).size))
  clear t0 t1 t2
  go_wp2_with fail
  go_ret
  exact ⟨by first | rfl | simp, unhide HE⟩

set_option maxRecDepth 100000 in
set_option maxHeartbeats 2000000 in
theorem refSteps_neg (b : Bool) (s t z u v : ByteArray) (p : Nat) (w : World) (hp : p ≤ 100000) (hp1 : 1 ≤ p) (hsz : z.size ≤ 1000000)
    (hZ : ∀ W, Calls Tryz.prog 66 #[.int .i64 (p : Int)] W fun e w' => e = .returned (.string z) ∧ Below W.heap.size W w')
    (hT : ∀ W, Calls Tryz.prog 123 #[.string t, .string (⟨#[49]⟩ ++ z)] W fun e w' => e = .returned (.string u) ∧ Below W.heap.size W w')
    (hN : ∀ W, Calls Tryz.prog 145 #[.string s, .string u] W fun e w' => e = .returned (.string v) ∧ Below W.heap.size W w') :
    Calls Tryz.prog 91 #[.agg #[.bool b, .string s, .string t], .int .i64 (-(p : Int))] w fun e w' => e = .returned (.string v) ∧ Below w.heap.size w w' := by
  obtain ⟨V, hV⟩ : ∃ V, V = w.alloc (.cells #[.bool b, .string s, .string t] 61) := ⟨_, rfl⟩
  have HB : Hid (Below w.heap.size w V) := by rw [hV]; exact (Below.refl _ _).alloc (Nat.le_refl _) _
  have HF : Hid (FBox V w.heap.size (.bool b) (.string s) (.string t)) := by rw [hV]; exact FBox.new61 _ _ _ _
  have HV := hide hV
  have HZ := hide hZ; have HT := hide hT; have HN := hide hN
  have k0 : ¬ (0 : Int) ≤ -(p : Int) := by omega
  have k1 : -(-(p : Int)) = (p : Int) := by omega
  clear hZ hT hN
  go_enter Tryz.func91, Tryz.ntmps91
  go_upto_region 1 with fail
  rw [← unhide HV]
  clear hV HV
  go_upto_region 3 with fail
  have t0 : ∀ z : Later V, z.world.cell? ⟨w.heap.size, 0, none⟩ = some (.bool b) := fun z => ((unhide HF).later z.below).c0
  have t1 : ∀ z : Later V, z.world.cell? ⟨w.heap.size, 1, none⟩ = some (.string s) := fun z => ((unhide HF).later z.below).c1
  have t2 : ∀ z : Later V, z.world.cell? ⟨w.heap.size, 2, none⟩ = some (.string t) := fun z => ((unhide HF).later z.below).c2
  refine quiet_later (by kernel_rfl) (by kernel_rfl) ?_
  repeat (go_big_quiet_step (first
    | (go_at_call 66; rename_i xx; refine (unhide HZ _).mono ?_; rintro e w9 ⟨rfl, hb9⟩; have hz := xx.below.trans (hb9.mono xx.below.size); first | exact ⟨rfl, ⟨w9, hz⟩, rfl⟩ | exact ⟨rfl, hz⟩ | exact ⟨rfl, w9, hz, rfl⟩)
    | (go_at_call 123; rename_i xx; refine (unhide HT _).mono ?_; rintro e w9 ⟨rfl, hb9⟩; have hz := xx.below.trans (hb9.mono xx.below.size); first | exact ⟨rfl, ⟨w9, hz⟩, rfl⟩ | exact ⟨rfl, hz⟩ | exact ⟨rfl, w9, hz, rfl⟩)
    | (go_at_call 145; rename_i xx; refine (unhide HN _).mono ?_; rintro e w9 ⟨rfl, hb9⟩; have hz := xx.below.trans (hb9.mono xx.below.size); first | exact ⟨rfl, ⟨w9, hz⟩, rfl⟩ | exact ⟨rfl, hz⟩ | exact ⟨rfl, w9, hz, rfl⟩)))
  refine wpQuiet_nil ?_
  intro _ hw'
  obtain ⟨xz, hw''⟩ := hw'
  subst hw''
  have HE := hide ((unhide HB).trans (xz.below.mono (unhide HB).size))
  clear t0 t1 t2
  go_wp2_with fail
  go_ret
  exact ⟨by first | rfl | simp, unhide HE⟩

set_option maxRecDepth 100000 in
set_option maxHeartbeats 2000000 in
theorem refRounded_pos (b b4 : Bool) (s t z m s4 t4 : ByteArray) (p : Nat) (w : World) (hp : p ≤ 100000) (hsz : z.size ≤ 1000000)
    (hS : ∀ W, Calls Tryz.prog 91 #[.agg #[.bool b, .string s, .string t], .int .i64 (p : Int)] W fun e w' => e = .returned (.string m) ∧ Below W.heap.size W w')
    (hZ : ∀ W, Calls Tryz.prog 66 #[.int .i64 (p : Int)] W fun e w' => e = .returned (.string z) ∧ Below W.heap.size W w')
    (hL : ∀ W, Calls Tryz.prog 75 #[.bool b, .string m, .string (⟨#[49]⟩ ++ z)] W fun e w' => e = .returned (.agg #[.bool b4, .string s4, .string t4]) ∧ Below W.heap.size W w') :
    Calls Tryz.prog 115 #[.agg #[.bool b, .string s, .string t], .int .i64 (p : Int)] w fun e w' => e = .returned (.agg #[.bool b4, .string s4, .string t4]) ∧ Below w.heap.size w w' := by
  obtain ⟨V, hV⟩ : ∃ V, V = (w.alloc (.cells #[.bool b, .string s, .string t] 61)).alloc (.cells #[.bool false, .string ⟨#[]⟩, .string ⟨#[]⟩] 61) := ⟨_, rfl⟩
  have HB : Hid (Below w.heap.size w V) := by rw [hV]; exact ((Below.refl _ _).alloc (Nat.le_refl _) _).alloc (by simp) _
  have HR : Hid (FBox V (w.heap.size + 1) (.bool false) (.string ⟨#[]⟩) (.string ⟨#[]⟩)) := by rw [hV]; exact ⟨by simp [go_sem], by simp [go_sem], by simp [go_sem], by simp [go_sem], by simp [go_sem], by simp [go_sem]⟩
  have HF : Hid (FBox V w.heap.size (.bool b) (.string s) (.string t)) := by rw [hV]; exact ⟨by simp [go_sem], by simp [go_sem], by simp [go_sem], by simp [go_sem], by simp [go_sem], by simp [go_sem]⟩
  have HV := hide hV
  have HSS := hide hS; have HZ := hide hZ; have HL := hide hL
  have k0 : (0 : Int) ≤ (p : Int) := by omega
  have k1 : -(-(p : Int)) = (p : Int) := by omega
  clear hS hZ hL
  go_enter Tryz.func115, Tryz.ntmps115
  go_upto_region 1 with fail
  rw [← unhide HV]
  clear hV HV
  have c0 := (unhide HF).c0; have c1 := (unhide HF).c1; have c2 := (unhide HF).c2
  go_upto_region 3 with (go_at_call 91; go_must (refine (unhide HSS _).mono ?_; rintro e w1 ⟨rfl, hb1⟩; have HBU := hide hb1; clear hb1 c0 c1 c2))
  have t0 : ∀ z : Later w1, z.world.cell? ⟨w.heap.size, 0, none⟩ = some (.bool b) := fun z => ((unhide HF).later ((unhide HBU).trans (z.below.mono (unhide HBU).size))).c0
  have t1 : ∀ z : Later w1, z.world.cell? ⟨w.heap.size, 1, none⟩ = some (.string s) := fun z => ((unhide HF).later ((unhide HBU).trans (z.below.mono (unhide HBU).size))).c1
  have t2 : ∀ z : Later w1, z.world.cell? ⟨w.heap.size, 2, none⟩ = some (.string t) := fun z => ((unhide HF).later ((unhide HBU).trans (z.below.mono (unhide HBU).size))).c2
  refine quiet_end (by kernel_rfl) (by kernel_rfl) ?_
  simp only [List.dropLast, lastOf]
  repeat (go_big_quiet_step (first
    | (go_at_call 66; rename_i xx; refine (unhide HZ _).mono ?_; rintro e w9 ⟨rfl, hb9⟩; have hz := xx.below.trans (hb9.mono xx.below.size); first | exact ⟨rfl, ⟨w9, hz⟩, rfl⟩ | exact ⟨rfl, hz⟩ | exact ⟨rfl, w9, hz, rfl⟩)
    | (go_at_call 75; rename_i xx; refine (unhide HL _).mono ?_; rintro e w9 ⟨rfl, hb9⟩; have hz := xx.below.trans (hb9.mono xx.below.size); first | exact ⟨rfl, ⟨w9, hz⟩, rfl⟩ | exact ⟨rfl, hz⟩ | exact ⟨rfl, w9, hz, rfl⟩)))
  refine wpQuiet_nil ?_
  intro _ hw'
  obtain ⟨xz, hw''⟩ := hw'
  subst hw''
  obtain ⟨U, hU⟩ : ∃ U, U = xz.world := ⟨_, rfl⟩
  have hVU : Below V.heap.size V U := by rw [hU]; exact (unhide HBU).trans (xz.below.mono (unhide HBU).size)
  have HRU := hide ((unhide HR).later hVU)
  have HBW := hide ((unhide HB).trans (hVU.mono (unhide HB).size))
  rw [← hU]
  clear hU hVU t0 t1 t2 HB HR HF
  have r0 := (unhide HRU).c0; have r1 := (unhide HRU).c1; have r2 := (unhide HRU).c2; have rf0 := (unhide HRU).f0; have rf1 := (unhide HRU).f1; have rf2 := (unhide HRU).f2
  go_simp
  go_wp2_with fail
  have hS := (unhide HRU).store (.bool b4) (.string s4) (.string t4)
  have HB9 : Below w.heap.size w (store3 U (w.heap.size + 1) (.bool b4) (.string s4) (.string t4)) := below_store3 (unhide HBW) (by omega) _ _ _
  have u0 := hS.c0; have u1 := hS.c1; have u2 := hS.c2
  exact bodyPost_ret (v := .agg #[.bool b4, .string s4, .string t4]) (w := store3 U (w.heap.size + 1) (.bool b4) (.string s4) (.string t4)) (by simp [results, Tryz.results115, go_sem, u0, u1, u2]) rfl ⟨rfl, HB9⟩

set_option maxRecDepth 100000 in
set_option maxHeartbeats 2000000 in
theorem refRounded_neg (b b4 : Bool) (s t z m u s4 t4 : ByteArray) (p : Nat) (w : World) (hp : p ≤ 100000) (hp1 : 1 ≤ p) (hsz : z.size ≤ 1000000)
    (hS : ∀ W, Calls Tryz.prog 91 #[.agg #[.bool b, .string s, .string t], .int .i64 (-(p : Int))] W fun e w' => e = .returned (.string m) ∧ Below W.heap.size W w')
    (hZ : ∀ W, Calls Tryz.prog 66 #[.int .i64 (p : Int)] W fun e w' => e = .returned (.string z) ∧ Below W.heap.size W w')
    (hT : ∀ W, Calls Tryz.prog 123 #[.string m, .string (⟨#[49]⟩ ++ z)] W fun e w' => e = .returned (.string u) ∧ Below W.heap.size W w')
    (hL : ∀ W, Calls Tryz.prog 75 #[.bool b, .string u, .string ⟨#[49]⟩] W fun e w' => e = .returned (.agg #[.bool b4, .string s4, .string t4]) ∧ Below W.heap.size W w') :
    Calls Tryz.prog 115 #[.agg #[.bool b, .string s, .string t], .int .i64 (-(p : Int))] w fun e w' => e = .returned (.agg #[.bool b4, .string s4, .string t4]) ∧ Below w.heap.size w w' := by
  obtain ⟨V, hV⟩ : ∃ V, V = (w.alloc (.cells #[.bool b, .string s, .string t] 61)).alloc (.cells #[.bool false, .string ⟨#[]⟩, .string ⟨#[]⟩] 61) := ⟨_, rfl⟩
  have HB : Hid (Below w.heap.size w V) := by rw [hV]; exact ((Below.refl _ _).alloc (Nat.le_refl _) _).alloc (by simp) _
  have HR : Hid (FBox V (w.heap.size + 1) (.bool false) (.string ⟨#[]⟩) (.string ⟨#[]⟩)) := by rw [hV]; exact ⟨by simp [go_sem], by simp [go_sem], by simp [go_sem], by simp [go_sem], by simp [go_sem], by simp [go_sem]⟩
  have HF : Hid (FBox V w.heap.size (.bool b) (.string s) (.string t)) := by rw [hV]; exact ⟨by simp [go_sem], by simp [go_sem], by simp [go_sem], by simp [go_sem], by simp [go_sem], by simp [go_sem]⟩
  have HV := hide hV
  have HSS := hide hS; have HZ := hide hZ; have HL := hide hL; have HT := hide hT
  have k0 : ¬ (0 : Int) ≤ -(p : Int) := by omega
  have k1 : -(-(p : Int)) = (p : Int) := by omega
  clear hS hZ hL hT
  go_enter Tryz.func115, Tryz.ntmps115
  go_upto_region 1 with fail
  rw [← unhide HV]
  clear hV HV
  have c0 := (unhide HF).c0; have c1 := (unhide HF).c1; have c2 := (unhide HF).c2
  go_upto_region 4 with (go_at_call 91; go_must (refine (unhide HSS _).mono ?_; rintro e w1 ⟨rfl, hb1⟩; have HBU := hide hb1; clear hb1 c0 c1 c2))
  have t0 : ∀ z : Later w1, z.world.cell? ⟨w.heap.size, 0, none⟩ = some (.bool b) := fun z => ((unhide HF).later ((unhide HBU).trans (z.below.mono (unhide HBU).size))).c0
  have t1 : ∀ z : Later w1, z.world.cell? ⟨w.heap.size, 1, none⟩ = some (.string s) := fun z => ((unhide HF).later ((unhide HBU).trans (z.below.mono (unhide HBU).size))).c1
  have t2 : ∀ z : Later w1, z.world.cell? ⟨w.heap.size, 2, none⟩ = some (.string t) := fun z => ((unhide HF).later ((unhide HBU).trans (z.below.mono (unhide HBU).size))).c2
  refine quiet_end (by kernel_rfl) (by kernel_rfl) ?_
  simp only [List.dropLast, lastOf]
  repeat (go_big_quiet_step (first
    | (go_at_call 66; rename_i xx; refine (unhide HZ _).mono ?_; rintro e w9 ⟨rfl, hb9⟩; have hz := xx.below.trans (hb9.mono xx.below.size); first | exact ⟨rfl, ⟨w9, hz⟩, rfl⟩ | exact ⟨rfl, hz⟩ | exact ⟨rfl, w9, hz, rfl⟩)
    | (go_at_call 123; rename_i xx; refine (unhide HT _).mono ?_; rintro e w9 ⟨rfl, hb9⟩; have hz := xx.below.trans (hb9.mono xx.below.size); first | exact ⟨rfl, ⟨w9, hz⟩, rfl⟩ | exact ⟨rfl, hz⟩ | exact ⟨rfl, w9, hz, rfl⟩)
    | (go_at_call 75; rename_i xx; refine (unhide HL _).mono ?_; rintro e w9 ⟨rfl, hb9⟩; have hz := xx.below.trans (hb9.mono xx.below.size); first | exact ⟨rfl, ⟨w9, hz⟩, rfl⟩ | exact ⟨rfl, hz⟩ | exact ⟨rfl, w9, hz, rfl⟩)))
  refine wpQuiet_nil ?_
  intro _ hw'
  obtain ⟨xz, hw''⟩ := hw'
  subst hw''
  obtain ⟨U, hU⟩ : ∃ U, U = xz.world := ⟨_, rfl⟩
  have hVU : Below V.heap.size V U := by rw [hU]; exact (unhide HBU).trans (xz.below.mono (unhide HBU).size)
  have HRU := hide ((unhide HR).later hVU)
  have HBW := hide ((unhide HB).trans (hVU.mono (unhide HB).size))
  rw [← hU]
  clear hU hVU t0 t1 t2 HB HR HF
  have r0 := (unhide HRU).c0; have r1 := (unhide HRU).c1; have r2 := (unhide HRU).c2; have rf0 := (unhide HRU).f0; have rf1 := (unhide HRU).f1; have rf2 := (unhide HRU).f2
  go_simp
  go_wp2_with fail
  have hS := (unhide HRU).store (.bool b4) (.string s4) (.string t4)
  have HB9 : Below w.heap.size w (store3 U (w.heap.size + 1) (.bool b4) (.string s4) (.string t4)) := below_store3 (unhide HBW) (by omega) _ _ _
  have u0 := hS.c0; have u1 := hS.c1; have u2 := hS.c2
  exact bodyPost_ret (v := .agg #[.bool b4, .string s4, .string t4]) (w := store3 U (w.heap.size + 1) (.bool b4) (.string s4) (.string t4)) (by simp [results, Tryz.results115, go_sem, u0, u1, u2]) rfl ⟨rfl, HB9⟩
end Go.Proofs.YtoinadnpdbaamaaGreatDoor

namespace Go.Proofs.YtoinadnpdbaamaaGreatDoor
open Go.RowKit

/-- A number times ten to the p: what is divided, and by what. -/
def rN (n : Nat) (p : Int) : Nat := if p < 0 then n else n * 10 ^ p.toNat
def rD (d : Nat) (p : Int) : Nat := if p < 0 then d * 10 ^ (-p).toNat else d
/-- How many steps are nearest. -/
def stepsN (x : Rat) (p : Int) : Nat := nearN (rN x.num.natAbs p) (rD x.den p)
/-- Rounded to p places. -/
def roundM (x : Rat) (p : Int) : Nat := if p < 0 then stepsN x p * 10 ^ (-p).toNat else stepsN x p
def roundD (p : Int) : Nat := if p < 0 then 1 else 10 ^ p.toNat
def roundQ (x : Rat) (p : Int) : Rat := Cub.valQ (decide (x < 0)) (roundM x p) (roundD p)
theorem nearN_le (N D : Nat) : nearN N D ≤ N + 1 := by
  unfold nearN
  have := Nat.div_le_self N D
  split <;> omega
theorem roundD_pos (p : Int) : 0 < roundD p := by
  unfold roundD
  split
  · omega
  · exact Nat.pos_of_ne_zero (by simp)
section
variable {x : Rat} {p : Int} {d e : Nat}
theorem rN_lt (hx : Bd d x) (hp2 : p ≤ (e : Int)) : rN x.num.natAbs p < 10 ^ (d + e) := by
  unfold rN
  split
  · exact Nat.lt_of_lt_of_le hx.1 (Nat.pow_le_pow_right (by omega) (by omega))
  · rw [Nat.pow_add]
    exact Nat.lt_of_le_of_lt (Nat.mul_le_mul_left _ (Nat.pow_le_pow_right (by omega) (show p.toNat ≤ e by omega))) ((Nat.mul_lt_mul_right (Nat.pos_of_ne_zero (by simp))).2 hx.1)
theorem rD_lt (hx : Bd d x) (hp1 : -(e : Int) ≤ p) : rD x.den p < 10 ^ (d + e) := by
  unfold rD
  split
  · rw [Nat.pow_add]
    exact Nat.lt_of_le_of_lt (Nat.mul_le_mul_left _ (Nat.pow_le_pow_right (by omega) (show (-p).toNat ≤ e by omega))) ((Nat.mul_lt_mul_right (Nat.pos_of_ne_zero (by simp))).2 hx.2)
  · exact Nat.lt_of_lt_of_le hx.2 (Nat.pow_le_pow_right (by omega) (by omega))
theorem rD_pos (x : Rat) (p : Int) : 0 < rD x.den p := by
  unfold rD
  split
  · exact Nat.mul_pos x.den_pos (Nat.pos_of_ne_zero (by simp))
  · exact x.den_pos
theorem stepsN_lt (hx : Bd d x) (hp2 : p ≤ (e : Int)) : stepsN x p < 10 ^ (d + e + 1) := by
  have h1 := rN_lt (e := e) hx hp2
  have h2 := nearN_le (rN x.num.natAbs p) (rD x.den p)
  unfold stepsN
  have h3 : 0 < 10 ^ (d + e) := Nat.pos_of_ne_zero (by simp)
  rw [Nat.pow_succ]
  omega
theorem roundM_lt (hx : Bd d x) (hp1 : -(e : Int) ≤ p) (hp2 : p ≤ (e : Int)) : roundM x p < 10 ^ (d + e + 1) := by
  unfold roundM
  split
  · rename_i hp
    have h1 : stepsN x p < 10 ^ (d + 1) := by
      have := stepsN_lt (e := 0) hx (show p ≤ ((0 : Nat) : Int) by omega)
      simpa using this
    rw [show d + e + 1 = (d + 1) + e by omega, Nat.pow_add]
    exact Nat.lt_of_le_of_lt (Nat.mul_le_mul_left _ (Nat.pow_le_pow_right (by omega) (show (-p).toNat ≤ e by omega))) ((Nat.mul_lt_mul_right (Nat.pos_of_ne_zero (by simp))).2 h1)
  · exact stepsN_lt hx hp2
theorem roundD_lt (hp2 : p ≤ (e : Int)) : roundD p < 10 ^ (d + e + 1) := by
  unfold roundD
  split
  · exact Nat.one_lt_pow (by omega) (by omega)
  · exact Nat.pow_lt_pow_right (by omega) (by omega)
theorem refSteps (w : World) (hd1 : 1 ≤ d) (hde : d + e + 2 ≤ 5000) (hx : Bd d x) (hp1 : -(e : Int) ≤ p) (hp2 : p ≤ (e : Int)) :
    Calls Tryz.prog 91 #[fx x, .int .i64 p] w fun r w' => r = .returned (.string (tx (stepsN x p))) ∧ Below w.heap.size w w' := by
  have h1 := rN_lt (e := e) hx hp2
  have h2 := rD_lt (e := e) hx hp1
  have h3 := rD_pos x p
  have hN : ∀ W, Calls Tryz.prog 145 #[.string (tx (rN x.num.natAbs p)), .string (tx (rD x.den p))] W fun r w' => r = .returned (.string (tx (stepsN x p))) ∧ Below W.heap.size W w' := fun W => refNear (d + e) _ _ W (by omega) (by omega) h1 h2 h3
  have hz : ∀ q : Nat, q ≤ e → (⟨(List.replicate q 48).toArray⟩ : ByteArray).size ≤ 1000000 := fun q hq => by
    show (List.replicate q (48 : UInt8)).toArray.size ≤ _
    simp; omega
  unfold fx
  by_cases hp : p < 0
  · obtain ⟨q, hq⟩ : ∃ q : Nat, p = -(q : Int) := ⟨(-p).toNat, by omega⟩
    have e1 : rN x.num.natAbs p = x.num.natAbs := by unfold rN; rw [if_pos hp]
    have e2 : rD x.den p = x.den * 10 ^ q := by unfold rD; rw [if_pos hp, show (-p).toNat = q by omega]
    rw [e2] at h2
    rw [e1, e2] at hN
    generalize stepsN x p = m at *
    rw [hq]
    have hx2 : x.den < 10 ^ (d + e) := Nat.lt_of_lt_of_le hx.2 (Nat.pow_le_pow_right (by omega) (by omega))
    have hq2 : 10 ^ q < 10 ^ (d + e) := Nat.pow_lt_pow_right (by omega) (by omega)
    exact refSteps_neg _ _ _ _ _ _ q w (by omega) (by omega) (hz q (by omega)) (fun W => refZeros q W (by omega)) (fun W => by rw [one_zeros]; exact refTimesM (d + e) _ _ W (by omega) (by omega) hx2 hq2) hN
  · obtain ⟨q, hq⟩ : ∃ q : Nat, p = (q : Int) := ⟨p.toNat, by omega⟩
    have e1 : rN x.num.natAbs p = x.num.natAbs * 10 ^ q := by unfold rN; rw [if_neg hp, show p.toNat = q by omega]
    have e2 : rD x.den p = x.den := by unfold rD; rw [if_neg hp]
    rw [e1, e2] at hN
    generalize stepsN x p = m at *
    rw [hq]
    have hx2 : x.num.natAbs < 10 ^ (d + e) := Nat.lt_of_lt_of_le hx.1 (Nat.pow_le_pow_right (by omega) (by omega))
    have hq2 : 10 ^ q < 10 ^ (d + e) := Nat.pow_lt_pow_right (by omega) (by omega)
    exact refSteps_pos _ _ _ _ _ _ q w (by omega) (hz q (by omega)) (fun W => refZeros q W (by omega)) (fun W => by rw [one_zeros]; exact refTimesM (d + e) _ _ W (by omega) (by omega) hx2 hq2) hN
theorem refRounded (w : World) (hd1 : 1 ≤ d) (hde : d + e + 2 ≤ 5000) (hx : Bd d x) (hp1 : -(e : Int) ≤ p) (hp2 : p ≤ (e : Int)) :
    Calls Tryz.prog 115 #[fx x, .int .i64 p] w fun r w' => r = .returned (fx (roundQ x p)) ∧ Below w.heap.size w w' := by
  have hS := fun W => refSteps (e := e) W hd1 hde hx hp1 hp2
  have hm := roundM_lt (e := e) hx hp1 hp2
  have hd := roundD_lt (d := d) (e := e) hp2
  have h0 := roundD_pos p
  have hL : ∀ W, Calls Tryz.prog 75 #[.bool (decide (x < 0)), .string (tx (roundM x p)), .string (tx (roundD p))] W fun r w' => r = .returned (fx (roundQ x p)) ∧ Below W.heap.size W w' := fun W => by
    unfold roundQ
    rw [← fx_low _ _ _ h0]
    exact refLowestM (d + e + 1) _ _ _ W (by omega) (by omega) hm hd (by omega)
  have hs := stepsN_lt (e := e) hx hp2
  have hz : ∀ q : Nat, q ≤ e → (⟨(List.replicate q 48).toArray⟩ : ByteArray).size ≤ 1000000 := fun q hq => by
    show (List.replicate q (48 : UInt8)).toArray.size ≤ _
    simp; omega
  unfold fx at hS hL ⊢
  by_cases hp : p < 0
  · obtain ⟨q, hq⟩ : ∃ q : Nat, p = -(q : Int) := ⟨(-p).toNat, by omega⟩
    have e1 : roundM x p = stepsN x p * 10 ^ q := by unfold roundM; rw [if_pos hp, show (-p).toNat = q by omega]
    have e2 : roundD p = 1 := by unfold roundD; rw [if_pos hp]
    rw [e1, e2, tx_one] at hL
    generalize roundQ x p = y at *
    generalize stepsN x p = m at *
    have hq2 : 10 ^ q < 10 ^ (d + e + 1) := Nat.pow_lt_pow_right (by omega) (by omega)
    subst hq
    exact refRounded_neg _ _ _ _ _ _ _ _ _ q w (by omega) (by omega) (hz q (by omega)) hS (fun W => refZeros q W (by omega)) (fun W => by rw [one_zeros]; exact refTimesM (d + e + 1) _ _ W (by omega) (by omega) hs hq2) hL
  · obtain ⟨q, hq⟩ : ∃ q : Nat, p = (q : Int) := ⟨p.toNat, by omega⟩
    have e1 : roundM x p = stepsN x p := by unfold roundM; rw [if_neg hp]
    have e2 : roundD p = 10 ^ q := by unfold roundD; rw [if_neg hp, show p.toNat = q by omega]
    rw [e1, e2, ← one_zeros] at hL
    generalize roundQ x p = y at *
    generalize stepsN x p = m at *
    subst hq
    exact refRounded_pos _ _ _ _ _ _ _ _ q w (by omega) (hz q (by omega)) hS (fun W => refZeros q W (by omega)) hL
theorem round_bd (hx : Bd d x) (hp1 : -(e : Int) ≤ p) (hp2 : p ≤ (e : Int)) : Bd (d + e + 1) (roundQ x p) :=
  bd_val _ (roundD_pos p) (roundM_lt hx hp1 hp2) (roundD_lt hp2)
end
end Go.Proofs.YtoinadnpdbaamaaGreatDoor

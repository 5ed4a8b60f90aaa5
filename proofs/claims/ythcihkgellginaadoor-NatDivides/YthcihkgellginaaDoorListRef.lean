/- The document's own Sum and Prod of a list of texts. -/
import Derived.Test.YthcihkgellginaaDoorListMath
namespace Go.Proofs.YthcihkgellginaaDoor
open Go.RowKit

theorem InMem.later {w w' : World} {a : Option Addr} {ss : List ByteArray} (h : InMem w a ss) (hb : Below w.heap.size w w') : InMem w' a ss := fun i hi => by
  obtain ⟨b, o, e, hc⟩ := h i hi
  exact ⟨b, o, e, (hb.cell (World.block_lt_of_cell? _ _ hc)).trans hc⟩

/-- The text of a number, of any size. -/
def nb (n : Nat) : ByteArray := ⟨(Lib.decDigits n).toArray⟩
theorem nb_list (n : Nat) : (nb n).data.toList = Lib.decDigits n := rfl
theorem nb_val (n : Nat) : Cub.dval (nb n).data.toList = n := Cub.dval_dec n
theorem nb_digs (n : Nat) : Cub.digs (nb n).data.toList := (Cub.isNat_dec n).1
theorem nb_size (n k : Nat) (hk : 1 ≤ k) (h : n < 10 ^ k) : (nb n).size ≤ k := by
  rw [← list_len, nb_list]; exact (Cub.dec_len_lt n k hk).2 h
theorem right_dig2 {s : ByteArray} (h : Cub.rightB s.data.toList = true) : Cub.digs s.data.toList ∧ s.size ≤ 600 := by
  obtain ⟨h1, h2⟩ := (Cub.rightB_iff _).1 h
  rw [list_len] at h2
  exact ⟨h1.1, h2⟩
theorem nb_zero : (⟨#[48]⟩ : ByteArray) = nb 0 := by unfold nb; rw [dec_zero]

theorem plusN (n : Nat) (s : ByteArray) (r : Nat) (w : World) (hn : n < 10 ^ 620) (hs : Cub.rightB s.data.toList = true) (hr : r = n + val s) :
    Calls Tryd.prog 48 #[.string (nb n), .string s] w fun e w' => e = .returned (.string (nb r)) ∧ Below w.heap.size w w' := by
  subst hr
  have h := refPlus_any (nb n) s w (Nat.le_trans (nb_size n 620 (by decide) hn) (by decide)) (Nat.le_trans (right_dig2 hs).2 (by decide)) (nb_digs n) (right_dig2 hs).1
  rw [nb_val] at h
  exact h
theorem timesN (n : Nat) (s : ByteArray) (r : Nat) (w : World) (hn : n < 10 ^ 620) (hs : Cub.rightB s.data.toList = true) (hr : r = n * val s) :
    Calls Tryd.prog 55 #[.string (nb n), .string s] w fun e w' => e = .returned (.string (nb r)) ∧ Below w.heap.size w w' := by
  subst hr
  have h := refTimesS_any (nb n) s w (Nat.le_trans (nb_size n 620 (by decide) hn) (by decide)) (Nat.le_trans (right_dig2 hs).2 (by decide)) (nb_digs n) (right_dig2 hs).1
  rw [nb_val] at h
  exact h

set_option maxRecDepth 100000 in
set_option maxHeartbeats 400000 in
theorem refSum_any (a : Option Addr) (n cap : Nat) (ss : List ByteArray) (w : World) (hn : n = ss.length) (hmax : n ≤ 9223372036854775807)
    (hc : InMem w a ss) (hs : ∀ i (hi : i < ss.length), ss[i].size ≤ maxLen) :
    Calls Tryd.prog 35 #[.slice a n cap] w fun e w' => e = .returned (.tuple #[.string ⟨(sumText ss).toArray⟩, .int .i64 (sumErr ss)]) ∧ Below w.heap.size w w' := by
  have HR := hide (fun W (e : W = w) => by subst e; exact refRightL_any a n cap ss W hn hmax hc hs)
  have HN := hide hn
  have HC := hide hc
  clear hn hc hs
  unfold sumText sumErr
  cases hb : allRight ss with
  | false =>
    rw [hb] at HR
    simp only [Bool.false_eq_true, if_false]
    clear hb
    go_enter Tryd.func35, Tryd.ntmps35
    go_wp2_with (go_at_call 46; refine (unhide HR _ rfl).mono ?_; rintro e w' ⟨rfl, hw⟩; subst w')
    go_ret2
    exact ⟨rfl, Below.refl _ _⟩
  | true =>
    have HA := hide hb
    rw [hb] at HR
    simp only [if_true]
    clear hb
    go_enter Tryd.func35, Tryd.ntmps35
    go_wp2_with (go_at_call 46; refine (unhide HR _ rfl).mono ?_; rintro e w' ⟨rfl, hw⟩; subst w')
    go_loopw [4, 5] (fun t i wr => ∃ k : Nat, k ≤ n ∧ t = .string (nb (sumK ss k)) ∧ i = .int .i64 (k : Int) ∧ Below w.heap.size w wr) (fun _ i _ => n - (intOf i).toNat)
    case atStart => exact ⟨0, Nat.zero_le _, by rw [sumK_zero, nb_zero], rfl, Below.refl _ _⟩
    case round =>
      obtain ⟨k, hk, rfl, rfl, hbl⟩ := hrel
      by_cases hkn : k < n
      · have hkl : k < ss.length := by have := unhide HN; omega
        obtain ⟨b, o, rfl, hx⟩ := ((unhide HC).later hbl) k hkl
        have HP := hide (fun W => plusN (sumK ss k) ss[k] (sumK ss (k + 1)) W (sumK_620 (unhide HA) k (by omega) (by omega)) (right_at (unhide HA) k hkl) (sumK_succ ss k hkl))
        generalize nb (sumK ss k) = t0 at *
        obtain ⟨t1, ht1⟩ : ∃ t1, t1 = nb (sumK ss (k + 1)) := ⟨_, rfl⟩
        rw [← ht1] at HP
        generalize ss[k] = s at *
        go_wp2_with (go_at_call 48; refine (unhide HP _).mono ?_; rintro e w2 ⟨rfl, hc2⟩; have hb2 := hbl.trans (hc2.mono hbl.size); clear hc2)
        go_roundw
        case rel => exact ⟨k + 1, by omega, rfl, by go_num, hb2⟩
        case measure => simp [intOf]; omega
      · have hke : k = ss.length := by have := unhide HN; omega
        have HS := hide (fun W => small_any (sumK ss ss.length) W (by
          rw [← Lib.decDigits_length]
          exact Nat.le_trans ((Cub.dec_len_lt _ 620 (by decide)).2 (sumK_620 (unhide HA) ss.length (Nat.le_refl _) (by omega))) (by decide)))
        have e1 : Value.string (nb (sumK ss k)) = .string ⟨(Lib.decDigits (sumK ss ss.length)).toArray⟩ := by rw [hke]; rfl
        go_wp2_with (go_at_call 47; rw [e1]; refine (unhide HS _).mono ?_; rintro e w' ⟨rfl, rfl⟩)
        go_ret2
        exact ⟨rfl, hbl⟩

theorem pos600 (k : Nat) : 0 < 10 ^ k := Nat.pow_pos (by decide)
theorem one600 (k : Nat) (hk : k ≠ 0) : 1 < 10 ^ k := Nat.one_lt_pow hk (by decide)
theorem toldErr_pos (n : Nat) (h : n < 10 ^ 600) : toldErr n = 0 := by unfold toldErr; rw [if_pos h]
theorem toldErr_neg (n : Nat) (h : ¬ n < 10 ^ 600) : toldErr n = 7 := by unfold toldErr; rw [if_neg h]
theorem nb_one : (⟨#[49]⟩ : ByteArray) = nb 1 := by unfold nb; rw [Lib.decDigits_one (by decide)]; rfl
theorem nb_600 (n : Nat) : (nb n).size ≤ 600 ↔ n < 10 ^ 600 := by
  rw [← list_len, nb_list, Lib.decDigits_length]; exact len600 n
theorem lt620 (n d e : Nat) (h : d ≤ e) (hn : n < 10 ^ d) : n < 10 ^ e := Nat.lt_of_lt_of_le hn (Nat.pow_le_pow_right (by decide) h)
theorem told_nb (n : Nat) (h : n < 10 ^ 600) : (⟨(toldText n).toArray⟩ : ByteArray) = nb n := by rw [toldText_pos n h]; rfl
theorem told_zero : toldText 0 = [48] ∧ toldErr 0 = 0 := by
  have h := pos600 600
  constructor
  · rw [toldText_pos 0 h, dec_zero]
  · unfold toldErr; rw [if_pos h]

set_option maxRecDepth 100000 in
set_option maxHeartbeats 400000 in
theorem refProd_any (a : Option Addr) (n cap : Nat) (ss : List ByteArray) (w : World) (hn : n = ss.length) (hmax : n ≤ 9223372036854775807)
    (hc : InMem w a ss) (hs : ∀ i (hi : i < ss.length), ss[i].size ≤ maxLen) :
    Calls Tryd.prog 37 #[.slice a n cap] w fun e w' => e = .returned (.tuple #[.string ⟨(prodText ss).toArray⟩, .int .i64 (prodErr ss)]) ∧ Below w.heap.size w w' := by
  have HR := hide (fun W (e : W = w) => by subst e; exact refRightL_any a n cap ss W hn hmax hc hs)
  have HN := hide hn
  have HC := hide hc
  clear hn hc hs
  unfold prodText prodErr
  cases hb : allRight ss with
  | false =>
    rw [hb] at HR
    simp only [Bool.false_eq_true, if_false]
    clear hb
    go_enter Tryd.func37, Tryd.ntmps37
    go_wp2_with (go_at_call 46; refine (unhide HR _ rfl).mono ?_; rintro e w' ⟨rfl, hw⟩; subst w')
    go_ret2
    exact ⟨rfl, Below.refl _ _⟩
  | true =>
    have HA := hide hb
    rw [hb] at HR
    simp only [if_true]
    clear hb
    go_enter Tryd.func37, Tryd.ntmps37
    go_wp2_with (go_at_call 46; refine (unhide HR _ rfl).mono ?_; rintro e w' ⟨rfl, hw⟩; subst w')
    go_loop [4] (fun i => ∃ k : Nat, k ≤ n ∧ i = .int .i64 (k : Int) ∧ Hid (∀ j (hj : j < ss.length), j < k → val ss[j] ≠ 0)) (fun i => n - (intOf i).toNat)
    case atStart => exact ⟨0, Nat.zero_le _, rfl, fun i _ h => absurd h (Nat.not_lt_zero _)⟩
    case round =>
      obtain ⟨k, hk, rfl, HZ⟩ := hrel
      by_cases hkn : k < n
      · have hkl : k < ss.length := by have := unhide HN; omega
        obtain ⟨b, o, rfl, hx⟩ := unhide HC k hkl
        by_cases h0 : val ss[k] = 0
        · have HP := hide (prodK_none k hkl h0)
          have e0 : ss[k] = ⟨#[48]⟩ := ByteArray.ext (Array.ext' (zero_text (right_at (unhide HA) k hkl) h0))
          rw [e0] at hx
          clear e0 h0
          go_wp2
          go_ret2
          exact ⟨by rw [unhide HP, told_zero.1, told_zero.2]; rfl, Below.refl _ _⟩
        · have HZ' : Hid (∀ j (hj : j < ss.length), j < k + 1 → val ss[j] ≠ 0) := fun j hj h => by
            by_cases e : j < k
            · exact unhide HZ j hj e
            · have : j = k := by omega
              subst this; exact h0
          have hne : (ss[k].toList == [48]) = false := by
            cases hq : (ss[k].toList == [48]) with
            | false => rfl
            | true =>
              rw [Lib.toList_data] at hq
              exact absurd (zero_val (eq_of_beq hq)) h0
          clear h0
          generalize ss[k] = s at *
          go_wp2
          go_round
          case rel => exact ⟨k + 1, by omega, by go_num, HZ'⟩
          case measure => simp [intOf]; omega
      · have HZ' : Hid (NoZero ss) := fun j hj => unhide HZ j hj (by have := unhide HN; omega)
        clear HZ
        go_wp2
        go_loopw [5, 6] (fun t i wr => ∃ j : Nat, j ≤ n ∧ t = .string (nb (prodK ss j)) ∧ i = .int .i64 (j : Int) ∧ Hid (prodK ss j < 10 ^ 600) ∧ Below w.heap.size w wr) (fun _ i _ => n - (intOf i).toNat)
        case atStart => exact ⟨0, Nat.zero_le _, by rw [prodK_zero, nb_one], rfl, one600 600 (by decide), Below.refl _ _⟩
        case round =>
          obtain ⟨j, hj, rfl, rfl, HL, hbl⟩ := hrel
          by_cases hjn : j < n
          · have hjl : j < ss.length := by have := unhide HN; omega
            obtain ⟨b, o, rfl, hx⟩ := ((unhide HC).later hbl) j hjl
            have HP := hide (fun W => timesN (prodK ss j) ss[j] (prodK ss (j + 1)) W (lt620 _ 600 620 (by decide) (unhide HL)) (right_at (unhide HA) j hjl) (prodK_succ ss j hjl))
            have HG := hide (prodK_all_le (unhide HZ') (j + 1) (by omega))
            have hq := nb_600 (prodK ss (j + 1))
            generalize nb (prodK ss j) = t0 at *
            obtain ⟨t1, ht1⟩ : ∃ t1, t1 = nb (prodK ss (j + 1)) := ⟨_, rfl⟩
            rw [← ht1] at HP hq
            have ht2 : t1.size ≤ 1200 := by rw [ht1]; exact nb_size _ 1200 (by decide) (by
              rw [prodK_succ ss j hjl]; exact mul_lt_pow _ _ 600 1200 rfl (unhide HL) (right_val (right_at (unhide HA) j hjl)))
            have HT1 := hide ht1
            clear ht1
            generalize ss[j] = s at *
            by_cases h6 : t1.size ≤ 600
            · have HL' := hide (hq.1 h6)
              clear hq HG
              go_wp2_with (go_at_call 55; refine (unhide HP _).mono ?_; rintro e w2 ⟨rfl, hc2⟩; have hb2 := hbl.trans (hc2.mono hbl.size); clear hc2)
              go_roundw
              case rel => exact ⟨j + 1, by omega, by rw [unhide HT1], by go_num, HL', hb2⟩
              case measure => simp [intOf]; omega
            · have HL' : Hid (¬ prodK ss ss.length < 10 ^ 600) := fun hl => h6 (hq.2 (Nat.lt_of_le_of_lt (unhide HG) hl))
              clear hq HG
              go_wp2_with (go_at_call 55; refine (unhide HP _).mono ?_; rintro e w2 ⟨rfl, hc2⟩; have hb2 := hbl.trans (hc2.mono hbl.size); clear hc2)
              go_ret2
              exact ⟨by rw [toldText_neg _ (unhide HL'), toldErr_neg _ (unhide HL')]; rfl, hb2⟩
          · have hje : j = ss.length := by have := unhide HN; omega
            rw [hje] at HL
            have e1 : nb (prodK ss j) = ⟨(toldText (prodK ss ss.length)).toArray⟩ := by rw [hje]; exact (told_nb _ (unhide HL)).symm
            have E1 := hide e1
            clear e1 hje
            generalize nb (prodK ss j) = T at *
            go_wp2
            go_ret2
            exact ⟨by rw [toldErr_pos _ (unhide HL), ← unhide E1]; rfl, hbl⟩
end Go.Proofs.YthcihkgellginaaDoor

/- nat.Prod of a list of texts. -/
import Derived.Test.YtlodfcdckeiafaaDoorListNat
import Derived.Test.YtlodfcdckeiafaaDoorBigOf
namespace Go.Proofs.YtlodfcdckeiafaaDoor
open Go.RowKit

theorem mulB (x y : Value) (m n r k : Nat) (w : World) (hx : IsBig w x m) (hy : IsBig w y n) (hk : k ≤ 1000000) (hm : m < 1000000000 ^ k) (hn : n < 1000000000 ^ k) (hr : r = m * n) :
    Calls Tryd.prog 54 #[x, y] w fun e w' => ∃ a l c, e = .returned (.agg #[.slice a l c]) ∧ IsBig w' (.agg #[.slice a l c]) r ∧ Below w.heap.size w w' := by
  subst hr
  refine (mul_any x y m n k w hx hy hk hm hn).mono ?_
  rintro e w' ⟨v, rfl, hv, hb⟩
  obtain ⟨a, n, c, rfl⟩ := hv.shape
  exact ⟨a, n, c, rfl, hv, hb⟩

set_option maxRecDepth 100000 in
set_option maxHeartbeats 800000 in
theorem natProd_any (a : Option Addr) (n cap : Nat) (ss : List ByteArray) (w : World) (hn : n = ss.length) (hmax : n ≤ 9223372036854775807)
    (hc : InMem w a ss) (hs : ∀ i (hi : i < ss.length), ss[i].size ≤ maxLen) (htab : Tab w) :
    Calls Tryd.prog 36 #[.slice a n cap] w fun e w' => e = .returned (.tuple #[.string ⟨(prodText ss).toArray⟩, .int .i64 (prodErr ss)]) ∧ Below w.heap.size w w' := by
  have HR := hide (fun W (e : W = w) => by subst e; exact allRight_any a n cap ss W hn hmax hc hs)
  have HN := hide hn
  have HC := hide hc
  have HT := hide htab
  clear hn hc hs htab
  unfold prodText prodErr
  cases hb : allRight ss with
  | false =>
    rw [hb] at HR
    simp only [Bool.false_eq_true, if_false]
    clear hb
    go_enter Tryd.func36, Tryd.ntmps36
    go_wp2_with (go_at_call 67; refine (unhide HR _ rfl).mono ?_; rintro e w' ⟨rfl, hw⟩; subst w')
    go_ret2
    exact ⟨rfl, Below.refl _ _⟩
  | true =>
    have HA := hide hb
    rw [hb] at HR
    simp only [if_true]
    clear hb
    go_enter Tryd.func36, Tryd.ntmps36
    go_wp2_with (go_at_call 67; refine (unhide HR _ rfl).mono ?_; rintro e w' ⟨rfl, hw⟩; subst w')
    go_loop [14] (fun i => ∃ k : Nat, k ≤ n ∧ i = .int .i64 (k : Int) ∧ Hid (∀ j (hj : j < ss.length), j < k → val ss[j] ≠ 0)) (fun i => n - (intOf i).toNat)
    case atStart => exact ⟨0, Nat.zero_le _, rfl, fun i _ h => absurd h (Nat.not_lt_zero _)⟩
    case round =>
      obtain ⟨k, hk, rfl, HZ⟩ := hrel
      by_cases hkn : k < n
      · have hkl : k < ss.length := by have := unhide HN; omega
        obtain ⟨b, o, rfl, hx⟩ := unhide HC k hkl
        by_cases h0 : val ss[k] = 0
        · have HP := hide (prodK_none k hkl h0)
          have e0 : ss[k] = ⟨#[48]⟩ := ByteArray.ext (Array.ext' (zero_text (right_at (unhide HA) k hkl) h0))
          rw [e0] at hx
          clear e0 h0
          go_wp2
          go_ret2
          exact ⟨by rw [unhide HP, told_zero.1, told_zero.2]; rfl, Below.refl _ _⟩
        · have HZ' : Hid (∀ j (hj : j < ss.length), j < k + 1 → val ss[j] ≠ 0) := fun j hj h => by
            by_cases e : j < k
            · exact unhide HZ j hj e
            · have : j = k := by omega
              subst this; exact h0
          have hne : (ss[k].toList == [48]) = false := by
            cases hq : (ss[k].toList == [48]) with
            | false => rfl
            | true =>
              rw [Lib.toList_data] at hq
              exact absurd (zero_val (eq_of_beq hq)) h0
          clear h0
          generalize ss[k] = s at *
          go_wp2
          go_round
          case rel => exact ⟨k + 1, by omega, by go_num, HZ'⟩
          case measure => simp [intOf]; omega
      · have HZ' : Hid (NoZero ss) := fun j hj => unhide HZ j hj (by have := unhide HN; omega)
        clear HZ
        go_wp2_with (go_at_call 68; refine (bigOf_any 1 _ (by decide)).mono ?_; rintro e w2 ⟨ba, bn, bc, rfl, hbig, hb2⟩; have HBIG := hide hbig; clear hbig)
        go_loopw [24] (fun t wr => ∃ (j : Nat) (xa : Option Addr) (xn xc : Nat), j ≤ n ∧ t = .int .i64 (j : Int) ∧ wr.cell? ⟨w2.heap.size, 0, none⟩ = some (.slice xa xn xc) ∧ wr.frozen? ⟨w2.heap.size, 0, none⟩ = false ∧ Hid (IsBig wr (.agg #[.slice xa xn xc]) (prodK ss j)) ∧ Hid (prodK ss j < 10 ^ 600) ∧ Below w2.heap.size w2 wr) (fun t _ => n - (intOf t).toNat)
        case atStart => exact ⟨0, ba, bn, bc, Nat.zero_le _, rfl, World.cell?_alloc_at _ _ _ _ rfl, World.frozen?_alloc_at _ _ _ _ rfl, by rw [prodK_zero]; exact (unhide HBIG).later ((Below.refl _ _).alloc (Nat.le_refl _) _), one600 600 (by decide), (Below.refl _ _).alloc (Nat.le_refl _) _⟩
        case round =>
          obtain ⟨j, xa, xn, xc, hj, rfl, hcell, hfr, HB, HL, hbl⟩ := hrel
          by_cases hjn : j < n
          · have hjl : j < ss.length := by have := unhide HN; omega
            obtain ⟨b, o, rfl, hx⟩ := ((unhide HC).later (hb2.trans (hbl.mono hb2.size))) j hjl
            have H62 := hide (fun W => bigN ss[j] W (right_at (unhide HA) j hjl))
            have H54 := hide (fun W x y (hx : IsBig W x (prodK ss j)) (hy : IsBig W y (val ss[j])) => mulB x y (prodK ss j) (val ss[j]) (prodK ss (j + 1)) 67 W hx hy (by decide)
              (Nat.lt_of_lt_of_le (unhide HL) (pow_nine 600 67 (by decide)))
              (Nat.lt_of_lt_of_le (right_val (right_at (unhide HA) j hjl)) (pow_nine 600 67 (by decide))) (prodK_succ ss j hjl))
            have hbig : prodK ss (j + 1) < 1000000000 ^ 134 := Nat.lt_of_lt_of_le (by
              rw [prodK_succ ss j hjl]; exact mul_lt_pow _ _ 600 1200 rfl (unhide HL) (right_val (right_at (unhide HA) j hjl))) (pow_nine 1200 134 (by decide))
            have H69 := hide (fun W v (h : IsBig W v (prodK ss (j + 1))) => len_any v (prodK ss (j + 1)) 134 W h (by decide) hbig)
            have HG := hide (prodK_all_le (unhide HZ') (j + 1) (by omega))
            have hq := len600 (prodK ss (j + 1))
            obtain ⟨q, hqe⟩ : ∃ q, q = Lib.nDigits (prodK ss (j + 1)) := ⟨_, rfl⟩
            have hq2 : q ≤ 1300 := by
              rw [hqe, ← Lib.decDigits_length]
              exact Nat.le_trans ((Cub.dec_len_lt _ 1200 (by decide)).2 (by rw [prodK_succ ss j hjl]; exact mul_lt_pow _ _ 600 1200 rfl (unhide HL) (right_val (right_at (unhide HA) j hjl)))) (by decide)
            rw [← hqe] at H69 hq
            generalize ss[j] = s at *
            clear hqe hbig
            have hg : w2.heap.size < wr.heap.size := World.block_lt_of_cell? _ _ hcell
            by_cases h6 : q ≤ 600
            · have HL' := hide (hq.1 h6)
              clear hq HG
              go_upto_region 13 with fail
              go_region_with (first
                | (go_at_call 62; refine (unhide H62 _).mono ?_; rintro e w3 ⟨ya, yn, yc, rfl, hy, hb3⟩; have HY := hide hy; clear hy; have hb3' : Below wr.heap.size wr w3 := (Below.refl _ _).drew.trans hb3; obtain ⟨hcell3, hfr3⟩ := box_later hb3' hg hcell hfr; clear hb3)
                | (go_at_call 54; refine (unhide H54 _ _ _ ((unhide HB).later hb3') (unhide HY)).mono ?_; rintro e w4 ⟨za, zn, zc, rfl, hz, hb4⟩; have HZ := hide hz; clear hz; have hb4' := hb3'.trans (hb4.mono hb3'.size); obtain ⟨hcell4, hfr4⟩ := box_later hb4' hg hcell hfr; clear hb4; have hcell5 := World.cell?_setCell_same w4 ⟨w2.heap.size, 0, none⟩ (.slice za zn zc) hcell4))
              all_goals (go_wp2_with (go_at_call 69; refine (unhide H69 _ _ ((unhide HZ).box _ hcell4 (no_int _ _ _))).mono ?_; rintro e w5 ⟨rfl, hb5⟩))
              all_goals
                have hb6 := (hbl.trans (hb4'.mono hbl.size)).setCell (p := ⟨w2.heap.size, 0, none⟩) (Nat.le_refl _) (.slice za zn zc)
                have hb7 := hb6.trans (hb5.mono hb6.size)
                obtain ⟨hcell6, hfr6⟩ := box_later hb5 (World.block_lt_of_cell? _ _ hcell5) hcell5 (by rw [World.frozen?_setCell]; exact hfr4)
                have HZ6 := hide (((unhide HZ).box (.slice za zn zc) hcell4 (no_int _ _ _)).later hb5)
                go_roundw
                case rel => exact ⟨j + 1, za, zn, zc, by omega, by go_num, hcell6, hfr6, HZ6, HL', hb7⟩
                case measure => simp [intOf]; omega
            · have HL' : Hid (¬ prodK ss ss.length < 10 ^ 600) := fun hl => h6 (hq.2 (Nat.lt_of_le_of_lt (unhide HG) hl))
              clear hq HG
              go_upto_region 13 with fail
              go_region_with (first
                | (go_at_call 62; refine (unhide H62 _).mono ?_; rintro e w3 ⟨ya, yn, yc, rfl, hy, hb3⟩; have HY := hide hy; clear hy; have hb3' : Below wr.heap.size wr w3 := (Below.refl _ _).drew.trans hb3; obtain ⟨hcell3, hfr3⟩ := box_later hb3' hg hcell hfr; clear hb3)
                | (go_at_call 54; refine (unhide H54 _ _ _ ((unhide HB).later hb3') (unhide HY)).mono ?_; rintro e w4 ⟨za, zn, zc, rfl, hz, hb4⟩; have HZ := hide hz; clear hz; have hb4' := hb3'.trans (hb4.mono hb3'.size); obtain ⟨hcell4, hfr4⟩ := box_later hb4' hg hcell hfr; clear hb4; have hcell5 := World.cell?_setCell_same w4 ⟨w2.heap.size, 0, none⟩ (.slice za zn zc) hcell4))
              all_goals (go_wp2_with (go_at_call 69; refine (unhide H69 _ _ ((unhide HZ).box _ hcell4 (no_int _ _ _))).mono ?_; rintro e w5 ⟨rfl, hb5⟩))
              all_goals
                have hb6 := (hbl.trans (hb4'.mono hbl.size)).setCell (p := ⟨w2.heap.size, 0, none⟩) (Nat.le_refl _) (.slice za zn zc)
                have hb7 := hb2.trans ((hb6.trans (hb5.mono hb6.size)).mono hb2.size)
                go_ret2
                exact ⟨by rw [toldText_neg _ (unhide HL'), toldErr_neg _ (unhide HL')]; rfl, hb7⟩
          · have hje : j = ss.length := by have := unhide HN; omega
            rw [hje] at HB HL
            have H51 := hide (fun W v (h : IsBig W v (prodK ss ss.length)) (h2 : Tab W) => tell_any v (prodK ss ss.length) 67 W h (by decide) (Nat.lt_of_lt_of_le (unhide HL) (pow_nine 600 67 (by decide))) h2)
            clear hje
            have hb3 := hb2.trans (hbl.mono hb2.size)
            go_wp2_with (go_at_call 51; refine (unhide H51 _ _ (unhide HB) ((unhide HT).later hb3)).mono ?_; rintro e w4 ⟨rfl, hb4⟩)
            go_ret2
            exact ⟨rfl, hb3.trans (hb4.mono hb3.size)⟩
end Go.Proofs.YtlodfcdckeiafaaDoor

/- The document's Divide at texts of up to 5000 digits. -/
import Derived.Test.YtoinadnpdbaamaaGreatDoorRefGcd
import Derived.Test.YtoinadnpdbaamaaGreatDoorRefTimes
import Derived.Test.YtoinadnpdbaamaaGreatDoorRefPlus
import Derived.Test.YtoinadnpdbaamaaGreatDoorRefMinus
import Derived.Test.YtoinadnpdbaamaaGreatDoorMakes
import Derived.Test.YtoinadnpdbaamaaGreatDoorPlain
import Derived.Test.YtoinadnpdbaamaaGreatDoorTx
import Derived.Test.YtoinadnpdbaamaaGreatDoorTwo
import Derived.Test.YtoinadnpdbaamaaGreatDoorQuo
namespace Go.Proofs.YtoinadnpdbaamaaGreatDoor
open Go.RowKit
set_option maxRecDepth 100000 in
set_option maxHeartbeats 2000000 in
theorem refDivideG (s t : ByteArray) (w : World) (hs1 : Cub.isNat s.data.toList) (ht1 : Cub.isNat t.data.toList) (hsz : s.size ≤ 5000) (htz : t.size ≤ 5000) (h0 : 0 < val t) :
    Calls Tryz.prog 119 #[.string s, .string t] w fun e w' => e = .returned (.tuple #[.string ⟨(Lib.decDigits (val s / val t)).toArray⟩, .string ⟨(Lib.decDigits (val s % val t)).toArray⟩]) ∧ Below w.heap.size w w' := by
  have hs2 : s.data.toList.length ≤ 5000 := by rw [list_len]; exact hsz
  have ht2 : t.data.toList.length ≤ 5000 := by rw [list_len]; exact htz
  have HLS : Hid (∀ W : World, Calls Tryz.prog 157 #[.string s] W fun e w' => ∃ v l, e = .returned v ∧ OwnI w' W.heap.size v l ∧ Cub.normal 10000 l ∧ Cub.lval 10000 l = val s ∧ l.length ≤ 5000 ∧ Below W.heap.size W w') := fun W => by
    refine (refLimbs_any s W (by omega) hs1.1).mono ?_
    rintro e w' ⟨v, l, he, ho, hn, hv, hb⟩
    exact ⟨v, l, he, ho, hn, hv, by have := Cub.len_le4 hs1.1 hn hv; omega, hb⟩
  have HLT : Hid (∀ W : World, Calls Tryz.prog 157 #[.string t] W fun e w' => ∃ v l, e = .returned v ∧ OwnI w' W.heap.size v l ∧ Cub.normal 10000 l ∧ Cub.lval 10000 l = val t ∧ l.length ≤ 5000 ∧ Below W.heap.size W w') := fun W => by
    refine (refLimbs_any t W (by omega) ht1.1).mono ?_
    rintro e w' ⟨v, l, he, ho, hn, hv, hb⟩
    exact ⟨v, l, he, ho, hn, hv, by have := Cub.len_le4 ht1.1 hn hv; omega, hb⟩
  have HSS : Hid (s = ⟨(Lib.decDigits (val s)).toArray⟩) := by
    show _ = _
    have : Lib.decDigits (val s) = s.data.toList := Cub.dec_dval _ _ rfl hs1
    rw [this]
  clear hs1 hs2 ht1 ht2 hsz htz
  go_enter Tryz.func119, Tryz.ntmps119
  go_upto_region 3 with (first
    | (go_at_call_of 157 s; go_must (refine (unhide HLS w).mono ?_; rintro e w1 ⟨vx, X, rfl, ho1, hnX, hvX, hlX, hb1⟩; have HX := hide (And.intro ho1 (And.intro hnX hvX)); clear ho1 hnX hvX; have hs1 := hb1.size))
    | (go_at_call_of 157 t; go_must (refine (unhide HLT w1).mono ?_; rintro e w2 ⟨vy, Y, rfl, ho2, hnY, hvY, hlY, hb2⟩; have HY := hide (And.intro ho2 (And.intro hnY hvY)); clear ho2 hnY hvY)))
  have hs2 : w.heap.size ≤ w2.heap.size := Nat.le_trans hs1 hb2.size
  have HB2 := hide (hb1.trans (hb2.mono hs1))
  have H85 := hide (refLess_any vx vy X Y w2 (RowI.of_own ((unhide HX).1.later hb2)) (RowI.of_own (unhide HY).1) (unhide HX).2.1 (unhide HY).2.1)
  rw [(unhide HX).2.2, (unhide HY).2.2] at H85
  by_cases hlt : val s < val t
  · rw [decide_eq_true hlt] at H85
    have HQ : Hid (Lib.decDigits (val s / val t) = [48] ∧ val s % val t = val s) := ⟨by rw [Nat.div_eq_of_lt hlt]; exact dec_zero, Nat.mod_eq_of_lt hlt⟩
    clear hlt h0 HLS HLT hb1 hb2
    go_wp2_with (go_at_call 158; go_must (refine (unhide H85).mono ?_; rintro e w3 ⟨rfl, hb3⟩))
    go_ret2
    exact ⟨by rw [(unhide HQ).1, (unhide HQ).2, ← unhide HSS]; rfl, (unhide HB2).trans (hb3.mono hs2)⟩
  · rw [decide_eq_false hlt] at H85
    have hYne : Y ≠ [] := fun e => by have := (unhide HY).2.2; rw [e] at this; have h2 : Cub.lval 10000 [] = 0 := rfl; omega
    have hyx : Y.length ≤ X.length := Cub.normal_len_le (by decide) (unhide HX).2.1.1 (unhide HY).2.1 (by rw [(unhide HX).2.2, (unhide HY).2.2]; omega)
    have hYl : 0 < Y.length := List.length_pos_iff.2 hYne
    have hXne : X ≠ [] := fun e => by rw [e] at hyx; simp at hyx; exact hYne hyx
    obtain ⟨g, cX, rfl, hg1, hg2, hcX, hmX⟩ := own_block (unhide HX).1 hXne
    obtain ⟨gy, cY, rfl, hy1, hy2, hcY, hmY⟩ := own_block (unhide HY).1 hYne
    have HS0 : Hid (Cub.lval 10000 (X.drop (X.length - Y.length + 1)) < Cub.lval 10000 Y) := by
      show _ < _
      have h1 := Cub.lval_lt (Cub.limbs_drop4 (unhide HX).2.1.1 (X.length - Y.length + 1))
      rw [List.length_drop] at h1
      have h2 := Cub.normal_ge (unhide HY).2.1 hYne
      have h3 : X.length - (X.length - Y.length + 1) = Y.length - 1 := by omega
      rw [h3] at h1
      omega
    have HX2 := hide ((unhide HX).1.later hb2)
    have HDV : Hid (Cub.DivInv (val s) (val t) X (List.replicate X.length 0) X.length (X.length - Y.length + 1)) := by
      have := Cub.DivInv.start (A := val s) (V := val t) (unhide HX).2.1.1 (unhide HX).2.2 (up := X.length - Y.length + 1) (by rw [← (unhide HY).2.2]; exact unhide HS0)
      exact this
    have HYY := hide (unhide HY)
    obtain ⟨nX, hnX⟩ : ∃ nX, nX = X.length := ⟨_, rfl⟩
    obtain ⟨nY, hnY⟩ : ∃ nY, nY = Y.length := ⟨_, rfl⟩
    rw [← hnX] at HX2 HDV H85 hcX hyx hlX ⊢
    rw [← hnY] at HYY HDV H85 hcY hyx hYl hlY ⊢
    have HNX := hide hnX
    have HNY := hide hnY
    have HLT2 := hide hlt
    have hb2s := hb2.size
    clear hlt HSS HLS HLT hb1 hb2 HX HY HS0 hYne hXne hnX hnY
    obtain ⟨i0, hi, hz0, hz1, hz2⟩ := info_parts Tryz.info3
    go_wp2_with (first
      | (go_at_call 158; go_must (refine (unhide H85).mono ?_; rintro e w3 ⟨rfl, hb3⟩; have HX3 := hide ((unhide HX2).later hb3); have HY3 := hide ((unhide HYY).1.later hb3); have HB3 := hide ((unhide HB2).trans (hb3.mono hs2)); have hs3 := hb3.size; clear hb3))
      | (at_make; go_must (refine wpList_make_full _ rfl _ _ 156 rfl w3.heap.size 3 i0 (.int .i64 0) 1 Tryz.underlying156 hi hz0 hz1 .i64 .i64 _ _ nX rfl rfl (by omega) (by omega) (by rw [hz2]; omega) (by unfold maxLen; omega) (Nat.le_refl _) ?_; intro w4 hown4 hgrow4; rw [i64s_made] at hown4; have hb4 : Below w3.heap.size w3 w4 := (Below.refl _ _).grown hgrow4 (Nat.le_refl _) (fun k hk => by cases hk); have HQ4 : Hid (OwnI w4 w3.heap.size (.slice (some ⟨w3.heap.size, 0, none⟩) nX nX) (List.replicate nX 0)) := (by show World.ownsRow _ _ _ _ _ _ _; rw [List.length_replicate]; exact hown4); have HX4 := hide ((unhide HX3).later hb4); have HY4 := hide ((unhide HY3).later hb4); have HB4 := hide ((unhide HB3).trans (hb4.mono (Nat.le_trans hs2 hs3))); clear hown4 hgrow4 hb4)))
    have hgq : g < w3.heap.size := by omega
    have hgyq : gy < w3.heap.size := by omega
    have hwq : w.heap.size ≤ w3.heap.size := by omega
    have hygg : g < w1.heap.size := hg2
    generalize hgw : w3.heap.size = gq at *
    clear hgw H85 HX2 HX3 HY3 HB3 HB2
    go_loopw [9] (fun v9 wr => ∃ (u : Nat) (X Q : List Nat), v9 = .int .i64 ((u : Int) - 1) ∧ u ≤ nX - nY + 1 ∧ Hid (Cub.DivInv (val s) (val t) X Q nX u) ∧ Hid (OwnI wr w.heap.size (.slice (some ⟨g, 0, none⟩) nX cX) X) ∧ Hid (OwnI wr w1.heap.size (.slice (some ⟨gy, 0, none⟩) nY cY) Y) ∧ Hid (OwnI wr gq (.slice (some ⟨gq, 0, none⟩) nX nX) Q) ∧ Hid (Below w.heap.size w wr)) (fun v9 _ => (intOf v9 + 1).toNat)
    case atStart => exact ⟨nX - nY + 1, X, _, by go_num, Nat.le_refl _, HDV, HX4, HY4, HQ4, HB4⟩
    case round =>
      obtain ⟨u, X', Q, rfl, hu, HI, HOX, HOY, HOQ, HB⟩ := hrel
      clear HDV HX4 HY4 HQ4 HB4 HNX X
      have HVY := hide (unhide HYY).2
      clear HYY
      by_cases hu0 : u = 0
      · subst hu0
        obtain ⟨d1, d2⟩ := (unhide HI).done
        obtain ⟨q1, q2, _⟩ := Cub.lval_trim 10000 _ Q rfl
        obtain ⟨x1, x2, _⟩ := Cub.lval_trim 10000 _ X' rfl
        have HTQ : Hid (Cub.normal 10000 (Cub.trimN Q) ∧ Cub.lval 10000 (Cub.trimN Q) = val s / val t ∧ (Cub.trimN Q).length ≤ 1000000) := ⟨q2 (unhide HI).limQ, q1.trans d1, by
          have h := Cub.len_leB (B := 10000) (by decide) (k := nX) (q2 (unhide HI).limQ) (by rw [q1]; have := Cub.lval_lt (unhide HI).limQ; rw [(unhide HI).lenQ] at this; exact this)
          omega⟩
        have HTX : Hid (Cub.normal 10000 (Cub.trimN X') ∧ Cub.lval 10000 (Cub.trimN X') = val s % val t ∧ (Cub.trimN X').length ≤ 1000000) := ⟨x2 (unhide HI).limX, x1.trans d2, by
          have h := Cub.len_leB (B := 10000) (by decide) (k := nX) (x2 (unhide HI).limX) (by rw [x1]; have := Cub.lval_lt (unhide HI).limX; rw [(unhide HI).lenX] at this; exact this)
          omega⟩
        have H77q := hide (refTrim_any _ gq Q wr (unhide HOQ))
        clear d1 d2 q1 q2 x1 x2 HI
        have hbs := (unhide HB).size
        go_wp2_with fail
        refine (unhide H77q).mono ?_
        rintro e w5 ⟨vq, rfl, hoq, hw5⟩
        rw [hw5]
        have H76q := hide (refText_any vq gq (Cub.trimN Q) wr hoq (unhide HTQ).1 (unhide HTQ).2.2)
        rw [(unhide HTQ).2.1] at H76q
        clear hoq hw5 H77q
        go_wp2_with fail
        refine (unhide H76q).mono ?_
        rintro e w6 ⟨rfl, hb6⟩
        have H77x := hide (refTrim_any _ w.heap.size X' w6 ((unhide HOX).later hb6))
        clear H76q
        go_wp2_with fail
        refine (unhide H77x).mono ?_
        rintro e w7 ⟨vt, rfl, hot, hw7⟩
        rw [hw7]
        have H76x := hide (refText_any vt w.heap.size (Cub.trimN X') w6 hot (unhide HTX).1 (unhide HTX).2.2)
        rw [(unhide HTX).2.1] at H76x
        clear hot hw7 H77x
        go_wp2_with fail
        refine (unhide H76x).mono ?_
        rintro e w8 ⟨rfl, hb8⟩
        have hb9 := (unhide HB).trans ((hb6.trans (hb8.mono hb6.size)).mono hbs)
        go_wp2_with fail
        go_ret2
        exact ⟨rfl, hb9⟩
      · obtain ⟨up, rfl⟩ : ∃ up, u = up + 1 := ⟨u - 1, by omega⟩
        have hupn : up < nX := by omega
        have hnYY := unhide HNY
        have hlX' := (unhide HI).lenX
        obtain ⟨q, hq⟩ : ∃ q, q = Cub.lval 10000 (X'.drop up) / Cub.lval 10000 Y := ⟨_, rfl⟩
        have hq9 : q ≤ 9999 := by rw [hq, (unhide HVY).2]; exact (unhide HI).quo hupn
        have H86 := hide (refFits_any (.slice (some ⟨g, 0, none⟩) nX cX) (.slice (some ⟨gy, 0, none⟩) nY cY) w.heap.size w1.heap.size X' Y up q wr (unhide HOX) (unhide HOY) (unhide HI).limX (unhide HVY).1 (by omega) (by omega) (by omega) (by rw [← hq]; exact hq9) (by rw [(unhide HVY).2]; exact h0) hq)
        have hle : q * Cub.lval 10000 Y ≤ Cub.lval 10000 (X'.drop up) := by rw [hq]; exact Nat.div_mul_le_self _ _
        have HST : Hid (∀ D : List Nat, D.length = X'.length → Cub.limbs 10000 D → D.take up = X'.take up → Cub.lval 10000 (D.drop up) + q * Cub.lval 10000 Y = Cub.lval 10000 (X'.drop up) → Cub.DivInv (val s) (val t) D (Q.set up q) nX up) := fun D h1 h2 h3 h4 => (unhide HI).step hupn (by rw [hq, (unhide HVY).2]) h1 h2 h3 (by rw [← (unhide HVY).2]; exact h4)
        have HLQ : Hid (Q.length = nX) := (unhide HI).lenQ
        have H87 : Hid (∀ W : World, OwnI W w.heap.size (.slice (some ⟨g, 0, none⟩) nX cX) X' → OwnI W w1.heap.size (.slice (some ⟨gy, 0, none⟩) nY cY) Y → Calls Tryz.prog 160 #[.slice (some ⟨g, 0, none⟩) nX cX, .slice (some ⟨gy, 0, none⟩) nY cY, .int .i64 (up : Int), .int .i64 (q : Int)] W fun e w' => e = .returned (.tuple #[]) ∧ (∃ D, OwnI w' w.heap.size (.slice (some ⟨g, 0, none⟩) nX cX) D ∧ D.length = X'.length ∧ Cub.limbs 10000 D ∧ D.take up = X'.take up ∧ Cub.lval 10000 (D.drop up) + q * Cub.lval 10000 Y = Cub.lval 10000 (X'.drop up)) ∧ W.grownBy w' (some g)) := fun W hx hy =>
          refTake_any _ w.heap.size w1.heap.size g nX cX X' Y up q W hlX'.symm hx hy hygg (unhide HI).limX (unhide HVY).1.1 (by omega) (by omega) hq9 hle
        have HZ : Hid (q = 0 → Cub.DivInv (val s) (val t) X' (Q.set up q) nX up) := fun h => unhide HST X' rfl (unhide HI).limX rfl (by rw [h]; simp)
        have ej : ((up + 1 : Nat) : Int) - 1 = (up : Int) := by omega
        rw [ej]
        have hbs := (unhide HB).size
        clear hq hle hnYY hlX' HI HNY HVY ej hu0
        have hupI : (up : Int) < (nX : Int) := by omega
        go_upto_region 10 with (first
          | (go_at_call 159; go_must (refine (unhide H86).mono ?_; rintro e w5 ⟨rfl, hb5⟩; have HOX5 := hide ((unhide HOX).later hb5); have HOY5 := hide ((unhide HOY).later hb5); have HOQ5 := hide ((unhide HOQ).later hb5); have HB5 := hide ((unhide HB).trans (hb5.mono hbs)); clear hb5; have hupQ : up < Q.length := (by have := unhide HLQ; omega); have HROW : Hid (w5.ownsRow gq 3 1 (.slice (some ⟨gq, 0, none⟩) nX nX) nX (i64s Q)) := (by have h := unhide HOQ5; unfold OwnI at h; rw [unhide HLQ] at h; exact h); have cq : w5.cell? ⟨gq, up, none⟩ = some (.int .i64 (Q[up] : Int)) := (by rw [(unhide HROW).cellAt up (by omega), i64s_get Q up hupQ]); have fq : w5.frozen? ⟨gq, up, none⟩ = false := (unhide HROW).frozenAt up)))
        obtain ⟨W, hW⟩ : ∃ W, W = w5.setCell ⟨gq, up, none⟩ (.int .i64 (q : Int)) := ⟨_, rfl⟩
        have HOX6 : Hid (OwnI W w.heap.size (.slice (some ⟨g, 0, none⟩) nX cX) X') := by rw [hW]; exact own_other (unhide HOX5) (by omega)
        have HOY6 : Hid (OwnI W w1.heap.size (.slice (some ⟨gy, 0, none⟩) nY cY) Y) := by rw [hW]; exact own_other (unhide HOY5) (by omega)
        have HOQ6 : Hid (OwnI W gq (.slice (some ⟨gq, 0, none⟩) nX nX) (Q.set up q)) := by rw [hW]; exact own_set (unhide HOQ5) (unhide HLQ).symm q _ rfl
        have HB6 : Hid (Below w.heap.size w W) := by rw [hW]; exact (unhide HB5).setCell (by exact hwq) _
        have cW : W.cell? ⟨gq, up, none⟩ = some (.int .i64 (q : Int)) := by rw [hW]; exact World.cell?_setCell_same _ _ _ cq
        rw [← hW]
        clear hW cq fq HROW HOX5 HOY5 HOQ5 HB5 HOX HOY HOQ HB H86 hupQ
        by_cases hq0 : 0 < q
        · have H87w := hide (unhide H87 W (unhide HOX6) (unhide HOY6))
          have hqI : (0 : Int) < (q : Int) := by omega
          clear H87 HZ
          go_wp2_with (go_at_call 160; go_must (refine (unhide H87w).mono ?_; rintro e w7 ⟨rfl, hD, hg7⟩; obtain ⟨D, hoD, hl, hlim, hlow, hsum⟩ := hD; have HI7 := hide (unhide HST D hl hlim hlow hsum); have HOX7 := hide hoD; have HOY7 := hide (own_grown (unhide HOY6) hg7 hygg); have HOQ7 := hide (own_grown (unhide HOQ6) hg7 hgq); have HB7 := hide ((unhide HB6).grown hg7 (unhide HB6).size (fun k hk => by simp only [Option.some.injEq] at hk; omega)); clear hoD hl hlim hlow hsum hg7))
          go_roundw
          case rel => exact ⟨up, D, Q.set up q, by go_num, by omega, HI7, HOX7, HOY7, HOQ7, HB7⟩
          case measure => simp [intOf]
        · have HI7 := hide (unhide HZ (by omega))
          have hqI : ¬ (0 : Int) < (q : Int) := by omega
          clear H87 HZ HST
          go_wp2_with fail
          go_roundw
          case rel => exact ⟨up, X', Q.set up q, by go_num, by omega, HI7, HOX6, HOY6, HOQ6, HB6⟩
          case measure => simp [intOf]

end Go.Proofs.YtoinadnpdbaamaaGreatDoor

namespace Go.Proofs.YtoinadnpdbaamaaGreatDoor
open Go.RowKit

/-- A number's text. -/
def tx (n : Nat) : ByteArray := ⟨(Lib.decDigits n).toArray⟩
theorem tx_list (n : Nat) : (tx n).data.toList = Lib.decDigits n := rfl
theorem tx_val (n : Nat) : val (tx n) = n := Cub.dval_dec n
theorem tx_nat (n : Nat) : Cub.isNat (tx n).data.toList := Cub.isNat_dec n
theorem tx_tb (n : Nat) (h : n < 10 ^ 600) : tb n = tx n := (mk_tb n h).symm
theorem tx_size {d n : Nat} (hd : 1 ≤ d) (h : n < 10 ^ d) : (tx n).size ≤ d := by
  have := (Cub.dec_len_lt n d hd).2 h
  rw [← tx_list, list_len] at this
  exact this
theorem tx_zero : ((tx 0).toList == [48]) = true := by
  rw [Lib.toList_data, tx_list, dec_zero]; rfl
theorem tx_pos (n : Nat) (h0 : 0 < n) : ((tx n).toList == [48]) = false := by
  rw [Lib.toList_data, tx_list, beq_eq_false_iff_ne]
  intro e
  rw [← dec_zero] at e
  have := Cub.dec_inj e
  omega
theorem refDivideM (d m n : Nat) (w : World) (hd1 : 1 ≤ d) (hd : d ≤ 5000) (hm : m < 10 ^ d) (hn : n < 10 ^ d) (h0 : 0 < n) :
    Calls Tryz.prog 119 #[.string (tx m), .string (tx n)] w fun e w' => e = .returned (.tuple #[.string (tx (m / n)), .string (tx (m % n))]) ∧ Below w.heap.size w w' := by
  have h := refDivideG (tx m) (tx n) w (tx_nat m) (tx_nat n) (Nat.le_trans (tx_size hd1 hm) hd) (Nat.le_trans (tx_size hd1 hn) hd) (by rw [tx_val]; exact h0)
  rw [tx_val, tx_val] at h
  exact h
theorem refPlusM (d m n : Nat) (w : World) (hd1 : 1 ≤ d) (hd : d ≤ 5000) (hm : m < 10 ^ d) (hn : n < 10 ^ d) :
    Calls Tryz.prog 120 #[.string (tx m), .string (tx n)] w fun e w' => e = .returned (.string (tx (m + n))) ∧ Below w.heap.size w w' := by
  have s1 := tx_size hd1 hm
  have s2 := tx_size hd1 hn
  have h := refPlus_any (tx m) (tx n) w (by omega) (by omega) (tx_nat m).1 (tx_nat n).1
  rw [show Cub.dval (tx m).data.toList = m from tx_val m, show Cub.dval (tx n).data.toList = n from tx_val n] at h
  exact h
theorem refMinusM (d m n : Nat) (w : World) (hd1 : 1 ≤ d) (hd : d ≤ 5000) (hm : m < 10 ^ d) (hn : n < 10 ^ d) (hle : n ≤ m) :
    Calls Tryz.prog 121 #[.string (tx m), .string (tx n)] w fun e w' => e = .returned (.string (tx (m - n))) ∧ Below w.heap.size w w' := by
  have s1 := tx_size hd1 hm
  have s2 := tx_size hd1 hn
  have e1 : Cub.dval (tx m).data.toList = m := tx_val m
  have e2 : Cub.dval (tx n).data.toList = n := tx_val n
  have h := refMinus_any (tx m) (tx n) w (by omega) (by omega) (tx_nat m).1 (tx_nat n).1 (by rw [e1, e2]; exact hle)
  rw [e1, e2] at h
  exact h

set_option maxRecDepth 100000 in
set_option maxHeartbeats 400000 in
theorem refTimesS_any (s t : ByteArray) (w : World) (hs : s.size ≤ 100000) (ht : t.size ≤ 100000) (hds : Cub.digs s.data.toList) (hdt : Cub.digs t.data.toList) :
    Calls Tryz.prog 123 #[.string s, .string t] w fun e w' => e = .returned (.string ⟨(Lib.decDigits (Cub.dval s.data.toList * Cub.dval t.data.toList)).toArray⟩) ∧ Below w.heap.size w w' := by
  have HDS := hide hds
  have HDT := hide hdt
  clear hds hdt
  go_enter Tryz.func123, Tryz.ntmps123
  go_wp2_with (first
    | (go_at_call_of 157 s; refine (refLimbs_any s _ (by omega) (unhide HDS)).mono ?_; rintro e w1 ⟨vx, lx, rfl, hox, hnx, hvx, hb1⟩; have HX := hide (And.intro hnx (And.intro hvx hox)); have hbx : lx.length ≤ 100000 := (by have := Cub.len_le4 (unhide HDS) hnx hvx; rw [list_len] at this; omega); clear hnx hvx hox)
    | (go_at_call_of 157 t; refine (refLimbs_any t _ (by omega) (unhide HDT)).mono ?_; rintro e w2 ⟨vy, ly, rfl, hoy, hny, hvy, hb2⟩; have HY := hide (And.intro hny (And.intro hvy hoy)); have hby : ly.length ≤ 100000 := (by have := Cub.len_le4 (unhide HDT) hny hvy; rw [list_len] at this; omega); clear hny hvy hoy)
    | (go_at_call 163; refine (refTimes_any vx vy _ _ lx ly _ ((unhide HX).2.2.later hb2) (unhide HY).2.2 (unhide HX).1.1 (unhide HY).1.1 (by omega) (by omega)).mono ?_; rintro e w3 ⟨vz, lz, rfl, hoz, hnz, hvz, hlz, hb3⟩; have HZ := hide (And.intro hnz (And.intro hvz hoz)); clear hnz hvz hoz)
    | (go_at_call 161; refine (refText_any _ _ _ _ (unhide HZ).2.2 (unhide HZ).1 (by omega)).mono ?_; rintro e w4 ⟨rfl, hb4⟩))
  go_ret
  have hb12 := hb1.trans (hb2.mono hb1.size)
  have hb13 := hb12.trans (hb3.mono hb12.size)
  exact ⟨by rw [← (unhide HX).2.1, ← (unhide HY).2.1, ← (unhide HZ).2.1]; rfl, hb13.trans (hb4.mono hb13.size)⟩
theorem refTimesM (d m n : Nat) (w : World) (hd1 : 1 ≤ d) (hd : d ≤ 5000) (hm : m < 10 ^ d) (hn : n < 10 ^ d) :
    Calls Tryz.prog 123 #[.string (tx m), .string (tx n)] w fun e w' => e = .returned (.string (tx (m * n))) ∧ Below w.heap.size w w' := by
  have s1 := tx_size hd1 hm
  have s2 := tx_size hd1 hn
  have h := refTimesS_any (tx m) (tx n) w (by omega) (by omega) (tx_nat m).1 (tx_nat n).1
  rw [show Cub.dval (tx m).data.toList = m from tx_val m, show Cub.dval (tx n).data.toList = n from tx_val n] at h
  exact h
/-- How far Euclid's steps have come. -/
def ComInvM (d M N m n : Nat) (a b : ByteArray) : Prop := a = tx m ∧ b = tx n ∧ m < 10 ^ d ∧ n < 10 ^ d ∧ Nat.gcd m n = Nat.gcd M N

set_option maxRecDepth 100000 in
set_option maxHeartbeats 400000 in
theorem refCommonM (d M N : Nat) (w : World) (hd1 : 1 ≤ d) (hd : d ≤ 5000) (hM : M < 10 ^ d) (hN : N < 10 ^ d) :
    Calls Tryz.prog 77 #[.string (tx M), .string (tx N)] w fun e w' => e = .returned (.string (tx (Nat.gcd M N))) ∧ Below w.heap.size w w' := by
  have HI : Hid (ComInvM d M N M N (tx M) (tx N)) := ⟨rfl, rfl, hM, hN, rfl⟩
  have HD : Hid (∀ m n (a b : ByteArray), ComInvM d M N m n a b → 0 < n → ∃ c r : ByteArray, ComInvM d M N n (m % n) b r ∧ ∀ W, Calls Tryz.prog 119 #[.string a, .string b] W fun e w' => e = .returned (.tuple #[.string c, .string r]) ∧ Below W.heap.size W w') := fun m n a b h h0 => by
    obtain ⟨rfl, rfl, hm, hn, hg⟩ := h
    refine ⟨tx (m / n), tx (m % n), ⟨rfl, rfl, hn, mod_lt' m n d hm, ?_⟩, fun W => refDivideM d m n W hd1 hd hm hn h0⟩
    rw [← hg, Nat.gcd_comm m n, Nat.gcd_rec n m, Nat.gcd_comm]
  have HZ : Hid (∀ m n (a b : ByteArray), ComInvM d M N m n a b → 0 < n → (b.toList == [48]) = false) := fun m n a b h h0 => by
    obtain ⟨rfl, rfl, hm, hn, hg⟩ := h
    exact tx_pos n h0
  have HE : Hid (∀ m (a b : ByteArray), ComInvM d M N m 0 a b → (b.toList == [48]) = true ∧ a = tx (Nat.gcd M N)) := fun m a b h => by
    obtain ⟨rfl, rfl, hm, hn, hg⟩ := h
    rw [Nat.gcd_zero_right] at hg
    exact ⟨tx_zero, by rw [← hg]⟩
  generalize tx M = a0 at *
  generalize tx N = b0 at *
  clear hM hN hd1 hd
  go_enter Tryz.func77, Tryz.ntmps77
  go_wp2
  go_loopg [0, 1] N (fun z v0 v1 wr => ∃ (m n : Nat) (a b : ByteArray), v0 = .string a ∧ v1 = .string b ∧ Hid (z = n) ∧ Hid (ComInvM d M N m n a b) ∧ Hid (Below w.heap.size w wr))
  case atStart => exact ⟨M, N, a0, b0, rfl, rfl, rfl, HI, Below.refl _ _⟩
  case round =>
    obtain ⟨m, n, a, b, rfl, rfl, HK, HC, HW⟩ := hrel
    clear HI
    rcases Nat.eq_zero_or_pos n with h0 | h0
    · subst h0
      obtain ⟨e1, e2⟩ := unhide HE m a b (unhide HC)
      have HV := hide e2
      clear e2 HE HD HZ HC
      go_wp2_with fail
      go_ret
      exact ⟨by rw [← unhide HV]; rfl, unhide HW⟩
    · have e1 := unhide HZ m n a b (unhide HC) h0
      obtain ⟨c, r, hc, hd⟩ := unhide HD m n a b (unhide HC) h0
      have HC2 := hide hc
      have HD2 := hide hd
      have HLT : Hid (m % n < n) := Nat.mod_lt _ h0
      clear hc hd HE HD HZ HC h0
      go_wp2_with (go_at_call 119; go_must (refine (unhide HD2 wr).mono ?_; rintro e w2 ⟨rfl, hb2⟩; have HW2 := hide ((unhide HW).trans (hb2.mono (unhide HW).size)); clear hb2))
      go_roundg (m % n)
      case measure => have := unhide HK; have := unhide HLT; omega
      case rel => exact ⟨n, m % n, b, r, rfl, rfl, rfl, HC2, HW2⟩

set_option maxRecDepth 100000 in
set_option maxHeartbeats 2000000 in
theorem refLowestM (d : Nat) (b : Bool) (m n : Nat) (w : World) (hd1 : 1 ≤ d) (hd : d ≤ 5000) (hm : m < 10 ^ d) (hn : n < 10 ^ d) (hn0 : n ≠ 0) :
    Calls Tryz.prog 75 #[.bool b, .string (tx m), .string (tx n)] w fun r w' => r = .returned (.agg #[.bool (b && decide (m / Nat.gcd m n ≠ 0)), .string (tx (m / Nat.gcd m n)), .string (tx (n / Nat.gcd m n))]) ∧ Below w.heap.size w w' := by
  obtain ⟨V, hV⟩ : ∃ V, V = w.alloc (.cells #[.bool false, .string ⟨#[]⟩, .string ⟨#[]⟩] 61) := ⟨_, rfl⟩
  have hbV : Below w.heap.size w V := by rw [hV]; exact (Below.refl _ _).alloc (Nat.le_refl _) _
  have HR : Hid (FBox V w.heap.size (.bool false) (.string ⟨#[]⟩) (.string ⟨#[]⟩) ∧ Below w.heap.size w V) := ⟨by rw [hV]; exact ⟨by simp [go_sem], by simp [go_sem], by simp [go_sem], by simp [go_sem], by simp [go_sem], by simp [go_sem]⟩, hbV⟩
  have HV := hide hV
  by_cases h0 : m = 0
  · subst h0
    have z : ((tx 0).toList == [48]) = true := by exact tx_zero
    have e0 : (⟨#[48]⟩ : ByteArray) = tx 0 := by rw [← tx_tb 0 (pos10 600)]; exact (lit_tb ⟨#[48]⟩ 0 (by decide) (by decide)).1
    have e1 : (⟨#[49]⟩ : ByteArray) = tx 1 := by rw [← tx_tb 1 (lit_tb ⟨#[49]⟩ 1 (by decide) (by decide)).2]; exact (lit_tb ⟨#[49]⟩ 1 (by decide) (by decide)).1
    have HE : Hid ((Value.agg #[.bool (b && decide (0 / Nat.gcd 0 n ≠ 0)), .string (tx (0 / Nat.gcd 0 n)), .string (tx (n / Nat.gcd 0 n))]) = .agg #[.bool false, .string ⟨#[48]⟩, .string ⟨#[49]⟩]) := by
      show _ = _
      rw [Nat.gcd_zero_left, Nat.zero_div, Nat.div_self (by omega), ← e0, ← e1]; simp
    rw [unhide HE]
    clear e0 e1 hbV hm hn hn0 HE hd1 hd
    generalize tx 0 = s0 at *
    generalize tx n = sn at *
    go_enter Tryz.func75, Tryz.ntmps75
    go_upto_region 1 with fail
    rw [← unhide HV]
    clear hV HV
    have r0 := (unhide HR).1.c0; have r1 := (unhide HR).1.c1; have r2 := (unhide HR).1.c2; have rf0 := (unhide HR).1.f0; have rf1 := (unhide HR).1.f1; have rf2 := (unhide HR).1.f2
    go_wp2_with fail
    have hS := (unhide HR).1.store (.bool false) (.string ⟨#[48]⟩) (.string ⟨#[49]⟩)
    have hb : Below w.heap.size w (store3 V w.heap.size (.bool false) (.string ⟨#[48]⟩) (.string ⟨#[49]⟩)) := below_store3 (unhide HR).2 (Nat.le_refl _) _ _ _
    have u0 := hS.c0; have u1 := hS.c1; have u2 := hS.c2
    exact bodyPost_ret (v := .agg #[.bool false, .string ⟨#[48]⟩, .string ⟨#[49]⟩]) (w := store3 V w.heap.size (.bool false) (.string ⟨#[48]⟩) (.string ⟨#[49]⟩)) (by simp [results, Tryz.results75, go_sem, u0, u1, u2]) rfl ⟨rfl, hb⟩
  · have z : ((tx m).toList == [48]) = false := by exact tx_pos m (by omega)
    have hg0 : 0 < Nat.gcd m n := Nat.gcd_pos_of_pos_right _ (by omega)
    have hgl : Nat.gcd m n < 10 ^ d := Nat.lt_of_le_of_lt (Nat.gcd_le_right _ (by omega)) hn
    have hq0 : m / Nat.gcd m n ≠ 0 := by
      have := Nat.div_pos (Nat.gcd_le_left n (by omega : 0 < m)) hg0
      omega
    have HCM := hide (fun W => refCommonM d m n W hd1 hd hm hn)
    have HD1 := hide (fun W => refDivideM d m (Nat.gcd m n) W hd1 hd hm hgl hg0)
    have HD2 := hide (fun W => refDivideM d n (Nat.gcd m n) W hd1 hd hn hgl hg0)
    have HE : Hid ((b && decide (m / Nat.gcd m n ≠ 0)) = b) := by show _ = _; simp [hq0]
    rw [unhide HE]
    clear hbV hm hn hn0 HE hg0 hgl hq0 h0 hd1 hd
    generalize tx (m / Nat.gcd m n) = q1 at *
    generalize tx (n / Nat.gcd m n) = q2 at *
    generalize tx (m % Nat.gcd m n) = q3 at *
    generalize tx (n % Nat.gcd m n) = q4 at *
    generalize tx (Nat.gcd m n) = sg at *
    generalize tx m = sm at *
    generalize tx n = sn at *
    go_enter Tryz.func75, Tryz.ntmps75
    go_upto_region 1 with fail
    rw [← unhide HV]
    clear hV HV
    go_upto_region 4 with (go_at_call 77; go_must (refine (unhide HCM _).mono ?_; rintro e w1 ⟨rfl, hb1⟩; have HR1 : Hid (FBox w1 w.heap.size (.bool false) (.string ⟨#[]⟩) (.string ⟨#[]⟩) ∧ Below w.heap.size w w1) := ⟨(unhide HR).1.later hb1, (unhide HR).2.trans (hb1.mono (unhide HR).2.size)⟩; clear hb1))
    go_upto_region 5 with (go_at_call 119; go_must (refine (unhide HD1 _).mono ?_; rintro e w2 ⟨rfl, hb2⟩; have HR2 : Hid (FBox w2 w.heap.size (.bool false) (.string ⟨#[]⟩) (.string ⟨#[]⟩) ∧ Below w.heap.size w w2) := ⟨(unhide HR1).1.later hb2, (unhide HR1).2.trans (hb2.mono (unhide HR1).2.size)⟩; clear hb2))
    go_upto_region 6 with (go_at_call 119; go_must (refine (unhide HD2 _).mono ?_; rintro e w3 ⟨rfl, hb3⟩; have HR3 : Hid (FBox w3 w.heap.size (.bool false) (.string ⟨#[]⟩) (.string ⟨#[]⟩) ∧ Below w.heap.size w w3) := ⟨(unhide HR2).1.later hb3, (unhide HR2).2.trans (hb3.mono (unhide HR2).2.size)⟩; clear hb3))
    have r0 := (unhide HR3).1.c0; have r1 := (unhide HR3).1.c1; have r2 := (unhide HR3).1.c2; have rf0 := (unhide HR3).1.f0; have rf1 := (unhide HR3).1.f1; have rf2 := (unhide HR3).1.f2
    go_wp2_with fail
    have hS := (unhide HR3).1.store (.bool b) (.string q1) (.string q2)
    have hb : Below w.heap.size w (store3 w3 w.heap.size (.bool b) (.string q1) (.string q2)) := below_store3 (unhide HR3).2 (Nat.le_refl _) _ _ _
    have u0 := hS.c0; have u1 := hS.c1; have u2 := hS.c2
    exact bodyPost_ret (v := .agg #[.bool b, .string q1, .string q2]) (w := store3 w3 w.heap.size (.bool b) (.string q1) (.string q2)) (by simp [results, Tryz.results75, go_sem, u0, u1, u2]) rfl ⟨rfl, hb⟩

end Go.Proofs.YtoinadnpdbaamaaGreatDoor

namespace Go.Proofs.YtoinadnpdbaamaaGreatDoor
open Go.RowKit

theorem toList_less (s t : ByteArray) (hs : Cub.isNat s.data.toList) (ht : Cub.isNat t.data.toList) (hl : s.size = t.size) : Op.bytesLess s.toList t.toList = decide (Cub.dval s.data.toList < Cub.dval t.data.toList) := by
  rw [Lib.toList_data, Lib.toList_data]
  exact Cub.bytesLess_dval _ _ hs.1 ht.1 (by rw [list_len, list_len]; exact hl)
theorem toList_same (s t : ByteArray) (hs : Cub.isNat s.data.toList) (ht : Cub.isNat t.data.toList) : (s.toList == t.toList) = decide (Cub.dval s.data.toList = Cub.dval t.data.toList) := by
  rw [Lib.toList_data, Lib.toList_data, Bool.eq_iff_iff, beq_iff_eq, decide_eq_true_eq]
  exact ⟨fun h => by rw [h], fun h => Cub.dval_inj hs ht h⟩

set_option maxRecDepth 100000 in
set_option maxHeartbeats 400000 in
theorem compare_any (s t : ByteArray) (w : World) (hs : Cub.isNat s.data.toList) (ht : Cub.isNat t.data.toList) :
    Calls Tryz.prog 124 #[.string s, .string t] w fun e w' => e = .returned (.int .i64 (Cub.cmpN (Cub.dval s.data.toList) (Cub.dval t.data.toList))) ∧ w' = w := by
  by_cases hl : s.size = t.size
  · have hne : ((s.size : Int) != (t.size : Int)) = false := by rw [hl]; simp
    have hless := toList_less s t hs ht hl
    have hsame := toList_same s t hs ht
    by_cases hc : Cub.dval s.data.toList < Cub.dval t.data.toList
    · have e : Cub.cmpN (Cub.dval s.data.toList) (Cub.dval t.data.toList) = -1 := if_pos hc
      rw [e]
      rw [decide_eq_true hc] at hless
      clear hsame hs ht hl e hc
      go_enter Tryz.func124, Tryz.ntmps124
      go_wp2
      go_ret
      exact ⟨rfl, rfl⟩
    · rw [decide_eq_false hc] at hless
      by_cases hc2 : Cub.dval t.data.toList < Cub.dval s.data.toList
      · have e : Cub.cmpN (Cub.dval s.data.toList) (Cub.dval t.data.toList) = 1 := by unfold Cub.cmpN; rw [if_neg hc, if_pos hc2]
        rw [e]
        rw [decide_eq_false (by omega)] at hsame
        clear hs ht hl e hc hc2
        go_enter Tryz.func124, Tryz.ntmps124
        go_wp2
        go_ret
        exact ⟨rfl, rfl⟩
      · have e : Cub.cmpN (Cub.dval s.data.toList) (Cub.dval t.data.toList) = 0 := by unfold Cub.cmpN; rw [if_neg hc, if_neg hc2]
        rw [e]
        rw [decide_eq_true (by omega)] at hsame
        clear hs ht hl e hc hc2
        go_enter Tryz.func124, Tryz.ntmps124
        go_wp2
        go_ret
        exact ⟨rfl, rfl⟩
  · have hne : ((s.size : Int) != (t.size : Int)) = true := by rw [bne_iff_ne]; omega
    by_cases hlt : s.size < t.size
    · have e : Cub.cmpN (Cub.dval s.data.toList) (Cub.dval t.data.toList) = -1 := if_pos (Cub.len_lt_dval hs ht (by rw [list_len, list_len]; exact hlt))
      rw [e]
      clear hs ht hl e
      go_enter Tryz.func124, Tryz.ntmps124
      go_wp2
      go_ret
      exact ⟨rfl, rfl⟩
    · have e0 := Cub.len_lt_dval ht hs (by rw [list_len, list_len]; omega)
      have e : Cub.cmpN (Cub.dval s.data.toList) (Cub.dval t.data.toList) = 1 := by unfold Cub.cmpN; rw [if_neg (by omega), if_pos e0]
      rw [e]
      clear hs ht hl e e0
      go_enter Tryz.func124, Tryz.ntmps124
      go_wp2
      go_ret
      exact ⟨rfl, rfl⟩
theorem refCompareM (m n : Nat) (w : World) : Calls Tryz.prog 124 #[.string (tx m), .string (tx n)] w fun e w' => e = .returned (.int .i64 (Cub.cmpN m n)) ∧ w' = w := by
  have h := compare_any (tx m) (tx n) w (tx_nat m) (tx_nat n)
  rw [show Cub.dval (tx m).data.toList = m from tx_val m, show Cub.dval (tx n).data.toList = n from tx_val n] at h
  exact h

end Go.Proofs.YtoinadnpdbaamaaGreatDoor

namespace Go.Proofs.YtoinadnpdbaamaaGreatDoor
open Go.RowKit

/-- Two fractions laid in boxes, a third for the answer. -/
structure F3 (w V : World) (x0 x1 x2 y0 y1 y2 : Value) : Prop where
  x : FBox V w.heap.size x0 x1 x2
  y : FBox V (w.heap.size + 1) y0 y1 y2
  r : FBox V (w.heap.size + 1 + 1) (.bool false) (.string ⟨#[]⟩) (.string ⟨#[]⟩)
  below : Below w.heap.size w V
theorem F3.later {w V W : World} {x0 x1 x2 y0 y1 y2 : Value} (h : F3 w V x0 x1 x2 y0 y1 y2) (hb : Below V.heap.size V W) : F3 w W x0 x1 x2 y0 y1 y2 :=
  ⟨h.x.later hb, h.y.later hb, h.r.later hb, h.below.trans (hb.mono h.below.size)⟩
theorem F3.first (w : World) (x0 x1 x2 y0 y1 y2 : Value) : F3 w (((w.alloc (.cells #[x0, x1, x2] 61)).alloc (.cells #[y0, y1, y2] 61)).alloc (.cells #[.bool false, .string ⟨#[]⟩, .string ⟨#[]⟩] 61)) x0 x1 x2 y0 y1 y2 :=
  ⟨⟨by simp [go_sem], by simp [go_sem], by simp [go_sem], by simp [go_sem], by simp [go_sem], by simp [go_sem]⟩, ⟨by simp [go_sem], by simp [go_sem], by simp [go_sem], by simp [go_sem], by simp [go_sem], by simp [go_sem]⟩, ⟨by simp [go_sem], by simp [go_sem], by simp [go_sem], by simp [go_sem], by simp [go_sem], by simp [go_sem]⟩,
    (((Below.refl _ _).alloc (Nat.le_refl _) _).alloc (by simp) _).alloc (by simp; omega) _⟩

set_option maxRecDepth 100000 in
set_option maxHeartbeats 2000000 in
theorem refFTimes_walk (b c rb : Bool) (s1 t1 s2 t2 n d rn rd : ByteArray) (w : World)
    (h1 : ∀ W, Calls Tryz.prog 123 #[.string s1, .string s2] W fun e w' => e = .returned (.string n) ∧ Below W.heap.size W w')
    (h2 : ∀ W, Calls Tryz.prog 123 #[.string t1, .string t2] W fun e w' => e = .returned (.string d) ∧ Below W.heap.size W w')
    (h3 : ∀ W, Calls Tryz.prog 75 #[.bool (b != c), .string n, .string d] W fun e w' => e = .returned (.agg #[.bool rb, .string rn, .string rd]) ∧ Below W.heap.size W w') :
    Calls Tryz.prog 65 #[.agg #[.bool b, .string s1, .string t1], .agg #[.bool c, .string s2, .string t2]] w fun e w' => e = .returned (.agg #[.bool rb, .string rn, .string rd]) ∧ Below w.heap.size w w' := by
  obtain ⟨V, hV⟩ : ∃ V, V = (((w.alloc (.cells #[.bool b, .string s1, .string t1] 61)).alloc (.cells #[.bool c, .string s2, .string t2] 61)).alloc (.cells #[.bool false, .string ⟨#[]⟩, .string ⟨#[]⟩] 61)) := ⟨_, rfl⟩
  have HS : Hid (F3 w V (.bool b) (.string s1) (.string t1) (.bool c) (.string s2) (.string t2)) := by rw [hV]; exact F3.first _ _ _ _ _ _ _
  have HV := hide hV
  have H1 := hide h1
  have H2 := hide h2
  have H3 := hide h3
  have HC : Hid (∀ w', Below V.heap.size V w' → (w'.cell? ⟨w.heap.size, 0, none⟩ = some (.bool b) ∧ w'.cell? ⟨w.heap.size, 1, none⟩ = some (.string s1) ∧ w'.cell? ⟨w.heap.size, 2, none⟩ = some (.string t1) ∧ w'.cell? ⟨w.heap.size + 1, 0, none⟩ = some (.bool c) ∧ w'.cell? ⟨w.heap.size + 1, 1, none⟩ = some (.string s2) ∧ w'.cell? ⟨w.heap.size + 1, 2, none⟩ = some (.string t2)) ∧ (w'.cell? ⟨w.heap.size + 1 + 1, 0, none⟩ = some (.bool false) ∧ w'.cell? ⟨w.heap.size + 1 + 1, 1, none⟩ = some (.string ⟨#[]⟩) ∧ w'.cell? ⟨w.heap.size + 1 + 1, 2, none⟩ = some (.string ⟨#[]⟩) ∧ w'.frozen? ⟨w.heap.size + 1 + 1, 0, none⟩ = false ∧ w'.frozen? ⟨w.heap.size + 1 + 1, 1, none⟩ = false ∧ w'.frozen? ⟨w.heap.size + 1 + 1, 2, none⟩ = false)) := fun U hb => by
    have s := (unhide HS).later hb
    exact ⟨⟨s.x.c0, s.x.c1, s.x.c2, s.y.c0, s.y.c1, s.y.c2⟩, ⟨s.r.c0, s.r.c1, s.r.c2, s.r.f0, s.r.f1, s.r.f2⟩⟩
  clear h1 h2 h3 hV
  go_enter Tryz.func65, Tryz.ntmps65
  go_upto_region 1 with fail
  rw [← unhide HV]
  clear HV
  obtain ⟨⟨t0, t1', t2', t3, t4, t5⟩, _⟩ := unhide HC V (Below.refl _ _)
  go_region_held3 (fun w' => w'.cell? ⟨w.heap.size, 0, none⟩ = some (.bool b) ∧ w'.cell? ⟨w.heap.size, 1, none⟩ = some (.string s1) ∧ w'.cell? ⟨w.heap.size, 2, none⟩ = some (.string t1) ∧ w'.cell? ⟨w.heap.size + 1, 0, none⟩ = some (.bool c) ∧ w'.cell? ⟨w.heap.size + 1, 1, none⟩ = some (.string s2) ∧ w'.cell? ⟨w.heap.size + 1, 2, none⟩ = some (.string t2)) (first | assumption | (refine ⟨?_, ?_, ?_, ?_, ?_, ?_⟩ <;> first | assumption | (simp [go_sem, *]; done) | (rw [World.cell?_setCell_other _ _ _ _ (by simp), World.cell?_setCell_other _ _ _ _ (by simp), World.cell?_setCell_other _ _ _ _ (by simp)]; assumption)) | (simp [go_sem, *]; done)) ((first
    | (go_at_call_of 123 s1; go_must (refine (unhide H1 _).mono ?_; rintro e wa ⟨rfl, hba⟩; have HCA := hide (((Below.refl V.heap.size V).drew).trans hba); clear hba t0 t1' t2' t3 t4 t5; obtain ⟨⟨t0, t1', t2', t3, t4, t5⟩, _⟩ := unhide HC wa (unhide HCA)))
    | (go_at_call_of 123 t1; go_must (refine (unhide H2 _).mono ?_; rintro e wb ⟨rfl, hbb⟩; have HCB := hide ((unhide HCA).trans (hbb.mono (unhide HCA).size)); clear hbb t0 t1' t2' t3 t4 t5; obtain ⟨⟨t0, t1', t2', t3, t4, t5⟩, _⟩ := unhide HC wb (unhide HCB)))
    | (go_at_call 75; go_must (refine (unhide H3 _).mono ?_; rintro e wc ⟨rfl, hbc⟩; have HCC := hide ((unhide HCB).trans (hbc.mono (unhide HCB).size)); clear hbc t0 t1' t2' t3 t4 t5; obtain ⟨⟨t0, t1', t2', t3, t4, t5⟩, ⟨r0, r1, r2, rf0, rf1, rf2⟩⟩ := unhide HC wc (unhide HCC)))))
  have HS1 := hide ((unhide HS).later (unhide HCC))
  clear r0 r1 r2 rf0 rf1 rf2 t0 t1' t2' t3 t4 t5
  have hS := (unhide HS1).r.store (.bool rb) (.string rn) (.string rd)
  have hb : Below w.heap.size w (store3 wc (w.heap.size + 1 + 1) (.bool rb) (.string rn) (.string rd)) := below_store3 (unhide HS1).below (by omega) _ _ _
  obtain ⟨V9, hV9⟩ : ∃ V9, V9 = store3 wc (w.heap.size + 1 + 1) (.bool rb) (.string rn) (.string rd) := ⟨_, rfl⟩
  have hV9' : V9 = ((wc.setCell ⟨w.heap.size + 1 + 1, 0, none⟩ (.bool rb)).setCell ⟨w.heap.size + 1 + 1, 1, none⟩ (.string rn)).setCell ⟨w.heap.size + 1 + 1, 2, none⟩ (.string rd) := hV9
  have u0 := hS.c0; have u1 := hS.c1; have u2 := hS.c2
  rw [← hV9] at u0 u1 u2 hb
  rw [← hV9']
  have HB9 := hide hb
  clear hV9 hV9' hS hb
  go_wp2_with fail
  exact bodyPost_ret (v := .agg #[.bool rb, .string rn, .string rd]) (by simp [results, Tryz.results65, go_sem, u0, u1, u2]) rfl ⟨rfl, unhide HB9⟩

end Go.Proofs.YtoinadnpdbaamaaGreatDoor

namespace Go.Proofs.YtoinadnpdbaamaaGreatDoor
open Go.RowKit

set_option maxRecDepth 100000 in
set_option maxHeartbeats 2000000 in
theorem refFPlusA (b c rb : Bool) (s1 t1 s2 t2 x y d n rn rd : ByteArray) (w : World) (hbc : b = c)
    (h4 : ∀ W, Calls Tryz.prog 120 #[.string x, .string y] W fun e w' => e = .returned (.string n) ∧ Below W.heap.size W w')
    (h1 : ∀ W, Calls Tryz.prog 123 #[.string s1, .string t2] W fun e w' => e = .returned (.string x) ∧ Below W.heap.size W w')
    (h2 : ∀ W, Calls Tryz.prog 123 #[.string s2, .string t1] W fun e w' => e = .returned (.string y) ∧ Below W.heap.size W w')
    (h3 : ∀ W, Calls Tryz.prog 123 #[.string t1, .string t2] W fun e w' => e = .returned (.string d) ∧ Below W.heap.size W w')
    (h5 : ∀ W, Calls Tryz.prog 75 #[.bool b, .string n, .string d] W fun e w' => e = .returned (.agg #[.bool rb, .string rn, .string rd]) ∧ Below W.heap.size W w') :
    Calls Tryz.prog 61 #[.agg #[.bool b, .string s1, .string t1], .agg #[.bool c, .string s2, .string t2]] w fun e w' => e = .returned (.agg #[.bool rb, .string rn, .string rd]) ∧ Below w.heap.size w w' := by
  obtain ⟨V, hV⟩ : ∃ V, V = (((w.alloc (.cells #[.bool b, .string s1, .string t1] 61)).alloc (.cells #[.bool c, .string s2, .string t2] 61)).alloc (.cells #[.bool false, .string ⟨#[]⟩, .string ⟨#[]⟩] 61)) := ⟨_, rfl⟩
  have HS : Hid (F3 w V (.bool b) (.string s1) (.string t1) (.bool c) (.string s2) (.string t2)) := by rw [hV]; exact F3.first _ _ _ _ _ _ _
  have HV := hide hV
  have H1 := hide h1
  have H2 := hide h2
  have H3 := hide h3
  have H4 := hide h4
  have H5 := hide h5
  have hbq : (b == c) = true := by rw [hbc]; simp
  have HC : Hid (∀ w', Below V.heap.size V w' → (w'.cell? ⟨w.heap.size, 0, none⟩ = some (.bool b) ∧ w'.cell? ⟨w.heap.size, 1, none⟩ = some (.string s1) ∧ w'.cell? ⟨w.heap.size, 2, none⟩ = some (.string t1) ∧ w'.cell? ⟨w.heap.size + 1, 0, none⟩ = some (.bool c) ∧ w'.cell? ⟨w.heap.size + 1, 1, none⟩ = some (.string s2) ∧ w'.cell? ⟨w.heap.size + 1, 2, none⟩ = some (.string t2)) ∧ (w'.cell? ⟨w.heap.size + 1 + 1, 0, none⟩ = some (.bool false) ∧ w'.cell? ⟨w.heap.size + 1 + 1, 1, none⟩ = some (.string ⟨#[]⟩) ∧ w'.cell? ⟨w.heap.size + 1 + 1, 2, none⟩ = some (.string ⟨#[]⟩) ∧ w'.frozen? ⟨w.heap.size + 1 + 1, 0, none⟩ = false ∧ w'.frozen? ⟨w.heap.size + 1 + 1, 1, none⟩ = false ∧ w'.frozen? ⟨w.heap.size + 1 + 1, 2, none⟩ = false)) := fun U hb => by
    have s := (unhide HS).later hb
    exact ⟨⟨s.x.c0, s.x.c1, s.x.c2, s.y.c0, s.y.c1, s.y.c2⟩, ⟨s.r.c0, s.r.c1, s.r.c2, s.r.f0, s.r.f1, s.r.f2⟩⟩
  clear h1 h2 h3 h4 h5 hV hbc
  go_enter Tryz.func61, Tryz.ntmps61
  go_upto_region 1 with fail
  rw [← unhide HV]
  clear HV
  obtain ⟨⟨t0, t1', t2', t3, t4, t5⟩, _⟩ := unhide HC V (Below.refl _ _)
  go_region_held3 (fun w' => w'.cell? ⟨w.heap.size, 0, none⟩ = some (.bool b) ∧ w'.cell? ⟨w.heap.size, 1, none⟩ = some (.string s1) ∧ w'.cell? ⟨w.heap.size, 2, none⟩ = some (.string t1) ∧ w'.cell? ⟨w.heap.size + 1, 0, none⟩ = some (.bool c) ∧ w'.cell? ⟨w.heap.size + 1, 1, none⟩ = some (.string s2) ∧ w'.cell? ⟨w.heap.size + 1, 2, none⟩ = some (.string t2)) (first | assumption | (refine ⟨?_, ?_, ?_, ?_, ?_, ?_⟩ <;> first | assumption | (simp [go_sem, *]; done) | (rw [World.cell?_setCell_other _ _ _ _ (by simp), World.cell?_setCell_other _ _ _ _ (by simp), World.cell?_setCell_other _ _ _ _ (by simp)]; assumption)) | (simp [go_sem, *]; done)) ((first
    | (go_at_call_of 123 s1; go_must (refine (unhide H1 _).mono ?_; rintro e wa ⟨rfl, hba⟩; have HCA := hide (((Below.refl V.heap.size V).drew).trans hba); clear hba t0 t1' t2' t3 t4 t5; obtain ⟨⟨t0, t1', t2', t3, t4, t5⟩, _⟩ := unhide HC wa (unhide HCA)))
    | (go_at_call_of 123 s2; go_must (refine (unhide H2 _).mono ?_; rintro e wb ⟨rfl, hbb⟩; have HCB := hide ((unhide HCA).trans (hbb.mono (unhide HCA).size)); clear hbb t0 t1' t2' t3 t4 t5; obtain ⟨⟨t0, t1', t2', t3, t4, t5⟩, _⟩ := unhide HC wb (unhide HCB)))
    | (go_at_call 123; go_must (refine (unhide H3 _).mono ?_; rintro e wc ⟨rfl, hbc⟩; have HCC := hide ((unhide HCB).trans (hbc.mono (unhide HCB).size)); clear hbc t0 t1' t2' t3 t4 t5; obtain ⟨⟨t0, t1', t2', t3, t4, t5⟩, _⟩ := unhide HC wc (unhide HCC)))))
  have HD : Hid (∀ w', Below wc.heap.size wc w' → Below V.heap.size V w') := fun U hb => (unhide HCC).trans (hb.mono (unhide HCC).size)
  clear t1' t2' t4 t5 HCA HCB H1 H2 H3
  go_upto_region 3 with fail
  clear t3 hbq
  go_region_held3 (fun w' => w'.cell? ⟨w.heap.size, 0, none⟩ = some (.bool b)) (first | assumption | (simp [go_sem, *]; done) | (rw [World.cell?_setCell_other _ _ _ _ (by simp), World.cell?_setCell_other _ _ _ _ (by simp), World.cell?_setCell_other _ _ _ _ (by simp)]; assumption)) ((first
    | (go_at_call 120; go_must (refine (unhide H4 _).mono ?_; rintro e wd ⟨rfl, hbd⟩; have HCD := hide (((Below.refl wc.heap.size wc).drew).trans hbd); clear hbd t0; obtain ⟨⟨t0, t1', t2', t3, t4, t5⟩, _⟩ := unhide HC wd (unhide HD wd (unhide HCD)); clear t1' t2' t3 t4 t5))
    | (go_at_call 75; go_must (refine (unhide H5 _).mono ?_; rintro e we ⟨rfl, hbe⟩; have HCE := hide (unhide HD we ((unhide HCD).trans (hbe.mono (unhide HCD).size))); clear hbe t0; obtain ⟨⟨t0, t1', t2', t3, t4, t5⟩, ⟨r0, r1, r2, rf0, rf1, rf2⟩⟩ := unhide HC we (unhide HCE); clear t1' t2' t3 t4 t5))))
  have HS1 := hide ((unhide HS).later (unhide HCE))
  clear r0 r1 r2 rf0 rf1 rf2
  have hS := (unhide HS1).r.store (.bool rb) (.string rn) (.string rd)
  have hb : Below w.heap.size w (store3 we (w.heap.size + 1 + 1) (.bool rb) (.string rn) (.string rd)) := below_store3 (unhide HS1).below (by omega) _ _ _
  obtain ⟨V9, hV9⟩ : ∃ V9, V9 = store3 we (w.heap.size + 1 + 1) (.bool rb) (.string rn) (.string rd) := ⟨_, rfl⟩
  have hV9' : V9 = ((we.setCell ⟨w.heap.size + 1 + 1, 0, none⟩ (.bool rb)).setCell ⟨w.heap.size + 1 + 1, 1, none⟩ (.string rn)).setCell ⟨w.heap.size + 1 + 1, 2, none⟩ (.string rd) := hV9
  have u0 := hS.c0; have u1 := hS.c1; have u2 := hS.c2
  rw [← hV9] at u0 u1 u2 hb
  rw [← hV9']
  have HB9 := hide hb
  clear hV9 hV9' hS hb t0
  go_wp2_with fail
  exact bodyPost_ret (v := .agg #[.bool rb, .string rn, .string rd]) (by simp [results, Tryz.results61, go_sem, u0, u1, u2]) rfl ⟨rfl, unhide HB9⟩

end Go.Proofs.YtoinadnpdbaamaaGreatDoor

namespace Go.Proofs.YtoinadnpdbaamaaGreatDoor
open Go.RowKit

set_option maxRecDepth 100000 in
set_option maxHeartbeats 2000000 in
theorem refFPlusB (b c rb : Bool) (s1 t1 s2 t2 x y d n rn rd : ByteArray) (w : World) (k : Int) (hbc : b ≠ c) (hk : 0 ≤ k)
    (h6 : ∀ W, Calls Tryz.prog 124 #[.string x, .string y] W fun e w' => e = .returned (.int .i64 k) ∧ w' = W)
    (h4 : ∀ W, Calls Tryz.prog 121 #[.string x, .string y] W fun e w' => e = .returned (.string n) ∧ Below W.heap.size W w')
    (h1 : ∀ W, Calls Tryz.prog 123 #[.string s1, .string t2] W fun e w' => e = .returned (.string x) ∧ Below W.heap.size W w')
    (h2 : ∀ W, Calls Tryz.prog 123 #[.string s2, .string t1] W fun e w' => e = .returned (.string y) ∧ Below W.heap.size W w')
    (h3 : ∀ W, Calls Tryz.prog 123 #[.string t1, .string t2] W fun e w' => e = .returned (.string d) ∧ Below W.heap.size W w')
    (h5 : ∀ W, Calls Tryz.prog 75 #[.bool b, .string n, .string d] W fun e w' => e = .returned (.agg #[.bool rb, .string rn, .string rd]) ∧ Below W.heap.size W w') :
    Calls Tryz.prog 61 #[.agg #[.bool b, .string s1, .string t1], .agg #[.bool c, .string s2, .string t2]] w fun e w' => e = .returned (.agg #[.bool rb, .string rn, .string rd]) ∧ Below w.heap.size w w' := by
  obtain ⟨V, hV⟩ : ∃ V, V = (((w.alloc (.cells #[.bool b, .string s1, .string t1] 61)).alloc (.cells #[.bool c, .string s2, .string t2] 61)).alloc (.cells #[.bool false, .string ⟨#[]⟩, .string ⟨#[]⟩] 61)) := ⟨_, rfl⟩
  have HS : Hid (F3 w V (.bool b) (.string s1) (.string t1) (.bool c) (.string s2) (.string t2)) := by rw [hV]; exact F3.first _ _ _ _ _ _ _
  have HV := hide hV
  have H1 := hide h1
  have H2 := hide h2
  have H3 := hide h3
  have H4 := hide h4
  have H5 := hide h5
  have H6 := hide h6
  have hbq : (b == c) = false := by rw [beq_eq_false_iff_ne]; exact hbc
  have HC : Hid (∀ w', Below V.heap.size V w' → (w'.cell? ⟨w.heap.size, 0, none⟩ = some (.bool b) ∧ w'.cell? ⟨w.heap.size, 1, none⟩ = some (.string s1) ∧ w'.cell? ⟨w.heap.size, 2, none⟩ = some (.string t1) ∧ w'.cell? ⟨w.heap.size + 1, 0, none⟩ = some (.bool c) ∧ w'.cell? ⟨w.heap.size + 1, 1, none⟩ = some (.string s2) ∧ w'.cell? ⟨w.heap.size + 1, 2, none⟩ = some (.string t2)) ∧ (w'.cell? ⟨w.heap.size + 1 + 1, 0, none⟩ = some (.bool false) ∧ w'.cell? ⟨w.heap.size + 1 + 1, 1, none⟩ = some (.string ⟨#[]⟩) ∧ w'.cell? ⟨w.heap.size + 1 + 1, 2, none⟩ = some (.string ⟨#[]⟩) ∧ w'.frozen? ⟨w.heap.size + 1 + 1, 0, none⟩ = false ∧ w'.frozen? ⟨w.heap.size + 1 + 1, 1, none⟩ = false ∧ w'.frozen? ⟨w.heap.size + 1 + 1, 2, none⟩ = false)) := fun U hb => by
    have s := (unhide HS).later hb
    exact ⟨⟨s.x.c0, s.x.c1, s.x.c2, s.y.c0, s.y.c1, s.y.c2⟩, ⟨s.r.c0, s.r.c1, s.r.c2, s.r.f0, s.r.f1, s.r.f2⟩⟩
  clear h1 h2 h3 h4 h5 hV hbc h6
  go_enter Tryz.func61, Tryz.ntmps61
  go_upto_region 1 with fail
  rw [← unhide HV]
  clear HV
  obtain ⟨⟨t0, t1', t2', t3, t4, t5⟩, _⟩ := unhide HC V (Below.refl _ _)
  go_region_held3 (fun w' => w'.cell? ⟨w.heap.size, 0, none⟩ = some (.bool b) ∧ w'.cell? ⟨w.heap.size, 1, none⟩ = some (.string s1) ∧ w'.cell? ⟨w.heap.size, 2, none⟩ = some (.string t1) ∧ w'.cell? ⟨w.heap.size + 1, 0, none⟩ = some (.bool c) ∧ w'.cell? ⟨w.heap.size + 1, 1, none⟩ = some (.string s2) ∧ w'.cell? ⟨w.heap.size + 1, 2, none⟩ = some (.string t2)) (first | assumption | (refine ⟨?_, ?_, ?_, ?_, ?_, ?_⟩ <;> first | assumption | (simp [go_sem, *]; done) | (rw [World.cell?_setCell_other _ _ _ _ (by simp), World.cell?_setCell_other _ _ _ _ (by simp), World.cell?_setCell_other _ _ _ _ (by simp)]; assumption)) | (simp [go_sem, *]; done)) ((first
    | (go_at_call_of 123 s1; go_must (refine (unhide H1 _).mono ?_; rintro e wa ⟨rfl, hba⟩; have HCA := hide (((Below.refl V.heap.size V).drew).trans hba); clear hba t0 t1' t2' t3 t4 t5; obtain ⟨⟨t0, t1', t2', t3, t4, t5⟩, _⟩ := unhide HC wa (unhide HCA)))
    | (go_at_call_of 123 s2; go_must (refine (unhide H2 _).mono ?_; rintro e wb ⟨rfl, hbb⟩; have HCB := hide ((unhide HCA).trans (hbb.mono (unhide HCA).size)); clear hbb t0 t1' t2' t3 t4 t5; obtain ⟨⟨t0, t1', t2', t3, t4, t5⟩, _⟩ := unhide HC wb (unhide HCB)))
    | (go_at_call 123; go_must (refine (unhide H3 _).mono ?_; rintro e wc ⟨rfl, hbc⟩; have HCC := hide ((unhide HCB).trans (hbc.mono (unhide HCB).size)); clear hbc t0 t1' t2' t3 t4 t5; obtain ⟨⟨t0, t1', t2', t3, t4, t5⟩, _⟩ := unhide HC wc (unhide HCC)))))
  have HD : Hid (∀ w', Below wc.heap.size wc w' → Below V.heap.size V w') := fun U hb => (unhide HCC).trans (hb.mono (unhide HCC).size)
  clear t1' t2' t4 t5 HCA HCB H1 H2 H3
  go_upto_region 5 with (go_at_call 124; go_must (refine (unhide H6 _).mono ?_; rintro e wz ⟨rfl, hwz⟩; obtain rfl : wc = wz := hwz.symm))
  clear t3 hbq
  go_region_held3 (fun w' => w'.cell? ⟨w.heap.size, 0, none⟩ = some (.bool b)) (first | assumption | (simp [go_sem, *]; done) | (rw [World.cell?_setCell_other _ _ _ _ (by simp), World.cell?_setCell_other _ _ _ _ (by simp), World.cell?_setCell_other _ _ _ _ (by simp)]; assumption)) ((first
    | (go_at_call 121; go_must (refine (unhide H4 _).mono ?_; rintro e wd ⟨rfl, hbd⟩; have HCD := hide (((Below.refl wc.heap.size wc).drew).trans hbd); clear hbd t0; obtain ⟨⟨t0, t1', t2', t3, t4, t5⟩, _⟩ := unhide HC wd (unhide HD wd (unhide HCD)); clear t1' t2' t3 t4 t5))
    | (go_at_call 75; go_must (refine (unhide H5 _).mono ?_; rintro e we ⟨rfl, hbe⟩; have HCE := hide (unhide HD we ((unhide HCD).trans (hbe.mono (unhide HCD).size))); clear hbe t0; obtain ⟨⟨t0, t1', t2', t3, t4, t5⟩, ⟨r0, r1, r2, rf0, rf1, rf2⟩⟩ := unhide HC we (unhide HCE); clear t1' t2' t3 t4 t5))))
  have HS1 := hide ((unhide HS).later (unhide HCE))
  clear r0 r1 r2 rf0 rf1 rf2
  have hS := (unhide HS1).r.store (.bool rb) (.string rn) (.string rd)
  have hb : Below w.heap.size w (store3 we (w.heap.size + 1 + 1) (.bool rb) (.string rn) (.string rd)) := below_store3 (unhide HS1).below (by omega) _ _ _
  obtain ⟨V9, hV9⟩ : ∃ V9, V9 = store3 we (w.heap.size + 1 + 1) (.bool rb) (.string rn) (.string rd) := ⟨_, rfl⟩
  have hV9' : V9 = ((we.setCell ⟨w.heap.size + 1 + 1, 0, none⟩ (.bool rb)).setCell ⟨w.heap.size + 1 + 1, 1, none⟩ (.string rn)).setCell ⟨w.heap.size + 1 + 1, 2, none⟩ (.string rd) := hV9
  have u0 := hS.c0; have u1 := hS.c1; have u2 := hS.c2
  rw [← hV9] at u0 u1 u2 hb
  rw [← hV9']
  have HB9 := hide hb
  clear hV9 hV9' hS hb t0
  go_wp2_with fail
  exact bodyPost_ret (v := .agg #[.bool rb, .string rn, .string rd]) (by simp [results, Tryz.results61, go_sem, u0, u1, u2]) rfl ⟨rfl, unhide HB9⟩

end Go.Proofs.YtoinadnpdbaamaaGreatDoor

namespace Go.Proofs.YtoinadnpdbaamaaGreatDoor
open Go.RowKit

set_option maxRecDepth 100000 in
set_option maxHeartbeats 2000000 in
theorem refFPlusC (b c rb : Bool) (s1 t1 s2 t2 x y d n rn rd : ByteArray) (w : World) (k : Int) (hbc : b ≠ c) (hk : ¬ 0 ≤ k)
    (h6 : ∀ W, Calls Tryz.prog 124 #[.string x, .string y] W fun e w' => e = .returned (.int .i64 k) ∧ w' = W)
    (h4 : ∀ W, Calls Tryz.prog 121 #[.string y, .string x] W fun e w' => e = .returned (.string n) ∧ Below W.heap.size W w')
    (h1 : ∀ W, Calls Tryz.prog 123 #[.string s1, .string t2] W fun e w' => e = .returned (.string x) ∧ Below W.heap.size W w')
    (h2 : ∀ W, Calls Tryz.prog 123 #[.string s2, .string t1] W fun e w' => e = .returned (.string y) ∧ Below W.heap.size W w')
    (h3 : ∀ W, Calls Tryz.prog 123 #[.string t1, .string t2] W fun e w' => e = .returned (.string d) ∧ Below W.heap.size W w')
    (h5 : ∀ W, Calls Tryz.prog 75 #[.bool c, .string n, .string d] W fun e w' => e = .returned (.agg #[.bool rb, .string rn, .string rd]) ∧ Below W.heap.size W w') :
    Calls Tryz.prog 61 #[.agg #[.bool b, .string s1, .string t1], .agg #[.bool c, .string s2, .string t2]] w fun e w' => e = .returned (.agg #[.bool rb, .string rn, .string rd]) ∧ Below w.heap.size w w' := by
  obtain ⟨V, hV⟩ : ∃ V, V = (((w.alloc (.cells #[.bool b, .string s1, .string t1] 61)).alloc (.cells #[.bool c, .string s2, .string t2] 61)).alloc (.cells #[.bool false, .string ⟨#[]⟩, .string ⟨#[]⟩] 61)) := ⟨_, rfl⟩
  have HS : Hid (F3 w V (.bool b) (.string s1) (.string t1) (.bool c) (.string s2) (.string t2)) := by rw [hV]; exact F3.first _ _ _ _ _ _ _
  have HV := hide hV
  have H1 := hide h1
  have H2 := hide h2
  have H3 := hide h3
  have H4 := hide h4
  have H5 := hide h5
  have H6 := hide h6
  have hbq : (b == c) = false := by rw [beq_eq_false_iff_ne]; exact hbc
  have HC : Hid (∀ w', Below V.heap.size V w' → (w'.cell? ⟨w.heap.size, 0, none⟩ = some (.bool b) ∧ w'.cell? ⟨w.heap.size, 1, none⟩ = some (.string s1) ∧ w'.cell? ⟨w.heap.size, 2, none⟩ = some (.string t1) ∧ w'.cell? ⟨w.heap.size + 1, 0, none⟩ = some (.bool c) ∧ w'.cell? ⟨w.heap.size + 1, 1, none⟩ = some (.string s2) ∧ w'.cell? ⟨w.heap.size + 1, 2, none⟩ = some (.string t2)) ∧ (w'.cell? ⟨w.heap.size + 1 + 1, 0, none⟩ = some (.bool false) ∧ w'.cell? ⟨w.heap.size + 1 + 1, 1, none⟩ = some (.string ⟨#[]⟩) ∧ w'.cell? ⟨w.heap.size + 1 + 1, 2, none⟩ = some (.string ⟨#[]⟩) ∧ w'.frozen? ⟨w.heap.size + 1 + 1, 0, none⟩ = false ∧ w'.frozen? ⟨w.heap.size + 1 + 1, 1, none⟩ = false ∧ w'.frozen? ⟨w.heap.size + 1 + 1, 2, none⟩ = false)) := fun U hb => by
    have s := (unhide HS).later hb
    exact ⟨⟨s.x.c0, s.x.c1, s.x.c2, s.y.c0, s.y.c1, s.y.c2⟩, ⟨s.r.c0, s.r.c1, s.r.c2, s.r.f0, s.r.f1, s.r.f2⟩⟩
  clear h1 h2 h3 h4 h5 hV hbc h6
  go_enter Tryz.func61, Tryz.ntmps61
  go_upto_region 1 with fail
  rw [← unhide HV]
  clear HV
  obtain ⟨⟨t0, t1', t2', t3, t4, t5⟩, _⟩ := unhide HC V (Below.refl _ _)
  go_region_held3 (fun w' => w'.cell? ⟨w.heap.size, 0, none⟩ = some (.bool b) ∧ w'.cell? ⟨w.heap.size, 1, none⟩ = some (.string s1) ∧ w'.cell? ⟨w.heap.size, 2, none⟩ = some (.string t1) ∧ w'.cell? ⟨w.heap.size + 1, 0, none⟩ = some (.bool c) ∧ w'.cell? ⟨w.heap.size + 1, 1, none⟩ = some (.string s2) ∧ w'.cell? ⟨w.heap.size + 1, 2, none⟩ = some (.string t2)) (first | assumption | (refine ⟨?_, ?_, ?_, ?_, ?_, ?_⟩ <;> first | assumption | (simp [go_sem, *]; done) | (rw [World.cell?_setCell_other _ _ _ _ (by simp), World.cell?_setCell_other _ _ _ _ (by simp), World.cell?_setCell_other _ _ _ _ (by simp)]; assumption)) | (simp [go_sem, *]; done)) ((first
    | (go_at_call_of 123 s1; go_must (refine (unhide H1 _).mono ?_; rintro e wa ⟨rfl, hba⟩; have HCA := hide (((Below.refl V.heap.size V).drew).trans hba); clear hba t0 t1' t2' t3 t4 t5; obtain ⟨⟨t0, t1', t2', t3, t4, t5⟩, _⟩ := unhide HC wa (unhide HCA)))
    | (go_at_call_of 123 s2; go_must (refine (unhide H2 _).mono ?_; rintro e wb ⟨rfl, hbb⟩; have HCB := hide ((unhide HCA).trans (hbb.mono (unhide HCA).size)); clear hbb t0 t1' t2' t3 t4 t5; obtain ⟨⟨t0, t1', t2', t3, t4, t5⟩, _⟩ := unhide HC wb (unhide HCB)))
    | (go_at_call 123; go_must (refine (unhide H3 _).mono ?_; rintro e wc ⟨rfl, hbc⟩; have HCC := hide ((unhide HCB).trans (hbc.mono (unhide HCB).size)); clear hbc t0 t1' t2' t3 t4 t5; obtain ⟨⟨t0, t1', t2', t3, t4, t5⟩, _⟩ := unhide HC wc (unhide HCC)))))
  have HD : Hid (∀ w', Below wc.heap.size wc w' → Below V.heap.size V w') := fun U hb => (unhide HCC).trans (hb.mono (unhide HCC).size)
  clear t1' t2' t4 t5 HCA HCB H1 H2 H3
  go_upto_region 6 with (go_at_call 124; go_must (refine (unhide H6 _).mono ?_; rintro e wz ⟨rfl, hwz⟩; obtain rfl : wc = wz := hwz.symm))
  clear t0 hbq
  go_region_held3 (fun w' => w'.cell? ⟨w.heap.size + 1, 0, none⟩ = some (.bool c)) (first | assumption | (simp [go_sem, *]; done) | (rw [World.cell?_setCell_other _ _ _ _ (by simp), World.cell?_setCell_other _ _ _ _ (by simp), World.cell?_setCell_other _ _ _ _ (by simp)]; assumption)) ((first
    | (go_at_call 121; go_must (refine (unhide H4 _).mono ?_; rintro e wd ⟨rfl, hbd⟩; have HCD := hide (((Below.refl wc.heap.size wc).drew).trans hbd); clear hbd t3; obtain ⟨⟨t0, t1', t2', t3, t4, t5⟩, _⟩ := unhide HC wd (unhide HD wd (unhide HCD)); clear t1' t2' t0 t4 t5))
    | (go_at_call 75; go_must (refine (unhide H5 _).mono ?_; rintro e we ⟨rfl, hbe⟩; have HCE := hide (unhide HD we ((unhide HCD).trans (hbe.mono (unhide HCD).size))); clear hbe t3; obtain ⟨⟨t0, t1', t2', t3, t4, t5⟩, ⟨r0, r1, r2, rf0, rf1, rf2⟩⟩ := unhide HC we (unhide HCE); clear t1' t2' t0 t4 t5))))
  have HS1 := hide ((unhide HS).later (unhide HCE))
  clear r0 r1 r2 rf0 rf1 rf2
  have hS := (unhide HS1).r.store (.bool rb) (.string rn) (.string rd)
  have hb : Below w.heap.size w (store3 we (w.heap.size + 1 + 1) (.bool rb) (.string rn) (.string rd)) := below_store3 (unhide HS1).below (by omega) _ _ _
  obtain ⟨V9, hV9⟩ : ∃ V9, V9 = store3 we (w.heap.size + 1 + 1) (.bool rb) (.string rn) (.string rd) := ⟨_, rfl⟩
  have hV9' : V9 = ((we.setCell ⟨w.heap.size + 1 + 1, 0, none⟩ (.bool rb)).setCell ⟨w.heap.size + 1 + 1, 1, none⟩ (.string rn)).setCell ⟨w.heap.size + 1 + 1, 2, none⟩ (.string rd) := hV9
  have u0 := hS.c0; have u1 := hS.c1; have u2 := hS.c2
  rw [← hV9] at u0 u1 u2 hb
  rw [← hV9']
  have HB9 := hide hb
  clear hV9 hV9' hS hb t3
  go_wp2_with fail
  exact bodyPost_ret (v := .agg #[.bool rb, .string rn, .string rd]) (by simp [results, Tryz.results61, go_sem, u0, u1, u2]) rfl ⟨rfl, unhide HB9⟩

end Go.Proofs.YtoinadnpdbaamaaGreatDoor

namespace Go.Proofs.YtoinadnpdbaamaaGreatDoor
open Go.RowKit

/-- The document's fraction of a value. -/
def fx (x : Rat) : Value := .agg #[.bool (decide (x < 0)), .string (tx x.num.natAbs), .string (tx x.den)]
/-- Both its numbers have at most d digits. -/
def Bd (d : Nat) (x : Rat) : Prop := x.num.natAbs < 10 ^ d ∧ x.den < 10 ^ d
theorem fx_of {b : Bool} {n d : Nat} (h : Cub.Low b n d) : (Value.agg #[.bool b, .string (tx n), .string (tx d)]) = fx (Cub.valQ b n d) := by
  obtain ⟨e1, e2, e3⟩ := Cub.low_is h
  unfold fx
  rw [← e1, ← e2, ← e3]
theorem fx_low (b : Bool) (n d : Nat) (hd : 0 < d) : (Value.agg #[.bool (b && decide (n / Nat.gcd n d ≠ 0)), .string (tx (n / Nat.gcd n d)), .string (tx (d / Nat.gcd n d))]) = fx (Cub.valQ b n d) := by
  obtain ⟨h1, h2⟩ := Cub.ratio_low (b := b) (n := n) hd
  rw [fx_of h1, h2]
theorem valQ_mul {b c : Bool} {n d m e : Nat} (hd : 0 < d) (he : 0 < e) : Cub.valQ (b != c) (n * m) (d * e) = Cub.valQ b n d * Cub.valQ c m e := by
  have h1 : ((d : Nat) : Rat) ≠ 0 := Cub.dR hd
  have h2 : ((e : Nat) : Rat) ≠ 0 := Cub.dR he
  unfold Cub.valQ
  rw [← Cub.sg_mul]
  push_cast
  grind
theorem pow_two (d a b : Nat) (ha : a < 10 ^ d) (hb : b < 10 ^ d) : a * b < 10 ^ (d + d) := by
  rw [Nat.pow_add]; exact Nat.mul_lt_mul'' ha hb
theorem pow_up {d e a : Nat} (ha : a < 10 ^ d) (h : d ≤ e) : a < 10 ^ e := Nat.lt_of_lt_of_le ha (Nat.pow_le_pow_right (by decide) h)
theorem pow_sum (d a b : Nat) (ha : a < 10 ^ d) (hb : b < 10 ^ d) : a + b < 10 ^ (d + 1) := by
  rw [Nat.pow_succ]; omega

theorem refFTimes (d : Nat) (x y : Rat) (w : World) (hd1 : 1 ≤ d) (hd : d + d ≤ 5000) (hx : Bd d x) (hy : Bd d y) :
    Calls Tryz.prog 65 #[fx x, fx y] w fun e w' => e = .returned (fx (x * y)) ∧ Below w.heap.size w w' := by
  have px := x.den_pos
  have py := y.den_pos
  have e := valQ_mul (b := decide (x < 0)) (c := decide (y < 0)) (n := x.num.natAbs) (m := y.num.natAbs) px py
  rw [(Cub.low_of x).2, (Cub.low_of y).2] at e
  rw [← e, ← fx_low _ _ _ (Nat.mul_pos px py)]
  exact refFTimes_walk _ _ _ _ _ _ _ _ _ _ _ w (fun W => refTimesM d _ _ W hd1 (by omega) hx.1 hy.1) (fun W => refTimesM d _ _ W hd1 (by omega) hx.2 hy.2)
    (fun W => refLowestM (d + d) _ _ _ W (by omega) hd (pow_two d _ _ hx.1 hy.1) (pow_two d _ _ hx.2 hy.2) (by have := Nat.mul_pos px py; omega))

theorem refFPlus (d : Nat) (x y : Rat) (w : World) (hd1 : 1 ≤ d) (hd : d + d + 1 ≤ 5000) (hx : Bd d x) (hy : Bd d y) :
    Calls Tryz.prog 61 #[fx x, fx y] w fun e w' => e = .returned (fx (x + y)) ∧ Below w.heap.size w w' := by
  have px := x.den_pos
  have py := y.den_pos
  have hD := Nat.mul_pos px py
  have hD0 : x.den * y.den ≠ 0 := by omega
  have lx := Cub.low_of x
  have ly := Cub.low_of y
  have bX := pow_two d _ _ hx.1 hy.2
  have bY := pow_two d _ _ hy.1 hx.2
  have bD := pow_two d _ _ hx.2 hy.2
  have T1 := fun W => refTimesM d _ _ W hd1 (by omega) hx.1 hy.2
  have T2 := fun W => refTimesM d _ _ W hd1 (by omega) hy.1 hx.2
  have T3 := fun W => refTimesM d _ _ W hd1 (by omega) hx.2 hy.2
  have key : ∀ bb m, (bb, m) = Cub.addSg (decide (x < 0)) (x.num.natAbs * y.den) (decide (y < 0)) (y.num.natAbs * x.den) → fx (x + y) = .agg #[.bool (bb && decide (m / Nat.gcd m (x.den * y.den) ≠ 0)), .string (tx (m / Nat.gcd m (x.den * y.den))), .string (tx (x.den * y.den / Nat.gcd m (x.den * y.den)))] := fun bb m hm => by
    have e := Cub.refAdd_val lx.1 ly.1 hm
    rw [lx.2, ly.2] at e
    rw [← e, ← fx_low _ _ _ hD]
  have L := fun bb m (hm : m < 10 ^ (d + d + 1)) W => refLowestM (d + d + 1) bb m (x.den * y.den) W (by omega) hd hm (pow_up bD (by omega)) hD0
  unfold Cub.addSg at key
  by_cases hs : decide (x < 0) = decide (y < 0)
  · rw [if_pos hs] at key
    rw [key _ _ rfl]
    exact refFPlusA _ _ _ _ _ _ _ _ _ _ _ _ _ w hs (fun W => refPlusM (d + d) _ _ W (by omega) (by omega) bX bY) T1 T2 T3 (fun W => L _ _ (pow_sum (d + d) _ _ bX bY) W)
  · rw [if_neg hs] at key
    have C := fun W => refCompareM (x.num.natAbs * y.den) (y.num.natAbs * x.den) W
    by_cases hl : x.num.natAbs * y.den < y.num.natAbs * x.den
    · rw [if_pos hl] at key
      rw [key _ _ rfl]
      exact refFPlusC _ _ _ _ _ _ _ _ _ _ _ _ _ w _ hs (by unfold Cub.cmpN; rw [if_pos hl]; decide) C (fun W => refMinusM (d + d) _ _ W (by omega) (by omega) bY bX (Nat.le_of_lt hl)) T1 T2 T3 (fun W => L _ _ (pow_up (Nat.lt_of_le_of_lt (Nat.sub_le _ _) bY) (by omega)) W)
    · rw [if_neg hl] at key
      rw [key _ _ rfl]
      exact refFPlusB _ _ _ _ _ _ _ _ _ _ _ _ _ w _ hs (by unfold Cub.cmpN; rw [if_neg hl]; split <;> decide) C (fun W => refMinusM (d + d) _ _ W (by omega) (by omega) bX bY (Nat.le_of_not_lt hl)) T1 T2 T3 (fun W => L _ _ (pow_up (Nat.lt_of_le_of_lt (Nat.sub_le _ _) bX) (by omega)) W)

end Go.Proofs.YtoinadnpdbaamaaGreatDoor

namespace Go.Proofs.YtoinadnpdbaamaaGreatDoor
open Go.RowKit

set_option maxRecDepth 100000 in
set_option maxHeartbeats 2000000 in
theorem refRead_walk (num den ds : ByteArray) (b : Bool) (w : World) (hm : num.size ≤ 9223372036854775807) (hd : den.toList.isEmpty = false)
    (hneg : (b = true ∧ 0 < num.size ∧ num.toList.isEmpty = false ∧ (∀ h : 0 < num.size, (num[0].toNat : Int) = 45) ∧ num.extract 1 num.size = ds) ∨ (b = false ∧ ds = num ∧ (0 < num.size ∧ num.toList.isEmpty = false ∧ ∀ h : 0 < num.size, ((num[0].toNat : Int) == 45) = false))) :
    Calls Tryz.prog 62 #[.agg #[.string num, .string den]] w fun r w' => r = .returned (.agg #[.bool b, .string ds, .string den]) ∧ Below w.heap.size w w' := by
  obtain ⟨V, hV⟩ : ∃ V, V = (w.alloc (.cells #[.string num, .string den] 23)).alloc (.cells #[.bool false, .string ⟨#[]⟩, .string ⟨#[]⟩] 61) := ⟨_, rfl⟩
  have HB : Hid (Below w.heap.size w V) := by rw [hV]; exact ((Below.refl _ _).alloc (Nat.le_refl _) _).alloc (by simp) _
  have HR : Hid (FBox V (w.heap.size + 1) (.bool false) (.string ⟨#[]⟩) (.string ⟨#[]⟩)) := by rw [hV]; exact ⟨by simp [go_sem], by simp [go_sem], by simp [go_sem], by simp [go_sem], by simp [go_sem], by simp [go_sem]⟩
  have HC : Hid (V.cell? ⟨w.heap.size, 0, none⟩ = some (.string num) ∧ V.cell? ⟨w.heap.size, 1, none⟩ = some (.string den)) := by rw [hV]; exact ⟨by simp [go_sem], by simp [go_sem]⟩
  have HV := hide hV
  have hS := (unhide HR).store (.bool b) (.string ds) (.string den)
  have HB9 : Hid (Below w.heap.size w (store3 V (w.heap.size + 1) (.bool b) (.string ds) (.string den))) := below_store3 (unhide HB) (by omega) _ _ _
  have u0 := hS.c0; have u1 := hS.c1; have u2 := hS.c2
  obtain ⟨t0, t1⟩ := unhide HC
  have r0 := (unhide HR).c0; have r1 := (unhide HR).c1; have r2 := (unhide HR).c2; have rf0 := (unhide HR).f0; have rf1 := (unhide HR).f1; have rf2 := (unhide HR).f2
  rcases hneg with ⟨rfl, hp, he, h45, hds⟩ | ⟨rfl, rfl, hp, he, h45⟩
  · have h45' := h45 hp
    have hs' : (0 : Int) < (num.size : Int) := by omega
    have hs1 : (1 : Int) ≤ (num.size : Int) := by omega
    have HDS := hide hds
    clear hds h45 hS
    go_enter Tryz.func62, Tryz.ntmps62
    go_upto_region 1 with fail
    rw [← unhide HV]
    clear hV HV
    go_upto_region 4 with fail
    go_region
    rw [unhide HDS]
    obtain ⟨U, hU⟩ : ∃ U, U = (((V.setCell ⟨w.heap.size + 1, 0, none⟩ (.bool true)).setCell ⟨w.heap.size + 1, 1, none⟩ (.string ds)).setCell ⟨w.heap.size + 1, 2, none⟩ (.string den)).drew := ⟨_, rfl⟩
    have HBU : Hid (Below w.heap.size w U) := by rw [hU]; exact (unhide HB9).trans (((Below.refl _ _).drew).mono (unhide HB9).size)
    have q0 : U.cell? ⟨w.heap.size + 1, 0, none⟩ = some (.bool true) := by rw [hU]; exact u0
    have q1 : U.cell? ⟨w.heap.size + 1, 1, none⟩ = some (.string ds) := by rw [hU]; exact u1
    have q2 : U.cell? ⟨w.heap.size + 1, 2, none⟩ = some (.string den) := by rw [hU]; exact u2
    rw [← hU]
    clear hU u0 u1 u2 r0 r1 r2 rf0 rf1 rf2 t0 t1 HB9
    go_wp2_with fail
    exact bodyPost_ret (v := .agg #[.bool true, .string ds, .string den]) (by simp [results, Tryz.results62, go_sem, q0, q1, q2]) rfl ⟨rfl, unhide HBU⟩
  · have h45' := h45 hp
    have hs' : (0 : Int) < (ds.size : Int) := by omega
    clear h45 hS
    go_enter Tryz.func62, Tryz.ntmps62
    go_upto_region 1 with fail
    rw [← unhide HV]
    clear hV HV
    go_wp2_with fail
    exact bodyPost_ret (v := .agg #[.bool false, .string ds, .string den]) (w := store3 V (w.heap.size + 1) (.bool false) (.string ds) (.string den)) (by simp [results, Tryz.results62, go_sem, u0, u1, u2]) rfl ⟨rfl, unhide HB9⟩

theorem refRead (num den : ByteArray) (x : Rat) (w : World) (h : IsR num den x) :
    Calls Tryz.prog 62 #[.agg #[.string num, .string den]] w fun r w' => r = .returned (fx x) ∧ Below w.heap.size w w' := by
  have hr := h.rt
  obtain ⟨hsm, en, ed⟩ := h
  have e1 : num = sT (decide (x < 0)) x.num.natAbs := by rw [en]; unfold numT; rw [if_pos hsm]
  have e2 : den = tb x.den := by rw [ed]; unfold denT; rw [if_pos hsm]
  have hz := sT_size (decide (x < 0)) x.num.natAbs hsm.1
  have g1 : isNeg num = decide (x < 0) := by rw [e1]; exact neg_sT _ _ hsm.1
  have g2 : digT num = tx x.num.natAbs := by rw [e1, dig_sT _ _ hsm.1, tx_tb _ hsm.1]
  have hde : den.toList.isEmpty = false := by rw [e2]; exact tb_full _ hsm.2
  have hnp : 0 < num.size := by
    have q := tb_full x.num.natAbs hsm.1
    rcases Nat.eq_zero_or_pos num.size with hz0 | hp
    · exfalso
      have hl : num.data.toList = [] := by rw [← List.length_eq_zero_iff, list_len]; exact hz0
      rw [e1, sT_list] at hl
      rw [Lib.toList_data] at q
      split at hl
      · cases hl
      · rw [hl] at q; cases q
    · exact hp
  have hf := neg_form num
  rw [g1, g2] at hf
  unfold fx
  rw [← tx_tb _ hsm.2, ← e2]
  refine refRead_walk num den _ _ w (by rw [e1]; omega) hde ?_
  rcases hf with hf | ⟨a, b, c⟩
  · exact Or.inl hf
  · rcases c with c | c
    · rw [not_empty_of num hnp] at c; cases c
    · exact Or.inr ⟨a, b, c⟩

end Go.Proofs.YtoinadnpdbaamaaGreatDoor

namespace Go.Proofs.YtoinadnpdbaamaaGreatDoor
open Go.RowKit

set_option maxRecDepth 100000 in
set_option maxHeartbeats 2000000 in
theorem refFOver_walk (b : Bool) (s t : ByteArray) (w : World) :
    Calls Tryz.prog 99 #[.agg #[.bool b, .string s, .string t]] w fun r w' => r = .returned (.agg #[.bool b, .string t, .string s]) ∧ Below w.heap.size w w' := by
  obtain ⟨V, hV⟩ : ∃ V, V = (w.alloc (.cells #[.bool b, .string s, .string t] 61)).alloc (.cells #[.bool false, .string ⟨#[]⟩, .string ⟨#[]⟩] 61) := ⟨_, rfl⟩
  have HB : Hid (Below w.heap.size w V) := by rw [hV]; exact ((Below.refl _ _).alloc (Nat.le_refl _) _).alloc (by simp) _
  have HR : Hid (FBox V (w.heap.size + 1) (.bool false) (.string ⟨#[]⟩) (.string ⟨#[]⟩)) := by rw [hV]; exact ⟨by simp [go_sem], by simp [go_sem], by simp [go_sem], by simp [go_sem], by simp [go_sem], by simp [go_sem]⟩
  have HF : Hid (FBox V w.heap.size (.bool b) (.string s) (.string t)) := by rw [hV]; exact ⟨by simp [go_sem], by simp [go_sem], by simp [go_sem], by simp [go_sem], by simp [go_sem], by simp [go_sem]⟩
  have HV := hide hV
  have hS := (unhide HR).store (.bool b) (.string t) (.string s)
  have HB9 : Hid (Below w.heap.size w (store3 V (w.heap.size + 1) (.bool b) (.string t) (.string s))) := below_store3 (unhide HB) (by omega) _ _ _
  have u0 := hS.c0; have u1 := hS.c1; have u2 := hS.c2
  have t0 := (unhide HF).c0; have t1 := (unhide HF).c1; have t2 := (unhide HF).c2
  have r0 := (unhide HR).c0; have r1 := (unhide HR).c1; have r2 := (unhide HR).c2; have rf0 := (unhide HR).f0; have rf1 := (unhide HR).f1; have rf2 := (unhide HR).f2
  clear hS
  go_enter Tryz.func99, Tryz.ntmps99
  go_upto_region 1 with fail
  rw [← unhide HV]
  clear hV HV
  go_wp2_with fail
  exact bodyPost_ret (v := .agg #[.bool b, .string t, .string s]) (w := store3 V (w.heap.size + 1) (.bool b) (.string t) (.string s)) (by simp [results, Tryz.results99, go_sem, u0, u1, u2]) rfl ⟨rfl, unhide HB9⟩
theorem refFOver (x : Rat) (hx : x ≠ 0) (w : World) : Calls Tryz.prog 99 #[fx x] w fun r w' => r = .returned (fx x⁻¹) ∧ Below w.heap.size w w' := by
  have lx := Cub.low_of x
  have hn : x.num.natAbs ≠ 0 := fun e => hx (Rat.num_eq_zero.1 (Int.natAbs_eq_zero.1 e))
  obtain ⟨h1, h2⟩ := Cub.inv_low lx.1 hn
  rw [lx.2] at h2
  rw [← h2, ← fx_of h1]
  exact refFOver_walk _ _ _ w

set_option maxRecDepth 100000 in
set_option maxHeartbeats 2000000 in
theorem refFMinus_walk (b z : Bool) (s t : ByteArray) (w : World) (hz : (s.toList == [48]) = z) :
    Calls Tryz.prog 63 #[.agg #[.bool b, .string s, .string t]] w fun r w' => r = .returned (.agg #[.bool (!b && !z), .string s, .string t]) ∧ Below w.heap.size w w' := by
  obtain ⟨V, hV⟩ : ∃ V, V = (w.alloc (.cells #[.bool b, .string s, .string t] 61)).alloc (.cells #[.bool false, .string ⟨#[]⟩, .string ⟨#[]⟩] 61) := ⟨_, rfl⟩
  have HB : Hid (Below w.heap.size w V) := by rw [hV]; exact ((Below.refl _ _).alloc (Nat.le_refl _) _).alloc (by simp) _
  have HR : Hid (FBox V (w.heap.size + 1) (.bool false) (.string ⟨#[]⟩) (.string ⟨#[]⟩)) := by rw [hV]; exact ⟨by simp [go_sem], by simp [go_sem], by simp [go_sem], by simp [go_sem], by simp [go_sem], by simp [go_sem]⟩
  have HF : Hid (FBox V w.heap.size (.bool b) (.string s) (.string t)) := by rw [hV]; exact ⟨by simp [go_sem], by simp [go_sem], by simp [go_sem], by simp [go_sem], by simp [go_sem], by simp [go_sem]⟩
  have HV := hide hV
  obtain ⟨U, hU⟩ : ∃ U, U = V.setCell ⟨w.heap.size, 0, none⟩ (.bool (!b && !z)) := ⟨_, rfl⟩
  have HU := hide hU
  have HBU : Hid (Below w.heap.size w U) := by rw [hU]; exact (unhide HB).setCell (Nat.le_refl _) _
  have HRU : Hid (FBox U (w.heap.size + 1) (.bool false) (.string ⟨#[]⟩) (.string ⟨#[]⟩)) := by rw [hU]; exact (unhide HR).otherAt (by omega) _
  have v0 : U.cell? ⟨w.heap.size, 0, none⟩ = some (.bool (!b && !z)) := by rw [hU]; exact World.cell?_setCell_same _ _ _ (unhide HF).c0
  have v1 : U.cell? ⟨w.heap.size, 1, none⟩ = some (.string s) := by rw [hU, World.cell?_setCell_other _ _ _ _ (by simp)]; exact (unhide HF).c1
  have v2 : U.cell? ⟨w.heap.size, 2, none⟩ = some (.string t) := by rw [hU, World.cell?_setCell_other _ _ _ _ (by simp)]; exact (unhide HF).c2
  have hS := (unhide HRU).store (.bool (!b && !z)) (.string s) (.string t)
  have HB9 : Hid (Below w.heap.size w (store3 U (w.heap.size + 1) (.bool (!b && !z)) (.string s) (.string t))) := below_store3 (unhide HBU) (by omega) _ _ _
  have u0 := hS.c0; have u1 := hS.c1; have u2 := hS.c2
  have t0 := (unhide HF).c0; have t1 := (unhide HF).c1; have f0 := (unhide HF).f0
  clear hS hU
  obtain ⟨q, hq⟩ : ∃ q, q = (!b && !z) := ⟨_, rfl⟩
  rw [← hq] at v0 u0 u1 u2 HB9 HU ⊢
  have HQ := hide hq
  clear hq
  go_enter Tryz.func63, Tryz.ntmps63
  go_upto_region 1 with fail
  rw [← unhide HV]
  clear hV HV
  cases b <;> cases z <;> (
    go_upto_region 2 with fail
    have hu := unhide HU
    have hq := unhide HQ
    simp at hq
    rw [hq] at hu
    rw [← hu]
    clear hu HU t0 t1 f0 hq HQ
    have r0 := (unhide HRU).c0; have r1 := (unhide HRU).c1; have r2 := (unhide HRU).c2; have rf0 := (unhide HRU).f0; have rf1 := (unhide HRU).f1; have rf2 := (unhide HRU).f2
    go_wp2_with fail
    exact bodyPost_ret (v := .agg #[.bool q, .string s, .string t]) (w := store3 U (w.heap.size + 1) (.bool q) (.string s) (.string t)) (by simp [results, Tryz.results63, go_sem, u0, u1, u2]) rfl ⟨rfl, unhide HB9⟩)
theorem refFMinus (x : Rat) (w : World) : Calls Tryz.prog 63 #[fx x] w fun r w' => r = .returned (fx (-x)) ∧ Below w.heap.size w w' := by
  have lx := Cub.low_of x
  obtain ⟨h1, h2⟩ := Cub.neg_low lx.1
  rw [lx.2] at h2
  rw [← h2, ← fx_of h1]
  have h := refFMinus_walk (decide (x < 0)) (decide (x.num.natAbs = 0)) (tx x.num.natAbs) (tx x.den) w (by
    by_cases h0 : x.num.natAbs = 0
    · rw [h0, tx_zero]; rfl
    · rw [tx_pos _ (by omega), decide_eq_false h0])
  rw [show (decide (x.num.natAbs ≠ 0)) = !decide (x.num.natAbs = 0) from by simp]
  exact h

end Go.Proofs.YtoinadnpdbaamaaGreatDoor

namespace Go.Proofs.YtoinadnpdbaamaaGreatDoor
open Go.RowKit

set_option maxRecDepth 100000 in
set_option maxHeartbeats 2000000 in
theorem refTold_large (b : Bool) (s t : ByteArray) (w : World) (hl : 600 < s.size ∨ 600 < t.size) (hs : s.size ≤ 5000) (ht : t.size ≤ 5000) :
    Ans 74 #[.agg #[.bool b, .string s, .string t]] w ⟨#[]⟩ ⟨#[]⟩ 7 := by
  unfold Ans
  obtain ⟨V, hV⟩ : ∃ V, V = (w.alloc (.cells #[.bool b, .string s, .string t] 61)).alloc (.cells #[.string ⟨#[]⟩, .string ⟨#[]⟩] 23) := ⟨_, rfl⟩
  have hbV : Below w.heap.size w V := by rw [hV]; exact ((Below.refl _ _).alloc (Nat.le_refl _) _).alloc (by simp) _
  have HR : Hid (T2 V (w.heap.size + 1) (.string ⟨#[]⟩) (.string ⟨#[]⟩) ∧ Below w.heap.size w V) := ⟨by rw [hV]; exact ⟨by simp [go_sem], by simp [go_sem], by simp [go_sem], by simp [go_sem]⟩, hbV⟩
  have HF : Hid (FBox V w.heap.size (.bool b) (.string s) (.string t)) := by rw [hV]; exact ⟨by simp [go_sem], by simp [go_sem], by simp [go_sem], by simp [go_sem], by simp [go_sem], by simp [go_sem]⟩
  have HV := hide hV
  clear hbV
  have t0 := (unhide HF).c0; have t1 := (unhide HF).c1; have t2 := (unhide HF).c2
  have r0 := (unhide HR).1.c0; have r1 := (unhide HR).1.c1; have rf0 := (unhide HR).1.f0; have rf1 := (unhide HR).1.f1
  have hS := (unhide HR).1.store (.string ⟨#[]⟩) (.string ⟨#[]⟩)
  have hb : Below w.heap.size w (store2 V (w.heap.size + 1) (.string ⟨#[]⟩) (.string ⟨#[]⟩)) := below_store2 (unhide HR).2 (by omega) _ _
  have u0 := hS.c0; have u1 := hS.c1
  have HB9 := hide hb
  clear hb hS
  rcases Nat.lt_or_ge 600 s.size with h1 | h1
  · have i1 : (600 : Int) < (s.size : Int) := by omega
    clear hl
    go_enter Tryz.func74, Tryz.ntmps74
    go_upto_region 1 with fail
    rw [← unhide HV]
    clear hV HV
    go_wp2_with fail
    exact bodyPost_ret (v := .tuple #[.agg #[.string ⟨#[]⟩, .string ⟨#[]⟩], .int .i64 7]) (w := store2 V (w.heap.size + 1) (.string ⟨#[]⟩) (.string ⟨#[]⟩)) (by simp [results, Tryz.results74, go_sem, u0, u1]) rfl ⟨rfl, unhide HB9⟩
  · have i1 : ¬ (600 : Int) < (s.size : Int) := by omega
    have i2 : (600 : Int) < (t.size : Int) := by omega
    clear hl
    go_enter Tryz.func74, Tryz.ntmps74
    go_upto_region 1 with fail
    rw [← unhide HV]
    clear hV HV
    go_wp2_with fail
    exact bodyPost_ret (v := .tuple #[.agg #[.string ⟨#[]⟩, .string ⟨#[]⟩], .int .i64 7]) (w := store2 V (w.heap.size + 1) (.string ⟨#[]⟩) (.string ⟨#[]⟩)) (by simp [results, Tryz.results74, go_sem, u0, u1]) rfl ⟨rfl, unhide HB9⟩
theorem tx_large {n : Nat} (h : ¬ n < 10 ^ 600) : 600 < (tx n).size := by
  rcases Nat.lt_or_ge 600 (tx n).size with h' | h'
  · exact h'
  · exfalso
    apply h
    rw [← list_len, tx_list] at h'
    exact (Cub.dec_len_lt n 600 (by omega)).1 h'
theorem refToldQ (d : Nat) (x : Rat) (w : World) (hd1 : 1 ≤ d) (hd : d ≤ 5000) (hx : Bd d x) : Ans 74 #[fx x] w (numT x) (denT x) (errT x) := by
  unfold numT denT errT
  by_cases h : Small x
  · rw [if_pos h, if_pos h, if_pos h]
    unfold sT
    rw [tx_tb _ h.1, tx_tb _ h.2]
    exact refTold _ _ _ w (tx_size (by omega) h.1) (tx_size (by omega) h.2)
  · rw [if_neg h, if_neg h, if_neg h]
    refine refTold_large _ _ _ w ?_ (Nat.le_trans (tx_size hd1 hx.1) hd) (Nat.le_trans (tx_size hd1 hx.2) hd)
    by_cases h1 : x.num.natAbs < 10 ^ 600
    · exact Or.inr (tx_large (fun h2 => h ⟨h1, h2⟩))
    · exact Or.inl (tx_large h1)

end Go.Proofs.YtoinadnpdbaamaaGreatDoor

namespace Go.Proofs.YtoinadnpdbaamaaGreatDoor
open Go.RowKit

set_option maxRecDepth 100000 in
set_option maxHeartbeats 2000000 in
theorem refAdd_walk (n1 d1 n2 d2 s t : ByteArray) (er : Int) (va vb vr : Value) (w : World)
    (h18a : ∀ W, Calls Tryz.prog 18 #[.agg #[.string n1, .string d1]] W fun r w' => r = .returned (.bool true) ∧ Below W.heap.size W w')
    (h18b : ∀ W, Calls Tryz.prog 18 #[.agg #[.string n2, .string d2]] W fun r w' => r = .returned (.bool true) ∧ Below W.heap.size W w')
    (hra : ∀ W, Calls Tryz.prog 62 #[.agg #[.string n1, .string d1]] W fun r w' => r = .returned va ∧ Below W.heap.size W w')
    (hrb : ∀ W, Calls Tryz.prog 62 #[.agg #[.string n2, .string d2]] W fun r w' => r = .returned vb ∧ Below W.heap.size W w')
    (hop : ∀ W, Calls Tryz.prog 61 #[va, vb] W fun r w' => r = .returned vr ∧ Below W.heap.size W w')
    (ht : ∀ W, Ans 74 #[vr] W s t er) : Ans 29 #[.agg #[.string n1, .string d1], .agg #[.string n2, .string d2]] w s t er := by
  unfold Ans at *
  obtain ⟨V, hV⟩ : ∃ V, V = ((w.alloc (.cells #[.string n1, .string d1] 23)).alloc (.cells #[.string n2, .string d2] 23)).alloc (.cells #[.string ⟨#[]⟩, .string ⟨#[]⟩] 23) := ⟨_, rfl⟩
  have HS : Hid (O3 w V (.string n1) (.string d1) (.string n2) (.string d2)) := by rw [hV]; exact O3.first _ _ _ _ _
  have HV := hide hV
  have HA := hide h18a
  have HB := hide h18b
  have HRA := hide hra
  have HRB := hide hrb
  have HOP := hide hop
  have HT := hide ht
  have HC : Hid (∀ w', Below V.heap.size V w' → (w'.cell? ⟨w.heap.size, 0, none⟩ = some (.string n1) ∧ w'.cell? ⟨w.heap.size, 1, none⟩ = some (.string d1) ∧ w'.cell? ⟨w.heap.size + 1, 0, none⟩ = some (.string n2) ∧ w'.cell? ⟨w.heap.size + 1, 1, none⟩ = some (.string d2)) ∧ (w'.cell? ⟨w.heap.size + 1 + 1, 0, none⟩ = some (.string ⟨#[]⟩) ∧ w'.cell? ⟨w.heap.size + 1 + 1, 1, none⟩ = some (.string ⟨#[]⟩) ∧ w'.frozen? ⟨w.heap.size + 1 + 1, 0, none⟩ = false ∧ w'.frozen? ⟨w.heap.size + 1 + 1, 1, none⟩ = false)) := fun U hb => by
    have s := (unhide HS).later hb
    exact ⟨⟨s.a.c0, s.a.c1, s.b.c0, s.b.c1⟩, ⟨s.r.c0, s.r.c1, s.r.f0, s.r.f1⟩⟩
  clear h18a h18b hra hrb hop ht
  go_enter Tryz.func29, Tryz.ntmps29
  go_upto_region 1 with fail
  rw [← unhide HV]
  clear hV HV
  obtain ⟨⟨t0, t1, t2, t3⟩, _⟩ := unhide HC V (Below.refl _ _)
  go_upto_region 3 with (first
    | (go_at_call_of 18 n1; go_must (refine (unhide HA _).mono ?_; rintro e wa ⟨rfl, hba⟩; have HCA := hide hba; clear hba t0 t1 t2 t3; obtain ⟨⟨t0, t1, t2, t3⟩, _⟩ := unhide HC wa (unhide HCA)))
    | (go_at_call_of 18 n2; go_must (refine (unhide HB _).mono ?_; rintro e wb ⟨rfl, hbb⟩; have HCB := hide ((unhide HCA).trans (hbb.mono (unhide HCA).size)); clear hbb t0 t1 t2 t3; obtain ⟨⟨t0, t1, t2, t3⟩, _⟩ := unhide HC wb (unhide HCB))))
  have HD : Hid (∀ w', Below wb.heap.size wb w' → Below V.heap.size V w') := fun U hb => (unhide HCB).trans (hb.mono (unhide HCB).size)
  clear HCA HA HB
  go_region_held3 (fun w' => w'.cell? ⟨w.heap.size, 0, none⟩ = some (.string n1) ∧ w'.cell? ⟨w.heap.size, 1, none⟩ = some (.string d1) ∧ w'.cell? ⟨w.heap.size + 1, 0, none⟩ = some (.string n2) ∧ w'.cell? ⟨w.heap.size + 1, 1, none⟩ = some (.string d2)) (first | assumption | (refine ⟨?_, ?_, ?_, ?_⟩ <;> first | assumption | (simp [go_sem, *]; done) | (rw [World.cell?_setCell_other _ _ _ _ (by simp), World.cell?_setCell_other _ _ _ _ (by simp)]; assumption)) | (simp [go_sem, *]; done)) ((first
    | (go_at_call_of 62 n1; go_must (refine (unhide HRA _).mono ?_; rintro e wc ⟨rfl, hbc⟩; have HCC := hide (((Below.refl wb.heap.size wb).drew).trans hbc); clear hbc t0 t1 t2 t3; obtain ⟨⟨t0, t1, t2, t3⟩, _⟩ := unhide HC wc (unhide HD wc (unhide HCC))))
    | (go_at_call_of 62 n2; go_must (refine (unhide HRB _).mono ?_; rintro e wd ⟨rfl, hbd⟩; have HCD := hide ((unhide HCC).trans (hbd.mono (unhide HCC).size)); clear hbd t0 t1 t2 t3; obtain ⟨⟨t0, t1, t2, t3⟩, _⟩ := unhide HC wd (unhide HD wd (unhide HCD))))
    | (go_at_call 61; go_must (refine (unhide HOP _).mono ?_; rintro e wf ⟨rfl, hbf⟩; have HCF := hide ((unhide HCD).trans (hbf.mono (unhide HCD).size)); clear hbf t0 t1 t2 t3; obtain ⟨⟨t0, t1, t2, t3⟩, _⟩ := unhide HC wf (unhide HD wf (unhide HCF))))
    | (go_at_call 74; go_must (refine (unhide HT _).mono ?_; rintro e wg ⟨rfl, hbg⟩; have HCG := hide ((unhide HCF).trans (hbg.mono (unhide HCF).size)); clear hbg t0 t1 t2 t3; obtain ⟨⟨t0, t1, t2, t3⟩, ⟨r0, r1, rf0, rf1⟩⟩ := unhide HC wg (unhide HD wg (unhide HCG))))))
  have HS1 := hide ((unhide HS).later (unhide HD wg (unhide HCG)))
  clear r0 r1 rf0 rf1 t0 t1 t2 t3
  have hS := (unhide HS1).r.store (.string s) (.string t)
  have hb : Below w.heap.size w (store2 wg (w.heap.size + 1 + 1) (.string s) (.string t)) := below_store2 (unhide HS1).below (by omega) _ _
  obtain ⟨V9, hV9⟩ : ∃ V9, V9 = store2 wg (w.heap.size + 1 + 1) (.string s) (.string t) := ⟨_, rfl⟩
  have hV9' : V9 = (wg.setCell ⟨w.heap.size + 1 + 1, 0, none⟩ (.string s)).setCell ⟨w.heap.size + 1 + 1, 1, none⟩ (.string t) := hV9
  have u0 := hS.c0; have u1 := hS.c1
  rw [← hV9] at u0 u1 hb
  rw [← hV9']
  have HB9 := hide hb
  clear hV9 hV9' hS hb
  go_wp2_with fail
  exact bodyPost_ret (v := .tuple #[.agg #[.string s, .string t], .int .i64 er]) (by simp [results, Tryz.results29, go_sem, u0, u1]) rfl ⟨rfl, unhide HB9⟩

end Go.Proofs.YtoinadnpdbaamaaGreatDoor

namespace Go.Proofs.YtoinadnpdbaamaaGreatDoor
open Go.RowKit

set_option maxRecDepth 100000 in
set_option maxHeartbeats 2000000 in
theorem refMul_walk (n1 d1 n2 d2 s t : ByteArray) (er : Int) (va vb vr : Value) (w : World)
    (h18a : ∀ W, Calls Tryz.prog 18 #[.agg #[.string n1, .string d1]] W fun r w' => r = .returned (.bool true) ∧ Below W.heap.size W w')
    (h18b : ∀ W, Calls Tryz.prog 18 #[.agg #[.string n2, .string d2]] W fun r w' => r = .returned (.bool true) ∧ Below W.heap.size W w')
    (hra : ∀ W, Calls Tryz.prog 62 #[.agg #[.string n1, .string d1]] W fun r w' => r = .returned va ∧ Below W.heap.size W w')
    (hrb : ∀ W, Calls Tryz.prog 62 #[.agg #[.string n2, .string d2]] W fun r w' => r = .returned vb ∧ Below W.heap.size W w')
    (hop : ∀ W, Calls Tryz.prog 65 #[va, vb] W fun r w' => r = .returned vr ∧ Below W.heap.size W w')
    (ht : ∀ W, Ans 74 #[vr] W s t er) : Ans 33 #[.agg #[.string n1, .string d1], .agg #[.string n2, .string d2]] w s t er := by
  unfold Ans at *
  obtain ⟨V, hV⟩ : ∃ V, V = ((w.alloc (.cells #[.string n1, .string d1] 23)).alloc (.cells #[.string n2, .string d2] 23)).alloc (.cells #[.string ⟨#[]⟩, .string ⟨#[]⟩] 23) := ⟨_, rfl⟩
  have HS : Hid (O3 w V (.string n1) (.string d1) (.string n2) (.string d2)) := by rw [hV]; exact O3.first _ _ _ _ _
  have HV := hide hV
  have HA := hide h18a
  have HB := hide h18b
  have HRA := hide hra
  have HRB := hide hrb
  have HOP := hide hop
  have HT := hide ht
  have HC : Hid (∀ w', Below V.heap.size V w' → (w'.cell? ⟨w.heap.size, 0, none⟩ = some (.string n1) ∧ w'.cell? ⟨w.heap.size, 1, none⟩ = some (.string d1) ∧ w'.cell? ⟨w.heap.size + 1, 0, none⟩ = some (.string n2) ∧ w'.cell? ⟨w.heap.size + 1, 1, none⟩ = some (.string d2)) ∧ (w'.cell? ⟨w.heap.size + 1 + 1, 0, none⟩ = some (.string ⟨#[]⟩) ∧ w'.cell? ⟨w.heap.size + 1 + 1, 1, none⟩ = some (.string ⟨#[]⟩) ∧ w'.frozen? ⟨w.heap.size + 1 + 1, 0, none⟩ = false ∧ w'.frozen? ⟨w.heap.size + 1 + 1, 1, none⟩ = false)) := fun U hb => by
    have s := (unhide HS).later hb
    exact ⟨⟨s.a.c0, s.a.c1, s.b.c0, s.b.c1⟩, ⟨s.r.c0, s.r.c1, s.r.f0, s.r.f1⟩⟩
  clear h18a h18b hra hrb hop ht
  go_enter Tryz.func33, Tryz.ntmps33
  go_upto_region 1 with fail
  rw [← unhide HV]
  clear hV HV
  obtain ⟨⟨t0, t1, t2, t3⟩, _⟩ := unhide HC V (Below.refl _ _)
  go_upto_region 3 with (first
    | (go_at_call_of 18 n1; go_must (refine (unhide HA _).mono ?_; rintro e wa ⟨rfl, hba⟩; have HCA := hide hba; clear hba t0 t1 t2 t3; obtain ⟨⟨t0, t1, t2, t3⟩, _⟩ := unhide HC wa (unhide HCA)))
    | (go_at_call_of 18 n2; go_must (refine (unhide HB _).mono ?_; rintro e wb ⟨rfl, hbb⟩; have HCB := hide ((unhide HCA).trans (hbb.mono (unhide HCA).size)); clear hbb t0 t1 t2 t3; obtain ⟨⟨t0, t1, t2, t3⟩, _⟩ := unhide HC wb (unhide HCB))))
  have HD : Hid (∀ w', Below wb.heap.size wb w' → Below V.heap.size V w') := fun U hb => (unhide HCB).trans (hb.mono (unhide HCB).size)
  clear HCA HA HB
  go_region_held3 (fun w' => w'.cell? ⟨w.heap.size, 0, none⟩ = some (.string n1) ∧ w'.cell? ⟨w.heap.size, 1, none⟩ = some (.string d1) ∧ w'.cell? ⟨w.heap.size + 1, 0, none⟩ = some (.string n2) ∧ w'.cell? ⟨w.heap.size + 1, 1, none⟩ = some (.string d2)) (first | assumption | (refine ⟨?_, ?_, ?_, ?_⟩ <;> first | assumption | (simp [go_sem, *]; done) | (rw [World.cell?_setCell_other _ _ _ _ (by simp), World.cell?_setCell_other _ _ _ _ (by simp)]; assumption)) | (simp [go_sem, *]; done)) ((first
    | (go_at_call_of 62 n1; go_must (refine (unhide HRA _).mono ?_; rintro e wc ⟨rfl, hbc⟩; have HCC := hide (((Below.refl wb.heap.size wb).drew).trans hbc); clear hbc t0 t1 t2 t3; obtain ⟨⟨t0, t1, t2, t3⟩, _⟩ := unhide HC wc (unhide HD wc (unhide HCC))))
    | (go_at_call_of 62 n2; go_must (refine (unhide HRB _).mono ?_; rintro e wd ⟨rfl, hbd⟩; have HCD := hide ((unhide HCC).trans (hbd.mono (unhide HCC).size)); clear hbd t0 t1 t2 t3; obtain ⟨⟨t0, t1, t2, t3⟩, _⟩ := unhide HC wd (unhide HD wd (unhide HCD))))
    | (go_at_call 65; go_must (refine (unhide HOP _).mono ?_; rintro e wf ⟨rfl, hbf⟩; have HCF := hide ((unhide HCD).trans (hbf.mono (unhide HCD).size)); clear hbf t0 t1 t2 t3; obtain ⟨⟨t0, t1, t2, t3⟩, _⟩ := unhide HC wf (unhide HD wf (unhide HCF))))
    | (go_at_call 74; go_must (refine (unhide HT _).mono ?_; rintro e wg ⟨rfl, hbg⟩; have HCG := hide ((unhide HCF).trans (hbg.mono (unhide HCF).size)); clear hbg t0 t1 t2 t3; obtain ⟨⟨t0, t1, t2, t3⟩, ⟨r0, r1, rf0, rf1⟩⟩ := unhide HC wg (unhide HD wg (unhide HCG))))))
  have HS1 := hide ((unhide HS).later (unhide HD wg (unhide HCG)))
  clear r0 r1 rf0 rf1 t0 t1 t2 t3
  have hS := (unhide HS1).r.store (.string s) (.string t)
  have hb : Below w.heap.size w (store2 wg (w.heap.size + 1 + 1) (.string s) (.string t)) := below_store2 (unhide HS1).below (by omega) _ _
  obtain ⟨V9, hV9⟩ : ∃ V9, V9 = store2 wg (w.heap.size + 1 + 1) (.string s) (.string t) := ⟨_, rfl⟩
  have hV9' : V9 = (wg.setCell ⟨w.heap.size + 1 + 1, 0, none⟩ (.string s)).setCell ⟨w.heap.size + 1 + 1, 1, none⟩ (.string t) := hV9
  have u0 := hS.c0; have u1 := hS.c1
  rw [← hV9] at u0 u1 hb
  rw [← hV9']
  have HB9 := hide hb
  clear hV9 hV9' hS hb
  go_wp2_with fail
  exact bodyPost_ret (v := .tuple #[.agg #[.string s, .string t], .int .i64 er]) (by simp [results, Tryz.results33, go_sem, u0, u1]) rfl ⟨rfl, unhide HB9⟩

end Go.Proofs.YtoinadnpdbaamaaGreatDoor

namespace Go.Proofs.YtoinadnpdbaamaaGreatDoor
open Go.RowKit

set_option maxRecDepth 100000 in
set_option maxHeartbeats 2000000 in
theorem refSub_walk (n1 d1 n2 d2 s t : ByteArray) (er : Int) (va vb vr vm : Value) (w : World)
    (h18a : ∀ W, Calls Tryz.prog 18 #[.agg #[.string n1, .string d1]] W fun r w' => r = .returned (.bool true) ∧ Below W.heap.size W w')
    (h18b : ∀ W, Calls Tryz.prog 18 #[.agg #[.string n2, .string d2]] W fun r w' => r = .returned (.bool true) ∧ Below W.heap.size W w')
    (hra : ∀ W, Calls Tryz.prog 62 #[.agg #[.string n1, .string d1]] W fun r w' => r = .returned va ∧ Below W.heap.size W w')
    (hrb : ∀ W, Calls Tryz.prog 62 #[.agg #[.string n2, .string d2]] W fun r w' => r = .returned vb ∧ Below W.heap.size W w')
    (hmid : ∀ W, Calls Tryz.prog 63 #[vb] W fun r w' => r = .returned vm ∧ Below W.heap.size W w')
    (hop : ∀ W, Calls Tryz.prog 61 #[va, vm] W fun r w' => r = .returned vr ∧ Below W.heap.size W w')
    (ht : ∀ W, Ans 74 #[vr] W s t er) : Ans 31 #[.agg #[.string n1, .string d1], .agg #[.string n2, .string d2]] w s t er := by
  unfold Ans at *
  obtain ⟨V, hV⟩ : ∃ V, V = ((w.alloc (.cells #[.string n1, .string d1] 23)).alloc (.cells #[.string n2, .string d2] 23)).alloc (.cells #[.string ⟨#[]⟩, .string ⟨#[]⟩] 23) := ⟨_, rfl⟩
  have HS : Hid (O3 w V (.string n1) (.string d1) (.string n2) (.string d2)) := by rw [hV]; exact O3.first _ _ _ _ _
  have HV := hide hV
  have HA := hide h18a
  have HB := hide h18b
  have HRA := hide hra
  have HRB := hide hrb
  have HOP := hide hop
  have HT := hide ht
  have HM := hide hmid
  have HC : Hid (∀ w', Below V.heap.size V w' → (w'.cell? ⟨w.heap.size, 0, none⟩ = some (.string n1) ∧ w'.cell? ⟨w.heap.size, 1, none⟩ = some (.string d1) ∧ w'.cell? ⟨w.heap.size + 1, 0, none⟩ = some (.string n2) ∧ w'.cell? ⟨w.heap.size + 1, 1, none⟩ = some (.string d2)) ∧ (w'.cell? ⟨w.heap.size + 1 + 1, 0, none⟩ = some (.string ⟨#[]⟩) ∧ w'.cell? ⟨w.heap.size + 1 + 1, 1, none⟩ = some (.string ⟨#[]⟩) ∧ w'.frozen? ⟨w.heap.size + 1 + 1, 0, none⟩ = false ∧ w'.frozen? ⟨w.heap.size + 1 + 1, 1, none⟩ = false)) := fun U hb => by
    have s := (unhide HS).later hb
    exact ⟨⟨s.a.c0, s.a.c1, s.b.c0, s.b.c1⟩, ⟨s.r.c0, s.r.c1, s.r.f0, s.r.f1⟩⟩
  clear h18a h18b hra hrb hop ht hmid
  go_enter Tryz.func31, Tryz.ntmps31
  go_upto_region 1 with fail
  rw [← unhide HV]
  clear hV HV
  obtain ⟨⟨t0, t1, t2, t3⟩, _⟩ := unhide HC V (Below.refl _ _)
  go_upto_region 3 with (first
    | (go_at_call_of 18 n1; go_must (refine (unhide HA _).mono ?_; rintro e wa ⟨rfl, hba⟩; have HCA := hide hba; clear hba t0 t1 t2 t3; obtain ⟨⟨t0, t1, t2, t3⟩, _⟩ := unhide HC wa (unhide HCA)))
    | (go_at_call_of 18 n2; go_must (refine (unhide HB _).mono ?_; rintro e wb ⟨rfl, hbb⟩; have HCB := hide ((unhide HCA).trans (hbb.mono (unhide HCA).size)); clear hbb t0 t1 t2 t3; obtain ⟨⟨t0, t1, t2, t3⟩, _⟩ := unhide HC wb (unhide HCB))))
  have HD : Hid (∀ w', Below wb.heap.size wb w' → Below V.heap.size V w') := fun U hb => (unhide HCB).trans (hb.mono (unhide HCB).size)
  clear HCA HA HB
  go_region_held3 (fun w' => w'.cell? ⟨w.heap.size, 0, none⟩ = some (.string n1) ∧ w'.cell? ⟨w.heap.size, 1, none⟩ = some (.string d1) ∧ w'.cell? ⟨w.heap.size + 1, 0, none⟩ = some (.string n2) ∧ w'.cell? ⟨w.heap.size + 1, 1, none⟩ = some (.string d2)) (first | assumption | (refine ⟨?_, ?_, ?_, ?_⟩ <;> first | assumption | (simp [go_sem, *]; done) | (rw [World.cell?_setCell_other _ _ _ _ (by simp), World.cell?_setCell_other _ _ _ _ (by simp)]; assumption)) | (simp [go_sem, *]; done)) ((first
    | (go_at_call_of 62 n1; go_must (refine (unhide HRA _).mono ?_; rintro e wc ⟨rfl, hbc⟩; have HCC := hide (((Below.refl wb.heap.size wb).drew).trans hbc); clear hbc t0 t1 t2 t3; obtain ⟨⟨t0, t1, t2, t3⟩, _⟩ := unhide HC wc (unhide HD wc (unhide HCC))))
    | (go_at_call_of 62 n2; go_must (refine (unhide HRB _).mono ?_; rintro e wd ⟨rfl, hbd⟩; have HCD := hide ((unhide HCC).trans (hbd.mono (unhide HCC).size)); clear hbd t0 t1 t2 t3; obtain ⟨⟨t0, t1, t2, t3⟩, _⟩ := unhide HC wd (unhide HD wd (unhide HCD))))
    | (go_at_call 63; go_must (refine (unhide HM _).mono ?_; rintro e we ⟨rfl, hbe⟩; have HCE := hide ((unhide HCD).trans (hbe.mono (unhide HCD).size)); clear hbe t0 t1 t2 t3; obtain ⟨⟨t0, t1, t2, t3⟩, _⟩ := unhide HC we (unhide HD we (unhide HCE))))
    | (go_at_call 61; go_must (refine (unhide HOP _).mono ?_; rintro e wf ⟨rfl, hbf⟩; have HCF := hide ((unhide HCE).trans (hbf.mono (unhide HCE).size)); clear hbf t0 t1 t2 t3; obtain ⟨⟨t0, t1, t2, t3⟩, _⟩ := unhide HC wf (unhide HD wf (unhide HCF))))
    | (go_at_call 74; go_must (refine (unhide HT _).mono ?_; rintro e wg ⟨rfl, hbg⟩; have HCG := hide ((unhide HCF).trans (hbg.mono (unhide HCF).size)); clear hbg t0 t1 t2 t3; obtain ⟨⟨t0, t1, t2, t3⟩, ⟨r0, r1, rf0, rf1⟩⟩ := unhide HC wg (unhide HD wg (unhide HCG))))))
  have HS1 := hide ((unhide HS).later (unhide HD wg (unhide HCG)))
  clear r0 r1 rf0 rf1 t0 t1 t2 t3
  have hS := (unhide HS1).r.store (.string s) (.string t)
  have hb : Below w.heap.size w (store2 wg (w.heap.size + 1 + 1) (.string s) (.string t)) := below_store2 (unhide HS1).below (by omega) _ _
  obtain ⟨V9, hV9⟩ : ∃ V9, V9 = store2 wg (w.heap.size + 1 + 1) (.string s) (.string t) := ⟨_, rfl⟩
  have hV9' : V9 = (wg.setCell ⟨w.heap.size + 1 + 1, 0, none⟩ (.string s)).setCell ⟨w.heap.size + 1 + 1, 1, none⟩ (.string t) := hV9
  have u0 := hS.c0; have u1 := hS.c1
  rw [← hV9] at u0 u1 hb
  rw [← hV9']
  have HB9 := hide hb
  clear hV9 hV9' hS hb
  go_wp2_with fail
  exact bodyPost_ret (v := .tuple #[.agg #[.string s, .string t], .int .i64 er]) (by simp [results, Tryz.results31, go_sem, u0, u1]) rfl ⟨rfl, unhide HB9⟩

end Go.Proofs.YtoinadnpdbaamaaGreatDoor

namespace Go.Proofs.YtoinadnpdbaamaaGreatDoor
open Go.RowKit

set_option maxRecDepth 100000 in
set_option maxHeartbeats 2000000 in
theorem refQuo_walk (n1 d1 n2 d2 s t : ByteArray) (er : Int) (va vb vr vm : Value) (w : World)
    (h18a : ∀ W, Calls Tryz.prog 18 #[.agg #[.string n1, .string d1]] W fun r w' => r = .returned (.bool true) ∧ Below W.heap.size W w')
    (h18b : ∀ W, Calls Tryz.prog 18 #[.agg #[.string n2, .string d2]] W fun r w' => r = .returned (.bool true) ∧ Below W.heap.size W w')
    (hra : ∀ W, Calls Tryz.prog 62 #[.agg #[.string n1, .string d1]] W fun r w' => r = .returned va ∧ Below W.heap.size W w')
    (hrb : ∀ W, Calls Tryz.prog 62 #[.agg #[.string n2, .string d2]] W fun r w' => r = .returned vb ∧ Below W.heap.size W w')
    (hmid : ∀ W, Calls Tryz.prog 99 #[vb] W fun r w' => r = .returned vm ∧ Below W.heap.size W w')
    (hz : (n2.toList == [48]) = false)
    (hop : ∀ W, Calls Tryz.prog 65 #[va, vm] W fun r w' => r = .returned vr ∧ Below W.heap.size W w')
    (ht : ∀ W, Ans 74 #[vr] W s t er) : Ans 35 #[.agg #[.string n1, .string d1], .agg #[.string n2, .string d2]] w s t er := by
  unfold Ans at *
  obtain ⟨V, hV⟩ : ∃ V, V = ((w.alloc (.cells #[.string n1, .string d1] 23)).alloc (.cells #[.string n2, .string d2] 23)).alloc (.cells #[.string ⟨#[]⟩, .string ⟨#[]⟩] 23) := ⟨_, rfl⟩
  have HS : Hid (O3 w V (.string n1) (.string d1) (.string n2) (.string d2)) := by rw [hV]; exact O3.first _ _ _ _ _
  have HV := hide hV
  have HA := hide h18a
  have HB := hide h18b
  have HRA := hide hra
  have HRB := hide hrb
  have HOP := hide hop
  have HT := hide ht
  have HM := hide hmid
  have HC : Hid (∀ w', Below V.heap.size V w' → (w'.cell? ⟨w.heap.size, 0, none⟩ = some (.string n1) ∧ w'.cell? ⟨w.heap.size, 1, none⟩ = some (.string d1) ∧ w'.cell? ⟨w.heap.size + 1, 0, none⟩ = some (.string n2) ∧ w'.cell? ⟨w.heap.size + 1, 1, none⟩ = some (.string d2)) ∧ (w'.cell? ⟨w.heap.size + 1 + 1, 0, none⟩ = some (.string ⟨#[]⟩) ∧ w'.cell? ⟨w.heap.size + 1 + 1, 1, none⟩ = some (.string ⟨#[]⟩) ∧ w'.frozen? ⟨w.heap.size + 1 + 1, 0, none⟩ = false ∧ w'.frozen? ⟨w.heap.size + 1 + 1, 1, none⟩ = false)) := fun U hb => by
    have s := (unhide HS).later hb
    exact ⟨⟨s.a.c0, s.a.c1, s.b.c0, s.b.c1⟩, ⟨s.r.c0, s.r.c1, s.r.f0, s.r.f1⟩⟩
  clear h18a h18b hra hrb hop ht hmid
  go_enter Tryz.func35, Tryz.ntmps35
  go_upto_region 1 with fail
  rw [← unhide HV]
  clear hV HV
  obtain ⟨⟨t0, t1, t2, t3⟩, _⟩ := unhide HC V (Below.refl _ _)
  go_upto_region 5 with (first
    | (go_at_call_of 18 n1; go_must (refine (unhide HA _).mono ?_; rintro e wa ⟨rfl, hba⟩; have HCA := hide hba; clear hba t0 t1 t2 t3; obtain ⟨⟨t0, t1, t2, t3⟩, _⟩ := unhide HC wa (unhide HCA)))
    | (go_at_call_of 18 n2; go_must (refine (unhide HB _).mono ?_; rintro e wb ⟨rfl, hbb⟩; have HCB := hide ((unhide HCA).trans (hbb.mono (unhide HCA).size)); clear hbb t0 t1 t2 t3; obtain ⟨⟨t0, t1, t2, t3⟩, _⟩ := unhide HC wb (unhide HCB))))
  have HD : Hid (∀ w', Below wb.heap.size wb w' → Below V.heap.size V w') := fun U hb => (unhide HCB).trans (hb.mono (unhide HCB).size)
  clear HCA HA HB hz
  go_region_held3 (fun w' => w'.cell? ⟨w.heap.size, 0, none⟩ = some (.string n1) ∧ w'.cell? ⟨w.heap.size, 1, none⟩ = some (.string d1) ∧ w'.cell? ⟨w.heap.size + 1, 0, none⟩ = some (.string n2) ∧ w'.cell? ⟨w.heap.size + 1, 1, none⟩ = some (.string d2)) (first | assumption | (refine ⟨?_, ?_, ?_, ?_⟩ <;> first | assumption | (simp [go_sem, *]; done) | (rw [World.cell?_setCell_other _ _ _ _ (by simp), World.cell?_setCell_other _ _ _ _ (by simp)]; assumption)) | (simp [go_sem, *]; done)) ((first
    | (go_at_call_of 62 n1; go_must (refine (unhide HRA _).mono ?_; rintro e wc ⟨rfl, hbc⟩; have HCC := hide (((Below.refl wb.heap.size wb).drew).trans hbc); clear hbc t0 t1 t2 t3; obtain ⟨⟨t0, t1, t2, t3⟩, _⟩ := unhide HC wc (unhide HD wc (unhide HCC))))
    | (go_at_call_of 62 n2; go_must (refine (unhide HRB _).mono ?_; rintro e wd ⟨rfl, hbd⟩; have HCD := hide ((unhide HCC).trans (hbd.mono (unhide HCC).size)); clear hbd t0 t1 t2 t3; obtain ⟨⟨t0, t1, t2, t3⟩, _⟩ := unhide HC wd (unhide HD wd (unhide HCD))))
    | (go_at_call 99; go_must (refine (unhide HM _).mono ?_; rintro e we ⟨rfl, hbe⟩; have HCE := hide ((unhide HCD).trans (hbe.mono (unhide HCD).size)); clear hbe t0 t1 t2 t3; obtain ⟨⟨t0, t1, t2, t3⟩, _⟩ := unhide HC we (unhide HD we (unhide HCE))))
    | (go_at_call 65; go_must (refine (unhide HOP _).mono ?_; rintro e wf ⟨rfl, hbf⟩; have HCF := hide ((unhide HCE).trans (hbf.mono (unhide HCE).size)); clear hbf t0 t1 t2 t3; obtain ⟨⟨t0, t1, t2, t3⟩, _⟩ := unhide HC wf (unhide HD wf (unhide HCF))))
    | (go_at_call 74; go_must (refine (unhide HT _).mono ?_; rintro e wg ⟨rfl, hbg⟩; have HCG := hide ((unhide HCF).trans (hbg.mono (unhide HCF).size)); clear hbg t0 t1 t2 t3; obtain ⟨⟨t0, t1, t2, t3⟩, ⟨r0, r1, rf0, rf1⟩⟩ := unhide HC wg (unhide HD wg (unhide HCG))))))
  have HS1 := hide ((unhide HS).later (unhide HD wg (unhide HCG)))
  clear r0 r1 rf0 rf1 t0 t1 t2 t3
  have hS := (unhide HS1).r.store (.string s) (.string t)
  have hb : Below w.heap.size w (store2 wg (w.heap.size + 1 + 1) (.string s) (.string t)) := below_store2 (unhide HS1).below (by omega) _ _
  obtain ⟨V9, hV9⟩ : ∃ V9, V9 = store2 wg (w.heap.size + 1 + 1) (.string s) (.string t) := ⟨_, rfl⟩
  have hV9' : V9 = (wg.setCell ⟨w.heap.size + 1 + 1, 0, none⟩ (.string s)).setCell ⟨w.heap.size + 1 + 1, 1, none⟩ (.string t) := hV9
  have u0 := hS.c0; have u1 := hS.c1
  rw [← hV9] at u0 u1 hb
  rw [← hV9']
  have HB9 := hide hb
  clear hV9 hV9' hS hb
  go_wp2_with fail
  exact bodyPost_ret (v := .tuple #[.agg #[.string s, .string t], .int .i64 er]) (by simp [results, Tryz.results35, go_sem, u0, u1]) rfl ⟨rfl, unhide HB9⟩

end Go.Proofs.YtoinadnpdbaamaaGreatDoor

namespace Go.Proofs.YtoinadnpdbaamaaGreatDoor
open Go.RowKit

theorem bd_val (b : Bool) {n d k : Nat} (hd : 0 < d) (hn : n < 10 ^ k) (hdk : d < 10 ^ k) : Bd k (Cub.valQ b n d) := by
  obtain ⟨h1, h2⟩ := Cub.ratio_low (b := b) (n := n) hd
  obtain ⟨_, e2, e3⟩ := Cub.low_is h1
  rw [h2] at e2 e3
  exact ⟨by rw [← e2]; exact Nat.lt_of_le_of_lt (Nat.div_le_self _ _) hn, by rw [← e3]; exact Nat.lt_of_le_of_lt (Nat.div_le_self _ _) hdk⟩
theorem bd_mul {d : Nat} {x y : Rat} (hx : Bd d x) (hy : Bd d y) : Bd (d + d) (x * y) := by
  have px := x.den_pos
  have py := y.den_pos
  have e := valQ_mul (b := decide (x < 0)) (c := decide (y < 0)) (n := x.num.natAbs) (m := y.num.natAbs) px py
  rw [(Cub.low_of x).2, (Cub.low_of y).2] at e
  rw [← e]
  exact bd_val _ (Nat.mul_pos px py) (pow_two d _ _ hx.1 hy.1) (pow_two d _ _ hx.2 hy.2)
theorem bd_add {d : Nat} {x y : Rat} (hx : Bd d x) (hy : Bd d y) : Bd (d + d + 1) (x + y) := by
  have px := x.den_pos
  have py := y.den_pos
  have lx := Cub.low_of x
  have ly := Cub.low_of y
  have bX := pow_two d _ _ hx.1 hy.2
  have bY := pow_two d _ _ hy.1 hx.2
  have e := Cub.refAdd_val lx.1 ly.1 (bb := (Cub.addSg (decide (x < 0)) (x.num.natAbs * y.den) (decide (y < 0)) (y.num.natAbs * x.den)).1) (m := (Cub.addSg (decide (x < 0)) (x.num.natAbs * y.den) (decide (y < 0)) (y.num.natAbs * x.den)).2) rfl
  rw [lx.2, ly.2] at e
  rw [← e]
  refine bd_val _ (Nat.mul_pos px py) ?_ (pow_up (pow_two d _ _ hx.2 hy.2) (by omega))
  have hs := pow_sum (d + d) _ _ bX bY
  refine Nat.lt_of_le_of_lt ?_ hs
  unfold Cub.addSg
  split
  · exact Nat.le_refl _
  · split
    · show _ - _ ≤ _
      omega
    · show _ - _ ≤ _
      omega
theorem bd_neg {d : Nat} {x : Rat} (hx : Bd d x) : Bd d (-x) := by
  have lx := Cub.low_of x
  obtain ⟨h1, h2⟩ := Cub.neg_low lx.1
  rw [lx.2] at h2
  rw [← h2]
  exact bd_val _ x.den_pos hx.1 hx.2
theorem bd_inv {d : Nat} {x : Rat} (hx : Bd d x) (h0 : x ≠ 0) : Bd d x⁻¹ := by
  have lx := Cub.low_of x
  have hn : x.num.natAbs ≠ 0 := fun e => h0 (Rat.num_eq_zero.1 (Int.natAbs_eq_zero.1 e))
  obtain ⟨h1, h2⟩ := Cub.inv_low lx.1 hn
  rw [lx.2] at h2
  rw [← h2]
  exact bd_val _ (by omega) hx.2 hx.1
theorem IsR.bd {num den : ByteArray} {x : Rat} (h : IsR num den x) : Bd 600 x := h.1
theorem ref18_yes {num den : ByteArray} {x : Rat} (h : IsR num den x) (W : World) : Calls Tryz.prog 18 #[.agg #[.string num, .string den]] W fun r w' => r = .returned (.bool true) ∧ Below W.heap.size W w' := by
  have hz := h.size
  obtain ⟨ok, h1, h2⟩ := refR_any num den W (by unfold maxLen; omega) (by unfold maxLen; omega)
  rw [h1.2 ((right_isR num den).2 ⟨x, h⟩)] at h2
  exact h2
theorem refAdd_ok (n1 d1 n2 d2 : ByteArray) (x y : Rat) (w : World) (h1 : IsR n1 d1 x) (h2 : IsR n2 d2 y) : Ans 29 #[.agg #[.string n1, .string d1], .agg #[.string n2, .string d2]] w (numT (x + y)) (denT (x + y)) (errT (x + y)) :=
  refAdd_walk n1 d1 n2 d2 _ _ _ _ _ _ w (ref18_yes h1) (ref18_yes h2) (fun W => refRead n1 d1 x W h1) (fun W => refRead n2 d2 y W h2) (fun W => refFPlus 600 x y W (by omega) (by omega) h1.bd h2.bd) (fun W => refToldQ (600 + 600 + 1) (x + y) W (by omega) (by omega) (bd_add h1.bd h2.bd))
theorem refSub_ok (n1 d1 n2 d2 : ByteArray) (x y : Rat) (w : World) (h1 : IsR n1 d1 x) (h2 : IsR n2 d2 y) : Ans 31 #[.agg #[.string n1, .string d1], .agg #[.string n2, .string d2]] w (numT (x + -y)) (denT (x + -y)) (errT (x + -y)) :=
  refSub_walk n1 d1 n2 d2 _ _ _ _ _ _ _ w (ref18_yes h1) (ref18_yes h2) (fun W => refRead n1 d1 x W h1) (fun W => refRead n2 d2 y W h2) (fun W => refFMinus y W) (fun W => refFPlus 600 x (-y) W (by omega) (by omega) h1.bd (bd_neg h2.bd)) (fun W => refToldQ (600 + 600 + 1) (x + -y) W (by omega) (by omega) (bd_add h1.bd (bd_neg h2.bd)))
theorem refMul_ok (n1 d1 n2 d2 : ByteArray) (x y : Rat) (w : World) (h1 : IsR n1 d1 x) (h2 : IsR n2 d2 y) : Ans 33 #[.agg #[.string n1, .string d1], .agg #[.string n2, .string d2]] w (numT (x * y)) (denT (x * y)) (errT (x * y)) :=
  refMul_walk n1 d1 n2 d2 _ _ _ _ _ _ w (ref18_yes h1) (ref18_yes h2) (fun W => refRead n1 d1 x W h1) (fun W => refRead n2 d2 y W h2) (fun W => refFTimes 600 x y W (by omega) (by omega) h1.bd h2.bd) (fun W => refToldQ (600 + 600) (x * y) W (by omega) (by omega) (bd_mul h1.bd h2.bd))
theorem isR_num_zero {num den : ByteArray} {x : Rat} (h : IsR num den x) : (num.toList == [48]) = decide (x = 0) := by
  obtain ⟨hsm, en, ed⟩ := h
  have e1 : num = sT (decide (x < 0)) x.num.natAbs := by rw [en]; unfold numT; rw [if_pos hsm]
  by_cases h0 : x = 0
  · subst h0
    rw [e1, decide_eq_true rfl]
    exact tb_zero (pos10 600)
  · rw [decide_eq_false h0, e1, Lib.toList_data, sT_list]
    have hn : x.num.natAbs ≠ 0 := fun e => h0 (Rat.num_eq_zero.1 (Int.natAbs_eq_zero.1 e))
    split
    · rw [beq_eq_false_iff_ne]
      intro e
      have := (List.cons.inj e).1
      cases this
    · have := tb_pos x.num.natAbs hsm.1 (by omega)
      rw [Lib.toList_data] at this
      exact this
theorem refQuo_ok (n1 d1 n2 d2 : ByteArray) (x y : Rat) (w : World) (h1 : IsR n1 d1 x) (h2 : IsR n2 d2 y) (hy : y ≠ 0) : Ans 35 #[.agg #[.string n1, .string d1], .agg #[.string n2, .string d2]] w (numT (x * y⁻¹)) (denT (x * y⁻¹)) (errT (x * y⁻¹)) :=
  refQuo_walk n1 d1 n2 d2 _ _ _ _ _ _ _ w (ref18_yes h1) (ref18_yes h2) (fun W => refRead n1 d1 x W h1) (fun W => refRead n2 d2 y W h2) (fun W => refFOver y hy W) (by rw [isR_num_zero h2, decide_eq_false hy]) (fun W => refFTimes 600 x y⁻¹ W (by omega) (by omega) h1.bd (bd_inv h2.bd hy)) (fun W => refToldQ (600 + 600) (x * y⁻¹) W (by omega) (by omega) (bd_mul h1.bd (bd_inv h2.bd hy)))

end Go.Proofs.YtoinadnpdbaamaaGreatDoor

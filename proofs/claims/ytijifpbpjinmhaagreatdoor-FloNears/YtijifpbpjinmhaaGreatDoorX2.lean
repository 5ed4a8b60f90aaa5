/- The document's two (92), value (42). -/
import Derived.Test.YtijifpbpjinmhaaGreatDoorRefGcd
import Derived.Test.YtijifpbpjinmhaaGreatDoorText
import Derived.Test.YtijifpbpjinmhaaGreatDoorGcdMath2
import Derived.Test.YtijifpbpjinmhaaGreatDoorRefTimes
import Derived.Test.YtijifpbpjinmhaaGreatDoorCmpMath
import Derived.Lib.ItoaLen
set_option maxHeartbeats 2000000
set_option maxRecDepth 100000
namespace Go.Proofs.YtijifpbpjinmhaaGreatDoor
open Go.RowKit
theorem refDivideG (s t : ByteArray) (w : World) (hs1 : Cub.isNat s.data.toList) (ht1 : Cub.isNat t.data.toList) (hsz : s.size ≤ 5000) (htz : t.size ≤ 5000) (h0 : 0 < val t) :
    Calls Tryz.prog 83 #[.string s, .string t] w fun e w' => e = .returned (.tuple #[.string ⟨(Lib.decDigits (val s / val t)).toArray⟩, .string ⟨(Lib.decDigits (val s % val t)).toArray⟩]) ∧ Below w.heap.size w w' := by
  have hs2 : s.data.toList.length ≤ 5000 := by rw [list_len]; exact hsz
  have ht2 : t.data.toList.length ≤ 5000 := by rw [list_len]; exact htz
  have HLS : Hid (∀ W : World, Calls Tryz.prog 119 #[.string s] W fun e w' => ∃ v l, e = .returned v ∧ OwnI w' W.heap.size v l ∧ Cub.normal 10000 l ∧ Cub.lval 10000 l = val s ∧ l.length ≤ 5000 ∧ Below W.heap.size W w') := fun W => by
    refine (refLimbs_any s W (by omega) hs1.1).mono ?_
    rintro e w' ⟨v, l, he, ho, hn, hv, hb⟩
    exact ⟨v, l, he, ho, hn, hv, by have := Cub.len_le4 hs1.1 hn hv; omega, hb⟩
  have HLT : Hid (∀ W : World, Calls Tryz.prog 119 #[.string t] W fun e w' => ∃ v l, e = .returned v ∧ OwnI w' W.heap.size v l ∧ Cub.normal 10000 l ∧ Cub.lval 10000 l = val t ∧ l.length ≤ 5000 ∧ Below W.heap.size W w') := fun W => by
    refine (refLimbs_any t W (by omega) ht1.1).mono ?_
    rintro e w' ⟨v, l, he, ho, hn, hv, hb⟩
    exact ⟨v, l, he, ho, hn, hv, by have := Cub.len_le4 ht1.1 hn hv; omega, hb⟩
  have HSS : Hid (s = ⟨(Lib.decDigits (val s)).toArray⟩) := by
    show _ = _
    have : Lib.decDigits (val s) = s.data.toList := Cub.dec_dval _ _ rfl hs1
    rw [this]
  clear hs1 hs2 ht1 ht2 hsz htz
  go_enter Tryz.func83, Tryz.ntmps83
  go_upto_region 3 with (first
    | (go_at_call_of 119 s; go_must (refine (unhide HLS w).mono ?_; rintro e w1 ⟨vx, X, rfl, ho1, hnX, hvX, hlX, hb1⟩; have HX := hide (And.intro ho1 (And.intro hnX hvX)); clear ho1 hnX hvX; have hs1 := hb1.size))
    | (go_at_call_of 119 t; go_must (refine (unhide HLT w1).mono ?_; rintro e w2 ⟨vy, Y, rfl, ho2, hnY, hvY, hlY, hb2⟩; have HY := hide (And.intro ho2 (And.intro hnY hvY)); clear ho2 hnY hvY)))
  have hs2 : w.heap.size ≤ w2.heap.size := Nat.le_trans hs1 hb2.size
  have HB2 := hide (hb1.trans (hb2.mono hs1))
  have H85 := hide (refLess_any vx vy X Y w2 (RowI.of_own ((unhide HX).1.later hb2)) (RowI.of_own (unhide HY).1) (unhide HX).2.1 (unhide HY).2.1)
  rw [(unhide HX).2.2, (unhide HY).2.2] at H85
  by_cases hlt : val s < val t
  · rw [decide_eq_true hlt] at H85
    have HQ : Hid (Lib.decDigits (val s / val t) = [48] ∧ val s % val t = val s) := ⟨by rw [Nat.div_eq_of_lt hlt]; exact dec_zero, Nat.mod_eq_of_lt hlt⟩
    clear hlt h0 HLS HLT hb1 hb2
    go_wp2_with (go_at_call 130; go_must (refine (unhide H85).mono ?_; rintro e w3 ⟨rfl, hb3⟩))
    go_ret2
    exact ⟨by rw [(unhide HQ).1, (unhide HQ).2, ← unhide HSS]; rfl, (unhide HB2).trans (hb3.mono hs2)⟩
  · rw [decide_eq_false hlt] at H85
    have hYne : Y ≠ [] := fun e => by have := (unhide HY).2.2; rw [e] at this; have h2 : Cub.lval 10000 [] = 0 := rfl; omega
    have hyx : Y.length ≤ X.length := Cub.normal_len_le (by decide) (unhide HX).2.1.1 (unhide HY).2.1 (by rw [(unhide HX).2.2, (unhide HY).2.2]; omega)
    have hYl : 0 < Y.length := List.length_pos_iff.2 hYne
    have hXne : X ≠ [] := fun e => by rw [e] at hyx; simp at hyx; exact hYne hyx
    obtain ⟨g, cX, rfl, hg1, hg2, hcX, hmX⟩ := own_block (unhide HX).1 hXne
    obtain ⟨gy, cY, rfl, hy1, hy2, hcY, hmY⟩ := own_block (unhide HY).1 hYne
    have HS0 : Hid (Cub.lval 10000 (X.drop (X.length - Y.length + 1)) < Cub.lval 10000 Y) := by
      show _ < _
      have h1 := Cub.lval_lt (Cub.limbs_drop4 (unhide HX).2.1.1 (X.length - Y.length + 1))
      rw [List.length_drop] at h1
      have h2 := Cub.normal_ge (unhide HY).2.1 hYne
      have h3 : X.length - (X.length - Y.length + 1) = Y.length - 1 := by omega
      rw [h3] at h1
      omega
    have HX2 := hide ((unhide HX).1.later hb2)
    have HDV : Hid (Cub.DivInv (val s) (val t) X (List.replicate X.length 0) X.length (X.length - Y.length + 1)) := by
      have := Cub.DivInv.start (A := val s) (V := val t) (unhide HX).2.1.1 (unhide HX).2.2 (up := X.length - Y.length + 1) (by rw [← (unhide HY).2.2]; exact unhide HS0)
      exact this
    have HYY := hide (unhide HY)
    obtain ⟨nX, hnX⟩ : ∃ nX, nX = X.length := ⟨_, rfl⟩
    obtain ⟨nY, hnY⟩ : ∃ nY, nY = Y.length := ⟨_, rfl⟩
    rw [← hnX] at HX2 HDV H85 hcX hyx hlX ⊢
    rw [← hnY] at HYY HDV H85 hcY hyx hYl hlY ⊢
    have HNX := hide hnX
    have HNY := hide hnY
    have HLT2 := hide hlt
    have hb2s := hb2.size
    clear hlt HSS HLS HLT hb1 hb2 HX HY HS0 hYne hXne hnX hnY
    obtain ⟨i0, hi, hz0, hz1, hz2⟩ := info_parts Tryz.info3
    go_wp2_with (first
      | (go_at_call 130; go_must (refine (unhide H85).mono ?_; rintro e w3 ⟨rfl, hb3⟩; have HX3 := hide ((unhide HX2).later hb3); have HY3 := hide ((unhide HYY).1.later hb3); have HB3 := hide ((unhide HB2).trans (hb3.mono hs2)); have hs3 := hb3.size; clear hb3))
      | (at_make; go_must (refine wpList_make_full _ rfl _ _ 138 rfl w3.heap.size 3 i0 (.int .i64 0) 1 Tryz.underlying138 hi hz0 hz1 .i64 .i64 _ _ nX rfl rfl (by omega) (by omega) (by rw [hz2]; omega) (by unfold maxLen; omega) (Nat.le_refl _) ?_; intro w4 hown4 hgrow4; rw [i64s_made] at hown4; have hb4 : Below w3.heap.size w3 w4 := (Below.refl _ _).grown hgrow4 (Nat.le_refl _) (fun k hk => by cases hk); have HQ4 : Hid (OwnI w4 w3.heap.size (.slice (some ⟨w3.heap.size, 0, none⟩) nX nX) (List.replicate nX 0)) := (by show World.ownsRow _ _ _ _ _ _ _; rw [List.length_replicate]; exact hown4); have HX4 := hide ((unhide HX3).later hb4); have HY4 := hide ((unhide HY3).later hb4); have HB4 := hide ((unhide HB3).trans (hb4.mono (Nat.le_trans hs2 hs3))); clear hown4 hgrow4 hb4)))
    have hgq : g < w3.heap.size := by omega
    have hgyq : gy < w3.heap.size := by omega
    have hwq : w.heap.size ≤ w3.heap.size := by omega
    have hygg : g < w1.heap.size := hg2
    generalize hgw : w3.heap.size = gq at *
    clear hgw H85 HX2 HX3 HY3 HB3 HB2
    go_loopw [9] (fun v9 wr => ∃ (u : Nat) (X Q : List Nat), v9 = .int .i64 ((u : Int) - 1) ∧ u ≤ nX - nY + 1 ∧ Hid (Cub.DivInv (val s) (val t) X Q nX u) ∧ Hid (OwnI wr w.heap.size (.slice (some ⟨g, 0, none⟩) nX cX) X) ∧ Hid (OwnI wr w1.heap.size (.slice (some ⟨gy, 0, none⟩) nY cY) Y) ∧ Hid (OwnI wr gq (.slice (some ⟨gq, 0, none⟩) nX nX) Q) ∧ Hid (Below w.heap.size w wr)) (fun v9 _ => (intOf v9 + 1).toNat)
    case atStart => exact ⟨nX - nY + 1, X, _, by go_num, Nat.le_refl _, HDV, HX4, HY4, HQ4, HB4⟩
    case round =>
      obtain ⟨u, X', Q, rfl, hu, HI, HOX, HOY, HOQ, HB⟩ := hrel
      clear HDV HX4 HY4 HQ4 HB4 HNX X
      have HVY := hide (unhide HYY).2
      clear HYY
      by_cases hu0 : u = 0
      · subst hu0
        obtain ⟨d1, d2⟩ := (unhide HI).done
        obtain ⟨q1, q2, _⟩ := Cub.lval_trim 10000 _ Q rfl
        obtain ⟨x1, x2, _⟩ := Cub.lval_trim 10000 _ X' rfl
        have HTQ : Hid (Cub.normal 10000 (Cub.trimN Q) ∧ Cub.lval 10000 (Cub.trimN Q) = val s / val t ∧ (Cub.trimN Q).length ≤ 1000000) := ⟨q2 (unhide HI).limQ, q1.trans d1, by
          have h := Cub.len_leB (B := 10000) (by decide) (k := nX) (q2 (unhide HI).limQ) (by rw [q1]; have := Cub.lval_lt (unhide HI).limQ; rw [(unhide HI).lenQ] at this; exact this)
          omega⟩
        have HTX : Hid (Cub.normal 10000 (Cub.trimN X') ∧ Cub.lval 10000 (Cub.trimN X') = val s % val t ∧ (Cub.trimN X').length ≤ 1000000) := ⟨x2 (unhide HI).limX, x1.trans d2, by
          have h := Cub.len_leB (B := 10000) (by decide) (k := nX) (x2 (unhide HI).limX) (by rw [x1]; have := Cub.lval_lt (unhide HI).limX; rw [(unhide HI).lenX] at this; exact this)
          omega⟩
        have H77q := hide (refTrim_any _ gq Q wr (unhide HOQ))
        clear d1 d2 q1 q2 x1 x2 HI
        have hbs := (unhide HB).size
        go_wp2_with fail
        refine (unhide H77q).mono ?_
        rintro e w5 ⟨vq, rfl, hoq, hw5⟩
        rw [hw5]
        have H76q := hide (refText_any vq gq (Cub.trimN Q) wr hoq (unhide HTQ).1 (unhide HTQ).2.2)
        rw [(unhide HTQ).2.1] at H76q
        clear hoq hw5 H77q
        go_wp2_with fail
        refine (unhide H76q).mono ?_
        rintro e w6 ⟨rfl, hb6⟩
        have H77x := hide (refTrim_any _ w.heap.size X' w6 ((unhide HOX).later hb6))
        clear H76q
        go_wp2_with fail
        refine (unhide H77x).mono ?_
        rintro e w7 ⟨vt, rfl, hot, hw7⟩
        rw [hw7]
        have H76x := hide (refText_any vt w.heap.size (Cub.trimN X') w6 hot (unhide HTX).1 (unhide HTX).2.2)
        rw [(unhide HTX).2.1] at H76x
        clear hot hw7 H77x
        go_wp2_with fail
        refine (unhide H76x).mono ?_
        rintro e w8 ⟨rfl, hb8⟩
        have hb9 := (unhide HB).trans ((hb6.trans (hb8.mono hb6.size)).mono hbs)
        go_wp2_with fail
        go_ret2
        exact ⟨rfl, hb9⟩
      · obtain ⟨up, rfl⟩ : ∃ up, u = up + 1 := ⟨u - 1, by omega⟩
        have hupn : up < nX := by omega
        have hnYY := unhide HNY
        have hlX' := (unhide HI).lenX
        obtain ⟨q, hq⟩ : ∃ q, q = Cub.lval 10000 (X'.drop up) / Cub.lval 10000 Y := ⟨_, rfl⟩
        have hq9 : q ≤ 9999 := by rw [hq, (unhide HVY).2]; exact (unhide HI).quo hupn
        have H86 := hide (refFits_any (.slice (some ⟨g, 0, none⟩) nX cX) (.slice (some ⟨gy, 0, none⟩) nY cY) w.heap.size w1.heap.size X' Y up q wr (unhide HOX) (unhide HOY) (unhide HI).limX (unhide HVY).1 (by omega) (by omega) (by omega) (by rw [← hq]; exact hq9) (by rw [(unhide HVY).2]; exact h0) hq)
        have hle : q * Cub.lval 10000 Y ≤ Cub.lval 10000 (X'.drop up) := by rw [hq]; exact Nat.div_mul_le_self _ _
        have HST : Hid (∀ D : List Nat, D.length = X'.length → Cub.limbs 10000 D → D.take up = X'.take up → Cub.lval 10000 (D.drop up) + q * Cub.lval 10000 Y = Cub.lval 10000 (X'.drop up) → Cub.DivInv (val s) (val t) D (Q.set up q) nX up) := fun D h1 h2 h3 h4 => (unhide HI).step hupn (by rw [hq, (unhide HVY).2]) h1 h2 h3 (by rw [← (unhide HVY).2]; exact h4)
        have HLQ : Hid (Q.length = nX) := (unhide HI).lenQ
        have H87 : Hid (∀ W : World, OwnI W w.heap.size (.slice (some ⟨g, 0, none⟩) nX cX) X' → OwnI W w1.heap.size (.slice (some ⟨gy, 0, none⟩) nY cY) Y → Calls Tryz.prog 132 #[.slice (some ⟨g, 0, none⟩) nX cX, .slice (some ⟨gy, 0, none⟩) nY cY, .int .i64 (up : Int), .int .i64 (q : Int)] W fun e w' => e = .returned (.tuple #[]) ∧ (∃ D, OwnI w' w.heap.size (.slice (some ⟨g, 0, none⟩) nX cX) D ∧ D.length = X'.length ∧ Cub.limbs 10000 D ∧ D.take up = X'.take up ∧ Cub.lval 10000 (D.drop up) + q * Cub.lval 10000 Y = Cub.lval 10000 (X'.drop up)) ∧ W.grownBy w' (some g)) := fun W hx hy =>
          refTake_any _ w.heap.size w1.heap.size g nX cX X' Y up q W hlX'.symm hx hy hygg (unhide HI).limX (unhide HVY).1.1 (by omega) (by omega) hq9 hle
        have HZ : Hid (q = 0 → Cub.DivInv (val s) (val t) X' (Q.set up q) nX up) := fun h => unhide HST X' rfl (unhide HI).limX rfl (by rw [h]; simp)
        have ej : ((up + 1 : Nat) : Int) - 1 = (up : Int) := by omega
        rw [ej]
        have hbs := (unhide HB).size
        clear hq hle hnYY hlX' HI HNY HVY ej hu0
        have hupI : (up : Int) < (nX : Int) := by omega
        go_upto_region 10 with (first
          | (go_at_call 131; go_must (refine (unhide H86).mono ?_; rintro e w5 ⟨rfl, hb5⟩; have HOX5 := hide ((unhide HOX).later hb5); have HOY5 := hide ((unhide HOY).later hb5); have HOQ5 := hide ((unhide HOQ).later hb5); have HB5 := hide ((unhide HB).trans (hb5.mono hbs)); clear hb5; have hupQ : up < Q.length := (by have := unhide HLQ; omega); have HROW : Hid (w5.ownsRow gq 3 1 (.slice (some ⟨gq, 0, none⟩) nX nX) nX (i64s Q)) := (by have h := unhide HOQ5; unfold OwnI at h; rw [unhide HLQ] at h; exact h); have cq : w5.cell? ⟨gq, up, none⟩ = some (.int .i64 (Q[up] : Int)) := (by rw [(unhide HROW).cellAt up (by omega), i64s_get Q up hupQ]); have fq : w5.frozen? ⟨gq, up, none⟩ = false := (unhide HROW).frozenAt up)))
        obtain ⟨W, hW⟩ : ∃ W, W = w5.setCell ⟨gq, up, none⟩ (.int .i64 (q : Int)) := ⟨_, rfl⟩
        have HOX6 : Hid (OwnI W w.heap.size (.slice (some ⟨g, 0, none⟩) nX cX) X') := by rw [hW]; exact own_other (unhide HOX5) (by omega)
        have HOY6 : Hid (OwnI W w1.heap.size (.slice (some ⟨gy, 0, none⟩) nY cY) Y) := by rw [hW]; exact own_other (unhide HOY5) (by omega)
        have HOQ6 : Hid (OwnI W gq (.slice (some ⟨gq, 0, none⟩) nX nX) (Q.set up q)) := by rw [hW]; exact own_set (unhide HOQ5) (unhide HLQ).symm q _ rfl
        have HB6 : Hid (Below w.heap.size w W) := by rw [hW]; exact (unhide HB5).setCell (by exact hwq) _
        have cW : W.cell? ⟨gq, up, none⟩ = some (.int .i64 (q : Int)) := by rw [hW]; exact World.cell?_setCell_same _ _ _ cq
        rw [← hW]
        clear hW cq fq HROW HOX5 HOY5 HOQ5 HB5 HOX HOY HOQ HB H86 hupQ
        by_cases hq0 : 0 < q
        · have H87w := hide (unhide H87 W (unhide HOX6) (unhide HOY6))
          have hqI : (0 : Int) < (q : Int) := by omega
          clear H87 HZ
          go_wp2_with (go_at_call 132; go_must (refine (unhide H87w).mono ?_; rintro e w7 ⟨rfl, hD, hg7⟩; obtain ⟨D, hoD, hl, hlim, hlow, hsum⟩ := hD; have HI7 := hide (unhide HST D hl hlim hlow hsum); have HOX7 := hide hoD; have HOY7 := hide (own_grown (unhide HOY6) hg7 hygg); have HOQ7 := hide (own_grown (unhide HOQ6) hg7 hgq); have HB7 := hide ((unhide HB6).grown hg7 (unhide HB6).size (fun k hk => by simp only [Option.some.injEq] at hk; omega)); clear hoD hl hlim hlow hsum hg7))
          go_roundw
          case rel => exact ⟨up, D, Q.set up q, by go_num, by omega, HI7, HOX7, HOY7, HOQ7, HB7⟩
          case measure => simp [intOf]
        · have HI7 := hide (unhide HZ (by omega))
          have hqI : ¬ (0 : Int) < (q : Int) := by omega
          clear H87 HZ HST
          go_wp2_with fail
          go_roundw
          case rel => exact ⟨up, X', Q.set up q, by go_num, by omega, HI7, HOX6, HOY6, HOQ6, HB6⟩
          case measure => simp [intOf]
theorem lit_tb (s : ByteArray) (n : Nat) (h : Cub.rightB s.data.toList = true) (hv : Cub.dval s.data.toList = n) : s = tb n ∧ n < 10 ^ 600 := by
  obtain ⟨m, hm, rfl⟩ := tb_of h
  have := (tb_right m hm).2
  have e : m = n := this.symm.trans hv
  subst e
  exact ⟨rfl, hm⟩
/-- A number's text. -/
def tx (n : Nat) : ByteArray := ⟨(Lib.decDigits n).toArray⟩
theorem tx_list (n : Nat) : (tx n).data.toList = Lib.decDigits n := rfl
theorem tx_val (n : Nat) : val (tx n) = n := Cub.dval_dec n
theorem tx_nat (n : Nat) : Cub.isNat (tx n).data.toList := Cub.isNat_dec n
theorem tx_tb (n : Nat) (h : n < 10 ^ 600) : tb n = tx n := (mk_tb n h).symm
theorem tx_size {d n : Nat} (hd : 1 ≤ d) (h : n < 10 ^ d) : (tx n).size ≤ d := by
  have := (Cub.dec_len_lt n d hd).2 h
  rw [← tx_list, list_len] at this
  exact this
theorem tx_zero : ((tx 0).toList == [48]) = true := by
  rw [Lib.toList_data, tx_list, dec_zero]; rfl
theorem tx_pos (n : Nat) (h0 : 0 < n) : ((tx n).toList == [48]) = false := by
  rw [Lib.toList_data, tx_list, beq_eq_false_iff_ne]
  intro e
  rw [← dec_zero] at e
  have := Cub.dec_inj e
  omega
theorem refDivideM (d m n : Nat) (w : World) (hd1 : 1 ≤ d) (hd : d ≤ 5000) (hm : m < 10 ^ d) (hn : n < 10 ^ d) (h0 : 0 < n) :
    Calls Tryz.prog 83 #[.string (tx m), .string (tx n)] w fun e w' => e = .returned (.tuple #[.string (tx (m / n)), .string (tx (m % n))]) ∧ Below w.heap.size w w' := by
  have h := refDivideG (tx m) (tx n) w (tx_nat m) (tx_nat n) (Nat.le_trans (tx_size hd1 hm) hd) (Nat.le_trans (tx_size hd1 hn) hd) (by rw [tx_val]; exact h0)
  rw [tx_val, tx_val] at h
  exact h
theorem refPlusM (d m n : Nat) (w : World) (hd1 : 1 ≤ d) (hd : d ≤ 5000) (hm : m < 10 ^ d) (hn : n < 10 ^ d) :
    Calls Tryz.prog 84 #[.string (tx m), .string (tx n)] w fun e w' => e = .returned (.string (tx (m + n))) ∧ Below w.heap.size w w' := by
  have s1 := tx_size hd1 hm
  have s2 := tx_size hd1 hn
  have h := refPlus_any (tx m) (tx n) w (by omega) (by omega) (tx_nat m).1 (tx_nat n).1
  rw [show Cub.dval (tx m).data.toList = m from tx_val m, show Cub.dval (tx n).data.toList = n from tx_val n] at h
  exact h
theorem refTimesS_any (s t : ByteArray) (w : World) (hs : s.size ≤ 100000) (ht : t.size ≤ 100000) (hds : Cub.digs s.data.toList) (hdt : Cub.digs t.data.toList) :
    Calls Tryz.prog 70 #[.string s, .string t] w fun e w' => e = .returned (.string ⟨(Lib.decDigits (Cub.dval s.data.toList * Cub.dval t.data.toList)).toArray⟩) ∧ Below w.heap.size w w' := by
  have HDS := hide hds
  have HDT := hide hdt
  clear hds hdt
  go_enter Tryz.func70, Tryz.ntmps70
  go_wp2_with (first
    | (go_at_call_of 119 s; refine (refLimbs_any s _ (by omega) (unhide HDS)).mono ?_; rintro e w1 ⟨vx, lx, rfl, hox, hnx, hvx, hb1⟩; have HX := hide (And.intro hnx (And.intro hvx hox)); have hbx : lx.length ≤ 100000 := (by have := Cub.len_le4 (unhide HDS) hnx hvx; rw [list_len] at this; omega); clear hnx hvx hox)
    | (go_at_call_of 119 t; refine (refLimbs_any t _ (by omega) (unhide HDT)).mono ?_; rintro e w2 ⟨vy, ly, rfl, hoy, hny, hvy, hb2⟩; have HY := hide (And.intro hny (And.intro hvy hoy)); have hby : ly.length ≤ 100000 := (by have := Cub.len_le4 (unhide HDT) hny hvy; rw [list_len] at this; omega); clear hny hvy hoy)
    | (go_at_call 118; refine (refTimes_any vx vy _ _ lx ly _ ((unhide HX).2.2.later hb2) (unhide HY).2.2 (unhide HX).1.1 (unhide HY).1.1 (by omega) (by omega)).mono ?_; rintro e w3 ⟨vz, lz, rfl, hoz, hnz, hvz, hlz, hb3⟩; have HZ := hide (And.intro hnz (And.intro hvz hoz)); clear hnz hvz hoz)
    | (go_at_call 117; refine (refText_any _ _ _ _ (unhide HZ).2.2 (unhide HZ).1 (by omega)).mono ?_; rintro e w4 ⟨rfl, hb4⟩))
  go_ret
  have hb12 := hb1.trans (hb2.mono hb1.size)
  have hb13 := hb12.trans (hb3.mono hb12.size)
  exact ⟨by rw [← (unhide HX).2.1, ← (unhide HY).2.1, ← (unhide HZ).2.1]; rfl, hb13.trans (hb4.mono hb13.size)⟩
theorem refTimesM (d m n : Nat) (w : World) (hd1 : 1 ≤ d) (hd : d ≤ 5000) (hm : m < 10 ^ d) (hn : n < 10 ^ d) :
    Calls Tryz.prog 70 #[.string (tx m), .string (tx n)] w fun e w' => e = .returned (.string (tx (m * n))) ∧ Below w.heap.size w w' := by
  have s1 := tx_size hd1 hm
  have s2 := tx_size hd1 hn
  have h := refTimesS_any (tx m) (tx n) w (by omega) (by omega) (tx_nat m).1 (tx_nat n).1
  rw [show Cub.dval (tx m).data.toList = m from tx_val m, show Cub.dval (tx n).data.toList = n from tx_val n] at h
  exact h
/-- How far Euclid's steps have come. -/
def ComInvM (d M N m n : Nat) (a b : ByteArray) : Prop := a = tx m ∧ b = tx n ∧ m < 10 ^ d ∧ n < 10 ^ d ∧ Nat.gcd m n = Nat.gcd M N
theorem refCommonM (d M N : Nat) (w : World) (hd1 : 1 ≤ d) (hd : d ≤ 5000) (hM : M < 10 ^ d) (hN : N < 10 ^ d) :
    Calls Tryz.prog 80 #[.string (tx M), .string (tx N)] w fun e w' => e = .returned (.string (tx (Nat.gcd M N))) ∧ Below w.heap.size w w' := by
  have HI : Hid (ComInvM d M N M N (tx M) (tx N)) := ⟨rfl, rfl, hM, hN, rfl⟩
  have HD : Hid (∀ m n (a b : ByteArray), ComInvM d M N m n a b → 0 < n → ∃ c r : ByteArray, ComInvM d M N n (m % n) b r ∧ ∀ W, Calls Tryz.prog 83 #[.string a, .string b] W fun e w' => e = .returned (.tuple #[.string c, .string r]) ∧ Below W.heap.size W w') := fun m n a b h h0 => by
    obtain ⟨rfl, rfl, hm, hn, hg⟩ := h
    refine ⟨tx (m / n), tx (m % n), ⟨rfl, rfl, hn, mod_lt' m n d hm, ?_⟩, fun W => refDivideM d m n W hd1 hd hm hn h0⟩
    rw [← hg, Nat.gcd_comm m n, Nat.gcd_rec n m, Nat.gcd_comm]
  have HZ : Hid (∀ m n (a b : ByteArray), ComInvM d M N m n a b → 0 < n → (b.toList == [48]) = false) := fun m n a b h h0 => by
    obtain ⟨rfl, rfl, hm, hn, hg⟩ := h
    exact tx_pos n h0
  have HE : Hid (∀ m (a b : ByteArray), ComInvM d M N m 0 a b → (b.toList == [48]) = true ∧ a = tx (Nat.gcd M N)) := fun m a b h => by
    obtain ⟨rfl, rfl, hm, hn, hg⟩ := h
    rw [Nat.gcd_zero_right] at hg
    exact ⟨tx_zero, by rw [← hg]⟩
  generalize tx M = a0 at *
  generalize tx N = b0 at *
  clear hM hN hd1 hd
  go_enter Tryz.func80, Tryz.ntmps80
  go_wp2
  go_loopg [0, 1] N (fun z v0 v1 wr => ∃ (m n : Nat) (a b : ByteArray), v0 = .string a ∧ v1 = .string b ∧ Hid (z = n) ∧ Hid (ComInvM d M N m n a b) ∧ Hid (Below w.heap.size w wr))
  case atStart => exact ⟨M, N, a0, b0, rfl, rfl, rfl, HI, Below.refl _ _⟩
  case round =>
    obtain ⟨m, n, a, b, rfl, rfl, HK, HC, HW⟩ := hrel
    clear HI
    rcases Nat.eq_zero_or_pos n with h0 | h0
    · subst h0
      obtain ⟨e1, e2⟩ := unhide HE m a b (unhide HC)
      have HV := hide e2
      clear e2 HE HD HZ HC
      go_wp2_with fail
      go_ret
      exact ⟨by rw [← unhide HV]; rfl, unhide HW⟩
    · have e1 := unhide HZ m n a b (unhide HC) h0
      obtain ⟨c, r, hc, hd⟩ := unhide HD m n a b (unhide HC) h0
      have HC2 := hide hc
      have HD2 := hide hd
      have HLT : Hid (m % n < n) := Nat.mod_lt _ h0
      clear hc hd HE HD HZ HC h0
      go_wp2_with (go_at_call 83; go_must (refine (unhide HD2 wr).mono ?_; rintro e w2 ⟨rfl, hb2⟩; have HW2 := hide ((unhide HW).trans (hb2.mono (unhide HW).size)); clear hb2))
      go_roundg (m % n)
      case measure => have := unhide HK; have := unhide HLT; omega
      case rel => exact ⟨n, m % n, b, r, rfl, rfl, rfl, HC2, HW2⟩
theorem toList_less (s t : ByteArray) (hs : Cub.isNat s.data.toList) (ht : Cub.isNat t.data.toList) (hl : s.size = t.size) : Op.bytesLess s.toList t.toList = decide (Cub.dval s.data.toList < Cub.dval t.data.toList) := by
  rw [Lib.toList_data, Lib.toList_data]
  exact Cub.bytesLess_dval _ _ hs.1 ht.1 (by rw [list_len, list_len]; exact hl)
theorem toList_same (s t : ByteArray) (hs : Cub.isNat s.data.toList) (ht : Cub.isNat t.data.toList) : (s.toList == t.toList) = decide (Cub.dval s.data.toList = Cub.dval t.data.toList) := by
  rw [Lib.toList_data, Lib.toList_data, Bool.eq_iff_iff, beq_iff_eq, decide_eq_true_eq]
  exact ⟨fun h => by rw [h], fun h => Cub.dval_inj hs ht h⟩
theorem compare_any (s t : ByteArray) (w : World) (hs : Cub.isNat s.data.toList) (ht : Cub.isNat t.data.toList) :
    Calls Tryz.prog 69 #[.string s, .string t] w fun e w' => e = .returned (.int .i64 (Cub.cmpN (Cub.dval s.data.toList) (Cub.dval t.data.toList))) ∧ w' = w := by
  by_cases hl : s.size = t.size
  · have hne : ((s.size : Int) != (t.size : Int)) = false := by rw [hl]; simp
    have hless := toList_less s t hs ht hl
    have hsame := toList_same s t hs ht
    by_cases hc : Cub.dval s.data.toList < Cub.dval t.data.toList
    · have e : Cub.cmpN (Cub.dval s.data.toList) (Cub.dval t.data.toList) = -1 := if_pos hc
      rw [e]
      rw [decide_eq_true hc] at hless
      clear hsame hs ht hl e hc
      go_enter Tryz.func69, Tryz.ntmps69
      go_wp2
      go_ret
      exact ⟨rfl, rfl⟩
    · rw [decide_eq_false hc] at hless
      by_cases hc2 : Cub.dval t.data.toList < Cub.dval s.data.toList
      · have e : Cub.cmpN (Cub.dval s.data.toList) (Cub.dval t.data.toList) = 1 := by unfold Cub.cmpN; rw [if_neg hc, if_pos hc2]
        rw [e]
        rw [decide_eq_false (by omega)] at hsame
        clear hs ht hl e hc hc2
        go_enter Tryz.func69, Tryz.ntmps69
        go_wp2
        go_ret
        exact ⟨rfl, rfl⟩
      · have e : Cub.cmpN (Cub.dval s.data.toList) (Cub.dval t.data.toList) = 0 := by unfold Cub.cmpN; rw [if_neg hc, if_neg hc2]
        rw [e]
        rw [decide_eq_true (by omega)] at hsame
        clear hs ht hl e hc hc2
        go_enter Tryz.func69, Tryz.ntmps69
        go_wp2
        go_ret
        exact ⟨rfl, rfl⟩
  · have hne : ((s.size : Int) != (t.size : Int)) = true := by rw [bne_iff_ne]; omega
    by_cases hlt : s.size < t.size
    · have e : Cub.cmpN (Cub.dval s.data.toList) (Cub.dval t.data.toList) = -1 := if_pos (Cub.len_lt_dval hs ht (by rw [list_len, list_len]; exact hlt))
      rw [e]
      clear hs ht hl e
      go_enter Tryz.func69, Tryz.ntmps69
      go_wp2
      go_ret
      exact ⟨rfl, rfl⟩
    · have e0 := Cub.len_lt_dval ht hs (by rw [list_len, list_len]; omega)
      have e : Cub.cmpN (Cub.dval s.data.toList) (Cub.dval t.data.toList) = 1 := by unfold Cub.cmpN; rw [if_neg (by omega), if_pos e0]
      rw [e]
      clear hs ht hl e e0
      go_enter Tryz.func69, Tryz.ntmps69
      go_wp2
      go_ret
      exact ⟨rfl, rfl⟩
theorem refCompareM (m n : Nat) (w : World) : Calls Tryz.prog 69 #[.string (tx m), .string (tx n)] w fun e w' => e = .returned (.int .i64 (Cub.cmpN m n)) ∧ w' = w := by
  have h := compare_any (tx m) (tx n) w (tx_nat m) (tx_nat n)
  rw [show Cub.dval (tx m).data.toList = m from tx_val m, show Cub.dval (tx n).data.toList = n from tx_val n] at h
  exact h
/-- How far Power has come: what is there times what is still to come is the power; nothing on the way is M or above. -/
def PowInv (P M out a q : Nat) : Prop := out * a ^ q = P ∧ out < M ∧ (0 < q → a < M) ∧ (out = 0 → a = 0)
theorem PowInv.start (m n M : Nat) (h : m ^ n < M) (h1 : 1 < M) : PowInv (m ^ n) M 1 m n := by
  refine ⟨Nat.one_mul _, h1, fun hn => ?_, fun h => by omega⟩
  by_cases h0 : m = 0
  · omega
  · have : m ^ 1 ≤ m ^ n := Nat.pow_le_pow_right (by omega) hn
    rw [Nat.pow_one] at this; omega
theorem PowInv.last {P M out a : Nat} (h : PowInv P M out a 0) : out = P := by
  have := h.1; rw [Nat.pow_zero, Nat.mul_one] at this; exact this
theorem sq_pow (a q : Nat) : (a * a) ^ (q / 2) * a ^ (q % 2) = a ^ q := by
  rw [← Nat.pow_two, ← Nat.pow_mul, ← Nat.pow_add]
  congr 1; omega
theorem PowInv.outLt {P M out a q : Nat} (h : PowInv P M out a q) (hP : P < M) (hq : 0 < q) : out * a < M := by
  by_cases h0 : a = 0
  · subst h0; have := h.2.1; omega
  · have h1 : a ^ 1 ≤ a ^ q := Nat.pow_le_pow_right (by omega) hq
    rw [Nat.pow_one] at h1
    have h2 : out * a ≤ out * a ^ q := Nat.mul_le_mul_left _ h1
    have := h.1; omega
theorem PowInv.sqLt {P M out a q : Nat} (h : PowInv P M out a q) (hP : P < M) (hq : 2 ≤ q) : a * a < M := by
  by_cases h0 : a = 0
  · subst h0; have := h.2.1; omega
  · have h1 : a ^ 2 ≤ a ^ q := Nat.pow_le_pow_right (by omega) hq
    rw [Nat.pow_two] at h1
    have h2 : 0 < out := Nat.pos_of_ne_zero fun e => h0 (h.2.2.2 e)
    have h3 : a ^ q ≤ out * a ^ q := Nat.le_mul_of_pos_left _ h2
    have := h.1; omega
theorem PowInv.odd {P M out a q : Nat} (h : PowInv P M out a q) (hP : P < M) (hq : q % 2 = 1) : PowInv P M (out * a) (a * a) (q / 2) := by
  refine ⟨?_, h.outLt hP (by omega), fun h2 => h.sqLt hP (by omega), fun e => ?_⟩
  · rw [← h.1, ← sq_pow a q, hq, Nat.pow_one, Nat.mul_assoc, Nat.mul_comm a]
  · rcases Nat.mul_eq_zero.1 e with e | e
    · rw [h.2.2.2 e]
    · rw [e]
theorem PowInv.even {P M out a q : Nat} (h : PowInv P M out a q) (hP : P < M) (hq : q % 2 = 0) (h0 : 0 < q) : PowInv P M out (a * a) (q / 2) := by
  refine ⟨?_, h.2.1, fun h2 => h.sqLt hP (by omega), fun e => ?_⟩
  · rw [← h.1, ← sq_pow a q, hq, Nat.pow_zero, Nat.mul_one]
  · rw [h.2.2.2 e]
/-- The last square is not taken. -/
theorem PowInv.any {P M out a q b : Nat} (h : PowInv P M out a q) (hq : q = 0) (hb : out = 0 → b = 0) : PowInv P M out b q := by
  subst hq
  exact ⟨h.1, h.2.1, fun h => by omega, hb⟩
theorem tx_one : tx 1 = ⟨#[49]⟩ := by rw [← tx_tb 1 (lit_tb ⟨#[49]⟩ 1 (by decide) (by decide)).2]; exact (lit_tb ⟨#[49]⟩ 1 (by decide) (by decide)).1.symm
theorem timesNN (m n r K : Nat) (w : World) (hK : 1 ≤ K) (hK2 : K ≤ 100000) (hm : m < 10 ^ K) (hn : n < 10 ^ K) (hr : r = m * n) :
    Calls Tryz.prog 70 #[.string (tx m), .string (tx n)] w fun e w' => e = .returned (.string (tx r)) ∧ Below w.heap.size w w' := by
  subst hr
  have h := refTimesS_any (tx m) (tx n) w (Nat.le_trans (tx_size hK hm) hK2) (Nat.le_trans (tx_size hK hn) hK2) (tx_nat m).1 (tx_nat n).1
  rw [show Cub.dval (tx m).data.toList = m from tx_val m, show Cub.dval (tx n).data.toList = n from tx_val n] at h
  exact h
theorem refPower_any (m n K : Nat) (w : World) (hn : n ≤ 9223372036854775807) (hK : 1 ≤ K) (hK2 : K ≤ 100000) (hP : m ^ n < 10 ^ K) :
    Calls Tryz.prog 103 #[.string (tx m), .int .i64 (n : Int)] w fun e w' => e = .returned (.string (tx (m ^ n))) ∧ Below w.heap.size w w' := by
  have HS := hide (PowInv.start m n (10 ^ K) hP (Nat.one_lt_pow (by omega) (by decide)))
  have HP := hide hP
  clear hP
  go_enter Tryz.func103, Tryz.ntmps103
  go_wp2
  go_loopw [0, 1, 5] (fun a t o wr => ∃ (av q ov : Nat), a = .string (tx av) ∧ t = .int .i64 (q : Int) ∧ o = .string (tx ov) ∧ q ≤ 9223372036854775807 ∧ Hid (PowInv (m ^ n) (10 ^ K) ov av q) ∧ Below w.heap.size w wr) (fun _ t _ _ => (intOf t).toNat)
  case atStart => exact ⟨m, n, 1, rfl, rfl, by rw [tx_one], hn, HS, Below.refl _ _⟩
  case round =>
    obtain ⟨av, q, ov, rfl, rfl, rfl, hq, HI, hbl⟩ := hrel
    by_cases h0 : 0 < q
    · have H1 := hide (fun W => timesNN ov av (ov * av) K W hK hK2 (unhide HI).2.1 ((unhide HI).2.2.1 h0) rfl)
      have H2 := hide (fun W => timesNN av av (av * av) K W hK hK2 ((unhide HI).2.2.1 h0) ((unhide HI).2.2.1 h0) rfl)
      have HO := hide (fun h => (unhide HI).odd (unhide HP) h)
      have HE := hide (fun h => (unhide HI).even (unhide HP) h h0)
      generalize hA : tx av = A at *
      generalize hO : tx ov = O at *
      generalize hAA : tx (av * av) = AA at *
      generalize hOA : tx (ov * av) = OA at *
      have HEQ := hide (And.intro (And.intro hA hO) (And.intro hAA hOA))
      clear hA hO hAA hOA
      by_cases h1 : q % 2 = 1
      · by_cases h2 : 2 ≤ q
        · go_wp2_with (first
            | (go_at_call_of 70 O; refine (unhide H1 _).mono ?_; rintro e w2 ⟨rfl, hc2⟩; have hb2 := hbl.trans (hc2.mono hbl.size); clear hc2)
            | (go_at_call_of 70 A; refine (unhide H2 _).mono ?_; rintro e w3 ⟨rfl, hc3⟩; have hb3 := hb2.trans (hc3.mono hb2.size); clear hc3))
          go_roundw
          case rel => exact ⟨av * av, q / 2, ov * av, by rw [(unhide HEQ).2.1], by go_num, by rw [(unhide HEQ).2.2], by omega, unhide HO h1, hb3⟩
          case measure => simp [intOf]; omega
        · have hq1 : q = 1 := by omega
          subst hq1
          have HI1 : Hid (PowInv (m ^ n) (10 ^ K) (ov * av) av 0) := (unhide HO (by decide)).any (by decide) (fun e => by
            rcases Nat.mul_eq_zero.1 e with e | e
            · exact (unhide HI).2.2.2 e
            · exact e)
          go_wp2_with (go_at_call_of 70 O; refine (unhide H1 _).mono ?_; rintro e w2 ⟨rfl, hc2⟩; have hb2 := hbl.trans (hc2.mono hbl.size); clear hc2)
          go_roundw
          case rel => exact ⟨av, 0, ov * av, by rw [(unhide HEQ).1.1], by go_num, by rw [(unhide HEQ).2.2], by omega, HI1, hb2⟩
          case measure => simp [intOf]
      · have h2 : 2 ≤ q := by omega
        have h3 : q % 2 = 0 := by omega
        go_wp2_with (go_at_call_of 70 A; refine (unhide H2 _).mono ?_; rintro e w2 ⟨rfl, hc2⟩; have hb2 := hbl.trans (hc2.mono hbl.size); clear hc2)
        go_roundw
        case rel => exact ⟨av * av, q / 2, ov, by rw [(unhide HEQ).2.1], by go_num, by rw [(unhide HEQ).1.2], by omega, unhide HE h3, hb2⟩
        case measure => simp [intOf]; omega
    · have hq0 : q = 0 := by omega
      subst hq0
      have HL := hide (unhide HI).last
      go_wp2
      go_ret
      exact ⟨by rw [unhide HL]; rfl, hbl⟩
theorem dval_take (l : List UInt8) (k : Nat) : Cub.dval (l.take k) ≤ Cub.dval l := by
  have h := Cub.dval_append (l.take k) (l.drop k)
  rw [List.take_append_drop] at h
  have : Cub.dval (l.take k) * 1 ≤ Cub.dval (l.take k) * 10 ^ (l.drop k).length := Nat.mul_le_mul_left _ (Nat.one_le_pow _ _ (by decide))
  omega
theorem pow2_le (n k : Nat) (h : n ≤ 3 * k) : 2 ^ n ≤ 10 ^ k := by
  refine Nat.le_trans (Nat.pow_le_pow_right (by decide) h) ?_
  rw [Nat.pow_mul]
  exact Nat.pow_le_pow_left (by decide) k
theorem pow2_lt (n K : Nat) (h : n + 3 ≤ 3 * K) : 2 ^ n < 10 ^ K := by
  refine Nat.lt_of_lt_of_le (Nat.pow_lt_pow_right (by decide) (by omega : n < n + 3)) ?_
  exact pow2_le (n + 3) K h
theorem tx_two : tx 2 = ⟨#[50]⟩ := by rw [← tx_tb 2 (lit_tb ⟨#[50]⟩ 2 (by decide) (by decide)).2]; exact (lit_tb ⟨#[50]⟩ 2 (by decide) (by decide)).1.symm
theorem FBox.setm {W : World} {g : Nat} {x y z : Value} (h : FBox W g x y z) (u : Value) : FBox (W.setCell ⟨g, 1, none⟩ u) g x u z := by
  have c0 := h.c0; have c1 := h.c1; have c2 := h.c2; have f0 := h.f0; have f1 := h.f1; have f2 := h.f2
  exact ⟨by simp [go_sem, *], by simp [go_sem, *], by simp [go_sem, *], by simp [go_sem, *], by simp [go_sem, *], by simp [go_sem, *]⟩
theorem FBox.offset {W : World} {g k o : Nat} {x y z : Value} (h : FBox W g x y z) (hk : g ≠ k) (u : Value) : FBox (W.setCell ⟨k, o, none⟩ u) g x y z :=
  ⟨(World.cell?_setCell_other _ _ _ _ (by intro e; simp only [Addr.mk.injEq] at e; omega)).trans h.c0, (World.cell?_setCell_other _ _ _ _ (by intro e; simp only [Addr.mk.injEq] at e; omega)).trans h.c1, (World.cell?_setCell_other _ _ _ _ (by intro e; simp only [Addr.mk.injEq] at e; omega)).trans h.c2, by rw [World.frozen?_setCell]; exact h.f0, by rw [World.frozen?_setCell]; exact h.f1, by rw [World.frozen?_setCell]; exact h.f2⟩
end Go.Proofs.YtijifpbpjinmhaaGreatDoor

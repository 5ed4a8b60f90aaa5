/- Plain facts: the order of texts is that of their numbers; what parsing gives. -/
import Derived.Test.YtijifpbpjinmhaaGreatDoorRefDivide
import Derived.Test.YtijifpbpjinmhaaGreatDoorTakeB
import Derived.BigQuiet
import Derived.Deep.Cut
import Derived.WalkSmall
import Derived.Deep.RegionWith
import Derived.Lib.ItoaMem
import Derived.Lib.ParseIntB
import GoSem.Op.String
set_option maxHeartbeats 2000000
set_option maxRecDepth 100000
namespace Go.Proofs.YtijifpbpjinmhaaGreatDoor
open Go.RowKit
theorem mk_tb (m : Nat) (hm : m < 10 ^ 600) : (⟨(Lib.decDigits m).toArray⟩ : ByteArray) = tb m := by
  have := tb_list m hm
  rw [← this]
theorem mod_lt' (m n : Nat) (d : Nat) (hm : m < 10 ^ d) : m % n < 10 ^ d := Nat.lt_of_le_of_lt (Nat.mod_le _ _) hm
theorem refDivideG (s t : ByteArray) (w : World) (hs1 : Cub.isNat s.data.toList) (ht1 : Cub.isNat t.data.toList) (hsz : s.size ≤ 5000) (htz : t.size ≤ 5000) (h0 : 0 < val t) :
    Calls Tryz.prog 83 #[.string s, .string t] w fun e w' => e = .returned (.tuple #[.string ⟨(Lib.decDigits (val s / val t)).toArray⟩, .string ⟨(Lib.decDigits (val s % val t)).toArray⟩]) ∧ Below w.heap.size w w' := by
  have hs2 : s.data.toList.length ≤ 5000 := by rw [list_len]; exact hsz
  have ht2 : t.data.toList.length ≤ 5000 := by rw [list_len]; exact htz
  have HLS : Hid (∀ W : World, Calls Tryz.prog 119 #[.string s] W fun e w' => ∃ v l, e = .returned v ∧ OwnI w' W.heap.size v l ∧ Cub.normal 10000 l ∧ Cub.lval 10000 l = val s ∧ l.length ≤ 5000 ∧ Below W.heap.size W w') := fun W => by
    refine (refLimbs_any s W (by omega) hs1.1).mono ?_
    rintro e w' ⟨v, l, he, ho, hn, hv, hb⟩
    exact ⟨v, l, he, ho, hn, hv, by have := Cub.len_le4 hs1.1 hn hv; omega, hb⟩
  have HLT : Hid (∀ W : World, Calls Tryz.prog 119 #[.string t] W fun e w' => ∃ v l, e = .returned v ∧ OwnI w' W.heap.size v l ∧ Cub.normal 10000 l ∧ Cub.lval 10000 l = val t ∧ l.length ≤ 5000 ∧ Below W.heap.size W w') := fun W => by
    refine (refLimbs_any t W (by omega) ht1.1).mono ?_
    rintro e w' ⟨v, l, he, ho, hn, hv, hb⟩
    exact ⟨v, l, he, ho, hn, hv, by have := Cub.len_le4 ht1.1 hn hv; omega, hb⟩
  have HSS : Hid (s = ⟨(Lib.decDigits (val s)).toArray⟩) := by
    show _ = _
    have : Lib.decDigits (val s) = s.data.toList := Cub.dec_dval _ _ rfl hs1
    rw [this]
  clear hs1 hs2 ht1 ht2 hsz htz
  go_enter Tryz.func83, Tryz.ntmps83
  go_upto_region 3 with (first
    | (go_at_call_of 119 s; go_must (refine (unhide HLS w).mono ?_; rintro e w1 ⟨vx, X, rfl, ho1, hnX, hvX, hlX, hb1⟩; have HX := hide (And.intro ho1 (And.intro hnX hvX)); clear ho1 hnX hvX; have hs1 := hb1.size))
    | (go_at_call_of 119 t; go_must (refine (unhide HLT w1).mono ?_; rintro e w2 ⟨vy, Y, rfl, ho2, hnY, hvY, hlY, hb2⟩; have HY := hide (And.intro ho2 (And.intro hnY hvY)); clear ho2 hnY hvY)))
  have hs2 : w.heap.size ≤ w2.heap.size := Nat.le_trans hs1 hb2.size
  have HB2 := hide (hb1.trans (hb2.mono hs1))
  have H85 := hide (refLess_any vx vy X Y w2 (RowI.of_own ((unhide HX).1.later hb2)) (RowI.of_own (unhide HY).1) (unhide HX).2.1 (unhide HY).2.1)
  rw [(unhide HX).2.2, (unhide HY).2.2] at H85
  by_cases hlt : val s < val t
  · rw [decide_eq_true hlt] at H85
    have HQ : Hid (Lib.decDigits (val s / val t) = [48] ∧ val s % val t = val s) := ⟨by rw [Nat.div_eq_of_lt hlt]; exact dec_zero, Nat.mod_eq_of_lt hlt⟩
    clear hlt h0 HLS HLT hb1 hb2
    go_wp2_with (go_at_call 130; go_must (refine (unhide H85).mono ?_; rintro e w3 ⟨rfl, hb3⟩))
    go_ret2
    exact ⟨by rw [(unhide HQ).1, (unhide HQ).2, ← unhide HSS]; rfl, (unhide HB2).trans (hb3.mono hs2)⟩
  · rw [decide_eq_false hlt] at H85
    have hYne : Y ≠ [] := fun e => by have := (unhide HY).2.2; rw [e] at this; have h2 : Cub.lval 10000 [] = 0 := rfl; omega
    have hyx : Y.length ≤ X.length := Cub.normal_len_le (by decide) (unhide HX).2.1.1 (unhide HY).2.1 (by rw [(unhide HX).2.2, (unhide HY).2.2]; omega)
    have hYl : 0 < Y.length := List.length_pos_iff.2 hYne
    have hXne : X ≠ [] := fun e => by rw [e] at hyx; simp at hyx; exact hYne hyx
    obtain ⟨g, cX, rfl, hg1, hg2, hcX, hmX⟩ := own_block (unhide HX).1 hXne
    obtain ⟨gy, cY, rfl, hy1, hy2, hcY, hmY⟩ := own_block (unhide HY).1 hYne
    have HS0 : Hid (Cub.lval 10000 (X.drop (X.length - Y.length + 1)) < Cub.lval 10000 Y) := by
      show _ < _
      have h1 := Cub.lval_lt (Cub.limbs_drop4 (unhide HX).2.1.1 (X.length - Y.length + 1))
      rw [List.length_drop] at h1
      have h2 := Cub.normal_ge (unhide HY).2.1 hYne
      have h3 : X.length - (X.length - Y.length + 1) = Y.length - 1 := by omega
      rw [h3] at h1
      omega
    have HX2 := hide ((unhide HX).1.later hb2)
    have HDV : Hid (Cub.DivInv (val s) (val t) X (List.replicate X.length 0) X.length (X.length - Y.length + 1)) := by
      have := Cub.DivInv.start (A := val s) (V := val t) (unhide HX).2.1.1 (unhide HX).2.2 (up := X.length - Y.length + 1) (by rw [← (unhide HY).2.2]; exact unhide HS0)
      exact this
    have HYY := hide (unhide HY)
    obtain ⟨nX, hnX⟩ : ∃ nX, nX = X.length := ⟨_, rfl⟩
    obtain ⟨nY, hnY⟩ : ∃ nY, nY = Y.length := ⟨_, rfl⟩
    rw [← hnX] at HX2 HDV H85 hcX hyx hlX ⊢
    rw [← hnY] at HYY HDV H85 hcY hyx hYl hlY ⊢
    have HNX := hide hnX
    have HNY := hide hnY
    have HLT2 := hide hlt
    have hb2s := hb2.size
    clear hlt HSS HLS HLT hb1 hb2 HX HY HS0 hYne hXne hnX hnY
    obtain ⟨i0, hi, hz0, hz1, hz2⟩ := info_parts Tryz.info3
    go_wp2_with (first
      | (go_at_call 130; go_must (refine (unhide H85).mono ?_; rintro e w3 ⟨rfl, hb3⟩; have HX3 := hide ((unhide HX2).later hb3); have HY3 := hide ((unhide HYY).1.later hb3); have HB3 := hide ((unhide HB2).trans (hb3.mono hs2)); have hs3 := hb3.size; clear hb3))
      | (at_make; go_must (refine wpList_make_full _ rfl _ _ 138 rfl w3.heap.size 3 i0 (.int .i64 0) 1 Tryz.underlying138 hi hz0 hz1 .i64 .i64 _ _ nX rfl rfl (by omega) (by omega) (by rw [hz2]; omega) (by unfold maxLen; omega) (Nat.le_refl _) ?_; intro w4 hown4 hgrow4; rw [i64s_made] at hown4; have hb4 : Below w3.heap.size w3 w4 := (Below.refl _ _).grown hgrow4 (Nat.le_refl _) (fun k hk => by cases hk); have HQ4 : Hid (OwnI w4 w3.heap.size (.slice (some ⟨w3.heap.size, 0, none⟩) nX nX) (List.replicate nX 0)) := (by show World.ownsRow _ _ _ _ _ _ _; rw [List.length_replicate]; exact hown4); have HX4 := hide ((unhide HX3).later hb4); have HY4 := hide ((unhide HY3).later hb4); have HB4 := hide ((unhide HB3).trans (hb4.mono (Nat.le_trans hs2 hs3))); clear hown4 hgrow4 hb4)))
    have hgq : g < w3.heap.size := by omega
    have hgyq : gy < w3.heap.size := by omega
    have hwq : w.heap.size ≤ w3.heap.size := by omega
    have hygg : g < w1.heap.size := hg2
    generalize hgw : w3.heap.size = gq at *
    clear hgw H85 HX2 HX3 HY3 HB3 HB2
    go_loopw [9] (fun v9 wr => ∃ (u : Nat) (X Q : List Nat), v9 = .int .i64 ((u : Int) - 1) ∧ u ≤ nX - nY + 1 ∧ Hid (Cub.DivInv (val s) (val t) X Q nX u) ∧ Hid (OwnI wr w.heap.size (.slice (some ⟨g, 0, none⟩) nX cX) X) ∧ Hid (OwnI wr w1.heap.size (.slice (some ⟨gy, 0, none⟩) nY cY) Y) ∧ Hid (OwnI wr gq (.slice (some ⟨gq, 0, none⟩) nX nX) Q) ∧ Hid (Below w.heap.size w wr)) (fun v9 _ => (intOf v9 + 1).toNat)
    case atStart => exact ⟨nX - nY + 1, X, _, by go_num, Nat.le_refl _, HDV, HX4, HY4, HQ4, HB4⟩
    case round =>
      obtain ⟨u, X', Q, rfl, hu, HI, HOX, HOY, HOQ, HB⟩ := hrel
      clear HDV HX4 HY4 HQ4 HB4 HNX X
      have HVY := hide (unhide HYY).2
      clear HYY
      by_cases hu0 : u = 0
      · subst hu0
        obtain ⟨d1, d2⟩ := (unhide HI).done
        obtain ⟨q1, q2, _⟩ := Cub.lval_trim 10000 _ Q rfl
        obtain ⟨x1, x2, _⟩ := Cub.lval_trim 10000 _ X' rfl
        have HTQ : Hid (Cub.normal 10000 (Cub.trimN Q) ∧ Cub.lval 10000 (Cub.trimN Q) = val s / val t ∧ (Cub.trimN Q).length ≤ 1000000) := ⟨q2 (unhide HI).limQ, q1.trans d1, by
          have h := Cub.len_leB (B := 10000) (by decide) (k := nX) (q2 (unhide HI).limQ) (by rw [q1]; have := Cub.lval_lt (unhide HI).limQ; rw [(unhide HI).lenQ] at this; exact this)
          omega⟩
        have HTX : Hid (Cub.normal 10000 (Cub.trimN X') ∧ Cub.lval 10000 (Cub.trimN X') = val s % val t ∧ (Cub.trimN X').length ≤ 1000000) := ⟨x2 (unhide HI).limX, x1.trans d2, by
          have h := Cub.len_leB (B := 10000) (by decide) (k := nX) (x2 (unhide HI).limX) (by rw [x1]; have := Cub.lval_lt (unhide HI).limX; rw [(unhide HI).lenX] at this; exact this)
          omega⟩
        have H77q := hide (refTrim_any _ gq Q wr (unhide HOQ))
        clear d1 d2 q1 q2 x1 x2 HI
        have hbs := (unhide HB).size
        go_wp2_with fail
        refine (unhide H77q).mono ?_
        rintro e w5 ⟨vq, rfl, hoq, hw5⟩
        rw [hw5]
        have H76q := hide (refText_any vq gq (Cub.trimN Q) wr hoq (unhide HTQ).1 (unhide HTQ).2.2)
        rw [(unhide HTQ).2.1] at H76q
        clear hoq hw5 H77q
        go_wp2_with fail
        refine (unhide H76q).mono ?_
        rintro e w6 ⟨rfl, hb6⟩
        have H77x := hide (refTrim_any _ w.heap.size X' w6 ((unhide HOX).later hb6))
        clear H76q
        go_wp2_with fail
        refine (unhide H77x).mono ?_
        rintro e w7 ⟨vt, rfl, hot, hw7⟩
        rw [hw7]
        have H76x := hide (refText_any vt w.heap.size (Cub.trimN X') w6 hot (unhide HTX).1 (unhide HTX).2.2)
        rw [(unhide HTX).2.1] at H76x
        clear hot hw7 H77x
        go_wp2_with fail
        refine (unhide H76x).mono ?_
        rintro e w8 ⟨rfl, hb8⟩
        have hb9 := (unhide HB).trans ((hb6.trans (hb8.mono hb6.size)).mono hbs)
        go_wp2_with fail
        go_ret2
        exact ⟨rfl, hb9⟩
      · obtain ⟨up, rfl⟩ : ∃ up, u = up + 1 := ⟨u - 1, by omega⟩
        have hupn : up < nX := by omega
        have hnYY := unhide HNY
        have hlX' := (unhide HI).lenX
        obtain ⟨q, hq⟩ : ∃ q, q = Cub.lval 10000 (X'.drop up) / Cub.lval 10000 Y := ⟨_, rfl⟩
        have hq9 : q ≤ 9999 := by rw [hq, (unhide HVY).2]; exact (unhide HI).quo hupn
        have H86 := hide (refFits_any (.slice (some ⟨g, 0, none⟩) nX cX) (.slice (some ⟨gy, 0, none⟩) nY cY) w.heap.size w1.heap.size X' Y up q wr (unhide HOX) (unhide HOY) (unhide HI).limX (unhide HVY).1 (by omega) (by omega) (by omega) (by rw [← hq]; exact hq9) (by rw [(unhide HVY).2]; exact h0) hq)
        have hle : q * Cub.lval 10000 Y ≤ Cub.lval 10000 (X'.drop up) := by rw [hq]; exact Nat.div_mul_le_self _ _
        have HST : Hid (∀ D : List Nat, D.length = X'.length → Cub.limbs 10000 D → D.take up = X'.take up → Cub.lval 10000 (D.drop up) + q * Cub.lval 10000 Y = Cub.lval 10000 (X'.drop up) → Cub.DivInv (val s) (val t) D (Q.set up q) nX up) := fun D h1 h2 h3 h4 => (unhide HI).step hupn (by rw [hq, (unhide HVY).2]) h1 h2 h3 (by rw [← (unhide HVY).2]; exact h4)
        have HLQ : Hid (Q.length = nX) := (unhide HI).lenQ
        have H87 : Hid (∀ W : World, OwnI W w.heap.size (.slice (some ⟨g, 0, none⟩) nX cX) X' → OwnI W w1.heap.size (.slice (some ⟨gy, 0, none⟩) nY cY) Y → Calls Tryz.prog 132 #[.slice (some ⟨g, 0, none⟩) nX cX, .slice (some ⟨gy, 0, none⟩) nY cY, .int .i64 (up : Int), .int .i64 (q : Int)] W fun e w' => e = .returned (.tuple #[]) ∧ (∃ D, OwnI w' w.heap.size (.slice (some ⟨g, 0, none⟩) nX cX) D ∧ D.length = X'.length ∧ Cub.limbs 10000 D ∧ D.take up = X'.take up ∧ Cub.lval 10000 (D.drop up) + q * Cub.lval 10000 Y = Cub.lval 10000 (X'.drop up)) ∧ W.grownBy w' (some g)) := fun W hx hy =>
          refTake_any _ w.heap.size w1.heap.size g nX cX X' Y up q W hlX'.symm hx hy hygg (unhide HI).limX (unhide HVY).1.1 (by omega) (by omega) hq9 hle
        have HZ : Hid (q = 0 → Cub.DivInv (val s) (val t) X' (Q.set up q) nX up) := fun h => unhide HST X' rfl (unhide HI).limX rfl (by rw [h]; simp)
        have ej : ((up + 1 : Nat) : Int) - 1 = (up : Int) := by omega
        rw [ej]
        have hbs := (unhide HB).size
        clear hq hle hnYY hlX' HI HNY HVY ej hu0
        have hupI : (up : Int) < (nX : Int) := by omega
        go_upto_region 10 with (first
          | (go_at_call 131; go_must (refine (unhide H86).mono ?_; rintro e w5 ⟨rfl, hb5⟩; have HOX5 := hide ((unhide HOX).later hb5); have HOY5 := hide ((unhide HOY).later hb5); have HOQ5 := hide ((unhide HOQ).later hb5); have HB5 := hide ((unhide HB).trans (hb5.mono hbs)); clear hb5; have hupQ : up < Q.length := (by have := unhide HLQ; omega); have HROW : Hid (w5.ownsRow gq 3 1 (.slice (some ⟨gq, 0, none⟩) nX nX) nX (i64s Q)) := (by have h := unhide HOQ5; unfold OwnI at h; rw [unhide HLQ] at h; exact h); have cq : w5.cell? ⟨gq, up, none⟩ = some (.int .i64 (Q[up] : Int)) := (by rw [(unhide HROW).cellAt up (by omega), i64s_get Q up hupQ]); have fq : w5.frozen? ⟨gq, up, none⟩ = false := (unhide HROW).frozenAt up)))
        obtain ⟨W, hW⟩ : ∃ W, W = w5.setCell ⟨gq, up, none⟩ (.int .i64 (q : Int)) := ⟨_, rfl⟩
        have HOX6 : Hid (OwnI W w.heap.size (.slice (some ⟨g, 0, none⟩) nX cX) X') := by rw [hW]; exact own_other (unhide HOX5) (by omega)
        have HOY6 : Hid (OwnI W w1.heap.size (.slice (some ⟨gy, 0, none⟩) nY cY) Y) := by rw [hW]; exact own_other (unhide HOY5) (by omega)
        have HOQ6 : Hid (OwnI W gq (.slice (some ⟨gq, 0, none⟩) nX nX) (Q.set up q)) := by rw [hW]; exact own_set (unhide HOQ5) (unhide HLQ).symm q _ rfl
        have HB6 : Hid (Below w.heap.size w W) := by rw [hW]; exact (unhide HB5).setCell (by exact hwq) _
        have cW : W.cell? ⟨gq, up, none⟩ = some (.int .i64 (q : Int)) := by rw [hW]; exact World.cell?_setCell_same _ _ _ cq
        rw [← hW]
        clear hW cq fq HROW HOX5 HOY5 HOQ5 HB5 HOX HOY HOQ HB H86 hupQ
        by_cases hq0 : 0 < q
        · have H87w := hide (unhide H87 W (unhide HOX6) (unhide HOY6))
          have hqI : (0 : Int) < (q : Int) := by omega
          clear H87 HZ
          go_wp2_with (go_at_call 132; go_must (refine (unhide H87w).mono ?_; rintro e w7 ⟨rfl, hD, hg7⟩; obtain ⟨D, hoD, hl, hlim, hlow, hsum⟩ := hD; have HI7 := hide (unhide HST D hl hlim hlow hsum); have HOX7 := hide hoD; have HOY7 := hide (own_grown (unhide HOY6) hg7 hygg); have HOQ7 := hide (own_grown (unhide HOQ6) hg7 hgq); have HB7 := hide ((unhide HB6).grown hg7 (unhide HB6).size (fun k hk => by simp only [Option.some.injEq] at hk; omega)); clear hoD hl hlim hlow hsum hg7))
          go_roundw
          case rel => exact ⟨up, D, Q.set up q, by go_num, by omega, HI7, HOX7, HOY7, HOQ7, HB7⟩
          case measure => simp [intOf]
        · have HI7 := hide (unhide HZ (by omega))
          have hqI : ¬ (0 : Int) < (q : Int) := by omega
          clear H87 HZ HST
          go_wp2_with fail
          go_roundw
          case rel => exact ⟨up, X', Q.set up q, by go_num, by omega, HI7, HOX6, HOY6, HOQ6, HB6⟩
          case measure => simp [intOf]
theorem one_list {l : List Nat} (hn : Cub.normal 1000000000 l) : Cub.lval 1000000000 l = 1 ↔ l = [1] := by
  constructor
  · intro h
    match l, hn, h with
    | [], _, h => simp [Cub.lval] at h
    | [x], _, h => simp [Cub.lval] at h; rw [h]
    | x :: y :: t, hn, h =>
      have := Cub.normal_ge hn (by simp)
      have h2 : (1000000000 : Nat) ^ 1 ≤ 1000000000 ^ ((x :: y :: t).length - 1) := Nat.pow_le_pow_right (by decide) (by simp)
      omega
  · rintro rfl; rfl
theorem isOne_any (v : Value) (n : Nat) (w : World) (h : IsBig w v n) :
    Calls Tryz.prog 121 #[v] w fun e w' => e = .returned (.bool (n == 1)) ∧ Below w.heap.size w w' := by
  obtain ⟨a, l, cap, rfl, hl, hr, hn, rfl⟩ := h.form
  have h1 := one_list hn
  by_cases hlen : l.length = 1
  · match l, hlen with
    | [x], _ =>
      obtain ⟨a', cap', e, _, _, hc⟩ := hr
      simp only [Value.slice.injEq] at e
      obtain ⟨rfl, _, rfl⟩ := e
      obtain ⟨b, o, rfl, hb, hcell⟩ := hc (by simp)
      have c0 := hcell 0 (by simp)
      simp only [List.getElem_cons_zero, Nat.add_zero] at c0
      have ex : (Cub.lval 1000000000 [x] == 1) = ((x : Int) == 1) := by
        simp [Cub.lval]
        rw [Bool.eq_iff_iff]; simp; omega
      have hx : x < 18446744073709551616 := by have := hn.1 x (by simp); omega
      rw [ex]
      simp only [List.length_cons, List.length_nil, Nat.zero_add] at *
      clear ex h1 hn h hcell hc
      go_enter Tryz.func121, Tryz.ntmps121
      go_wp2
      go_ret
      exact ⟨rfl, (Below.refl _ _).alloc (Nat.le_refl _) _⟩
  · have ex : (Cub.lval 1000000000 l == 1) = false := by
      rw [beq_eq_false_iff_ne]; intro e; exact hlen (by rw [h1.1 e]; rfl)
    have el : ((l.length : Int) == 1) = false := by rw [beq_eq_false_iff_ne]; omega
    rw [ex]
    clear ex h1 hn h hr
    generalize l.length = len at *
    go_enter Tryz.func121, Tryz.ntmps121
    go_wp2
    go_ret
    exact ⟨rfl, (Below.refl _ _).alloc (Nat.le_refl _) _⟩
/-- What the division and the greatest common divisor must answer. -/
def DivAns (k : Nat) : Prop := ∀ (W : World) (x y : Value) (m n : Nat), IsBig W x m → IsBig W y n → m < 1000000000 ^ k → 0 < n →
  Calls Tryz.prog 161 #[x, y] W fun e w' => ∃ a1 n1 c1 a2 n2 c2, e = .returned (.tuple #[.agg #[.slice a1 n1 c1], .agg #[.slice a2 n2 c2]]) ∧ IsBig w' (.agg #[.slice a1 n1 c1]) (m / n) ∧ IsBig w' (.agg #[.slice a2 n2 c2]) (m % n) ∧ Below W.heap.size W w'
def GcdAns (k : Nat) : Prop := ∀ (W : World) (x y : Value) (m n : Nat), IsBig W x m → IsBig W y n → m < 1000000000 ^ k → n < 1000000000 ^ k →
  Calls Tryz.prog 120 #[x, y] W fun e w' => ∃ a l c, e = .returned (.agg #[.slice a l c]) ∧ IsBig w' (.agg #[.slice a l c]) (Nat.gcd m n) ∧ Below W.heap.size W w'
theorem not_int (a : Option Addr) (l c : Nat) : ∀ k n, (Value.slice a l c) ≠ .int k n := fun _ _ e => by cases e
theorem Tryz.size41 : (Tryz.prog.info? 41).map (·.size) = some 1 := by kernel_rfl
/-- What is read of a row in every later world. -/
def Cells (w : World) (a : Option Addr) (l : List Nat) : Prop :=
  ∀ W, Below w.heap.size w W → ∀ i (hi : i < l.length), ∃ b o, a = some ⟨b, o, none⟩ ∧ W.cell? ⟨b, o + i, none⟩ = some (.int .u64 (l[i] : Int))
theorem Row.cells {w : World} {a : Option Addr} {n cap : Nat} {l : List Nat} (h : Row w (.slice a n cap) l) : n = l.length ∧ n ≤ cap ∧ cap ≤ 9223372036854775807 ∧ Cells w a l := by
  obtain ⟨a', cap', e, hc, hm, hr⟩ := h
  simp only [Value.slice.injEq] at e
  obtain ⟨rfl, rfl, rfl⟩ := e
  refine ⟨rfl, hc, hm, fun W hW i hi => ?_⟩
  obtain ⟨b, o, rfl, hlt, hcell⟩ := hr (fun e => by rw [e] at hi; simp at hi)
  exact ⟨b, o, rfl, (hW.cell (p := ⟨b, o + i, none⟩) hlt).trans (hcell i hi)⟩
/-- The source of a copy. -/
theorem Cells.src {w W : World} {a : Option Addr} {l : List Nat} (h : Cells w a l) (hW : Below w.heap.size w W) (h0 : 0 < l.length) :
    ∃ ad, a = some ad ∧ ∀ j v, (u64s l)[j]? = some v → W.cell? (ad.add j) = some v := by
  obtain ⟨b, o, rfl, _⟩ := h W hW 0 h0
  refine ⟨⟨b, o, none⟩, rfl, fun j v hj => ?_⟩
  have hjl : j < l.length := by
    have := (List.getElem?_eq_some_iff.1 hj).1
    rwa [u64s_length] at this
  rw [u64s_get l j hjl, Option.some.injEq] at hj
  obtain ⟨b', o', e, hc⟩ := h W hW j hjl
  simp only [Option.some.injEq, Addr.mk.injEq] at e
  obtain ⟨rfl, rfl, _⟩ := e
  rw [Lib.add_plain, hc, hj]
theorem u64s_one (l : List Nat) : ∀ v ∈ u64s l, v.oneCell' = true := by
  intro v hv
  simp only [u64s, List.mem_map] at hv
  obtain ⟨x, _, rfl⟩ := hv
  rfl
/-- Three boxes, kept. -/
structure Boxes3 (w w4 : World) (a b c : Value) : Prop where
  c1 : w4.cell? ⟨w.heap.size, 0, none⟩ = some a
  c2 : w4.cell? ⟨w.heap.size + 1, 0, none⟩ = some b
  c3 : w4.cell? ⟨w.heap.size + 1 + 1, 0, none⟩ = some c
  f3 : w4.frozen? ⟨w.heap.size + 1 + 1, 0, none⟩ = false
  below : Below w.heap.size w w4
  size : w.heap.size + 3 ≤ w4.heap.size
theorem boxes3 {w w4 : World} {a b c : Value} (hb : Below (w.heap.size + 3) (((w.alloc (.cells #[a] 51)).alloc (.cells #[b] 51)).alloc (.cells #[c] 51)) w4) : Boxes3 w w4 a b c := by
  refine ⟨?_, ?_, ?_, ?_, ?_, ?_⟩
  · rw [hb.cell (p := ⟨w.heap.size, 0, none⟩) (show w.heap.size < w.heap.size + 3 by omega)]; simp [go_sem]
  · rw [hb.cell (p := ⟨w.heap.size + 1, 0, none⟩) (show w.heap.size + 1 < w.heap.size + 3 by omega)]; simp [go_sem]
  · rw [hb.cell (p := ⟨w.heap.size + 1 + 1, 0, none⟩) (show w.heap.size + 1 + 1 < w.heap.size + 3 by omega)]; simp [go_sem]
  · rw [hb.frozen (p := ⟨w.heap.size + 1 + 1, 0, none⟩) (show w.heap.size + 1 + 1 < w.heap.size + 3 by omega)]; simp [go_sem]
  · exact ((((Below.refl _ _).alloc (Nat.le_refl _) _).alloc (by simp) _).alloc (by simp; omega) _).trans (hb.mono (by omega))
  · have := hb.size; simp at this; omega
theorem Boxes3.on {w w4 w5 : World} {a b c : Value} (h : Boxes3 w w4 a b c) (hb : Below (w.heap.size + 3) w4 w5) : Boxes3 w w5 a b c :=
  ⟨(hb.cell (p := ⟨w.heap.size, 0, none⟩) (show w.heap.size < w.heap.size + 3 by omega)).trans h.c1, (hb.cell (p := ⟨w.heap.size + 1, 0, none⟩) (show w.heap.size + 1 < w.heap.size + 3 by omega)).trans h.c2,
    (hb.cell (p := ⟨w.heap.size + 1 + 1, 0, none⟩) (show w.heap.size + 1 + 1 < w.heap.size + 3 by omega)).trans h.c3, (hb.frozen (p := ⟨w.heap.size + 1 + 1, 0, none⟩) (show w.heap.size + 1 + 1 < w.heap.size + 3 by omega)).trans h.f3,
    h.below.trans (hb.mono (by omega)), by have := hb.size; have := h.size; omega⟩
end Go.Proofs.YtijifpbpjinmhaaGreatDoor
namespace Cub
/-- Taking away in the making: F is what is left so far, m what is missing at place i. -/
structure TakeInv (T : Nat) (F0 L F : List Nat) (m i : Nat) : Prop where
  len : F.length = F0.length
  lim : limbs 1000000000 F
  val : lval 1000000000 F + T * lval 1000000000 (L.take i) = lval 1000000000 F0 + 1000000000 ^ i * m
  miss : m ≤ T
theorem TakeInv.start {T : Nat} {F0 : List Nat} (L : List Nat) (h : limbs 1000000000 F0) : TakeInv T F0 L F0 0 0 := ⟨rfl, h, by simp [lval], Nat.zero_le _⟩
theorem take9 (l : List Nat) (i : Nat) : lval 1000000000 (l.take (i + 1)) = lval 1000000000 (l.take i) + 1000000000 ^ i * l.getD i 0 := by
  by_cases h : i < l.length
  · rw [List.take_succ_eq_append_getElem h, lval_snoc, List.length_take, Nat.min_eq_left (by omega)]
    simp [List.getD, h]
  · rw [List.take_of_length_le (by omega), List.take_of_length_le (by omega)]
    simp [List.getD, Nat.le_of_not_lt h]
/-- One place: q what is missing with the product there; its rest is taken off, with one more borrowed or not (b). -/
theorem TakeInv.step {T : Nat} {F0 L F : List Nat} {m i q d b : Nat} (h : TakeInv T F0 L F m i) (hi : i < F.length) (hq : q = m + T * L.getD i 0) (hd : d < 1000000000) (_hb : b ≤ 1)
    (he : d + q % 1000000000 = F[i] + 1000000000 * b) (hb0 : q % 1000000000 = 0 → b = 0) (hL : L.getD i 0 < 1000000000) : TakeInv T F0 L (F.set i d) (q / 1000000000 + b) (i + 1) := by
  refine ⟨by simp [h.len], limbs_set h.lim i _ hd, ?_, ?_⟩
  · have e1 := lval_set 1000000000 F i d hi
    have e2 := h.val
    rw [take9, Nat.mul_add, Nat.pow_succ]
    have e3 : q = 1000000000 * (q / 1000000000) + q % 1000000000 := (Nat.div_add_mod _ _).symm
    have e4 := congrArg (1000000000 ^ i * ·) he
    have e5 := congrArg (1000000000 ^ i * ·) e3
    have e6 := congrArg (1000000000 ^ i * ·) hq
    simp only [Nat.mul_add] at e4 e5 e6
    have m1 : T * (1000000000 ^ i * L.getD i 0) = 1000000000 ^ i * (T * L.getD i 0) := by rw [Nat.mul_left_comm]
    have m2 : 1000000000 ^ i * 1000000000 * (q / 1000000000 + b) = 1000000000 ^ i * (1000000000 * (q / 1000000000)) + 1000000000 ^ i * (1000000000 * b) := by
      rw [Nat.mul_assoc, ← Nat.mul_add, ← Nat.mul_add]
    omega
  · have h1 := h.miss
    have h2 : T * L.getD i 0 ≤ T * 999999999 := Nat.mul_le_mul_left _ (by omega)
    have h3 : q ≤ 1000000000 * T := by omega
    by_cases h0 : q % 1000000000 = 0
    · rw [hb0 h0]; omega
    · omega
end Cub
namespace Go.Proofs.YtijifpbpjinmhaaGreatDoor
open Go.RowKit
theorem Own.below {w w' : World} {g g' : Nat} {l : List Nat} (h : Own w g' l) (hb : Below g w w') (hg : g' < g) : Own w' g' l := (hb.block g' hg).trans h
theorem takeAway_any (g n cap : Nat) (F0 L : List Nat) (ab : Option Addr) (nb cb T : Nat) (w : World) (hF : Own w g F0) (hn : n = F0.length) (hn1 : n ≤ 10000000) (hlF : Cub.limbs 1000000000 F0)
    (hnb : nb = L.length) (hnbn : nb ≤ n) (hlL : Cub.limbs 1000000000 L) (hcap : n ≤ cap) (hT : T < 1000000000) (hc : ∀ W, Below g w W → ∀ i (hi : i < L.length), ∃ b o, ab = some ⟨b, o, none⟩ ∧ W.cell? ⟨b, o + i, none⟩ = some (.int .u64 (L[i] : Int))) :
    Calls Tryz.prog 199 #[.slice (some ⟨g, 0, none⟩) n cap, .slice ab nb cb, .int .u64 (T : Int)] w fun e w' => ∃ (m : Nat) (F : List Nat), e = .returned (.int .u64 (m : Int)) ∧ Own w' g F ∧ F.length = n ∧ Cub.limbs 1000000000 F ∧ Cub.lval 1000000000 F + T * Cub.lval 1000000000 L = Cub.lval 1000000000 F0 + 1000000000 ^ n * m ∧ m ≤ T ∧ Below g w w' := by
  have HN := hide (And.intro hn hnb)
  have HC := hide hc
  have HL := hide (And.intro hlF hlL)
  have HF := hide hF
  clear hn hnb hc hlF hlL hF
  go_enter Tryz.func199, Tryz.ntmps199
  go_wp2
  go_loopw [7, 12] (fun c t wr => ∃ (m i : Nat) (F : List Nat), c = .int .u64 (m : Int) ∧ t = .int .i64 (i : Int) ∧ i ≤ n ∧ m ≤ T ∧ Hid (Cub.TakeInv T F0 L F m i) ∧ Hid (Own wr g F) ∧ Hid (Below g w wr)) (fun _ t _ => n - (intOf t).toNat)
  case atStart => exact ⟨0, 0, F0, rfl, rfl, by omega, by omega, Cub.TakeInv.start L (unhide HL).1, HF, Below.refl _ _⟩
  case round =>
    obtain ⟨m, i, F, rfl, rfl, hi, hm, HI, HO, HB⟩ := hrel
    have hFl : Hid (F.length = n) := by rw [(unhide HI).len]; exact (unhide HN).1.symm
    by_cases hin : i < n
    · by_cases hbrk : nb ≤ i ∧ m = 0
      · obtain ⟨h1, rfl⟩ := hbrk
        have HV : Hid (Cub.lval 1000000000 F + T * Cub.lval 1000000000 L = Cub.lval 1000000000 F0 + 1000000000 ^ n * 0) := by
          have h := (unhide HI).val
          rw [List.take_of_length_le (by have := (unhide HN).2; omega)] at h
          rw [Nat.mul_zero] at h ⊢; exact h
        go_wp2
        go_ret
        exact ⟨0, F, rfl, unhide HO, unhide hFl, (unhide HI).lim, unhide HV, by omega, unhide HB⟩
      · have hiF : i < F.length := by rw [unhide hFl]; exact hin
        obtain ⟨f, hf⟩ : ∃ f, f = F[i] := ⟨_, rfl⟩
        have hfB : f < 1000000000 := by rw [hf]; exact (unhide HI).lim _ (List.getElem_mem hiF)
        have hcf := (unhide HO).cell i hiF
        rw [← hf] at hcf
        have hff := (unhide HO).frozen i
        have HFv := hide hf
        obtain ⟨lv, hlv⟩ : ∃ lv, lv = L.getD i 0 := ⟨_, rfl⟩
        have hlB : lv < 1000000000 := by
          rw [hlv]
          by_cases h : i < L.length
          · simp only [List.getD, List.getElem?_eq_getElem h, Option.getD_some]; exact (unhide HL).2 _ (List.getElem_mem h)
          · simp [List.getD, Nat.le_of_not_lt h]
        have HLB : Hid (L.getD i 0 < 1000000000) := by rw [← hlv]; exact hlB
        by_cases hib : i < nb
        · have hiL : i < L.length := by have := (unhide HN).2; omega
          obtain ⟨b, o, rfl, hcl⟩ := unhide HC wr (unhide HB) i hiL
          rw [show L[i] = lv by rw [hlv, List.getD_eq_getElem?_getD, List.getElem?_eq_getElem hiL]; rfl] at hcl
          obtain ⟨pr, hpr⟩ : ∃ pr, pr = T * lv := ⟨_, rfl⟩
          have hprB : pr ≤ 999999998000000001 := by rw [hpr]; exact Nat.mul_le_mul (show T ≤ 999999999 by omega) (show lv ≤ 999999999 by omega)
          have hmul : (T : Int) * (lv : Int) = (pr : Int) := by rw [hpr]; simp
          have HQ : Hid (m + pr = m + T * L.getD i 0) := by rw [hpr, ← hlv]; exact rfl
          clear hf hlv hpr hbrk
          by_cases hbor : f < (m + pr) % 1000000000
          · have HI' : Hid (Cub.TakeInv T F0 L (F.set i (f + 1000000000 - (m + pr) % 1000000000)) ((m + pr) / 1000000000 + 1) (i + 1)) :=
              (unhide HI).step hiF (unhide HQ) (by omega) (by omega) (by rw [← unhide HFv]; omega) (by omega) (unhide HLB)
            have HO' : Hid (Own ((wr.setCell ⟨g, i, none⟩ (.int .u64 ((f : Int) + 1000000000))).setCell ⟨g, i, none⟩ (.int .u64 ((f : Int) + 1000000000 - ((m : Int) + (pr : Int)) % 1000000000))) g (F.set i (f + 1000000000 - (m + pr) % 1000000000))) := by
              have h := ((unhide HO).set i (f + 1000000000)).set i (f + 1000000000 - (m + pr) % 1000000000)
              rw [List.set_set] at h
              rw [show ((f + 1000000000 : Nat) : Int) = (f : Int) + 1000000000 by omega, show ((f + 1000000000 - (m + pr) % 1000000000 : Nat) : Int) = (f : Int) + 1000000000 - ((m : Int) + (pr : Int)) % 1000000000 by omega] at h
              exact h
            have HB' : Hid (Below g w ((wr.setCell ⟨g, i, none⟩ (.int .u64 ((f : Int) + 1000000000))).setCell ⟨g, i, none⟩ (.int .u64 ((f : Int) + 1000000000 - ((m : Int) + (pr : Int)) % 1000000000)))) := ((unhide HB).setCell (Nat.le_refl _) _).setCell (Nat.le_refl _) _
            have hbi : (f : Int) < ((m : Int) + (pr : Int)) % 1000000000 := by omega
            clear HI HO HB
            go_wp2
            go_roundw
            case rel => exact ⟨(m + pr) / 1000000000 + 1, i + 1, _, by go_num, by go_num, by omega, (unhide HI').miss, HI', HO', HB'⟩
            case measure => simp [intOf]; omega
          · have HI' : Hid (Cub.TakeInv T F0 L (F.set i (f - (m + pr) % 1000000000)) ((m + pr) / 1000000000 + 0) (i + 1)) :=
              (unhide HI).step hiF (unhide HQ) (by omega) (by omega) (by rw [← unhide HFv]; omega) (fun _ => rfl) (unhide HLB)
            have HO' : Hid (Own (wr.setCell ⟨g, i, none⟩ (.int .u64 ((f : Int) - ((m : Int) + (pr : Int)) % 1000000000))) g (F.set i (f - (m + pr) % 1000000000))) := by
              have h := (unhide HO).set i (f - (m + pr) % 1000000000)
              rw [show ((f - (m + pr) % 1000000000 : Nat) : Int) = (f : Int) - ((m : Int) + (pr : Int)) % 1000000000 by omega] at h
              exact h
            have HB' : Hid (Below g w (wr.setCell ⟨g, i, none⟩ (.int .u64 ((f : Int) - ((m : Int) + (pr : Int)) % 1000000000)))) := (unhide HB).setCell (Nat.le_refl _) _
            have hbi : ¬ (f : Int) < ((m : Int) + (pr : Int)) % 1000000000 := by omega
            clear HI HO HB
            go_wp2
            go_roundw
            case rel => exact ⟨(m + pr) / 1000000000 + 0, i + 1, _, by go_num, by go_num, by omega, (unhide HI').miss, HI', HO', HB'⟩
            case measure => simp [intOf]; omega
        · have hm0 : 0 < m := by omega
          have hl0 : lv = 0 := by rw [hlv, List.getD_eq_getElem?_getD, List.getElem?_eq_none (by have := (unhide HN).2; omega)]; rfl
          have HQ : Hid (m = m + T * L.getD i 0) := by rw [← hlv, hl0]; exact rfl
          have hmz : ((m : Int) == 0) = false := by rw [beq_eq_false_iff_ne]; omega
          clear hf hlv hbrk hl0
          by_cases hbor : f < m % 1000000000
          · have HI' : Hid (Cub.TakeInv T F0 L (F.set i (f + 1000000000 - m % 1000000000)) (m / 1000000000 + 1) (i + 1)) :=
              (unhide HI).step hiF (unhide HQ) (by omega) (by omega) (by rw [← unhide HFv]; omega) (by omega) (unhide HLB)
            have HO' : Hid (Own ((wr.setCell ⟨g, i, none⟩ (.int .u64 ((f : Int) + 1000000000))).setCell ⟨g, i, none⟩ (.int .u64 ((f : Int) + 1000000000 - (m : Int) % 1000000000))) g (F.set i (f + 1000000000 - m % 1000000000))) := by
              have h := ((unhide HO).set i (f + 1000000000)).set i (f + 1000000000 - m % 1000000000)
              rw [List.set_set] at h
              rw [show ((f + 1000000000 : Nat) : Int) = (f : Int) + 1000000000 by omega, show ((f + 1000000000 - m % 1000000000 : Nat) : Int) = (f : Int) + 1000000000 - (m : Int) % 1000000000 by omega] at h
              exact h
            have HB' : Hid (Below g w ((wr.setCell ⟨g, i, none⟩ (.int .u64 ((f : Int) + 1000000000))).setCell ⟨g, i, none⟩ (.int .u64 ((f : Int) + 1000000000 - (m : Int) % 1000000000)))) := ((unhide HB).setCell (Nat.le_refl _) _).setCell (Nat.le_refl _) _
            have hbi : (f : Int) < (m : Int) % 1000000000 := by omega
            clear HI HO HB
            go_wp2
            go_roundw
            case rel => exact ⟨m / 1000000000 + 1, i + 1, _, by go_num, by go_num, by omega, (unhide HI').miss, HI', HO', HB'⟩
            case measure => simp [intOf]; omega
          · have HI' : Hid (Cub.TakeInv T F0 L (F.set i (f - m % 1000000000)) (m / 1000000000 + 0) (i + 1)) :=
              (unhide HI).step hiF (unhide HQ) (by omega) (by omega) (by rw [← unhide HFv]; omega) (fun _ => rfl) (unhide HLB)
            have HO' : Hid (Own (wr.setCell ⟨g, i, none⟩ (.int .u64 ((f : Int) - (m : Int) % 1000000000))) g (F.set i (f - m % 1000000000))) := by
              have h := (unhide HO).set i (f - m % 1000000000)
              rw [show ((f - m % 1000000000 : Nat) : Int) = (f : Int) - (m : Int) % 1000000000 by omega] at h
              exact h
            have HB' : Hid (Below g w (wr.setCell ⟨g, i, none⟩ (.int .u64 ((f : Int) - (m : Int) % 1000000000)))) := (unhide HB).setCell (Nat.le_refl _) _
            have hbi : ¬ (f : Int) < (m : Int) % 1000000000 := by omega
            clear HI HO HB
            go_wp2
            go_roundw
            case rel => exact ⟨m / 1000000000 + 0, i + 1, _, by go_num, by go_num, by omega, (unhide HI').miss, HI', HO', HB'⟩
            case measure => simp [intOf]; omega
    · have hie : i = n := by omega
      subst hie
      have HV : Hid (Cub.lval 1000000000 F + T * Cub.lval 1000000000 L = Cub.lval 1000000000 F0 + 1000000000 ^ i * m) := by
        have h := (unhide HI).val
        rw [List.take_of_length_le (by have := (unhide HN).2; omega)] at h
        exact h
      go_wp2
      go_ret
      exact ⟨m, F, rfl, unhide HO, unhide hFl, (unhide HI).lim, unhide HV, hm, unhide HB⟩
end Go.Proofs.YtijifpbpjinmhaaGreatDoor
namespace Go.Proofs.YtijifpbpjinmhaaGreatDoor
open Go.RowKit
theorem splice_all (l : List Nat) (n : Nat) (h : n = l.length) : splice (u64s (List.replicate n 0)) 0 (u64s l) = u64s l := by
  subst h
  unfold splice u64s
  simp
theorem sub_last {n : Nat} {F lx ly : List Nat} {m : Nat} (hlim : Cub.limbs 1000000000 F) (hl : F.length = n) (h : Cub.lval 1000000000 F + 1 * Cub.lval 1000000000 ly = Cub.lval 1000000000 lx + 1000000000 ^ n * m)
    (hle : Cub.lval 1000000000 ly ≤ Cub.lval 1000000000 lx) : Cub.lval 1000000000 F = Cub.lval 1000000000 lx - Cub.lval 1000000000 ly := by
  have h1 := Cub.lval_lt hlim
  rw [hl] at h1
  rcases Nat.eq_zero_or_pos m with h0 | h0
  · subst h0; omega
  · have : 1000000000 ^ n * 1 ≤ 1000000000 ^ n * m := Nat.mul_le_mul_left _ h0
    omega
theorem norm9_len_le {x y : List Nat} (hx : Cub.limbs 1000000000 x) (hy : Cub.normal 1000000000 y) (h : Cub.lval 1000000000 y ≤ Cub.lval 1000000000 x) : y.length ≤ x.length :=
  Cub.len_le hy (Nat.lt_of_le_of_lt h (Cub.lval_lt hx))
end Go.Proofs.YtijifpbpjinmhaaGreatDoor
namespace Cub
def cmpN (m n : Nat) : Int := if m < n then -1 else if n < m then 1 else 0
theorem toNat_lt_iff (a b : UInt8) : a < b ↔ a.toNat < b.toNat := UInt8.lt_iff_toNat_lt
theorem bytesLess_dval : ∀ (a b : List UInt8), digs a → digs b → a.length = b.length → Go.Op.bytesLess a b = decide (dval a < dval b) := by
  intro a
  induction a with
  | nil => intro b _ _ h; have : b = [] := List.length_eq_zero_iff.1 h.symm
           subst this; rfl
  | cons x a ih =>
    intro b ha hb hl
    cases b with
    | nil => simp at hl
    | cons y b =>
      have hx := ha x (by simp)
      have hy := hb y (by simp)
      have ha' : digs a := fun c hc => ha c (List.mem_cons_of_mem _ hc)
      have hb' : digs b := fun c hc => hb c (List.mem_cons_of_mem _ hc)
      have hl' : a.length = b.length := by simpa using hl
      have e := ih b ha' hb' hl'
      have l1 := dval_lt ha'
      have l2 := dval_lt hb'
      simp only [Go.Op.bytesLess]
      rw [e, dval_cons, dval_cons, ← hl']
      rw [← hl'] at l2
      rw [Bool.eq_iff_iff]
      simp only [Bool.or_eq_true, Bool.and_eq_true, decide_eq_true_eq, beq_iff_eq, toNat_lt_iff]
      constructor
      · rintro (h | ⟨h, h2⟩)
        · have : (x.toNat - 48 + 1) * 10 ^ a.length ≤ (y.toNat - 48) * 10 ^ a.length := Nat.mul_le_mul_right _ (by omega)
          rw [Nat.add_mul] at this; omega
        · subst h; omega
      · intro h
        by_cases hxy : x.toNat < y.toNat
        · exact Or.inl hxy
        · right
          by_cases he : x.toNat = y.toNat
          · refine ⟨?_, ?_⟩
            · rw [← ofNat_toNat x, ← ofNat_toNat y, he]
            · rw [he] at h; omega
          · exfalso
            have : (y.toNat - 48 + 1) * 10 ^ a.length ≤ (x.toNat - 48) * 10 ^ a.length := Nat.mul_le_mul_right _ (by omega)
            rw [Nat.add_mul] at this; omega
theorem dval_inj {a b : List UInt8} (ha : isNat a) (hb : isNat b) (h : dval a = dval b) : a = b := by
  rw [← dec_dval _ a rfl ha, ← dec_dval _ b rfl hb, h]
theorem len_lt_dval {a b : List UInt8} (ha : isNat a) (hb : isNat b) (h : a.length < b.length) : dval a < dval b := by
  have h1 := dval_lt ha.1
  have h2 : 0 < a.length := List.length_pos_iff.2 ha.2.1
  have h3 := isNat_pos hb (by omega)
  have h4 : 10 ^ a.length ≤ 10 ^ (b.length - 1) := Nat.pow_le_pow_right (by decide) (by omega)
  omega
end Cub

/- rat.Quo, Cmp, Neg. -/
import Derived.Test.YtifalmdoligblaaGreatDoorRefGcd
import Derived.Test.YtifalmdoligblaaGreatDoorRead
import Derived.Test.YtifalmdoligblaaGreatDoorParse2
namespace Go.Proofs.YtifalmdoligblaaGreatDoor
open Go.RowKit
set_option maxRecDepth 100000 in
set_option maxHeartbeats 2000000 in
theorem refDivideG (s t : ByteArray) (w : World) (hs1 : Cub.isNat s.data.toList) (ht1 : Cub.isNat t.data.toList) (hsz : s.size ≤ 5000) (htz : t.size ≤ 5000) (h0 : 0 < val t) :
    Calls Tryz.prog 119 #[.string s, .string t] w fun e w' => e = .returned (.tuple #[.string ⟨(Lib.decDigits (val s / val t)).toArray⟩, .string ⟨(Lib.decDigits (val s % val t)).toArray⟩]) ∧ Below w.heap.size w w' := by
  have hs2 : s.data.toList.length ≤ 5000 := by rw [list_len]; exact hsz
  have ht2 : t.data.toList.length ≤ 5000 := by rw [list_len]; exact htz
  have HLS : Hid (∀ W : World, Calls Tryz.prog 157 #[.string s] W fun e w' => ∃ v l, e = .returned v ∧ OwnI w' W.heap.size v l ∧ Cub.normal 10000 l ∧ Cub.lval 10000 l = val s ∧ l.length ≤ 5000 ∧ Below W.heap.size W w') := fun W => by
    refine (refLimbs_any s W (by omega) hs1.1).mono ?_
    rintro e w' ⟨v, l, he, ho, hn, hv, hb⟩
    exact ⟨v, l, he, ho, hn, hv, by have := Cub.len_le4 hs1.1 hn hv; omega, hb⟩
  have HLT : Hid (∀ W : World, Calls Tryz.prog 157 #[.string t] W fun e w' => ∃ v l, e = .returned v ∧ OwnI w' W.heap.size v l ∧ Cub.normal 10000 l ∧ Cub.lval 10000 l = val t ∧ l.length ≤ 5000 ∧ Below W.heap.size W w') := fun W => by
    refine (refLimbs_any t W (by omega) ht1.1).mono ?_
    rintro e w' ⟨v, l, he, ho, hn, hv, hb⟩
    exact ⟨v, l, he, ho, hn, hv, by have := Cub.len_le4 ht1.1 hn hv; omega, hb⟩
  have HSS : Hid (s = ⟨(Lib.decDigits (val s)).toArray⟩) := by
    show _ = _
    have : Lib.decDigits (val s) = s.data.toList := Cub.dec_dval _ _ rfl hs1
    rw [this]
  clear hs1 hs2 ht1 ht2 hsz htz
  go_enter Tryz.func119, Tryz.ntmps119
  go_upto_region 3 with (first
    | (go_at_call_of 157 s; go_must (refine (unhide HLS w).mono ?_; rintro e w1 ⟨vx, X, rfl, ho1, hnX, hvX, hlX, hb1⟩; have HX := hide (And.intro ho1 (And.intro hnX hvX)); clear ho1 hnX hvX; have hs1 := hb1.size))
    | (go_at_call_of 157 t; go_must (refine (unhide HLT w1).mono ?_; rintro e w2 ⟨vy, Y, rfl, ho2, hnY, hvY, hlY, hb2⟩; have HY := hide (And.intro ho2 (And.intro hnY hvY)); clear ho2 hnY hvY)))
  have hs2 : w.heap.size ≤ w2.heap.size := Nat.le_trans hs1 hb2.size
  have HB2 := hide (hb1.trans (hb2.mono hs1))
  have H85 := hide (refLess_any vx vy X Y w2 (RowI.of_own ((unhide HX).1.later hb2)) (RowI.of_own (unhide HY).1) (unhide HX).2.1 (unhide HY).2.1)
  rw [(unhide HX).2.2, (unhide HY).2.2] at H85
  by_cases hlt : val s < val t
  · rw [decide_eq_true hlt] at H85
    have HQ : Hid (Lib.decDigits (val s / val t) = [48] ∧ val s % val t = val s) := ⟨by rw [Nat.div_eq_of_lt hlt]; exact dec_zero, Nat.mod_eq_of_lt hlt⟩
    clear hlt h0 HLS HLT hb1 hb2
    go_wp2_with (go_at_call 158; go_must (refine (unhide H85).mono ?_; rintro e w3 ⟨rfl, hb3⟩))
    go_ret2
    exact ⟨by rw [(unhide HQ).1, (unhide HQ).2, ← unhide HSS]; rfl, (unhide HB2).trans (hb3.mono hs2)⟩
  · rw [decide_eq_false hlt] at H85
    have hYne : Y ≠ [] := fun e => by have := (unhide HY).2.2; rw [e] at this; have h2 : Cub.lval 10000 [] = 0 := rfl; omega
    have hyx : Y.length ≤ X.length := Cub.normal_len_le (by decide) (unhide HX).2.1.1 (unhide HY).2.1 (by rw [(unhide HX).2.2, (unhide HY).2.2]; omega)
    have hYl : 0 < Y.length := List.length_pos_iff.2 hYne
    have hXne : X ≠ [] := fun e => by rw [e] at hyx; simp at hyx; exact hYne hyx
    obtain ⟨g, cX, rfl, hg1, hg2, hcX, hmX⟩ := own_block (unhide HX).1 hXne
    obtain ⟨gy, cY, rfl, hy1, hy2, hcY, hmY⟩ := own_block (unhide HY).1 hYne
    have HS0 : Hid (Cub.lval 10000 (X.drop (X.length - Y.length + 1)) < Cub.lval 10000 Y) := by
      show _ < _
      have h1 := Cub.lval_lt (Cub.limbs_drop4 (unhide HX).2.1.1 (X.length - Y.length + 1))
      rw [List.length_drop] at h1
      have h2 := Cub.normal_ge (unhide HY).2.1 hYne
      have h3 : X.length - (X.length - Y.length + 1) = Y.length - 1 := by omega
      rw [h3] at h1
      omega
    have HX2 := hide ((unhide HX).1.later hb2)
    have HDV : Hid (Cub.DivInv (val s) (val t) X (List.replicate X.length 0) X.length (X.length - Y.length + 1)) := by
      have := Cub.DivInv.start (A := val s) (V := val t) (unhide HX).2.1.1 (unhide HX).2.2 (up := X.length - Y.length + 1) (by rw [← (unhide HY).2.2]; exact unhide HS0)
      exact this
    have HYY := hide (unhide HY)
    obtain ⟨nX, hnX⟩ : ∃ nX, nX = X.length := ⟨_, rfl⟩
    obtain ⟨nY, hnY⟩ : ∃ nY, nY = Y.length := ⟨_, rfl⟩
    rw [← hnX] at HX2 HDV H85 hcX hyx hlX ⊢
    rw [← hnY] at HYY HDV H85 hcY hyx hYl hlY ⊢
    have HNX := hide hnX
    have HNY := hide hnY
    have HLT2 := hide hlt
    have hb2s := hb2.size
    clear hlt HSS HLS HLT hb1 hb2 HX HY HS0 hYne hXne hnX hnY
    obtain ⟨i0, hi, hz0, hz1, hz2⟩ := info_parts Tryz.info3
    go_wp2_with (first
      | (go_at_call 158; go_must (refine (unhide H85).mono ?_; rintro e w3 ⟨rfl, hb3⟩; have HX3 := hide ((unhide HX2).later hb3); have HY3 := hide ((unhide HYY).1.later hb3); have HB3 := hide ((unhide HB2).trans (hb3.mono hs2)); have hs3 := hb3.size; clear hb3))
      | (at_make; go_must (refine wpList_make_full _ rfl _ _ 156 rfl w3.heap.size 3 i0 (.int .i64 0) 1 Tryz.underlying156 hi hz0 hz1 .i64 .i64 _ _ nX rfl rfl (by omega) (by omega) (by rw [hz2]; omega) (by unfold maxLen; omega) (Nat.le_refl _) ?_; intro w4 hown4 hgrow4; rw [i64s_made] at hown4; have hb4 : Below w3.heap.size w3 w4 := (Below.refl _ _).grown hgrow4 (Nat.le_refl _) (fun k hk => by cases hk); have HQ4 : Hid (OwnI w4 w3.heap.size (.slice (some ⟨w3.heap.size, 0, none⟩) nX nX) (List.replicate nX 0)) := (by show World.ownsRow _ _ _ _ _ _ _; rw [List.length_replicate]; exact hown4); have HX4 := hide ((unhide HX3).later hb4); have HY4 := hide ((unhide HY3).later hb4); have HB4 := hide ((unhide HB3).trans (hb4.mono (Nat.le_trans hs2 hs3))); clear hown4 hgrow4 hb4)))
    have hgq : g < w3.heap.size := by omega
    have hgyq : gy < w3.heap.size := by omega
    have hwq : w.heap.size ≤ w3.heap.size := by omega
    have hygg : g < w1.heap.size := hg2
    generalize hgw : w3.heap.size = gq at *
    clear hgw H85 HX2 HX3 HY3 HB3 HB2
    go_loopw [9] (fun v9 wr => ∃ (u : Nat) (X Q : List Nat), v9 = .int .i64 ((u : Int) - 1) ∧ u ≤ nX - nY + 1 ∧ Hid (Cub.DivInv (val s) (val t) X Q nX u) ∧ Hid (OwnI wr w.heap.size (.slice (some ⟨g, 0, none⟩) nX cX) X) ∧ Hid (OwnI wr w1.heap.size (.slice (some ⟨gy, 0, none⟩) nY cY) Y) ∧ Hid (OwnI wr gq (.slice (some ⟨gq, 0, none⟩) nX nX) Q) ∧ Hid (Below w.heap.size w wr)) (fun v9 _ => (intOf v9 + 1).toNat)
    case atStart => exact ⟨nX - nY + 1, X, _, by go_num, Nat.le_refl _, HDV, HX4, HY4, HQ4, HB4⟩
    case round =>
      obtain ⟨u, X', Q, rfl, hu, HI, HOX, HOY, HOQ, HB⟩ := hrel
      clear HDV HX4 HY4 HQ4 HB4 HNX X
      have HVY := hide (unhide HYY).2
      clear HYY
      by_cases hu0 : u = 0
      · subst hu0
        obtain ⟨d1, d2⟩ := (unhide HI).done
        obtain ⟨q1, q2, _⟩ := Cub.lval_trim 10000 _ Q rfl
        obtain ⟨x1, x2, _⟩ := Cub.lval_trim 10000 _ X' rfl
        have HTQ : Hid (Cub.normal 10000 (Cub.trimN Q) ∧ Cub.lval 10000 (Cub.trimN Q) = val s / val t ∧ (Cub.trimN Q).length ≤ 1000000) := ⟨q2 (unhide HI).limQ, q1.trans d1, by
          have h := Cub.len_leB (B := 10000) (by decide) (k := nX) (q2 (unhide HI).limQ) (by rw [q1]; have := Cub.lval_lt (unhide HI).limQ; rw [(unhide HI).lenQ] at this; exact this)
          omega⟩
        have HTX : Hid (Cub.normal 10000 (Cub.trimN X') ∧ Cub.lval 10000 (Cub.trimN X') = val s % val t ∧ (Cub.trimN X').length ≤ 1000000) := ⟨x2 (unhide HI).limX, x1.trans d2, by
          have h := Cub.len_leB (B := 10000) (by decide) (k := nX) (x2 (unhide HI).limX) (by rw [x1]; have := Cub.lval_lt (unhide HI).limX; rw [(unhide HI).lenX] at this; exact this)
          omega⟩
        have H77q := hide (refTrim_any _ gq Q wr (unhide HOQ))
        clear d1 d2 q1 q2 x1 x2 HI
        have hbs := (unhide HB).size
        go_wp2_with fail
        refine (unhide H77q).mono ?_
        rintro e w5 ⟨vq, rfl, hoq, hw5⟩
        rw [hw5]
        have H76q := hide (refText_any vq gq (Cub.trimN Q) wr hoq (unhide HTQ).1 (unhide HTQ).2.2)
        rw [(unhide HTQ).2.1] at H76q
        clear hoq hw5 H77q
        go_wp2_with fail
        refine (unhide H76q).mono ?_
        rintro e w6 ⟨rfl, hb6⟩
        have H77x := hide (refTrim_any _ w.heap.size X' w6 ((unhide HOX).later hb6))
        clear H76q
        go_wp2_with fail
        refine (unhide H77x).mono ?_
        rintro e w7 ⟨vt, rfl, hot, hw7⟩
        rw [hw7]
        have H76x := hide (refText_any vt w.heap.size (Cub.trimN X') w6 hot (unhide HTX).1 (unhide HTX).2.2)
        rw [(unhide HTX).2.1] at H76x
        clear hot hw7 H77x
        go_wp2_with fail
        refine (unhide H76x).mono ?_
        rintro e w8 ⟨rfl, hb8⟩
        have hb9 := (unhide HB).trans ((hb6.trans (hb8.mono hb6.size)).mono hbs)
        go_wp2_with fail
        go_ret2
        exact ⟨rfl, hb9⟩
      · obtain ⟨up, rfl⟩ : ∃ up, u = up + 1 := ⟨u - 1, by omega⟩
        have hupn : up < nX := by omega
        have hnYY := unhide HNY
        have hlX' := (unhide HI).lenX
        obtain ⟨q, hq⟩ : ∃ q, q = Cub.lval 10000 (X'.drop up) / Cub.lval 10000 Y := ⟨_, rfl⟩
        have hq9 : q ≤ 9999 := by rw [hq, (unhide HVY).2]; exact (unhide HI).quo hupn
        have H86 := hide (refFits_any (.slice (some ⟨g, 0, none⟩) nX cX) (.slice (some ⟨gy, 0, none⟩) nY cY) w.heap.size w1.heap.size X' Y up q wr (unhide HOX) (unhide HOY) (unhide HI).limX (unhide HVY).1 (by omega) (by omega) (by omega) (by rw [← hq]; exact hq9) (by rw [(unhide HVY).2]; exact h0) hq)
        have hle : q * Cub.lval 10000 Y ≤ Cub.lval 10000 (X'.drop up) := by rw [hq]; exact Nat.div_mul_le_self _ _
        have HST : Hid (∀ D : List Nat, D.length = X'.length → Cub.limbs 10000 D → D.take up = X'.take up → Cub.lval 10000 (D.drop up) + q * Cub.lval 10000 Y = Cub.lval 10000 (X'.drop up) → Cub.DivInv (val s) (val t) D (Q.set up q) nX up) := fun D h1 h2 h3 h4 => (unhide HI).step hupn (by rw [hq, (unhide HVY).2]) h1 h2 h3 (by rw [← (unhide HVY).2]; exact h4)
        have HLQ : Hid (Q.length = nX) := (unhide HI).lenQ
        have H87 : Hid (∀ W : World, OwnI W w.heap.size (.slice (some ⟨g, 0, none⟩) nX cX) X' → OwnI W w1.heap.size (.slice (some ⟨gy, 0, none⟩) nY cY) Y → Calls Tryz.prog 160 #[.slice (some ⟨g, 0, none⟩) nX cX, .slice (some ⟨gy, 0, none⟩) nY cY, .int .i64 (up : Int), .int .i64 (q : Int)] W fun e w' => e = .returned (.tuple #[]) ∧ (∃ D, OwnI w' w.heap.size (.slice (some ⟨g, 0, none⟩) nX cX) D ∧ D.length = X'.length ∧ Cub.limbs 10000 D ∧ D.take up = X'.take up ∧ Cub.lval 10000 (D.drop up) + q * Cub.lval 10000 Y = Cub.lval 10000 (X'.drop up)) ∧ W.grownBy w' (some g)) := fun W hx hy =>
          refTake_any _ w.heap.size w1.heap.size g nX cX X' Y up q W hlX'.symm hx hy hygg (unhide HI).limX (unhide HVY).1.1 (by omega) (by omega) hq9 hle
        have HZ : Hid (q = 0 → Cub.DivInv (val s) (val t) X' (Q.set up q) nX up) := fun h => unhide HST X' rfl (unhide HI).limX rfl (by rw [h]; simp)
        have ej : ((up + 1 : Nat) : Int) - 1 = (up : Int) := by omega
        rw [ej]
        have hbs := (unhide HB).size
        clear hq hle hnYY hlX' HI HNY HVY ej hu0
        have hupI : (up : Int) < (nX : Int) := by omega
        go_upto_region 10 with (first
          | (go_at_call 159; go_must (refine (unhide H86).mono ?_; rintro e w5 ⟨rfl, hb5⟩; have HOX5 := hide ((unhide HOX).later hb5); have HOY5 := hide ((unhide HOY).later hb5); have HOQ5 := hide ((unhide HOQ).later hb5); have HB5 := hide ((unhide HB).trans (hb5.mono hbs)); clear hb5; have hupQ : up < Q.length := (by have := unhide HLQ; omega); have HROW : Hid (w5.ownsRow gq 3 1 (.slice (some ⟨gq, 0, none⟩) nX nX) nX (i64s Q)) := (by have h := unhide HOQ5; unfold OwnI at h; rw [unhide HLQ] at h; exact h); have cq : w5.cell? ⟨gq, up, none⟩ = some (.int .i64 (Q[up] : Int)) := (by rw [(unhide HROW).cellAt up (by omega), i64s_get Q up hupQ]); have fq : w5.frozen? ⟨gq, up, none⟩ = false := (unhide HROW).frozenAt up)))
        obtain ⟨W, hW⟩ : ∃ W, W = w5.setCell ⟨gq, up, none⟩ (.int .i64 (q : Int)) := ⟨_, rfl⟩
        have HOX6 : Hid (OwnI W w.heap.size (.slice (some ⟨g, 0, none⟩) nX cX) X') := by rw [hW]; exact own_other (unhide HOX5) (by omega)
        have HOY6 : Hid (OwnI W w1.heap.size (.slice (some ⟨gy, 0, none⟩) nY cY) Y) := by rw [hW]; exact own_other (unhide HOY5) (by omega)
        have HOQ6 : Hid (OwnI W gq (.slice (some ⟨gq, 0, none⟩) nX nX) (Q.set up q)) := by rw [hW]; exact own_set (unhide HOQ5) (unhide HLQ).symm q _ rfl
        have HB6 : Hid (Below w.heap.size w W) := by rw [hW]; exact (unhide HB5).setCell (by exact hwq) _
        have cW : W.cell? ⟨gq, up, none⟩ = some (.int .i64 (q : Int)) := by rw [hW]; exact World.cell?_setCell_same _ _ _ cq
        rw [← hW]
        clear hW cq fq HROW HOX5 HOY5 HOQ5 HB5 HOX HOY HOQ HB H86 hupQ
        by_cases hq0 : 0 < q
        · have H87w := hide (unhide H87 W (unhide HOX6) (unhide HOY6))
          have hqI : (0 : Int) < (q : Int) := by omega
          clear H87 HZ
          go_wp2_with (go_at_call 160; go_must (refine (unhide H87w).mono ?_; rintro e w7 ⟨rfl, hD, hg7⟩; obtain ⟨D, hoD, hl, hlim, hlow, hsum⟩ := hD; have HI7 := hide (unhide HST D hl hlim hlow hsum); have HOX7 := hide hoD; have HOY7 := hide (own_grown (unhide HOY6) hg7 hygg); have HOQ7 := hide (own_grown (unhide HOQ6) hg7 hgq); have HB7 := hide ((unhide HB6).grown hg7 (unhide HB6).size (fun k hk => by simp only [Option.some.injEq] at hk; omega)); clear hoD hl hlim hlow hsum hg7))
          go_roundw
          case rel => exact ⟨up, D, Q.set up q, by go_num, by omega, HI7, HOX7, HOY7, HOQ7, HB7⟩
          case measure => simp [intOf]
        · have HI7 := hide (unhide HZ (by omega))
          have hqI : ¬ (0 : Int) < (q : Int) := by omega
          clear H87 HZ HST
          go_wp2_with fail
          go_roundw
          case rel => exact ⟨up, X', Q.set up q, by go_num, by omega, HI7, HOX6, HOY6, HOQ6, HB6⟩
          case measure => simp [intOf]

end Go.Proofs.YtifalmdoligblaaGreatDoor

namespace Go.Proofs.YtifalmdoligblaaGreatDoor
open Go.RowKit

theorem digT_size (s : ByteArray) : (digT s).size ≤ s.size := by
  rw [← list_len, ← list_len, digT_list]
  split
  · simp
  · exact Nat.le_refl _
end Go.Proofs.YtifalmdoligblaaGreatDoor


namespace Go.Proofs.YtifalmdoligblaaGreatDoor
open Go.RowKit

/-- Two texts are those of a number. -/
def IsR (num den : ByteArray) (x : Rat) : Prop := Small x ∧ num = numT x ∧ den = denT x
theorem IsR.rt {num den : ByteArray} {x : Rat} (h : IsR num den x) : RT num den (decide (x < 0)) x.num.natAbs x.den := by
  obtain ⟨hs, rfl, rfl⟩ := h
  unfold numT denT
  rw [if_pos hs, if_pos hs]
  exact ⟨rfl, rfl, hs.1, hs.2, (Cub.low_of x).1⟩
theorem RT.isR {num den : ByteArray} {b : Bool} {n d : Nat} (h : RT num den b n d) : IsR num den (Cub.valQ b n d) := by
  obtain ⟨e1, e2, e3⟩ := Cub.low_is h.low
  have hs : Small (Cub.valQ b n d) := ⟨by rw [← e2]; exact h.hn, by rw [← e3]; exact h.hd⟩
  refine ⟨hs, ?_, ?_⟩
  · unfold numT; rw [if_pos hs, ← e1, ← e2]; exact h.num
  · unfold denT; rw [if_pos hs, ← e3]; exact h.den
theorem right_isR (num den : ByteArray) : RightT num den ↔ ∃ x, IsR num den x :=
  ⟨fun ⟨_, _, _, h⟩ => ⟨_, h.isR⟩, fun ⟨_, h⟩ => ⟨_, _, _, h.rt⟩⟩
theorem IsR.size {num den : ByteArray} {x : Rat} (h : IsR num den x) : num.size ≤ 601 ∧ den.size ≤ 600 := by
  have r := h.rt
  rw [r.num, r.den]
  exact ⟨sT_size _ _ r.hn, (tb_digs _ r.hd).2⟩
theorem qread (num den : ByteArray) (x : Rat) (w : World) (h : IsR num den x) :
    Calls Tryz.prog 76 #[.agg #[.string num, .string den]] w fun r w' => ∃ v, r = .returned (.tuple #[v, .bool true]) ∧ QOf w' v x 67 ∧ Below w.heap.size w w' := by
  have r := h.rt
  have := read_ok num den _ _ _ w r.num r.den r.hn r.hd r.low.sign (by have := r.low.pos; omega) r.low.cop
  rwa [(Cub.low_of x).2] at this
/-- Two numbers in their boxes, two boxes of Fracs. -/
structure W2 (w W : World) (x y z t p0 p1 p2 q0 q1 q2 : Value) : Prop where
  a : T2 W w.heap.size x y
  b : T2 W (w.heap.size + 1) z t
  p : FBox W (w.heap.size + 1 + 1) p0 p1 p2
  q : FBox W (w.heap.size + 1 + 1 + 1) q0 q1 q2
  below : Below w.heap.size w W
theorem W2.later {w W V : World} {x y z t p0 p1 p2 q0 q1 q2 : Value} (s : W2 w W x y z t p0 p1 p2 q0 q1 q2) (hb : Below W.heap.size W V) : W2 w V x y z t p0 p1 p2 q0 q1 q2 :=
  ⟨s.a.later hb, s.b.later hb, s.p.later hb, s.q.later hb, s.below.trans (hb.mono s.below.size)⟩
theorem W2.first (w : World) (x y z t : Value) : W2 w ((((w.alloc (.cells #[x, y] 23)).alloc (.cells #[z, t] 23)).alloc (.cells #[.bool false, .slice none 0 0, .slice none 0 0] 74)).alloc (.cells #[.bool false, .slice none 0 0, .slice none 0 0] 74)) x y z t (.bool false) (.slice none 0 0) (.slice none 0 0) (.bool false) (.slice none 0 0) (.slice none 0 0) :=
  ⟨⟨by simp [go_sem], by simp [go_sem], by simp [go_sem], by simp [go_sem]⟩, ⟨by simp [go_sem], by simp [go_sem], by simp [go_sem], by simp [go_sem]⟩, ⟨by simp [go_sem], by simp [go_sem], by simp [go_sem], by simp [go_sem], by simp [go_sem], by simp [go_sem]⟩, ⟨by simp [go_sem], by simp [go_sem], by simp [go_sem], by simp [go_sem], by simp [go_sem], by simp [go_sem]⟩,
    ((((Below.refl _ _).alloc (Nat.le_refl _) _).alloc (by simp) _).alloc (by simp; omega) _).alloc (by simp; omega) _⟩
theorem FBox.other3 {W : World} {g k : Nat} {x y z : Value} (h : FBox W g x y z) (hk : g ≠ k) (u v s : Value) : FBox (store3 W k u v s) g x y z := ((h.otherAt hk u).otherAt hk v).otherAt hk s
theorem T2.other3 {W : World} {g k : Nat} {x y : Value} (h : T2 W g x y) (hk : g ≠ k) (u v s : Value) : T2 (store3 W k u v s) g x y := ((h.otherAt hk u).otherAt hk v).otherAt hk s
theorem W2.setP {w W : World} {x y z t p0 p1 p2 q0 q1 q2 : Value} (s : W2 w W x y z t p0 p1 p2 q0 q1 q2) (u v r : Value) : W2 w (store3 W (w.heap.size + 1 + 1) u v r) x y z t u v r q0 q1 q2 :=
  ⟨s.a.other3 (by omega) _ _ _, s.b.other3 (by omega) _ _ _, s.p.store _ _ _, s.q.other3 (by omega) _ _ _, below_store3 s.below (by omega) _ _ _⟩
theorem W2.setQ {w W : World} {x y z t p0 p1 p2 q0 q1 q2 : Value} (s : W2 w W x y z t p0 p1 p2 q0 q1 q2) (u v r : Value) : W2 w (store3 W (w.heap.size + 1 + 1 + 1) u v r) x y z t p0 p1 p2 u v r :=
  ⟨s.a.other3 (by omega) _ _ _, s.b.other3 (by omega) _ _ _, s.p.other3 (by omega) _ _ _, s.q.store _ _ _, below_store3 s.below (by omega) _ _ _⟩
theorem QOf.over {W : World} {g : Nat} {b : Bool} {a1 a2 : Option Addr} {l1 c1 l2 c2 : Nat} (h : FBox W g (.bool b) (.slice a1 l1 c1) (.slice a2 l2 c2)) (u v r : Value) {vv : Value} {x : Rat} {k : Nat}
    (hv : QOf W vv x k) : QOf (store3 W g u v r) vv x k := by
  obtain ⟨b0, n, d, ⟨s, t, e, h1, h1'⟩, h2⟩ := hv
  exact ⟨b0, n, d, ⟨s, t, e, h.big _ _ _ h1, h.big _ _ _ h1'⟩, h2⟩

set_option maxRecDepth 100000 in
set_option maxHeartbeats 2000000 in
theorem readTwo_ok (n1 d1 n2 d2 : ByteArray) (x y : Rat) (w : World) (h1 : IsR n1 d1 x) (h2 : IsR n2 d2 y) :
    Calls Tryz.prog 96 #[.agg #[.string n1, .string d1], .agg #[.string n2, .string d2]] w fun r w' => ∃ v u, r = .returned (.tuple #[v, u, .int .i64 0]) ∧ QOf w' v x 67 ∧ QOf w' u y 67 ∧ Below w.heap.size w w' := by
  obtain ⟨V, hV⟩ : ∃ V, V = ((((w.alloc (.cells #[.string n1, .string d1] 23)).alloc (.cells #[.string n2, .string d2] 23)).alloc (.cells #[.bool false, .slice none 0 0, .slice none 0 0] 74)).alloc (.cells #[.bool false, .slice none 0 0, .slice none 0 0] 74)) := ⟨_, rfl⟩
  have HS : Hid (W2 w V (.string n1) (.string d1) (.string n2) (.string d2) (.bool false) (.slice none 0 0) (.slice none 0 0) (.bool false) (.slice none 0 0) (.slice none 0 0)) := by rw [hV]; exact W2.first _ _ _ _ _
  have HV := hide hV
  have HR1 := hide (fun W => qread n1 d1 x W h1)
  have HR2 := hide (fun W => qread n2 d2 y W h2)
  clear h1 h2
  go_enter Tryz.func96, Tryz.ntmps96
  go_upto_region 1 with fail
  rw [← unhide HV]
  clear hV HV
  have t0 := (unhide HS).a.c0; have t1 := (unhide HS).a.c1
  go_upto_region 2 with (go_at_call 76; go_must (refine (unhide HR1 _).mono ?_; rintro e w1 ⟨v1, rfl, hv1, hb1⟩; obtain ⟨b1, i1, i2, i3, i4, i5, i6, rfl⟩ := hv1.form; have HS1 := hide ((unhide HS).later hb1); have HV1 := hide hv1; clear hv1 hb1 t0 t1; have r0 := (unhide HS1).p.c0; have r1 := (unhide HS1).p.c1; have r2 := (unhide HS1).p.c2; have rf0 := (unhide HS1).p.f0; have rf1 := (unhide HS1).p.f1; have rf2 := (unhide HS1).p.f2))
  obtain ⟨V2, hV2⟩ : ∃ V2, V2 = store3 w1 (w.heap.size + 1 + 1) (.bool b1) (.slice i1 i2 i3) (.slice i4 i5 i6) := ⟨_, rfl⟩
  have hV2' : V2 = ((w1.setCell ⟨w.heap.size + 1 + 1, 0, none⟩ (.bool b1)).setCell ⟨w.heap.size + 1 + 1, 1, none⟩ (.slice i1 i2 i3)).setCell ⟨w.heap.size + 1 + 1, 2, none⟩ (.slice i4 i5 i6) := hV2
  have HS2 := hide ((unhide HS1).setP (.bool b1) (.slice i1 i2 i3) (.slice i4 i5 i6))
  have HV2 := hide ((unhide HV1).stored (unhide HS1).p)
  rw [← hV2] at HS2 HV2
  rw [← hV2']
  clear hV2 hV2' HS HS1 HV1 r0 r1 r2 rf0 rf1 rf2
  have t0 := (unhide HS2).b.c0; have t1 := (unhide HS2).b.c1
  go_upto_region 3 with (go_at_call 76; go_must (refine (unhide HR2 _).mono ?_; rintro e w3 ⟨v3, rfl, hv3, hb3⟩; obtain ⟨b3, j1, j2, j3, j4, j5, j6, rfl⟩ := hv3.form; have HS3 := hide ((unhide HS2).later hb3); have HV3 := hide hv3; have HU3 := hide ((unhide HV2).later hb3); clear hv3 hb3 t0 t1; have r0 := (unhide HS3).q.c0; have r1 := (unhide HS3).q.c1; have r2 := (unhide HS3).q.c2; have rf0 := (unhide HS3).q.f0; have rf1 := (unhide HS3).q.f1; have rf2 := (unhide HS3).q.f2))
  obtain ⟨V4, hV4⟩ : ∃ V4, V4 = store3 w3 (w.heap.size + 1 + 1 + 1) (.bool b3) (.slice j1 j2 j3) (.slice j4 j5 j6) := ⟨_, rfl⟩
  have hV4' : V4 = ((w3.setCell ⟨w.heap.size + 1 + 1 + 1, 0, none⟩ (.bool b3)).setCell ⟨w.heap.size + 1 + 1 + 1, 1, none⟩ (.slice j1 j2 j3)).setCell ⟨w.heap.size + 1 + 1 + 1, 2, none⟩ (.slice j4 j5 j6) := hV4
  have HS4 := hide ((unhide HS3).setQ (.bool b3) (.slice j1 j2 j3) (.slice j4 j5 j6))
  have HV4 := hide ((unhide HV3).stored (unhide HS3).q)
  have HU4 := hide (QOf.over (unhide HS3).q (.bool b3) (.slice j1 j2 j3) (.slice j4 j5 j6) (unhide HU3))
  rw [← hV4] at HS4 HV4 HU4
  rw [← hV4']
  clear hV4 hV4' HS2 HV2 HS3 HV3 HU3 r0 r1 r2 rf0 rf1 rf2
  go_upto_region 5 with fail
  have r0 := (unhide HS4).p.c0; have r1 := (unhide HS4).p.c1; have r2 := (unhide HS4).p.c2; have rf0 := (unhide HS4).p.f0; have rf1 := (unhide HS4).p.f1; have rf2 := (unhide HS4).p.f2
  have s0 := (unhide HS4).q.c0; have s1 := (unhide HS4).q.c1; have s2 := (unhide HS4).q.c2; have sf0 := (unhide HS4).q.f0; have sf1 := (unhide HS4).q.f1; have sf2 := (unhide HS4).q.f2
  go_region
  obtain ⟨V5, hV5⟩ : ∃ V5, V5 = (store3 (store3 V4 (w.heap.size + 1 + 1) (.bool b1) (.slice i1 i2 i3) (.slice i4 i5 i6)) (w.heap.size + 1 + 1 + 1) (.bool b3) (.slice j1 j2 j3) (.slice j4 j5 j6)).drew := ⟨_, rfl⟩
  have hV5' : V5 = ((((((V4.setCell ⟨w.heap.size + 1 + 1, 0, none⟩ (.bool b1)).setCell ⟨w.heap.size + 1 + 1, 1, none⟩ (.slice i1 i2 i3)).setCell ⟨w.heap.size + 1 + 1, 2, none⟩ (.slice i4 i5 i6)).setCell ⟨w.heap.size + 1 + 1 + 1, 0, none⟩ (.bool b3)).setCell ⟨w.heap.size + 1 + 1 + 1, 1, none⟩ (.slice j1 j2 j3)).setCell ⟨w.heap.size + 1 + 1 + 1, 2, none⟩ (.slice j4 j5 j6)).drew := hV5
  have hm := (unhide HS4).setP (.bool b1) (.slice i1 i2 i3) (.slice i4 i5 i6)
  have HS5 := hide ((hm.setQ (.bool b3) (.slice j1 j2 j3) (.slice j4 j5 j6)).later ((Below.refl _ _).drew))
  have HV5 := hide ((QOf.over hm.q (.bool b3) (.slice j1 j2 j3) (.slice j4 j5 j6) (QOf.over (unhide HS4).p (.bool b1) (.slice i1 i2 i3) (.slice i4 i5 i6) (unhide HV4))).later ((Below.refl _ _).drew))
  have HU5 := hide ((QOf.over hm.q (.bool b3) (.slice j1 j2 j3) (.slice j4 j5 j6) (QOf.over (unhide HS4).p (.bool b1) (.slice i1 i2 i3) (.slice i4 i5 i6) (unhide HU4))).later ((Below.refl _ _).drew))
  rw [← hV5] at HS5 HV5 HU5
  rw [← hV5']
  clear hV5 hV5' hm HS4 HV4 HU4 r0 r1 r2 rf0 rf1 rf2 s0 s1 s2 sf0 sf1 sf2
  have r0 := (unhide HS5).p.c0; have r1 := (unhide HS5).p.c1; have r2 := (unhide HS5).p.c2; have s0 := (unhide HS5).q.c0; have s1 := (unhide HS5).q.c1; have s2 := (unhide HS5).q.c2
  go_wp2_with fail
  exact bodyPost_ret (v := .tuple #[.agg #[.bool b1, .slice i1 i2 i3, .slice i4 i5 i6], .agg #[.bool b3, .slice j1 j2 j3, .slice j4 j5 j6], .int .i64 0]) (by simp [results, Tryz.results96, go_sem, r0, r1, r2, s0, s1, s2]) rfl ⟨_, _, rfl, unhide HU5, unhide HV5, (unhide HS5).below⟩
/-- What Read answers, in short. -/
def Reads (num den : ByteArray) (ok : Bool) : Prop := ∀ W, Calls Tryz.prog 76 #[.agg #[.string num, .string den]] W fun r w' => ∃ b a1 l1 c1 a2 l2 c2, r = .returned (.tuple #[.agg #[.bool b, .slice a1 l1 c1, .slice a2 l2 c2], .bool ok]) ∧ Below W.heap.size W w'
theorem reads_yes {num den : ByteArray} (h : RightT num den) : Reads num den true := fun W => by
  obtain ⟨x, hx⟩ := (right_isR num den).1 h
  refine (qread num den x W hx).mono ?_
  rintro r w' ⟨v, rfl, hv, hb⟩
  obtain ⟨b, a1, l1, c1, a2, l2, c2, rfl⟩ := hv.form
  exact ⟨_, _, _, _, _, _, _, rfl, hb⟩
end Go.Proofs.YtifalmdoligblaaGreatDoor

namespace Go.Proofs.YtifalmdoligblaaGreatDoor
open Go.RowKit

/-- Two numbers in their boxes, a number's box, and two Fracs' boxes behind them (or none yet). -/
structure O3 (w W : World) (x y z t : Value) : Prop where
  a : T2 W w.heap.size x y
  b : T2 W (w.heap.size + 1) z t
  r : T2 W (w.heap.size + 1 + 1) (.string ⟨#[]⟩) (.string ⟨#[]⟩)
  below : Below w.heap.size w W
theorem O3.later {w W V : World} {x y z t : Value} (s : O3 w W x y z t) (hb : Below W.heap.size W V) : O3 w V x y z t :=
  ⟨s.a.later hb, s.b.later hb, s.r.later hb, s.below.trans (hb.mono s.below.size)⟩
theorem O3.first (w : World) (x y z t : Value) : O3 w (((w.alloc (.cells #[x, y] 23)).alloc (.cells #[z, t] 23)).alloc (.cells #[.string ⟨#[]⟩, .string ⟨#[]⟩] 23)) x y z t :=
  ⟨⟨by simp [go_sem], by simp [go_sem], by simp [go_sem], by simp [go_sem]⟩, ⟨by simp [go_sem], by simp [go_sem], by simp [go_sem], by simp [go_sem]⟩, ⟨by simp [go_sem], by simp [go_sem], by simp [go_sem], by simp [go_sem]⟩,
    (((Below.refl _ _).alloc (Nat.le_refl _) _).alloc (by simp) _).alloc (by simp; omega) _⟩
/-- What a call on two numbers answers. -/
def Ans (f : Nat) (args : Array Value) (w : World) (s t : ByteArray) (e : Int) : Prop :=
  Calls Tryz.prog f args w fun r w' => r = .returned (.tuple #[.agg #[.string s, .string t], .int .i64 e]) ∧ Below w.heap.size w w'

end Go.Proofs.YtifalmdoligblaaGreatDoor

namespace Go.Proofs.YtifalmdoligblaaGreatDoor
open Go.RowKit

/-- A number in its box, and the box of another one. -/
structure N1 (w W : World) (x y : Value) : Prop where
  a : T2 W w.heap.size x y
  r : T2 W (w.heap.size + 1) (.string ⟨#[]⟩) (.string ⟨#[]⟩)
  below : Below w.heap.size w W
theorem N1.later {w W V : World} {x y : Value} (s : N1 w W x y) (hb : Below W.heap.size W V) : N1 w V x y := ⟨s.a.later hb, s.r.later hb, s.below.trans (hb.mono s.below.size)⟩
theorem N1.first (w : World) (x y : Value) : N1 w ((w.alloc (.cells #[x, y] 23)).alloc (.cells #[.string ⟨#[]⟩, .string ⟨#[]⟩] 23)) x y :=
  ⟨⟨by simp [go_sem], by simp [go_sem], by simp [go_sem], by simp [go_sem]⟩, ⟨by simp [go_sem], by simp [go_sem], by simp [go_sem], by simp [go_sem]⟩, ((Below.refl _ _).alloc (Nat.le_refl _) _).alloc (by simp) _⟩

set_option maxRecDepth 100000 in
set_option maxHeartbeats 2000000 in
theorem rcmp_ok (n1 d1 n2 d2 : ByteArray) (x y : Rat) (w : World) (h1 : IsR n1 d1 x) (h2 : IsR n2 d2 y) :
    Calls Tryz.prog 46 #[.agg #[.string n1, .string d1], .agg #[.string n2, .string d2]] w fun r w' => r = .returned (.tuple #[.int .i64 (Cub.cmpQ x y), .int .i64 0]) ∧ Below w.heap.size w w' := by
  obtain ⟨V, hV⟩ : ∃ V, V = (w.alloc (.cells #[.string n1, .string d1] 23)).alloc (.cells #[.string n2, .string d2] 23) := ⟨_, rfl⟩
  have hb0 : Below w.heap.size w V := by rw [hV]; exact ((Below.refl _ _).alloc (Nat.le_refl _) _).alloc (by simp) _
  have HB0 := hide hb0
  have HV := hide hV
  have HR := hide (readTwo_ok n1 d1 n2 d2 x y V h1 h2)
  clear h1 h2 hb0
  go_enter Tryz.func46, Tryz.ntmps46
  go_upto_region 2 with (go_at_call 96; go_must (rw [← unhide HV]; refine (unhide HR).mono ?_; rintro e w1 ⟨v1, v2, rfl, hv1, hv2, hb1⟩; obtain ⟨b1, i1, i2, i3, i4, i5, i6, rfl⟩ := hv1.form; obtain ⟨b2, j1, j2, j3, j4, j5, j6, rfl⟩ := hv2.form; have HB1 := hide ((unhide HB0).trans (hb1.mono (unhide HB0).size)); have HV1 := hide hv1; have HV2 := hide hv2; clear hv1 hv2 hb1))
  clear hV HV
  obtain ⟨V2, hV2⟩ : ∃ V2, V2 = (w1.alloc (.cells #[.bool b1, .slice i1 i2 i3, .slice i4 i5 i6] 74)).alloc (.cells #[.bool b2, .slice j1 j2 j3, .slice j4 j5 j6] 74) := ⟨_, rfl⟩
  have hb : Below w1.heap.size w1 V2 := by rw [hV2]; exact ((Below.refl _ _).alloc (Nat.le_refl _) _).alloc (by simp) _
  have HX := hide ((unhide HV1).later hb); have HY := hide ((unhide HV2).later hb); have HB2 := hide ((unhide HB1).trans (hb.mono (unhide HB1).size))
  have HP : Hid (FBox V2 w1.heap.size (.bool b1) (.slice i1 i2 i3) (.slice i4 i5 i6)) := by rw [hV2]; exact (FBox.new _ _ _ _).later ((Below.refl _ _).alloc (Nat.le_refl _) _)
  have HQ : Hid (FBox V2 (w1.heap.size + 1) (.bool b2) (.slice j1 j2 j3) (.slice j4 j5 j6)) := by
    rw [hV2]
    have := FBox.new (w1.alloc (.cells #[.bool b1, .slice i1 i2 i3, .slice i4 i5 i6] 74)) (.bool b2) (.slice j1 j2 j3) (.slice j4 j5 j6)
    rwa [show (w1.alloc (.cells #[.bool b1, .slice i1 i2 i3, .slice i4 i5 i6] 74)).heap.size = w1.heap.size + 1 by simp] at this
  rw [← hV2]
  clear hV2 hb HB0 HV1 HV2 HR
  generalize w1.heap.size = g8 at *
  have t0 := (unhide HP).c0; have t1 := (unhide HP).c1; have t2 := (unhide HP).c2; have t3 := (unhide HQ).c0; have t4 := (unhide HQ).c1; have t5 := (unhide HQ).c2
  go_wp2_with (go_at_call 110; go_must (refine (qcmp _ _ x y 67 _ (unhide HX) (unhide HY) (by decide)).mono ?_; rintro e w3 ⟨rfl, hb3⟩; have HB3 := hide ((unhide HB2).trans (hb3.mono (unhide HB2).size)); clear hb3 t0 t1 t2 t3 t4 t5))
  exact bodyPost_ret (v := .tuple #[.int .i64 (Cub.cmpQ x y), .int .i64 0]) (by simp [results, Tryz.results46, go_sem]) rfl ⟨rfl, unhide HB3⟩

end Go.Proofs.YtifalmdoligblaaGreatDoor

/- (Big).DivMod, of any two numbers, and nat.DivMod. -/
import Derived.Test.YthcihkgellginaaDoorLong2
import Derived.Test.YthcihkgellginaaDoorListNat
namespace Go.Proofs.YthcihkgellginaaDoor
open Go.RowKit

theorem divMod_any (x y : Value) (m n k : Nat) (w : World) (hx : IsBig w x m) (hy : IsBig w y n) (hk : k ≤ 500000) (hm : m < 1000000000 ^ k) (hn : 0 < n) :
    Calls Tryd.prog 57 #[x, y] w fun e w' => ∃ a1 n1 c1 a2 n2 c2, e = .returned (.tuple #[.agg #[.slice a1 n1 c1], .agg #[.slice a2 n2 c2]]) ∧ IsBig w' (.agg #[.slice a1 n1 c1]) (m / n) ∧ IsBig w' (.agg #[.slice a2 n2 c2]) (m % n) ∧ Below w.heap.size w w' :=
  divMod_core x y m n k w hx hy (by omega) hm hn (fun h1 h2 => long_any m n k hk hm h1 h2)

def quoText (s t : ByteArray) : List UInt8 := if (Cub.rightB s.data.toList && Cub.rightB t.data.toList) = true then (if val t = 0 then [] else Lib.decDigits (val s / val t)) else []
def remText (s t : ByteArray) : List UInt8 := if (Cub.rightB s.data.toList && Cub.rightB t.data.toList) = true then (if val t = 0 then [] else Lib.decDigits (val s % val t)) else []
def divErr (s t : ByteArray) : Int := if (Cub.rightB s.data.toList && Cub.rightB t.data.toList) = true then (if val t = 0 then 8 else 0) else 3

set_option maxRecDepth 100000 in
set_option maxHeartbeats 1000000 in
theorem natDivMod_any (s t : ByteArray) (w : World) (hs : s.size ≤ maxLen) (ht : t.size ≤ maxLen) (htab : Tab w) :
    Calls Tryd.prog 25 #[.string s, .string t] w fun e w' => e = .returned (.tuple #[.string ⟨(quoText s t).toArray⟩, .string ⟨(remText s t).toArray⟩, .int .i64 (divErr s t)]) ∧ Below w.heap.size w w' := by
  unfold quoText remText divErr
  cases hb : (Cub.rightB s.data.toList && Cub.rightB t.data.toList) with
  | false =>
    have H49 := hide (fun W => readTwo_no s t W hs ht hb)
    simp only [Bool.false_eq_true, if_false]
    clear hb hs ht htab
    go_enter Tryd.func25, Tryd.ntmps25
    go_wp2_with (go_at_call 49; go_must (refine (unhide H49 _).mono ?_; rintro e w1 ⟨rfl, hb1⟩))
    go_ret3
    exact ⟨rfl, (hb1.alloc hb1.size _).alloc (by have := hb1.size; simp; omega) _⟩
  | true =>
    rw [Bool.and_eq_true] at hb
    have H49 := hide (fun W => readTwo_ok s t W hb.1 hb.2)
    have hV := Nat.lt_of_lt_of_le (right_val hb.1) (pow_nine 600 67 (by decide))
    have hVt := Nat.lt_of_lt_of_le (right_val hb.2) (pow_nine 600 67 (by decide))
    simp only [if_true]
    have HT := hide htab
    have e1 : Cub.dval s.data.toList = val s := rfl
    have e2 : Cub.dval t.data.toList = val t := rfl
    rw [e1, e2] at H49
    have H56 := hide (fun W v (h : IsBig W v (val t)) => isZero_any v (val t) W h)
    by_cases h0 : val t = 0
    · rw [if_pos h0, if_pos h0, if_pos h0]
      have hz : (val t == 0) = true := by rw [h0]; rfl
      rw [hz] at H56
      clear hb hs ht htab hV hVt e1 e2 hz h0
      generalize val s = V at *
      generalize val t = U at *
      go_enter Tryd.func25, Tryd.ntmps25
      go_wp2_with (first
        | (go_at_call 49; go_must (refine (unhide H49 _).mono ?_; rintro e w1 ⟨x, y, rfl, hx, hy, hb1⟩; obtain ⟨xa, xn, xc, rfl⟩ := hx.shape; obtain ⟨ya, yn, yc, rfl⟩ := hy.shape; have HY1 := hide hy; have hs1 := hb1.size; clear hx hy))
        | (go_at_call 56; go_must (refine (unhide H56 _ _ ((unhide HY1).later (((Below.refl _ _).alloc (Nat.le_refl _) _).alloc (by simp) _))).mono ?_; rintro e w2 ⟨rfl, hb2⟩; have hb3 : Below w.heap.size w w2 := ((hb1.alloc hs1 _).alloc (by simp; omega) _).trans (hb2.mono (by simp; omega)))))
      go_ret3
      exact ⟨rfl, hb3⟩
    · rw [if_neg h0, if_neg h0, if_neg h0]
      have hz : (val t == 0) = false := by rw [beq_eq_false_iff_ne]; exact h0
      rw [hz] at H56
      have H57 := hide (fun W x y (hx : IsBig W x (val s)) (hy : IsBig W y (val t)) => divMod_any x y (val s) (val t) 67 W hx hy (by decide) hV (Nat.pos_of_ne_zero h0))
      have H58q := hide (fun W v (h : IsBig W v (val s / val t)) (h2 : Tab W) => text_any v (val s / val t) 67 W h (by decide) (Nat.lt_of_le_of_lt (Nat.div_le_self _ _) hV) h2)
      have H58r := hide (fun W v (h : IsBig W v (val s % val t)) (h2 : Tab W) => text_any v (val s % val t) 67 W h (by decide) (Nat.lt_of_le_of_lt (Nat.mod_le _ _) hV) h2)
      clear hb hs ht htab hV hVt e1 e2 hz h0
      generalize val s / val t = Q at *
      generalize val s % val t = R at *
      generalize val s = V at *
      generalize val t = U at *
      go_enter Tryd.func25, Tryd.ntmps25
      go_upto_region 7 with (first
        | (go_at_call 49; go_must (refine (unhide H49 _).mono ?_; rintro e w1 ⟨x, y, rfl, hx, hy, hb1⟩; obtain ⟨xa, xn, xc, rfl⟩ := hx.shape; obtain ⟨ya, yn, yc, rfl⟩ := hy.shape; have HX1 := hide hx; have HY1 := hide hy; have hs1 := hb1.size; clear hx hy))
        | (go_at_call 56; go_must (refine (unhide H56 _ _ ((unhide HY1).later (((Below.refl _ _).alloc (Nat.le_refl _) _).alloc (by simp) _))).mono ?_; rintro e w2 ⟨rfl, hb2⟩; have hT2 : Below w1.heap.size w1 w2 := (((Below.refl _ _).alloc (Nat.le_refl _) _).alloc (by simp) _).trans (hb2.mono (by simp; omega)); have HX2 := hide ((unhide HX1).later hT2); have HY2 := hide ((unhide HY1).later hT2); have hb3 := hb1.trans (hT2.mono hs1); have hs2 := hb3.size; obtain ⟨cx2, _⟩ := box_later hb2 (g := w1.heap.size) (x := .slice xa xn xc) (by simp; omega) (by simp) (by simp); obtain ⟨cy2, _⟩ := box_later hb2 (g := w1.heap.size + 1) (x := .slice ya yn yc) (by simp) (by simp) (by simp); clear hb2 hT2))
        | (go_at_call 57; go_must (refine (unhide H57 _ _ _ (unhide HX2) (unhide HY2)).mono ?_; rintro e w3 ⟨qa, qn, qc, ra, rn, rc, rfl, hq3, hr3, hc3⟩; have HQ3 := hide hq3; have HR3 := hide hr3; have hb4 := hb3.trans (hc3.mono hs2); have hs3 := hb4.size; clear hq3 hr3 hc3)))
      have hA : Below w3.heap.size w3 ((w3.alloc (.cells #[.slice qa qn qc] 60)).alloc (.cells #[.slice ra rn rc] 60)) := ((Below.refl _ _).alloc (Nat.le_refl _) _).alloc (by simp) _
      have hb5 := hb4.trans (hA.mono hs3)
      have HQA := hide ((unhide HQ3).later hA)
      have HRA := hide ((unhide HR3).later hA)
      have cq : ((w3.alloc (.cells #[.slice qa qn qc] 60)).alloc (.cells #[.slice ra rn rc] 60)).cell? ⟨w3.heap.size, 0, none⟩ = some (.slice qa qn qc) := by simp
      have cr : ((w3.alloc (.cells #[.slice qa qn qc] 60)).alloc (.cells #[.slice ra rn rc] 60)).cell? ⟨w3.heap.size + 1, 0, none⟩ = some (.slice ra rn rc) := by simp
      generalize hwA : (w3.alloc (.cells #[.slice qa qn qc] 60)).alloc (.cells #[.slice ra rn rc] 60) = wA at *
      clear hwA hA
      have hsA := hb5.size
      go_region_held3 (fun w' => w'.cell? ⟨w3.heap.size, 0, none⟩ = some (.slice qa qn qc) ∧ w'.cell? ⟨w3.heap.size + 1, 0, none⟩ = some (.slice ra rn rc)) (first | assumption | (refine ⟨?_, ?_⟩ <;> first | assumption | (simp [go_sem, *]; done)) | (simp [go_sem, *]; done))
        (first
          | (go_at_call_of 58 (Value.agg #[Value.slice qa qn qc]); refine (unhide H58q _ _ ((unhide HQA).later ((Below.refl _ _).drew)) ((unhide HT).later (hb5.trans ((Below.refl _ _).drew)))).mono ?_; rintro e wB ⟨rfl, hbB⟩; have hbB' := drew0 hbB; have HRB := hide ((unhide HRA).later hbB'); have hb6 := hb5.trans (hbB'.mono hsA); have hsB := hb6.size; obtain cqB := (hbB'.cell (p := ⟨w3.heap.size, 0, none⟩) (World.block_lt_of_cell? _ _ cq)).trans cq; obtain crB := (hbB'.cell (p := ⟨w3.heap.size + 1, 0, none⟩) (World.block_lt_of_cell? _ _ cr)).trans cr; clear hbB hbB')
          | (go_at_call_of 58 (Value.agg #[Value.slice ra rn rc]); refine (unhide H58r _ _ (unhide HRB) ((unhide HT).later hb6)).mono ?_; rintro e wC ⟨rfl, hbC⟩; have hb7 := hb6.trans (hbC.mono hsB); obtain cqC := (hbC.cell (p := ⟨w3.heap.size, 0, none⟩) (World.block_lt_of_cell? _ _ cqB)).trans cqB; obtain crC := (hbC.cell (p := ⟨w3.heap.size + 1, 0, none⟩) (World.block_lt_of_cell? _ _ crB)).trans crB; clear hbC))
      all_goals go_wp2
      all_goals go_ret3
      all_goals exact ⟨rfl, hb7⟩
end Go.Proofs.YthcihkgellginaaDoor

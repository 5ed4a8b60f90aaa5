/- The document's form of a number's text. -/
import Derived.Test.YtifalmdoligblaaGreatDoorBare
import Derived.Test.YtifalmdoligblaaGreatDoorLast
namespace Go.Proofs.YtifalmdoligblaaGreatDoor
open Go.RowKit
section
variable {P : Program}
/-- A region of quiet operations and one last store, in worlds of one kind. -/
theorem quiet_lastC {id : Nat} {Q : Exit → Act → World → Prop} {a : Act} {w : World} {L l : List Oper} {st : Oper} (C : World → Prop) (hC : C w.drew) (hL : L = l ++ [st]) (hm : P.follows .mixedOrders = true) (hB : lastB l st = true)
    (h : wpQuiet P L.toArray C (fun a' => ∀ w', C w' → if Region.wanted st (yielded L.toArray a'.tmps) then st.wp P a' w' (fun a w => Q .normal a w) Q else Q .normal (a'.put st.dst undef) w') l a) : (Code.region id L.toArray true).wp P Q a w := by
  subst hL
  simp only [lastB, Bool.and_eq_true] at hB
  have hlast : (l ++ [st]).toArray[0 + l.length]? = some st := by simp
  refine wp_region_any hm ?_
  have hsz : (l ++ [st]).toArray.size = l.length + 1 := by simp
  rw [hsz] at hB ⊢
  refine wpAny_of_last (k := 0 + l.length) (C := C) (Q := fun a' => ∀ w', C w' → if Region.wanted st (yielded (l ++ [st]).toArray a'.tmps) then st.wp P a' w' (fun a w => Q .normal a w) Q else Q .normal (a'.put st.dst undef) w') ?_ _ _ _ _ hC ?_
  · intro a' w' hw' hq
    have := hq w' hw'
    unfold wpOp
    rw [hlast]
    dsimp only
    split
    · rename_i hwt; simp only [hwt, if_true] at this; exact .inl this
    · rename_i hwt; simp only [hwt] at this; exact this
  · exact wpAnyL_lex hB.1 l 0 _ a (fun j hj => by simp [List.getElem?_append_left hj]) hlast hB.2 h
theorem quiet_endN {id : Nat} {Q : Exit → Act → World → Prop} {a : Act} {w : World} {o : Oper} {L : List Oper} (hm : P.follows .mixedOrders = true) (hB : lastB (o :: L).dropLast (lastOf o L) = true)
    (h : wpQuiet P (o :: L).toArray (fun w' => ∃ n, w' = w.drewN n) (fun a' => ∀ w', (∃ n, w' = w.drewN n) → if Region.wanted (lastOf o L) (yielded (o :: L).toArray a'.tmps) then (lastOf o L).wp P a' w' (fun a w => Q .normal a w) Q else Q .normal (a'.put (lastOf o L).dst undef) w') (o :: L).dropLast a) : (Code.region id (o :: L).toArray true).wp P Q a w :=
  quiet_lastC (l := (o :: L).dropLast) (st := lastOf o L) _ ⟨1, rfl⟩ (front_last o (o :: L) (by simp)) hm hB h
end
theorem byte_t {c d : UInt8} {n : Int} (hd : (d.toNat : Int) = n) (h : c = d) : ((c.toNat : Int) == n) = true := by subst h; rw [hd]; simp
theorem byte_f {c d : UInt8} {n : Int} (hd : (d.toNat : Int) = n) (h : ¬ c = d) : ((c.toNat : Int) == n) = false := by
  rw [beq_eq_false_iff_ne]
  intro e
  rw [← hd] at e
  exact h (UInt8.toNat_inj.1 (by omega))
theorem below_drewN (w : World) : ∀ n : Nat, Below w.heap.size w (w.drewN n)
  | 0 => Below.refl _ _
  | n + 1 => by have := (below_drewN w n).drew; rwa [World.drew_drewN] at this
theorem drew_two (w : World) (n : Nat) (A : Obj) (x0 x1 x2 x3 x4 x5 x6 v u : Value) :
    ((((w.alloc A).alloc (.cells #[x0, x1, x2, x3, x4, x5, x6] 91)).drewN n).setCell ⟨w.heap.size + 1, 1, none⟩ v).setCell ⟨w.heap.size + 1, 4, none⟩ u = ((w.drewN n).alloc A).alloc (.cells #[x0, v, x2, x3, u, x5, x6] 91) := by
  have h : ∀ w' : World, (((w'.alloc A).alloc (.cells #[x0, x1, x2, x3, x4, x5, x6] 91)).setCell ⟨w'.heap.size + 1, 1, none⟩ v).setCell ⟨w'.heap.size + 1, 4, none⟩ u = (w'.alloc A).alloc (.cells #[x0, v, x2, x3, u, x5, x6] 91) := by
    intro w'
    simp [go_sem]
  exact h (w.drewN n)
theorem has_out (s : ByteArray) (k : Nat) (l : List UInt8) (h : ¬ k < s.size) : has s k l = false := by unfold has; rw [dif_neg h]
theorem has_one (s : ByteArray) (k : Nat) (c : UInt8) (h : k < s.size) : has s k [c] = decide (s[k] = c) := by
  unfold has; rw [dif_pos h]
  by_cases e : s[k] = c
  · rw [decide_eq_true e, e]; simp [Lib.indexByte]
  · rw [decide_eq_false e]; simp [Lib.indexByte, Ne.symm e]
theorem has_two (s : ByteArray) (k : Nat) (c d : UInt8) (h : k < s.size) : has s k [c, d] = decide (s[k] = c ∨ s[k] = d) := by
  unfold has; rw [dif_pos h]
  by_cases e : s[k] = c
  · rw [decide_eq_true (Or.inl e), e]; simp [Lib.indexByte]
  · by_cases f : s[k] = d
    · rw [decide_eq_true (Or.inr f), f]; rw [f] at e; simp [Lib.indexByte, Ne.symm e]
    · rw [decide_eq_false (fun hh => Or.elim hh e f)]; simp [Lib.indexByte, Ne.symm e, Ne.symm f]
/-- A text that is cut, as the document has it. -/
def cutV (n : Bool) (m x : ByteArray) (d : Bool) (p : Int) (q : ByteArray) (t : Int) : Value := .agg #[.bool n, .string m, .string x, .bool d, .int .i64 p, .string q, .int .i64 t]
def IsCut (c : Value) : Prop := ∃ n m x d p q t, c = cutV n m x d p q t

set_option maxRecDepth 100000 in
set_option maxHeartbeats 4000000 in
theorem form_walk (s t2 x3 : ByteArray) (ce : Int → Int) (fl : Int) (c : Value) (w : World) (hs : s.size ≤ 65536)
    (h138 : ∀ W (k : Int), 0 ≤ k → k ≤ (s.size : Int) → Calls Tryz.prog 138 #[.string s, .int .i64 k] W fun r w' => r = .returned (.int .i64 (ce k)) ∧ w' = W)
    (b0 sl pt ex sg dn d3 : Bool) (a e1 b1 e5 e2 b2 a3 e6 e3 : Nat) (p2 : Int)
    (f0 : b0 = has s 0 [45]) (ha : a = if b0 then 1 else 0) (hal : a ≤ s.size)
    (g2 : ce (a : Int) = (e1 : Int)) (ha1 : a ≤ e1) (he1 : e1 ≤ s.size)
    (f1 : sl = has s e1 [47]) (f2 : pt = has s e1 [46]) (hb1 : b1 = e1 + 1) (hsp : sl = true ∨ pt = true → b1 ≤ s.size ∧ b1 ≤ e5 ∧ e5 ≤ s.size)
    (g4 : ce (b1 : Int) = (e5 : Int))
    (he2 : e2 = if pt then e5 else e1) (ht2 : t2 = if pt then s.extract a e1 ++ s.extract b1 e5 else s.extract a e1) (hp2 : p2 = if pt then (e5 : Int) - (b1 : Int) else 0)
    (f3 : ex = has s e2 [101, 69]) (hb2 : b2 = e2 + 1) (hex : ex = true → b2 ≤ s.size)
    (f4 : dn = has s b2 [45]) (f5 : sg = has s b2 [43, 45]) (ha3 : a3 = if sg then b2 + 1 else b2) (hsg : ex = true → a3 ≤ s.size ∧ a3 ≤ e6 ∧ e6 ≤ s.size)
    (g6 : ce (a3 : Int) = (e6 : Int))
    (he3 : e3 = if ex then e6 else e2) (hx3 : x3 = if ex then bareT (s.extract a3 e6) else ⟨#[]⟩) (hd3 : d3 = (ex && sg && dn))
    (hfl : fl = if e1 = a then (a : Int) else if sl then (if e5 = b1 then (e5 : Int) else if e5 < s.size then (e5 : Int) else -1) else if pt && decide (e5 = b1) then (b1 : Int) else if ex && decide (e6 = a3) then (a3 : Int) else if e3 < s.size then (e3 : Int) else -1)
    (hc : c = if sl then cutV b0 (bareT (s.extract a e1)) ⟨#[]⟩ false 0 (bareT (s.extract b1 e5)) (b1 : Int) else cutV b0 (bareT t2) x3 d3 p2 ⟨#[]⟩ 0) :
    Calls Tryz.prog 83 #[.string s] w fun r w' => ∃ c', IsCut c' ∧ r = .returned (.tuple #[c', .int .i64 fl]) ∧ (fl < 0 → c' = c) ∧ Below w.heap.size w w' := by
  have H138 := hide h138
  have H139 : Hid (∀ W (t : ByteArray), t.size ≤ 1000000 → Calls Tryz.prog 139 #[.string t] W fun r w' => r = .returned (.string (bareT t)) ∧ w' = W) := fun W t ht => refBare_any t W ht
  have HA := hide ha
  have HF0 := hide f0
  have HF1 := hide f1
  have HF2 := hide f2
  have HF3 := hide f3
  have HF4 := hide f4
  have HF5 := hide f5
  have HE2 := hide (And.intro he2 (And.intro ht2 hp2))
  have HE3 := hide (And.intro he3 (And.intro hx3 hd3))
  have HA3 := hide ha3
  have HFL := hide hfl
  have HC := hide hc
  have HSP := hide hsp
  have HEX := hide hex
  have HSG := hide hsg
  have HB1 := hide hb1
  have HB2 := hide hb2
  clear h138 ha f0 f1 f2 f3 f4 f5 he2 ht2 hp2 he3 hx3 hd3 ha3 hfl hc hsp hex hsg hb1 hb2
  go_enter Tryz.func83, Tryz.ntmps83
  go_upto_region 3 with fail
  go_cut [13] from 7 (fun s13 wx => s13 = .bool b0 ∧ wx = ((w.alloc (.cells #[.bool false, .string ⟨#[]⟩, .string ⟨#[]⟩, .bool false, .int .i64 0, .string ⟨#[]⟩, .int .i64 0] 91)).alloc (.cells #[.bool false, .string ⟨#[]⟩, .string ⟨#[]⟩, .bool false, .int .i64 0, .string ⟨#[]⟩, .int .i64 0] 91)))
  case first =>
    by_cases hlt : 0 < s.size
    · have hne := not_empty_of s hlt
      have hlt' : (0 : Int) < (s.size : Int) := by omega
      by_cases hc : s[0] = 45
      · have q := byte_t (n := 45) (show (((45 : UInt8)).toNat : Int) = 45 by decide) hc
        have EE : Hid (b0 = true) := by show _ = _; rw [unhide HF0, has_one s _ _ hlt]; exact decide_eq_true hc
        clear hc
        go_wp2_with fail
        go_meet
        exact ⟨by rw [unhide EE], rfl⟩
      · have q := byte_f (n := 45) (show (((45 : UInt8)).toNat : Int) = 45 by decide) hc
        have EE : Hid (b0 = false) := by show _ = _; rw [unhide HF0, has_one s _ _ hlt]; exact decide_eq_false hc
        clear hc
        go_wp2_with fail
        go_meet
        exact ⟨by rw [unhide EE], rfl⟩
    · have hne := empty_of s (by omega)
      have EE : Hid (b0 = false) := by show _ = _; rw [unhide HF0, has_out s _ _ hlt]
      go_wp2_with fail
      go_meet
      exact ⟨by rw [unhide EE], rfl⟩
  case rest =>
    obtain ⟨rfl, rfl⟩ := hcut
    clear HF0
    go_upto_if 13 with fail
    go_cut [5] from 6 (fun s5 wx => s5 = .int .i64 (a : Int) ∧ wx = ((w.alloc (.cells #[.bool false, .string ⟨#[]⟩, .string ⟨#[]⟩, .bool false, .int .i64 0, .string ⟨#[]⟩, .int .i64 0] 91)).alloc (.cells #[.bool b0, .string ⟨#[]⟩, .string ⟨#[]⟩, .bool false, .int .i64 0, .string ⟨#[]⟩, .int .i64 0] 91)))
    case first =>
      cases b0 with
      | true =>
        have ha1 : a = 1 := unhide HA
        go_wp2_with fail
        go_meet
        exact ⟨by rw [ha1]; rfl, rfl⟩
      | false =>
        have ha1 : a = 0 := unhide HA
        go_wp2_with fail
        go_meet
        exact ⟨by rw [ha1]; rfl, rfl⟩
    case rest =>
      obtain ⟨rfl, rfl⟩ := hcut
      clear HA
      by_cases hz : e1 = a
      · have hz' : ((e1 : Int) == (a : Int)) = true := by rw [beq_iff_eq]; omega
        have HF : Hid (fl = (a : Int)) := by show _ = _; rw [unhide HFL, if_pos hz]
        go_wp2_with (go_at_call 138; go_must (refine (unhide H138 _ _ (by omega) (by omega)).mono ?_; rintro e w1 ⟨rfl, hw1⟩; rw [hw1, g2]; clear hw1))
        refine bodyPost_ret (v := .tuple #[(cutV b0 ⟨#[]⟩ ⟨#[]⟩ false 0 ⟨#[]⟩ 0), .int .i64 (a : Int)]) (by simp [results, Tryz.results83, go_sem, cutV]) rfl ⟨_, ⟨_, _, _, _, _, _, _, rfl⟩, by rw [unhide HF], fun h => by have := unhide HF; omega, ?_⟩
        exact ((Below.refl _ _).alloc (Nat.le_refl _) _).alloc (by simp) _
      · have hz' : ((e1 : Int) == (a : Int)) = false := by rw [beq_eq_false_iff_ne]; omega
        have HFL2 := hide ((unhide HFL).trans (if_neg hz))
        clear HFL
        go_upto_region 10 with (go_at_call 138; go_must (refine (unhide H138 _ _ (by omega) (by omega)).mono ?_; rintro e w1 ⟨rfl, hw1⟩; rw [hw1, g2]; clear hw1))
        go_cut [37] from 18 (fun s37 wx => s37 = .bool sl ∧ wx = ((w.alloc (.cells #[.bool false, .string ⟨#[]⟩, .string ⟨#[]⟩, .bool false, .int .i64 0, .string ⟨#[]⟩, .int .i64 0] 91)).alloc (.cells #[.bool b0, .string (s.extract a e1), .string ⟨#[]⟩, .bool false, .int .i64 0, .string ⟨#[]⟩, .int .i64 0] 91)))
        case first =>
          by_cases hlt : e1 < s.size
          · have hlt' : (e1 : Int) < (s.size : Int) := by omega
            by_cases hc : s[e1] = 47
            · have q := byte_t (n := 47) (show (((47 : UInt8)).toNat : Int) = 47 by decide) hc
              have EE : Hid (sl = true) := by show _ = _; rw [unhide HF1, has_one s _ _ hlt]; exact decide_eq_true hc
              clear hc
              go_wp2_with fail
              go_meet
              exact ⟨by rw [unhide EE], rfl⟩
            · have q := byte_f (n := 47) (show (((47 : UInt8)).toNat : Int) = 47 by decide) hc
              have EE : Hid (sl = false) := by show _ = _; rw [unhide HF1, has_one s _ _ hlt]; exact decide_eq_false hc
              clear hc
              go_wp2_with fail
              go_meet
              exact ⟨by rw [unhide EE], rfl⟩
          · have hlt' : ¬ (e1 : Int) < (s.size : Int) := by omega
            have EE : Hid (sl = false) := by show _ = _; rw [unhide HF1, has_out s _ _ hlt]
            go_wp2_with fail
            go_meet
            exact ⟨by rw [unhide EE], rfl⟩
        case rest =>
          obtain ⟨rfl, rfl⟩ := hcut
          clear HF1
          cases sl with
          | true =>
            obtain ⟨y1, y2, y3⟩ := unhide HSP (Or.inl rfl)
            have yb := unhide HB1
            go_upto_region 11 with fail
            go_cut [5] from 38 (fun s5 wx => s5 = .int .i64 (b1 : Int) ∧ wx = ((w.alloc (.cells #[.bool false, .string ⟨#[]⟩, .string ⟨#[]⟩, .bool false, .int .i64 0, .string ⟨#[]⟩, .int .i64 0] 91)).alloc (.cells #[.bool b0, .string (s.extract a e1), .string ⟨#[]⟩, .bool false, .int .i64 0, .string ⟨#[]⟩, .int .i64 0] 91)))
            case first =>
              go_wp2_with fail
              go_meet
              exact ⟨by rw [yb]; simp, rfl⟩
            case rest =>
              obtain ⟨rfl, rfl⟩ := hcut
              clear yb
              by_cases h5 : e5 = b1
              · have h5' : ((e5 : Int) == (b1 : Int)) = true := by rw [beq_iff_eq]; omega
                have HF : Hid (fl = (e5 : Int)) := by show _ = _; rw [unhide HFL2, if_pos rfl, if_pos h5]
                go_wp2_with (first | (go_at_call 138; go_must (refine (unhide H138 _ _ (by omega) (by omega)).mono ?_; rintro e w1 ⟨rfl, hw1⟩; rw [hw1, g4]; clear hw1)) | (go_at_call 139; go_must (refine (unhide H139 _ _ (by simp <;> omega)).mono ?_; rintro e w1 ⟨rfl, hw1⟩; rw [hw1]; clear hw1)))
                refine bodyPost_ret (v := .tuple #[(cutV b0 (s.extract a e1) ⟨#[]⟩ false 0 (bareT (s.extract b1 e5)) b1), .int .i64 (e5 : Int)]) (by simp [results, Tryz.results83, go_sem, cutV, h5]) rfl ⟨_, ⟨_, _, _, _, _, _, _, rfl⟩, by rw [unhide HF], fun h => by have := unhide HF; omega, ?_⟩
                exact ((Below.refl _ _).alloc (Nat.le_refl _) _).alloc (by simp) _
              · have h5' : ((e5 : Int) == (b1 : Int)) = false := by rw [beq_eq_false_iff_ne]; omega
                by_cases h6 : e5 < s.size
                · have h6' : (e5 : Int) < (s.size : Int) := by omega
                  have HF : Hid (fl = (e5 : Int)) := by show _ = _; rw [unhide HFL2, if_pos rfl, if_neg h5, if_pos h6]
                  go_wp2_with (first | (go_at_call 138; go_must (refine (unhide H138 _ _ (by omega) (by omega)).mono ?_; rintro e w1 ⟨rfl, hw1⟩; rw [hw1, g4]; clear hw1)) | (go_at_call 139; go_must (refine (unhide H139 _ _ (by simp <;> omega)).mono ?_; rintro e w1 ⟨rfl, hw1⟩; rw [hw1]; clear hw1)))
                  refine bodyPost_ret (v := .tuple #[(cutV b0 (s.extract a e1) ⟨#[]⟩ false 0 (bareT (s.extract b1 e5)) b1), .int .i64 (e5 : Int)]) (by simp [results, Tryz.results83, go_sem, cutV]) rfl ⟨_, ⟨_, _, _, _, _, _, _, rfl⟩, by rw [unhide HF], fun h => by have := unhide HF; omega, ?_⟩
                  exact ((Below.refl _ _).alloc (Nat.le_refl _) _).alloc (by simp) _
                · have h6' : ¬ (e5 : Int) < (s.size : Int) := by omega
                  have HF : Hid (fl = -1) := by show _ = _; rw [unhide HFL2, if_pos rfl, if_neg h5, if_neg h6]
                  go_wp2_with (first | (go_at_call 138; go_must (refine (unhide H138 _ _ (by omega) (by omega)).mono ?_; rintro e w1 ⟨rfl, hw1⟩; rw [hw1, g4]; clear hw1)) | (go_at_call 139; go_must (refine (unhide H139 _ _ (by simp <;> omega)).mono ?_; rintro e w1 ⟨rfl, hw1⟩; rw [hw1]; clear hw1)))
                  refine bodyPost_ret (v := .tuple #[(cutV b0 (bareT (s.extract a e1)) ⟨#[]⟩ false 0 (bareT (s.extract b1 e5)) b1), .int .i64 (-1)]) (by simp [results, Tryz.results83, go_sem, cutV]) rfl ⟨_, ⟨_, _, _, _, _, _, _, rfl⟩, by rw [unhide HF], fun h => by rw [unhide HC]; rfl, ?_⟩
                  exact ((Below.refl _ _).alloc (Nat.le_refl _) _).alloc (by simp) _
          | false =>
            have HFL3 : Hid (fl = if pt && decide (e5 = b1) then (b1 : Int) else if ex && decide (e6 = a3) then (a3 : Int) else if e3 < s.size then (e3 : Int) else -1) := unhide HFL2
            clear HFL2
            go_upto_region 19 with fail
            go_cut [76] from 67 (fun s76 wx => s76 = .bool pt ∧ wx = ((w.alloc (.cells #[.bool false, .string ⟨#[]⟩, .string ⟨#[]⟩, .bool false, .int .i64 0, .string ⟨#[]⟩, .int .i64 0] 91)).alloc (.cells #[.bool b0, .string (s.extract a e1), .string ⟨#[]⟩, .bool false, .int .i64 0, .string ⟨#[]⟩, .int .i64 0] 91)))
            case first =>
              by_cases hlt : e1 < s.size
              · have hlt' : (e1 : Int) < (s.size : Int) := by omega
                by_cases hc : s[e1] = 46
                · have q := byte_t (n := 46) (show (((46 : UInt8)).toNat : Int) = 46 by decide) hc
                  have EE : Hid (pt = true) := by show _ = _; rw [unhide HF2, has_one s _ _ hlt]; exact decide_eq_true hc
                  clear hc
                  go_wp2_with fail
                  go_meet
                  exact ⟨by rw [unhide EE], rfl⟩
                · have q := byte_f (n := 46) (show (((46 : UInt8)).toNat : Int) = 46 by decide) hc
                  have EE : Hid (pt = false) := by show _ = _; rw [unhide HF2, has_one s _ _ hlt]; exact decide_eq_false hc
                  clear hc
                  go_wp2_with fail
                  go_meet
                  exact ⟨by rw [unhide EE], rfl⟩
              · have hlt' : ¬ (e1 : Int) < (s.size : Int) := by omega
                have EE : Hid (pt = false) := by show _ = _; rw [unhide HF2, has_out s _ _ hlt]
                go_wp2_with fail
                go_meet
                exact ⟨by rw [unhide EE], rfl⟩
            case rest =>
              obtain ⟨rfl, rfl⟩ := hcut
              clear HF2
              go_upto_if 76 with fail
              go_cut [2, 4, 6] from 7 (fun s2 s4 s6 wx => ∃ wb : World, s2 = .pointer (some ⟨wb.heap.size, 0, none⟩) ∧ s4 = .pointer (some ⟨wb.heap.size + 1, 0, none⟩) ∧ s6 = .int .i64 (e2 : Int) ∧ Hid ((pt && decide (e5 = b1)) = false ∧ e2 ≤ s.size ∧ t2.size ≤ 200000) ∧ Hid (Below w.heap.size w wb) ∧ wx = ((wb.alloc (.cells #[.bool false, .string ⟨#[]⟩, .string ⟨#[]⟩, .bool false, .int .i64 0, .string ⟨#[]⟩, .int .i64 0] 91)).alloc (.cells #[.bool b0, .string t2, .string ⟨#[]⟩, .bool false, .int .i64 p2, .string ⟨#[]⟩, .int .i64 0] 91)))
              case first =>
                cases pt with
                | false =>
                  have h3 : e2 = e1 ∧ t2 = s.extract a e1 ∧ p2 = 0 := unhide HE2
                  go_wp2_with fail
                  go_meet
                  exact ⟨w, rfl, rfl, by rw [h3.1], ⟨rfl, by omega, by rw [h3.2.1]; simp; omega⟩, Below.refl _ _, by rw [h3.2.1, h3.2.2]⟩
                | true =>
                  have h3 : e2 = e5 ∧ t2 = s.extract a e1 ++ s.extract b1 e5 ∧ p2 = (e5 : Int) - (b1 : Int) := unhide HE2
                  have H31 := hide h3.1; have H32 := hide h3.2.1; have H33 := hide h3.2.2
                  clear h3
                  obtain ⟨y1, y2, y3⟩ := unhide HSP (Or.inr rfl)
                  have yb := unhide HB1
                  go_upto_region 20 with fail
                  go_cut [5] from 77 (fun s5 wx => s5 = .int .i64 (b1 : Int) ∧ wx = ((w.alloc (.cells #[.bool false, .string ⟨#[]⟩, .string ⟨#[]⟩, .bool false, .int .i64 0, .string ⟨#[]⟩, .int .i64 0] 91)).alloc (.cells #[.bool b0, .string (s.extract a e1), .string ⟨#[]⟩, .bool false, .int .i64 0, .string ⟨#[]⟩, .int .i64 0] 91)))
                  case first =>
                    go_wp2_with fail
                    go_meet
                    exact ⟨by rw [yb]; simp, rfl⟩
                  case rest =>
                    obtain ⟨rfl, rfl⟩ := hcut
                    clear yb
                    by_cases h5 : e5 = b1
                    · have h5' : ((e5 : Int) == (b1 : Int)) = true := by rw [beq_iff_eq]; omega
                      have HF : Hid (fl = (b1 : Int)) := by show _ = _; rw [unhide HFL3, if_pos (by rw [decide_eq_true h5]; rfl)]
                      go_wp2_with (go_at_call 138; go_must (refine (unhide H138 _ _ (by omega) (by omega)).mono ?_; rintro e w1 ⟨rfl, hw1⟩; rw [hw1, g4]; clear hw1))
                      refine bodyPost_ret (v := .tuple #[(cutV b0 (s.extract a e1) ⟨#[]⟩ false 0 ⟨#[]⟩ 0), .int .i64 (b1 : Int)]) (by simp [results, Tryz.results83, go_sem, cutV]) rfl ⟨_, ⟨_, _, _, _, _, _, _, rfl⟩, by rw [unhide HF], fun h => by have := unhide HF; omega, ?_⟩
                      exact ((Below.refl _ _).alloc (Nat.le_refl _) _).alloc (by simp) _
                    · have h5' : ((e5 : Int) == (b1 : Int)) = false := by rw [beq_eq_false_iff_ne]; omega
                      go_upto_region 24 with (go_at_call 138; go_must (refine (unhide H138 _ _ (by omega) (by omega)).mono ?_; rintro e w1 ⟨rfl, hw1⟩; rw [hw1, g4]; clear hw1))
                      refine quiet_endN (by kernel_rfl) (by kernel_rfl) ?_
                      simp only [List.dropLast, lastOf]
                      repeat (go_big_quiet_step (fail))
                      refine wpQuiet_nil ?_
                      intro _ hw'
                      obtain ⟨nq, hw''⟩ := hw'
                      subst hw''
                      go_simp
                      go_wp2_with fail
                      go_meet
                      refine ⟨w.drewN nq, rfl, rfl, by rw [unhide H31], ⟨by rw [decide_eq_false h5]; rfl, by rw [unhide H31]; omega, by rw [unhide H32]; simp; omega⟩, below_drewN w nq, ?_⟩
                      rw [unhide H32, unhide H33]
                      exact drew_two _ _ _ _ _ _ _ _ _ _ _ _
              case rest =>
                obtain ⟨wb, rfl, rfl, rfl, HPZ, HBW, rfl⟩ := hcut
                have HFL4 : Hid (fl = if ex && decide (e6 = a3) then (a3 : Int) else if e3 < s.size then (e3 : Int) else -1) := by show _ = _; rw [unhide HFL3, (unhide HPZ).1]; rfl
                have y2 := (unhide HPZ).2.1; have yt := (unhide HPZ).2.2
                clear HFL3 HE2 HPZ HSP g4 hz hz'
                go_upto_region 26 with fail
                go_cut [114] from 99 (fun s114 wx => s114 = .bool ex ∧ wx = ((wb.alloc (.cells #[.bool false, .string ⟨#[]⟩, .string ⟨#[]⟩, .bool false, .int .i64 0, .string ⟨#[]⟩, .int .i64 0] 91)).alloc (.cells #[.bool b0, .string t2, .string ⟨#[]⟩, .bool false, .int .i64 p2, .string ⟨#[]⟩, .int .i64 0] 91)))
                case first =>
                  by_cases hlt : e2 < s.size
                  · have hlt' : (e2 : Int) < (s.size : Int) := by omega
                    by_cases hc : s[e2] = 101
                    · have q := byte_t (n := 101) (show (((101 : UInt8)).toNat : Int) = 101 by decide) hc
                      have EE : Hid (ex = true) := by show _ = _; rw [unhide HF3, has_two s _ _ _ hlt]; exact decide_eq_true (Or.inl hc)
                      clear hc
                      go_wp2_with fail
                      go_meet
                      exact ⟨by rw [unhide EE], rfl⟩
                    · have q := byte_f (n := 101) (show (((101 : UInt8)).toNat : Int) = 101 by decide) hc
                      by_cases hd : s[e2] = 69
                      · have q2 := byte_t (n := 69) (show (((69 : UInt8)).toNat : Int) = 69 by decide) hd
                        have EE : Hid (ex = true) := by show _ = _; rw [unhide HF3, has_two s _ _ _ hlt]; exact decide_eq_true (Or.inr hd)
                        clear hc hd
                        go_wp2_with fail
                        go_meet
                        exact ⟨by rw [unhide EE], rfl⟩
                      · have q2 := byte_f (n := 69) (show (((69 : UInt8)).toNat : Int) = 69 by decide) hd
                        have EE : Hid (ex = false) := by show _ = _; rw [unhide HF3, has_two s _ _ _ hlt]; exact decide_eq_false (fun hh => Or.elim hh hc hd)
                        clear hc hd
                        go_wp2_with fail
                        go_meet
                        exact ⟨by rw [unhide EE], rfl⟩
                  · have hlt' : ¬ (e2 : Int) < (s.size : Int) := by omega
                    have EE : Hid (ex = false) := by show _ = _; rw [unhide HF3, has_out s _ _ hlt]
                    go_wp2_with fail
                    go_meet
                    exact ⟨by rw [unhide EE], rfl⟩
                case rest =>
                  obtain ⟨rfl, rfl⟩ := hcut
                  clear HF3
                  go_upto_if 114 with fail
                  go_cut [6] from 7 (fun s6 wx => s6 = .int .i64 (e3 : Int) ∧ Hid ((ex && decide (e6 = a3)) = false) ∧ wx = ((wb.alloc (.cells #[.bool false, .string ⟨#[]⟩, .string ⟨#[]⟩, .bool false, .int .i64 0, .string ⟨#[]⟩, .int .i64 0] 91)).alloc (.cells #[.bool b0, .string t2, .string x3, .bool d3, .int .i64 p2, .string ⟨#[]⟩, .int .i64 0] 91)))
                  case first =>
                    cases ex with
                    | false =>
                      have h3 : e3 = e2 ∧ x3 = ⟨#[]⟩ ∧ d3 = false := unhide HE3
                      go_wp2_with fail
                      go_meet
                      exact ⟨by rw [h3.1], rfl, by rw [h3.2.1, h3.2.2]⟩
                    | true =>
                      have h3 : e3 = e6 ∧ x3 = bareT (s.extract a3 e6) ∧ d3 = (sg && dn) := unhide HE3
                      have H31 := hide h3.1; have H32 := hide h3.2.1; have H33 := hide h3.2.2
                      clear h3
                      have yb := unhide HB2
                      have yx := unhide HEX rfl
                      obtain ⟨u1, u2, u3⟩ := unhide HSG rfl
                      go_upto_region 27 with fail
                      go_cut [5] from 115 (fun s5 wx => s5 = .int .i64 (b2 : Int) ∧ wx = ((wb.alloc (.cells #[.bool false, .string ⟨#[]⟩, .string ⟨#[]⟩, .bool false, .int .i64 0, .string ⟨#[]⟩, .int .i64 0] 91)).alloc (.cells #[.bool b0, .string t2, .string ⟨#[]⟩, .bool false, .int .i64 p2, .string ⟨#[]⟩, .int .i64 0] 91)))
                      case first =>
                        go_wp2_with fail
                        go_meet
                        exact ⟨by rw [yb]; simp, rfl⟩
                      case rest =>
                        obtain ⟨rfl, rfl⟩ := hcut
                        clear yb
                        go_upto_region 28 with fail
                        go_cut [132] from 117 (fun s132 wx => s132 = .bool sg ∧ wx = ((wb.alloc (.cells #[.bool false, .string ⟨#[]⟩, .string ⟨#[]⟩, .bool false, .int .i64 0, .string ⟨#[]⟩, .int .i64 0] 91)).alloc (.cells #[.bool b0, .string t2, .string ⟨#[]⟩, .bool false, .int .i64 p2, .string ⟨#[]⟩, .int .i64 0] 91)))
                        case first =>
                          by_cases hlt : b2 < s.size
                          · have hlt' : (b2 : Int) < (s.size : Int) := by omega
                            by_cases hc : s[b2] = 43
                            · have q := byte_t (n := 43) (show (((43 : UInt8)).toNat : Int) = 43 by decide) hc
                              have EE : Hid (sg = true) := by show _ = _; rw [unhide HF5, has_two s _ _ _ hlt]; exact decide_eq_true (Or.inl hc)
                              clear hc
                              go_wp2_with fail
                              go_meet
                              exact ⟨by rw [unhide EE], rfl⟩
                            · have q := byte_f (n := 43) (show (((43 : UInt8)).toNat : Int) = 43 by decide) hc
                              by_cases hd : s[b2] = 45
                              · have q2 := byte_t (n := 45) (show (((45 : UInt8)).toNat : Int) = 45 by decide) hd
                                have EE : Hid (sg = true) := by show _ = _; rw [unhide HF5, has_two s _ _ _ hlt]; exact decide_eq_true (Or.inr hd)
                                clear hc hd
                                go_wp2_with fail
                                go_meet
                                exact ⟨by rw [unhide EE], rfl⟩
                              · have q2 := byte_f (n := 45) (show (((45 : UInt8)).toNat : Int) = 45 by decide) hd
                                have EE : Hid (sg = false) := by show _ = _; rw [unhide HF5, has_two s _ _ _ hlt]; exact decide_eq_false (fun hh => Or.elim hh hc hd)
                                clear hc hd
                                go_wp2_with fail
                                go_meet
                                exact ⟨by rw [unhide EE], rfl⟩
                          · have hlt' : ¬ (b2 : Int) < (s.size : Int) := by omega
                            have EE : Hid (sg = false) := by show _ = _; rw [unhide HF5, has_out s _ _ hlt]
                            go_wp2_with fail
                            go_meet
                            exact ⟨by rw [unhide EE], rfl⟩
                        case rest =>
                          obtain ⟨rfl, rfl⟩ := hcut
                          go_upto_if 132 with fail
                          go_cut [5] from 133 (fun s5 wx => s5 = .int .i64 (a3 : Int) ∧ wx = ((wb.alloc (.cells #[.bool false, .string ⟨#[]⟩, .string ⟨#[]⟩, .bool false, .int .i64 0, .string ⟨#[]⟩, .int .i64 0] 91)).alloc (.cells #[.bool b0, .string t2, .string ⟨#[]⟩, .bool d3, .int .i64 p2, .string ⟨#[]⟩, .int .i64 0] 91)))
                          case first =>
                            cases sg with
                            | false =>
                              have ha31 : a3 = b2 := unhide HA3
                              have hd31 : d3 = false := unhide H33
                              go_wp2_with fail
                              go_meet
                              exact ⟨by rw [ha31], by rw [hd31]⟩
                            | true =>
                              have ha31 : a3 = b2 + 1 := unhide HA3
                              have hd31 : Hid (d3 = dn) := unhide H33
                              have hlt : b2 < s.size := by omega
                              have hlt' : (b2 : Int) < (s.size : Int) := by omega
                              have q : ((s[b2].toNat : Int) == 45) = dn := by
                                rw [unhide HF4, has_one s _ _ hlt]
                                by_cases hc : s[b2] = 45
                                · rw [decide_eq_true hc]; exact byte_t (by decide) hc
                                · rw [decide_eq_false hc]; exact byte_f (by decide) hc
                              go_wp2_with fail
                              go_meet
                              exact ⟨by rw [ha31]; simp, by rw [unhide hd31, ← q]⟩
                          case rest =>
                            obtain ⟨rfl, rfl⟩ := hcut
                            clear HF4 HF5 HA3
                            by_cases h6 : e6 = a3
                            · have h6' : ((e6 : Int) == (a3 : Int)) = true := by rw [beq_iff_eq]; omega
                              have HF : Hid (fl = (a3 : Int)) := by show _ = _; rw [unhide HFL4, if_pos (by rw [decide_eq_true h6]; rfl)]
                              go_wp2_with (go_at_call 138; go_must (refine (unhide H138 _ _ (by omega) (by omega)).mono ?_; rintro e w1 ⟨rfl, hw1⟩; rw [hw1, g6]; clear hw1))
                              refine bodyPost_ret (v := .tuple #[(cutV b0 t2 ⟨#[]⟩ d3 p2 ⟨#[]⟩ 0), .int .i64 (a3 : Int)]) (by simp [results, Tryz.results83, go_sem, cutV]) rfl ⟨_, ⟨_, _, _, _, _, _, _, rfl⟩, by rw [unhide HF], fun h => by have := unhide HF; omega, ?_⟩
                              exact ((unhide HBW).alloc (unhide HBW).size _).alloc (by have := (unhide HBW).size; simp; omega) _
                            · have h6' : ((e6 : Int) == (a3 : Int)) = false := by rw [beq_eq_false_iff_ne]; omega
                              go_wp2_with (first | (go_at_call 138; go_must (refine (unhide H138 _ _ (by omega) (by omega)).mono ?_; rintro e w1 ⟨rfl, hw1⟩; rw [hw1, g6]; clear hw1)) | (go_at_call 139; go_must (refine (unhide H139 _ _ (by simp <;> omega)).mono ?_; rintro e w1 ⟨rfl, hw1⟩; rw [hw1]; clear hw1)))
                              go_meet
                              exact ⟨by rw [unhide H31], by show _ = _; rw [decide_eq_false h6]; rfl, by rw [unhide H32]⟩
                  case rest =>
                    obtain ⟨rfl, HPZ, rfl⟩ := hcut
                    have HFL5 : Hid (fl = if e3 < s.size then (e3 : Int) else -1) := by show _ = _; rw [unhide HFL4, unhide HPZ]; rfl
                    clear HFL4 HE3 HPZ HSG HEX
                    by_cases h6 : e3 < s.size
                    · have h6' : (e3 : Int) < (s.size : Int) := by omega
                      have HF : Hid (fl = (e3 : Int)) := by show _ = _; rw [unhide HFL5, if_pos h6]
                      go_wp2_with (go_at_call 139; go_must (refine (unhide H139 _ _ (by omega)).mono ?_; rintro e w1 ⟨rfl, hw1⟩; rw [hw1]; clear hw1))
                      refine bodyPost_ret (v := .tuple #[(cutV b0 (bareT t2) x3 d3 p2 ⟨#[]⟩ 0), .int .i64 (e3 : Int)]) (by simp [results, Tryz.results83, go_sem, cutV]) rfl ⟨_, ⟨_, _, _, _, _, _, _, rfl⟩, by rw [unhide HF], fun h => by have := unhide HF; omega, ?_⟩
                      exact ((unhide HBW).alloc (unhide HBW).size _).alloc (by have := (unhide HBW).size; simp; omega) _
                    · have h6' : ¬ (e3 : Int) < (s.size : Int) := by omega
                      have HF : Hid (fl = -1) := by show _ = _; rw [unhide HFL5, if_neg h6]
                      go_wp2_with (go_at_call 139; go_must (refine (unhide H139 _ _ (by omega)).mono ?_; rintro e w1 ⟨rfl, hw1⟩; rw [hw1]; clear hw1))
                      refine bodyPost_ret (v := .tuple #[(cutV b0 (bareT t2) x3 d3 p2 ⟨#[]⟩ 0), .int .i64 (-1)]) (by simp [results, Tryz.results83, go_sem, cutV]) rfl ⟨_, ⟨_, _, _, _, _, _, _, rfl⟩, by rw [unhide HF], fun h => by rw [unhide HC]; rfl, ?_⟩
                      exact ((unhide HBW).alloc (unhide HBW).size _).alloc (by have := (unhide HBW).size; simp; omega) _
end Go.Proofs.YtifalmdoligblaaGreatDoor

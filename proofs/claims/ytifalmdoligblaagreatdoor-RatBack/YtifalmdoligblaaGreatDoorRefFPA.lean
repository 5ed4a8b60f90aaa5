/- The document's Plus of two fractions, way A. -/
import Derived.Test.YtifalmdoligblaaGreatDoorParts
import Derived.Test.YtifalmdoligblaaGreatDoorCmpMath
import Derived.Test.YtifalmdoligblaaGreatDoorRefFits
import Derived.Test.YtifalmdoligblaaGreatDoorRefPlus
import Derived.Test.YtifalmdoligblaaGreatDoorParse1
namespace Go.Proofs.YtifalmdoligblaaGreatDoor
open Go.RowKit

def dv (t : ByteArray) : Nat := Cub.dval t.data.toList
theorem bareL_nat : ∀ l : List UInt8, Cub.digs l → l ≠ [] → Cub.isNat (bareL l) ∧ Cub.dval (bareL l) = Cub.dval l
  | [], _, h => absurd rfl h
  | [c], hd, _ => ⟨⟨hd, by simp [bareL], fun _ => by simp [bareL]⟩, rfl⟩
  | c :: d :: t, hd, _ => by
    rw [bareL]
    by_cases e : c = 48
    · rw [if_pos e]
      obtain ⟨h1, h2⟩ := bareL_nat (d :: t) (fun x hx => hd x (List.mem_cons_of_mem _ hx)) (by simp)
      refine ⟨h1, ?_⟩
      rw [h2, Cub.dval_cons c (d :: t), e]
      simp
    · rw [if_neg e]
      refine ⟨⟨hd, by simp, fun h => ?_⟩, rfl⟩
      simp at h
      exact absurd h e
theorem tx_of_nat {l : List UInt8} (h : Cub.isNat l) : (⟨l.toArray⟩ : ByteArray) = tx (Cub.dval l) := by
  unfold tx
  rw [Cub.dec_dval _ _ rfl h]
theorem ne_nil_of {t : ByteArray} (h : 0 < t.size) : t.data.toList ≠ [] := by
  intro e
  rw [← list_len, e] at h
  simp at h
theorem bareT_tx {t : ByteArray} (hd : Dg t) (h : 0 < t.size) : bareT t = tx (dv t) := by
  obtain ⟨h1, h2⟩ := bareL_nat _ hd (ne_nil_of h)
  unfold bareT dv
  rw [tx_of_nat h1, h2]
theorem trim_bare : ∀ l : List UInt8, l ≠ [] → (if (Lib.trimLeftB l 48).isEmpty then ([48] : List UInt8) else Lib.trimLeftB l 48) = bareL l
  | [], h => absurd rfl h
  | [c], _ => by
    unfold Lib.trimLeftB
    by_cases e : c = 48
    · subst e; simp [bareL]
    · simp [bareL, e]
  | c :: d :: t, _ => by
    have ih := trim_bare (d :: t) (by simp)
    rw [bareL]
    by_cases e : c = 48
    · rw [if_pos e, ← ih]
      subst e
      rfl
    · rw [if_neg e]
      unfold Lib.trimLeftB
      simp [e]
theorem natT_bare {t : ByteArray} (h : 0 < t.size) : natT t = bareT t := by
  have := trim_bare _ (ne_nil_of h)
  unfold natT bareT
  rw [← this]
  split <;> rfl
theorem natT_tx {t : ByteArray} (hd : Dg t) (h : 0 < t.size) : natT t = tx (dv t) := (natT_bare h).trans (bareT_tx hd h)
theorem tx_nought : tx 0 = ⟨#[48]⟩ := by
  unfold tx
  rw [Lib.decDigits]
  simp
theorem natT_nil {t : ByteArray} (h : t.size = 0) : natT t = tx 0 ∧ dv t = 0 ∧ bareT t = ⟨#[]⟩ := by
  have e : t.data.toList = [] := List.length_eq_zero_iff.1 (by rw [list_len]; exact h)
  unfold natT dv bareT
  rw [e, tx_nought]
  exact ⟨rfl, rfl, rfl⟩
theorem dg_append {t u : ByteArray} (h1 : Dg t) (h2 : Dg u) : Dg (t ++ u) := by
  unfold Dg
  have : (t ++ u).data.toList = t.data.toList ++ u.data.toList := by simp
  rw [this]
  exact Cub.digs_append.2 ⟨h1, h2⟩
theorem size_append (t u : ByteArray) : (t ++ u).size = t.size + u.size := by simp
theorem tx_oneP : tx 1 = ⟨#[49]⟩ := by
  unfold tx
  rw [Lib.decDigits]
  simp
/-- The text of a number says how great it is. -/
theorem tx_long (n k : Nat) (hk : 0 < k) : k < (tx n).size ↔ 10 ^ k ≤ n := by
  rw [← list_len, tx_list]
  have := Cub.dec_len_lt n k hk
  omega
theorem tx_is0 (n : Nat) : (tx n).toList = [48] ↔ n = 0 := by
  constructor
  · intro h
    have := tx_val n
    unfold val at this
    rw [← Lib.toList_data, h] at this
    rw [← this]; rfl
  · intro h; subst h; rw [Lib.toList_data, tx_nought]
/-- Noughts behind a number. -/
theorem tx_shift (n k : Nat) (h : n ≠ 0) : tx n ++ ⟨(List.replicate k 48).toArray⟩ = tx (n * 10 ^ k) := by
  have e : (tx n ++ ⟨(List.replicate k 48).toArray⟩).data.toList = Lib.decDigits n ++ List.replicate k 48 := by
    simp [tx]
  have hz : Cub.dval (List.replicate k (48 : UInt8)) = 0 ∧ Cub.digs (List.replicate k (48 : UInt8)) := by
    clear e
    induction k with
    | zero => exact ⟨rfl, Cub.digs_nil⟩
    | succ k ih =>
      obtain ⟨i1, i2⟩ := ih
      rw [List.replicate_succ]
      exact ⟨by rw [Cub.dval_cons, i1]; simp, fun c hc => by rcases List.mem_cons.1 hc with h | h; (subst h; decide); exact i2 c h⟩
  have hn := Cub.isNat_dec n
  have hnat : Cub.isNat (Lib.decDigits n ++ List.replicate k 48) := by
    refine ⟨Cub.digs_append.2 ⟨hn.1, hz.2⟩, by simp [hn.2.1], fun hh => ?_⟩
    exfalso
    apply h
    have : (Lib.decDigits n).head? = some 48 := by
      cases hq : Lib.decDigits n with
      | nil => exact absurd hq hn.2.1
      | cons c l => rw [hq] at hh; simpa using hh
    exact Cub.dec_head n this
  apply bytes_ext
  rw [e, tx_list]
  have hv : Cub.dval (Lib.decDigits n ++ List.replicate k 48) = n * 10 ^ k := by
    rw [Cub.dval_append, Cub.dval_dec, hz.1]; simp
  rw [← hv, Cub.dec_dval _ _ rfl hnat]
theorem digit_val (c : UInt8) (h : 48 ≤ c.toNat ∧ c.toNat ≤ 57) : Lib.digitVal c = some (c.toNat - 48) := by
  unfold Lib.digitVal
  simp [h.1, h.2]
theorem dec_from : ∀ (l : List UInt8) (a : Nat), Cub.digs l → Lib.decFrom a l = some (l.foldl (fun n c => 10 * n + (c.toNat - 48)) a)
  | [], a, _ => rfl
  | c :: l, a, h => by
    rw [Lib.decFrom, digit_val c (h c (by simp))]
    simp only
    rw [dec_from l _ (fun x hx => h x (List.mem_cons_of_mem _ hx)), List.foldl_cons, Nat.mul_comm a 10]
theorem atoi_tx (n : Nat) : Lib.atoi (tx n).data.toList = some (n : Int) := by
  have hn := tx_nat n
  have hv := tx_val n
  unfold val at hv
  cases hq : (tx n).data.toList with
  | nil => exact absurd hq hn.2.1
  | cons c l =>
    rw [hq] at hn hv
    have hc := hn.1 c (by simp)
    have h1 : (c == 45) = false := by rw [beq_eq_false_iff_ne]; rintro rfl; exact absurd hc.1 (by decide)
    have h2 : (c == 43) = false := by rw [beq_eq_false_iff_ne]; rintro rfl; exact absurd hc.1 (by decide)
    rw [Lib.atoi, h1, h2]
    simp only [Bool.false_eq_true, if_false]
    unfold Lib.decNat
    rw [dec_from _ _ hn.1]
    unfold Cub.dval at hv
    rw [hv]
    rfl
theorem atoi_any (n : Nat) (h : n < 10000) (W : World) : Calls Tryz.prog 137 #[.string (tx n)] W fun e w' => e = .returned (.tuple #[.int .i64 (n : Int), .nilIface]) ∧ Below W.heap.size W w' := by
  have hs : (tx n).size ≤ 18 := by
    have h1 : ¬ 4 < (tx n).size := fun hh => by have := (tx_long n 4 (by decide)).1 hh; omega
    omega
  refine (Tryz.strconv_Atoi (tx n) (n : Int) hs (atoi_tx n) W).mono ?_
  rintro e w' ⟨rfl, t, rfl⟩
  exact ⟨rfl, Lib.bytesWorld_below W 5 t⟩
end Go.Proofs.YtifalmdoligblaaGreatDoor

namespace Go.Proofs.YtifalmdoligblaaGreatDoor
open Go.RowKit

set_option maxRecDepth 100000 in
set_option maxHeartbeats 4000000 in
theorem refTen_walk (b d : Bool) (m x q : ByteArray) (p t : Int) (n : Nat) (R : Int) (ok : Bool) (w : World) (hp : 0 ≤ p) (hp2 : p ≤ 70000)
    (hx : (x.toList.isEmpty = true ∧ n = 0) ∨ (x.toList.isEmpty = false ∧ (4 < x.size → 10000 ≤ n) ∧ (x.size ≤ 4 → ∀ W, Calls Tryz.prog 137 #[.string x] W fun e w' => e = .returned (.tuple #[.int .i64 (n : Int), .nilIface]) ∧ Below W.heap.size W w')))
    (hn4 : x.size ≤ 4 → n < 10000)
    (hR : R = if n ≤ 4096 then (if d then -(n : Int) else (n : Int)) - p else 0) (hok : ok = decide (n ≤ 4096)) :
    Calls Tryz.prog 84 #[cutV b m x d p q t] w fun r w' => r = .returned (.tuple #[.int .i64 R, .bool ok]) ∧ Below w.heap.size w w' := by
  obtain ⟨V, hV⟩ : ∃ V, V = w.alloc (.cells #[.bool b, .string m, .string x, .bool d, .int .i64 p, .string q, .int .i64 t] 91) := ⟨_, rfl⟩
  have HB : Hid (Below w.heap.size w V) := by rw [hV]; exact (Below.refl _ _).alloc (Nat.le_refl _) _
  have HC : Hid (V.cell? ⟨w.heap.size, 2, none⟩ = some (.string x) ∧ V.cell? ⟨w.heap.size, 3, none⟩ = some (.bool d) ∧ V.cell? ⟨w.heap.size, 4, none⟩ = some (.int .i64 p) ∧ w.heap.size < V.heap.size) := by
    rw [hV]; exact ⟨by simp [go_sem], by simp [go_sem], by simp [go_sem], by simp⟩
  have HV := hide hV
  have HRO := hide (And.intro hR hok)
  have HX := hide hx
  have HN4 := hide hn4
  clear hR hok hx hn4
  unfold cutV
  go_enter Tryz.func84, Tryz.ntmps84
  go_upto_region 1 with fail
  rw [← unhide HV]
  clear hV HV
  have c2 := (unhide HC).1; have c3 := (unhide HC).2.1; have c4 := (unhide HC).2.2.1
  rcases unhide HX with ⟨h1, h2⟩ | ⟨h1, h2, h3⟩
  · have HRO2 : Hid (R = (if d then (0 : Int) else 0) - p ∧ ok = true) := ⟨by rw [(unhide HRO).1, h2, if_pos (by decide)]; simp, by rw [(unhide HRO).2, h2]; rfl⟩
    clear HRO h2 HX
    cases d with
    | true =>
      go_wp2_with fail
      exact bodyPost_ret (v := .tuple #[.int .i64 R, .bool ok]) (by simp [results, Tryz.results84, go_sem, (unhide HRO2).1, (unhide HRO2).2]) rfl ⟨rfl, unhide HB⟩
    | false =>
      go_wp2_with fail
      exact bodyPost_ret (v := .tuple #[.int .i64 R, .bool ok]) (by simp [results, Tryz.results84, go_sem, (unhide HRO2).1, (unhide HRO2).2]) rfl ⟨rfl, unhide HB⟩
  · have H3 := hide h3
    clear h3 HX
    by_cases h5 : 4 < x.size
    · have h5' : (4 : Int) < (x.size : Int) := by omega
      have h6 := h2 h5
      have HRO2 : Hid (R = 0 ∧ ok = false) := ⟨by rw [(unhide HRO).1, if_neg (by omega)], by rw [(unhide HRO).2]; exact decide_eq_false (by omega)⟩
      clear HRO h2
      go_wp2_with fail
      exact bodyPost_ret (v := .tuple #[.int .i64 R, .bool ok]) (by simp [results, Tryz.results84, go_sem, (unhide HRO2).1, (unhide HRO2).2]) rfl ⟨rfl, unhide HB⟩
    · have h5' : ¬ (4 : Int) < (x.size : Int) := by omega
      have h6 : n < 10000 := unhide HN4 (by omega)
      clear h2
      by_cases h7 : n ≤ 4096
      · have h7' : ¬ (4096 : Int) < (n : Int) := by omega
        have HRO2 : Hid (R = (if d then -(n : Int) else (n : Int)) - p ∧ ok = true) := ⟨by rw [(unhide HRO).1, if_pos h7], by rw [(unhide HRO).2]; exact decide_eq_true h7⟩
        clear HRO
        cases d with
        | true =>
          go_wp2_with (go_at_call 137; go_must (refine (unhide H3 (by omega) _).mono ?_; rintro e w1 ⟨rfl, hb1⟩; have HB1 := hide ((unhide HB).trans (hb1.mono (unhide HB).size)); clear c2 c3 c4; have c3 := (hb1.cell (p := ⟨w.heap.size, 3, none⟩) (unhide HC).2.2.2).trans (unhide HC).2.1; have c4 := (hb1.cell (p := ⟨w.heap.size, 4, none⟩) (unhide HC).2.2.2).trans (unhide HC).2.2.1; clear hb1))
          exact bodyPost_ret (v := .tuple #[.int .i64 R, .bool ok]) (by simp [results, Tryz.results84, go_sem, (unhide HRO2).1, (unhide HRO2).2]) rfl ⟨rfl, unhide HB1⟩
        | false =>
          go_wp2_with (go_at_call 137; go_must (refine (unhide H3 (by omega) _).mono ?_; rintro e w1 ⟨rfl, hb1⟩; have HB1 := hide ((unhide HB).trans (hb1.mono (unhide HB).size)); clear c2 c3 c4; have c3 := (hb1.cell (p := ⟨w.heap.size, 3, none⟩) (unhide HC).2.2.2).trans (unhide HC).2.1; have c4 := (hb1.cell (p := ⟨w.heap.size, 4, none⟩) (unhide HC).2.2.2).trans (unhide HC).2.2.1; clear hb1))
          exact bodyPost_ret (v := .tuple #[.int .i64 R, .bool ok]) (by simp [results, Tryz.results84, go_sem, (unhide HRO2).1, (unhide HRO2).2]) rfl ⟨rfl, unhide HB1⟩
      · have h7' : (4096 : Int) < (n : Int) := by omega
        have HRO2 : Hid (R = 0 ∧ ok = false) := ⟨by rw [(unhide HRO).1, if_neg h7], by rw [(unhide HRO).2]; exact decide_eq_false h7⟩
        clear HRO
        go_wp2_with (go_at_call 137; go_must (refine (unhide H3 (by omega) _).mono ?_; rintro e w1 ⟨rfl, hb1⟩; have HB1 := hide ((unhide HB).trans (hb1.mono (unhide HB).size)); clear c2 c3 c4 hb1))
        exact bodyPost_ret (v := .tuple #[.int .i64 R, .bool ok]) (by simp [results, Tryz.results84, go_sem, (unhide HRO2).1, (unhide HRO2).2]) rfl ⟨rfl, unhide HB1⟩
/-- Of a decimal's exponent x, its digits as they stand. -/
theorem refTen_any (b d : Bool) (m x q : ByteArray) (p t : Int) (w : World) (hp : 0 ≤ p) (hp2 : p ≤ 70000) (hx : Dg x) :
    Calls Tryz.prog 84 #[cutV b m (bareT x) d p q t] w fun r w' => r = .returned (.tuple #[.int .i64 (if dv x ≤ 4096 then (if d then -(dv x : Int) else (dv x : Int)) - p else 0), .bool (decide (dv x ≤ 4096))]) ∧ Below w.heap.size w w' := by
  rcases Nat.eq_zero_or_pos x.size with h0 | h0
  · obtain ⟨_, h2, h3⟩ := natT_nil h0
    refine refTen_walk b d m _ q p t (dv x) _ _ w hp hp2 (Or.inl ⟨by rw [h3]; exact empty_of _ rfl, h2⟩) (fun _ => by rw [h2]; decide) rfl rfl
  · rw [bareT_tx hx h0]
    have hl := tx_long (dv x) 4 (by decide)
    have hpos : 0 < (tx (dv x)).size := by
      rcases Nat.eq_zero_or_pos (tx (dv x)).size with h | h
      · exact absurd (List.length_eq_zero_iff.1 (by rw [list_len]; exact h)) (tx_nat (dv x)).2.1
      · exact h
    have hlt : (tx (dv x)).size ≤ 4 → dv x < 10000 := fun h => by
      rcases Nat.lt_or_ge (dv x) 10000 with h' | h'
      · exact h'
      · have := hl.2 h'; omega
    exact refTen_walk b d m _ q p t (dv x) _ _ w hp hp2 (Or.inr ⟨not_empty_of _ hpos, fun h => hl.1 h, fun h W => atoi_any (dv x) (hlt h) W⟩) hlt rfl rfl
end Go.Proofs.YtifalmdoligblaaGreatDoor

namespace Go.Proofs.YtifalmdoligblaaGreatDoor
open Go.RowKit

theorem toList_less (s t : ByteArray) (hs : Cub.isNat s.data.toList) (ht : Cub.isNat t.data.toList) (hl : s.size = t.size) : Op.bytesLess s.toList t.toList = decide (Cub.dval s.data.toList < Cub.dval t.data.toList) := by
  rw [Lib.toList_data, Lib.toList_data]
  exact Cub.bytesLess_dval _ _ hs.1 ht.1 (by rw [list_len, list_len]; exact hl)
theorem toList_same (s t : ByteArray) (hs : Cub.isNat s.data.toList) (ht : Cub.isNat t.data.toList) : (s.toList == t.toList) = decide (Cub.dval s.data.toList = Cub.dval t.data.toList) := by
  rw [Lib.toList_data, Lib.toList_data, Bool.eq_iff_iff, beq_iff_eq, decide_eq_true_eq]
  exact ⟨fun h => by rw [h], fun h => Cub.dval_inj hs ht h⟩

set_option maxRecDepth 100000 in
set_option maxHeartbeats 400000 in
theorem compare_any (s t : ByteArray) (w : World) (hs : Cub.isNat s.data.toList) (ht : Cub.isNat t.data.toList) :
    Calls Tryz.prog 124 #[.string s, .string t] w fun e w' => e = .returned (.int .i64 (Cub.cmpN (Cub.dval s.data.toList) (Cub.dval t.data.toList))) ∧ w' = w := by
  by_cases hl : s.size = t.size
  · have hne : ((s.size : Int) != (t.size : Int)) = false := by rw [hl]; simp
    have hless := toList_less s t hs ht hl
    have hsame := toList_same s t hs ht
    by_cases hc : Cub.dval s.data.toList < Cub.dval t.data.toList
    · have e : Cub.cmpN (Cub.dval s.data.toList) (Cub.dval t.data.toList) = -1 := if_pos hc
      rw [e]
      rw [decide_eq_true hc] at hless
      clear hsame hs ht hl e hc
      go_enter Tryz.func124, Tryz.ntmps124
      go_wp2
      go_ret
      exact ⟨rfl, rfl⟩
    · rw [decide_eq_false hc] at hless
      by_cases hc2 : Cub.dval t.data.toList < Cub.dval s.data.toList
      · have e : Cub.cmpN (Cub.dval s.data.toList) (Cub.dval t.data.toList) = 1 := by unfold Cub.cmpN; rw [if_neg hc, if_pos hc2]
        rw [e]
        rw [decide_eq_false (by omega)] at hsame
        clear hs ht hl e hc hc2
        go_enter Tryz.func124, Tryz.ntmps124
        go_wp2
        go_ret
        exact ⟨rfl, rfl⟩
      · have e : Cub.cmpN (Cub.dval s.data.toList) (Cub.dval t.data.toList) = 0 := by unfold Cub.cmpN; rw [if_neg hc, if_neg hc2]
        rw [e]
        rw [decide_eq_true (by omega)] at hsame
        clear hs ht hl e hc hc2
        go_enter Tryz.func124, Tryz.ntmps124
        go_wp2
        go_ret
        exact ⟨rfl, rfl⟩
  · have hne : ((s.size : Int) != (t.size : Int)) = true := by rw [bne_iff_ne]; omega
    by_cases hlt : s.size < t.size
    · have e : Cub.cmpN (Cub.dval s.data.toList) (Cub.dval t.data.toList) = -1 := if_pos (Cub.len_lt_dval hs ht (by rw [list_len, list_len]; exact hlt))
      rw [e]
      clear hs ht hl e
      go_enter Tryz.func124, Tryz.ntmps124
      go_wp2
      go_ret
      exact ⟨rfl, rfl⟩
    · have e0 := Cub.len_lt_dval ht hs (by rw [list_len, list_len]; omega)
      have e : Cub.cmpN (Cub.dval s.data.toList) (Cub.dval t.data.toList) = 1 := by unfold Cub.cmpN; rw [if_neg (by omega), if_pos e0]
      rw [e]
      clear hs ht hl e e0
      go_enter Tryz.func124, Tryz.ntmps124
      go_wp2
      go_ret
      exact ⟨rfl, rfl⟩
theorem refCompareM (m n : Nat) (w : World) : Calls Tryz.prog 124 #[.string (tx m), .string (tx n)] w fun e w' => e = .returned (.int .i64 (Cub.cmpN m n)) ∧ w' = w := by
  have h := compare_any (tx m) (tx n) w (tx_nat m) (tx_nat n)
  rw [show Cub.dval (tx m).data.toList = m from tx_val m, show Cub.dval (tx n).data.toList = n from tx_val n] at h
  exact h

end Go.Proofs.YtifalmdoligblaaGreatDoor

namespace Go.Proofs.YtifalmdoligblaaGreatDoor
open Go.RowKit

/-- Noughts as far as i, made in a block of n bytes. -/
structure ZB (w wr : World) (g n i : Nat) : Prop where
  cell : ∀ q, q < n → wr.cell? ⟨g, q, none⟩ = some (.int .u8 (if q < i then 48 else 0))
  froz : ∀ q, q < n → wr.frozen? ⟨g, q, none⟩ = false
  low : w.heap.size ≤ g
  below : Below w.heap.size w wr
theorem ZB.step {w wr : World} {g n i : Nat} (h : ZB w wr g n i) (hi : i < n) : ZB w (wr.setCell ⟨g, i, none⟩ (.int .u8 48)) g n (i + 1) := by
  refine ⟨fun q hq => ?_, fun q hq => by rw [World.frozen?_setCell]; exact h.froz q hq, h.low, h.below.setCell (p := ⟨g, i, none⟩) h.low _⟩
  by_cases e : q = i
  · subst e
    rw [World.cell?_setCell_same _ _ _ (h.cell q hq), if_pos (by omega)]
  · rw [World.cell?_setCell_other _ _ _ _ (by intro h; cases h; exact e rfl), h.cell q hq]
    by_cases e2 : q < i
    · rw [if_pos e2, if_pos (by omega)]
    · rw [if_neg e2, if_neg (by omega)]
set_option maxRecDepth 100000 in
set_option maxHeartbeats 2000000 in
theorem refZeros (n : Nat) (w : World) (hn : n ≤ 100000) :
    Calls Tryz.prog 66 #[.int .i64 (n : Int)] w fun r w' => r = .returned (.string ⟨(List.replicate n 48).toArray⟩) ∧ Below w.heap.size w w' := by
  obtain ⟨i5, hi5, hz50, hz51, hz52⟩ := info_parts Tryz.info5
  go_enter Tryz.func66, Tryz.ntmps66
  go_wp2_with (at_make; refine wpList_make_full _ rfl _ _ 130 rfl w.heap.size 5 i5 (.int .u8 0) 1 Tryz.underlying130 hi5 hz50 hz51 .i64 .i64 _ _ n rfl rfl (by omega) (by omega) (by rw [hz52]; omega) (by unfold maxLen; omega) (Nat.le_refl _) ?_; intro w3 hown3 hgrow3)
  have HZ : Hid (ZB w w3 w.heap.size n 0) := by
    refine ⟨fun q hq => ?_, fun q hq => hown3.frozenAt q, Nat.le_refl _, (Below.refl _ _).grown hgrow3 (Nat.le_refl _) (fun k hk => by cases hk)⟩
    rw [show (madeCells (Value.int .u8 0).cells (n * 1)).toList = List.replicate n (Value.int .u8 0) from by
      rw [show (Value.int .u8 0).cells = #[Value.int .u8 0] from rfl, toList_madeCells_one]; simp] at hown3
    rw [hown3.cellAt q (by omega), if_neg (by omega)]
    simp [hq]
  clear hown3 hgrow3
  generalize hg : w.heap.size = g at *
  clear hg
  go_loopw [9] (fun t wr => ∃ i : Nat, t = .int .i64 (i : Int) ∧ i ≤ n ∧ Hid (ZB w wr g n i)) (fun t _ => n - (intOf t).toNat)
  case atStart => exact ⟨0, rfl, by omega, HZ⟩
  case round =>
    obtain ⟨i, rfl, hin, HI⟩ := hrel
    clear HZ
    by_cases hlt : i < n
    · have c0 := (unhide HI).cell i hlt
      have f0 := (unhide HI).froz i hlt
      rw [if_neg (by omega)] at c0
      have HJ := hide ((unhide HI).step hlt)
      have hlt' : (i : Int) < (n : Int) := by omega
      go_wp2
      go_round
      case rel => exact ⟨i + 1, by go_num, by omega, HJ⟩
      case measure => simp [intOf]; omega
    · have e : i = n := by omega
      subst e
      have hcv := run_convert_bytes_back (P := Tryz.prog) wr 130 9 5 ⟨g, 0, none⟩ i (List.replicate i 48) Tryz.underlying130 Tryz.underlying5 Tryz.underlying9 (fun q hq => by
        rw [Lib.add_plain, Nat.zero_add, (unhide HI).cell q (by simpa using hq), if_pos (by simpa using hq)]
        simp)
      rw [List.length_replicate] at hcv
      have HB := hide (unhide HI).below
      go_wp2
      go_ret
      exact ⟨rfl, unhide HB⟩
end Go.Proofs.YtifalmdoligblaaGreatDoor

namespace Go.Proofs.YtifalmdoligblaaGreatDoor
open Go.RowKit

/-- Two fractions laid in boxes, a third for the answer. -/
structure F3 (w V : World) (x0 x1 x2 y0 y1 y2 : Value) : Prop where
  x : FBox V w.heap.size x0 x1 x2
  y : FBox V (w.heap.size + 1) y0 y1 y2
  r : FBox V (w.heap.size + 1 + 1) (.bool false) (.string ⟨#[]⟩) (.string ⟨#[]⟩)
  below : Below w.heap.size w V
theorem F3.later {w V W : World} {x0 x1 x2 y0 y1 y2 : Value} (h : F3 w V x0 x1 x2 y0 y1 y2) (hb : Below V.heap.size V W) : F3 w W x0 x1 x2 y0 y1 y2 :=
  ⟨h.x.later hb, h.y.later hb, h.r.later hb, h.below.trans (hb.mono h.below.size)⟩
theorem F3.first (w : World) (x0 x1 x2 y0 y1 y2 : Value) : F3 w (((w.alloc (.cells #[x0, x1, x2] 61)).alloc (.cells #[y0, y1, y2] 61)).alloc (.cells #[.bool false, .string ⟨#[]⟩, .string ⟨#[]⟩] 61)) x0 x1 x2 y0 y1 y2 :=
  ⟨⟨by simp [go_sem], by simp [go_sem], by simp [go_sem], by simp [go_sem], by simp [go_sem], by simp [go_sem]⟩, ⟨by simp [go_sem], by simp [go_sem], by simp [go_sem], by simp [go_sem], by simp [go_sem], by simp [go_sem]⟩, ⟨by simp [go_sem], by simp [go_sem], by simp [go_sem], by simp [go_sem], by simp [go_sem], by simp [go_sem]⟩,
    (((Below.refl _ _).alloc (Nat.le_refl _) _).alloc (by simp) _).alloc (by simp; omega) _⟩

set_option maxRecDepth 100000 in
set_option maxHeartbeats 2000000 in
theorem refFTimes_walk (b c rb : Bool) (s1 t1 s2 t2 n d rn rd : ByteArray) (w : World)
    (h1 : ∀ W, Calls Tryz.prog 123 #[.string s1, .string s2] W fun e w' => e = .returned (.string n) ∧ Below W.heap.size W w')
    (h2 : ∀ W, Calls Tryz.prog 123 #[.string t1, .string t2] W fun e w' => e = .returned (.string d) ∧ Below W.heap.size W w')
    (h3 : ∀ W, Calls Tryz.prog 75 #[.bool (b != c), .string n, .string d] W fun e w' => e = .returned (.agg #[.bool rb, .string rn, .string rd]) ∧ Below W.heap.size W w') :
    Calls Tryz.prog 65 #[.agg #[.bool b, .string s1, .string t1], .agg #[.bool c, .string s2, .string t2]] w fun e w' => e = .returned (.agg #[.bool rb, .string rn, .string rd]) ∧ Below w.heap.size w w' := by
  obtain ⟨V, hV⟩ : ∃ V, V = (((w.alloc (.cells #[.bool b, .string s1, .string t1] 61)).alloc (.cells #[.bool c, .string s2, .string t2] 61)).alloc (.cells #[.bool false, .string ⟨#[]⟩, .string ⟨#[]⟩] 61)) := ⟨_, rfl⟩
  have HS : Hid (F3 w V (.bool b) (.string s1) (.string t1) (.bool c) (.string s2) (.string t2)) := by rw [hV]; exact F3.first _ _ _ _ _ _ _
  have HV := hide hV
  have H1 := hide h1
  have H2 := hide h2
  have H3 := hide h3
  have HC : Hid (∀ w', Below V.heap.size V w' → (w'.cell? ⟨w.heap.size, 0, none⟩ = some (.bool b) ∧ w'.cell? ⟨w.heap.size, 1, none⟩ = some (.string s1) ∧ w'.cell? ⟨w.heap.size, 2, none⟩ = some (.string t1) ∧ w'.cell? ⟨w.heap.size + 1, 0, none⟩ = some (.bool c) ∧ w'.cell? ⟨w.heap.size + 1, 1, none⟩ = some (.string s2) ∧ w'.cell? ⟨w.heap.size + 1, 2, none⟩ = some (.string t2)) ∧ (w'.cell? ⟨w.heap.size + 1 + 1, 0, none⟩ = some (.bool false) ∧ w'.cell? ⟨w.heap.size + 1 + 1, 1, none⟩ = some (.string ⟨#[]⟩) ∧ w'.cell? ⟨w.heap.size + 1 + 1, 2, none⟩ = some (.string ⟨#[]⟩) ∧ w'.frozen? ⟨w.heap.size + 1 + 1, 0, none⟩ = false ∧ w'.frozen? ⟨w.heap.size + 1 + 1, 1, none⟩ = false ∧ w'.frozen? ⟨w.heap.size + 1 + 1, 2, none⟩ = false)) := fun U hb => by
    have s := (unhide HS).later hb
    exact ⟨⟨s.x.c0, s.x.c1, s.x.c2, s.y.c0, s.y.c1, s.y.c2⟩, ⟨s.r.c0, s.r.c1, s.r.c2, s.r.f0, s.r.f1, s.r.f2⟩⟩
  clear h1 h2 h3 hV
  go_enter Tryz.func65, Tryz.ntmps65
  go_upto_region 1 with fail
  rw [← unhide HV]
  clear HV
  obtain ⟨⟨t0, t1', t2', t3, t4, t5⟩, _⟩ := unhide HC V (Below.refl _ _)
  go_region_held3 (fun w' => w'.cell? ⟨w.heap.size, 0, none⟩ = some (.bool b) ∧ w'.cell? ⟨w.heap.size, 1, none⟩ = some (.string s1) ∧ w'.cell? ⟨w.heap.size, 2, none⟩ = some (.string t1) ∧ w'.cell? ⟨w.heap.size + 1, 0, none⟩ = some (.bool c) ∧ w'.cell? ⟨w.heap.size + 1, 1, none⟩ = some (.string s2) ∧ w'.cell? ⟨w.heap.size + 1, 2, none⟩ = some (.string t2)) (first | assumption | (refine ⟨?_, ?_, ?_, ?_, ?_, ?_⟩ <;> first | assumption | (simp [go_sem, *]; done) | (rw [World.cell?_setCell_other _ _ _ _ (by simp), World.cell?_setCell_other _ _ _ _ (by simp), World.cell?_setCell_other _ _ _ _ (by simp)]; assumption)) | (simp [go_sem, *]; done)) ((first
    | (go_at_call_of 123 s1; go_must (refine (unhide H1 _).mono ?_; rintro e wa ⟨rfl, hba⟩; have HCA := hide (((Below.refl V.heap.size V).drew).trans hba); clear hba t0 t1' t2' t3 t4 t5; obtain ⟨⟨t0, t1', t2', t3, t4, t5⟩, _⟩ := unhide HC wa (unhide HCA)))
    | (go_at_call_of 123 t1; go_must (refine (unhide H2 _).mono ?_; rintro e wb ⟨rfl, hbb⟩; have HCB := hide ((unhide HCA).trans (hbb.mono (unhide HCA).size)); clear hbb t0 t1' t2' t3 t4 t5; obtain ⟨⟨t0, t1', t2', t3, t4, t5⟩, _⟩ := unhide HC wb (unhide HCB)))
    | (go_at_call 75; go_must (refine (unhide H3 _).mono ?_; rintro e wc ⟨rfl, hbc⟩; have HCC := hide ((unhide HCB).trans (hbc.mono (unhide HCB).size)); clear hbc t0 t1' t2' t3 t4 t5; obtain ⟨⟨t0, t1', t2', t3, t4, t5⟩, ⟨r0, r1, r2, rf0, rf1, rf2⟩⟩ := unhide HC wc (unhide HCC)))))
  have HS1 := hide ((unhide HS).later (unhide HCC))
  clear r0 r1 r2 rf0 rf1 rf2 t0 t1' t2' t3 t4 t5
  have hS := (unhide HS1).r.store (.bool rb) (.string rn) (.string rd)
  have hb : Below w.heap.size w (store3 wc (w.heap.size + 1 + 1) (.bool rb) (.string rn) (.string rd)) := below_store3 (unhide HS1).below (by omega) _ _ _
  obtain ⟨V9, hV9⟩ : ∃ V9, V9 = store3 wc (w.heap.size + 1 + 1) (.bool rb) (.string rn) (.string rd) := ⟨_, rfl⟩
  have hV9' : V9 = ((wc.setCell ⟨w.heap.size + 1 + 1, 0, none⟩ (.bool rb)).setCell ⟨w.heap.size + 1 + 1, 1, none⟩ (.string rn)).setCell ⟨w.heap.size + 1 + 1, 2, none⟩ (.string rd) := hV9
  have u0 := hS.c0; have u1 := hS.c1; have u2 := hS.c2
  rw [← hV9] at u0 u1 u2 hb
  rw [← hV9']
  have HB9 := hide hb
  clear hV9 hV9' hS hb
  go_wp2_with fail
  exact bodyPost_ret (v := .agg #[.bool rb, .string rn, .string rd]) (by simp [results, Tryz.results65, go_sem, u0, u1, u2]) rfl ⟨rfl, unhide HB9⟩

end Go.Proofs.YtifalmdoligblaaGreatDoor

namespace Go.Proofs.YtifalmdoligblaaGreatDoor
open Go.RowKit

set_option maxRecDepth 100000 in
set_option maxHeartbeats 2000000 in
theorem refFPlusA (b c rb : Bool) (s1 t1 s2 t2 x y d n rn rd : ByteArray) (w : World) (hbc : b = c)
    (h4 : ∀ W, Calls Tryz.prog 120 #[.string x, .string y] W fun e w' => e = .returned (.string n) ∧ Below W.heap.size W w')
    (h1 : ∀ W, Calls Tryz.prog 123 #[.string s1, .string t2] W fun e w' => e = .returned (.string x) ∧ Below W.heap.size W w')
    (h2 : ∀ W, Calls Tryz.prog 123 #[.string s2, .string t1] W fun e w' => e = .returned (.string y) ∧ Below W.heap.size W w')
    (h3 : ∀ W, Calls Tryz.prog 123 #[.string t1, .string t2] W fun e w' => e = .returned (.string d) ∧ Below W.heap.size W w')
    (h5 : ∀ W, Calls Tryz.prog 75 #[.bool b, .string n, .string d] W fun e w' => e = .returned (.agg #[.bool rb, .string rn, .string rd]) ∧ Below W.heap.size W w') :
    Calls Tryz.prog 61 #[.agg #[.bool b, .string s1, .string t1], .agg #[.bool c, .string s2, .string t2]] w fun e w' => e = .returned (.agg #[.bool rb, .string rn, .string rd]) ∧ Below w.heap.size w w' := by
  obtain ⟨V, hV⟩ : ∃ V, V = (((w.alloc (.cells #[.bool b, .string s1, .string t1] 61)).alloc (.cells #[.bool c, .string s2, .string t2] 61)).alloc (.cells #[.bool false, .string ⟨#[]⟩, .string ⟨#[]⟩] 61)) := ⟨_, rfl⟩
  have HS : Hid (F3 w V (.bool b) (.string s1) (.string t1) (.bool c) (.string s2) (.string t2)) := by rw [hV]; exact F3.first _ _ _ _ _ _ _
  have HV := hide hV
  have H1 := hide h1
  have H2 := hide h2
  have H3 := hide h3
  have H4 := hide h4
  have H5 := hide h5
  have hbq : (b == c) = true := by rw [hbc]; simp
  have HC : Hid (∀ w', Below V.heap.size V w' → (w'.cell? ⟨w.heap.size, 0, none⟩ = some (.bool b) ∧ w'.cell? ⟨w.heap.size, 1, none⟩ = some (.string s1) ∧ w'.cell? ⟨w.heap.size, 2, none⟩ = some (.string t1) ∧ w'.cell? ⟨w.heap.size + 1, 0, none⟩ = some (.bool c) ∧ w'.cell? ⟨w.heap.size + 1, 1, none⟩ = some (.string s2) ∧ w'.cell? ⟨w.heap.size + 1, 2, none⟩ = some (.string t2)) ∧ (w'.cell? ⟨w.heap.size + 1 + 1, 0, none⟩ = some (.bool false) ∧ w'.cell? ⟨w.heap.size + 1 + 1, 1, none⟩ = some (.string ⟨#[]⟩) ∧ w'.cell? ⟨w.heap.size + 1 + 1, 2, none⟩ = some (.string ⟨#[]⟩) ∧ w'.frozen? ⟨w.heap.size + 1 + 1, 0, none⟩ = false ∧ w'.frozen? ⟨w.heap.size + 1 + 1, 1, none⟩ = false ∧ w'.frozen? ⟨w.heap.size + 1 + 1, 2, none⟩ = false)) := fun U hb => by
    have s := (unhide HS).later hb
    exact ⟨⟨s.x.c0, s.x.c1, s.x.c2, s.y.c0, s.y.c1, s.y.c2⟩, ⟨s.r.c0, s.r.c1, s.r.c2, s.r.f0, s.r.f1, s.r.f2⟩⟩
  clear h1 h2 h3 h4 h5 hV hbc
  go_enter Tryz.func61, Tryz.ntmps61
  go_upto_region 1 with fail
  rw [← unhide HV]
  clear HV
  obtain ⟨⟨t0, t1', t2', t3, t4, t5⟩, _⟩ := unhide HC V (Below.refl _ _)
  go_region_held3 (fun w' => w'.cell? ⟨w.heap.size, 0, none⟩ = some (.bool b) ∧ w'.cell? ⟨w.heap.size, 1, none⟩ = some (.string s1) ∧ w'.cell? ⟨w.heap.size, 2, none⟩ = some (.string t1) ∧ w'.cell? ⟨w.heap.size + 1, 0, none⟩ = some (.bool c) ∧ w'.cell? ⟨w.heap.size + 1, 1, none⟩ = some (.string s2) ∧ w'.cell? ⟨w.heap.size + 1, 2, none⟩ = some (.string t2)) (first | assumption | (refine ⟨?_, ?_, ?_, ?_, ?_, ?_⟩ <;> first | assumption | (simp [go_sem, *]; done) | (rw [World.cell?_setCell_other _ _ _ _ (by simp), World.cell?_setCell_other _ _ _ _ (by simp), World.cell?_setCell_other _ _ _ _ (by simp)]; assumption)) | (simp [go_sem, *]; done)) ((first
    | (go_at_call_of 123 s1; go_must (refine (unhide H1 _).mono ?_; rintro e wa ⟨rfl, hba⟩; have HCA := hide (((Below.refl V.heap.size V).drew).trans hba); clear hba t0 t1' t2' t3 t4 t5; obtain ⟨⟨t0, t1', t2', t3, t4, t5⟩, _⟩ := unhide HC wa (unhide HCA)))
    | (go_at_call_of 123 s2; go_must (refine (unhide H2 _).mono ?_; rintro e wb ⟨rfl, hbb⟩; have HCB := hide ((unhide HCA).trans (hbb.mono (unhide HCA).size)); clear hbb t0 t1' t2' t3 t4 t5; obtain ⟨⟨t0, t1', t2', t3, t4, t5⟩, _⟩ := unhide HC wb (unhide HCB)))
    | (go_at_call 123; go_must (refine (unhide H3 _).mono ?_; rintro e wc ⟨rfl, hbc⟩; have HCC := hide ((unhide HCB).trans (hbc.mono (unhide HCB).size)); clear hbc t0 t1' t2' t3 t4 t5; obtain ⟨⟨t0, t1', t2', t3, t4, t5⟩, _⟩ := unhide HC wc (unhide HCC)))))
  have HD : Hid (∀ w', Below wc.heap.size wc w' → Below V.heap.size V w') := fun U hb => (unhide HCC).trans (hb.mono (unhide HCC).size)
  clear t1' t2' t4 t5 HCA HCB H1 H2 H3
  go_upto_region 3 with fail
  clear t3 hbq
  go_region_held3 (fun w' => w'.cell? ⟨w.heap.size, 0, none⟩ = some (.bool b)) (first | assumption | (simp [go_sem, *]; done) | (rw [World.cell?_setCell_other _ _ _ _ (by simp), World.cell?_setCell_other _ _ _ _ (by simp), World.cell?_setCell_other _ _ _ _ (by simp)]; assumption)) ((first
    | (go_at_call 120; go_must (refine (unhide H4 _).mono ?_; rintro e wd ⟨rfl, hbd⟩; have HCD := hide (((Below.refl wc.heap.size wc).drew).trans hbd); clear hbd t0; obtain ⟨⟨t0, t1', t2', t3, t4, t5⟩, _⟩ := unhide HC wd (unhide HD wd (unhide HCD)); clear t1' t2' t3 t4 t5))
    | (go_at_call 75; go_must (refine (unhide H5 _).mono ?_; rintro e we ⟨rfl, hbe⟩; have HCE := hide (unhide HD we ((unhide HCD).trans (hbe.mono (unhide HCD).size))); clear hbe t0; obtain ⟨⟨t0, t1', t2', t3, t4, t5⟩, ⟨r0, r1, r2, rf0, rf1, rf2⟩⟩ := unhide HC we (unhide HCE); clear t1' t2' t3 t4 t5))))
  have HS1 := hide ((unhide HS).later (unhide HCE))
  clear r0 r1 r2 rf0 rf1 rf2
  have hS := (unhide HS1).r.store (.bool rb) (.string rn) (.string rd)
  have hb : Below w.heap.size w (store3 we (w.heap.size + 1 + 1) (.bool rb) (.string rn) (.string rd)) := below_store3 (unhide HS1).below (by omega) _ _ _
  obtain ⟨V9, hV9⟩ : ∃ V9, V9 = store3 we (w.heap.size + 1 + 1) (.bool rb) (.string rn) (.string rd) := ⟨_, rfl⟩
  have hV9' : V9 = ((we.setCell ⟨w.heap.size + 1 + 1, 0, none⟩ (.bool rb)).setCell ⟨w.heap.size + 1 + 1, 1, none⟩ (.string rn)).setCell ⟨w.heap.size + 1 + 1, 2, none⟩ (.string rd) := hV9
  have u0 := hS.c0; have u1 := hS.c1; have u2 := hS.c2
  rw [← hV9] at u0 u1 u2 hb
  rw [← hV9']
  have HB9 := hide hb
  clear hV9 hV9' hS hb t0
  go_wp2_with fail
  exact bodyPost_ret (v := .agg #[.bool rb, .string rn, .string rd]) (by simp [results, Tryz.results61, go_sem, u0, u1, u2]) rfl ⟨rfl, unhide HB9⟩

end Go.Proofs.YtifalmdoligblaaGreatDoor

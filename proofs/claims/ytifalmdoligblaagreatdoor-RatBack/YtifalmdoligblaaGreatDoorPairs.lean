/- The program and the document answer the same: Add, Sub, Mul, Quo, Neg, Inv. -/
import Derived.Test.YtifalmdoligblaaGreatDoorParts
import Derived.Test.YtifalmdoligblaaGreatDoorOne
import Derived.Test.YtifalmdoligblaaGreatDoorShelf
import Derived.Lib.ItoaLen
import Derived.Test.YtifalmdoligblaaGreatDoorRefNew
import Derived.Test.YtifalmdoligblaaGreatDoorFieldM
import Derived.Test.YtifalmdoligblaaGreatDoorGcdSmall
import Derived.Test.YtifalmdoligblaaGreatDoorRefScaled
import Derived.Test.YtifalmdoligblaaGreatDoorRefParse
import Derived.Test.YtifalmdoligblaaGreatDoorQuo
namespace Go.Proofs.YtifalmdoligblaaGreatDoor
open Go.RowKit

theorem arr_get (s : ByteArray) (j : Nat) (_h : j < s.size) (_h' : j < s.data.toList.length) : s[j] = s.data.toList[j] := rfl
theorem bytes_mk (l : List UInt8) : (⟨l.toArray⟩ : ByteArray).data.toList = l := rfl
theorem bytes_eq {s : ByteArray} {l : List UInt8} (h : s.data.toList = l) : s = ⟨l.toArray⟩ := by
  subst h
  cases s with | mk d => simp
theorem dE_at (s : ByteArray) (A T R : List UInt8) (hs : s.data.toList = A ++ T ++ R) (hT : Cub.digs T) (hR : ∀ c ∈ R.head?, ¬ (48 ≤ c.toNat ∧ c.toNat ≤ 57)) : dE s A.length = A.length + T.length := by
  have hl : s.size = A.length + T.length + R.length := by rw [← list_len, hs]; simp <;> omega
  refine DEnd.det (dE_end s _ _ rfl (by omega)) ⟨by omega, by omega, fun j hj h1 h2 => ?_, fun h => ?_⟩
  · have hg : s[j] = T[j - A.length]'(by omega) := by
      rw [arr_get s j hj (by rw [list_len]; exact hj)]
      simp only [hs]
      rw [List.getElem_append_left (by simp; omega), List.getElem_append_right h1]
    rw [hg]
    exact hT _ (List.getElem_mem _)
  · have hr : 0 < R.length := by omega
    have hg : s[A.length + T.length] = R[0] := by
      rw [arr_get s _ h (by rw [list_len]; exact h)]
      simp only [hs]
      rw [List.getElem_append_right (by simp)]
      congr 1
      simp
    rw [hg]
    refine hR _ ?_
    cases R with
    | nil => simp at hr
    | cons c r => simp
theorem nE_at (s : ByteArray) (A T R : List UInt8) (hs : s.data.toList = A ++ T ++ R) (hT : Cub.digs T) (hR : ∀ c ∈ R.head?, ¬ (48 ≤ c.toNat ∧ c.toNat ≤ 57)) : nE s A.length = A.length + T.length := by
  have hl : s.size = A.length + T.length + R.length := by rw [← list_len, hs]; simp <;> omega
  unfold nE
  rw [if_pos (by omega)]
  exact dE_at s A T R hs hT hR
theorem nT_at (s : ByteArray) (A T R : List UInt8) (hs : s.data.toList = A ++ T ++ R) (hT : Cub.digs T) (hR : ∀ c ∈ R.head?, ¬ (48 ≤ c.toNat ∧ c.toNat ≤ 57)) : nT s A.length = ⟨T.toArray⟩ := by
  have hl : s.size = A.length + T.length + R.length := by rw [← list_len, hs]; simp <;> omega
  have h := nE_at s A T R hs hT hR
  rw [nT_in s _ (by omega), h]
  apply bytes_eq
  rw [bytes_eq hs]
  rw [ByteArray.data_extract]
  simp
theorem has_at (s : ByteArray) (A R l : List UInt8) (c : UInt8) (hs : s.data.toList = A ++ c :: R) : has s A.length l = decide (0 ≤ Lib.indexByte l c) := by
  have hl : s.size = A.length + (R.length + 1) := by rw [← list_len, hs]; simp <;> omega
  unfold has
  rw [dif_pos (by omega)]
  have hg : s[A.length]'(by omega) = c := by
    rw [arr_get s _ (by omega) (by rw [list_len]; omega)]
    simp only [hs]
    rw [List.getElem_append_right (by omega)]
    simp
  rw [hg]
theorem no_digit (c : UInt8) : (48 ≤ c.toNat ∧ c.toNat ≤ 57) → decide (0 ≤ Lib.indexByte [45] c) = false := by
  intro h
  have hn : c ≠ 45 := fun e => by subst e; revert h; decide
  have hn' : ¬ (45 : UInt8) = c := fun e => hn e.symm
  simp [Lib.indexByte, hn']

/-- What cutParts answers where no exponent stands. -/
theorem parts_gen (s : ByteArray) (hs : s.size ≤ 65536) (b0 sl pt : Bool) (a e1 e5 e2 : Nat) (hb0 : b0 = has s 0 [45]) (ha : a = if b0 then 1 else 0) (hal : a ≤ s.size) (he1 : e1 = nE s a)
    (hsl : sl = has s e1 [47]) (hpt : pt = has s e1 [46]) (he5 : e5 = nE s (e1 + 1)) (he2 : e2 = if pt then e5 else e1) (hex : false = has s e2 [101, 69]) (R : Value) (w : World)
    (hR : R = if decide ((nT s a).size = 0) then failV e1 else if sl then (if decide ((nT s (e1 + 1)).size = 0) then failV e5 else if e5 < s.size then failV e5 else .tuple #[partsV b0 (nT s a) ⟨#[]⟩ ⟨#[]⟩ false (nT s (e1 + 1)) ((e1 : Int) + 1), .int .i64 (-1)]) else if pt && decide ((nT s (e1 + 1)).size = 0) then failV e5 else if e2 < s.size then failV e2 else .tuple #[partsV b0 (nT s a) (if pt then nT s (e1 + 1) else ⟨#[]⟩) ⟨#[]⟩ false ⟨#[]⟩ 0, .int .i64 (-1)]) :
    Calls Tryz.prog 80 #[.string s] w fun r w' => r = .returned R ∧ Below w.heap.size w w' := by
  have q1 := nE_in s a hal
  rw [← he1] at q1
  have q2 : e2 ≤ s.size := by
    rw [he2]; split
    · rw [he5]; exact nE_le s _
    · exact q1.2
  obtain ⟨b1, hb1⟩ : ∃ b1, b1 = e1 + 1 := ⟨_, rfl⟩
  rw [← hb1] at he5 hR
  obtain ⟨b2, hb2⟩ : ∃ b2, b2 = e2 + 1 := ⟨_, rfl⟩
  obtain ⟨dn, hdn⟩ : ∃ dn, dn = has s b2 [45] := ⟨_, rfl⟩
  obtain ⟨sg, hsg⟩ : ∃ sg, sg = has s b2 [43, 45] := ⟨_, rfl⟩
  obtain ⟨a3, ha3⟩ : ∃ a3, a3 = if sg then b2 + 1 else b2 := ⟨_, rfl⟩
  obtain ⟨e6, he6⟩ : ∃ e6, e6 = nE s a3 := ⟨_, rfl⟩
  exact cutParts_walk s (nT s a) (nT s b1) (if pt then nT s b1 else ⟨#[]⟩) (nT s a3) ⟨#[]⟩ (hB s) (cT s) (cE s) R w hs (h133_all s) (h134_all s hs) b0 (decide ((nT s a).size = 0)) sl (decide ((nT s b1).size = 0)) pt false dn sg (decide ((nT s a3).size = 0)) a e1 e5 e2 a3 e6 e2
    hb0.symm ha hal (cT_nT s a) (by rw [cE_nE, he1]) (empty_iff _) q1.2 (by rw [hsl]; rfl) (by rw [hpt]; rfl)
    (fun h => by have hlt : e1 < s.size := h.elim (fun h => has_lt (hsl.symm.trans h)) (fun h => has_lt (hpt.symm.trans h)); omega)
    (by have := cT_nT s b1; rw [hb1] at this ⊢; simpa using this) (by have := cE_nE s b1; rw [← he5, hb1] at this; simpa using this) (empty_iff _) (by rw [he5]; exact nE_le s b1) he2 rfl
    (by rw [hex]; rfl) (fun h => by cases h) (by rw [hdn, hb2]; rfl) (by rw [hsg, hb2]; rfl) (fun h => by have := has_lt (hsg.symm.trans h); omega) (by rw [ha3, hb2]) (cT_nT s a3) (by rw [cE_nE, he6]) (empty_iff _) rfl rfl hR

/-- A sign. -/
def sgL (b : Bool) : List UInt8 := if b then [45] else []
theorem sgL_len (b : Bool) : (sgL b).length = if b then 1 else 0 := by cases b <;> rfl
theorem has_sg (s : ByteArray) (b : Bool) (T R : List UInt8) (hs : s.data.toList = sgL b ++ T ++ R) (hT : Cub.digs T) (h0 : 0 < T.length) : b = has s 0 [45] := by
  cases b with
  | true => exact ((has_at s [] (T ++ R) [45] 45 (by rw [hs]; rfl)).trans (by decide)).symm
  | false =>
    cases T with
    | nil => simp at h0
    | cons c t => exact ((has_at s [] (t ++ R) [45] c (by rw [hs]; rfl)).trans (no_digit c (hT c (by simp)))).symm
theorem len_ne {T : List UInt8} (h0 : 0 < T.length) : decide ((⟨T.toArray⟩ : ByteArray).size = 0) = false := decide_eq_false (by show ¬ T.toArray.size = 0; simp; intro e; subst e; simp at h0)
theorem head_nil : ∀ c ∈ ([] : List UInt8).head?, ¬ (48 ≤ c.toNat ∧ c.toNat ≤ 57) := fun c h => by cases h
theorem head_47 (U : List UInt8) : ∀ c ∈ ((47 : UInt8) :: U).head?, ¬ (48 ≤ c.toNat ∧ c.toNat ≤ 57) := fun c h => by
  simp at h; subst h; decide
theorem head_46 (U : List UInt8) : ∀ c ∈ ((46 : UInt8) :: U).head?, ¬ (48 ≤ c.toNat ∧ c.toNat ≤ 57) := fun c h => by
  simp at h; subst h; decide
theorem cut_whole (s : ByteArray) (b : Bool) (T : List UInt8) (hs : s.data.toList = sgL b ++ T) (hz : s.size ≤ 65536) (hT : Cub.digs T) (h0 : 0 < T.length) (w : World) :
    Calls Tryz.prog 80 #[.string s] w fun r w' => r = .returned (.tuple #[partsV b ⟨T.toArray⟩ ⟨#[]⟩ ⟨#[]⟩ false ⟨#[]⟩ 0, .int .i64 (-1)]) ∧ Below w.heap.size w w' := by
  have hs' : s.data.toList = sgL b ++ T ++ [] := by rw [hs]; simp
  have hl : s.size = (sgL b).length + T.length := by rw [← list_len, hs]; simp <;> omega
  have e1 := nE_at s _ T [] hs' hT head_nil
  have ho : ∀ l, has s ((sgL b).length + T.length) l = false := fun l => has_out s _ l (by omega)
  refine parts_gen s hz b false false (sgL b).length ((sgL b).length + T.length) (nE s ((sgL b).length + T.length + 1)) ((sgL b).length + T.length) (has_sg s b T [] hs' hT h0) (sgL_len b) (by omega) e1.symm (ho _).symm (ho _).symm rfl rfl (ho _).symm _ w ?_
  rw [nT_at s _ T [] hs' hT head_nil, len_ne h0, if_neg (by decide), if_neg (by decide), if_neg (by simp), if_neg (by omega), if_neg (by decide)]
theorem cut_frac (s : ByteArray) (b : Bool) (T U : List UInt8) (hs : s.data.toList = sgL b ++ T ++ 47 :: U) (hz : s.size ≤ 65536) (hT : Cub.digs T) (h0 : 0 < T.length) (hU : Cub.digs U) (h1 : 0 < U.length) (w : World) :
    Calls Tryz.prog 80 #[.string s] w fun r w' => r = .returned (.tuple #[partsV b ⟨T.toArray⟩ ⟨#[]⟩ ⟨#[]⟩ false ⟨U.toArray⟩ (((sgL b).length + T.length + 1 : Nat) : Int), .int .i64 (-1)]) ∧ Below w.heap.size w w' := by
  have hl : s.size = (sgL b).length + T.length + (U.length + 1) := by rw [← list_len, hs]; simp <;> omega
  have e1 := nE_at s _ T _ hs hT (head_47 U)
  have hs2 : s.data.toList = (sgL b ++ T ++ [47]) ++ U ++ [] := by rw [hs]; simp
  have e5 := nE_at s _ U [] hs2 hU head_nil
  have t5 := nT_at s _ U [] hs2 hU head_nil
  have hlen : (sgL b ++ T ++ [47]).length = (sgL b).length + T.length + 1 := by simp <;> omega
  rw [hlen] at e5 t5
  have hA : ∀ l, has s ((sgL b).length + T.length) l = decide (0 ≤ Lib.indexByte l 47) := fun l => by
    have := has_at s (sgL b ++ T) U l 47 hs
    rwa [List.length_append] at this
  refine parts_gen s hz b true false (sgL b).length ((sgL b).length + T.length) ((sgL b).length + T.length + 1 + U.length) ((sgL b).length + T.length) (has_sg s b T _ hs hT h0) (sgL_len b) (by omega) e1.symm ((hA _).trans (by decide)).symm ((hA _).trans (by decide)).symm e5.symm rfl ((hA _).trans (by decide)).symm _ w ?_
  rw [nT_at s _ T _ hs hT (head_47 U), len_ne h0, if_neg (by decide), if_pos rfl, t5, len_ne h1, if_neg (by decide), if_neg (by omega)]
  rfl
theorem cut_point (s : ByteArray) (b : Bool) (T U : List UInt8) (hs : s.data.toList = sgL b ++ T ++ 46 :: U) (hz : s.size ≤ 65536) (hT : Cub.digs T) (h0 : 0 < T.length) (hU : Cub.digs U) (h1 : 0 < U.length) (w : World) :
    Calls Tryz.prog 80 #[.string s] w fun r w' => r = .returned (.tuple #[partsV b ⟨T.toArray⟩ ⟨U.toArray⟩ ⟨#[]⟩ false ⟨#[]⟩ 0, .int .i64 (-1)]) ∧ Below w.heap.size w w' := by
  have hl : s.size = (sgL b).length + T.length + (U.length + 1) := by rw [← list_len, hs]; simp <;> omega
  have e1 := nE_at s _ T _ hs hT (head_46 U)
  have hs2 : s.data.toList = (sgL b ++ T ++ [46]) ++ U ++ [] := by rw [hs]; simp
  have e5 := nE_at s _ U [] hs2 hU head_nil
  have t5 := nT_at s _ U [] hs2 hU head_nil
  have hlen : (sgL b ++ T ++ [46]).length = (sgL b).length + T.length + 1 := by simp <;> omega
  rw [hlen] at e5 t5
  have hA : ∀ l, has s ((sgL b).length + T.length) l = decide (0 ≤ Lib.indexByte l 46) := fun l => by
    have := has_at s (sgL b ++ T) U l 46 hs
    rwa [List.length_append] at this
  refine parts_gen s hz b false true (sgL b).length ((sgL b).length + T.length) ((sgL b).length + T.length + 1 + U.length) ((sgL b).length + T.length + 1 + U.length) (has_sg s b T _ hs hT h0) (sgL_len b) (by omega) e1.symm ((hA _).trans (by decide)).symm ((hA _).trans (by decide)).symm e5.symm rfl (has_out s _ _ (by omega)).symm _ w ?_
  rw [nT_at s _ T _ hs hT (head_46 U), len_ne h0, if_neg (by decide), if_neg (by decide), t5, len_ne h1, if_neg (by decide), if_neg (by omega), if_pos rfl]
end Go.Proofs.YtifalmdoligblaaGreatDoor

namespace Go.Proofs.YtifalmdoligblaaGreatDoor
open Go.RowKit

theorem one_byte (wr : World) (c : Nat) (hc : c < 10) : (convert 130 9 (.slice (some ⟨wr.heap.size, 0, none⟩) 1 1)).run Tryz.prog (wr.alloc (.cells #[.int .u8 (48 + (c : Int))] 5)) = .ok (.string ⟨#[UInt8.ofNat (48 + c)]⟩) (wr.alloc (.cells #[.int .u8 (48 + (c : Int))] 5)) := by
  have h := run_convert_bytes_back (P := Tryz.prog) (wr.alloc (.cells #[.int .u8 (48 + (c : Int))] 5)) 130 9 5 ⟨wr.heap.size, 0, none⟩ 1 [UInt8.ofNat (48 + c)] Tryz.underlying130 Tryz.underlying5 Tryz.underlying9 (fun j hj => by
    have : j = 0 := by simpa using hj
    subst this
    rw [Lib.add_plain]
    simp only [List.getElem_cons_zero, Cub.toNat_dig c hc]
    simp [go_sem])
  exact h

theorem append_one (b : UInt8) (T : List UInt8) : (⟨([b] ++ T).toArray⟩ : ByteArray) = ⟨#[b]⟩ ++ ⟨T.toArray⟩ := by
  apply ByteArray.ext
  simp

set_option maxRecDepth 100000 in
set_option maxHeartbeats 400000 in
theorem refOf_any (u : Nat) (hu : u < 18446744073709551616) (w : World) :
    Calls Tryz.prog 125 #[.int .u64 u] w fun e w' => e = .returned (.string ⟨(Lib.decDigits u).toArray⟩) ∧ Below w.heap.size w w' := by
  go_enter Tryz.func125, Tryz.ntmps125
  go_wp2
  go_loopw [0, 3] (fun n s wr => ∃ (q : Nat) (T : List UInt8), n = .int .u64 (q : Int) ∧ s = .string ⟨T.toArray⟩ ∧ q < 18446744073709551616 ∧ T.length ≤ 30 ∧ Hid (Lib.decDigits u = Lib.decDigits q ++ T) ∧ Below w.heap.size w wr) (fun n _ _ => (intOf n).toNat)
  case atStart => exact ⟨u, [], rfl, rfl, hu, by simp, (List.append_nil _).symm, Below.refl _ _⟩
  case round =>
    obtain ⟨q, T, rfl, rfl, hq, hT, HT, hb⟩ := hrel
    by_cases h9 : 9 < q
    · have hcv := one_byte wr (q % 10) (Nat.mod_lt _ (by decide))
      rw [show (((q % 10 : Nat)) : Int) = (q : Int) % 10 from by omega] at hcv
      have HB : Hid (Lib.decDigits u = Lib.decDigits (q / 10) ++ ([UInt8.ofNat (48 + q % 10)] ++ T)) := by
        rw [unhide HT, ← List.append_assoc]
        rw [show Lib.decDigits q = Lib.decDigits (q / 10) ++ [UInt8.ofNat (48 + q % 10)] from by rw [Lib.decDigits, dif_neg (by omega)]]
        exact rfl
      have hT' : T.length + 1 ≤ 30 := by
        have h1 := congrArg List.length (unhide HB)
        simp only [List.length_append, List.length_cons, List.length_nil, Lib.decDigits_length] at h1
        have h2 := Lib.nDigits_le20 u hu
        omega
      generalize UInt8.ofNat (48 + q % 10) = b at *
      go_wp2
      go_roundw
      case rel => exact ⟨q / 10, [b] ++ T, by go_num, by rw [append_one], by omega, by simpa using hT', HB, hb.alloc hb.size _⟩
      case measure => simp [intOf]; omega
    · have hcv := one_byte wr q (by omega)
      have HB : Hid (Lib.decDigits u = [UInt8.ofNat (48 + q)] ++ T) := by
        rw [unhide HT, Lib.decDigits_one (by omega)]; exact rfl
      generalize UInt8.ofNat (48 + q) = b at *
      go_wp2
      go_ret
      exact ⟨by rw [unhide HB, append_one]; rfl, hb.alloc hb.size _⟩

end Go.Proofs.YtifalmdoligblaaGreatDoor

namespace Go.Proofs.YtifalmdoligblaaGreatDoor
open Go.RowKit

theorem pow_grow (e : Nat) (he : 20 ≤ e) : 18446744073709551616 ≤ 10 ^ e := Nat.le_trans (by decide : 18446744073709551616 ≤ 10 ^ 20) (Nat.pow_le_pow_right (by decide) he)
theorem u64_600 (N : Nat) (h : N < 18446744073709551616) : N < 10 ^ 600 := Nat.lt_of_lt_of_le h (pow_grow 600 (by decide))
set_option maxRecDepth 100000 in
set_option maxHeartbeats 2000000 in
theorem refWhole_pos (N : Nat) (w : World) (h2 : N < 9223372036854775808) :
    Calls Tryz.prog 67 #[.int .i64 (N : Int)] w fun r w' => r = .returned (.agg #[.bool false, .string (tb N), .string ⟨#[49]⟩]) ∧ Below w.heap.size w w' := by
  obtain ⟨V, hV⟩ : ∃ V, V = w.alloc (.cells #[.bool false, .string ⟨#[]⟩, .string ⟨#[]⟩] 61) := ⟨_, rfl⟩
  have hbV : Below w.heap.size w V := by rw [hV]; exact (Below.refl _ _).alloc (Nat.le_refl _) _
  have HR : Hid (FBox V w.heap.size (.bool false) (.string ⟨#[]⟩) (.string ⟨#[]⟩) ∧ Below w.heap.size w V) := ⟨by rw [hV]; exact ⟨by simp [go_sem], by simp [go_sem], by simp [go_sem], by simp [go_sem], by simp [go_sem], by simp [go_sem]⟩, hbV⟩
  have HV := hide hV
  have hN : N < 10 ^ 600 := u64_600 N (by omega)
  have HOF : Hid (∀ u : Int, u = (N : Int) → Calls Tryz.prog 125 #[.int .u64 u] V fun e w' => e = .returned (.string (tb N)) ∧ Below V.heap.size V w') := fun u hu => by
    subst hu
    have := refOf_any N (by omega) V
    rwa [show (⟨(Lib.decDigits N).toArray⟩ : ByteArray) = tb N from bytes_ext (by rw [tb_list N hN])] at this
  have k0 : ¬ (N : Int) < 0 := by omega
  skip
  clear hN hbV
  generalize tb N = tn at *
  go_enter Tryz.func67, Tryz.ntmps67
  go_upto_region 3 with fail
  rw [← unhide HV]
  clear hV HV
  go_wp2_with (go_at_call 125; go_must (refine (unhide HOF _ (by omega)).mono ?_; rintro e W9 ⟨rfl, hb1⟩; have HR1 : Hid (FBox W9 w.heap.size (.bool false) (.string ⟨#[]⟩) (.string ⟨#[]⟩) ∧ Below w.heap.size w W9) := ⟨(unhide HR).1.later hb1, (unhide HR).2.trans (hb1.mono (unhide HR).2.size)⟩; clear hb1; have r0 := (unhide HR1).1.c0; have r1 := (unhide HR1).1.c1; have r2 := (unhide HR1).1.c2; have rf0 := (unhide HR1).1.f0; have rf1 := (unhide HR1).1.f1; have rf2 := (unhide HR1).1.f2))
  have hS := (unhide HR1).1.store (.bool false) (.string tn) (.string ⟨#[49]⟩)
  have hb : Below w.heap.size w (store3 W9 w.heap.size (.bool false) (.string tn) (.string ⟨#[49]⟩)) := below_store3 (unhide HR1).2 (Nat.le_refl _) _ _ _
  have u0 := hS.c0; have u1 := hS.c1; have u2 := hS.c2
  exact bodyPost_ret (v := .agg #[.bool false, .string tn, .string ⟨#[49]⟩]) (w := store3 W9 w.heap.size (.bool false) (.string tn) (.string ⟨#[49]⟩)) (by simp [results, Tryz.results67, go_sem, u0, u1, u2]) rfl ⟨rfl, hb⟩

end Go.Proofs.YtifalmdoligblaaGreatDoor

namespace Go.Proofs.YtifalmdoligblaaGreatDoor
open Go.RowKit

theorem neg_form (num : ByteArray) : (isNeg num = true ∧ 0 < num.size ∧ num.toList.isEmpty = false ∧ (∀ h : 0 < num.size, (num[0].toNat : Int) = 45) ∧ num.extract 1 num.size = digT num) ∨ (isNeg num = false ∧ digT num = num ∧ (num.toList.isEmpty = true ∨ (0 < num.size ∧ num.toList.isEmpty = false ∧ ∀ h : 0 < num.size, ((num[0].toNat : Int) == 45) = false))) := by
  rcases Nat.eq_zero_or_pos num.size with hz | hp
  · right
    have hl : num.data.toList = [] := by rw [← List.length_eq_zero_iff, list_len]; exact hz
    have hn : isNeg num = false := by unfold isNeg; rw [hl]; rfl
    exact ⟨hn, by unfold digT; rw [if_neg (by rw [hn]; decide)], Or.inl (empty_of num hz)⟩
  · have hh := list_head num hp
    by_cases hn : isNeg num = true
    · left
      have h45 : num[0] = 45 := by unfold isNeg at hn; rw [hh] at hn; simpa using hn
      refine ⟨hn, hp, not_empty_of num hp, fun _ => (byte_45 _).2 h45, ?_⟩
      apply bytes_ext
      rw [ext1, digT_list, if_pos hn]
    · right
      have hn' : isNeg num = false := by simpa using hn
      refine ⟨hn', by unfold digT; rw [if_neg hn], Or.inr ⟨hp, not_empty_of num hp, fun _ => ?_⟩⟩
      rw [beq_eq_false_iff_ne]
      intro e
      apply hn
      unfold isNeg
      rw [hh, (byte_45 _).1 e]; rfl
/-- Both News answer the same. -/
theorem news (num den : ByteArray) (s1 : num.size ≤ maxLen) (s2 : den.size ≤ maxLen) : ∃ (rn rd : ByteArray) (er : Int),
    (∀ w, Tab w → Ans 15 #[.string num, .string den] w rn rd er) ∧ (∀ w, Ans 16 #[.string num, .string den] w rn rd er) := by
  have c1 := fun W => cutSign_any num W
  have p1 := fun W => right_any (digT num) W (Nat.le_trans (digT_size num) s1)
  have p2 := fun W => right_any den W s2
  have q1 := fun W => refRight_any (digT num) W (Nat.le_trans (digT_size num) s1)
  have q2 := fun W => refRight_any den W s2
  have hf := neg_form num
  by_cases h12 : Cub.rightB (digT num).data.toList = true ∧ Cub.rightB den.data.toList = true
  · obtain ⟨k1, k2⟩ := h12
    rw [k1] at p1 q1
    rw [k2] at p2 q2
    cases h3 : (den.toList == [48]) with
    | true =>
      refine ⟨⟨#[]⟩, ⟨#[]⟩, 8, fun w _ => ?_, fun w => ?_⟩
      · exact new_err num den (digT num) (isNeg num) true true true 8 w c1 p1 p2 h3 (Or.inr ⟨rfl, rfl, rfl, rfl⟩)
      · exact refNew_walk num den (digT num) ⟨#[]⟩ ⟨#[]⟩ (isNeg num) true true true 8 w s1 hf q1 q2 h3 (fun _ _ h => by cases h) (Or.inr (Or.inl ⟨rfl, rfl, rfl, rfl, rfl, rfl⟩))
    | false =>
      obtain ⟨m, hm, e1⟩ := tb_of k1
      obtain ⟨n, hn, e2⟩ := tb_of k2
      have hn0 : n ≠ 0 := by rw [e2, tb_eq48 n hn] at h3; simpa using h3
      obtain ⟨_, r1, r2, r3⟩ := ratio_q (b := isNeg num) (show 0 < n by omega) hm hn
      refine ⟨_, _, _, fun w ht => new_ok num den (isNeg num) m n w (sT_of num m e1) e2 hm hn hn0 ht, fun w => ?_⟩
      rw [r3]
      refine refNew_walk num den (digT num) _ _ (isNeg num) true true false 0 w s1 hf q1 q2 h3 (fun _ _ _ => ⟨_, fun W => by rw [e1, e2]; exact refLowest (isNeg num) m n W hm hn hn0, fun W => ?_⟩) (Or.inr (Or.inr ⟨rfl, rfl, rfl, rfl⟩))
      have l1 : m / Nat.gcd m n < 10 ^ 600 := Nat.lt_of_le_of_lt (Nat.div_le_self _ _) hm
      have l2 : n / Nat.gcd m n < 10 ^ 600 := Nat.lt_of_le_of_lt (Nat.div_le_self _ _) hn
      have := refTold (isNeg num && decide (m / Nat.gcd m n ≠ 0)) (tb (m / Nat.gcd m n)) (tb (n / Nat.gcd m n)) W (tb_digs _ l1).2 (tb_digs _ l2).2
      rw [r1, r2]
      exact this
  · have hh : (!(Cub.rightB (digT num).data.toList) || !(Cub.rightB den.data.toList)) = true := by
      cases h1 : Cub.rightB (digT num).data.toList <;> cases h2 : Cub.rightB den.data.toList <;> simp_all
    refine ⟨⟨#[]⟩, ⟨#[]⟩, 3, fun w _ => ?_, fun w => ?_⟩
    · exact new_err num den (digT num) (isNeg num) _ _ _ 3 w c1 p1 p2 rfl (Or.inl ⟨hh, rfl⟩)
    · exact refNew_walk num den (digT num) ⟨#[]⟩ ⟨#[]⟩ (isNeg num) _ _ _ 3 w s1 hf q1 q2 rfl (fun a b _ => absurd ⟨a, b⟩ h12) (Or.inl ⟨hh, rfl, rfl, rfl⟩)

end Go.Proofs.YtifalmdoligblaaGreatDoor

namespace Go.Proofs.YtifalmdoligblaaGreatDoor
open Go.RowKit

set_option maxRecDepth 100000 in
set_option maxHeartbeats 2000000 in
theorem refRead_walk (num den ds : ByteArray) (b : Bool) (w : World) (hm : num.size ≤ 9223372036854775807) (hd : den.toList.isEmpty = false)
    (hneg : (b = true ∧ 0 < num.size ∧ num.toList.isEmpty = false ∧ (∀ h : 0 < num.size, (num[0].toNat : Int) = 45) ∧ num.extract 1 num.size = ds) ∨ (b = false ∧ ds = num ∧ (0 < num.size ∧ num.toList.isEmpty = false ∧ ∀ h : 0 < num.size, ((num[0].toNat : Int) == 45) = false))) :
    Calls Tryz.prog 62 #[.agg #[.string num, .string den]] w fun r w' => r = .returned (.agg #[.bool b, .string ds, .string den]) ∧ Below w.heap.size w w' := by
  obtain ⟨V, hV⟩ : ∃ V, V = (w.alloc (.cells #[.string num, .string den] 23)).alloc (.cells #[.bool false, .string ⟨#[]⟩, .string ⟨#[]⟩] 61) := ⟨_, rfl⟩
  have HB : Hid (Below w.heap.size w V) := by rw [hV]; exact ((Below.refl _ _).alloc (Nat.le_refl _) _).alloc (by simp) _
  have HR : Hid (FBox V (w.heap.size + 1) (.bool false) (.string ⟨#[]⟩) (.string ⟨#[]⟩)) := by rw [hV]; exact ⟨by simp [go_sem], by simp [go_sem], by simp [go_sem], by simp [go_sem], by simp [go_sem], by simp [go_sem]⟩
  have HC : Hid (V.cell? ⟨w.heap.size, 0, none⟩ = some (.string num) ∧ V.cell? ⟨w.heap.size, 1, none⟩ = some (.string den)) := by rw [hV]; exact ⟨by simp [go_sem], by simp [go_sem]⟩
  have HV := hide hV
  have hS := (unhide HR).store (.bool b) (.string ds) (.string den)
  have HB9 : Hid (Below w.heap.size w (store3 V (w.heap.size + 1) (.bool b) (.string ds) (.string den))) := below_store3 (unhide HB) (by omega) _ _ _
  have u0 := hS.c0; have u1 := hS.c1; have u2 := hS.c2
  obtain ⟨t0, t1⟩ := unhide HC
  have r0 := (unhide HR).c0; have r1 := (unhide HR).c1; have r2 := (unhide HR).c2; have rf0 := (unhide HR).f0; have rf1 := (unhide HR).f1; have rf2 := (unhide HR).f2
  rcases hneg with ⟨rfl, hp, he, h45, hds⟩ | ⟨rfl, rfl, hp, he, h45⟩
  · have h45' := h45 hp
    have hs' : (0 : Int) < (num.size : Int) := by omega
    have hs1 : (1 : Int) ≤ (num.size : Int) := by omega
    have HDS := hide hds
    clear hds h45 hS
    go_enter Tryz.func62, Tryz.ntmps62
    go_upto_region 1 with fail
    rw [← unhide HV]
    clear hV HV
    go_upto_region 4 with fail
    go_region
    rw [unhide HDS]
    obtain ⟨U, hU⟩ : ∃ U, U = (((V.setCell ⟨w.heap.size + 1, 0, none⟩ (.bool true)).setCell ⟨w.heap.size + 1, 1, none⟩ (.string ds)).setCell ⟨w.heap.size + 1, 2, none⟩ (.string den)).drew := ⟨_, rfl⟩
    have HBU : Hid (Below w.heap.size w U) := by rw [hU]; exact (unhide HB9).trans (((Below.refl _ _).drew).mono (unhide HB9).size)
    have q0 : U.cell? ⟨w.heap.size + 1, 0, none⟩ = some (.bool true) := by rw [hU]; exact u0
    have q1 : U.cell? ⟨w.heap.size + 1, 1, none⟩ = some (.string ds) := by rw [hU]; exact u1
    have q2 : U.cell? ⟨w.heap.size + 1, 2, none⟩ = some (.string den) := by rw [hU]; exact u2
    rw [← hU]
    clear hU u0 u1 u2 r0 r1 r2 rf0 rf1 rf2 t0 t1 HB9
    go_wp2_with fail
    exact bodyPost_ret (v := .agg #[.bool true, .string ds, .string den]) (by simp [results, Tryz.results62, go_sem, q0, q1, q2]) rfl ⟨rfl, unhide HBU⟩
  · have h45' := h45 hp
    have hs' : (0 : Int) < (ds.size : Int) := by omega
    clear h45 hS
    go_enter Tryz.func62, Tryz.ntmps62
    go_upto_region 1 with fail
    rw [← unhide HV]
    clear hV HV
    go_wp2_with fail
    exact bodyPost_ret (v := .agg #[.bool false, .string ds, .string den]) (w := store3 V (w.heap.size + 1) (.bool false) (.string ds) (.string den)) (by simp [results, Tryz.results62, go_sem, u0, u1, u2]) rfl ⟨rfl, unhide HB9⟩

theorem refRead (num den : ByteArray) (x : Rat) (w : World) (h : IsR num den x) :
    Calls Tryz.prog 62 #[.agg #[.string num, .string den]] w fun r w' => r = .returned (fx x) ∧ Below w.heap.size w w' := by
  have hr := h.rt
  obtain ⟨hsm, en, ed⟩ := h
  have e1 : num = sT (decide (x < 0)) x.num.natAbs := by rw [en]; unfold numT; rw [if_pos hsm]
  have e2 : den = tb x.den := by rw [ed]; unfold denT; rw [if_pos hsm]
  have hz := sT_size (decide (x < 0)) x.num.natAbs hsm.1
  have g1 : isNeg num = decide (x < 0) := by rw [e1]; exact neg_sT _ _ hsm.1
  have g2 : digT num = tx x.num.natAbs := by rw [e1, dig_sT _ _ hsm.1, tx_tb _ hsm.1]
  have hde : den.toList.isEmpty = false := by rw [e2]; exact tb_full _ hsm.2
  have hnp : 0 < num.size := by
    have q := tb_full x.num.natAbs hsm.1
    rcases Nat.eq_zero_or_pos num.size with hz0 | hp
    · exfalso
      have hl : num.data.toList = [] := by rw [← List.length_eq_zero_iff, list_len]; exact hz0
      rw [e1, sT_list] at hl
      rw [Lib.toList_data] at q
      split at hl
      · cases hl
      · rw [hl] at q; cases q
    · exact hp
  have hf := neg_form num
  rw [g1, g2] at hf
  unfold fx
  rw [← tx_tb _ hsm.2, ← e2]
  refine refRead_walk num den _ _ w (by rw [e1]; omega) hde ?_
  rcases hf with hf | ⟨a, b, c⟩
  · exact Or.inl hf
  · rcases c with c | c
    · rw [not_empty_of num hnp] at c; cases c
    · exact Or.inr ⟨a, b, c⟩

end Go.Proofs.YtifalmdoligblaaGreatDoor

namespace Go.Proofs.YtifalmdoligblaaGreatDoor
open Go.RowKit

set_option maxRecDepth 100000 in
set_option maxHeartbeats 2000000 in
theorem refFMinus_walk (b z : Bool) (s t : ByteArray) (w : World) (hz : (s.toList == [48]) = z) :
    Calls Tryz.prog 63 #[.agg #[.bool b, .string s, .string t]] w fun r w' => r = .returned (.agg #[.bool (!b && !z), .string s, .string t]) ∧ Below w.heap.size w w' := by
  obtain ⟨V, hV⟩ : ∃ V, V = (w.alloc (.cells #[.bool b, .string s, .string t] 61)).alloc (.cells #[.bool false, .string ⟨#[]⟩, .string ⟨#[]⟩] 61) := ⟨_, rfl⟩
  have HB : Hid (Below w.heap.size w V) := by rw [hV]; exact ((Below.refl _ _).alloc (Nat.le_refl _) _).alloc (by simp) _
  have HR : Hid (FBox V (w.heap.size + 1) (.bool false) (.string ⟨#[]⟩) (.string ⟨#[]⟩)) := by rw [hV]; exact ⟨by simp [go_sem], by simp [go_sem], by simp [go_sem], by simp [go_sem], by simp [go_sem], by simp [go_sem]⟩
  have HF : Hid (FBox V w.heap.size (.bool b) (.string s) (.string t)) := by rw [hV]; exact ⟨by simp [go_sem], by simp [go_sem], by simp [go_sem], by simp [go_sem], by simp [go_sem], by simp [go_sem]⟩
  have HV := hide hV
  obtain ⟨U, hU⟩ : ∃ U, U = V.setCell ⟨w.heap.size, 0, none⟩ (.bool (!b && !z)) := ⟨_, rfl⟩
  have HU := hide hU
  have HBU : Hid (Below w.heap.size w U) := by rw [hU]; exact (unhide HB).setCell (Nat.le_refl _) _
  have HRU : Hid (FBox U (w.heap.size + 1) (.bool false) (.string ⟨#[]⟩) (.string ⟨#[]⟩)) := by rw [hU]; exact (unhide HR).otherAt (by omega) _
  have v0 : U.cell? ⟨w.heap.size, 0, none⟩ = some (.bool (!b && !z)) := by rw [hU]; exact World.cell?_setCell_same _ _ _ (unhide HF).c0
  have v1 : U.cell? ⟨w.heap.size, 1, none⟩ = some (.string s) := by rw [hU, World.cell?_setCell_other _ _ _ _ (by simp)]; exact (unhide HF).c1
  have v2 : U.cell? ⟨w.heap.size, 2, none⟩ = some (.string t) := by rw [hU, World.cell?_setCell_other _ _ _ _ (by simp)]; exact (unhide HF).c2
  have hS := (unhide HRU).store (.bool (!b && !z)) (.string s) (.string t)
  have HB9 : Hid (Below w.heap.size w (store3 U (w.heap.size + 1) (.bool (!b && !z)) (.string s) (.string t))) := below_store3 (unhide HBU) (by omega) _ _ _
  have u0 := hS.c0; have u1 := hS.c1; have u2 := hS.c2
  have t0 := (unhide HF).c0; have t1 := (unhide HF).c1; have f0 := (unhide HF).f0
  clear hS hU
  obtain ⟨q, hq⟩ : ∃ q, q = (!b && !z) := ⟨_, rfl⟩
  rw [← hq] at v0 u0 u1 u2 HB9 HU ⊢
  have HQ := hide hq
  clear hq
  go_enter Tryz.func63, Tryz.ntmps63
  go_upto_region 1 with fail
  rw [← unhide HV]
  clear hV HV
  cases b <;> cases z <;> (
    go_upto_region 2 with fail
    have hu := unhide HU
    have hq := unhide HQ
    simp at hq
    rw [hq] at hu
    rw [← hu]
    clear hu HU t0 t1 f0 hq HQ
    have r0 := (unhide HRU).c0; have r1 := (unhide HRU).c1; have r2 := (unhide HRU).c2; have rf0 := (unhide HRU).f0; have rf1 := (unhide HRU).f1; have rf2 := (unhide HRU).f2
    go_wp2_with fail
    exact bodyPost_ret (v := .agg #[.bool q, .string s, .string t]) (w := store3 U (w.heap.size + 1) (.bool q) (.string s) (.string t)) (by simp [results, Tryz.results63, go_sem, u0, u1, u2]) rfl ⟨rfl, unhide HB9⟩)
theorem refFMinus (x : Rat) (w : World) : Calls Tryz.prog 63 #[fx x] w fun r w' => r = .returned (fx (-x)) ∧ Below w.heap.size w w' := by
  have lx := Cub.low_of x
  obtain ⟨h1, h2⟩ := Cub.neg_low lx.1
  rw [lx.2] at h2
  rw [← h2, ← fx_of h1]
  have h := refFMinus_walk (decide (x < 0)) (decide (x.num.natAbs = 0)) (tx x.num.natAbs) (tx x.den) w (by
    by_cases h0 : x.num.natAbs = 0
    · rw [h0, tx_zero]; rfl
    · rw [tx_pos _ (by omega), decide_eq_false h0])
  rw [show (decide (x.num.natAbs ≠ 0)) = !decide (x.num.natAbs = 0) from by simp]
  exact h

end Go.Proofs.YtifalmdoligblaaGreatDoor

namespace Go.Proofs.YtifalmdoligblaaGreatDoor
open Go.RowKit

theorem bd_val (b : Bool) {n d k : Nat} (hd : 0 < d) (hn : n < 10 ^ k) (hdk : d < 10 ^ k) : Bd k (Cub.valQ b n d) := by
  obtain ⟨h1, h2⟩ := Cub.ratio_low (b := b) (n := n) hd
  obtain ⟨_, e2, e3⟩ := Cub.low_is h1
  rw [h2] at e2 e3
  exact ⟨by rw [← e2]; exact Nat.lt_of_le_of_lt (Nat.div_le_self _ _) hn, by rw [← e3]; exact Nat.lt_of_le_of_lt (Nat.div_le_self _ _) hdk⟩
theorem bd_mul {d : Nat} {x y : Rat} (hx : Bd d x) (hy : Bd d y) : Bd (d + d) (x * y) := by
  have px := x.den_pos
  have py := y.den_pos
  have e := valQ_mul (b := decide (x < 0)) (c := decide (y < 0)) (n := x.num.natAbs) (m := y.num.natAbs) px py
  rw [(Cub.low_of x).2, (Cub.low_of y).2] at e
  rw [← e]
  exact bd_val _ (Nat.mul_pos px py) (pow_two d _ _ hx.1 hy.1) (pow_two d _ _ hx.2 hy.2)
theorem bd_add {d : Nat} {x y : Rat} (hx : Bd d x) (hy : Bd d y) : Bd (d + d + 1) (x + y) := by
  have px := x.den_pos
  have py := y.den_pos
  have lx := Cub.low_of x
  have ly := Cub.low_of y
  have bX := pow_two d _ _ hx.1 hy.2
  have bY := pow_two d _ _ hy.1 hx.2
  have e := Cub.refAdd_val lx.1 ly.1 (bb := (Cub.addSg (decide (x < 0)) (x.num.natAbs * y.den) (decide (y < 0)) (y.num.natAbs * x.den)).1) (m := (Cub.addSg (decide (x < 0)) (x.num.natAbs * y.den) (decide (y < 0)) (y.num.natAbs * x.den)).2) rfl
  rw [lx.2, ly.2] at e
  rw [← e]
  refine bd_val _ (Nat.mul_pos px py) ?_ (pow_up (pow_two d _ _ hx.2 hy.2) (by omega))
  have hs := pow_sum (d + d) _ _ bX bY
  refine Nat.lt_of_le_of_lt ?_ hs
  unfold Cub.addSg
  split
  · exact Nat.le_refl _
  · split
    · show _ - _ ≤ _
      omega
    · show _ - _ ≤ _
      omega
theorem bd_neg {d : Nat} {x : Rat} (hx : Bd d x) : Bd d (-x) := by
  have lx := Cub.low_of x
  obtain ⟨h1, h2⟩ := Cub.neg_low lx.1
  rw [lx.2] at h2
  rw [← h2]
  exact bd_val _ x.den_pos hx.1 hx.2
theorem IsR.bd {num den : ByteArray} {x : Rat} (h : IsR num den x) : Bd 600 x := h.1
theorem ref18_yes {num den : ByteArray} {x : Rat} (h : IsR num den x) (W : World) : Calls Tryz.prog 18 #[.agg #[.string num, .string den]] W fun r w' => r = .returned (.bool true) ∧ Below W.heap.size W w' := by
  have hz := h.size
  obtain ⟨ok, h1, h2⟩ := refR_any num den W (by unfold maxLen; omega) (by unfold maxLen; omega)
  rw [h1.2 ((right_isR num den).2 ⟨x, h⟩)] at h2
  exact h2
end Go.Proofs.YtifalmdoligblaaGreatDoor

namespace Go.Proofs.YtifalmdoligblaaGreatDoor
open Go.RowKit

/-- Two functions answer the same. -/
def Both (f g : Nat) (args : Array Value) : Prop := ∃ (s t : ByteArray) (e : Int), (∀ w, Tab w → Ans f args w s t e) ∧ (∀ w, Ans g args w s t e)
section
variable (n1 d1 n2 d2 : ByteArray) (s1 : n1.size ≤ maxLen) (s2 : d1.size ≤ maxLen) (s3 : n2.size ≤ maxLen) (s4 : d2.size ≤ maxLen)
include s1 s2 s3 s4
end
end Go.Proofs.YtifalmdoligblaaGreatDoor

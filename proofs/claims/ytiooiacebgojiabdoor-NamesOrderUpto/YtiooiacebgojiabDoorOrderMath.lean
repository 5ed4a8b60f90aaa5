/- The order of texts: by their runes, then by their bytes: a total order. -/
import Derived.Test.YtiooiacebgojiabDoorAhead
import Derived.Lib.Bytealg
import Derived.Sort.Statements
namespace Go.Proofs.YtiooiacebgojiabDoor
open Go.RowKit

def lexC : List Nat → List Nat → Int
  | [], [] => 0
  | [], _ :: _ => -1
  | _ :: _, [] => 1
  | a :: l, b :: m => if a < b then -1 else if b < a then 1 else lexC l m
theorem lexC_cons (a b : Nat) (l m : List Nat) : lexC (a :: l) (b :: m) = if a < b then -1 else if b < a then 1 else lexC l m := rfl
theorem lexC_refl : ∀ l, lexC l l = 0
  | [] => rfl
  | a :: l => by unfold lexC; rw [if_neg (by omega), if_neg (by omega)]; exact lexC_refl l
theorem lexC_eq : ∀ l m, lexC l m = 0 → l = m
  | [], [], _ => rfl
  | [], _ :: _, h => by simp [lexC] at h
  | _ :: _, [], h => by simp [lexC] at h
  | a :: l, b :: m, h => by
    unfold lexC at h
    split at h
    · simp at h
    · split at h
      · simp at h
      · rw [lexC_eq l m h, show a = b by omega]
theorem lexC_swap : ∀ l m, lexC m l = - lexC l m
  | [], [] => rfl
  | [], _ :: _ => rfl
  | _ :: _, [] => rfl
  | a :: l, b :: m => by
    unfold lexC
    by_cases h1 : a < b
    · rw [if_neg (by omega), if_pos h1, if_pos h1]
      rfl
    · by_cases h2 : b < a
      · rw [if_pos h2, if_neg h1, if_pos h2]
      · rw [if_neg h2, if_neg h1, if_neg h1, if_neg h2]
        exact lexC_swap l m
theorem lexC_trans : ∀ l m k, lexC l m < 0 → lexC m k < 0 → lexC l k < 0
  | [], _, [], h1, h2 => by
    rename_i m
    cases m with
    | nil => simp [lexC] at h1
    | cons _ _ => simp [lexC] at h2
  | [], _, _ :: _, _, _ => by simp [lexC]
  | _ :: _, [], _, h1, _ => by simp [lexC] at h1
  | _ :: _, _ :: _, [], _, h2 => by simp [lexC] at h2
  | a :: l, b :: m, c :: k, h1, h2 => by
    unfold lexC at h1 h2 ⊢
    by_cases e1 : a < b
    · by_cases e2 : b < c
      · rw [if_pos (by omega)]; omega
      · rw [if_neg e2] at h2
        by_cases e3 : c < b
        · rw [if_pos e3] at h2; omega
        · rw [if_pos (by omega)]; omega
    · rw [if_neg e1] at h1
      by_cases e4 : b < a
      · rw [if_pos e4] at h1; omega
      · rw [if_neg e4] at h1
        by_cases e2 : b < c
        · rw [if_pos (by omega)]; omega
        · rw [if_neg e2] at h2
          by_cases e3 : c < b
          · rw [if_pos e3] at h2; omega
          · rw [if_neg e3] at h2
            rw [if_neg (by omega), if_neg (by omega)]
            exact lexC_trans l m k h1 h2
theorem lexC_sign : ∀ l m, lexC l m = -1 ∨ lexC l m = 0 ∨ lexC l m = 1
  | [], [] => .inr (.inl rfl)
  | [], _ :: _ => .inl rfl
  | _ :: _, [] => .inr (.inr rfl)
  | a :: l, b :: m => by
    unfold lexC
    split
    · exact .inl rfl
    · split
      · exact .inr (.inr rfl)
      · exact lexC_sign l m
theorem lexC_bytes : ∀ l m : List UInt8, Lib.compareBytes l m = lexC (l.map UInt8.toNat) (m.map UInt8.toNat)
  | [], [] => rfl
  | [], _ :: _ => rfl
  | _ :: _, [] => rfl
  | a :: l, b :: m => by
    unfold Lib.compareBytes
    simp only [List.map_cons]
    unfold lexC
    simp only [UInt8.lt_iff_toNat_lt]
    rw [lexC_bytes l m]
theorem less_bytes : ∀ l m : List UInt8, Op.bytesLess l m = decide (lexC (l.map UInt8.toNat) (m.map UInt8.toNat) < 0)
  | [], [] => by simp [Op.bytesLess, lexC]
  | [], _ :: _ => by simp [Op.bytesLess, lexC]
  | _ :: _, [] => by simp [Op.bytesLess, lexC]
  | a :: l, b :: m => by
    unfold Op.bytesLess
    simp only [List.map_cons]
    unfold lexC
    rw [less_bytes l m]
    by_cases h1 : a < b
    · have h2 : a.toNat < b.toNat := UInt8.lt_iff_toNat_lt.1 h1
      simp [h1, h2]
    · have h2 : ¬ a.toNat < b.toNat := fun h => h1 (UInt8.lt_iff_toNat_lt.2 h)
      by_cases h3 : b.toNat < a.toNat
      · have h4 : ¬ a = b := fun h => by rw [h] at h3; omega
        simp [h1, h2, h3, h4]
      · have h4 : a = b := UInt8.toNat_inj.1 (by omega)
        subst h4
        simp
/-- The runes of a text from a place on. -/
def runesOf (s : ByteArray) (p : Nat) : List Nat := (places s p).map fun x => (Utf8.decode s x).1
theorem ro_lex {s t : ByteArray} {p q : Nat} {x : Int} (h : Ro s t p q x) : p ≤ s.size → q ≤ t.size → x = lexC (runesOf s p) (runesOf t q) := by
  induction h with
  | ended p q hn =>
    intro hp hq
    by_cases h1 : p < s.size
    · have e2 : runesOf t q = [] := by unfold runesOf; rw [places_end t q (by omega)]; rfl
      rw [e2, cmpI_gt _ _ (by omega)]
      unfold runesOf
      rw [places_step s p h1]
      rfl
    · have e1 : runesOf s p = [] := by unfold runesOf; rw [places_end s p h1]; rfl
      rw [e1]
      by_cases h2 : q < t.size
      · rw [cmpI_lt _ _ (by omega)]
        unfold runesOf
        rw [places_step t q h2]
        rfl
      · have e2 : runesOf t q = [] := by unfold runesOf; rw [places_end t q h2]; rfl
        rw [e2, show s.size - p = t.size - q by omega, cmpI_eq]
        rfl
  | differ p q h1 h2 hr =>
    intro hp hq
    unfold runesOf
    rw [places_step s p h1, places_step t q h2, List.map_cons, List.map_cons]
    unfold lexC cmpI
    by_cases h3 : (Utf8.decode s p).1 < (Utf8.decode t q).1
    · rw [if_pos (by omega), if_pos h3]
    · rw [if_neg (by omega), if_neg h3, if_pos (by omega), if_pos (by omega)]
  | step p q x h1 h2 hr _ ih =>
    intro hp hq
    rw [ih (width_le s p h1) (width_le t q h2)]
    unfold runesOf
    rw [places_step s p h1, places_step t q h2, List.map_cons, List.map_cons]
    conv => rhs; unfold lexC
    rw [if_neg (by omega), if_neg (by omega)]
/-- A text by its runes, then by its bytes. -/
def keyOf (s : ByteArray) : List Nat := (runesOf s 0).map (· + 1) ++ 0 :: s.data.toList.map UInt8.toNat
theorem lexC_key (B B' : List Nat) : ∀ R R' : List Nat, lexC (R.map (· + 1) ++ 0 :: B) (R'.map (· + 1) ++ 0 :: B') = if lexC R R' = 0 then lexC B B' else lexC R R'
  | [], [] => by simp [lexC]
  | [], r :: R' => by simp [lexC]
  | r :: R, [] => by simp [lexC]
  | r :: R, r' :: R' => by
    simp only [List.map_cons, List.cons_append]
    rw [lexC_cons, lexC_cons]
    by_cases h1 : r < r'
    · rw [if_pos (by omega), if_pos h1]; rfl
    · by_cases h2 : r' < r
      · rw [if_neg (by omega), if_pos (by omega), if_neg h1, if_pos h2]; rfl
      · rw [if_neg (by omega), if_neg (by omega), if_neg h1, if_neg h2]
        exact lexC_key B B' R R'
/-- How two texts stand to one another. -/
def ordC (a b : ByteArray) : Int := lexC (keyOf a) (keyOf b)
theorem ordC_eq (a b : ByteArray) : ordC a b = if lexC (runesOf a 0) (runesOf b 0) = 0 then Lib.compareBytes a.data.toList b.data.toList else lexC (runesOf a 0) (runesOf b 0) := by
  unfold ordC keyOf
  rw [lexC_key, lexC_bytes]
theorem ordC_ahead (a b : ByteArray) {x : Int} (h : Ro a b 0 0 x) : aheadB a b x = decide (ordC a b < 0) := by
  have e := ro_lex h (Nat.zero_le _) (Nat.zero_le _)
  unfold aheadB
  rw [ordC_eq, ← e, ByteArray.toList_eq, ByteArray.toList_eq, less_bytes, lexC_bytes]
  by_cases hx : x = 0
  · simp [hx]
  · simp [hx]
theorem keyOf_inj {a b : ByteArray} (h : lexC (keyOf a) (keyOf b) = 0) : a = b := by
  have h2 : ordC a b = 0 := h
  rw [ordC_eq] at h2
  split at h2
  · rw [lexC_bytes] at h2
    have h3 := lexC_eq _ _ h2
    have h4 : a.data.toList = b.data.toList := by
      have := congrArg (List.map UInt8.ofNat) h3
      simpa [Function.comp_def] using this
    have h5 : a.data = b.data := Array.toList_inj.1 h4
    cases a; cases b; simpa using h5
  · rename_i hne; exact absurd h2 hne
def ltC (a b : ByteArray) : Bool := decide (ordC a b < 0)
theorem ltC_swo : Sort.SWO ltC where
  irrefl x := by unfold ltC ordC; rw [lexC_refl]; rfl
  trans x y z h1 h2 := by
    unfold ltC ordC at *
    rw [decide_eq_true_iff] at *
    exact lexC_trans _ _ _ h1 h2
  ntrans x y z h1 h2 := by
    unfold ltC ordC at *
    rw [decide_eq_false_iff_not] at *
    intro h3
    have s1 := lexC_swap (keyOf x) (keyOf y)
    have s2 := lexC_swap (keyOf y) (keyOf z)
    by_cases e1 : lexC (keyOf x) (keyOf y) = 0
    · rw [lexC_eq _ _ e1] at h3; exact h2 h3
    · by_cases e2 : lexC (keyOf y) (keyOf z) = 0
      · rw [← lexC_eq _ _ e2] at h3; exact h1 h3
      · have h4 := lexC_trans _ _ _ (show lexC (keyOf z) (keyOf y) < 0 by omega) (show lexC (keyOf y) (keyOf x) < 0 by omega)
        have s3 := lexC_swap (keyOf x) (keyOf z)
        omega
theorem ltC_total (a b : ByteArray) (h1 : ltC a b = false) (h2 : ltC b a = false) : a = b := by
  unfold ltC ordC at *
  rw [decide_eq_false_iff_not] at *
  have s := lexC_swap (keyOf a) (keyOf b)
  exact keyOf_inj (by omega)
end Go.Proofs.YtiooiacebgojiabDoor

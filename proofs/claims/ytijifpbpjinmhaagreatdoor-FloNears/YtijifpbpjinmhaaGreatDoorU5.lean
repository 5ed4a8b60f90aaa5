/- The document's number (53), near (34). -/
import Derived.Test.YtijifpbpjinmhaaGreatDoorX2
import Derived.Test.YtijifpbpjinmhaaGreatDoorRefGcd
import Derived.Test.YtijifpbpjinmhaaGreatDoorRefText2
set_option maxHeartbeats 4000000
set_option maxRecDepth 100000
namespace Go.Proofs.YtijifpbpjinmhaaGreatDoor
open Go.RowKit
theorem two_big (n K : Nat) (hn : n + 3 ≤ 3 * K) (hK : K ≤ 100000) (w : World) : Calls Tryz.prog 92 #[.int .i64 (n : Int)] w fun e w' => e = .returned (.string (tx (2 ^ n))) ∧ Below w.heap.size w w' := by
  have h := refPower_any 2 n K w (by omega) (by omega) (by omega) (pow2_lt n K (by omega))
  rw [tx_two] at h
  have H := hide h
  clear h
  generalize tx (2 ^ n) = p at *
  have hn0 : (0 : Int) ≤ (n : Int) := by omega
  go_enter Tryz.func92, Tryz.ntmps92
  go_wp2_with (go_at_call 103; refine (unhide H).mono ?_; rintro e w1 ⟨rfl, hb⟩; have HB := hide hb; clear hb)
  go_ret
  exact ⟨rfl, unhide HB⟩
theorem scaledP (s : Bool) (A B n D : Nat) (w : World) (hn : n ≤ 9000) (hD1 : 1 ≤ D) (hD : D ≤ 5000) (hQ : 2 ^ n < 10 ^ D) (hB : B < 10 ^ D) :
    Calls Tryz.prog 82 #[.agg #[.bool s, .string (tx A), .string (tx B)], .int .i64 (n : Int)] w fun r w' => r = .returned (.tuple #[.string (tx A), .string (tx (B * 2 ^ n))]) ∧ Below w.heap.size w w' := by
  obtain ⟨V, hV⟩ : ∃ V, V = w.alloc (.cells #[.bool s, .string (tx A), .string (tx B)] 56) := ⟨_, rfl⟩
  have HX : Hid (FBox V w.heap.size (.bool s) (.string (tx A)) (.string (tx B))) := by rw [hV]; exact ⟨by simp [go_sem], by simp [go_sem], by simp [go_sem], by simp [go_sem], by simp [go_sem], by simp [go_sem]⟩
  have HB : Hid (Below w.heap.size w V) := by rw [hV]; exact (Below.refl _ _).alloc (Nat.le_refl _) _
  have H2 := hide (fun W => two_big n 3004 (by omega) (by decide) W)
  have HT := hide (fun W => refTimesM D B (2 ^ n) W (by omega) hD hB hQ)
  have hn0 : (0 : Int) ≤ (n : Int) := by omega
  have HV := hide hV
  clear hV hB hQ
  generalize tx (B * 2 ^ n) = sp at *
  generalize tx A = sa at *
  generalize tx B = sb at *
  generalize tx (2 ^ n) = sq at *
  go_enter Tryz.func82, Tryz.ntmps82
  go_upto_region 2 with fail
  rw [← unhide HV]
  clear HV
  have HSS : Hid (∀ W' : World, FBox W' w.heap.size (.bool s) (.string sa) (.string sb) → W'.cell? ⟨w.heap.size, 0, none⟩ = some (.bool s) ∧ W'.cell? ⟨w.heap.size, 1, none⟩ = some (.string sa) ∧ W'.cell? ⟨w.heap.size, 2, none⟩ = some (.string sb)) := fun W' h => ⟨h.c0, h.c1, h.c2⟩
  have HX1 := hide ((unhide HX).later (Below.refl _ _).drew)
  have HB1 : Hid (Below w.heap.size w V.drew) := (unhide HB).drew
  refine region_reads 8 (fun W' => W'.cell? ⟨w.heap.size, 0, none⟩ = some (.bool s) ∧ W'.cell? ⟨w.heap.size, 1, none⟩ = some (.string sa) ∧ W'.cell? ⟨w.heap.size, 2, none⟩ = some (.string sb)) (fun _ => True) 9 rfl (by kernel_rfl) ?_
  clear HX HB
  generalize V.drew = U1 at *
  have HC1 := hide (unhide HSS _ (unhide HX1))
  refine wpR_take (i := 0) (oi := _) (v := .pointer (some ⟨w.heap.size, 1, none⟩)) rfl (by kernel_rfl) (by kernel_rfl) (by kernel_rfl) (by kernel_rfl) (fun _ _ _ h => h) (Or.inl ⟨by rfl, ?_⟩) ⟨unhide HC1, trivial⟩ ?_
  · intro W hW
    go_split_ands
    go_simp
  refine wpR_take (i := 1) (oi := _) (v := .string sa) rfl (by kernel_rfl) (by kernel_rfl) (by kernel_rfl) (by kernel_rfl) (fun _ _ _ h => h) (Or.inl ⟨by rfl, ?_⟩) ⟨unhide HC1, trivial⟩ ?_
  · intro W hW
    go_split_ands
    go_simp
  refine wpR_take (i := 2) (oi := _) (v := .pointer (some ⟨w.heap.size, 2, none⟩)) rfl (by kernel_rfl) (by kernel_rfl) (by kernel_rfl) (by kernel_rfl) (fun _ _ _ h => h) (Or.inl ⟨by rfl, ?_⟩) ⟨unhide HC1, trivial⟩ ?_
  · intro W hW
    go_split_ands
    go_simp
  refine wpR_take (i := 3) (oi := _) (v := .string sb) rfl (by kernel_rfl) (by kernel_rfl) (by kernel_rfl) (by kernel_rfl) (fun _ _ _ h => h) (Or.inl ⟨by rfl, ?_⟩) ⟨unhide HC1, trivial⟩ ?_
  · intro W hW
    go_split_ands
    go_simp
  refine wpR_take (i := 4) (oi := _) (v := .int .i64 (n : Int)) rfl (by kernel_rfl) (by kernel_rfl) (by kernel_rfl) (by kernel_rfl) (fun _ _ _ h => h) (Or.inl ⟨by rfl, ?_⟩) ⟨unhide HC1, trivial⟩ ?_
  · intro W hW
    go_split_ands
    go_simp
  refine wpR_op (i := 5) (o := _) (by kernel_rfl) rfl rfl (fun K hK => ?_)
  go_simp
  refine (unhide H2 _).mono ?_
  rintro e U2 ⟨rfl, hb⟩
  have HX2 := hide ((unhide HX1).later hb)
  have HB2 : Hid (Below w.heap.size w U2) := (unhide HB1).trans (hb.mono (Nat.le_of_lt (unhide HX1).lt))
  clear hb HX1 HB1 HC1
  refine hK _ _ ⟨unhide HSS _ (unhide HX2), trivial⟩ ?_
  clear hK K
  refine wpR_op (i := 6) (o := _) (by kernel_rfl) rfl rfl (fun K hK => ?_)
  go_simp
  refine (unhide HT _).mono ?_
  rintro e U3 ⟨rfl, hb⟩
  have HX3 := hide ((unhide HX2).later hb)
  have HB3 : Hid (Below w.heap.size w U3) := (unhide HB2).trans (hb.mono (Nat.le_of_lt (unhide HX2).lt))
  clear hb HX2 HB2
  refine hK _ _ ⟨unhide HSS _ (unhide HX3), trivial⟩ ?_
  clear hK K
  refine wpR_op (i := 7) (o := _) (by kernel_rfl) rfl rfl (fun K hK => ?_)
  go_simp
  refine hK _ _ ⟨unhide HSS _ (unhide HX3), trivial⟩ ?_
  clear hK K
  refine wpR_late (i := 8) (o := _) (by kernel_rfl) rfl rfl (by kernel_rfl) (fun K hK => ?_)
  go_simp
  refine hK _ _ trivial ?_
  clear hK K
  refine wpR_done (by kernel_rfl) ?_
  go_wp2_with fail
  exact bodyPost_ret (v := .tuple #[.string sa, .string sp]) (by simp [results, Tryz.results82, go_sem]) rfl ⟨rfl, unhide HB3⟩
theorem scaledN (s : Bool) (A B n D : Nat) (w : World) (hp : 0 < n) (hn : n ≤ 9000) (hD1 : 1 ≤ D) (hD : D ≤ 5000) (hQ : 2 ^ n < 10 ^ D) (hA : A < 10 ^ D) :
    Calls Tryz.prog 82 #[.agg #[.bool s, .string (tx A), .string (tx B)], .int .i64 (-(n : Int))] w fun r w' => r = .returned (.tuple #[.string (tx (A * 2 ^ n)), .string (tx B)]) ∧ Below w.heap.size w w' := by
  obtain ⟨V, hV⟩ : ∃ V, V = w.alloc (.cells #[.bool s, .string (tx A), .string (tx B)] 56) := ⟨_, rfl⟩
  have HX : Hid (FBox V w.heap.size (.bool s) (.string (tx A)) (.string (tx B))) := by rw [hV]; exact ⟨by simp [go_sem], by simp [go_sem], by simp [go_sem], by simp [go_sem], by simp [go_sem], by simp [go_sem]⟩
  have HB : Hid (Below w.heap.size w V) := by rw [hV]; exact (Below.refl _ _).alloc (Nat.le_refl _) _
  have H2 := hide (fun W => two_big n 3004 (by omega) (by decide) W)
  have HT := hide (fun W => refTimesM D A (2 ^ n) W (by omega) hD hA hQ)
  have hn0 : ¬ (0 : Int) ≤ -(n : Int) := by omega
  have hn1 : (n : Int) ≤ 9000 := by omega
  have hn2 : (0 : Int) < (n : Int) := by omega
  have hw : IntKind.i64.wrap (n : Int) = (n : Int) := by rw [IntKind.wrap_i64]; omega
  have HV := hide hV
  clear hV hA hQ hp
  generalize tx (A * 2 ^ n) = sp at *
  generalize tx A = sa at *
  generalize tx B = sb at *
  generalize tx (2 ^ n) = sq at *
  go_enter Tryz.func82, Tryz.ntmps82
  go_upto_region 3 with fail
  rw [← unhide HV]
  clear HV
  have HSS : Hid (∀ W' : World, FBox W' w.heap.size (.bool s) (.string sa) (.string sb) → W'.cell? ⟨w.heap.size, 0, none⟩ = some (.bool s) ∧ W'.cell? ⟨w.heap.size, 1, none⟩ = some (.string sa) ∧ W'.cell? ⟨w.heap.size, 2, none⟩ = some (.string sb)) := fun W' h => ⟨h.c0, h.c1, h.c2⟩
  have HX1 := hide ((unhide HX).later (Below.refl _ _).drew)
  have HB1 : Hid (Below w.heap.size w V.drew) := (unhide HB).drew
  refine region_reads 9 (fun W' => W'.cell? ⟨w.heap.size, 0, none⟩ = some (.bool s) ∧ W'.cell? ⟨w.heap.size, 1, none⟩ = some (.string sa) ∧ W'.cell? ⟨w.heap.size, 2, none⟩ = some (.string sb)) (fun _ => True) 10 rfl (by kernel_rfl) ?_
  clear HX HB
  generalize V.drew = U1 at *
  have HC1 := hide (unhide HSS _ (unhide HX1))
  refine wpR_take (i := 0) (oi := _) (v := .pointer (some ⟨w.heap.size, 1, none⟩)) rfl (by kernel_rfl) (by kernel_rfl) (by kernel_rfl) (by kernel_rfl) (fun _ _ _ h => h) (Or.inl ⟨by rfl, ?_⟩) ⟨unhide HC1, trivial⟩ ?_
  · intro W hW
    go_split_ands
    go_simp
  refine wpR_take (i := 1) (oi := _) (v := .string sa) rfl (by kernel_rfl) (by kernel_rfl) (by kernel_rfl) (by kernel_rfl) (fun _ _ _ h => h) (Or.inl ⟨by rfl, ?_⟩) ⟨unhide HC1, trivial⟩ ?_
  · intro W hW
    go_split_ands
    go_simp
  refine wpR_take (i := 2) (oi := _) (v := .int .i64 (-(n : Int))) rfl (by kernel_rfl) (by kernel_rfl) (by kernel_rfl) (by kernel_rfl) (fun _ _ _ h => h) (Or.inl ⟨by rfl, ?_⟩) ⟨unhide HC1, trivial⟩ ?_
  · intro W hW
    go_split_ands
    go_simp
  refine wpR_take (i := 3) (oi := _) (v := .int .i64 (n : Int)) rfl (by kernel_rfl) (by kernel_rfl) (by kernel_rfl) (by kernel_rfl) (fun _ _ _ h => h) (Or.inl ⟨by rfl, ?_⟩) ⟨unhide HC1, trivial⟩ ?_
  · intro W hW
    go_split_ands
    go_simp
  refine wpR_take (i := 6) (oi := _) (v := .pointer (some ⟨w.heap.size, 2, none⟩)) rfl (by kernel_rfl) (by kernel_rfl) (by kernel_rfl) (by kernel_rfl) (fun _ _ _ h => h) (Or.inl ⟨by rfl, ?_⟩) ⟨unhide HC1, trivial⟩ ?_
  · intro W hW
    go_split_ands
    go_simp
  refine wpR_take (i := 7) (oi := _) (v := .string sb) rfl (by kernel_rfl) (by kernel_rfl) (by kernel_rfl) (by kernel_rfl) (fun _ _ _ h => h) (Or.inl ⟨by rfl, ?_⟩) ⟨unhide HC1, trivial⟩ ?_
  · intro W hW
    go_split_ands
    go_simp
  refine wpR_op (i := 4) (o := _) (by kernel_rfl) rfl rfl (fun K hK => ?_)
  go_simp
  refine (unhide H2 _).mono ?_
  rintro e U2 ⟨rfl, hb⟩
  have HX2 := hide ((unhide HX1).later hb)
  have HB2 : Hid (Below w.heap.size w U2) := (unhide HB1).trans (hb.mono (Nat.le_of_lt (unhide HX1).lt))
  clear hb HX1 HB1 HC1
  refine hK _ _ ⟨unhide HSS _ (unhide HX2), trivial⟩ ?_
  clear hK K
  refine wpR_op (i := 5) (o := _) (by kernel_rfl) rfl rfl (fun K hK => ?_)
  go_simp
  refine (unhide HT _).mono ?_
  rintro e U3 ⟨rfl, hb⟩
  have HX3 := hide ((unhide HX2).later hb)
  have HB3 : Hid (Below w.heap.size w U3) := (unhide HB2).trans (hb.mono (Nat.le_of_lt (unhide HX2).lt))
  clear hb HX2 HB2
  refine hK _ _ ⟨unhide HSS _ (unhide HX3), trivial⟩ ?_
  clear hK K
  refine wpR_op (i := 8) (o := _) (by kernel_rfl) rfl rfl (fun K hK => ?_)
  go_simp
  refine hK _ _ ⟨unhide HSS _ (unhide HX3), trivial⟩ ?_
  clear hK K
  refine wpR_late (i := 9) (o := _) (by kernel_rfl) rfl rfl (by kernel_rfl) (fun K hK => ?_)
  go_simp
  refine hK _ _ trivial ?_
  clear hK K
  refine wpR_done (by kernel_rfl) ?_
  go_wp2_with fail
  exact bodyPost_ret (v := .tuple #[.string sp, .string sb]) (by simp [results, Tryz.results82, go_sem]) rfl ⟨rfl, unhide HB3⟩
def scA (A : Nat) (e : Int) : Nat := A * 2 ^ (-e).toNat
def scB (B : Nat) (e : Int) : Nat := B * 2 ^ e.toNat
/-- A, B and what they are scaled to: all are short enough. -/
structure Rng (A B D : Nat) : Prop where
  d1 : 1 ≤ D
  d : D ≤ 5000
  a : A < 10 ^ D
  b : B < 10 ^ D
  q : ∀ n, n ≤ 9000 → 2 ^ n < 10 ^ D
theorem scaled_any (s : Bool) (A B D : Nat) (e : Int) (w : World) (h : Rng A B D) (h1 : -9000 ≤ e) (h2 : e ≤ 9000) :
    Calls Tryz.prog 82 #[.agg #[.bool s, .string (tx A), .string (tx B)], .int .i64 e] w fun r w' => r = .returned (.tuple #[.string (tx (scA A e)), .string (tx (scB B e))]) ∧ Below w.heap.size w w' := by
  unfold scA scB
  by_cases hz : 0 ≤ e
  · obtain ⟨n, rfl⟩ : ∃ n : Nat, e = (n : Int) := ⟨e.toNat, by omega⟩
    have e1 : (-(n : Int)).toNat = 0 := by omega
    have e2 : ((n : Int)).toNat = n := by omega
    rw [e1, e2, Nat.pow_zero, Nat.mul_one]
    exact scaledP s A B n D w (by omega) h.d1 h.d (h.q n (by omega)) h.b
  · obtain ⟨n, rfl⟩ : ∃ n : Nat, e = -(n : Int) := ⟨(-e).toNat, by omega⟩
    have e1 : (-(-(n : Int))).toNat = n := by omega
    have e2 : (-(n : Int)).toNat = 0 := by omega
    rw [e1, e2, Nat.pow_zero, Nat.mul_one]
    exact scaledN s A B n D w (by omega) (by omega) h.d1 h.d (h.q n (by omega)) h.a
theorem cmpN_neg (m n : Nat) : decide (Cub.cmpN m n < 0) = decide (m < n) := by
  unfold Cub.cmpN
  split
  · rename_i h; simp [h]
  · rename_i h; split <;> simp [h]
theorem below_any (s : Bool) (A B D : Nat) (e : Int) (w : World) (h : Rng A B D) (h1 : -9000 ≤ e) (h2 : e ≤ 9000) :
    Calls Tryz.prog 129 #[.agg #[.bool s, .string (tx A), .string (tx B)], .int .i64 e] w fun r w' => r = .returned (.bool (decide (scA A e < scB B e))) ∧ Below w.heap.size w w' := by
  obtain ⟨V, hV⟩ : ∃ V, V = w.alloc (.cells #[.bool s, .string (tx A), .string (tx B)] 56) := ⟨_, rfl⟩
  have HX : Hid (FBox V w.heap.size (.bool s) (.string (tx A)) (.string (tx B))) := by rw [hV]; exact ⟨by simp [go_sem], by simp [go_sem], by simp [go_sem], by simp [go_sem], by simp [go_sem], by simp [go_sem]⟩
  have HB : Hid (Below w.heap.size w V) := by rw [hV]; exact (Below.refl _ _).alloc (Nat.le_refl _) _
  have HS := hide (fun W => scaled_any s A B D e W h h1 h2)
  have HC := hide (fun W => refCompareM (scA A e) (scB B e) W)
  have hc := cmpN_neg (scA A e) (scB B e)
  have HV := hide hV
  clear hV h
  generalize Cub.cmpN (scA A e) (scB B e) = c at *
  generalize decide (scA A e < scB B e) = o at *
  generalize tx (scA A e) = sp at *
  generalize tx (scB B e) = sq at *
  generalize tx A = sa at *
  generalize tx B = sb at *
  go_enter Tryz.func129, Tryz.ntmps129
  go_upto_region 1 with fail
  rw [← unhide HV]
  clear HV
  have c0 := (unhide HX).c0; have c1 := (unhide HX).c1; have c2 := (unhide HX).c2
  go_wp2_with (first
    | (go_at_call 82; refine (unhide HS _).mono ?_; rintro e w1 ⟨rfl, hb⟩; have HB1 : Hid (Below w.heap.size w w1) := (unhide HB).trans (hb.mono (Nat.le_of_lt (unhide HX).lt)); clear hb)
    | (go_at_call 69; refine (unhide HC _).mono ?_; rintro e w2 ⟨rfl, hw⟩; obtain rfl : w1 = w2 := hw.symm))
  exact bodyPost_ret (v := .bool o) (by simp [results, Tryz.results129, go_sem]) rfl ⟨rfl, unhide HB1⟩
theorem below_step (A B : Nat) (e : Int) (h : scA A e < scB B e) : scA A (e + 1) < scB B (e + 1) := by
  unfold scA scB at *
  by_cases hz : 0 ≤ e
  · obtain ⟨n, rfl⟩ : ∃ n : Nat, e = (n : Int) := ⟨e.toNat, by omega⟩
    rw [show (-((n : Int) + 1)).toNat = 0 by omega, show ((n : Int) + 1).toNat = n + 1 by omega]
    rw [show (-(n : Int)).toNat = 0 by omega, show ((n : Int)).toNat = n by omega] at h
    refine Nat.lt_of_lt_of_le h ?_
    exact Nat.mul_le_mul_left B (Nat.pow_le_pow_right (by decide) (by omega))
  · obtain ⟨n, rfl⟩ : ∃ n : Nat, e = -((n : Int) + 1) := ⟨(-e - 1).toNat, by omega⟩
    rw [show (-(-((n : Int) + 1) + 1)).toNat = n by omega, show (-((n : Int) + 1) + 1).toNat = 0 by omega]
    rw [show (-(-((n : Int) + 1))).toNat = n + 1 by omega, show (-((n : Int) + 1)).toNat = 0 by omega] at h
    refine Nat.lt_of_le_of_lt ?_ h
    exact Nat.mul_le_mul_left A (Nat.pow_le_pow_right (by decide) (by omega))
theorem below_mono (A B : Nat) (e f : Int) (hle : e ≤ f) (h : scA A e < scB B e) : scA A f < scB B f := by
  obtain ⟨n, rfl⟩ : ∃ n : Nat, f = e + (n : Int) := ⟨(f - e).toNat, by omega⟩
  clear hle
  induction n with
  | zero => simpa using h
  | succ n ih =>
    have := below_step A B (e + (n : Int)) ih
    rwa [show e + ((n + 1 : Nat) : Int) = e + (n : Int) + 1 by omega]
/-- What the search keeps. -/
structure SzInv (A B : Nat) (x y : Int) : Prop where
  hi : scA A (y + 53) < scB B (y + 53)
  lo : ∀ e, -1074 ≤ e → e < x → ¬ scA A (e + 53) < scB B (e + 53)
  l1 : -1074 ≤ x
  l2 : x ≤ y
  l3 : y ≤ 5000
theorem SzInv.down {A B : Nat} {x y m : Int} (h : SzInv A B x y) (hm : x ≤ m) (hmy : m < y) (hp : scA A (m + 53) < scB B (m + 53)) : SzInv A B x m := ⟨hp, h.lo, h.l1, hm, by have := h.l3; omega⟩
theorem SzInv.up {A B : Nat} {x y m : Int} (h : SzInv A B x y) (hm : x ≤ m) (hmy : m < y) (hp : ¬ scA A (m + 53) < scB B (m + 53)) : SzInv A B (m + 1) y :=
  ⟨h.hi, fun e _ _ hq => hp (below_mono A B (e + 53) (m + 53) (by omega) hq), by have := h.l1; omega, by omega, h.l3⟩
theorem mid (x y : Int) (h : x < y) : x ≤ x + (y - x).tdiv 2 ∧ x + (y - x).tdiv 2 < y := by
  rw [Int.tdiv_eq_ediv_of_nonneg (by omega)]; omega
theorem size_doc (s : Bool) (A B D : Nat) (w : World) (h : Rng A B D) (hi : scA A 5053 < scB B 5053) :
    Calls Tryz.prog 81 #[.agg #[.bool s, .string (tx A), .string (tx B)]] w fun r w' => ∃ e : Int, r = .returned (.int .i64 e) ∧ SzInv A B e e ∧ Below w.heap.size w w' := by
  obtain ⟨V, hV⟩ : ∃ V, V = w.alloc (.cells #[.bool s, .string (tx A), .string (tx B)] 56) := ⟨_, rfl⟩
  have HX : Hid (FBox V w.heap.size (.bool s) (.string (tx A)) (.string (tx B))) := by rw [hV]; exact ⟨by simp [go_sem], by simp [go_sem], by simp [go_sem], by simp [go_sem], by simp [go_sem], by simp [go_sem]⟩
  have HB : Hid (Below w.heap.size w V) := by rw [hV]; exact (Below.refl _ _).alloc (Nat.le_refl _) _
  have HS := hide (fun (e : Int) (h1 : -9000 ≤ e) (h2 : e ≤ 9000) W => below_any s A B D e W h h1 h2)
  have HI : Hid (SzInv A B (-1074) 5000) := ⟨hi, fun e a1 a2 => absurd a2 (by omega), by decide, by decide, by decide⟩
  have HV := hide hV
  clear hV h hi
  generalize tx A = sa at *
  generalize tx B = sb at *
  go_enter Tryz.func81, Tryz.ntmps81
  go_upto_region 1 with fail
  rw [← unhide HV]
  clear HV
  go_wp2
  go_loopw [3, 4] (fun a b wr => ∃ x y : Int, a = .int .i64 x ∧ b = .int .i64 y ∧ Hid (SzInv A B x y) ∧ Hid (FBox wr w.heap.size (.bool s) (.string sa) (.string sb)) ∧ Hid (Below w.heap.size w wr)) (fun a b _ => (intOf b - intOf a).toNat)
  case atStart => exact ⟨_, _, rfl, rfl, HI, HX, HB⟩
  case round =>
    obtain ⟨x, y, rfl, rfl, HI2, HX2, HB2⟩ := hrel
    have l1 := (unhide HI2).l1; have l2 := (unhide HI2).l2; have l3 := (unhide HI2).l3
    have c0 := (unhide HX2).c0; have c1 := (unhide HX2).c1; have c2 := (unhide HX2).c2
    by_cases hxy : x < y
    · obtain ⟨m1, m2⟩ := mid x y hxy
      have hq : IntKind.i64.wrap ((y - x).tdiv 2) = (y - x).tdiv 2 := by rw [IntKind.wrap_i64]; omega
      generalize hm : (y - x).tdiv 2 = d at *
      have HS2 := hide (unhide HS (x + d + 53) (by omega) (by omega))
      by_cases hp : scA A (x + d + 53) < scB B (x + d + 53)
      · have HJ : Hid (SzInv A B x (x + d)) := (unhide HI2).down m1 m2 hp
        rw [decide_eq_true hp] at HS2
        clear hp
        go_wp2_with (go_at_call 129; refine (unhide HS2 _).mono ?_; rintro e w3 ⟨rfl, hb⟩; have HX3 := hide ((unhide HX2).later hb); have HB3 : Hid (Below w.heap.size w w3) := (unhide HB2).trans (hb.mono (Nat.le_of_lt (unhide HX2).lt)); clear hb)
        go_roundw
        case rel => exact ⟨_, _, rfl, rfl, HJ, HX3, HB3⟩
        case measure => simp [intOf]; omega
      · have HJ : Hid (SzInv A B (x + d + 1) y) := (unhide HI2).up m1 m2 hp
        rw [decide_eq_false hp] at HS2
        clear hp
        go_wp2_with (go_at_call 129; refine (unhide HS2 _).mono ?_; rintro e w3 ⟨rfl, hb⟩; have HX3 := hide ((unhide HX2).later hb); have HB3 : Hid (Below w.heap.size w w3) := (unhide HB2).trans (hb.mono (Nat.le_of_lt (unhide HX2).lt)); clear hb)
        go_roundw
        case rel => exact ⟨_, _, rfl, rfl, HJ, HX3, HB3⟩
        case measure => simp [intOf]; omega
    · obtain rfl : x = y := by omega
      go_wp2
      go_ret
      exact ⟨_, rfl, unhide HI2, unhide HB2⟩
theorem number_any (s : ByteArray) (w : World) (hd : Cub.digs s.data.toList) (hv : Cub.dval s.data.toList < 18446744073709551616) (hz : s.size ≤ 100000) :
    Calls Tryz.prog 53 #[.string s] w fun e w' => e = .returned (.int .u64 (Cub.dval s.data.toList : Nat)) ∧ w' = w := by
  have HV : Hid (∀ k, Cub.dval ((s.data.toList.drop 0).take k) < 18446744073709551616) := fun k => Nat.lt_of_le_of_lt (by rw [List.drop_zero]; exact dval_take _ k) hv
  have HDs : Hid (∀ k (hk : k < s.size), 48 ≤ s[k].toNat ∧ s[k].toNat ≤ 57) := fun k hk => hd s[k] (by rw [← list_get s k hk]; exact List.getElem_mem _)
  have HF : Hid (Cub.dval ((s.data.toList.drop 0).take (s.size - 0)) = Cub.dval s.data.toList) := by rw [List.drop_zero, Nat.sub_zero, ← list_len s, List.take_length]; exact rfl
  generalize Cub.dval s.data.toList = V at *
  clear hd
  go_enter Tryz.func53, Tryz.ntmps53
  go_wp2
  go_loop [3, 4] (fun y i => ∃ (k n : Nat), k ≤ s.size ∧ i = .int .i64 k ∧ y = .int .u64 n ∧ n < 18446744073709551616 ∧ Hid (n = Cub.dval ((s.data.toList.drop 0).take (k - 0)))) (fun _ i => s.size - (intOf i).toNat)
  case atStart => exact ⟨0, 0, Nat.zero_le _, rfl, rfl, by decide, rfl⟩
  case round =>
    obtain ⟨k, n, hk, rfl, rfl, hn, HN⟩ := hrel
    by_cases hlt : k < s.size
    · obtain ⟨d1, d2⟩ := unhide HDs k hlt
      have HN' : Hid (10 * n + (s[k].toNat - 48) = Cub.dval ((s.data.toList.drop 0).take (k + 1 - 0))) := by
        rw [Cub.seg_succ _ _ _ (Nat.zero_le k) (by rw [list_len]; exact hlt), ← unhide HN, Nat.mul_comm]; exact rfl
      have hn' : 10 * n + (s[k].toNat - 48) < 18446744073709551616 := by rw [unhide HN']; exact unhide HV _
      go_wp2
      go_round
      case rel => exact ⟨k + 1, 10 * n + (s[k].toNat - 48), by omega, by go_num, by go_num, hn', HN'⟩
      case measure => simp [intOf]; omega
    · have hke : k = s.size := by omega
      subst hke
      have HE : Hid (n = V) := by rw [unhide HN]; exact unhide HF
      go_wp2
      go_ret
      obtain rfl := unhide HE
      exact ⟨rfl, rfl⟩
theorem number_tx (n : Nat) (w : World) (hn : n < 18446744073709551616) : Calls Tryz.prog 53 #[.string (tx n)] w fun e w' => e = .returned (.int .u64 (n : Nat)) ∧ w' = w := by
  have h := number_any (tx n) w (tx_nat n).1 (by show val (tx n) < _; rw [tx_val]; exact hn) (Nat.le_trans (tx_size (d := 20) (by decide) (by omega)) (by decide))
  have e : Cub.dval (tx n).data.toList = n := tx_val n
  rwa [e] at h
end Go.Proofs.YtijifpbpjinmhaaGreatDoor

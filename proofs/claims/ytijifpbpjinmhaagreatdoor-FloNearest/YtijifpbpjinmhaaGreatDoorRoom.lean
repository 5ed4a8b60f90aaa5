/- flo: bits (113), places (53), roomOf (52) and its closure (78). -/
import Derived.Test.YtijifpbpjinmhaaGreatDoorSt2
import Derived.Test.YtijifpbpjinmhaaGreatDoorCmpMath
import Derived.Test.YtijifpbpjinmhaaGreatDoorAway
set_option maxHeartbeats 4000000
set_option maxRecDepth 100000
namespace Go.Proofs.YtijifpbpjinmhaaGreatDoor
open Go.RowKit
theorem run_negF (b : Nat) : Op.unary .neg (.float .f64 b) = (pure (.float .f64 (Op.negFloat .f64 b)) : Sem Value) := rfl
attribute [local go_sem] run_bits run_from run_negF
theorem xorF (b : Nat) : Op.negFloat .f64 b = b ^^^ 9223372036854775808 := rfl
theorem xor_off (b : Nat) (h1 : 9223372036854775808 ≤ b) (hb : b < 18446744073709551616) : b ^^^ 9223372036854775808 = b - 9223372036854775808 := by
  have h := xor_top (b - 9223372036854775808) (by omega)
  have e : b = (b - 9223372036854775808) ^^^ 9223372036854775808 := by rw [h]; omega
  conv => lhs; rw [e]
  rw [Nat.xor_assoc, Nat.xor_self, Nat.xor_zero]
theorem gt_max_neg (b : Nat) (hb : b < 18446744073709551616) : (FloatKind.f64.format.order (Op.negFloat .f64 b) 9218868437227405311 == some Ordering.gt) = decide (b = 18442240474082181120) := by
  rw [xorF]
  rcases Nat.lt_or_ge b 9223372036854775808 with h | h
  · rw [xor_top b h, gt_max _ (by omega)]
    rw [Bool.eq_iff_iff, decide_eq_true_eq, decide_eq_true_eq]; omega
  · rw [xor_off b h hb, gt_max _ (by omega)]
    rw [Bool.eq_iff_iff, decide_eq_true_eq, decide_eq_true_eq]; omega
theorem isInf_posC (b : Nat) (d : Bool) (h : (FloatKind.f64.format.order b 9218868437227405311 == some Ordering.gt) = d) (w : World) : Calls Tryz.prog 37 #[.float .f64 b, .int .i64 1] w fun e w' => e = .returned (.bool d) ∧ w' = w := by
  go_enter Tryz.func37, Tryz.ntmps37
  go_wp2
  exact bodyPost_ret (v := .bool d) (by simp [results, Tryz.results37, go_sem]) rfl ⟨rfl, rfl⟩
theorem isInf_pos (b : Nat) (hb : b < 18446744073709551616) (w : World) : Calls Tryz.prog 37 #[.float .f64 b, .int .i64 1] w fun e w' => e = .returned (.bool (decide (b = 9218868437227405312))) ∧ w' = w := isInf_posC b _ (gt_max b hb) w
theorem isInf_negC (b c : Nat) (d : Bool) (hc : Op.negFloat .f64 b = c) (h : (FloatKind.f64.format.order c 9218868437227405311 == some Ordering.gt) = d) (w : World) : Calls Tryz.prog 37 #[.float .f64 b, .int .i64 (-1)] w fun e w' => e = .returned (.bool d) ∧ w' = w := by
  go_enter Tryz.func37, Tryz.ntmps37
  go_wp2
  exact bodyPost_ret (v := .bool d) (by simp [results, Tryz.results37, go_sem]) rfl ⟨rfl, rfl⟩
theorem isInf_neg (b : Nat) (hb : b < 18446744073709551616) (w : World) : Calls Tryz.prog 37 #[.float .f64 b, .int .i64 (-1)] w fun e w' => e = .returned (.bool (decide (b = 18442240474082181120))) ∧ w' = w := isInf_negC b _ _ rfl (gt_max_neg b hb) w
def orF (n : Nat) : Nat := if n < 9223372036854775808 then 18446744073709551615 - n else n - 9223372036854775808
theorem ofRank_low (n m : Nat) (h : bits BinOp.and IntKind.u64 (n : Int) 9223372036854775808 = 0) (h3 : bits BinOp.xor IntKind.u64 IntKind.u64.max (n : Int) = (m : Int)) (w : World) : Calls Tryz.prog 63 #[.int .u64 (n : Int)] w fun e w' => e = .returned (.float .f64 m) ∧ w' = w := by
  go_enter Tryz.func63, Tryz.ntmps63
  go_wp2
  go_ret
  exact ⟨by simp, rfl⟩
theorem ofRank_high (n m : Nat) (h : bits BinOp.and IntKind.u64 (n : Int) 9223372036854775808 = 9223372036854775808) (h3 : bits BinOp.andNot IntKind.u64 (n : Int) 9223372036854775808 = (m : Int)) (w : World) : Calls Tryz.prog 63 #[.int .u64 (n : Int)] w fun e w' => e = .returned (.float .f64 m) ∧ w' = w := by
  go_enter Tryz.func63, Tryz.ntmps63
  go_wp2
  go_ret
  exact ⟨by simp, rfl⟩
theorem ofRank_any (n : Nat) (hb : n < 18446744073709551616) (w : World) : Calls Tryz.prog 63 #[.int .u64 (n : Int)] w fun e w' => e = .returned (.float .f64 (orF n)) ∧ w' = w := by
  have h := andI_top n hb
  by_cases hs : n < 9223372036854775808
  · rw [if_pos hs] at h
    have e : orF n = 18446744073709551615 - n := if_pos hs
    have h3 := u64_xor_nat 18446744073709551615 n (by decide) hb
    rw [Nat.xor_comm, xor_all n hb] at h3
    rw [e]
    exact ofRank_low n _ h h3 w
  · rw [if_neg hs] at h
    have e : orF n = n - 9223372036854775808 := if_neg hs
    have h3 := andNot_top n hb
    rw [show n % 9223372036854775808 = n - 9223372036854775808 by omega] at h3
    rw [e]
    exact ofRank_high n _ h h3 w
theorem isNaNu_any (a : Int) (w : World) : Calls Tryz.prog 114 #[.int .u64 a] w fun e w' => e = .returned (.bool false) ∧ w' = w := by
  go_enter Tryz.func114, Tryz.ntmps114
  go_wp2
  go_ret
  exact ⟨rfl, rfl⟩
theorem cmpu_any (a b : Nat) (w : World) : Calls Tryz.prog 60 #[.int .u64 (a : Int), .int .u64 (b : Int)] w fun e w' => e = .returned (.int .i64 (Cub.cmpN a b)) ∧ w' = w := by
  unfold Cub.cmpN
  by_cases h : a < b
  · rw [if_pos h]
    have h1 : (a : Int) < (b : Int) := by omega
    go_enter Tryz.func60, Tryz.ntmps60
    go_wp2_with (go_at_call 114; refine (isNaNu_any _ _).mono ?_; rintro e w' ⟨rfl, rfl⟩)
    go_ret
    exact ⟨rfl, rfl⟩
  · rw [if_neg h]
    by_cases h2 : b < a
    · rw [if_pos h2]
      have h1 : ¬ (a : Int) < (b : Int) := by omega
      have h3 : (b : Int) < (a : Int) := by omega
      go_enter Tryz.func60, Tryz.ntmps60
      go_wp2_with (go_at_call 114; refine (isNaNu_any _ _).mono ?_; rintro e w' ⟨rfl, rfl⟩)
      go_ret
      exact ⟨rfl, rfl⟩
    · rw [if_neg h2]
      have h1 : ¬ (a : Int) < (b : Int) := by omega
      have h3 : ¬ (b : Int) < (a : Int) := by omega
      go_enter Tryz.func60, Tryz.ntmps60
      go_wp2_with (go_at_call 114; refine (isNaNu_any _ _).mono ?_; rintro e w' ⟨rfl, rfl⟩)
      go_ret
      exact ⟨rfl, rfl⟩
theorem order_any (a b : Nat) (ha : a < 18446744073709551616) (hb : b < 18446744073709551616) (w : World) : Calls Tryz.prog 20 #[.float .f64 a, .float .f64 b] w fun e w' => e = .returned (.int .i64 (Cub.cmpN (rk a) (rk b))) ∧ w' = w := by
  go_enter Tryz.func20, Tryz.ntmps20
  go_wp2_with (first
    | (go_at_call_of 61 (Value.float FloatKind.f64 a); refine (rank_any a ha _).mono ?_; rintro e w' ⟨rfl, rfl⟩)
    | (go_at_call 61; refine (rank_any b hb _).mono ?_; rintro e w' ⟨rfl, rfl⟩)
    | (go_at_call 60; refine (cmpu_any (rk a) (rk b) _).mono ?_; rintro e w' ⟨rfl, rfl⟩))
  go_ret
  exact ⟨rfl, rfl⟩
/-- The next one, up or down. -/
def nextF (b : Nat) (up : Bool) : Nat := if nanB b || (up && decide (b = 9218868437227405312)) || (!up && decide (b = 18442240474082181120)) then b else if up then orF ((rk b + 1) % 18446744073709551616) else orF ((rk b + 18446744073709551615) % 18446744073709551616)
theorem next_core (b : Nat) (up n1 n2 n3 : Bool) (r r1 r2 o1 o2 : Nat) (w : World) (h1 : ∀ W, Calls Tryz.prog 36 #[.float .f64 b] W fun e w' => e = .returned (.bool n1) ∧ w' = W)
    (h2 : ∀ W, Calls Tryz.prog 37 #[.float .f64 b, .int .i64 1] W fun e w' => e = .returned (.bool n2) ∧ w' = W) (h3 : ∀ W, Calls Tryz.prog 37 #[.float .f64 b, .int .i64 (-1)] W fun e w' => e = .returned (.bool n3) ∧ w' = W)
    (hr : ∀ W, Calls Tryz.prog 61 #[.float .f64 b] W fun e w' => e = .returned (.int .u64 (r : Int)) ∧ w' = W) (e1 : IntKind.u64.wrap ((r : Int) + 1) = (r1 : Int)) (e2 : IntKind.u64.wrap ((r : Int) - 1) = (r2 : Int))
    (ho1 : ∀ W, Calls Tryz.prog 63 #[.int .u64 (r1 : Int)] W fun e w' => e = .returned (.float .f64 o1) ∧ w' = W) (ho2 : ∀ W, Calls Tryz.prog 63 #[.int .u64 (r2 : Int)] W fun e w' => e = .returned (.float .f64 o2) ∧ w' = W) :
    Calls Tryz.prog 22 #[.float .f64 b, .bool up] w fun e w' => e = .returned (.float .f64 (if n1 || (up && n2) || (!up && n3) then b else if up then o1 else o2)) ∧ w' = w := by
  have H1 := hide h1
  have H2 := hide h2
  have H3 := hide h3
  have HR := hide hr
  have HO1 := hide ho1
  have HO2 := hide ho2
  clear h1 h2 h3 hr ho1 ho2
  cases n1
  · cases up
    · cases n3
      · go_enter Tryz.func22, Tryz.ntmps22
        go_wp2_with (first
          | (go_at_call 36; refine (unhide H1 _).mono ?_; rintro e w' ⟨rfl, rfl⟩)
          | (go_at_call 37; refine (unhide H3 _).mono ?_; rintro e w' ⟨rfl, rfl⟩)
          | (go_at_call 61; refine (unhide HR _).mono ?_; rintro e w' ⟨rfl, rfl⟩)
          | (go_at_call 63; refine (unhide HO2 _).mono ?_; rintro e w' ⟨rfl, rfl⟩))
        go_ret
        exact ⟨by simp, rfl⟩
      · go_enter Tryz.func22, Tryz.ntmps22
        go_wp2_with (first
          | (go_at_call 36; refine (unhide H1 _).mono ?_; rintro e w' ⟨rfl, rfl⟩)
          | (go_at_call 37; refine (unhide H3 _).mono ?_; rintro e w' ⟨rfl, rfl⟩))
        go_ret
        exact ⟨by simp, rfl⟩
    · cases n2
      · go_enter Tryz.func22, Tryz.ntmps22
        go_wp2_with (first
          | (go_at_call 36; refine (unhide H1 _).mono ?_; rintro e w' ⟨rfl, rfl⟩)
          | (go_at_call 37; refine (unhide H2 _).mono ?_; rintro e w' ⟨rfl, rfl⟩)
          | (go_at_call 61; refine (unhide HR _).mono ?_; rintro e w' ⟨rfl, rfl⟩)
          | (go_at_call 63; refine (unhide HO1 _).mono ?_; rintro e w' ⟨rfl, rfl⟩))
        go_ret
        exact ⟨by simp, rfl⟩
      · go_enter Tryz.func22, Tryz.ntmps22
        go_wp2_with (first
          | (go_at_call 36; refine (unhide H1 _).mono ?_; rintro e w' ⟨rfl, rfl⟩)
          | (go_at_call 37; refine (unhide H2 _).mono ?_; rintro e w' ⟨rfl, rfl⟩))
        go_ret
        exact ⟨by simp, rfl⟩
  · go_enter Tryz.func22, Tryz.ntmps22
    go_wp2_with (go_at_call 36; refine (unhide H1 _).mono ?_; rintro e w' ⟨rfl, rfl⟩)
    go_ret
    exact ⟨by simp, rfl⟩
theorem next_any (b : Nat) (up : Bool) (hb : b < 18446744073709551616) (w : World) : Calls Tryz.prog 22 #[.float .f64 b, .bool up] w fun e w' => e = .returned (.float .f64 (nextF b up)) ∧ w' = w := by
  have hr := rk_lt b
  exact next_core b up _ _ _ (rk b) ((rk b + 1) % 18446744073709551616) ((rk b + 18446744073709551615) % 18446744073709551616) _ _ w (isNaN_any b) (isInf_pos b hb) (isInf_neg b hb) (rank_any b hb) (by rw [IntKind.wrap_u64]; omega) (by rw [IntKind.wrap_u64]; omega) (fun W => ofRank_any _ (Nat.mod_lt _ (by decide)) W) (fun W => ofRank_any _ (Nat.mod_lt _ (by decide)) W)
end Go.Proofs.YtijifpbpjinmhaaGreatDoor
namespace Go.Proofs.YtijifpbpjinmhaaGreatDoor
open Go.RowKit
theorem twoToN (n P k : Nat) (hp : 0 < n) (hn : n ≤ 4000) (hP : 2 ^ n = P) (hk1 : 1 ≤ k) (hk : k ≤ 1000000) (hl : P < 1000000000 ^ k) (h2 : 2 < 1000000000 ^ k) (W : World) : Calls Tryz.prog 74 #[.int .i64 (-(n : Int))] W fun e w' => ∃ v, e = .returned v ∧ IsSz w' v 1 P ∧ Below W.heap.size W w' :=
  twoTo_neg n P W hp hn (fun V x hx => by rw [← hP] at hl ⊢; exact bigPow_any x 2 n k V hx (by omega) hk1 hk hl h2)
theorem twoToP (n P k : Nat) (hn : n ≤ 4000) (hP : 2 ^ n = P) (hk1 : 1 ≤ k) (hk : k ≤ 1000000) (hl : P < 1000000000 ^ k) (h2 : 2 < 1000000000 ^ k) (W : World) : Calls Tryz.prog 74 #[.int .i64 (n : Int)] W fun e w' => ∃ v, e = .returned v ∧ IsSz w' v P 1 ∧ Below W.heap.size W w' :=
  twoTo_pos n P W hn (fun V x hx => by rw [← hP] at hl ⊢; exact bigPow_any x 2 n k V hx (by omega) hk1 hk hl h2)
theorem tenToN (n P : Nat) (hp : 0 < n) (hn : n ≤ 4000) (hP : 1 * 10 ^ n = P) (W : World) : Calls Tryz.prog 48 #[.int .i64 (-(n : Int))] W fun e w' => ∃ v, e = .returned v ∧ IsSz w' v 1 P ∧ Below W.heap.size W w' :=
  tenTo_neg n P W hp hn (fun V x hx => by rw [← hP]; exact shift_any x 1 n 1 V hx (by decide) (by decide) (by omega))
/-- A float's size: its numerator, its denominator. -/
def SizeAns (f a c : Nat) : Prop := ∀ W : World, Calls Tryz.prog 38 #[.float .f64 f] W fun e w' => ∃ v, e = .returned v ∧ IsSz w' v a c ∧ Below W.heap.size W w'
theorem size_lo : SizeAns 4591870180066957721 (7205759403792793 * 1) (1 * 2 ^ 56) := fun W => sizeOf_any 4591870180066957721 7205759403792793 (-56) 1 (2 ^ 56) 50 W cut_lo (by decide) (twoToN 56 (2 ^ 56) 50 (by decide) (by decide) rfl (by decide) (by decide) (by decide +kernel) (by decide +kernel)) (by decide) (by decide +kernel)
theorem size_hi : SizeAns 4591870180066957722 (7205759403792794 * 1) (1 * 2 ^ 56) := fun W => sizeOf_any 4591870180066957722 7205759403792794 (-56) 1 (2 ^ 56) 50 W cut_hi (by decide) (twoToN 56 (2 ^ 56) 50 (by decide) (by decide) rfl (by decide) (by decide) (by decide +kernel) (by decide +kernel)) (by decide) (by decide +kernel)
theorem sizeZ (P : Nat) (hP : 2 ^ 1074 = P) (hl : P < 1000000000 ^ 50) : SizeAns 0 (0 * 1) (1 * P) := fun W => sizeOf_any 0 0 (-1074) 1 P 50 W cut_zero (by decide) (twoToN 1074 P 50 (by decide) (by decide) hP (by decide) (by decide) hl (by decide +kernel)) (by decide) ⟨by decide +kernel, by decide +kernel, by decide +kernel, hl⟩
attribute [local go_sem] run_bits run_from
def nearO (c : Int) (f : Nat) : Bool := decide (c < 0) || (decide (c = 0) && decide (f % 2 = 0))
theorem nearer_any (a1 : Option Addr) (l1 c1' : Nat) (a2 : Option Addr) (l2 c2' : Nat) (p q d1 c1 d2 c2 k f g gx : Nat) (c : Int) (w : World) (hx : OwnU w gx 54 #[.slice a1 l1 c1', .slice a2 l2 c2']) (hp : IsBig w (.agg #[.slice a1 l1 c1']) p) (hq : IsBig w (.agg #[.slice a2 l2 c2']) q)
    (haf : ∀ W, Below w.heap.size w W → Calls Tryz.prog 126 #[.agg #[.slice a1 l1 c1', .slice a2 l2 c2'], .float .f64 f] W fun e w' => ∃ v, e = .returned v ∧ IsSz w' v d1 c1 ∧ Below W.heap.size W w') (hag : ∀ W, Below w.heap.size w W → Calls Tryz.prog 126 #[.agg #[.slice a1 l1 c1', .slice a2 l2 c2'], .float .f64 g] W fun e w' => ∃ v, e = .returned v ∧ IsSz w' v d2 c2 ∧ Below W.heap.size W w')
    (hk : k ≤ 1000000) (hl : d1 < 1000000000 ^ k ∧ c1 < 1000000000 ^ k ∧ d2 < 1000000000 ^ k ∧ c2 < 1000000000 ^ k) (hc : Cub.cmpN (d1 * c2) (d2 * c1) = c) (hcc : c = -1 ∨ c = 0 ∨ c = 1) :
    Calls Tryz.prog 125 #[.float .f64 f, .float .f64 g, .pointer (some ⟨gx, 0, none⟩)] w fun e w' => e = .returned (.bool (nearO c f)) ∧ Below w.heap.size w w' := by
  have hxs : ∀ W, Below w.heap.size w W → OwnU W gx 54 #[.slice a1 l1 c1', .slice a2 l2 c2'] := fun W hb => hx.later hb
  have HP0 := hide hp
  have HQ0 := hide hq
  have HXS := hide hxs
  have HAF := hide haf
  have HAG := hide hag
  have HK := hide hk
  have HL := hide hl
  have HB : Hid (Below w.heap.size w w) := Below.refl _ _
  have hcs : Cub.cmpN (d1 * c2) (d2 * c1) = c := hc
  have HC := hide hcs
  clear hp hq hx hxs haf hag hk hl hc hcs
  go_enter Tryz.func125, Tryz.ntmps125
  go_upto_region 1 with fail
  have HS0 : Hid (St w [] [] w) := St.nil (Below.refl _ _)
  clear HB
  refine region_reads 7 (fun _ => True) (fun W' => W'.cell? ⟨gx, 0, none⟩ = some (.slice a1 l1 c1') ∧ W'.cell? ⟨gx, 1, none⟩ = some (.slice a2 l2 c2')) 8 rfl (by kernel_rfl) ?_
  have HS1 := hide ((unhide HS0).later ((Below.refl _ _).drew))
  clear HS0
  generalize w.drew = U0 at *
  refine wpR_take7 (i := 0) (oi := _) (v := .agg #[.slice a1 l1 c1', .slice a2 l2 c2']) rfl (by kernel_rfl) (by kernel_rfl) (by kernel_rfl) (by kernel_rfl) (fun _ _ _ h => h) (Or.inl ⟨by rfl, ?_⟩) ⟨trivial, ⟨(unhide HXS _ (unhide HS1).below).ub.c 0 _ rfl, (unhide HXS _ (unhide HS1).below).ub.c 1 _ rfl⟩⟩ ?_
  · intro W' hW
    go_split_ands
    go_simp
  refine wpR_take7 (i := 1) (oi := _) (v := .float .f64 f) rfl (by kernel_rfl) (by kernel_rfl) (by kernel_rfl) (by kernel_rfl) (fun _ _ _ h => h) (Or.inl ⟨by rfl, ?_⟩) ⟨trivial, ⟨(unhide HXS _ (unhide HS1).below).ub.c 0 _ rfl, (unhide HXS _ (unhide HS1).below).ub.c 1 _ rfl⟩⟩ ?_
  · intro W' hW
    go_split_ands
    go_simp
  refine wpR_take7 (i := 3) (oi := _) (v := .agg #[.slice a1 l1 c1', .slice a2 l2 c2']) rfl (by kernel_rfl) (by kernel_rfl) (by kernel_rfl) (by kernel_rfl) (fun _ _ _ h => h) (Or.inl ⟨by rfl, ?_⟩) ⟨trivial, ⟨(unhide HXS _ (unhide HS1).below).ub.c 0 _ rfl, (unhide HXS _ (unhide HS1).below).ub.c 1 _ rfl⟩⟩ ?_
  · intro W' hW
    go_split_ands
    go_simp
  refine wpR_take7 (i := 4) (oi := _) (v := .float .f64 g) rfl (by kernel_rfl) (by kernel_rfl) (by kernel_rfl) (by kernel_rfl) (fun _ _ _ h => h) (Or.inl ⟨by rfl, ?_⟩) ⟨trivial, ⟨(unhide HXS _ (unhide HS1).below).ub.c 0 _ rfl, (unhide HXS _ (unhide HS1).below).ub.c 1 _ rfl⟩⟩ ?_
  · intro W' hW
    go_split_ands
    go_simp
  refine wpR_op (i := 2) (o := _) (by kernel_rfl) rfl rfl (fun K hK => ?_)
  go_simp
  refine (unhide HAF _ (unhide HS1).below).mono ?_
  rintro e U1 ⟨_, rfl, ⟨a3, l3, c3, a4, l4, c4, rfl, hv1, hv2⟩, hb⟩
  have HS2 := hide ((((unhide HS1).later hb).push hv1).push hv2)
  clear HS1
  clear hv1 hv2 hb
  refine hK _ _ ⟨trivial, ⟨(unhide HXS _ (unhide HS2).below).ub.c 0 _ rfl, (unhide HXS _ (unhide HS2).below).ub.c 1 _ rfl⟩⟩ ?_
  clear hK K
  refine wpR_op (i := 5) (o := _) (by kernel_rfl) rfl rfl (fun K hK => ?_)
  go_simp
  refine (unhide HAG _ (unhide HS2).below).mono ?_
  rintro e U2 ⟨_, rfl, ⟨a5, l5, c5, a6, l6, c6, rfl, hv1, hv2⟩, hb⟩
  have HS3 := hide ((((unhide HS2).later hb).push hv1).push hv2)
  clear HS2
  clear hv1 hv2 hb
  refine hK _ _ ⟨trivial, ⟨(unhide HXS _ (unhide HS3).below).ub.c 0 _ rfl, (unhide HXS _ (unhide HS3).below).ub.c 1 _ rfl⟩⟩ ?_
  clear hK K
  refine wpR_op (i := 6) (o := _) (by kernel_rfl) rfl rfl (fun K hK => ?_)
  go_simp
  refine (szcmp_any _ _ _ _ _ _ _ _ _ _ _ _ d1 c1 d2 c2 k _ ((unhide HS3).bgt 3 rfl) ((unhide HS3).bgt 2 rfl) ((unhide HS3).bgt 1 rfl) ((unhide HS3).bgt 0 rfl) (unhide HK) (unhide HL).1 (unhide HL).2.1 (unhide HL).2.2.1 (unhide HL).2.2.2).mono ?_
  rintro e U3 ⟨rfl, hb⟩
  have HS4 := hide ((unhide HS3).later hb)
  clear HS3
  clear hb
  refine hK _ _ ⟨trivial, ⟨(unhide HXS _ (unhide HS4).below).ub.c 0 _ rfl, (unhide HXS _ (unhide HS4).below).ub.c 1 _ rfl⟩⟩ ?_
  clear hK K
  rw [unhide HC]
  refine wpR_late (i := 7) (o := _) (by kernel_rfl) rfl rfl (by kernel_rfl) (fun K hK => ?_)
  go_simp
  refine hK _ _ (⟨(unhide HXS _ (unhide HS4).below).ub.c 0 _ rfl, (unhide HXS _ (unhide HS4).below).ub.c 1 _ rfl⟩) ?_
  clear hK K
  refine wpR_done (by kernel_rfl) ?_
  rcases hcc with rfl | rfl | rfl
  · skip
    go_wp2_with fail
    go_ret
    exact ⟨by simp [nearO], (unhide HS4).below⟩
  · rcases Nat.mod_two_eq_zero_or_one f with h | h
    · have h2 : (f : Int) % 2 = 0 := by omega
      go_wp2_with fail
      go_ret
      exact ⟨by simp [nearO, h], (unhide HS4).below⟩
    · have h2 : (f : Int) % 2 = 1 := by omega
      go_wp2_with fail
      go_ret
      exact ⟨by simp [nearO, h], (unhide HS4).below⟩
  · skip
    go_wp2_with fail
    go_ret
    exact ⟨by simp [nearO], (unhide HS4).below⟩
end Go.Proofs.YtijifpbpjinmhaaGreatDoor
namespace Go.Proofs.YtijifpbpjinmhaaGreatDoor
open Go.RowKit
theorem lenB (v : Value) (n k l : Nat) (w : World) (h : IsBig w v n) (hk : k ≤ 1000000) (hn : n < 1000000000 ^ k) (hl : Lib.nDigits n = l) :
    Calls Tryz.prog 136 #[v] w fun e w' => e = .returned (.int .i64 (l : Nat)) ∧ Below w.heap.size w w' := by rw [← hl]; exact len_any v n k w h hk hn
theorem bits_tenth (a1 : Option Addr) (l1 c1 : Nat) (a2 : Option Addr) (l2 c2 : Nat) (p q k : Nat) (w : World) (hp : IsBig w (.agg #[.slice a1 l1 c1]) p) (hq : IsBig w (.agg #[.slice a2 l2 c2]) q) (hk : k ≤ 500000) (hpl : p < 1000000000 ^ k) (hql : q < 1000000000 ^ k) (hl1 : Lib.nDigits p = 1) (hl2 : Lib.nDigits q = 2) :
    Calls Tryz.prog 206 #[.agg #[.slice a1 l1 c1, .slice a2 l2 c2]] w fun r w' => r = .returned (.int .i64 (-6)) ∧ Below w.heap.size w w' := by
  obtain ⟨V, hV⟩ : ∃ V, V = (w.alloc (.cells #[.slice a1 l1 c1, .slice a2 l2 c2] 54)) := ⟨_, rfl⟩
  have HS0 : Hid (St w [(w.heap.size, 54, #[.slice a1 l1 c1, .slice a2 l2 c2])] [(.agg #[.slice a2 l2 c2], q), (.agg #[.slice a1 l1 c1], p)] V) := by rw [hV]; have h := ((((St.nil (Below.refl _ w)).push hp).push hq).new #[.slice a1 l1 c1, .slice a2 l2 c2] 54); (try simp only [World.size_alloc] at h); exact h
  have HV := hide hV
  have HK := hide hk
  have HPL := hide hpl
  have HQL := hide hql
  have HL1 := hide hl1
  have HL2 := hide hl2
  clear hV hp hq hk hpl hql hl1 hl2
  go_enter Tryz.func206, Tryz.ntmps206
  have hk6 : k ≤ 1000000 := by have := unhide HK; omega
  have HK6 := hide hk6
  clear hk6
  go_upto_region 1 with fail
  rw [← unhide HV]
  clear HV
  refine region_reads 8 (fun _ => True) (fun W' => W'.cell? ⟨w.heap.size, 0, none⟩ = some (.slice a1 l1 c1) ∧ W'.cell? ⟨w.heap.size, 1, none⟩ = some (.slice a2 l2 c2)) 9 rfl (by kernel_rfl) ?_
  have HS1 := hide ((unhide HS0).later ((Below.refl _ _).drew))
  clear HS0
  generalize V.drew = U0 at *
  refine wpR_take7 (i := 0) (oi := _) (v := .pointer (some ⟨w.heap.size, 0, none⟩)) rfl (by kernel_rfl) (by kernel_rfl) (by kernel_rfl) (by kernel_rfl) (fun _ _ _ h => h) (Or.inl ⟨by rfl, ?_⟩) ⟨trivial, ⟨((unhide HS1).at 0 rfl).ub.c 0 _ rfl, ((unhide HS1).at 0 rfl).ub.c 1 _ rfl⟩⟩ ?_
  · intro W' hW
    go_split_ands
    go_simp
  refine wpR_take7 (i := 1) (oi := _) (v := .agg #[.slice a1 l1 c1]) rfl (by kernel_rfl) (by kernel_rfl) (by kernel_rfl) (by kernel_rfl) (fun _ _ _ h => h) (Or.inl ⟨by rfl, ?_⟩) ⟨trivial, ⟨((unhide HS1).at 0 rfl).ub.c 0 _ rfl, ((unhide HS1).at 0 rfl).ub.c 1 _ rfl⟩⟩ ?_
  · intro W' hW
    go_split_ands
    go_simp
  refine wpR_take7 (i := 3) (oi := _) (v := .pointer (some ⟨w.heap.size, 1, none⟩)) rfl (by kernel_rfl) (by kernel_rfl) (by kernel_rfl) (by kernel_rfl) (fun _ _ _ h => h) (Or.inl ⟨by rfl, ?_⟩) ⟨trivial, ⟨((unhide HS1).at 0 rfl).ub.c 0 _ rfl, ((unhide HS1).at 0 rfl).ub.c 1 _ rfl⟩⟩ ?_
  · intro W' hW
    go_split_ands
    go_simp
  refine wpR_take7 (i := 4) (oi := _) (v := .agg #[.slice a2 l2 c2]) rfl (by kernel_rfl) (by kernel_rfl) (by kernel_rfl) (by kernel_rfl) (fun _ _ _ h => h) (Or.inl ⟨by rfl, ?_⟩) ⟨trivial, ⟨((unhide HS1).at 0 rfl).ub.c 0 _ rfl, ((unhide HS1).at 0 rfl).ub.c 1 _ rfl⟩⟩ ?_
  · intro W' hW
    go_split_ands
    go_simp
  refine wpR_op (i := 2) (o := _) (by kernel_rfl) rfl rfl (fun K hK => ?_)
  go_simp
  refine (lenB _ p k 1 _ ((unhide HS1).bgt 1 rfl) (unhide HK6) (unhide HPL) (unhide HL1)).mono ?_
  rintro e U1 ⟨rfl, hb⟩
  have HS2 := hide ((unhide HS1).later hb)
  clear HS1
  clear hb
  refine hK _ _ ⟨trivial, ⟨((unhide HS2).at 0 rfl).ub.c 0 _ rfl, ((unhide HS2).at 0 rfl).ub.c 1 _ rfl⟩⟩ ?_
  clear hK K
  refine wpR_op (i := 5) (o := _) (by kernel_rfl) rfl rfl (fun K hK => ?_)
  go_simp
  refine (lenB _ q k 2 _ ((unhide HS2).bgt 0 rfl) (unhide HK6) (unhide HQL) (unhide HL2)).mono ?_
  rintro e U2 ⟨rfl, hb⟩
  have HS3 := hide ((unhide HS2).later hb)
  clear HS2
  clear hb
  refine hK _ _ ⟨trivial, ⟨((unhide HS3).at 0 rfl).ub.c 0 _ rfl, ((unhide HS3).at 0 rfl).ub.c 1 _ rfl⟩⟩ ?_
  clear hK K
  refine wpR_op (i := 6) (o := _) (by kernel_rfl) rfl rfl (fun K hK => ?_)
  go_simp
  refine hK _ _ ⟨trivial, ⟨((unhide HS3).at 0 rfl).ub.c 0 _ rfl, ((unhide HS3).at 0 rfl).ub.c 1 _ rfl⟩⟩ ?_
  clear hK K
  refine wpR_op (i := 7) (o := _) (by kernel_rfl) rfl rfl (fun K hK => ?_)
  go_simp
  refine hK _ _ ⟨trivial, ⟨((unhide HS3).at 0 rfl).ub.c 0 _ rfl, ((unhide HS3).at 0 rfl).ub.c 1 _ rfl⟩⟩ ?_
  clear hK K
  refine wpR_late (i := 8) (o := _) (by kernel_rfl) rfl rfl (by kernel_rfl) (fun K hK => ?_)
  go_simp
  refine hK _ _ (⟨((unhide HS3).at 0 rfl).ub.c 0 _ rfl, ((unhide HS3).at 0 rfl).ub.c 1 _ rfl⟩) ?_
  clear hK K
  refine wpR_done (by kernel_rfl) ?_
  go_wp2_with fail
  go_ret
  exact ⟨rfl, (unhide HS3).below⟩
theorem places_up (a1 : Option Addr) (l1 c1 : Nat) (a2 : Option Addr) (l2 c2 : Nat) (p q x y k r t : Nat) (n : Int) (w : World) (hp : IsBig w (.agg #[.slice a1 l1 c1]) p) (hq : IsBig w (.agg #[.slice a2 l2 c2]) q) (hk : k ≤ 500000) (hpl : p < 1000000000 ^ k) (hql : q < 1000000000 ^ k) (hl1 : Lib.nDigits p = x) (hl2 : Lib.nDigits q = y) (hn : (x : Int) - (y : Int) = n) (hnl : -9000 ≤ n ∧ n ≤ 9000) (ht : ∀ W, Calls Tryz.prog 48 #[.int .i64 n] W fun e w' => ∃ v, e = .returned v ∧ IsSz w' v r t ∧ Below W.heap.size W w') (hrs : r < 1000000000 ^ k ∧ t < 1000000000 ^ k) (hc : Cub.cmpN (p * t) (r * q) = 1) :
    Calls Tryz.prog 107 #[.agg #[.slice a1 l1 c1, .slice a2 l2 c2]] w fun e w' => e = .returned (.int .i64 (n + 1)) ∧ Below w.heap.size w w' := by
  have hs1 : IntKind.i64.wrap ((x : Int) - (y : Int)) = (x : Int) - (y : Int) := by rw [IntKind.wrap_i64]; omega
  obtain ⟨V, hV⟩ : ∃ V, V = (w.alloc (.cells #[.slice a1 l1 c1, .slice a2 l2 c2] 54)) := ⟨_, rfl⟩
  have HS0 : Hid (St w [(w.heap.size, 54, #[.slice a1 l1 c1, .slice a2 l2 c2])] [(.agg #[.slice a2 l2 c2], q), (.agg #[.slice a1 l1 c1], p)] V) := by rw [hV]; have h := ((((St.nil (Below.refl _ w)).push hp).push hq).new #[.slice a1 l1 c1, .slice a2 l2 c2] 54); (try simp only [World.size_alloc] at h); exact h
  have HV := hide hV
  have HK := hide hk
  have HPL := hide hpl
  have HQL := hide hql
  have HL1 := hide hl1
  have HL2 := hide hl2
  have HT := hide ht
  have HC := hide hc
  have HRS := hide hrs
  have HN := hide hn
  clear hV hp hq hk hpl hql hl1 hl2 ht hc hrs hn
  go_enter Tryz.func107, Tryz.ntmps107
  have hk6 : k ≤ 1000000 := by have := unhide HK; omega
  have HK6 := hide hk6
  clear hk6
  go_upto_region 1 with fail
  rw [← unhide HV]
  clear HV
  go_cut [3] from 11 (fun s3 wx => s3 = .int .i64 ((x : Int) - (y : Int)) ∧ Hid (St w [(w.heap.size, 54, #[.slice a1 l1 c1, .slice a2 l2 c2])] [(.agg #[.slice a2 l2 c2], q), (.agg #[.slice a1 l1 c1], p)] wx))
  case first =>
    refine region_reads 7 (fun _ => True) (fun W' => W'.cell? ⟨w.heap.size, 0, none⟩ = some (.slice a1 l1 c1) ∧ W'.cell? ⟨w.heap.size, 1, none⟩ = some (.slice a2 l2 c2)) 8 rfl (by kernel_rfl) ?_
    have HS1 := hide ((unhide HS0).later ((Below.refl _ _).drew))
    clear HS0
    generalize V.drew = U0 at *
    refine wpR_take7 (i := 0) (oi := _) (v := .pointer (some ⟨w.heap.size, 0, none⟩)) rfl (by kernel_rfl) (by kernel_rfl) (by kernel_rfl) (by kernel_rfl) (fun _ _ _ h => h) (Or.inl ⟨by rfl, ?_⟩) ⟨trivial, ⟨((unhide HS1).at 0 rfl).ub.c 0 _ rfl, ((unhide HS1).at 0 rfl).ub.c 1 _ rfl⟩⟩ ?_
    · intro W' hW
      go_split_ands
      go_simp
    refine wpR_take7 (i := 1) (oi := _) (v := .agg #[.slice a1 l1 c1]) rfl (by kernel_rfl) (by kernel_rfl) (by kernel_rfl) (by kernel_rfl) (fun _ _ _ h => h) (Or.inl ⟨by rfl, ?_⟩) ⟨trivial, ⟨((unhide HS1).at 0 rfl).ub.c 0 _ rfl, ((unhide HS1).at 0 rfl).ub.c 1 _ rfl⟩⟩ ?_
    · intro W' hW
      go_split_ands
      go_simp
    refine wpR_take7 (i := 3) (oi := _) (v := .pointer (some ⟨w.heap.size, 1, none⟩)) rfl (by kernel_rfl) (by kernel_rfl) (by kernel_rfl) (by kernel_rfl) (fun _ _ _ h => h) (Or.inl ⟨by rfl, ?_⟩) ⟨trivial, ⟨((unhide HS1).at 0 rfl).ub.c 0 _ rfl, ((unhide HS1).at 0 rfl).ub.c 1 _ rfl⟩⟩ ?_
    · intro W' hW
      go_split_ands
      go_simp
    refine wpR_take7 (i := 4) (oi := _) (v := .agg #[.slice a2 l2 c2]) rfl (by kernel_rfl) (by kernel_rfl) (by kernel_rfl) (by kernel_rfl) (fun _ _ _ h => h) (Or.inl ⟨by rfl, ?_⟩) ⟨trivial, ⟨((unhide HS1).at 0 rfl).ub.c 0 _ rfl, ((unhide HS1).at 0 rfl).ub.c 1 _ rfl⟩⟩ ?_
    · intro W' hW
      go_split_ands
      go_simp
    refine wpR_op (i := 2) (o := _) (by kernel_rfl) rfl rfl (fun K hK => ?_)
    go_simp
    refine (lenB _ p k x _ ((unhide HS1).bgt 1 rfl) (unhide HK6) (unhide HPL) (unhide HL1)).mono ?_
    rintro e U1 ⟨rfl, hb⟩
    have HS2 := hide ((unhide HS1).later hb)
    clear HS1
    clear hb
    refine hK _ _ ⟨trivial, ⟨((unhide HS2).at 0 rfl).ub.c 0 _ rfl, ((unhide HS2).at 0 rfl).ub.c 1 _ rfl⟩⟩ ?_
    clear hK K
    refine wpR_op (i := 5) (o := _) (by kernel_rfl) rfl rfl (fun K hK => ?_)
    go_simp
    refine (lenB _ q k y _ ((unhide HS2).bgt 0 rfl) (unhide HK6) (unhide HQL) (unhide HL2)).mono ?_
    rintro e U2 ⟨rfl, hb⟩
    have HS3 := hide ((unhide HS2).later hb)
    clear HS2
    clear hb
    refine hK _ _ ⟨trivial, ⟨((unhide HS3).at 0 rfl).ub.c 0 _ rfl, ((unhide HS3).at 0 rfl).ub.c 1 _ rfl⟩⟩ ?_
    clear hK K
    refine wpR_op (i := 6) (o := _) (by kernel_rfl) rfl rfl (fun K hK => ?_)
    go_simp
    refine hK _ _ ⟨trivial, ⟨((unhide HS3).at 0 rfl).ub.c 0 _ rfl, ((unhide HS3).at 0 rfl).ub.c 1 _ rfl⟩⟩ ?_
    clear hK K
    refine wpR_late (i := 7) (o := _) (by kernel_rfl) rfl rfl (by kernel_rfl) (fun K hK => ?_)
    go_simp
    refine hK _ _ (⟨((unhide HS3).at 0 rfl).ub.c 0 _ rfl, ((unhide HS3).at 0 rfl).ub.c 1 _ rfl⟩) ?_
    clear hK K
    refine wpR_done (by kernel_rfl) ?_
    go_wp2_with fail
    go_meet
    exact ⟨rfl, HS3⟩
  case rest =>
    obtain ⟨rfl, HS0⟩ := hcut
    generalize wc = Y0 at *
    rw [unhide HN]
    clear hs1
    go_upto_region 2 with fail
    refine region_reads 4 (fun _ => True) (fun W' => W'.cell? ⟨w.heap.size, 0, none⟩ = some (.slice a1 l1 c1) ∧ W'.cell? ⟨w.heap.size, 1, none⟩ = some (.slice a2 l2 c2)) 5 rfl (by kernel_rfl) ?_
    have HS1 := hide ((unhide HS0).later ((Below.refl _ _).drew))
    clear HS0
    generalize Y0.drew = Y1 at *
    refine wpR_take7 (i := 0) (oi := _) (v := .agg #[.slice a1 l1 c1, .slice a2 l2 c2]) rfl (by kernel_rfl) (by kernel_rfl) (by kernel_rfl) (by kernel_rfl) (fun _ _ _ h => h) (Or.inl ⟨by rfl, ?_⟩) ⟨trivial, ⟨((unhide HS1).at 0 rfl).ub.c 0 _ rfl, ((unhide HS1).at 0 rfl).ub.c 1 _ rfl⟩⟩ ?_
    · intro W' hW
      go_split_ands
      go_simp
    refine wpR_take7 (i := 1) (oi := _) (v := .int .i64 n) rfl (by kernel_rfl) (by kernel_rfl) (by kernel_rfl) (by kernel_rfl) (fun _ _ _ h => h) (Or.inl ⟨by rfl, ?_⟩) ⟨trivial, ⟨((unhide HS1).at 0 rfl).ub.c 0 _ rfl, ((unhide HS1).at 0 rfl).ub.c 1 _ rfl⟩⟩ ?_
    · intro W' hW
      go_split_ands
      go_simp
    refine wpR_op (i := 2) (o := _) (by kernel_rfl) rfl rfl (fun K hK => ?_)
    go_simp
    refine (unhide HT _).mono ?_
    rintro e Y2 ⟨_, rfl, ⟨a3, l3, c3, a4, l4, c4, rfl, hv1, hv2⟩, hb⟩
    have HS2 := hide ((((unhide HS1).later hb).push hv1).push hv2)
    clear HS1
    clear hv1 hv2 hb
    refine hK _ _ ⟨trivial, ⟨((unhide HS2).at 0 rfl).ub.c 0 _ rfl, ((unhide HS2).at 0 rfl).ub.c 1 _ rfl⟩⟩ ?_
    clear hK K
    refine wpR_op (i := 3) (o := _) (by kernel_rfl) rfl rfl (fun K hK => ?_)
    go_simp
    refine (szcmp_any _ _ _ _ _ _ _ _ _ _ _ _ p q r t k _ ((unhide HS2).bgt 3 rfl) ((unhide HS2).bgt 2 rfl) ((unhide HS2).bgt 1 rfl) ((unhide HS2).bgt 0 rfl) (unhide HK6) (unhide HPL) (unhide HQL) (unhide HRS).1 (unhide HRS).2).mono ?_
    rintro e Y3 ⟨rfl, hb⟩
    have HS3 := hide ((unhide HS2).later hb)
    clear HS2
    clear hb
    refine hK _ _ ⟨trivial, ⟨((unhide HS3).at 0 rfl).ub.c 0 _ rfl, ((unhide HS3).at 0 rfl).ub.c 1 _ rfl⟩⟩ ?_
    clear hK K
    rw [unhide HC]
    refine wpR_late (i := 4) (o := _) (by kernel_rfl) rfl rfl (by kernel_rfl) (fun K hK => ?_)
    go_simp
    refine hK _ _ (⟨((unhide HS3).at 0 rfl).ub.c 0 _ rfl, ((unhide HS3).at 0 rfl).ub.c 1 _ rfl⟩) ?_
    clear hK K
    refine wpR_done (by kernel_rfl) ?_
    have hn1 : IntKind.i64.wrap (n + 1) = n + 1 := by rw [IntKind.wrap_i64]; omega
    go_wp2_with fail
    go_ret
    exact ⟨by simp, (unhide HS3).below⟩
theorem parts_any (a1 : Option Addr) (l1 c1 : Nat) (a2 : Option Addr) (l2 c2 : Nat) (p n k g : Nat) (w : World) (ho : OwnU w g 54 #[.slice a1 l1 c1, .slice a2 l2 c2]) (hp : IsBig w (.agg #[.slice a1 l1 c1]) p) (hn : n < 18446744073709551616) (hk : k ≤ 1000000) (hpl : p < 1000000000 ^ k) (hnl : n < 1000000000 ^ k) :
    Calls Tryz.prog 159 #[.int .u64 (n : Int), .pointer (some ⟨g, 0, none⟩)] w fun e w' => ∃ a l c, e = .returned (.agg #[.slice a l c]) ∧ IsBig w' (.agg #[.slice a l c]) (p * n) ∧ Below w.heap.size w w' := by
  have hgw : g < w.heap.size := ho.lt
  obtain ⟨V, hV⟩ : ∃ V, V = w.alloc (.cells #[.slice none 0 0] 51) := ⟨_, rfl⟩
  have HS0 : Hid (St w [(w.heap.size, 51, #[.slice none 0 0])] [(.agg #[.slice a1 l1 c1], p)] V) := by rw [hV]; exact ((St.nil (Below.refl _ w)).push hp).new _ _
  have HO : Hid (OwnU V g 54 #[.slice a1 l1 c1, .slice a2 l2 c2]) := by rw [hV]; exact ho.alloc _
  have HGW := hide hgw
  have HV := hide hV
  have HK := hide hk
  have HPL := hide hpl
  have HNL := hide hnl
  clear hV ho hp hk hpl hnl
  go_enter Tryz.func159, Tryz.ntmps159
  go_upto_region 1 with fail
  rw [← unhide HV]
  clear HV
  refine region_reads 5 (fun _ => True) (fun W' => W'.cell? ⟨g, 0, none⟩ = some (.slice a1 l1 c1)) 6 rfl (by kernel_rfl) ?_
  have HO1 : Hid (OwnU V.drew g 54 #[.slice a1 l1 c1, .slice a2 l2 c2]) := unhide HO
  clear HO
  have HS1 := hide ((unhide HS0).later ((Below.refl _ _).drew))
  clear HS0
  generalize V.drew = U0 at *
  refine wpR_take7 (i := 0) (oi := _) (v := .pointer (some ⟨g, 0, none⟩)) rfl (by kernel_rfl) (by kernel_rfl) (by kernel_rfl) (by kernel_rfl) (fun _ _ _ h => h) (Or.inl ⟨by rfl, ?_⟩) ⟨trivial, (unhide HO1).ub.c 0 _ rfl⟩ ?_
  · intro W' hW
    go_simp
  refine wpR_take7 (i := 1) (oi := _) (v := .agg #[.slice a1 l1 c1]) rfl (by kernel_rfl) (by kernel_rfl) (by kernel_rfl) (by kernel_rfl) (fun _ _ _ h => h) (Or.inl ⟨by rfl, ?_⟩) ⟨trivial, (unhide HO1).ub.c 0 _ rfl⟩ ?_
  · intro W' hW
    go_simp
  refine wpR_take7 (i := 2) (oi := _) (v := .int .u64 (n : Int)) rfl (by kernel_rfl) (by kernel_rfl) (by kernel_rfl) (by kernel_rfl) (fun _ _ _ h => h) (Or.inl ⟨by rfl, ?_⟩) ⟨trivial, (unhide HO1).ub.c 0 _ rfl⟩ ?_
  · intro W' hW
    go_simp
  refine wpR_op (i := 3) (o := _) (by kernel_rfl) rfl rfl (fun K hK => ?_)
  go_simp
  refine (bigOf_any n _ hn).mono ?_
  rintro e U1 ⟨a3, l3, c3, rfl, hv, hb⟩
  have HO2 := hide ((unhide HO1).later hb)
  have HS2 := hide (((unhide HS1).later hb).push hv)
  clear HS1
  clear hv hb HO1
  refine hK _ _ ⟨trivial, (unhide HO2).ub.c 0 _ rfl⟩ ?_
  clear hK K
  refine wpR_op (i := 4) (o := _) (by kernel_rfl) rfl rfl (fun K hK => ?_)
  go_simp
  refine (mulB _ _ p n (p * n) k _ ((unhide HS2).bgt 1 rfl) ((unhide HS2).bgt 0 rfl) (unhide HK) (unhide HPL) (unhide HNL) rfl).mono ?_
  rintro e U2 ⟨a4, l4, c4, rfl, hv, hb⟩
  have HO3 := hide ((unhide HO2).later hb)
  have HS3 := hide (((unhide HS2).later hb).push hv)
  clear HS2
  clear hv hb HO2
  refine hK _ _ ⟨trivial, (unhide HO3).ub.c 0 _ rfl⟩ ?_
  clear hK K
  have u0 := ((unhide HS3).at 0 rfl).ub.c 0 _ rfl
  have u1 := ((unhide HS3).at 0 rfl).ub.f 0 (.slice none 0 0) rfl
  refine wpR_late (i := 5) (o := _) (by kernel_rfl) rfl rfl (by kernel_rfl) (fun K hK => ?_)
  go_simp
  clear u0 u1
  rw [((unhide HS3).at 0 rfl).set1]
  have HO4 := hide ((unhide HO3).other (show g ≠ w.heap.size by have := unhide HGW; omega) #[.slice a4 l4 c4])
  have HS4 := hide (((unhide HS3)).set (nz1 _ _ _) #[.slice a4 l4 c4])
  clear HS3
  generalize U2.setRow w.heap.size #[.slice a4 l4 c4] = U3 at *
  refine hK _ _ ((unhide HO4).ub.c 0 _ rfl) ?_
  clear hK K
  refine wpR_done (by kernel_rfl) ?_
  have u0 := ((unhide HS4).at 0 rfl).ub.c 0 _ rfl
  go_wp2_with fail
  refine bodyPost_ret (v := .agg #[.slice a4 l4 c4]) (by simp [results, Tryz.results159, go_sem, u0]) rfl ⟨_, _, _, rfl, ((unhide HS4).bgt 0 rfl), (unhide HS4).below⟩
end Go.Proofs.YtijifpbpjinmhaaGreatDoor

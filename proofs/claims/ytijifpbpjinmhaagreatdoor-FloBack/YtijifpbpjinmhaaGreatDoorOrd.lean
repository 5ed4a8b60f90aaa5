/- flo: cubitref03.Same (8); the order and the next one, as numbers; what is left of a float less itself. -/
import Derived.Test.YtijifpbpjinmhaaGreatDoorSt2
import Derived.Test.YtijifpbpjinmhaaGreatDoorBigOf
import Derived.Test.YtijifpbpjinmhaaGreatDoorAway
import Derived.Test.YtijifpbpjinmhaaGreatDoorDec
import Derived.Laws.EntriesVeiled
set_option maxHeartbeats 4000000
set_option maxRecDepth 100000
namespace Go.Proofs.YtijifpbpjinmhaaGreatDoor
open Go.RowKit
theorem run_negF (b : Nat) : Op.unary .neg (.float .f64 b) = (pure (.float .f64 (Op.negFloat .f64 b)) : Sem Value) := rfl
attribute [local go_sem] run_bits run_from run_negF
theorem xorF (b : Nat) : Op.negFloat .f64 b = b ^^^ 9223372036854775808 := rfl
theorem xor_off (b : Nat) (h1 : 9223372036854775808 ≤ b) (hb : b < 18446744073709551616) : b ^^^ 9223372036854775808 = b - 9223372036854775808 := by
  have h := xor_top (b - 9223372036854775808) (by omega)
  have e : b = (b - 9223372036854775808) ^^^ 9223372036854775808 := by rw [h]; omega
  conv => lhs; rw [e]
  rw [Nat.xor_assoc, Nat.xor_self, Nat.xor_zero]
theorem gt_max_neg (b : Nat) (hb : b < 18446744073709551616) : (FloatKind.f64.format.order (Op.negFloat .f64 b) 9218868437227405311 == some Ordering.gt) = decide (b = 18442240474082181120) := by
  rw [xorF]
  rcases Nat.lt_or_ge b 9223372036854775808 with h | h
  · rw [xor_top b h, gt_max _ (by omega)]
    rw [Bool.eq_iff_iff, decide_eq_true_eq, decide_eq_true_eq]; omega
  · rw [xor_off b h hb, gt_max _ (by omega)]
    rw [Bool.eq_iff_iff, decide_eq_true_eq, decide_eq_true_eq]; omega
theorem isInf_posC (b : Nat) (d : Bool) (h : (FloatKind.f64.format.order b 9218868437227405311 == some Ordering.gt) = d) (w : World) : Calls Tryz.prog 37 #[.float .f64 b, .int .i64 1] w fun e w' => e = .returned (.bool d) ∧ w' = w := by
  go_enter Tryz.func37, Tryz.ntmps37
  go_wp2
  exact bodyPost_ret (v := .bool d) (by simp [results, Tryz.results37, go_sem]) rfl ⟨rfl, rfl⟩
theorem isInf_pos (b : Nat) (hb : b < 18446744073709551616) (w : World) : Calls Tryz.prog 37 #[.float .f64 b, .int .i64 1] w fun e w' => e = .returned (.bool (decide (b = 9218868437227405312))) ∧ w' = w := isInf_posC b _ (gt_max b hb) w
theorem isInf_negC (b c : Nat) (d : Bool) (hc : Op.negFloat .f64 b = c) (h : (FloatKind.f64.format.order c 9218868437227405311 == some Ordering.gt) = d) (w : World) : Calls Tryz.prog 37 #[.float .f64 b, .int .i64 (-1)] w fun e w' => e = .returned (.bool d) ∧ w' = w := by
  go_enter Tryz.func37, Tryz.ntmps37
  go_wp2
  exact bodyPost_ret (v := .bool d) (by simp [results, Tryz.results37, go_sem]) rfl ⟨rfl, rfl⟩
theorem isInf_neg (b : Nat) (hb : b < 18446744073709551616) (w : World) : Calls Tryz.prog 37 #[.float .f64 b, .int .i64 (-1)] w fun e w' => e = .returned (.bool (decide (b = 18442240474082181120))) ∧ w' = w := isInf_negC b _ _ rfl (gt_max_neg b hb) w
def orF (n : Nat) : Nat := if n < 9223372036854775808 then 18446744073709551615 - n else n - 9223372036854775808
theorem ofRank_low (n m : Nat) (h : bits BinOp.and IntKind.u64 (n : Int) 9223372036854775808 = 0) (h3 : bits BinOp.xor IntKind.u64 IntKind.u64.max (n : Int) = (m : Int)) (w : World) : Calls Tryz.prog 63 #[.int .u64 (n : Int)] w fun e w' => e = .returned (.float .f64 m) ∧ w' = w := by
  go_enter Tryz.func63, Tryz.ntmps63
  go_wp2
  go_ret
  exact ⟨by simp, rfl⟩
theorem ofRank_high (n m : Nat) (h : bits BinOp.and IntKind.u64 (n : Int) 9223372036854775808 = 9223372036854775808) (h3 : bits BinOp.andNot IntKind.u64 (n : Int) 9223372036854775808 = (m : Int)) (w : World) : Calls Tryz.prog 63 #[.int .u64 (n : Int)] w fun e w' => e = .returned (.float .f64 m) ∧ w' = w := by
  go_enter Tryz.func63, Tryz.ntmps63
  go_wp2
  go_ret
  exact ⟨by simp, rfl⟩
theorem ofRank_any (n : Nat) (hb : n < 18446744073709551616) (w : World) : Calls Tryz.prog 63 #[.int .u64 (n : Int)] w fun e w' => e = .returned (.float .f64 (orF n)) ∧ w' = w := by
  have h := andI_top n hb
  by_cases hs : n < 9223372036854775808
  · rw [if_pos hs] at h
    have e : orF n = 18446744073709551615 - n := if_pos hs
    have h3 := u64_xor_nat 18446744073709551615 n (by decide) hb
    rw [Nat.xor_comm, xor_all n hb] at h3
    rw [e]
    exact ofRank_low n _ h h3 w
  · rw [if_neg hs] at h
    have e : orF n = n - 9223372036854775808 := if_neg hs
    have h3 := andNot_top n hb
    rw [show n % 9223372036854775808 = n - 9223372036854775808 by omega] at h3
    rw [e]
    exact ofRank_high n _ h h3 w
theorem isNaNu_any (a : Int) (w : World) : Calls Tryz.prog 114 #[.int .u64 a] w fun e w' => e = .returned (.bool false) ∧ w' = w := by
  go_enter Tryz.func114, Tryz.ntmps114
  go_wp2
  go_ret
  exact ⟨rfl, rfl⟩
theorem cmpu_any (a b : Nat) (w : World) : Calls Tryz.prog 60 #[.int .u64 (a : Int), .int .u64 (b : Int)] w fun e w' => e = .returned (.int .i64 (Cub.cmpN a b)) ∧ w' = w := by
  unfold Cub.cmpN
  by_cases h : a < b
  · rw [if_pos h]
    have h1 : (a : Int) < (b : Int) := by omega
    go_enter Tryz.func60, Tryz.ntmps60
    go_wp2_with (go_at_call 114; refine (isNaNu_any _ _).mono ?_; rintro e w' ⟨rfl, rfl⟩)
    go_ret
    exact ⟨rfl, rfl⟩
  · rw [if_neg h]
    by_cases h2 : b < a
    · rw [if_pos h2]
      have h1 : ¬ (a : Int) < (b : Int) := by omega
      have h3 : (b : Int) < (a : Int) := by omega
      go_enter Tryz.func60, Tryz.ntmps60
      go_wp2_with (go_at_call 114; refine (isNaNu_any _ _).mono ?_; rintro e w' ⟨rfl, rfl⟩)
      go_ret
      exact ⟨rfl, rfl⟩
    · rw [if_neg h2]
      have h1 : ¬ (a : Int) < (b : Int) := by omega
      have h3 : ¬ (b : Int) < (a : Int) := by omega
      go_enter Tryz.func60, Tryz.ntmps60
      go_wp2_with (go_at_call 114; refine (isNaNu_any _ _).mono ?_; rintro e w' ⟨rfl, rfl⟩)
      go_ret
      exact ⟨rfl, rfl⟩
theorem order_any (a b : Nat) (ha : a < 18446744073709551616) (hb : b < 18446744073709551616) (w : World) : Calls Tryz.prog 20 #[.float .f64 a, .float .f64 b] w fun e w' => e = .returned (.int .i64 (Cub.cmpN (rk a) (rk b))) ∧ w' = w := by
  go_enter Tryz.func20, Tryz.ntmps20
  go_wp2_with (first
    | (go_at_call_of 61 (Value.float FloatKind.f64 a); refine (rank_any a ha _).mono ?_; rintro e w' ⟨rfl, rfl⟩)
    | (go_at_call 61; refine (rank_any b hb _).mono ?_; rintro e w' ⟨rfl, rfl⟩)
    | (go_at_call 60; refine (cmpu_any (rk a) (rk b) _).mono ?_; rintro e w' ⟨rfl, rfl⟩))
  go_ret
  exact ⟨rfl, rfl⟩
/-- The next one, up or down. -/
def nextF (b : Nat) (up : Bool) : Nat := if nanB b || (up && decide (b = 9218868437227405312)) || (!up && decide (b = 18442240474082181120)) then b else if up then orF ((rk b + 1) % 18446744073709551616) else orF ((rk b + 18446744073709551615) % 18446744073709551616)
theorem next_core (b : Nat) (up n1 n2 n3 : Bool) (r r1 r2 o1 o2 : Nat) (w : World) (h1 : ∀ W, Calls Tryz.prog 36 #[.float .f64 b] W fun e w' => e = .returned (.bool n1) ∧ w' = W)
    (h2 : ∀ W, Calls Tryz.prog 37 #[.float .f64 b, .int .i64 1] W fun e w' => e = .returned (.bool n2) ∧ w' = W) (h3 : ∀ W, Calls Tryz.prog 37 #[.float .f64 b, .int .i64 (-1)] W fun e w' => e = .returned (.bool n3) ∧ w' = W)
    (hr : ∀ W, Calls Tryz.prog 61 #[.float .f64 b] W fun e w' => e = .returned (.int .u64 (r : Int)) ∧ w' = W) (e1 : IntKind.u64.wrap ((r : Int) + 1) = (r1 : Int)) (e2 : IntKind.u64.wrap ((r : Int) - 1) = (r2 : Int))
    (ho1 : ∀ W, Calls Tryz.prog 63 #[.int .u64 (r1 : Int)] W fun e w' => e = .returned (.float .f64 o1) ∧ w' = W) (ho2 : ∀ W, Calls Tryz.prog 63 #[.int .u64 (r2 : Int)] W fun e w' => e = .returned (.float .f64 o2) ∧ w' = W) :
    Calls Tryz.prog 22 #[.float .f64 b, .bool up] w fun e w' => e = .returned (.float .f64 (if n1 || (up && n2) || (!up && n3) then b else if up then o1 else o2)) ∧ w' = w := by
  have H1 := hide h1
  have H2 := hide h2
  have H3 := hide h3
  have HR := hide hr
  have HO1 := hide ho1
  have HO2 := hide ho2
  clear h1 h2 h3 hr ho1 ho2
  cases n1
  · cases up
    · cases n3
      · go_enter Tryz.func22, Tryz.ntmps22
        go_wp2_with (first
          | (go_at_call 36; refine (unhide H1 _).mono ?_; rintro e w' ⟨rfl, rfl⟩)
          | (go_at_call 37; refine (unhide H3 _).mono ?_; rintro e w' ⟨rfl, rfl⟩)
          | (go_at_call 61; refine (unhide HR _).mono ?_; rintro e w' ⟨rfl, rfl⟩)
          | (go_at_call 63; refine (unhide HO2 _).mono ?_; rintro e w' ⟨rfl, rfl⟩))
        go_ret
        exact ⟨by simp, rfl⟩
      · go_enter Tryz.func22, Tryz.ntmps22
        go_wp2_with (first
          | (go_at_call 36; refine (unhide H1 _).mono ?_; rintro e w' ⟨rfl, rfl⟩)
          | (go_at_call 37; refine (unhide H3 _).mono ?_; rintro e w' ⟨rfl, rfl⟩))
        go_ret
        exact ⟨by simp, rfl⟩
    · cases n2
      · go_enter Tryz.func22, Tryz.ntmps22
        go_wp2_with (first
          | (go_at_call 36; refine (unhide H1 _).mono ?_; rintro e w' ⟨rfl, rfl⟩)
          | (go_at_call 37; refine (unhide H2 _).mono ?_; rintro e w' ⟨rfl, rfl⟩)
          | (go_at_call 61; refine (unhide HR _).mono ?_; rintro e w' ⟨rfl, rfl⟩)
          | (go_at_call 63; refine (unhide HO1 _).mono ?_; rintro e w' ⟨rfl, rfl⟩))
        go_ret
        exact ⟨by simp, rfl⟩
      · go_enter Tryz.func22, Tryz.ntmps22
        go_wp2_with (first
          | (go_at_call 36; refine (unhide H1 _).mono ?_; rintro e w' ⟨rfl, rfl⟩)
          | (go_at_call 37; refine (unhide H2 _).mono ?_; rintro e w' ⟨rfl, rfl⟩))
        go_ret
        exact ⟨by simp, rfl⟩
  · go_enter Tryz.func22, Tryz.ntmps22
    go_wp2_with (go_at_call 36; refine (unhide H1 _).mono ?_; rintro e w' ⟨rfl, rfl⟩)
    go_ret
    exact ⟨by simp, rfl⟩
theorem next_any (b : Nat) (up : Bool) (hb : b < 18446744073709551616) (w : World) : Calls Tryz.prog 22 #[.float .f64 b, .bool up] w fun e w' => e = .returned (.float .f64 (nextF b up)) ∧ w' = w := by
  have hr := rk_lt b
  exact next_core b up _ _ _ (rk b) ((rk b + 1) % 18446744073709551616) ((rk b + 18446744073709551615) % 18446744073709551616) _ _ w (isNaN_any b) (isInf_pos b hb) (isInf_neg b hb) (rank_any b hb) (by rw [IntKind.wrap_u64]; omega) (by rw [IntKind.wrap_u64]; omega) (fun W => ofRank_any _ (Nat.mod_lt _ (by decide)) W) (fun W => ofRank_any _ (Nat.mod_lt _ (by decide)) W)
end Go.Proofs.YtijifpbpjinmhaaGreatDoor
namespace Go.Proofs.YtijifpbpjinmhaaGreatDoor
open Go.RowKit
theorem twoToN (n P k : Nat) (hp : 0 < n) (hn : n ≤ 4000) (hP : 2 ^ n = P) (hk1 : 1 ≤ k) (hk : k ≤ 1000000) (hl : P < 1000000000 ^ k) (h2 : 2 < 1000000000 ^ k) (W : World) : Calls Tryz.prog 74 #[.int .i64 (-(n : Int))] W fun e w' => ∃ v, e = .returned v ∧ IsSz w' v 1 P ∧ Below W.heap.size W w' :=
  twoTo_neg n P W hp hn (fun V x hx => by rw [← hP] at hl ⊢; exact bigPow_any x 2 n k V hx (by omega) hk1 hk hl h2)
theorem twoToP (n P k : Nat) (hn : n ≤ 4000) (hP : 2 ^ n = P) (hk1 : 1 ≤ k) (hk : k ≤ 1000000) (hl : P < 1000000000 ^ k) (h2 : 2 < 1000000000 ^ k) (W : World) : Calls Tryz.prog 74 #[.int .i64 (n : Int)] W fun e w' => ∃ v, e = .returned v ∧ IsSz w' v P 1 ∧ Below W.heap.size W w' :=
  twoTo_pos n P W hn (fun V x hx => by rw [← hP] at hl ⊢; exact bigPow_any x 2 n k V hx (by omega) hk1 hk hl h2)
theorem tenToN (n P : Nat) (hp : 0 < n) (hn : n ≤ 4000) (hP : 1 * 10 ^ n = P) (W : World) : Calls Tryz.prog 48 #[.int .i64 (-(n : Int))] W fun e w' => ∃ v, e = .returned v ∧ IsSz w' v 1 P ∧ Below W.heap.size W w' :=
  tenTo_neg n P W hp hn (fun V x hx => by rw [← hP]; exact shift_any x 1 n 1 V hx (by decide) (by decide) (by omega))
/-- A float's size: its numerator, its denominator. -/
def SizeAns (f a c : Nat) : Prop := ∀ W : World, Calls Tryz.prog 38 #[.float .f64 f] W fun e w' => ∃ v, e = .returned v ∧ IsSz w' v a c ∧ Below W.heap.size W w'
theorem size_lo : SizeAns 4591870180066957721 (7205759403792793 * 1) (1 * 2 ^ 56) := fun W => sizeOf_any 4591870180066957721 7205759403792793 (-56) 1 (2 ^ 56) 50 W cut_lo (by decide) (twoToN 56 (2 ^ 56) 50 (by decide) (by decide) rfl (by decide) (by decide) (by decide +kernel) (by decide +kernel)) (by decide) (by decide +kernel)
theorem size_hi : SizeAns 4591870180066957722 (7205759403792794 * 1) (1 * 2 ^ 56) := fun W => sizeOf_any 4591870180066957722 7205759403792794 (-56) 1 (2 ^ 56) 50 W cut_hi (by decide) (twoToN 56 (2 ^ 56) 50 (by decide) (by decide) rfl (by decide) (by decide) (by decide +kernel) (by decide +kernel)) (by decide) (by decide +kernel)
theorem sizeZ (P : Nat) (hP : 2 ^ 1074 = P) (hl : P < 1000000000 ^ 50) : SizeAns 0 (0 * 1) (1 * P) := fun W => sizeOf_any 0 0 (-1074) 1 P 50 W cut_zero (by decide) (twoToN 1074 P 50 (by decide) (by decide) hP (by decide) (by decide) hl (by decide +kernel)) (by decide) ⟨by decide +kernel, by decide +kernel, by decide +kernel, hl⟩
attribute [local go_sem] run_bits run_from
def nearO (c : Int) (f : Nat) : Bool := decide (c < 0) || (decide (c = 0) && decide (f % 2 = 0))
theorem nearer_any (a1 : Option Addr) (l1 c1' : Nat) (a2 : Option Addr) (l2 c2' : Nat) (p q d1 c1 d2 c2 k f g gx : Nat) (c : Int) (w : World) (hx : OwnU w gx 54 #[.slice a1 l1 c1', .slice a2 l2 c2']) (hp : IsBig w (.agg #[.slice a1 l1 c1']) p) (hq : IsBig w (.agg #[.slice a2 l2 c2']) q)
    (haf : ∀ W, Below w.heap.size w W → Calls Tryz.prog 126 #[.agg #[.slice a1 l1 c1', .slice a2 l2 c2'], .float .f64 f] W fun e w' => ∃ v, e = .returned v ∧ IsSz w' v d1 c1 ∧ Below W.heap.size W w') (hag : ∀ W, Below w.heap.size w W → Calls Tryz.prog 126 #[.agg #[.slice a1 l1 c1', .slice a2 l2 c2'], .float .f64 g] W fun e w' => ∃ v, e = .returned v ∧ IsSz w' v d2 c2 ∧ Below W.heap.size W w')
    (hk : k ≤ 1000000) (hl : d1 < 1000000000 ^ k ∧ c1 < 1000000000 ^ k ∧ d2 < 1000000000 ^ k ∧ c2 < 1000000000 ^ k) (hc : Cub.cmpN (d1 * c2) (d2 * c1) = c) (hcc : c = -1 ∨ c = 0 ∨ c = 1) :
    Calls Tryz.prog 125 #[.float .f64 f, .float .f64 g, .pointer (some ⟨gx, 0, none⟩)] w fun e w' => e = .returned (.bool (nearO c f)) ∧ Below w.heap.size w w' := by
  have hxs : ∀ W, Below w.heap.size w W → OwnU W gx 54 #[.slice a1 l1 c1', .slice a2 l2 c2'] := fun W hb => hx.later hb
  have HP0 := hide hp
  have HQ0 := hide hq
  have HXS := hide hxs
  have HAF := hide haf
  have HAG := hide hag
  have HK := hide hk
  have HL := hide hl
  have HB : Hid (Below w.heap.size w w) := Below.refl _ _
  have hcs : Cub.cmpN (d1 * c2) (d2 * c1) = c := hc
  have HC := hide hcs
  clear hp hq hx hxs haf hag hk hl hc hcs
  go_enter Tryz.func125, Tryz.ntmps125
  go_upto_region 1 with fail
  have HS0 : Hid (St w [] [] w) := St.nil (Below.refl _ _)
  clear HB
  refine region_reads 7 (fun _ => True) (fun W' => W'.cell? ⟨gx, 0, none⟩ = some (.slice a1 l1 c1') ∧ W'.cell? ⟨gx, 1, none⟩ = some (.slice a2 l2 c2')) 8 rfl (by kernel_rfl) ?_
  have HS1 := hide ((unhide HS0).later ((Below.refl _ _).drew))
  clear HS0
  generalize w.drew = U0 at *
  refine wpR_take7 (i := 0) (oi := _) (v := .agg #[.slice a1 l1 c1', .slice a2 l2 c2']) rfl (by kernel_rfl) (by kernel_rfl) (by kernel_rfl) (by kernel_rfl) (fun _ _ _ h => h) (Or.inl ⟨by rfl, ?_⟩) ⟨trivial, ⟨(unhide HXS _ (unhide HS1).below).ub.c 0 _ rfl, (unhide HXS _ (unhide HS1).below).ub.c 1 _ rfl⟩⟩ ?_
  · intro W' hW
    go_split_ands
    go_simp
  refine wpR_take7 (i := 1) (oi := _) (v := .float .f64 f) rfl (by kernel_rfl) (by kernel_rfl) (by kernel_rfl) (by kernel_rfl) (fun _ _ _ h => h) (Or.inl ⟨by rfl, ?_⟩) ⟨trivial, ⟨(unhide HXS _ (unhide HS1).below).ub.c 0 _ rfl, (unhide HXS _ (unhide HS1).below).ub.c 1 _ rfl⟩⟩ ?_
  · intro W' hW
    go_split_ands
    go_simp
  refine wpR_take7 (i := 3) (oi := _) (v := .agg #[.slice a1 l1 c1', .slice a2 l2 c2']) rfl (by kernel_rfl) (by kernel_rfl) (by kernel_rfl) (by kernel_rfl) (fun _ _ _ h => h) (Or.inl ⟨by rfl, ?_⟩) ⟨trivial, ⟨(unhide HXS _ (unhide HS1).below).ub.c 0 _ rfl, (unhide HXS _ (unhide HS1).below).ub.c 1 _ rfl⟩⟩ ?_
  · intro W' hW
    go_split_ands
    go_simp
  refine wpR_take7 (i := 4) (oi := _) (v := .float .f64 g) rfl (by kernel_rfl) (by kernel_rfl) (by kernel_rfl) (by kernel_rfl) (fun _ _ _ h => h) (Or.inl ⟨by rfl, ?_⟩) ⟨trivial, ⟨(unhide HXS _ (unhide HS1).below).ub.c 0 _ rfl, (unhide HXS _ (unhide HS1).below).ub.c 1 _ rfl⟩⟩ ?_
  · intro W' hW
    go_split_ands
    go_simp
  refine wpR_op (i := 2) (o := _) (by kernel_rfl) rfl rfl (fun K hK => ?_)
  go_simp
  refine (unhide HAF _ (unhide HS1).below).mono ?_
  rintro e U1 ⟨_, rfl, ⟨a3, l3, c3, a4, l4, c4, rfl, hv1, hv2⟩, hb⟩
  have HS2 := hide ((((unhide HS1).later hb).push hv1).push hv2)
  clear HS1
  clear hv1 hv2 hb
  refine hK _ _ ⟨trivial, ⟨(unhide HXS _ (unhide HS2).below).ub.c 0 _ rfl, (unhide HXS _ (unhide HS2).below).ub.c 1 _ rfl⟩⟩ ?_
  clear hK K
  refine wpR_op (i := 5) (o := _) (by kernel_rfl) rfl rfl (fun K hK => ?_)
  go_simp
  refine (unhide HAG _ (unhide HS2).below).mono ?_
  rintro e U2 ⟨_, rfl, ⟨a5, l5, c5, a6, l6, c6, rfl, hv1, hv2⟩, hb⟩
  have HS3 := hide ((((unhide HS2).later hb).push hv1).push hv2)
  clear HS2
  clear hv1 hv2 hb
  refine hK _ _ ⟨trivial, ⟨(unhide HXS _ (unhide HS3).below).ub.c 0 _ rfl, (unhide HXS _ (unhide HS3).below).ub.c 1 _ rfl⟩⟩ ?_
  clear hK K
  refine wpR_op (i := 6) (o := _) (by kernel_rfl) rfl rfl (fun K hK => ?_)
  go_simp
  refine (szcmp_any _ _ _ _ _ _ _ _ _ _ _ _ d1 c1 d2 c2 k _ ((unhide HS3).bgt 3 rfl) ((unhide HS3).bgt 2 rfl) ((unhide HS3).bgt 1 rfl) ((unhide HS3).bgt 0 rfl) (unhide HK) (unhide HL).1 (unhide HL).2.1 (unhide HL).2.2.1 (unhide HL).2.2.2).mono ?_
  rintro e U3 ⟨rfl, hb⟩
  have HS4 := hide ((unhide HS3).later hb)
  clear HS3
  clear hb
  refine hK _ _ ⟨trivial, ⟨(unhide HXS _ (unhide HS4).below).ub.c 0 _ rfl, (unhide HXS _ (unhide HS4).below).ub.c 1 _ rfl⟩⟩ ?_
  clear hK K
  rw [unhide HC]
  refine wpR_late (i := 7) (o := _) (by kernel_rfl) rfl rfl (by kernel_rfl) (fun K hK => ?_)
  go_simp
  refine hK _ _ (⟨(unhide HXS _ (unhide HS4).below).ub.c 0 _ rfl, (unhide HXS _ (unhide HS4).below).ub.c 1 _ rfl⟩) ?_
  clear hK K
  refine wpR_done (by kernel_rfl) ?_
  rcases hcc with rfl | rfl | rfl
  · skip
    go_wp2_with fail
    go_ret
    exact ⟨by simp [nearO], (unhide HS4).below⟩
  · rcases Nat.mod_two_eq_zero_or_one f with h | h
    · have h2 : (f : Int) % 2 = 0 := by omega
      go_wp2_with fail
      go_ret
      exact ⟨by simp [nearO, h], (unhide HS4).below⟩
    · have h2 : (f : Int) % 2 = 1 := by omega
      go_wp2_with fail
      go_ret
      exact ⟨by simp [nearO, h], (unhide HS4).below⟩
  · skip
    go_wp2_with fail
    go_ret
    exact ⟨by simp [nearO], (unhide HS4).below⟩
end Go.Proofs.YtijifpbpjinmhaaGreatDoor
namespace Go.Proofs.YtijifpbpjinmhaaGreatDoor
open Go.RowKit
theorem info81 : (Tryz.prog.info? 128).map (·.size) = some 5 := by kernel_rfl
theorem nz81 : ∀ (i : Nat) x, (#[.slice none 0 0, .slice none 0 0, .slice none 0 0, .slice none 0 0, .bool false] : Array Value)[i]? = some x → ∀ k n, x ≠ .int k n
  | 0, _, h => by cases h; exact NI _ _ _
  | 1, _, h => by cases h; exact NI _ _ _
  | 2, _, h => by cases h; exact NI _ _ _
  | 3, _, h => by cases h; exact NI _ _ _
  | 4, _, h => by cases h; exact fun _ _ e => by cases e
  | i + 5, _, h => by simp at h
theorem res81 {fn : Func} {p : Tmp} (h : fn.results = #[.cell p 128]) (tmps : Array Value) (w : World) (g : Nat) (vs : Array Value) (hl : vs.size = 5) (hp : tmps.getD p undef = .pointer (some ⟨g, 0, none⟩)) (ho : OwnU w g 128 vs) :
    (results fn tmps).run Tryz.prog w = .ok (.agg vs) w := by
  rw [results_cell1 h, hp]
  simp only [asAddr, Sem.run_pure, Result.andThen_ok]
  exact run_loadVar_row w g 128 128 vs (0, 0) _ ho Tryz.underlying128 rfl (by rw [info81, hl])
theorem roomOf_hi (w : World) : Calls Tryz.prog 106 #[.float .f64 4591870180066957722] w fun e w' => ∃ (a1 : Option Addr) (l1 c1 : Nat) (a2 : Option Addr) (l2 c2 : Nat) (a3 : Option Addr) (l3 c3 : Nat) (a4 : Option Addr) (l4 c4 : Nat), e = .returned (.agg #[.slice a1 l1 c1, .slice a2 l2 c2, .slice a3 l3 c3, .slice a4 l4 c4, .bool true]) ∧ IsBig w' (.agg #[.slice a1 l1 c1]) (1 * 28823037615171176) ∧ IsBig w' (.agg #[.slice a2 l2 c2]) (1 * 2) ∧ IsBig w' (.agg #[.slice a3 l3 c3]) (1 * 2) ∧ IsBig w' (.agg #[.slice a4 l4 c4]) 288230376151711744 ∧ Below w.heap.size w w' := by
  have HTW : Hid (∀ W, Calls Tryz.prog 74 #[.int .i64 (-58)] W fun e w' => ∃ v, e = .returned v ∧ IsSz w' v 1 288230376151711744 ∧ Below W.heap.size W w') := fun W => twoToN 58 288230376151711744 50 (by decide) (by decide) (by decide +kernel) (by decide) (by decide) (by decide +kernel) (by decide +kernel) W
  obtain ⟨V, hV⟩ : ∃ V, V = (w.alloc (.cells #[.slice none 0 0, .slice none 0 0, .slice none 0 0, .slice none 0 0, .bool false] 128)) := ⟨_, rfl⟩
  have HS0 : Hid (St w [(w.heap.size, 128, #[.slice none 0 0, .slice none 0 0, .slice none 0 0, .slice none 0 0, .bool false])] [] V) := by rw [hV]; have h := ((St.nil (Below.refl _ w)).new #[.slice none 0 0, .slice none 0 0, .slice none 0 0, .slice none 0 0, .bool false] 128); (try simp only [World.size_alloc] at h); exact h
  have HV := hide hV
  clear hV
  go_enter Tryz.func106, Tryz.ntmps106
  go_upto_region 1 with fail
  rw [← unhide HV]
  clear HV
  go_upto_region 5 with (go_at_call 66; go_must (refine (cut_hi _).mono ?_; rintro e ww ⟨rfl, hw⟩; have hw2 := hw.symm; subst hw2; clear hw))
  go_upto_region 6 with (first
    | (have hchk := HS0; clear hchk; go_at_call 74; go_must (refine (unhide HTW _).mono ?_; rintro e U1 ⟨_, rfl, ⟨a1, l1, c1, a2, l2, c2, rfl, hv1, hv2⟩, hb⟩; have HS1 := hide ((((unhide HS0).later hb).push hv1).push hv2); clear HS0; clear hv1 hv2 hb))
    | (have hchk := HS1; clear hchk; refine storeT 54 2 info59 rfl (.tmp 6) (.tmp 21) rfl U1.heap.size #[.slice none 0 0, .slice none 0 0] #[.slice a1 l1 c1, .slice a2 l2 c2] rfl rfl rfl rfl (OwnU.new _ _ _) (by kernel_rfl) ?_))
  have HS2 := hide ((unhide HS1).new #[.slice none 0 0, .slice none 0 0] 54)
  clear HS1
  generalize U1.alloc (.cells #[.slice none 0 0, .slice none 0 0] 54) = U2 at *
  generalize U1.heap.size = g6 at *
  have HS3 := hide (((unhide HS2)).set (nz2 _ _ _ _ _ _) #[.slice a1 l1 c1, .slice a2 l2 c2])
  clear HS2
  generalize U2.setRow g6 #[.slice a1 l1 c1, .slice a2 l2 c2] = U3 at *
  have hpn : ∀ (a : Act) (v : Value), a.put none v = a := fun _ _ => rfl
  simp only [hpn]
  clear hpn
  have hw4 : IntKind.u64.wrap 28823037615171176 = 28823037615171176 := by decide
  go_upto_region 7 with fail
  refine region_reads 15 (fun _ => True) (fun W' => W'.cell? ⟨g6, 1, none⟩ = some (.slice a2 l2 c2)) 16 rfl (by kernel_rfl) ?_
  have HS4 := hide ((unhide HS3).later ((Below.refl _ _).drew))
  clear HS3
  generalize U3.drew = U4 at *
  refine wpR_take7 (i := 0) (oi := _) (v := .func (.func 159) #[] #[.pointer (some ⟨g6, 0, none⟩)]) rfl (by kernel_rfl) (by kernel_rfl) (by kernel_rfl) (by kernel_rfl) (fun _ _ _ h => h) (Or.inl ⟨by rfl, ?_⟩) ⟨trivial, ((unhide HS4).at 0 rfl).ub.c 1 _ rfl⟩ ?_
  · intro W' hW
    go_simp
  refine wpR_take7 (i := 1) (oi := _) (v := .int .u64 7205759403792794) rfl (by kernel_rfl) (by kernel_rfl) (by kernel_rfl) (by kernel_rfl) (fun _ _ _ h => h) (Or.inl ⟨by rfl, ?_⟩) ⟨trivial, ((unhide HS4).at 0 rfl).ub.c 1 _ rfl⟩ ?_
  · intro W' hW
    go_simp
  refine wpR_take7 (i := 2) (oi := _) (v := .int .u64 28823037615171176) rfl (by kernel_rfl) (by kernel_rfl) (by kernel_rfl) (by kernel_rfl) (fun _ _ _ h => h) (Or.inl ⟨by rfl, ?_⟩) ⟨trivial, ((unhide HS4).at 0 rfl).ub.c 1 _ rfl⟩ ?_
  · intro W' hW
    go_simp
  refine wpR_take7 (i := 4) (oi := _) (v := .func (.func 159) #[] #[.pointer (some ⟨g6, 0, none⟩)]) rfl (by kernel_rfl) (by kernel_rfl) (by kernel_rfl) (by kernel_rfl) (fun _ _ _ h => h) (Or.inl ⟨by rfl, ?_⟩) ⟨trivial, ((unhide HS4).at 0 rfl).ub.c 1 _ rfl⟩ ?_
  · intro W' hW
    go_simp
  refine wpR_take7 (i := 5) (oi := _) (v := .int .u64 2) rfl (by kernel_rfl) (by kernel_rfl) (by kernel_rfl) (by kernel_rfl) (fun _ _ _ h => h) (Or.inl ⟨by rfl, ?_⟩) ⟨trivial, ((unhide HS4).at 0 rfl).ub.c 1 _ rfl⟩ ?_
  · intro W' hW
    go_simp
  refine wpR_take7 (i := 7) (oi := _) (v := .func (.func 159) #[] #[.pointer (some ⟨g6, 0, none⟩)]) rfl (by kernel_rfl) (by kernel_rfl) (by kernel_rfl) (by kernel_rfl) (fun _ _ _ h => h) (Or.inl ⟨by rfl, ?_⟩) ⟨trivial, ((unhide HS4).at 0 rfl).ub.c 1 _ rfl⟩ ?_
  · intro W' hW
    go_simp
  refine wpR_take7 (i := 9) (oi := _) (v := .pointer (some ⟨g6, 1, none⟩)) rfl (by kernel_rfl) (by kernel_rfl) (by kernel_rfl) (by kernel_rfl) (fun _ _ _ h => h) (Or.inl ⟨by rfl, ?_⟩) ⟨trivial, ((unhide HS4).at 0 rfl).ub.c 1 _ rfl⟩ ?_
  · intro W' hW
    go_simp
  refine wpR_take7 (i := 10) (oi := _) (v := .agg #[.slice a2 l2 c2]) rfl (by kernel_rfl) (by kernel_rfl) (by kernel_rfl) (by kernel_rfl) (fun _ _ _ h => h) (Or.inl ⟨by rfl, ?_⟩) ⟨trivial, ((unhide HS4).at 0 rfl).ub.c 1 _ rfl⟩ ?_
  · intro W' hW
    go_simp
  refine wpR_take7 (i := 11) (oi := _) (v := .int .u64 7205759403792794) rfl (by kernel_rfl) (by kernel_rfl) (by kernel_rfl) (by kernel_rfl) (fun _ _ _ h => h) (Or.inl ⟨by rfl, ?_⟩) ⟨trivial, ((unhide HS4).at 0 rfl).ub.c 1 _ rfl⟩ ?_
  · intro W' hW
    go_simp
  refine wpR_take7 (i := 12) (oi := _) (v := .int .u64 0) rfl (by kernel_rfl) (by kernel_rfl) (by kernel_rfl) (by kernel_rfl) (fun _ _ _ h => h) (Or.inl ⟨by rfl, ?_⟩) ⟨trivial, ((unhide HS4).at 0 rfl).ub.c 1 _ rfl⟩ ?_
  · intro W' hW
    go_simp
  refine wpR_take7 (i := 13) (oi := _) (v := .bool true) rfl (by kernel_rfl) (by kernel_rfl) (by kernel_rfl) (by kernel_rfl) (fun _ _ _ h => h) (Or.inl ⟨by rfl, ?_⟩) ⟨trivial, ((unhide HS4).at 0 rfl).ub.c 1 _ rfl⟩ ?_
  · intro W' hW
    go_simp
  refine wpR_op (i := 3) (o := _) (by kernel_rfl) rfl rfl (fun K hK => ?_)
  go_simp
  refine (parts_any _ _ _ _ _ _ 1 28823037615171176 50 g6 _ ((unhide HS4).at 0 rfl) ((unhide HS4).bgt 1 rfl) (by decide) (by decide) (by decide +kernel) (by decide +kernel)).mono ?_
  rintro e U5 ⟨a3, l3, c3, rfl, hv, hb⟩
  have HS5 := hide (((unhide HS4).later hb).push hv)
  clear HS4
  clear hv hb
  refine hK _ _ ⟨trivial, ((unhide HS5).at 0 rfl).ub.c 1 _ rfl⟩ ?_
  clear hK K
  refine wpR_op (i := 6) (o := _) (by kernel_rfl) rfl rfl (fun K hK => ?_)
  go_simp
  refine (parts_any _ _ _ _ _ _ 1 2 50 g6 _ ((unhide HS5).at 0 rfl) ((unhide HS5).bgt 2 rfl) (by decide) (by decide) (by decide +kernel) (by decide +kernel)).mono ?_
  rintro e U6 ⟨a4, l4, c4, rfl, hv, hb⟩
  have HS6 := hide (((unhide HS5).later hb).push hv)
  clear HS5
  clear hv hb
  refine hK _ _ ⟨trivial, ((unhide HS6).at 0 rfl).ub.c 1 _ rfl⟩ ?_
  clear hK K
  refine wpR_op (i := 8) (o := _) (by kernel_rfl) rfl rfl (fun K hK => ?_)
  go_simp
  refine (parts_any _ _ _ _ _ _ 1 2 50 g6 _ ((unhide HS6).at 0 rfl) ((unhide HS6).bgt 3 rfl) (by decide) (by decide) (by decide +kernel) (by decide +kernel)).mono ?_
  rintro e U7 ⟨a5, l5, c5, rfl, hv, hb⟩
  have HS7 := hide (((unhide HS6).later hb).push hv)
  clear HS6
  clear hv hb
  refine hK _ _ ⟨trivial, ((unhide HS7).at 0 rfl).ub.c 1 _ rfl⟩ ?_
  clear hK K
  refine wpR_op (i := 14) (o := _) (by kernel_rfl) rfl rfl (fun K hK => ?_)
  go_simp
  refine hK _ _ ⟨trivial, ((unhide HS7).at 0 rfl).ub.c 1 _ rfl⟩ ?_
  clear hK K
  refine wpR_late (i := 15) (o := _) (by kernel_rfl) rfl rfl (by kernel_rfl) (fun K hK => ?_)
  refine wp_store_row 128 (.tmp 2) (.tmp 37) rfl w.heap.size #[.slice a3 l3 c3, .slice a4 l4 c4, .slice a5 l5 c5, .slice a2 l2 c2, .bool true] rfl rfl 128 _ ((unhide HS7).at 1 rfl) (by rw [info81]; rfl) rfl (by kernel_rfl) ?_
  have HS8 := hide (((unhide HS7).rot).set nz81 #[.slice a3 l3 c3, .slice a4 l4 c4, .slice a5 l5 c5, .slice a2 l2 c2, .bool true])
  clear HS7
  generalize U7.setRow w.heap.size #[.slice a3 l3 c3, .slice a4 l4 c4, .slice a5 l5 c5, .slice a2 l2 c2, .bool true] = U8 at *
  refine hK _ _ (((unhide HS8).at 1 rfl).ub.c 1 _ rfl) ?_
  clear hK K
  refine wpR_done (by kernel_rfl) ?_
  go_wp2_with fail
  exact bodyPost_ret (v := .agg #[.slice a3 l3 c3, .slice a4 l4 c4, .slice a5 l5 c5, .slice a2 l2 c2, .bool true]) (res81 Tryz.results106 _ _ w.heap.size _ rfl rfl ((unhide HS8).at 0 rfl)) rfl ⟨_, _, _, _, _, _, _, _, _, _, _, _, rfl, ((unhide HS8).bgt 2 rfl), ((unhide HS8).bgt 1 rfl), ((unhide HS8).bgt 0 rfl), ((unhide HS8).bgt 3 rfl), (unhide HS8).below⟩
theorem dec_cond : ∀ n, n < 17 → 0 < n → (1 * 28823037615171176 * (1 * 10 ^ n) % (288230376151711744 * 1) < 1 * 2 * (1 * 10 ^ n) ∧ 1 * 2 * (1 * 10 ^ n) < 288230376151711744 * 1 - 1 * 28823037615171176 * (1 * 10 ^ n) % (288230376151711744 * 1) ∧ 1 * 10 ^ n < 1000000000 ^ 50) := by decide +kernel
theorem dec_any (a1 : Option Addr) (l1 c1 : Nat) (a2 : Option Addr) (l2 c2 : Nat) (a3 : Option Addr) (l3 c3 : Nat) (a4 : Option Addr) (l4 c4 : Nat) (n : Nat) (w : World) (h1 : IsBig w (.agg #[.slice a1 l1 c1]) (1 * 28823037615171176)) (h2 : IsBig w (.agg #[.slice a2 l2 c2]) (1 * 2)) (h3 : IsBig w (.agg #[.slice a3 l3 c3]) (1 * 2)) (h4 : IsBig w (.agg #[.slice a4 l4 c4]) 288230376151711744) (hn : n < 17) (h0 : 0 < n) :
    Calls Tryz.prog 110 #[.agg #[.slice a1 l1 c1, .slice a2 l2 c2, .slice a3 l3 c3, .slice a4 l4 c4, .bool true], .int .i64 (n : Int), .int .i64 0] w fun e w' => ∃ a l c, e = .returned (.tuple #[.agg #[.slice a l c], .bool true]) ∧ IsBig w' (.agg #[.slice a l c]) (1 * 28823037615171176 * (1 * 10 ^ n) / (288230376151711744 * 1)) ∧ Below w.heap.size w w' :=
  decimal_low _ _ _ _ _ _ _ _ _ _ _ _ true (1 * 28823037615171176) (1 * 2) (1 * 2) 288230376151711744 (1 * 10 ^ n) n 50 w h1 h2 h3 h4 (by omega) (fun W => tenToN n (1 * 10 ^ n) h0 (by omega) rfl W) (by decide) (by decide) ⟨by decide +kernel, by decide +kernel, by decide +kernel, by decide +kernel, (dec_cond n hn h0).2.2, by decide +kernel⟩ (dec_cond n hn h0).1 (dec_cond n hn h0).2.1
theorem short1_any (a1 : Option Addr) (l1 c1 : Nat) (a2 : Option Addr) (l2 c2 : Nat) (a3 : Option Addr) (l3 c3 : Nat) (a4 : Option Addr) (l4 c4 : Nat) (h gr gn : Nat) (w : World) (h1 : IsBig w (.agg #[.slice a1 l1 c1]) (1 * 28823037615171176)) (h2 : IsBig w (.agg #[.slice a2 l2 c2]) (1 * 2)) (h3 : IsBig w (.agg #[.slice a3 l3 c3]) (1 * 2)) (h4 : IsBig w (.agg #[.slice a4 l4 c4]) 288230376151711744) (hh : h < 16) (hr : OwnU w gr 128 #[.slice a1 l1 c1, .slice a2 l2 c2, .slice a3 l3 c3, .slice a4 l4 c4, .bool true]) (hnb : OwnU w gn 3 #[.int .i64 0]) :
    Calls Tryz.prog 109 #[.int .i64 (h : Int), .pointer (some ⟨gr, 0, none⟩), .pointer (some ⟨gn, 0, none⟩)] w fun e w' => e = .returned (.bool true) ∧ Below w.heap.size w w' := by
  have hdec : Calls Tryz.prog 110 #[.agg #[.slice a1 l1 c1, .slice a2 l2 c2, .slice a3 l3 c3, .slice a4 l4 c4, .bool true], .int .i64 ((h : Int) + 1), .int .i64 0] w fun e w' => ∃ a l c, e = .returned (.tuple #[.agg #[.slice a l c], .bool true]) ∧ Below w.heap.size w w' := by
    have e : ((h : Int) + 1) = ((h + 1 : Nat) : Int) := by omega
    rw [e]
    refine (dec_any _ _ _ _ _ _ _ _ _ _ _ _ (h + 1) w h1 h2 h3 h4 (by omega) (by omega)).mono ?_
    rintro e w' ⟨a, l, c, rfl, _, hb⟩
    exact ⟨a, l, c, rfl, hb⟩
  have u0 : w.cell? ⟨gr, 0, none⟩ = some (.slice a1 l1 c1) := hr.ub.c 0 _ rfl
  have u1 : w.cell? ⟨gr, 1, none⟩ = some (.slice a2 l2 c2) := hr.ub.c 1 _ rfl
  have u2 : w.cell? ⟨gr, 2, none⟩ = some (.slice a3 l3 c3) := hr.ub.c 2 _ rfl
  have u3 : w.cell? ⟨gr, 3, none⟩ = some (.slice a4 l4 c4) := hr.ub.c 3 _ rfl
  have u4 : w.cell? ⟨gr, 4, none⟩ = some (.bool true) := hr.ub.c 4 _ rfl
  have u5 : w.cell? ⟨gn, 0, none⟩ = some (.int .i64 0) := hnb.ub.c 0 _ rfl
  have hw : IntKind.i64.wrap ((h : Int) + 1) = (h : Int) + 1 := by rw [IntKind.wrap_i64]; omega
  have HDEC := hide hdec
  clear h1 h2 h3 h4 hr hnb hdec
  go_enter Tryz.func109, Tryz.ntmps109
  go_wp2_with (go_at_call 110; go_must (refine (unhide HDEC).mono ?_; rintro e w1 ⟨a5, l5, c5, rfl, hb⟩; have HB := hide hb; clear hb u0 u1 u2 u3 u4 u5))
  go_ret
  exact ⟨rfl, (unhide HB).alloc (unhide HB).size _⟩
theorem search_any (a1 : Option Addr) (l1 c1 : Nat) (a2 : Option Addr) (l2 c2 : Nat) (a3 : Option Addr) (l3 c3 : Nat) (a4 : Option Addr) (l4 c4 : Nat) (gr gn : Nat) (w : World) (h1 : IsBig w (.agg #[.slice a1 l1 c1]) (1 * 28823037615171176)) (h2 : IsBig w (.agg #[.slice a2 l2 c2]) (1 * 2)) (h3 : IsBig w (.agg #[.slice a3 l3 c3]) (1 * 2)) (h4 : IsBig w (.agg #[.slice a4 l4 c4]) 288230376151711744) (hr : OwnU w gr 128 #[.slice a1 l1 c1, .slice a2 l2 c2, .slice a3 l3 c3, .slice a4 l4 c4, .bool true]) (hnb : OwnU w gn 3 #[.int .i64 0]) :
    Calls Tryz.prog 108 #[.int .i64 16, .func (.func 109) #[] #[.pointer (some ⟨gr, 0, none⟩), .pointer (some ⟨gn, 0, none⟩)]] w fun e w' => e = .returned (.int .i64 0) ∧ Below w.heap.size w w' := by
  have hC : ∀ (h : Nat) W, h < 16 → Below w.heap.size w W → Calls Tryz.prog 109 #[.int .i64 (h : Int), .pointer (some ⟨gr, 0, none⟩), .pointer (some ⟨gn, 0, none⟩)] W fun e w' => e = .returned (.bool true) ∧ Below W.heap.size W w' := fun h W hh hb => short1_any _ _ _ _ _ _ _ _ _ _ _ _ h gr gn W (h1.later hb) (h2.later hb) (h3.later hb) (h4.later hb) hh (hr.later hb) (hnb.later hb)
  have HC := hide hC
  have HB0 : Hid (Below w.heap.size w w) := Below.refl _ _
  clear h1 h2 h3 h4 hr hnb hC
  go_enter Tryz.func108, Tryz.ntmps108
  go_wp2_with fail
  go_loopw [5, 6] (fun i j wr => i = .int .i64 0 ∧ (j = .int .i64 16 ∨ j = .int .i64 8 ∨ j = .int .i64 4 ∨ j = .int .i64 2 ∨ j = .int .i64 1 ∨ j = .int .i64 0) ∧ Hid (Below w.heap.size w wr)) (fun _ j _ => (intOf j).toNat)
  case atStart => exact ⟨rfl, Or.inl rfl, HB0⟩
  case round =>
    obtain ⟨rfl, h, HB⟩ := hrel
    rcases h with rfl | rfl | rfl | rfl | rfl | rfl
    · go_wp2_with (go_at_call 109; go_must (refine (unhide HC 8 _ (by decide) (unhide HB)).mono ?_; rintro e w1 ⟨rfl, hb⟩; have HB1 : Hid (Below w.heap.size w w1) := (unhide HB).trans (hb.mono (unhide HB).size); clear hb))
      go_roundw
      case rel => exact ⟨rfl, Or.inr (Or.inl rfl), HB1⟩
      case measure => decide
    · go_wp2_with (go_at_call 109; go_must (refine (unhide HC 4 _ (by decide) (unhide HB)).mono ?_; rintro e w1 ⟨rfl, hb⟩; have HB1 : Hid (Below w.heap.size w w1) := (unhide HB).trans (hb.mono (unhide HB).size); clear hb))
      go_roundw
      case rel => exact ⟨rfl, Or.inr (Or.inr (Or.inl rfl)), HB1⟩
      case measure => decide
    · go_wp2_with (go_at_call 109; go_must (refine (unhide HC 2 _ (by decide) (unhide HB)).mono ?_; rintro e w1 ⟨rfl, hb⟩; have HB1 : Hid (Below w.heap.size w w1) := (unhide HB).trans (hb.mono (unhide HB).size); clear hb))
      go_roundw
      case rel => exact ⟨rfl, Or.inr (Or.inr (Or.inr (Or.inl rfl))), HB1⟩
      case measure => decide
    · go_wp2_with (go_at_call 109; go_must (refine (unhide HC 1 _ (by decide) (unhide HB)).mono ?_; rintro e w1 ⟨rfl, hb⟩; have HB1 : Hid (Below w.heap.size w w1) := (unhide HB).trans (hb.mono (unhide HB).size); clear hb))
      go_roundw
      case rel => exact ⟨rfl, Or.inr (Or.inr (Or.inr (Or.inr (Or.inl rfl)))), HB1⟩
      case measure => decide
    · go_wp2_with (go_at_call 109; go_must (refine (unhide HC 0 _ (by decide) (unhide HB)).mono ?_; rintro e w1 ⟨rfl, hb⟩; have HB1 : Hid (Below w.heap.size w w1) := (unhide HB).trans (hb.mono (unhide HB).size); clear hb))
      go_roundw
      case rel => exact ⟨rfl, Or.inr (Or.inr (Or.inr (Or.inr (Or.inr (rfl))))), HB1⟩
      case measure => decide
    · go_wp2_with fail
      go_ret
      exact ⟨rfl, unhide HB⟩
attribute [local go_sem] run_bits run_from
/-- The same: to the bit, or both no number. -/
def sameB (a b : Nat) : Bool := (nanB a && nanB b) || decide (a = b)
theorem same_core (a b : Nat) (x y : Bool) (h1 : (FloatKind.f64.format.order a a != some Ordering.eq) = x) (h2 : (FloatKind.f64.format.order b b != some Ordering.eq) = y) (w : World) : Calls Tryz.prog 12 #[.float .f64 a, .float .f64 b] w fun e w' => e = .returned (.bool ((x && y) || ((a : Int) == (b : Int)))) ∧ w' = w := by
  cases x <;> cases y
  all_goals
    go_enter Tryz.func12, Tryz.ntmps12
    go_wp2
    go_ret
    exact ⟨by simp, rfl⟩
theorem same_any (a b : Nat) (w : World) : Calls Tryz.prog 12 #[.float .f64 a, .float .f64 b] w fun e w' => e = .returned (.bool (sameB a b)) ∧ w' = w := by
  have h := same_core a b (nanB a) (nanB b) (order_neq a) (order_neq b) w
  have e : ((a : Int) == (b : Int)) = decide (a = b) := by
    rw [Bool.eq_iff_iff]
    simp only [beq_iff_eq, decide_eq_true_eq]
    omega
  rw [e] at h
  exact h
/-- What the model may choose for 'no number'. -/
def nanC (t : Nat) : Nat := t % 2 * 2 ^ 63 + 0x7ff0000000000000 + 1 + t / 2 % (2 ^ 52 - 1)
theorem nanC_nan (t : Nat) : nanB (nanC t) = true := by
  have h2 : t / 2 % (2 ^ 52 - 1) < 2 ^ 52 - 1 := Nat.mod_lt _ (by decide)
  unfold nanB nanC
  simp only [decide_eq_true_eq]
  generalize t / 2 % (2 ^ 52 - 1) = k at *
  rcases Nat.mod_two_eq_zero_or_one t with h | h <;> rw [h] <;> omega
/-- No number reads as such. -/
theorem read_nan (b : Nat) (h : nanB b = true) : ∃ s p, Ieee.double.read b = .nan s p := by
  have h' : 9218868437227405312 < b % 9223372036854775808 := by simpa [nanB] using h
  unfold Ieee.Format.read
  simp only [sign_lt, inf_is, binade_is]
  rw [if_neg (by omega), if_neg (by omega), if_neg (by omega)]
  exact ⟨_, _, rfl⟩
theorem order_nan_l (b c : Nat) (h : nanB b = true) : FloatKind.f64.format.order b c = none := by
  show (Ieee.double.read b).order (Ieee.double.read c) = none
  obtain ⟨s, p, e⟩ := read_nan b h
  rw [e]
  rfl
theorem order_nanC (t : Nat) : (FloatKind.f64.format.order (nanC t) 0 != some Ordering.eq) = true := by rw [order_nan_l _ _ (nanC_nan t)]; rfl
end Go.Proofs.YtijifpbpjinmhaaGreatDoor

/- rat.addSigned: the sum of two numbers, each with its sign. -/
import Derived.Test.YthcbhnggphdflaaGreatDoorAdd
import Derived.Lib.ParseIntB
import GoSem.Op.String
import Derived.Deep.QuietTactic
import Derived.BigQuiet
namespace Cub
/-- Taking away in the making: F is what is left so far, m what is missing at place i. -/
structure TakeInv (T : Nat) (F0 L F : List Nat) (m i : Nat) : Prop where
  len : F.length = F0.length
  lim : limbs 1000000000 F
  val : lval 1000000000 F + T * lval 1000000000 (L.take i) = lval 1000000000 F0 + 1000000000 ^ i * m
  miss : m ≤ T
theorem TakeInv.start {T : Nat} {F0 : List Nat} (L : List Nat) (h : limbs 1000000000 F0) : TakeInv T F0 L F0 0 0 := ⟨rfl, h, by simp [lval], Nat.zero_le _⟩
theorem take9 (l : List Nat) (i : Nat) : lval 1000000000 (l.take (i + 1)) = lval 1000000000 (l.take i) + 1000000000 ^ i * l.getD i 0 := by
  by_cases h : i < l.length
  · rw [List.take_succ_eq_append_getElem h, lval_snoc, List.length_take, Nat.min_eq_left (by omega)]
    simp [List.getD, h]
  · rw [List.take_of_length_le (by omega), List.take_of_length_le (by omega)]
    simp [List.getD, Nat.le_of_not_lt h]
/-- One place: q what is missing with the product there; its rest is taken off, with one more borrowed or not (b). -/
theorem TakeInv.step {T : Nat} {F0 L F : List Nat} {m i q d b : Nat} (h : TakeInv T F0 L F m i) (hi : i < F.length) (hq : q = m + T * L.getD i 0) (hd : d < 1000000000) (_hb : b ≤ 1)
    (he : d + q % 1000000000 = F[i] + 1000000000 * b) (hb0 : q % 1000000000 = 0 → b = 0) (hL : L.getD i 0 < 1000000000) : TakeInv T F0 L (F.set i d) (q / 1000000000 + b) (i + 1) := by
  refine ⟨by simp [h.len], limbs_set h.lim i _ hd, ?_, ?_⟩
  · have e1 := lval_set 1000000000 F i d hi
    have e2 := h.val
    rw [take9, Nat.mul_add, Nat.pow_succ]
    have e3 : q = 1000000000 * (q / 1000000000) + q % 1000000000 := (Nat.div_add_mod _ _).symm
    have e4 := congrArg (1000000000 ^ i * ·) he
    have e5 := congrArg (1000000000 ^ i * ·) e3
    have e6 := congrArg (1000000000 ^ i * ·) hq
    simp only [Nat.mul_add] at e4 e5 e6
    have m1 : T * (1000000000 ^ i * L.getD i 0) = 1000000000 ^ i * (T * L.getD i 0) := by rw [Nat.mul_left_comm]
    have m2 : 1000000000 ^ i * 1000000000 * (q / 1000000000 + b) = 1000000000 ^ i * (1000000000 * (q / 1000000000)) + 1000000000 ^ i * (1000000000 * b) := by
      rw [Nat.mul_assoc, ← Nat.mul_add, ← Nat.mul_add]
    omega
  · have h1 := h.miss
    have h2 : T * L.getD i 0 ≤ T * 999999999 := Nat.mul_le_mul_left _ (by omega)
    have h3 : q ≤ 1000000000 * T := by omega
    by_cases h0 : q % 1000000000 = 0
    · rw [hb0 h0]; omega
    · omega
end Cub
namespace Go.Proofs.YthcbhnggphdflaaGreatDoor
open Go.RowKit

theorem Own.below {w w' : World} {g g' : Nat} {l : List Nat} (h : Own w g' l) (hb : Below g w w') (hg : g' < g) : Own w' g' l := (hb.block g' hg).trans h

set_option maxRecDepth 100000 in
set_option maxHeartbeats 1000000 in
theorem takeAway_any (g n cap : Nat) (F0 L : List Nat) (ab : Option Addr) (nb cb T : Nat) (w : World) (hF : Own w g F0) (hn : n = F0.length) (hn1 : n ≤ 10000000) (hlF : Cub.limbs 1000000000 F0)
    (hnb : nb = L.length) (hnbn : nb ≤ n) (hlL : Cub.limbs 1000000000 L) (hcap : n ≤ cap) (hT : T < 1000000000) (hc : ∀ W, Below g w W → ∀ i (hi : i < L.length), ∃ b o, ab = some ⟨b, o, none⟩ ∧ W.cell? ⟨b, o + i, none⟩ = some (.int .u64 (L[i] : Int))) :
    Calls Tryz.prog 211 #[.slice (some ⟨g, 0, none⟩) n cap, .slice ab nb cb, .int .u64 (T : Int)] w fun e w' => ∃ (m : Nat) (F : List Nat), e = .returned (.int .u64 (m : Int)) ∧ Own w' g F ∧ F.length = n ∧ Cub.limbs 1000000000 F ∧ Cub.lval 1000000000 F + T * Cub.lval 1000000000 L = Cub.lval 1000000000 F0 + 1000000000 ^ n * m ∧ m ≤ T ∧ Below g w w' := by
  have HN := hide (And.intro hn hnb)
  have HC := hide hc
  have HL := hide (And.intro hlF hlL)
  have HF := hide hF
  clear hn hnb hc hlF hlL hF
  go_enter Tryz.func211, Tryz.ntmps211
  go_wp2
  go_loopw [7, 12] (fun c t wr => ∃ (m i : Nat) (F : List Nat), c = .int .u64 (m : Int) ∧ t = .int .i64 (i : Int) ∧ i ≤ n ∧ m ≤ T ∧ Hid (Cub.TakeInv T F0 L F m i) ∧ Hid (Own wr g F) ∧ Hid (Below g w wr)) (fun _ t _ => n - (intOf t).toNat)
  case atStart => exact ⟨0, 0, F0, rfl, rfl, by omega, by omega, Cub.TakeInv.start L (un HL).1, HF, Below.refl _ _⟩
  case round =>
    obtain ⟨m, i, F, rfl, rfl, hi, hm, HI, HO, HB⟩ := hrel
    have hFl : Hid (F.length = n) := by rw [(un HI).len]; exact (un HN).1.symm
    by_cases hin : i < n
    · by_cases hbrk : nb ≤ i ∧ m = 0
      · obtain ⟨h1, rfl⟩ := hbrk
        have HV : Hid (Cub.lval 1000000000 F + T * Cub.lval 1000000000 L = Cub.lval 1000000000 F0 + 1000000000 ^ n * 0) := by
          have h := (un HI).val
          rw [List.take_of_length_le (by have := (un HN).2; omega)] at h
          rw [Nat.mul_zero] at h ⊢; exact h
        go_wp2
        go_ret
        exact ⟨0, F, rfl, un HO, un hFl, (un HI).lim, un HV, by omega, un HB⟩
      · have hiF : i < F.length := by rw [un hFl]; exact hin
        obtain ⟨f, hf⟩ : ∃ f, f = F[i] := ⟨_, rfl⟩
        have hfB : f < 1000000000 := by rw [hf]; exact (un HI).lim _ (List.getElem_mem hiF)
        have hcf := (un HO).cell i hiF
        rw [← hf] at hcf
        have hff := (un HO).frozen i
        have HFv := hide hf
        obtain ⟨lv, hlv⟩ : ∃ lv, lv = L.getD i 0 := ⟨_, rfl⟩
        have hlB : lv < 1000000000 := by
          rw [hlv]
          by_cases h : i < L.length
          · simp only [List.getD, List.getElem?_eq_getElem h, Option.getD_some]; exact (un HL).2 _ (List.getElem_mem h)
          · simp [List.getD, Nat.le_of_not_lt h]
        have HLB : Hid (L.getD i 0 < 1000000000) := by rw [← hlv]; exact hlB
        by_cases hib : i < nb
        · have hiL : i < L.length := by have := (un HN).2; omega
          obtain ⟨b, o, rfl, hcl⟩ := un HC wr (un HB) i hiL
          rw [show L[i] = lv by rw [hlv, List.getD_eq_getElem?_getD, List.getElem?_eq_getElem hiL]; rfl] at hcl
          obtain ⟨pr, hpr⟩ : ∃ pr, pr = T * lv := ⟨_, rfl⟩
          have hprB : pr ≤ 999999998000000001 := by rw [hpr]; exact Nat.mul_le_mul (show T ≤ 999999999 by omega) (show lv ≤ 999999999 by omega)
          have hmul : (T : Int) * (lv : Int) = (pr : Int) := by rw [hpr]; simp
          have HQ : Hid (m + pr = m + T * L.getD i 0) := by rw [hpr, ← hlv]; exact rfl
          clear hf hlv hpr hbrk
          by_cases hbor : f < (m + pr) % 1000000000
          · have HI' : Hid (Cub.TakeInv T F0 L (F.set i (f + 1000000000 - (m + pr) % 1000000000)) ((m + pr) / 1000000000 + 1) (i + 1)) :=
              (un HI).step hiF (un HQ) (by omega) (by omega) (by rw [← un HFv]; omega) (by omega) (un HLB)
            have HO' : Hid (Own ((wr.setCell ⟨g, i, none⟩ (.int .u64 ((f : Int) + 1000000000))).setCell ⟨g, i, none⟩ (.int .u64 ((f : Int) + 1000000000 - ((m : Int) + (pr : Int)) % 1000000000))) g (F.set i (f + 1000000000 - (m + pr) % 1000000000))) := by
              have h := ((un HO).set i (f + 1000000000)).set i (f + 1000000000 - (m + pr) % 1000000000)
              rw [List.set_set] at h
              rw [show ((f + 1000000000 : Nat) : Int) = (f : Int) + 1000000000 by omega, show ((f + 1000000000 - (m + pr) % 1000000000 : Nat) : Int) = (f : Int) + 1000000000 - ((m : Int) + (pr : Int)) % 1000000000 by omega] at h
              exact h
            have HB' : Hid (Below g w ((wr.setCell ⟨g, i, none⟩ (.int .u64 ((f : Int) + 1000000000))).setCell ⟨g, i, none⟩ (.int .u64 ((f : Int) + 1000000000 - ((m : Int) + (pr : Int)) % 1000000000)))) := ((un HB).setCell (Nat.le_refl _) _).setCell (Nat.le_refl _) _
            have hbi : (f : Int) < ((m : Int) + (pr : Int)) % 1000000000 := by omega
            clear HI HO HB
            go_wp2
            go_roundw
            case rel => exact ⟨(m + pr) / 1000000000 + 1, i + 1, _, by go_num, by go_num, by omega, (un HI').miss, HI', HO', HB'⟩
            case measure => simp [intOf]; omega
          · have HI' : Hid (Cub.TakeInv T F0 L (F.set i (f - (m + pr) % 1000000000)) ((m + pr) / 1000000000 + 0) (i + 1)) :=
              (un HI).step hiF (un HQ) (by omega) (by omega) (by rw [← un HFv]; omega) (fun _ => rfl) (un HLB)
            have HO' : Hid (Own (wr.setCell ⟨g, i, none⟩ (.int .u64 ((f : Int) - ((m : Int) + (pr : Int)) % 1000000000))) g (F.set i (f - (m + pr) % 1000000000))) := by
              have h := (un HO).set i (f - (m + pr) % 1000000000)
              rw [show ((f - (m + pr) % 1000000000 : Nat) : Int) = (f : Int) - ((m : Int) + (pr : Int)) % 1000000000 by omega] at h
              exact h
            have HB' : Hid (Below g w (wr.setCell ⟨g, i, none⟩ (.int .u64 ((f : Int) - ((m : Int) + (pr : Int)) % 1000000000)))) := (un HB).setCell (Nat.le_refl _) _
            have hbi : ¬ (f : Int) < ((m : Int) + (pr : Int)) % 1000000000 := by omega
            clear HI HO HB
            go_wp2
            go_roundw
            case rel => exact ⟨(m + pr) / 1000000000 + 0, i + 1, _, by go_num, by go_num, by omega, (un HI').miss, HI', HO', HB'⟩
            case measure => simp [intOf]; omega
        · have hm0 : 0 < m := by omega
          have hl0 : lv = 0 := by rw [hlv, List.getD_eq_getElem?_getD, List.getElem?_eq_none (by have := (un HN).2; omega)]; rfl
          have HQ : Hid (m = m + T * L.getD i 0) := by rw [← hlv, hl0]; exact rfl
          have hmz : ((m : Int) == 0) = false := by rw [beq_eq_false_iff_ne]; omega
          clear hf hlv hbrk hl0
          by_cases hbor : f < m % 1000000000
          · have HI' : Hid (Cub.TakeInv T F0 L (F.set i (f + 1000000000 - m % 1000000000)) (m / 1000000000 + 1) (i + 1)) :=
              (un HI).step hiF (un HQ) (by omega) (by omega) (by rw [← un HFv]; omega) (by omega) (un HLB)
            have HO' : Hid (Own ((wr.setCell ⟨g, i, none⟩ (.int .u64 ((f : Int) + 1000000000))).setCell ⟨g, i, none⟩ (.int .u64 ((f : Int) + 1000000000 - (m : Int) % 1000000000))) g (F.set i (f + 1000000000 - m % 1000000000))) := by
              have h := ((un HO).set i (f + 1000000000)).set i (f + 1000000000 - m % 1000000000)
              rw [List.set_set] at h
              rw [show ((f + 1000000000 : Nat) : Int) = (f : Int) + 1000000000 by omega, show ((f + 1000000000 - m % 1000000000 : Nat) : Int) = (f : Int) + 1000000000 - (m : Int) % 1000000000 by omega] at h
              exact h
            have HB' : Hid (Below g w ((wr.setCell ⟨g, i, none⟩ (.int .u64 ((f : Int) + 1000000000))).setCell ⟨g, i, none⟩ (.int .u64 ((f : Int) + 1000000000 - (m : Int) % 1000000000)))) := ((un HB).setCell (Nat.le_refl _) _).setCell (Nat.le_refl _) _
            have hbi : (f : Int) < (m : Int) % 1000000000 := by omega
            clear HI HO HB
            go_wp2
            go_roundw
            case rel => exact ⟨m / 1000000000 + 1, i + 1, _, by go_num, by go_num, by omega, (un HI').miss, HI', HO', HB'⟩
            case measure => simp [intOf]; omega
          · have HI' : Hid (Cub.TakeInv T F0 L (F.set i (f - m % 1000000000)) (m / 1000000000 + 0) (i + 1)) :=
              (un HI).step hiF (un HQ) (by omega) (by omega) (by rw [← un HFv]; omega) (fun _ => rfl) (un HLB)
            have HO' : Hid (Own (wr.setCell ⟨g, i, none⟩ (.int .u64 ((f : Int) - (m : Int) % 1000000000))) g (F.set i (f - m % 1000000000))) := by
              have h := (un HO).set i (f - m % 1000000000)
              rw [show ((f - m % 1000000000 : Nat) : Int) = (f : Int) - (m : Int) % 1000000000 by omega] at h
              exact h
            have HB' : Hid (Below g w (wr.setCell ⟨g, i, none⟩ (.int .u64 ((f : Int) - (m : Int) % 1000000000)))) := (un HB).setCell (Nat.le_refl _) _
            have hbi : ¬ (f : Int) < (m : Int) % 1000000000 := by omega
            clear HI HO HB
            go_wp2
            go_roundw
            case rel => exact ⟨m / 1000000000 + 0, i + 1, _, by go_num, by go_num, by omega, (un HI').miss, HI', HO', HB'⟩
            case measure => simp [intOf]; omega
    · have hie : i = n := by omega
      subst hie
      have HV : Hid (Cub.lval 1000000000 F + T * Cub.lval 1000000000 L = Cub.lval 1000000000 F0 + 1000000000 ^ i * m) := by
        have h := (un HI).val
        rw [List.take_of_length_le (by have := (un HN).2; omega)] at h
        exact h
      go_wp2
      go_ret
      exact ⟨m, F, rfl, un HO, un hFl, (un HI).lim, un HV, hm, un HB⟩
end Go.Proofs.YthcbhnggphdflaaGreatDoor

namespace Go.Proofs.YthcbhnggphdflaaGreatDoor
open Go.RowKit

theorem norm9_len_le {x y : List Nat} (hx : Cub.limbs 1000000000 x) (hy : Cub.normal 1000000000 y) (h : Cub.lval 1000000000 y ≤ Cub.lval 1000000000 x) : y.length ≤ x.length :=
  Cub.len_le hy (Nat.lt_of_le_of_lt h (Cub.lval_lt hx))

end Go.Proofs.YthcbhnggphdflaaGreatDoor

namespace Cub

def cmpN (m n : Nat) : Int := if m < n then -1 else if n < m then 1 else 0

end Cub

namespace Cub
theorem lval_split (B : Nat) (a : List Nat) (j : Nat) (h : j < a.length) : lval B a = lval B (a.take j) + B ^ j * (a[j] + B * lval B (a.drop (j + 1))) := by
  have e := lval_append B (a.take j) (a.drop j)
  rw [List.take_append_drop, List.length_take, Nat.min_eq_left (by omega), List.drop_eq_getElem_cons h] at e
  exact e
theorem cmp_at {B : Nat} {a b : List Nat} (ha : limbs B a) (hl : a.length = b.length) (j : Nat) (h : j < a.length) (hd : a.drop (j + 1) = b.drop (j + 1)) (hlt : a[j] < b[j]) : lval B a < lval B b := by
  rw [lval_split B a j h, lval_split B b j (by omega), hd]
  have h1 : lval B (a.take j) < B ^ j := by
    have := lval_lt (B := B) (l := a.take j) (fun z hz => ha z (List.mem_of_mem_take hz))
    rwa [List.length_take, Nat.min_eq_left (by omega)] at this
  have h2 : B ^ j * (a[j] + B * lval B (b.drop (j + 1)) + 1) ≤ B ^ j * (b[j] + B * lval B (b.drop (j + 1))) := Nat.mul_le_mul_left _ (by omega)
  rw [Nat.mul_add (B ^ j) (a[j] + B * lval B (b.drop (j + 1))) 1] at h2
  omega
theorem cmp_len {a b : List Nat} (ha : limbs 1000000000 a) (hb : normal 1000000000 b) (h : a.length < b.length) : lval 1000000000 a < lval 1000000000 b := by
  have h1 := lval_lt ha
  have hne : b ≠ [] := by intro e; rw [e] at h; simp at h
  have h2 := normal_ge hb hne
  have h3 : 1000000000 ^ a.length ≤ 1000000000 ^ (b.length - 1) := Nat.pow_le_pow_right (by decide) (by omega)
  omega
theorem cmpN_lt {m n : Nat} (h : m < n) : cmpN m n = -1 := if_pos h
theorem cmpN_gt {m n : Nat} (h : n < m) : cmpN m n = 1 := by unfold cmpN; rw [if_neg (by omega), if_pos h]
theorem cmpN_eq (m : Nat) : cmpN m m = 0 := by unfold cmpN; rw [if_neg (by omega), if_neg (by omega)]
end Cub
namespace Go.Proofs.YthcbhnggphdflaaGreatDoor
open Go.RowKit

theorem isNaN64_any (a : Int) (w : World) : Calls Tryz.prog 208 #[.int .u64 a] w fun e w' => e = .returned (.bool false) ∧ w' = w := by
  go_enter Tryz.func208, Tryz.ntmps208
  go_wp2
  go_ret
  exact ⟨rfl, rfl⟩

theorem cmp64_any (a b : Nat) (w : World) :
    Calls Tryz.prog 189 #[.int .u64 (a : Int), .int .u64 (b : Int)] w fun e w' => e = .returned (.int .i64 (Cub.cmpN a b)) ∧ w' = w := by
  rcases Nat.lt_trichotomy a b with h | h | h
  · rw [Cub.cmpN_lt h]
    have h1 : (a : Int) < (b : Int) := by omega
    go_enter Tryz.func189, Tryz.ntmps189
    go_wp2_with (go_at_call 208; refine (isNaN64_any _ _).mono ?_; rintro e w' ⟨rfl, rfl⟩)
    go_ret
    exact ⟨rfl, rfl⟩
  · subst h
    rw [Cub.cmpN_eq]
    go_enter Tryz.func189, Tryz.ntmps189
    go_wp2_with (go_at_call 208; refine (isNaN64_any _ _).mono ?_; rintro e w' ⟨rfl, rfl⟩)
    go_ret
    exact ⟨rfl, rfl⟩
  · rw [Cub.cmpN_gt h]
    have h1 : (b : Int) < (a : Int) := by omega
    go_enter Tryz.func189, Tryz.ntmps189
    go_wp2_with (go_at_call 208; refine (isNaN64_any _ _).mono ?_; rintro e w' ⟨rfl, rfl⟩)
    go_ret
    exact ⟨rfl, rfl⟩

theorem isNaNi_any (a : Int) (w : World) : Calls Tryz.prog 207 #[.int .i64 a] w fun e w' => e = .returned (.bool false) ∧ w' = w := by
  go_enter Tryz.func207, Tryz.ntmps207
  go_wp2
  go_ret
  exact ⟨rfl, rfl⟩
theorem cmpi_any (a b : Nat) (w : World) :
    Calls Tryz.prog 188 #[.int .i64 (a : Int), .int .i64 (b : Int)] w fun e w' => e = .returned (.int .i64 (Cub.cmpN a b)) ∧ w' = w := by
  rcases Nat.lt_trichotomy a b with h | h | h
  · rw [Cub.cmpN_lt h]
    have h1 : (a : Int) < (b : Int) := by omega
    go_enter Tryz.func188, Tryz.ntmps188
    go_wp2_with (go_at_call 207; refine (isNaNi_any _ _).mono ?_; rintro e w' ⟨rfl, rfl⟩)
    go_ret
    exact ⟨rfl, rfl⟩
  · subst h
    rw [Cub.cmpN_eq]
    go_enter Tryz.func188, Tryz.ntmps188
    go_wp2_with (go_at_call 207; refine (isNaNi_any _ _).mono ?_; rintro e w' ⟨rfl, rfl⟩)
    go_ret
    exact ⟨rfl, rfl⟩
  · rw [Cub.cmpN_gt h]
    have h1 : (b : Int) < (a : Int) := by omega
    go_enter Tryz.func188, Tryz.ntmps188
    go_wp2_with (go_at_call 207; refine (isNaNi_any _ _).mono ?_; rintro e w' ⟨rfl, rfl⟩)
    go_ret
    exact ⟨rfl, rfl⟩

set_option maxRecDepth 100000 in
set_option maxHeartbeats 1000000 in
theorem cmp_any (x y : Value) (m n : Nat) (w : World) (hx : IsBig w x m) (hy : IsBig w y n) :
    Calls Tryz.prog 171 #[x, y] w fun e w' => e = .returned (.int .i64 (Cub.cmpN m n)) ∧ Below w.heap.size w w' := by
  obtain ⟨ap, lp, cp, rfl, hlp, hrp, hnp, rfl⟩ := hx.form
  obtain ⟨aq, lq, cq, rfl, hlq, hrq, hnq, rfl⟩ := hy.form
  have HP : Hid (Cub.normal 1000000000 lp ∧ Cells w ap lp) := ⟨hnp, hrp.cells.2.2.2⟩
  have HQ : Hid (Cub.normal 1000000000 lq ∧ Cells w aq lq) := ⟨hnq, hrq.cells.2.2.2⟩
  obtain ⟨np, hnp'⟩ : ∃ np, np = lp.length := ⟨_, rfl⟩
  obtain ⟨nq, hnq'⟩ : ∃ nq, nq = lq.length := ⟨_, rfl⟩
  rw [← hnp'] at hlp ⊢
  rw [← hnq'] at hlq ⊢
  have HNP := hide hnp'
  have HNQ := hide hnq'
  clear hx hy hrp hrq hnp hnq hnp' hnq'
  by_cases hne : np = nq
  · subst hne
    have C78 : Hid (∀ W, Calls Tryz.prog 188 #[.int .i64 (np : Int), .int .i64 (np : Int)] W fun e w' => e = .returned (.int .i64 0) ∧ w' = W) := fun W => by have h := cmpi_any np np W; rw [Cub.cmpN_eq] at h; exact h
    go_enter Tryz.func171, Tryz.ntmps171
    go_wp2_with (go_at_call 188; refine (un C78 _).mono ?_; rintro e w' ⟨rfl, rfl⟩)
    go_loopw [6] (fun t wr => ∃ j : Nat, j ≤ np ∧ t = .int .i64 ((j : Int) - 1) ∧ Hid (lp.drop j = lq.drop j) ∧ wr.cell? ⟨w.heap.size, 0, none⟩ = some (.slice ap np cp) ∧ wr.cell? ⟨w.heap.size + 1, 0, none⟩ = some (.slice aq np cq) ∧ Below w.heap.size w wr) (fun t _ => (intOf t + 1).toNat)
    case atStart => exact ⟨np, Nat.le_refl _, rfl, by rw [List.drop_of_length_le (by have := un HNP; omega), List.drop_of_length_le (by have := un HNQ; omega)]; exact rfl, by simp [go_sem], by simp [go_sem], ((Below.refl _ _).alloc (Nat.le_refl _) _).alloc (by simp) _⟩
    case round =>
      obtain ⟨j, hj, rfl, HD, hb1, hb2, hbl⟩ := hrel
      by_cases hj0 : j = 0
      · subst hj0
        have HF : Hid (Cub.cmpN (Cub.lval 1000000000 lp) (Cub.lval 1000000000 lq) = 0) := by
          have h := un HD
          rw [List.drop_zero, List.drop_zero] at h
          rw [h, Cub.cmpN_eq]; exact rfl
        go_wp2
        go_ret
        exact ⟨by rw [un HF]; rfl, hbl⟩
      · obtain ⟨i, rfl⟩ : ∃ i, j = i + 1 := ⟨j - 1, by omega⟩
        have hip : i < lp.length := by have := un HNP; omega
        have hiq : i < lq.length := by have := un HNQ; omega
        obtain ⟨b1, o1, rfl, hc1⟩ := (un HP).2 wr hbl i hip
        obtain ⟨b2, o2, rfl, hc2⟩ := (un HQ).2 wr hbl i hiq
        obtain ⟨xv, hxv⟩ : ∃ xv, xv = lp[i] := ⟨_, rfl⟩
        obtain ⟨yv, hyv⟩ : ∃ yv, yv = lq[i] := ⟨_, rfl⟩
        rw [← hxv] at hc1
        rw [← hyv] at hc2
        obtain ⟨c, hc⟩ : ∃ c, c = Cub.cmpN xv yv := ⟨_, rfl⟩
        have C79 : Hid (∀ W, Calls Tryz.prog 189 #[.int .u64 (xv : Int), .int .u64 (yv : Int)] W fun e w' => e = .returned (.int .i64 c) ∧ w' = W) := fun W => by have h := cmp64_any xv yv W; rw [← hc] at h; exact h
        have hin' : (i : Int) < (np : Int) := by omega
        rw [show (((i + 1 : Nat) : Int) - 1) = (i : Int) from by omega]
        by_cases hxy : xv = yv
        · have hc0 : c = 0 := by rw [hc, hxy, Cub.cmpN_eq]
          subst hc0
          have HD' : Hid (lp.drop i = lq.drop i) := by
            rw [List.drop_eq_getElem_cons hip, List.drop_eq_getElem_cons hiq, un HD, ← hxv, ← hyv, hxy]; exact rfl
          clear hc hxy hxv hyv hj0
          go_wp2
          go_quiet ((go_at_call 189; exact Calls.quiet_of_same (un C79 _)))
          go_wp2
          go_roundw
          case rel => exact ⟨i, by omega, rfl, HD', hb1, hb2, below_drewN hbl _⟩
          case measure => simp [intOf]
        · have hcz : (c != 0) = true := by
            rw [hc, bne_iff_ne]
            rcases Nat.lt_or_ge xv yv with h | h
            · rw [Cub.cmpN_lt h]; omega
            · rw [Cub.cmpN_gt (show yv < xv by omega)]; omega
          have HF : Hid (Cub.cmpN (Cub.lval 1000000000 lp) (Cub.lval 1000000000 lq) = c) := by
            have hl : lp.length = lq.length := by rw [← un HNP, ← un HNQ]
            rw [hc]
            rcases Nat.lt_or_ge xv yv with h | h
            · rw [Cub.cmpN_lt h, Cub.cmpN_lt (Cub.cmp_at (un HP).1.1 hl i hip (un HD) (by rw [← hxv, ← hyv]; exact h))]; exact rfl
            · have h' : yv < xv := by omega
              rw [Cub.cmpN_gt h', Cub.cmpN_gt (Cub.cmp_at (un HQ).1.1 hl.symm i hiq (un HD).symm (by rw [← hxv, ← hyv]; exact h'))]; exact rfl
          clear hc hxy hxv hyv hj0
          go_wp2
          go_quiet ((go_at_call 189; exact Calls.quiet_of_same (un C79 _)))
          go_wp2
          go_ret
          exact ⟨by rw [un HF]; rfl, below_drewN hbl _⟩
  · obtain ⟨c, hc⟩ : ∃ c, c = Cub.cmpN np nq := ⟨_, rfl⟩
    have hfin : Cub.cmpN (Cub.lval 1000000000 lp) (Cub.lval 1000000000 lq) = c := by
      rw [hc]
      rcases Nat.lt_or_ge np nq with h | h
      · rw [Cub.cmpN_lt h, Cub.cmpN_lt (Cub.cmp_len (un HP).1.1 (un HQ).1 (by have := un HNP; have := un HNQ; omega))]
      · rw [Cub.cmpN_gt (show nq < np by omega), Cub.cmpN_gt (Cub.cmp_len (un HQ).1.1 (un HP).1 (by have := un HNP; have := un HNQ; omega))]
    have hc0 : (c != 0) = true := by
      rw [hc, bne_iff_ne]
      rcases Nat.lt_or_ge np nq with h | h
      · rw [Cub.cmpN_lt h]; omega
      · rw [Cub.cmpN_gt (show nq < np by omega)]; omega
    have C78 : Hid (∀ W, Calls Tryz.prog 188 #[.int .i64 (np : Int), .int .i64 (nq : Int)] W fun e w' => e = .returned (.int .i64 c) ∧ w' = W) := fun W => by have h := cmpi_any np nq W; rw [← hc] at h; exact h
    rw [hfin]
    clear hfin hc
    go_enter Tryz.func171, Tryz.ntmps171
    go_wp2_with (go_at_call 188; refine (un C78 _).mono ?_; rintro e w' ⟨rfl, rfl⟩)
    go_ret
    exact ⟨rfl, ((Below.refl _ _).alloc (Nat.le_refl _) _).alloc (by simp) _⟩
end Go.Proofs.YthcbhnggphdflaaGreatDoor

namespace Cub

/-- In the one form: coprime, not over 0, no sign at 0. -/
structure Low (b : Bool) (n d : Nat) : Prop where
  pos : 0 < d
  cop : Nat.gcd n d = 1
  sign : b = true → n ≠ 0
/-- A size with its sign. -/
def sg (b : Bool) (n : Nat) : Int := if b then -(n : Int) else n
def valQ (b : Bool) (n d : Nat) : Rat := ((sg b n : Int) : Rat) / ((d : Nat) : Rat)
theorem sg_abs (b : Bool) (n : Nat) : (sg b n).natAbs = n := by cases b <;> simp [sg]
theorem sg_mul (b c : Bool) (n m : Nat) : sg b n * sg c m = sg (b != c) (n * m) := by
  cases b <;> cases c <;> simp [sg, Int.mul_neg, Int.neg_mul]
theorem sg_mulNat (b : Bool) (n m : Nat) : sg b n * (m : Int) = sg b (n * m) := by cases b <;> simp [sg, Int.neg_mul]
theorem sg_zero (b : Bool) : sg b 0 = 0 := by cases b <;> rfl
theorem dR {d : Nat} (h : 0 < d) : ((d : Nat) : Rat) ≠ 0 := by
  have : d ≠ 0 := by omega
  exact_mod_cast this
theorem div_eq_iff {a b c d : Rat} (hb : b ≠ 0) (hd : d ≠ 0) : a / b = c / d ↔ a * d = c * b := by
  constructor
  · intro h; grind
  · intro h; grind
theorem valQ_eq {b b' : Bool} {n d n' d' : Nat} (hd : 0 < d) (hd' : 0 < d') : valQ b n d = valQ b' n' d' ↔ sg b n * (d' : Int) = sg b' n' * (d : Int) := by
  unfold valQ
  rw [div_eq_iff (dR hd) (dR hd')]
  constructor
  · intro h; exact_mod_cast h
  · intro h; exact_mod_cast h
theorem low_unique {b b' : Bool} {n d n' d' : Nat} (h : Low b n d) (h' : Low b' n' d') (e : valQ b n d = valQ b' n' d') : b = b' ∧ n = n' ∧ d = d' := by
  have e1 := (valQ_eq h.pos h'.pos).1 e
  have e2 : n * d' = n' * d := by
    have := congrArg Int.natAbs e1
    rw [Int.natAbs_mul, Int.natAbs_mul, sg_abs, sg_abs] at this
    simpa using this
  have d1 : d ∣ d' := by
    have : d ∣ n * d' := ⟨n', by rw [e2, Nat.mul_comm]⟩
    exact (Nat.Coprime.dvd_of_dvd_mul_left (Nat.Coprime.symm h.cop) this)
  have d2 : d' ∣ d := by
    have : d' ∣ n' * d := ⟨n, by rw [← e2, Nat.mul_comm]⟩
    exact (Nat.Coprime.dvd_of_dvd_mul_left (Nat.Coprime.symm h'.cop) this)
  have ed : d = d' := Nat.dvd_antisymm d1 d2
  subst ed
  have en : n = n' := Nat.eq_of_mul_eq_mul_right h.pos e2
  subst en
  refine ⟨?_, rfl, rfl⟩
  have e3 : sg b n = sg b' n := Int.eq_of_mul_eq_mul_right (by have := h.pos; omega) e1
  by_cases hn : n = 0
  · have hb : b = false := by cases b with | false => rfl | true => exact absurd hn (h.sign rfl)
    have hb' : b' = false := by cases b' with | false => rfl | true => exact absurd hn (h'.sign rfl)
    rw [hb, hb']
  · cases b <;> cases b' <;> first | rfl | (exfalso; simp [sg] at e3; omega)

/-- Both divided by what they share. -/
theorem lowest_cop {n d : Nat} (hd : 0 < d) : Nat.gcd (n / Nat.gcd n d) (d / Nat.gcd n d) = 1 ∧ 0 < d / Nat.gcd n d ∧ n / Nat.gcd n d * d = n * (d / Nat.gcd n d) := by
  have hg : 0 < Nat.gcd n d := Nat.gcd_pos_of_pos_right _ hd
  obtain ⟨a, ha⟩ := Nat.gcd_dvd_left n d
  obtain ⟨c, hc⟩ := Nat.gcd_dvd_right n d
  have h1 : n / Nat.gcd n d = a := by rw [Nat.div_eq_of_eq_mul_right hg ha]
  have h2 : d / Nat.gcd n d = c := by rw [Nat.div_eq_of_eq_mul_right hg hc]
  refine ⟨Nat.coprime_div_gcd_div_gcd hg, ?_, ?_⟩
  · rw [h2]
    rcases Nat.eq_zero_or_pos c with h | h
    · rw [h] at hc; omega
    · exact h
  · rw [h1, h2]
    generalize Nat.gcd n d = g at *
    rw [ha, hc]
    grind
/-- rat.times of two: each above against the other's below. -/
theorem mul_low {b c : Bool} {n d m e : Nat} (h : Low b n d) (k : Low c m e) :
    Low ((b != c) && decide (n / Nat.gcd n e * (m / Nat.gcd m d) ≠ 0)) (n / Nat.gcd n e * (m / Nat.gcd m d)) (d / Nat.gcd m d * (e / Nat.gcd n e)) ∧
      valQ ((b != c) && decide (n / Nat.gcd n e * (m / Nat.gcd m d) ≠ 0)) (n / Nat.gcd n e * (m / Nat.gcd m d)) (d / Nat.gcd m d * (e / Nat.gcd n e)) = valQ b n d * valQ c m e := by
  obtain ⟨p1, p2, p3⟩ := lowest_cop (n := n) k.pos
  obtain ⟨q1, q2, q3⟩ := lowest_cop (n := m) h.pos
  have hn : n / Nat.gcd n e ∣ n := Nat.div_dvd_of_dvd (Nat.gcd_dvd_left n e)
  have hm : m / Nat.gcd m d ∣ m := Nat.div_dvd_of_dvd (Nat.gcd_dvd_left m d)
  have hd : d / Nat.gcd m d ∣ d := Nat.div_dvd_of_dvd (Nat.gcd_dvd_right m d)
  have he : e / Nat.gcd n e ∣ e := Nat.div_dvd_of_dvd (Nat.gcd_dvd_right n e)
  have hk := k.pos
  have hh := h.pos
  have c1 : Nat.Coprime (n / Nat.gcd n e) (d / Nat.gcd m d) := Nat.Coprime.coprime_dvd_left hn (Nat.Coprime.coprime_dvd_right hd h.cop)
  have c2 : Nat.Coprime (m / Nat.gcd m d) (e / Nat.gcd n e) := Nat.Coprime.coprime_dvd_left hm (Nat.Coprime.coprime_dvd_right he k.cop)
  generalize n / Nat.gcd n e = n' at *
  generalize e / Nat.gcd n e = e' at *
  generalize m / Nat.gcd m d = m' at *
  generalize d / Nat.gcd m d = d' at *
  have hpos : 0 < d' * e' := Nat.mul_pos q2 p2
  refine ⟨⟨hpos, ?_, fun hs => by rw [Bool.and_eq_true, decide_eq_true_iff] at hs; exact hs.2⟩, ?_⟩
  · have a1 : Nat.Coprime n' (d' * e') := Nat.Coprime.mul_right c1 p1
    have a2 : Nat.Coprime m' (d' * e') := Nat.Coprime.mul_right q1 c2
    exact Nat.Coprime.mul_left a1 a2
  · have e1 : valQ b n d * valQ c m e = valQ (b != c) (n * m) (d * e) := by
      unfold valQ
      rw [← sg_mul]
      have x1 := dR hh
      have x2 := dR hk
      push_cast
      grind
    rw [e1, valQ_eq hpos (Nat.mul_pos hh hk), sg_mulNat, sg_mulNat]
    have e2 : n' * m' * (d * e) = n * m * (d' * e') := by
      have : (n' * e) * (m' * d) = (n * e') * (m * d') := by rw [p3, q3]
      grind
    rw [e2]
    by_cases h0 : n' * m' = 0
    · rw [h0, Nat.zero_mul] at e2
      rw [← e2, sg_zero, sg_zero]
    · simp [h0]
end Cub

namespace Cub

theorem valQ_zero (b : Bool) (d : Nat) : valQ b 0 d = 0 := by
  unfold valQ
  rw [sg_zero, Rat.div_def]
  push_cast
  exact Rat.zero_mul _
theorem inv_low {b : Bool} {n d : Nat} (h : Low b n d) (hn : n ≠ 0) : Low b d n ∧ valQ b d n = (valQ b n d)⁻¹ := by
  refine ⟨⟨by omega, by rw [Nat.gcd_comm]; exact h.cop, fun _ => by have := h.pos; omega⟩, ?_⟩
  have x1 := dR h.pos
  have x2 : ((n : Nat) : Rat) ≠ 0 := dR (by omega)
  unfold valQ sg
  cases b <;> simp only [Bool.false_eq_true, if_true, if_false] <;> push_cast <;> grind
theorem num_below (x : Rat) : x.num < 0 ↔ x < 0 := by
  have h := Rat.num_nonneg (q := x)
  constructor
  · intro h1
    exact Rat.not_le.1 fun h2 => by have := h.2 h2; omega
  · intro h1
    have : ¬ 0 ≤ x.num := fun h2 => Rat.not_le.2 h1 (h.1 h2)
    omega
/-- The one form of a rational number. -/
theorem low_of (x : Rat) : Low (decide (x < 0)) x.num.natAbs x.den ∧ valQ (decide (x < 0)) x.num.natAbs x.den = x := by
  have hs : sg (decide (x < 0)) x.num.natAbs = x.num := by
    unfold sg
    by_cases h : x < 0
    · have : x.num < 0 := (num_below x).2 h
      simp only [h, decide_true, if_true]; omega
    · have : ¬ x.num < 0 := fun h2 => h ((num_below x).1 h2)
      simp only [h, decide_false, Bool.false_eq_true, if_false]; omega
  refine ⟨⟨x.den_pos, x.reduced, fun h => ?_⟩, ?_⟩
  · have := (num_below x).2 (of_decide_eq_true h)
    omega
  · unfold valQ
    rw [hs, ← Rat.mkRat_eq_div, Rat.mkRat_self]
/-- So one in the one form is that of its value. -/
theorem low_is {b : Bool} {n d : Nat} (h : Low b n d) : b = decide (valQ b n d < 0) ∧ n = (valQ b n d).num.natAbs ∧ d = (valQ b n d).den :=
  low_unique h (low_of _).1 (low_of _).2.symm
theorem valQ_lt {b c : Bool} {n d m e : Nat} (hd : 0 < d) (he : 0 < e) : valQ b n d < valQ c m e ↔ sg b n * (e : Int) < sg c m * (d : Int) := by
  unfold valQ
  rw [Rat.div_lt_iff (Rat.natCast_pos.2 hd), Rat.div_def, show ((sg c m : Int) : Rat) * ((e : Nat) : Rat)⁻¹ * ((d : Nat) : Rat) = ((sg c m : Int) : Rat) * ((d : Nat) : Rat) / ((e : Nat) : Rat) by rw [Rat.div_def]; grind, Rat.lt_div_iff (Rat.natCast_pos.2 he)]
  constructor
  · intro h; exact_mod_cast h
  · intro h; exact_mod_cast h
/-- -1, 0, 1. -/
def cmpQ (x y : Rat) : Int := if x < y then -1 else if y < x then 1 else 0
/-- Frac.Sign. -/
theorem sign_val {b : Bool} {n d : Nat} (h : Low b n d) : (if b then -1 else if n = 0 then (0 : Int) else 1) = cmpQ (valQ b n d) 0 := by
  have hz : (0 : Rat) = valQ false 0 1 := (valQ_zero false 1).symm
  have hd := h.pos
  have hb := h.sign
  unfold cmpQ
  rw [hz]
  simp only [valQ_lt h.pos (show 0 < 1 by omega), valQ_lt (show 0 < 1 by omega) h.pos, sg_zero]
  cases b
  · by_cases hn : n = 0
    · subst hn; simp [sg]
    · have : 0 < n := by omega
      simp [sg, hn, this]
  · have : 0 < n := by have := hb rfl; omega
    simp [sg, this]
end Cub

namespace Go.Proofs.YthcbhnggphdflaaGreatDoor
open Go.RowKit

/-- Two numbers in their boxes, and the box of the result. -/
structure A3St (w W : World) (u v p : Value) : Prop where
  b1 : Box W w.heap.size u
  b2 : Box W (w.heap.size + 1) v
  b3 : Box W (w.heap.size + 1 + 1) p
  below : Below w.heap.size w W
theorem A3St.later {w W V : World} {u v p : Value} (s : A3St w W u v p) (hb : Below W.heap.size W V) : A3St w V u v p :=
  ⟨s.b1.later hb, s.b2.later hb, s.b3.later hb, s.below.trans (hb.mono s.below.size)⟩
theorem A3St.first (w : World) (u v p : Value) : A3St w (((w.alloc (.cells #[u] 116)).alloc (.cells #[v] 116)).alloc (.cells #[p] 116)) u v p :=
  ⟨⟨by simp [go_sem], by simp [go_sem]⟩, ⟨by simp [go_sem], by simp [go_sem]⟩, ⟨by simp [go_sem], by simp [go_sem]⟩,
    (((Below.refl _ _).alloc (Nat.le_refl _) _).alloc (by simp) _).alloc (by simp; omega) _⟩
theorem A3St.set3 {w W : World} {u v p : Value} (s : A3St w W u v p) (x : Value) : A3St w (W.setCell ⟨w.heap.size + 1 + 1, 0, none⟩ x) u v x :=
  ⟨s.b1.other (by omega) x, s.b2.other (by omega) x, s.b3.set x, s.below.setCell (by simp; omega) _⟩

end Go.Proofs.YthcbhnggphdflaaGreatDoor

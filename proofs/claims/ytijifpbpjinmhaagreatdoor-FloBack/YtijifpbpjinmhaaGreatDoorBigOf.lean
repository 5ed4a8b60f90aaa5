/- nat.BigOf: of any number. -/
import Derived.Test.YtijifpbpjinmhaaGreatDoorAdd
import Derived.Lib.ParseIntB
import GoSem.Op.String
import Derived.Deep.QuietTactic
import Derived.BigQuiet
import Derived.Test.YtijifpbpjinmhaaGreatDoorText
set_option maxHeartbeats 1000000
set_option maxRecDepth 100000
namespace Cub
/-- Taking away in the making: F is what is left so far, m what is missing at place i. -/
structure TakeInv (T : Nat) (F0 L F : List Nat) (m i : Nat) : Prop where
  len : F.length = F0.length
  lim : limbs 1000000000 F
  val : lval 1000000000 F + T * lval 1000000000 (L.take i) = lval 1000000000 F0 + 1000000000 ^ i * m
  miss : m ≤ T
theorem TakeInv.start {T : Nat} {F0 : List Nat} (L : List Nat) (h : limbs 1000000000 F0) : TakeInv T F0 L F0 0 0 := ⟨rfl, h, by simp [lval], Nat.zero_le _⟩
theorem take9 (l : List Nat) (i : Nat) : lval 1000000000 (l.take (i + 1)) = lval 1000000000 (l.take i) + 1000000000 ^ i * l.getD i 0 := by
  by_cases h : i < l.length
  · rw [List.take_succ_eq_append_getElem h, lval_snoc, List.length_take, Nat.min_eq_left (by omega)]
    simp [List.getD, h]
  · rw [List.take_of_length_le (by omega), List.take_of_length_le (by omega)]
    simp [List.getD, Nat.le_of_not_lt h]
/-- One place: q what is missing with the product there; its rest is taken off, with one more borrowed or not (b). -/
theorem TakeInv.step {T : Nat} {F0 L F : List Nat} {m i q d b : Nat} (h : TakeInv T F0 L F m i) (hi : i < F.length) (hq : q = m + T * L.getD i 0) (hd : d < 1000000000) (_hb : b ≤ 1)
    (he : d + q % 1000000000 = F[i] + 1000000000 * b) (hb0 : q % 1000000000 = 0 → b = 0) (hL : L.getD i 0 < 1000000000) : TakeInv T F0 L (F.set i d) (q / 1000000000 + b) (i + 1) := by
  refine ⟨by simp [h.len], limbs_set h.lim i _ hd, ?_, ?_⟩
  · have e1 := lval_set 1000000000 F i d hi
    have e2 := h.val
    rw [take9, Nat.mul_add, Nat.pow_succ]
    have e3 : q = 1000000000 * (q / 1000000000) + q % 1000000000 := (Nat.div_add_mod _ _).symm
    have e4 := congrArg (1000000000 ^ i * ·) he
    have e5 := congrArg (1000000000 ^ i * ·) e3
    have e6 := congrArg (1000000000 ^ i * ·) hq
    simp only [Nat.mul_add] at e4 e5 e6
    have m1 : T * (1000000000 ^ i * L.getD i 0) = 1000000000 ^ i * (T * L.getD i 0) := by rw [Nat.mul_left_comm]
    have m2 : 1000000000 ^ i * 1000000000 * (q / 1000000000 + b) = 1000000000 ^ i * (1000000000 * (q / 1000000000)) + 1000000000 ^ i * (1000000000 * b) := by
      rw [Nat.mul_assoc, ← Nat.mul_add, ← Nat.mul_add]
    omega
  · have h1 := h.miss
    have h2 : T * L.getD i 0 ≤ T * 999999999 := Nat.mul_le_mul_left _ (by omega)
    have h3 : q ≤ 1000000000 * T := by omega
    by_cases h0 : q % 1000000000 = 0
    · rw [hb0 h0]; omega
    · omega
end Cub
namespace Go.Proofs.YtijifpbpjinmhaaGreatDoor
open Go.RowKit
theorem Own.below {w w' : World} {g g' : Nat} {l : List Nat} (h : Own w g' l) (hb : Below g w w') (hg : g' < g) : Own w' g' l := (hb.block g' hg).trans h
theorem takeAway_any (g n cap : Nat) (F0 L : List Nat) (ab : Option Addr) (nb cb T : Nat) (w : World) (hF : Own w g F0) (hn : n = F0.length) (hn1 : n ≤ 10000000) (hlF : Cub.limbs 1000000000 F0)
    (hnb : nb = L.length) (hnbn : nb ≤ n) (hlL : Cub.limbs 1000000000 L) (hcap : n ≤ cap) (hT : T < 1000000000) (hc : ∀ W, Below g w W → ∀ i (hi : i < L.length), ∃ b o, ab = some ⟨b, o, none⟩ ∧ W.cell? ⟨b, o + i, none⟩ = some (.int .u64 (L[i] : Int))) :
    Calls Tryz.prog 199 #[.slice (some ⟨g, 0, none⟩) n cap, .slice ab nb cb, .int .u64 (T : Int)] w fun e w' => ∃ (m : Nat) (F : List Nat), e = .returned (.int .u64 (m : Int)) ∧ Own w' g F ∧ F.length = n ∧ Cub.limbs 1000000000 F ∧ Cub.lval 1000000000 F + T * Cub.lval 1000000000 L = Cub.lval 1000000000 F0 + 1000000000 ^ n * m ∧ m ≤ T ∧ Below g w w' := by
  have HN := hide (And.intro hn hnb)
  have HC := hide hc
  have HL := hide (And.intro hlF hlL)
  have HF := hide hF
  clear hn hnb hc hlF hlL hF
  go_enter Tryz.func199, Tryz.ntmps199
  go_wp2
  go_loopw [7, 12] (fun c t wr => ∃ (m i : Nat) (F : List Nat), c = .int .u64 (m : Int) ∧ t = .int .i64 (i : Int) ∧ i ≤ n ∧ m ≤ T ∧ Hid (Cub.TakeInv T F0 L F m i) ∧ Hid (Own wr g F) ∧ Hid (Below g w wr)) (fun _ t _ => n - (intOf t).toNat)
  case atStart => exact ⟨0, 0, F0, rfl, rfl, by omega, by omega, Cub.TakeInv.start L (unhide HL).1, HF, Below.refl _ _⟩
  case round =>
    obtain ⟨m, i, F, rfl, rfl, hi, hm, HI, HO, HB⟩ := hrel
    have hFl : Hid (F.length = n) := by rw [(unhide HI).len]; exact (unhide HN).1.symm
    by_cases hin : i < n
    · by_cases hbrk : nb ≤ i ∧ m = 0
      · obtain ⟨h1, rfl⟩ := hbrk
        have HV : Hid (Cub.lval 1000000000 F + T * Cub.lval 1000000000 L = Cub.lval 1000000000 F0 + 1000000000 ^ n * 0) := by
          have h := (unhide HI).val
          rw [List.take_of_length_le (by have := (unhide HN).2; omega)] at h
          rw [Nat.mul_zero] at h ⊢; exact h
        go_wp2
        go_ret
        exact ⟨0, F, rfl, unhide HO, unhide hFl, (unhide HI).lim, unhide HV, by omega, unhide HB⟩
      · have hiF : i < F.length := by rw [unhide hFl]; exact hin
        obtain ⟨f, hf⟩ : ∃ f, f = F[i] := ⟨_, rfl⟩
        have hfB : f < 1000000000 := by rw [hf]; exact (unhide HI).lim _ (List.getElem_mem hiF)
        have hcf := (unhide HO).cell i hiF
        rw [← hf] at hcf
        have hff := (unhide HO).frozen i
        have HFv := hide hf
        obtain ⟨lv, hlv⟩ : ∃ lv, lv = L.getD i 0 := ⟨_, rfl⟩
        have hlB : lv < 1000000000 := by
          rw [hlv]
          by_cases h : i < L.length
          · simp only [List.getD, List.getElem?_eq_getElem h, Option.getD_some]; exact (unhide HL).2 _ (List.getElem_mem h)
          · simp [List.getD, Nat.le_of_not_lt h]
        have HLB : Hid (L.getD i 0 < 1000000000) := by rw [← hlv]; exact hlB
        by_cases hib : i < nb
        · have hiL : i < L.length := by have := (unhide HN).2; omega
          obtain ⟨b, o, rfl, hcl⟩ := unhide HC wr (unhide HB) i hiL
          rw [show L[i] = lv by rw [hlv, List.getD_eq_getElem?_getD, List.getElem?_eq_getElem hiL]; rfl] at hcl
          obtain ⟨pr, hpr⟩ : ∃ pr, pr = T * lv := ⟨_, rfl⟩
          have hprB : pr ≤ 999999998000000001 := by rw [hpr]; exact Nat.mul_le_mul (show T ≤ 999999999 by omega) (show lv ≤ 999999999 by omega)
          have hmul : (T : Int) * (lv : Int) = (pr : Int) := by rw [hpr]; simp
          have HQ : Hid (m + pr = m + T * L.getD i 0) := by rw [hpr, ← hlv]; exact rfl
          clear hf hlv hpr hbrk
          by_cases hbor : f < (m + pr) % 1000000000
          · have HI' : Hid (Cub.TakeInv T F0 L (F.set i (f + 1000000000 - (m + pr) % 1000000000)) ((m + pr) / 1000000000 + 1) (i + 1)) :=
              (unhide HI).step hiF (unhide HQ) (by omega) (by omega) (by rw [← unhide HFv]; omega) (by omega) (unhide HLB)
            have HO' : Hid (Own ((wr.setCell ⟨g, i, none⟩ (.int .u64 ((f : Int) + 1000000000))).setCell ⟨g, i, none⟩ (.int .u64 ((f : Int) + 1000000000 - ((m : Int) + (pr : Int)) % 1000000000))) g (F.set i (f + 1000000000 - (m + pr) % 1000000000))) := by
              have h := ((unhide HO).set i (f + 1000000000)).set i (f + 1000000000 - (m + pr) % 1000000000)
              rw [List.set_set] at h
              rw [show ((f + 1000000000 : Nat) : Int) = (f : Int) + 1000000000 by omega, show ((f + 1000000000 - (m + pr) % 1000000000 : Nat) : Int) = (f : Int) + 1000000000 - ((m : Int) + (pr : Int)) % 1000000000 by omega] at h
              exact h
            have HB' : Hid (Below g w ((wr.setCell ⟨g, i, none⟩ (.int .u64 ((f : Int) + 1000000000))).setCell ⟨g, i, none⟩ (.int .u64 ((f : Int) + 1000000000 - ((m : Int) + (pr : Int)) % 1000000000)))) := ((unhide HB).setCell (Nat.le_refl _) _).setCell (Nat.le_refl _) _
            have hbi : (f : Int) < ((m : Int) + (pr : Int)) % 1000000000 := by omega
            clear HI HO HB
            go_wp2
            go_roundw
            case rel => exact ⟨(m + pr) / 1000000000 + 1, i + 1, _, by go_num, by go_num, by omega, (unhide HI').miss, HI', HO', HB'⟩
            case measure => simp [intOf]; omega
          · have HI' : Hid (Cub.TakeInv T F0 L (F.set i (f - (m + pr) % 1000000000)) ((m + pr) / 1000000000 + 0) (i + 1)) :=
              (unhide HI).step hiF (unhide HQ) (by omega) (by omega) (by rw [← unhide HFv]; omega) (fun _ => rfl) (unhide HLB)
            have HO' : Hid (Own (wr.setCell ⟨g, i, none⟩ (.int .u64 ((f : Int) - ((m : Int) + (pr : Int)) % 1000000000))) g (F.set i (f - (m + pr) % 1000000000))) := by
              have h := (unhide HO).set i (f - (m + pr) % 1000000000)
              rw [show ((f - (m + pr) % 1000000000 : Nat) : Int) = (f : Int) - ((m : Int) + (pr : Int)) % 1000000000 by omega] at h
              exact h
            have HB' : Hid (Below g w (wr.setCell ⟨g, i, none⟩ (.int .u64 ((f : Int) - ((m : Int) + (pr : Int)) % 1000000000)))) := (unhide HB).setCell (Nat.le_refl _) _
            have hbi : ¬ (f : Int) < ((m : Int) + (pr : Int)) % 1000000000 := by omega
            clear HI HO HB
            go_wp2
            go_roundw
            case rel => exact ⟨(m + pr) / 1000000000 + 0, i + 1, _, by go_num, by go_num, by omega, (unhide HI').miss, HI', HO', HB'⟩
            case measure => simp [intOf]; omega
        · have hm0 : 0 < m := by omega
          have hl0 : lv = 0 := by rw [hlv, List.getD_eq_getElem?_getD, List.getElem?_eq_none (by have := (unhide HN).2; omega)]; rfl
          have HQ : Hid (m = m + T * L.getD i 0) := by rw [← hlv, hl0]; exact rfl
          have hmz : ((m : Int) == 0) = false := by rw [beq_eq_false_iff_ne]; omega
          clear hf hlv hbrk hl0
          by_cases hbor : f < m % 1000000000
          · have HI' : Hid (Cub.TakeInv T F0 L (F.set i (f + 1000000000 - m % 1000000000)) (m / 1000000000 + 1) (i + 1)) :=
              (unhide HI).step hiF (unhide HQ) (by omega) (by omega) (by rw [← unhide HFv]; omega) (by omega) (unhide HLB)
            have HO' : Hid (Own ((wr.setCell ⟨g, i, none⟩ (.int .u64 ((f : Int) + 1000000000))).setCell ⟨g, i, none⟩ (.int .u64 ((f : Int) + 1000000000 - (m : Int) % 1000000000))) g (F.set i (f + 1000000000 - m % 1000000000))) := by
              have h := ((unhide HO).set i (f + 1000000000)).set i (f + 1000000000 - m % 1000000000)
              rw [List.set_set] at h
              rw [show ((f + 1000000000 : Nat) : Int) = (f : Int) + 1000000000 by omega, show ((f + 1000000000 - m % 1000000000 : Nat) : Int) = (f : Int) + 1000000000 - (m : Int) % 1000000000 by omega] at h
              exact h
            have HB' : Hid (Below g w ((wr.setCell ⟨g, i, none⟩ (.int .u64 ((f : Int) + 1000000000))).setCell ⟨g, i, none⟩ (.int .u64 ((f : Int) + 1000000000 - (m : Int) % 1000000000)))) := ((unhide HB).setCell (Nat.le_refl _) _).setCell (Nat.le_refl _) _
            have hbi : (f : Int) < (m : Int) % 1000000000 := by omega
            clear HI HO HB
            go_wp2
            go_roundw
            case rel => exact ⟨m / 1000000000 + 1, i + 1, _, by go_num, by go_num, by omega, (unhide HI').miss, HI', HO', HB'⟩
            case measure => simp [intOf]; omega
          · have HI' : Hid (Cub.TakeInv T F0 L (F.set i (f - m % 1000000000)) (m / 1000000000 + 0) (i + 1)) :=
              (unhide HI).step hiF (unhide HQ) (by omega) (by omega) (by rw [← unhide HFv]; omega) (fun _ => rfl) (unhide HLB)
            have HO' : Hid (Own (wr.setCell ⟨g, i, none⟩ (.int .u64 ((f : Int) - (m : Int) % 1000000000))) g (F.set i (f - m % 1000000000))) := by
              have h := (unhide HO).set i (f - m % 1000000000)
              rw [show ((f - m % 1000000000 : Nat) : Int) = (f : Int) - (m : Int) % 1000000000 by omega] at h
              exact h
            have HB' : Hid (Below g w (wr.setCell ⟨g, i, none⟩ (.int .u64 ((f : Int) - (m : Int) % 1000000000)))) := (unhide HB).setCell (Nat.le_refl _) _
            have hbi : ¬ (f : Int) < (m : Int) % 1000000000 := by omega
            clear HI HO HB
            go_wp2
            go_roundw
            case rel => exact ⟨m / 1000000000 + 0, i + 1, _, by go_num, by go_num, by omega, (unhide HI').miss, HI', HO', HB'⟩
            case measure => simp [intOf]; omega
    · have hie : i = n := by omega
      subst hie
      have HV : Hid (Cub.lval 1000000000 F + T * Cub.lval 1000000000 L = Cub.lval 1000000000 F0 + 1000000000 ^ i * m) := by
        have h := (unhide HI).val
        rw [List.take_of_length_le (by have := (unhide HN).2; omega)] at h
        exact h
      go_wp2
      go_ret
      exact ⟨m, F, rfl, unhide HO, unhide hFl, (unhide HI).lim, unhide HV, hm, unhide HB⟩
end Go.Proofs.YtijifpbpjinmhaaGreatDoor
namespace Go.Proofs.YtijifpbpjinmhaaGreatDoor
open Go.RowKit
theorem splice_all (l : List Nat) (n : Nat) (h : n = l.length) : splice (u64s (List.replicate n 0)) 0 (u64s l) = u64s l := by
  subst h
  unfold splice u64s
  simp
theorem sub_last {n : Nat} {F lx ly : List Nat} {m : Nat} (hlim : Cub.limbs 1000000000 F) (hl : F.length = n) (h : Cub.lval 1000000000 F + 1 * Cub.lval 1000000000 ly = Cub.lval 1000000000 lx + 1000000000 ^ n * m)
    (hle : Cub.lval 1000000000 ly ≤ Cub.lval 1000000000 lx) : Cub.lval 1000000000 F = Cub.lval 1000000000 lx - Cub.lval 1000000000 ly := by
  have h1 := Cub.lval_lt hlim
  rw [hl] at h1
  rcases Nat.eq_zero_or_pos m with h0 | h0
  · subst h0; omega
  · have : 1000000000 ^ n * 1 ≤ 1000000000 ^ n * m := Nat.mul_le_mul_left _ h0
    omega
theorem norm9_len_le {x y : List Nat} (hx : Cub.limbs 1000000000 x) (hy : Cub.normal 1000000000 y) (h : Cub.lval 1000000000 y ≤ Cub.lval 1000000000 x) : y.length ≤ x.length :=
  Cub.len_le hy (Nat.lt_of_le_of_lt h (Cub.lval_lt hx))
end Go.Proofs.YtijifpbpjinmhaaGreatDoor
namespace Cub
def cmpN (m n : Nat) : Int := if m < n then -1 else if n < m then 1 else 0
/-- What parsing gives of digits. -/
theorem parseM (l : List UInt8) : ∀ acc, digs l → acc ≤ 18446744073709551615 →
    Go.Lib.parseUintM 18446744073709551615 acc l = if acc * 10 ^ l.length + dval l ≤ 18446744073709551615 then .ok (acc * 10 ^ l.length + dval l) else .range := by
  induction l with
  | nil => intro acc _ h; simp [Go.Lib.parseUintM, dval, h]
  | cons c l ih =>
    intro acc hd ha
    have hc := hd c (by simp)
    have hd' : digs l := fun x hx => hd x (List.mem_cons_of_mem _ hx)
    have hp : 1 ≤ 10 ^ l.length := Nat.one_le_pow _ _ (by decide)
    simp only [Go.Lib.parseUintM]
    rw [if_pos hc, dval_cons, List.length_cons]
    have e : acc * 10 ^ (l.length + 1) + ((c.toNat - 48) * 10 ^ l.length + dval l) = (acc * 10 + (c.toNat - 48)) * 10 ^ l.length + dval l := by
      rw [Nat.pow_succ, Nat.add_mul, Nat.mul_assoc acc 10, Nat.mul_comm 10 (10 ^ l.length)]; omega
    have hge : acc * 10 + (c.toNat - 48) ≤ (acc * 10 + (c.toNat - 48)) * 10 ^ l.length := Nat.le_mul_of_pos_right _ hp
    rw [e]
    by_cases h1 : 1844674407370955162 ≤ acc
    · rw [if_pos h1, if_neg (by omega)]
    · rw [if_neg h1]
      by_cases h2 : 18446744073709551615 < acc * 10 + (c.toNat - 48)
      · rw [if_pos h2, if_neg (by omega)]
      · rw [if_neg h2, ih _ hd' (by omega)]
theorem parse64 (l : List UInt8) (h : isNat l) : Go.Lib.parseUintB 64 l = if dval l ≤ 18446744073709551615 then .ok (dval l) else .range := by
  unfold Go.Lib.parseUintB
  rw [if_neg h.2.1]
  have := parseM l 0 h.1 (by omega)
  simpa using this
end Cub
namespace Cub
theorem lval_split (B : Nat) (a : List Nat) (j : Nat) (h : j < a.length) : lval B a = lval B (a.take j) + B ^ j * (a[j] + B * lval B (a.drop (j + 1))) := by
  have e := lval_append B (a.take j) (a.drop j)
  rw [List.take_append_drop, List.length_take, Nat.min_eq_left (by omega), List.drop_eq_getElem_cons h] at e
  exact e
theorem cmp_at {B : Nat} {a b : List Nat} (ha : limbs B a) (hl : a.length = b.length) (j : Nat) (h : j < a.length) (hd : a.drop (j + 1) = b.drop (j + 1)) (hlt : a[j] < b[j]) : lval B a < lval B b := by
  rw [lval_split B a j h, lval_split B b j (by omega), hd]
  have h1 : lval B (a.take j) < B ^ j := by
    have := lval_lt (B := B) (l := a.take j) (fun z hz => ha z (List.mem_of_mem_take hz))
    rwa [List.length_take, Nat.min_eq_left (by omega)] at this
  have h2 : B ^ j * (a[j] + B * lval B (b.drop (j + 1)) + 1) ≤ B ^ j * (b[j] + B * lval B (b.drop (j + 1))) := Nat.mul_le_mul_left _ (by omega)
  rw [Nat.mul_add (B ^ j) (a[j] + B * lval B (b.drop (j + 1))) 1] at h2
  omega
theorem cmp_len {a b : List Nat} (ha : limbs 1000000000 a) (hb : normal 1000000000 b) (h : a.length < b.length) : lval 1000000000 a < lval 1000000000 b := by
  have h1 := lval_lt ha
  have hne : b ≠ [] := by intro e; rw [e] at h; simp at h
  have h2 := normal_ge hb hne
  have h3 : 1000000000 ^ a.length ≤ 1000000000 ^ (b.length - 1) := Nat.pow_le_pow_right (by decide) (by omega)
  omega
theorem cmpN_lt {m n : Nat} (h : m < n) : cmpN m n = -1 := if_pos h
theorem cmpN_gt {m n : Nat} (h : n < m) : cmpN m n = 1 := by unfold cmpN; rw [if_neg (by omega), if_pos h]
theorem cmpN_eq (m : Nat) : cmpN m m = 0 := by unfold cmpN; rw [if_neg (by omega), if_neg (by omega)]
end Cub
namespace Go.Proofs.YtijifpbpjinmhaaGreatDoor
open Go.RowKit
theorem isNaN64_any (a : Int) (w : World) : Calls Tryz.prog 114 #[.int .u64 a] w fun e w' => e = .returned (.bool false) ∧ w' = w := by
  go_enter Tryz.func114, Tryz.ntmps114
  go_wp2
  go_ret
  exact ⟨rfl, rfl⟩
theorem cmp64_any (a b : Nat) (w : World) :
    Calls Tryz.prog 60 #[.int .u64 (a : Int), .int .u64 (b : Int)] w fun e w' => e = .returned (.int .i64 (Cub.cmpN a b)) ∧ w' = w := by
  rcases Nat.lt_trichotomy a b with h | h | h
  · rw [Cub.cmpN_lt h]
    have h1 : (a : Int) < (b : Int) := by omega
    go_enter Tryz.func60, Tryz.ntmps60
    go_wp2_with (go_at_call 114; refine (isNaN64_any _ _).mono ?_; rintro e w' ⟨rfl, rfl⟩)
    go_ret
    exact ⟨rfl, rfl⟩
  · subst h
    rw [Cub.cmpN_eq]
    go_enter Tryz.func60, Tryz.ntmps60
    go_wp2_with (go_at_call 114; refine (isNaN64_any _ _).mono ?_; rintro e w' ⟨rfl, rfl⟩)
    go_ret
    exact ⟨rfl, rfl⟩
  · rw [Cub.cmpN_gt h]
    have h1 : (b : Int) < (a : Int) := by omega
    go_enter Tryz.func60, Tryz.ntmps60
    go_wp2_with (go_at_call 114; refine (isNaN64_any _ _).mono ?_; rintro e w' ⟨rfl, rfl⟩)
    go_ret
    exact ⟨rfl, rfl⟩
theorem isNaNi_any (a : Int) (w : World) : Calls Tryz.prog 205 #[.int .i64 a] w fun e w' => e = .returned (.bool false) ∧ w' = w := by
  go_enter Tryz.func205, Tryz.ntmps205
  go_wp2
  go_ret
  exact ⟨rfl, rfl⟩
theorem cmpi_any (a b : Nat) (w : World) :
    Calls Tryz.prog 172 #[.int .i64 (a : Int), .int .i64 (b : Int)] w fun e w' => e = .returned (.int .i64 (Cub.cmpN a b)) ∧ w' = w := by
  rcases Nat.lt_trichotomy a b with h | h | h
  · rw [Cub.cmpN_lt h]
    have h1 : (a : Int) < (b : Int) := by omega
    go_enter Tryz.func172, Tryz.ntmps172
    go_wp2_with (go_at_call 205; refine (isNaNi_any _ _).mono ?_; rintro e w' ⟨rfl, rfl⟩)
    go_ret
    exact ⟨rfl, rfl⟩
  · subst h
    rw [Cub.cmpN_eq]
    go_enter Tryz.func172, Tryz.ntmps172
    go_wp2_with (go_at_call 205; refine (isNaNi_any _ _).mono ?_; rintro e w' ⟨rfl, rfl⟩)
    go_ret
    exact ⟨rfl, rfl⟩
  · rw [Cub.cmpN_gt h]
    have h1 : (b : Int) < (a : Int) := by omega
    go_enter Tryz.func172, Tryz.ntmps172
    go_wp2_with (go_at_call 205; refine (isNaNi_any _ _).mono ?_; rintro e w' ⟨rfl, rfl⟩)
    go_ret
    exact ⟨rfl, rfl⟩
theorem cmp_any (x y : Value) (m n : Nat) (w : World) (hx : IsBig w x m) (hy : IsBig w y n) :
    Calls Tryz.prog 124 #[x, y] w fun e w' => e = .returned (.int .i64 (Cub.cmpN m n)) ∧ Below w.heap.size w w' := by
  obtain ⟨ap, lp, cp, rfl, hlp, hrp, hnp, rfl⟩ := hx.form
  obtain ⟨aq, lq, cq, rfl, hlq, hrq, hnq, rfl⟩ := hy.form
  have HP : Hid (Cub.normal 1000000000 lp ∧ Cells w ap lp) := ⟨hnp, hrp.cells.2.2.2⟩
  have HQ : Hid (Cub.normal 1000000000 lq ∧ Cells w aq lq) := ⟨hnq, hrq.cells.2.2.2⟩
  obtain ⟨np, hnp'⟩ : ∃ np, np = lp.length := ⟨_, rfl⟩
  obtain ⟨nq, hnq'⟩ : ∃ nq, nq = lq.length := ⟨_, rfl⟩
  rw [← hnp'] at hlp ⊢
  rw [← hnq'] at hlq ⊢
  have HNP := hide hnp'
  have HNQ := hide hnq'
  clear hx hy hrp hrq hnp hnq hnp' hnq'
  by_cases hne : np = nq
  · subst hne
    have C78 : Hid (∀ W, Calls Tryz.prog 172 #[.int .i64 (np : Int), .int .i64 (np : Int)] W fun e w' => e = .returned (.int .i64 0) ∧ w' = W) := fun W => by have h := cmpi_any np np W; rw [Cub.cmpN_eq] at h; exact h
    go_enter Tryz.func124, Tryz.ntmps124
    go_wp2_with (go_at_call 172; refine (unhide C78 _).mono ?_; rintro e w' ⟨rfl, rfl⟩)
    go_loopw [6] (fun t wr => ∃ j : Nat, j ≤ np ∧ t = .int .i64 ((j : Int) - 1) ∧ Hid (lp.drop j = lq.drop j) ∧ wr.cell? ⟨w.heap.size, 0, none⟩ = some (.slice ap np cp) ∧ wr.cell? ⟨w.heap.size + 1, 0, none⟩ = some (.slice aq np cq) ∧ Below w.heap.size w wr) (fun t _ => (intOf t + 1).toNat)
    case atStart => exact ⟨np, Nat.le_refl _, rfl, by rw [List.drop_of_length_le (by have := unhide HNP; omega), List.drop_of_length_le (by have := unhide HNQ; omega)]; exact rfl, by simp [go_sem], by simp [go_sem], ((Below.refl _ _).alloc (Nat.le_refl _) _).alloc (by simp) _⟩
    case round =>
      obtain ⟨j, hj, rfl, HD, hb1, hb2, hbl⟩ := hrel
      by_cases hj0 : j = 0
      · subst hj0
        have HF : Hid (Cub.cmpN (Cub.lval 1000000000 lp) (Cub.lval 1000000000 lq) = 0) := by
          have h := unhide HD
          rw [List.drop_zero, List.drop_zero] at h
          rw [h, Cub.cmpN_eq]; exact rfl
        go_wp2
        go_ret
        exact ⟨by rw [unhide HF]; rfl, hbl⟩
      · obtain ⟨i, rfl⟩ : ∃ i, j = i + 1 := ⟨j - 1, by omega⟩
        have hip : i < lp.length := by have := unhide HNP; omega
        have hiq : i < lq.length := by have := unhide HNQ; omega
        obtain ⟨b1, o1, rfl, hc1⟩ := (unhide HP).2 wr hbl i hip
        obtain ⟨b2, o2, rfl, hc2⟩ := (unhide HQ).2 wr hbl i hiq
        obtain ⟨xv, hxv⟩ : ∃ xv, xv = lp[i] := ⟨_, rfl⟩
        obtain ⟨yv, hyv⟩ : ∃ yv, yv = lq[i] := ⟨_, rfl⟩
        rw [← hxv] at hc1
        rw [← hyv] at hc2
        obtain ⟨c, hc⟩ : ∃ c, c = Cub.cmpN xv yv := ⟨_, rfl⟩
        have C79 : Hid (∀ W, Calls Tryz.prog 60 #[.int .u64 (xv : Int), .int .u64 (yv : Int)] W fun e w' => e = .returned (.int .i64 c) ∧ w' = W) := fun W => by have h := cmp64_any xv yv W; rw [← hc] at h; exact h
        have hin' : (i : Int) < (np : Int) := by omega
        rw [show (((i + 1 : Nat) : Int) - 1) = (i : Int) from by omega]
        by_cases hxy : xv = yv
        · have hc0 : c = 0 := by rw [hc, hxy, Cub.cmpN_eq]
          subst hc0
          have HD' : Hid (lp.drop i = lq.drop i) := by
            rw [List.drop_eq_getElem_cons hip, List.drop_eq_getElem_cons hiq, unhide HD, ← hxv, ← hyv, hxy]; exact rfl
          clear hc hxy hxv hyv hj0
          go_wp2
          go_quiet ((go_at_call 60; exact Calls.quiet_of_same (unhide C79 _)))
          go_wp2
          go_roundw
          case rel => exact ⟨i, by omega, rfl, HD', hb1, hb2, below_drewN hbl _⟩
          case measure => simp [intOf]
        · have hcz : (c != 0) = true := by
            rw [hc, bne_iff_ne]
            rcases Nat.lt_or_ge xv yv with h | h
            · rw [Cub.cmpN_lt h]; omega
            · rw [Cub.cmpN_gt (show yv < xv by omega)]; omega
          have HF : Hid (Cub.cmpN (Cub.lval 1000000000 lp) (Cub.lval 1000000000 lq) = c) := by
            have hl : lp.length = lq.length := by rw [← unhide HNP, ← unhide HNQ]
            rw [hc]
            rcases Nat.lt_or_ge xv yv with h | h
            · rw [Cub.cmpN_lt h, Cub.cmpN_lt (Cub.cmp_at (unhide HP).1.1 hl i hip (unhide HD) (by rw [← hxv, ← hyv]; exact h))]; exact rfl
            · have h' : yv < xv := by omega
              rw [Cub.cmpN_gt h', Cub.cmpN_gt (Cub.cmp_at (unhide HQ).1.1 hl.symm i hiq (unhide HD).symm (by rw [← hxv, ← hyv]; exact h'))]; exact rfl
          clear hc hxy hxv hyv hj0
          go_wp2
          go_quiet ((go_at_call 60; exact Calls.quiet_of_same (unhide C79 _)))
          go_wp2
          go_ret
          exact ⟨by rw [unhide HF]; rfl, below_drewN hbl _⟩
  · obtain ⟨c, hc⟩ : ∃ c, c = Cub.cmpN np nq := ⟨_, rfl⟩
    have hfin : Cub.cmpN (Cub.lval 1000000000 lp) (Cub.lval 1000000000 lq) = c := by
      rw [hc]
      rcases Nat.lt_or_ge np nq with h | h
      · rw [Cub.cmpN_lt h, Cub.cmpN_lt (Cub.cmp_len (unhide HP).1.1 (unhide HQ).1 (by have := unhide HNP; have := unhide HNQ; omega))]
      · rw [Cub.cmpN_gt (show nq < np by omega), Cub.cmpN_gt (Cub.cmp_len (unhide HQ).1.1 (unhide HP).1 (by have := unhide HNP; have := unhide HNQ; omega))]
    have hc0 : (c != 0) = true := by
      rw [hc, bne_iff_ne]
      rcases Nat.lt_or_ge np nq with h | h
      · rw [Cub.cmpN_lt h]; omega
      · rw [Cub.cmpN_gt (show nq < np by omega)]; omega
    have C78 : Hid (∀ W, Calls Tryz.prog 172 #[.int .i64 (np : Int), .int .i64 (nq : Int)] W fun e w' => e = .returned (.int .i64 c) ∧ w' = W) := fun W => by have h := cmpi_any np nq W; rw [← hc] at h; exact h
    rw [hfin]
    clear hfin hc
    go_enter Tryz.func124, Tryz.ntmps124
    go_wp2_with (go_at_call 172; refine (unhide C78 _).mono ?_; rintro e w' ⟨rfl, rfl⟩)
    go_ret
    exact ⟨rfl, ((Below.refl _ _).alloc (Nat.le_refl _) _).alloc (by simp) _⟩
end Go.Proofs.YtijifpbpjinmhaaGreatDoor
namespace Cub
/-- In the one form: coprime, not over 0, no sign at 0. -/
structure Low (b : Bool) (n d : Nat) : Prop where
  pos : 0 < d
  cop : Nat.gcd n d = 1
  sign : b = true → n ≠ 0
/-- A size with its sign. -/
def sg (b : Bool) (n : Nat) : Int := if b then -(n : Int) else n
def valQ (b : Bool) (n d : Nat) : Rat := ((sg b n : Int) : Rat) / ((d : Nat) : Rat)
theorem sg_abs (b : Bool) (n : Nat) : (sg b n).natAbs = n := by cases b <;> simp [sg]
theorem sg_mulNat (b : Bool) (n m : Nat) : sg b n * (m : Int) = sg b (n * m) := by cases b <;> simp [sg, Int.neg_mul]
theorem sg_zero (b : Bool) : sg b 0 = 0 := by cases b <;> rfl
theorem dR {d : Nat} (h : 0 < d) : ((d : Nat) : Rat) ≠ 0 := by
  have : d ≠ 0 := by omega
  exact_mod_cast this
theorem div_eq_iff {a b c d : Rat} (hb : b ≠ 0) (hd : d ≠ 0) : a / b = c / d ↔ a * d = c * b := by
  constructor
  · intro h; grind
  · intro h; grind
theorem valQ_eq {b b' : Bool} {n d n' d' : Nat} (hd : 0 < d) (hd' : 0 < d') : valQ b n d = valQ b' n' d' ↔ sg b n * (d' : Int) = sg b' n' * (d : Int) := by
  unfold valQ
  rw [div_eq_iff (dR hd) (dR hd')]
  constructor
  · intro h; exact_mod_cast h
  · intro h; exact_mod_cast h
theorem low_unique {b b' : Bool} {n d n' d' : Nat} (h : Low b n d) (h' : Low b' n' d') (e : valQ b n d = valQ b' n' d') : b = b' ∧ n = n' ∧ d = d' := by
  have e1 := (valQ_eq h.pos h'.pos).1 e
  have e2 : n * d' = n' * d := by
    have := congrArg Int.natAbs e1
    rw [Int.natAbs_mul, Int.natAbs_mul, sg_abs, sg_abs] at this
    simpa using this
  have d1 : d ∣ d' := by
    have : d ∣ n * d' := ⟨n', by rw [e2, Nat.mul_comm]⟩
    exact (Nat.Coprime.dvd_of_dvd_mul_left (Nat.Coprime.symm h.cop) this)
  have d2 : d' ∣ d := by
    have : d' ∣ n' * d := ⟨n, by rw [← e2, Nat.mul_comm]⟩
    exact (Nat.Coprime.dvd_of_dvd_mul_left (Nat.Coprime.symm h'.cop) this)
  have ed : d = d' := Nat.dvd_antisymm d1 d2
  subst ed
  have en : n = n' := Nat.eq_of_mul_eq_mul_right h.pos e2
  subst en
  refine ⟨?_, rfl, rfl⟩
  have e3 : sg b n = sg b' n := Int.eq_of_mul_eq_mul_right (by have := h.pos; omega) e1
  by_cases hn : n = 0
  · have hb : b = false := by cases b with | false => rfl | true => exact absurd hn (h.sign rfl)
    have hb' : b' = false := by cases b' with | false => rfl | true => exact absurd hn (h'.sign rfl)
    rw [hb, hb']
  · cases b <;> cases b' <;> first | rfl | (exfalso; simp [sg] at e3; omega)
/-- Both divided by what they share. -/
theorem lowest_cop {n d : Nat} (hd : 0 < d) : Nat.gcd (n / Nat.gcd n d) (d / Nat.gcd n d) = 1 ∧ 0 < d / Nat.gcd n d ∧ n / Nat.gcd n d * d = n * (d / Nat.gcd n d) := by
  have hg : 0 < Nat.gcd n d := Nat.gcd_pos_of_pos_right _ hd
  obtain ⟨a, ha⟩ := Nat.gcd_dvd_left n d
  obtain ⟨c, hc⟩ := Nat.gcd_dvd_right n d
  have h1 : n / Nat.gcd n d = a := by rw [Nat.div_eq_of_eq_mul_right hg ha]
  have h2 : d / Nat.gcd n d = c := by rw [Nat.div_eq_of_eq_mul_right hg hc]
  refine ⟨Nat.coprime_div_gcd_div_gcd hg, ?_, ?_⟩
  · rw [h2]
    rcases Nat.eq_zero_or_pos c with h | h
    · rw [h] at hc; omega
    · exact h
  · rw [h1, h2]
    generalize Nat.gcd n d = g at *
    rw [ha, hc]
    grind
/-- rat.Ratio. -/
theorem ratio_low {b : Bool} {n d : Nat} (hd : 0 < d) : Low (b && decide (n / Nat.gcd n d ≠ 0)) (n / Nat.gcd n d) (d / Nat.gcd n d) ∧ valQ (b && decide (n / Nat.gcd n d ≠ 0)) (n / Nat.gcd n d) (d / Nat.gcd n d) = valQ b n d := by
  obtain ⟨h1, h2, h3⟩ := lowest_cop (n := n) hd
  refine ⟨⟨h2, h1, fun h => by rw [Bool.and_eq_true, decide_eq_true_iff] at h; exact h.2⟩, ?_⟩
  rw [valQ_eq h2 hd]
  generalize n / Nat.gcd n d = a at *
  generalize d / Nat.gcd n d = c at *
  rw [sg_mulNat, sg_mulNat, h3]
  by_cases ha : a = 0
  · subst ha
    simp only [Nat.zero_mul] at h3
    rw [← h3, sg_zero, sg_zero]
  · simp [ha]
theorem num_below (x : Rat) : x.num < 0 ↔ x < 0 := by
  have h := Rat.num_nonneg (q := x)
  constructor
  · intro h1
    exact Rat.not_le.1 fun h2 => by have := h.2 h2; omega
  · intro h1
    have : ¬ 0 ≤ x.num := fun h2 => Rat.not_le.2 h1 (h.1 h2)
    omega
/-- The one form of a rational number. -/
theorem low_of (x : Rat) : Low (decide (x < 0)) x.num.natAbs x.den ∧ valQ (decide (x < 0)) x.num.natAbs x.den = x := by
  have hs : sg (decide (x < 0)) x.num.natAbs = x.num := by
    unfold sg
    by_cases h : x < 0
    · have : x.num < 0 := (num_below x).2 h
      simp only [h, decide_true, if_true]; omega
    · have : ¬ x.num < 0 := fun h2 => h ((num_below x).1 h2)
      simp only [h, decide_false, Bool.false_eq_true, if_false]; omega
  refine ⟨⟨x.den_pos, x.reduced, fun h => ?_⟩, ?_⟩
  · have := (num_below x).2 (of_decide_eq_true h)
    omega
  · unfold valQ
    rw [hs, ← Rat.mkRat_eq_div, Rat.mkRat_self]
/-- So one in the one form is that of its value. -/
theorem low_is {b : Bool} {n d : Nat} (h : Low b n d) : b = decide (valQ b n d < 0) ∧ n = (valQ b n d).num.natAbs ∧ d = (valQ b n d).den :=
  low_unique h (low_of _).1 (low_of _).2.symm
end Cub
namespace Go.Proofs.YtijifpbpjinmhaaGreatDoor
open Go.RowKit
/-- A Frac holds a sign and two numbers (its cells lie flat). -/
def IsFrac (w : World) (v : Value) (b : Bool) (n d : Nat) : Prop := ∃ s t, v = .agg #[.bool b, s, t] ∧ IsBig w (.agg #[s]) n ∧ IsBig w (.agg #[t]) d
theorem IsFrac.form {w : World} {v : Value} {b : Bool} {n d : Nat} (h : IsFrac w v b n d) : ∃ a1 l1 c1 a2 l2 c2, v = .agg #[.bool b, .slice a1 l1 c1, .slice a2 l2 c2] ∧ IsBig w (.agg #[.slice a1 l1 c1]) n ∧ IsBig w (.agg #[.slice a2 l2 c2]) d := by
  obtain ⟨s, t, rfl, h1, h2⟩ := h
  obtain ⟨a1, l1, c1, e1⟩ := h1.shape
  obtain ⟨a2, l2, c2, e2⟩ := h2.shape
  simp only [Value.agg.injEq, Array.mk.injEq, List.cons.injEq, and_true] at e1 e2
  subst e1 e2
  exact ⟨a1, l1, c1, a2, l2, c2, rfl, h1, h2⟩
/-- How far BigOf has come: what is told already, and what is left. -/
def OfInv (u : Nat) (L : List Nat) (q : Nat) : Prop := Cub.limbs 1000000000 L ∧ Cub.lval 1000000000 L + 1000000000 ^ L.length * q = u ∧ (q = 0 → Cub.normal 1000000000 L)
theorem OfInv.start (u : Nat) : OfInv u [] u := ⟨fun _ h => (by cases h), by simp [Cub.lval], fun _ => Cub.normal_nil _⟩
theorem OfInv.step {u : Nat} {L : List Nat} {q : Nat} (h : OfInv u L q) (hq : 0 < q) : OfInv u (L ++ [q % 1000000000]) (q / 1000000000) := by
  obtain ⟨h1, h2, h3⟩ := h
  have hl : Cub.limbs 1000000000 (L ++ [q % 1000000000]) := Cub.limbs_append.2 ⟨h1, fun x hx => by simp at hx; subst hx; exact Nat.mod_lt _ (by decide)⟩
  refine ⟨hl, ?_, fun h0 => ⟨hl, ?_⟩⟩
  · rw [Cub.lval_snoc, List.length_append, List.length_singleton, Nat.pow_succ, Nat.mul_assoc, Nat.add_assoc, ← Nat.mul_add]
    rw [Nat.mod_add_div]; exact h2
  · rw [List.getLast?_append]
    simp
    omega
theorem OfInv.short {u : Nat} {L : List Nat} {q : Nat} (h : OfInv u L q) (hq : 0 < q) (hu : u < 18446744073709551616) : L.length ≤ 2 := by
  have h2 := h.2.1
  have h3 : 1000000000 ^ L.length ≤ 1000000000 ^ L.length * q := Nat.le_mul_of_pos_right _ hq
  apply Decidable.byContradiction
  intro hc
  have h4 : 1000000000 ^ 3 ≤ 1000000000 ^ L.length := Nat.pow_le_pow_right (by decide) (by omega)
  omega
theorem bigOf_any (u : Nat) (w : World) (hu : u < 18446744073709551616) :
    Calls Tryz.prog 73 #[.int .u64 (u : Int)] w fun e w' => ∃ a n c, e = .returned (.agg #[.slice a n c]) ∧ IsBig w' (.agg #[.slice a n c]) u ∧ Below w.heap.size w w' := by
  obtain ⟨i0, hi, hz0, hz1, hz2⟩ := info_parts Tryz.info41
  go_enter Tryz.func73, Tryz.ntmps73
  go_wp2
  go_loopw [0, 3] (fun t v wr => ∃ (q : Nat) (L : List Nat), t = .int .u64 (q : Int) ∧ q < 18446744073709551616 ∧ L.length ≤ 3 ∧ Hid (OfInv u L q) ∧ wr.ownsRow (w.heap.size + 1) 41 1 v L.length (u64s L) ∧ Below (w.heap.size + 1) (w.alloc (.cells #[.slice none 0 0] 51)) wr) (fun t _ _ => (intOf t).toNat)
  case atStart => exact ⟨u, [], rfl, hu, by simp, OfInv.start u, ⟨rfl, Or.inl ⟨rfl, rfl⟩⟩, Below.refl _ _⟩
  case round =>
    obtain ⟨q, L, rfl, hq, hL, HI, hown, hb⟩ := hrel
    by_cases h0 : 0 < q
    · have hL2 := (unhide HI).short h0 hu
      have HI' := hide ((unhide HI).step h0)
      have hr : q % 1000000000 < 1000000000 := Nat.mod_lt _ (by decide)
      go_wp2_with (at_builtin; refine wpList_append_own _ rfl _ _ 49 rfl (w.heap.size + 1) 41 i0 (.int .u64 0) 1 8 Tryz.underlying49 hi hz0 hz1 hz2 rfl (by decide) _ _ _ rfl (hown.alloc _) ⟨wr.heap.size, 0, none⟩ 1 1 [.int .u64 ((q % 1000000000 : Nat) : Int)] rfl rfl (cell_one_new _ _ _) (fun x hx => by simp at hx; subst hx; rfl) (by unfold maxLen; omega) (by omega) (by have := hb.size; simp at this ⊢; omega) ?_; intro v' w1 hown' hgrow _)
      have hsz := hb.size
      have hb' : Below (w.heap.size + 1) (w.alloc (.cells #[.slice none 0 0] 51)) w1 := (hb.alloc (by simp at hsz; omega) _).grown hgrow (by simp at hsz ⊢; omega) (fun j hj => (hown.lt j hj).1)
      have hown2 : w1.ownsRow (w.heap.size + 1) 41 1 v' (L ++ [q % 1000000000]).length (u64s (L ++ [q % 1000000000])) := by simpa [u64s] using hown'
      clear hgrow hown' hown hsz
      go_wp2
      go_roundw
      case rel => exact ⟨q / 1000000000, L ++ [q % 1000000000], by go_num, by omega, by simp; omega, HI', hown2, hb'⟩
      case measure => simp [intOf]; omega
    · have hq0 : q = 0 := by omega
      subst hq0
      have hrow := Row.of_own hown
      have HF : Hid (Cub.lval 1000000000 L = u ∧ Cub.normal 1000000000 L) := ⟨by have := (unhide HI).2.1; simpa using this, (unhide HI).2.2 rfl⟩
      have hsz : w.heap.size + 1 ≤ wr.heap.size := by have := hb.size; simpa using this
      have hc0 : wr.cell? ⟨w.heap.size, 0, none⟩ = some (.slice none 0 0) := by rw [hb.cell (p := ⟨w.heap.size, 0, none⟩) (by simp)]; simp
      have hf0 : wr.frozen? ⟨w.heap.size, 0, none⟩ = false := by rw [hb.frozen (p := ⟨w.heap.size, 0, none⟩) (by simp)]; simp
      obtain ⟨a2, cap2, rfl, hcap2⟩ := hrow.form
      have HRow := hide hrow
      clear hrow hown
      go_wp2
      refine bodyPost_ret (v := .agg #[.slice a2 L.length cap2]) (by simp [results, Tryz.results73, go_sem, hc0]) rfl ⟨_, _, _, rfl, ?_, ?_⟩
      · exact ⟨_, _, rfl, (unhide HRow).box _ hc0 (fun _ _ h => by cases h), (unhide HF).2, (unhide HF).1⟩
      · exact (((Below.refl _ _).alloc (Nat.le_refl _) _).trans (hb.mono (Nat.le_succ _))).setCell (Nat.le_refl _) _
end Go.Proofs.YtijifpbpjinmhaaGreatDoor

/- The document's Split. -/
import Derived.Test.YtpoapffbpgnkpaaGreatDoorRefReads
import Derived.Test.YtpoapffbpgnkpaaGreatDoorReadMath
namespace Go.Proofs.YtpoapffbpgnkpaaGreatDoor
open Go.RowKit
/-- The document's readings that stand ahead of a place. -/
def SeenR (s : ByteArray) (us : Nat → UV) (n k j a b : Nat) : Prop := (a < k ∧ RefRd s us n a b) ∨ (a = k ∧ b < j ∧ RefRd s us n a b)
def CntSt (S : Nat → Nat → Prop) (c p i : Nat) : Prop := (c = 0 ∧ ∀ a b, ¬ S a b) ∨ (c = 1 ∧ S p i ∧ ∀ a b, S a b → a = p ∧ b = i) ∨ (2 ≤ c ∧ ∃ a b a' b', S a b ∧ S a' b' ∧ ¬ (a = a' ∧ b = b'))
theorem CntSt.congr {S T : Nat → Nat → Prop} (h : ∀ a b, S a b ↔ T a b) {c p i : Nat} (hs : CntSt S c p i) : CntSt T c p i := by
  have : S = T := by funext a b; exact propext (h a b)
  rw [← this]; exact hs
theorem seenR_succ {s : ByteArray} {us : Nat → UV} {n k j : Nat} (a b : Nat) : SeenR s us n k (j + 1) a b ↔ SeenR s us n k j a b ∨ (a = k ∧ b = j ∧ RefRd s us n k j) := by
  unfold SeenR
  constructor
  · rintro (h | ⟨h1, h2, h3⟩)
    · exact Or.inl (Or.inl h)
    · by_cases e : b = j
      · subst e; subst h1; exact Or.inr ⟨rfl, rfl, h3⟩
      · exact Or.inl (Or.inr ⟨h1, by omega, h3⟩)
  · rintro ((h | ⟨h1, h2, h3⟩) | ⟨rfl, rfl, h3⟩)
    · exact Or.inl h
    · exact Or.inr ⟨h1, by omega, h3⟩
    · exact Or.inr ⟨rfl, by omega, h3⟩
theorem seenR_row {s : ByteArray} {us : Nat → UV} {n k : Nat} (a b : Nat) : SeenR s us n k n a b ↔ SeenR s us n (k + 1) 0 a b := by
  unfold SeenR
  constructor
  · rintro (⟨h1, h2⟩ | ⟨h1, h2, h3⟩)
    · exact Or.inl ⟨by omega, h2⟩
    · exact Or.inl ⟨by omega, h3⟩
  · rintro (⟨h1, h2⟩ | ⟨h1, h2, h3⟩)
    · by_cases e : a = k
      · exact Or.inr ⟨e, h2.2.1, h2⟩
      · exact Or.inl ⟨by omega, h2⟩
    · omega
theorem seenR_end {s : ByteArray} {us : Nat → UV} {n : Nat} (a b : Nat) : SeenR s us n 32 0 a b ↔ RefRd s us n a b := by
  unfold SeenR
  constructor
  · rintro (⟨_, h⟩ | ⟨_, _, h⟩) <;> exact h
  · exact fun h => Or.inl ⟨h.1, h⟩
theorem cnt_skip {s : ByteArray} {us : Nat → UV} {n k j c p i : Nat} (h : CntSt (SeenR s us n k j) c p i) (hr : ¬ RefRd s us n k j) : CntSt (SeenR s us n k (j + 1)) c p i :=
  h.congr fun a b => by rw [seenR_succ]; exact ⟨fun h => Or.inl h, fun h => h.elim id fun ⟨_, _, h3⟩ => absurd h3 hr⟩
theorem cnt_new {s : ByteArray} {us : Nat → UV} {n k j c p i : Nat} (h : CntSt (SeenR s us n k j) c p i) (hr : RefRd s us n k j) : CntSt (SeenR s us n k (j + 1)) (c + 1) k j := by
  have hnew : SeenR s us n k (j + 1) k j := (seenR_succ _ _).2 (Or.inr ⟨rfl, rfl, hr⟩)
  have hold : ¬ SeenR s us n k j k j := by rintro (⟨h, _⟩ | ⟨_, h, _⟩) <;> omega
  rcases h with ⟨rfl, h⟩ | ⟨rfl, h1, h2⟩ | ⟨h1, a, b, a', b', x, y, z⟩
  · refine Or.inr (Or.inl ⟨rfl, hnew, fun a b hab => ?_⟩)
    rcases (seenR_succ _ _).1 hab with h' | ⟨e1, e2, _⟩
    · exact absurd h' (h a b)
    · exact ⟨e1, e2⟩
  · refine Or.inr (Or.inr ⟨by omega, p, i, k, j, (seenR_succ _ _).2 (Or.inl h1), hnew, ?_⟩)
    rintro ⟨rfl, rfl⟩
    exact hold h1
  · exact Or.inr (Or.inr ⟨by omega, a, b, a', b', (seenR_succ _ _).2 (Or.inl x), (seenR_succ _ _).2 (Or.inl y), z⟩)
theorem rdAny_ref {s : ByteArray} {us : Nat → UV} {n k j : Nat} (hk : k < 32) (hj : j < n) : RefRd s us n k j ↔ takesB (us j).tk (tbl k).bi = true ∧ rdAny s (tbl k).nm (tbl k).sy (us j).nm (us j).sy := by
  unfold RefRd rdAny
  constructor
  · rintro ⟨_, _, h1, e, h2, h3, h4⟩
    refine ⟨h1, e, h2, h3, ?_⟩
    unfold rdAt
    simp only [Bool.or_eq_true, Bool.and_eq_true, beq_iff_eq]
    exact h4
  · rintro ⟨h1, e, h2, h3, h4⟩
    refine ⟨hk, hj, h1, e, h2, h3, ?_⟩
    unfold rdAt at h4
    simp only [Bool.or_eq_true, Bool.and_eq_true, beq_iff_eq] at h4
    exact h4
theorem bool_of (P : Prop) : ∃ b : Bool, b = true ↔ P := by
  by_cases h : P
  · exact ⟨true, fun _ => h, fun _ => rfl⟩
  · exact ⟨false, fun e => (by cases e), fun h' => absurd h' h⟩
set_option maxRecDepth 100000 in
set_option maxHeartbeats 8000000 in
theorem refSplit_any (s : ByteArray) (hs : s.size ≤ maxLen) (a : Option Addr) (n cap : Nat) (us : Nat → UV) (w : World) (hU : InU w a n us) (hn : n ≤ 1000000000000) :
    Calls Tryz.prog 8 #[.string s, .slice a n cap] w fun r w' => ∃ v, r = .returned v ∧ SplitR (RefRd s us n) s us n v ∧ Below w.heap.size w w' := by
  have HU := hide hU
  unfold maxLen at hs
  clear hU
  obtain ⟨V, hV⟩ : ∃ V, V = w.alloc (.cells #[.string ⟨#[]⟩, .string ⟨#[]⟩, .string ⟨#[]⟩, .string ⟨#[]⟩, .bool false] 30) := ⟨_, rfl⟩
  have HZV : Hid (T5 V w.heap.size (.string ⟨#[]⟩) (.string ⟨#[]⟩) (.string ⟨#[]⟩) (.string ⟨#[]⟩) (.bool false)) := by rw [hV]; exact ⟨by simp [go_sem], by simp [go_sem], by simp [go_sem], by simp [go_sem], by simp [go_sem], by simp [go_sem], by simp [go_sem], by simp [go_sem], by simp [go_sem], by simp [go_sem]⟩
  have HBV : Hid (Below w.heap.size w V) := by rw [hV]; exact (Below.refl _ _).alloc (Nat.le_refl _) _
  have HV := hide hV
  clear hV
  by_cases h0 : s.size = 0
  · have e0 : s.toList.isEmpty = true := by
      rw [ByteArray.toList_eq]
      have : s.data.toList.length = 0 := by simpa using h0
      cases hq : s.data.toList with
      | nil => rfl
      | cons _ _ => rw [hq] at this; cases this
    go_enter Tryz.func8, Tryz.ntmps8
    go_upto_region 1 with fail
    rw [← unhide HV]
    clear HV
    have z0 := (unhide HZV).c0; have z1 := (unhide HZV).c1; have z2 := (unhide HZV).c2; have z3 := (unhide HZV).c3; have z4 := (unhide HZV).c4; have f0 := (unhide HZV).f0; have f1 := (unhide HZV).f1; have f2 := (unhide HZV).f2; have f3 := (unhide HZV).f3; have f4 := (unhide HZV).f4
    have HH := hide h0
    clear h0
    go_wp2_with fail
    have hS := (unhide HZV).store (.string ⟨#[]⟩) (.string ⟨#[]⟩) (.string ⟨#[]⟩) (.string ⟨#[]⟩) (.bool false)
    have v0 := hS.c0; have v1 := hS.c1; have v2 := hS.c2; have v3 := hS.c3; have v4 := hS.c4
    exact bodyPost_ret (v := .tuple #[zeroP, .int .i64 0, .int .i64 3]) (w := store5 V w.heap.size (.string ⟨#[]⟩) (.string ⟨#[]⟩) (.string ⟨#[]⟩) (.string ⟨#[]⟩) (.bool false)) (by simp [results, Tryz.results8, go_sem, v0, v1, v2, v3, v4, zeroP]) rfl ⟨_, rfl, Or.inl ⟨Or.inl (unhide HH), rfl⟩, below_store5 (unhide HBV) (Nat.le_refl _) (.string ⟨#[]⟩) (.string ⟨#[]⟩) (.string ⟨#[]⟩) (.string ⟨#[]⟩) (.bool false)⟩
  have e0 : s.toList.isEmpty = false := by
    rw [ByteArray.toList_eq]
    cases hq : s.data.toList with
    | nil => have : s.data.toList.length = 0 := by rw [hq]; rfl
             exact absurd (by simpa using this) h0
    | cons _ _ => rfl
  by_cases h80 : 80 < s.size
  · have h80I : (80 : Int) < (s.size : Int) := by omega
    go_enter Tryz.func8, Tryz.ntmps8
    go_upto_region 1 with fail
    rw [← unhide HV]
    clear HV
    have z0 := (unhide HZV).c0; have z1 := (unhide HZV).c1; have z2 := (unhide HZV).c2; have z3 := (unhide HZV).c3; have z4 := (unhide HZV).c4; have f0 := (unhide HZV).f0; have f1 := (unhide HZV).f1; have f2 := (unhide HZV).f2; have f3 := (unhide HZV).f3; have f4 := (unhide HZV).f4
    go_wp2_with fail
    have hS := (unhide HZV).store (.string ⟨#[]⟩) (.string ⟨#[]⟩) (.string ⟨#[]⟩) (.string ⟨#[]⟩) (.bool false)
    have v0 := hS.c0; have v1 := hS.c1; have v2 := hS.c2; have v3 := hS.c3; have v4 := hS.c4
    exact bodyPost_ret (v := .tuple #[zeroP, .int .i64 0, .int .i64 3]) (w := store5 V w.heap.size (.string ⟨#[]⟩) (.string ⟨#[]⟩) (.string ⟨#[]⟩) (.string ⟨#[]⟩) (.bool false)) (by simp [results, Tryz.results8, go_sem, v0, v1, v2, v3, v4, zeroP]) rfl ⟨_, rfl, Or.inl ⟨Or.inr h80, rfl⟩, below_store5 (unhide HBV) (Nat.le_refl _) (.string ⟨#[]⟩) (.string ⟨#[]⟩) (.string ⟨#[]⟩) (.string ⟨#[]⟩) (.bool false)⟩
  have h80I : ¬ (80 : Int) < (s.size : Int) := by omega
  have HI80 : Hid (s.size ≤ 80) := by show _ ≤ _; omega
  have HI0 : Hid (0 < s.size) := by show _ < _; omega
  clear h0 h80
  go_enter Tryz.func8, Tryz.ntmps8
  go_upto_region 1 with fail
  rw [← unhide HV]
  clear HV
  go_wp2_with fail
  go_loopw [7] (fun s7 wr => ∃ (k : Nat), k ≤ n ∧ s7 = .int .i64 (k : Int) ∧ Hid (∀ i, i < k → plainU s us i = false) ∧ wr = V) (fun s7 _ => n - (intOf s7).toNat)
  case atStart => exact ⟨0, by omega, rfl, fun i hi => absurd hi (by omega), rfl⟩
  case round =>
    obtain ⟨k, hk, rfl, HN, rfl⟩ := hrel
    by_cases hkn : k < n
    · have hkI : (k : Int) < (n : Int) := by omega
      have hk0 : (0 : Int) ≤ (k : Int) := by omega
      obtain ⟨gu, ou, rfl, hgu, hru⟩ := ((unhide HU).later (unhide HBV)) (by omega)
      have hrow := hru k hkn
      clear hru hgu
      have HPB : Hid (plainU s us k = ((us k).nm.toList == s.toList || (us k).sy.toList == s.toList)) := rfl
      have HNK := hide (fun (e : plainU s us k = false) => noneU_succ (unhide HN) e)
      have HYK := hide (fun (e : plainU s us k = true) => (Or.inl ⟨k, hkn, rfl, e, unhide HN⟩ : FirstU (plainU s us) n (k : Int)))
      have c0 := hrow.c0; have c1 := hrow.c1
      clear hrow
      generalize (us k).nm = nm at *
      generalize (us k).sy = sy at *
      cases b1 : (nm.toList == s.toList)
      all_goals cases b2 : (sy.toList == s.toList)
      all_goals rw [b1, b2] at HPB
      · have HJ := hide (unhide HNK (unhide HPB))
        clear HNK HYK HPB
        go_wp2_with fail
        go_roundw
        case rel => exact ⟨k + 1, by omega, by go_num, HJ, trivial⟩
        case measure => simp [intOf]; omega
      all_goals
        have HF := hide (unhide HYK (unhide HPB))
        clear HNK HYK HPB
        have z0 := (unhide HZV).c0; have z1 := (unhide HZV).c1; have z2 := (unhide HZV).c2; have z3 := (unhide HZV).c3; have z4 := (unhide HZV).c4; have f0 := (unhide HZV).f0; have f1 := (unhide HZV).f1; have f2 := (unhide HZV).f2; have f3 := (unhide HZV).f3; have f4 := (unhide HZV).f4
        go_wp2_with fail
        have hS := (unhide HZV).store (.string ⟨#[]⟩) (.string ⟨#[]⟩) (.string ⟨#[]⟩) (.string ⟨#[]⟩) (.bool false)
        have v0 := hS.c0; have v1 := hS.c1; have v2 := hS.c2; have v3 := hS.c3; have v4 := hS.c4
        exact bodyPost_ret (v := .tuple #[zeroP, .int .i64 (k : Int), .int .i64 0]) (w := store5 wr w.heap.size (.string ⟨#[]⟩) (.string ⟨#[]⟩) (.string ⟨#[]⟩) (.string ⟨#[]⟩) (.bool false)) (by simp [results, Tryz.results8, go_sem, v0, v1, v2, v3, v4, zeroP]) rfl ⟨_, rfl, Or.inr (Or.inl ⟨unhide HI0, unhide HI80, k, hkn, unhide HF, rfl⟩), below_store5 (unhide HBV) (Nat.le_refl _) (.string ⟨#[]⟩) (.string ⟨#[]⟩) (.string ⟨#[]⟩) (.string ⟨#[]⟩) (.bool false)⟩
    · have hkI : ¬ (k : Int) < (n : Int) := by omega
      have HF : Hid (FirstU (plainU s us) n (-1)) := Or.inr ⟨rfl, fun i hi => unhide HN i (by omega)⟩
      clear HN
      go_upto_region 9 with (go_at_call 19; go_must (refine (refAll_any _).mono ?_; rintro e wb ⟨vb, rfl, hob, hbb⟩; obtain ⟨gb, cb, rfl, hgb0, hgb1, hfb, hzb⟩ := own_five hob; have HBB := hide hbb; have HFB := hide hfb; have HG1 := hide hgb1; clear hbb hfb hgb0 hob hzb hgb1))
      have HBW : Hid (Below w.heap.size w wb) := (unhide HBV).trans ((unhide HBB).mono (unhide HBV).size)
      have HZB := hide ((unhide HZV).later (unhide HBB))
      have HUB := hide ((unhide HU).later (unhide HBW))
      clear HBB HZV HBV
      go_upto_region 11 with fail
      obtain ⟨U, hUU⟩ : ∃ U, U = wb.alloc (.cells #[.string ⟨#[]⟩, .string ⟨#[]⟩, .string ⟨#[]⟩, .string ⟨#[]⟩, .bool false] 30) := ⟨_, rfl⟩
      have HPX : Hid (T5 U wb.heap.size (.string ⟨#[]⟩) (.string ⟨#[]⟩) (.string ⟨#[]⟩) (.string ⟨#[]⟩) (.bool false)) := by rw [hUU]; exact ⟨by simp [go_sem], by simp [go_sem], by simp [go_sem], by simp [go_sem], by simp [go_sem], by simp [go_sem], by simp [go_sem], by simp [go_sem], by simp [go_sem], by simp [go_sem]⟩
      have HBU : Hid (Below wb.heap.size wb U) := by rw [hUU]; exact (Below.refl _ _).alloc (Nat.le_refl _) _
      rw [← hUU]
      clear hUU
      go_wp2_with fail
      go_loopw [9, 11, 12] (fun s9 s11 s12 wr => ∃ (k c p i : Nat) (j : Int) (x : Pre), k ≤ 32 ∧ c ≤ k * n ∧ s9 = .int .i64 (c : Int) ∧ s11 = .int .i64 j ∧ s12 = .int .i64 (k : Int) ∧ Hid (CntSt (SeenR s us n k 0) c p i ∧ (c = 1 → j = (i : Int) ∧ x = tbl p ∧ p < 32)) ∧ Hid (T5 wr wb.heap.size (.string x.nm) (.string x.sy) (.string x.fn) (.string x.fd) (.bool x.bi)) ∧ Hid (Below wb.heap.size wb wr)) (fun _ _ s12 _ => 32 - (intOf s12).toNat)
      case atStart => exact ⟨0, 0, 0, 0, 0, ⟨⟨#[]⟩, ⟨#[]⟩, 0, ⟨#[]⟩, ⟨#[]⟩, false, 0⟩, by omega, by omega, rfl, rfl, rfl, ⟨Or.inl ⟨rfl, fun a b h => by rcases h with ⟨h, _⟩ | ⟨_, h, _⟩ <;> omega⟩, fun h => by omega⟩, HPX, HBU⟩
      case round =>
        clear HPX HBU
        obtain ⟨k2, c, p, i, j, x, hk2, hc, rfl, rfl, rfl, HS, HX, HB⟩ := hrel
        by_cases hk32 : k2 < 32
        · have hk2I : (k2 : Int) < 32 := by omega
          have hk20 : (0 : Int) ≤ (k2 : Int) := by omega
          go_upto_region 16 with fail
          go_loopw [9, 11, 13] (fun s9 s11 s13 wr => ∃ (j2 c p i : Nat) (j : Int) (x : Pre), j2 ≤ n ∧ c ≤ k2 * n + j2 ∧ s9 = .int .i64 (c : Int) ∧ s11 = .int .i64 j ∧ s13 = .int .i64 (j2 : Int) ∧ Hid (CntSt (SeenR s us n k2 j2) c p i ∧ (c = 1 → j = (i : Int) ∧ x = tbl p ∧ p < 32)) ∧ Hid (T5 wr wb.heap.size (.string x.nm) (.string x.sy) (.string x.fn) (.string x.fd) (.bool x.bi)) ∧ Hid (Below wb.heap.size wb wr)) (fun _ _ s13 _ => n - (intOf s13).toNat)
          case atStart => exact ⟨0, c, p, i, j, x, by omega, by omega, rfl, rfl, rfl, HS, HX, HB⟩
          case round =>
           clear HS HX HB hc
           obtain ⟨j2, c2, p2, i2, j3, x2, hj2, hc, rfl, rfl, rfl, HS, HX, HB⟩ := hrel
           have hkn : k2 * n ≤ 32 * n := Nat.mul_le_mul_right n hk2
           generalize hkq : k2 * n = kn at *
           have HKQ := hide hkq
           clear hkq
           by_cases hjn : j2 < n
           · have hjI : (j2 : Int) < (n : Int) := by omega
             have hj0 : (0 : Int) ≤ (j2 : Int) := by omega
             have hcI : (c2 : Int) + 1 ≤ 9223372036854775807 := by omega
             have hcI0 : (0 : Int) ≤ (c2 : Int) := by omega
             obtain ⟨gu, ou, rfl, hgu, hru⟩ := ((unhide HUB).later (unhide HB)) (by omega)
             have hrow := hru j2 hjn
             clear hru hgu
             have H5 := hide ((unhide HFB k2 hk32).later (unhide HB) (unhide HG1))
             have HG2 : Hid (gb < wr.heap.size) := Nat.lt_of_lt_of_le (unhide HG1) (unhide HB).size
             obtain ⟨R, hR⟩ := bool_of (rdAny s (tbl k2).nm (tbl k2).sy (us j2).nm (us j2).sy)
             obtain ⟨T, hT⟩ : ∃ T, T = takesB (us j2).tk (tbl k2).bi := ⟨_, rfl⟩
             have HTR : Hid (RefRd s us n k2 j2 ↔ (T = true ∧ R = true)) := by show _ ↔ _; rw [rdAny_ref hk32 hjn, hT, hR]
             have HTK := hide (fun W => refTakes_any (us j2).nm (us j2).sy (us j2).d0 (us j2).d1 (us j2).d2 (us j2).d3 (us j2).d4 (us j2).d5 (us j2).d6 (us j2).d7 (us j2).fn (us j2).fd (us j2).on (us j2).od (us j2).tk (tbl k2).nm (tbl k2).sy (tbl k2).fn (tbl k2).fd (tbl k2).bi W)
             rw [← hT] at HTK
             have HRD := hide (fun W => refReads_any R s (unhide HI80) (unhide HI0) (tbl k2).nm (tbl k2).sy (tbl k2).fn (tbl k2).fd (tbl k2).bi (us j2).nm (us j2).sy (us j2).d0 (us j2).d1 (us j2).d2 (us j2).d3 (us j2).d4 (us j2).d5 (us j2).d6 (us j2).d7 (us j2).fn (us j2).fd (us j2).on (us j2).od (us j2).tk hR W)
             clear hT hR
             have HF5 : Hid (F5 wr gb k2 (.string (tbl k2).nm) (.string (tbl k2).sy) (.string (tbl k2).fn) (.string (tbl k2).fd) (.bool (tbl k2).bi)) := ⟨(unhide H5).c0, (unhide H5).c1, (unhide H5).c2, (unhide H5).c3, (unhide H5).c4⟩
             clear H5
             have HTB : Hid (∃ y, y = tbl k2) := ⟨_, rfl⟩
             obtain ⟨y, hy⟩ := unhide HTB
             clear HTB
             have HY := hide hy
             rw [← hy] at HTK HRD HF5
             clear hy
             have H5 := HF5
             generalize us j2 = u at hrow HTK HRD
             have HSK : Hid (¬ (T = true ∧ R = true) → CntSt (SeenR s us n k2 (j2 + 1)) c2 p2 i2 ∧ (c2 = 1 → j3 = (i2 : Int) ∧ x2 = tbl p2 ∧ p2 < 32)) := fun h => ⟨cnt_skip (unhide HS).1 (fun h' => h ((unhide HTR).1 h')), (unhide HS).2⟩
             have HNW : Hid (T = true ∧ R = true → CntSt (SeenR s us n k2 (j2 + 1)) (c2 + 1) k2 j2 ∧ (c2 + 1 = 1 → (j2 : Int) = (j2 : Int) ∧ y = tbl k2 ∧ k2 < 32)) := fun h => ⟨cnt_new (unhide HS).1 ((unhide HTR).2 h), fun _ => ⟨rfl, unhide HY, hk32⟩⟩
             clear HS HTR HY
             have c0 : ∀ xx : Later wr, xx.world.cell? ⟨gu, ou + j2 * 15, none⟩ = some (.string u.nm) := fun xx => (hrow.later xx.below).c0
             have c1 : ∀ xx : Later wr, xx.world.cell? ⟨gu, ou + j2 * 15 + 1, none⟩ = some (.string u.sy) := fun xx => (hrow.later xx.below).c1
             have c2 : ∀ xx : Later wr, xx.world.cell? ⟨gu, ou + j2 * 15 + 2, none⟩ = some (.int .i64 u.d0) := fun xx => (hrow.later xx.below).c2
             have c3 : ∀ xx : Later wr, xx.world.cell? ⟨gu, ou + j2 * 15 + 3, none⟩ = some (.int .i64 u.d1) := fun xx => (hrow.later xx.below).c3
             have c4 : ∀ xx : Later wr, xx.world.cell? ⟨gu, ou + j2 * 15 + 4, none⟩ = some (.int .i64 u.d2) := fun xx => (hrow.later xx.below).c4
             have c5 : ∀ xx : Later wr, xx.world.cell? ⟨gu, ou + j2 * 15 + 5, none⟩ = some (.int .i64 u.d3) := fun xx => (hrow.later xx.below).c5
             have c6 : ∀ xx : Later wr, xx.world.cell? ⟨gu, ou + j2 * 15 + 6, none⟩ = some (.int .i64 u.d4) := fun xx => (hrow.later xx.below).c6
             have c7 : ∀ xx : Later wr, xx.world.cell? ⟨gu, ou + j2 * 15 + 7, none⟩ = some (.int .i64 u.d5) := fun xx => (hrow.later xx.below).c7
             have c8 : ∀ xx : Later wr, xx.world.cell? ⟨gu, ou + j2 * 15 + 8, none⟩ = some (.int .i64 u.d6) := fun xx => (hrow.later xx.below).c8
             have c9 : ∀ xx : Later wr, xx.world.cell? ⟨gu, ou + j2 * 15 + 9, none⟩ = some (.int .i64 u.d7) := fun xx => (hrow.later xx.below).c9
             have c10 : ∀ xx : Later wr, xx.world.cell? ⟨gu, ou + j2 * 15 + 10, none⟩ = some (.string u.fn) := fun xx => (hrow.later xx.below).c10
             have c11 : ∀ xx : Later wr, xx.world.cell? ⟨gu, ou + j2 * 15 + 11, none⟩ = some (.string u.fd) := fun xx => (hrow.later xx.below).c11
             have c12 : ∀ xx : Later wr, xx.world.cell? ⟨gu, ou + j2 * 15 + 12, none⟩ = some (.string u.on) := fun xx => (hrow.later xx.below).c12
             have c13 : ∀ xx : Later wr, xx.world.cell? ⟨gu, ou + j2 * 15 + 13, none⟩ = some (.string u.od) := fun xx => (hrow.later xx.below).c13
             have c14 : ∀ xx : Later wr, xx.world.cell? ⟨gu, ou + j2 * 15 + 14, none⟩ = some (.int .i64 u.tk) := fun xx => (hrow.later xx.below).c14
             have r0 : ∀ xx : Later wr, xx.world.cell? ⟨gb, k2 * 5, none⟩ = some (.string y.nm) := fun xx => ((unhide H5).later xx.below (unhide HG2)).c0
             have r1 : ∀ xx : Later wr, xx.world.cell? ⟨gb, k2 * 5 + 1, none⟩ = some (.string y.sy) := fun xx => ((unhide H5).later xx.below (unhide HG2)).c1
             have r2 : ∀ xx : Later wr, xx.world.cell? ⟨gb, k2 * 5 + 2, none⟩ = some (.string y.fn) := fun xx => ((unhide H5).later xx.below (unhide HG2)).c2
             have r3 : ∀ xx : Later wr, xx.world.cell? ⟨gb, k2 * 5 + 3, none⟩ = some (.string y.fd) := fun xx => ((unhide H5).later xx.below (unhide HG2)).c3
             have r4 : ∀ xx : Later wr, xx.world.cell? ⟨gb, k2 * 5 + 4, none⟩ = some (.bool y.bi) := fun xx => ((unhide H5).later xx.below (unhide HG2)).c4
             clear hrow
             go_upto_region 18 with fail
             cases T
             · have HN := hide (unhide HSK (by rintro ⟨h, _⟩; cases h))
               clear HSK HNW
               refine quiet_later (by kernel_rfl) (by kernel_rfl) ?_
               repeat (go_big_quiet_step (first
                 | (go_at_call 20; rename_i xx; refine (unhide HTK _).mono ?_; rintro e w9 ⟨rfl, hb9⟩; have hz := xx.below.trans (hb9.mono xx.below.size); first | exact ⟨rfl, ⟨w9, hz⟩, rfl⟩ | exact ⟨rfl, hz⟩ | exact ⟨rfl, w9, hz, rfl⟩)
                 | (go_at_call 21; rename_i xx; refine (unhide HRD _).mono ?_; rintro e w9 ⟨rfl, hb9⟩; have hz := xx.below.trans (hb9.mono xx.below.size); first | exact ⟨rfl, ⟨w9, hz⟩, rfl⟩ | exact ⟨rfl, hz⟩ | exact ⟨rfl, w9, hz, rfl⟩)))
               refine wpQuiet_nil ?_
               intro _ hw'
               obtain ⟨xz, hw''⟩ := hw'
               subst hw''
               have HXB : Hid (Below wb.heap.size wb xz.world) := (unhide HB).trans (xz.below.mono (unhide HB).size)
               have HXX := hide ((unhide HX).later xz.below)
               have H5X := hide ((unhide H5).later xz.below (unhide HG2))
               generalize xz.world = wx at *
               clear c0 c1 c2 c3 c4 c5 c6 c7 c8 c9 c10 c11 c12 c13 c14 r0 r1 r2 r3 r4
               go_wp2_with fail
               go_roundw
               case rel => exact ⟨j2 + 1, c2, p2, i2, j3, x2, by omega, by omega, rfl, rfl, by go_num, HN, HXX, HXB⟩
               case measure => simp [intOf]; omega
             · cases R
               · have HN := hide (unhide HSK (by rintro ⟨_, h⟩; cases h))
                 clear HSK HNW
                 refine quiet_later (by kernel_rfl) (by kernel_rfl) ?_
                 repeat (go_big_quiet_step (first
                   | (go_at_call 20; rename_i xx; refine (unhide HTK _).mono ?_; rintro e w9 ⟨rfl, hb9⟩; have hz := xx.below.trans (hb9.mono xx.below.size); first | exact ⟨rfl, ⟨w9, hz⟩, rfl⟩ | exact ⟨rfl, hz⟩ | exact ⟨rfl, w9, hz, rfl⟩)
                   | (go_at_call 21; rename_i xx; refine (unhide HRD _).mono ?_; rintro e w9 ⟨rfl, hb9⟩; have hz := xx.below.trans (hb9.mono xx.below.size); first | exact ⟨rfl, ⟨w9, hz⟩, rfl⟩ | exact ⟨rfl, hz⟩ | exact ⟨rfl, w9, hz, rfl⟩)))
                 refine wpQuiet_nil ?_
                 intro _ hw'
                 obtain ⟨xz, hw''⟩ := hw'
                 subst hw''
                 have HXB : Hid (Below wb.heap.size wb xz.world) := (unhide HB).trans (xz.below.mono (unhide HB).size)
                 have HXX := hide ((unhide HX).later xz.below)
                 have H5X := hide ((unhide H5).later xz.below (unhide HG2))
                 generalize xz.world = wx at *
                 clear c0 c1 c2 c3 c4 c5 c6 c7 c8 c9 c10 c11 c12 c13 c14 r0 r1 r2 r3 r4
                 go_wp2_with fail
                 go_roundw
                 case rel => exact ⟨j2 + 1, c2, p2, i2, j3, x2, by omega, by omega, rfl, rfl, by go_num, HN, HXX, HXB⟩
                 case measure => simp [intOf]; omega
               · have HN := hide (unhide HNW ⟨rfl, rfl⟩)
                 clear HSK HNW
                 refine quiet_later (by kernel_rfl) (by kernel_rfl) ?_
                 repeat (go_big_quiet_step (first
                   | (go_at_call 20; rename_i xx; refine (unhide HTK _).mono ?_; rintro e w9 ⟨rfl, hb9⟩; have hz := xx.below.trans (hb9.mono xx.below.size); first | exact ⟨rfl, ⟨w9, hz⟩, rfl⟩ | exact ⟨rfl, hz⟩ | exact ⟨rfl, w9, hz, rfl⟩)
                   | (go_at_call 21; rename_i xx; refine (unhide HRD _).mono ?_; rintro e w9 ⟨rfl, hb9⟩; have hz := xx.below.trans (hb9.mono xx.below.size); first | exact ⟨rfl, ⟨w9, hz⟩, rfl⟩ | exact ⟨rfl, hz⟩ | exact ⟨rfl, w9, hz, rfl⟩)))
                 refine wpQuiet_nil ?_
                 intro _ hw'
                 obtain ⟨xz, hw''⟩ := hw'
                 subst hw''
                 have HXB : Hid (Below wb.heap.size wb xz.world) := (unhide HB).trans (xz.below.mono (unhide HB).size)
                 have HXX := hide ((unhide HX).later xz.below)
                 have H5X := hide ((unhide H5).later xz.below (unhide HG2))
                 generalize xz.world = wx at *
                 clear c0 c1 c2 c3 c4 c5 c6 c7 c8 c9 c10 c11 c12 c13 c14 r0 r1 r2 r3 r4
                 have r0 := (unhide H5X).c0; have r1 := (unhide H5X).c1; have r2 := (unhide H5X).c2; have r3 := (unhide H5X).c3; have r4 := (unhide H5X).c4
                 have z0 := (unhide HXX).c0; have z1 := (unhide HXX).c1; have z2 := (unhide HXX).c2; have z3 := (unhide HXX).c3; have z4 := (unhide HXX).c4; have f0 := (unhide HXX).f0; have f1 := (unhide HXX).f1; have f2 := (unhide HXX).f2; have f3 := (unhide HXX).f3; have f4 := (unhide HXX).f4
                 go_wp2_with fail
                 go_roundw
                 case rel => exact ⟨j2 + 1, c2 + 1, k2, j2, (j2 : Int), y, by omega, by omega, by go_num, rfl, by go_num, HN, (unhide HXX).store _ _ _ _ _, below_store5 (unhide HXB) (Nat.le_refl _) _ _ _ _ _⟩
                 case measure => simp [intOf]; omega
           · have hjI : ¬ (j2 : Int) < (n : Int) := by omega
             have HJN : Hid (j2 = n) := by show _ = _; omega
             have HSN : Hid (CntSt (SeenR s us n (k2 + 1) 0) c2 p2 i2 ∧ (c2 = 1 → j3 = (i2 : Int) ∧ x2 = tbl p2 ∧ p2 < 32)) := ⟨(by have h := (unhide HS).1; rw [unhide HJN] at h; exact h.congr seenR_row), (unhide HS).2⟩
             go_wp2_with fail
             go_roundw
             case rel => exact ⟨k2 + 1, c2, p2, i2, j3, x2, by omega, (by rw [Nat.succ_mul, unhide HKQ]; omega), rfl, rfl, by go_num, HSN, HX, HB⟩
             case measure => simp [intOf]; omega
        · have hk2I : ¬ (k2 : Int) < 32 := by omega
          have HK32 : Hid (k2 = 32) := by show _ = _; omega
          have HBE : Hid (Below w.heap.size w wr) := (unhide HBW).trans ((unhide HB).mono (unhide HBW).size)
          have HZE := hide ((unhide HZB).later (unhide HB))
          have HCE : Hid (CntSt (RefRd s us n) c p i) := (by have h := (unhide HS).1; rw [unhide HK32] at h; exact h.congr seenR_end)
          have HON := hide (unhide HS).2
          clear HS
          have z0 := (unhide HZE).c0; have z1 := (unhide HZE).c1; have z2 := (unhide HZE).c2; have z3 := (unhide HZE).c3; have z4 := (unhide HZE).c4; have f0 := (unhide HZE).f0; have f1 := (unhide HZE).f1; have f2 := (unhide HZE).f2; have f3 := (unhide HZE).f3; have f4 := (unhide HZE).f4
          rcases unhide HCE with ⟨rfl, hno⟩ | ⟨rfl, h1, h2⟩ | ⟨hc2, a1, b1, a2, b2, x1, x2, x3⟩
          · have HOUT : Hid (SplitR (RefRd s us n) s us n (.tuple #[zeroP, .int .i64 0, .int .i64 5])) := Or.inr (Or.inr ⟨unhide HI0, unhide HI80, unhide HF, 5, 0, 0, Or.inl (Or.inl ⟨rfl, rfl, rfl, hno⟩), rfl⟩)
            clear hno HCE HON
            go_wp2_with fail
            have hS := (unhide HZE).store (.string ⟨#[]⟩) (.string ⟨#[]⟩) (.string ⟨#[]⟩) (.string ⟨#[]⟩) (.bool false)
            have v0 := hS.c0; have v1 := hS.c1; have v2 := hS.c2; have v3 := hS.c3; have v4 := hS.c4
            exact bodyPost_ret (v := .tuple #[zeroP, .int .i64 0, .int .i64 5]) (w := store5 wr w.heap.size (.string ⟨#[]⟩) (.string ⟨#[]⟩) (.string ⟨#[]⟩) (.string ⟨#[]⟩) (.bool false)) (by simp [results, Tryz.results8, go_sem, v0, v1, v2, v3, v4, zeroP]) rfl ⟨_, rfl, unhide HOUT, below_store5 (unhide HBE) (Nat.le_refl _) (.string ⟨#[]⟩) (.string ⟨#[]⟩) (.string ⟨#[]⟩) (.string ⟨#[]⟩) (.bool false)⟩
          · obtain ⟨hj, hx, hp⟩ := unhide HON rfl
            have HOUT : Hid (SplitR (RefRd s us n) s us n (.tuple #[.agg #[.string x.nm, .string x.sy, .string x.fn, .string x.fd, .bool x.bi], .int .i64 j, .int .i64 0])) := (by rw [hj, hx]; exact Or.inr (Or.inr ⟨unhide HI0, unhide HI80, unhide HF, 0, p, i, Or.inl (Or.inr ⟨rfl, h1, h2⟩), rfl⟩))
            clear h1 h2 HCE HON hj hx hp
            have y0 := (unhide HX).c0; have y1 := (unhide HX).c1; have y2 := (unhide HX).c2; have y3 := (unhide HX).c3; have y4 := (unhide HX).c4
            go_wp2_with fail
            have hS := (unhide HZE).store (.string x.nm) (.string x.sy) (.string x.fn) (.string x.fd) (.bool x.bi)
            have v0 := hS.c0; have v1 := hS.c1; have v2 := hS.c2; have v3 := hS.c3; have v4 := hS.c4
            exact bodyPost_ret (v := .tuple #[.agg #[.string x.nm, .string x.sy, .string x.fn, .string x.fd, .bool x.bi], .int .i64 j, .int .i64 0]) (w := store5 wr w.heap.size (.string x.nm) (.string x.sy) (.string x.fn) (.string x.fd) (.bool x.bi)) (by simp [results, Tryz.results8, go_sem, v0, v1, v2, v3, v4]) rfl ⟨_, rfl, unhide HOUT, below_store5 (unhide HBE) (Nat.le_refl _) (.string x.nm) (.string x.sy) (.string x.fn) (.string x.fd) (.bool x.bi)⟩
          · have HOUT : Hid (SplitR (RefRd s us n) s us n (.tuple #[zeroP, .int .i64 0, .int .i64 71])) := Or.inr (Or.inr ⟨unhide HI0, unhide HI80, unhide HF, 71, 0, 0, Or.inr ⟨rfl, rfl, rfl, a1, b1, a2, b2, x1, x2, x3⟩, rfl⟩)
            clear x1 x2 x3 HCE HON
            have hcI : (1 : Int) < (c : Int) := by omega
            have hcz : ((c : Int) == 0) = false := by rw [beq_eq_false_iff_ne]; omega
            go_wp2_with fail
            have hS := (unhide HZE).store (.string ⟨#[]⟩) (.string ⟨#[]⟩) (.string ⟨#[]⟩) (.string ⟨#[]⟩) (.bool false)
            have v0 := hS.c0; have v1 := hS.c1; have v2 := hS.c2; have v3 := hS.c3; have v4 := hS.c4
            exact bodyPost_ret (v := .tuple #[zeroP, .int .i64 0, .int .i64 71]) (w := store5 wr w.heap.size (.string ⟨#[]⟩) (.string ⟨#[]⟩) (.string ⟨#[]⟩) (.string ⟨#[]⟩) (.bool false)) (by simp [results, Tryz.results8, go_sem, v0, v1, v2, v3, v4, zeroP]) rfl ⟨_, rfl, unhide HOUT, below_store5 (unhide HBE) (Nat.le_refl _) (.string ⟨#[]⟩) (.string ⟨#[]⟩) (.string ⟨#[]⟩) (.string ⟨#[]⟩) (.bool false)⟩
end Go.Proofs.YtpoapffbpgnkpaaGreatDoor

/- The document's class and word: how many runes the word has that begins a text. -/
import Derived.Test.YtiooiacebgojiaaDoorRefPower2
import Derived.Test.YtiooiacebgojiaaDoorLongest
import Derived.Test.YtiooiacebgojiaaDoorClass4
namespace Go.Proofs.YtiooiacebgojiaaDoor
open Go.RowKit

def toldL (s : ByteArray) (L : List Nat) : List UInt8 := L.flatMap fun p => Lib.encodeRune (foldR ((Utf8.decode s p).1 : Nat))
theorem toldL_snoc (s : ByteArray) (L : List Nat) (p : Nat) : toldL s (L ++ [p]) = toldL s L ++ Lib.encodeRune (foldR ((Utf8.decode s p).1 : Nat)) := by simp [toldL]
/-- The word has k runes, and ends at q. -/
structure Wd (s : ByteArray) (k q : Nat) : Prop where
  le : k ≤ (places s 0).length
  qle : q ≤ s.size
  drop : (places s 0).drop k = places s q
  lg : Lg s 0 0 [] (toldL s ((places s 0).take k)) q
  last : (k = 0 ∧ q = 0) ∨ (0 < k ∧ 0 < q ∧ ∃ x, (places s 0)[k - 1]? = some x ∧ x + (Utf8.decode s x).2 = q)
/-- So far it has k runes and ends at q. -/
structure At (s : ByteArray) (r0 : Int) (k q : Nat) : Prop where
  kpos : 0 < k
  le : k ≤ (places s 0).length
  qpos : 0 < q
  qle : q ≤ s.size
  drop : (places s 0).drop k = places s q
  last : ∃ x, (places s 0)[k - 1]? = some x ∧ x + (Utf8.decode s x).2 = q
  go : ∀ out q', Lg s q r0 (toldL s ((places s 0).take k)) out q' → Lg s 0 0 [] out q'
theorem At.start {s : ByteArray} (hs : 0 < s.size) (h : contB 0 0 (Utf8.decode s 0).1 = true) : At s (Utf8.decode s 0).1 1 (Utf8.decode s 0).2 where
  kpos := Nat.one_pos
  le := by rw [places_step s 0 hs]; simp
  qpos := Lib.decode_width_pos s 0 hs
  qle := by have := width_le s 0 hs; simpa using this
  drop := by rw [places_step s 0 hs]; simp
  last := ⟨0, by rw [places_step s 0 hs]; rfl, by simp⟩
  go := fun out q' hl => by
    refine .step 0 0 [] out q' hs h ?_
    rw [places_step s 0 hs] at hl
    simpa [toldL, firstOf] using hl
theorem At.get {s : ByteArray} {r0 : Int} {k q : Nat} (h : At s r0 k q) (hq : q < s.size) : k < (places s 0).length ∧ (places s 0)[k]? = some q := by
  obtain ⟨hi, he, _⟩ := places_cons h.drop hq
  exact ⟨hi, by rw [List.getElem?_eq_getElem hi, he]⟩
theorem At.step {s : ByteArray} {r0 : Int} {k q : Nat} (h : At s r0 k q) (hq : q < s.size) (hg : goesB r0 (Utf8.decode s q).1 = true) : At s r0 (k + 1) (q + (Utf8.decode s q).2) := by
  obtain ⟨hi, he, hd⟩ := places_cons h.drop hq
  have hq0 := h.qpos
  refine ⟨by omega, by omega, by omega, width_le s q hq, hd, ⟨q, ?_, rfl⟩, fun out q' hl => h.go out q' (.step q r0 _ out q' hq ?_ ?_)⟩
  · rw [Nat.add_sub_cancel, List.getElem?_eq_getElem hi, he]
  · unfold contB; rw [if_neg (by have := h.qpos; omega)]; exact hg
  · rw [List.take_succ_eq_append_getElem hi, toldL_snoc, he] at hl
    unfold firstOf
    rw [if_neg (by have := h.qpos; omega)]
    exact hl
theorem At.stop {s : ByteArray} {r0 : Int} {k q : Nat} (h : At s r0 k q) (hq : q < s.size) (hg : goesB r0 (Utf8.decode s q).1 = false) : Wd s k q where
  le := h.le
  qle := h.qle
  drop := h.drop
  lg := h.go _ _ (.stop q r0 _ hq (by unfold contB; rw [if_neg (by have := h.qpos; omega)]; exact hg))
  last := .inr ⟨h.kpos, h.qpos, h.last⟩
theorem At.done {s : ByteArray} {r0 : Int} {k q : Nat} (h : At s r0 k q) (hq : ¬ q < s.size) : Wd s k q := by
  have hqe : q = s.size := by have := h.qle; omega
  exact { le := h.le, qle := h.qle, drop := h.drop, lg := by have h2 := h.go _ _ (.done q r0 _ hq); rw [← hqe] at h2; exact h2, last := .inr ⟨h.kpos, h.qpos, h.last⟩ }
theorem Wd.zero {s : ByteArray} (hs : 0 < s.size) (h : contB 0 0 (Utf8.decode s 0).1 = false) : Wd s 0 0 where
  le := Nat.zero_le _
  qle := Nat.zero_le _
  drop := rfl
  lg := .stop 0 0 [] hs h
  last := .inl ⟨rfl, rfl⟩
theorem Wd.empty {s : ByteArray} (hs : s.size = 0) : Wd s 0 0 where
  le := Nat.zero_le _
  qle := Nat.zero_le _
  drop := rfl
  lg := by have h := Lg.done (s := s) 0 0 [] (by omega); rw [hs] at h; exact h
  last := .inl ⟨rfl, rfl⟩
theorem Lg.det {s : ByteArray} {p : Nat} {f : Int} {acc o1 : List UInt8} {q1 : Nat} (h1 : Lg s p f acc o1 q1) : ∀ {o2 : List UInt8} {q2 : Nat}, Lg s p f acc o2 q2 → o1 = o2 ∧ q1 = q2 := by
  induction h1 with
  | stop p f acc hp hc =>
    intro o2 q2 h2
    cases h2 with
    | stop _ _ _ _ _ => exact ⟨rfl, rfl⟩
    | done _ _ _ hn => exact absurd hp hn
    | step _ _ _ _ _ _ hc' => rw [hc] at hc'; cases hc'
  | done p f acc hn =>
    intro o2 q2 h2
    cases h2 with
    | stop _ _ _ hp _ => exact absurd hp hn
    | done _ _ _ _ => exact ⟨rfl, rfl⟩
    | step _ _ _ _ _ hp => exact absurd hp hn
  | step p f acc out q hp hc _ ih =>
    intro o2 q2 h2
    cases h2 with
    | stop _ _ _ _ hc' => rw [hc] at hc'; cases hc'
    | done _ _ _ hn => exact absurd hp hn
    | step _ _ _ _ _ _ _ h => exact ih h

theorem broken_class (s : ByteArray) (p : Nat) (h : brokenAt s p = true) : classOf ((Utf8.decode s p).1 : Nat) = 0 := by
  unfold brokenAt at h
  have h1 : (Utf8.decode s p).1 = 65533 := by simp at h; exact h.1
  rw [h1]
  decide
theorem refClass_any (r f : Int) (b : Bool) (p n : Int) (hb : b = true → classOf r = 0) (w : World) : Calls Tryd.prog 56 #[.agg #[.int .i32 r, .int .i32 f, .bool b, .int .i64 p, .int .i64 n]] w fun e w' => e = .returned (.int .i64 (classOf r)) ∧ Below w.heap.size w w' := by
  cases b
  · have HC := hide (rclass_any r)
    clear hb
    generalize classOf r = c at *
    go_enter Tryd.func56, Tryd.ntmps56
    go_wp2_with (go_at_call 14; refine (unhide HC _).mono ?_; rintro e w1 ⟨rfl, rfl⟩)
    go_ret
    exact ⟨rfl, (Below.refl _ _).alloc (Nat.le_refl _) _⟩
  · have h0 := hb rfl
    rw [h0]
    clear hb h0
    go_enter Tryd.func56, Tryd.ntmps56
    go_wp2
    go_ret
    exact ⟨rfl, (Below.refl _ _).alloc (Nat.le_refl _) _⟩
/-- What stands at rune i of the list, in five cells. -/
def Five (w : World) (g i : Nat) (r f : Int) (b : Bool) (p n : Int) : Prop := w.cell? ⟨g, i * 5, none⟩ = some (.int .i32 r) ∧ w.cell? ⟨g, i * 5 + 1, none⟩ = some (.int .i32 f) ∧ w.cell? ⟨g, i * 5 + 2, none⟩ = some (.bool b) ∧ w.cell? ⟨g, i * 5 + 3, none⟩ = some (.int .i64 p) ∧ w.cell? ⟨g, i * 5 + 4, none⟩ = some (.int .i64 n)
theorem RunesIn.five {w : World} {g : Nat} {s : ByteArray} (h : RunesIn w g s) {i p : Nat} (hi : (places s 0)[i]? = some p) : Five w g i ((Utf8.decode s p).1 : Nat) (foldR ((Utf8.decode s p).1 : Nat)) (brokenAt s p) p ((Utf8.decode s p).2 : Nat) :=
  ⟨h.2 i p hi 0 _ rfl, h.2 i p hi 1 _ rfl, h.2 i p hi 2 _ rfl, h.2 i p hi 3 _ rfl, h.2 i p hi 4 _ rfl⟩
def WordOut (s : ByteArray) (e : Ending) : Prop := ∃ k q : Nat, e = .returned (.int .i64 (k : Int)) ∧ Wd s k q
theorem word_nil (s : ByteArray) (hs : s.size = 0) (a : Option Addr) (c : Nat) (w : World) : Calls Tryd.prog 31 #[.slice a 0 c] w fun e w' => WordOut s e ∧ Below w.heap.size w w' := by
  have HW := hide (Wd.empty hs)
  clear hs
  go_enter Tryd.func31, Tryd.ntmps31
  go_wp2
  go_ret
  exact ⟨⟨0, 0, rfl, unhide HW⟩, Below.refl _ _⟩

set_option maxRecDepth 100000 in
set_option maxHeartbeats 1000000 in
theorem word_any (s : ByteArray) (hs : 0 < s.size) (hmax : s.size ≤ 1000000000000) (g cap : Nat) (w : World) (hin : RunesIn w g s) :
    Calls Tryd.prog 31 #[.slice (some ⟨g, 0, none⟩) (places s 0).length cap] w fun e w' => WordOut s e ∧ Below w.heap.size w w' := by
  have HIN := hide hin
  have hpl : (places s 0)[0]? = some 0 := by rw [places_step s 0 hs]; rfl
  have hn0 : 0 < (places s 0).length := by rw [places_step s 0 hs]; simp
  have hnle : (places s 0).length ≤ s.size := by have := places_len s 0; omega
  obtain ⟨r0, hr0⟩ : ∃ r0 : Int, r0 = ((Utf8.decode s 0).1 : Nat) := ⟨_, rfl⟩
  obtain ⟨f0, hf0⟩ : ∃ f0 : Int, f0 = foldR r0 := ⟨_, rfl⟩
  obtain ⟨b0, hb0⟩ : ∃ b0, b0 = brokenAt s 0 := ⟨_, rfl⟩
  obtain ⟨n0, hnn0⟩ : ∃ n0 : Int, n0 = ((Utf8.decode s 0).2 : Nat) := ⟨_, rfl⟩
  have HF0 : Hid (∀ W, Below w.heap.size w W → W.cell? ⟨g, 0, none⟩ = some (.int .i32 r0) ∧ W.cell? ⟨g, 1, none⟩ = some (.int .i32 f0) ∧ W.cell? ⟨g, 2, none⟩ = some (.bool b0) ∧ W.cell? ⟨g, 3, none⟩ = some (.int .i64 0) ∧ W.cell? ⟨g, 4, none⟩ = some (.int .i64 n0)) := by
    intro W hW
    have h := ((unhide HIN).later hW).five hpl
    rw [← hr0, ← hf0, ← hb0, ← hnn0] at h
    simpa [Five] using h
  obtain ⟨c0, c1, c2, c3, c4⟩ := unhide HF0 w (Below.refl _ _)
  have HC0 := hide (refClass_any r0 f0 b0 0 n0 (fun h => by rw [hr0]; exact broken_class s 0 (by rw [← hb0]; exact h)))
  have HS : Hid (contB 0 0 r0 = true → At s r0 1 (Utf8.decode s 0).2) := fun h => by rw [hr0] at h ⊢; exact At.start hs h
  have HZ : Hid (contB 0 0 r0 = false → Wd s 0 0) := fun h => by rw [hr0] at h; exact Wd.zero hs h
  obtain ⟨n, hn⟩ : ∃ n, n = (places s 0).length := ⟨_, rfl⟩
  rw [← hn] at hn0 hnle ⊢
  have HN := hide hn
  obtain ⟨cl, hcl⟩ : ∃ cl, cl = classOf r0 := ⟨_, rfl⟩
  rw [← hcl] at HC0
  have HCL := hide hcl
  clear hcl hn hin hpl hr0 hf0 hb0 hnn0
  by_cases q1 : cl = 1
  · subst q1
    have HA : Hid (At s r0 1 (Utf8.decode s 0).2) := unhide HS (by unfold contB; rw [if_pos rfl, ← unhide HCL]; rfl)
    clear HS HZ
    go_enter Tryd.func31, Tryd.ntmps31
    go_upto_region 5 with (go_at_call 56; refine (unhide HC0 w).mono ?_; rintro e w1 ⟨rfl, hb1⟩)
    have HB1 := hide hb1
    clear hb1 c0 c1 c2 c3 c4
    go_loopw [3] (fun v3 wr => ∃ (k q : Nat), v3 = .int .i64 (k : Int) ∧ k ≤ n ∧ Hid (At s r0 k q) ∧ Hid (Below w.heap.size w wr)) (fun v3 _ => n - (intOf v3).toNat)
    case atStart => exact ⟨1, _, rfl, by omega, HA, HB1⟩
    case round =>
      obtain ⟨k, q, rfl, hk, HAT, HB⟩ := hrel
      by_cases hq : q < s.size
      · obtain ⟨hkl, hget⟩ := (unhide HAT).get hq
        rw [← unhide HN] at hkl
        obtain ⟨r, hr⟩ : ∃ r : Int, r = ((Utf8.decode s q).1 : Nat) := ⟨_, rfl⟩
        obtain ⟨f, hf⟩ : ∃ f : Int, f = foldR r := ⟨_, rfl⟩
        obtain ⟨b, hb⟩ : ∃ b, b = brokenAt s q := ⟨_, rfl⟩
        obtain ⟨nw, hnw⟩ : ∃ nw : Int, nw = ((Utf8.decode s q).2 : Nat) := ⟨_, rfl⟩
        have HF : Hid (∀ W, Below w.heap.size w W → Five W g k r f b q nw) := by
          intro W hW
          have h := ((unhide HIN).later hW).five hget
          rw [← hr, ← hf, ← hb, ← hnw] at h
          exact h
        obtain ⟨d0, d1, d2, d3, d4⟩ := unhide HF wr (unhide HB)
        have HC := hide (refClass_any r f b q nw (fun h => by rw [hr]; exact broken_class s q (by rw [← hb]; exact h)))
        have hgo : goesB r0 r = (classOf r == 1 || classOf r == 2) := by unfold goesB; rw [← unhide HCL, if_neg (by decide)]
        have HST : Hid (goesB r0 r = true → At s r0 (k + 1) (q + (Utf8.decode s q).2)) := fun h => (unhide HAT).step hq (by rw [← hr]; exact h)
        have HSP : Hid (goesB r0 r = false → Wd s k q) := fun h => (unhide HAT).stop hq (by rw [← hr]; exact h)
        rw [hgo] at HST HSP
        clear hr hf hb hnw hget hgo HAT
        generalize classOf r = c at *
        by_cases e1 : c = 1
        · subst e1
          have HA2 := hide (unhide HST rfl)
          clear HST HSP
          go_wp2_with (go_at_call 56; refine (unhide HC wr).mono ?_; rintro e w2 ⟨rfl, hb2⟩)
          go_roundw
          case rel => exact ⟨k + 1, _, by go_num, by omega, HA2, (unhide HB).trans (hb2.mono (unhide HB).size)⟩
          case measure => simp [intOf]; omega
        · have e1b : (c == 1) = false := by rw [beq_eq_false_iff_ne]; exact e1
          by_cases e2 : c = 2
          · subst e2
            have HA2 := hide (unhide HST rfl)
            clear HST HSP e1 e1b
            go_wp2_with (first
              | (go_at_call 56; refine (unhide HC wr).mono ?_; rintro e w2 ⟨rfl, hb2⟩; have HB2 := hide ((unhide HB).trans (hb2.mono (unhide HB).size)); obtain ⟨j0, j1, j2, j3, j4⟩ := unhide HF w2 (unhide HB2); clear hb2 d0 d1 d2 d3 d4)
              | (go_at_call 56; refine (unhide HC w2).mono ?_; rintro e w3 ⟨rfl, hb3⟩))
            go_roundw
            case rel => exact ⟨k + 1, _, by go_num, by omega, HA2, (unhide HB2).trans (hb3.mono (unhide HB2).size)⟩
            case measure => simp [intOf]; omega
          · have e2b : (c == 2) = false := by rw [beq_eq_false_iff_ne]; exact e2
            have HW := hide (unhide HSP (by rw [e1b, e2b]; rfl))
            clear HST HSP e1 e2
            go_wp2_with (first
              | (go_at_call 56; refine (unhide HC wr).mono ?_; rintro e w2 ⟨rfl, hb2⟩; have HB2 := hide ((unhide HB).trans (hb2.mono (unhide HB).size)); obtain ⟨j0, j1, j2, j3, j4⟩ := unhide HF w2 (unhide HB2); clear hb2 d0 d1 d2 d3 d4)
              | (go_at_call 56; refine (unhide HC w2).mono ?_; rintro e w3 ⟨rfl, hb3⟩))
            go_ret
            exact ⟨⟨k, q, rfl, unhide HW⟩, (unhide HB2).trans (hb3.mono (unhide HB2).size)⟩
      · have HW := hide ((unhide HAT).done hq)
        have hkn : n ≤ k := by rw [unhide HN]; exact places_nil (unhide HAT).drop hq
        clear HAT
        go_wp2_with fail
        go_ret
        exact ⟨⟨k, q, rfl, unhide HW⟩, unhide HB⟩
  · have e1b : (cl == 1) = false := by rw [beq_eq_false_iff_ne]; exact q1
    by_cases q4 : cl = 4
    · subst q4
      have HA : Hid (At s r0 1 (Utf8.decode s 0).2) := unhide HS (by unfold contB; rw [if_pos rfl, ← unhide HCL]; rfl)
      clear HS HZ q1
      by_cases q5 : r0 = 176
      · subst q5
        go_enter Tryd.func31, Tryd.ntmps31
        go_upto_region 8 with (first
          | (go_at_call 56; refine (unhide HC0 w).mono ?_; rintro e w1 ⟨rfl, hb1⟩; have HB1 := hide hb1; obtain ⟨d0, d1, d2, d3, d4⟩ := unhide HF0 w1 hb1; clear hb1 c0 c1 c2 c3 c4)
          | (go_at_call 56; refine (unhide HC0 w1).mono ?_; rintro e w2 ⟨rfl, hb2⟩; have HB2 := hide ((unhide HB1).trans (hb2.mono (unhide HB1).size)); obtain ⟨j0, j1, j2, j3, j4⟩ := unhide HF0 w2 (unhide HB2); clear hb2 d0 d1 d2 d3 d4))
        clear j0 j1 j2 j3 j4
        go_loopw [3] (fun v3 wr => ∃ (k q : Nat), v3 = .int .i64 (k : Int) ∧ k ≤ n ∧ Hid (At s 176 k q) ∧ Hid (Below w.heap.size w wr)) (fun v3 _ => n - (intOf v3).toNat)
        case atStart => exact ⟨1, _, rfl, by omega, HA, HB2⟩
        case round =>
          obtain ⟨k, q, rfl, hk, HAT, HB⟩ := hrel
          by_cases hq : q < s.size
          · obtain ⟨hkl, hget⟩ := (unhide HAT).get hq
            rw [← unhide HN] at hkl
            obtain ⟨r, hr⟩ : ∃ r : Int, r = ((Utf8.decode s q).1 : Nat) := ⟨_, rfl⟩
            obtain ⟨f, hf⟩ : ∃ f : Int, f = foldR r := ⟨_, rfl⟩
            obtain ⟨b, hb⟩ : ∃ b, b = brokenAt s q := ⟨_, rfl⟩
            obtain ⟨nw, hnw⟩ : ∃ nw : Int, nw = ((Utf8.decode s q).2 : Nat) := ⟨_, rfl⟩
            have h5 := ((unhide HIN).later (unhide HB)).five hget
            rw [← hr, ← hf, ← hb, ← hnw] at h5
            obtain ⟨d0, d1, d2, d3, d4⟩ := h5
            have HC := hide (refClass_any r f b q nw (fun h => by rw [hr]; exact broken_class s q (by rw [← hb]; exact h)))
            have hgo : goesB 176 r = (classOf r == 1) := by unfold goesB; rw [← unhide HCL, if_pos rfl]; rfl
            have HST : Hid (goesB 176 r = true → At s 176 (k + 1) (q + (Utf8.decode s q).2)) := fun h => (unhide HAT).step hq (by rw [← hr]; exact h)
            have HSP : Hid (goesB 176 r = false → Wd s k q) := fun h => (unhide HAT).stop hq (by rw [← hr]; exact h)
            rw [hgo] at HST HSP
            clear hr hf hb hnw hget hgo HAT
            generalize classOf r = c at *
            by_cases e1 : c = 1
            · subst e1
              have HA2 := hide (unhide HST rfl)
              clear HST HSP
              go_wp2_with (go_at_call 56; refine (unhide HC wr).mono ?_; rintro e w3 ⟨rfl, hb3⟩)
              go_roundw
              case rel => exact ⟨k + 1, _, by go_num, by omega, HA2, (unhide HB).trans (hb3.mono (unhide HB).size)⟩
              case measure => simp [intOf]; omega
            · have e1b : (c == 1) = false := by rw [beq_eq_false_iff_ne]; exact e1
              have HW := hide (unhide HSP e1b)
              clear HST HSP e1
              go_wp2_with (go_at_call 56; refine (unhide HC wr).mono ?_; rintro e w3 ⟨rfl, hb3⟩)
              go_ret
              exact ⟨⟨k, q, rfl, unhide HW⟩, (unhide HB).trans (hb3.mono (unhide HB).size)⟩
          · have HW := hide ((unhide HAT).done hq)
            have hkn : n ≤ k := by rw [unhide HN]; exact places_nil (unhide HAT).drop hq
            clear HAT
            go_wp2_with fail
            go_ret
            exact ⟨⟨k, q, rfl, unhide HW⟩, unhide HB⟩
      · have q5b : (r0 == 176) = false := by rw [beq_eq_false_iff_ne]; exact q5
        have HW : Hid (Wd s 1 (Utf8.decode s 0).2) := by
          by_cases hq : (Utf8.decode s 0).2 < s.size
          · exact (unhide HA).stop hq (by unfold goesB; rw [← unhide HCL, if_pos rfl, q5b]; rfl)
          · exact (unhide HA).done hq
        clear HA q5
        go_enter Tryd.func31, Tryd.ntmps31
        go_wp2_with (first
          | (go_at_call 56; refine (unhide HC0 w).mono ?_; rintro e w1 ⟨rfl, hb1⟩; have HB1 := hide hb1; obtain ⟨d0, d1, d2, d3, d4⟩ := unhide HF0 w1 hb1; clear hb1 c0 c1 c2 c3 c4)
          | (go_at_call 56; refine (unhide HC0 w1).mono ?_; rintro e w2 ⟨rfl, hb2⟩; have HB2 := hide ((unhide HB1).trans (hb2.mono (unhide HB1).size)); obtain ⟨j0, j1, j2, j3, j4⟩ := unhide HF0 w2 (unhide HB2); clear hb2 d0 d1 d2 d3 d4)
          | (go_at_call 56; refine (unhide HC0 w2).mono ?_; rintro e w3 ⟨rfl, hb3⟩; have HB3 := hide ((unhide HB2).trans (hb3.mono (unhide HB2).size))))
        go_ret
        exact ⟨⟨1, _, rfl, unhide HW⟩, unhide HB3⟩
    · have e4b : (cl == 4) = false := by rw [beq_eq_false_iff_ne]; exact q4
      have HW := hide (unhide HZ (by unfold contB; rw [if_pos rfl, ← unhide HCL, e1b, e4b]; rfl))
      clear HS HZ q1 q4
      go_enter Tryd.func31, Tryd.ntmps31
      go_wp2_with (first
        | (go_at_call 56; refine (unhide HC0 w).mono ?_; rintro e w1 ⟨rfl, hb1⟩; have HB1 := hide hb1; obtain ⟨d0, d1, d2, d3, d4⟩ := unhide HF0 w1 hb1; clear hb1 c0 c1 c2 c3 c4)
        | (go_at_call 56; refine (unhide HC0 w1).mono ?_; rintro e w2 ⟨rfl, hb2⟩; have HB2 := hide ((unhide HB1).trans (hb2.mono (unhide HB1).size)); obtain ⟨j0, j1, j2, j3, j4⟩ := unhide HF0 w2 (unhide HB2); clear hb2 d0 d1 d2 d3 d4)
        | (go_at_call 56; refine (unhide HC0 w2).mono ?_; rintro e w3 ⟨rfl, hb3⟩; have HB3 := hide ((unhide HB2).trans (hb3.mono (unhide HB2).size))))
      go_ret
      exact ⟨⟨0, 0, rfl, unhide HW⟩, unhide HB3⟩
end Go.Proofs.YtiooiacebgojiaaDoor

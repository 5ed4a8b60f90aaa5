/- The document's own term. -/
import Derived.Test.YtccnbnfafhpeaaaDoorRefTerm
import Derived.Test.YtccnbnfafhpeaaaDoorAfter
namespace Go.Proofs.YtccnbnfafhpeaaaDoor
open Go.RowKit

theorem byte_idx (s : ByteArray) (q : Nat) (h : q < s.size) : (s[q]'h).toNat = byteAt s q := (byteAt_eq s q h).symm
def TermRet (s : ByteArray) (p : Nat) (w : World) : Prop := Calls Tryd.prog 46 #[.string s, .int .i64 (p : Int)] w fun en w' => w' = w ∧ ∃ k n q e, en = .returned (.tuple #[.int .i64 k, .int .i64 n, .int .i64 q, .int .i64 e]) ∧ TermOK s p k n q e
theorem res4 {fn : Func} {a b c d : Tmp} (h : fn.results = #[.tmp a, .tmp b, .tmp c, .tmp d]) (tmps : Array Value) (w : World) : (results fn tmps).run Tryd.prog w = .ok (.tuple #[tmps.getD a undef, tmps.getD b undef, tmps.getD c undef, tmps.getD d undef]) w := by
  simp [results, h]

set_option maxRecDepth 100000 in
set_option maxHeartbeats 400000 in
theorem term_nothing (s : ByteArray) (w : World) : TermRet s s.size w := by
  unfold TermRet
  have HF := hide (scan_nothing s)
  go_enter Tryd.func46, Tryd.ntmps46
  go_wp2
  refine bodyPost_ret (res4 Tryd.results46 _ _) rfl ⟨rfl, _, _, _, _, rfl, .inr ⟨.inl rfl, fun d u _ _ => unhide HF d u⟩⟩
set_option maxRecDepth 100000 in
set_option maxHeartbeats 400000 in
theorem term_noletter (s : ByteArray) (p : Nat) (w : World) (hp : p < s.size) (h : placeOf (byteAt s p : Int) = none) : TermRet s p w := by
  unfold TermRet
  have HF := hide (scan_noletter s p hp h)
  have HL := hide (letter_any (byteAt s p : Int) w)
  have hpl : placeI (byteAt s p : Int) = -1 := by unfold placeI; rw [h]
  rw [hpl] at HL
  have hI := byte_idx s
  clear h hpl
  go_enter Tryd.func46, Tryd.ntmps46
  go_wp2_with (go_at_call 67; refine (unhide HL).mono ?_; rintro e w2 ⟨rfl, rfl⟩)
  refine bodyPost_ret (res4 Tryd.results46 _ _) rfl ⟨rfl, _, _, _, _, rfl, .inr ⟨.inl rfl, fun d u _ _ => unhide HF d u⟩⟩
set_option maxRecDepth 100000 in
set_option maxHeartbeats 400000 in
theorem term_bare1 (s : ByteArray) (p k : Nat) (w : World) (hp : p < s.size) (hs : s.size ≤ 9223372036854775807) (h : placeOf (byteAt s p : Int) = some k) (h2 : p + 1 = s.size) : TermRet s p w := by
  unfold TermRet
  have HF := hide (fun d u hd hr => scan_bare s p hp k h (by omega) d u hd hr)
  have HL := hide (letter_any (byteAt s p : Int) w)
  have hpl : placeI (byteAt s p : Int) = k := by unfold placeI; rw [h]
  rw [hpl] at HL
  have hk := placeOf_lt h
  have hI := byte_idx s
  have HE := hide h2
  have he : (((p : Int) + 1) == (s.size : Int)) = true := by rw [beq_iff_eq]; omega
  clear h hpl h2
  go_enter Tryd.func46, Tryd.ntmps46
  go_wp2_with (go_at_call 67; refine (unhide HL).mono ?_; rintro e w2 ⟨rfl, rfl⟩)
  refine bodyPost_ret (res4 Tryd.results46 _ _) rfl ⟨rfl, _, _, _, _, rfl, .inl ⟨rfl, k, p + 1, rfl, by simp, hk, by omega, by omega, by omega, by omega, unhide HF⟩⟩
set_option maxRecDepth 100000 in
set_option maxHeartbeats 400000 in
theorem term_bare2 (s : ByteArray) (p k : Nat) (w : World) (hp : p + 1 < s.size) (hs : s.size ≤ 9223372036854775807) (h : placeOf (byteAt s p : Int) = some k) (h2 : byteAt s (p + 1) ≠ 94) : TermRet s p w := by
  unfold TermRet
  have HF := hide (fun d u hd hr => scan_bare s p (by omega) k h (fun _ => h2) d u hd hr)
  have HL := hide (letter_any (byteAt s p : Int) w)
  have hpl : placeI (byteAt s p : Int) = k := by unfold placeI; rw [h]
  rw [hpl] at HL
  have hk := placeOf_lt h
  have hI := byte_idx s
  have he : (((p : Int) + 1) == (s.size : Int)) = false := by rw [beq_eq_false_iff_ne]; omega
  have h94 : ((byteAt s (p + 1) : Int) != 94) = true := by rw [bne_iff_ne]; omega
  clear h hpl h2
  go_enter Tryd.func46, Tryd.ntmps46
  go_wp2_with (go_at_call 67; refine (unhide HL).mono ?_; rintro e w2 ⟨rfl, rfl⟩)
  refine bodyPost_ret (res4 Tryd.results46 _ _) rfl ⟨rfl, _, _, _, _, rfl, .inl ⟨rfl, k, p + 1, rfl, by simp, hk, by omega, by omega, by omega, by omega, unhide HF⟩⟩
/-! NUM -/
set_option maxRecDepth 100000 in
set_option maxHeartbeats 400000 in
theorem term_short (s : ByteArray) (p k : Nat) (w : World) (hp : p + 2 = s.size) (hs : s.size ≤ 9223372036854775807) (h : placeOf (byteAt s p : Int) = some k) (h2 : byteAt s (p + 1) = 94) : TermRet s p w := by
  unfold TermRet
  have HF : Hid (∀ d u, scan s p (fresh d u) = .err 3 ((p + 2 : Nat) : Int)) := fun d u => (scan_raise s p (by omega) k h h2 d u).trans (num_none s d u k p false (p + 2) 0 (by omega) (fun hh => absurd hh (by omega)))
  have HL := hide (letter_any (byteAt s p : Int) w)
  have hpl : placeI (byteAt s p : Int) = k := by unfold placeI; rw [h]
  rw [hpl] at HL
  have hk := placeOf_lt h
  have hI := byte_idx s
  have he : (((p : Int) + 1) == (s.size : Int)) = false := by rw [beq_eq_false_iff_ne]; omega
  have h1 : p < s.size := by omega
  have h1' : p + 1 < s.size := by omega
  have h3 : s.size ≤ p + 2 := by omega
  clear h hpl hp
  go_enter Tryd.func46, Tryd.ntmps46
  go_wp2_with (go_at_call 67; refine (unhide HL).mono ?_; rintro e w2 ⟨rfl, rfl⟩)
  go_loop [1, 11] (fun a m => a = .int .i64 ((p : Int) + 1 + 1) ∧ m = .int .i64 0) (fun _ _ => 0)
  case atStart => exact ⟨by go_num, rfl⟩
  case round =>
    obtain ⟨rfl, rfl⟩ := hrel
    go_wp2
    refine bodyPost_ret (res4 Tryd.results46 _ _) rfl ⟨rfl, _, _, _, _, rfl, .inr ⟨.inl rfl, fun d u _ _ => (unhide HF d u).trans (by first | rfl | (congr 1; omega))⟩⟩
/-- Among the digits of a number. -/
def NumAt (s : ByteArray) (p k : Nat) (neg : Bool) (first : Nat) (a m : Value) : Prop := ∃ (q : Nat) (n : Int), a = .int .i64 (q : Int) ∧ m = .int .i64 n ∧ first ≤ q ∧ q ≤ s.size ∧ 0 ≤ n ∧ n ≤ 9999 ∧ Hid (∀ d u, scan s p (fresh d u) = scan s q (numSt d u k p neg first q n))
theorem numAt_mk {s : ByteArray} {p k : Nat} {neg : Bool} {first : Nat} {a m : Value} (q : Nat) (n : Int) (h1 : a = .int .i64 (q : Int)) (h2 : m = .int .i64 n) (h3 : first ≤ q) (h4 : q ≤ s.size) (h5 : 0 ≤ n) (h6 : n ≤ 9999) (h7 : Hid (∀ d u, scan s p (fresh d u) = scan s q (numSt d u k p neg first q n))) : NumAt s p k neg first a m := ⟨q, n, h1, h2, h3, h4, h5, h6, h7⟩
set_option maxRecDepth 100000 in
set_option maxHeartbeats 1000000 in
theorem term_plus (s : ByteArray) (p k : Nat) (w : World) (hp : p + 2 < s.size) (hs : s.size ≤ 9223372036854775807) (h : placeOf (byteAt s p : Int) = some k) (h2 : byteAt s (p + 1) = 94) (h45 : byteAt s (p + 2) ≠ 45) : TermRet s p w := by
  unfold TermRet
  have HF : Hid (∀ d u, scan s p (fresh d u) = scan s (p + 2) (numSt d u k p false (p + 2) (p + 2) 0)) := fun d u => scan_raise s p (by omega) k h h2 d u
  have HL := hide (letter_any (byteAt s p : Int) w)
  have hpl : placeI (byteAt s p : Int) = k := by unfold placeI; rw [h]
  rw [hpl] at HL
  have hk := placeOf_lt h
  have hI := byte_idx s
  have he : (((p : Int) + 1) == (s.size : Int)) = false := by rw [beq_eq_false_iff_ne]; omega
  have h1 : p < s.size := by omega
  have h1' : p + 1 < s.size := by omega
  have h45b : ((byteAt s (p + 2) : Int) == 45) = false := by rw [beq_eq_false_iff_ne]; omega
  clear h hpl
  go_enter Tryd.func46, Tryd.ntmps46
  go_wp2_with (go_at_call 67; refine (unhide HL).mono ?_; rintro e w2 ⟨rfl, rfl⟩)
  go_loop [1, 11] (fun a m => NumAt s p k false (p + 2) a m) (fun a _ => s.size - (intOf a).toNat)
  case atStart => exact numAt_mk (p + 2) 0 (by go_num) rfl (by omega) (by omega) (by omega) (by omega) HF
  case round =>
    obtain ⟨q, n, rfl, rfl, hq1, hq2, hn1, hn2, HQ⟩ := hrel
    by_cases hd : q < s.size ∧ 48 ≤ byteAt s q ∧ byteAt s q ≤ 57
    · obtain ⟨hd0, hd1, hd2⟩ := hd
      have HN : Hid (∀ d u, scan s p (fresh d u) = scan s (q + 1) (numSt d u k p false (p + 2) (q + 1) (if n < 1000 then 10 * n + ((byteAt s q : Int) - 48) else n))) := fun d u => (unhide HQ d u).trans (num_digit s d u k p false (p + 2) q n hq1 hd0 hd1 hd2 hn1)
      by_cases hn : n < 1000
      · rw [if_pos hn] at HN
        go_wp2
        go_round
        case rel => exact numAt_mk (q + 1) (10 * n + ((byteAt s q : Int) - 48)) (by go_num) (by go_num) (by omega) (by omega) (by omega) (by omega) HN
        case measure => simp [intOf]; omega
      · rw [if_neg hn] at HN
        go_wp2
        go_round
        case rel => exact numAt_mk (q + 1) n (by go_num) (by go_num) (by omega) (by omega) (by omega) (by omega) HN
        case measure => simp [intOf]; omega
    · by_cases hqf : q = p + 2
      · have HE : Hid (∀ d u, scan s p (fresh d u) = .err 3 (q : Int)) := fun d u => by
          have hh := unhide HQ d u
          rw [hqf] at hh ⊢
          exact hh.trans (num_none s d u k p false (p + 2) n (by omega) (fun hl => ⟨fun hx => hd (by rw [hqf]; exact ⟨hl, hx.1, hx.2⟩), fun _ => h45⟩))
        have hqe : ((q : Int) == ((p : Int) + 1 + 1)) = true := by rw [beq_iff_eq]; omega
        by_cases hl : q < s.size
        · by_cases hlo : 48 ≤ byteAt s q
          · have hhi : 57 < byteAt s q := by omega
            clear hd hqf HQ HF
            go_wp2
            refine bodyPost_ret (res4 Tryd.results46 _ _) rfl ⟨rfl, _, _, _, _, rfl, .inr ⟨.inl rfl, fun d u _ _ => unhide HE d u⟩⟩
          · clear hd hqf HQ HF
            go_wp2
            refine bodyPost_ret (res4 Tryd.results46 _ _) rfl ⟨rfl, _, _, _, _, rfl, .inr ⟨.inl rfl, fun d u _ _ => unhide HE d u⟩⟩
        · clear hd hqf HQ HF
          go_wp2
          refine bodyPost_ret (res4 Tryd.results46 _ _) rfl ⟨rfl, _, _, _, _, rfl, .inr ⟨.inl rfl, fun d u _ _ => unhide HE d u⟩⟩
      · have HA : Hid (∀ d u, d.length = 8 → rightB d = true → scan s p (fresh d u) = if 99 < n then .err 51 ((p + 2 : Nat) : Int) else afterTerm s p d u k (if false = true then -n else n) q) := fun d u hd' hr =>
          (unhide HQ d u).trans (num_after s d u k p false (p + 2) q n (by omega) hq2 (fun hl hx => hd ⟨hl, hx.1, hx.2⟩) hd' hr hk)
        have hqe : ((q : Int) == ((p : Int) + 1 + 1)) = false := by rw [beq_eq_false_iff_ne]; omega
        by_cases hn : 99 < n
        · have HA2 : Hid (∀ d u, d.length = 8 → rightB d = true → scan s p (fresh d u) = .err 51 ((p + 2 : Nat) : Int)) := fun d u a b => (unhide HA d u a b).trans (if_pos hn)
          clear HA
          by_cases hl : q < s.size
          · by_cases hlo : 48 ≤ byteAt s q
            · have hhi : 57 < byteAt s q := by omega
              clear hd hqf HQ HF
              go_wp2
              refine bodyPost_ret (res4 Tryd.results46 _ _) rfl ⟨rfl, _, _, _, _, rfl, .inr ⟨.inr rfl, fun d u a b => (unhide HA2 d u a b).trans (by first | rfl | (congr 1; omega))⟩⟩
            · clear hd hqf HQ HF
              go_wp2
              refine bodyPost_ret (res4 Tryd.results46 _ _) rfl ⟨rfl, _, _, _, _, rfl, .inr ⟨.inr rfl, fun d u a b => (unhide HA2 d u a b).trans (by first | rfl | (congr 1; omega))⟩⟩
          · clear hd hqf HQ HF
            go_wp2
            refine bodyPost_ret (res4 Tryd.results46 _ _) rfl ⟨rfl, _, _, _, _, rfl, .inr ⟨.inr rfl, fun d u a b => (unhide HA2 d u a b).trans (by first | rfl | (congr 1; omega))⟩⟩
        · have HA2 : Hid (∀ d u, d.length = 8 → rightB d = true → scan s p (fresh d u) = afterTerm s p d u k (n) q) := fun d u a b => (unhide HA d u a b).trans (if_neg hn)
          clear HA
          by_cases hl : q < s.size
          · by_cases hlo : 48 ≤ byteAt s q
            · have hhi : 57 < byteAt s q := by omega
              clear hd hqf HQ HF
              go_wp2
              refine bodyPost_ret (res4 Tryd.results46 _ _) rfl ⟨rfl, _, _, _, _, rfl, .inl ⟨rfl, k, q, rfl, rfl, hk, by omega, by omega, by omega, hq2, unhide HA2⟩⟩
            · clear hd hqf HQ HF
              go_wp2
              refine bodyPost_ret (res4 Tryd.results46 _ _) rfl ⟨rfl, _, _, _, _, rfl, .inl ⟨rfl, k, q, rfl, rfl, hk, by omega, by omega, by omega, hq2, unhide HA2⟩⟩
          · clear hd hqf HQ HF
            go_wp2
            refine bodyPost_ret (res4 Tryd.results46 _ _) rfl ⟨rfl, _, _, _, _, rfl, .inl ⟨rfl, k, q, rfl, rfl, hk, by omega, by omega, by omega, hq2, unhide HA2⟩⟩
set_option maxRecDepth 100000 in
set_option maxHeartbeats 1000000 in
theorem term_less (s : ByteArray) (p k : Nat) (w : World) (hp : p + 2 < s.size) (hs : s.size ≤ 9223372036854775807) (h : placeOf (byteAt s p : Int) = some k) (h2 : byteAt s (p + 1) = 94) (h45 : byteAt s (p + 2) = 45) : TermRet s p w := by
  unfold TermRet
  have HF : Hid (∀ d u, scan s p (fresh d u) = scan s (p + 3) (numSt d u k p true (p + 3) (p + 3) 0)) := fun d u => (scan_raise s p (by omega) k h h2 d u).trans (scan_minus s p hp h45 d u k)
  have HL := hide (letter_any (byteAt s p : Int) w)
  have hpl : placeI (byteAt s p : Int) = k := by unfold placeI; rw [h]
  rw [hpl] at HL
  have hk := placeOf_lt h
  have hI := byte_idx s
  have he : (((p : Int) + 1) == (s.size : Int)) = false := by rw [beq_eq_false_iff_ne]; omega
  have h1 : p < s.size := by omega
  have h1' : p + 1 < s.size := by omega
  clear h hpl
  go_enter Tryd.func46, Tryd.ntmps46
  go_wp2_with (go_at_call 67; refine (unhide HL).mono ?_; rintro e w2 ⟨rfl, rfl⟩)
  go_loop [1, 11] (fun a m => NumAt s p k true (p + 3) a m) (fun a _ => s.size - (intOf a).toNat)
  case atStart => exact numAt_mk (p + 3) 0 (by go_num) rfl (by omega) (by omega) (by omega) (by omega) HF
  case round =>
    obtain ⟨q, n, rfl, rfl, hq1, hq2, hn1, hn2, HQ⟩ := hrel
    by_cases hd : q < s.size ∧ 48 ≤ byteAt s q ∧ byteAt s q ≤ 57
    · obtain ⟨hd0, hd1, hd2⟩ := hd
      have HN : Hid (∀ d u, scan s p (fresh d u) = scan s (q + 1) (numSt d u k p true (p + 3) (q + 1) (if n < 1000 then 10 * n + ((byteAt s q : Int) - 48) else n))) := fun d u => (unhide HQ d u).trans (num_digit s d u k p true (p + 3) q n hq1 hd0 hd1 hd2 hn1)
      by_cases hn : n < 1000
      · rw [if_pos hn] at HN
        go_wp2
        go_round
        case rel => exact numAt_mk (q + 1) (10 * n + ((byteAt s q : Int) - 48)) (by go_num) (by go_num) (by omega) (by omega) (by omega) (by omega) HN
        case measure => simp [intOf]; omega
      · rw [if_neg hn] at HN
        go_wp2
        go_round
        case rel => exact numAt_mk (q + 1) n (by go_num) (by go_num) (by omega) (by omega) (by omega) (by omega) HN
        case measure => simp [intOf]; omega
    · by_cases hqf : q = p + 3
      · have HE : Hid (∀ d u, scan s p (fresh d u) = .err 3 (q : Int)) := fun d u => by
          have hh := unhide HQ d u
          rw [hqf] at hh ⊢
          exact hh.trans (num_none s d u k p true (p + 3) n (by omega) (fun hl => ⟨fun hx => hd (by rw [hqf]; exact ⟨hl, hx.1, hx.2⟩), fun hx => absurd hx (by decide)⟩))
        have hqe : ((q : Int) == ((p : Int) + 1 + 1 + 1)) = true := by rw [beq_iff_eq]; omega
        by_cases hl : q < s.size
        · by_cases hlo : 48 ≤ byteAt s q
          · have hhi : 57 < byteAt s q := by omega
            clear hd hqf HQ HF
            go_wp2
            refine bodyPost_ret (res4 Tryd.results46 _ _) rfl ⟨rfl, _, _, _, _, rfl, .inr ⟨.inl rfl, fun d u _ _ => unhide HE d u⟩⟩
          · clear hd hqf HQ HF
            go_wp2
            refine bodyPost_ret (res4 Tryd.results46 _ _) rfl ⟨rfl, _, _, _, _, rfl, .inr ⟨.inl rfl, fun d u _ _ => unhide HE d u⟩⟩
        · clear hd hqf HQ HF
          go_wp2
          refine bodyPost_ret (res4 Tryd.results46 _ _) rfl ⟨rfl, _, _, _, _, rfl, .inr ⟨.inl rfl, fun d u _ _ => unhide HE d u⟩⟩
      · have HA : Hid (∀ d u, d.length = 8 → rightB d = true → scan s p (fresh d u) = if 99 < n then .err 51 ((p + 2 : Nat) : Int) else afterTerm s p d u k (if true = true then -n else n) q) := fun d u hd' hr =>
          (unhide HQ d u).trans (num_after s d u k p true (p + 3) q n (by omega) hq2 (fun hl hx => hd ⟨hl, hx.1, hx.2⟩) hd' hr hk)
        have hqe : ((q : Int) == ((p : Int) + 1 + 1 + 1)) = false := by rw [beq_eq_false_iff_ne]; omega
        by_cases hn : 99 < n
        · have HA2 : Hid (∀ d u, d.length = 8 → rightB d = true → scan s p (fresh d u) = .err 51 ((p + 2 : Nat) : Int)) := fun d u a b => (unhide HA d u a b).trans (if_pos hn)
          clear HA
          by_cases hl : q < s.size
          · by_cases hlo : 48 ≤ byteAt s q
            · have hhi : 57 < byteAt s q := by omega
              clear hd hqf HQ HF
              go_wp2
              refine bodyPost_ret (res4 Tryd.results46 _ _) rfl ⟨rfl, _, _, _, _, rfl, .inr ⟨.inr rfl, fun d u a b => (unhide HA2 d u a b).trans (by first | rfl | (congr 1; omega))⟩⟩
            · clear hd hqf HQ HF
              go_wp2
              refine bodyPost_ret (res4 Tryd.results46 _ _) rfl ⟨rfl, _, _, _, _, rfl, .inr ⟨.inr rfl, fun d u a b => (unhide HA2 d u a b).trans (by first | rfl | (congr 1; omega))⟩⟩
          · clear hd hqf HQ HF
            go_wp2
            refine bodyPost_ret (res4 Tryd.results46 _ _) rfl ⟨rfl, _, _, _, _, rfl, .inr ⟨.inr rfl, fun d u a b => (unhide HA2 d u a b).trans (by first | rfl | (congr 1; omega))⟩⟩
        · have HA2 : Hid (∀ d u, d.length = 8 → rightB d = true → scan s p (fresh d u) = afterTerm s p d u k (-n) q) := fun d u a b => (unhide HA d u a b).trans (if_neg hn)
          clear HA
          by_cases hl : q < s.size
          · by_cases hlo : 48 ≤ byteAt s q
            · have hhi : 57 < byteAt s q := by omega
              clear hd hqf HQ HF
              go_wp2
              refine bodyPost_ret (res4 Tryd.results46 _ _) rfl ⟨rfl, _, _, _, _, rfl, .inl ⟨rfl, k, q, rfl, rfl, hk, by omega, by omega, by omega, hq2, unhide HA2⟩⟩
            · clear hd hqf HQ HF
              go_wp2
              refine bodyPost_ret (res4 Tryd.results46 _ _) rfl ⟨rfl, _, _, _, _, rfl, .inl ⟨rfl, k, q, rfl, rfl, hk, by omega, by omega, by omega, hq2, unhide HA2⟩⟩
          · clear hd hqf HQ HF
            go_wp2
            refine bodyPost_ret (res4 Tryd.results46 _ _) rfl ⟨rfl, _, _, _, _, rfl, .inl ⟨rfl, k, q, rfl, rfl, hk, by omega, by omega, by omega, hq2, unhide HA2⟩⟩
end Go.Proofs.YtccnbnfafhpeaaaDoor

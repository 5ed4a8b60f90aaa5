/- The document's told: the folded runes of a list, as a text. -/
import Derived.Test.YtiooiacebgojiaaDoorWord
import Derived.Test.YtiooiacebgojiaaDoorRefRaise
namespace Go.Proofs.YtiooiacebgojiaaDoor
open Go.RowKit

theorem enc_list (r : Nat) : (Utf8.encode (r : Int)).data.toList = Lib.encodeRune (r : Int) := by
  unfold Lib.encodeRune
  by_cases c1 : r < 128
  · have v : Utf8.valid (r : Int) = true := by simp [Utf8.valid]; omega
    rw [Lib.encodeRuneZ_one (by omega) (by omega)]
    simp [Utf8.encode, v, c1]
  by_cases c2 : r < 2048
  · have v : Utf8.valid (r : Int) = true := by simp [Utf8.valid]; omega
    rw [Lib.encodeRuneZ_two (by omega) (by omega)]
    have t1 : ((192 : Int) + (r : Int) / 64).toNat = 192 + r / 64 := by omega
    have t2 : ((128 : Int) + (r : Int) % 64).toNat = 128 + r % 64 := by omega
    simp [Utf8.encode, v, c1, c2, t1, t2]
  by_cases hb : (55296 ≤ r ∧ r ≤ 57343) ∨ 1114111 < r
  · have v : Utf8.valid (r : Int) = false := by simp [Utf8.valid]; omega
    rw [Lib.encodeRuneZ_bad (by omega)]
    simp [Utf8.encode, v, Utf8.runeError]
  have v : Utf8.valid (r : Int) = true := by simp [Utf8.valid]; omega
  by_cases c3 : r < 65536
  · rw [Lib.encodeRuneZ_three (by omega)]
    have t1 : ((224 : Int) + (r : Int) / 4096).toNat = 224 + r / 4096 := by omega
    have t2 : ((128 : Int) + (r : Int) / 64 % 64).toNat = 128 + r / 64 % 64 := by omega
    have t3 : ((128 : Int) + (r : Int) % 64).toNat = 128 + r % 64 := by omega
    simp [Utf8.encode, v, c1, c2, c3, t1, t2, t3]
  · rw [Lib.encodeRuneZ_four (by omega) (by omega)]
    have t1 : ((240 : Int) + (r : Int) / 262144).toNat = 240 + r / 262144 := by omega
    have t2 : ((128 : Int) + (r : Int) / 4096 % 64).toNat = 128 + r / 4096 % 64 := by omega
    have t3 : ((128 : Int) + (r : Int) / 64 % 64).toNat = 128 + r / 64 % 64 := by omega
    have t4 : ((128 : Int) + (r : Int) % 64).toNat = 128 + r % 64 := by omega
    simp [Utf8.encode, v, c1, c2, c3, t1, t2, t3, t4]
theorem foldR_nonneg (r : Nat) : 0 ≤ foldR (r : Int) := by
  unfold foldR
  repeat' split
  all_goals omega
theorem encFold (r : Nat) : (Utf8.encode (foldR (r : Int))).data.toList = Lib.encodeRune (foldR (r : Int)) := by
  have h := foldR_nonneg r
  obtain ⟨k, hk⟩ : ∃ k : Nat, foldR (r : Int) = (k : Int) := ⟨(foldR (r : Int)).toNat, by omega⟩
  rw [hk]
  exact enc_list k
theorem encodeRune_le (x : Int) : (Lib.encodeRune x).length ≤ 4 := by
  have h1 := (Lib.runeCells_le x).2
  rw [Lib.runeCells_length] at h1
  exact h1
theorem toldL_len (s : ByteArray) (L : List Nat) : (toldL s L).length ≤ 4 * L.length := by
  induction L with
  | nil => simp [toldL]
  | cons x r ih =>
    have h := encodeRune_le (foldR ((Utf8.decode s x).1 : Nat))
    have e : toldL s (x :: r) = Lib.encodeRune (foldR ((Utf8.decode s x).1 : Nat)) ++ toldL s r := by simp [toldL]
    rw [e, List.length_append, List.length_cons]
    omega

set_option maxRecDepth 100000 in
set_option maxHeartbeats 1000000 in
theorem told_any (s : ByteArray) (hmax : s.size ≤ 1000000000000) (g cap k : Nat) (hk : k ≤ (places s 0).length) (w : World) (hin : RunesIn w g s) :
    Calls Tryd.prog 32 #[.slice (some ⟨g, 0, none⟩) k cap] w fun e w' => e = .returned (.string ⟨(toldL s ((places s 0).take k)).toArray⟩) ∧ Below w.heap.size w w' := by
  have HIN := hide hin
  have hnle : (places s 0).length ≤ s.size := by have := places_len s 0; omega
  have HK := hide hk
  have hk2 : k ≤ s.size := by omega
  clear hin hk hnle
  go_enter Tryd.func32, Tryd.ntmps32
  go_upto_region 3 with fail
  go_loopw [3, 8] (fun v3 v8 wr => ∃ i : Nat, v8 = .int .i64 (i : Int) ∧ i ≤ k ∧ v3 = .string ⟨(toldL s ((places s 0).take i)).toArray⟩ ∧ Hid (Below w.heap.size w wr)) (fun _ v8 _ => k - (intOf v8).toNat)
  case atStart => exact ⟨0, rfl, Nat.zero_le _, rfl, Below.refl _ _⟩
  case round =>
    obtain ⟨i, rfl, hik, rfl, HB⟩ := hrel
    have hB0 : w.heap.size ≤ wr.heap.size := (unhide HB).size
    obtain ⟨acc, hacc⟩ : ∃ acc, acc = toldL s ((places s 0).take i) := ⟨_, rfl⟩
    rw [← hacc]
    have haccl : acc.length ≤ 4 * i := by
      have h := toldL_len s ((places s 0).take i)
      have h2 := unhide HK
      rw [List.length_take, Nat.min_eq_left (by omega)] at h
      rw [hacc]
      exact h
    have HACC := hide hacc
    clear hacc
    by_cases hlt : i < k
    · have hil : i < (places s 0).length := Nat.lt_of_lt_of_le hlt (unhide HK)
      obtain ⟨p, hp⟩ : ∃ p, p = (places s 0)[i] := ⟨_, rfl⟩
      have hget : (places s 0)[i]? = some p := by rw [List.getElem?_eq_getElem hil, hp]
      have h5 := ((unhide HIN).later (unhide HB)).five hget
      have HST : Hid (acc ++ Lib.encodeRune (foldR ((Utf8.decode s p).1 : Nat)) = toldL s ((places s 0).take (i + 1))) := by
        show _ = _
        rw [List.take_succ_eq_append_getElem hil, toldL_snoc, ← hp, unhide HACC]
      have hen := encFold (Utf8.decode s p).1
      have hel := encodeRune_le (foldR ((Utf8.decode s p).1 : Nat))
      obtain ⟨r, hr⟩ : ∃ r : Int, r = ((Utf8.decode s p).1 : Nat) := ⟨_, rfl⟩
      rw [← hr] at h5 HST hen hel
      obtain ⟨f, hf⟩ : ∃ f : Int, f = foldR r := ⟨_, rfl⟩
      rw [← hf] at h5 HST hen hel
      obtain ⟨d0, d1, d2, d3, d4⟩ := h5
      have hes : (Utf8.encode f).size = (Lib.encodeRune f).length := by rw [← hen, Array.length_toList]; rfl
      have HEN := hide hen
      generalize brokenAt s p = b at *
      generalize (((Utf8.decode s p).2 : Nat) : Int) = nw at *
      clear hr hf hget hp hil HACC hen
      generalize hE : (Lib.encodeRune f).length = L at *
      clear hE
      go_wp2_with fail
      go_roundw
      case rel => exact ⟨i + 1, by go_num, by omega, by rw [← unhide HST]; exact congrArg Value.string (text_app acc _ _ (unhide HEN)), (unhide HB).alloc hB0 _⟩
      case measure => simp [intOf]; omega
    · obtain rfl : i = k := by omega
      have HE : Hid (toldL s ((places s 0).take i) = acc) := (unhide HACC).symm
      clear HACC
      go_wp2_with fail
      go_ret
      exact ⟨by rw [unhide HE]; rfl, unhide HB⟩
end Go.Proofs.YtiooiacebgojiaaDoor

/- NamesCuts: true, whatever the input, as long as the text is not too great. -/
import Derived.Test.YtiooiacebgojiaaDoorRefFold
import Derived.Test.YtiooiacebgojiaaDoorAwake
import Derived.Deep.RegionHeld3
namespace Go.Proofs.YtiooiacebgojiaaDoor
open Go.RowKit

theorem own_cap {w : World} {B : Nat} {e : TypeId} {k : Nat} {v : Value} {n : Nat} {xs : List Value} (h : w.ownsRow B e k v n xs) : ∀ a m c, v = .slice a m c → m ≤ c ∧ c ≤ maxLen := by
  rintro a m c rfl
  rcases h.2 with ⟨hv, _⟩ | ⟨g, cap, cur, hv, _, _, h1, h2, _⟩
  · cases hv; exact ⟨Nat.le_refl _, Nat.zero_le _⟩
  · cases hv; exact ⟨h1, h2⟩
def cutV (out : List UInt8) (q : Nat) : Value := if q = 0 then .tuple #[.string ⟨#[]⟩, .int .i64 0, .int .i64 60] else .tuple #[.string ⟨out.toArray⟩, .int .i64 (q : Nat), .int .i64 0]
theorem cutV_no (out : List UInt8) : cutV out 0 = .tuple #[.string ⟨#[]⟩, .int .i64 0, .int .i64 60] := rfl
theorem cutV_ok (out : List UInt8) (q : Nat) (h : q ≠ 0) : cutV out q = .tuple #[.string ⟨out.toArray⟩, .int .i64 (q : Nat), .int .i64 0] := if_neg h
def CutOut (s : ByteArray) (e : Ending) : Prop := ∃ out q, e = .returned (cutV out q) ∧ Lg s 0 0 [] out q

set_option maxRecDepth 100000 in
set_option maxHeartbeats 1000000 in
theorem cut_at (s0 s : ByteArray) (at0 : Nat) (hat : at0 ≤ s0.size) (hx : s0.extract at0 s0.size = s) (w : World) (hmax : s0.size ≤ 1000000000000) :
    Calls Tryd.prog 16 #[.string s0, .int .i64 (at0 : Int)] w fun e w' => CutOut s e ∧ Below w.heap.size w w' := by
  have hss : s.size ≤ s0.size := by
    rw [← hx]
    have : (s0.extract at0 s0.size).size ≤ s0.size := by simp
    exact this
  have HL := hide (longest_any s w (by omega))
  go_enter Tryd.func16, Tryd.ntmps16
  go_upto_region 4 with (go_at_call 29; refine (unhide HL).mono ?_; rintro e w1 ⟨⟨out, q, rfl, hlg⟩, hb1⟩)
  have HG := hide hlg
  have HB := hide hb1
  clear hlg hb1 HL
  by_cases h0 : q = 0
  · subst h0
    have HV := hide (cutV_no out)
    go_wp2_with fail
    exact bodyPost_ret (res3t Tryd.results16 _ _) rfl ⟨⟨out, 0, by rw [unhide HV]; rfl, unhide HG⟩, unhide HB⟩
  · have HV := hide (cutV_ok out q h0)
    have e0 : ((q : Int) == 0) = false := by rw [beq_eq_false_iff_ne]; omega
    clear h0
    go_wp2_with fail
    exact bodyPost_ret (res3t Tryd.results16 _ _) rfl ⟨⟨out, q, by rw [unhide HV]; rfl, unhide HG⟩, unhide HB⟩
theorem cut_out (s : ByteArray) (a : Int) (h : a < 0 ∨ (s.size : Int) < a) (w : World) : Calls Tryd.prog 16 #[.string s, .int .i64 a] w fun e w' => e = .returned (.tuple #[.string ⟨#[]⟩, .int .i64 0, .int .i64 1]) ∧ w' = w := by
  by_cases h0 : a < 0
  · go_enter Tryd.func16, Tryd.ntmps16
    go_wp2
    exact bodyPost_ret (res3t Tryd.results16 _ _) rfl ⟨rfl, rfl⟩
  · have h1 : (s.size : Int) < a := by omega
    clear h
    go_enter Tryd.func16, Tryd.ntmps16
    go_wp2
    exact bodyPost_ret (res3t Tryd.results16 _ _) rfl ⟨rfl, rfl⟩
theorem refCut_out (s : ByteArray) (a : Int) (h : a < 0 ∨ (s.size : Int) < a) (w : World) : Calls Tryd.prog 17 #[.string s, .int .i64 a] w fun e w' => e = .returned (.tuple #[.string ⟨#[]⟩, .int .i64 0, .int .i64 1]) ∧ w' = w := by
  by_cases h0 : a < 0
  · go_enter Tryd.func17, Tryd.ntmps17
    go_wp2
    exact bodyPost_ret (res3t Tryd.results17 _ _) rfl ⟨rfl, rfl⟩
  · have h1 : (s.size : Int) < a := by omega
    clear h
    go_enter Tryd.func17, Tryd.ntmps17
    go_wp2
    exact bodyPost_ret (res3t Tryd.results17 _ _) rfl ⟨rfl, rfl⟩

set_option maxRecDepth 100000 in
set_option maxHeartbeats 1000000 in
theorem refCut_at (s0 s : ByteArray) (at0 : Nat) (hat : at0 ≤ s0.size) (hx : s0.extract at0 s0.size = s) (w : World) (hmax : s0.size ≤ 1000000000000) (hT : Lib.Utf8Tabs 0 1 w) :
    Calls Tryd.prog 17 #[.string s0, .int .i64 (at0 : Int)] w fun e w' => CutOut s e ∧ Below w.heap.size w w' := by
  have hss : s.size ≤ s0.size := by
    rw [← hx]
    have : (s0.extract at0 s0.size).size ≤ s0.size := by simp
    exact this
  have hs : s.size ≤ 1000000000000 := by omega
  have HR := hide (refRunes_any s w hs hT)
  clear hT
  go_enter Tryd.func17, Tryd.ntmps17
  go_upto_region 4 with (go_at_call 30; refine (unhide HR).mono ?_; rintro e w1 ⟨v, rfl, hown, hb1⟩)
  have HB1 := hide hb1
  have hsz1 : w.heap.size ≤ w1.heap.size := hb1.size
  have HSH := hide (runes_shape hown)
  have HCAP := hide (own_cap hown)
  clear hown hb1 HR hx
  rcases unhide HSH with ⟨hs0, va, vc, rfl⟩ | ⟨hs0, g, cap, rfl, hin⟩
  · have HW := hide (word_nil s hs0 va vc w1)
    clear HSH
    go_upto_region 5 with (go_at_call 31; refine (unhide HW).mono ?_; rintro e w2 ⟨hwo, hb2⟩; obtain ⟨k, q, rfl, hwd⟩ := hwo)
    have HB2 := hide ((unhide HB1).trans (hb2.mono hsz1))
    have hk0 : k = 0 := by have := hwd.le; rw [places_end s 0 (by omega)] at this; simpa using this
    have hq0 : q = 0 := by have := hwd.qle; omega
    subst hk0 hq0
    have HLG := hide hwd.lg
    have HV := hide (cutV_no (toldL s ((places s 0).take 0)))
    clear hb2 HW hwd
    go_wp2_with fail
    exact bodyPost_ret (res3t Tryd.results17 _ _) rfl ⟨⟨_, _, by rw [unhide HV]; rfl, unhide HLG⟩, unhide HB2⟩
  · have HW := hide (word_any s hs0 hs g cap w1 hin)
    have HIN := hide hin
    have hnle : (places s 0).length ≤ s.size := by have := places_len s 0; omega
    clear HSH hin
    go_upto_region 5 with (go_at_call 31; refine (unhide HW).mono ?_; rintro e w2 ⟨hwo, hb2⟩; obtain ⟨k, q, rfl, hwd⟩ := hwo)
    have HB2 := hide ((unhide HB1).trans (hb2.mono hsz1))
    have hsz2 : w.heap.size ≤ w2.heap.size := (unhide HB2).size
    have HIN2 := hide ((unhide HIN).later hb2)
    have HLG := hide hwd.lg
    have hkle := hwd.le
    have hqle := hwd.qle
    rcases hwd.last with ⟨rfl, rfl⟩ | ⟨hk0, hq0, x, hgx, hxq⟩
    · have HV := hide (cutV_no (toldL s ((places s 0).take 0)))
      clear hb2 HW hwd HIN HIN2
      generalize (places s 0).length = n at *
      go_wp2_with fail
      exact bodyPost_ret (res3t Tryd.results17 _ _) rfl ⟨⟨_, _, by rw [unhide HV]; rfl, unhide HLG⟩, unhide HB2⟩
    · have HT : Hid (∀ W, Below w2.heap.size w2 W → Calls Tryd.prog 32 #[.slice (some ⟨g, 0, none⟩) k cap] W fun e w' => e = .returned (.string ⟨(toldL s ((places s 0).take k)).toArray⟩) ∧ Below W.heap.size W w') := fun W hW => told_any s hs g cap k hkle W ((unhide HIN2).later hW)
      obtain ⟨out, hout⟩ : ∃ out, out = toldL s ((places s 0).take k) := ⟨_, rfl⟩
      rw [← hout] at HT HLG
      have HV := hide (cutV_ok out q (by omega))
      have HF : Hid (∀ W, Below w2.heap.size w2 W → W.cell? ⟨g, (k - 1) * 5 + 3, none⟩ = some (.int .i64 (x : Int)) ∧ W.cell? ⟨g, (k - 1) * 5 + 4, none⟩ = some (.int .i64 (((Utf8.decode s x).2 : Nat) : Int))) := fun W hW => by
        obtain ⟨-, -, -, d3, d4⟩ := ((unhide HIN2).later hW).five hgx
        exact ⟨d3, d4⟩
      obtain ⟨k1, rfl⟩ : ∃ k1, k = k1 + 1 := ⟨k - 1, by omega⟩
      rw [Nat.add_sub_cancel] at HF
      generalize (Utf8.decode s x).2 = nw at *
      clear hb2 HW hwd hout HIN HIN2 hgx hk0
      generalize (places s 0).length = n at *
      have ek : (((k1 + 1 : Nat) : Int) == 0) = false := by rw [beq_eq_false_iff_ne]; omega
      obtain ⟨c3, c4⟩ := unhide HF w2 (Below.refl _ _)
      have hcap := (unhide HCAP _ _ _ rfl).1
      have hkc : k1 + 1 ≤ cap := by omega
      have hkn : k1 < n := by omega
      have hkn2 : (k1 : Int) < (n : Int) := by omega
      clear HCAP
      go_upto_region 7 with fail
      have HV2 : Hid (cutV out q = .tuple #[.string ⟨out.toArray⟩, .int .i64 ((x : Int) + (nw : Int)), .int .i64 0]) := by
        show _ = _
        rw [unhide HV, ← hxq, Int.natCast_add]
      clear HV
      have z0 : (0 : Int) ≤ (k1 : Int) := by omega
      have z1 : (k1 : Int) < (n : Int) := by omega
      have z2 : (0 : Int) ≤ (k1 : Int) + 1 := by omega
      have z3 : (k1 : Int) + 1 ≤ (cap : Int) := by omega
      have wr1 : IntKind.i64.wrap ((k1 : Int) + 1 - 1) = (k1 : Int) := by
        simp [IntKind.wrap, IntKind.bits, IntKind.signed]
        omega
      have wr2 : IntKind.i64.wrap (k1 : Int) = (k1 : Int) := by
        simp [IntKind.wrap, IntKind.bits, IntKind.signed]
        omega
      have HWR : Hid (IntKind.i64.wrap ((x : Int) + (nw : Int)) = (x : Int) + (nw : Int)) := by
        show _ = _
        simp [IntKind.wrap, IntKind.bits, IntKind.signed]
        omega
      have HV3 : Hid (cutV out q = .tuple #[.string ⟨out.toArray⟩, .int .i64 (IntKind.i64.wrap ((x : Int) + (nw : Int))), .int .i64 0]) := by
        show _ = _
        rw [unhide HV2, unhide HWR]
      go_region_held3 (fun w' => w'.cell? ⟨g, k1 * 5 + 3, none⟩ = some (.int .i64 (x : Int)) ∧ w'.cell? ⟨g, k1 * 5 + 4, none⟩ = some (.int .i64 (nw : Int))) (first | assumption | (refine ⟨?_, ?_⟩ <;> first | assumption | (simp [go_sem, *]; done)) | (simp [go_sem, *]; done)) ((go_at_call 32; refine (unhide HT _ ((Below.refl _ _).drew)).mono ?_; rintro e w3 ⟨rfl, hb3⟩; have HB3 := hide (((Below.refl w2.heap.size w2).drew).trans hb3); obtain ⟨e3, e4⟩ := unhide HF w3 (unhide HB3); clear hb3))
      all_goals go_wp2_with fail
      all_goals exact bodyPost_ret (res3t Tryd.results17 _ _) rfl ⟨⟨out, q, by first | (rw [unhide HV2]; rfl) | (rw [unhide HV3]; rfl), unhide HLG⟩, (unhide HB2).trans ((unhide HB3).mono hsz2)⟩
theorem cuts_same (s : ByteArray) (a : Int) (hs : s.size ≤ 1000000000000) : ∃ (t : ByteArray) (x y : Int), (∀ w, Calls Tryd.prog 16 #[.string s, .int .i64 a] w fun e w' => e = .returned (.tuple #[.string t, .int .i64 x, .int .i64 y]) ∧ Below w.heap.size w w') ∧
    ∀ w, Lib.Utf8Tabs 0 1 w → Calls Tryd.prog 17 #[.string s, .int .i64 a] w fun e w' => e = .returned (.tuple #[.string t, .int .i64 x, .int .i64 y]) ∧ Below w.heap.size w w' := by
  by_cases h : a < 0 ∨ (s.size : Int) < a
  · refine ⟨⟨#[]⟩, 0, 1, fun w => (cut_out s a h w).mono ?_, fun w _ => (refCut_out s a h w).mono ?_⟩
    · rintro e w' ⟨rfl, rfl⟩; exact ⟨rfl, Below.refl _ _⟩
    · rintro e w' ⟨rfl, rfl⟩; exact ⟨rfl, Below.refl _ _⟩
  · obtain ⟨k, rfl⟩ : ∃ k : Nat, a = (k : Int) := ⟨a.toNat, by omega⟩
    have hk : k ≤ s.size := by omega
    by_cases hex : ∃ out q, Lg (s.extract k s.size) 0 0 [] out q
    · obtain ⟨out, q, hl⟩ := hex
      obtain ⟨t, x, y, hv⟩ : ∃ (t : ByteArray) (x y : Int), cutV out q = .tuple #[.string t, .int .i64 x, .int .i64 y] := by
        unfold cutV
        split
        · exact ⟨_, _, _, rfl⟩
        · exact ⟨_, _, _, rfl⟩
      refine ⟨t, x, y, fun w => (cut_at s _ k hk rfl w hs).mono ?_, fun w hT => (refCut_at s _ k hk rfl w hs hT).mono ?_⟩
      · rintro e w' ⟨hf, hb⟩
        obtain ⟨o', q', rfl, hl'⟩ := hf
        obtain ⟨rfl, rfl⟩ := hl.det hl'
        exact ⟨by rw [hv], hb⟩
      · rintro e w' ⟨hf, hb⟩
        obtain ⟨o', q', rfl, hl'⟩ := hf
        obtain ⟨rfl, rfl⟩ := hl.det hl'
        exact ⟨by rw [hv], hb⟩
    · refine ⟨⟨#[]⟩, 0, 0, fun w => (cut_at s _ k hk rfl w hs).mono ?_, fun w hT => (refCut_at s _ k hk rfl w hs hT).mono ?_⟩
      · rintro e w' ⟨hf, hb⟩
        obtain ⟨o', q', rfl, hl'⟩ := hf
        exact absurd ⟨o', q', hl'⟩ hex
      · rintro e w' ⟨hf, hb⟩
        obtain ⟨o', q', rfl, hl'⟩ := hf
        exact absurd ⟨o', q', hl'⟩ hex

set_option maxRecDepth 100000 in
set_option maxHeartbeats 1000000 in
theorem cuts_law (s : ByteArray) (a : Int) (w : World) (hs : s.size ≤ 1000000000000) (hT : Lib.Utf8Tabs 0 1 w) :
    Calls Tryd.prog 4 #[.string s, .int .i64 a] w fun e w' => e = .returned (.bool true) ∧ Below w.heap.size w w' := by
  obtain ⟨t, x, y, h1, h2⟩ := cuts_same s a hs
  have H1 := hide h1
  have H2 := hide h2
  have HA := hide awake_any
  have HT := hide hT
  clear h1 h2 hT
  go_enter Tryd.func4, Tryd.ntmps4
  go_wp2_with (first
    | (go_at_call 16; refine (unhide H1 w).mono ?_; rintro e w1 ⟨rfl, hb1⟩; have HB1 := hide hb1; have HT1 := hide (tabs_later (unhide HT) hb1); clear H1 hb1)
    | (go_at_call 17; refine (unhide H2 w1 (unhide HT1)).mono ?_; rintro e w2 ⟨rfl, hb2⟩; have HB2 := hide ((unhide HB1).trans (hb2.mono (unhide HB1).size)); have HT2 := hide (tabs_later (unhide HT1) hb2); clear H2 hb2)
    | (go_at_call 15; refine (unhide HA w2 (unhide HT2)).mono ?_; rintro e w3 ⟨rfl, hb3⟩))
  go_ret
  exact ⟨rfl, (unhide HB2).trans (hb3.mono (unhide HB2).size)⟩
end Go.Proofs.YtiooiacebgojiaaDoor

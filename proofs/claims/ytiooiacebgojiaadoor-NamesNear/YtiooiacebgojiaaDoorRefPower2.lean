/- The document's Power at every text and place. -/
import Derived.Test.YtiooiacebgojiaaDoorRefPower
import Derived.Deep.MidRow
import Derived.BigQuiet
namespace Go.Proofs.YtiooiacebgojiaaDoor
open Go.RowKit

theorem und52b : (Tryd.prog.underlying 52).map TypeDesc.isRow = some true := by kernel_rfl
theorem und52 : ∃ d : TypeDesc, Tryd.prog.underlying 52 = some d ∧ d.isRow = true := by
  have h := und52b
  cases hu : Tryd.prog.underlying 52 with
  | none => rw [hu] at h; cases h
  | some d => rw [hu] at h; exact ⟨d, rfl, Option.some.inj h⟩
theorem size52 : (Tryd.prog.info? 52).map (·.size) = some 5 := by kernel_rfl
/-- The runes of a text, laid in memory, as the document's answer has them. -/
def RunesIn (w : World) (g : Nat) (s : ByteArray) : Prop := g < w.heap.size ∧ ∀ i p, (places s 0)[i]? = some p → w.rangeAt g (i * 5) (cells5 s p)
theorem runes_shape {w : World} {B : Nat} {v : Value} {s : ByteArray} (h : w.ownsRow B 52 5 v (places s 0).length (runeRow s (places s 0))) : (s.size = 0 ∧ ∃ a c, v = .slice a 0 c) ∨ (0 < s.size ∧ ∃ g cap, v = .slice (some ⟨g, 0, none⟩) (places s 0).length cap ∧ RunesIn w g s) := by
  have h0 := h
  rcases h.2 with ⟨rfl, hn⟩ | ⟨g, cap, cur, rfl, _, hg, _⟩
  · refine .inl ⟨?_, none, 0, rfl⟩
    apply Decidable.byContradiction
    intro hs
    rw [places_step s 0 (by omega)] at hn
    simp at hn
  · by_cases hs : s.size = 0
    · refine .inl ⟨hs, some ⟨g, 0, none⟩, cap, ?_⟩
      rw [places_end s 0 (by omega)]
      rfl
    · refine .inr ⟨by omega, g, cap, rfl, (Array.getElem?_eq_some_iff.1 hg).1, ?_⟩
      intro i p hi j u hj
      obtain ⟨hil, hip⟩ := List.getElem?_eq_some_iff.1 hi
      have hj5 : j < 5 := (List.getElem?_eq_some_iff.1 hj).1
      rw [h0.cellAt (i * 5 + j) (by omega), runeRow_get s _ i j hil hj5, hip]
      exact hj
theorem RunesIn.later {w w' : World} {g : Nat} {s : ByteArray} (h : RunesIn w g s) (hb : Below w.heap.size w w') : RunesIn w' g s := by
  refine ⟨Nat.lt_of_lt_of_le h.1 hb.size, fun i p hi j u hj => ?_⟩
  rw [hb.cell (p := ⟨g, i * 5 + j, none⟩) h.1]
  exact h.2 i p hi j u hj
theorem RunesIn.load {w : World} {g : Nat} {s : ByteArray} (h : RunesIn w g s) (i p : Nat) (hi : (places s 0)[i]? = some p) : (Instr.loadAt 52 (.pointer (some ⟨g, i * 5, none⟩))).run Tryd.prog w = .ok (.agg (cells5 s p).toArray) w := by
  obtain ⟨d, hu, hd⟩ := und52
  exact run_loadAt_mid w g (i * 5) 52 (cells5 s p) d (h.2 i p hi) hu hd size52
theorem min_step (N f : Nat) (hf : f < 10) : min (min N 100 * 10 + f) 100 = min (min (10 * N + f) 1000) 100 := by omega
theorem powV_minPos (N z : Nat) (hz : z ≠ 0) (h : ¬ 99 < N) : powV (min N 100) z false = .tuple #[.int .i64 (N : Int), .int .i64 (z : Int), .int .i64 0] := by
  rw [Nat.min_eq_left (by omega)]; exact powV_pos N z hz h
theorem powV_minNeg (N z : Nat) (hz : z ≠ 0) (h : ¬ 99 < N) : powV (min N 100) z true = .tuple #[.int .i64 (-(N : Int)), .int .i64 (z : Int), .int .i64 0] := by
  rw [Nat.min_eq_left (by omega)]; exact powV_neg N z hz h
theorem powV_minBig (N z : Nat) (b : Bool) (hz : z ≠ 0) (h : 99 < N) : powV (min N 100) z b = .tuple #[.int .i64 0, .int .i64 0, .int .i64 51] := powV_big _ z b hz (by omega)

/-- The exponent that a text begins with, as an answer. -/
def PwOut (s : ByteArray) (e : Ending) : Prop := ∃ a z b, e = .returned (powV a z b) ∧ Pw s 0 0 0 false a z b
set_option maxRecDepth 100000 in
set_option maxHeartbeats 1000000 in
theorem refPower_at (s0 s : ByteArray) (at0 : Nat) (hat : at0 ≤ s0.size) (hx : s0.extract at0 s0.size = s) (w : World) (hmax : s0.size ≤ 1000000000000) (hT : Lib.Utf8Tabs 0 1 w) :
    Calls Tryd.prog 19 #[.string s0, .int .i64 (at0 : Int)] w fun e w' => PwOut s e ∧ Below w.heap.size w w' := by
  have hss : s.size ≤ s0.size := by
    rw [← hx]
    have : (s0.extract at0 s0.size).size ≤ s0.size := by simp
    exact this
  have HR := hide (refRunes_any s w (by omega) hT)
  clear hT
  go_enter Tryd.func19, Tryd.ntmps19
  go_upto_region 5 with (go_at_call 30; refine (unhide HR).mono ?_; rintro e w1 ⟨v, rfl, hown, hb1⟩)
  have HB1 := hide hb1
  have hsz1 : w.heap.size ≤ w1.heap.size := hb1.size
  have HSH := hide (runes_shape hown)
  clear hown hb1 HR hx
  rcases unhide HSH with ⟨hs0, va, vc, rfl⟩ | ⟨hs0, g, cap, rfl, hin⟩
  · have HPW : Hid (Pw s 0 0 0 false 0 0 false) := .done 0 0 0 false (by omega)
    have HV := hide (powV_zero 0 false)
    clear HSH
    go_upto_region 9 with fail
    go_loopw [8, 9, 10] (fun v8 v9 v10 wr => v8 = .int .i64 0 ∧ v9 = .int .i64 0 ∧ v10 = .int .i64 0 ∧ wr = w1) (fun _ _ _ _ => 0)
    case atStart => exact ⟨rfl, rfl, rfl, rfl⟩
    case round =>
      obtain ⟨rfl, rfl, rfl, hwr⟩ := hrel
      obtain rfl : w1 = wr := hwr.symm
      go_wp2_with fail
      exact bodyPost_ret (res3t Tryd.results19 _ _) rfl ⟨⟨0, 0, false, by rw [unhide HV]; rfl, unhide HPW⟩, unhide HB1⟩
  · have HIN := hide hin
    have hpl : (places s 0)[0]? = some 0 := by rw [places_step s 0 hs0]; rfl
    have hn0 : 0 < (places s 0).length := by rw [places_step s 0 hs0]; simp
    have hnle : (places s 0).length ≤ s.size := by have := places_len s 0; omega
    obtain ⟨r, nw, hrn⟩ : ∃ r nw : Nat, Utf8.decode s 0 = (r, nw) := ⟨_, _, rfl⟩
    have hc0 : w1.cell? ⟨g, 0, none⟩ = some (.int .i32 (r : Int)) := by
      have h := hin.2 0 0 hpl 0 (.int .i32 ((Utf8.decode s 0).1 : Nat)) rfl
      rw [hrn] at h
      exact h
    have hr1 : (r : Int) ≤ 2147483647 := by have := decode_le s 0; rw [hrn] at this; omega
    have hnw : 0 < nw := by have := Lib.decode_width_pos s 0 hs0; rw [hrn] at this; exact this
    have hnwl : nw ≤ s.size := by have := width_le s 0 hs0; rw [hrn] at this; simpa using this
    have HS0 : Hid ((r = 8314 ∨ r = 8315) → ∀ a' z' b', Pw s nw 0 0 (decide (r = 8315)) a' z' b' → Pw s 0 0 0 false a' z' b') := fun hs a' z' b' h => .sign 0 0 0 false a' z' b' hs0 rfl (by rw [hrn]; exact hs) (by rw [hrn]; simpa using h)
    have HD0 : Hid ((places s 0).drop 1 = places s nw) := by
      show _ = _
      rw [places_step s 0 hs0, hrn]
      simp
    have HNS : Hid (¬ (r = 8314 ∨ r = 8315) → ¬ ((Utf8.decode s 0).1 = 8314 ∨ (Utf8.decode s 0).1 = 8315)) := fun h => by rw [hrn]; exact h
    obtain ⟨n, hn⟩ : ∃ n, n = (places s 0).length := ⟨_, rfl⟩
    rw [← hn] at hn0 hnle ⊢
    have HN := hide hn
    clear hn hrn HSH hin hpl
    go_upto_region 6 with fail
    go_cut [40] from 24 (fun s40 wx => s40 = .bool (decide (r = 8314) || decide (r = 8315)) ∧ wx = w1)
    case first =>
      by_cases q1 : r = 8314
      · subst q1
        go_wp2_with fail
        go_meet
        exact ⟨rfl, rfl⟩
      · have e1 : ((r : Int) == 8314) = false := by rw [beq_eq_false_iff_ne]; omega
        by_cases q2 : r = 8315
        · subst q2
          go_wp2_with fail
          go_meet
          exact ⟨rfl, rfl⟩
        · have e2 : ((r : Int) == 8315) = false := by rw [beq_eq_false_iff_ne]; omega
          have e3 : (decide (r = 8314) || decide (r = 8315)) = false := by simp [q1, q2]
          have E3 := hide e3
          clear q1 q2 e3
          go_wp2_with fail
          go_meet
          exact ⟨by rw [unhide E3], rfl⟩
    case rest =>
      obtain ⟨rfl, hwx⟩ := hcut
      obtain rfl : w1 = wc := hwx.symm
      go_upto_if 40 with fail
      go_cut [8, 11] from 24 (fun s8 s11 wx => ∃ (i p : Nat) (b : Bool), s8 = .int .i64 (i : Int) ∧ s11 = .bool b ∧ i ≤ n ∧ p ≤ s.size ∧ Hid ((places s 0).drop i = places s p) ∧ Hid (∀ a' z' b', Pw s p 0 0 b a' z' b' → Pw s 0 0 0 false a' z' b') ∧ Hid (¬ (p = 0 ∧ ((Utf8.decode s p).1 = 8314 ∨ (Utf8.decode s p).1 = 8315))) ∧ wx = w1)
      case first =>
        by_cases q1 : r = 8314
        · subst q1
          go_wp2_with fail
          go_meet
          exact ⟨1, nw, false, rfl, rfl, by omega, hnwl, HD0, fun a' z' b' h => unhide HS0 (by simp) a' z' b' (by simpa using h), fun h => by omega, rfl⟩
        · by_cases q2 : r = 8315
          · subst q2
            go_wp2_with fail
            go_meet
            exact ⟨1, nw, true, rfl, rfl, by omega, hnwl, HD0, fun a' z' b' h => unhide HS0 (by simp) a' z' b' (by simpa using h), fun h => by omega, rfl⟩
          · have e3 : (decide (r = 8314) || decide (r = 8315)) = false := by simp [q1, q2]
            have hq : ¬ (r = 8314 ∨ r = 8315) := by omega
            rw [e3]
            clear q1 q2 e3
            go_wp2_with fail
            go_meet
            exact ⟨0, 0, false, rfl, rfl, by omega, by omega, rfl, fun _ _ _ h => h, fun h => unhide HNS hq h.2, rfl⟩
      case rest =>
        obtain ⟨i0, p0, b, rfl, rfl, hi0, hp0, HD, HL0, HSG0, hwx⟩ := hcut
        obtain rfl : w1 = wc := hwx.symm
        clear HS0 HD0 HNS hc0 hnw hnwl hr1
        go_upto_region 9 with fail
        go_loopw [8, 9, 10] (fun v8 v9 v10 wr => ∃ (i p N z : Nat), v8 = .int .i64 (i : Int) ∧ v9 = .int .i64 (N : Int) ∧ v10 = .int .i64 (z : Int) ∧ i ≤ n ∧ p ≤ s.size ∧ N ≤ 1000 ∧ z ≤ s.size ∧ Hid ((places s 0).drop i = places s p) ∧ Hid (∀ a' z' b', Pw s p (min N 100) z b a' z' b' → Pw s 0 0 0 false a' z' b') ∧ Hid (¬ (p = 0 ∧ ((Utf8.decode s p).1 = 8314 ∨ (Utf8.decode s p).1 = 8315))) ∧ Hid (Below w1.heap.size w1 wr)) (fun v8 _ _ _ => n - (intOf v8).toNat)
        case atStart => exact ⟨i0, p0, 0, 0, rfl, rfl, rfl, hi0, hp0, by omega, by omega, HD, HL0, HSG0, Below.refl _ _⟩
        case round =>
          obtain ⟨i, p, N, z, rfl, rfl, rfl, hi, hp, hN, hz, HDR, HL, HSG, HB⟩ := hrel
          have hsz2 : w1.heap.size ≤ wr.heap.size := (unhide HB).size
          have HBW : Hid (Below w.heap.size w wr) := (unhide HB1).trans ((unhide HB).mono hsz1)
          by_cases hlt : p < s.size
          · obtain ⟨hil, hip, hdr⟩ := places_cons (unhide HDR) hlt
            have hin2 : i < n := by rw [unhide HN]; exact hil
            have hget : (places s 0)[i]? = some p := by rw [List.getElem?_eq_getElem hil, hip]
            obtain ⟨r, nw, hrn⟩ : ∃ r nw : Nat, Utf8.decode s p = (r, nw) := ⟨_, _, rfl⟩
            have hr1 : (r : Int) ≤ 2147483647 := by have := decode_le s p; rw [hrn] at this; omega
            have hnw : 0 < nw := by have := Lib.decode_width_pos s p hlt; rw [hrn] at this; exact this
            have hnwl : p + nw ≤ s.size := by have := width_le s p hlt; rw [hrn] at this; exact this
            have hfw := fig_width s p hlt
            rw [hrn] at hfw hdr
            obtain ⟨f, hf⟩ : ∃ f, f = foldR r := ⟨_, rfl⟩
            obtain ⟨bk, hbk⟩ : ∃ bk, bk = brokenAt s p := ⟨_, rfl⟩
            have hc5 : cells5 s p = [.int .i32 (r : Int), .int .i32 f, .bool bk, .int .i64 (p : Int), .int .i64 (nw : Int)] := by
              unfold cells5
              rw [hrn, hf, hbk]
            have HIR := hide ((unhide HIN).later (unhide HB))
            have HLD : Hid (∀ W, Below wr.heap.size wr W → W.cell? ⟨g, i * 5, none⟩ = some (.int .i32 (r : Int)) ∧ W.cell? ⟨g, i * 5 + 1, none⟩ = some (.int .i32 f) ∧ W.cell? ⟨g, i * 5 + 2, none⟩ = some (.bool bk) ∧ W.cell? ⟨g, i * 5 + 3, none⟩ = some (.int .i64 (p : Int)) ∧ W.cell? ⟨g, i * 5 + 4, none⟩ = some (.int .i64 (nw : Int))) := by
              intro W hW
              have h := (unhide HIR).later hW
              exact ⟨h.2 i p hget 0 _ (by rw [hc5]; rfl), h.2 i p hget 1 _ (by rw [hc5]; rfl), h.2 i p hget 2 _ (by rw [hc5]; rfl), h.2 i p hget 3 _ (by rw [hc5]; rfl), h.2 i p hget 4 _ (by rw [hc5]; rfl)⟩
            obtain ⟨k0, k1, k2, k3, k4⟩ := unhide HLD wr (Below.refl _ _)
            have HF := hide (fun W => figure_any r f bk p nw W (by omega) hr1)
            clear hf hbk hc5 hget hil hip HIR
            by_cases hfig : figOf r < 10
            · have hfI : figI r = (figOf r : Int) := by unfold figI; rw [if_pos hfig]
              rw [hfI] at HF
              have hnf := hfw hfig
              have HL2 : Hid (∀ a' z' b', Pw s (p + nw) (min (min (10 * N + figOf r) 1000) 100) (p + nw) b a' z' b' → Pw s 0 0 0 false a' z' b') := fun a' z' b' h => unhide HL a' z' b' (.step p (min N 100) z b a' z' b' hlt (unhide HSG) (by rw [hrn]; exact hfig) (by rw [hrn]; simp only []; rw [min_step N _ hfig, ← hnf]; exact h))
              have HDR2 := hide hdr
              clear HL hfw hfI hnf hdr HDR
              generalize figOf r = q at *
              go_upto_region 11 with (first
                | (go_at_call 40; refine (unhide HF wr).mono ?_; rintro e w3 ⟨rfl, hb3⟩; obtain ⟨j0, j1, j2, j3, j4⟩ := unhide HLD w3 hb3; have HB3 := hide hb3; clear hb3 k0 k1 k2 k3 k4)
                | (go_at_call 40; refine (unhide HF w3).mono ?_; rintro e w4 ⟨rfl, hb4⟩; have HB4 := hide ((unhide HB3).trans (hb4.mono (unhide HB3).size)); obtain ⟨l0, l1, l2, l3, l4⟩ := unhide HLD w4 (unhide HB4); clear hb4 j0 j1 j2 j3 j4))
              go_quiet (fail)
              go_wp2_with fail
              go_roundw
              case rel => exact ⟨i + 1, p + nw, min (10 * N + q) 1000, p + nw, by go_num, by go_num, by go_num, by omega, hnwl, by omega, hnwl, HDR2, HL2, fun h => by omega, below_drewN ((unhide HB).trans ((unhide HB4).mono hsz2)) _⟩
              case measure => simp [intOf]; omega
            · have hfI : figI r = -1 := by unfold figI; rw [if_neg hfig]
              rw [hfI] at HF
              have HPW : Hid (Pw s 0 0 0 false (min N 100) z b) := unhide HL _ _ _ (.stop p (min N 100) z b hlt (unhide HSG) (by rw [hrn]; exact hfig))
              clear HL hfw hfI hdr HDR
              by_cases hz0 : z = 0
              · subst hz0
                have HV := hide (powV_zero (min N 100) b)
                go_wp2_with (go_at_call 40; refine (unhide HF wr).mono ?_; rintro e w3 ⟨rfl, hb3⟩)
                exact bodyPost_ret (res3t Tryd.results19 _ _) rfl ⟨⟨min N 100, 0, b, by rw [unhide HV]; rfl, unhide HPW⟩, (unhide HBW).trans (hb3.mono (unhide HBW).size)⟩
              · have ez : ((z : Int) == 0) = false := by rw [beq_eq_false_iff_ne]; omega
                by_cases hN9 : 99 < N
                · have HV := hide (powV_minBig N z b hz0 hN9)
                  clear hz0
                  go_wp2_with (go_at_call 40; refine (unhide HF wr).mono ?_; rintro e w3 ⟨rfl, hb3⟩)
                  exact bodyPost_ret (res3t Tryd.results19 _ _) rfl ⟨⟨min N 100, z, b, by rw [unhide HV]; rfl, unhide HPW⟩, (unhide HBW).trans (hb3.mono (unhide HBW).size)⟩
                · cases b
                  · have HV := hide (powV_minPos N z hz0 hN9)
                    clear hz0
                    go_wp2_with (go_at_call 40; refine (unhide HF wr).mono ?_; rintro e w3 ⟨rfl, hb3⟩)
                    exact bodyPost_ret (res3t Tryd.results19 _ _) rfl ⟨⟨min N 100, z, false, by rw [unhide HV]; rfl, unhide HPW⟩, (unhide HBW).trans (hb3.mono (unhide HBW).size)⟩
                  · have HV := hide (powV_minNeg N z hz0 hN9)
                    clear hz0
                    go_wp2_with (go_at_call 40; refine (unhide HF wr).mono ?_; rintro e w3 ⟨rfl, hb3⟩)
                    exact bodyPost_ret (res3t Tryd.results19 _ _) rfl ⟨⟨min N 100, z, true, by rw [unhide HV]; rfl, unhide HPW⟩, (unhide HBW).trans (hb3.mono (unhide HBW).size)⟩
          · have hni : n ≤ i := by rw [unhide HN]; exact places_nil (unhide HDR) hlt
            have HPW : Hid (Pw s 0 0 0 false (min N 100) z b) := unhide HL _ _ _ (.done p (min N 100) z b hlt)
            clear HL HDR
            by_cases hz0 : z = 0
            · subst hz0
              have HV := hide (powV_zero (min N 100) b)
              go_wp2_with fail
              exact bodyPost_ret (res3t Tryd.results19 _ _) rfl ⟨⟨min N 100, 0, b, by rw [unhide HV]; rfl, unhide HPW⟩, unhide HBW⟩
            · have ez : ((z : Int) == 0) = false := by rw [beq_eq_false_iff_ne]; omega
              by_cases hN9 : 99 < N
              · have HV := hide (powV_minBig N z b hz0 hN9)
                clear hz0
                go_wp2_with fail
                exact bodyPost_ret (res3t Tryd.results19 _ _) rfl ⟨⟨min N 100, z, b, by rw [unhide HV]; rfl, unhide HPW⟩, unhide HBW⟩
              · cases b
                · have HV := hide (powV_minPos N z hz0 hN9)
                  clear hz0
                  go_wp2_with fail
                  exact bodyPost_ret (res3t Tryd.results19 _ _) rfl ⟨⟨min N 100, z, false, by rw [unhide HV]; rfl, unhide HPW⟩, unhide HBW⟩
                · have HV := hide (powV_minNeg N z hz0 hN9)
                  clear hz0
                  go_wp2_with fail
                  exact bodyPost_ret (res3t Tryd.results19 _ _) rfl ⟨⟨min N 100, z, true, by rw [unhide HV]; rfl, unhide HPW⟩, unhide HBW⟩
end Go.Proofs.YtiooiacebgojiaaDoor

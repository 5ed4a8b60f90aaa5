/- The document's own Parse: the loop. -/
import Derived.Test.YtccnbnfafhpeaaaDoorRefParse
import Derived.Test.YtccnbnfafhpeaaaDoorGroupOps
namespace Go.Proofs.YtccnbnfafhpeaaaDoor
open Go.RowKit

theorem refAt_mk {s : ByteArray} {O : Out} {w : World} {a b : Value} {wr : World} (p : Nat) (d : List Int) (u : Bool) (h1 : a = .int .i64 (p : Int)) (h2 : b = .int .i64 (sgnI u)) (h3 : p ≤ s.size) (h4 : d.length = 8) (h5 : rightB d = true) (h6 : Hid (Own8 wr w.heap.size zeros)) (h7 : Hid (Own8 wr (w.heap.size + 1) d)) (h8 : Hid (scan s p (fresh d u) = O)) (h9 : Hid (Below w.heap.size w wr)) : RefAt s O w a b wr := ⟨p, d, u, h1, h2, h3, h4, h5, h6, h7, h8, h9⟩
theorem res3r {tmps : Array Value} {w : World} (g : Nat) (l : List Int) (hl : l.length = 8) (e pl : Value) (hp : tmps.getD 2 undef = .pointer (some ⟨g, 0, none⟩)) (he : tmps.getD 3 undef = e) (hpl : tmps.getD 4 undef = pl) (ho : Own8 w g l) : (results Tryd.f25 tmps).run Tryd.prog w = .ok (.tuple #[.agg (cells8 l), e, pl]) w := by
  rw [← he, ← hpl]
  exact res3 Tryd.results25 tmps w g l hl hp ho
theorem aft_out {s : ByteArray} {p : Nat} {d : List Int} {u : Bool} {k : Nat} {n : Int} {q : Nat} {x : Int} (hx : d.getD k 0 + sgn u n = x) (h : x < -99 ∨ 99 < x) : afterTerm s p d u k n q = .err 51 (p : Int) := by
  unfold afterTerm; rw [hx, if_pos (okB_hi h)]
theorem aft_end {s : ByteArray} {p : Nat} {d : List Int} {u : Bool} {k : Nat} {n : Int} {q : Nat} {x : Int} (hx : d.getD k 0 + sgn u n = x) (h1 : -99 ≤ x) (h2 : x ≤ 99) (hq : q = s.size) : afterTerm s p d u k n q = .done (d.set k x) := by
  unfold afterTerm; rw [hx, if_neg (by rw [okB_yes h1 h2]; simp), if_pos hq]
theorem aft_on {s : ByteArray} {p : Nat} {d : List Int} {u : Bool} {k : Nat} {n : Int} {q : Nat} {x : Int} (hx : d.getD k 0 + sgn u n = x) (h1 : -99 ≤ x) (h2 : x ≤ 99) (hq : q < s.size) (hb : byteAt s q = 32 ∨ byteAt s q = 47) : afterTerm s p d u k n q = scan s (q + 1) (fresh (d.set k x) (byteAt s q == 47)) := by
  unfold afterTerm; rw [hx, if_neg (by rw [okB_yes h1 h2]; simp), if_neg (by omega), if_pos hb]
theorem aft_form {s : ByteArray} {p : Nat} {d : List Int} {u : Bool} {k : Nat} {n : Int} {q : Nat} {x : Int} (hx : d.getD k 0 + sgn u n = x) (h1 : -99 ≤ x) (h2 : x ≤ 99) (hq : q < s.size) (hb : ¬ (byteAt s q = 32 ∨ byteAt s q = 47)) : afterTerm s p d u k n q = .err 3 (q : Int) := by
  unfold afterTerm; rw [hx, if_neg (by rw [okB_yes h1 h2]; simp), if_neg (by omega), if_neg hb]
set_option maxRecDepth 100000 in
set_option maxHeartbeats 2000000 in
theorem refParse_scan (s : ByteArray) (O : Out) (w : World) (h49 : Lib.hasPrefix s.data.toList [49] = false) (hsz : s.size ≤ 9223372036854775807) (hO : scan s 0 rd0 = O) :
    Calls Tryd.prog 25 #[.string s] w fun e w' => e = .returned (outV O) ∧ Below w.heap.size w w' := by
  have hne : s ≠ ⟨#[49]⟩ := by rintro rfl; simp [Lib.hasPrefix, List.isPrefixOf] at h49
  have hn := toList_ne s hne
  have hI := byte_idx s
  have h0 : (s.toList.isEmpty = true) ∨ (s.toList.isEmpty = false ∧ 0 < s.size ∧ ((byteAt s 0 : Int) == 49) = false) := by
    by_cases hs : 0 < s.size
    · refine .inr ⟨not_empty_of s hs, hs, ?_⟩
      rw [beq_eq_false_iff_ne]
      intro e
      have := (pre_byte s).2 ⟨hs, by omega⟩
      rw [h49] at this
      cases this
    · refine .inl ?_
      rw [Lib.toList_data]
      have : s.data.toList = [] := List.length_eq_zero_iff.1 (by have hl : s.data.toList.length = s.size := by simp
                                                                 omega)
      rw [this]; rfl
  have HS := hide hO
  have HT := hide (fun p wr hp => refTerm_any s p wr hp hsz)
  clear hO h49 hne
  go_enter Tryd.func25, Tryd.ntmps25
  rcases h0 with h0 | ⟨h0, h00, h01⟩
  all_goals
    go_upto_region 8 with fail
    go_loopw [6, 7] (fun a b wr => RefAt s O w a b wr) (fun a _ _ => s.size - (intOf a).toNat)
    case atStart =>
      refine refAt_mk 0 zeros false rfl rfl (Nat.zero_le _) rfl (by decide) ((Own8.new w zeros).alloc _) ?_ (unhide HS) (((Below.refl _ _).alloc (Nat.le_refl _) _).alloc (by simp) _)
      have h := Own8.new (w.alloc (.cells (cells8 zeros) 24)) zeros
      rw [size_alloc] at h
      exact h
    case round =>
      obtain ⟨p, d, u, rfl, rfl, hp, hd, hr, HZ, HD, HSC, HB⟩ := hrel
      have HT1 := hide (unhide HT p wr hp)
      obtain ⟨y, hy⟩ : ∃ y, Hid (∀ kk, kk < 8 → d[kk]? = some (y kk) ∧ d.getD kk 0 = y kk ∧ -99 ≤ y kk ∧ y kk ≤ 99) := ⟨fun kk => d.getD kk 0, fun kk hk => by
        have hl : kk < d.length := by omega
        have h1 : d[kk]? = some d[kk] := List.getElem?_eq_getElem hl
        have h2 : d.getD kk 0 = d[kk] := by simp [List.getD_eq_getElem?_getD, hl]
        have h3 := rightB_get hr kk _ h1
        exact ⟨by rw [h1]; exact congrArg some h2.symm, rfl, by show -99 ≤ d.getD kk 0; omega, by show d.getD kk 0 ≤ 99; omega⟩⟩
      have HD8 := hide hd
      have HRR := hide hr
      clear hd hr
      go_upto_region 10 with (go_at_call 46; refine (unhide HT1).mono ?_; rintro en w2 ⟨hw2, k, n, q, e, rfl, hT⟩; subst hw2)
      rcases hT with ⟨rfl, kk, qq, rfl, rfl, hk8, hn1, hn2, hpq, hqs, hsc⟩ | ⟨he, hsc⟩
      · obtain ⟨hy1, hy2, hy3, hy4⟩ := unhide hy kk hk8
        have HSC2 := hide ((unhide HSC).symm.trans (hsc d u (unhide HD8) (unhide HRR)))
        have hcl := (unhide HD).cell kk _ hy1
        have hfr := (unhide HD).frozen
        have hp0 : (0 : Int) ≤ (kk : Int) := by omega
        have hp8 : (kk : Int) < 8 := by omega
        have HY2 := hide hy2
        have HY1 := hide hy1
        generalize y kk = yk at *
        obtain ⟨m, hm⟩ : ∃ m, sgn u n = m := ⟨_, rfl⟩
        have hsm : sgnI u * n = m := (sgnI_mul u n).trans hm
        have hm1 : -99 ≤ m ∧ m ≤ 99 := by unfold sgn at hm; split at hm <;> omega
        have HX : Hid (d.getD kk 0 + sgn u n = yk + m) := by show d.getD kk 0 + sgn u n = yk + m; rw [hy2, hm]
        clear hsc hy2 hy1 HSC HT1 HT HS hm
        go_upto_region 13 with fail
        obtain ⟨W2, hW2⟩ : ∃ W2, W2 = w2.setCell ⟨w.heap.size + 1, kk, none⟩ (.int .i64 (yk + m)) := ⟨_, rfl⟩
        rw [← hW2]
        have HD2 : Hid (Own8 W2 (w.heap.size + 1) (d.set kk (yk + m))) := by show Own8 W2 _ _; rw [hW2]; exact (unhide HD).set kk (yk + m)
        have HZ2 : Hid (Own8 W2 w.heap.size zeros) := by show Own8 W2 _ _; rw [hW2]; exact (unhide HZ).other (by simp) _
        have HB2 : Hid (Below w.heap.size w W2) := by show Below _ _ W2; rw [hW2]; exact (unhide HB).setCell (by simp) _
        have hl2 : Hid ((d.set kk (yk + m)).length = 8) := by show _ = 8; rw [List.length_set]; exact unhide HD8
        have hcl2 := (unhide HD2).cell kk (yk + m) (by rw [List.getElem?_set_self (by rw [unhide HD8]; exact hk8)])
        clear hW2 hcl hfr HZ HD HB
        generalize hx : yk + m = x at *
        clear hx hsm hm1 hy3 hy4
        by_cases ho : x < -99 ∨ 99 < x
        · have HOO := hide ((unhide HSC2).trans (aft_out (unhide HX) ho))
          clear HSC2
          rcases ho with ho | ho
          all_goals
            go_wp2_with (refine store8 rfl (.tmp 2) (.tmp 57) rfl w.heap.size _ [0, 0, 0, 0, 0, 0, 0, 0] rfl rfl rfl rfl (unhide HZ2) ?_)
            refine bodyPost_ret (res3r w.heap.size zeros rfl _ _ rfl rfl rfl ((unhide HZ2).setRow _)) rfl ⟨?_, ?_⟩
            · rw [unhide HOO]; rfl
            · exact below_setRow (unhide HB2) (Nat.le_refl _) _
        · have ho1 : -99 ≤ x := by omega
          have ho2 : x ≤ 99 := by omega
          clear ho
          by_cases hqe : qq = s.size
          · have HOO := hide ((unhide HSC2).trans (aft_end (unhide HX) ho1 ho2 hqe))
            have hqb : ((qq : Int) == (s.size : Int)) = true := by rw [beq_iff_eq]; omega
            obtain ⟨r0, r1, r2, r3, r4, r5, r6, r7, hR⟩ := list8 _ (unhide hl2)
            rw [hR] at HD2 HOO
            clear HSC2 hqe hR HX
            go_wp2_with (first
              | (refine load8 rfl (.tmp 5) rfl (w.heap.size + 1) r0 r1 r2 r3 r4 r5 r6 r7 rfl (unhide HD2) ?_)
              | (refine store8 rfl (.tmp 2) (.tmp 63) rfl w.heap.size _ [r0, r1, r2, r3, r4, r5, r6, r7] rfl rfl rfl rfl (unhide HZ2) ?_))
            refine bodyPost_ret (res3r w.heap.size [r0, r1, r2, r3, r4, r5, r6, r7] rfl _ _ rfl rfl rfl ((unhide HZ2).setRow _)) rfl ⟨?_, ?_⟩
            · rw [unhide HOO]; rfl
            · exact below_setRow (unhide HB2) (Nat.le_refl _) _
          · have hql : qq < s.size := by omega
            have hqb : ((qq : Int) == (s.size : Int)) = false := by rw [beq_eq_false_iff_ne]; omega
            have HR2 : Hid (rightB (d.set kk x) = true) := right_set (unhide HRR) ⟨ho1, ho2⟩
            clear hqe
            by_cases hb : byteAt s qq = 32 ∨ byteAt s qq = 47
            · have HON := hide ((aft_on (unhide HX) ho1 ho2 hql hb).symm.trans (unhide HSC2).symm)
              clear HSC2
              rcases hb with hb | hb
              · rw [hb] at HON
                go_wp2
                go_roundw
                case rel => exact refAt_mk (qq + 1) (d.set kk x) false (by go_num) (by go_num) (by omega) (unhide hl2) (unhide HR2) HZ2 HD2 HON HB2
                case measure => simp [intOf]; omega
              · rw [hb] at HON
                go_wp2
                go_roundw
                case rel => exact refAt_mk (qq + 1) (d.set kk x) true (by go_num) (by go_num) (by omega) (unhide hl2) (unhide HR2) HZ2 HD2 HON HB2
                case measure => simp [intOf]; omega
            · have HOO := hide ((unhide HSC2).trans (aft_form (unhide HX) ho1 ho2 hql hb))
              have hb1 : ((byteAt s qq : Int) != 32) = true := by rw [bne_iff_ne]; omega
              have hb2 : ((byteAt s qq : Int) != 47) = true := by rw [bne_iff_ne]; omega
              clear HSC2 hb
              go_wp2_with (refine store8 rfl (.tmp 2) (.tmp 74) rfl w.heap.size _ [0, 0, 0, 0, 0, 0, 0, 0] rfl rfl rfl rfl (unhide HZ2) ?_)
              refine bodyPost_ret (res3r w.heap.size zeros rfl _ _ rfl rfl rfl ((unhide HZ2).setRow _)) rfl ⟨?_, ?_⟩
              · rw [unhide HOO]; rfl
              · exact below_setRow (unhide HB2) (Nat.le_refl _) _
      · have HOO := hide ((unhide HSC).symm.trans (hsc d u (unhide HD8) (unhide HRR)))
        clear hsc HSC HT1 HT HS
        rcases he with rfl | rfl
        all_goals
          go_wp2_with (refine store8 rfl (.tmp 2) (.tmp 35) rfl w.heap.size _ [0, 0, 0, 0, 0, 0, 0, 0] rfl rfl rfl rfl (unhide HZ) ?_)
          refine bodyPost_ret (res3r w.heap.size zeros rfl _ _ rfl rfl rfl ((unhide HZ).setRow _)) rfl ⟨?_, ?_⟩
          · rw [unhide HOO]; rfl
          · exact below_setRow (unhide HB) (Nat.le_refl _) _
theorem refParse_any (s : ByteArray) (w : World) (hsz : s.size ≤ 9223372036854775807) : Calls Tryd.prog 25 #[.string s] w fun e w' => e = .returned (outV (parseOut s)) ∧ Below w.heap.size w w' := by
  unfold parseOut
  cases h : Lib.hasPrefix s.data.toList [49] with
  | true =>
    rw [if_pos rfl]
    obtain ⟨h0, h1⟩ := (pre_byte s).1 h
    by_cases h2 : s = ⟨#[49]⟩
    · rw [if_pos h2]; subst h2; exact refParse_one w
    · rw [if_neg h2]; exact refParse_long s w h2 h0 h1
  | false =>
    rw [if_neg (by simp)]
    exact refParse_scan s _ w h hsz rfl
end Go.Proofs.YtccnbnfafhpeaaaDoor

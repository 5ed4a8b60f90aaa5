/- RatFractions: the law whole. -/
import Derived.Test.YtndhinoomlofgaaGreatDoorFractionsOne
import Derived.Test.YtndhinoomlofgaaGreatDoorFieldM
namespace Cub
/-- There are few steps. -/
theorem EU.length {D R E d r : Nat} {ts : List Nat} (h : EU d r ts) (hD : D < 10 ^ E) (hR : R < D) : ∀ pre, EI D R d r pre → (pre ++ ts).length ≤ 8 * E := by
  induction h with
  | nil => intro pre s; rw [List.append_nil]; exact s.len hD hR
  | step h t ih =>
    rename_i d r ts
    intro pre s
    have := ih (pre ++ [d / r]) (s.step h)
    rwa [List.append_assoc] at this
end Cub
namespace Go.Proofs.YtndhinoomlofgaaGreatDoor
open Go.RowKit

set_option maxRecDepth 100000 in
set_option maxHeartbeats 4000000 in
theorem law_fractions (n1 d1 : ByteArray) (v : Value) (L : List ByteArray) (w : World) (htab : Tab w) (s1 : n1.size ≤ maxLen) (s2 : d1.size ≤ maxLen) (hrow : RowS w v L) (hK : L.length ≤ 8796093022208) (hsz : ∀ t ∈ L, t.size ≤ maxLen) :
    Calls Tryz.prog 16 #[.agg #[.string n1, .string d1], v] w fun r w' => r = .returned (.bool true) ∧ Below w.heap.size w w' := by
  obtain ⟨rn, rd, re, hbk, hinf⟩ := back_info L hK hsz
  have HBK := hide hbk; have HINF := hide hinf
  have HROW := hide hrow; have HKK := hide hK
  have HTW := hide htab
  have HAW := hide (fun W (hb : Below w.heap.size w W) => awake_any W (htab.later hb))
  obtain ⟨V, hV⟩ : ∃ V, V = w.alloc (.cells #[.string n1, .string d1] 23) := ⟨_, rfl⟩
  have HS0 : Hid (T2 V w.heap.size (.string n1) (.string d1) ∧ Below w.heap.size w V) := by rw [hV]; exact ⟨⟨by simp [go_sem], by simp [go_sem], by simp [go_sem], by simp [go_sem]⟩, alT_below _ _⟩
  have HV := hide hV
  clear hbk hinf htab hrow hK hsz
  by_cases hr : RightT n1 d1
  · obtain ⟨x, hx⟩ := (right_isR _ _).1 hr
    obtain ⟨ts, hts, hch, _⟩ := chains_ok n1 d1 x hx
    have hlen : ts.length ≤ 1000000 := by
      have h := hts.length (D := x.den) (R := floorR (decide (x < 0)) x.num.natAbs x.den) (E := 600) hx.bd.2 (floorR_lt _ _ _ x.den_pos) [] (Cub.EI.first (floorR_lt _ _ _ x.den_pos))
      rw [List.nil_append] at h
      omega
    have HCH := hide hch
    have HBC := hide (fun v W (ht : Tab W) (hr : RowS W v (chT (decide (x < 0)) (floorN (decide (x < 0)) x.num.natAbs x.den) ts)) => back_chain n1 d1 x hx ts hts v W ht hr hlen)
    unfold Ans at HBC
    have H20 := hide (rb_yes s1 s2 hr)
    generalize chT (decide (x < 0)) (floorN (decide (x < 0)) x.num.natAbs x.den) ts = CL at *
    clear hch hts hlen hx hr s1 s2
    go_enter Tryz.func16, Tryz.ntmps16
    go_upto_region 1 with fail
    rw [← unhide HV]
    clear hV HV
    have t0 := (unhide HS0).1.c0; have t1 := (unhide HS0).1.c1
    go_upto_region 2 with (go_at_call 20; go_must (refine (unhide H20 _).mono ?_; rintro e w1 ⟨rfl, hb1⟩; have HS1 : Hid (T2 w1 w.heap.size (.string n1) (.string d1) ∧ Below w.heap.size w w1) := ⟨(unhide HS0).1.later hb1, (unhide HS0).2.trans (hb1.mono (unhide HS0).2.size)⟩; clear hb1 t0 t1; have t0 := (unhide HS1).1.c0; have t1 := (unhide HS1).1.c1))
    go_upto_region 3 with (go_at_call 57; go_must (refine (unhide HCH _ ((unhide HTW).later (unhide HS1).2)).mono ?_; rintro e w2 ⟨vc, rfl, hrc, hb2⟩; have HS2 : Hid (T2 w2 w.heap.size (.string n1) (.string d1) ∧ RowS w2 vc CL ∧ Below w.heap.size w w2) := ⟨(unhide HS1).1.later hb2, hrc, (unhide HS1).2.trans (hb2.mono (unhide HS1).2.size)⟩; clear hb2 hrc t0 t1))
    go_upto_region 4 with (go_at_call 59; go_must (refine (unhide HBC _ _ ((unhide HTW).later (unhide HS2).2.2) (unhide HS2).2.1).mono ?_; rintro e w3 ⟨rfl, hb3⟩; have HS3 : Hid (T2 w3 w.heap.size (.string n1) (.string d1) ∧ Below w.heap.size w w3) := ⟨(unhide HS2).1.later hb3, (unhide HS2).2.2.trans (hb3.mono (unhide HS2).2.2.size)⟩; clear hb3))
    obtain ⟨V4, hV4⟩ : ∃ V4, V4 = w3.alloc (.cells #[.string n1, .string d1] 23) := ⟨_, rfl⟩
    have HS4 : Hid (T2 V4 w.heap.size (.string n1) (.string d1) ∧ T2 V4 w3.heap.size (.string n1) (.string d1)) := by
      have hb : Below w3.heap.size w3 V4 := by rw [hV4]; exact alT_below _ _
      exact ⟨(unhide HS3).1.later hb, by rw [hV4]; exact ⟨by simp [go_sem], by simp [go_sem], by simp [go_sem], by simp [go_sem]⟩⟩
    have HB4 : Hid (Below w.heap.size w V4) := by rw [hV4]; exact (unhide HS3).2.trans ((alT_below _ _).mono (unhide HS3).2.size)
    rw [← hV4]
    clear hV4 HS0 HS1 HS2 HS3
    generalize w3.heap.size = g3 at *
    have t0 := (unhide HS4).1.c0; have t1 := (unhide HS4).1.c1; have t2 := (unhide HS4).2.c0; have t3 := (unhide HS4).2.c1
    go_upto_region 6 with fail
    clear t0 t1 t2 t3 HS4 H20 HCH HBC
    have HP := hide (unhide HBK _ V4 ((unhide HROW).later (unhide HB4)) ((unhide HTW).later (unhide HB4)))
    unfold Ans at HP
    rcases unhide HINF with hre | ⟨s, ss, b, n, hL, hs, hb, hn, hall, hq, hre⟩
    · have hre' : (re != 0) = true := by rw [bne_iff_ne]; exact hre
      clear hre
      go_wp2_with (first
        | (go_at_call 59; go_must (refine (unhide HP).mono ?_; rintro e wa ⟨rfl, hba⟩; have HBa := hide ((unhide HB4).trans (hba.mono (unhide HB4).size)); have HBc := hide ((unhide HBa).trans ((alT_below wa (.cells #[.string rn, .string rd] 23)).mono (unhide HBa).size)); clear hba))
        | (go_at_call 23; go_must (refine (unhide HAW _ (unhide HBc)).mono ?_; rintro e wz ⟨rfl, hbz⟩; have HZZ := hide ((unhide HBc).trans (hbz.mono (unhide HBc).size)); clear hbz)))
      go_ret
      exact ⟨rfl, unhide HZZ⟩
    · subst hre
      subst hL
      have HALL := hide hall; have HQ := hide hq; have HS := hide hs; have HBN := hide (And.intro hb hn)
      clear hall hq hs hb hn
      go_upto_region 9 with (go_at_call 59; go_must (refine (unhide HP).mono ?_; rintro e wa ⟨rfl, hba⟩; have HBa := hide ((unhide HB4).trans (hba.mono (unhide HB4).size)); clear hba))
      obtain ⟨VA, hVA⟩ : ∃ VA, VA = wa.alloc (.cells #[.string rn, .string rd] 23) := ⟨_, rfl⟩
      have HTA : Hid (T2 VA wa.heap.size (.string rn) (.string rd)) := by rw [hVA]; exact ⟨by simp [go_sem], by simp [go_sem], by simp [go_sem], by simp [go_sem]⟩
      have HBA : Hid (Below w.heap.size w VA) := by rw [hVA]; exact (unhide HBa).trans ((alT_below _ _).mono (unhide HBa).size)
      rw [← hVA]
      clear hVA HBa HP
      generalize wa.heap.size = ga at *
      have x0 := (unhide HTA).c0; have x1 := (unhide HTA).c1
      obtain ⟨av, cv, hve, hcap, hmax, _, hcells⟩ := unhide HROW
      obtain ⟨b0, o0, rfl, hlt0, hc0⟩ := hcells 0 (by simp)
      have HCE : Hid (∀ i (h : i < (s :: ss).length), w.cell? ⟨b0, o0 + i, none⟩ = some (.string (s :: ss)[i])) := fun i h => by
        obtain ⟨b', o', e, _, hc⟩ := hcells i h
        simp only [Option.some.injEq, Addr.mk.injEq, and_true] at e
        obtain ⟨rfl, rfl⟩ := e
        exact hc
      have HB0 : Hid (b0 < w.heap.size) := hlt0
      rw [List.length_cons] at hve hcap
      subst hve
      have HRW : Hid (RowS w (.slice (some ⟨b0, o0, none⟩) (ss.length + 1) cv) (s :: ss)) := unhide HROW
      have hKK : ss.length + 1 ≤ 8796093022208 := by have := unhide HKK; rwa [List.length_cons] at this
      obtain ⟨K, hKe⟩ : ∃ K, K = ss.length := ⟨_, rfl⟩
      have HKL := hide hKe
      rw [← hKe] at hcap hKK HRW ⊢
      clear hcells hc0 hlt0 hKe HINF HBK HROW HKK
      have hz : (((K : Int) + 1) == 0) = false := by rw [beq_eq_false_iff_ne]; omega
      have hp0 : (0 : Int) ≤ (K : Int) := by omega
      have hp1 : (K : Int) < (K : Int) + 1 := by omega
      by_cases h1 : 1 ≤ K
      · have hp2 : (1 : Int) < (K : Int) + 1 := by omega
        obtain ⟨t, htt⟩ : ∃ t, t = ss[K - 1]'(by have := unhide HKL; omega) := ⟨_, rfl⟩
        have HC1 : Hid (∀ W, Below w.heap.size w W → W.cell? ⟨b0, o0 + K, none⟩ = some (.string t)) := fun W hb => by
          have h := unhide HCE K (by rw [List.length_cons]; have := unhide HKL; omega)
          rw [hb.cell (p := ⟨b0, o0 + K, none⟩) (unhide HB0), h, htt]
          congr 2
          obtain ⟨j, rfl⟩ : ∃ j, K = j + 1 := ⟨K - 1, by omega⟩
          rw [List.getElem_cons_succ]
          rfl
        by_cases ht1 : (t.toList == [49]) = true
        · obtain ⟨j, rfl⟩ : ∃ j, K = j + 1 := ⟨K - 1, by omega⟩
          have htb : t = ⟨#[49]⟩ := bytes_ext (by rw [beq_iff_eq, Lib.toList_data] at ht1; exact ht1)
          have hlj : ss[j]'(by have := unhide HKL; omega) = ⟨#[49]⟩ := by rw [← htb, htt]; rfl
          obtain ⟨z, lc, hzR, hcl, hlc⟩ := chain_one rn rd s ss b n j (unhide HS) (unhide HBN).1 (unhide HBN).2 (unhide HALL) (unhide HQ) (by have := unhide HKL; omega) hlj
          obtain ⟨tp, htp⟩ : ∃ tp, tp = (s :: ss)[j]'(by rw [List.length_cons]; have := unhide HKL; omega) := ⟨_, rfl⟩
          rw [← htp] at hzR
          have hone : IsR ⟨#[49]⟩ ⟨#[49]⟩ 1 := by
            have h := isR_whole false 1 (one_lt 600 rfl) (fun h => by cases h)
            rw [one_val] at h
            have e : sx false 1 = ⟨#[49]⟩ := by decide +kernel
            rwa [e] at h
          have HAD := hide (fun W => refAdd_ok tp ⟨#[49]⟩ ⟨#[49]⟩ ⟨#[49]⟩ z 1 W hzR hone)
          unfold Ans at HAD
          have HCL := hide hcl
          obtain ⟨nz, hnz⟩ : ∃ nz, nz = numT (z + 1) := ⟨_, rfl⟩
          obtain ⟨ez, hez⟩ : ∃ ez, ez = errT (z + 1) := ⟨_, rfl⟩
          have HLC : Hid ((ez = 0 ∧ lc = (s :: ss).take j ++ [nz]) ∨ ez ≠ 0) := by
            rw [hez, hnz]
            by_cases hsm : Small (z + 1)
            · exact Or.inl ⟨errT_ok hsm, hlc hsm⟩
            · refine Or.inr ?_
              unfold errT
              rw [if_neg hsm]
              decide
          rw [← hnz, ← hez] at HAD
          generalize denT (z + 1) = dz at *
          clear hnz hez
          have HTP := hide htp
          have hln : ((s :: ss).take (j + 1)).length = j + 1 := by rw [List.length_take, List.length_cons]; have := unhide HKL; omega
          have HLN := hide hln
          have HNW : Hid (∀ W, Below w.heap.size w W → ∀ i u, (strsV ((s :: ss).take (j + 1)))[i]? = some u → W.cell? ((⟨b0, o0, none⟩ : Addr).add i) = some u) := fun W hb i u hu => by
            unfold strsV at hu
            rw [List.getElem?_map, Option.map_eq_some_iff] at hu
            obtain ⟨y, hy, rfl⟩ := hu
            obtain ⟨hi', rfl⟩ := List.getElem?_eq_some_iff.1 hy
            rw [List.getElem_take]
            have h := unhide HCE i (by rw [hln] at hi'; rw [List.length_cons]; have := unhide HKL; omega)
            have h2 := (hb.cell (p := ⟨b0, o0 + i, none⟩) (unhide HB0)).trans h
            simp only [Addr.add]
            split
            · rename_i h0; subst h0; exact h2
            · exact h2
          clear hzR hone hcl hlc htp hlj htb hln htt
          obtain ⟨i0, hi, hz0, hz1, hz3⟩ := info_parts info9
          have hq1 : (1 : Int) < (j : Int) + 1 + 1 := by omega
          go_upto_region 14 with (go_at_call 57; go_must (refine (unhide HCL _ ((unhide HTW).later (unhide HBA))).mono ?_; rintro e wc ⟨vc, rfl, hrc, hbc⟩; have HBC := hide ((unhide HBA).trans (hbc.mono (unhide HBA).size)); have HRC := hide hrc; clear hbc hrc x0 x1; have c1 := unhide HC1 _ (unhide HBC)))
          have hq2 : (j : Int) + 1 ≤ (cv : Int) := by omega
          have hq3 : (0 : Int) ≤ (j : Int) + 1 := by omega
          go_upto_region 15 with (at_builtin; refine wpList_append_own _ rfl _ _ 50 rfl wc.heap.size 9 i0 (.string ⟨#[]⟩) 1 16 under50 hi hz0 hz1 hz3 rfl (by decide) (.slice none 0 0) 0 [] rfl (World.ownsRow_nil _ _ _ _) ⟨b0, o0, none⟩ (j + 1) cv (strsV ((s :: ss).take (j + 1))) rfl (by rw [strsV_length, Nat.mul_one]; exact unhide HLN) (unhide HNW _ (unhide HBC)) (strsV_one _) (by unfold maxLen; omega) (by omega) (Nat.le_refl _) ?_; intro v1 w6 hown1 hgrow1 hnil1; simp only [Nat.zero_add, List.nil_append] at hown1; have HOW := hide hown1; have HB6 : Hid (Below wc.heap.size wc w6) := (Below.refl _ _).grown hgrow1 (Nat.le_refl _) (fun k hk => by cases hk); clear hown1 hgrow1 hnil1 c1)
          obtain ⟨g, cap1, rfl, hbg, hglt, hcell, hfz, hcc, hcm, hset⟩ := own_last (l := (s :: ss).take (j + 1)) (K := j) (by rw [unhide HLN]; exact unhide HOW) (unhide HLN)
          have HSET := hide hset; have HG := hide (And.intro hbg hglt)
          have HFZ := hide (And.intro hcell hfz)
          have c2 : w6.cell? ⟨g, j, none⟩ = some (.string tp) := by rw [hcell, List.getElem_take, unhide HTP]
          have HW6 := hide ((unhide HBC).trans ((unhide HB6).mono (unhide HBC).size))
          have hq4 : (0 : Int) ≤ (j : Int) := by omega
          have hq5 : (j : Int) < (j : Int) + 1 := by omega
          clear hset hbg hglt hcell hfz
          go_upto_region 16 with (go_at_call 31; go_must (refine (unhide HAD _).mono ?_; rintro e w7 ⟨rfl, hb7⟩; have HB7 := hide ((unhide HB6).trans (hb7.mono (unhide HB6).size)); have HC7 : Hid (Below w6.heap.size w6 w7) := hb7; clear hb7 c2))
          obtain ⟨V8, hV8⟩ : ∃ V8, V8 = w7.alloc (.cells #[.string nz, .string dz] 23) := ⟨_, rfl⟩
          have HT8 : Hid (T2 V8 w7.heap.size (.string nz) (.string dz)) := by rw [hV8]; exact ⟨by simp [go_sem], by simp [go_sem], by simp [go_sem], by simp [go_sem]⟩
          have HC8 : Hid (Below w6.heap.size w6 V8) := by rw [hV8]; exact (unhide HC7).trans ((alT_below _ _).mono (unhide HC7).size)
          have HB8 : Hid (Below wc.heap.size wc V8) := (unhide HB6).trans ((unhide HC8).mono (unhide HB6).size)
          have HW8 : Hid (Below w.heap.size w V8) := (unhide HBC).trans ((unhide HB8).mono (unhide HBC).size)
          rw [← hV8]
          clear hV8 HB7 HC7 HW6
          generalize w7.heap.size = g8 at *
          rcases unhide HLC with ⟨he0, hle⟩ | he0
          · subst he0
            have y0 := (unhide HT8).c0; have y1 := (unhide HT8).c1
            have d1 := ((unhide HC8).cell (p := ⟨g, j, none⟩) (unhide HG).2).trans (unhide HFZ).1
            have d2 := ((unhide HC8).frozen (p := ⟨g, j, none⟩) (unhide HG).2).trans (unhide HFZ).2
            go_upto_region 19 with fail
            have HRM := hide (unhide HSET V8 (unhide HC8) nz)
            have HB9 : Hid (Below wc.heap.size wc (V8.setCell ⟨g, j, none⟩ (.string nz))) := (unhide HB8).setCell (p := ⟨g, j, none⟩) (unhide HG).1 _
            have HBD0 : Hid (Below w.heap.size w (V8.setCell ⟨g, j, none⟩ (.string nz))) := (unhide HBC).trans ((unhide HB9).mono (unhide HBC).size)
            have HR9 : Hid (RowS (V8.setCell ⟨g, j, none⟩ (.string nz)) vc ((s :: ss).take j ++ [nz])) := by rw [← hle]; exact (unhide HRC).later (unhide HB9)
            have HM9 : Hid (RowS (V8.setCell ⟨g, j, none⟩ (.string nz)) (.slice (some ⟨g, 0, none⟩) (j + 1) cap1) ((s :: ss).take j ++ [nz])) := by
              have h := unhide HRM
              rwa [List.take_take, Nat.min_eq_left (by omega)] at h
            have HT := hide (texts_any _ _ _ _ _ (unhide HR9) (unhide HM9))
            rw [decide_eq_true rfl] at HT
            generalize V8.setCell ⟨g, j, none⟩ (.string nz) = V9 at *
            clear d1 d2 y0 y1 HC8 HB8 HW8 HT8 HRM HR9 HM9 hle
            go_wp2_with (first
              | (go_at_call 61; go_must (refine (unhide HT).mono ?_; rintro e wd ⟨rfl, hbd⟩; have HBD := hide ((unhide HBD0).trans (hbd.mono (unhide HBD0).size)); clear hbd))
              | (go_at_call 23; go_must (refine (unhide HAW _ (unhide HBD)).mono ?_; rintro e wz ⟨rfl, hbz⟩; have HZZ := hide ((unhide HBD).trans (hbz.mono (unhide HBD).size)); clear hbz)))
            go_ret
            exact ⟨rfl, unhide HZZ⟩
          · have he1 : (ez != 0) = true := by rw [bne_iff_ne]; exact he0
            clear he0
            go_wp2_with (go_at_call 23; go_must (refine (unhide HAW _ (unhide HW8)).mono ?_; rintro e wz ⟨rfl, hbz⟩; have HZZ := hide ((unhide HW8).trans (hbz.mono (unhide HW8).size)); clear hbz))
            go_ret
            exact ⟨rfl, unhide HZZ⟩
        · have ht0 : (t.toList == [49]) = false := by simpa using ht1
          have HCL : Hid (∀ W, Tab W → Calls Tryz.prog 57 #[.agg #[.string rn, .string rd]] W fun e w' => ∃ v, e = .returned (.tuple #[v, .int .i64 0]) ∧ RowS w' v (s :: ss) ∧ Below W.heap.size W w') := fun W ht => by
            have h := chain_back rn rd b n (ss.map val) (unhide HBN).1 (fun x hx => by obtain ⟨y, hy, rfl⟩ := List.mem_map.1 hx; exact (goodS_val (unhide HALL y hy)).1) (fun k hk e => by
              subst e
              rw [List.getLast?_map, Option.map_eq_some_iff] at hk
              obtain ⟨y, hy, hv⟩ := hk
              rw [List.getLast?_eq_getElem?] at hy
              have h2 : ss[ss.length - 1]? = some t := by
                have hlt : ss.length - 1 < ss.length := by have := unhide HKL; omega
                rw [htt, List.getElem?_eq_getElem hlt]; congr 2; have := unhide HKL; omega
              rw [h2] at hy
              cases hy
              have h3 := goodS_tx (unhide HALL t (by rw [htt]; exact List.getElem_mem _))
              rw [hv] at h3
              rw [h3] at ht1
              exact ht1 (by decide +kernel)) (unhide HQ) W ht
            rw [map_val ss (unhide HALL), ← unhide HS] at h
            exact h
          clear ht1 htt
          go_upto_region 20 with (go_at_call 57; go_must (refine (unhide HCL _ ((unhide HTW).later (unhide HBA))).mono ?_; rintro e wc ⟨vc, rfl, hrc, hbc⟩; have HBC := hide ((unhide HBA).trans (hbc.mono (unhide HBA).size)); have HRC := hide hrc; clear hbc hrc x0 x1; have c1 := unhide HC1 _ (unhide HBC)))
          have HT := hide (texts_any _ _ (s :: ss) (s :: ss) wc (unhide HRC) ((unhide HRW).later (unhide HBC)))
          rw [decide_eq_true (rfl : s :: ss = s :: ss)] at HT
          go_wp2_with (first
            | (go_at_call 61; go_must (refine (unhide HT).mono ?_; rintro e wd ⟨rfl, hbd⟩; have HBD := hide ((unhide HBC).trans (hbd.mono (unhide HBC).size)); clear hbd))
            | (go_at_call 23; go_must (refine (unhide HAW _ (unhide HBD)).mono ?_; rintro e wz ⟨rfl, hbz⟩; have HZZ := hide ((unhide HBD).trans (hbz.mono (unhide HBD).size)); clear hbz)))
          go_ret
          exact ⟨rfl, unhide HZZ⟩
      · have HK0 : Hid (K = 0) := by show K = 0; omega
        have hp2 : ¬ (1 : Int) < (K : Int) + 1 := by omega
        have HCL : Hid (∀ W, Tab W → Calls Tryz.prog 57 #[.agg #[.string rn, .string rd]] W fun e w' => ∃ v, e = .returned (.tuple #[v, .int .i64 0]) ∧ RowS w' v (s :: ss) ∧ Below W.heap.size W w') := fun W ht => by
          have h0 : ss = [] := List.length_eq_zero_iff.1 (by have := unhide HKL; have := unhide HK0; omega)
          have hq := unhide HQ
          rw [h0] at hq ⊢
          have h := chain_back rn rd b n [] (unhide HBN).1 (fun x hx => by cases hx) (fun k hk => by cases hk) hq W ht
          rw [← unhide HS] at h
          exact h
        clear h1
        go_upto_region 20 with (go_at_call 57; go_must (refine (unhide HCL _ ((unhide HTW).later (unhide HBA))).mono ?_; rintro e wc ⟨vc, rfl, hrc, hbc⟩; have HBC := hide ((unhide HBA).trans (hbc.mono (unhide HBA).size)); have HRC := hide hrc; clear hbc hrc x0 x1))
        have HT := hide (texts_any _ _ (s :: ss) (s :: ss) wc (unhide HRC) ((unhide HRW).later (unhide HBC)))
        rw [decide_eq_true (rfl : s :: ss = s :: ss)] at HT
        go_wp2_with (first
          | (go_at_call 61; go_must (refine (unhide HT).mono ?_; rintro e wd ⟨rfl, hbd⟩; have HBD := hide ((unhide HBC).trans (hbd.mono (unhide HBC).size)); clear hbd))
          | (go_at_call 23; go_must (refine (unhide HAW _ (unhide HBD)).mono ?_; rintro e wz ⟨rfl, hbz⟩; have HZZ := hide ((unhide HBD).trans (hbz.mono (unhide HBD).size)); clear hbz)))
        go_ret
        exact ⟨rfl, unhide HZZ⟩
  · have H20 := hide (rb_no s1 s2 hr)
    clear hr s1 s2
    go_enter Tryz.func16, Tryz.ntmps16
    go_upto_region 1 with fail
    rw [← unhide HV]
    clear hV HV
    have t0 := (unhide HS0).1.c0; have t1 := (unhide HS0).1.c1
    go_upto_region 6 with (go_at_call 20; go_must (refine (unhide H20 _).mono ?_; rintro e w1 ⟨rfl, hb1⟩; have HB1 : Hid (Below w.heap.size w w1) := (unhide HS0).2.trans (hb1.mono (unhide HS0).2.size); clear hb1 t0 t1))
    clear H20 HS0
    have HP := hide (unhide HBK _ w1 ((unhide HROW).later (unhide HB1)) ((unhide HTW).later (unhide HB1)))
    unfold Ans at HP
    rcases unhide HINF with hre | ⟨s, ss, b, n, hL, hs, hb, hn, hall, hq, hre⟩
    · have hre' : (re != 0) = true := by rw [bne_iff_ne]; exact hre
      clear hre
      go_wp2_with (first
        | (go_at_call 59; go_must (refine (unhide HP).mono ?_; rintro e wa ⟨rfl, hba⟩; have HBa := hide ((unhide HB1).trans (hba.mono (unhide HB1).size)); have HBc := hide ((unhide HBa).trans ((alT_below wa (.cells #[.string rn, .string rd] 23)).mono (unhide HBa).size)); clear hba))
        | (go_at_call 23; go_must (refine (unhide HAW _ (unhide HBc)).mono ?_; rintro e wz ⟨rfl, hbz⟩; have HZZ := hide ((unhide HBc).trans (hbz.mono (unhide HBc).size)); clear hbz)))
      go_ret
      exact ⟨rfl, unhide HZZ⟩
    · subst hre
      subst hL
      have HALL := hide hall; have HQ := hide hq; have HS := hide hs; have HBN := hide (And.intro hb hn)
      clear hall hq hs hb hn
      go_upto_region 9 with (go_at_call 59; go_must (refine (unhide HP).mono ?_; rintro e wa ⟨rfl, hba⟩; have HBa := hide ((unhide HB1).trans (hba.mono (unhide HB1).size)); clear hba))
      obtain ⟨VA, hVA⟩ : ∃ VA, VA = wa.alloc (.cells #[.string rn, .string rd] 23) := ⟨_, rfl⟩
      have HTA : Hid (T2 VA wa.heap.size (.string rn) (.string rd)) := by rw [hVA]; exact ⟨by simp [go_sem], by simp [go_sem], by simp [go_sem], by simp [go_sem]⟩
      have HBA : Hid (Below w.heap.size w VA) := by rw [hVA]; exact (unhide HBa).trans ((alT_below _ _).mono (unhide HBa).size)
      rw [← hVA]
      clear hVA HBa HP
      generalize wa.heap.size = ga at *
      have x0 := (unhide HTA).c0; have x1 := (unhide HTA).c1
      obtain ⟨av, cv, hve, hcap, hmax, _, hcells⟩ := unhide HROW
      obtain ⟨b0, o0, rfl, hlt0, hc0⟩ := hcells 0 (by simp)
      have HCE : Hid (∀ i (h : i < (s :: ss).length), w.cell? ⟨b0, o0 + i, none⟩ = some (.string (s :: ss)[i])) := fun i h => by
        obtain ⟨b', o', e, _, hc⟩ := hcells i h
        simp only [Option.some.injEq, Addr.mk.injEq, and_true] at e
        obtain ⟨rfl, rfl⟩ := e
        exact hc
      have HB0 : Hid (b0 < w.heap.size) := hlt0
      rw [List.length_cons] at hve hcap
      subst hve
      have HRW : Hid (RowS w (.slice (some ⟨b0, o0, none⟩) (ss.length + 1) cv) (s :: ss)) := unhide HROW
      have hKK : ss.length + 1 ≤ 8796093022208 := by have := unhide HKK; rwa [List.length_cons] at this
      obtain ⟨K, hKe⟩ : ∃ K, K = ss.length := ⟨_, rfl⟩
      have HKL := hide hKe
      rw [← hKe] at hcap hKK HRW ⊢
      clear hcells hc0 hlt0 hKe HINF HBK HROW HKK
      have hz : (((K : Int) + 1) == 0) = false := by rw [beq_eq_false_iff_ne]; omega
      have hp0 : (0 : Int) ≤ (K : Int) := by omega
      have hp1 : (K : Int) < (K : Int) + 1 := by omega
      by_cases h1 : 1 ≤ K
      · have hp2 : (1 : Int) < (K : Int) + 1 := by omega
        obtain ⟨t, htt⟩ : ∃ t, t = ss[K - 1]'(by have := unhide HKL; omega) := ⟨_, rfl⟩
        have HC1 : Hid (∀ W, Below w.heap.size w W → W.cell? ⟨b0, o0 + K, none⟩ = some (.string t)) := fun W hb => by
          have h := unhide HCE K (by rw [List.length_cons]; have := unhide HKL; omega)
          rw [hb.cell (p := ⟨b0, o0 + K, none⟩) (unhide HB0), h, htt]
          congr 2
          obtain ⟨j, rfl⟩ : ∃ j, K = j + 1 := ⟨K - 1, by omega⟩
          rw [List.getElem_cons_succ]
          rfl
        by_cases ht1 : (t.toList == [49]) = true
        · obtain ⟨j, rfl⟩ : ∃ j, K = j + 1 := ⟨K - 1, by omega⟩
          have htb : t = ⟨#[49]⟩ := bytes_ext (by rw [beq_iff_eq, Lib.toList_data] at ht1; exact ht1)
          have hlj : ss[j]'(by have := unhide HKL; omega) = ⟨#[49]⟩ := by rw [← htb, htt]; rfl
          obtain ⟨z, lc, hzR, hcl, hlc⟩ := chain_one rn rd s ss b n j (unhide HS) (unhide HBN).1 (unhide HBN).2 (unhide HALL) (unhide HQ) (by have := unhide HKL; omega) hlj
          obtain ⟨tp, htp⟩ : ∃ tp, tp = (s :: ss)[j]'(by rw [List.length_cons]; have := unhide HKL; omega) := ⟨_, rfl⟩
          rw [← htp] at hzR
          have hone : IsR ⟨#[49]⟩ ⟨#[49]⟩ 1 := by
            have h := isR_whole false 1 (one_lt 600 rfl) (fun h => by cases h)
            rw [one_val] at h
            have e : sx false 1 = ⟨#[49]⟩ := by decide +kernel
            rwa [e] at h
          have HAD := hide (fun W => refAdd_ok tp ⟨#[49]⟩ ⟨#[49]⟩ ⟨#[49]⟩ z 1 W hzR hone)
          unfold Ans at HAD
          have HCL := hide hcl
          obtain ⟨nz, hnz⟩ : ∃ nz, nz = numT (z + 1) := ⟨_, rfl⟩
          obtain ⟨ez, hez⟩ : ∃ ez, ez = errT (z + 1) := ⟨_, rfl⟩
          have HLC : Hid ((ez = 0 ∧ lc = (s :: ss).take j ++ [nz]) ∨ ez ≠ 0) := by
            rw [hez, hnz]
            by_cases hsm : Small (z + 1)
            · exact Or.inl ⟨errT_ok hsm, hlc hsm⟩
            · refine Or.inr ?_
              unfold errT
              rw [if_neg hsm]
              decide
          rw [← hnz, ← hez] at HAD
          generalize denT (z + 1) = dz at *
          clear hnz hez
          have HTP := hide htp
          have hln : ((s :: ss).take (j + 1)).length = j + 1 := by rw [List.length_take, List.length_cons]; have := unhide HKL; omega
          have HLN := hide hln
          have HNW : Hid (∀ W, Below w.heap.size w W → ∀ i u, (strsV ((s :: ss).take (j + 1)))[i]? = some u → W.cell? ((⟨b0, o0, none⟩ : Addr).add i) = some u) := fun W hb i u hu => by
            unfold strsV at hu
            rw [List.getElem?_map, Option.map_eq_some_iff] at hu
            obtain ⟨y, hy, rfl⟩ := hu
            obtain ⟨hi', rfl⟩ := List.getElem?_eq_some_iff.1 hy
            rw [List.getElem_take]
            have h := unhide HCE i (by rw [hln] at hi'; rw [List.length_cons]; have := unhide HKL; omega)
            have h2 := (hb.cell (p := ⟨b0, o0 + i, none⟩) (unhide HB0)).trans h
            simp only [Addr.add]
            split
            · rename_i h0; subst h0; exact h2
            · exact h2
          clear hzR hone hcl hlc htp hlj htb hln htt
          obtain ⟨i0, hi, hz0, hz1, hz3⟩ := info_parts info9
          have hq1 : (1 : Int) < (j : Int) + 1 + 1 := by omega
          go_upto_region 14 with (go_at_call 57; go_must (refine (unhide HCL _ ((unhide HTW).later (unhide HBA))).mono ?_; rintro e wc ⟨vc, rfl, hrc, hbc⟩; have HBC := hide ((unhide HBA).trans (hbc.mono (unhide HBA).size)); have HRC := hide hrc; clear hbc hrc x0 x1; have c1 := unhide HC1 _ (unhide HBC)))
          have hq2 : (j : Int) + 1 ≤ (cv : Int) := by omega
          have hq3 : (0 : Int) ≤ (j : Int) + 1 := by omega
          go_upto_region 15 with (at_builtin; refine wpList_append_own _ rfl _ _ 50 rfl wc.heap.size 9 i0 (.string ⟨#[]⟩) 1 16 under50 hi hz0 hz1 hz3 rfl (by decide) (.slice none 0 0) 0 [] rfl (World.ownsRow_nil _ _ _ _) ⟨b0, o0, none⟩ (j + 1) cv (strsV ((s :: ss).take (j + 1))) rfl (by rw [strsV_length, Nat.mul_one]; exact unhide HLN) (unhide HNW _ (unhide HBC)) (strsV_one _) (by unfold maxLen; omega) (by omega) (Nat.le_refl _) ?_; intro v1 w6 hown1 hgrow1 hnil1; simp only [Nat.zero_add, List.nil_append] at hown1; have HOW := hide hown1; have HB6 : Hid (Below wc.heap.size wc w6) := (Below.refl _ _).grown hgrow1 (Nat.le_refl _) (fun k hk => by cases hk); clear hown1 hgrow1 hnil1 c1)
          obtain ⟨g, cap1, rfl, hbg, hglt, hcell, hfz, hcc, hcm, hset⟩ := own_last (l := (s :: ss).take (j + 1)) (K := j) (by rw [unhide HLN]; exact unhide HOW) (unhide HLN)
          have HSET := hide hset; have HG := hide (And.intro hbg hglt)
          have HFZ := hide (And.intro hcell hfz)
          have c2 : w6.cell? ⟨g, j, none⟩ = some (.string tp) := by rw [hcell, List.getElem_take, unhide HTP]
          have HW6 := hide ((unhide HBC).trans ((unhide HB6).mono (unhide HBC).size))
          have hq4 : (0 : Int) ≤ (j : Int) := by omega
          have hq5 : (j : Int) < (j : Int) + 1 := by omega
          clear hset hbg hglt hcell hfz
          go_upto_region 16 with (go_at_call 31; go_must (refine (unhide HAD _).mono ?_; rintro e w7 ⟨rfl, hb7⟩; have HB7 := hide ((unhide HB6).trans (hb7.mono (unhide HB6).size)); have HC7 : Hid (Below w6.heap.size w6 w7) := hb7; clear hb7 c2))
          obtain ⟨V8, hV8⟩ : ∃ V8, V8 = w7.alloc (.cells #[.string nz, .string dz] 23) := ⟨_, rfl⟩
          have HT8 : Hid (T2 V8 w7.heap.size (.string nz) (.string dz)) := by rw [hV8]; exact ⟨by simp [go_sem], by simp [go_sem], by simp [go_sem], by simp [go_sem]⟩
          have HC8 : Hid (Below w6.heap.size w6 V8) := by rw [hV8]; exact (unhide HC7).trans ((alT_below _ _).mono (unhide HC7).size)
          have HB8 : Hid (Below wc.heap.size wc V8) := (unhide HB6).trans ((unhide HC8).mono (unhide HB6).size)
          have HW8 : Hid (Below w.heap.size w V8) := (unhide HBC).trans ((unhide HB8).mono (unhide HBC).size)
          rw [← hV8]
          clear hV8 HB7 HC7 HW6
          generalize w7.heap.size = g8 at *
          rcases unhide HLC with ⟨he0, hle⟩ | he0
          · subst he0
            have y0 := (unhide HT8).c0; have y1 := (unhide HT8).c1
            have d1 := ((unhide HC8).cell (p := ⟨g, j, none⟩) (unhide HG).2).trans (unhide HFZ).1
            have d2 := ((unhide HC8).frozen (p := ⟨g, j, none⟩) (unhide HG).2).trans (unhide HFZ).2
            go_upto_region 19 with fail
            have HRM := hide (unhide HSET V8 (unhide HC8) nz)
            have HB9 : Hid (Below wc.heap.size wc (V8.setCell ⟨g, j, none⟩ (.string nz))) := (unhide HB8).setCell (p := ⟨g, j, none⟩) (unhide HG).1 _
            have HBD0 : Hid (Below w.heap.size w (V8.setCell ⟨g, j, none⟩ (.string nz))) := (unhide HBC).trans ((unhide HB9).mono (unhide HBC).size)
            have HR9 : Hid (RowS (V8.setCell ⟨g, j, none⟩ (.string nz)) vc ((s :: ss).take j ++ [nz])) := by rw [← hle]; exact (unhide HRC).later (unhide HB9)
            have HM9 : Hid (RowS (V8.setCell ⟨g, j, none⟩ (.string nz)) (.slice (some ⟨g, 0, none⟩) (j + 1) cap1) ((s :: ss).take j ++ [nz])) := by
              have h := unhide HRM
              rwa [List.take_take, Nat.min_eq_left (by omega)] at h
            have HT := hide (texts_any _ _ _ _ _ (unhide HR9) (unhide HM9))
            rw [decide_eq_true rfl] at HT
            generalize V8.setCell ⟨g, j, none⟩ (.string nz) = V9 at *
            clear d1 d2 y0 y1 HC8 HB8 HW8 HT8 HRM HR9 HM9 hle
            go_wp2_with (first
              | (go_at_call 61; go_must (refine (unhide HT).mono ?_; rintro e wd ⟨rfl, hbd⟩; have HBD := hide ((unhide HBD0).trans (hbd.mono (unhide HBD0).size)); clear hbd))
              | (go_at_call 23; go_must (refine (unhide HAW _ (unhide HBD)).mono ?_; rintro e wz ⟨rfl, hbz⟩; have HZZ := hide ((unhide HBD).trans (hbz.mono (unhide HBD).size)); clear hbz)))
            go_ret
            exact ⟨rfl, unhide HZZ⟩
          · have he1 : (ez != 0) = true := by rw [bne_iff_ne]; exact he0
            clear he0
            go_wp2_with (go_at_call 23; go_must (refine (unhide HAW _ (unhide HW8)).mono ?_; rintro e wz ⟨rfl, hbz⟩; have HZZ := hide ((unhide HW8).trans (hbz.mono (unhide HW8).size)); clear hbz))
            go_ret
            exact ⟨rfl, unhide HZZ⟩
        · have ht0 : (t.toList == [49]) = false := by simpa using ht1
          have HCL : Hid (∀ W, Tab W → Calls Tryz.prog 57 #[.agg #[.string rn, .string rd]] W fun e w' => ∃ v, e = .returned (.tuple #[v, .int .i64 0]) ∧ RowS w' v (s :: ss) ∧ Below W.heap.size W w') := fun W ht => by
            have h := chain_back rn rd b n (ss.map val) (unhide HBN).1 (fun x hx => by obtain ⟨y, hy, rfl⟩ := List.mem_map.1 hx; exact (goodS_val (unhide HALL y hy)).1) (fun k hk e => by
              subst e
              rw [List.getLast?_map, Option.map_eq_some_iff] at hk
              obtain ⟨y, hy, hv⟩ := hk
              rw [List.getLast?_eq_getElem?] at hy
              have h2 : ss[ss.length - 1]? = some t := by
                have hlt : ss.length - 1 < ss.length := by have := unhide HKL; omega
                rw [htt, List.getElem?_eq_getElem hlt]; congr 2; have := unhide HKL; omega
              rw [h2] at hy
              cases hy
              have h3 := goodS_tx (unhide HALL t (by rw [htt]; exact List.getElem_mem _))
              rw [hv] at h3
              rw [h3] at ht1
              exact ht1 (by decide +kernel)) (unhide HQ) W ht
            rw [map_val ss (unhide HALL), ← unhide HS] at h
            exact h
          clear ht1 htt
          go_upto_region 20 with (go_at_call 57; go_must (refine (unhide HCL _ ((unhide HTW).later (unhide HBA))).mono ?_; rintro e wc ⟨vc, rfl, hrc, hbc⟩; have HBC := hide ((unhide HBA).trans (hbc.mono (unhide HBA).size)); have HRC := hide hrc; clear hbc hrc x0 x1; have c1 := unhide HC1 _ (unhide HBC)))
          have HT := hide (texts_any _ _ (s :: ss) (s :: ss) wc (unhide HRC) ((unhide HRW).later (unhide HBC)))
          rw [decide_eq_true (rfl : s :: ss = s :: ss)] at HT
          go_wp2_with (first
            | (go_at_call 61; go_must (refine (unhide HT).mono ?_; rintro e wd ⟨rfl, hbd⟩; have HBD := hide ((unhide HBC).trans (hbd.mono (unhide HBC).size)); clear hbd))
            | (go_at_call 23; go_must (refine (unhide HAW _ (unhide HBD)).mono ?_; rintro e wz ⟨rfl, hbz⟩; have HZZ := hide ((unhide HBD).trans (hbz.mono (unhide HBD).size)); clear hbz)))
          go_ret
          exact ⟨rfl, unhide HZZ⟩
      · have HK0 : Hid (K = 0) := by show K = 0; omega
        have hp2 : ¬ (1 : Int) < (K : Int) + 1 := by omega
        have HCL : Hid (∀ W, Tab W → Calls Tryz.prog 57 #[.agg #[.string rn, .string rd]] W fun e w' => ∃ v, e = .returned (.tuple #[v, .int .i64 0]) ∧ RowS w' v (s :: ss) ∧ Below W.heap.size W w') := fun W ht => by
          have h0 : ss = [] := List.length_eq_zero_iff.1 (by have := unhide HKL; have := unhide HK0; omega)
          have hq := unhide HQ
          rw [h0] at hq ⊢
          have h := chain_back rn rd b n [] (unhide HBN).1 (fun x hx => by cases hx) (fun k hk => by cases hk) hq W ht
          rw [← unhide HS] at h
          exact h
        clear h1
        go_upto_region 20 with (go_at_call 57; go_must (refine (unhide HCL _ ((unhide HTW).later (unhide HBA))).mono ?_; rintro e wc ⟨vc, rfl, hrc, hbc⟩; have HBC := hide ((unhide HBA).trans (hbc.mono (unhide HBA).size)); have HRC := hide hrc; clear hbc hrc x0 x1))
        have HT := hide (texts_any _ _ (s :: ss) (s :: ss) wc (unhide HRC) ((unhide HRW).later (unhide HBC)))
        rw [decide_eq_true (rfl : s :: ss = s :: ss)] at HT
        go_wp2_with (first
          | (go_at_call 61; go_must (refine (unhide HT).mono ?_; rintro e wd ⟨rfl, hbd⟩; have HBD := hide ((unhide HBC).trans (hbd.mono (unhide HBC).size)); clear hbd))
          | (go_at_call 23; go_must (refine (unhide HAW _ (unhide HBD)).mono ?_; rintro e wz ⟨rfl, hbz⟩; have HZZ := hide ((unhide HBD).trans (hbz.mono (unhide HBD).size)); clear hbz)))
        go_ret
        exact ⟨rfl, unhide HZZ⟩
end Go.Proofs.YtndhinoomlofgaaGreatDoor

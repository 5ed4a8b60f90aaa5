/- The law DimMakes: any dimensions, any number. -/
import Derived.Test.YtccnbnfafhpeaaaDoorMakesOps
import Derived.Deep.RegionHeld3
namespace Go.Proofs.YtccnbnfafhpeaaaDoor
open Go.RowKit

set_option maxRecDepth 100000 in
set_option maxHeartbeats 8000000 in
theorem dimMakes_any (ad : Option Addr) (k cap : Nat) (X : Nat → Nat → Int) (a0 a1 a2 a3 a4 a5 a6 a7 b0 b1 b2 b3 b4 b5 b6 b7 n : Int) (w : World) (hmax : k ≤ 2199023255500) (hnil : ad = none → k = 0 ∧ cap = 0) (hc : InD w ad k X) (ht : Tab w) :
    Calls Tryd.prog 3 #[.slice ad k cap, .agg #[.int .i64 a0, .int .i64 a1, .int .i64 a2, .int .i64 a3, .int .i64 a4, .int .i64 a5, .int .i64 a6, .int .i64 a7], .agg #[.int .i64 b0, .int .i64 b1, .int .i64 b2, .int .i64 b3, .int .i64 b4, .int .i64 b5, .int .i64 b6, .int .i64 b7], .int .i64 n] w fun e w' => e = .returned (.bool true) ∧ Below w.heap.size w w' := by
  have HT := hide ht
  have HI := hide hc
  have HNil := hide hnil
  have HR1 := hide (right_any a0 a1 a2 a3 a4 a5 a6 a7)
  have HR2 := hide (rright_any a0 a1 a2 a3 a4 a5 a6 a7)
  have HM1 := hide (fun (g c : Nat) (w : World) (h : Dims w g 0 k X) => mul_any g 0 k c X w (by omega) h)
  have HM2 := hide (fun (w : World) (h : InD w ad k X) => rmul_in ad k cap X w (by omega) h)
  have HQ1 := hide (quo_any a0 a1 a2 a3 a4 a5 a6 a7 b0 b1 b2 b3 b4 b5 b6 b7)
  have HQ2 := hide (rquo_any a0 a1 a2 a3 a4 a5 a6 a7 b0 b1 b2 b3 b4 b5 b6 b7)
  have HP1 := hide (pow_any a0 a1 a2 a3 a4 a5 a6 a7 n)
  have HP2 := hide (rpow_any a0 a1 a2 a3 a4 a5 a6 a7 n)
  have HD1 := hide (root_any a0 a1 a2 a3 a4 a5 a6 a7 n)
  have HD2 := hide (rroot_any a0 a1 a2 a3 a4 a5 a6 a7 n)
  clear ht hc hnil
  generalize sel (allB X k && rightB (sumL X k)) (sumD X k 0) = s0 at HM1 HM2
  generalize sel (allB X k && rightB (sumL X k)) (sumD X k 1) = s1 at HM1 HM2
  generalize sel (allB X k && rightB (sumL X k)) (sumD X k 2) = s2 at HM1 HM2
  generalize sel (allB X k && rightB (sumL X k)) (sumD X k 3) = s3 at HM1 HM2
  generalize sel (allB X k && rightB (sumL X k)) (sumD X k 4) = s4 at HM1 HM2
  generalize sel (allB X k && rightB (sumL X k)) (sumD X k 5) = s5 at HM1 HM2
  generalize sel (allB X k && rightB (sumL X k)) (sumD X k 6) = s6 at HM1 HM2
  generalize sel (allB X k && rightB (sumL X k)) (sumD X k 7) = s7 at HM1 HM2
  generalize mulErr X k = es at HM1 HM2
  generalize sel (quoOk (rightB [a0, a1, a2, a3, a4, a5, a6, a7]) (rightB [b0, b1, b2, b3, b4, b5, b6, b7]) [wrap64 (a0 - b0), wrap64 (a1 - b1), wrap64 (a2 - b2), wrap64 (a3 - b3), wrap64 (a4 - b4), wrap64 (a5 - b5), wrap64 (a6 - b6), wrap64 (a7 - b7)]) (wrap64 (a0 - b0)) = q0 at HQ1 HQ2
  generalize sel (quoOk (rightB [a0, a1, a2, a3, a4, a5, a6, a7]) (rightB [b0, b1, b2, b3, b4, b5, b6, b7]) [wrap64 (a0 - b0), wrap64 (a1 - b1), wrap64 (a2 - b2), wrap64 (a3 - b3), wrap64 (a4 - b4), wrap64 (a5 - b5), wrap64 (a6 - b6), wrap64 (a7 - b7)]) (wrap64 (a1 - b1)) = q1 at HQ1 HQ2
  generalize sel (quoOk (rightB [a0, a1, a2, a3, a4, a5, a6, a7]) (rightB [b0, b1, b2, b3, b4, b5, b6, b7]) [wrap64 (a0 - b0), wrap64 (a1 - b1), wrap64 (a2 - b2), wrap64 (a3 - b3), wrap64 (a4 - b4), wrap64 (a5 - b5), wrap64 (a6 - b6), wrap64 (a7 - b7)]) (wrap64 (a2 - b2)) = q2 at HQ1 HQ2
  generalize sel (quoOk (rightB [a0, a1, a2, a3, a4, a5, a6, a7]) (rightB [b0, b1, b2, b3, b4, b5, b6, b7]) [wrap64 (a0 - b0), wrap64 (a1 - b1), wrap64 (a2 - b2), wrap64 (a3 - b3), wrap64 (a4 - b4), wrap64 (a5 - b5), wrap64 (a6 - b6), wrap64 (a7 - b7)]) (wrap64 (a3 - b3)) = q3 at HQ1 HQ2
  generalize sel (quoOk (rightB [a0, a1, a2, a3, a4, a5, a6, a7]) (rightB [b0, b1, b2, b3, b4, b5, b6, b7]) [wrap64 (a0 - b0), wrap64 (a1 - b1), wrap64 (a2 - b2), wrap64 (a3 - b3), wrap64 (a4 - b4), wrap64 (a5 - b5), wrap64 (a6 - b6), wrap64 (a7 - b7)]) (wrap64 (a4 - b4)) = q4 at HQ1 HQ2
  generalize sel (quoOk (rightB [a0, a1, a2, a3, a4, a5, a6, a7]) (rightB [b0, b1, b2, b3, b4, b5, b6, b7]) [wrap64 (a0 - b0), wrap64 (a1 - b1), wrap64 (a2 - b2), wrap64 (a3 - b3), wrap64 (a4 - b4), wrap64 (a5 - b5), wrap64 (a6 - b6), wrap64 (a7 - b7)]) (wrap64 (a5 - b5)) = q5 at HQ1 HQ2
  generalize sel (quoOk (rightB [a0, a1, a2, a3, a4, a5, a6, a7]) (rightB [b0, b1, b2, b3, b4, b5, b6, b7]) [wrap64 (a0 - b0), wrap64 (a1 - b1), wrap64 (a2 - b2), wrap64 (a3 - b3), wrap64 (a4 - b4), wrap64 (a5 - b5), wrap64 (a6 - b6), wrap64 (a7 - b7)]) (wrap64 (a6 - b6)) = q6 at HQ1 HQ2
  generalize sel (quoOk (rightB [a0, a1, a2, a3, a4, a5, a6, a7]) (rightB [b0, b1, b2, b3, b4, b5, b6, b7]) [wrap64 (a0 - b0), wrap64 (a1 - b1), wrap64 (a2 - b2), wrap64 (a3 - b3), wrap64 (a4 - b4), wrap64 (a5 - b5), wrap64 (a6 - b6), wrap64 (a7 - b7)]) (wrap64 (a7 - b7)) = q7 at HQ1 HQ2
  generalize quoErr (rightB [a0, a1, a2, a3, a4, a5, a6, a7]) (rightB [b0, b1, b2, b3, b4, b5, b6, b7]) [wrap64 (a0 - b0), wrap64 (a1 - b1), wrap64 (a2 - b2), wrap64 (a3 - b3), wrap64 (a4 - b4), wrap64 (a5 - b5), wrap64 (a6 - b6), wrap64 (a7 - b7)] = eq at HQ1 HQ2
  generalize sel (rightB [a0, a1, a2, a3, a4, a5, a6, a7] && rightB [a0 * n, a1 * n, a2 * n, a3 * n, a4 * n, a5 * n, a6 * n, a7 * n]) (a0 * n) = m0 at HP1 HP2
  generalize sel (rightB [a0, a1, a2, a3, a4, a5, a6, a7] && rightB [a0 * n, a1 * n, a2 * n, a3 * n, a4 * n, a5 * n, a6 * n, a7 * n]) (a1 * n) = m1 at HP1 HP2
  generalize sel (rightB [a0, a1, a2, a3, a4, a5, a6, a7] && rightB [a0 * n, a1 * n, a2 * n, a3 * n, a4 * n, a5 * n, a6 * n, a7 * n]) (a2 * n) = m2 at HP1 HP2
  generalize sel (rightB [a0, a1, a2, a3, a4, a5, a6, a7] && rightB [a0 * n, a1 * n, a2 * n, a3 * n, a4 * n, a5 * n, a6 * n, a7 * n]) (a3 * n) = m3 at HP1 HP2
  generalize sel (rightB [a0, a1, a2, a3, a4, a5, a6, a7] && rightB [a0 * n, a1 * n, a2 * n, a3 * n, a4 * n, a5 * n, a6 * n, a7 * n]) (a4 * n) = m4 at HP1 HP2
  generalize sel (rightB [a0, a1, a2, a3, a4, a5, a6, a7] && rightB [a0 * n, a1 * n, a2 * n, a3 * n, a4 * n, a5 * n, a6 * n, a7 * n]) (a5 * n) = m5 at HP1 HP2
  generalize sel (rightB [a0, a1, a2, a3, a4, a5, a6, a7] && rightB [a0 * n, a1 * n, a2 * n, a3 * n, a4 * n, a5 * n, a6 * n, a7 * n]) (a6 * n) = m6 at HP1 HP2
  generalize sel (rightB [a0, a1, a2, a3, a4, a5, a6, a7] && rightB [a0 * n, a1 * n, a2 * n, a3 * n, a4 * n, a5 * n, a6 * n, a7 * n]) (a7 * n) = m7 at HP1 HP2
  generalize powErr (rightB [a0, a1, a2, a3, a4, a5, a6, a7]) [a0 * n, a1 * n, a2 * n, a3 * n, a4 * n, a5 * n, a6 * n, a7 * n] = em at HP1 HP2
  generalize sel (rootOk (rightB [a0, a1, a2, a3, a4, a5, a6, a7]) [a0, a1, a2, a3, a4, a5, a6, a7] n) (a0.tdiv n) = d0 at HD1 HD2
  generalize sel (rootOk (rightB [a0, a1, a2, a3, a4, a5, a6, a7]) [a0, a1, a2, a3, a4, a5, a6, a7] n) (a1.tdiv n) = d1 at HD1 HD2
  generalize sel (rootOk (rightB [a0, a1, a2, a3, a4, a5, a6, a7]) [a0, a1, a2, a3, a4, a5, a6, a7] n) (a2.tdiv n) = d2 at HD1 HD2
  generalize sel (rootOk (rightB [a0, a1, a2, a3, a4, a5, a6, a7]) [a0, a1, a2, a3, a4, a5, a6, a7] n) (a3.tdiv n) = d3 at HD1 HD2
  generalize sel (rootOk (rightB [a0, a1, a2, a3, a4, a5, a6, a7]) [a0, a1, a2, a3, a4, a5, a6, a7] n) (a4.tdiv n) = d4 at HD1 HD2
  generalize sel (rootOk (rightB [a0, a1, a2, a3, a4, a5, a6, a7]) [a0, a1, a2, a3, a4, a5, a6, a7] n) (a5.tdiv n) = d5 at HD1 HD2
  generalize sel (rootOk (rightB [a0, a1, a2, a3, a4, a5, a6, a7]) [a0, a1, a2, a3, a4, a5, a6, a7] n) (a6.tdiv n) = d6 at HD1 HD2
  generalize sel (rootOk (rightB [a0, a1, a2, a3, a4, a5, a6, a7]) [a0, a1, a2, a3, a4, a5, a6, a7] n) (a7.tdiv n) = d7 at HD1 HD2
  generalize rootErr (rightB [a0, a1, a2, a3, a4, a5, a6, a7]) [a0, a1, a2, a3, a4, a5, a6, a7] n = ed at HD1 HD2
  generalize rightB [a0, a1, a2, a3, a4, a5, a6, a7] = rr at HR1 HR2
  have hes := eqIn24 s0 s1 s2 s3 s4 s5 s6 s7 s0 s1 s2 s3 s4 s5 s6 s7
  rw [eqB_self] at hes
  have heq := eqIn24 q0 q1 q2 q3 q4 q5 q6 q7 q0 q1 q2 q3 q4 q5 q6 q7
  rw [eqB_self] at heq
  have hem := eqIn24 m0 m1 m2 m3 m4 m5 m6 m7 m0 m1 m2 m3 m4 m5 m6 m7
  rw [eqB_self] at hem
  have hed := eqIn24 d0 d1 d2 d3 d4 d5 d6 d7 d0 d1 d2 d3 d4 d5 d6 d7
  rw [eqB_self] at hed
  have hnes : (es != es) = false := by simp
  have hneq : (eq != eq) = false := by simp
  have hnem : (em != em) = false := by simp
  have hned : (ed != ed) = false := by simp
  have hed2 : (ed == ed) = true := by simp
  have hrr : (rr != rr) = false := by simp
  have B0 : Hid (Bxs ((w.alloc (.cells #[.int .i64 a0, .int .i64 a1, .int .i64 a2, .int .i64 a3, .int .i64 a4, .int .i64 a5, .int .i64 a6, .int .i64 a7] 24)).alloc (.cells #[.int .i64 b0, .int .i64 b1, .int .i64 b2, .int .i64 b3, .int .i64 b4, .int .i64 b5, .int .i64 b6, .int .i64 b7] 24)) [(w.heap.size, [a0, a1, a2, a3, a4, a5, a6, a7]), (w.heap.size + 1, [b0, b1, b2, b3, b4, b5, b6, b7])]) := by
    intro p hp
    simp only [List.mem_cons, List.not_mem_nil, or_false] at hp
    rcases hp with rfl | rfl
    · exact (Own8.new w [a0, a1, a2, a3, a4, a5, a6, a7]).alloc _
    · have h := Own8.new (w.alloc (.cells #[.int .i64 a0, .int .i64 a1, .int .i64 a2, .int .i64 a3, .int .i64 a4, .int .i64 a5, .int .i64 a6, .int .i64 a7] 24)) [b0, b1, b2, b3, b4, b5, b6, b7]
      rw [size_alloc] at h
      exact h
  have HB0 : Hid (Below w.heap.size w ((w.alloc (.cells #[.int .i64 a0, .int .i64 a1, .int .i64 a2, .int .i64 a3, .int .i64 a4, .int .i64 a5, .int .i64 a6, .int .i64 a7] 24)).alloc (.cells #[.int .i64 b0, .int .i64 b1, .int .i64 b2, .int .i64 b3, .int .i64 b4, .int .i64 b5, .int .i64 b6, .int .i64 b7] 24))) := ((Below.refl _ _).alloc (Nat.le_refl _) _).alloc (by simp) _
  go_enter Tryd.func3, Tryd.ntmps3
  go_upto_region 2 with (go_at_call 9; refine (lent_any ad k cap X _ (by omega) (unhide HNil) ((unhide HI).later (unhide HB0))).mono ?_; rintro e w1 ⟨v, rfl, hl1, hb1⟩)
  obtain ⟨g, c2, rfl, hg1, hg2, hd1, hmk⟩ := id hl1
  have HL1 := hide hl1
  have HD := hide hd1
  have X1 := hide ((unhide B0).later hb1)
  have HB1 : Hid (Below w.heap.size w w1) := (unhide HB0).trans (hb1.mono (unhide HB0).size)
  clear hl1 hd1 hmk hb1 B0 HB0
  go_upto_region 3 with (go_at_call 10; refine (unhide HM1 g c2 _ (unhide HD)).mono ?_; rintro e wx ⟨rfl, hbx⟩)
  have X2 : Hid (Bxs (wx.alloc (.cells #[.int .i64 s0, .int .i64 s1, .int .i64 s2, .int .i64 s3, .int .i64 s4, .int .i64 s5, .int .i64 s6, .int .i64 s7] 24)) [(wx.heap.size, [s0, s1, s2, s3, s4, s5, s6, s7]), (w.heap.size, [a0, a1, a2, a3, a4, a5, a6, a7]), (w.heap.size + 1, [b0, b1, b2, b3, b4, b5, b6, b7])]) := (unhide X1).next0 hbx [s0, s1, s2, s3, s4, s5, s6, s7]
  have HB2 : Hid (Below w.heap.size w (wx.alloc (.cells #[.int .i64 s0, .int .i64 s1, .int .i64 s2, .int .i64 s3, .int .i64 s4, .int .i64 s5, .int .i64 s6, .int .i64 s7] 24))) := below_next0 (unhide HB1) hbx
  have hx1 : Below w1.heap.size w1 (wx.alloc (.cells #[.int .i64 s0, .int .i64 s1, .int .i64 s2, .int .i64 s3, .int .i64 s4, .int .i64 s5, .int .i64 s6, .int .i64 s7] 24)) := hbx.alloc hbx.size _
  have HL2 := hide ((unhide HL1).later hx1)
  have N1 := (((unhide X1).later hbx).get 1 _ _ rfl).lt
  clear HL1 X1 HD hx1 hbx
  go_upto_region 4 with (go_at_call 11; refine (unhide HM2 _ ((unhide HI).later (unhide HB2))).mono ?_; rintro e wy ⟨rfl, hby⟩)
  have X3 : Hid (Bxs (wy.alloc (.cells #[.int .i64 s0, .int .i64 s1, .int .i64 s2, .int .i64 s3, .int .i64 s4, .int .i64 s5, .int .i64 s6, .int .i64 s7] 24)) [(wy.heap.size, [s0, s1, s2, s3, s4, s5, s6, s7]), (wx.heap.size, [s0, s1, s2, s3, s4, s5, s6, s7]), (w.heap.size, [a0, a1, a2, a3, a4, a5, a6, a7]), (w.heap.size + 1, [b0, b1, b2, b3, b4, b5, b6, b7])]) := (unhide X2).next0 hby [s0, s1, s2, s3, s4, s5, s6, s7]
  have V3 : Hid (Bxs wy [(wx.heap.size, [s0, s1, s2, s3, s4, s5, s6, s7]), (w.heap.size, [a0, a1, a2, a3, a4, a5, a6, a7]), (w.heap.size + 1, [b0, b1, b2, b3, b4, b5, b6, b7])]) := (unhide X2).later hby
  have HB3 : Hid (Below w.heap.size w (wy.alloc (.cells #[.int .i64 s0, .int .i64 s1, .int .i64 s2, .int .i64 s3, .int .i64 s4, .int .i64 s5, .int .i64 s6, .int .i64 s7] 24))) := below_next0 (unhide HB2) hby
  have hy1 : Below (wx.alloc (.cells #[.int .i64 s0, .int .i64 s1, .int .i64 s2, .int .i64 s3, .int .i64 s4, .int .i64 s5, .int .i64 s6, .int .i64 s7] 24)).heap.size (wx.alloc (.cells #[.int .i64 s0, .int .i64 s1, .int .i64 s2, .int .i64 s3, .int .i64 s4, .int .i64 s5, .int .i64 s6, .int .i64 s7] 24)) (wy.alloc (.cells #[.int .i64 s0, .int .i64 s1, .int .i64 s2, .int .i64 s3, .int .i64 s4, .int .i64 s5, .int .i64 s6, .int .i64 s7] 24)) := hby.alloc hby.size _
  have HL3 := hide ((unhide HL2).later hy1)
  clear HL2 X2 hy1 hby HB2
  have ltyx := ((unhide V3).get 0 _ _ rfl).lt
  have cyx0 := ((unhide V3).get 0 _ _ rfl).cell 0 _ rfl
  have cyx1 := ((unhide V3).get 0 _ _ rfl).cell 1 _ rfl
  have cyx2 := ((unhide V3).get 0 _ _ rfl).cell 2 _ rfl
  have cyx3 := ((unhide V3).get 0 _ _ rfl).cell 3 _ rfl
  have cyx4 := ((unhide V3).get 0 _ _ rfl).cell 4 _ rfl
  have cyx5 := ((unhide V3).get 0 _ _ rfl).cell 5 _ rfl
  have cyx6 := ((unhide V3).get 0 _ _ rfl).cell 6 _ rfl
  have cyx7 := ((unhide V3).get 0 _ _ rfl).cell 7 _ rfl
  have ltya := ((unhide V3).get 1 _ _ rfl).lt
  have cya0 := ((unhide V3).get 1 _ _ rfl).cell 0 _ rfl
  have cya1 := ((unhide V3).get 1 _ _ rfl).cell 1 _ rfl
  have cya2 := ((unhide V3).get 1 _ _ rfl).cell 2 _ rfl
  have cya3 := ((unhide V3).get 1 _ _ rfl).cell 3 _ rfl
  have cya4 := ((unhide V3).get 1 _ _ rfl).cell 4 _ rfl
  have cya5 := ((unhide V3).get 1 _ _ rfl).cell 5 _ rfl
  have cya6 := ((unhide V3).get 1 _ _ rfl).cell 6 _ rfl
  have cya7 := ((unhide V3).get 1 _ _ rfl).cell 7 _ rfl
  have HK := hide (fun w' (hb : Below (wy.alloc (.cells #[.int .i64 s0, .int .i64 s1, .int .i64 s2, .int .i64 s3, .int .i64 s4, .int .i64 s5, .int .i64 s6, .int .i64 s7] 24)).heap.size (wy.alloc (.cells #[.int .i64 s0, .int .i64 s1, .int .i64 s2, .int .i64 s3, .int .i64 s4, .int .i64 s5, .int .i64 s6, .int .i64 s7] 24)) w') => kept_any _ ad k cap X w' (by omega) ((unhide HL3).later hb) (((unhide HI).later (unhide HB3)).later hb))
  go_region_held3 (fun w' => w'.cell? ⟨wx.heap.size, 0, none⟩ = some (.int .i64 s0) ∧ w'.cell? ⟨wx.heap.size, 1, none⟩ = some (.int .i64 s1) ∧ w'.cell? ⟨wx.heap.size, 2, none⟩ = some (.int .i64 s2) ∧ w'.cell? ⟨wx.heap.size, 3, none⟩ = some (.int .i64 s3) ∧ w'.cell? ⟨wx.heap.size, 4, none⟩ = some (.int .i64 s4) ∧ w'.cell? ⟨wx.heap.size, 5, none⟩ = some (.int .i64 s5) ∧ w'.cell? ⟨wx.heap.size, 6, none⟩ = some (.int .i64 s6) ∧ w'.cell? ⟨wx.heap.size, 7, none⟩ = some (.int .i64 s7) ∧ w'.cell? ⟨wy.heap.size, 0, none⟩ = some (.int .i64 s0) ∧ w'.cell? ⟨wy.heap.size, 1, none⟩ = some (.int .i64 s1) ∧ w'.cell? ⟨wy.heap.size, 2, none⟩ = some (.int .i64 s2) ∧ w'.cell? ⟨wy.heap.size, 3, none⟩ = some (.int .i64 s3) ∧ w'.cell? ⟨wy.heap.size, 4, none⟩ = some (.int .i64 s4) ∧ w'.cell? ⟨wy.heap.size, 5, none⟩ = some (.int .i64 s5) ∧ w'.cell? ⟨wy.heap.size, 6, none⟩ = some (.int .i64 s6) ∧ w'.cell? ⟨wy.heap.size, 7, none⟩ = some (.int .i64 s7) ∧ w'.cell? ⟨w.heap.size, 0, none⟩ = some (.int .i64 a0) ∧ w'.cell? ⟨w.heap.size, 1, none⟩ = some (.int .i64 a1) ∧ w'.cell? ⟨w.heap.size, 2, none⟩ = some (.int .i64 a2) ∧ w'.cell? ⟨w.heap.size, 3, none⟩ = some (.int .i64 a3) ∧ w'.cell? ⟨w.heap.size, 4, none⟩ = some (.int .i64 a4) ∧ w'.cell? ⟨w.heap.size, 5, none⟩ = some (.int .i64 a5) ∧ w'.cell? ⟨w.heap.size, 6, none⟩ = some (.int .i64 a6) ∧ w'.cell? ⟨w.heap.size, 7, none⟩ = some (.int .i64 a7)) (first | assumption | (simp [go_sem, *]; done)) (first
    | (go_at_call 12; refine (unhide HK _ ((Below.refl _ _).drew)).mono ?_; rintro e w5 ⟨rfl, hb5⟩; obtain ⟨hc5, hf5⟩ := bcell hb5; have hzy := size_drew hb5; have hzx := Nat.lt_trans ltyx hzy; have hza := Nat.lt_trans ltya hzy)
    | (go_at_call 13; refine (unhide HR1 _).mono ?_; rintro e w' ⟨rfl, rfl⟩)
    | (go_at_call 14; refine (unhide HR2 _).mono ?_; rintro e w' ⟨rfl, rfl⟩))
  have X5 : Hid (Bxs w5 [(wy.heap.size, [s0, s1, s2, s3, s4, s5, s6, s7]), (wx.heap.size, [s0, s1, s2, s3, s4, s5, s6, s7]), (w.heap.size, [a0, a1, a2, a3, a4, a5, a6, a7]), (w.heap.size + 1, [b0, b1, b2, b3, b4, b5, b6, b7])]) := ((unhide X3).drew).later hb5
  have HB5 : Hid (Below w.heap.size w w5) := ((unhide HB3).drew).trans (hb5.mono (unhide HB3).size)
  have hlw : w.heap.size ≤ w5.heap.size := (unhide HB5).size
  clear cyx0 cyx1 cyx2 cyx3 cyx4 cyx5 cyx6 cyx7 ltya cya0 cya1 cya2 cya3 cya4 cya5 cya6 cya7 hc5 hf5 hb5 HK HL3 X3 V3 HB3 hes hnes hrr HR1 HR2 HM1 HM2 HNil
  have ltza := ((unhide X5).get 2 _ _ rfl).lt
  have cza0 := ((unhide X5).get 2 _ _ rfl).cell 0 _ rfl
  have cza1 := ((unhide X5).get 2 _ _ rfl).cell 1 _ rfl
  have cza2 := ((unhide X5).get 2 _ _ rfl).cell 2 _ rfl
  have cza3 := ((unhide X5).get 2 _ _ rfl).cell 3 _ rfl
  have cza4 := ((unhide X5).get 2 _ _ rfl).cell 4 _ rfl
  have cza5 := ((unhide X5).get 2 _ _ rfl).cell 5 _ rfl
  have cza6 := ((unhide X5).get 2 _ _ rfl).cell 6 _ rfl
  have cza7 := ((unhide X5).get 2 _ _ rfl).cell 7 _ rfl
  have ltzb := ((unhide X5).get 3 _ _ rfl).lt
  have czb0 := ((unhide X5).get 3 _ _ rfl).cell 0 _ rfl
  have czb1 := ((unhide X5).get 3 _ _ rfl).cell 1 _ rfl
  have czb2 := ((unhide X5).get 3 _ _ rfl).cell 2 _ rfl
  have czb3 := ((unhide X5).get 3 _ _ rfl).cell 3 _ rfl
  have czb4 := ((unhide X5).get 3 _ _ rfl).cell 4 _ rfl
  have czb5 := ((unhide X5).get 3 _ _ rfl).cell 5 _ rfl
  have czb6 := ((unhide X5).get 3 _ _ rfl).cell 6 _ rfl
  have czb7 := ((unhide X5).get 3 _ _ rfl).cell 7 _ rfl
  go_upto_region 7 with (first
    | (go_at_call 15; refine (unhide HQ1 _).mono ?_; rintro e wq ⟨rfl, hbwq⟩; have Y6 : Hid (Bxs wq [(wy.heap.size, [s0, s1, s2, s3, s4, s5, s6, s7]), (wx.heap.size, [s0, s1, s2, s3, s4, s5, s6, s7]), (w.heap.size, [a0, a1, a2, a3, a4, a5, a6, a7]), (w.heap.size + 1, [b0, b1, b2, b3, b4, b5, b6, b7])]) := (by first | exact (((unhide X5).alloc _).alloc _).later hbwq | exact ((((unhide X5).alloc _).alloc _).drew).later hbwq))
    | (refine store8 rfl (.tmp 10) (.tmp 51) rfl (wx.heap.size) [s0, s1, s2, s3, s4, s5, s6, s7] [q0, q1, q2, q3, q4, q5, q6, q7] rfl rfl rfl rfl ((unhide Y6).get 1 _ _ rfl) ?_))
  have X6 : Hid (Bxs (wq.setRow (wx.heap.size) (cells8 [q0, q1, q2, q3, q4, q5, q6, q7])) [(wy.heap.size, [s0, s1, s2, s3, s4, s5, s6, s7]), (wx.heap.size, [q0, q1, q2, q3, q4, q5, q6, q7]), (w.heap.size, [a0, a1, a2, a3, a4, a5, a6, a7]), (w.heap.size + 1, [b0, b1, b2, b3, b4, b5, b6, b7])]) := (((unhide Y6).swap4.set4 (by omega) (by omega) (by omega) [q0, q1, q2, q3, q4, q5, q6, q7])).swap4
  have HB6 : Hid (Below w.heap.size w (wq.setRow (wx.heap.size) (cells8 [q0, q1, q2, q3, q4, q5, q6, q7]))) := below_set4 (by first | exact below_two (unhide HB5) hbwq | exact below_two' (unhide HB5) hbwq) (by omega) _
  clear Y6 hbwq X5 HB5 HQ1
  generalize wq.setRow (wx.heap.size) (cells8 [q0, q1, q2, q3, q4, q5, q6, q7]) = U6 at *
  clear ltza cza0 cza1 cza2 cza3 cza4 cza5 cza6 cza7 ltzb czb0 czb1 czb2 czb3 czb4 czb5 czb6 czb7
  have ltua := ((unhide X6).get 2 _ _ rfl).lt
  have cua0 := ((unhide X6).get 2 _ _ rfl).cell 0 _ rfl
  have cua1 := ((unhide X6).get 2 _ _ rfl).cell 1 _ rfl
  have cua2 := ((unhide X6).get 2 _ _ rfl).cell 2 _ rfl
  have cua3 := ((unhide X6).get 2 _ _ rfl).cell 3 _ rfl
  have cua4 := ((unhide X6).get 2 _ _ rfl).cell 4 _ rfl
  have cua5 := ((unhide X6).get 2 _ _ rfl).cell 5 _ rfl
  have cua6 := ((unhide X6).get 2 _ _ rfl).cell 6 _ rfl
  have cua7 := ((unhide X6).get 2 _ _ rfl).cell 7 _ rfl
  have ltub := ((unhide X6).get 3 _ _ rfl).lt
  have cub0 := ((unhide X6).get 3 _ _ rfl).cell 0 _ rfl
  have cub1 := ((unhide X6).get 3 _ _ rfl).cell 1 _ rfl
  have cub2 := ((unhide X6).get 3 _ _ rfl).cell 2 _ rfl
  have cub3 := ((unhide X6).get 3 _ _ rfl).cell 3 _ rfl
  have cub4 := ((unhide X6).get 3 _ _ rfl).cell 4 _ rfl
  have cub5 := ((unhide X6).get 3 _ _ rfl).cell 5 _ rfl
  have cub6 := ((unhide X6).get 3 _ _ rfl).cell 6 _ rfl
  have cub7 := ((unhide X6).get 3 _ _ rfl).cell 7 _ rfl
  go_upto_region 8 with (first
    | (go_at_call 16; refine (unhide HQ2 _).mono ?_; rintro e wr ⟨rfl, hbwr⟩; have Y7 : Hid (Bxs wr [(wy.heap.size, [s0, s1, s2, s3, s4, s5, s6, s7]), (wx.heap.size, [q0, q1, q2, q3, q4, q5, q6, q7]), (w.heap.size, [a0, a1, a2, a3, a4, a5, a6, a7]), (w.heap.size + 1, [b0, b1, b2, b3, b4, b5, b6, b7])]) := (unhide X6).later hbwr)
    | (refine store8 rfl (.tmp 12) (.tmp 57) rfl (wy.heap.size) [s0, s1, s2, s3, s4, s5, s6, s7] [q0, q1, q2, q3, q4, q5, q6, q7] rfl rfl rfl rfl ((unhide Y7).get 0 _ _ rfl) ?_))
  have X7 : Hid (Bxs (wr.setRow (wy.heap.size) (cells8 [q0, q1, q2, q3, q4, q5, q6, q7])) [(wy.heap.size, [q0, q1, q2, q3, q4, q5, q6, q7]), (wx.heap.size, [q0, q1, q2, q3, q4, q5, q6, q7]), (w.heap.size, [a0, a1, a2, a3, a4, a5, a6, a7]), (w.heap.size + 1, [b0, b1, b2, b3, b4, b5, b6, b7])]) := ((unhide Y7).set4 (by omega) (by omega) (by omega) [q0, q1, q2, q3, q4, q5, q6, q7])
  have HB7 : Hid (Below w.heap.size w (wr.setRow (wy.heap.size) (cells8 [q0, q1, q2, q3, q4, q5, q6, q7]))) := below_set4 ((unhide HB6).trans (hbwr.mono (unhide HB6).size)) (by omega) _
  clear Y7 hbwr X6 HB6 HQ2
  generalize wr.setRow (wy.heap.size) (cells8 [q0, q1, q2, q3, q4, q5, q6, q7]) = U7 at *
  clear ltua cua0 cua1 cua2 cua3 cua4 cua5 cua6 cua7 ltub cub0 cub1 cub2 cub3 cub4 cub5 cub6 cub7
  have ltuy := ((unhide X7).get 0 _ _ rfl).lt
  have cuy0 := ((unhide X7).get 0 _ _ rfl).cell 0 _ rfl
  have cuy1 := ((unhide X7).get 0 _ _ rfl).cell 1 _ rfl
  have cuy2 := ((unhide X7).get 0 _ _ rfl).cell 2 _ rfl
  have cuy3 := ((unhide X7).get 0 _ _ rfl).cell 3 _ rfl
  have cuy4 := ((unhide X7).get 0 _ _ rfl).cell 4 _ rfl
  have cuy5 := ((unhide X7).get 0 _ _ rfl).cell 5 _ rfl
  have cuy6 := ((unhide X7).get 0 _ _ rfl).cell 6 _ rfl
  have cuy7 := ((unhide X7).get 0 _ _ rfl).cell 7 _ rfl
  have ltux := ((unhide X7).get 1 _ _ rfl).lt
  have cux0 := ((unhide X7).get 1 _ _ rfl).cell 0 _ rfl
  have cux1 := ((unhide X7).get 1 _ _ rfl).cell 1 _ rfl
  have cux2 := ((unhide X7).get 1 _ _ rfl).cell 2 _ rfl
  have cux3 := ((unhide X7).get 1 _ _ rfl).cell 3 _ rfl
  have cux4 := ((unhide X7).get 1 _ _ rfl).cell 4 _ rfl
  have cux5 := ((unhide X7).get 1 _ _ rfl).cell 5 _ rfl
  have cux6 := ((unhide X7).get 1 _ _ rfl).cell 6 _ rfl
  have cux7 := ((unhide X7).get 1 _ _ rfl).cell 7 _ rfl
  go_upto_region 10 with fail
  clear heq hneq
  clear ltuy cuy0 cuy1 cuy2 cuy3 cuy4 cuy5 cuy6 cuy7 ltux cux0 cux1 cux2 cux3 cux4 cux5 cux6 cux7
  have ltua := ((unhide X7).get 2 _ _ rfl).lt
  have cua0 := ((unhide X7).get 2 _ _ rfl).cell 0 _ rfl
  have cua1 := ((unhide X7).get 2 _ _ rfl).cell 1 _ rfl
  have cua2 := ((unhide X7).get 2 _ _ rfl).cell 2 _ rfl
  have cua3 := ((unhide X7).get 2 _ _ rfl).cell 3 _ rfl
  have cua4 := ((unhide X7).get 2 _ _ rfl).cell 4 _ rfl
  have cua5 := ((unhide X7).get 2 _ _ rfl).cell 5 _ rfl
  have cua6 := ((unhide X7).get 2 _ _ rfl).cell 6 _ rfl
  have cua7 := ((unhide X7).get 2 _ _ rfl).cell 7 _ rfl
  go_upto_region 11 with (first
    | (go_at_call 17; refine (unhide HP1 _).mono ?_; rintro e wp ⟨rfl, hbwp⟩; have Y8 : Hid (Bxs wp [(wy.heap.size, [q0, q1, q2, q3, q4, q5, q6, q7]), (wx.heap.size, [q0, q1, q2, q3, q4, q5, q6, q7]), (w.heap.size, [a0, a1, a2, a3, a4, a5, a6, a7]), (w.heap.size + 1, [b0, b1, b2, b3, b4, b5, b6, b7])]) := (unhide X7).later hbwp)
    | (refine store8 rfl (.tmp 10) (.tmp 71) rfl (wx.heap.size) [q0, q1, q2, q3, q4, q5, q6, q7] [m0, m1, m2, m3, m4, m5, m6, m7] rfl rfl rfl rfl ((unhide Y8).get 1 _ _ rfl) ?_))
  have X8 : Hid (Bxs (wp.setRow (wx.heap.size) (cells8 [m0, m1, m2, m3, m4, m5, m6, m7])) [(wy.heap.size, [q0, q1, q2, q3, q4, q5, q6, q7]), (wx.heap.size, [m0, m1, m2, m3, m4, m5, m6, m7]), (w.heap.size, [a0, a1, a2, a3, a4, a5, a6, a7]), (w.heap.size + 1, [b0, b1, b2, b3, b4, b5, b6, b7])]) := (((unhide Y8).swap4.set4 (by omega) (by omega) (by omega) [m0, m1, m2, m3, m4, m5, m6, m7])).swap4
  have HB8 : Hid (Below w.heap.size w (wp.setRow (wx.heap.size) (cells8 [m0, m1, m2, m3, m4, m5, m6, m7]))) := below_set4 ((unhide HB7).trans (hbwp.mono (unhide HB7).size)) (by omega) _
  clear Y8 hbwp X7 HB7 HP1
  generalize wp.setRow (wx.heap.size) (cells8 [m0, m1, m2, m3, m4, m5, m6, m7]) = U8 at *
  clear ltua cua0 cua1 cua2 cua3 cua4 cua5 cua6 cua7
  have ltua := ((unhide X8).get 2 _ _ rfl).lt
  have cua0 := ((unhide X8).get 2 _ _ rfl).cell 0 _ rfl
  have cua1 := ((unhide X8).get 2 _ _ rfl).cell 1 _ rfl
  have cua2 := ((unhide X8).get 2 _ _ rfl).cell 2 _ rfl
  have cua3 := ((unhide X8).get 2 _ _ rfl).cell 3 _ rfl
  have cua4 := ((unhide X8).get 2 _ _ rfl).cell 4 _ rfl
  have cua5 := ((unhide X8).get 2 _ _ rfl).cell 5 _ rfl
  have cua6 := ((unhide X8).get 2 _ _ rfl).cell 6 _ rfl
  have cua7 := ((unhide X8).get 2 _ _ rfl).cell 7 _ rfl
  go_upto_region 12 with (first
    | (go_at_call 18; refine (unhide HP2 _).mono ?_; rintro e wm ⟨rfl, hbwm⟩; have Y9 : Hid (Bxs wm [(wy.heap.size, [q0, q1, q2, q3, q4, q5, q6, q7]), (wx.heap.size, [m0, m1, m2, m3, m4, m5, m6, m7]), (w.heap.size, [a0, a1, a2, a3, a4, a5, a6, a7]), (w.heap.size + 1, [b0, b1, b2, b3, b4, b5, b6, b7])]) := (unhide X8).later hbwm)
    | (refine store8 rfl (.tmp 12) (.tmp 77) rfl (wy.heap.size) [q0, q1, q2, q3, q4, q5, q6, q7] [m0, m1, m2, m3, m4, m5, m6, m7] rfl rfl rfl rfl ((unhide Y9).get 0 _ _ rfl) ?_))
  have X9 : Hid (Bxs (wm.setRow (wy.heap.size) (cells8 [m0, m1, m2, m3, m4, m5, m6, m7])) [(wy.heap.size, [m0, m1, m2, m3, m4, m5, m6, m7]), (wx.heap.size, [m0, m1, m2, m3, m4, m5, m6, m7]), (w.heap.size, [a0, a1, a2, a3, a4, a5, a6, a7]), (w.heap.size + 1, [b0, b1, b2, b3, b4, b5, b6, b7])]) := ((unhide Y9).set4 (by omega) (by omega) (by omega) [m0, m1, m2, m3, m4, m5, m6, m7])
  have HB9 : Hid (Below w.heap.size w (wm.setRow (wy.heap.size) (cells8 [m0, m1, m2, m3, m4, m5, m6, m7]))) := below_set4 ((unhide HB8).trans (hbwm.mono (unhide HB8).size)) (by omega) _
  clear Y9 hbwm X8 HB8 HP2
  generalize wm.setRow (wy.heap.size) (cells8 [m0, m1, m2, m3, m4, m5, m6, m7]) = U9 at *
  clear ltua cua0 cua1 cua2 cua3 cua4 cua5 cua6 cua7
  have ltuy := ((unhide X9).get 0 _ _ rfl).lt
  have cuy0 := ((unhide X9).get 0 _ _ rfl).cell 0 _ rfl
  have cuy1 := ((unhide X9).get 0 _ _ rfl).cell 1 _ rfl
  have cuy2 := ((unhide X9).get 0 _ _ rfl).cell 2 _ rfl
  have cuy3 := ((unhide X9).get 0 _ _ rfl).cell 3 _ rfl
  have cuy4 := ((unhide X9).get 0 _ _ rfl).cell 4 _ rfl
  have cuy5 := ((unhide X9).get 0 _ _ rfl).cell 5 _ rfl
  have cuy6 := ((unhide X9).get 0 _ _ rfl).cell 6 _ rfl
  have cuy7 := ((unhide X9).get 0 _ _ rfl).cell 7 _ rfl
  have ltux := ((unhide X9).get 1 _ _ rfl).lt
  have cux0 := ((unhide X9).get 1 _ _ rfl).cell 0 _ rfl
  have cux1 := ((unhide X9).get 1 _ _ rfl).cell 1 _ rfl
  have cux2 := ((unhide X9).get 1 _ _ rfl).cell 2 _ rfl
  have cux3 := ((unhide X9).get 1 _ _ rfl).cell 3 _ rfl
  have cux4 := ((unhide X9).get 1 _ _ rfl).cell 4 _ rfl
  have cux5 := ((unhide X9).get 1 _ _ rfl).cell 5 _ rfl
  have cux6 := ((unhide X9).get 1 _ _ rfl).cell 6 _ rfl
  have cux7 := ((unhide X9).get 1 _ _ rfl).cell 7 _ rfl
  go_upto_region 14 with fail
  clear hem hnem
  clear ltuy cuy0 cuy1 cuy2 cuy3 cuy4 cuy5 cuy6 cuy7 ltux cux0 cux1 cux2 cux3 cux4 cux5 cux6 cux7
  have ltua := ((unhide X9).get 2 _ _ rfl).lt
  have cua0 := ((unhide X9).get 2 _ _ rfl).cell 0 _ rfl
  have cua1 := ((unhide X9).get 2 _ _ rfl).cell 1 _ rfl
  have cua2 := ((unhide X9).get 2 _ _ rfl).cell 2 _ rfl
  have cua3 := ((unhide X9).get 2 _ _ rfl).cell 3 _ rfl
  have cua4 := ((unhide X9).get 2 _ _ rfl).cell 4 _ rfl
  have cua5 := ((unhide X9).get 2 _ _ rfl).cell 5 _ rfl
  have cua6 := ((unhide X9).get 2 _ _ rfl).cell 6 _ rfl
  have cua7 := ((unhide X9).get 2 _ _ rfl).cell 7 _ rfl
  go_upto_region 15 with (first
    | (go_at_call 19; refine (unhide HD1 _).mono ?_; rintro e wd ⟨rfl, hbwd⟩; have Y10 : Hid (Bxs wd [(wy.heap.size, [m0, m1, m2, m3, m4, m5, m6, m7]), (wx.heap.size, [m0, m1, m2, m3, m4, m5, m6, m7]), (w.heap.size, [a0, a1, a2, a3, a4, a5, a6, a7]), (w.heap.size + 1, [b0, b1, b2, b3, b4, b5, b6, b7])]) := (unhide X9).later hbwd)
    | (refine store8 rfl (.tmp 10) (.tmp 91) rfl (wx.heap.size) [m0, m1, m2, m3, m4, m5, m6, m7] [d0, d1, d2, d3, d4, d5, d6, d7] rfl rfl rfl rfl ((unhide Y10).get 1 _ _ rfl) ?_))
  have X10 : Hid (Bxs (wd.setRow (wx.heap.size) (cells8 [d0, d1, d2, d3, d4, d5, d6, d7])) [(wy.heap.size, [m0, m1, m2, m3, m4, m5, m6, m7]), (wx.heap.size, [d0, d1, d2, d3, d4, d5, d6, d7]), (w.heap.size, [a0, a1, a2, a3, a4, a5, a6, a7]), (w.heap.size + 1, [b0, b1, b2, b3, b4, b5, b6, b7])]) := (((unhide Y10).swap4.set4 (by omega) (by omega) (by omega) [d0, d1, d2, d3, d4, d5, d6, d7])).swap4
  have HB10 : Hid (Below w.heap.size w (wd.setRow (wx.heap.size) (cells8 [d0, d1, d2, d3, d4, d5, d6, d7]))) := below_set4 ((unhide HB9).trans (hbwd.mono (unhide HB9).size)) (by omega) _
  clear Y10 hbwd X9 HB9 HD1
  generalize wd.setRow (wx.heap.size) (cells8 [d0, d1, d2, d3, d4, d5, d6, d7]) = U10 at *
  clear ltua cua0 cua1 cua2 cua3 cua4 cua5 cua6 cua7
  have ltua := ((unhide X10).get 2 _ _ rfl).lt
  have cua0 := ((unhide X10).get 2 _ _ rfl).cell 0 _ rfl
  have cua1 := ((unhide X10).get 2 _ _ rfl).cell 1 _ rfl
  have cua2 := ((unhide X10).get 2 _ _ rfl).cell 2 _ rfl
  have cua3 := ((unhide X10).get 2 _ _ rfl).cell 3 _ rfl
  have cua4 := ((unhide X10).get 2 _ _ rfl).cell 4 _ rfl
  have cua5 := ((unhide X10).get 2 _ _ rfl).cell 5 _ rfl
  have cua6 := ((unhide X10).get 2 _ _ rfl).cell 6 _ rfl
  have cua7 := ((unhide X10).get 2 _ _ rfl).cell 7 _ rfl
  go_upto_region 16 with (first
    | (go_at_call 20; refine (unhide HD2 _).mono ?_; rintro e we ⟨rfl, hbwe⟩; have Y11 : Hid (Bxs we [(wy.heap.size, [m0, m1, m2, m3, m4, m5, m6, m7]), (wx.heap.size, [d0, d1, d2, d3, d4, d5, d6, d7]), (w.heap.size, [a0, a1, a2, a3, a4, a5, a6, a7]), (w.heap.size + 1, [b0, b1, b2, b3, b4, b5, b6, b7])]) := (unhide X10).later hbwe)
    | (refine store8 rfl (.tmp 12) (.tmp 97) rfl (wy.heap.size) [m0, m1, m2, m3, m4, m5, m6, m7] [d0, d1, d2, d3, d4, d5, d6, d7] rfl rfl rfl rfl ((unhide Y11).get 0 _ _ rfl) ?_))
  have X11 : Hid (Bxs (we.setRow (wy.heap.size) (cells8 [d0, d1, d2, d3, d4, d5, d6, d7])) [(wy.heap.size, [d0, d1, d2, d3, d4, d5, d6, d7]), (wx.heap.size, [d0, d1, d2, d3, d4, d5, d6, d7]), (w.heap.size, [a0, a1, a2, a3, a4, a5, a6, a7]), (w.heap.size + 1, [b0, b1, b2, b3, b4, b5, b6, b7])]) := ((unhide Y11).set4 (by omega) (by omega) (by omega) [d0, d1, d2, d3, d4, d5, d6, d7])
  have HB11 : Hid (Below w.heap.size w (we.setRow (wy.heap.size) (cells8 [d0, d1, d2, d3, d4, d5, d6, d7]))) := below_set4 ((unhide HB10).trans (hbwe.mono (unhide HB10).size)) (by omega) _
  clear Y11 hbwe X10 HB10 HD2
  generalize we.setRow (wy.heap.size) (cells8 [d0, d1, d2, d3, d4, d5, d6, d7]) = U11 at *
  clear ltua cua0 cua1 cua2 cua3 cua4 cua5 cua6 cua7
  have ltuy := ((unhide X11).get 0 _ _ rfl).lt
  have cuy0 := ((unhide X11).get 0 _ _ rfl).cell 0 _ rfl
  have cuy1 := ((unhide X11).get 0 _ _ rfl).cell 1 _ rfl
  have cuy2 := ((unhide X11).get 0 _ _ rfl).cell 2 _ rfl
  have cuy3 := ((unhide X11).get 0 _ _ rfl).cell 3 _ rfl
  have cuy4 := ((unhide X11).get 0 _ _ rfl).cell 4 _ rfl
  have cuy5 := ((unhide X11).get 0 _ _ rfl).cell 5 _ rfl
  have cuy6 := ((unhide X11).get 0 _ _ rfl).cell 6 _ rfl
  have cuy7 := ((unhide X11).get 0 _ _ rfl).cell 7 _ rfl
  have ltux := ((unhide X11).get 1 _ _ rfl).lt
  have cux0 := ((unhide X11).get 1 _ _ rfl).cell 0 _ rfl
  have cux1 := ((unhide X11).get 1 _ _ rfl).cell 1 _ rfl
  have cux2 := ((unhide X11).get 1 _ _ rfl).cell 2 _ rfl
  have cux3 := ((unhide X11).get 1 _ _ rfl).cell 3 _ rfl
  have cux4 := ((unhide X11).get 1 _ _ rfl).cell 4 _ rfl
  have cux5 := ((unhide X11).get 1 _ _ rfl).cell 5 _ rfl
  have cux6 := ((unhide X11).get 1 _ _ rfl).cell 6 _ rfl
  have cux7 := ((unhide X11).get 1 _ _ rfl).cell 7 _ rfl
  go_wp2_with (go_at_call 21; refine (known_any _ ((unhide HT).later (unhide HB11))).mono ?_; rintro e wf ⟨rfl, hbf⟩)
  go_ret
  exact ⟨rfl, (unhide HB11).trans (hbf.mono (unhide HB11).size)⟩
end Go.Proofs.YtccnbnfafhpeaaaDoor

/- The law DimGroup: any three dimensions with exponents from -16 to 16 are a group; powers and roots. -/
import Derived.Test.YtccnbnfafhpeaaaDoorGroupOps
import Derived.Test.YtccnbnfafhpeaaaDoorKnown
namespace Go.Proofs.YtccnbnfafhpeaaaDoor
open Go.RowKit

theorem small16 (x0 x1 x2 x3 x4 x5 x6 x7 : Int) (w : World) : Calls Tryd.prog 30 #[.agg #[.int .i64 x0, .int .i64 x1, .int .i64 x2, .int .i64 x3, .int .i64 x4, .int .i64 x5, .int .i64 x6, .int .i64 x7], .int .i64 16] w fun e w' => ∃ a0 a1 a2 a3 a4 a5 a6 a7 : Int, e = .returned (.agg #[.int .i64 a0, .int .i64 a1, .int .i64 a2, .int .i64 a3, .int .i64 a4, .int .i64 a5, .int .i64 a6, .int .i64 a7]) ∧ Sm 16 [a0, a1, a2, a3, a4, a5, a6, a7] ∧ Below w.heap.size w w' :=
  (small_any x0 x1 x2 x3 x4 x5 x6 x7 16 w (by omega)).mono fun _ _ ⟨he, hb⟩ => ⟨_, _, _, _, _, _, _, _, he, Sm.mk8 ⟨(by have := mod_bd x0 (2 * 16 + 1) (by omega); omega), (by have := mod_bd x1 (2 * 16 + 1) (by omega); omega), (by have := mod_bd x2 (2 * 16 + 1) (by omega); omega), (by have := mod_bd x3 (2 * 16 + 1) (by omega); omega), (by have := mod_bd x4 (2 * 16 + 1) (by omega); omega), (by have := mod_bd x5 (2 * 16 + 1) (by omega); omega), (by have := mod_bd x6 (2 * 16 + 1) (by omega); omega), (by have := mod_bd x7 (2 * 16 + 1) (by omega); omega)⟩, hb⟩
theorem heap_new2 (w : World) (o1 o2 : Obj) : ((w.alloc o1).alloc o2).heap[w.heap.size + 1]? = some o2 := by
  have h := heap_alloc_new (w.alloc o1) o2
  rw [size_alloc] at h
  exact h
theorem quo_back (a0 a1 a2 a3 a4 a5 a6 a7 b0 b1 b2 b3 b4 b5 b6 b7 : Int) (w : World) (hx : Sm 48 [a0 + b0, a1 + b1, a2 + b2, a3 + b3, a4 + b4, a5 + b5, a6 + b6, a7 + b7]) (hy : Sm 48 [b0, b1, b2, b3, b4, b5, b6, b7]) : Calls Tryd.prog 15 #[.agg #[.int .i64 (a0 + b0), .int .i64 (a1 + b1), .int .i64 (a2 + b2), .int .i64 (a3 + b3), .int .i64 (a4 + b4), .int .i64 (a5 + b5), .int .i64 (a6 + b6), .int .i64 (a7 + b7)], .agg #[.int .i64 b0, .int .i64 b1, .int .i64 b2, .int .i64 b3, .int .i64 b4, .int .i64 b5, .int .i64 b6, .int .i64 b7]] w fun e w' => e = .returned (.tuple #[.agg #[.int .i64 a0, .int .i64 a1, .int .i64 a2, .int .i64 a3, .int .i64 a4, .int .i64 a5, .int .i64 a6, .int .i64 a7], .int .i64 0]) ∧ Below w.heap.size w w' := by
  have h := quo_ok (a0 + b0) (a1 + b1) (a2 + b2) (a3 + b3) (a4 + b4) (a5 + b5) (a6 + b6) (a7 + b7) b0 b1 b2 b3 b4 b5 b6 b7 w hx hy
  simp only [Int.add_sub_cancel] at h
  exact h
theorem quo_self (a0 a1 a2 a3 a4 a5 a6 a7 : Int) (w : World) (hx : Sm 48 [a0, a1, a2, a3, a4, a5, a6, a7]) : Calls Tryd.prog 15 #[.agg #[.int .i64 a0, .int .i64 a1, .int .i64 a2, .int .i64 a3, .int .i64 a4, .int .i64 a5, .int .i64 a6, .int .i64 a7], .agg #[.int .i64 a0, .int .i64 a1, .int .i64 a2, .int .i64 a3, .int .i64 a4, .int .i64 a5, .int .i64 a6, .int .i64 a7]] w fun e w' => e = .returned (.tuple #[.agg #[.int .i64 0, .int .i64 0, .int .i64 0, .int .i64 0, .int .i64 0, .int .i64 0, .int .i64 0, .int .i64 0], .int .i64 0]) ∧ Below w.heap.size w w' := by
  have h := quo_ok a0 a1 a2 a3 a4 a5 a6 a7 a0 a1 a2 a3 a4 a5 a6 a7 w hx hx
  simp only [Int.sub_self] at h
  exact h
theorem mul_none (a0 a1 a2 a3 a4 a5 a6 a7 : Int) (g : Nat) (w : World) (hg : w.heap[g]? = some (.cells #[.int .i64 a0, .int .i64 a1, .int .i64 a2, .int .i64 a3, .int .i64 a4, .int .i64 a5, .int .i64 a6, .int .i64 a7, .int .i64 0, .int .i64 0, .int .i64 0, .int .i64 0, .int .i64 0, .int .i64 0, .int .i64 0, .int .i64 0] 24 (0, 0))) (hx : Sm 99 [a0, a1, a2, a3, a4, a5, a6, a7]) :
    Calls Tryd.prog 10 #[.slice (some ⟨g, 0, none⟩) 2 2] w fun e w' => e = .returned (.tuple #[.agg #[.int .i64 a0, .int .i64 a1, .int .i64 a2, .int .i64 a3, .int .i64 a4, .int .i64 a5, .int .i64 a6, .int .i64 a7], .int .i64 0]) ∧ Below w.heap.size w w' := by
  have h := mul2_ok a0 a1 a2 a3 a4 a5 a6 a7 0 0 0 0 0 0 0 0 g w hg hx (Sm.mk8 (by omega)) (by simp only [Int.add_zero]; exact hx)
  simp only [Int.add_zero] at h
  exact h
theorem bxs3 (w : World) (x y z : List Int) : Bxs (((w.alloc (.cells (cells8 x) 24)).alloc (.cells (cells8 y) 24)).alloc (.cells (cells8 z) 24)) [(w.heap.size, x), (w.heap.size + 1, y), (w.heap.size + 2, z)] := by
  intro p hp
  simp only [List.mem_cons, List.not_mem_nil, or_false] at hp
  rcases hp with rfl | rfl | rfl
  · exact ((Own8.new w x).alloc _).alloc _
  · have h := Own8.new (w.alloc (.cells (cells8 x) 24)) y
    rw [size_alloc] at h
    exact h.alloc _
  · have h := Own8.new ((w.alloc (.cells (cells8 x) 24)).alloc (.cells (cells8 y) 24)) z
    rw [size_alloc, size_alloc] at h
    exact h
theorem below_set {w0 w : World} {g : Nat} (h : Below w0.heap.size w0 w) (hg : w0.heap.size ≤ g) (c : Array Value) : Below w0.heap.size w0 (w.setRow g c) := below_setRow h hg c
theorem add_sub8 (a b : Int) : a + b - b = a := by omega
theorem eqB_of {l m : List Int} (h : l = m) : eqB l m = true := by subst h; exact eqB_self l

set_option maxRecDepth 100000 in
set_option maxHeartbeats 8000000 in
theorem dimGroup_any (x0 x1 x2 x3 x4 x5 x6 x7 y0 y1 y2 y3 y4 y5 y6 y7 z0 z1 z2 z3 z4 z5 z6 z7 m n : Int) (w : World) (ht : Tab w) :
    Calls Tryd.prog 6 #[.agg #[.int .i64 x0, .int .i64 x1, .int .i64 x2, .int .i64 x3, .int .i64 x4, .int .i64 x5, .int .i64 x6, .int .i64 x7], .agg #[.int .i64 y0, .int .i64 y1, .int .i64 y2, .int .i64 y3, .int .i64 y4, .int .i64 y5, .int .i64 y6, .int .i64 y7], .agg #[.int .i64 z0, .int .i64 z1, .int .i64 z2, .int .i64 z3, .int .i64 z4, .int .i64 z5, .int .i64 z6, .int .i64 z7], .int .i64 m, .int .i64 n] w fun e w' => e = .returned (.bool true) ∧ Below w.heap.size w w' := by
  have HT := hide ht
  clear ht
  have B0 := hide (bxs3 w [x0, x1, x2, x3, x4, x5, x6, x7] [y0, y1, y2, y3, y4, y5, y6, y7] [z0, z1, z2, z3, z4, z5, z6, z7])
  go_enter Tryd.func6, Tryd.ntmps6
  go_upto_region 2 with (first
    | (go_at_call 30; refine (small16 x0 x1 x2 x3 x4 x5 x6 x7 _).mono ?_; rintro e w1 ⟨a0, a1, a2, a3, a4, a5, a6, a7, rfl, ha, hb1⟩; have HA := hide ha; clear ha; have HX1 := hide ((unhide B0).later hb1))
    | (refine store8 rfl (.tmp 5) (.tmp 30) rfl w.heap.size [x0, x1, x2, x3, x4, x5, x6, x7] [a0, a1, a2, a3, a4, a5, a6, a7] rfl rfl rfl rfl ((unhide HX1).get 0 _ _ rfl) ?_))
  have HX2 := hide ((unhide HX1).set3 [a0, a1, a2, a3, a4, a5, a6, a7])
  have HB2 : Hid (Below w.heap.size w (w1.setRow w.heap.size (cells8 [a0, a1, a2, a3, a4, a5, a6, a7]))) := below_set (((((Below.refl _ _).alloc (Nat.le_refl _) _).alloc (by simp) _).alloc (by simp; omega) _).trans (hb1.mono (by simp; omega))) (Nat.le_refl _) _
  clear HX1 B0 hb1
  generalize w1.setRow w.heap.size (cells8 [a0, a1, a2, a3, a4, a5, a6, a7]) = W1 at *
  go_upto_region 3 with (first
    | (go_at_call 30; refine (small16 y0 y1 y2 y3 y4 y5 y6 y7 _).mono ?_; rintro e w2 ⟨b0, b1, b2, b3, b4, b5, b6, b7, rfl, hb, hb2⟩; have HBb := hide hb; clear hb; have HX3 := hide ((unhide HX2).later hb2))
    | (refine load8 rfl (.tmp 6) rfl (w.heap.size + 1) y0 y1 y2 y3 y4 y5 y6 y7 rfl ((unhide HX2).get 1 _ _ rfl) ?_)
    | (refine store8 rfl (.tmp 6) (.tmp 32) rfl (w.heap.size + 1) [y0, y1, y2, y3, y4, y5, y6, y7] [b0, b1, b2, b3, b4, b5, b6, b7] rfl rfl rfl rfl ((unhide HX3).get 1 _ _ rfl) ?_))
  have HX4 := hide ((unhide HX3).set3b [b0, b1, b2, b3, b4, b5, b6, b7])
  have HB4 : Hid (Below w.heap.size w (w2.setRow (w.heap.size + 1) (cells8 [b0, b1, b2, b3, b4, b5, b6, b7]))) := below_set ((unhide HB2).trans (hb2.mono (unhide HB2).size)) (by omega) _
  clear HX3 HX2 hb2 HB2
  generalize w2.setRow (w.heap.size + 1) (cells8 [b0, b1, b2, b3, b4, b5, b6, b7]) = W2 at *
  go_upto_region 4 with (first
    | (go_at_call 30; refine (small16 z0 z1 z2 z3 z4 z5 z6 z7 _).mono ?_; rintro e w3 ⟨c0, c1, c2, c3, c4, c5, c6, c7, rfl, hc, hb3⟩; have HC := hide hc; clear hc; have HX5 := hide ((unhide HX4).later hb3))
    | (refine load8 rfl (.tmp 7) rfl (w.heap.size + 1 + 1) z0 z1 z2 z3 z4 z5 z6 z7 rfl ((unhide HX4).get 2 _ _ rfl) ?_)
    | (refine store8 rfl (.tmp 7) (.tmp 34) rfl (w.heap.size + 1 + 1) [z0, z1, z2, z3, z4, z5, z6, z7] [c0, c1, c2, c3, c4, c5, c6, c7] rfl rfl rfl rfl ((unhide HX5).get 2 _ _ rfl) ?_))
  have HX6 := hide ((unhide HX5).set3c [c0, c1, c2, c3, c4, c5, c6, c7])
  have HB6 : Hid (Below w.heap.size w (w3.setRow (w.heap.size + 2) (cells8 [c0, c1, c2, c3, c4, c5, c6, c7]))) := below_set ((unhide HB4).trans (hb3.mono (unhide HB4).size)) (by omega) _
  clear HX5 HX4 hb3 HB4
  generalize w3.setRow (w.heap.size + 2) (cells8 [c0, c1, c2, c3, c4, c5, c6, c7]) = W3 at *
  have hm := mod_bd m 5 (by omega)
  have hn := mod_bd n 4 (by omega)
  go_upto_region 6 with (go_at_call 31; refine (count_any _ _ _ (by omega)).mono ?_; rintro e w' ⟨rfl, hw⟩; rw [hw]; clear hw)
  obtain ⟨M, hM⟩ : ∃ M, M = m % 5 - 2 := ⟨_, rfl⟩
  obtain ⟨N, hN⟩ : ∃ N, N = 1 + n % 4 := ⟨_, rfl⟩
  rw [← hM, ← hN]
  have hMb : -2 ≤ M ∧ M ≤ 2 := by omega
  have hNb : 1 ≤ N ∧ N ≤ 4 := by omega
  clear hM hN hm hn
  have SA : Hid (Sm 99 [a0, a1, a2, a3, a4, a5, a6, a7]) := (unhide HA).mono (by omega)
  have SB : Hid (Sm 99 [b0, b1, b2, b3, b4, b5, b6, b7]) := (unhide HBb).mono (by omega)
  have SC : Hid (Sm 99 [c0, c1, c2, c3, c4, c5, c6, c7]) := (unhide HC).mono (by omega)
  have SAB : Hid (Sm 99 [a0 + b0, a1 + b1, a2 + b2, a3 + b3, a4 + b4, a5 + b5, a6 + b6, a7 + b7]) := ((unhide HA).add8 (unhide HBb)).mono (by omega)
  have SBA : Hid (Sm 99 [b0 + a0, b1 + a1, b2 + a2, b3 + a3, b4 + a4, b5 + a5, b6 + a6, b7 + a7]) := ((unhide HBb).add8 (unhide HA)).mono (by omega)
  have SBC : Hid (Sm 99 [b0 + c0, b1 + c1, b2 + c2, b3 + c3, b4 + c4, b5 + c5, b6 + c6, b7 + c7]) := ((unhide HBb).add8 (unhide HC)).mono (by omega)
  have SABC : Hid (Sm 99 [(a0 + b0) + c0, (a1 + b1) + c1, (a2 + b2) + c2, (a3 + b3) + c3, (a4 + b4) + c4, (a5 + b5) + c5, (a6 + b6) + c6, (a7 + b7) + c7]) := (((unhide HA).add8 (unhide HBb)).add8 (unhide HC)).mono (by omega)
  have SABC2 : Hid (Sm 99 [a0 + (b0 + c0), a1 + (b1 + c1), a2 + (b2 + c2), a3 + (b3 + c3), a4 + (b4 + c4), a5 + (b5 + c5), a6 + (b6 + c6), a7 + (b7 + c7)]) := ((unhide HA).add8 ((unhide HBb).add8 (unhide HC))).mono (by omega)
  have Q1 : Hid (Sm 48 [a0 + b0, a1 + b1, a2 + b2, a3 + b3, a4 + b4, a5 + b5, a6 + b6, a7 + b7]) := ((unhide HA).add8 (unhide HBb)).mono (by omega)
  have Q2 : Hid (Sm 48 [b0, b1, b2, b3, b4, b5, b6, b7]) := (unhide HBb).mono (by omega)
  have Q3 : Hid (Sm 48 [a0, a1, a2, a3, a4, a5, a6, a7]) := (unhide HA).mono (by omega)
  have lt0 := ((unhide HX6).get 0 _ _ rfl).lt
  have c00 := ((unhide HX6).get 0 _ _ rfl).cell 0 _ rfl
  have c01 := ((unhide HX6).get 0 _ _ rfl).cell 1 _ rfl
  have c02 := ((unhide HX6).get 0 _ _ rfl).cell 2 _ rfl
  have c03 := ((unhide HX6).get 0 _ _ rfl).cell 3 _ rfl
  have c04 := ((unhide HX6).get 0 _ _ rfl).cell 4 _ rfl
  have c05 := ((unhide HX6).get 0 _ _ rfl).cell 5 _ rfl
  have c06 := ((unhide HX6).get 0 _ _ rfl).cell 6 _ rfl
  have c07 := ((unhide HX6).get 0 _ _ rfl).cell 7 _ rfl
  have lt1 := ((unhide HX6).get 1 _ _ rfl).lt
  have c10 := ((unhide HX6).get 1 _ _ rfl).cell 0 _ rfl
  have c11 := ((unhide HX6).get 1 _ _ rfl).cell 1 _ rfl
  have c12 := ((unhide HX6).get 1 _ _ rfl).cell 2 _ rfl
  have c13 := ((unhide HX6).get 1 _ _ rfl).cell 3 _ rfl
  have c14 := ((unhide HX6).get 1 _ _ rfl).cell 4 _ rfl
  have c15 := ((unhide HX6).get 1 _ _ rfl).cell 5 _ rfl
  have c16 := ((unhide HX6).get 1 _ _ rfl).cell 6 _ rfl
  have c17 := ((unhide HX6).get 1 _ _ rfl).cell 7 _ rfl
  go_upto_region 7 with ((go_at_call 10; refine (mul2_ok a0 a1 a2 a3 a4 a5 a6 a7 b0 b1 b2 b3 b4 b5 b6 b7 _ _ (heap_alloc_new _ _) (unhide SA) (unhide SB) (unhide SAB)).mono ?_; rintro e wx ⟨rfl, hbwx⟩))
  clear lt0 c00 c01 c02 c03 c04 c05 c06 c07 lt1 c10 c11 c12 c13 c14 c15 c16 c17
  have HX7 : Hid (Bxs (wx.alloc (.cells #[.int .i64 (a0 + b0), .int .i64 (a1 + b1), .int .i64 (a2 + b2), .int .i64 (a3 + b3), .int .i64 (a4 + b4), .int .i64 (a5 + b5), .int .i64 (a6 + b6), .int .i64 (a7 + b7)] 24)) [(wx.heap.size, [a0 + b0, a1 + b1, a2 + b2, a3 + b3, a4 + b4, a5 + b5, a6 + b6, a7 + b7]), (w.heap.size, [a0, a1, a2, a3, a4, a5, a6, a7]), (w.heap.size + 1, [b0, b1, b2, b3, b4, b5, b6, b7]), (w.heap.size + 1 + 1, [c0, c1, c2, c3, c4, c5, c6, c7])]) := (unhide HX6).next hbwx [a0 + b0, a1 + b1, a2 + b2, a3 + b3, a4 + b4, a5 + b5, a6 + b6, a7 + b7]
  have HB7 : Hid (Below w.heap.size w (wx.alloc (.cells #[.int .i64 (a0 + b0), .int .i64 (a1 + b1), .int .i64 (a2 + b2), .int .i64 (a3 + b3), .int .i64 (a4 + b4), .int .i64 (a5 + b5), .int .i64 (a6 + b6), .int .i64 (a7 + b7)] 24))) := below_next (unhide HB6) hbwx
  have HV7 : Hid (Bxs wx [(w.heap.size, [a0, a1, a2, a3, a4, a5, a6, a7]), (w.heap.size + 1, [b0, b1, b2, b3, b4, b5, b6, b7]), (w.heap.size + 1 + 1, [c0, c1, c2, c3, c4, c5, c6, c7])]) := ((unhide HX6).alloc _).later hbwx
  clear HX6 HB6 hbwx
  have lt0 := ((unhide HV7).get 1 _ _ rfl).lt
  have c00 := ((unhide HV7).get 1 _ _ rfl).cell 0 _ rfl
  have c01 := ((unhide HV7).get 1 _ _ rfl).cell 1 _ rfl
  have c02 := ((unhide HV7).get 1 _ _ rfl).cell 2 _ rfl
  have c03 := ((unhide HV7).get 1 _ _ rfl).cell 3 _ rfl
  have c04 := ((unhide HV7).get 1 _ _ rfl).cell 4 _ rfl
  have c05 := ((unhide HV7).get 1 _ _ rfl).cell 5 _ rfl
  have c06 := ((unhide HV7).get 1 _ _ rfl).cell 6 _ rfl
  have c07 := ((unhide HV7).get 1 _ _ rfl).cell 7 _ rfl
  have lt1 := ((unhide HV7).get 0 _ _ rfl).lt
  have c10 := ((unhide HV7).get 0 _ _ rfl).cell 0 _ rfl
  have c11 := ((unhide HV7).get 0 _ _ rfl).cell 1 _ rfl
  have c12 := ((unhide HV7).get 0 _ _ rfl).cell 2 _ rfl
  have c13 := ((unhide HV7).get 0 _ _ rfl).cell 3 _ rfl
  have c14 := ((unhide HV7).get 0 _ _ rfl).cell 4 _ rfl
  have c15 := ((unhide HV7).get 0 _ _ rfl).cell 5 _ rfl
  have c16 := ((unhide HV7).get 0 _ _ rfl).cell 6 _ rfl
  have c17 := ((unhide HV7).get 0 _ _ rfl).cell 7 _ rfl
  go_upto_region 8 with ((go_at_call 10; refine (mul2_ok b0 b1 b2 b3 b4 b5 b6 b7 a0 a1 a2 a3 a4 a5 a6 a7 _ _ (heap_new2 _ _ _) (unhide SB) (unhide SA) (unhide SBA)).mono ?_; rintro e wy ⟨rfl, hbwy⟩))
  clear lt0 c00 c01 c02 c03 c04 c05 c06 c07 lt1 c10 c11 c12 c13 c14 c15 c16 c17
  have HX8 : Hid (Bxs (wy.alloc (.cells #[.int .i64 (b0 + a0), .int .i64 (b1 + a1), .int .i64 (b2 + a2), .int .i64 (b3 + a3), .int .i64 (b4 + a4), .int .i64 (b5 + a5), .int .i64 (b6 + a6), .int .i64 (b7 + a7)] 24)) [(wy.heap.size, [b0 + a0, b1 + a1, b2 + a2, b3 + a3, b4 + a4, b5 + a5, b6 + a6, b7 + a7]), (wx.heap.size, [a0 + b0, a1 + b1, a2 + b2, a3 + b3, a4 + b4, a5 + b5, a6 + b6, a7 + b7]), (w.heap.size, [a0, a1, a2, a3, a4, a5, a6, a7]), (w.heap.size + 1, [b0, b1, b2, b3, b4, b5, b6, b7]), (w.heap.size + 1 + 1, [c0, c1, c2, c3, c4, c5, c6, c7])]) := (unhide HX7).next hbwy [b0 + a0, b1 + a1, b2 + a2, b3 + a3, b4 + a4, b5 + a5, b6 + a6, b7 + a7]
  have HB8 : Hid (Below w.heap.size w (wy.alloc (.cells #[.int .i64 (b0 + a0), .int .i64 (b1 + a1), .int .i64 (b2 + a2), .int .i64 (b3 + a3), .int .i64 (b4 + a4), .int .i64 (b5 + a5), .int .i64 (b6 + a6), .int .i64 (b7 + a7)] 24))) := below_next (unhide HB7) hbwy
  have HV8 : Hid (Bxs wy [(wx.heap.size, [a0 + b0, a1 + b1, a2 + b2, a3 + b3, a4 + b4, a5 + b5, a6 + b6, a7 + b7]), (w.heap.size, [a0, a1, a2, a3, a4, a5, a6, a7]), (w.heap.size + 1, [b0, b1, b2, b3, b4, b5, b6, b7]), (w.heap.size + 1 + 1, [c0, c1, c2, c3, c4, c5, c6, c7])]) := ((unhide HX7).alloc _).later hbwy
  clear HX7 HB7 hbwy
  have lt0 := ((unhide HV8).get 0 _ _ rfl).lt
  have c00 := ((unhide HV8).get 0 _ _ rfl).cell 0 _ rfl
  have c01 := ((unhide HV8).get 0 _ _ rfl).cell 1 _ rfl
  have c02 := ((unhide HV8).get 0 _ _ rfl).cell 2 _ rfl
  have c03 := ((unhide HV8).get 0 _ _ rfl).cell 3 _ rfl
  have c04 := ((unhide HV8).get 0 _ _ rfl).cell 4 _ rfl
  have c05 := ((unhide HV8).get 0 _ _ rfl).cell 5 _ rfl
  have c06 := ((unhide HV8).get 0 _ _ rfl).cell 6 _ rfl
  have c07 := ((unhide HV8).get 0 _ _ rfl).cell 7 _ rfl
  have lt1 := ((unhide HV8).get 3 _ _ rfl).lt
  have c10 := ((unhide HV8).get 3 _ _ rfl).cell 0 _ rfl
  have c11 := ((unhide HV8).get 3 _ _ rfl).cell 1 _ rfl
  have c12 := ((unhide HV8).get 3 _ _ rfl).cell 2 _ rfl
  have c13 := ((unhide HV8).get 3 _ _ rfl).cell 3 _ rfl
  have c14 := ((unhide HV8).get 3 _ _ rfl).cell 4 _ rfl
  have c15 := ((unhide HV8).get 3 _ _ rfl).cell 5 _ rfl
  have c16 := ((unhide HV8).get 3 _ _ rfl).cell 6 _ rfl
  have c17 := ((unhide HV8).get 3 _ _ rfl).cell 7 _ rfl
  go_upto_region 9 with ((go_at_call 10; refine (mul2_ok (a0 + b0) (a1 + b1) (a2 + b2) (a3 + b3) (a4 + b4) (a5 + b5) (a6 + b6) (a7 + b7) c0 c1 c2 c3 c4 c5 c6 c7 _ _ (heap_new2 _ _ _) (unhide SAB) (unhide SC) (unhide SABC)).mono ?_; rintro e wz ⟨rfl, hbwz⟩))
  clear lt0 c00 c01 c02 c03 c04 c05 c06 c07 lt1 c10 c11 c12 c13 c14 c15 c16 c17
  have HX9 : Hid (Bxs (wz.alloc (.cells #[.int .i64 ((a0 + b0) + c0), .int .i64 ((a1 + b1) + c1), .int .i64 ((a2 + b2) + c2), .int .i64 ((a3 + b3) + c3), .int .i64 ((a4 + b4) + c4), .int .i64 ((a5 + b5) + c5), .int .i64 ((a6 + b6) + c6), .int .i64 ((a7 + b7) + c7)] 24)) [(wz.heap.size, [(a0 + b0) + c0, (a1 + b1) + c1, (a2 + b2) + c2, (a3 + b3) + c3, (a4 + b4) + c4, (a5 + b5) + c5, (a6 + b6) + c6, (a7 + b7) + c7]), (wy.heap.size, [b0 + a0, b1 + a1, b2 + a2, b3 + a3, b4 + a4, b5 + a5, b6 + a6, b7 + a7]), (wx.heap.size, [a0 + b0, a1 + b1, a2 + b2, a3 + b3, a4 + b4, a5 + b5, a6 + b6, a7 + b7]), (w.heap.size, [a0, a1, a2, a3, a4, a5, a6, a7]), (w.heap.size + 1, [b0, b1, b2, b3, b4, b5, b6, b7]), (w.heap.size + 1 + 1, [c0, c1, c2, c3, c4, c5, c6, c7])]) := (unhide HX8).next hbwz [(a0 + b0) + c0, (a1 + b1) + c1, (a2 + b2) + c2, (a3 + b3) + c3, (a4 + b4) + c4, (a5 + b5) + c5, (a6 + b6) + c6, (a7 + b7) + c7]
  have HB9 : Hid (Below w.heap.size w (wz.alloc (.cells #[.int .i64 ((a0 + b0) + c0), .int .i64 ((a1 + b1) + c1), .int .i64 ((a2 + b2) + c2), .int .i64 ((a3 + b3) + c3), .int .i64 ((a4 + b4) + c4), .int .i64 ((a5 + b5) + c5), .int .i64 ((a6 + b6) + c6), .int .i64 ((a7 + b7) + c7)] 24))) := below_next (unhide HB8) hbwz
  have HV9 : Hid (Bxs wz [(wy.heap.size, [b0 + a0, b1 + a1, b2 + a2, b3 + a3, b4 + a4, b5 + a5, b6 + a6, b7 + a7]), (wx.heap.size, [a0 + b0, a1 + b1, a2 + b2, a3 + b3, a4 + b4, a5 + b5, a6 + b6, a7 + b7]), (w.heap.size, [a0, a1, a2, a3, a4, a5, a6, a7]), (w.heap.size + 1, [b0, b1, b2, b3, b4, b5, b6, b7]), (w.heap.size + 1 + 1, [c0, c1, c2, c3, c4, c5, c6, c7])]) := ((unhide HX8).alloc _).later hbwz
  clear HX8 HB8 hbwz
  have lt0 := ((unhide HV9).get 3 _ _ rfl).lt
  have c00 := ((unhide HV9).get 3 _ _ rfl).cell 0 _ rfl
  have c01 := ((unhide HV9).get 3 _ _ rfl).cell 1 _ rfl
  have c02 := ((unhide HV9).get 3 _ _ rfl).cell 2 _ rfl
  have c03 := ((unhide HV9).get 3 _ _ rfl).cell 3 _ rfl
  have c04 := ((unhide HV9).get 3 _ _ rfl).cell 4 _ rfl
  have c05 := ((unhide HV9).get 3 _ _ rfl).cell 5 _ rfl
  have c06 := ((unhide HV9).get 3 _ _ rfl).cell 6 _ rfl
  have c07 := ((unhide HV9).get 3 _ _ rfl).cell 7 _ rfl
  have lt1 := ((unhide HV9).get 4 _ _ rfl).lt
  have c10 := ((unhide HV9).get 4 _ _ rfl).cell 0 _ rfl
  have c11 := ((unhide HV9).get 4 _ _ rfl).cell 1 _ rfl
  have c12 := ((unhide HV9).get 4 _ _ rfl).cell 2 _ rfl
  have c13 := ((unhide HV9).get 4 _ _ rfl).cell 3 _ rfl
  have c14 := ((unhide HV9).get 4 _ _ rfl).cell 4 _ rfl
  have c15 := ((unhide HV9).get 4 _ _ rfl).cell 5 _ rfl
  have c16 := ((unhide HV9).get 4 _ _ rfl).cell 6 _ rfl
  have c17 := ((unhide HV9).get 4 _ _ rfl).cell 7 _ rfl
  go_upto_region 10 with ((go_at_call 10; refine (mul2_ok b0 b1 b2 b3 b4 b5 b6 b7 c0 c1 c2 c3 c4 c5 c6 c7 _ _ (heap_new2 _ _ _) (unhide SB) (unhide SC) (unhide SBC)).mono ?_; rintro e ww ⟨rfl, hbww⟩))
  clear lt0 c00 c01 c02 c03 c04 c05 c06 c07 lt1 c10 c11 c12 c13 c14 c15 c16 c17
  have HX10 : Hid (Bxs (ww.alloc (.cells #[.int .i64 (b0 + c0), .int .i64 (b1 + c1), .int .i64 (b2 + c2), .int .i64 (b3 + c3), .int .i64 (b4 + c4), .int .i64 (b5 + c5), .int .i64 (b6 + c6), .int .i64 (b7 + c7)] 24)) [(ww.heap.size, [b0 + c0, b1 + c1, b2 + c2, b3 + c3, b4 + c4, b5 + c5, b6 + c6, b7 + c7]), (wz.heap.size, [(a0 + b0) + c0, (a1 + b1) + c1, (a2 + b2) + c2, (a3 + b3) + c3, (a4 + b4) + c4, (a5 + b5) + c5, (a6 + b6) + c6, (a7 + b7) + c7]), (wy.heap.size, [b0 + a0, b1 + a1, b2 + a2, b3 + a3, b4 + a4, b5 + a5, b6 + a6, b7 + a7]), (wx.heap.size, [a0 + b0, a1 + b1, a2 + b2, a3 + b3, a4 + b4, a5 + b5, a6 + b6, a7 + b7]), (w.heap.size, [a0, a1, a2, a3, a4, a5, a6, a7]), (w.heap.size + 1, [b0, b1, b2, b3, b4, b5, b6, b7]), (w.heap.size + 1 + 1, [c0, c1, c2, c3, c4, c5, c6, c7])]) := (unhide HX9).next hbww [b0 + c0, b1 + c1, b2 + c2, b3 + c3, b4 + c4, b5 + c5, b6 + c6, b7 + c7]
  have HB10 : Hid (Below w.heap.size w (ww.alloc (.cells #[.int .i64 (b0 + c0), .int .i64 (b1 + c1), .int .i64 (b2 + c2), .int .i64 (b3 + c3), .int .i64 (b4 + c4), .int .i64 (b5 + c5), .int .i64 (b6 + c6), .int .i64 (b7 + c7)] 24))) := below_next (unhide HB9) hbww
  have HV10 : Hid (Bxs ww [(wz.heap.size, [(a0 + b0) + c0, (a1 + b1) + c1, (a2 + b2) + c2, (a3 + b3) + c3, (a4 + b4) + c4, (a5 + b5) + c5, (a6 + b6) + c6, (a7 + b7) + c7]), (wy.heap.size, [b0 + a0, b1 + a1, b2 + a2, b3 + a3, b4 + a4, b5 + a5, b6 + a6, b7 + a7]), (wx.heap.size, [a0 + b0, a1 + b1, a2 + b2, a3 + b3, a4 + b4, a5 + b5, a6 + b6, a7 + b7]), (w.heap.size, [a0, a1, a2, a3, a4, a5, a6, a7]), (w.heap.size + 1, [b0, b1, b2, b3, b4, b5, b6, b7]), (w.heap.size + 1 + 1, [c0, c1, c2, c3, c4, c5, c6, c7])]) := ((unhide HX9).alloc _).later hbww
  clear HX9 HB9 hbww
  have lt0 := ((unhide HV10).get 3 _ _ rfl).lt
  have c00 := ((unhide HV10).get 3 _ _ rfl).cell 0 _ rfl
  have c01 := ((unhide HV10).get 3 _ _ rfl).cell 1 _ rfl
  have c02 := ((unhide HV10).get 3 _ _ rfl).cell 2 _ rfl
  have c03 := ((unhide HV10).get 3 _ _ rfl).cell 3 _ rfl
  have c04 := ((unhide HV10).get 3 _ _ rfl).cell 4 _ rfl
  have c05 := ((unhide HV10).get 3 _ _ rfl).cell 5 _ rfl
  have c06 := ((unhide HV10).get 3 _ _ rfl).cell 6 _ rfl
  have c07 := ((unhide HV10).get 3 _ _ rfl).cell 7 _ rfl
  go_upto_region 11 with ((go_at_call 10; refine (mul2_ok a0 a1 a2 a3 a4 a5 a6 a7 (b0 + c0) (b1 + c1) (b2 + c2) (b3 + c3) (b4 + c4) (b5 + c5) (b6 + c6) (b7 + c7) _ _ (heap_new2 _ _ _) (unhide SA) (unhide SBC) (unhide SABC2)).mono ?_; rintro e wv ⟨rfl, hbwv⟩))
  clear lt0 c00 c01 c02 c03 c04 c05 c06 c07
  have HX11 : Hid (Bxs (wv.alloc (.cells #[.int .i64 (a0 + (b0 + c0)), .int .i64 (a1 + (b1 + c1)), .int .i64 (a2 + (b2 + c2)), .int .i64 (a3 + (b3 + c3)), .int .i64 (a4 + (b4 + c4)), .int .i64 (a5 + (b5 + c5)), .int .i64 (a6 + (b6 + c6)), .int .i64 (a7 + (b7 + c7))] 24)) [(wv.heap.size, [a0 + (b0 + c0), a1 + (b1 + c1), a2 + (b2 + c2), a3 + (b3 + c3), a4 + (b4 + c4), a5 + (b5 + c5), a6 + (b6 + c6), a7 + (b7 + c7)]), (ww.heap.size, [b0 + c0, b1 + c1, b2 + c2, b3 + c3, b4 + c4, b5 + c5, b6 + c6, b7 + c7]), (wz.heap.size, [(a0 + b0) + c0, (a1 + b1) + c1, (a2 + b2) + c2, (a3 + b3) + c3, (a4 + b4) + c4, (a5 + b5) + c5, (a6 + b6) + c6, (a7 + b7) + c7]), (wy.heap.size, [b0 + a0, b1 + a1, b2 + a2, b3 + a3, b4 + a4, b5 + a5, b6 + a6, b7 + a7]), (wx.heap.size, [a0 + b0, a1 + b1, a2 + b2, a3 + b3, a4 + b4, a5 + b5, a6 + b6, a7 + b7]), (w.heap.size, [a0, a1, a2, a3, a4, a5, a6, a7]), (w.heap.size + 1, [b0, b1, b2, b3, b4, b5, b6, b7]), (w.heap.size + 1 + 1, [c0, c1, c2, c3, c4, c5, c6, c7])]) := (unhide HX10).next hbwv [a0 + (b0 + c0), a1 + (b1 + c1), a2 + (b2 + c2), a3 + (b3 + c3), a4 + (b4 + c4), a5 + (b5 + c5), a6 + (b6 + c6), a7 + (b7 + c7)]
  have HB11 : Hid (Below w.heap.size w (wv.alloc (.cells #[.int .i64 (a0 + (b0 + c0)), .int .i64 (a1 + (b1 + c1)), .int .i64 (a2 + (b2 + c2)), .int .i64 (a3 + (b3 + c3)), .int .i64 (a4 + (b4 + c4)), .int .i64 (a5 + (b5 + c5)), .int .i64 (a6 + (b6 + c6)), .int .i64 (a7 + (b7 + c7))] 24))) := below_next (unhide HB10) hbwv
  have HV11 : Hid (Bxs wv [(ww.heap.size, [b0 + c0, b1 + c1, b2 + c2, b3 + c3, b4 + c4, b5 + c5, b6 + c6, b7 + c7]), (wz.heap.size, [(a0 + b0) + c0, (a1 + b1) + c1, (a2 + b2) + c2, (a3 + b3) + c3, (a4 + b4) + c4, (a5 + b5) + c5, (a6 + b6) + c6, (a7 + b7) + c7]), (wy.heap.size, [b0 + a0, b1 + a1, b2 + a2, b3 + a3, b4 + a4, b5 + a5, b6 + a6, b7 + a7]), (wx.heap.size, [a0 + b0, a1 + b1, a2 + b2, a3 + b3, a4 + b4, a5 + b5, a6 + b6, a7 + b7]), (w.heap.size, [a0, a1, a2, a3, a4, a5, a6, a7]), (w.heap.size + 1, [b0, b1, b2, b3, b4, b5, b6, b7]), (w.heap.size + 1 + 1, [c0, c1, c2, c3, c4, c5, c6, c7])]) := ((unhide HX10).alloc _).later hbwv
  clear HX10 HB10 hbwv
  have ltwv0 := ((unhide HV11).get 3 _ _ rfl).lt
  have cwv00 := ((unhide HV11).get 3 _ _ rfl).cell 0 _ rfl
  have cwv01 := ((unhide HV11).get 3 _ _ rfl).cell 1 _ rfl
  have cwv02 := ((unhide HV11).get 3 _ _ rfl).cell 2 _ rfl
  have cwv03 := ((unhide HV11).get 3 _ _ rfl).cell 3 _ rfl
  have cwv04 := ((unhide HV11).get 3 _ _ rfl).cell 4 _ rfl
  have cwv05 := ((unhide HV11).get 3 _ _ rfl).cell 5 _ rfl
  have cwv06 := ((unhide HV11).get 3 _ _ rfl).cell 6 _ rfl
  have cwv07 := ((unhide HV11).get 3 _ _ rfl).cell 7 _ rfl
  have ltwv1 := ((unhide HV11).get 2 _ _ rfl).lt
  have cwv10 := ((unhide HV11).get 2 _ _ rfl).cell 0 _ rfl
  have cwv11 := ((unhide HV11).get 2 _ _ rfl).cell 1 _ rfl
  have cwv12 := ((unhide HV11).get 2 _ _ rfl).cell 2 _ rfl
  have cwv13 := ((unhide HV11).get 2 _ _ rfl).cell 3 _ rfl
  have cwv14 := ((unhide HV11).get 2 _ _ rfl).cell 4 _ rfl
  have cwv15 := ((unhide HV11).get 2 _ _ rfl).cell 5 _ rfl
  have cwv16 := ((unhide HV11).get 2 _ _ rfl).cell 6 _ rfl
  have cwv17 := ((unhide HV11).get 2 _ _ rfl).cell 7 _ rfl
  have ltwv2 := ((unhide HV11).get 1 _ _ rfl).lt
  have cwv20 := ((unhide HV11).get 1 _ _ rfl).cell 0 _ rfl
  have cwv21 := ((unhide HV11).get 1 _ _ rfl).cell 1 _ rfl
  have cwv22 := ((unhide HV11).get 1 _ _ rfl).cell 2 _ rfl
  have cwv23 := ((unhide HV11).get 1 _ _ rfl).cell 3 _ rfl
  have cwv24 := ((unhide HV11).get 1 _ _ rfl).cell 4 _ rfl
  have cwv25 := ((unhide HV11).get 1 _ _ rfl).cell 5 _ rfl
  have cwv26 := ((unhide HV11).get 1 _ _ rfl).cell 6 _ rfl
  have cwv27 := ((unhide HV11).get 1 _ _ rfl).cell 7 _ rfl
  have exy := eqIn24 (a0 + b0) (a1 + b1) (a2 + b2) (a3 + b3) (a4 + b4) (a5 + b5) (a6 + b6) (a7 + b7) (b0 + a0) (b1 + a1) (b2 + a2) (b3 + a3) (b4 + a4) (b5 + a5) (b6 + a6) (b7 + a7)
  rw [eqB_of (by rw [Int.add_comm a0 b0, Int.add_comm a1 b1, Int.add_comm a2 b2, Int.add_comm a3 b3, Int.add_comm a4 b4, Int.add_comm a5 b5, Int.add_comm a6 b6, Int.add_comm a7 b7])] at exy
  have ezv := eqIn24 ((a0 + b0) + c0) ((a1 + b1) + c1) ((a2 + b2) + c2) ((a3 + b3) + c3) ((a4 + b4) + c4) ((a5 + b5) + c5) ((a6 + b6) + c6) ((a7 + b7) + c7) (a0 + (b0 + c0)) (a1 + (b1 + c1)) (a2 + (b2 + c2)) (a3 + (b3 + c3)) (a4 + (b4 + c4)) (a5 + (b5 + c5)) (a6 + (b6 + c6)) (a7 + (b7 + c7))
  rw [eqB_of (by rw [Int.add_assoc a0 b0 c0, Int.add_assoc a1 b1 c1, Int.add_assoc a2 b2 c2, Int.add_assoc a3 b3 c3, Int.add_assoc a4 b4 c4, Int.add_assoc a5 b5 c5, Int.add_assoc a6 b6 c6, Int.add_assoc a7 b7 c7])] at ezv
  go_upto_region 13 with fail
  clear ltwv0 cwv00 cwv01 cwv02 cwv03 cwv04 cwv05 cwv06 cwv07 ltwv1 cwv10 cwv11 cwv12 cwv13 cwv14 cwv15 cwv16 cwv17 ltwv2 cwv20 cwv21 cwv22 cwv23 cwv24 cwv25 cwv26 cwv27 exy ezv
  have lt0 := ((unhide HV11).get 3 _ _ rfl).lt
  have c00 := ((unhide HV11).get 3 _ _ rfl).cell 0 _ rfl
  have c01 := ((unhide HV11).get 3 _ _ rfl).cell 1 _ rfl
  have c02 := ((unhide HV11).get 3 _ _ rfl).cell 2 _ rfl
  have c03 := ((unhide HV11).get 3 _ _ rfl).cell 3 _ rfl
  have c04 := ((unhide HV11).get 3 _ _ rfl).cell 4 _ rfl
  have c05 := ((unhide HV11).get 3 _ _ rfl).cell 5 _ rfl
  have c06 := ((unhide HV11).get 3 _ _ rfl).cell 6 _ rfl
  have c07 := ((unhide HV11).get 3 _ _ rfl).cell 7 _ rfl
  have lt1 := ((unhide HV11).get 5 _ _ rfl).lt
  have c10 := ((unhide HV11).get 5 _ _ rfl).cell 0 _ rfl
  have c11 := ((unhide HV11).get 5 _ _ rfl).cell 1 _ rfl
  have c12 := ((unhide HV11).get 5 _ _ rfl).cell 2 _ rfl
  have c13 := ((unhide HV11).get 5 _ _ rfl).cell 3 _ rfl
  have c14 := ((unhide HV11).get 5 _ _ rfl).cell 4 _ rfl
  have c15 := ((unhide HV11).get 5 _ _ rfl).cell 5 _ rfl
  have c16 := ((unhide HV11).get 5 _ _ rfl).cell 6 _ rfl
  have c17 := ((unhide HV11).get 5 _ _ rfl).cell 7 _ rfl
  go_upto_region 14 with (go_at_call 15; refine (quo_back a0 a1 a2 a3 a4 a5 a6 a7 b0 b1 b2 b3 b4 b5 b6 b7 _ (unhide Q1) (unhide Q2)).mono ?_; rintro e wq ⟨rfl, hbwq⟩)
  clear lt0 c00 c01 c02 c03 c04 c05 c06 c07 lt1 c10 c11 c12 c13 c14 c15 c16 c17
  have HX12 : Hid (Bxs (wq.alloc (.cells #[.int .i64 a0, .int .i64 a1, .int .i64 a2, .int .i64 a3, .int .i64 a4, .int .i64 a5, .int .i64 a6, .int .i64 a7] 24)) [(wq.heap.size, [a0, a1, a2, a3, a4, a5, a6, a7]), (wv.heap.size, [a0 + (b0 + c0), a1 + (b1 + c1), a2 + (b2 + c2), a3 + (b3 + c3), a4 + (b4 + c4), a5 + (b5 + c5), a6 + (b6 + c6), a7 + (b7 + c7)]), (ww.heap.size, [b0 + c0, b1 + c1, b2 + c2, b3 + c3, b4 + c4, b5 + c5, b6 + c6, b7 + c7]), (wz.heap.size, [(a0 + b0) + c0, (a1 + b1) + c1, (a2 + b2) + c2, (a3 + b3) + c3, (a4 + b4) + c4, (a5 + b5) + c5, (a6 + b6) + c6, (a7 + b7) + c7]), (wy.heap.size, [b0 + a0, b1 + a1, b2 + a2, b3 + a3, b4 + a4, b5 + a5, b6 + a6, b7 + a7]), (wx.heap.size, [a0 + b0, a1 + b1, a2 + b2, a3 + b3, a4 + b4, a5 + b5, a6 + b6, a7 + b7]), (w.heap.size, [a0, a1, a2, a3, a4, a5, a6, a7]), (w.heap.size + 1, [b0, b1, b2, b3, b4, b5, b6, b7]), (w.heap.size + 1 + 1, [c0, c1, c2, c3, c4, c5, c6, c7])]) := (unhide HX11).next0 hbwq [a0, a1, a2, a3, a4, a5, a6, a7]
  have HB12 : Hid (Below w.heap.size w (wq.alloc (.cells #[.int .i64 a0, .int .i64 a1, .int .i64 a2, .int .i64 a3, .int .i64 a4, .int .i64 a5, .int .i64 a6, .int .i64 a7] 24))) := below_next0 (unhide HB11) hbwq
  have HV12 : Hid (Bxs wq [(wv.heap.size, [a0 + (b0 + c0), a1 + (b1 + c1), a2 + (b2 + c2), a3 + (b3 + c3), a4 + (b4 + c4), a5 + (b5 + c5), a6 + (b6 + c6), a7 + (b7 + c7)]), (ww.heap.size, [b0 + c0, b1 + c1, b2 + c2, b3 + c3, b4 + c4, b5 + c5, b6 + c6, b7 + c7]), (wz.heap.size, [(a0 + b0) + c0, (a1 + b1) + c1, (a2 + b2) + c2, (a3 + b3) + c3, (a4 + b4) + c4, (a5 + b5) + c5, (a6 + b6) + c6, (a7 + b7) + c7]), (wy.heap.size, [b0 + a0, b1 + a1, b2 + a2, b3 + a3, b4 + a4, b5 + a5, b6 + a6, b7 + a7]), (wx.heap.size, [a0 + b0, a1 + b1, a2 + b2, a3 + b3, a4 + b4, a5 + b5, a6 + b6, a7 + b7]), (w.heap.size, [a0, a1, a2, a3, a4, a5, a6, a7]), (w.heap.size + 1, [b0, b1, b2, b3, b4, b5, b6, b7]), (w.heap.size + 1 + 1, [c0, c1, c2, c3, c4, c5, c6, c7])]) := (unhide HX11).later hbwq
  clear HX11 HB11 hbwq
  have lt0 := ((unhide HV12).get 5 _ _ rfl).lt
  have c00 := ((unhide HV12).get 5 _ _ rfl).cell 0 _ rfl
  have c01 := ((unhide HV12).get 5 _ _ rfl).cell 1 _ rfl
  have c02 := ((unhide HV12).get 5 _ _ rfl).cell 2 _ rfl
  have c03 := ((unhide HV12).get 5 _ _ rfl).cell 3 _ rfl
  have c04 := ((unhide HV12).get 5 _ _ rfl).cell 4 _ rfl
  have c05 := ((unhide HV12).get 5 _ _ rfl).cell 5 _ rfl
  have c06 := ((unhide HV12).get 5 _ _ rfl).cell 6 _ rfl
  have c07 := ((unhide HV12).get 5 _ _ rfl).cell 7 _ rfl
  go_upto_region 15 with (go_at_call 15; refine (quo_self a0 a1 a2 a3 a4 a5 a6 a7 _ (unhide Q3)).mono ?_; rintro e wo ⟨rfl, hbwo⟩)
  clear lt0 c00 c01 c02 c03 c04 c05 c06 c07
  have HX13 : Hid (Bxs (wo.alloc (.cells #[.int .i64 0, .int .i64 0, .int .i64 0, .int .i64 0, .int .i64 0, .int .i64 0, .int .i64 0, .int .i64 0] 24)) [(wo.heap.size, [0, 0, 0, 0, 0, 0, 0, 0]), (wq.heap.size, [a0, a1, a2, a3, a4, a5, a6, a7]), (wv.heap.size, [a0 + (b0 + c0), a1 + (b1 + c1), a2 + (b2 + c2), a3 + (b3 + c3), a4 + (b4 + c4), a5 + (b5 + c5), a6 + (b6 + c6), a7 + (b7 + c7)]), (ww.heap.size, [b0 + c0, b1 + c1, b2 + c2, b3 + c3, b4 + c4, b5 + c5, b6 + c6, b7 + c7]), (wz.heap.size, [(a0 + b0) + c0, (a1 + b1) + c1, (a2 + b2) + c2, (a3 + b3) + c3, (a4 + b4) + c4, (a5 + b5) + c5, (a6 + b6) + c6, (a7 + b7) + c7]), (wy.heap.size, [b0 + a0, b1 + a1, b2 + a2, b3 + a3, b4 + a4, b5 + a5, b6 + a6, b7 + a7]), (wx.heap.size, [a0 + b0, a1 + b1, a2 + b2, a3 + b3, a4 + b4, a5 + b5, a6 + b6, a7 + b7]), (w.heap.size, [a0, a1, a2, a3, a4, a5, a6, a7]), (w.heap.size + 1, [b0, b1, b2, b3, b4, b5, b6, b7]), (w.heap.size + 1 + 1, [c0, c1, c2, c3, c4, c5, c6, c7])]) := (unhide HX12).next0 hbwo [0, 0, 0, 0, 0, 0, 0, 0]
  have HB13 : Hid (Below w.heap.size w (wo.alloc (.cells #[.int .i64 0, .int .i64 0, .int .i64 0, .int .i64 0, .int .i64 0, .int .i64 0, .int .i64 0, .int .i64 0] 24))) := below_next0 (unhide HB12) hbwo
  have HV13 : Hid (Bxs wo [(wq.heap.size, [a0, a1, a2, a3, a4, a5, a6, a7]), (wv.heap.size, [a0 + (b0 + c0), a1 + (b1 + c1), a2 + (b2 + c2), a3 + (b3 + c3), a4 + (b4 + c4), a5 + (b5 + c5), a6 + (b6 + c6), a7 + (b7 + c7)]), (ww.heap.size, [b0 + c0, b1 + c1, b2 + c2, b3 + c3, b4 + c4, b5 + c5, b6 + c6, b7 + c7]), (wz.heap.size, [(a0 + b0) + c0, (a1 + b1) + c1, (a2 + b2) + c2, (a3 + b3) + c3, (a4 + b4) + c4, (a5 + b5) + c5, (a6 + b6) + c6, (a7 + b7) + c7]), (wy.heap.size, [b0 + a0, b1 + a1, b2 + a2, b3 + a3, b4 + a4, b5 + a5, b6 + a6, b7 + a7]), (wx.heap.size, [a0 + b0, a1 + b1, a2 + b2, a3 + b3, a4 + b4, a5 + b5, a6 + b6, a7 + b7]), (w.heap.size, [a0, a1, a2, a3, a4, a5, a6, a7]), (w.heap.size + 1, [b0, b1, b2, b3, b4, b5, b6, b7]), (w.heap.size + 1 + 1, [c0, c1, c2, c3, c4, c5, c6, c7])]) := (unhide HX12).later hbwo
  clear HX12 HB12 hbwo
  have lt0 := ((unhide HV13).get 6 _ _ rfl).lt
  have c00 := ((unhide HV13).get 6 _ _ rfl).cell 0 _ rfl
  have c01 := ((unhide HV13).get 6 _ _ rfl).cell 1 _ rfl
  have c02 := ((unhide HV13).get 6 _ _ rfl).cell 2 _ rfl
  have c03 := ((unhide HV13).get 6 _ _ rfl).cell 3 _ rfl
  have c04 := ((unhide HV13).get 6 _ _ rfl).cell 4 _ rfl
  have c05 := ((unhide HV13).get 6 _ _ rfl).cell 5 _ rfl
  have c06 := ((unhide HV13).get 6 _ _ rfl).cell 6 _ rfl
  have c07 := ((unhide HV13).get 6 _ _ rfl).cell 7 _ rfl
  go_upto_region 16 with (go_at_call 10; refine (mul_none a0 a1 a2 a3 a4 a5 a6 a7 _ _ (heap_new2 _ _ _) (unhide SA)).mono ?_; rintro e wu ⟨rfl, hbwu⟩)
  clear lt0 c00 c01 c02 c03 c04 c05 c06 c07
  have HX14 : Hid (Bxs (wu.alloc (.cells #[.int .i64 a0, .int .i64 a1, .int .i64 a2, .int .i64 a3, .int .i64 a4, .int .i64 a5, .int .i64 a6, .int .i64 a7] 24)) [(wu.heap.size, [a0, a1, a2, a3, a4, a5, a6, a7]), (wo.heap.size, [0, 0, 0, 0, 0, 0, 0, 0]), (wq.heap.size, [a0, a1, a2, a3, a4, a5, a6, a7]), (wv.heap.size, [a0 + (b0 + c0), a1 + (b1 + c1), a2 + (b2 + c2), a3 + (b3 + c3), a4 + (b4 + c4), a5 + (b5 + c5), a6 + (b6 + c6), a7 + (b7 + c7)]), (ww.heap.size, [b0 + c0, b1 + c1, b2 + c2, b3 + c3, b4 + c4, b5 + c5, b6 + c6, b7 + c7]), (wz.heap.size, [(a0 + b0) + c0, (a1 + b1) + c1, (a2 + b2) + c2, (a3 + b3) + c3, (a4 + b4) + c4, (a5 + b5) + c5, (a6 + b6) + c6, (a7 + b7) + c7]), (wy.heap.size, [b0 + a0, b1 + a1, b2 + a2, b3 + a3, b4 + a4, b5 + a5, b6 + a6, b7 + a7]), (wx.heap.size, [a0 + b0, a1 + b1, a2 + b2, a3 + b3, a4 + b4, a5 + b5, a6 + b6, a7 + b7]), (w.heap.size, [a0, a1, a2, a3, a4, a5, a6, a7]), (w.heap.size + 1, [b0, b1, b2, b3, b4, b5, b6, b7]), (w.heap.size + 1 + 1, [c0, c1, c2, c3, c4, c5, c6, c7])]) := (unhide HX13).next hbwu [a0, a1, a2, a3, a4, a5, a6, a7]
  have HB14 : Hid (Below w.heap.size w (wu.alloc (.cells #[.int .i64 a0, .int .i64 a1, .int .i64 a2, .int .i64 a3, .int .i64 a4, .int .i64 a5, .int .i64 a6, .int .i64 a7] 24))) := below_next (unhide HB13) hbwu
  have HV14 : Hid (Bxs wu [(wo.heap.size, [0, 0, 0, 0, 0, 0, 0, 0]), (wq.heap.size, [a0, a1, a2, a3, a4, a5, a6, a7]), (wv.heap.size, [a0 + (b0 + c0), a1 + (b1 + c1), a2 + (b2 + c2), a3 + (b3 + c3), a4 + (b4 + c4), a5 + (b5 + c5), a6 + (b6 + c6), a7 + (b7 + c7)]), (ww.heap.size, [b0 + c0, b1 + c1, b2 + c2, b3 + c3, b4 + c4, b5 + c5, b6 + c6, b7 + c7]), (wz.heap.size, [(a0 + b0) + c0, (a1 + b1) + c1, (a2 + b2) + c2, (a3 + b3) + c3, (a4 + b4) + c4, (a5 + b5) + c5, (a6 + b6) + c6, (a7 + b7) + c7]), (wy.heap.size, [b0 + a0, b1 + a1, b2 + a2, b3 + a3, b4 + a4, b5 + a5, b6 + a6, b7 + a7]), (wx.heap.size, [a0 + b0, a1 + b1, a2 + b2, a3 + b3, a4 + b4, a5 + b5, a6 + b6, a7 + b7]), (w.heap.size, [a0, a1, a2, a3, a4, a5, a6, a7]), (w.heap.size + 1, [b0, b1, b2, b3, b4, b5, b6, b7]), (w.heap.size + 1 + 1, [c0, c1, c2, c3, c4, c5, c6, c7])]) := ((unhide HX13).alloc _).later hbwu
  clear HX13 HB13 hbwu
  have ltwu0 := ((unhide HV14).get 1 _ _ rfl).lt
  have cwu00 := ((unhide HV14).get 1 _ _ rfl).cell 0 _ rfl
  have cwu01 := ((unhide HV14).get 1 _ _ rfl).cell 1 _ rfl
  have cwu02 := ((unhide HV14).get 1 _ _ rfl).cell 2 _ rfl
  have cwu03 := ((unhide HV14).get 1 _ _ rfl).cell 3 _ rfl
  have cwu04 := ((unhide HV14).get 1 _ _ rfl).cell 4 _ rfl
  have cwu05 := ((unhide HV14).get 1 _ _ rfl).cell 5 _ rfl
  have cwu06 := ((unhide HV14).get 1 _ _ rfl).cell 6 _ rfl
  have cwu07 := ((unhide HV14).get 1 _ _ rfl).cell 7 _ rfl
  have ltwu1 := ((unhide HV14).get 0 _ _ rfl).lt
  have cwu10 := ((unhide HV14).get 0 _ _ rfl).cell 0 _ rfl
  have cwu11 := ((unhide HV14).get 0 _ _ rfl).cell 1 _ rfl
  have cwu12 := ((unhide HV14).get 0 _ _ rfl).cell 2 _ rfl
  have cwu13 := ((unhide HV14).get 0 _ _ rfl).cell 3 _ rfl
  have cwu14 := ((unhide HV14).get 0 _ _ rfl).cell 4 _ rfl
  have cwu15 := ((unhide HV14).get 0 _ _ rfl).cell 5 _ rfl
  have cwu16 := ((unhide HV14).get 0 _ _ rfl).cell 6 _ rfl
  have cwu17 := ((unhide HV14).get 0 _ _ rfl).cell 7 _ rfl
  have ltwu2 := ((unhide HV14).get 7 _ _ rfl).lt
  have cwu20 := ((unhide HV14).get 7 _ _ rfl).cell 0 _ rfl
  have cwu21 := ((unhide HV14).get 7 _ _ rfl).cell 1 _ rfl
  have cwu22 := ((unhide HV14).get 7 _ _ rfl).cell 2 _ rfl
  have cwu23 := ((unhide HV14).get 7 _ _ rfl).cell 3 _ rfl
  have cwu24 := ((unhide HV14).get 7 _ _ rfl).cell 4 _ rfl
  have cwu25 := ((unhide HV14).get 7 _ _ rfl).cell 5 _ rfl
  have cwu26 := ((unhide HV14).get 7 _ _ rfl).cell 6 _ rfl
  have cwu27 := ((unhide HV14).get 7 _ _ rfl).cell 7 _ rfl
  have eq1 := eqIn24 a0 a1 a2 a3 a4 a5 a6 a7 a0 a1 a2 a3 a4 a5 a6 a7
  rw [eqB_self] at eq1
  have eq2 := eqIn24 0 0 0 0 0 0 0 0 0 0 0 0 0 0 0 0
  rw [eqB_self] at eq2
  go_upto_region 18 with fail
  clear ltwu0 cwu00 cwu01 cwu02 cwu03 cwu04 cwu05 cwu06 cwu07 ltwu1 cwu10 cwu11 cwu12 cwu13 cwu14 cwu15 cwu16 cwu17 ltwu2 cwu20 cwu21 cwu22 cwu23 cwu24 cwu25 cwu26 cwu27 eq1 eq2
  have lt0 := ((unhide HV14).get 7 _ _ rfl).lt
  have c00 := ((unhide HV14).get 7 _ _ rfl).cell 0 _ rfl
  have c01 := ((unhide HV14).get 7 _ _ rfl).cell 1 _ rfl
  have c02 := ((unhide HV14).get 7 _ _ rfl).cell 2 _ rfl
  have c03 := ((unhide HV14).get 7 _ _ rfl).cell 3 _ rfl
  have c04 := ((unhide HV14).get 7 _ _ rfl).cell 4 _ rfl
  have c05 := ((unhide HV14).get 7 _ _ rfl).cell 5 _ rfl
  have c06 := ((unhide HV14).get 7 _ _ rfl).cell 6 _ rfl
  have c07 := ((unhide HV14).get 7 _ _ rfl).cell 7 _ rfl
  go_upto_region 19 with (go_at_call 17; refine (pow_ok a0 a1 a2 a3 a4 a5 a6 a7 M _ (unhide HA) (by omega)).mono ?_; rintro e wp ⟨rfl, hbwp⟩)
  clear lt0 c00 c01 c02 c03 c04 c05 c06 c07
  have HX15 : Hid (Bxs (wp.alloc (.cells #[.int .i64 (a0 * M), .int .i64 (a1 * M), .int .i64 (a2 * M), .int .i64 (a3 * M), .int .i64 (a4 * M), .int .i64 (a5 * M), .int .i64 (a6 * M), .int .i64 (a7 * M)] 24)) [(wp.heap.size, [a0 * M, a1 * M, a2 * M, a3 * M, a4 * M, a5 * M, a6 * M, a7 * M]), (wu.heap.size, [a0, a1, a2, a3, a4, a5, a6, a7]), (wo.heap.size, [0, 0, 0, 0, 0, 0, 0, 0]), (wq.heap.size, [a0, a1, a2, a3, a4, a5, a6, a7]), (wv.heap.size, [a0 + (b0 + c0), a1 + (b1 + c1), a2 + (b2 + c2), a3 + (b3 + c3), a4 + (b4 + c4), a5 + (b5 + c5), a6 + (b6 + c6), a7 + (b7 + c7)]), (ww.heap.size, [b0 + c0, b1 + c1, b2 + c2, b3 + c3, b4 + c4, b5 + c5, b6 + c6, b7 + c7]), (wz.heap.size, [(a0 + b0) + c0, (a1 + b1) + c1, (a2 + b2) + c2, (a3 + b3) + c3, (a4 + b4) + c4, (a5 + b5) + c5, (a6 + b6) + c6, (a7 + b7) + c7]), (wy.heap.size, [b0 + a0, b1 + a1, b2 + a2, b3 + a3, b4 + a4, b5 + a5, b6 + a6, b7 + a7]), (wx.heap.size, [a0 + b0, a1 + b1, a2 + b2, a3 + b3, a4 + b4, a5 + b5, a6 + b6, a7 + b7]), (w.heap.size, [a0, a1, a2, a3, a4, a5, a6, a7]), (w.heap.size + 1, [b0, b1, b2, b3, b4, b5, b6, b7]), (w.heap.size + 1 + 1, [c0, c1, c2, c3, c4, c5, c6, c7])]) := (unhide HX14).next0 hbwp [a0 * M, a1 * M, a2 * M, a3 * M, a4 * M, a5 * M, a6 * M, a7 * M]
  have HB15 : Hid (Below w.heap.size w (wp.alloc (.cells #[.int .i64 (a0 * M), .int .i64 (a1 * M), .int .i64 (a2 * M), .int .i64 (a3 * M), .int .i64 (a4 * M), .int .i64 (a5 * M), .int .i64 (a6 * M), .int .i64 (a7 * M)] 24))) := below_next0 (unhide HB14) hbwp
  have HV15 : Hid (Bxs wp [(wu.heap.size, [a0, a1, a2, a3, a4, a5, a6, a7]), (wo.heap.size, [0, 0, 0, 0, 0, 0, 0, 0]), (wq.heap.size, [a0, a1, a2, a3, a4, a5, a6, a7]), (wv.heap.size, [a0 + (b0 + c0), a1 + (b1 + c1), a2 + (b2 + c2), a3 + (b3 + c3), a4 + (b4 + c4), a5 + (b5 + c5), a6 + (b6 + c6), a7 + (b7 + c7)]), (ww.heap.size, [b0 + c0, b1 + c1, b2 + c2, b3 + c3, b4 + c4, b5 + c5, b6 + c6, b7 + c7]), (wz.heap.size, [(a0 + b0) + c0, (a1 + b1) + c1, (a2 + b2) + c2, (a3 + b3) + c3, (a4 + b4) + c4, (a5 + b5) + c5, (a6 + b6) + c6, (a7 + b7) + c7]), (wy.heap.size, [b0 + a0, b1 + a1, b2 + a2, b3 + a3, b4 + a4, b5 + a5, b6 + a6, b7 + a7]), (wx.heap.size, [a0 + b0, a1 + b1, a2 + b2, a3 + b3, a4 + b4, a5 + b5, a6 + b6, a7 + b7]), (w.heap.size, [a0, a1, a2, a3, a4, a5, a6, a7]), (w.heap.size + 1, [b0, b1, b2, b3, b4, b5, b6, b7]), (w.heap.size + 1 + 1, [c0, c1, c2, c3, c4, c5, c6, c7])]) := (unhide HX14).later hbwp
  clear HX14 HB14 hbwp
  have lt0 := ((unhide HV15).get 8 _ _ rfl).lt
  have c00 := ((unhide HV15).get 8 _ _ rfl).cell 0 _ rfl
  have c01 := ((unhide HV15).get 8 _ _ rfl).cell 1 _ rfl
  have c02 := ((unhide HV15).get 8 _ _ rfl).cell 2 _ rfl
  have c03 := ((unhide HV15).get 8 _ _ rfl).cell 3 _ rfl
  have c04 := ((unhide HV15).get 8 _ _ rfl).cell 4 _ rfl
  have c05 := ((unhide HV15).get 8 _ _ rfl).cell 5 _ rfl
  have c06 := ((unhide HV15).get 8 _ _ rfl).cell 6 _ rfl
  have c07 := ((unhide HV15).get 8 _ _ rfl).cell 7 _ rfl
  go_upto_region 20 with (go_at_call 17; refine (pow_ok a0 a1 a2 a3 a4 a5 a6 a7 N _ (unhide HA) (by omega)).mono ?_; rintro e wr ⟨rfl, hbwr⟩)
  clear lt0 c00 c01 c02 c03 c04 c05 c06 c07
  have HX16 : Hid (Bxs (wr.alloc (.cells #[.int .i64 (a0 * N), .int .i64 (a1 * N), .int .i64 (a2 * N), .int .i64 (a3 * N), .int .i64 (a4 * N), .int .i64 (a5 * N), .int .i64 (a6 * N), .int .i64 (a7 * N)] 24)) [(wr.heap.size, [a0 * N, a1 * N, a2 * N, a3 * N, a4 * N, a5 * N, a6 * N, a7 * N]), (wp.heap.size, [a0 * M, a1 * M, a2 * M, a3 * M, a4 * M, a5 * M, a6 * M, a7 * M]), (wu.heap.size, [a0, a1, a2, a3, a4, a5, a6, a7]), (wo.heap.size, [0, 0, 0, 0, 0, 0, 0, 0]), (wq.heap.size, [a0, a1, a2, a3, a4, a5, a6, a7]), (wv.heap.size, [a0 + (b0 + c0), a1 + (b1 + c1), a2 + (b2 + c2), a3 + (b3 + c3), a4 + (b4 + c4), a5 + (b5 + c5), a6 + (b6 + c6), a7 + (b7 + c7)]), (ww.heap.size, [b0 + c0, b1 + c1, b2 + c2, b3 + c3, b4 + c4, b5 + c5, b6 + c6, b7 + c7]), (wz.heap.size, [(a0 + b0) + c0, (a1 + b1) + c1, (a2 + b2) + c2, (a3 + b3) + c3, (a4 + b4) + c4, (a5 + b5) + c5, (a6 + b6) + c6, (a7 + b7) + c7]), (wy.heap.size, [b0 + a0, b1 + a1, b2 + a2, b3 + a3, b4 + a4, b5 + a5, b6 + a6, b7 + a7]), (wx.heap.size, [a0 + b0, a1 + b1, a2 + b2, a3 + b3, a4 + b4, a5 + b5, a6 + b6, a7 + b7]), (w.heap.size, [a0, a1, a2, a3, a4, a5, a6, a7]), (w.heap.size + 1, [b0, b1, b2, b3, b4, b5, b6, b7]), (w.heap.size + 1 + 1, [c0, c1, c2, c3, c4, c5, c6, c7])]) := (unhide HX15).next0 hbwr [a0 * N, a1 * N, a2 * N, a3 * N, a4 * N, a5 * N, a6 * N, a7 * N]
  have HB16 : Hid (Below w.heap.size w (wr.alloc (.cells #[.int .i64 (a0 * N), .int .i64 (a1 * N), .int .i64 (a2 * N), .int .i64 (a3 * N), .int .i64 (a4 * N), .int .i64 (a5 * N), .int .i64 (a6 * N), .int .i64 (a7 * N)] 24))) := below_next0 (unhide HB15) hbwr
  have HV16 : Hid (Bxs wr [(wp.heap.size, [a0 * M, a1 * M, a2 * M, a3 * M, a4 * M, a5 * M, a6 * M, a7 * M]), (wu.heap.size, [a0, a1, a2, a3, a4, a5, a6, a7]), (wo.heap.size, [0, 0, 0, 0, 0, 0, 0, 0]), (wq.heap.size, [a0, a1, a2, a3, a4, a5, a6, a7]), (wv.heap.size, [a0 + (b0 + c0), a1 + (b1 + c1), a2 + (b2 + c2), a3 + (b3 + c3), a4 + (b4 + c4), a5 + (b5 + c5), a6 + (b6 + c6), a7 + (b7 + c7)]), (ww.heap.size, [b0 + c0, b1 + c1, b2 + c2, b3 + c3, b4 + c4, b5 + c5, b6 + c6, b7 + c7]), (wz.heap.size, [(a0 + b0) + c0, (a1 + b1) + c1, (a2 + b2) + c2, (a3 + b3) + c3, (a4 + b4) + c4, (a5 + b5) + c5, (a6 + b6) + c6, (a7 + b7) + c7]), (wy.heap.size, [b0 + a0, b1 + a1, b2 + a2, b3 + a3, b4 + a4, b5 + a5, b6 + a6, b7 + a7]), (wx.heap.size, [a0 + b0, a1 + b1, a2 + b2, a3 + b3, a4 + b4, a5 + b5, a6 + b6, a7 + b7]), (w.heap.size, [a0, a1, a2, a3, a4, a5, a6, a7]), (w.heap.size + 1, [b0, b1, b2, b3, b4, b5, b6, b7]), (w.heap.size + 1 + 1, [c0, c1, c2, c3, c4, c5, c6, c7])]) := (unhide HX15).later hbwr
  clear HX15 HB15 hbwr
  have lt0 := ((unhide HV16).get 9 _ _ rfl).lt
  have c00 := ((unhide HV16).get 9 _ _ rfl).cell 0 _ rfl
  have c01 := ((unhide HV16).get 9 _ _ rfl).cell 1 _ rfl
  have c02 := ((unhide HV16).get 9 _ _ rfl).cell 2 _ rfl
  have c03 := ((unhide HV16).get 9 _ _ rfl).cell 3 _ rfl
  have c04 := ((unhide HV16).get 9 _ _ rfl).cell 4 _ rfl
  have c05 := ((unhide HV16).get 9 _ _ rfl).cell 5 _ rfl
  have c06 := ((unhide HV16).get 9 _ _ rfl).cell 6 _ rfl
  have c07 := ((unhide HV16).get 9 _ _ rfl).cell 7 _ rfl
  go_upto_region 21 with (go_at_call 17; refine (pow_ok a0 a1 a2 a3 a4 a5 a6 a7 (M + N) _ (unhide HA) (by omega)).mono ?_; rintro e wS ⟨rfl, hbwS⟩)
  clear lt0 c00 c01 c02 c03 c04 c05 c06 c07
  have HX17 : Hid (Bxs (wS.alloc (.cells #[.int .i64 (a0 * (M + N)), .int .i64 (a1 * (M + N)), .int .i64 (a2 * (M + N)), .int .i64 (a3 * (M + N)), .int .i64 (a4 * (M + N)), .int .i64 (a5 * (M + N)), .int .i64 (a6 * (M + N)), .int .i64 (a7 * (M + N))] 24)) [(wS.heap.size, [a0 * (M + N), a1 * (M + N), a2 * (M + N), a3 * (M + N), a4 * (M + N), a5 * (M + N), a6 * (M + N), a7 * (M + N)]), (wr.heap.size, [a0 * N, a1 * N, a2 * N, a3 * N, a4 * N, a5 * N, a6 * N, a7 * N]), (wp.heap.size, [a0 * M, a1 * M, a2 * M, a3 * M, a4 * M, a5 * M, a6 * M, a7 * M]), (wu.heap.size, [a0, a1, a2, a3, a4, a5, a6, a7]), (wo.heap.size, [0, 0, 0, 0, 0, 0, 0, 0]), (wq.heap.size, [a0, a1, a2, a3, a4, a5, a6, a7]), (wv.heap.size, [a0 + (b0 + c0), a1 + (b1 + c1), a2 + (b2 + c2), a3 + (b3 + c3), a4 + (b4 + c4), a5 + (b5 + c5), a6 + (b6 + c6), a7 + (b7 + c7)]), (ww.heap.size, [b0 + c0, b1 + c1, b2 + c2, b3 + c3, b4 + c4, b5 + c5, b6 + c6, b7 + c7]), (wz.heap.size, [(a0 + b0) + c0, (a1 + b1) + c1, (a2 + b2) + c2, (a3 + b3) + c3, (a4 + b4) + c4, (a5 + b5) + c5, (a6 + b6) + c6, (a7 + b7) + c7]), (wy.heap.size, [b0 + a0, b1 + a1, b2 + a2, b3 + a3, b4 + a4, b5 + a5, b6 + a6, b7 + a7]), (wx.heap.size, [a0 + b0, a1 + b1, a2 + b2, a3 + b3, a4 + b4, a5 + b5, a6 + b6, a7 + b7]), (w.heap.size, [a0, a1, a2, a3, a4, a5, a6, a7]), (w.heap.size + 1, [b0, b1, b2, b3, b4, b5, b6, b7]), (w.heap.size + 1 + 1, [c0, c1, c2, c3, c4, c5, c6, c7])]) := (unhide HX16).next0 hbwS [a0 * (M + N), a1 * (M + N), a2 * (M + N), a3 * (M + N), a4 * (M + N), a5 * (M + N), a6 * (M + N), a7 * (M + N)]
  have HB17 : Hid (Below w.heap.size w (wS.alloc (.cells #[.int .i64 (a0 * (M + N)), .int .i64 (a1 * (M + N)), .int .i64 (a2 * (M + N)), .int .i64 (a3 * (M + N)), .int .i64 (a4 * (M + N)), .int .i64 (a5 * (M + N)), .int .i64 (a6 * (M + N)), .int .i64 (a7 * (M + N))] 24))) := below_next0 (unhide HB16) hbwS
  have HV17 : Hid (Bxs wS [(wr.heap.size, [a0 * N, a1 * N, a2 * N, a3 * N, a4 * N, a5 * N, a6 * N, a7 * N]), (wp.heap.size, [a0 * M, a1 * M, a2 * M, a3 * M, a4 * M, a5 * M, a6 * M, a7 * M]), (wu.heap.size, [a0, a1, a2, a3, a4, a5, a6, a7]), (wo.heap.size, [0, 0, 0, 0, 0, 0, 0, 0]), (wq.heap.size, [a0, a1, a2, a3, a4, a5, a6, a7]), (wv.heap.size, [a0 + (b0 + c0), a1 + (b1 + c1), a2 + (b2 + c2), a3 + (b3 + c3), a4 + (b4 + c4), a5 + (b5 + c5), a6 + (b6 + c6), a7 + (b7 + c7)]), (ww.heap.size, [b0 + c0, b1 + c1, b2 + c2, b3 + c3, b4 + c4, b5 + c5, b6 + c6, b7 + c7]), (wz.heap.size, [(a0 + b0) + c0, (a1 + b1) + c1, (a2 + b2) + c2, (a3 + b3) + c3, (a4 + b4) + c4, (a5 + b5) + c5, (a6 + b6) + c6, (a7 + b7) + c7]), (wy.heap.size, [b0 + a0, b1 + a1, b2 + a2, b3 + a3, b4 + a4, b5 + a5, b6 + a6, b7 + a7]), (wx.heap.size, [a0 + b0, a1 + b1, a2 + b2, a3 + b3, a4 + b4, a5 + b5, a6 + b6, a7 + b7]), (w.heap.size, [a0, a1, a2, a3, a4, a5, a6, a7]), (w.heap.size + 1, [b0, b1, b2, b3, b4, b5, b6, b7]), (w.heap.size + 1 + 1, [c0, c1, c2, c3, c4, c5, c6, c7])]) := (unhide HX16).later hbwS
  clear HX16 HB16 hbwS
  have SP : Hid (Sm 32 [a0 * M, a1 * M, a2 * M, a3 * M, a4 * M, a5 * M, a6 * M, a7 * M]) := (Sm.mulq (p := 16) (q := 2) (unhide HA) hMb)
  have SR : Hid (Sm 64 [a0 * N, a1 * N, a2 * N, a3 * N, a4 * N, a5 * N, a6 * N, a7 * N]) := (Sm.mulq (p := 16) (q := 4) (unhide HA) (by omega))
  have SP1 : Hid (Sm 99 [a0 * M, a1 * M, a2 * M, a3 * M, a4 * M, a5 * M, a6 * M, a7 * M]) := (unhide SP).mono (by omega)
  have SR1 : Hid (Sm 99 [a0 * N, a1 * N, a2 * N, a3 * N, a4 * N, a5 * N, a6 * N, a7 * N]) := (unhide SR).mono (by omega)
  have SPR : Hid (Sm 99 [(a0 * M) + (a0 * N), (a1 * M) + (a1 * N), (a2 * M) + (a2 * N), (a3 * M) + (a3 * N), (a4 * M) + (a4 * N), (a5 * M) + (a5 * N), (a6 * M) + (a6 * N), (a7 * M) + (a7 * N)]) := ((unhide SP).add8 (unhide SR)).mono (by omega)
  have lt0 := ((unhide HV17).get 1 _ _ rfl).lt
  have c00 := ((unhide HV17).get 1 _ _ rfl).cell 0 _ rfl
  have c01 := ((unhide HV17).get 1 _ _ rfl).cell 1 _ rfl
  have c02 := ((unhide HV17).get 1 _ _ rfl).cell 2 _ rfl
  have c03 := ((unhide HV17).get 1 _ _ rfl).cell 3 _ rfl
  have c04 := ((unhide HV17).get 1 _ _ rfl).cell 4 _ rfl
  have c05 := ((unhide HV17).get 1 _ _ rfl).cell 5 _ rfl
  have c06 := ((unhide HV17).get 1 _ _ rfl).cell 6 _ rfl
  have c07 := ((unhide HV17).get 1 _ _ rfl).cell 7 _ rfl
  have lt1 := ((unhide HV17).get 0 _ _ rfl).lt
  have c10 := ((unhide HV17).get 0 _ _ rfl).cell 0 _ rfl
  have c11 := ((unhide HV17).get 0 _ _ rfl).cell 1 _ rfl
  have c12 := ((unhide HV17).get 0 _ _ rfl).cell 2 _ rfl
  have c13 := ((unhide HV17).get 0 _ _ rfl).cell 3 _ rfl
  have c14 := ((unhide HV17).get 0 _ _ rfl).cell 4 _ rfl
  have c15 := ((unhide HV17).get 0 _ _ rfl).cell 5 _ rfl
  have c16 := ((unhide HV17).get 0 _ _ rfl).cell 6 _ rfl
  have c17 := ((unhide HV17).get 0 _ _ rfl).cell 7 _ rfl
  go_upto_region 22 with ((go_at_call 10; refine (mul2_ok (a0 * M) (a1 * M) (a2 * M) (a3 * M) (a4 * M) (a5 * M) (a6 * M) (a7 * M) (a0 * N) (a1 * N) (a2 * N) (a3 * N) (a4 * N) (a5 * N) (a6 * N) (a7 * N) _ _ (heap_new2 _ _ _) (unhide SP1) (unhide SR1) (unhide SPR)).mono ?_; rintro e wt ⟨rfl, hbwt⟩))
  clear lt0 c00 c01 c02 c03 c04 c05 c06 c07 lt1 c10 c11 c12 c13 c14 c15 c16 c17
  have HX18 : Hid (Bxs (wt.alloc (.cells #[.int .i64 ((a0 * M) + (a0 * N)), .int .i64 ((a1 * M) + (a1 * N)), .int .i64 ((a2 * M) + (a2 * N)), .int .i64 ((a3 * M) + (a3 * N)), .int .i64 ((a4 * M) + (a4 * N)), .int .i64 ((a5 * M) + (a5 * N)), .int .i64 ((a6 * M) + (a6 * N)), .int .i64 ((a7 * M) + (a7 * N))] 24)) [(wt.heap.size, [(a0 * M) + (a0 * N), (a1 * M) + (a1 * N), (a2 * M) + (a2 * N), (a3 * M) + (a3 * N), (a4 * M) + (a4 * N), (a5 * M) + (a5 * N), (a6 * M) + (a6 * N), (a7 * M) + (a7 * N)]), (wS.heap.size, [a0 * (M + N), a1 * (M + N), a2 * (M + N), a3 * (M + N), a4 * (M + N), a5 * (M + N), a6 * (M + N), a7 * (M + N)]), (wr.heap.size, [a0 * N, a1 * N, a2 * N, a3 * N, a4 * N, a5 * N, a6 * N, a7 * N]), (wp.heap.size, [a0 * M, a1 * M, a2 * M, a3 * M, a4 * M, a5 * M, a6 * M, a7 * M]), (wu.heap.size, [a0, a1, a2, a3, a4, a5, a6, a7]), (wo.heap.size, [0, 0, 0, 0, 0, 0, 0, 0]), (wq.heap.size, [a0, a1, a2, a3, a4, a5, a6, a7]), (wv.heap.size, [a0 + (b0 + c0), a1 + (b1 + c1), a2 + (b2 + c2), a3 + (b3 + c3), a4 + (b4 + c4), a5 + (b5 + c5), a6 + (b6 + c6), a7 + (b7 + c7)]), (ww.heap.size, [b0 + c0, b1 + c1, b2 + c2, b3 + c3, b4 + c4, b5 + c5, b6 + c6, b7 + c7]), (wz.heap.size, [(a0 + b0) + c0, (a1 + b1) + c1, (a2 + b2) + c2, (a3 + b3) + c3, (a4 + b4) + c4, (a5 + b5) + c5, (a6 + b6) + c6, (a7 + b7) + c7]), (wy.heap.size, [b0 + a0, b1 + a1, b2 + a2, b3 + a3, b4 + a4, b5 + a5, b6 + a6, b7 + a7]), (wx.heap.size, [a0 + b0, a1 + b1, a2 + b2, a3 + b3, a4 + b4, a5 + b5, a6 + b6, a7 + b7]), (w.heap.size, [a0, a1, a2, a3, a4, a5, a6, a7]), (w.heap.size + 1, [b0, b1, b2, b3, b4, b5, b6, b7]), (w.heap.size + 1 + 1, [c0, c1, c2, c3, c4, c5, c6, c7])]) := (unhide HX17).next hbwt [(a0 * M) + (a0 * N), (a1 * M) + (a1 * N), (a2 * M) + (a2 * N), (a3 * M) + (a3 * N), (a4 * M) + (a4 * N), (a5 * M) + (a5 * N), (a6 * M) + (a6 * N), (a7 * M) + (a7 * N)]
  have HB18 : Hid (Below w.heap.size w (wt.alloc (.cells #[.int .i64 ((a0 * M) + (a0 * N)), .int .i64 ((a1 * M) + (a1 * N)), .int .i64 ((a2 * M) + (a2 * N)), .int .i64 ((a3 * M) + (a3 * N)), .int .i64 ((a4 * M) + (a4 * N)), .int .i64 ((a5 * M) + (a5 * N)), .int .i64 ((a6 * M) + (a6 * N)), .int .i64 ((a7 * M) + (a7 * N))] 24))) := below_next (unhide HB17) hbwt
  have HV18 : Hid (Bxs wt [(wS.heap.size, [a0 * (M + N), a1 * (M + N), a2 * (M + N), a3 * (M + N), a4 * (M + N), a5 * (M + N), a6 * (M + N), a7 * (M + N)]), (wr.heap.size, [a0 * N, a1 * N, a2 * N, a3 * N, a4 * N, a5 * N, a6 * N, a7 * N]), (wp.heap.size, [a0 * M, a1 * M, a2 * M, a3 * M, a4 * M, a5 * M, a6 * M, a7 * M]), (wu.heap.size, [a0, a1, a2, a3, a4, a5, a6, a7]), (wo.heap.size, [0, 0, 0, 0, 0, 0, 0, 0]), (wq.heap.size, [a0, a1, a2, a3, a4, a5, a6, a7]), (wv.heap.size, [a0 + (b0 + c0), a1 + (b1 + c1), a2 + (b2 + c2), a3 + (b3 + c3), a4 + (b4 + c4), a5 + (b5 + c5), a6 + (b6 + c6), a7 + (b7 + c7)]), (ww.heap.size, [b0 + c0, b1 + c1, b2 + c2, b3 + c3, b4 + c4, b5 + c5, b6 + c6, b7 + c7]), (wz.heap.size, [(a0 + b0) + c0, (a1 + b1) + c1, (a2 + b2) + c2, (a3 + b3) + c3, (a4 + b4) + c4, (a5 + b5) + c5, (a6 + b6) + c6, (a7 + b7) + c7]), (wy.heap.size, [b0 + a0, b1 + a1, b2 + a2, b3 + a3, b4 + a4, b5 + a5, b6 + a6, b7 + a7]), (wx.heap.size, [a0 + b0, a1 + b1, a2 + b2, a3 + b3, a4 + b4, a5 + b5, a6 + b6, a7 + b7]), (w.heap.size, [a0, a1, a2, a3, a4, a5, a6, a7]), (w.heap.size + 1, [b0, b1, b2, b3, b4, b5, b6, b7]), (w.heap.size + 1 + 1, [c0, c1, c2, c3, c4, c5, c6, c7])]) := ((unhide HX17).alloc _).later hbwt
  clear HX17 HB17 hbwt
  have lt0 := ((unhide HV18).get 1 _ _ rfl).lt
  have c00 := ((unhide HV18).get 1 _ _ rfl).cell 0 _ rfl
  have c01 := ((unhide HV18).get 1 _ _ rfl).cell 1 _ rfl
  have c02 := ((unhide HV18).get 1 _ _ rfl).cell 2 _ rfl
  have c03 := ((unhide HV18).get 1 _ _ rfl).cell 3 _ rfl
  have c04 := ((unhide HV18).get 1 _ _ rfl).cell 4 _ rfl
  have c05 := ((unhide HV18).get 1 _ _ rfl).cell 5 _ rfl
  have c06 := ((unhide HV18).get 1 _ _ rfl).cell 6 _ rfl
  have c07 := ((unhide HV18).get 1 _ _ rfl).cell 7 _ rfl
  go_upto_region 23 with (go_at_call 19; refine (root_ok a0 a1 a2 a3 a4 a5 a6 a7 N _ (unhide HA) hNb).mono ?_; rintro e wk ⟨rfl, hbwk⟩)
  clear lt0 c00 c01 c02 c03 c04 c05 c06 c07
  have HX19 : Hid (Bxs (wk.alloc (.cells #[.int .i64 a0, .int .i64 a1, .int .i64 a2, .int .i64 a3, .int .i64 a4, .int .i64 a5, .int .i64 a6, .int .i64 a7] 24)) [(wk.heap.size, [a0, a1, a2, a3, a4, a5, a6, a7]), (wt.heap.size, [(a0 * M) + (a0 * N), (a1 * M) + (a1 * N), (a2 * M) + (a2 * N), (a3 * M) + (a3 * N), (a4 * M) + (a4 * N), (a5 * M) + (a5 * N), (a6 * M) + (a6 * N), (a7 * M) + (a7 * N)]), (wS.heap.size, [a0 * (M + N), a1 * (M + N), a2 * (M + N), a3 * (M + N), a4 * (M + N), a5 * (M + N), a6 * (M + N), a7 * (M + N)]), (wr.heap.size, [a0 * N, a1 * N, a2 * N, a3 * N, a4 * N, a5 * N, a6 * N, a7 * N]), (wp.heap.size, [a0 * M, a1 * M, a2 * M, a3 * M, a4 * M, a5 * M, a6 * M, a7 * M]), (wu.heap.size, [a0, a1, a2, a3, a4, a5, a6, a7]), (wo.heap.size, [0, 0, 0, 0, 0, 0, 0, 0]), (wq.heap.size, [a0, a1, a2, a3, a4, a5, a6, a7]), (wv.heap.size, [a0 + (b0 + c0), a1 + (b1 + c1), a2 + (b2 + c2), a3 + (b3 + c3), a4 + (b4 + c4), a5 + (b5 + c5), a6 + (b6 + c6), a7 + (b7 + c7)]), (ww.heap.size, [b0 + c0, b1 + c1, b2 + c2, b3 + c3, b4 + c4, b5 + c5, b6 + c6, b7 + c7]), (wz.heap.size, [(a0 + b0) + c0, (a1 + b1) + c1, (a2 + b2) + c2, (a3 + b3) + c3, (a4 + b4) + c4, (a5 + b5) + c5, (a6 + b6) + c6, (a7 + b7) + c7]), (wy.heap.size, [b0 + a0, b1 + a1, b2 + a2, b3 + a3, b4 + a4, b5 + a5, b6 + a6, b7 + a7]), (wx.heap.size, [a0 + b0, a1 + b1, a2 + b2, a3 + b3, a4 + b4, a5 + b5, a6 + b6, a7 + b7]), (w.heap.size, [a0, a1, a2, a3, a4, a5, a6, a7]), (w.heap.size + 1, [b0, b1, b2, b3, b4, b5, b6, b7]), (w.heap.size + 1 + 1, [c0, c1, c2, c3, c4, c5, c6, c7])]) := (unhide HX18).next0 hbwk [a0, a1, a2, a3, a4, a5, a6, a7]
  have HB19 : Hid (Below w.heap.size w (wk.alloc (.cells #[.int .i64 a0, .int .i64 a1, .int .i64 a2, .int .i64 a3, .int .i64 a4, .int .i64 a5, .int .i64 a6, .int .i64 a7] 24))) := below_next0 (unhide HB18) hbwk
  have HV19 : Hid (Bxs wk [(wt.heap.size, [(a0 * M) + (a0 * N), (a1 * M) + (a1 * N), (a2 * M) + (a2 * N), (a3 * M) + (a3 * N), (a4 * M) + (a4 * N), (a5 * M) + (a5 * N), (a6 * M) + (a6 * N), (a7 * M) + (a7 * N)]), (wS.heap.size, [a0 * (M + N), a1 * (M + N), a2 * (M + N), a3 * (M + N), a4 * (M + N), a5 * (M + N), a6 * (M + N), a7 * (M + N)]), (wr.heap.size, [a0 * N, a1 * N, a2 * N, a3 * N, a4 * N, a5 * N, a6 * N, a7 * N]), (wp.heap.size, [a0 * M, a1 * M, a2 * M, a3 * M, a4 * M, a5 * M, a6 * M, a7 * M]), (wu.heap.size, [a0, a1, a2, a3, a4, a5, a6, a7]), (wo.heap.size, [0, 0, 0, 0, 0, 0, 0, 0]), (wq.heap.size, [a0, a1, a2, a3, a4, a5, a6, a7]), (wv.heap.size, [a0 + (b0 + c0), a1 + (b1 + c1), a2 + (b2 + c2), a3 + (b3 + c3), a4 + (b4 + c4), a5 + (b5 + c5), a6 + (b6 + c6), a7 + (b7 + c7)]), (ww.heap.size, [b0 + c0, b1 + c1, b2 + c2, b3 + c3, b4 + c4, b5 + c5, b6 + c6, b7 + c7]), (wz.heap.size, [(a0 + b0) + c0, (a1 + b1) + c1, (a2 + b2) + c2, (a3 + b3) + c3, (a4 + b4) + c4, (a5 + b5) + c5, (a6 + b6) + c6, (a7 + b7) + c7]), (wy.heap.size, [b0 + a0, b1 + a1, b2 + a2, b3 + a3, b4 + a4, b5 + a5, b6 + a6, b7 + a7]), (wx.heap.size, [a0 + b0, a1 + b1, a2 + b2, a3 + b3, a4 + b4, a5 + b5, a6 + b6, a7 + b7]), (w.heap.size, [a0, a1, a2, a3, a4, a5, a6, a7]), (w.heap.size + 1, [b0, b1, b2, b3, b4, b5, b6, b7]), (w.heap.size + 1 + 1, [c0, c1, c2, c3, c4, c5, c6, c7])]) := (unhide HX18).later hbwk
  clear HX18 HB18 hbwk
  have ltwk0 := ((unhide HV19).get 1 _ _ rfl).lt
  have cwk00 := ((unhide HV19).get 1 _ _ rfl).cell 0 _ rfl
  have cwk01 := ((unhide HV19).get 1 _ _ rfl).cell 1 _ rfl
  have cwk02 := ((unhide HV19).get 1 _ _ rfl).cell 2 _ rfl
  have cwk03 := ((unhide HV19).get 1 _ _ rfl).cell 3 _ rfl
  have cwk04 := ((unhide HV19).get 1 _ _ rfl).cell 4 _ rfl
  have cwk05 := ((unhide HV19).get 1 _ _ rfl).cell 5 _ rfl
  have cwk06 := ((unhide HV19).get 1 _ _ rfl).cell 6 _ rfl
  have cwk07 := ((unhide HV19).get 1 _ _ rfl).cell 7 _ rfl
  have ltwk1 := ((unhide HV19).get 0 _ _ rfl).lt
  have cwk10 := ((unhide HV19).get 0 _ _ rfl).cell 0 _ rfl
  have cwk11 := ((unhide HV19).get 0 _ _ rfl).cell 1 _ rfl
  have cwk12 := ((unhide HV19).get 0 _ _ rfl).cell 2 _ rfl
  have cwk13 := ((unhide HV19).get 0 _ _ rfl).cell 3 _ rfl
  have cwk14 := ((unhide HV19).get 0 _ _ rfl).cell 4 _ rfl
  have cwk15 := ((unhide HV19).get 0 _ _ rfl).cell 5 _ rfl
  have cwk16 := ((unhide HV19).get 0 _ _ rfl).cell 6 _ rfl
  have cwk17 := ((unhide HV19).get 0 _ _ rfl).cell 7 _ rfl
  have ltwk2 := ((unhide HV19).get 12 _ _ rfl).lt
  have cwk20 := ((unhide HV19).get 12 _ _ rfl).cell 0 _ rfl
  have cwk21 := ((unhide HV19).get 12 _ _ rfl).cell 1 _ rfl
  have cwk22 := ((unhide HV19).get 12 _ _ rfl).cell 2 _ rfl
  have cwk23 := ((unhide HV19).get 12 _ _ rfl).cell 3 _ rfl
  have cwk24 := ((unhide HV19).get 12 _ _ rfl).cell 4 _ rfl
  have cwk25 := ((unhide HV19).get 12 _ _ rfl).cell 5 _ rfl
  have cwk26 := ((unhide HV19).get 12 _ _ rfl).cell 6 _ rfl
  have cwk27 := ((unhide HV19).get 12 _ _ rfl).cell 7 _ rfl
  have es := eqIn24 (a0 * (M + N)) (a1 * (M + N)) (a2 * (M + N)) (a3 * (M + N)) (a4 * (M + N)) (a5 * (M + N)) (a6 * (M + N)) (a7 * (M + N)) ((a0 * M) + (a0 * N)) ((a1 * M) + (a1 * N)) ((a2 * M) + (a2 * N)) ((a3 * M) + (a3 * N)) ((a4 * M) + (a4 * N)) ((a5 * M) + (a5 * N)) ((a6 * M) + (a6 * N)) ((a7 * M) + (a7 * N))
  rw [eqB_of (by simp only [Int.mul_add])] at es
  have ek := eqIn24 a0 a1 a2 a3 a4 a5 a6 a7 a0 a1 a2 a3 a4 a5 a6 a7
  rw [eqB_self] at ek
  go_wp2_with (go_at_call 21; refine (known_any _ ((unhide HT).later (unhide HB19))).mono ?_; rintro e wf ⟨rfl, hbf⟩)
  go_ret
  exact ⟨rfl, (unhide HB19).trans (hbf.mono (unhide HB19).size)⟩
end Go.Proofs.YtccnbnfafhpeaaaDoor

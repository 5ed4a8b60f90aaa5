/- si.Find (11). -/
import Derived.Test.YthcbhnggphdflaaGreatDoorLimb2
import Derived.Test.YthcbhnggphdflaaGreatDoorSiF
namespace Go.Proofs.YthcbhnggphdflaaGreatDoor
open Go.RowKit
set_option maxRecDepth 100000 in
set_option maxHeartbeats 4000000 in
theorem told_walk (ev : Nat → Int) (n d tk : Int) (nm sy fn fd : ByteArray) (w : World)
  (hdi : ∀ W, Below w.heap.size w W → Calls Tryz.prog 50 #[.agg #[I (ev 0), I (ev 1), I (ev 2), I (ev 3), I (ev 4), I (ev 5), I (ev 6), I (ev 7), I n, I d], .agg partsA] W fun r w' => r = .returned (.agg #[I (ev 0), I (ev 1), I (ev 2), I (ev 3), I (ev 4), I (ev 5), I (ev 6), I (ev 7)]) ∧ Below W.heap.size W w')
  (hfa : ∀ W, Below w.heap.size w W → Calls Tryz.prog 51 #[.agg #[I (ev 0), I (ev 1), I (ev 2), I (ev 3), I (ev 4), I (ev 5), I (ev 6), I (ev 7), I n, I d], .agg partsA] W fun r w' => r = .returned (.agg #[.string fn, .string fd]) ∧ Below W.heap.size W w')
  (hze : ∀ W, Below w.heap.size w W → Calls Tryz.prog 52 #[I 0] W fun r w' => r = .returned (.agg #[.string ⟨#[48]⟩, .string ⟨#[49]⟩]) ∧ Below W.heap.size W w') :
  Calls Tryz.prog 23 #[.agg #[.string nm, .string sy, I tk, I (ev 0), I (ev 1), I (ev 2), I (ev 3), I (ev 4), I (ev 5), I (ev 6), I (ev 7), I n, I d], .agg partsA] w fun r w' => r = .returned (.agg #[.string nm, .string sy, I (ev 0), I (ev 1), I (ev 2), I (ev 3), I (ev 4), I (ev 5), I (ev 6), I (ev 7), .string fn, .string fd, .string ⟨#[48]⟩, .string ⟨#[49]⟩, I tk]) ∧ Below w.heap.size w w' := by
 obtain ⟨pL, hpL, HLN⟩ : ∃ pL : List Value, pL.toArray = partsA ∧ Hid (pL.length = 120) := ⟨partsA.toList, by simp, by show _ = _; rw [Array.length_toList]; exact partsA_size⟩
 rw [← hpL] at hdi hfa ⊢
 clear hpL
 obtain ⟨V, hV⟩ : ∃ V, V = ((w.alloc (.cells #[.string nm, .string sy, I tk, I (ev 0), I (ev 1), I (ev 2), I (ev 3), I (ev 4), I (ev 5), I (ev 6), I (ev 7), I n, I d] 57)).alloc (.cells pL.toArray 48)).alloc (.cells z15 30) := ⟨_, rfl⟩
 have HB0 : Hid (Below w.heap.size w V) := by rw [hV]; exact (((Below.refl _ _).alloc (Nat.le_refl _) _).alloc (by simp) _).alloc (by simp; omega) _
 have HA0 : Hid (OwnU V w.heap.size 57 #[.string nm, .string sy, I tk, I (ev 0), I (ev 1), I (ev 2), I (ev 3), I (ev 4), I (ev 5), I (ev 6), I (ev 7), I n, I d]) := by rw [hV]; exact ((OwnU.new _ _ _).alloc _).alloc _
 have HO0 : Hid (OwnU V (w.heap.size + 1) 48 pL.toArray) := by rw [hV]; have h := OwnU.new (w.alloc (.cells #[.string nm, .string sy, I tk, I (ev 0), I (ev 1), I (ev 2), I (ev 3), I (ev 4), I (ev 5), I (ev 6), I (ev 7), I n, I d] 57)) pL.toArray 48; rw [Dm.size_alloc] at h; exact h.alloc _
 have HR0 : Hid (OwnU V (w.heap.size + 1 + 1) 30 z15) := by rw [hV]; have h := OwnU.new ((w.alloc (.cells #[.string nm, .string sy, I tk, I (ev 0), I (ev 1), I (ev 2), I (ev 3), I (ev 4), I (ev 5), I (ev 6), I (ev 7), I n, I d] 57)).alloc (.cells pL.toArray 48)) z15 30; rw [Dm.size_alloc, Dm.size_alloc] at h; exact h
 have HDI := hide hdi; have HFA := hide hfa; have HZE := hide hze
 have HSS : Hid (∀ W' : World, OwnU W' w.heap.size 57 #[.string nm, .string sy, I tk, I (ev 0), I (ev 1), I (ev 2), I (ev 3), I (ev 4), I (ev 5), I (ev 6), I (ev 7), I n, I d] → OwnU W' (w.heap.size + 1) 48 pL.toArray → W'.cell? ⟨w.heap.size, 0, none⟩ = some (.string nm) ∧ W'.cell? ⟨w.heap.size, 1, none⟩ = some (.string sy) ∧ W'.cell? ⟨w.heap.size, 2, none⟩ = some (I tk) ∧ W'.cell? ⟨w.heap.size, 3, none⟩ = some (I (ev 0)) ∧ W'.cell? ⟨w.heap.size, 4, none⟩ = some (I (ev 1)) ∧ W'.cell? ⟨w.heap.size, 5, none⟩ = some (I (ev 2)) ∧ W'.cell? ⟨w.heap.size, 6, none⟩ = some (I (ev 3)) ∧ W'.cell? ⟨w.heap.size, 7, none⟩ = some (I (ev 4)) ∧ W'.cell? ⟨w.heap.size, 8, none⟩ = some (I (ev 5)) ∧ W'.cell? ⟨w.heap.size, 9, none⟩ = some (I (ev 6)) ∧ W'.cell? ⟨w.heap.size, 10, none⟩ = some (I (ev 7)) ∧ W'.cell? ⟨w.heap.size, 11, none⟩ = some (I n) ∧ W'.cell? ⟨w.heap.size, 12, none⟩ = some (I d) ∧ W'.rangeAt (w.heap.size + 1) 0 pL) := fun W' h1 h2 => ⟨h1.ub.c 0 _ rfl, h1.ub.c 1 _ rfl, h1.ub.c 2 _ rfl, h1.ub.c 3 _ rfl, h1.ub.c 4 _ rfl, h1.ub.c 5 _ rfl, h1.ub.c 6 _ rfl, h1.ub.c 7 _ rfl, h1.ub.c 8 _ rfl, h1.ub.c 9 _ rfl, h1.ub.c 10 _ rfl, h1.ub.c 11 _ rfl, h1.ub.c 12 _ rfl, h2.mid 0 pL (fun j v h => by simpa using h)⟩
 have HV := hide hV
 clear hV hdi hfa hze
 go_enter Tryz.func23, Tryz.ntmps23
 go_upto_region 1 with fail
 rw [← un HV]
 clear HV
 have HA1 : Hid (OwnU V.drew w.heap.size 57 #[.string nm, .string sy, I tk, I (ev 0), I (ev 1), I (ev 2), I (ev 3), I (ev 4), I (ev 5), I (ev 6), I (ev 7), I n, I d]) := un HA0
 have HO1 : Hid (OwnU V.drew (w.heap.size + 1) 48 pL.toArray) := un HO0
 have HR1 : Hid (OwnU V.drew (w.heap.size + 1 + 1) 30 z15) := un HR0
 have HB1 : Hid (Below w.heap.size w V.drew) := (un HB0).drew
 clear HA0 HO0 HR0 HB0
 have HS0 := hide (un HSS _ (un HA1) (un HO1))
 refine region_reads 19 (fun _ => True) (fun W' => W'.cell? ⟨w.heap.size, 0, none⟩ = some (.string nm) ∧ W'.cell? ⟨w.heap.size, 1, none⟩ = some (.string sy) ∧ W'.cell? ⟨w.heap.size, 2, none⟩ = some (I tk) ∧ W'.cell? ⟨w.heap.size, 3, none⟩ = some (I (ev 0)) ∧ W'.cell? ⟨w.heap.size, 4, none⟩ = some (I (ev 1)) ∧ W'.cell? ⟨w.heap.size, 5, none⟩ = some (I (ev 2)) ∧ W'.cell? ⟨w.heap.size, 6, none⟩ = some (I (ev 3)) ∧ W'.cell? ⟨w.heap.size, 7, none⟩ = some (I (ev 4)) ∧ W'.cell? ⟨w.heap.size, 8, none⟩ = some (I (ev 5)) ∧ W'.cell? ⟨w.heap.size, 9, none⟩ = some (I (ev 6)) ∧ W'.cell? ⟨w.heap.size, 10, none⟩ = some (I (ev 7)) ∧ W'.cell? ⟨w.heap.size, 11, none⟩ = some (I n) ∧ W'.cell? ⟨w.heap.size, 12, none⟩ = some (I d) ∧ W'.rangeAt (w.heap.size + 1) 0 pL) 20 rfl (by kernel_rfl) ?_
 generalize V.drew = U1 at *
 refine wpR_take7 (i := 0) (oi := _) (v := .pointer (some ⟨w.heap.size, 0, none⟩)) rfl (by kernel_rfl) (by kernel_rfl) (by kernel_rfl) (by kernel_rfl) (fun _ _ _ h => h) (Or.inl ⟨by rfl, ?_⟩) ⟨trivial, un HS0⟩ ?_
 ·intro W' hW
  go_split_ands
  go_simp
 refine wpR_take7 (i := 1) (oi := _) (v := .pointer (some ⟨w.heap.size, 0, none⟩)) rfl (by kernel_rfl) (by kernel_rfl) (by kernel_rfl) (by kernel_rfl) (fun _ _ _ h => h) (Or.inl ⟨by rfl, ?_⟩) ⟨trivial, un HS0⟩ ?_
 ·intro W' hW
  go_split_ands
  go_simp
 refine wpR_take7 (i := 2) (oi := _) (v := .string nm) rfl (by kernel_rfl) (by kernel_rfl) (by kernel_rfl) (by kernel_rfl) (fun _ _ _ h => h) (Or.inl ⟨by rfl, ?_⟩) ⟨trivial, un HS0⟩ ?_
 ·intro W' hW
  go_split_ands
  go_simp
 refine wpR_take7 (i := 3) (oi := _) (v := .pointer (some ⟨w.heap.size, 0, none⟩)) rfl (by kernel_rfl) (by kernel_rfl) (by kernel_rfl) (by kernel_rfl) (fun _ _ _ h => h) (Or.inl ⟨by rfl, ?_⟩) ⟨trivial, un HS0⟩ ?_
 ·intro W' hW
  go_split_ands
  go_simp
 refine wpR_take7 (i := 4) (oi := _) (v := .pointer (some ⟨w.heap.size, 1, none⟩)) rfl (by kernel_rfl) (by kernel_rfl) (by kernel_rfl) (by kernel_rfl) (fun _ _ _ h => h) (Or.inl ⟨by rfl, ?_⟩) ⟨trivial, un HS0⟩ ?_
 ·intro W' hW
  go_split_ands
  go_simp
 refine wpR_take7 (i := 5) (oi := _) (v := .string sy) rfl (by kernel_rfl) (by kernel_rfl) (by kernel_rfl) (by kernel_rfl) (fun _ _ _ h => h) (Or.inl ⟨by rfl, ?_⟩) ⟨trivial, un HS0⟩ ?_
 ·intro W' hW
  go_split_ands
  go_simp
 refine wpR_take7 (i := 6) (oi := _) (v := .pointer (some ⟨w.heap.size, 3, none⟩)) rfl (by kernel_rfl) (by kernel_rfl) (by kernel_rfl) (by kernel_rfl) (fun _ _ _ h => h) (Or.inl ⟨by rfl, ?_⟩) ⟨trivial, un HS0⟩ ?_
 ·intro W' hW
  go_split_ands
  go_simp
 refine wpR_take7 (i := 7) (oi := _) (v := .agg #[I (ev 0), I (ev 1), I (ev 2), I (ev 3), I (ev 4), I (ev 5), I (ev 6), I (ev 7), I n, I d]) rfl (by kernel_rfl) (by kernel_rfl) (by kernel_rfl) (by kernel_rfl) (fun _ _ _ h => h) (Or.inl ⟨by rfl, ?_⟩) ⟨trivial, un HS0⟩ ?_
 ·intro W' hW
  go_split_ands
  go_simp
 refine wpR_take7 (i := 8) (oi := _) (v := .agg pL.toArray) rfl (by kernel_rfl) (by kernel_rfl) (by kernel_rfl) (by kernel_rfl) (fun _ _ _ h => h) ?_ ⟨trivial, un HS0⟩ ?_
 ·refine yieldsIf_load_mid (by kernel_rfl) 48 (.tmp 3) (by kernel_rfl) (w.heap.size + 1) 0 (by kernel_rfl) pL _ (fun W' hW => hW.2.2.2.2.2.2.2.2.2.2.2.2.2) Tryz.underlying48 rfl (by rw [info48, un HLN])
 refine wpR_take7 (i := 10) (oi := _) (v := .pointer (some ⟨w.heap.size, 3, none⟩)) rfl (by kernel_rfl) (by kernel_rfl) (by kernel_rfl) (by kernel_rfl) (fun _ _ _ h => h) (Or.inl ⟨by rfl, ?_⟩) ⟨trivial, un HS0⟩ ?_
 ·intro W' hW
  go_split_ands
  go_simp
 refine wpR_take7 (i := 11) (oi := _) (v := .agg #[I (ev 0), I (ev 1), I (ev 2), I (ev 3), I (ev 4), I (ev 5), I (ev 6), I (ev 7), I n, I d]) rfl (by kernel_rfl) (by kernel_rfl) (by kernel_rfl) (by kernel_rfl) (fun _ _ _ h => h) (Or.inl ⟨by rfl, ?_⟩) ⟨trivial, un HS0⟩ ?_
 ·intro W' hW
  go_split_ands
  go_simp
 refine wpR_take7 (i := 12) (oi := _) (v := .agg pL.toArray) rfl (by kernel_rfl) (by kernel_rfl) (by kernel_rfl) (by kernel_rfl) (fun _ _ _ h => h) ?_ ⟨trivial, un HS0⟩ ?_
 ·refine yieldsIf_load_mid (by kernel_rfl) 48 (.tmp 3) (by kernel_rfl) (w.heap.size + 1) 0 (by kernel_rfl) pL _ (fun W' hW => hW.2.2.2.2.2.2.2.2.2.2.2.2.2) Tryz.underlying48 rfl (by rw [info48, un HLN])
 refine wpR_take7 (i := 15) (oi := _) (v := .pointer (some ⟨w.heap.size, 0, none⟩)) rfl (by kernel_rfl) (by kernel_rfl) (by kernel_rfl) (by kernel_rfl) (fun _ _ _ h => h) (Or.inl ⟨by rfl, ?_⟩) ⟨trivial, un HS0⟩ ?_
 ·intro W' hW
  go_split_ands
  go_simp
 refine wpR_take7 (i := 16) (oi := _) (v := .pointer (some ⟨w.heap.size, 2, none⟩)) rfl (by kernel_rfl) (by kernel_rfl) (by kernel_rfl) (by kernel_rfl) (fun _ _ _ h => h) (Or.inl ⟨by rfl, ?_⟩) ⟨trivial, un HS0⟩ ?_
 ·intro W' hW
  go_split_ands
  go_simp
 refine wpR_take7 (i := 17) (oi := _) (v := I tk) rfl (by kernel_rfl) (by kernel_rfl) (by kernel_rfl) (by kernel_rfl) (fun _ _ _ h => h) (Or.inl ⟨by rfl, ?_⟩) ⟨trivial, un HS0⟩ ?_
 ·intro W' hW
  go_split_ands
  go_simp
 refine wpR_op (i := 9) (o := _) (by kernel_rfl) rfl rfl (fun K hK => ?_)
 go_simp
 refine (un HDI _ (un HB1)).mono ?_
 rintro e U2 ⟨rfl, hb⟩
 have HA2 := hide ((un HA1).later hb); have HO2 := hide ((un HO1).later hb); have HR2 := hide ((un HR1).later hb); have HB2 : Hid (Below w.heap.size w U2) := (un HB1).trans (hb.mono (un HB1).size)
 clear hb HA1 HO1 HR1 HB1
 refine hK _ _ ⟨trivial, un HSS _ (un HA2) (un HO2)⟩ ?_
 clear hK K
 refine wpR_op (i := 13) (o := _) (by kernel_rfl) rfl rfl (fun K hK => ?_)
 go_simp
 refine (un HFA _ (un HB2)).mono ?_
 rintro e U3 ⟨rfl, hb⟩
 have HA3 := hide ((un HA2).later hb); have HO3 := hide ((un HO2).later hb); have HR3 := hide ((un HR2).later hb); have HB3 : Hid (Below w.heap.size w U3) := (un HB2).trans (hb.mono (un HB2).size)
 clear hb HA2 HO2 HR2 HB2
 refine hK _ _ ⟨trivial, un HSS _ (un HA3) (un HO3)⟩ ?_
 clear hK K
 refine wpR_op (i := 14) (o := _) (by kernel_rfl) rfl rfl (fun K hK => ?_)
 go_simp
 refine (un HZE _ (un HB3)).mono ?_
 rintro e U4 ⟨rfl, hb⟩
 have HA4 := hide ((un HA3).later hb); have HO4 := hide ((un HO3).later hb); have HR4 := hide ((un HR3).later hb); have HB4 : Hid (Below w.heap.size w U4) := (un HB3).trans (hb.mono (un HB3).size)
 clear hb HA3 HO3 HR3 HB3
 refine hK _ _ ⟨trivial, un HSS _ (un HA4) (un HO4)⟩ ?_
 clear hK K
 refine wpR_op (i := 18) (o := _) (by kernel_rfl) rfl rfl (fun K hK => ?_)
 go_simp
 refine hK _ _ ⟨trivial, un HSS _ (un HA4) (un HO4)⟩ ?_
 clear hK K
 refine wpR_late (i := 19) (o := _) (by kernel_rfl) rfl rfl (by kernel_rfl) (fun K hK => ?_)
 refine wp_store_row 30 (.tmp 4) (.tmp 23) rfl (w.heap.size + 1 + 1) #[.string nm, .string sy, I (ev 0), I (ev 1), I (ev 2), I (ev 3), I (ev 4), I (ev 5), I (ev 6), I (ev 7), .string fn, .string fd, .string ⟨#[48]⟩, .string ⟨#[49]⟩, I tk] (by kernel_rfl) (by kernel_rfl) 30 _ (un HR4) (by rw [info27]; rfl) rfl (by kernel_rfl) (hK _ _ (un HSS _ ((un HA4).otherRow (by omega)) ((un HO4).otherRow (by omega))) ?_)
 clear hK K
 refine wpR_done (by kernel_rfl) ?_
 go_wp2_with fail
 exact bodyPost_ret (v := .agg #[.string nm, .string sy, I (ev 0), I (ev 1), I (ev 2), I (ev 3), I (ev 4), I (ev 5), I (ev 6), I (ev 7), .string fn, .string fd, .string ⟨#[48]⟩, .string ⟨#[49]⟩, I tk]) (res30 Tryz.results23 _ _ (w.heap.size + 1 + 1) _ rfl rfl ((un HR4).setRow _)) rfl ⟨rfl, below_setRow (un HB4) (by omega) _⟩
end Go.Proofs.YthcbhnggphdflaaGreatDoor

namespace Go.Proofs.YthcbhnggphdflaaGreatDoor
open Go.RowKit
def evF (s : Su) : Nat → Int
 | 0 => s.e0
 | 1 => s.e1
 | 2 => s.e2
 | 3 => s.e3
 | 4 => s.e4
 | 5 => s.e5
 | 6 => s.e6
 | _ => s.e7
def okE (s : Su) : Bool := [s.e0, s.e1, s.e2, s.e3, s.e4, s.e5, s.e6, s.e7].all fun x => decide (-99 ≤ x ∧ x ≤ 99)
theorem evF_le (s : Su) (h : okE s = true) : ∀ j, -99 ≤ evF s j ∧ evF s j ≤ 99 := by
 simp only [okE, List.all_cons, List.all_nil, Bool.and_true, Bool.and_eq_true, decide_eq_true_eq] at h
 obtain ⟨h0, h1, h2, h3, h4, h5, h6, h7⟩ := h
 intro j
 match j with
 | 0 => exact h0
 | 1 => exact h1
 | 2 => exact h2
 | 3 => exact h3
 | 4 => exact h4
 | 5 => exact h5
 | 6 => exact h6
 | _ + 7 => exact h7
def ruA (s : Su) (fn fd : ByteArray) : Array Value := #[.string s.nm, .string s.sy, I s.e0, I s.e1, I s.e2, I s.e3, I s.e4, I s.e5, I s.e6, I s.e7, .string fn, .string fd, .string ⟨#[48]⟩, .string ⟨#[49]⟩, I s.tk]
theorem told_gen (s : Su) (N D : Nat) (q : Rat) (fn fd : ByteArray) (w : World) (hn : s.n = (N : Int)) (hd : s.d = (D : Int)) (hE : okE s = true) (hN : N < 9223372036854775808) (hD : D < 9223372036854775808) (hD0 : Cub.valQ false D 1 ≠ 0) (hq : Cub.valQ false N 1 * (Cub.valQ false D 1)⁻¹ = q) (hs : IsR fn fd q) (hq1 : q * 1 = q) (htab : Tab w) :
  Calls Tryz.prog 23 #[.agg (suA s), .agg partsA] w fun r w' => r = .returned (.agg (ruA s fn fd)) ∧ Below w.heap.size w w' := by
 unfold suA
 rw [hn, hd]
 refine told_walk (evF s) (N : Int) (D : Int) s.tk s.nm s.sy fn fd w (fun W _ => amtDim (evF s) _ _ W (evF_le s hE)) (fun W hb => ?_) (fun W hb => zero_of W (htab.later hb))
 refine amtFac (evF s) (N : Int) (D : Int) (sT false N) ⟨#[49]⟩ (sT false D) ⟨#[49]⟩ fn fd W (htab.later hb) (evF_le s hE) (fun X hx => ratOf_pos N X hN (htab.later (hb.trans (hx.mono hb.size)))) (fun X hx => ratOf_pos D X hD (htab.later (hb.trans (hx.mono hb.size)))) (fun X hx => ?_) (fun X hx => ?_)
 ·exact ans_of (rquo_ok (sT false N) ⟨#[49]⟩ (sT false D) ⟨#[49]⟩ _ _ X (isR_whole N hN) (isR_whole D hD) hD0 (htab.later (hb.trans (hx.mono hb.size)))) hq hs
 ·exact ans_of (rmul_ok fn fd ⟨#[49]⟩ ⟨#[49]⟩ q 1 X hs isR_one (htab.later (hb.trans (hx.mono hb.size)))) hq1 hs
def sfn : Nat → ByteArray
 | 21 => ⟨#[54, 48]⟩
 | 22 => ⟨#[51, 54, 48, 48]⟩
 | 23 => ⟨#[56, 54, 52, 48, 48]⟩
 | 24 => ⟨#[49]⟩
 | 25 => ⟨#[49, 48, 48, 48]⟩
 | 26 => ⟨#[49, 48, 48, 48, 48, 48]⟩
 | 27 => ⟨#[49, 48, 48, 48, 48]⟩
 | 28 => ⟨#[56]⟩
 | _ => ⟨#[49]⟩
def sfd : Nat → ByteArray
 | 24 => ⟨#[49, 48, 48, 48]⟩
 | _ => ⟨#[49]⟩
def ruT (k : Nat) : Array Value := ruA (sut k) (sfn k) (sfd k)
theorem told_su : ∀ k, k < 29 → ∀ W, Tab W → Calls Tryz.prog 23 #[.agg (suA (sut k)), .agg partsA] W fun r w' => r = .returned (.agg (ruT k)) ∧ Below W.heap.size W w'
 | 0, _ => fun W ht => told_gen (sut 0) 1 1 1 _ _ W rfl rfl (by decide) (by decide) (by decide) (by decide +kernel) (by decide +kernel) isR_one (by decide +kernel) ht
 | 1, _ => fun W ht => told_gen (sut 1) 1 1 1 _ _ W rfl rfl (by decide) (by decide) (by decide) (by decide +kernel) (by decide +kernel) isR_one (by decide +kernel) ht
 | 2, _ => fun W ht => told_gen (sut 2) 1 1 1 _ _ W rfl rfl (by decide) (by decide) (by decide) (by decide +kernel) (by decide +kernel) isR_one (by decide +kernel) ht
 | 3, _ => fun W ht => told_gen (sut 3) 1 1 1 _ _ W rfl rfl (by decide) (by decide) (by decide) (by decide +kernel) (by decide +kernel) isR_one (by decide +kernel) ht
 | 4, _ => fun W ht => told_gen (sut 4) 1 1 1 _ _ W rfl rfl (by decide) (by decide) (by decide) (by decide +kernel) (by decide +kernel) isR_one (by decide +kernel) ht
 | 5, _ => fun W ht => told_gen (sut 5) 1 1 1 _ _ W rfl rfl (by decide) (by decide) (by decide) (by decide +kernel) (by decide +kernel) isR_one (by decide +kernel) ht
 | 6, _ => fun W ht => told_gen (sut 6) 1 1 1 _ _ W rfl rfl (by decide) (by decide) (by decide) (by decide +kernel) (by decide +kernel) isR_one (by decide +kernel) ht
 | 7, _ => fun W ht => told_gen (sut 7) 1 1 1 _ _ W rfl rfl (by decide) (by decide) (by decide) (by decide +kernel) (by decide +kernel) isR_one (by decide +kernel) ht
 | 8, _ => fun W ht => told_gen (sut 8) 1 1 1 _ _ W rfl rfl (by decide) (by decide) (by decide) (by decide +kernel) (by decide +kernel) isR_one (by decide +kernel) ht
 | 9, _ => fun W ht => told_gen (sut 9) 1 1 1 _ _ W rfl rfl (by decide) (by decide) (by decide) (by decide +kernel) (by decide +kernel) isR_one (by decide +kernel) ht
 | 10, _ => fun W ht => told_gen (sut 10) 1 1 1 _ _ W rfl rfl (by decide) (by decide) (by decide) (by decide +kernel) (by decide +kernel) isR_one (by decide +kernel) ht
 | 11, _ => fun W ht => told_gen (sut 11) 1 1 1 _ _ W rfl rfl (by decide) (by decide) (by decide) (by decide +kernel) (by decide +kernel) isR_one (by decide +kernel) ht
 | 12, _ => fun W ht => told_gen (sut 12) 1 1 1 _ _ W rfl rfl (by decide) (by decide) (by decide) (by decide +kernel) (by decide +kernel) isR_one (by decide +kernel) ht
 | 13, _ => fun W ht => told_gen (sut 13) 1 1 1 _ _ W rfl rfl (by decide) (by decide) (by decide) (by decide +kernel) (by decide +kernel) isR_one (by decide +kernel) ht
 | 14, _ => fun W ht => told_gen (sut 14) 1 1 1 _ _ W rfl rfl (by decide) (by decide) (by decide) (by decide +kernel) (by decide +kernel) isR_one (by decide +kernel) ht
 | 15, _ => fun W ht => told_gen (sut 15) 1 1 1 _ _ W rfl rfl (by decide) (by decide) (by decide) (by decide +kernel) (by decide +kernel) isR_one (by decide +kernel) ht
 | 16, _ => fun W ht => told_gen (sut 16) 1 1 1 _ _ W rfl rfl (by decide) (by decide) (by decide) (by decide +kernel) (by decide +kernel) isR_one (by decide +kernel) ht
 | 17, _ => fun W ht => told_gen (sut 17) 1 1 1 _ _ W rfl rfl (by decide) (by decide) (by decide) (by decide +kernel) (by decide +kernel) isR_one (by decide +kernel) ht
 | 18, _ => fun W ht => told_gen (sut 18) 1 1 1 _ _ W rfl rfl (by decide) (by decide) (by decide) (by decide +kernel) (by decide +kernel) isR_one (by decide +kernel) ht
 | 19, _ => fun W ht => told_gen (sut 19) 1 1 1 _ _ W rfl rfl (by decide) (by decide) (by decide) (by decide +kernel) (by decide +kernel) isR_one (by decide +kernel) ht
 | 20, _ => fun W ht => told_gen (sut 20) 1 1 1 _ _ W rfl rfl (by decide) (by decide) (by decide) (by decide +kernel) (by decide +kernel) isR_one (by decide +kernel) ht
 | 21, _ => fun W ht => told_gen (sut 21) 60 1 60 _ _ W rfl rfl (by decide) (by decide) (by decide) (by decide +kernel) (by decide +kernel) (isR_lit2 _ _ 60 1 _ (by decide +kernel) (by decide +kernel) (by decide +kernel) (by decide) (by decide) (by decide) (by decide) (by decide) (by decide)) (by decide +kernel) ht
 | 22, _ => fun W ht => told_gen (sut 22) 3600 1 3600 _ _ W rfl rfl (by decide) (by decide) (by decide) (by decide +kernel) (by decide +kernel) (isR_lit2 _ _ 3600 1 _ (by decide +kernel) (by decide +kernel) (by decide +kernel) (by decide) (by decide) (by decide) (by decide) (by decide) (by decide)) (by decide +kernel) ht
 | 23, _ => fun W ht => told_gen (sut 23) 86400 1 86400 _ _ W rfl rfl (by decide) (by decide) (by decide) (by decide +kernel) (by decide +kernel) (isR_lit2 _ _ 86400 1 _ (by decide +kernel) (by decide +kernel) (by decide +kernel) (by decide) (by decide) (by decide) (by decide) (by decide) (by decide)) (by decide +kernel) ht
 | 24, _ => fun W ht => told_gen (sut 24) 1 1000 (1 / 1000) _ _ W rfl rfl (by decide) (by decide) (by decide) (by decide +kernel) (by decide +kernel) isR_milli (by decide +kernel) ht
 | 25, _ => fun W ht => told_gen (sut 25) 1000 1 1000 _ _ W rfl rfl (by decide) (by decide) (by decide) (by decide +kernel) (by decide +kernel) (isR_lit2 _ _ 1000 1 _ (by decide +kernel) (by decide +kernel) (by decide +kernel) (by decide) (by decide) (by decide) (by decide) (by decide) (by decide)) (by decide +kernel) ht
 | 26, _ => fun W ht => told_gen (sut 26) 100000 1 100000 _ _ W rfl rfl (by decide) (by decide) (by decide) (by decide +kernel) (by decide +kernel) (isR_lit2 _ _ 100000 1 _ (by decide +kernel) (by decide +kernel) (by decide +kernel) (by decide) (by decide) (by decide) (by decide) (by decide) (by decide)) (by decide +kernel) ht
 | 27, _ => fun W ht => told_gen (sut 27) 10000 1 10000 _ _ W rfl rfl (by decide) (by decide) (by decide) (by decide +kernel) (by decide +kernel) (isR_lit2 _ _ 10000 1 _ (by decide +kernel) (by decide +kernel) (by decide +kernel) (by decide) (by decide) (by decide) (by decide) (by decide) (by decide)) (by decide +kernel) ht
 | 28, _ => fun W ht => told_gen (sut 28) 8 1 8 _ _ W rfl rfl (by decide) (by decide) (by decide) (by decide +kernel) (by decide +kernel) (isR_lit2 _ _ 8 1 _ (by decide +kernel) (by decide +kernel) (by decide +kernel) (by decide) (by decide) (by decide) (by decide) (by decide) (by decide)) (by decide +kernel) ht
 | _ + 29, h => absurd h (by omega)
theorem ruT_size (k : Nat) : (ruT k).size = 15 := rfl
/-- What si.Find answers. -/
def FindSi (p : Nat → Bool) (v : Value) : Prop := (∃ k : Nat, k < 29 ∧ IsF29 p (k : Int) ∧ v = .tuple #[.agg (ruT k), .bool true]) ∨ (IsF29 p (-1) ∧ v = .tuple #[.agg z15, .bool false])
theorem FindSi.det {p : Nat → Bool} {v u : Value} (h1 : FindSi p v) (h2 : FindSi p u) : v = u := by
 rcases h1 with ⟨a, ha, fa, rfl⟩ | ⟨fa, rfl⟩ <;> rcases h2 with ⟨c, hc, fc, rfl⟩ | ⟨fc, rfl⟩
 ·have := first29 fa fc
  have e : a = c := by omega
  rw [e]
 ·have := first29 fa fc; omega
 ·have := first29 fa fc; omega
 ·rfl
theorem FindS.no {p : Nat → Bool} {v : Value} (h : FindS p v) (hf : IsF29 p (-1)) : v = .tuple #[.agg z13, .bool false] := by
 rcases h with ⟨a, ha, fa, rfl⟩ | ⟨fa, rfl⟩
 ·have := first29 fa hf; omega
 ·rfl
end Go.Proofs.YthcbhnggphdflaaGreatDoor

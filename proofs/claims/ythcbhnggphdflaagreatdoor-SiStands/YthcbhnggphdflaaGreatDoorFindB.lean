/- The base units by their words. -/
import Derived.Test.YthcbhnggphdflaaGreatDoorLimb2
import Derived.Test.YthcbhnggphdflaaGreatDoorShelfB
import Derived.Test.YthcbhnggphdflaaGreatDoorMid
import Derived.Test.YthcbhnggphdflaaGreatDoorUnit
import Derived.Test.YthcbhnggphdflaaGreatDoorJoule
import Derived.Test.YthcbhnggphdflaaGreatDoorUnit2
import Derived.OwnWalk
import Derived.Laws.AppendOwn
import Derived.Laws.EntriesVeiled
namespace Go.Proofs.YthcbhnggphdflaaGreatDoor
open Go.RowKit
abbrev z15 : Array Value := #[.string ⟨#[]⟩, .string ⟨#[]⟩, I 0, I 0, I 0, I 0, I 0, I 0, I 0, I 0, .string ⟨#[]⟩, .string ⟨#[]⟩, .string ⟨#[]⟩, .string ⟨#[]⟩, I 0]
theorem err_of {s t : ByteArray} {x : Rat} (h : IsR s t x) : errT x = 0 := by
 unfold errT
 rw [if_pos h.1]
theorem ans_of {f : Nat} {args : Array Value} {w : World} {x y : Rat} {s t : ByteArray} (h : Ans f args w (numT x) (denT x) (errT x)) (e : x = y) (hy : IsR s t y) : Ans f args w s t 0 := by
 subst e
 rw [← hy.2.1, ← hy.2.2, err_of hy] at h
 exact h
theorem isR_kilo : IsR ⟨#[49, 48, 48, 48]⟩ ⟨#[49]⟩ 1000 := isR_lit2 _ _ 1000 1 _ (by decide +kernel) (by decide +kernel) (by decide +kernel) (by decide) (by decide) (by decide) (by decide) (by decide) (by decide)
theorem mul_kilo (w : World) (htab : Tab w) : Ans 39 #[.agg #[.string ⟨#[49, 48, 48, 48]⟩, .string ⟨#[49]⟩], .agg #[.string ⟨#[49]⟩, .string ⟨#[49, 48, 48, 48]⟩]] w ⟨#[49]⟩ ⟨#[49]⟩ 0 :=
 ans_of (rmul_ok _ _ _ _ _ _ w isR_kilo isR_milli htab) (by decide +kernel) isR_one
def gramU : Array Value := #[.string ⟨#[103, 114, 97, 109]⟩, .string ⟨#[103]⟩, I 0, I 1, I 0, I 0, I 0, I 0, I 0, I 0, .string ⟨#[49]⟩, .string ⟨#[49, 48, 48, 48]⟩, .string ⟨#[48]⟩, .string ⟨#[49]⟩, I 1]
def kilogramU : Array Value := #[.string ⟨#[107, 105, 108, 111, 103, 114, 97, 109]⟩, .string ⟨#[107, 103]⟩, I 0, I 1, I 0, I 0, I 0, I 0, I 0, I 0, .string ⟨#[49]⟩, .string ⟨#[49]⟩, .string ⟨#[48]⟩, .string ⟨#[49]⟩, I 1]
theorem info127 : (Tryz.prog.info? 127).map (·.size) = some 5 := by kernel_rfl
theorem res30 {fn : Func} {p : Tmp} (h : fn.results = #[.cell p 30]) (tmps : Array Value) (w : World) (g : Nat) (vs : Array Value) (hl : vs.size = 15) (hp : tmps.getD p undef = .pointer (some ⟨g, 0, none⟩)) (ho : OwnU w g 30 vs) :
  (results fn tmps).run Tryz.prog w = .ok (.agg vs) w := by
 rw [results_cell1 h, hp]
 simp only [asAddr, Sem.run_pure, Result.andThen_ok]
 rw [run_loadVar_row w g 30 30 vs (0, 0) _ ho Tryz.underlying30 rfl (by rw [info27, hl])]
set_option maxRecDepth 100000 in
set_option maxHeartbeats 4000000 in
theorem thousand_gram (w : World) (htab : Tab w) : Calls Tryz.prog 40 #[.agg gramU] w fun r w' => r = .returned (.agg kilogramU) ∧ Below w.heap.size w w' := by
 unfold gramU kilogramU
 obtain ⟨V, hV⟩ : ∃ V, V = (w.alloc (.cells #[.string ⟨#[103, 114, 97, 109]⟩, .string ⟨#[103]⟩, I 0, I 1, I 0, I 0, I 0, I 0, I 0, I 0, .string ⟨#[49]⟩, .string ⟨#[49, 48, 48, 48]⟩, .string ⟨#[48]⟩, .string ⟨#[49]⟩, I 1] 30)).alloc (.cells z15 30) := ⟨_, rfl⟩
 have HB : Hid (Below w.heap.size w V) := by rw [hV]; exact ((Below.refl _ _).alloc (Nat.le_refl _) _).alloc (by simp) _
 have HA : Hid (OwnU V w.heap.size 30 #[.string ⟨#[103, 114, 97, 109]⟩, .string ⟨#[103]⟩, I 0, I 1, I 0, I 0, I 0, I 0, I 0, I 0, .string ⟨#[49]⟩, .string ⟨#[49, 48, 48, 48]⟩, .string ⟨#[48]⟩, .string ⟨#[49]⟩, I 1]) := by rw [hV]; exact (OwnU.new _ _ _).alloc _
 have HR : Hid (OwnU V (w.heap.size + 1) 30 z15) := by rw [hV]; have h := OwnU.new (w.alloc (.cells #[.string ⟨#[103, 114, 97, 109]⟩, .string ⟨#[103]⟩, I 0, I 1, I 0, I 0, I 0, I 0, I 0, I 0, .string ⟨#[49]⟩, .string ⟨#[49, 48, 48, 48]⟩, .string ⟨#[48]⟩, .string ⟨#[49]⟩, I 1] 30)) z15 30; rw [Dm.size_alloc] at h; exact h
 have HTA : Hid (∀ W, Below w.heap.size w W → Tab W) := fun W h => htab.later h
 have HV := hide hV
 clear hV htab
 go_enter Tryz.func40, Tryz.ntmps40
 go_upto_region 1 with fail
 rw [← un HV]
 clear HV
 go_upto_region 2 with (first
  | (go_at_call 70; go_must (refine (Pf.find_kilo _ (un HTA _ (un HB))).mono ?_; rintro e w1 ⟨rfl, hb⟩; have HA1 := hide ((un HA).later hb); have HR1 := hide ((un HR).later hb); have HB1 : Hid (Below w.heap.size w w1) := (un HB).trans (hb.mono (un HB).size); clear hb))
  | (refine storeT 127 5 info127 rfl (.tmp 3) (.tmp 7) rfl w1.heap.size #[.string ⟨#[]⟩, .string ⟨#[]⟩, .string ⟨#[]⟩, .string ⟨#[]⟩, .bool false] #[.string ⟨#[107, 105, 108, 111]⟩, .string ⟨#[107]⟩, .string ⟨#[49, 48, 48, 48]⟩, .string ⟨#[49]⟩, .bool false] rfl rfl rfl rfl (OwnU.new _ _ _) (by kernel_rfl) ?_))
 obtain ⟨V2, hV2⟩ : ∃ V2, V2 = (w1.alloc (.cells #[.string ⟨#[]⟩, .string ⟨#[]⟩, .string ⟨#[]⟩, .string ⟨#[]⟩, .bool false] 127)).setRow w1.heap.size #[.string ⟨#[107, 105, 108, 111]⟩, .string ⟨#[107]⟩, .string ⟨#[49, 48, 48, 48]⟩, .string ⟨#[49]⟩, .bool false] := ⟨_, rfl⟩
 have hb2 : Below w1.heap.size w1 V2 := by rw [hV2]; exact below_setRow (albel _ _) (Nat.le_refl _) _
 have HK2 : Hid (OwnU V2 w1.heap.size 127 #[.string ⟨#[107, 105, 108, 111]⟩, .string ⟨#[107]⟩, .string ⟨#[49, 48, 48, 48]⟩, .string ⟨#[49]⟩, .bool false]) := by rw [hV2]; exact (OwnU.new _ _ _).setRow _
 have HA2 := hide ((un HA1).later hb2); have HR2 := hide ((un HR1).later hb2); have HB2 : Hid (Below w.heap.size w V2) := (un HB1).trans (hb2.mono (un HB1).size)
 have HNE : Hid (¬ w1.heap.size = w.heap.size ∧ ¬ w1.heap.size = w.heap.size + 1) := (by have := (un HR1).lt; show _ ∧ _; omega)
 rw [← hV2]
 clear hV2 hb2 HA1 HR1 HB1 HA HR HB
 generalize w1.heap.size = g3 at *
 have HA3 : Hid (OwnU V2.drew w.heap.size 30 #[.string ⟨#[103, 114, 97, 109]⟩, .string ⟨#[103]⟩, I 0, I 1, I 0, I 0, I 0, I 0, I 0, I 0, .string ⟨#[49]⟩, .string ⟨#[49, 48, 48, 48]⟩, .string ⟨#[48]⟩, .string ⟨#[49]⟩, I 1]) := un HA2
 have HR3 : Hid (OwnU V2.drew (w.heap.size + 1) 30 z15) := un HR2
 have HK3 : Hid (OwnU V2.drew g3 127 #[.string ⟨#[107, 105, 108, 111]⟩, .string ⟨#[107]⟩, .string ⟨#[49, 48, 48, 48]⟩, .string ⟨#[49]⟩, .bool false]) := un HK2
 have HB3 : Hid (Below w.heap.size w V2.drew) := (un HB2).drew
 clear HA2 HR2 HK2 HB2
 have HS0 : Hid (V2.drew.cell? ⟨w.heap.size, 0, none⟩ = some (.string ⟨#[103, 114, 97, 109]⟩) ∧ V2.drew.cell? ⟨w.heap.size, 1, none⟩ = some (.string ⟨#[103]⟩)) := ⟨(un HA3).ub.c 0 _ rfl, (un HA3).ub.c 1 _ rfl⟩
 have HS7 : Hid (V2.drew.cell? ⟨g3, 0, none⟩ = some (.string ⟨#[107, 105, 108, 111]⟩) ∧ V2.drew.cell? ⟨g3, 1, none⟩ = some (.string ⟨#[107]⟩)) := ⟨(un HK3).ub.c 0 _ rfl, (un HK3).ub.c 1 _ rfl⟩
 have HF0 := hide ((un HA3).ub.f 0 _ rfl); have HF1 := hide ((un HA3).ub.f 1 _ rfl)
 refine region_reads 11 (fun W' => W'.cell? ⟨w.heap.size, 0, none⟩ = some (.string ⟨#[103, 114, 97, 109]⟩) ∧ W'.cell? ⟨w.heap.size, 1, none⟩ = some (.string ⟨#[103]⟩)) (fun W' => W'.cell? ⟨g3, 0, none⟩ = some (.string ⟨#[107, 105, 108, 111]⟩) ∧ W'.cell? ⟨g3, 1, none⟩ = some (.string ⟨#[107]⟩)) 14 rfl (by kernel_rfl) ?_
 refine wpR_take7 (i := 0) (oi := _) (v := .pointer (some ⟨g3, 0, none⟩)) rfl (by kernel_rfl) (by kernel_rfl) (by kernel_rfl) (by kernel_rfl) (fun _ _ _ h => h) (Or.inl ⟨by rfl, ?_⟩) ⟨un HS0, un HS7⟩ ?_
 ·intro W' hW
  go_split_ands
  go_simp
 refine wpR_take7 (i := 1) (oi := _) (v := .string ⟨#[107, 105, 108, 111]⟩) rfl (by kernel_rfl) (by kernel_rfl) (by kernel_rfl) (by kernel_rfl) (fun _ _ _ h => h) (Or.inl ⟨by rfl, ?_⟩) ⟨un HS0, un HS7⟩ ?_
 ·intro W' hW
  go_split_ands
  go_simp
 refine wpR_take7 (i := 2) (oi := _) (v := .pointer (some ⟨w.heap.size, 0, none⟩)) rfl (by kernel_rfl) (by kernel_rfl) (by kernel_rfl) (by kernel_rfl) (fun _ _ _ h => h) (Or.inl ⟨by rfl, ?_⟩) ⟨un HS0, un HS7⟩ ?_
 ·intro W' hW
  go_split_ands
  go_simp
 refine wpR_take (i := 3) (oi := _) (v := .string ⟨#[103, 114, 97, 109]⟩) rfl (by kernel_rfl) (by kernel_rfl) (by kernel_rfl) (by kernel_rfl) (fun _ _ _ h => h) (Or.inl ⟨by rfl, ?_⟩) ⟨un HS0, un HS7⟩ ?_
 ·intro W' hW
  go_split_ands
  go_simp
 refine wpR_take7 (i := 4) (oi := _) (v := .string ⟨#[107, 105, 108, 111, 103, 114, 97, 109]⟩) rfl (by kernel_rfl) (by kernel_rfl) (by kernel_rfl) (by kernel_rfl) (fun _ _ _ h => h) (Or.inl ⟨by rfl, ?_⟩) ⟨un HS0, un HS7⟩ ?_
 ·intro W' hW
  go_split_ands
  go_simp
  decide
 refine wpR_take7 (i := 5) (oi := _) (v := .pointer (some ⟨g3, 1, none⟩)) rfl (by kernel_rfl) (by kernel_rfl) (by kernel_rfl) (by kernel_rfl) (fun _ _ _ h => h) (Or.inl ⟨by rfl, ?_⟩) ⟨un HS0, un HS7⟩ ?_
 ·intro W' hW
  go_split_ands
  go_simp
 refine wpR_take7 (i := 6) (oi := _) (v := .string ⟨#[107]⟩) rfl (by kernel_rfl) (by kernel_rfl) (by kernel_rfl) (by kernel_rfl) (fun _ _ _ h => h) (Or.inl ⟨by rfl, ?_⟩) ⟨un HS0, un HS7⟩ ?_
 ·intro W' hW
  go_split_ands
  go_simp
 refine wpR_take7 (i := 7) (oi := _) (v := .pointer (some ⟨w.heap.size, 1, none⟩)) rfl (by kernel_rfl) (by kernel_rfl) (by kernel_rfl) (by kernel_rfl) (fun _ _ _ h => h) (Or.inl ⟨by rfl, ?_⟩) ⟨un HS0, un HS7⟩ ?_
 ·intro W' hW
  go_split_ands
  go_simp
 refine wpR_take (i := 8) (oi := _) (v := .string ⟨#[103]⟩) rfl (by kernel_rfl) (by kernel_rfl) (by kernel_rfl) (by kernel_rfl) (fun _ _ _ h => h) (Or.inl ⟨by rfl, ?_⟩) ⟨un HS0, un HS7⟩ ?_
 ·intro W' hW
  go_split_ands
  go_simp
 refine wpR_take7 (i := 9) (oi := _) (v := .string ⟨#[107, 103]⟩) rfl (by kernel_rfl) (by kernel_rfl) (by kernel_rfl) (by kernel_rfl) (fun _ _ _ h => h) (Or.inl ⟨by rfl, ?_⟩) ⟨un HS0, un HS7⟩ ?_
 ·intro W' hW
  go_split_ands
  go_simp
  decide
 refine wpR_take7 (i := 10) (oi := _) (v := .pointer (some ⟨w.heap.size, 0, none⟩)) rfl (by kernel_rfl) (by kernel_rfl) (by kernel_rfl) (by kernel_rfl) (fun _ _ _ h => h) (Or.inl ⟨by rfl, ?_⟩) ⟨un HS0, un HS7⟩ ?_
 ·intro W' hW
  go_split_ands
  go_simp
 generalize V2.drew = U at *
 have a0 := (un HS0).1; have a1 := (un HS0).2
 have f0 := un HF0; have f1 := un HF1
 refine wpR_late (i := 11) (o := _) (by kernel_rfl) rfl rfl (by kernel_rfl) (fun K hK => ?_)
 go_simp
 have HK4 := hide ((un HK3).otherSet (un HNE).1 0 (.string ⟨#[107, 105, 108, 111, 103, 114, 97, 109]⟩))
 refine hK _ _ ⟨(un HK4).ub.c 0 _ rfl, (un HK4).ub.c 1 _ rfl⟩ ?_
 clear hK K
 have HA4 := hide ((un HA3).set 0 (.string ⟨#[107, 105, 108, 111, 103, 114, 97, 109]⟩))
 have HR4 := hide ((un HR3).otherSet (show ¬ w.heap.size + 1 = w.heap.size by omega) 0 (.string ⟨#[107, 105, 108, 111, 103, 114, 97, 109]⟩))
 have HB4 : Hid (Below w.heap.size w (U.setCell ⟨w.heap.size, 0, none⟩ (.string ⟨#[107, 105, 108, 111, 103, 114, 97, 109]⟩))) := (un HB3).setCell (p := ⟨w.heap.size, 0, none⟩) (Nat.le_refl _) _
 clear a0 a1 f0 f1 HA3 HR3 HK3 HB3 HS0 HS7 HF0 HF1
 generalize U.setCell ⟨w.heap.size, 0, none⟩ (.string ⟨#[107, 105, 108, 111, 103, 114, 97, 109]⟩) = U4 at *
 refine wpR_late (i := 12) (o := _) (by kernel_rfl) rfl rfl (by kernel_rfl) (fun K hK => ?_)
 go_simp
 refine hK _ _ ⟨(un HK4).ub.c 0 _ rfl, (un HK4).ub.c 1 _ rfl⟩ ?_
 clear hK K
 have a1 : U4.cell? ⟨w.heap.size, 1, none⟩ = some (.string ⟨#[103]⟩) := (un HA4).ub.c 1 _ rfl
 have f1 : U4.frozen? ⟨w.heap.size, 1, none⟩ = false := (un HA4).ub.f 1 _ rfl
 refine wpR_late (i := 13) (o := _) (by kernel_rfl) rfl rfl (by kernel_rfl) (fun K hK => ?_)
 go_simp
 have HK5 := hide ((un HK4).otherSet (un HNE).1 1 (.string ⟨#[107, 103]⟩))
 refine hK _ _ ⟨(un HK5).ub.c 0 _ rfl, (un HK5).ub.c 1 _ rfl⟩ ?_
 clear hK K
 have HA5 := hide ((un HA4).set 1 (.string ⟨#[107, 103]⟩))
 have HR5 := hide ((un HR4).otherSet (show ¬ w.heap.size + 1 = w.heap.size by omega) 1 (.string ⟨#[107, 103]⟩))
 have HB5 : Hid (Below w.heap.size w (U4.setCell ⟨w.heap.size, 1, none⟩ (.string ⟨#[107, 103]⟩))) := (un HB4).setCell (p := ⟨w.heap.size, 1, none⟩) (Nat.le_refl _) _
 clear a1 f1 HA4 HR4 HK4 HB4
 generalize U4.setCell ⟨w.heap.size, 1, none⟩ (.string ⟨#[107, 103]⟩) = U5 at *
 refine wpR_done (by kernel_rfl) ?_
 have HA6 : Hid (OwnU U5 w.heap.size 30 #[.string ⟨#[107, 105, 108, 111, 103, 114, 97, 109]⟩, .string ⟨#[107, 103]⟩, I 0, I 1, I 0, I 0, I 0, I 0, I 0, I 0, .string ⟨#[49]⟩, .string ⟨#[49, 48, 48, 48]⟩, .string ⟨#[48]⟩, .string ⟨#[49]⟩, I 1]) := un HA5
 clear HA5
 have p2 : U5.cell? ⟨g3, 2, none⟩ = some (.string ⟨#[49, 48, 48, 48]⟩) := (un HK5).ub.c 2 _ rfl
 have p3 : U5.cell? ⟨g3, 3, none⟩ = some (.string ⟨#[49]⟩) := (un HK5).ub.c 3 _ rfl
 have q0 : U5.cell? ⟨w.heap.size, 10, none⟩ = some (.string ⟨#[49]⟩) := (un HA6).ub.c 10 _ rfl
 have q1 : U5.cell? ⟨w.heap.size, 11, none⟩ = some (.string ⟨#[49, 48, 48, 48]⟩) := (un HA6).ub.c 11 _ rfl
 go_upto_region 4 with (go_at_call 39; go_must (refine (mul_kilo _ (un HTA _ (un HB5))).mono ?_; rintro e w6 ⟨rfl, hb⟩; have HA7 := hide ((un HA6).later hb); have HR7 := hide ((un HR5).later hb); have HB7 : Hid (Below w.heap.size w w6) := (un HB5).trans (hb.mono (un HB5).size); clear hb p2 p3 q0 q1; have q0 : w6.cell? ⟨w.heap.size, 10, none⟩ = some (.string ⟨#[49]⟩) := (un HA7).ub.c 10 _ rfl; have q1 : w6.cell? ⟨w.heap.size, 11, none⟩ = some (.string ⟨#[49, 48, 48, 48]⟩) := (un HA7).ub.c 11 _ rfl; have f0 : w6.frozen? ⟨w.heap.size, 10, none⟩ = false := (un HA7).ub.f 10 _ rfl; have f1 : w6.frozen? ⟨w.heap.size, 11, none⟩ = false := (un HA7).ub.f 11 _ rfl))
 have HA8 : Hid (OwnU ((w6.setCell ⟨w.heap.size, 10, none⟩ (.string ⟨#[49]⟩)).setCell ⟨w.heap.size, 11, none⟩ (.string ⟨#[49]⟩)) w.heap.size 30 #[.string ⟨#[107, 105, 108, 111, 103, 114, 97, 109]⟩, .string ⟨#[107, 103]⟩, I 0, I 1, I 0, I 0, I 0, I 0, I 0, I 0, .string ⟨#[49]⟩, .string ⟨#[49]⟩, .string ⟨#[48]⟩, .string ⟨#[49]⟩, I 1]) := ((un HA7).set 10 _).set 11 _
 have HR8 : Hid (OwnU ((w6.setCell ⟨w.heap.size, 10, none⟩ (.string ⟨#[49]⟩)).setCell ⟨w.heap.size, 11, none⟩ (.string ⟨#[49]⟩)) (w.heap.size + 1) 30 z15) := ((un HR7).otherSet (show ¬ w.heap.size + 1 = w.heap.size by omega) 10 _).otherSet (show ¬ w.heap.size + 1 = w.heap.size by omega) 11 _
 have HB8 : Hid (Below w.heap.size w ((w6.setCell ⟨w.heap.size, 10, none⟩ (.string ⟨#[49]⟩)).setCell ⟨w.heap.size, 11, none⟩ (.string ⟨#[49]⟩))) := ((un HB7).setCell (p := ⟨w.heap.size, 10, none⟩) (Nat.le_refl _) _).setCell (p := ⟨w.heap.size, 11, none⟩) (Nat.le_refl _) _
 clear q0 q1 f0 f1 HA7 HR7 HB7
 generalize (w6.setCell ⟨w.heap.size, 10, none⟩ (.string ⟨#[49]⟩)).setCell ⟨w.heap.size, 11, none⟩ (.string ⟨#[49]⟩) = U8 at *
 go_wp2_with (first
  | (refine wpList_load_row rfl 30 (.tmp 1) rfl w.heap.size rfl 30 #[.string ⟨#[107, 105, 108, 111, 103, 114, 97, 109]⟩, .string ⟨#[107, 103]⟩, I 0, I 1, I 0, I 0, I 0, I 0, I 0, I 0, .string ⟨#[49]⟩, .string ⟨#[49]⟩, .string ⟨#[48]⟩, .string ⟨#[49]⟩, I 1] (0, 0) _ (un HA8) Tryz.underlying30 rfl (by kernel_rfl) ?_)
  | (refine storeT 30 15 info27 rfl (.tmp 2) (.tmp 30) rfl (w.heap.size + 1) z15 #[.string ⟨#[107, 105, 108, 111, 103, 114, 97, 109]⟩, .string ⟨#[107, 103]⟩, I 0, I 1, I 0, I 0, I 0, I 0, I 0, I 0, .string ⟨#[49]⟩, .string ⟨#[49]⟩, .string ⟨#[48]⟩, .string ⟨#[49]⟩, I 1] rfl rfl rfl rfl (un HR8) (by kernel_rfl) ?_))
 exact bodyPost_ret (v := .agg #[.string ⟨#[107, 105, 108, 111, 103, 114, 97, 109]⟩, .string ⟨#[107, 103]⟩, I 0, I 1, I 0, I 0, I 0, I 0, I 0, I 0, .string ⟨#[49]⟩, .string ⟨#[49]⟩, .string ⟨#[48]⟩, .string ⟨#[49]⟩, I 1]) (res30 Tryz.results40 _ _ (w.heap.size + 1) _ rfl rfl ((un HR8).setRow _)) rfl ⟨rfl, below_setRow (un HB8) (by omega) _⟩
end Go.Proofs.YthcbhnggphdflaaGreatDoor

namespace Go.Proofs.YthcbhnggphdflaaGreatDoor
open Go.RowKit
structure Sc where
 nm : ByteArray
 sy : ByteArray
 tk : Int
 f : Nat
 u : Array Value
def sct : Nat → Sc
 | 0 => ⟨⟨#[98, 105, 116]⟩, ⟨#[98]⟩, 3, 55, #[.string ⟨#[98, 105, 116]⟩, .string ⟨#[98]⟩, I 0, I 0, I 0, I 0, I 0, I 0, I 0, I 1, .string ⟨#[49]⟩, .string ⟨#[49]⟩, .string ⟨#[48]⟩, .string ⟨#[49]⟩, I 3]⟩
 | 1 => ⟨⟨#[109, 111, 108, 101]⟩, ⟨#[109, 111, 108]⟩, 1, 56, #[.string ⟨#[109, 111, 108, 101]⟩, .string ⟨#[109, 111, 108]⟩, I 0, I 0, I 0, I 0, I 0, I 1, I 0, I 0, .string ⟨#[49]⟩, .string ⟨#[49]⟩, .string ⟨#[48]⟩, .string ⟨#[49]⟩, I 1]⟩
 | 2 => ⟨⟨#[115, 101, 99, 111, 110, 100]⟩, ⟨#[115]⟩, 1, 57, #[.string ⟨#[115, 101, 99, 111, 110, 100]⟩, .string ⟨#[115]⟩, I 0, I 0, I 1, I 0, I 0, I 0, I 0, I 0, .string ⟨#[49]⟩, .string ⟨#[49]⟩, .string ⟨#[48]⟩, .string ⟨#[49]⟩, I 1]⟩
 | 3 => ⟨⟨#[97, 109, 112, 101, 114, 101]⟩, ⟨#[65]⟩, 1, 58, #[.string ⟨#[97, 109, 112, 101, 114, 101]⟩, .string ⟨#[65]⟩, I 0, I 0, I 0, I 1, I 0, I 0, I 0, I 0, .string ⟨#[49]⟩, .string ⟨#[49]⟩, .string ⟨#[48]⟩, .string ⟨#[49]⟩, I 1]⟩
 | 4 => ⟨⟨#[109, 101, 116, 114, 101]⟩, ⟨#[109]⟩, 1, 59, #[.string ⟨#[109, 101, 116, 114, 101]⟩, .string ⟨#[109]⟩, I 1, I 0, I 0, I 0, I 0, I 0, I 0, I 0, .string ⟨#[49]⟩, .string ⟨#[49]⟩, .string ⟨#[48]⟩, .string ⟨#[49]⟩, I 1]⟩
 | 5 => ⟨⟨#[103, 114, 97, 109]⟩, ⟨#[103]⟩, 1, 60, #[.string ⟨#[103, 114, 97, 109]⟩, .string ⟨#[103]⟩, I 0, I 1, I 0, I 0, I 0, I 0, I 0, I 0, .string ⟨#[49]⟩, .string ⟨#[49, 48, 48, 48]⟩, .string ⟨#[48]⟩, .string ⟨#[49]⟩, I 1]⟩
 | 6 => ⟨⟨#[99, 97, 110, 100, 101, 108, 97]⟩, ⟨#[99, 100]⟩, 1, 61, #[.string ⟨#[99, 97, 110, 100, 101, 108, 97]⟩, .string ⟨#[99, 100]⟩, I 0, I 0, I 0, I 0, I 0, I 0, I 1, I 0, .string ⟨#[49]⟩, .string ⟨#[49]⟩, .string ⟨#[48]⟩, .string ⟨#[49]⟩, I 1]⟩
 | _ => ⟨⟨#[107, 101, 108, 118, 105, 110]⟩, ⟨#[75]⟩, 1, 62, #[.string ⟨#[107, 101, 108, 118, 105, 110]⟩, .string ⟨#[75]⟩, I 0, I 0, I 0, I 0, I 1, I 0, I 0, I 0, .string ⟨#[49]⟩, .string ⟨#[49]⟩, .string ⟨#[48]⟩, .string ⟨#[49]⟩, I 1]⟩
theorem told_sc : ∀ k, k < 8 → ∀ W, Tab W → Calls Tryz.prog 33 #[.agg #[.string (sct k).nm, .string (sct k).sy, I (sct k).tk, .func (.func (sct k).f) #[] #[]]] W fun r w' => r = .returned (.agg (sct k).u) ∧ Below W.heap.size W w'
 | 0, _, W, ht => told_0 W ht
 | 1, _, W, ht => told_1 W ht
 | 2, _, W, ht => told_2 W ht
 | 3, _, W, ht => told_3 W ht
 | 4, _, W, ht => told_4 W ht
 | 5, _, W, ht => told_5 W ht
 | 6, _, W, ht => told_6 W ht
 | 7, _, W, ht => told_7 W ht
 | n + 8, h, _, _ => absurd h (by omega)
theorem size_sc : ∀ k, (sct k).u.size = 15
 | 0 => rfl
 | 1 => rfl
 | 2 => rfl
 | 3 => rfl
 | 4 => rfl
 | 5 => rfl
 | 6 => rfl
 | _ + 7 => rfl
theorem ones_sc : ∀ k, (sct k).u.all (·.oneCell') = true
 | 0 => by kernel_rfl
 | 1 => by kernel_rfl
 | 2 => by kernel_rfl
 | 3 => by kernel_rfl
 | 4 => by kernel_rfl
 | 5 => by kernel_rfl
 | 6 => by kernel_rfl
 | _ + 7 => by kernel_rfl
structure R4 (W : World) (g k : Nat) : Prop where
 c0 : W.cell? ⟨g, k * 4, none⟩ = some (.string (sct k).nm)
 c1 : W.cell? ⟨g, k * 4 + 1, none⟩ = some (.string (sct k).sy)
 c2 : W.cell? ⟨g, k * 4 + 2, none⟩ = some (I (sct k).tk)
 c3 : W.cell? ⟨g, k * 4 + 3, none⟩ = some (.func (.func (sct k).f) #[] #[])
theorem R4.later {W V : World} {B g k : Nat} (h : R4 W g k) (hb : Below B W V) (hg : g < B) : R4 V g k :=
 ⟨(hb.cell (p := ⟨g, k * 4, none⟩) hg).trans h.c0, (hb.cell (p := ⟨g, k * 4 + 1, none⟩) hg).trans h.c1, (hb.cell (p := ⟨g, k * 4 + 2, none⟩) hg).trans h.c2, (hb.cell (p := ⟨g, k * 4 + 3, none⟩) hg).trans h.c3⟩
def rows8 : Array Value := #[.string ⟨#[98, 105, 116]⟩, .string ⟨#[98]⟩, I 3, .func (.func 55) #[] #[], .string ⟨#[109, 111, 108, 101]⟩, .string ⟨#[109, 111, 108]⟩, I 1, .func (.func 56) #[] #[], .string ⟨#[115, 101, 99, 111, 110, 100]⟩, .string ⟨#[115]⟩, I 1, .func (.func 57) #[] #[], .string ⟨#[97, 109, 112, 101, 114, 101]⟩, .string ⟨#[65]⟩, I 1, .func (.func 58) #[] #[], .string ⟨#[109, 101, 116, 114, 101]⟩, .string ⟨#[109]⟩, I 1, .func (.func 59) #[] #[], .string ⟨#[103, 114, 97, 109]⟩, .string ⟨#[103]⟩, I 1, .func (.func 60) #[] #[], .string ⟨#[99, 97, 110, 100, 101, 108, 97]⟩, .string ⟨#[99, 100]⟩, I 1, .func (.func 61) #[] #[], .string ⟨#[107, 101, 108, 118, 105, 110]⟩, .string ⟨#[75]⟩, I 1, .func (.func 62) #[] #[]]
set_option maxRecDepth 100000 in
set_option maxHeartbeats 4000000 in
theorem rows_any (w : World) : Calls Tryz.prog 31 #[] w fun r w' => r = .returned (.slice (some ⟨w.heap.size, 0, none⟩) 8 8) ∧ w' = w.alloc (.cells rows8 68) := by
 go_enter Tryz.func31, Tryz.ntmps31
 go_wp2
 go_ret
 exact ⟨rfl, rfl⟩
theorem rows8_at (W : World) : ∀ k, k < 8 → R4 (W.alloc (.cells rows8 68)) W.heap.size k
 | 0, _ => ⟨(OwnU.new W rows8 68).ub.c 0 _ rfl, (OwnU.new W rows8 68).ub.c 1 _ rfl, (OwnU.new W rows8 68).ub.c 2 _ rfl, (OwnU.new W rows8 68).ub.c 3 _ rfl⟩
 | 1, _ => ⟨(OwnU.new W rows8 68).ub.c 4 _ rfl, (OwnU.new W rows8 68).ub.c 5 _ rfl, (OwnU.new W rows8 68).ub.c 6 _ rfl, (OwnU.new W rows8 68).ub.c 7 _ rfl⟩
 | 2, _ => ⟨(OwnU.new W rows8 68).ub.c 8 _ rfl, (OwnU.new W rows8 68).ub.c 9 _ rfl, (OwnU.new W rows8 68).ub.c 10 _ rfl, (OwnU.new W rows8 68).ub.c 11 _ rfl⟩
 | 3, _ => ⟨(OwnU.new W rows8 68).ub.c 12 _ rfl, (OwnU.new W rows8 68).ub.c 13 _ rfl, (OwnU.new W rows8 68).ub.c 14 _ rfl, (OwnU.new W rows8 68).ub.c 15 _ rfl⟩
 | 4, _ => ⟨(OwnU.new W rows8 68).ub.c 16 _ rfl, (OwnU.new W rows8 68).ub.c 17 _ rfl, (OwnU.new W rows8 68).ub.c 18 _ rfl, (OwnU.new W rows8 68).ub.c 19 _ rfl⟩
 | 5, _ => ⟨(OwnU.new W rows8 68).ub.c 20 _ rfl, (OwnU.new W rows8 68).ub.c 21 _ rfl, (OwnU.new W rows8 68).ub.c 22 _ rfl, (OwnU.new W rows8 68).ub.c 23 _ rfl⟩
 | 6, _ => ⟨(OwnU.new W rows8 68).ub.c 24 _ rfl, (OwnU.new W rows8 68).ub.c 25 _ rfl, (OwnU.new W rows8 68).ub.c 26 _ rfl, (OwnU.new W rows8 68).ub.c 27 _ rfl⟩
 | 7, _ => ⟨(OwnU.new W rows8 68).ub.c 28 _ rfl, (OwnU.new W rows8 68).ub.c 29 _ rfl, (OwnU.new W rows8 68).ub.c 30 _ rfl, (OwnU.new W rows8 68).ub.c 31 _ rfl⟩
 | n + 8, h => absurd h (by omega)
def plainB (s nm sy : ByteArray) : Bool := nm.toList == s.toList || sy.toList == s.toList
set_option maxRecDepth 100000 in
set_option maxHeartbeats 2000000 in
theorem closure_any (nm sy : ByteArray) (tk : Int) (fv : Value) (s : ByteArray) (b : Nat) (w : World) (hb : w.cell? ⟨b, 0, none⟩ = some (.string s)) (hlt : b < w.heap.size) : Calls Tryz.prog 30 #[.agg #[.string nm, .string sy, I tk, fv], .pointer (some ⟨b, 0, none⟩)] w fun r w' => r = .returned (.bool (plainB s nm sy)) ∧ Below w.heap.size w w' := by
 unfold plainB
 go_enter Tryz.func30, Tryz.ntmps30
 go_wp2_with fail
 all_goals
  go_ret
  refine ⟨?_, (Below.refl _ _).alloc (Nat.le_refl _) _⟩
  first | rfl | (simp [*]; done) | (simp_all; done)
def scB (s : ByteArray) (k : Nat) : Bool := plainB s (sct k).nm (sct k).sy
def IsFirst (p : Nat → Bool) (j : Int) : Prop := (∃ k : Nat, k < 8 ∧ j = (k : Int) ∧ p k = true ∧ ∀ i, i < k → p i = false) ∨ (j = -1 ∧ ∀ i, i < 8 → p i = false)
theorem none_succ {p : Nat → Bool} {k : Nat} (h : ∀ i, i < k → p i = false) (hk : p k = false) : ∀ i, i < k + 1 → p i = false := fun i hi => by
 by_cases e : i = k
 ·rw [e]; exact hk
 ·exact h i (by omega)
set_option maxRecDepth 100000 in
set_option maxHeartbeats 2000000 in
theorem index_any (s : ByteArray) (g cap b : Nat) (w : World) (hr : ∀ k, k < 8 → R4 w g k) (hg : g < w.heap.size) (hb : w.cell? ⟨b, 0, none⟩ = some (.string s)) (hlt : b < w.heap.size) :
  Calls Tryz.prog 32 #[.slice (some ⟨g, 0, none⟩) 8 cap, .func (.func 30) #[] #[.pointer (some ⟨b, 0, none⟩)]] w fun r w' => ∃ j : Int, r = .returned (I j) ∧ IsFirst (scB s) j ∧ Below w.heap.size w w' := by
 have HR := hide hr; have HBC := hide hb
 clear hr hb
 go_enter Tryz.func32, Tryz.ntmps32
 go_wp2_with fail
 go_loopw [8] (fun s8 wr => ∃ (k : Nat), k ≤ 8 ∧ s8 = I (k : Int) ∧ Hid (∀ i, i < k → scB s i = false) ∧ Hid (Below w.heap.size w wr)) (fun s8 _ => 8 - (intOf s8).toNat)
 case atStart => exact ⟨0, by omega, rfl, fun i hi => absurd hi (by omega), Below.refl _ _⟩
 case round =>
  obtain ⟨k, hk, rfl, HN, HB⟩ := hrel
  by_cases hk4 : k < 8
  ·have hkI : (k : Int) < 8 := by omega
   have hk0 : (0 : Int) ≤ (k : Int) := by omega
   have hrow := (un HR k hk4).later (un HB) hg
   have c0 := hrow.c0; have c1 := hrow.c1; have c2 := hrow.c2; have c3 := hrow.c3
   clear hrow
   have HC : Hid (∀ W, Below wr.heap.size wr W → Calls Tryz.prog 30 #[.agg #[.string (sct k).nm, .string (sct k).sy, I (sct k).tk, .func (.func (sct k).f) #[] #[]], .pointer (some ⟨b, 0, none⟩)] W fun r w' => r = .returned (.bool (scB s k)) ∧ Below W.heap.size W w') := fun W hW =>
    closure_any _ _ _ _ s b W (((un HB).trans (hW.mono (un HB).size)).cell (p := ⟨b, 0, none⟩) hlt |>.trans (un HBC)) (Nat.lt_of_lt_of_le hlt (((un HB).trans (hW.mono (un HB).size)).size))
   have HNK := hide (fun (e : scB s k = false) => none_succ (un HN) e)
   have HYK := hide (fun (e : scB s k = true) => (Or.inl ⟨k, hk4, rfl, e, un HN⟩ : IsFirst (scB s) (k : Int)))
   generalize (sct k).nm = nm at *
   generalize (sct k).sy = sy at *
   generalize (sct k).tk = tk at *
   generalize (sct k).f = f at *
   by_cases hB : scB s k = true
   ·have HJ := hide (un HYK hB)
    rw [hB] at HC
    clear HNK HYK hB
    go_wp2_with (go_at_call 30; go_must (refine (un HC _ (Below.refl _ _)).mono ?_; rintro e wt ⟨rfl, hbt⟩; have HBT := hide hbt; clear hbt))
    go_ret
    exact ⟨_, rfl, un HJ, (un HB).trans ((un HBT).mono (un HB).size)⟩
   ·have hB' : scB s k = false := by simpa using hB
    have HJ := hide (un HNK hB')
    rw [hB'] at HC
    clear HNK HYK hB hB'
    go_wp2_with (go_at_call 30; go_must (refine (un HC _ (Below.refl _ _)).mono ?_; rintro e wt ⟨rfl, hbt⟩; have HBT := hide hbt; clear hbt))
    go_roundw
    case rel => exact ⟨k + 1, by omega, by go_num, HJ, (un HB).trans ((un HBT).mono (un HB).size)⟩
    case measure => simp [intOf]; omega
  ·have hkI : ¬ (k : Int) < 8 := by omega
   go_wp2_with fail
   go_ret
   exact ⟨-1, rfl, Or.inr ⟨rfl, fun i hi => un HN i (by omega)⟩, un HB⟩
theorem first_unique {p : Nat → Bool} {i j : Int} (h1 : IsFirst p i) (h2 : IsFirst p j) : i = j := by
 rcases h1 with ⟨a, ha, rfl, pa, qa⟩ | ⟨rfl, na⟩ <;> rcases h2 with ⟨c, hc, rfl, pc, qc⟩ | ⟨rfl, nc⟩
 ·rcases Nat.lt_trichotomy a c with h | h | h
  ·rw [qc a h] at pa; cases pa
  ·rw [h]
  ·rw [qa c h] at pc; cases pc
 ·rw [nc a ha] at pa; cases pa
 ·rw [na c hc] at pc; cases pc
 ·rfl
/-- base.Find, whatever the text. -/
def FindV (p : Nat → Bool) (v : Value) : Prop := (∃ k : Nat, k < 8 ∧ IsFirst p (k : Int) ∧ v = .tuple #[.agg (sct k).u, .bool true]) ∨ (IsFirst p (-1) ∧ v = .tuple #[.agg #[.string ⟨#[]⟩, .string ⟨#[]⟩, I 0, I 0, I 0, I 0, I 0, I 0, I 0, I 0, .string ⟨#[]⟩, .string ⟨#[]⟩, .string ⟨#[]⟩, .string ⟨#[]⟩, I 0], .bool false])
theorem FindV.det {p : Nat → Bool} {v u : Value} (h1 : FindV p v) (h2 : FindV p u) : v = u := by
 rcases h1 with ⟨a, ha, fa, rfl⟩ | ⟨fa, rfl⟩ <;> rcases h2 with ⟨c, hc, fc, rfl⟩ | ⟨fc, rfl⟩
 ·have := first_unique fa fc
  have e : a = c := by omega
  rw [e]
 ·have := first_unique fa fc; omega
 ·have := first_unique fa fc; omega
 ·rfl
set_option maxRecDepth 100000 in
set_option maxHeartbeats 4000000 in
theorem find_any (s : ByteArray) (w : World) (htab : Tab w) : Calls Tryz.prog 15 #[.string s] w fun r w' => ∃ v, r = .returned v ∧ FindV (scB s) v ∧ Below w.heap.size w w' := by
 obtain ⟨V, hV⟩ : ∃ V, V = (w.alloc (.cells #[.string s] 9)).alloc (.cells #[.string ⟨#[]⟩, .string ⟨#[]⟩, I 0, I 0, I 0, I 0, I 0, I 0, I 0, I 0, .string ⟨#[]⟩, .string ⟨#[]⟩, .string ⟨#[]⟩, .string ⟨#[]⟩, I 0] 30) := ⟨_, rfl⟩
 have HBX : Hid (V.cell? ⟨w.heap.size, 0, none⟩ = some (.string s) ∧ w.heap.size < V.heap.size) := by rw [hV]; exact ⟨by simp [go_sem], by simp; omega⟩
 have HR : Hid (OwnU V (w.heap.size + 1) 30 #[.string ⟨#[]⟩, .string ⟨#[]⟩, I 0, I 0, I 0, I 0, I 0, I 0, I 0, I 0, .string ⟨#[]⟩, .string ⟨#[]⟩, .string ⟨#[]⟩, .string ⟨#[]⟩, I 0]) := by rw [hV]; have h := OwnU.new (w.alloc (.cells #[.string s] 9)) #[.string ⟨#[]⟩, .string ⟨#[]⟩, I 0, I 0, I 0, I 0, I 0, I 0, I 0, I 0, .string ⟨#[]⟩, .string ⟨#[]⟩, .string ⟨#[]⟩, .string ⟨#[]⟩, I 0] 30; rw [Dm.size_alloc] at h; exact h
 have HB : Hid (Below w.heap.size w V) := by rw [hV]; exact ((Below.refl _ _).alloc (Nat.le_refl _) _).alloc (by simp) _
 have HTA : Hid (∀ W, Below w.heap.size w W → Tab W) := fun W h => htab.later h
 have HV := hide hV
 clear hV htab
 go_enter Tryz.func15, Tryz.ntmps15
 go_upto_region 1 with fail
 rw [← un HV]
 clear HV
 go_upto_region 3 with (go_at_call 31; go_must (refine (rows_any _).mono ?_; rintro e W0 ⟨rfl, rfl⟩))
 obtain ⟨W1, hW1⟩ : ∃ W1, W1 = V.alloc (.cells rows8 68) := ⟨_, rfl⟩
 rw [← hW1]
 have HW : Hid (Below V.heap.size V W1) := by rw [hW1]; exact (Below.refl _ _).alloc (Nat.le_refl _) _
 have HRW : Hid (∀ k, k < 8 → R4 W1 V.heap.size k) := by rw [hW1]; exact rows8_at V
 have HG : Hid (V.heap.size < W1.heap.size) := by rw [hW1]; show _ < _; simp
 clear hW1
 have HBX1 : Hid (W1.cell? ⟨w.heap.size, 0, none⟩ = some (.string s) ∧ w.heap.size < W1.heap.size) := ⟨((un HW).cell (p := ⟨w.heap.size, 0, none⟩) (un HBX).2).trans (un HBX).1, Nat.lt_trans (un HBX).2 (un HG)⟩
 have HIX := hide (index_any s V.heap.size 8 w.heap.size W1 (un HRW) (un HG) (un HBX1).1 (un HBX1).2)
 have HR1 := hide ((un HR).later (un HW)); have HB1 := hide ((un HB).trans ((un HW).mono (un HB).size))
 obtain ⟨gR, hgR⟩ : ∃ gR, gR = V.heap.size := ⟨_, rfl⟩
 rw [← hgR] at HRW HG HIX ⊢
 clear hgR HW HBX HBX1 HR HB
 go_upto_region 4 with (go_at_call 32; go_must (refine (un HIX).mono ?_; rintro e W2 ⟨j, rfl, hj, hb⟩; have HJ := hide hj; have HB2 := hide ((un HB1).trans (hb.mono (un HB1).size)); have HR2 := hide ((un HR1).later hb); have HRW2 := hide (fun k hk => (un HRW k hk).later hb (un HG)); have HG2 := hide (Nat.lt_of_lt_of_le (un HG) hb.size); clear hj hb))
 clear HIX HRW HG HR1 HB1
 rcases un HJ with ⟨k, hk, rfl, hk1, hk2⟩ | ⟨rfl, hn⟩
 ·have hk0 : (0 : Int) ≤ (k : Int) := by omega
  have hkI : (k : Int) < 8 := by omega
  have hkn : ¬ (k : Int) < 0 := by omega
  have hrow := un HRW2 k hk
  have c0 := hrow.c0; have c1 := hrow.c1; have c2 := hrow.c2; have c3 := hrow.c3
  have HTO := hide (told_sc k hk)
  have HOUT : Hid (FindV (scB s) (.tuple #[.agg (sct k).u, .bool true])) := Or.inl ⟨k, hk, Or.inl ⟨k, hk, rfl, hk1, hk2⟩, rfl⟩
  have HSZ := hide (size_sc k); have HON := hide (ones_sc k)
  clear hrow hk1 hk2 HRW2 HJ
  generalize (sct k).nm = nm at *
  generalize (sct k).sy = sy at *
  generalize (sct k).tk = tk at *
  generalize (sct k).f = f at *
  generalize (sct k).u = u at *
  go_wp2_with (first
   | (go_at_call 33; go_must (refine (un HTO _ (un HTA _ (un HB2))).mono ?_; rintro e W3 ⟨rfl, hb⟩; have HB3 := hide ((un HB2).trans (hb.mono (un HB2).size)); have HR3 := hide ((un HR2).later hb); clear hb c0 c1 c2 c3))
   | (refine storeT 30 15 info27 rfl (.tmp 2) (.tmp 19) rfl (w.heap.size + 1) #[.string ⟨#[]⟩, .string ⟨#[]⟩, I 0, I 0, I 0, I 0, I 0, I 0, I 0, I 0, .string ⟨#[]⟩, .string ⟨#[]⟩, .string ⟨#[]⟩, .string ⟨#[]⟩, I 0] u rfl (un HSZ) rfl rfl (un HR3) (un HON) ?_))
  exact bodyPost_ret (v := .tuple #[.agg u, .bool true]) (res27b Tryz.results15 _ _ (w.heap.size + 1) _ (un HSZ) rfl ((un HR3).setRow _)) rfl ⟨_, rfl, un HOUT, below_setRow (un HB3) (by omega) _⟩
 ·have hn1 : ((-1 : Int) < 0) := by decide
  go_wp2_with (refine storeT 30 15 info27 rfl (.tmp 2) (.tmp 14) rfl (w.heap.size + 1) #[.string ⟨#[]⟩, .string ⟨#[]⟩, I 0, I 0, I 0, I 0, I 0, I 0, I 0, I 0, .string ⟨#[]⟩, .string ⟨#[]⟩, .string ⟨#[]⟩, .string ⟨#[]⟩, I 0] #[.string ⟨#[]⟩, .string ⟨#[]⟩, I 0, I 0, I 0, I 0, I 0, I 0, I 0, I 0, .string ⟨#[]⟩, .string ⟨#[]⟩, .string ⟨#[]⟩, .string ⟨#[]⟩, I 0] rfl rfl rfl rfl (un HR2) (by kernel_rfl) ?_)
  exact bodyPost_ret (v := .tuple #[.agg #[.string ⟨#[]⟩, .string ⟨#[]⟩, I 0, I 0, I 0, I 0, I 0, I 0, I 0, I 0, .string ⟨#[]⟩, .string ⟨#[]⟩, .string ⟨#[]⟩, .string ⟨#[]⟩, I 0], .bool false]) (res27b Tryz.results15 _ _ (w.heap.size + 1) _ rfl rfl ((un HR2).setRow _)) rfl ⟨_, rfl, Or.inr ⟨Or.inr ⟨rfl, hn⟩, rfl⟩, below_setRow (un HB2) (by omega) _⟩
end Go.Proofs.YthcbhnggphdflaaGreatDoor

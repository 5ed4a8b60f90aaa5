/- rat's fractions at every text, and both Parses at every text. -/
import Derived.Test.YtifalmdoligblaaGreatDoorRefFrac
import Derived.Test.YtifalmdoligblaaGreatDoorFieldM
import Derived.Test.YtifalmdoligblaaGreatDoorRefFPA
import Derived.Deep.RegionHeld3
namespace Go.Proofs.YtifalmdoligblaaGreatDoor
open Go.RowKit
structure FS (w W : World) (b : Bool) (t u : ByteArray) (k : Nat) : Prop where
  c0 : W.cell? ⟨w.heap.size, 0, none⟩ = some (.bool b)
  c1 : W.cell? ⟨w.heap.size, 1, none⟩ = some (.string t)
  c5 : W.cell? ⟨w.heap.size, 5, none⟩ = some (.string u)
  c6 : W.cell? ⟨w.heap.size, 6, none⟩ = some (.int .i64 (k : Int))
  r : T2 W (w.heap.size + 1) (.string ⟨#[]⟩) (.string ⟨#[]⟩)
  below : Below w.heap.size w W
theorem FS.later {w W V : World} {b : Bool} {t u : ByteArray} {k : Nat} (s : FS w W b t u k) (hb : Below W.heap.size W V) : FS w V b t u k := by
  have hl : w.heap.size < W.heap.size := World.block_lt_of_cell? _ _ s.c0
  exact ⟨(hb.cell (p := ⟨w.heap.size, 0, none⟩) hl).trans s.c0, (hb.cell (p := ⟨w.heap.size, 1, none⟩) hl).trans s.c1, (hb.cell (p := ⟨w.heap.size, 5, none⟩) hl).trans s.c5, (hb.cell (p := ⟨w.heap.size, 6, none⟩) hl).trans s.c6, s.r.later hb, s.below.trans (hb.mono s.below.size)⟩
theorem FS.first (w : World) (b : Bool) (t u : ByteArray) (k : Nat) : FS w ((w.alloc (.cells #[.bool b, .string t, .string ⟨#[]⟩, .string ⟨#[]⟩, .bool false, .string u, .int .i64 (k : Int)] 86)).alloc (.cells #[.string ⟨#[]⟩, .string ⟨#[]⟩] 23)) b t u k :=
  ⟨by simp [go_sem], by simp [go_sem], by simp [go_sem], by simp [go_sem], ⟨by simp [go_sem], by simp [go_sem], by simp [go_sem], by simp [go_sem]⟩, ((Below.refl _ _).alloc (Nat.le_refl _) _).alloc (by simp) _⟩

set_option maxRecDepth 100000 in
set_option maxHeartbeats 4000000 in
theorem fraction_zero (b : Bool) (t u nt dt : ByteArray) (k : Nat) (w : World)
    (hn1 : ∀ W, Calls Tryz.prog 136 #[.string t] W fun r w' => r = .returned (.string nt) ∧ w' = W)
    (hn2 : ∀ W, Calls Tryz.prog 136 #[.string u] W fun r w' => r = .returned (.string dt) ∧ w' = W) (hd : (dt.toList == [48]) = true) : Calls Tryz.prog 81 #[partsV b t ⟨#[]⟩ ⟨#[]⟩ false u (k : Int)] w fun r w' => r = .returned (.tuple #[.agg #[.string ⟨#[]⟩, .string ⟨#[]⟩], .int .i64 8, .int .i64 (k : Int)]) ∧ Below w.heap.size w w' := by
  obtain ⟨V, hV⟩ : ∃ V, V = (w.alloc (.cells #[.bool b, .string t, .string ⟨#[]⟩, .string ⟨#[]⟩, .bool false, .string u, .int .i64 (k : Int)] 86)).alloc (.cells #[.string ⟨#[]⟩, .string ⟨#[]⟩] 23) := ⟨_, rfl⟩
  have HS : Hid (FS w V b t u k) := by rw [hV]; exact FS.first _ _ _ _ _
  have HV := hide hV
  have HN1 := hide hn1
  have HN2 := hide hn2
  clear hn1 hn2
  unfold partsV
  go_enter Tryz.func81, Tryz.ntmps81
  go_upto_region 1 with fail
  rw [← unhide HV]
  clear hV HV
  have q0 := (unhide HS).c0; have q1 := (unhide HS).c1; have q5 := (unhide HS).c5; have q6 := (unhide HS).c6
  go_quiet (first
    | (go_at_call_of 136 (Value.string t); exact Calls.quiet_of_same (unhide HN1 _))
    | (go_at_call_of 136 (Value.string u); exact Calls.quiet_of_same (unhide HN2 _)))
  obtain ⟨U, hU⟩ : ∃ U, U = V.drewN nq := ⟨_, rfl⟩
  have HS1 : Hid (FS w U b t u k) := by rw [hU]; exact (unhide HS).later (below_drewN V nq)
  rw [← hU]
  clear hU q0 q1 q5 q6 HS
  have q0 := (unhide HS1).c0; have q1 := (unhide HS1).c1; have q5 := (unhide HS1).c5; have q6 := (unhide HS1).c6
  have HS2 := hide ((unhide HS1).later (Below.refl _ _).drew)
  have r0 := (unhide HS1).r.c0; have r1 := (unhide HS1).r.c1; have rf0 := (unhide HS1).r.f0; have rf1 := (unhide HS1).r.f1
  go_upto_region 3 with fail
  go_region
  all_goals
    go_wp2_with fail
    have hS := (unhide HS2).r.store (.string ⟨#[]⟩) (.string ⟨#[]⟩)
    have hb : Below w.heap.size w (store2 U.drew (w.heap.size + 1) (.string ⟨#[]⟩) (.string ⟨#[]⟩)) := below_store2 (unhide HS2).below (by omega) _ _
    have v0 := hS.c0; have v1 := hS.c1
    exact bodyPost_ret (v := .tuple #[.agg #[.string ⟨#[]⟩, .string ⟨#[]⟩], .int .i64 8, .int .i64 (k : Int)]) (w := store2 U.drew (w.heap.size + 1) (.string ⟨#[]⟩) (.string ⟨#[]⟩)) (by simp [results, Tryz.results81, go_sem, v0, v1]) rfl ⟨rfl, hb⟩

set_option maxRecDepth 100000 in
set_option maxHeartbeats 4000000 in
theorem fraction_great (b : Bool) (t u nt dt : ByteArray) (k : Nat) (w : World)
    (hn1 : ∀ W, Calls Tryz.prog 136 #[.string t] W fun r w' => r = .returned (.string nt) ∧ w' = W)
    (hn2 : ∀ W, Calls Tryz.prog 136 #[.string u] W fun r w' => r = .returned (.string dt) ∧ w' = W) (hd : (dt.toList == [48]) = false) (hl : 600 < nt.size ∨ 600 < dt.size) : Calls Tryz.prog 81 #[partsV b t ⟨#[]⟩ ⟨#[]⟩ false u (k : Int)] w fun r w' => r = .returned (.tuple #[.agg #[.string ⟨#[]⟩, .string ⟨#[]⟩], .int .i64 7, .int .i64 0]) ∧ Below w.heap.size w w' := by
  obtain ⟨V, hV⟩ : ∃ V, V = (w.alloc (.cells #[.bool b, .string t, .string ⟨#[]⟩, .string ⟨#[]⟩, .bool false, .string u, .int .i64 (k : Int)] 86)).alloc (.cells #[.string ⟨#[]⟩, .string ⟨#[]⟩] 23) := ⟨_, rfl⟩
  have HS : Hid (FS w V b t u k) := by rw [hV]; exact FS.first _ _ _ _ _
  have HV := hide hV
  have HN1 := hide hn1
  have HN2 := hide hn2
  clear hn1 hn2
  unfold partsV
  go_enter Tryz.func81, Tryz.ntmps81
  go_upto_region 1 with fail
  rw [← unhide HV]
  clear hV HV
  have q0 := (unhide HS).c0; have q1 := (unhide HS).c1; have q5 := (unhide HS).c5; have q6 := (unhide HS).c6
  go_quiet (first
    | (go_at_call_of 136 (Value.string t); exact Calls.quiet_of_same (unhide HN1 _))
    | (go_at_call_of 136 (Value.string u); exact Calls.quiet_of_same (unhide HN2 _)))
  obtain ⟨U, hU⟩ : ∃ U, U = V.drewN nq := ⟨_, rfl⟩
  have HS1 : Hid (FS w U b t u k) := by rw [hU]; exact (unhide HS).later (below_drewN V nq)
  rw [← hU]
  clear hU q0 q1 q5 q6 HS
  have q0 := (unhide HS1).c0; have q1 := (unhide HS1).c1; have q5 := (unhide HS1).c5; have q6 := (unhide HS1).c6
  have r0 := (unhide HS1).r.c0; have r1 := (unhide HS1).r.c1; have rf0 := (unhide HS1).r.f0; have rf1 := (unhide HS1).r.f1
  by_cases h1 : 600 < nt.size
  · have h1' : (600 : Int) < (nt.size : Int) := by omega
    go_wp2_with fail
    have hS := (unhide HS1).r.store (.string ⟨#[]⟩) (.string ⟨#[]⟩)
    have hb : Below w.heap.size w (store2 U (w.heap.size + 1) (.string ⟨#[]⟩) (.string ⟨#[]⟩)) := below_store2 (unhide HS1).below (by omega) _ _
    have v0 := hS.c0; have v1 := hS.c1
    exact bodyPost_ret (v := .tuple #[.agg #[.string ⟨#[]⟩, .string ⟨#[]⟩], .int .i64 7, .int .i64 0]) (w := store2 U (w.heap.size + 1) (.string ⟨#[]⟩) (.string ⟨#[]⟩)) (by simp [results, Tryz.results81, go_sem, v0, v1]) rfl ⟨rfl, hb⟩
  · have h1' : ¬ (600 : Int) < (nt.size : Int) := by omega
    have h2' : (600 : Int) < (dt.size : Int) := by omega
    go_wp2_with fail
    have hS := (unhide HS1).r.store (.string ⟨#[]⟩) (.string ⟨#[]⟩)
    have hb : Below w.heap.size w (store2 U (w.heap.size + 1) (.string ⟨#[]⟩) (.string ⟨#[]⟩)) := below_store2 (unhide HS1).below (by omega) _ _
    have v0 := hS.c0; have v1 := hS.c1
    exact bodyPost_ret (v := .tuple #[.agg #[.string ⟨#[]⟩, .string ⟨#[]⟩], .int .i64 7, .int .i64 0]) (w := store2 U (w.heap.size + 1) (.string ⟨#[]⟩) (.string ⟨#[]⟩)) (by simp [results, Tryz.results81, go_sem, v0, v1]) rfl ⟨rfl, hb⟩

end Go.Proofs.YtifalmdoligblaaGreatDoor

namespace Go.Proofs.YtifalmdoligblaaGreatDoor
open Go.RowKit
/-- Both arguments and two numbers in their boxes. -/
structure R4 (w W : World) (g h : Nat) (a1 a2 b1 b2 x1 x2 y1 y2 : Value) : Prop where
  a : T2 W w.heap.size a1 a2
  b : T2 W (w.heap.size + 1) b1 b2
  x : T2 W g x1 x2
  y : T2 W h y1 y2
  below : Below w.heap.size w W
  gx : w.heap.size + 1 < g
  hy : g < h
section
variable {w W V : World} {g h : Nat} {a1 a2 b1 b2 x1 x2 y1 y2 : Value}
theorem R4.later (s : R4 w W g h a1 a2 b1 b2 x1 x2 y1 y2) (hb : Below W.heap.size W V) : R4 w V g h a1 a2 b1 b2 x1 x2 y1 y2 :=
  ⟨s.a.later hb, s.b.later hb, s.x.later hb, s.y.later hb, s.below.trans (hb.mono s.below.size), s.gx, s.hy⟩
end
theorem T2.new (w : World) (a b : Value) : T2 (w.alloc (.cells #[a, b] 23)) w.heap.size a b := ⟨by simp [go_sem], by simp [go_sem], by simp [go_sem], by simp [go_sem]⟩

theorem FBox.new61 (w : World) (a b c : Value) : FBox (w.alloc (.cells #[a, b, c] 61)) w.heap.size a b c := ⟨by simp [go_sem], by simp [go_sem], by simp [go_sem], by simp [go_sem], by simp [go_sem], by simp [go_sem]⟩
theorem tx_one : tx 1 = ⟨#[49]⟩ := by rw [← tx_tb 1 (lit_tb ⟨#[49]⟩ 1 (by decide) (by decide)).2]; exact (lit_tb ⟨#[49]⟩ 1 (by decide) (by decide)).1.symm
end Go.Proofs.YtifalmdoligblaaGreatDoor

namespace Go.Proofs.YtifalmdoligblaaGreatDoor
open Go.RowKit

theorem al_self' (W : World) (O : Obj) : Below W.heap.size W (W.alloc O) := (Below.refl _ _).alloc (Nat.le_refl _) _
theorem below_al {U W V : World} {O : Obj} (h : Below U.heap.size U W) (hb : Below (W.alloc O).heap.size (W.alloc O) V) : Below U.heap.size U V :=
  (h.alloc h.size O).trans (hb.mono (h.alloc h.size O).size)
theorem below_al0 {W V : World} {O : Obj} (hb : Below (W.alloc O).heap.size (W.alloc O) V) : Below W.heap.size W V := below_al (Below.refl _ _) hb
theorem T2.past {W V : World} {a b : Value} (hb : Below (W.alloc (.cells #[a, b] 23)).heap.size (W.alloc (.cells #[a, b] 23)) V) : T2 V W.heap.size a b := (T2.new W a b).later hb
theorem T2.pastD {W V : World} {a b : Value} (hb : Below (W.alloc (.cells #[a, b] 23)).drew.heap.size (W.alloc (.cells #[a, b] 23)).drew V) : T2 V W.heap.size a b := ((T2.new W a b).later (Below.refl _ _).drew).later hb
theorem fs_fin {w W : World} {b : Bool} {t u : ByteArray} {k X : Nat} {x y : Value} (s : FS w W b t u k) (z : T2 W X (.string ⟨#[]⟩) (.string ⟨#[]⟩)) (hX : w.heap.size + 1 < X) :
    T2 (store2 W X x y) X x y ∧ T2 (store2 W X x y) (w.heap.size + 1) (.string ⟨#[]⟩) (.string ⟨#[]⟩) ∧ Below w.heap.size w (store2 W X x y) :=
  ⟨z.store x y, ((s.r.otherAt (by omega) x).otherAt (by omega) y), below_store2 s.below (by omega) x y⟩
theorem fs_fin0 {w W : World} {b : Bool} {t u : ByteArray} {k : Nat} (x y : Value) (s : FS w W b t u k) :
    T2 (W.alloc (.cells #[x, y] 23)) W.heap.size x y ∧ T2 (W.alloc (.cells #[x, y] 23)) (w.heap.size + 1) (.string ⟨#[]⟩) (.string ⟨#[]⟩) ∧ Below w.heap.size w (W.alloc (.cells #[x, y] 23)) :=
  ⟨T2.new W x y, s.r.later (al_self' _ _), s.below.trans ((al_self' _ _).mono s.below.size)⟩
theorem al_self (W : World) (O : Obj) : Below W.heap.size W (W.alloc O) := (Below.refl _ _).alloc (Nat.le_refl _) _
set_option maxRecDepth 100000 in
set_option maxHeartbeats 4000000 in
theorem fraction_ok (b : Bool) (t u nt dt : ByteArray) (k : Nat) (w : World)
    (hn1 : ∀ W, Calls Tryz.prog 136 #[.string t] W fun r w' => r = .returned (.string nt) ∧ w' = W)
    (hn2 : ∀ W, Calls Tryz.prog 136 #[.string u] W fun r w' => r = .returned (.string dt) ∧ w' = W) (rn rd : ByteArray) (re : Int) (N D : Nat) (Q : World → Value → Prop) (hQl : ∀ W V v, Q W v → Below W.heap.size W V → Q V v) (htab : Tab w) (hd : (dt.toList == [48]) = false) (h1 : nt.size ≤ 600) (h2 : dt.size ≤ 600)
    (hB1 : ∀ W, Calls Tryz.prog 71 #[.string nt] W fun e w' => ∃ v, e = .returned v ∧ IsBig w' v N ∧ Below W.heap.size W w')
    (hB2 : ∀ W, Calls Tryz.prog 71 #[.string dt] W fun e w' => ∃ v, e = .returned v ∧ IsBig w' v D ∧ Below W.heap.size W w')
    (hRA : ∀ W y z, IsBig W y N → IsBig W z D → Calls Tryz.prog 70 #[.bool b, y, z] W fun e w' => ∃ v', e = .returned v' ∧ Q w' v' ∧ Below W.heap.size W w')
    (hTE : ∀ W v, Q W v → Tab W → Calls Tryz.prog 72 #[v] W fun r w' => r = .returned (.tuple #[.agg #[.string rn, .string rd], .int .i64 re]) ∧ Below W.heap.size W w') : Calls Tryz.prog 81 #[partsV b t ⟨#[]⟩ ⟨#[]⟩ false u (k : Int)] w fun r w' => r = .returned (.tuple #[.agg #[.string rn, .string rd], .int .i64 re, .int .i64 0]) ∧ Below w.heap.size w w' := by
  have HB1 := hide hB1
  have HB2 := hide hB2
  have HRA := hide hRA
  have HTE := hide hTE
  have HT := hide htab
  clear hB1 hB2 hRA hTE htab
  have h1' : ¬ (600 : Int) < (nt.size : Int) := by omega
  have h2' : ¬ (600 : Int) < (dt.size : Int) := by omega
  obtain ⟨V, hV⟩ : ∃ V, V = (w.alloc (.cells #[.bool b, .string t, .string ⟨#[]⟩, .string ⟨#[]⟩, .bool false, .string u, .int .i64 (k : Int)] 86)).alloc (.cells #[.string ⟨#[]⟩, .string ⟨#[]⟩] 23) := ⟨_, rfl⟩
  have HS : Hid (FS w V b t u k) := by rw [hV]; exact FS.first _ _ _ _ _
  have HV := hide hV
  have HN1 := hide hn1
  have HN2 := hide hn2
  clear hn1 hn2
  unfold partsV
  go_enter Tryz.func81, Tryz.ntmps81
  go_upto_region 1 with fail
  rw [← unhide HV]
  clear hV HV
  have q0 := (unhide HS).c0; have q1 := (unhide HS).c1; have q5 := (unhide HS).c5; have q6 := (unhide HS).c6
  go_quiet (first
    | (go_at_call_of 136 (Value.string t); exact Calls.quiet_of_same (unhide HN1 _))
    | (go_at_call_of 136 (Value.string u); exact Calls.quiet_of_same (unhide HN2 _)))
  obtain ⟨U, hU⟩ : ∃ U, U = V.drewN nq := ⟨_, rfl⟩
  have HS1 : Hid (FS w U b t u k) := by rw [hU]; exact (unhide HS).later (below_drewN V nq)
  rw [← hU]
  clear hU q0 q1 q5 q6 HS
  have q0 := (unhide HS1).c0; have q1 := (unhide HS1).c1; have q5 := (unhide HS1).c5; have q6 := (unhide HS1).c6
  go_upto_region 6 with fail
  have HC0 : Hid (Below U.heap.size U U.drew) := (Below.refl _ _).drew
  clear q1 q5 q6
  have hlt0 : w.heap.size < U.heap.size := World.block_lt_of_cell? _ _ q0
  go_region_held3 (fun w' => w'.cell? ⟨w.heap.size, 0, none⟩ = some (.bool b)) (first | assumption | (simp [go_sem, *]; done)) ((first
    | (go_at_call_of 71 (Value.string nt); go_must (refine (unhide HB1 _).mono ?_; rintro e wa ⟨va, rfl, hva, hba⟩; have HCa : Hid (Below U.heap.size U wa) := (by first | exact (unhide HC0).trans (hba.mono (unhide HC0).size) | exact below_al (unhide HC0) hba); (first | (have HZa := hide ((unhide HZ0).later hba); clear z0 z1 zf0 zf1; have z0 := (unhide HZa).c0; have z1 := (unhide HZa).c1; have zf0 := (unhide HZa).f0; have zf1 := (unhide HZa).f1) | (have HZa : Hid (T2 wa U.heap.size (.string ⟨#[]⟩) (.string ⟨#[]⟩)) := (by first | exact T2.past hba | exact T2.pastD hba); have z0 := (unhide HZa).c0; have z1 := (unhide HZa).c1; have zf0 := (unhide HZa).f0; have zf1 := (unhide HZa).f1) | skip); obtain ⟨a1, l1, c1, rfl⟩ := hva.shape; have HVA := hide hva; clear q0; have q0 := ((unhide HS1).later (unhide HCa)).c0; have hlta : w.heap.size < wa.heap.size := World.block_lt_of_cell? _ _ q0))
    | (go_at_call_of 71 (Value.string dt); go_must (refine (unhide HB2 _).mono ?_; rintro e wb ⟨vb, rfl, hvb, hbb⟩; have HCb : Hid (Below U.heap.size U wb) := (by first | exact (unhide HCa).trans (hbb.mono (unhide HCa).size) | exact below_al (unhide HCa) hbb); (first | (have HZb := hide ((unhide HZa).later hbb); clear z0 z1 zf0 zf1; have z0 := (unhide HZb).c0; have z1 := (unhide HZb).c1; have zf0 := (unhide HZb).f0; have zf1 := (unhide HZb).f1) | (have HZb : Hid (T2 wb wa.heap.size (.string ⟨#[]⟩) (.string ⟨#[]⟩)) := (by first | exact T2.past hbb | exact T2.pastD hbb); have z0 := (unhide HZb).c0; have z1 := (unhide HZb).c1; have zf0 := (unhide HZb).f0; have zf1 := (unhide HZb).f1) | skip); obtain ⟨a2, l2, c2, rfl⟩ := hvb.shape; have HVB := hide hvb; (first | (have HVA2 := hide ((unhide HVA).later hbb)) | (have HVA2 := hide ((unhide HVA).later (below_al0 hbb)))); clear q0; have q0 := ((unhide HS1).later (unhide HCb)).c0; have hltb : w.heap.size < wb.heap.size := World.block_lt_of_cell? _ _ q0))
    | (go_at_call 70; go_must (refine (unhide HRA _ _ _ (by first | exact unhide HVA2 | exact (unhide HVA2).later (al_self _ _)) (by first | exact unhide HVB | exact (unhide HVB).later (al_self _ _))).mono ?_; rintro e wc ⟨vc, rfl, hvc, hbc⟩; have HCc : Hid (Below U.heap.size U wc) := (by first | exact (unhide HCb).trans (hbc.mono (unhide HCb).size) | exact below_al (unhide HCb) hbc); (first | (have HZc := hide ((unhide HZb).later hbc); clear z0 z1 zf0 zf1; have z0 := (unhide HZc).c0; have z1 := (unhide HZc).c1; have zf0 := (unhide HZc).f0; have zf1 := (unhide HZc).f1) | (have HZc : Hid (T2 wc wb.heap.size (.string ⟨#[]⟩) (.string ⟨#[]⟩)) := (by first | exact T2.past hbc | exact T2.pastD hbc); have z0 := (unhide HZc).c0; have z1 := (unhide HZc).c1; have zf0 := (unhide HZc).f0; have zf1 := (unhide HZc).f1) | skip); have HVC := hide hvc; clear q0; have q0 := ((unhide HS1).later (unhide HCc)).c0; have hltc : w.heap.size < wc.heap.size := World.block_lt_of_cell? _ _ q0))
    | (go_at_call 72; go_must (refine (unhide HTE _ _ (by first | exact unhide HVC | exact hQl _ _ _ (unhide HVC) (al_self _ _)) ((unhide HT).later (by first | exact ((unhide HS1).later (unhide HCc)).below | exact (((unhide HS1).later (unhide HCc)).later (al_self _ _)).below))).mono ?_; rintro e wd ⟨rfl, hbd⟩; have HCd : Hid (Below U.heap.size U wd) := (by first | exact (unhide HCc).trans (hbd.mono (unhide HCc).size) | exact below_al (unhide HCc) hbd); (first | (have HZd := hide ((unhide HZc).later hbd); clear z0 z1 zf0 zf1; have z0 := (unhide HZd).c0; have z1 := (unhide HZd).c1; have zf0 := (unhide HZd).f0; have zf1 := (unhide HZd).f1) | (have HZd : Hid (T2 wd wc.heap.size (.string ⟨#[]⟩) (.string ⟨#[]⟩)) := (by first | exact T2.past hbd | exact T2.pastD hbd); have z0 := (unhide HZd).c0; have z1 := (unhide HZd).c1; have zf0 := (unhide HZd).f0; have zf1 := (unhide HZd).f1) | skip); clear q0; have q0 := ((unhide HS1).later (unhide HCd)).c0; have hltd : w.heap.size < wd.heap.size := World.block_lt_of_cell? _ _ q0))))
  all_goals
    first
    | (obtain ⟨V9, hV9⟩ : ∃ V9, V9 = wd.alloc (.cells #[.string rn, .string rd] 23) := ⟨_, rfl⟩
       obtain ⟨X, hX⟩ : ∃ X, X = wd.heap.size := ⟨_, rfl⟩
       have hx : w.heap.size + 1 < X := by rw [hX]; exact ((unhide HS1).later (unhide HCd)).r.lt
       have HF : Hid (T2 V9 X (.string rn) (.string rd) ∧ T2 V9 (w.heap.size + 1) (.string ⟨#[]⟩) (.string ⟨#[]⟩) ∧ Below w.heap.size w V9) := by rw [hV9, hX]; exact fs_fin0 _ _ ((unhide HS1).later (unhide HCd))
       rw [← hV9, ← hX]
       clear hV9 hX)
    | (obtain ⟨X, hX⟩ : ∃ X, X = wc.heap.size := ⟨_, rfl⟩
       obtain ⟨V9, hV9⟩ : ∃ V9, V9 = (wd.setCell { block := wc.heap.size, off := 0 } (.string rn)).setCell { block := wc.heap.size, off := 1 } (.string rd) := ⟨_, rfl⟩
       have hx : w.heap.size + 1 < X := by rw [hX]; exact ((unhide HS1).later (unhide HCc)).r.lt
       have HF : Hid (T2 V9 X (.string rn) (.string rd) ∧ T2 V9 (w.heap.size + 1) (.string ⟨#[]⟩) (.string ⟨#[]⟩) ∧ Below w.heap.size w V9) := by rw [hX] at hx ⊢; rw [hV9]; exact fs_fin ((unhide HS1).later (unhide HCd)) (unhide HZd) hx
       rw [← hV9, ← hX]
       clear hV9 hX)
    | (obtain ⟨X, hX⟩ : ∃ X, X = wb.heap.size := ⟨_, rfl⟩
       obtain ⟨V9, hV9⟩ : ∃ V9, V9 = (wd.setCell { block := wb.heap.size, off := 0 } (.string rn)).setCell { block := wb.heap.size, off := 1 } (.string rd) := ⟨_, rfl⟩
       have hx : w.heap.size + 1 < X := by rw [hX]; exact ((unhide HS1).later (unhide HCb)).r.lt
       have HF : Hid (T2 V9 X (.string rn) (.string rd) ∧ T2 V9 (w.heap.size + 1) (.string ⟨#[]⟩) (.string ⟨#[]⟩) ∧ Below w.heap.size w V9) := by rw [hX] at hx ⊢; rw [hV9]; exact fs_fin ((unhide HS1).later (unhide HCd)) (unhide HZd) hx
       rw [← hV9, ← hX]
       clear hV9 hX)
    | (obtain ⟨X, hX⟩ : ∃ X, X = wa.heap.size := ⟨_, rfl⟩
       obtain ⟨V9, hV9⟩ : ∃ V9, V9 = (wd.setCell { block := wa.heap.size, off := 0 } (.string rn)).setCell { block := wa.heap.size, off := 1 } (.string rd) := ⟨_, rfl⟩
       have hx : w.heap.size + 1 < X := by rw [hX]; exact ((unhide HS1).later (unhide HCa)).r.lt
       have HF : Hid (T2 V9 X (.string rn) (.string rd) ∧ T2 V9 (w.heap.size + 1) (.string ⟨#[]⟩) (.string ⟨#[]⟩) ∧ Below w.heap.size w V9) := by rw [hX] at hx ⊢; rw [hV9]; exact fs_fin ((unhide HS1).later (unhide HCd)) (unhide HZd) hx
       rw [← hV9, ← hX]
       clear hV9 hX)
    | (obtain ⟨X, hX⟩ : ∃ X, X = U.heap.size := ⟨_, rfl⟩
       obtain ⟨V9, hV9⟩ : ∃ V9, V9 = (wd.setCell { block := U.heap.size, off := 0 } (.string rn)).setCell { block := U.heap.size, off := 1 } (.string rd) := ⟨_, rfl⟩
       have hx : w.heap.size + 1 < X := by rw [hX]; exact (unhide HS1).r.lt
       have HF : Hid (T2 V9 X (.string rn) (.string rd) ∧ T2 V9 (w.heap.size + 1) (.string ⟨#[]⟩) (.string ⟨#[]⟩) ∧ Below w.heap.size w V9) := by rw [hX] at hx ⊢; rw [hV9]; exact fs_fin ((unhide HS1).later (unhide HCd)) (unhide HZd) hx
       rw [← hV9, ← hX]
       clear hV9 hX)
  all_goals
    have z0 := (unhide HF).1.c0
    have z1 := (unhide HF).1.c1
    have r0 := (unhide HF).2.1.c0
    have r1 := (unhide HF).2.1.c1
    have rf0 := (unhide HF).2.1.f0
    have rf1 := (unhide HF).2.1.f1
    have hn1 : ¬ X = w.heap.size + 1 := by omega
    have hn2 : ¬ w.heap.size + 1 = X := by omega
    go_wp2_with fail
    have hS := (unhide HF).2.1.store (.string rn) (.string rd)
    have hb : Below w.heap.size w (store2 V9 (w.heap.size + 1) (.string rn) (.string rd)) := below_store2 (unhide HF).2.2 (by omega) _ _
    have v0 := hS.c0
    have v1 := hS.c1
    exact bodyPost_ret (v := .tuple #[.agg #[.string rn, .string rd], .int .i64 re, .int .i64 0]) (w := store2 V9 (w.heap.size + 1) (.string rn) (.string rd)) (by simp [results, Tryz.results81, go_sem, v0, v1]) rfl ⟨rfl, hb⟩

end Go.Proofs.YtifalmdoligblaaGreatDoor

namespace Go.Proofs.YtifalmdoligblaaGreatDoor
open Go.RowKit

theorem fraction_any (b : Bool) (t u : ByteArray) (k : Nat) (w : World) (htab : Tab w) (ht : Dg t ∧ 0 < t.size) (hu : Dg u ∧ 0 < u.size) :
    Calls Tryz.prog 81 #[partsV b t ⟨#[]⟩ ⟨#[]⟩ false u (k : Int)] w fun r w' => r = .returned (.tuple #[.agg #[.string (frN b t u), .string (frD b t u)], .int .i64 (frE b t u), .int .i64 (frK u k)]) ∧ Below w.heap.size w w' := by
  have hn1 := fun W => naturalT_any t W
  have hn2 := fun W => naturalT_any u W
  rw [nat_tx _ ht.1] at hn1
  rw [nat_tx _ hu.1] at hn2
  have h0b := tx_bool0 (dv u)
  unfold frN frD frE frK
  by_cases h0 : dv u = 0
  · rw [if_pos h0, if_pos h0, if_pos h0, if_pos h0]
    rw [decide_eq_true h0] at h0b
    exact fraction_zero b t u _ _ k w hn1 hn2 h0b
  · rw [if_neg h0, if_neg h0, if_neg h0, if_neg h0]
    rw [decide_eq_false h0] at h0b
    by_cases hl : 600 < (tx (dv t)).size ∨ 600 < (tx (dv u)).size
    · rw [if_pos hl, if_pos hl, if_pos hl]
      exact fraction_great b t u _ _ k w hn1 hn2 h0b hl
    · rw [if_neg hl, if_neg hl, if_neg hl]
      have p6 := pow600
      obtain ⟨E, hE⟩ : ∃ E : Nat, E = 600 := ⟨_, rfl⟩
      rw [← hE] at p6
      have b1 : dv t < 10 ^ E := Nat.lt_of_lt_of_le (tx_lt _) (Nat.pow_le_pow_right (by decide) (by omega))
      have b2 : dv u < 10 ^ E := Nat.lt_of_lt_of_le (tx_lt _) (Nat.pow_le_pow_right (by decide) (by omega))
      exact fraction_ok b t u _ _ k w hn1 hn2 _ _ _ (dv t) (dv u) (fun W v => QOf W v (Cub.valQ b (dv t) (dv u)) 67) (fun _ _ _ h hb => h.later hb) htab h0b (by omega) (by omega)
        (fun W => bigTx _ W (by omega)) (fun W => bigTx _ W (by omega))
        (fun W y z hy hz => ratioQ b _ _ W y z (Nat.lt_of_lt_of_le b1 p6) (Nat.lt_of_lt_of_le b2 p6) (Nat.pos_of_ne_zero h0) hy hz)
        (fun W v hv ht' => qtell v _ 67 W hv (by decide) ht')
/-- Both Parses answer alike. -/
structure ParseOut (s : ByteArray) (rn rd : ByteArray) (re rk : Int) : Prop where
  p : ∀ w, Tab w → Calls Tryz.prog 22 #[.string s] w fun r w' => r = .returned (.tuple #[.agg #[.string rn, .string rd], .int .i64 re, .int .i64 rk]) ∧ Below w.heap.size w w'
  d : ∀ w, Calls Tryz.prog 23 #[.string s] w fun r w' => r = .returned (.tuple #[.agg #[.string rn, .string rd], .int .i64 re, .int .i64 rk]) ∧ Below w.heap.size w w'
theorem both_parse (s : ByteArray) : ∃ rn rd re rk, ParseOut s rn rd re rk := by
  by_cases hs : 65536 < s.size
  · exact ⟨_, _, _, _, fun w _ => parse_long s w hs, fun w => refParse_long s w hs⟩
  · have hs' : s.size ≤ 65536 := by omega
    rcases cut_both s hs' with ⟨k, h1, h2, _⟩ | ⟨b, t, u, k, h1, h2, hk, ht, hu⟩ | ⟨b, d, t, u, x, h1, h2, ht, hu, hx⟩
    · exact ⟨_, _, _, _, fun w _ => parse_fault s k w hs' h1, fun w => refParse_fault s k w hs' h2⟩
    · exact ⟨_, _, _, _, fun w htab => parse_frac s t u _ _ b k _ _ w hs' hk.1 h1 (fun W hb => fraction_any b t u k W (htab.later hb) ⟨ht.1, ht.2.1⟩ ⟨hu.1, hu.2.1⟩),
        fun w => refFrac_any s t u b k w hs' ⟨ht.1, ht.2.1⟩ ⟨hu.1, hu.2.1⟩ h2⟩
    · exact ⟨_, _, _, _, fun w htab => both_dec s t u x b d w htab hs' ht hu hx h1, fun w => refDec_any s t u x b d w hs' ht hu hx h2⟩

set_option maxRecDepth 100000 in
set_option maxHeartbeats 4000000 in
theorem law_parses (s : ByteArray) (w : World) (htab : Tab w) :
    Calls Tryz.prog 4 #[.string s] w fun r w' => r = .returned (.bool true) ∧ Below w.heap.size w w' := by
  obtain ⟨rn, rd, re, rk, hp⟩ := both_parse s
  have HP := hide hp.p; have HD := hide hp.d
  clear hp
  have HTW := hide htab
  have HAW := hide (fun W (hb : Below w.heap.size w W) => awake_any W (htab.later hb))
  clear htab
  go_enter Tryz.func4, Tryz.ntmps4
  go_upto_region 2 with (go_at_call 22; go_must (refine (unhide HP _ (unhide HTW)).mono ?_; rintro e w1 ⟨rfl, hb1⟩; have HS1 := hide hb1; clear hb1))
  obtain ⟨V2, hV2⟩ : ∃ V2, V2 = w1.alloc (.cells #[.string rn, .string rd] 23) := ⟨_, rfl⟩
  have hb2 : Below w1.heap.size w1 V2 := by rw [hV2]; exact (Below.refl _ _).alloc (Nat.le_refl _) _
  have HS2 : Hid (Below w.heap.size w V2) := (unhide HS1).trans (hb2.mono (unhide HS1).size)
  have HB9 : Hid (T2 V2 w1.heap.size (.string rn) (.string rd)) := by rw [hV2]; exact ⟨by simp [go_sem], by simp [go_sem], by simp [go_sem], by simp [go_sem]⟩
  rw [← hV2]
  clear hV2 hb2 HS1
  generalize w1.heap.size = g9 at *
  go_upto_region 3 with (go_at_call 23; go_must (refine (unhide HD _).mono ?_; rintro e w3 ⟨rfl, hb3⟩; have HS3 := hide ((unhide HS2).trans (hb3.mono (unhide HS2).size)); have HB3 := hide ((unhide HB9).later hb3); clear hb3))
  obtain ⟨V4, hV4⟩ : ∃ V4, V4 = w3.alloc (.cells #[.string rn, .string rd] 23) := ⟨_, rfl⟩
  have hb4 : Below w3.heap.size w3 V4 := by rw [hV4]; exact (Below.refl _ _).alloc (Nat.le_refl _) _
  have HS4 : Hid (Below w.heap.size w V4) := (unhide HS3).trans (hb4.mono (unhide HS3).size)
  have HB4 := hide ((unhide HB3).later hb4)
  have HC4 : Hid (T2 V4 w3.heap.size (.string rn) (.string rd)) := by rw [hV4]; exact ⟨by simp [go_sem], by simp [go_sem], by simp [go_sem], by simp [go_sem]⟩
  rw [← hV4]
  clear hV4 hb4 HS2 HS3 HB9 HB3
  generalize w3.heap.size = g11 at *
  have q2 := (unhide HB4).c0; have q3 := (unhide HB4).c1
  have q4 := (unhide HC4).c0; have q5 := (unhide HC4).c1
  go_wp2_with (go_at_call 21; go_must (refine (unhide HAW _ (unhide HS4)).mono ?_; rintro e w9 ⟨rfl, hb9⟩; have HE := hide ((unhide HS4).trans (hb9.mono (unhide HS4).size)); clear hb9))
  go_ret
  exact ⟨by simp, unhide HE⟩
end Go.Proofs.YtifalmdoligblaaGreatDoor

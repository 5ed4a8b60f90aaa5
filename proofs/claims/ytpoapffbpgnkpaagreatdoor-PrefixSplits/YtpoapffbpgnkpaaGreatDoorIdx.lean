/- slices.IndexFunc over the rows; the document's Find. -/
import Derived.Test.YtpoapffbpgnkpaaGreatDoorAll
import Derived.Test.YtpoapffbpgnkpaaGreatDoorRefPlus
import Derived.Lib.SmallJoins
import Derived.Laws.OwnMore
namespace Go.Proofs.YtpoapffbpgnkpaaGreatDoor
open Go.RowKit

theorem refRows_at (W W' : World) (hb : Below (W.heap.size + 1) (W.alloc (.cells refRowsArr 72)) W') (k : Nat) (hk : k < 32) : W'.cell? ⟨W.heap.size, k * 3, none⟩ = some (.string (tbl k).nm) ∧ W'.cell? ⟨W.heap.size, k * 3 + 1, none⟩ = some (.string (tbl k).sy) ∧ W'.cell? ⟨W.heap.size, k * 3 + 2, none⟩ = some (.int .i64 (tbl k).ex) := by
  obtain ⟨h0, h1, h2⟩ := refRows_cell k hk
  rw [Nat.mul_comm] at h0 h1 h2
  have e : ∀ i u, refRowsArr[i]? = some u → W'.cell? ⟨W.heap.size, i, none⟩ = some u := fun i u hu => by
    rw [hb.cell (p := ⟨W.heap.size, i, none⟩) (by show W.heap.size < W.heap.size + 1; omega)]
    simp only [World.cell?, heap_alloc_new]
    simpa using hu
  exact ⟨e _ _ h0, e _ _ h1, e _ _ h2⟩
theorem news5D (W : World) (a b c d e : Value) : ∀ j u, [a, b, c, d, e][j]? = some u → ((W.alloc (.cells #[a, b, c, d, e] 30)).drew).cell? ((⟨W.heap.size, 0, none⟩ : Addr).add j) = some u := news5 W a b c d e
theorem T2.setA {W : World} {g : Nat} {x y : Value} (h : T2 W g x y) (u : Value) : T2 (W.setCell ⟨g, 0, none⟩ u) g u y :=
  ⟨World.cell?_setCell_same _ _ _ h.c0, by rw [World.cell?_setCell_other _ _ _ _ (by simp)]; exact h.c1, by rw [World.frozen?_setCell]; exact h.f0, by rw [World.frozen?_setCell]; exact h.f1⟩
theorem T2.setB {W : World} {g : Nat} {x y : Value} (h : T2 W g x y) (u : Value) : T2 (W.setCell ⟨g, 1, none⟩ u) g x u :=
  ⟨by rw [World.cell?_setCell_other _ _ _ _ (by simp)]; exact h.c0, World.cell?_setCell_same _ _ _ h.c1, by rw [World.frozen?_setCell]; exact h.f0, by rw [World.frozen?_setCell]; exact h.f1⟩
/-- The three cells of one row. -/
structure Row3 (W : World) (g k : Nat) (a b c : Value) : Prop where
  c0 : W.cell? ⟨g, k * 3, none⟩ = some a
  c1 : W.cell? ⟨g, k * 3 + 1, none⟩ = some b
  c2 : W.cell? ⟨g, k * 3 + 2, none⟩ = some c
theorem Row3.later {W V : World} {B g k : Nat} {a b c : Value} (h : Row3 W g k a b c) (hb : Below B W V) (hg : g < B) : Row3 V g k a b c :=
  ⟨(hb.cell (p := ⟨g, k * 3, none⟩) hg).trans h.c0, (hb.cell (p := ⟨g, k * 3 + 1, none⟩) hg).trans h.c1, (hb.cell (p := ⟨g, k * 3 + 2, none⟩) hg).trans h.c2⟩

set_option maxRecDepth 100000 in
set_option maxHeartbeats 4000000 in
theorem refAll_any (w : World) : Calls Tryz.prog 19 #[] w fun r w' => ∃ v, r = .returned v ∧ w'.ownsRow (w.heap.size + 1) 30 5 v 32 (allL 32) ∧ Below w.heap.size w w' := by
  obtain ⟨W1, hW1⟩ : ∃ W1, W1 = w.alloc (.cells refRowsArr 72) := ⟨_, rfl⟩
  have HRO : Hid (Calls Tryz.prog 32 #[] w fun r w' => r = .returned (.slice (some ⟨w.heap.size, 0, none⟩) 32 32) ∧ w' = W1) := by rw [hW1]; exact refRows_any w
  have HW1 := hide hW1
  have hzz : W1.heap.size = w.heap.size + 1 := by rw [hW1]; simp
  have HZ := hide hzz
  clear hzz
  have HB1 : Hid (Below w.heap.size w W1) := by rw [hW1]; exact (Below.refl _ _).alloc (Nat.le_refl _) _
  obtain ⟨i0, hi, hz0, hz1, hz2⟩ := info_parts info28
  clear hW1
  go_enter Tryz.func19, Tryz.ntmps19
  go_wp2_with (go_at_call 32; go_must (refine (unhide HRO).mono ?_; rintro e w1 ⟨rfl, rfl⟩))
  go_loopw [2, 3] (fun s2 s3 wr => ∃ (k : Nat) (v : Value), k ≤ 32 ∧ v = s2 ∧ s3 = .int .i64 (k : Int) ∧ Hid (wr.ownsRow (w.heap.size + 1) 30 5 v k (allL k)) ∧ Hid (Below (w.heap.size + 1) w1 wr)) (fun _ s3 _ => 32 - (intOf s3).toNat)
  case atStart => exact ⟨0, _, by omega, rfl, rfl, World.ownsRow_nil _ _ _ _, Below.refl _ _⟩
  case round =>
    obtain ⟨k, v, hk, rfl, rfl, HO, HB⟩ := hrel
    have HBW : Hid (Below w.heap.size w wr) := (unhide HB1).trans ((unhide HB).mono (by omega))
    have HSZ : Hid (w.heap.size + 1 ≤ wr.heap.size) := by have h1 := (unhide HB).size; have h2 := unhide HZ; show _ ≤ _; omega
    by_cases hk32 : k < 32
    · have hkI : (k : Int) < 32 := by omega
      have hk0 : (0 : Int) ≤ (k : Int) := by omega
      obtain ⟨c0, c1, c2⟩ := refRows_at w wr (by have h := unhide HB; rw [unhide HW1] at h; exact h) k hk32
      have HN := hide (allL_succ k)
      unfold cellsP at HN
      by_cases hlt : k < 12
      · obtain ⟨q1, q2, hx, hx2⟩ := up_facts k hlt
        have HC := hide (fun W => ref_up k hlt W)
        rw [q1, q2] at HN
        have hkJ : ¬ (24 : Int) ≤ (k : Int) := by omega
        clear q1 q2
        generalize (tbl k).nm = nm at *
        generalize (tbl k).sy = sy at *
        generalize (tbl k).ex = x at *
        generalize (tbl k).fn = fn at *
        skip
        have HR : Hid (Row3 wr w.heap.size k (.string nm) (.string sy) (.int .i64 x)) := ⟨c0, c1, c2⟩
        have HGT : Hid (w.heap.size < wr.heap.size) := by have h := unhide HSZ; show _ < _; omega
        have hgt := unhide HGT
        go_wp2_with (first
          | (go_at_call 72; go_must (refine (unhide HC _).mono ?_; rintro e wt ⟨rfl, hbt⟩; have HP2 : Hid (T2 wt wr.heap.size (.string ⟨#[49]⟩) (.string ⟨#[49]⟩)) := T2.past hbt; have hbw : Below wr.heap.size wr wt := bel_al (Below.refl _ _) hbt; have HR3 : Hid (Row3 wt w.heap.size k (.string nm) (.string sy) (.int .i64 x)) := (unhide HR).later hbw (unhide HGT); have HBw := hide hbw; clear hbt hbw c0 c1 c2; have c0 := (unhide HR3).c0; have c1 := (unhide HR3).c1; have t0 := (unhide HP2).c0; have t1 := (unhide HP2).c1; have f0 := (unhide HP2).f0; have f1 := (unhide HP2).f1; have hwt := (unhide HP2).lt))
          | fail)
        obtain ⟨U, hU⟩ : ∃ U, U = wt.setCell ⟨wr.heap.size, 0, none⟩ (.string fn) := ⟨_, rfl⟩
        have hbU : Below wr.heap.size wr U := by rw [hU]; exact (unhide HBw).setCell (p := ⟨wr.heap.size, 0, none⟩) (Nat.le_refl _) _
        have HF : Hid (T2 U wr.heap.size (.string fn) (.string ⟨#[49]⟩)) := by rw [hU]; exact (unhide HP2).setA _
        have HRU : Hid (Row3 U w.heap.size k (.string nm) (.string sy) (.int .i64 x)) := (unhide HR).later hbU (unhide HGT)
        have HO3 : Hid (U.ownsRow (w.heap.size + 1) 30 5 v k (allL k)) := own_later (unhide HO) hbU
        have HB3 : Hid (Below (w.heap.size + 1) w1 U) := (unhide HB).trans (hbU.mono (unhide HSZ))
        have HOD : Hid (((U.alloc (.cells #[.string nm, .string sy, .string fn, .string ⟨#[49]⟩, .bool (decide ((24 : Int) ≤ (k : Int)))] 30)).drew).ownsRow (w.heap.size + 1) 30 5 v k (allL k)) := own_later (unhide HO3) (((Below.refl _ _).alloc (Nat.le_refl _) _).drew)
        have HU0 : Hid (w.heap.size + 1 ≤ U.heap.size) := by have h1 := (unhide HB3).size; have h2 := unhide HZ; show _ ≤ _; omega
        have HU1 : Hid (w.heap.size + 1 ≤ ((U.alloc (.cells #[.string nm, .string sy, .string fn, .string ⟨#[49]⟩, .bool (decide ((24 : Int) ≤ (k : Int)))] 30)).drew).heap.size) := by have h1 := unhide HU0; show _ ≤ _; show w.heap.size + 1 ≤ (U.alloc _).heap.size; simp; omega
        have HL1 : Hid (k + 1 ≤ maxLen) := by show _ ≤ _; unfold maxLen; omega
        have HL2 : Hid ((k + 1) * 72 ≤ 140737488355328) := by show _ ≤ _; omega
        rw [← hU]
        clear hU hbU c0 c1 t0 t1 f0 f1 HP2 HR3 HBw hwt
        have c0 := (unhide HRU).c0; have c1 := (unhide HRU).c1; have t0 := (unhide HF).c0; have t1 := (unhide HF).c1
        have hg3 := (unhide HF).lt; have hg1 : w.heap.size < U.heap.size := by have h := unhide HU0; omega
        have HDB : Hid ((decide ((24 : Int) ≤ (k : Int))) = false) := decide_eq_false (by omega)
        have hn1 : ∀ o, (⟨w.heap.size, o, none⟩ : Addr).block ≠ U.heap.size := fun o => Nat.ne_of_lt hg1
        have hn3 : ∀ o, (⟨wr.heap.size, o, none⟩ : Addr).block ≠ U.heap.size := fun o => Nat.ne_of_lt hg3
        have HKC : Hid (∀ (g o : Nat) (u : Value) (O : Obj), g < U.heap.size → U.cell? ⟨g, o, none⟩ = some u → ((U.alloc O).drew).cell? ⟨g, o, none⟩ = some u) := fun g o u O hg hc => (((Below.refl U.heap.size U).alloc (Nat.le_refl _) O).cell (p := ⟨g, o, none⟩) hg).trans hc
        have HN1 : Hid (∀ o, some (⟨w.heap.size, o, none⟩ : Addr).block ≠ v.ownBlock) := fun o e => by have h := ((unhide HO).lt _ e.symm).1; have h2 : w.heap.size + 1 ≤ w.heap.size := h; omega
        have HN3 : Hid (∀ o, some (⟨wr.heap.size, o, none⟩ : Addr).block ≠ v.ownBlock) := fun o e => by have h := ((unhide HO).lt _ e.symm).2; have h2 : wr.heap.size < wr.heap.size := h; omega
        generalize wr.heap.size = g3 at *
        go_region_held3 (fun w' => w'.cell? ⟨w.heap.size, k * 3, none⟩ = some (.string nm) ∧ w'.cell? ⟨w.heap.size, k * 3 + 1, none⟩ = some (.string sy) ∧ w'.cell? ⟨g3, 0, none⟩ = some (.string fn) ∧ w'.cell? ⟨g3, 1, none⟩ = some (.string ⟨#[49]⟩)) (first | assumption | exact ⟨unhide HKC _ _ _ _ hg1 c0, unhide HKC _ _ _ _ hg1 c1, unhide HKC _ _ _ _ hg3 t0, unhide HKC _ _ _ _ hg3 t1⟩ | exact ⟨(unhide HGR).cell (unhide HKC _ _ _ _ hg1 c0) (unhide HN1 _), (unhide HGR).cell (unhide HKC _ _ _ _ hg1 c1) (unhide HN1 _), (unhide HGR).cell (unhide HKC _ _ _ _ hg3 t0) (unhide HN3 _), (unhide HGR).cell (unhide HKC _ _ _ _ hg3 t1) (unhide HN3 _)⟩ | (simp [go_sem, *]; done)) ((first
          | (refine step_append_own rfl _ _ 55 rfl (w.heap.size + 1) 30 i0 (.agg #[.string ⟨#[]⟩, .string ⟨#[]⟩, .string ⟨#[]⟩, .string ⟨#[]⟩, .bool false]) 5 72 under22 hi hz0 hz1 hz2 rfl (by decide) _ k (allL k) rfl (unhide HOD) ⟨U.heap.size, 0, none⟩ 1 1 [.string nm, .string sy, .string fn, .string ⟨#[49]⟩, .bool (decide ((24 : Int) ≤ (k : Int)))] rfl rfl (news5D _ _ _ _ _ _) (one5 _ _ _ _ _) (unhide HL1) (unhide HL2) (unhide HU1) ?_; intro v2 wa hown hgrow; have HOW := hide hown; have HGR := hide hgrow; clear hown hgrow)))
        have HB4 : Hid (Below (w.heap.size + 1) w1 wa) := (((unhide HB3).alloc (unhide HU0) _).drew).grown (unhide HGR) (unhide HU1) (fun j hj => ((unhide HO3).lt j hj).1)
        go_wp2_with fail
        go_roundw
        case rel =>
          refine ⟨k + 1, v2, by omega, rfl, by go_num, ?_, HB4⟩
          have h := unhide HOW
          rw [unhide HDB] at h
          rw [← unhide HN] at h
          exact h
        case measure => simp [intOf]; omega

      by_cases hge24 : 24 ≤ k
      · have hge := hge24
        obtain ⟨q1, q2, hx, hx2⟩ := bin_facts k hge hk32
        have HC := hide (fun W => bin_at k hge hk32 W)
        rw [q1, q2] at HN
        have hkJ : (24 : Int) ≤ (k : Int) := by omega
        clear q1 q2
        generalize (tbl k).nm = nm at *
        generalize (tbl k).sy = sy at *
        generalize (tbl k).ex = x at *
        generalize (tbl k).fn = fn at *
        skip
        have HR : Hid (Row3 wr w.heap.size k (.string nm) (.string sy) (.int .i64 x)) := ⟨c0, c1, c2⟩
        have HGT : Hid (w.heap.size < wr.heap.size) := by have h := unhide HSZ; show _ < _; omega
        have hgt := unhide HGT
        go_wp2_with (first
          | (go_at_call 72; go_must (refine (unhide HC _).mono ?_; rintro e wt ⟨rfl, hbt⟩; have HP2 : Hid (T2 wt wr.heap.size (.string ⟨#[49]⟩) (.string ⟨#[49]⟩)) := T2.past hbt; have hbw : Below wr.heap.size wr wt := bel_al (Below.refl _ _) hbt; have HR3 : Hid (Row3 wt w.heap.size k (.string nm) (.string sy) (.int .i64 x)) := (unhide HR).later hbw (unhide HGT); have HBw := hide hbw; clear hbt hbw c0 c1 c2; have c0 := (unhide HR3).c0; have c1 := (unhide HR3).c1; have t0 := (unhide HP2).c0; have t1 := (unhide HP2).c1; have f0 := (unhide HP2).f0; have f1 := (unhide HP2).f1; have hwt := (unhide HP2).lt))
          | fail)
        obtain ⟨U, hU⟩ : ∃ U, U = wt.setCell ⟨wr.heap.size, 0, none⟩ (.string fn) := ⟨_, rfl⟩
        have hbU : Below wr.heap.size wr U := by rw [hU]; exact (unhide HBw).setCell (p := ⟨wr.heap.size, 0, none⟩) (Nat.le_refl _) _
        have HF : Hid (T2 U wr.heap.size (.string fn) (.string ⟨#[49]⟩)) := by rw [hU]; exact (unhide HP2).setA _
        have HRU : Hid (Row3 U w.heap.size k (.string nm) (.string sy) (.int .i64 x)) := (unhide HR).later hbU (unhide HGT)
        have HO3 : Hid (U.ownsRow (w.heap.size + 1) 30 5 v k (allL k)) := own_later (unhide HO) hbU
        have HB3 : Hid (Below (w.heap.size + 1) w1 U) := (unhide HB).trans (hbU.mono (unhide HSZ))
        have HOD : Hid (((U.alloc (.cells #[.string nm, .string sy, .string fn, .string ⟨#[49]⟩, .bool true] 30)).drew).ownsRow (w.heap.size + 1) 30 5 v k (allL k)) := own_later (unhide HO3) (((Below.refl _ _).alloc (Nat.le_refl _) _).drew)
        have HU0 : Hid (w.heap.size + 1 ≤ U.heap.size) := by have h1 := (unhide HB3).size; have h2 := unhide HZ; show _ ≤ _; omega
        have HU1 : Hid (w.heap.size + 1 ≤ ((U.alloc (.cells #[.string nm, .string sy, .string fn, .string ⟨#[49]⟩, .bool true] 30)).drew).heap.size) := by have h1 := unhide HU0; show _ ≤ _; show w.heap.size + 1 ≤ (U.alloc _).heap.size; simp; omega
        have HL1 : Hid (k + 1 ≤ maxLen) := by show _ ≤ _; unfold maxLen; omega
        have HL2 : Hid ((k + 1) * 72 ≤ 140737488355328) := by show _ ≤ _; omega
        rw [← hU]
        clear hU hbU c0 c1 t0 t1 f0 f1 HP2 HR3 HBw hwt
        have c0 := (unhide HRU).c0; have c1 := (unhide HRU).c1; have t0 := (unhide HF).c0; have t1 := (unhide HF).c1
        have hg3 := (unhide HF).lt; have hg1 : w.heap.size < U.heap.size := by have h := unhide HU0; omega
        have HDB : Hid (true = true) := rfl
        have hn1 : ∀ o, (⟨w.heap.size, o, none⟩ : Addr).block ≠ U.heap.size := fun o => Nat.ne_of_lt hg1
        have hn3 : ∀ o, (⟨wr.heap.size, o, none⟩ : Addr).block ≠ U.heap.size := fun o => Nat.ne_of_lt hg3
        have HKC : Hid (∀ (g o : Nat) (u : Value) (O : Obj), g < U.heap.size → U.cell? ⟨g, o, none⟩ = some u → ((U.alloc O).drew).cell? ⟨g, o, none⟩ = some u) := fun g o u O hg hc => (((Below.refl U.heap.size U).alloc (Nat.le_refl _) O).cell (p := ⟨g, o, none⟩) hg).trans hc
        have HN1 : Hid (∀ o, some (⟨w.heap.size, o, none⟩ : Addr).block ≠ v.ownBlock) := fun o e => by have h := ((unhide HO).lt _ e.symm).1; have h2 : w.heap.size + 1 ≤ w.heap.size := h; omega
        have HN3 : Hid (∀ o, some (⟨wr.heap.size, o, none⟩ : Addr).block ≠ v.ownBlock) := fun o e => by have h := ((unhide HO).lt _ e.symm).2; have h2 : wr.heap.size < wr.heap.size := h; omega
        generalize wr.heap.size = g3 at *
        go_region_held3 (fun w' => w'.cell? ⟨w.heap.size, k * 3, none⟩ = some (.string nm) ∧ w'.cell? ⟨w.heap.size, k * 3 + 1, none⟩ = some (.string sy) ∧ w'.cell? ⟨g3, 0, none⟩ = some (.string fn) ∧ w'.cell? ⟨g3, 1, none⟩ = some (.string ⟨#[49]⟩)) (first | assumption | exact ⟨unhide HKC _ _ _ _ hg1 c0, unhide HKC _ _ _ _ hg1 c1, unhide HKC _ _ _ _ hg3 t0, unhide HKC _ _ _ _ hg3 t1⟩ | exact ⟨(unhide HGR).cell (unhide HKC _ _ _ _ hg1 c0) (unhide HN1 _), (unhide HGR).cell (unhide HKC _ _ _ _ hg1 c1) (unhide HN1 _), (unhide HGR).cell (unhide HKC _ _ _ _ hg3 t0) (unhide HN3 _), (unhide HGR).cell (unhide HKC _ _ _ _ hg3 t1) (unhide HN3 _)⟩ | (simp [go_sem, *]; done)) ((first
          | (refine step_append_own rfl _ _ 55 rfl (w.heap.size + 1) 30 i0 (.agg #[.string ⟨#[]⟩, .string ⟨#[]⟩, .string ⟨#[]⟩, .string ⟨#[]⟩, .bool false]) 5 72 under22 hi hz0 hz1 hz2 rfl (by decide) _ k (allL k) rfl (unhide HOD) ⟨U.heap.size, 0, none⟩ 1 1 [.string nm, .string sy, .string fn, .string ⟨#[49]⟩, .bool true] rfl rfl (news5D _ _ _ _ _ _) (one5 _ _ _ _ _) (unhide HL1) (unhide HL2) (unhide HU1) ?_; intro v2 wa hown hgrow; have HOW := hide hown; have HGR := hide hgrow; clear hown hgrow)))
        have HB4 : Hid (Below (w.heap.size + 1) w1 wa) := (((unhide HB3).alloc (unhide HU0) _).drew).grown (unhide HGR) (unhide HU1) (fun j hj => ((unhide HO3).lt j hj).1)
        go_wp2_with fail
        go_roundw
        case rel =>
          refine ⟨k + 1, v2, by omega, rfl, by go_num, ?_, HB4⟩
          have h := unhide HOW
          skip
          rw [← unhide HN] at h
          exact h
        case measure => simp [intOf]; omega

      · have hge : 12 ≤ k := by omega
        have hlt : k < 24 := by omega
        obtain ⟨q1, q2, hx, hx2⟩ := down_facts k hge hlt
        have HC := hide (fun W => down_at k hge hlt W)
        rw [q1, q2] at HN
        have hkJ : ¬ (24 : Int) ≤ (k : Int) := by omega
        clear q1 q2
        generalize (tbl k).nm = nm at *
        generalize (tbl k).sy = sy at *
        generalize (tbl k).ex = x at *
        generalize (tbl k).fd = fd at *
        have hx0 : ¬ (0 : Int) < x := by omega
        have HR : Hid (Row3 wr w.heap.size k (.string nm) (.string sy) (.int .i64 x)) := ⟨c0, c1, c2⟩
        have HGT : Hid (w.heap.size < wr.heap.size) := by have h := unhide HSZ; show _ < _; omega
        have hgt := unhide HGT
        go_wp2_with (first
          | (go_at_call 72; go_must (refine (unhide HC _).mono ?_; rintro e wt ⟨rfl, hbt⟩; have HP2 : Hid (T2 wt wr.heap.size (.string ⟨#[49]⟩) (.string ⟨#[49]⟩)) := T2.past hbt; have hbw : Below wr.heap.size wr wt := bel_al (Below.refl _ _) hbt; have HR3 : Hid (Row3 wt w.heap.size k (.string nm) (.string sy) (.int .i64 x)) := (unhide HR).later hbw (unhide HGT); have HBw := hide hbw; clear hbt hbw c0 c1 c2; have c0 := (unhide HR3).c0; have c1 := (unhide HR3).c1; have t0 := (unhide HP2).c0; have t1 := (unhide HP2).c1; have f0 := (unhide HP2).f0; have f1 := (unhide HP2).f1; have hwt := (unhide HP2).lt))
          | fail)
        obtain ⟨U, hU⟩ : ∃ U, U = wt.setCell ⟨wr.heap.size, 1, none⟩ (.string fd) := ⟨_, rfl⟩
        have hbU : Below wr.heap.size wr U := by rw [hU]; exact (unhide HBw).setCell (p := ⟨wr.heap.size, 1, none⟩) (Nat.le_refl _) _
        have HF : Hid (T2 U wr.heap.size (.string ⟨#[49]⟩) (.string fd)) := by rw [hU]; exact (unhide HP2).setB _
        have HRU : Hid (Row3 U w.heap.size k (.string nm) (.string sy) (.int .i64 x)) := (unhide HR).later hbU (unhide HGT)
        have HO3 : Hid (U.ownsRow (w.heap.size + 1) 30 5 v k (allL k)) := own_later (unhide HO) hbU
        have HB3 : Hid (Below (w.heap.size + 1) w1 U) := (unhide HB).trans (hbU.mono (unhide HSZ))
        have HOD : Hid (((U.alloc (.cells #[.string nm, .string sy, .string ⟨#[49]⟩, .string fd, .bool (decide ((24 : Int) ≤ (k : Int)))] 30)).drew).ownsRow (w.heap.size + 1) 30 5 v k (allL k)) := own_later (unhide HO3) (((Below.refl _ _).alloc (Nat.le_refl _) _).drew)
        have HU0 : Hid (w.heap.size + 1 ≤ U.heap.size) := by have h1 := (unhide HB3).size; have h2 := unhide HZ; show _ ≤ _; omega
        have HU1 : Hid (w.heap.size + 1 ≤ ((U.alloc (.cells #[.string nm, .string sy, .string ⟨#[49]⟩, .string fd, .bool (decide ((24 : Int) ≤ (k : Int)))] 30)).drew).heap.size) := by have h1 := unhide HU0; show _ ≤ _; show w.heap.size + 1 ≤ (U.alloc _).heap.size; simp; omega
        have HL1 : Hid (k + 1 ≤ maxLen) := by show _ ≤ _; unfold maxLen; omega
        have HL2 : Hid ((k + 1) * 72 ≤ 140737488355328) := by show _ ≤ _; omega
        rw [← hU]
        clear hU hbU c0 c1 t0 t1 f0 f1 HP2 HR3 HBw hwt
        have c0 := (unhide HRU).c0; have c1 := (unhide HRU).c1; have t0 := (unhide HF).c0; have t1 := (unhide HF).c1
        have hg3 := (unhide HF).lt; have hg1 : w.heap.size < U.heap.size := by have h := unhide HU0; omega
        have HDB : Hid ((decide ((24 : Int) ≤ (k : Int))) = false) := decide_eq_false (by omega)
        have hn1 : ∀ o, (⟨w.heap.size, o, none⟩ : Addr).block ≠ U.heap.size := fun o => Nat.ne_of_lt hg1
        have hn3 : ∀ o, (⟨wr.heap.size, o, none⟩ : Addr).block ≠ U.heap.size := fun o => Nat.ne_of_lt hg3
        have HKC : Hid (∀ (g o : Nat) (u : Value) (O : Obj), g < U.heap.size → U.cell? ⟨g, o, none⟩ = some u → ((U.alloc O).drew).cell? ⟨g, o, none⟩ = some u) := fun g o u O hg hc => (((Below.refl U.heap.size U).alloc (Nat.le_refl _) O).cell (p := ⟨g, o, none⟩) hg).trans hc
        have HN1 : Hid (∀ o, some (⟨w.heap.size, o, none⟩ : Addr).block ≠ v.ownBlock) := fun o e => by have h := ((unhide HO).lt _ e.symm).1; have h2 : w.heap.size + 1 ≤ w.heap.size := h; omega
        have HN3 : Hid (∀ o, some (⟨wr.heap.size, o, none⟩ : Addr).block ≠ v.ownBlock) := fun o e => by have h := ((unhide HO).lt _ e.symm).2; have h2 : wr.heap.size < wr.heap.size := h; omega
        generalize wr.heap.size = g3 at *
        go_region_held3 (fun w' => w'.cell? ⟨w.heap.size, k * 3, none⟩ = some (.string nm) ∧ w'.cell? ⟨w.heap.size, k * 3 + 1, none⟩ = some (.string sy) ∧ w'.cell? ⟨g3, 0, none⟩ = some (.string ⟨#[49]⟩) ∧ w'.cell? ⟨g3, 1, none⟩ = some (.string fd)) (first | assumption | exact ⟨unhide HKC _ _ _ _ hg1 c0, unhide HKC _ _ _ _ hg1 c1, unhide HKC _ _ _ _ hg3 t0, unhide HKC _ _ _ _ hg3 t1⟩ | exact ⟨(unhide HGR).cell (unhide HKC _ _ _ _ hg1 c0) (unhide HN1 _), (unhide HGR).cell (unhide HKC _ _ _ _ hg1 c1) (unhide HN1 _), (unhide HGR).cell (unhide HKC _ _ _ _ hg3 t0) (unhide HN3 _), (unhide HGR).cell (unhide HKC _ _ _ _ hg3 t1) (unhide HN3 _)⟩ | (simp [go_sem, *]; done)) ((first
          | (refine step_append_own rfl _ _ 55 rfl (w.heap.size + 1) 30 i0 (.agg #[.string ⟨#[]⟩, .string ⟨#[]⟩, .string ⟨#[]⟩, .string ⟨#[]⟩, .bool false]) 5 72 under22 hi hz0 hz1 hz2 rfl (by decide) _ k (allL k) rfl (unhide HOD) ⟨U.heap.size, 0, none⟩ 1 1 [.string nm, .string sy, .string ⟨#[49]⟩, .string fd, .bool (decide ((24 : Int) ≤ (k : Int)))] rfl rfl (news5D _ _ _ _ _ _) (one5 _ _ _ _ _) (unhide HL1) (unhide HL2) (unhide HU1) ?_; intro v2 wa hown hgrow; have HOW := hide hown; have HGR := hide hgrow; clear hown hgrow)))
        have HB4 : Hid (Below (w.heap.size + 1) w1 wa) := (((unhide HB3).alloc (unhide HU0) _).drew).grown (unhide HGR) (unhide HU1) (fun j hj => ((unhide HO3).lt j hj).1)
        go_wp2_with fail
        go_roundw
        case rel =>
          refine ⟨k + 1, v2, by omega, rfl, by go_num, ?_, HB4⟩
          have h := unhide HOW
          rw [unhide HDB] at h
          rw [← unhide HN] at h
          exact h
        case measure => simp [intOf]; omega

    · have hkI : ¬ (k : Int) < 32 := by omega
      have HK : Hid (k = 32) := by show k = 32; omega
      go_wp2_with fail
      go_ret
      refine ⟨v, rfl, ?_, unhide HBW⟩
      have h := unhide HO
      rw [unhide HK] at h
      exact h
end Go.Proofs.YtpoapffbpgnkpaaGreatDoor

namespace Go.Proofs.YtpoapffbpgnkpaaGreatDoor
open Go.RowKit

theorem allL_len (n : Nat) : (allL n).length = n * 5 := by
  induction n with
  | zero => rfl
  | succ n ih => rw [allL_succ, List.length_append, ih]; show n * 5 + 5 = _; omega
theorem allL_get (n k i : Nat) (hk : k < n) (hi : i < 5) : (allL n)[k * 5 + i]? = (cellsP k)[i]? := by
  induction n with
  | zero => omega
  | succ n ih =>
    rw [allL_succ]
    by_cases h : k < n
    · rw [List.getElem?_append_left (by rw [allL_len]; omega)]
      exact ih h
    · have e : k = n := by omega
      subst e
      rw [List.getElem?_append_right (by rw [allL_len]; omega), allL_len]
      congr 1
      omega
/-- The five cells of one prefix. -/
structure Five (W : World) (g k : Nat) : Prop where
  c0 : W.cell? ⟨g, k * 5, none⟩ = some (.string (tbl k).nm)
  c1 : W.cell? ⟨g, k * 5 + 1, none⟩ = some (.string (tbl k).sy)
  c2 : W.cell? ⟨g, k * 5 + 2, none⟩ = some (.string (tbl k).fn)
  c3 : W.cell? ⟨g, k * 5 + 3, none⟩ = some (.string (tbl k).fd)
  c4 : W.cell? ⟨g, k * 5 + 4, none⟩ = some (.bool (tbl k).bi)
theorem Five.later {W V : World} {B g k : Nat} (h : Five W g k) (hb : Below B W V) (hg : g < B) : Five V g k :=
  ⟨(hb.cell (p := ⟨g, k * 5, none⟩) hg).trans h.c0, (hb.cell (p := ⟨g, k * 5 + 1, none⟩) hg).trans h.c1, (hb.cell (p := ⟨g, k * 5 + 2, none⟩) hg).trans h.c2, (hb.cell (p := ⟨g, k * 5 + 3, none⟩) hg).trans h.c3, (hb.cell (p := ⟨g, k * 5 + 4, none⟩) hg).trans h.c4⟩
theorem own_five {W : World} {base : Nat} {v : Value} (h : W.ownsRow base 30 5 v 32 (allL 32)) : ∃ g cap, v = .slice (some ⟨g, 0, none⟩) 32 cap ∧ base ≤ g ∧ g < W.heap.size ∧ (∀ k, k < 32 → Five W g k) ∧ (∀ o, W.frozen? ⟨g, o, none⟩ = false) := by
  obtain ⟨g, cap, rfl⟩ := Joins.ownsRow_form h (by decide)
  have hl := h.lt g rfl
  have hc : ∀ k i, k < 32 → i < 5 → W.cell? ⟨g, k * 5 + i, none⟩ = (cellsP k)[i]? := fun k i hk hi => by
    rw [h.cellAt (k * 5 + i) (by omega), allL_get 32 k i hk hi]
  refine ⟨g, cap, rfl, hl.1, hl.2, fun k hk => ⟨hc k 0 hk (by decide), hc k 1 hk (by decide), hc k 2 hk (by decide), hc k 3 hk (by decide), hc k 4 hk (by decide)⟩, ?_⟩
  intro o
  obtain ⟨_, h2⟩ := h
  rcases h2 with ⟨h2, _⟩ | ⟨g', cap', cur, e, _, hg, _⟩
  · cases h2
  · cases e
    simp [World.frozen?, hg]

end Go.Proofs.YtpoapffbpgnkpaaGreatDoor

namespace Go.Proofs.YtpoapffbpgnkpaaGreatDoor
open Go.RowKit
/-- What the document's symbol asks. -/
def symB (s nm sy : ByteArray) : Bool := s.toList == sy.toList || (nm.toList == [109, 105, 99, 114, 111] && (s.toList == [117] || s.toList == [194, 181]))
set_option maxRecDepth 100000 in
set_option maxHeartbeats 2000000 in
theorem closure_any (nm sy : ByteArray) (fv : Value) (s : ByteArray) (b : Nat) (w : World) (hb : w.cell? ⟨b, 0, none⟩ = some (.string s)) (hlt : b < w.heap.size) : Calls Tryz.prog 75 #[.agg #[.string nm, .string sy, fv], .pointer (some ⟨b, 0, none⟩)] w fun r w' => r = .returned (.bool (nm.toList == s.toList)) ∧ Below w.heap.size w w' := by
  go_enter Tryz.func75, Tryz.ntmps75
  go_wp2_with fail
  go_ret
  exact ⟨rfl, (Below.refl _ _).alloc (Nat.le_refl _) _⟩
set_option maxRecDepth 100000 in
set_option maxHeartbeats 2000000 in
theorem symbol_any (nm sy fn fd : ByteArray) (bi : Bool) (s : ByteArray) (w : World) : Calls Tryz.prog 73 #[.agg #[.string nm, .string sy, .string fn, .string fd, .bool bi], .string s] w fun r w' => r = .returned (.bool (symB s nm sy)) ∧ Below w.heap.size w w' := by
  unfold symB
  go_enter Tryz.func73, Tryz.ntmps73
  go_wp2_with fail
  all_goals
    go_ret
    refine ⟨?_, (Below.refl _ _).alloc (Nat.le_refl _) _⟩
    first | rfl | (simp [*]; done) | (simp_all; done)
end Go.Proofs.YtpoapffbpgnkpaaGreatDoor

namespace Go.Proofs.YtpoapffbpgnkpaaGreatDoor
open Go.RowKit
/-- The first of the 32 that answers, or none. -/
def IsFirst (p : Nat → Bool) (j : Int) : Prop := (∃ k : Nat, k < 32 ∧ j = (k : Int) ∧ p k = true ∧ ∀ i, i < k → p i = false) ∨ (j = -1 ∧ ∀ i, i < 32 → p i = false)
theorem none_succ {p : Nat → Bool} {k : Nat} (h : ∀ i, i < k → p i = false) (hk : p k = false) : ∀ i, i < k + 1 → p i = false := fun i hi => by
  by_cases e : i = k
  · rw [e]; exact hk
  · exact h i (by omega)
def nameB (s : ByteArray) (k : Nat) : Bool := (tbl k).nm.toList == s.toList
set_option maxRecDepth 100000 in
set_option maxHeartbeats 2000000 in
theorem index_any (s : ByteArray) (g b : Nat) (w : World) (hr : ∀ k, k < 32 → Row3 w g k (.string (tbl k).nm) (.string (tbl k).sy) (.func (.func (tbl k).f) #[] #[])) (hg : g < w.heap.size) (hb : w.cell? ⟨b, 0, none⟩ = some (.string s)) (hlt : b < w.heap.size) :
    Calls Tryz.prog 74 #[.slice (some ⟨g, 0, none⟩) 32 32, .func (.func 75) #[] #[.pointer (some ⟨b, 0, none⟩)]] w fun r w' => ∃ j : Int, r = .returned (.int .i64 j) ∧ IsFirst (nameB s) j ∧ Below w.heap.size w w' := by
  have HR := hide hr; have HBC := hide hb
  clear hr hb
  go_enter Tryz.func74, Tryz.ntmps74
  go_wp2_with fail
  go_loopw [8] (fun s8 wr => ∃ (k : Nat), k ≤ 32 ∧ s8 = .int .i64 (k : Int) ∧ Hid (∀ i, i < k → nameB s i = false) ∧ Hid (Below w.heap.size w wr)) (fun s8 _ => 32 - (intOf s8).toNat)
  case atStart => exact ⟨0, by omega, rfl, fun i hi => absurd hi (by omega), Below.refl _ _⟩
  case round =>
    obtain ⟨k, hk, rfl, HN, HB⟩ := hrel
    by_cases hk32 : k < 32
    · have hkI : (k : Int) < 32 := by omega
      have hk0 : (0 : Int) ≤ (k : Int) := by omega
      have hrow := (unhide HR k hk32).later (unhide HB) hg
      have c0 := hrow.c0; have c1 := hrow.c1; have c2 := hrow.c2
      clear hrow
      have HC : Hid (∀ W, Below wr.heap.size wr W → Calls Tryz.prog 75 #[.agg #[.string (tbl k).nm, .string (tbl k).sy, .func (.func (tbl k).f) #[] #[]], .pointer (some ⟨b, 0, none⟩)] W fun r w' => r = .returned (.bool (nameB s k)) ∧ Below W.heap.size W w') := fun W hW =>
        closure_any _ _ _ s b W (((unhide HB).trans (hW.mono (unhide HB).size)).cell (p := ⟨b, 0, none⟩) hlt |>.trans (unhide HBC)) (Nat.lt_of_lt_of_le hlt (((unhide HB).trans (hW.mono (unhide HB).size)).size))
      have HNK := hide (fun (e : nameB s k = false) => none_succ (unhide HN) e)
      have HYK := hide (fun (e : nameB s k = true) => (Or.inl ⟨k, hk32, rfl, e, unhide HN⟩ : IsFirst (nameB s) (k : Int)))
      generalize (tbl k).nm = nm at *
      generalize (tbl k).sy = sy at *
      generalize (tbl k).f = f at *
      by_cases hB : nameB s k = true
      · have HJ := hide (unhide HYK hB)
        rw [hB] at HC
        clear HNK HYK hB
        go_wp2_with (go_at_call 75; go_must (refine (unhide HC _ (Below.refl _ _)).mono ?_; rintro e wt ⟨rfl, hbt⟩; have HBT := hide hbt; clear hbt))
        go_ret
        exact ⟨_, rfl, unhide HJ, (unhide HB).trans ((unhide HBT).mono (unhide HB).size)⟩
      · have hB' : nameB s k = false := by simpa using hB
        have HJ := hide (unhide HNK hB')
        rw [hB'] at HC
        clear HNK HYK hB hB'
        go_wp2_with (go_at_call 75; go_must (refine (unhide HC _ (Below.refl _ _)).mono ?_; rintro e wt ⟨rfl, hbt⟩; have HBT := hide hbt; clear hbt))
        go_roundw
        case rel => exact ⟨k + 1, by omega, by go_num, HJ, (unhide HB).trans ((unhide HBT).mono (unhide HB).size)⟩
        case measure => simp [intOf]; omega
    · have hkI : ¬ (k : Int) < 32 := by omega
      go_wp2_with fail
      go_ret
      exact ⟨-1, rfl, Or.inr ⟨rfl, fun i hi => unhide HN i (by omega)⟩, unhide HB⟩
/-- Five cells at a row. -/
structure F5 (W : World) (g k : Nat) (a b c d e : Value) : Prop where
  c0 : W.cell? ⟨g, k * 5, none⟩ = some a
  c1 : W.cell? ⟨g, k * 5 + 1, none⟩ = some b
  c2 : W.cell? ⟨g, k * 5 + 2, none⟩ = some c
  c3 : W.cell? ⟨g, k * 5 + 3, none⟩ = some d
  c4 : W.cell? ⟨g, k * 5 + 4, none⟩ = some e
theorem F5.later {W V : World} {B g k : Nat} {a b c d e : Value} (h : F5 W g k a b c d e) (hb : Below B W V) (hg : g < B) : F5 V g k a b c d e :=
  ⟨(hb.cell (p := ⟨g, k * 5, none⟩) hg).trans h.c0, (hb.cell (p := ⟨g, k * 5 + 1, none⟩) hg).trans h.c1, (hb.cell (p := ⟨g, k * 5 + 2, none⟩) hg).trans h.c2, (hb.cell (p := ⟨g, k * 5 + 3, none⟩) hg).trans h.c3, (hb.cell (p := ⟨g, k * 5 + 4, none⟩) hg).trans h.c4⟩
/-- Whether the document finds a text at a row. -/
def foundB (s : ByteArray) (k : Nat) : Bool := (tbl k).nm.toList == s.toList || symB s (tbl k).nm (tbl k).sy
def zeroP : Value := .agg #[.string ⟨#[]⟩, .string ⟨#[]⟩, .string ⟨#[]⟩, .string ⟨#[]⟩, .bool false]
end Go.Proofs.YtpoapffbpgnkpaaGreatDoor

/- flo: whole (40), turned (65), times (42), cmp (44). -/
import Derived.Test.YtijifpbpjinmhaaGreatDoorSt
set_option maxHeartbeats 4000000
set_option maxRecDepth 100000
namespace Go.Proofs.YtijifpbpjinmhaaGreatDoor
open Go.RowKit
theorem info59 : (Tryz.prog.info? 54).map (·.size) = some 2 := by kernel_rfl
theorem res59 {fn : Func} {p : Tmp} (h : fn.results = #[.cell p 54]) (tmps : Array Value) (w : World) (g : Nat) (vs : Array Value) (hl : vs.size = 2) (hp : tmps.getD p undef = .pointer (some ⟨g, 0, none⟩)) (ho : OwnU w g 54 vs) :
    (results fn tmps).run Tryz.prog w = .ok (.agg vs) w := by
  rw [results_cell1 h, hp]
  simp only [asAddr, Sem.run_pure, Result.andThen_ok]
  exact run_loadVar_row w g 54 54 vs (0, 0) _ ho Tryz.underlying54 rfl (by rw [info59, hl])
theorem NI (a : Option Addr) (l c : Nat) : ∀ k n, Value.slice a l c ≠ .int k n := fun _ _ e => by cases e
theorem nz2 (a b : Option Addr) (l c m d : Nat) : ∀ (i : Nat) x, (#[.slice a l c, .slice b m d] : Array Value)[i]? = some x → ∀ k n, x ≠ .int k n := nints2 _ _ (NI _ _ _) (NI _ _ _)
theorem nz1 (a : Option Addr) (l c : Nat) : ∀ (i : Nat) x, (#[.slice a l c] : Array Value)[i]? = some x → ∀ k n, x ≠ .int k n := nints1 _ (NI _ _ _)
theorem whole_any (a1 : Option Addr) (l1 c1 n : Nat) (w : World) (hx : IsBig w (.agg #[.slice a1 l1 c1]) n) : Calls Tryz.prog 46 #[.agg #[.slice a1 l1 c1]] w fun e w' => ∃ v, e = .returned v ∧ IsSz w' v n 1 ∧ Below w.heap.size w w' := by
  obtain ⟨V, hV⟩ : ∃ V, V = (w.alloc (.cells #[.slice a1 l1 c1] 51)).alloc (.cells #[.slice none 0 0, .slice none 0 0] 54) := ⟨_, rfl⟩
  have HA0 : Hid (OwnU V w.heap.size 51 #[.slice a1 l1 c1]) := by rw [hV]; exact (OwnU.new _ _ _).alloc _
  have HR0 : Hid (OwnU V (w.heap.size + 1) 54 #[.slice none 0 0, .slice none 0 0]) := by rw [hV]; have h := OwnU.new (w.alloc (.cells #[.slice a1 l1 c1] 51)) #[.slice none 0 0, .slice none 0 0] 54; simp only [World.size_alloc] at h; exact h
  have HW0 : Hid (Below w.heap.size w V) := by rw [hV]; exact (((Below.refl _ _).alloc (by simp; try omega) _).alloc (by simp; try omega) _)
  have HX0 : Hid (IsBig V (.agg #[.slice a1 l1 c1]) n) := hx.later (unhide HW0)
  have HV := hide hV
  clear hV hx
  go_enter Tryz.func46, Tryz.ntmps46
  go_upto_region 1 with fail
  rw [← unhide HV]
  clear HV
  refine region_reads 3 (fun _ => True) (fun W' => W'.cell? ⟨w.heap.size, 0, none⟩ = some (.slice a1 l1 c1)) 4 rfl (by kernel_rfl) ?_
  have HA1 : Hid (OwnU V.drew w.heap.size 51 #[.slice a1 l1 c1]) := (unhide HA0).later ((Below.refl _ _).drew)
  have HR1 : Hid (OwnU V.drew (w.heap.size + 1) 54 #[.slice none 0 0, .slice none 0 0]) := (unhide HR0).later ((Below.refl _ _).drew)
  have HW1 : Hid (Below w.heap.size w V.drew) := (unhide HW0).drew
  have HX1 : Hid (IsBig V.drew (.agg #[.slice a1 l1 c1]) n) := (unhide HX0).later ((Below.refl _ _).drew)
  clear HA0 HR0 HW0 HX0
  generalize V.drew = U0 at *
  refine wpR_take7 (i := 0) (oi := _) (v := .agg #[.slice a1 l1 c1]) rfl (by kernel_rfl) (by kernel_rfl) (by kernel_rfl) (by kernel_rfl) (fun _ _ _ h => h) (Or.inl ⟨by rfl, ?_⟩) ⟨trivial, (unhide HA1).ub.c 0 _ rfl⟩ ?_
  · intro W' hW
    go_simp
  refine wpR_op (i := 1) (o := _) (by kernel_rfl) rfl rfl (fun K hK => ?_)
  go_simp
  refine (bigOf_any 1 _ (by decide)).mono ?_
  rintro e U1 ⟨a2, l2, c2, rfl, hv, hb⟩
  have HA2 : Hid (OwnU U1 w.heap.size 51 #[.slice a1 l1 c1]) := (unhide HA1).later (hb)
  have HR2 : Hid (OwnU U1 (w.heap.size + 1) 54 #[.slice none 0 0, .slice none 0 0]) := (unhide HR1).later (hb)
  have HW2 : Hid (Below w.heap.size w U1) := (unhide HW1).trans ((hb).mono (unhide HW1).size)
  have HX2 : Hid (IsBig U1 (.agg #[.slice a1 l1 c1]) n) := (unhide HX1).later (hb)
  have HY2 : Hid (IsBig U1 (.agg #[.slice a2 l2 c2]) 1) := hv
  clear HA1 HR1 HW1 HX1
  refine hK _ _ ⟨trivial, (unhide HA2).ub.c 0 _ rfl⟩ ?_
  clear hK K hb
  clear hv
  refine wpR_op (i := 2) (o := _) (by kernel_rfl) rfl rfl (fun K hK => ?_)
  go_simp
  refine hK _ _ ⟨trivial, (unhide HA2).ub.c 0 _ rfl⟩ ?_
  clear hK K
  refine wpR_late (i := 3) (o := _) (by kernel_rfl) rfl rfl (by kernel_rfl) (fun K hK => ?_)
  have HA3 : Hid (OwnU (U1.setRow (w.heap.size + 1) #[.slice a1 l1 c1, .slice a2 l2 c2]) w.heap.size 51 #[.slice a1 l1 c1]) := (unhide HA2).other (by omega) _
  have HR3 : Hid (OwnU (U1.setRow (w.heap.size + 1) #[.slice a1 l1 c1, .slice a2 l2 c2]) (w.heap.size + 1) 54 #[.slice a1 l1 c1, .slice a2 l2 c2]) := (unhide HR2).setRow _
  have HW3 : Hid (Below w.heap.size w (U1.setRow (w.heap.size + 1) #[.slice a1 l1 c1, .slice a2 l2 c2])) := below_setRow (unhide HW2) (by omega) _
  have HX3 : Hid (IsBig (U1.setRow (w.heap.size + 1) #[.slice a1 l1 c1, .slice a2 l2 c2]) (.agg #[.slice a1 l1 c1]) n) := (unhide HX2).setRow (unhide HR2) (nz2 _ _ _ _ _ _) _
  have HY3 : Hid (IsBig (U1.setRow (w.heap.size + 1) #[.slice a1 l1 c1, .slice a2 l2 c2]) (.agg #[.slice a2 l2 c2]) 1) := (unhide HY2).setRow (unhide HR2) (nz2 _ _ _ _ _ _) _
  refine wp_store_row 54 (.tmp 2) (.tmp 5) rfl (w.heap.size + 1) #[.slice a1 l1 c1, .slice a2 l2 c2] rfl rfl 54 _ (unhide HR2) (by rw [info59]; rfl) rfl (by kernel_rfl) ?_
  clear HA2 HR2 HW2 HX2 HY2
  generalize U1.setRow (w.heap.size + 1) #[.slice a1 l1 c1, .slice a2 l2 c2] = U2 at *
  refine hK _ _ ((unhide HA3).ub.c 0 _ rfl) ?_
  clear hK K
  refine wpR_done (by kernel_rfl) ?_
  go_wp2_with fail
  exact bodyPost_ret (v := .agg #[.slice a1 l1 c1, .slice a2 l2 c2]) (res59 Tryz.results46 _ _ (w.heap.size + 1) _ rfl rfl (unhide HR3)) rfl ⟨_, rfl, IsSz.mk (unhide HX3) (unhide HY3), unhide HW3⟩
theorem turned_yes (a1 : Option Addr) (l1 c1 : Nat) (a2 : Option Addr) (l2 c2 p q : Nat) (w : World) (hx : IsBig w (.agg #[.slice a1 l1 c1]) p) (hy : IsBig w (.agg #[.slice a2 l2 c2]) q) : Calls Tryz.prog 101 #[.agg #[.slice a1 l1 c1, .slice a2 l2 c2], .bool true] w fun e w' => ∃ v, e = .returned v ∧ IsSz w' v q p ∧ Below w.heap.size w w' := by
  obtain ⟨V, hV⟩ : ∃ V, V = (w.alloc (.cells #[.slice a1 l1 c1, .slice a2 l2 c2] 54)).alloc (.cells #[.slice none 0 0, .slice none 0 0] 54) := ⟨_, rfl⟩
  have HA0 : Hid (OwnU V w.heap.size 54 #[.slice a1 l1 c1, .slice a2 l2 c2]) := by rw [hV]; exact (OwnU.new _ _ _).alloc _
  have HR0 : Hid (OwnU V (w.heap.size + 1) 54 #[.slice none 0 0, .slice none 0 0]) := by rw [hV]; have h := OwnU.new (w.alloc (.cells #[.slice a1 l1 c1, .slice a2 l2 c2] 54)) #[.slice none 0 0, .slice none 0 0] 54; simp only [World.size_alloc] at h; exact h
  have HW0 : Hid (Below w.heap.size w V) := by rw [hV]; exact (((Below.refl _ _).alloc (by simp; try omega) _).alloc (by simp; try omega) _)
  have HX0 : Hid (IsBig V (.agg #[.slice a1 l1 c1]) p) := hx.later (unhide HW0)
  have HY0 : Hid (IsBig V (.agg #[.slice a2 l2 c2]) q) := hy.later (unhide HW0)
  have HV := hide hV
  clear hV hx hy
  go_enter Tryz.func101, Tryz.ntmps101
  go_upto_region 1 with fail
  rw [← unhide HV]
  clear HV
  have t0 : V.cell? ⟨w.heap.size, 0, none⟩ = some (.slice a1 l1 c1) := (unhide HA0).ub.c 0 _ rfl
  have t1 : V.cell? ⟨w.heap.size, 1, none⟩ = some (.slice a2 l2 c2) := (unhide HA0).ub.c 1 _ rfl
  go_wp2_with (refine storeT 54 2 info59 rfl (.tmp 4) (.tmp 10) rfl (w.heap.size + 1) #[.slice none 0 0, .slice none 0 0] #[.slice a2 l2 c2, .slice a1 l1 c1] rfl rfl rfl rfl (unhide HR0) (by kernel_rfl) ?_)
  have hX : IsBig (V.setRow (w.heap.size + 1) #[.slice a2 l2 c2, .slice a1 l1 c1]) (.agg #[.slice a1 l1 c1]) p := (unhide HX0).setRow (unhide HR0) (nz2 _ _ _ _ _ _) _
  have hY : IsBig (V.setRow (w.heap.size + 1) #[.slice a2 l2 c2, .slice a1 l1 c1]) (.agg #[.slice a2 l2 c2]) q := (unhide HY0).setRow (unhide HR0) (nz2 _ _ _ _ _ _) _
  exact bodyPost_ret (v := .agg #[.slice a2 l2 c2, .slice a1 l1 c1]) (res59 Tryz.results101 _ _ (w.heap.size + 1) _ rfl rfl ((unhide HR0).setRow _)) rfl ⟨_, rfl, IsSz.mk hY hX, below_setRow (unhide HW0) (by omega) _⟩
theorem turned_no (a1 : Option Addr) (l1 c1 : Nat) (a2 : Option Addr) (l2 c2 p q : Nat) (w : World) (hx : IsBig w (.agg #[.slice a1 l1 c1]) p) (hy : IsBig w (.agg #[.slice a2 l2 c2]) q) : Calls Tryz.prog 101 #[.agg #[.slice a1 l1 c1, .slice a2 l2 c2], .bool false] w fun e w' => ∃ v, e = .returned v ∧ IsSz w' v p q ∧ Below w.heap.size w w' := by
  obtain ⟨V, hV⟩ : ∃ V, V = (w.alloc (.cells #[.slice a1 l1 c1, .slice a2 l2 c2] 54)).alloc (.cells #[.slice none 0 0, .slice none 0 0] 54) := ⟨_, rfl⟩
  have HA0 : Hid (OwnU V w.heap.size 54 #[.slice a1 l1 c1, .slice a2 l2 c2]) := by rw [hV]; exact (OwnU.new _ _ _).alloc _
  have HR0 : Hid (OwnU V (w.heap.size + 1) 54 #[.slice none 0 0, .slice none 0 0]) := by rw [hV]; have h := OwnU.new (w.alloc (.cells #[.slice a1 l1 c1, .slice a2 l2 c2] 54)) #[.slice none 0 0, .slice none 0 0] 54; simp only [World.size_alloc] at h; exact h
  have HW0 : Hid (Below w.heap.size w V) := by rw [hV]; exact (((Below.refl _ _).alloc (by simp; try omega) _).alloc (by simp; try omega) _)
  have HX0 : Hid (IsBig V (.agg #[.slice a1 l1 c1]) p) := hx.later (unhide HW0)
  have HY0 : Hid (IsBig V (.agg #[.slice a2 l2 c2]) q) := hy.later (unhide HW0)
  have HV := hide hV
  clear hV hx hy
  go_enter Tryz.func101, Tryz.ntmps101
  go_upto_region 1 with fail
  rw [← unhide HV]
  clear HV
  have t0 : V.cell? ⟨w.heap.size, 0, none⟩ = some (.slice a1 l1 c1) := (unhide HA0).ub.c 0 _ rfl
  have t1 : V.cell? ⟨w.heap.size, 1, none⟩ = some (.slice a2 l2 c2) := (unhide HA0).ub.c 1 _ rfl
  go_wp2_with (refine storeT 54 2 info59 rfl (.tmp 4) (.tmp 11) rfl (w.heap.size + 1) #[.slice none 0 0, .slice none 0 0] #[.slice a1 l1 c1, .slice a2 l2 c2] rfl rfl rfl rfl (unhide HR0) (by kernel_rfl) ?_)
  have hX : IsBig (V.setRow (w.heap.size + 1) #[.slice a1 l1 c1, .slice a2 l2 c2]) (.agg #[.slice a1 l1 c1]) p := (unhide HX0).setRow (unhide HR0) (nz2 _ _ _ _ _ _) _
  have hY : IsBig (V.setRow (w.heap.size + 1) #[.slice a1 l1 c1, .slice a2 l2 c2]) (.agg #[.slice a2 l2 c2]) q := (unhide HY0).setRow (unhide HR0) (nz2 _ _ _ _ _ _) _
  exact bodyPost_ret (v := .agg #[.slice a1 l1 c1, .slice a2 l2 c2]) (res59 Tryz.results101 _ _ (w.heap.size + 1) _ rfl rfl ((unhide HR0).setRow _)) rfl ⟨_, rfl, IsSz.mk hX hY, below_setRow (unhide HW0) (by omega) _⟩
theorem times_any (a1 : Option Addr) (l1 c1 : Nat) (a2 : Option Addr) (l2 c2 : Nat) (a3 : Option Addr) (l3 c3 : Nat) (a4 : Option Addr) (l4 c4 : Nat) (p q r s k : Nat) (w : World) (hp : IsBig w (.agg #[.slice a1 l1 c1]) p) (hq : IsBig w (.agg #[.slice a2 l2 c2]) q) (hr : IsBig w (.agg #[.slice a3 l3 c3]) r) (hs : IsBig w (.agg #[.slice a4 l4 c4]) s) (hk : k ≤ 1000000) (hpl : p < 1000000000 ^ k) (hql : q < 1000000000 ^ k) (hrl : r < 1000000000 ^ k) (hsl : s < 1000000000 ^ k) :
    Calls Tryz.prog 47 #[.agg #[.slice a1 l1 c1, .slice a2 l2 c2], .agg #[.slice a3 l3 c3, .slice a4 l4 c4]] w fun e w' => ∃ v, e = .returned v ∧ IsSz w' v (p * r) (q * s) ∧ Below w.heap.size w w' := by
  obtain ⟨V, hV⟩ : ∃ V, V = ((w.alloc (.cells #[.slice a1 l1 c1, .slice a2 l2 c2] 54)).alloc (.cells #[.slice a3 l3 c3, .slice a4 l4 c4] 54)).alloc (.cells #[.slice none 0 0, .slice none 0 0] 54) := ⟨_, rfl⟩
  have HA0 : Hid (OwnU V w.heap.size 54 #[.slice a1 l1 c1, .slice a2 l2 c2]) := by rw [hV]; exact ((OwnU.new _ _ _).alloc _).alloc _
  have HB0 : Hid (OwnU V (w.heap.size + 1) 54 #[.slice a3 l3 c3, .slice a4 l4 c4]) := by rw [hV]; have h := OwnU.new (w.alloc (.cells #[.slice a1 l1 c1, .slice a2 l2 c2] 54)) #[.slice a3 l3 c3, .slice a4 l4 c4] 54; simp only [World.size_alloc] at h; exact h.alloc _
  have HR0 : Hid (OwnU V (w.heap.size + 1 + 1) 54 #[.slice none 0 0, .slice none 0 0]) := by rw [hV]; have h := OwnU.new ((w.alloc (.cells #[.slice a1 l1 c1, .slice a2 l2 c2] 54)).alloc (.cells #[.slice a3 l3 c3, .slice a4 l4 c4] 54)) #[.slice none 0 0, .slice none 0 0] 54; simp only [World.size_alloc] at h; exact h
  have HW0 : Hid (Below w.heap.size w V) := by rw [hV]; exact ((((Below.refl _ _).alloc (by simp; try omega) _).alloc (by simp; try omega) _).alloc (by simp; try omega) _)
  have HNp0 : Hid (IsBig V (.agg #[.slice a1 l1 c1]) p) := hp.later (unhide HW0)
  have HNq0 : Hid (IsBig V (.agg #[.slice a2 l2 c2]) q) := hq.later (unhide HW0)
  have HNr0 : Hid (IsBig V (.agg #[.slice a3 l3 c3]) r) := hr.later (unhide HW0)
  have HNs0 : Hid (IsBig V (.agg #[.slice a4 l4 c4]) s) := hs.later (unhide HW0)
  have HV := hide hV
  have HK := hide hk
  have HPL := hide hpl
  have HQL := hide hql
  have HRL := hide hrl
  have HSL := hide hsl
  clear hV hp hq hr hs hk hpl hql hrl hsl
  go_enter Tryz.func47, Tryz.ntmps47
  go_upto_region 1 with fail
  rw [← unhide HV]
  clear HV
  refine region_reads 11 (fun _ => True) (fun W' => W'.cell? ⟨w.heap.size, 0, none⟩ = some (.slice a1 l1 c1) ∧ W'.cell? ⟨w.heap.size, 1, none⟩ = some (.slice a2 l2 c2) ∧ W'.cell? ⟨(w.heap.size + 1), 0, none⟩ = some (.slice a3 l3 c3) ∧ W'.cell? ⟨(w.heap.size + 1), 1, none⟩ = some (.slice a4 l4 c4)) 12 rfl (by kernel_rfl) ?_
  have HA1 : Hid (OwnU V.drew w.heap.size 54 #[.slice a1 l1 c1, .slice a2 l2 c2]) := (unhide HA0).later ((Below.refl _ _).drew)
  have HB1 : Hid (OwnU V.drew (w.heap.size + 1) 54 #[.slice a3 l3 c3, .slice a4 l4 c4]) := (unhide HB0).later ((Below.refl _ _).drew)
  have HR1 : Hid (OwnU V.drew (w.heap.size + 1 + 1) 54 #[.slice none 0 0, .slice none 0 0]) := (unhide HR0).later ((Below.refl _ _).drew)
  have HW1 : Hid (Below w.heap.size w V.drew) := (unhide HW0).drew
  have HNp1 : Hid (IsBig V.drew (.agg #[.slice a1 l1 c1]) p) := (unhide HNp0).later ((Below.refl _ _).drew)
  have HNq1 : Hid (IsBig V.drew (.agg #[.slice a2 l2 c2]) q) := (unhide HNq0).later ((Below.refl _ _).drew)
  have HNr1 : Hid (IsBig V.drew (.agg #[.slice a3 l3 c3]) r) := (unhide HNr0).later ((Below.refl _ _).drew)
  have HNs1 : Hid (IsBig V.drew (.agg #[.slice a4 l4 c4]) s) := (unhide HNs0).later ((Below.refl _ _).drew)
  clear HA0 HB0 HR0 HW0 HNp0 HNq0 HNr0 HNs0
  generalize V.drew = U0 at *
  refine wpR_take7 (i := 0) (oi := _) (v := .pointer (some ⟨w.heap.size, 0, none⟩)) rfl (by kernel_rfl) (by kernel_rfl) (by kernel_rfl) (by kernel_rfl) (fun _ _ _ h => h) (Or.inl ⟨by rfl, ?_⟩) ⟨trivial, ⟨(unhide HA1).ub.c 0 _ rfl, (unhide HA1).ub.c 1 _ rfl, (unhide HB1).ub.c 0 _ rfl, (unhide HB1).ub.c 1 _ rfl⟩⟩ ?_
  · intro W' hW
    go_split_ands
    go_simp
  refine wpR_take7 (i := 1) (oi := _) (v := .agg #[.slice a1 l1 c1]) rfl (by kernel_rfl) (by kernel_rfl) (by kernel_rfl) (by kernel_rfl) (fun _ _ _ h => h) (Or.inl ⟨by rfl, ?_⟩) ⟨trivial, ⟨(unhide HA1).ub.c 0 _ rfl, (unhide HA1).ub.c 1 _ rfl, (unhide HB1).ub.c 0 _ rfl, (unhide HB1).ub.c 1 _ rfl⟩⟩ ?_
  · intro W' hW
    go_split_ands
    go_simp
  refine wpR_take7 (i := 2) (oi := _) (v := .pointer (some ⟨(w.heap.size + 1), 0, none⟩)) rfl (by kernel_rfl) (by kernel_rfl) (by kernel_rfl) (by kernel_rfl) (fun _ _ _ h => h) (Or.inl ⟨by rfl, ?_⟩) ⟨trivial, ⟨(unhide HA1).ub.c 0 _ rfl, (unhide HA1).ub.c 1 _ rfl, (unhide HB1).ub.c 0 _ rfl, (unhide HB1).ub.c 1 _ rfl⟩⟩ ?_
  · intro W' hW
    go_split_ands
    go_simp
  refine wpR_take7 (i := 3) (oi := _) (v := .agg #[.slice a3 l3 c3]) rfl (by kernel_rfl) (by kernel_rfl) (by kernel_rfl) (by kernel_rfl) (fun _ _ _ h => h) (Or.inl ⟨by rfl, ?_⟩) ⟨trivial, ⟨(unhide HA1).ub.c 0 _ rfl, (unhide HA1).ub.c 1 _ rfl, (unhide HB1).ub.c 0 _ rfl, (unhide HB1).ub.c 1 _ rfl⟩⟩ ?_
  · intro W' hW
    go_split_ands
    go_simp
  refine wpR_take7 (i := 5) (oi := _) (v := .pointer (some ⟨w.heap.size, 1, none⟩)) rfl (by kernel_rfl) (by kernel_rfl) (by kernel_rfl) (by kernel_rfl) (fun _ _ _ h => h) (Or.inl ⟨by rfl, ?_⟩) ⟨trivial, ⟨(unhide HA1).ub.c 0 _ rfl, (unhide HA1).ub.c 1 _ rfl, (unhide HB1).ub.c 0 _ rfl, (unhide HB1).ub.c 1 _ rfl⟩⟩ ?_
  · intro W' hW
    go_split_ands
    go_simp
  refine wpR_take7 (i := 6) (oi := _) (v := .agg #[.slice a2 l2 c2]) rfl (by kernel_rfl) (by kernel_rfl) (by kernel_rfl) (by kernel_rfl) (fun _ _ _ h => h) (Or.inl ⟨by rfl, ?_⟩) ⟨trivial, ⟨(unhide HA1).ub.c 0 _ rfl, (unhide HA1).ub.c 1 _ rfl, (unhide HB1).ub.c 0 _ rfl, (unhide HB1).ub.c 1 _ rfl⟩⟩ ?_
  · intro W' hW
    go_split_ands
    go_simp
  refine wpR_take7 (i := 7) (oi := _) (v := .pointer (some ⟨(w.heap.size + 1), 1, none⟩)) rfl (by kernel_rfl) (by kernel_rfl) (by kernel_rfl) (by kernel_rfl) (fun _ _ _ h => h) (Or.inl ⟨by rfl, ?_⟩) ⟨trivial, ⟨(unhide HA1).ub.c 0 _ rfl, (unhide HA1).ub.c 1 _ rfl, (unhide HB1).ub.c 0 _ rfl, (unhide HB1).ub.c 1 _ rfl⟩⟩ ?_
  · intro W' hW
    go_split_ands
    go_simp
  refine wpR_take7 (i := 8) (oi := _) (v := .agg #[.slice a4 l4 c4]) rfl (by kernel_rfl) (by kernel_rfl) (by kernel_rfl) (by kernel_rfl) (fun _ _ _ h => h) (Or.inl ⟨by rfl, ?_⟩) ⟨trivial, ⟨(unhide HA1).ub.c 0 _ rfl, (unhide HA1).ub.c 1 _ rfl, (unhide HB1).ub.c 0 _ rfl, (unhide HB1).ub.c 1 _ rfl⟩⟩ ?_
  · intro W' hW
    go_split_ands
    go_simp
  refine wpR_op (i := 4) (o := _) (by kernel_rfl) rfl rfl (fun K hK => ?_)
  go_simp
  refine (mulB _ _ p r (p * r) k _ (unhide HNp1) (unhide HNr1) (unhide HK) (unhide HPL) (unhide HRL) rfl).mono ?_
  rintro e U1 ⟨a5, l5, c5, rfl, hv, hb⟩
  have HA2 : Hid (OwnU U1 w.heap.size 54 #[.slice a1 l1 c1, .slice a2 l2 c2]) := (unhide HA1).later (hb)
  have HB2 : Hid (OwnU U1 (w.heap.size + 1) 54 #[.slice a3 l3 c3, .slice a4 l4 c4]) := (unhide HB1).later (hb)
  have HR2 : Hid (OwnU U1 (w.heap.size + 1 + 1) 54 #[.slice none 0 0, .slice none 0 0]) := (unhide HR1).later (hb)
  have HW2 : Hid (Below w.heap.size w U1) := (unhide HW1).trans ((hb).mono (unhide HW1).size)
  have HNp2 : Hid (IsBig U1 (.agg #[.slice a1 l1 c1]) p) := (unhide HNp1).later (hb)
  have HNq2 : Hid (IsBig U1 (.agg #[.slice a2 l2 c2]) q) := (unhide HNq1).later (hb)
  have HNr2 : Hid (IsBig U1 (.agg #[.slice a3 l3 c3]) r) := (unhide HNr1).later (hb)
  have HNs2 : Hid (IsBig U1 (.agg #[.slice a4 l4 c4]) s) := (unhide HNs1).later (hb)
  have HM2 : Hid (IsBig U1 (.agg #[.slice a5 l5 c5]) (p * r)) := hv
  clear HA1 HB1 HR1 HW1 HNp1 HNq1 HNr1 HNs1
  refine hK _ _ ⟨trivial, ⟨(unhide HA2).ub.c 0 _ rfl, (unhide HA2).ub.c 1 _ rfl, (unhide HB2).ub.c 0 _ rfl, (unhide HB2).ub.c 1 _ rfl⟩⟩ ?_
  clear hK K hb
  clear hv
  refine wpR_op (i := 9) (o := _) (by kernel_rfl) rfl rfl (fun K hK => ?_)
  go_simp
  refine (mulB _ _ q s (q * s) k _ (unhide HNq2) (unhide HNs2) (unhide HK) (unhide HQL) (unhide HSL) rfl).mono ?_
  rintro e U2 ⟨a6, l6, c6, rfl, hv, hb⟩
  have HA3 : Hid (OwnU U2 w.heap.size 54 #[.slice a1 l1 c1, .slice a2 l2 c2]) := (unhide HA2).later (hb)
  have HB3 : Hid (OwnU U2 (w.heap.size + 1) 54 #[.slice a3 l3 c3, .slice a4 l4 c4]) := (unhide HB2).later (hb)
  have HR3 : Hid (OwnU U2 (w.heap.size + 1 + 1) 54 #[.slice none 0 0, .slice none 0 0]) := (unhide HR2).later (hb)
  have HW3 : Hid (Below w.heap.size w U2) := (unhide HW2).trans ((hb).mono (unhide HW2).size)
  have HNp3 : Hid (IsBig U2 (.agg #[.slice a1 l1 c1]) p) := (unhide HNp2).later (hb)
  have HNq3 : Hid (IsBig U2 (.agg #[.slice a2 l2 c2]) q) := (unhide HNq2).later (hb)
  have HNr3 : Hid (IsBig U2 (.agg #[.slice a3 l3 c3]) r) := (unhide HNr2).later (hb)
  have HNs3 : Hid (IsBig U2 (.agg #[.slice a4 l4 c4]) s) := (unhide HNs2).later (hb)
  have HM3 : Hid (IsBig U2 (.agg #[.slice a5 l5 c5]) (p * r)) := (unhide HM2).later (hb)
  have HN3 : Hid (IsBig U2 (.agg #[.slice a6 l6 c6]) (q * s)) := hv
  clear HA2 HB2 HR2 HW2 HNp2 HNq2 HNr2 HNs2 HM2
  refine hK _ _ ⟨trivial, ⟨(unhide HA3).ub.c 0 _ rfl, (unhide HA3).ub.c 1 _ rfl, (unhide HB3).ub.c 0 _ rfl, (unhide HB3).ub.c 1 _ rfl⟩⟩ ?_
  clear hK K hb
  clear hv
  clear HNp3
  clear HNq3
  clear HNr3
  clear HNs3
  refine wpR_op (i := 10) (o := _) (by kernel_rfl) rfl rfl (fun K hK => ?_)
  go_simp
  refine hK _ _ ⟨trivial, ⟨(unhide HA3).ub.c 0 _ rfl, (unhide HA3).ub.c 1 _ rfl, (unhide HB3).ub.c 0 _ rfl, (unhide HB3).ub.c 1 _ rfl⟩⟩ ?_
  clear hK K
  refine wpR_late (i := 11) (o := _) (by kernel_rfl) rfl rfl (by kernel_rfl) (fun K hK => ?_)
  have HA4 : Hid (OwnU (U2.setRow (w.heap.size + 1 + 1) #[.slice a5 l5 c5, .slice a6 l6 c6]) w.heap.size 54 #[.slice a1 l1 c1, .slice a2 l2 c2]) := (unhide HA3).other (by omega) _
  have HB4 : Hid (OwnU (U2.setRow (w.heap.size + 1 + 1) #[.slice a5 l5 c5, .slice a6 l6 c6]) (w.heap.size + 1) 54 #[.slice a3 l3 c3, .slice a4 l4 c4]) := (unhide HB3).other (by omega) _
  have HR4 : Hid (OwnU (U2.setRow (w.heap.size + 1 + 1) #[.slice a5 l5 c5, .slice a6 l6 c6]) (w.heap.size + 1 + 1) 54 #[.slice a5 l5 c5, .slice a6 l6 c6]) := (unhide HR3).setRow _
  have HW4 : Hid (Below w.heap.size w (U2.setRow (w.heap.size + 1 + 1) #[.slice a5 l5 c5, .slice a6 l6 c6])) := below_setRow (unhide HW3) (by omega) _
  have HM4 : Hid (IsBig (U2.setRow (w.heap.size + 1 + 1) #[.slice a5 l5 c5, .slice a6 l6 c6]) (.agg #[.slice a5 l5 c5]) (p * r)) := (unhide HM3).setRow (unhide HR3) (nz2 _ _ _ _ _ _) _
  have HN4 : Hid (IsBig (U2.setRow (w.heap.size + 1 + 1) #[.slice a5 l5 c5, .slice a6 l6 c6]) (.agg #[.slice a6 l6 c6]) (q * s)) := (unhide HN3).setRow (unhide HR3) (nz2 _ _ _ _ _ _) _
  refine wp_store_row 54 (.tmp 4) (.tmp 15) rfl (w.heap.size + 1 + 1) #[.slice a5 l5 c5, .slice a6 l6 c6] rfl rfl 54 _ (unhide HR3) (by rw [info59]; rfl) rfl (by kernel_rfl) ?_
  clear HA3 HB3 HR3 HW3 HM3 HN3
  generalize U2.setRow (w.heap.size + 1 + 1) #[.slice a5 l5 c5, .slice a6 l6 c6] = U3 at *
  refine hK _ _ (⟨(unhide HA4).ub.c 0 _ rfl, (unhide HA4).ub.c 1 _ rfl, (unhide HB4).ub.c 0 _ rfl, (unhide HB4).ub.c 1 _ rfl⟩) ?_
  clear hK K
  refine wpR_done (by kernel_rfl) ?_
  go_wp2_with fail
  exact bodyPost_ret (v := .agg #[.slice a5 l5 c5, .slice a6 l6 c6]) (res59 Tryz.results47 _ _ (w.heap.size + 1 + 1) _ rfl rfl (unhide HR4)) rfl ⟨_, rfl, IsSz.mk (unhide HM4) (unhide HN4), unhide HW4⟩
theorem szcmp_any (a1 : Option Addr) (l1 c1 : Nat) (a2 : Option Addr) (l2 c2 : Nat) (a3 : Option Addr) (l3 c3 : Nat) (a4 : Option Addr) (l4 c4 : Nat) (p q r s k : Nat) (w : World) (hp : IsBig w (.agg #[.slice a1 l1 c1]) p) (hq : IsBig w (.agg #[.slice a2 l2 c2]) q) (hr : IsBig w (.agg #[.slice a3 l3 c3]) r) (hs : IsBig w (.agg #[.slice a4 l4 c4]) s) (hk : k ≤ 1000000) (hpl : p < 1000000000 ^ k) (hql : q < 1000000000 ^ k) (hrl : r < 1000000000 ^ k) (hsl : s < 1000000000 ^ k) :
    Calls Tryz.prog 75 #[.agg #[.slice a1 l1 c1, .slice a2 l2 c2], .agg #[.slice a3 l3 c3, .slice a4 l4 c4]] w fun e w' => e = .returned (.int .i64 (Cub.cmpN (p * s) (r * q))) ∧ Below w.heap.size w w' := by
  obtain ⟨V, hV⟩ : ∃ V, V = (w.alloc (.cells #[.slice a1 l1 c1, .slice a2 l2 c2] 54)).alloc (.cells #[.slice a3 l3 c3, .slice a4 l4 c4] 54) := ⟨_, rfl⟩
  have HA0 : Hid (OwnU V w.heap.size 54 #[.slice a1 l1 c1, .slice a2 l2 c2]) := by rw [hV]; exact ((OwnU.new _ _ _).alloc _)
  have HB0 : Hid (OwnU V (w.heap.size + 1) 54 #[.slice a3 l3 c3, .slice a4 l4 c4]) := by rw [hV]; have h := OwnU.new (w.alloc (.cells #[.slice a1 l1 c1, .slice a2 l2 c2] 54)) #[.slice a3 l3 c3, .slice a4 l4 c4] 54; simp only [World.size_alloc] at h; exact h
  have HW0 : Hid (Below w.heap.size w V) := by rw [hV]; exact (((Below.refl _ _).alloc (by simp; try omega) _).alloc (by simp; try omega) _)
  have HNp0 : Hid (IsBig V (.agg #[.slice a1 l1 c1]) p) := hp.later (unhide HW0)
  have HNq0 : Hid (IsBig V (.agg #[.slice a2 l2 c2]) q) := hq.later (unhide HW0)
  have HNr0 : Hid (IsBig V (.agg #[.slice a3 l3 c3]) r) := hr.later (unhide HW0)
  have HNs0 : Hid (IsBig V (.agg #[.slice a4 l4 c4]) s) := hs.later (unhide HW0)
  have HV := hide hV
  have HK := hide hk
  have HPL := hide hpl
  have HQL := hide hql
  have HRL := hide hrl
  have HSL := hide hsl
  clear hV hp hq hr hs hk hpl hql hrl hsl
  go_enter Tryz.func75, Tryz.ntmps75
  go_upto_region 1 with fail
  rw [← unhide HV]
  clear HV
  refine region_reads 11 (fun _ => True) (fun W' => W'.cell? ⟨w.heap.size, 0, none⟩ = some (.slice a1 l1 c1) ∧ W'.cell? ⟨w.heap.size, 1, none⟩ = some (.slice a2 l2 c2) ∧ W'.cell? ⟨(w.heap.size + 1), 0, none⟩ = some (.slice a3 l3 c3) ∧ W'.cell? ⟨(w.heap.size + 1), 1, none⟩ = some (.slice a4 l4 c4)) 12 rfl (by kernel_rfl) ?_
  have HA1 : Hid (OwnU V.drew w.heap.size 54 #[.slice a1 l1 c1, .slice a2 l2 c2]) := (unhide HA0).later ((Below.refl _ _).drew)
  have HB1 : Hid (OwnU V.drew (w.heap.size + 1) 54 #[.slice a3 l3 c3, .slice a4 l4 c4]) := (unhide HB0).later ((Below.refl _ _).drew)
  have HW1 : Hid (Below w.heap.size w V.drew) := (unhide HW0).drew
  have HNp1 : Hid (IsBig V.drew (.agg #[.slice a1 l1 c1]) p) := (unhide HNp0).later ((Below.refl _ _).drew)
  have HNq1 : Hid (IsBig V.drew (.agg #[.slice a2 l2 c2]) q) := (unhide HNq0).later ((Below.refl _ _).drew)
  have HNr1 : Hid (IsBig V.drew (.agg #[.slice a3 l3 c3]) r) := (unhide HNr0).later ((Below.refl _ _).drew)
  have HNs1 : Hid (IsBig V.drew (.agg #[.slice a4 l4 c4]) s) := (unhide HNs0).later ((Below.refl _ _).drew)
  clear HA0 HB0 HW0 HNp0 HNq0 HNr0 HNs0
  generalize V.drew = U0 at *
  refine wpR_take7 (i := 0) (oi := _) (v := .pointer (some ⟨w.heap.size, 0, none⟩)) rfl (by kernel_rfl) (by kernel_rfl) (by kernel_rfl) (by kernel_rfl) (fun _ _ _ h => h) (Or.inl ⟨by rfl, ?_⟩) ⟨trivial, ⟨(unhide HA1).ub.c 0 _ rfl, (unhide HA1).ub.c 1 _ rfl, (unhide HB1).ub.c 0 _ rfl, (unhide HB1).ub.c 1 _ rfl⟩⟩ ?_
  · intro W' hW
    go_split_ands
    go_simp
  refine wpR_take7 (i := 1) (oi := _) (v := .agg #[.slice a1 l1 c1]) rfl (by kernel_rfl) (by kernel_rfl) (by kernel_rfl) (by kernel_rfl) (fun _ _ _ h => h) (Or.inl ⟨by rfl, ?_⟩) ⟨trivial, ⟨(unhide HA1).ub.c 0 _ rfl, (unhide HA1).ub.c 1 _ rfl, (unhide HB1).ub.c 0 _ rfl, (unhide HB1).ub.c 1 _ rfl⟩⟩ ?_
  · intro W' hW
    go_split_ands
    go_simp
  refine wpR_take7 (i := 2) (oi := _) (v := .pointer (some ⟨(w.heap.size + 1), 1, none⟩)) rfl (by kernel_rfl) (by kernel_rfl) (by kernel_rfl) (by kernel_rfl) (fun _ _ _ h => h) (Or.inl ⟨by rfl, ?_⟩) ⟨trivial, ⟨(unhide HA1).ub.c 0 _ rfl, (unhide HA1).ub.c 1 _ rfl, (unhide HB1).ub.c 0 _ rfl, (unhide HB1).ub.c 1 _ rfl⟩⟩ ?_
  · intro W' hW
    go_split_ands
    go_simp
  refine wpR_take7 (i := 3) (oi := _) (v := .agg #[.slice a4 l4 c4]) rfl (by kernel_rfl) (by kernel_rfl) (by kernel_rfl) (by kernel_rfl) (fun _ _ _ h => h) (Or.inl ⟨by rfl, ?_⟩) ⟨trivial, ⟨(unhide HA1).ub.c 0 _ rfl, (unhide HA1).ub.c 1 _ rfl, (unhide HB1).ub.c 0 _ rfl, (unhide HB1).ub.c 1 _ rfl⟩⟩ ?_
  · intro W' hW
    go_split_ands
    go_simp
  refine wpR_take7 (i := 5) (oi := _) (v := .pointer (some ⟨(w.heap.size + 1), 0, none⟩)) rfl (by kernel_rfl) (by kernel_rfl) (by kernel_rfl) (by kernel_rfl) (fun _ _ _ h => h) (Or.inl ⟨by rfl, ?_⟩) ⟨trivial, ⟨(unhide HA1).ub.c 0 _ rfl, (unhide HA1).ub.c 1 _ rfl, (unhide HB1).ub.c 0 _ rfl, (unhide HB1).ub.c 1 _ rfl⟩⟩ ?_
  · intro W' hW
    go_split_ands
    go_simp
  refine wpR_take7 (i := 6) (oi := _) (v := .agg #[.slice a3 l3 c3]) rfl (by kernel_rfl) (by kernel_rfl) (by kernel_rfl) (by kernel_rfl) (fun _ _ _ h => h) (Or.inl ⟨by rfl, ?_⟩) ⟨trivial, ⟨(unhide HA1).ub.c 0 _ rfl, (unhide HA1).ub.c 1 _ rfl, (unhide HB1).ub.c 0 _ rfl, (unhide HB1).ub.c 1 _ rfl⟩⟩ ?_
  · intro W' hW
    go_split_ands
    go_simp
  refine wpR_take7 (i := 7) (oi := _) (v := .pointer (some ⟨w.heap.size, 1, none⟩)) rfl (by kernel_rfl) (by kernel_rfl) (by kernel_rfl) (by kernel_rfl) (fun _ _ _ h => h) (Or.inl ⟨by rfl, ?_⟩) ⟨trivial, ⟨(unhide HA1).ub.c 0 _ rfl, (unhide HA1).ub.c 1 _ rfl, (unhide HB1).ub.c 0 _ rfl, (unhide HB1).ub.c 1 _ rfl⟩⟩ ?_
  · intro W' hW
    go_split_ands
    go_simp
  refine wpR_take7 (i := 8) (oi := _) (v := .agg #[.slice a2 l2 c2]) rfl (by kernel_rfl) (by kernel_rfl) (by kernel_rfl) (by kernel_rfl) (fun _ _ _ h => h) (Or.inl ⟨by rfl, ?_⟩) ⟨trivial, ⟨(unhide HA1).ub.c 0 _ rfl, (unhide HA1).ub.c 1 _ rfl, (unhide HB1).ub.c 0 _ rfl, (unhide HB1).ub.c 1 _ rfl⟩⟩ ?_
  · intro W' hW
    go_split_ands
    go_simp
  refine wpR_op (i := 4) (o := _) (by kernel_rfl) rfl rfl (fun K hK => ?_)
  go_simp
  refine (mulB _ _ p s (p * s) k _ (unhide HNp1) (unhide HNs1) (unhide HK) (unhide HPL) (unhide HSL) rfl).mono ?_
  rintro e U1 ⟨a5, l5, c5, rfl, hv, hb⟩
  have HA2 : Hid (OwnU U1 w.heap.size 54 #[.slice a1 l1 c1, .slice a2 l2 c2]) := (unhide HA1).later (hb)
  have HB2 : Hid (OwnU U1 (w.heap.size + 1) 54 #[.slice a3 l3 c3, .slice a4 l4 c4]) := (unhide HB1).later (hb)
  have HW2 : Hid (Below w.heap.size w U1) := (unhide HW1).trans ((hb).mono (unhide HW1).size)
  have HNp2 : Hid (IsBig U1 (.agg #[.slice a1 l1 c1]) p) := (unhide HNp1).later (hb)
  have HNq2 : Hid (IsBig U1 (.agg #[.slice a2 l2 c2]) q) := (unhide HNq1).later (hb)
  have HNr2 : Hid (IsBig U1 (.agg #[.slice a3 l3 c3]) r) := (unhide HNr1).later (hb)
  have HNs2 : Hid (IsBig U1 (.agg #[.slice a4 l4 c4]) s) := (unhide HNs1).later (hb)
  have HM2 : Hid (IsBig U1 (.agg #[.slice a5 l5 c5]) (p * s)) := hv
  clear HA1 HB1 HW1 HNp1 HNq1 HNr1 HNs1
  refine hK _ _ ⟨trivial, ⟨(unhide HA2).ub.c 0 _ rfl, (unhide HA2).ub.c 1 _ rfl, (unhide HB2).ub.c 0 _ rfl, (unhide HB2).ub.c 1 _ rfl⟩⟩ ?_
  clear hK K hb
  clear hv
  refine wpR_op (i := 9) (o := _) (by kernel_rfl) rfl rfl (fun K hK => ?_)
  go_simp
  refine (mulB _ _ r q (r * q) k _ (unhide HNr2) (unhide HNq2) (unhide HK) (unhide HRL) (unhide HQL) rfl).mono ?_
  rintro e U2 ⟨a6, l6, c6, rfl, hv, hb⟩
  have HA3 : Hid (OwnU U2 w.heap.size 54 #[.slice a1 l1 c1, .slice a2 l2 c2]) := (unhide HA2).later (hb)
  have HB3 : Hid (OwnU U2 (w.heap.size + 1) 54 #[.slice a3 l3 c3, .slice a4 l4 c4]) := (unhide HB2).later (hb)
  have HW3 : Hid (Below w.heap.size w U2) := (unhide HW2).trans ((hb).mono (unhide HW2).size)
  have HNp3 : Hid (IsBig U2 (.agg #[.slice a1 l1 c1]) p) := (unhide HNp2).later (hb)
  have HNq3 : Hid (IsBig U2 (.agg #[.slice a2 l2 c2]) q) := (unhide HNq2).later (hb)
  have HNr3 : Hid (IsBig U2 (.agg #[.slice a3 l3 c3]) r) := (unhide HNr2).later (hb)
  have HNs3 : Hid (IsBig U2 (.agg #[.slice a4 l4 c4]) s) := (unhide HNs2).later (hb)
  have HM3 : Hid (IsBig U2 (.agg #[.slice a5 l5 c5]) (p * s)) := (unhide HM2).later (hb)
  have HN3 : Hid (IsBig U2 (.agg #[.slice a6 l6 c6]) (r * q)) := hv
  clear HA2 HB2 HW2 HNp2 HNq2 HNr2 HNs2 HM2
  refine hK _ _ ⟨trivial, ⟨(unhide HA3).ub.c 0 _ rfl, (unhide HA3).ub.c 1 _ rfl, (unhide HB3).ub.c 0 _ rfl, (unhide HB3).ub.c 1 _ rfl⟩⟩ ?_
  clear hK K hb
  clear hv
  refine wpR_op (i := 10) (o := _) (by kernel_rfl) rfl rfl (fun K hK => ?_)
  go_simp
  refine (cmp_any _ _ (p * s) (r * q) _ (unhide HM3) (unhide HN3)).mono ?_
  rintro e U3 ⟨rfl, hb⟩
  have HA4 : Hid (OwnU U3 w.heap.size 54 #[.slice a1 l1 c1, .slice a2 l2 c2]) := (unhide HA3).later (hb)
  have HB4 : Hid (OwnU U3 (w.heap.size + 1) 54 #[.slice a3 l3 c3, .slice a4 l4 c4]) := (unhide HB3).later (hb)
  have HW4 : Hid (Below w.heap.size w U3) := (unhide HW3).trans ((hb).mono (unhide HW3).size)
  have HNp4 : Hid (IsBig U3 (.agg #[.slice a1 l1 c1]) p) := (unhide HNp3).later (hb)
  have HNq4 : Hid (IsBig U3 (.agg #[.slice a2 l2 c2]) q) := (unhide HNq3).later (hb)
  have HNr4 : Hid (IsBig U3 (.agg #[.slice a3 l3 c3]) r) := (unhide HNr3).later (hb)
  have HNs4 : Hid (IsBig U3 (.agg #[.slice a4 l4 c4]) s) := (unhide HNs3).later (hb)
  have HM4 : Hid (IsBig U3 (.agg #[.slice a5 l5 c5]) (p * s)) := (unhide HM3).later (hb)
  have HN4 : Hid (IsBig U3 (.agg #[.slice a6 l6 c6]) (r * q)) := (unhide HN3).later (hb)
  clear HA3 HB3 HW3 HNp3 HNq3 HNr3 HNs3 HM3 HN3
  refine hK _ _ ⟨trivial, ⟨(unhide HA4).ub.c 0 _ rfl, (unhide HA4).ub.c 1 _ rfl, (unhide HB4).ub.c 0 _ rfl, (unhide HB4).ub.c 1 _ rfl⟩⟩ ?_
  clear hK K hb
  refine wpR_late (i := 11) (o := _) (by kernel_rfl) rfl rfl (by kernel_rfl) (fun K hK => ?_)
  go_simp
  refine hK _ _ (⟨(unhide HA4).ub.c 0 _ rfl, (unhide HA4).ub.c 1 _ rfl, (unhide HB4).ub.c 0 _ rfl, (unhide HB4).ub.c 1 _ rfl⟩) ?_
  clear hK K
  refine wpR_done (by kernel_rfl) ?_
  go_wp2_with fail
  go_ret
  exact ⟨rfl, unhide HW4⟩
end Go.Proofs.YtijifpbpjinmhaaGreatDoor

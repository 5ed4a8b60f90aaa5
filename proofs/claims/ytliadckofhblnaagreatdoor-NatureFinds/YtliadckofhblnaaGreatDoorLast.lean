/- A region that draws its order, whose operations are quiet but for the last one, which waits for all others: one walk. -/
import Derived.Test.YtliadckofhblnaaGreatDoorLimb3
import Derived.Test.YtliadckofhblnaaGreatDoorMade
import Derived.Test.YtliadckofhblnaaGreatDoorLit
import Derived.Deep.RegionHeld3
import Derived.Test.YtliadckofhblnaaGreatDoorTell
import Derived.Deep.Cut
import Derived.Test.YtliadckofhblnaaGreatDoorCopy
import Derived.Deep.Quiet
namespace Go.Proofs.YtliadckofhblnaaGreatDoor
open Go.RowKit
set_option maxRecDepth 100000 in
set_option maxHeartbeats 4000000 in
theorem gram_made (w:World):Calls Tryz.prog 223 #[] w fun r w'=>r=.returned (.agg #[I 0,I 1,I 0,I 0,I 0,I 0,I 0,I 0,I 1,I 1000])∧Below w.heap.size w w':=by
 obtain⟨V,hV⟩:∃V,V=w.alloc (.cells #[I 0,I 0,I 0,I 0,I 0,I 0,I 0,I 0,I 0,I 0] 235):=⟨_,rfl⟩
 have HR:Hid (OwnU V w.heap.size 235 #[I 0,I 0,I 0,I 0,I 0,I 0,I 0,I 0,I 0,I 0]):=by rw[hV];exact OwnU.new _ _ _
 have HB:Hid (Below w.heap.size w V):=by rw[hV];exact(Below.refl _ _).alloc (Nat.le_refl _) _
 have HV:=hide hV
 clear hV
 go_enter Tryz.func223,Tryz.ntmps223
 go_upto_region 1 with fail
 rw[←un HV]
 clear HV
 go_wp2_with fail
 refine(fixed_any 2 1 (-1) 0 0 0 0 0 _).mono ?_
 rintro e W ⟨rfl,hb⟩
 have HR1:=hide ((un HR).later hb);have HB1:=hide ((un HB).trans (hb.mono (un HB).size))
 clear HR HB hb
 have HR:=HR1;have HB:=HB1
 clear HR1 HB1
 go_wp2_with fail
 refine(second_made _).mono ?_
 rintro e W ⟨rfl,hb⟩
 have HR1:=hide ((un HR).later hb);have HB1:=hide ((un HB).trans (hb.mono (un HB).size))
 clear HR HB hb
 have HR:=HR1;have HB:=HB1
 clear HR1 HB1
 go_wp2_with fail
 refine(times_of 2 1 (-1) 0 0 0 0 0 1 1 0 0 1 0 0 0 0 0 1 1 2 1 0 0 0 0 0 0 1 1 _ (by decide +kernel) (by decide +kernel) (by decide +kernel)).mono ?_
 rintro e W ⟨rfl,hb⟩
 have HR1:=hide ((un HR).later hb);have HB1:=hide ((un HB).trans (hb.mono (un HB).size))
 clear HR HB hb
 have HR:=HR1;have HB:=HB1
 clear HR1 HB1
 go_wp2_with fail
 refine(metre_made _).mono ?_
 rintro e W ⟨rfl,hb⟩
 have HR1:=hide ((un HR).later hb);have HB1:=hide ((un HB).trans (hb.mono (un HB).size))
 clear HR HB hb
 have HR:=HR1;have HB:=HB1
 clear HR1 HB1
 go_wp2_with fail
 refine(by_of 2 1 0 0 0 0 0 0 1 1 1 0 0 0 0 0 0 0 1 1 1 1 0 0 0 0 0 0 1 1 _ (by decide +kernel) (by decide +kernel) (by decide +kernel)).mono ?_
 rintro e W ⟨rfl,hb⟩
 have HR1:=hide ((un HR).later hb);have HB1:=hide ((un HB).trans (hb.mono (un HB).size))
 clear HR HB hb
 have HR:=HR1;have HB:=HB1
 clear HR1 HB1
 go_wp2_with fail
 refine(metre_made _).mono ?_
 rintro e W ⟨rfl,hb⟩
 have HR1:=hide ((un HR).later hb);have HB1:=hide ((un HB).trans (hb.mono (un HB).size))
 clear HR HB hb
 have HR:=HR1;have HB:=HB1
 clear HR1 HB1
 go_wp2_with fail
 refine(by_of 1 1 0 0 0 0 0 0 1 1 1 0 0 0 0 0 0 0 1 1 0 1 0 0 0 0 0 0 1 1 _ (by decide +kernel) (by decide +kernel) (by decide +kernel)).mono ?_
 rintro e W ⟨rfl,hb⟩
 have HR1:=hide ((un HR).later hb);have HB1:=hide ((un HB).trans (hb.mono (un HB).size))
 clear HR HB hb
 have HR:=HR1;have HB:=HB1
 clear HR1 HB1
 go_upto_region 2 with fail
 have HX:Hid (OwnU (W.alloc (.cells #[I 0,I 1,I 0,I 0,I 0,I 0,I 0,I 0,I 1,I 1] 235)) W.heap.size 235 #[I 0,I 1,I 0,I 0,I 0,I 0,I 0,I 0,I 1,I 1]∧Below W.heap.size W (W.alloc (.cells #[I 0,I 1,I 0,I 0,I 0,I 0,I 0,I 0,I 1,I 1] 235))):=⟨OwnU.new _ _ _,(Below.refl _ _).alloc (Nat.le_refl _) _⟩
 obtain⟨g1,hg1⟩:∃g1,g1=W.heap.size:=⟨_,rfl⟩
 obtain⟨U,hU⟩:∃U,U=W.alloc (.cells #[I 0,I 1,I 0,I 0,I 0,I 0,I 0,I 0,I 1,I 1] 235):=⟨_,rfl⟩
 rw[←hU]at HX ⊢
 rw[←hg1]at HX ⊢
 have hne:¬g1=w.heap.size:=by have:=(un HR).lt;omega
 have HR1:=hide ((un HR).later (by rw[←hg1];exact(un HX).2));have HB1:=hide ((un HB).trans (Below.mono (by rw[←hg1];exact(un HX).2:Below W.heap.size W U) (un HB).size))
 have HQ:=hide (un HX).1
 clear HX HR HB hU hg1
 have HBD:Hid (Below U.heap.size U U.drew):=(Below.refl _ _).drew
 have HSS:Hid (∀W',OwnU W' g1 235 #[I 0,I 1,I 0,I 0,I 0,I 0,I 0,I 0,I 1,I 1]→W'.cell? ⟨g1,0,none⟩=some (I 0)∧W'.cell? ⟨g1,1,none⟩=some (I 1)∧W'.cell? ⟨g1,2,none⟩=some (I 0)∧W'.cell? ⟨g1,3,none⟩=some (I 0)∧W'.cell? ⟨g1,4,none⟩=some (I 0)∧W'.cell? ⟨g1,5,none⟩=some (I 0)∧W'.cell? ⟨g1,6,none⟩=some (I 0)∧W'.cell? ⟨g1,7,none⟩=some (I 0)∧W'.cell? ⟨g1,8,none⟩=some (I 1)∧W'.cell? ⟨g1,9,none⟩=some (I 1)):=fun W' h=>⟨h.ub.c 0 _ rfl,h.ub.c 1 _ rfl,h.ub.c 2 _ rfl,h.ub.c 3 _ rfl,h.ub.c 4 _ rfl,h.ub.c 5 _ rfl,h.ub.c 6 _ rfl,h.ub.c 7 _ rfl,h.ub.c 8 _ rfl,h.ub.c 9 _ rfl⟩
 have HR2:=hide ((un HR1).later (un HBD));have HQ2:=hide ((un HQ).later (un HBD));have HB2:=hide ((un HB1).trans ((un HBD).mono (un HB1).size))
 clear HR1 HQ HB1
 have HS0:=hide (un HSS _ (un HQ2))
 refine region_reads 3 (fun W'=>W'.cell? ⟨g1,0,none⟩=some (I 0)∧W'.cell? ⟨g1,1,none⟩=some (I 1)∧W'.cell? ⟨g1,2,none⟩=some (I 0)∧W'.cell? ⟨g1,3,none⟩=some (I 0)∧W'.cell? ⟨g1,4,none⟩=some (I 0)∧W'.cell? ⟨g1,5,none⟩=some (I 0)∧W'.cell? ⟨g1,6,none⟩=some (I 0)∧W'.cell? ⟨g1,7,none⟩=some (I 0)∧W'.cell? ⟨g1,8,none⟩=some (I 1)∧W'.cell? ⟨g1,9,none⟩=some (I 1)) (fun _=>True) 4 rfl (by kernel_rfl) ?_
 refine wpR_take (i:=0) (oi:=_) (v:=.agg #[I 0,I 1,I 0,I 0,I 0,I 0,I 0,I 0,I 1,I 1]) rfl (by kernel_rfl) (by kernel_rfl) (by kernel_rfl) (by kernel_rfl) (fun _ _ _ h=>h) (Or.inl ⟨by rfl,?_⟩) ⟨un HS0,trivial⟩ ?_
 ·intro W' hW
  go_split_ands
  go_simp
 clear HBD HS0
 generalize U.drew=U0 at *
 refine wpR_op (i:=1) (o:=_) (by kernel_rfl) rfl rfl (fun K hK=>?_)
 go_simp
 refine(number_any 1000 _).mono ?_
 rintro e U1 ⟨rfl,hb⟩
 have HR3:=hide ((un HR2).later hb);have HQ3:=hide ((un HQ2).later hb);have HB3:=hide ((un HB2).trans (hb.mono (un HB2).size))
 clear hb HR2 HQ2 HB2
 refine hK _ _ ⟨un HSS _ (un HQ3),trivial⟩ ?_
 clear hK K
 refine wpR_op (i:=2) (o:=_) (by kernel_rfl) rfl rfl (fun K hK=>?_)
 go_simp
 refine(by_of 0 1 0 0 0 0 0 0 1 1 0 0 0 0 0 0 0 0 1000 1 0 1 0 0 0 0 0 0 1 1000 _ (by decide +kernel) (by decide +kernel) (by decide +kernel)).mono ?_
 rintro e U2 ⟨rfl,hb⟩
 have HR4:=hide ((un HR3).later hb);have HQ4:=hide ((un HQ3).later hb);have HB4:=hide ((un HB3).trans (hb.mono (un HB3).size))
 clear hb HR3 HQ3 HB3
 refine hK _ _ ⟨un HSS _ (un HQ4),trivial⟩ ?_
 clear hK K
 refine wpR_late (i:=3) (o:=_) (by kernel_rfl) rfl rfl (by kernel_rfl) (fun K hK=>?_)
 refine wp_store_row 235 (.tmp 0) (.tmp 12) rfl w.heap.size #[I 0,I 1,I 0,I 0,I 0,I 0,I 0,I 0,I 1,I 1000] rfl rfl 235 _ (un HR4) (by rw[info43];rfl) rfl (by kernel_rfl) (hK _ _ trivial ?_)
 clear hK K
 refine wpR_done (by kernel_rfl) ?_
 go_wp2_with fail
 exact bodyPost_ret (v:=.agg #[I 0,I 1,I 0,I 0,I 0,I 0,I 0,I 0,I 1,I 1000]) (res43 Tryz.results223 _ _ w.heap.size _ rfl rfl ((un HR4).setRow _)) rfl ⟨rfl,below_setRow (un HB4) (Nat.le_refl _) _⟩
end Go.Proofs.YtliadckofhblnaaGreatDoor

namespace Go.Proofs.YtliadckofhblnaaGreatDoor
open Go.RowKit
theorem T2.past {W V : World} {x y : Value} (h : Below (W.alloc (.cells #[x, y] 28)).heap.size (W.alloc (.cells #[x, y] 28)) V) : T2 V W.heap.size x y :=
  (show T2 (W.alloc (.cells #[x, y] 28)) W.heap.size x y from ⟨by simp [go_sem], by simp [go_sem], by simp [go_sem], by simp [go_sem]⟩).later h
theorem T2.pastD {W V : World} {x y : Value} (h : Below (W.alloc (.cells #[x, y] 28)).drew.heap.size (W.alloc (.cells #[x, y] 28)).drew V) : T2 V W.heap.size x y :=
  ((show T2 (W.alloc (.cells #[x, y] 28)) W.heap.size x y from ⟨by simp [go_sem], by simp [go_sem], by simp [go_sem], by simp [go_sem]⟩).later ((Below.refl _ _).drew)).later h
theorem T2.otherP {W : World} {g : Nat} {x y : Value} (h : T2 W g x y) (k : Nat) (hp : k ≠ g) (u v : Value) : T2 (store2 W k u v) g x y := by
  unfold store2
  have e : ∀ (W : World) (o : Nat) (u : Value), T2 W g x y → T2 (W.setCell ⟨k, o, none⟩ u) g x y := fun W o u h =>
    ⟨by rw [World.cell?_setCell_other _ _ _ _ (by intro e; cases e; exact hp rfl)]; exact h.c0, by rw [World.cell?_setCell_other _ _ _ _ (by intro e; cases e; exact hp rfl)]; exact h.c1, by rw [World.frozen?_setCell]; exact h.f0, by rw [World.frozen?_setCell]; exact h.f1⟩
  exact e _ _ _ (e _ _ _ h)
set_option maxRecDepth 100000 in
set_option maxHeartbeats 4000000 in
theorem factor_walk (a0 a1 a2 a3 a4 a5 a6 a7 n d : Int) (an ad bn bd fn fd : ByteArray) (w : World)
    (hoa : ∀ W, Below w.heap.size w W → Calls Tryz.prog 103 #[I n] W fun r w' => r = .returned (.agg #[.string an, .string ad]) ∧ Below W.heap.size W w')
    (hob : ∀ W, Below w.heap.size w W → Calls Tryz.prog 103 #[I d] W fun r w' => r = .returned (.agg #[.string bn, .string bd]) ∧ Below W.heap.size W w')
    (hqu : ∀ W, Below w.heap.size w W → Calls Tryz.prog 31 #[.agg #[.string an, .string ad], .agg #[.string bn, .string bd]] W fun r w' => r = .returned (.tuple #[.agg #[.string fn, .string fd], I 0]) ∧ Below W.heap.size W w') :
    Calls Tryz.prog 226 #[.agg #[I a0, I a1, I a2, I a3, I a4, I a5, I a6, I a7, I n, I d]] w fun r w' => r = .returned (.agg #[.string fn, .string fd]) ∧ Below w.heap.size w w' := by
  obtain ⟨V, hV⟩ : ∃ V, V = (w.alloc (.cells #[I a0, I a1, I a2, I a3, I a4, I a5, I a6, I a7, I n, I d] 235)).alloc (.cells #[.string ⟨#[]⟩, .string ⟨#[]⟩] 28) := ⟨_, rfl⟩
  have HP : Hid (UB V w.heap.size #[I a0, I a1, I a2, I a3, I a4, I a5, I a6, I a7, I n, I d]) := by rw [hV]; exact ((OwnU.new w #[I a0, I a1, I a2, I a3, I a4, I a5, I a6, I a7, I n, I d] 235).alloc _).ub
  have HR : Hid (T2 V (w.heap.size + 1) (.string ⟨#[]⟩) (.string ⟨#[]⟩)) := by rw [hV]; exact ⟨by simp [go_sem], by simp [go_sem], by simp [go_sem], by simp [go_sem]⟩
  have HB : Hid (Below w.heap.size w V) := by rw [hV]; exact ((Below.refl _ _).alloc (Nat.le_refl _) _).alloc (by simp) _
  have HV := hide hV
  have HOA := hide hoa; have HOB := hide hob; have HQU := hide hqu
  clear hoa hob hqu
  go_enter Tryz.func226, Tryz.ntmps226
  go_upto_region 1 with fail
  rw [← un HV]
  clear hV HV
  have t0 : V.cell? ⟨w.heap.size, 8, none⟩ = some (I n) := (un HP).c 8 _ rfl
  have t1 : V.cell? ⟨w.heap.size, 9, none⟩ = some (I d) := (un HP).c 9 _ rfl
  have HC0 : Hid (Below V.heap.size V V.drew) := (Below.refl _ _).drew
  have HUP : Hid (∀ W, Below V.heap.size V W → Below w.heap.size w W) := fun W h => (un HB).trans (h.mono (un HB).size)
  have HUA : Hid (∀ W O, Below V.heap.size V W → Below w.heap.size w (W.alloc O)) := fun W O h => (un HB).trans ((h.alloc h.size O).mono (un HB).size)
  have HUD : Hid (∀ O, Below w.heap.size w (V.alloc O).drew) := fun O => ((un HB).alloc (un HB).size O).drew
  have hv0 := (un HP).lt
  go_region_held3 (fun w' => w'.cell? ⟨w.heap.size, 8, none⟩ = some (I n) ∧ w'.cell? ⟨w.heap.size, 9, none⟩ = some (I d)) (first | assumption | (simp [go_sem, *]; done)) ((first
    | (go_at_call_of 103 n; go_must (refine (un HOA _ (by first | exact un HUP _ (un HC0) | exact un HUA _ _ (un HC0) | exact un HUD _)).mono ?_; rintro e wa ⟨rfl, hb⟩; have HCwa : Hid (Below V.heap.size V wa) := (by first | exact (un HC0).trans (hb.mono (un HC0).size) | exact bel_al (un HC0) hb | exact bel_alD hb); (first | (have HZwa := hide ((un HZ0).later hb); clear u0 u1 uf0 uf1; have u0 := (un HZwa).c0; have u1 := (un HZwa).c1; have uf0 := (un HZwa).f0; have uf1 := (un HZwa).f1) | (have HZwa : Hid (T2 wa V.heap.size (.string ⟨#[]⟩) (.string ⟨#[]⟩)) := (by first | exact T2.past hb | exact T2.pastD hb); have u0 := (un HZwa).c0; have u1 := (un HZwa).c1; have uf0 := (un HZwa).f0; have uf1 := (un HZwa).f1) | skip); clear hb t0 t1; have t0 : wa.cell? ⟨w.heap.size, 8, none⟩ = some (I n) := ((un HP).later (un HCwa)).c 8 _ rfl; have t1 : wa.cell? ⟨w.heap.size, 9, none⟩ = some (I d) := ((un HP).later (un HCwa)).c 9 _ rfl; have hvwa := ((un HP).later (un HCwa)).lt))
    | (go_at_call_of 103 d; go_must (refine (un HOB _ (by first | exact un HUP _ (un HCwa) | exact un HUA _ _ (un HCwa) | exact un HUD _)).mono ?_; rintro e wb ⟨rfl, hb⟩; have HCwb : Hid (Below V.heap.size V wb) := (by first | exact (un HCwa).trans (hb.mono (un HCwa).size) | exact bel_al (un HCwa) hb | exact bel_alD hb); (first | (have HZwb := hide ((un HZwa).later hb); clear u0 u1 uf0 uf1; have u0 := (un HZwb).c0; have u1 := (un HZwb).c1; have uf0 := (un HZwb).f0; have uf1 := (un HZwb).f1) | (have HZwb : Hid (T2 wb wa.heap.size (.string ⟨#[]⟩) (.string ⟨#[]⟩)) := (by first | exact T2.past hb | exact T2.pastD hb); have u0 := (un HZwb).c0; have u1 := (un HZwb).c1; have uf0 := (un HZwb).f0; have uf1 := (un HZwb).f1) | skip); clear hb t0 t1; have t0 : wb.cell? ⟨w.heap.size, 8, none⟩ = some (I n) := ((un HP).later (un HCwb)).c 8 _ rfl; have t1 : wb.cell? ⟨w.heap.size, 9, none⟩ = some (I d) := ((un HP).later (un HCwb)).c 9 _ rfl; have hvwb := ((un HP).later (un HCwb)).lt))
    | (go_at_call 31; go_must (refine (un HQU _ (by first | exact un HUP _ (un HCwb) | exact un HUA _ _ (un HCwb) | exact un HUD _)).mono ?_; rintro e wc ⟨rfl, hb⟩; have HCwc : Hid (Below V.heap.size V wc) := (by first | exact (un HCwb).trans (hb.mono (un HCwb).size) | exact bel_al (un HCwb) hb | exact bel_alD hb); (first | (have HZwc := hide ((un HZwb).later hb); clear u0 u1 uf0 uf1; have u0 := (un HZwc).c0; have u1 := (un HZwc).c1; have uf0 := (un HZwc).f0; have uf1 := (un HZwc).f1) | (have HZwc : Hid (T2 wc wb.heap.size (.string ⟨#[]⟩) (.string ⟨#[]⟩)) := (by first | exact T2.past hb | exact T2.pastD hb); have u0 := (un HZwc).c0; have u1 := (un HZwc).c1; have uf0 := (un HZwc).f0; have uf1 := (un HZwc).f1) | skip); clear hb t0 t1; have t0 : wc.cell? ⟨w.heap.size, 8, none⟩ = some (I n) := ((un HP).later (un HCwc)).c 8 _ rfl; have t1 : wc.cell? ⟨w.heap.size, 9, none⟩ = some (I d) := ((un HP).later (un HCwc)).c 9 _ rfl; have hvwc := ((un HP).later (un HCwc)).lt))))
  all_goals
    first
    | (obtain ⟨X, hX⟩ : ∃ X, X = wc.heap.size := ⟨_, rfl⟩
       obtain ⟨U, hU⟩ : ∃ U, U = wc.alloc (.cells #[.string fn, .string fd] 28) := ⟨_, rfl⟩
       have HF : Hid (T2 U X (.string fn) (.string fd) ∧ T2 U (w.heap.size + 1) (.string ⟨#[]⟩) (.string ⟨#[]⟩) ∧ Below w.heap.size w U) := by
         rw [hU, hX]
         exact ⟨⟨by simp [go_sem], by simp [go_sem], by simp [go_sem], by simp [go_sem]⟩, ((un HR).later (un HCwc)).later ((Below.refl _ _).alloc (Nat.le_refl _) _), un HUA _ _ (un HCwc)⟩
       rw [← hU, ← hX]
       clear hU hX)
    | (obtain ⟨X, hX⟩ : ∃ X, X = wb.heap.size := ⟨_, rfl⟩
       obtain ⟨U, hU⟩ : ∃ U, U = (wc.setCell { block := wb.heap.size, off := 0 } (.string fn)).setCell { block := wb.heap.size, off := 1 } (.string fd) := ⟨_, rfl⟩
       have HF : Hid (T2 U X (.string fn) (.string fd) ∧ T2 U (w.heap.size + 1) (.string ⟨#[]⟩) (.string ⟨#[]⟩) ∧ Below w.heap.size w U) := by
         rw [hU, hX]
         have h1 := ((un HR).later (un HCwb)).lt
         exact ⟨(un HZwc).store _ _, ((un HR).later (un HCwc)).otherP wb.heap.size (by omega) _ _, below_store2 (un HUP _ (un HCwc)) (by omega) _ _⟩
       rw [← hU, ← hX]
       clear hU hX)
    | (obtain ⟨X, hX⟩ : ∃ X, X = wa.heap.size := ⟨_, rfl⟩
       obtain ⟨U, hU⟩ : ∃ U, U = (wc.setCell { block := wa.heap.size, off := 0 } (.string fn)).setCell { block := wa.heap.size, off := 1 } (.string fd) := ⟨_, rfl⟩
       have HF : Hid (T2 U X (.string fn) (.string fd) ∧ T2 U (w.heap.size + 1) (.string ⟨#[]⟩) (.string ⟨#[]⟩) ∧ Below w.heap.size w U) := by
         rw [hU, hX]
         have h1 := ((un HR).later (un HCwa)).lt
         exact ⟨(un HZwc).store _ _, ((un HR).later (un HCwc)).otherP wa.heap.size (by omega) _ _, below_store2 (un HUP _ (un HCwc)) (by omega) _ _⟩
       rw [← hU, ← hX]
       clear hU hX)
    | (obtain ⟨X, hX⟩ : ∃ X, X = V.heap.size := ⟨_, rfl⟩
       obtain ⟨U, hU⟩ : ∃ U, U = (wc.setCell { block := V.heap.size, off := 0 } (.string fn)).setCell { block := V.heap.size, off := 1 } (.string fd) := ⟨_, rfl⟩
       have HF : Hid (T2 U X (.string fn) (.string fd) ∧ T2 U (w.heap.size + 1) (.string ⟨#[]⟩) (.string ⟨#[]⟩) ∧ Below w.heap.size w U) := by
         rw [hU, hX]
         have h1 := (un HR).lt
         exact ⟨(un HZwc).store _ _, ((un HR).later (un HCwc)).otherP V.heap.size (by omega) _ _, below_store2 (un HUP _ (un HCwc)) (by omega) _ _⟩
       rw [← hU, ← hX]
       clear hU hX)
  all_goals
    have x0 := (un HF).1.c0; have x1 := (un HF).1.c1
    have r0 := (un HF).2.1.c0; have r1 := (un HF).2.1.c1; have rf0 := (un HF).2.1.f0; have rf1 := (un HF).2.1.f1
    go_wp2_with fail
    have hS := (un HF).2.1.store (.string fn) (.string fd)
    have hb := below_store2 (un HF).2.2 (by omega) (.string fn) (.string fd) (g := w.heap.size + 1)
    have v0 := hS.c0; have v1 := hS.c1
    exact bodyPost_ret (v := .agg #[.string fn, .string fd]) (w := store2 U (w.heap.size + 1) (.string fn) (.string fd)) (by simp [results, Tryz.results226, go_sem, v0, v1]) rfl ⟨rfl, hb⟩
end Go.Proofs.YtliadckofhblnaaGreatDoor

namespace Go.Proofs.YtliadckofhblnaaGreatDoor.Pf
open Go.RowKit
def Made (f:Nat) (a b:Int):Prop:=∀W,Calls Tryz.prog f #[] W fun r w'=>r=.returned (.agg #[I a,I b])∧Below W.heap.size W w'
set_option maxRecDepth 100000 in
set_option maxHeartbeats 1000000 in
theorem ptimes_any (a b c d:Int) (w:World) (h1:-1000≤b) (h2:b≤1000) (h3:-1000≤d) (h4:d≤1000) :
  Calls Tryz.prog 368 #[.agg #[I a,I b],.agg #[I c,I d]] w fun r w'=>r=.returned (.agg #[I a,I (b+d)])∧Below w.heap.size w w':=by
 go_enter Tryz.func368,Tryz.ntmps368
 go_wp2
 exact bodyPost_ret (v:=.agg #[I a,I (b+d)]) (by simp[results,Tryz.results368,go_sem]) rfl ⟨rfl,(((Below.refl _ _).alloc (Nat.le_refl _) _).alloc (by simp) _).alloc (by simp;omega) _⟩
set_option maxRecDepth 100000 in
set_option maxHeartbeats 1000000 in
theorem deca_made:Made 326 10 1:=by
 intro w
 go_enter Tryz.func326,Tryz.ntmps326
 go_wp2
 exact bodyPost_ret (v:=.agg #[I 10,I 1]) (by simp[results,Tryz.results326,go_sem]) rfl ⟨rfl,(Below.refl _ _).alloc (Nat.le_refl _) _⟩
set_option maxRecDepth 100000 in
set_option maxHeartbeats 1000000 in
theorem hecto_made:Made 327 10 2:=by
 intro w
 have H1:=hide deca_made
 have H2:=hide deca_made
 unfold Made at H1 H2
 have HT:Hid (∀W,Calls Tryz.prog 368 #[.agg #[I 10,I 1],.agg #[I 10,I 1]] W fun r w'=>r=.returned (.agg #[I 10,I 2])∧Below W.heap.size W w'):=fun W=>ptimes_any 10 1 10 1 W (by decide) (by decide) (by decide) (by decide)
 obtain⟨V,hV⟩:∃V,V=w.alloc (.cells #[I 0,I 0] 357):=⟨_,rfl⟩
 have HS:Hid (T2 V w.heap.size (I 0) (I 0)∧Below w.heap.size w V):=by rw[hV];exact⟨⟨by simp[go_sem],by simp[go_sem],by simp[go_sem],by simp[go_sem]⟩,(Below.refl _ _).alloc (Nat.le_refl _) _⟩
 have HV:=hide hV
 go_enter Tryz.func327,Tryz.ntmps327
 go_upto_region 1 with fail
 rw[←un HV]
 clear hV HV
 go_wp2_with (first
  | (go_at_call 326;go_must(refine(un H1 _).mono ?_;rintro e wn ⟨rfl,hb⟩;replace HS:=hide (And.intro ((un HS).1.later hb) ((un HS).2.trans (hb.mono (un HS).2.size)));clear hb))
  | (go_at_call 368;go_must(refine(un HT _).mono ?_;rintro e wl ⟨rfl,hb⟩;have HL:Hid (T2 wl w.heap.size (I 0) (I 0)∧Below w.heap.size w wl):=⟨(un HS).1.later hb,(un HS).2.trans (hb.mono (un HS).2.size)⟩;clear hb;have r0:=(un HL).1.c0;have r1:=(un HL).1.c1;have rf0:=(un HL).1.f0;have rf1:=(un HL).1.f1)))
 have hS:=(un HL).1.store (I 10) (I 2)
 have hb:=below_store2 (un HL).2 (Nat.le_refl _) (I 10) (I 2)
 have v0:=hS.c0;have v1:=hS.c1
 exact bodyPost_ret (v:=.agg #[I 10,I 2]) (w:=store2 wl w.heap.size (I 10) (I 2)) (by simp[results,Tryz.results327,go_sem,v0,v1]) rfl ⟨rfl,hb⟩
set_option maxRecDepth 100000 in
set_option maxHeartbeats 1000000 in
theorem kilo_made:Made 328 10 3:=by
 intro w
 have H1:=hide hecto_made
 have H2:=hide deca_made
 unfold Made at H1 H2
 have HT:Hid (∀W,Calls Tryz.prog 368 #[.agg #[I 10,I 2],.agg #[I 10,I 1]] W fun r w'=>r=.returned (.agg #[I 10,I 3])∧Below W.heap.size W w'):=fun W=>ptimes_any 10 2 10 1 W (by decide) (by decide) (by decide) (by decide)
 obtain⟨V,hV⟩:∃V,V=w.alloc (.cells #[I 0,I 0] 357):=⟨_,rfl⟩
 have HS:Hid (T2 V w.heap.size (I 0) (I 0)∧Below w.heap.size w V):=by rw[hV];exact⟨⟨by simp[go_sem],by simp[go_sem],by simp[go_sem],by simp[go_sem]⟩,(Below.refl _ _).alloc (Nat.le_refl _) _⟩
 have HV:=hide hV
 go_enter Tryz.func328,Tryz.ntmps328
 go_upto_region 1 with fail
 rw[←un HV]
 clear hV HV
 go_wp2_with (first
  | (go_at_call 327;go_must(refine(un H1 _).mono ?_;rintro e wn ⟨rfl,hb⟩;replace HS:=hide (And.intro ((un HS).1.later hb) ((un HS).2.trans (hb.mono (un HS).2.size)));clear hb))
  | (go_at_call 326;go_must(refine(un H2 _).mono ?_;rintro e wn ⟨rfl,hb⟩;replace HS:=hide (And.intro ((un HS).1.later hb) ((un HS).2.trans (hb.mono (un HS).2.size)));clear hb))
  | (go_at_call 368;go_must(refine(un HT _).mono ?_;rintro e wl ⟨rfl,hb⟩;have HL:Hid (T2 wl w.heap.size (I 0) (I 0)∧Below w.heap.size w wl):=⟨(un HS).1.later hb,(un HS).2.trans (hb.mono (un HS).2.size)⟩;clear hb;have r0:=(un HL).1.c0;have r1:=(un HL).1.c1;have rf0:=(un HL).1.f0;have rf1:=(un HL).1.f1)))
 have hS:=(un HL).1.store (I 10) (I 3)
 have hb:=below_store2 (un HL).2 (Nat.le_refl _) (I 10) (I 3)
 have v0:=hS.c0;have v1:=hS.c1
 exact bodyPost_ret (v:=.agg #[I 10,I 3]) (w:=store2 wl w.heap.size (I 10) (I 3)) (by simp[results,Tryz.results328,go_sem,v0,v1]) rfl ⟨rfl,hb⟩
end Go.Proofs.YtliadckofhblnaaGreatDoor.Pf

namespace Go.Proofs.YtliadckofhblnaaGreatDoor.Pf
open Go.RowKit
theorem small_of_err {x : Rat} (h : errT x = 0) : Small x := by
  unfold errT at h
  by_cases hs : Small x
  · exact hs
  · rw [if_neg hs] at h; cases h
theorem one_lt (E : Nat) (h : E = 600) : (1 : Nat) < 10 ^ E := Nat.one_lt_pow (by omega) (by decide)
theorem texts_low {n d : Nat} {x : Rat} (h : Cub.Low false n d) (e : x = Cub.valQ false n d) (hn : n < 10 ^ 600) (hd : d < 10 ^ 600) : numT x = tb n ∧ denT x = tb d ∧ errT x = 0 := by
  subst e
  obtain ⟨e1, e2, e3⟩ := Cub.low_is h
  have hs : Small (Cub.valQ false n d) := ⟨by rw [← e2]; exact hn, by rw [← e3]; exact hd⟩
  unfold numT denT errT
  rw [if_pos hs, if_pos hs, if_pos hs, ← e1, ← e2, ← e3]
  exact ⟨rfl, rfl, rfl⟩
theorem fac_pos (N k : Nat) (j : Int) (hj : j = (k : Int)) (h : N ^ k < 10 ^ 600) : numT (Cub.pw (Cub.valQ false N 1) j) = tb (N ^ k) ∧ denT (Cub.pw (Cub.valQ false N 1) j) = tb 1 ∧ errT (Cub.pw (Cub.valQ false N 1) j) = 0 := by
  have hl : Cub.Low false N 1 := ⟨by decide, Nat.gcd_one_right _, fun h => by cases h⟩
  obtain ⟨h1, h2⟩ := Cub.pow_low hl k
  simp only [Bool.false_and, Nat.one_pow] at h1 h2
  refine texts_low h1 ?_ h (one_lt 600 rfl)
  unfold Cub.pw
  rw [hj, if_neg (by omega), Int.toNat_natCast, h2]
theorem bel_al {U W V : World} {O : Obj} (h : Below U.heap.size U W) (hb : Below (W.alloc O).heap.size (W.alloc O) V) : Below U.heap.size U V :=
  (h.alloc h.size O).trans (hb.mono (h.alloc h.size O).size)
theorem bel_alD {W V : World} {O : Obj} (hb : Below (W.alloc O).drew.heap.size (W.alloc O).drew V) : Below W.heap.size W V :=
  have h0 := (Below.refl W.heap.size W).alloc (Nat.le_refl _) O
  have h : Below W.heap.size W (W.alloc O).drew := h0.trans ((Below.refl _ _).drew.mono h0.size)
  h.trans (hb.mono h.size)
set_option maxRecDepth 100000 in
set_option maxHeartbeats 4000000 in
theorem factor_walk (N : Nat) (j : Int) (on od fn fd : ByteArray) (w : World)
    (hof : ∀ W, Below w.heap.size w W → Calls Tryz.prog 103 #[I (N : Int)] W fun r w' => r = .returned (.agg #[.string on, .string od]) ∧ Below W.heap.size W w')
    (hpw : ∀ W, Below w.heap.size w W → Calls Tryz.prog 176 #[.agg #[.string on, .string od], I j] W fun r w' => r = .returned (.tuple #[.agg #[.string fn, .string fd], I 0]) ∧ Below W.heap.size W w') :
    Calls Tryz.prog 358 #[.agg #[I (N : Int), I j]] w fun r w' => r = .returned (.agg #[.string fn, .string fd]) ∧ Below w.heap.size w w' := by
  obtain ⟨V, hV⟩ : ∃ V, V = (w.alloc (.cells #[I (N : Int), I j] 357)).alloc (.cells #[.string ⟨#[]⟩, .string ⟨#[]⟩] 28) := ⟨_, rfl⟩
  have HP : Hid (T2 V w.heap.size (I (N : Int)) (I j)) := by rw [hV]; exact ⟨by simp [go_sem], by simp [go_sem], by simp [go_sem], by simp [go_sem]⟩
  have HR : Hid (T2 V (w.heap.size + 1) (.string ⟨#[]⟩) (.string ⟨#[]⟩)) := by rw [hV]; exact ⟨by simp [go_sem], by simp [go_sem], by simp [go_sem], by simp [go_sem]⟩
  have HB : Hid (Below w.heap.size w V) := by rw [hV]; exact ((Below.refl _ _).alloc (Nat.le_refl _) _).alloc (by simp) _
  have HV := hide hV
  have HOF := hide hof; have HPW := hide hpw
  clear hof hpw
  go_enter Tryz.func358, Tryz.ntmps358
  go_upto_region 1 with fail
  rw [← un HV]
  clear hV HV
  have t0 := (un HP).c0; have t1 := (un HP).c1
  have HC0 : Hid (Below V.heap.size V V.drew) := (Below.refl _ _).drew
  have HUP : Hid (∀ W, Below V.heap.size V W → Below w.heap.size w W) := fun W h => (un HB).trans (h.mono (un HB).size)
  have HUA : Hid (∀ W O, Below V.heap.size V W → Below w.heap.size w (W.alloc O)) := fun W O h => (un HB).trans ((h.alloc h.size O).mono (un HB).size)
  have HUD : Hid (∀ O, Below w.heap.size w (V.alloc O).drew) := fun O => ((un HB).alloc (un HB).size O).drew
  have hv0 := (un HP).lt
  go_region_held3 (fun w' => w'.cell? ⟨w.heap.size, 0, none⟩ = some (I (N : Int)) ∧ w'.cell? ⟨w.heap.size, 1, none⟩ = some (I j)) (first | assumption | (simp [go_sem, *]; done)) ((first
    | (go_at_call 103; go_must (refine (un HOF _ (by first | exact un HUP _ (un HC0) | exact un HUA _ _ (un HC0) | exact un HUD _)).mono ?_; rintro e wa ⟨rfl, hb⟩; have HCwa : Hid (Below V.heap.size V wa) := (by first | exact (un HC0).trans (hb.mono (un HC0).size) | exact bel_al (un HC0) hb | exact bel_alD hb); (first | (have HZa := hide ((un HZ0).later hb); clear u0 u1 uf0 uf1; have u0 := (un HZa).c0; have u1 := (un HZa).c1; have uf0 := (un HZa).f0; have uf1 := (un HZa).f1) | (have HZa : Hid (T2 wa V.heap.size (.string ⟨#[]⟩) (.string ⟨#[]⟩)) := (by first | exact T2.past hb | exact T2.pastD hb); have u0 := (un HZa).c0; have u1 := (un HZa).c1; have uf0 := (un HZa).f0; have uf1 := (un HZa).f1) | skip); clear hb t0 t1; have t0 := ((un HP).later (un HCwa)).c0; have t1 := ((un HP).later (un HCwa)).c1; have hvwa := ((un HP).later (un HCwa)).lt))
    | (go_at_call 176; go_must (refine (un HPW _ (by first | exact un HUP _ (un HCwa) | exact un HUA _ _ (un HCwa) | exact un HUD _)).mono ?_; rintro e wb ⟨rfl, hb⟩; have HCwb : Hid (Below V.heap.size V wb) := (by first | exact (un HCwa).trans (hb.mono (un HCwa).size) | exact bel_al (un HCwa) hb | exact bel_alD hb); (first | (have HZb := hide ((un HZa).later hb); clear u0 u1 uf0 uf1; have u0 := (un HZb).c0; have u1 := (un HZb).c1; have uf0 := (un HZb).f0; have uf1 := (un HZb).f1) | (have HZb : Hid (T2 wb wa.heap.size (.string ⟨#[]⟩) (.string ⟨#[]⟩)) := (by first | exact T2.past hb | exact T2.pastD hb); have u0 := (un HZb).c0; have u1 := (un HZb).c1; have uf0 := (un HZb).f0; have uf1 := (un HZb).f1) | skip); clear hb t0 t1; have t0 := ((un HP).later (un HCwb)).c0; have t1 := ((un HP).later (un HCwb)).c1; have hvwb := ((un HP).later (un HCwb)).lt))))
  all_goals
    first
    | (obtain ⟨X, hX⟩ : ∃ X, X = wb.heap.size := ⟨_, rfl⟩
       obtain ⟨U, hU⟩ : ∃ U, U = wb.alloc (.cells #[.string fn, .string fd] 28) := ⟨_, rfl⟩
       have HF : Hid (T2 U X (.string fn) (.string fd) ∧ T2 U (w.heap.size + 1) (.string ⟨#[]⟩) (.string ⟨#[]⟩) ∧ Below w.heap.size w U) := by
         rw [hU, hX]
         exact ⟨⟨by simp [go_sem], by simp [go_sem], by simp [go_sem], by simp [go_sem]⟩, ((un HR).later (un HCwb)).later ((Below.refl _ _).alloc (Nat.le_refl _) _), un HUA _ _ (un HCwb)⟩
       rw [← hU, ← hX]
       clear hU hX)
    | (obtain ⟨X, hX⟩ : ∃ X, X = wa.heap.size := ⟨_, rfl⟩
       obtain ⟨U, hU⟩ : ∃ U, U = (wb.setCell { block := wa.heap.size, off := 0 } (.string fn)).setCell { block := wa.heap.size, off := 1 } (.string fd) := ⟨_, rfl⟩
       have HF : Hid (T2 U X (.string fn) (.string fd) ∧ T2 U (w.heap.size + 1) (.string ⟨#[]⟩) (.string ⟨#[]⟩) ∧ Below w.heap.size w U) := by
         rw [hU, hX]
         have h1 := ((un HR).later (un HCwa)).lt
         exact ⟨(un HZb).store _ _, ((un HR).later (un HCwb)).otherP wa.heap.size (by omega) _ _, below_store2 (un HUP _ (un HCwb)) (by omega) _ _⟩
       rw [← hU, ← hX]
       clear hU hX)
    | (obtain ⟨X, hX⟩ : ∃ X, X = V.heap.size := ⟨_, rfl⟩
       obtain ⟨U, hU⟩ : ∃ U, U = (wb.setCell { block := V.heap.size, off := 0 } (.string fn)).setCell { block := V.heap.size, off := 1 } (.string fd) := ⟨_, rfl⟩
       have HF : Hid (T2 U X (.string fn) (.string fd) ∧ T2 U (w.heap.size + 1) (.string ⟨#[]⟩) (.string ⟨#[]⟩) ∧ Below w.heap.size w U) := by
         rw [hU, hX]
         have h1 := (un HR).lt
         exact ⟨(un HZb).store _ _, ((un HR).later (un HCwb)).otherP V.heap.size (by omega) _ _, below_store2 (un HUP _ (un HCwb)) (by omega) _ _⟩
       rw [← hU, ← hX]
       clear hU hX)
  all_goals
    have x0 := (un HF).1.c0; have x1 := (un HF).1.c1
    have r0 := (un HF).2.1.c0; have r1 := (un HF).2.1.c1; have rf0 := (un HF).2.1.f0; have rf1 := (un HF).2.1.f1
    go_wp2_with fail
    have hS := (un HF).2.1.store (.string fn) (.string fd)
    have hb := below_store2 (un HF).2.2 (by omega) (.string fn) (.string fd) (g := w.heap.size + 1)
    have v0 := hS.c0; have v1 := hS.c1
    exact bodyPost_ret (v := .agg #[.string fn, .string fd]) (w := store2 U (w.heap.size + 1) (.string fn) (.string fd)) (by simp [results, Tryz.results358, go_sem, v0, v1]) rfl ⟨rfl, hb⟩
theorem factor_any (N : Nat) (j : Int) (fn fd : ByteArray) (w : World) (htab : Tab w) (hN : 0 < N) (hN2 : N < 100000) (hj1 : -4096 ≤ j) (hj2 : j ≤ 4096) (h : numT (Cub.pw (Cub.valQ false N 1) j) = fn ∧ denT (Cub.pw (Cub.valQ false N 1) j) = fd ∧ errT (Cub.pw (Cub.valQ false N 1) j) = 0) :
    Calls Tryz.prog 358 #[.agg #[I (N : Int), I j]] w fun r w' => r = .returned (.agg #[.string fn, .string fd]) ∧ Below w.heap.size w w' := by
  have hs : N < 10 ^ 600 := u64_600 N (by omega)
  have hl : Cub.Low false N 1 := ⟨by decide, Nat.gcd_one_right _, fun h => by cases h⟩
  obtain ⟨e1, e2, e3⟩ := Cub.low_is hl
  have hsm : Small (Cub.valQ false N 1) := ⟨by rw [← e2]; exact hs, by rw [← e3]; exact one_lt 600 rfl⟩
  have hR : IsR (sT false N) ⟨#[49]⟩ (Cub.valQ false N 1) := by
    refine ⟨hsm, ?_, ?_⟩
    · unfold numT; rw [if_pos hsm, ← e1, ← e2]
    · unfold denT; rw [if_pos hsm, ← e3]; exact (lit_tb ⟨#[49]⟩ 1 (by decide) (by decide)).1
  have hx0 : Cub.valQ false N 1 ≠ 0 := fun e => by
    rw [e] at e2
    have : N = 0 := e2
    omega
  refine factor_walk N j (sT false N) ⟨#[49]⟩ fn fd w (fun W hb => ratOf_pos N W (by omega) (htab.later hb)) (fun W hb => ?_)
  have hp := rpow_ok (sT false N) ⟨#[49]⟩ (Cub.valQ false N 1) j W hR hj1 hj2 hx0 (small_of_err h.2.2) (htab.later hb)
  unfold Ans at hp
  rw [h.1, h.2.1, h.2.2] at hp
  exact hp
end Go.Proofs.YtliadckofhblnaaGreatDoor.Pf

namespace Go.Proofs.YtliadckofhblnaaGreatDoor.Pf
open Go.RowKit
section
variable {P:Program} {ops:Array Oper} {md:Region.Mode} {C:World→Prop}
def waitsB (md:Region.Mode) (o:Oper) (i:Nat):Bool:=o.after.any fun e=>Region.binds md e && e.on == i
theorem waits_spec {o:Oper} {i:Nat} (h:waitsB md o i=true):∃e∈o.after,Region.binds md e=true∧e.on=i:=by
  unfold waitsB at h
  rw[Array.any_eq_true]at h
  obtain⟨j,hj,h2⟩:=h
  rw[Bool.and_eq_true,beq_iff_eq]at h2
  exact⟨_,Array.getElem_mem hj,h2⟩
def wpAnyL (P:Program) (md:Region.Mode) (ops:Array Oper) (C:World→Prop) (Q:Act→Prop) (k:Nat):Nat→Array Bool→Act→Prop
  | 0,listed,a=>Region.ready md ops listed=[k]∧Region.ready md ops (listed.setIfInBounds k true)=[]∧Q a
  | fuel+1,listed,a=>Region.ready md ops listed≠[]∧
    ∀i∈Region.ready md ops listed,qOp P ops C i (wpAnyL P md ops C Q k fuel (listed.setIfInBounds i true)) a
theorem wpAny_of_last {k:Nat} {Q:Act→Prop} {Q':Exit→Act→World→Prop} (hQ:∀a w,C w→Q a→wpOp P ops Q' k (fun a w=>Q' .normal a w) a w):∀(fuel:Nat) (listed:Array Bool) (a:Act) (w:World),C w→
    wpAnyL P md ops C Q k fuel listed a→wpAny P md ops Q' (fuel+1) listed a w
  | 0,_,_,_,hw,h=>⟨fun h0=>(by rw[h.1]at h0;cases h0),fun i hi=>by
      rw[h.1,List.mem_singleton]at hi
      subst hi
      exact wpOp_mono (fun a w hq=>⟨h.2.1,hq⟩) (hQ _ _ hw h.2.2)⟩
  | fuel+1,_,_,_,hw,h=>⟨fun h0=>absurd h0 h.1,fun i hi=>wpOp_of_qOp hw (fun a' w' hw'=>wpAny_of_last hQ fuel _ a' w' hw') (h.2 i hi)⟩
theorem wpAnyL_first {Q:Act→Prop} {i k:Nat} {oi ok:Oper} {v:Value} (hi:ops[i]?=some oi) (hk:ops[k]?=some ok) (hwait:∃e∈ok.after,Region.binds md e=true∧e.on=i)
    (hsel:∀(j:Nat) (o:Oper) cs b,ops[j]?=some o→o.op≠.select cs b) :
    ∀(fuel:Nat) (listed:Array Bool) (a:Act),
      (∀j oj,ops[j]?=some oj→j≠i→listed.getD j true=false→(∀e∈oj.after,Region.binds md e=true→e.on≠i)→oi.apart ops oj=true)→
      i∈Region.ready md ops listed→YieldsIn P ops C oi v a→
      wpAnyL P md ops C Q k fuel (listed.setIfInBounds i true) (a.put oi.dst v)→wpAnyL P md ops C Q k (fuel+1) listed a:=by
  have late:∀(listed:Array Bool),i∈Region.ready md ops listed→k ∉ Region.ready md ops listed:=fun listed hr hkr=>by
    obtain⟨e,he,hb,hon⟩:=hwait
    obtain⟨_,o,ho,hall⟩:=mem_ready.1 hkr
    rw[hk]at ho;cases ho
    have h1:=hall e he hb
    have h0:=(mem_ready.1 hr).1
    rw[hon]at h1
    rcases Nat.lt_or_ge i listed.size with h'|h'
    · simp[h']at h0 h1;rw[h0]at h1;cases h1
    · simp[Array.getElem?_eq_none h']at h1
  intro fuel
  induction fuel with
  | zero=>
    intro listed a _ hr hy H
    refine⟨fun h=>(by rw[h]at hr;cases hr),fun j hj=>?_⟩
    by_cases hji:j=i
    · subst hji;exact hy.qOp hi H
    · have:=ready_mono hj hji
      rw[H.1,List.mem_singleton]at this
      subst this
      exact absurd hj (late listed hr)
  | succ fuel ih=>
    intro listed a hfree hr hy H
    refine⟨fun h=>(by rw[h]at hr;cases hr),fun j hj=>?_⟩
    by_cases hji:j=i
    · subst hji;exact hy.qOp hi H
    · have h1:=H.2 j (ready_mono hj hji)
      obtain⟨hjun,oj,hoj,hall⟩:=mem_ready.1 hj
      have hnot:∀e∈oj.after,Region.binds md e=true→e.on≠i:=fun e he hb heq=>by
        have h1:=hall e he hb
        have h0:=(mem_ready.1 hr).1
        rw[heq]at h1
        rcases Nat.lt_or_ge i listed.size with h'|h'
        · simp[h']at h0 h1;rw[h0]at h1;cases h1
        · simp[Array.getElem?_eq_none h']at h1
      have h2:=qOp_put hoj (hfree j oj hoj hji hjun hnot) (fun cs b=>hsel i oi cs b hi) (fun cs b=>hsel j oj cs b hoj) hy h1
      have hfree':∀k ok,ops[k]?=some ok→k≠i→(listed.setIfInBounds j true).getD k true=false→
          (∀e∈ok.after,Region.binds md e=true→e.on≠i)→oi.apart ops ok=true:=fun k ok hk hki hun hno=>by
        refine hfree k ok hk hki ?_ hno
        by_cases hjk:j=k
        · subst hjk;exact hjun
        · rw[getD_set_ne true hjk]at hun;exact hun
      refine qOp_mono (fun a' h3=>ih (listed.setIfInBounds j true) a' hfree' (ready_mono hr (Ne.symm hji)) h3.1 ?_) h2
      rw[Array.setIfInBounds_comm _ _ hji]
      exact h3.2
def lexLast (md:Region.Mode) (ops:Array Oper) (o:Oper):Nat→Nat→Array Bool→Bool
  | 0,k,listed=>(Region.ready md ops listed == [k]) && (Region.ready md ops (listed.setIfInBounds k true)).isEmpty
  | fuel+1,k,listed=>(Region.ready md ops listed).contains k && Region.free md ops listed k && waitsB md o k && lexLast md ops o fuel (k+1) (listed.setIfInBounds k true)
theorem wpAnyL_lex {Q:Act→Prop} {ok:Oper} (hs:Region.noSelect ops=true):∀(l:List Oper) (k:Nat) (listed:Array Bool) (a:Act),(∀j,j<l.length→l[j]?=ops[k+j]?)→ops[k+l.length]?=some ok→
    lexLast md ops ok l.length k listed=true→wpQuiet P ops C Q l a→wpAnyL P md ops C Q (k+l.length) l.length listed a
  | [],k,_,_,_,_,hB,h=>by
    simp only[List.length_nil,lexLast,Bool.and_eq_true,beq_iff_eq,List.isEmpty_iff]at hB
    exact⟨hB.1,hB.2,h⟩
  | o :: l,k,listed,a,hl,hk,hB,h=>by
    have h0:ops[k]?=some o:=by simpa using (hl 0 (by simp)).symm
    simp only[List.length_cons,lexLast,Bool.and_eq_true]at hB
    obtain⟨⟨⟨hr,hf⟩,hwt⟩,hB'⟩:=hB
    have hst:qOp P ops C k (wpQuiet P ops C Q l) a:=by unfold qOp;simp only[h0];exact h
    obtain⟨v,hy,hK⟩:=yieldsIn_of_qOp h0 hst
    have e:k+(o :: l).length=(k+1)+l.length:=by simp only[List.length_cons];omega
    rw[e]at hk ⊢
    exact wpAnyL_first h0 hk (waits_spec hwt) (Region.noSelect_spec hs) l.length listed a (Region.free_spec h0 hf) (by simpa using hr) hy
      (wpAnyL_lex hs l (k+1) _ _ (fun j hj=>by have:=hl (j+1) (by simp only[List.length_cons];omega);simpa [Nat.add_assoc,Nat.add_comm 1 j] using this) hk hB' hK)
def lastB (l:List Oper) (st:Oper):Bool:=Region.noSelect (l ++ [st]).toArray && lexLast .any (l ++ [st]).toArray st l.length 0 (Array.replicate (l ++ [st]).toArray.size false)
theorem quiet_last {id:Nat} {Q:Exit→Act→World→Prop} {a:Act} {w:World} {L l:List Oper} {st:Oper} (hL:L=l ++ [st]) (hm:P.follows .mixedOrders=true) (hB:lastB l st=true)
    (h:wpQuiet P L.toArray (fun w'=>∃x:Later w,w'=x.world) (fun a'=>∀w',(∃x:Later w,w'=x.world)→if Region.wanted st (yielded L.toArray a'.tmps)then st.wp P a' w' (fun a w=>Q .normal a w) Q else Q .normal (a'.put st.dst undef) w') l a):(Code.region id L.toArray true).wp P Q a w:=by
  subst hL
  simp only[lastB,Bool.and_eq_true]at hB
  have hlast:(l ++ [st]).toArray[0+l.length]?=some st:=by simp
  refine wp_region_any hm ?_
  have hsz:(l ++ [st]).toArray.size=l.length+1:=by simp
  rw[hsz]at hB ⊢
  refine wpAny_of_last (k:=0+l.length) (C:=fun w'=>∃x:Later w,w'=x.world) (Q:=fun a'=>∀w',(∃x:Later w,w'=x.world)→if Region.wanted st (yielded (l ++ [st]).toArray a'.tmps)then st.wp P a' w' (fun a w=>Q .normal a w) Q else Q .normal (a'.put st.dst undef) w') ?_ _ _ _ _ ⟨⟨_,(Below.refl w.heap.size w).drew⟩,rfl⟩ ?_
  · intro a' w' hw' hq
    have:=hq w' hw'
    unfold wpOp
    rw[hlast]
    dsimp only
    split
    · rename_i hwt;simp only[hwt,if_true]at this;exact .inl this
    · rename_i hwt;simp only[hwt]at this;exact this
  · exact wpAnyL_lex hB.1 l 0 _ a (fun j hj=>by simp[List.getElem?_append_left hj]) hlast hB.2 h
def lastOf (d:Oper):List Oper→Oper
  | []=>d
  | o :: l=>lastOf o l
theorem front_last (d:Oper):∀L:List Oper,L≠[]→L=L.dropLast ++ [lastOf d L]
  | [],h=>absurd rfl h
  | [o],_=>rfl
  | o :: o' :: l,_=>by
    have h:=front_last o (o' :: l) (by simp)
    rw[List.dropLast_cons_cons,List.cons_append]
    exact congrArg (o :: ·) h
theorem quiet_end {id:Nat} {Q:Exit→Act→World→Prop} {a:Act} {w:World} {o:Oper} {L:List Oper} (hm:P.follows .mixedOrders=true) (hB:lastB (o :: L).dropLast (lastOf o L)=true)
    (h:wpQuiet P (o :: L).toArray (fun w'=>∃x:Later w,w'=x.world) (fun a'=>∀w',(∃x:Later w,w'=x.world)→if Region.wanted (lastOf o L) (yielded (o :: L).toArray a'.tmps)then(lastOf o L).wp P a' w' (fun a w=>Q .normal a w) Q else Q .normal (a'.put (lastOf o L).dst undef) w') (o :: L).dropLast a):(Code.region id (o :: L).toArray true).wp P Q a w :=
  quiet_last (l:=(o :: L).dropLast) (st:=lastOf o L) (front_last o (o :: L) (by simp)) hm hB h
end
end Go.Proofs.YtliadckofhblnaaGreatDoor.Pf

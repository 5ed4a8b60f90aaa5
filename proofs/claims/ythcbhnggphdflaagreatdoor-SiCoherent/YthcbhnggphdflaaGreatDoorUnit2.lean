/- The base units told, the others. -/
import Derived.Test.YthcbhnggphdflaaGreatDoorLimb3
import Derived.Test.YthcbhnggphdflaaGreatDoorUnit
import Derived.Test.YthcbhnggphdflaaGreatDoorMade2
namespace Go.Proofs.YthcbhnggphdflaaGreatDoor
open Go.RowKit
set_option maxRecDepth 100000 in
set_option maxHeartbeats 4000000 in
theorem told_4 (w:World) (htab:Tab w):Calls Tryz.prog 33 #[.agg #[.string ⟨#[109,101,116,114,101]⟩,.string ⟨#[109]⟩,I 1,.func (.func 59) #[] #[]]] w fun r w'=>r=.returned (.agg #[.string ⟨#[109,101,116,114,101]⟩,.string ⟨#[109]⟩,I 1,I 0,I 0,I 0,I 0,I 0,I 0,I 0,.string ⟨#[49]⟩,.string ⟨#[49]⟩,.string ⟨#[48]⟩,.string ⟨#[49]⟩,I 1])∧Below w.heap.size w w':=by
 obtain⟨V,hV⟩:∃V,V=(w.alloc (.cells #[.string ⟨#[109,101,116,114,101]⟩,.string ⟨#[109]⟩,I 1,.func (.func 59) #[] #[]] 68)).alloc (.cells #[.string ⟨#[]⟩,.string ⟨#[]⟩,I 0,I 0,I 0,I 0,I 0,I 0,I 0,I 0,.string ⟨#[]⟩,.string ⟨#[]⟩,.string ⟨#[]⟩,.string ⟨#[]⟩,I 0] 30):=⟨_,rfl⟩
 have HA:Hid (OwnU V w.heap.size 68 #[.string ⟨#[109,101,116,114,101]⟩,.string ⟨#[109]⟩,I 1,.func (.func 59) #[] #[]]):=by rw[hV];exact(OwnU.new _ _ _).alloc _
 have HR:Hid (OwnU V (w.heap.size+1) 30 #[.string ⟨#[]⟩,.string ⟨#[]⟩,I 0,I 0,I 0,I 0,I 0,I 0,I 0,I 0,.string ⟨#[]⟩,.string ⟨#[]⟩,.string ⟨#[]⟩,.string ⟨#[]⟩,I 0]):=by rw[hV];have h:=OwnU.new (w.alloc (.cells #[.string ⟨#[109,101,116,114,101]⟩,.string ⟨#[109]⟩,I 1,.func (.func 59) #[] #[]] 68)) #[.string ⟨#[]⟩,.string ⟨#[]⟩,I 0,I 0,I 0,I 0,I 0,I 0,I 0,I 0,.string ⟨#[]⟩,.string ⟨#[]⟩,.string ⟨#[]⟩,.string ⟨#[]⟩,I 0] 30;rw[Dm.size_alloc]at h;exact h
 have HB:Hid (Below w.heap.size w V):=by rw[hV];exact((Below.refl _ _).alloc (Nat.le_refl _) _).alloc (by simp) _
 have HTA:Hid (∀W,Below w.heap.size w W→Tab W):=fun W h=>htab.later h
 have HV:=hide hV
 clear hV htab
 go_enter Tryz.func33,Tryz.ntmps33
 go_upto_region 1 with fail
 rw[←un HV]
 clear HV
 have c3:V.cell? ⟨w.heap.size,3,none⟩=some (.func (.func 59) #[] #[]):=(un HA).ub.c 3 _ rfl
 go_upto_region 2 with (go_at_call 59;go_must(refine(metre_made _).mono ?_;rintro e W ⟨rfl,hb⟩;have HA1:=hide ((un HA).later hb);have HR1:=hide ((un HR).later hb);have HB1:=hide ((un HB).trans (hb.mono (un HB).size));clear hb c3 HA HR HB))
 have HX:Hid (OwnU (W.alloc (.cells #[I 1,I 0,I 0,I 0,I 0,I 0,I 0,I 0,I 1,I 1] 112)) W.heap.size 112 #[I 1,I 0,I 0,I 0,I 0,I 0,I 0,I 0,I 1,I 1]):=OwnU.new _ _ _
 have hal:Below W.heap.size W (W.alloc (.cells #[I 1,I 0,I 0,I 0,I 0,I 0,I 0,I 0,I 1,I 1] 112)):=(Below.refl _ _).alloc (Nat.le_refl _) _
 have HA2:=hide ((un HA1).later (hal.trans (((Below.refl _ _).drew).mono hal.size)));have HR2:=hide ((un HR1).later (hal.trans (((Below.refl _ _).drew).mono hal.size)));have HB2:=hide ((un HB1).trans (Below.mono (hal.trans (((Below.refl _ _).drew).mono hal.size)) (un HB1).size));have HX2:=hide ((un HX).later (Below.refl _ _).drew)
 obtain⟨g3,hg3⟩:∃g3,g3=W.heap.size:=⟨_,rfl⟩
 rw[←hg3]at HX2 ⊢
 clear hal HX HA1 HR1 HB1 hg3
 have HSS:Hid (∀W',OwnU W' w.heap.size 68 #[.string ⟨#[109,101,116,114,101]⟩,.string ⟨#[109]⟩,I 1,.func (.func 59) #[] #[]]→OwnU W' g3 112 #[I 1,I 0,I 0,I 0,I 0,I 0,I 0,I 0,I 1,I 1]→W'.cell? ⟨w.heap.size,0,none⟩=some (.string ⟨#[109,101,116,114,101]⟩)∧W'.cell? ⟨w.heap.size,1,none⟩=some (.string ⟨#[109]⟩)∧W'.cell? ⟨w.heap.size,2,none⟩=some (I 1)∧W'.cell? ⟨g3,0,none⟩=some (I 1)∧W'.cell? ⟨g3,1,none⟩=some (I 0)∧W'.cell? ⟨g3,2,none⟩=some (I 0)∧W'.cell? ⟨g3,3,none⟩=some (I 0)∧W'.cell? ⟨g3,4,none⟩=some (I 0)∧W'.cell? ⟨g3,5,none⟩=some (I 0)∧W'.cell? ⟨g3,6,none⟩=some (I 0)∧W'.cell? ⟨g3,7,none⟩=some (I 0)∧W'.cell? ⟨g3,8,none⟩=some (I 1)∧W'.cell? ⟨g3,9,none⟩=some (I 1)):=fun W' h h'=>⟨h.ub.c 0 _ rfl,h.ub.c 1 _ rfl,h.ub.c 2 _ rfl,h'.ub.c 0 _ rfl,h'.ub.c 1 _ rfl,h'.ub.c 2 _ rfl,h'.ub.c 3 _ rfl,h'.ub.c 4 _ rfl,h'.ub.c 5 _ rfl,h'.ub.c 6 _ rfl,h'.ub.c 7 _ rfl,h'.ub.c 8 _ rfl,h'.ub.c 9 _ rfl⟩
 have HS0:=hide (un HSS _ (un HA2) (un HX2))
 refine region_reads 12 (fun W'=>W'.cell? ⟨w.heap.size,0,none⟩=some (.string ⟨#[109,101,116,114,101]⟩)∧W'.cell? ⟨w.heap.size,1,none⟩=some (.string ⟨#[109]⟩)∧W'.cell? ⟨w.heap.size,2,none⟩=some (I 1)∧W'.cell? ⟨g3,0,none⟩=some (I 1)∧W'.cell? ⟨g3,1,none⟩=some (I 0)∧W'.cell? ⟨g3,2,none⟩=some (I 0)∧W'.cell? ⟨g3,3,none⟩=some (I 0)∧W'.cell? ⟨g3,4,none⟩=some (I 0)∧W'.cell? ⟨g3,5,none⟩=some (I 0)∧W'.cell? ⟨g3,6,none⟩=some (I 0)∧W'.cell? ⟨g3,7,none⟩=some (I 0)∧W'.cell? ⟨g3,8,none⟩=some (I 1)∧W'.cell? ⟨g3,9,none⟩=some (I 1)) (fun _=>True) 13 rfl (by kernel_rfl) ?_
 refine wpR_take (i:=0) (oi:=_) (v:=.pointer (some ⟨w.heap.size,0,none⟩)) rfl (by kernel_rfl) (by kernel_rfl) (by kernel_rfl) (by kernel_rfl) (fun _ _ _ h=>h) (Or.inl ⟨by rfl,?_⟩) ⟨un HS0,trivial⟩ ?_
 ·intro W' hW
  go_split_ands
  go_simp
 refine wpR_take (i:=1) (oi:=_) (v:=.string ⟨#[109,101,116,114,101]⟩) rfl (by kernel_rfl) (by kernel_rfl) (by kernel_rfl) (by kernel_rfl) (fun _ _ _ h=>h) (Or.inl ⟨by rfl,?_⟩) ⟨un HS0,trivial⟩ ?_
 ·intro W' hW
  go_split_ands
  go_simp
 refine wpR_take (i:=2) (oi:=_) (v:=.pointer (some ⟨w.heap.size,1,none⟩)) rfl (by kernel_rfl) (by kernel_rfl) (by kernel_rfl) (by kernel_rfl) (fun _ _ _ h=>h) (Or.inl ⟨by rfl,?_⟩) ⟨un HS0,trivial⟩ ?_
 ·intro W' hW
  go_split_ands
  go_simp
 refine wpR_take (i:=3) (oi:=_) (v:=.string ⟨#[109]⟩) rfl (by kernel_rfl) (by kernel_rfl) (by kernel_rfl) (by kernel_rfl) (fun _ _ _ h=>h) (Or.inl ⟨by rfl,?_⟩) ⟨un HS0,trivial⟩ ?_
 ·intro W' hW
  go_split_ands
  go_simp
 refine wpR_take (i:=4) (oi:=_) (v:=.pointer (some ⟨g3,0,none⟩)) rfl (by kernel_rfl) (by kernel_rfl) (by kernel_rfl) (by kernel_rfl) (fun _ _ _ h=>h) (Or.inl ⟨by rfl,?_⟩) ⟨un HS0,trivial⟩ ?_
 ·intro W' hW
  go_split_ands
  go_simp
 refine wpR_take (i:=5) (oi:=_) (v:=.agg #[I 1,I 0,I 0,I 0,I 0,I 0,I 0,I 0]) rfl (by kernel_rfl) (by kernel_rfl) (by kernel_rfl) (by kernel_rfl) (fun _ _ _ h=>h) (Or.inl ⟨by rfl,?_⟩) ⟨un HS0,trivial⟩ ?_
 ·intro W' hW
  go_split_ands
  go_simp
 refine wpR_take (i:=6) (oi:=_) (v:=.agg #[I 1,I 0,I 0,I 0,I 0,I 0,I 0,I 0,I 1,I 1]) rfl (by kernel_rfl) (by kernel_rfl) (by kernel_rfl) (by kernel_rfl) (fun _ _ _ h=>h) (Or.inl ⟨by rfl,?_⟩) ⟨un HS0,trivial⟩ ?_
 ·intro W' hW
  go_split_ands
  go_simp
 refine wpR_take (i:=9) (oi:=_) (v:=.pointer (some ⟨w.heap.size,2,none⟩)) rfl (by kernel_rfl) (by kernel_rfl) (by kernel_rfl) (by kernel_rfl) (fun _ _ _ h=>h) (Or.inl ⟨by rfl,?_⟩) ⟨un HS0,trivial⟩ ?_
 ·intro W' hW
  go_split_ands
  go_simp
 refine wpR_take (i:=10) (oi:=_) (v:=I 1) rfl (by kernel_rfl) (by kernel_rfl) (by kernel_rfl) (by kernel_rfl) (fun _ _ _ h=>h) (Or.inl ⟨by rfl,?_⟩) ⟨un HS0,trivial⟩ ?_
 ·intro W' hW
  go_split_ands
  go_simp
 clear HS0
 generalize (W.alloc (.cells #[I 1,I 0,I 0,I 0,I 0,I 0,I 0,I 0,I 1,I 1] 112)).drew=U0 at *
 refine wpR_op (i:=7) (o:=_) (by kernel_rfl) rfl rfl (fun K hK=>?_)
 go_simp
 refine(factor_any 1 0 0 0 0 0 0 0 1 1 (1) ⟨#[49]⟩ ⟨#[49]⟩ _ (by decide) (by decide) (by decide +kernel) (by decide +kernel) isR_one (un HTA _ (un HB2))).mono ?_
 rintro e U7 ⟨rfl,hb⟩
 have HA3:=hide ((un HA2).later hb);have HR3:=hide ((un HR2).later hb);have HX3:=hide ((un HX2).later hb);have HB3:=hide ((un HB2).trans (hb.mono (un HB2).size))
 clear hb
 refine hK _ _ ⟨un HSS _ (un HA3) (un HX3),trivial⟩ ?_
 clear hK K
 refine wpR_op (i:=8) (o:=_) (by kernel_rfl) rfl rfl (fun K hK=>?_)
 go_simp
 refine(zero_of _ (un HTA _ (un HB3))).mono ?_
 rintro e U8 ⟨rfl,hb⟩
 have HA4:=hide ((un HA3).later hb);have HR4:=hide ((un HR3).later hb);have HX4:=hide ((un HX3).later hb);have HB4:=hide ((un HB3).trans (hb.mono (un HB3).size))
 clear hb
 refine hK _ _ ⟨un HSS _ (un HA4) (un HX4),trivial⟩ ?_
 clear hK K
 refine wpR_op (i:=11) (o:=_) (by kernel_rfl) rfl rfl (fun K hK=>?_)
 go_simp
 refine hK _ _ ⟨un HSS _ (un HA4) (un HX4),trivial⟩ ?_
 clear hK K
 refine wpR_late (i:=12) (o:=_) (by kernel_rfl) rfl rfl (by kernel_rfl) (fun K hK=>?_)
 refine wp_store_row 30 (.tmp 2) (.tmp 18) rfl (w.heap.size+1) #[.string ⟨#[109,101,116,114,101]⟩,.string ⟨#[109]⟩,I 1,I 0,I 0,I 0,I 0,I 0,I 0,I 0,.string ⟨#[49]⟩,.string ⟨#[49]⟩,.string ⟨#[48]⟩,.string ⟨#[49]⟩,I 1] rfl rfl 30 _ (un HR4) (by rw[info27];rfl) rfl (by kernel_rfl) (hK _ _ trivial ?_)
 clear hK K
 refine wpR_done (by kernel_rfl) ?_
 go_wp2_with fail
 exact bodyPost_ret (v:=.agg #[.string ⟨#[109,101,116,114,101]⟩,.string ⟨#[109]⟩,I 1,I 0,I 0,I 0,I 0,I 0,I 0,I 0,.string ⟨#[49]⟩,.string ⟨#[49]⟩,.string ⟨#[48]⟩,.string ⟨#[49]⟩,I 1]) (res27 Tryz.results33 _ _ (w.heap.size+1) _ rfl rfl ((un HR4).setRow _)) rfl ⟨rfl,below_setRow (un HB4) (by omega) _⟩
set_option maxRecDepth 100000 in
set_option maxHeartbeats 4000000 in
theorem told_5 (w:World) (htab:Tab w):Calls Tryz.prog 33 #[.agg #[.string ⟨#[103,114,97,109]⟩,.string ⟨#[103]⟩,I 1,.func (.func 60) #[] #[]]] w fun r w'=>r=.returned (.agg #[.string ⟨#[103,114,97,109]⟩,.string ⟨#[103]⟩,I 0,I 1,I 0,I 0,I 0,I 0,I 0,I 0,.string ⟨#[49]⟩,.string ⟨#[49,48,48,48]⟩,.string ⟨#[48]⟩,.string ⟨#[49]⟩,I 1])∧Below w.heap.size w w':=by
 obtain⟨V,hV⟩:∃V,V=(w.alloc (.cells #[.string ⟨#[103,114,97,109]⟩,.string ⟨#[103]⟩,I 1,.func (.func 60) #[] #[]] 68)).alloc (.cells #[.string ⟨#[]⟩,.string ⟨#[]⟩,I 0,I 0,I 0,I 0,I 0,I 0,I 0,I 0,.string ⟨#[]⟩,.string ⟨#[]⟩,.string ⟨#[]⟩,.string ⟨#[]⟩,I 0] 30):=⟨_,rfl⟩
 have HA:Hid (OwnU V w.heap.size 68 #[.string ⟨#[103,114,97,109]⟩,.string ⟨#[103]⟩,I 1,.func (.func 60) #[] #[]]):=by rw[hV];exact(OwnU.new _ _ _).alloc _
 have HR:Hid (OwnU V (w.heap.size+1) 30 #[.string ⟨#[]⟩,.string ⟨#[]⟩,I 0,I 0,I 0,I 0,I 0,I 0,I 0,I 0,.string ⟨#[]⟩,.string ⟨#[]⟩,.string ⟨#[]⟩,.string ⟨#[]⟩,I 0]):=by rw[hV];have h:=OwnU.new (w.alloc (.cells #[.string ⟨#[103,114,97,109]⟩,.string ⟨#[103]⟩,I 1,.func (.func 60) #[] #[]] 68)) #[.string ⟨#[]⟩,.string ⟨#[]⟩,I 0,I 0,I 0,I 0,I 0,I 0,I 0,I 0,.string ⟨#[]⟩,.string ⟨#[]⟩,.string ⟨#[]⟩,.string ⟨#[]⟩,I 0] 30;rw[Dm.size_alloc]at h;exact h
 have HB:Hid (Below w.heap.size w V):=by rw[hV];exact((Below.refl _ _).alloc (Nat.le_refl _) _).alloc (by simp) _
 have HTA:Hid (∀W,Below w.heap.size w W→Tab W):=fun W h=>htab.later h
 have HV:=hide hV
 clear hV htab
 go_enter Tryz.func33,Tryz.ntmps33
 go_upto_region 1 with fail
 rw[←un HV]
 clear HV
 have c3:V.cell? ⟨w.heap.size,3,none⟩=some (.func (.func 60) #[] #[]):=(un HA).ub.c 3 _ rfl
 go_upto_region 2 with (go_at_call 60;go_must(refine(gram_made _).mono ?_;rintro e W ⟨rfl,hb⟩;have HA1:=hide ((un HA).later hb);have HR1:=hide ((un HR).later hb);have HB1:=hide ((un HB).trans (hb.mono (un HB).size));clear hb c3 HA HR HB))
 have HX:Hid (OwnU (W.alloc (.cells #[I 0,I 1,I 0,I 0,I 0,I 0,I 0,I 0,I 1,I 1000] 112)) W.heap.size 112 #[I 0,I 1,I 0,I 0,I 0,I 0,I 0,I 0,I 1,I 1000]):=OwnU.new _ _ _
 have hal:Below W.heap.size W (W.alloc (.cells #[I 0,I 1,I 0,I 0,I 0,I 0,I 0,I 0,I 1,I 1000] 112)):=(Below.refl _ _).alloc (Nat.le_refl _) _
 have HA2:=hide ((un HA1).later (hal.trans (((Below.refl _ _).drew).mono hal.size)));have HR2:=hide ((un HR1).later (hal.trans (((Below.refl _ _).drew).mono hal.size)));have HB2:=hide ((un HB1).trans (Below.mono (hal.trans (((Below.refl _ _).drew).mono hal.size)) (un HB1).size));have HX2:=hide ((un HX).later (Below.refl _ _).drew)
 obtain⟨g3,hg3⟩:∃g3,g3=W.heap.size:=⟨_,rfl⟩
 rw[←hg3]at HX2 ⊢
 clear hal HX HA1 HR1 HB1 hg3
 have HSS:Hid (∀W',OwnU W' w.heap.size 68 #[.string ⟨#[103,114,97,109]⟩,.string ⟨#[103]⟩,I 1,.func (.func 60) #[] #[]]→OwnU W' g3 112 #[I 0,I 1,I 0,I 0,I 0,I 0,I 0,I 0,I 1,I 1000]→W'.cell? ⟨w.heap.size,0,none⟩=some (.string ⟨#[103,114,97,109]⟩)∧W'.cell? ⟨w.heap.size,1,none⟩=some (.string ⟨#[103]⟩)∧W'.cell? ⟨w.heap.size,2,none⟩=some (I 1)∧W'.cell? ⟨g3,0,none⟩=some (I 0)∧W'.cell? ⟨g3,1,none⟩=some (I 1)∧W'.cell? ⟨g3,2,none⟩=some (I 0)∧W'.cell? ⟨g3,3,none⟩=some (I 0)∧W'.cell? ⟨g3,4,none⟩=some (I 0)∧W'.cell? ⟨g3,5,none⟩=some (I 0)∧W'.cell? ⟨g3,6,none⟩=some (I 0)∧W'.cell? ⟨g3,7,none⟩=some (I 0)∧W'.cell? ⟨g3,8,none⟩=some (I 1)∧W'.cell? ⟨g3,9,none⟩=some (I 1000)):=fun W' h h'=>⟨h.ub.c 0 _ rfl,h.ub.c 1 _ rfl,h.ub.c 2 _ rfl,h'.ub.c 0 _ rfl,h'.ub.c 1 _ rfl,h'.ub.c 2 _ rfl,h'.ub.c 3 _ rfl,h'.ub.c 4 _ rfl,h'.ub.c 5 _ rfl,h'.ub.c 6 _ rfl,h'.ub.c 7 _ rfl,h'.ub.c 8 _ rfl,h'.ub.c 9 _ rfl⟩
 have HS0:=hide (un HSS _ (un HA2) (un HX2))
 refine region_reads 12 (fun W'=>W'.cell? ⟨w.heap.size,0,none⟩=some (.string ⟨#[103,114,97,109]⟩)∧W'.cell? ⟨w.heap.size,1,none⟩=some (.string ⟨#[103]⟩)∧W'.cell? ⟨w.heap.size,2,none⟩=some (I 1)∧W'.cell? ⟨g3,0,none⟩=some (I 0)∧W'.cell? ⟨g3,1,none⟩=some (I 1)∧W'.cell? ⟨g3,2,none⟩=some (I 0)∧W'.cell? ⟨g3,3,none⟩=some (I 0)∧W'.cell? ⟨g3,4,none⟩=some (I 0)∧W'.cell? ⟨g3,5,none⟩=some (I 0)∧W'.cell? ⟨g3,6,none⟩=some (I 0)∧W'.cell? ⟨g3,7,none⟩=some (I 0)∧W'.cell? ⟨g3,8,none⟩=some (I 1)∧W'.cell? ⟨g3,9,none⟩=some (I 1000)) (fun _=>True) 13 rfl (by kernel_rfl) ?_
 refine wpR_take (i:=0) (oi:=_) (v:=.pointer (some ⟨w.heap.size,0,none⟩)) rfl (by kernel_rfl) (by kernel_rfl) (by kernel_rfl) (by kernel_rfl) (fun _ _ _ h=>h) (Or.inl ⟨by rfl,?_⟩) ⟨un HS0,trivial⟩ ?_
 ·intro W' hW
  go_split_ands
  go_simp
 refine wpR_take (i:=1) (oi:=_) (v:=.string ⟨#[103,114,97,109]⟩) rfl (by kernel_rfl) (by kernel_rfl) (by kernel_rfl) (by kernel_rfl) (fun _ _ _ h=>h) (Or.inl ⟨by rfl,?_⟩) ⟨un HS0,trivial⟩ ?_
 ·intro W' hW
  go_split_ands
  go_simp
 refine wpR_take (i:=2) (oi:=_) (v:=.pointer (some ⟨w.heap.size,1,none⟩)) rfl (by kernel_rfl) (by kernel_rfl) (by kernel_rfl) (by kernel_rfl) (fun _ _ _ h=>h) (Or.inl ⟨by rfl,?_⟩) ⟨un HS0,trivial⟩ ?_
 ·intro W' hW
  go_split_ands
  go_simp
 refine wpR_take (i:=3) (oi:=_) (v:=.string ⟨#[103]⟩) rfl (by kernel_rfl) (by kernel_rfl) (by kernel_rfl) (by kernel_rfl) (fun _ _ _ h=>h) (Or.inl ⟨by rfl,?_⟩) ⟨un HS0,trivial⟩ ?_
 ·intro W' hW
  go_split_ands
  go_simp
 refine wpR_take (i:=4) (oi:=_) (v:=.pointer (some ⟨g3,0,none⟩)) rfl (by kernel_rfl) (by kernel_rfl) (by kernel_rfl) (by kernel_rfl) (fun _ _ _ h=>h) (Or.inl ⟨by rfl,?_⟩) ⟨un HS0,trivial⟩ ?_
 ·intro W' hW
  go_split_ands
  go_simp
 refine wpR_take (i:=5) (oi:=_) (v:=.agg #[I 0,I 1,I 0,I 0,I 0,I 0,I 0,I 0]) rfl (by kernel_rfl) (by kernel_rfl) (by kernel_rfl) (by kernel_rfl) (fun _ _ _ h=>h) (Or.inl ⟨by rfl,?_⟩) ⟨un HS0,trivial⟩ ?_
 ·intro W' hW
  go_split_ands
  go_simp
 refine wpR_take (i:=6) (oi:=_) (v:=.agg #[I 0,I 1,I 0,I 0,I 0,I 0,I 0,I 0,I 1,I 1000]) rfl (by kernel_rfl) (by kernel_rfl) (by kernel_rfl) (by kernel_rfl) (fun _ _ _ h=>h) (Or.inl ⟨by rfl,?_⟩) ⟨un HS0,trivial⟩ ?_
 ·intro W' hW
  go_split_ands
  go_simp
 refine wpR_take (i:=9) (oi:=_) (v:=.pointer (some ⟨w.heap.size,2,none⟩)) rfl (by kernel_rfl) (by kernel_rfl) (by kernel_rfl) (by kernel_rfl) (fun _ _ _ h=>h) (Or.inl ⟨by rfl,?_⟩) ⟨un HS0,trivial⟩ ?_
 ·intro W' hW
  go_split_ands
  go_simp
 refine wpR_take (i:=10) (oi:=_) (v:=I 1) rfl (by kernel_rfl) (by kernel_rfl) (by kernel_rfl) (by kernel_rfl) (fun _ _ _ h=>h) (Or.inl ⟨by rfl,?_⟩) ⟨un HS0,trivial⟩ ?_
 ·intro W' hW
  go_split_ands
  go_simp
 clear HS0
 generalize (W.alloc (.cells #[I 0,I 1,I 0,I 0,I 0,I 0,I 0,I 0,I 1,I 1000] 112)).drew=U0 at *
 refine wpR_op (i:=7) (o:=_) (by kernel_rfl) rfl rfl (fun K hK=>?_)
 go_simp
 refine(factor_any 0 1 0 0 0 0 0 0 1 1000 (1 / 1000) ⟨#[49]⟩ ⟨#[49,48,48,48]⟩ _ (by decide) (by decide) (by decide +kernel) (by decide +kernel) isR_milli (un HTA _ (un HB2))).mono ?_
 rintro e U7 ⟨rfl,hb⟩
 have HA3:=hide ((un HA2).later hb);have HR3:=hide ((un HR2).later hb);have HX3:=hide ((un HX2).later hb);have HB3:=hide ((un HB2).trans (hb.mono (un HB2).size))
 clear hb
 refine hK _ _ ⟨un HSS _ (un HA3) (un HX3),trivial⟩ ?_
 clear hK K
 refine wpR_op (i:=8) (o:=_) (by kernel_rfl) rfl rfl (fun K hK=>?_)
 go_simp
 refine(zero_of _ (un HTA _ (un HB3))).mono ?_
 rintro e U8 ⟨rfl,hb⟩
 have HA4:=hide ((un HA3).later hb);have HR4:=hide ((un HR3).later hb);have HX4:=hide ((un HX3).later hb);have HB4:=hide ((un HB3).trans (hb.mono (un HB3).size))
 clear hb
 refine hK _ _ ⟨un HSS _ (un HA4) (un HX4),trivial⟩ ?_
 clear hK K
 refine wpR_op (i:=11) (o:=_) (by kernel_rfl) rfl rfl (fun K hK=>?_)
 go_simp
 refine hK _ _ ⟨un HSS _ (un HA4) (un HX4),trivial⟩ ?_
 clear hK K
 refine wpR_late (i:=12) (o:=_) (by kernel_rfl) rfl rfl (by kernel_rfl) (fun K hK=>?_)
 refine wp_store_row 30 (.tmp 2) (.tmp 18) rfl (w.heap.size+1) #[.string ⟨#[103,114,97,109]⟩,.string ⟨#[103]⟩,I 0,I 1,I 0,I 0,I 0,I 0,I 0,I 0,.string ⟨#[49]⟩,.string ⟨#[49,48,48,48]⟩,.string ⟨#[48]⟩,.string ⟨#[49]⟩,I 1] rfl rfl 30 _ (un HR4) (by rw[info27];rfl) rfl (by kernel_rfl) (hK _ _ trivial ?_)
 clear hK K
 refine wpR_done (by kernel_rfl) ?_
 go_wp2_with fail
 exact bodyPost_ret (v:=.agg #[.string ⟨#[103,114,97,109]⟩,.string ⟨#[103]⟩,I 0,I 1,I 0,I 0,I 0,I 0,I 0,I 0,.string ⟨#[49]⟩,.string ⟨#[49,48,48,48]⟩,.string ⟨#[48]⟩,.string ⟨#[49]⟩,I 1]) (res27 Tryz.results33 _ _ (w.heap.size+1) _ rfl rfl ((un HR4).setRow _)) rfl ⟨rfl,below_setRow (un HB4) (by omega) _⟩
set_option maxRecDepth 100000 in
set_option maxHeartbeats 4000000 in
theorem told_6 (w:World) (htab:Tab w):Calls Tryz.prog 33 #[.agg #[.string ⟨#[99,97,110,100,101,108,97]⟩,.string ⟨#[99,100]⟩,I 1,.func (.func 61) #[] #[]]] w fun r w'=>r=.returned (.agg #[.string ⟨#[99,97,110,100,101,108,97]⟩,.string ⟨#[99,100]⟩,I 0,I 0,I 0,I 0,I 0,I 0,I 1,I 0,.string ⟨#[49]⟩,.string ⟨#[49]⟩,.string ⟨#[48]⟩,.string ⟨#[49]⟩,I 1])∧Below w.heap.size w w':=by
 obtain⟨V,hV⟩:∃V,V=(w.alloc (.cells #[.string ⟨#[99,97,110,100,101,108,97]⟩,.string ⟨#[99,100]⟩,I 1,.func (.func 61) #[] #[]] 68)).alloc (.cells #[.string ⟨#[]⟩,.string ⟨#[]⟩,I 0,I 0,I 0,I 0,I 0,I 0,I 0,I 0,.string ⟨#[]⟩,.string ⟨#[]⟩,.string ⟨#[]⟩,.string ⟨#[]⟩,I 0] 30):=⟨_,rfl⟩
 have HA:Hid (OwnU V w.heap.size 68 #[.string ⟨#[99,97,110,100,101,108,97]⟩,.string ⟨#[99,100]⟩,I 1,.func (.func 61) #[] #[]]):=by rw[hV];exact(OwnU.new _ _ _).alloc _
 have HR:Hid (OwnU V (w.heap.size+1) 30 #[.string ⟨#[]⟩,.string ⟨#[]⟩,I 0,I 0,I 0,I 0,I 0,I 0,I 0,I 0,.string ⟨#[]⟩,.string ⟨#[]⟩,.string ⟨#[]⟩,.string ⟨#[]⟩,I 0]):=by rw[hV];have h:=OwnU.new (w.alloc (.cells #[.string ⟨#[99,97,110,100,101,108,97]⟩,.string ⟨#[99,100]⟩,I 1,.func (.func 61) #[] #[]] 68)) #[.string ⟨#[]⟩,.string ⟨#[]⟩,I 0,I 0,I 0,I 0,I 0,I 0,I 0,I 0,.string ⟨#[]⟩,.string ⟨#[]⟩,.string ⟨#[]⟩,.string ⟨#[]⟩,I 0] 30;rw[Dm.size_alloc]at h;exact h
 have HB:Hid (Below w.heap.size w V):=by rw[hV];exact((Below.refl _ _).alloc (Nat.le_refl _) _).alloc (by simp) _
 have HTA:Hid (∀W,Below w.heap.size w W→Tab W):=fun W h=>htab.later h
 have HV:=hide hV
 clear hV htab
 go_enter Tryz.func33,Tryz.ntmps33
 go_upto_region 1 with fail
 rw[←un HV]
 clear HV
 have c3:V.cell? ⟨w.heap.size,3,none⟩=some (.func (.func 61) #[] #[]):=(un HA).ub.c 3 _ rfl
 go_upto_region 2 with (go_at_call 61;go_must(refine(candela_made _).mono ?_;rintro e W ⟨rfl,hb⟩;have HA1:=hide ((un HA).later hb);have HR1:=hide ((un HR).later hb);have HB1:=hide ((un HB).trans (hb.mono (un HB).size));clear hb c3 HA HR HB))
 have HX:Hid (OwnU (W.alloc (.cells #[I 0,I 0,I 0,I 0,I 0,I 0,I 1,I 0,I 1000,I 1000] 112)) W.heap.size 112 #[I 0,I 0,I 0,I 0,I 0,I 0,I 1,I 0,I 1000,I 1000]):=OwnU.new _ _ _
 have hal:Below W.heap.size W (W.alloc (.cells #[I 0,I 0,I 0,I 0,I 0,I 0,I 1,I 0,I 1000,I 1000] 112)):=(Below.refl _ _).alloc (Nat.le_refl _) _
 have HA2:=hide ((un HA1).later (hal.trans (((Below.refl _ _).drew).mono hal.size)));have HR2:=hide ((un HR1).later (hal.trans (((Below.refl _ _).drew).mono hal.size)));have HB2:=hide ((un HB1).trans (Below.mono (hal.trans (((Below.refl _ _).drew).mono hal.size)) (un HB1).size));have HX2:=hide ((un HX).later (Below.refl _ _).drew)
 obtain⟨g3,hg3⟩:∃g3,g3=W.heap.size:=⟨_,rfl⟩
 rw[←hg3]at HX2 ⊢
 clear hal HX HA1 HR1 HB1 hg3
 have HSS:Hid (∀W',OwnU W' w.heap.size 68 #[.string ⟨#[99,97,110,100,101,108,97]⟩,.string ⟨#[99,100]⟩,I 1,.func (.func 61) #[] #[]]→OwnU W' g3 112 #[I 0,I 0,I 0,I 0,I 0,I 0,I 1,I 0,I 1000,I 1000]→W'.cell? ⟨w.heap.size,0,none⟩=some (.string ⟨#[99,97,110,100,101,108,97]⟩)∧W'.cell? ⟨w.heap.size,1,none⟩=some (.string ⟨#[99,100]⟩)∧W'.cell? ⟨w.heap.size,2,none⟩=some (I 1)∧W'.cell? ⟨g3,0,none⟩=some (I 0)∧W'.cell? ⟨g3,1,none⟩=some (I 0)∧W'.cell? ⟨g3,2,none⟩=some (I 0)∧W'.cell? ⟨g3,3,none⟩=some (I 0)∧W'.cell? ⟨g3,4,none⟩=some (I 0)∧W'.cell? ⟨g3,5,none⟩=some (I 0)∧W'.cell? ⟨g3,6,none⟩=some (I 1)∧W'.cell? ⟨g3,7,none⟩=some (I 0)∧W'.cell? ⟨g3,8,none⟩=some (I 1000)∧W'.cell? ⟨g3,9,none⟩=some (I 1000)):=fun W' h h'=>⟨h.ub.c 0 _ rfl,h.ub.c 1 _ rfl,h.ub.c 2 _ rfl,h'.ub.c 0 _ rfl,h'.ub.c 1 _ rfl,h'.ub.c 2 _ rfl,h'.ub.c 3 _ rfl,h'.ub.c 4 _ rfl,h'.ub.c 5 _ rfl,h'.ub.c 6 _ rfl,h'.ub.c 7 _ rfl,h'.ub.c 8 _ rfl,h'.ub.c 9 _ rfl⟩
 have HS0:=hide (un HSS _ (un HA2) (un HX2))
 refine region_reads 12 (fun W'=>W'.cell? ⟨w.heap.size,0,none⟩=some (.string ⟨#[99,97,110,100,101,108,97]⟩)∧W'.cell? ⟨w.heap.size,1,none⟩=some (.string ⟨#[99,100]⟩)∧W'.cell? ⟨w.heap.size,2,none⟩=some (I 1)∧W'.cell? ⟨g3,0,none⟩=some (I 0)∧W'.cell? ⟨g3,1,none⟩=some (I 0)∧W'.cell? ⟨g3,2,none⟩=some (I 0)∧W'.cell? ⟨g3,3,none⟩=some (I 0)∧W'.cell? ⟨g3,4,none⟩=some (I 0)∧W'.cell? ⟨g3,5,none⟩=some (I 0)∧W'.cell? ⟨g3,6,none⟩=some (I 1)∧W'.cell? ⟨g3,7,none⟩=some (I 0)∧W'.cell? ⟨g3,8,none⟩=some (I 1000)∧W'.cell? ⟨g3,9,none⟩=some (I 1000)) (fun _=>True) 13 rfl (by kernel_rfl) ?_
 refine wpR_take (i:=0) (oi:=_) (v:=.pointer (some ⟨w.heap.size,0,none⟩)) rfl (by kernel_rfl) (by kernel_rfl) (by kernel_rfl) (by kernel_rfl) (fun _ _ _ h=>h) (Or.inl ⟨by rfl,?_⟩) ⟨un HS0,trivial⟩ ?_
 ·intro W' hW
  go_split_ands
  go_simp
 refine wpR_take (i:=1) (oi:=_) (v:=.string ⟨#[99,97,110,100,101,108,97]⟩) rfl (by kernel_rfl) (by kernel_rfl) (by kernel_rfl) (by kernel_rfl) (fun _ _ _ h=>h) (Or.inl ⟨by rfl,?_⟩) ⟨un HS0,trivial⟩ ?_
 ·intro W' hW
  go_split_ands
  go_simp
 refine wpR_take (i:=2) (oi:=_) (v:=.pointer (some ⟨w.heap.size,1,none⟩)) rfl (by kernel_rfl) (by kernel_rfl) (by kernel_rfl) (by kernel_rfl) (fun _ _ _ h=>h) (Or.inl ⟨by rfl,?_⟩) ⟨un HS0,trivial⟩ ?_
 ·intro W' hW
  go_split_ands
  go_simp
 refine wpR_take (i:=3) (oi:=_) (v:=.string ⟨#[99,100]⟩) rfl (by kernel_rfl) (by kernel_rfl) (by kernel_rfl) (by kernel_rfl) (fun _ _ _ h=>h) (Or.inl ⟨by rfl,?_⟩) ⟨un HS0,trivial⟩ ?_
 ·intro W' hW
  go_split_ands
  go_simp
 refine wpR_take (i:=4) (oi:=_) (v:=.pointer (some ⟨g3,0,none⟩)) rfl (by kernel_rfl) (by kernel_rfl) (by kernel_rfl) (by kernel_rfl) (fun _ _ _ h=>h) (Or.inl ⟨by rfl,?_⟩) ⟨un HS0,trivial⟩ ?_
 ·intro W' hW
  go_split_ands
  go_simp
 refine wpR_take (i:=5) (oi:=_) (v:=.agg #[I 0,I 0,I 0,I 0,I 0,I 0,I 1,I 0]) rfl (by kernel_rfl) (by kernel_rfl) (by kernel_rfl) (by kernel_rfl) (fun _ _ _ h=>h) (Or.inl ⟨by rfl,?_⟩) ⟨un HS0,trivial⟩ ?_
 ·intro W' hW
  go_split_ands
  go_simp
 refine wpR_take (i:=6) (oi:=_) (v:=.agg #[I 0,I 0,I 0,I 0,I 0,I 0,I 1,I 0,I 1000,I 1000]) rfl (by kernel_rfl) (by kernel_rfl) (by kernel_rfl) (by kernel_rfl) (fun _ _ _ h=>h) (Or.inl ⟨by rfl,?_⟩) ⟨un HS0,trivial⟩ ?_
 ·intro W' hW
  go_split_ands
  go_simp
 refine wpR_take (i:=9) (oi:=_) (v:=.pointer (some ⟨w.heap.size,2,none⟩)) rfl (by kernel_rfl) (by kernel_rfl) (by kernel_rfl) (by kernel_rfl) (fun _ _ _ h=>h) (Or.inl ⟨by rfl,?_⟩) ⟨un HS0,trivial⟩ ?_
 ·intro W' hW
  go_split_ands
  go_simp
 refine wpR_take (i:=10) (oi:=_) (v:=I 1) rfl (by kernel_rfl) (by kernel_rfl) (by kernel_rfl) (by kernel_rfl) (fun _ _ _ h=>h) (Or.inl ⟨by rfl,?_⟩) ⟨un HS0,trivial⟩ ?_
 ·intro W' hW
  go_split_ands
  go_simp
 clear HS0
 generalize (W.alloc (.cells #[I 0,I 0,I 0,I 0,I 0,I 0,I 1,I 0,I 1000,I 1000] 112)).drew=U0 at *
 refine wpR_op (i:=7) (o:=_) (by kernel_rfl) rfl rfl (fun K hK=>?_)
 go_simp
 refine(factor_any 0 0 0 0 0 0 1 0 1000 1000 (1) ⟨#[49]⟩ ⟨#[49]⟩ _ (by decide) (by decide) (by decide +kernel) (by decide +kernel) isR_one (un HTA _ (un HB2))).mono ?_
 rintro e U7 ⟨rfl,hb⟩
 have HA3:=hide ((un HA2).later hb);have HR3:=hide ((un HR2).later hb);have HX3:=hide ((un HX2).later hb);have HB3:=hide ((un HB2).trans (hb.mono (un HB2).size))
 clear hb
 refine hK _ _ ⟨un HSS _ (un HA3) (un HX3),trivial⟩ ?_
 clear hK K
 refine wpR_op (i:=8) (o:=_) (by kernel_rfl) rfl rfl (fun K hK=>?_)
 go_simp
 refine(zero_of _ (un HTA _ (un HB3))).mono ?_
 rintro e U8 ⟨rfl,hb⟩
 have HA4:=hide ((un HA3).later hb);have HR4:=hide ((un HR3).later hb);have HX4:=hide ((un HX3).later hb);have HB4:=hide ((un HB3).trans (hb.mono (un HB3).size))
 clear hb
 refine hK _ _ ⟨un HSS _ (un HA4) (un HX4),trivial⟩ ?_
 clear hK K
 refine wpR_op (i:=11) (o:=_) (by kernel_rfl) rfl rfl (fun K hK=>?_)
 go_simp
 refine hK _ _ ⟨un HSS _ (un HA4) (un HX4),trivial⟩ ?_
 clear hK K
 refine wpR_late (i:=12) (o:=_) (by kernel_rfl) rfl rfl (by kernel_rfl) (fun K hK=>?_)
 refine wp_store_row 30 (.tmp 2) (.tmp 18) rfl (w.heap.size+1) #[.string ⟨#[99,97,110,100,101,108,97]⟩,.string ⟨#[99,100]⟩,I 0,I 0,I 0,I 0,I 0,I 0,I 1,I 0,.string ⟨#[49]⟩,.string ⟨#[49]⟩,.string ⟨#[48]⟩,.string ⟨#[49]⟩,I 1] rfl rfl 30 _ (un HR4) (by rw[info27];rfl) rfl (by kernel_rfl) (hK _ _ trivial ?_)
 clear hK K
 refine wpR_done (by kernel_rfl) ?_
 go_wp2_with fail
 exact bodyPost_ret (v:=.agg #[.string ⟨#[99,97,110,100,101,108,97]⟩,.string ⟨#[99,100]⟩,I 0,I 0,I 0,I 0,I 0,I 0,I 1,I 0,.string ⟨#[49]⟩,.string ⟨#[49]⟩,.string ⟨#[48]⟩,.string ⟨#[49]⟩,I 1]) (res27 Tryz.results33 _ _ (w.heap.size+1) _ rfl rfl ((un HR4).setRow _)) rfl ⟨rfl,below_setRow (un HB4) (by omega) _⟩
set_option maxRecDepth 100000 in
set_option maxHeartbeats 4000000 in
theorem told_7 (w:World) (htab:Tab w):Calls Tryz.prog 33 #[.agg #[.string ⟨#[107,101,108,118,105,110]⟩,.string ⟨#[75]⟩,I 1,.func (.func 62) #[] #[]]] w fun r w'=>r=.returned (.agg #[.string ⟨#[107,101,108,118,105,110]⟩,.string ⟨#[75]⟩,I 0,I 0,I 0,I 0,I 1,I 0,I 0,I 0,.string ⟨#[49]⟩,.string ⟨#[49]⟩,.string ⟨#[48]⟩,.string ⟨#[49]⟩,I 1])∧Below w.heap.size w w':=by
 obtain⟨V,hV⟩:∃V,V=(w.alloc (.cells #[.string ⟨#[107,101,108,118,105,110]⟩,.string ⟨#[75]⟩,I 1,.func (.func 62) #[] #[]] 68)).alloc (.cells #[.string ⟨#[]⟩,.string ⟨#[]⟩,I 0,I 0,I 0,I 0,I 0,I 0,I 0,I 0,.string ⟨#[]⟩,.string ⟨#[]⟩,.string ⟨#[]⟩,.string ⟨#[]⟩,I 0] 30):=⟨_,rfl⟩
 have HA:Hid (OwnU V w.heap.size 68 #[.string ⟨#[107,101,108,118,105,110]⟩,.string ⟨#[75]⟩,I 1,.func (.func 62) #[] #[]]):=by rw[hV];exact(OwnU.new _ _ _).alloc _
 have HR:Hid (OwnU V (w.heap.size+1) 30 #[.string ⟨#[]⟩,.string ⟨#[]⟩,I 0,I 0,I 0,I 0,I 0,I 0,I 0,I 0,.string ⟨#[]⟩,.string ⟨#[]⟩,.string ⟨#[]⟩,.string ⟨#[]⟩,I 0]):=by rw[hV];have h:=OwnU.new (w.alloc (.cells #[.string ⟨#[107,101,108,118,105,110]⟩,.string ⟨#[75]⟩,I 1,.func (.func 62) #[] #[]] 68)) #[.string ⟨#[]⟩,.string ⟨#[]⟩,I 0,I 0,I 0,I 0,I 0,I 0,I 0,I 0,.string ⟨#[]⟩,.string ⟨#[]⟩,.string ⟨#[]⟩,.string ⟨#[]⟩,I 0] 30;rw[Dm.size_alloc]at h;exact h
 have HB:Hid (Below w.heap.size w V):=by rw[hV];exact((Below.refl _ _).alloc (Nat.le_refl _) _).alloc (by simp) _
 have HTA:Hid (∀W,Below w.heap.size w W→Tab W):=fun W h=>htab.later h
 have HV:=hide hV
 clear hV htab
 go_enter Tryz.func33,Tryz.ntmps33
 go_upto_region 1 with fail
 rw[←un HV]
 clear HV
 have c3:V.cell? ⟨w.heap.size,3,none⟩=some (.func (.func 62) #[] #[]):=(un HA).ub.c 3 _ rfl
 go_upto_region 2 with (go_at_call 62;go_must(refine(kelvin_made _).mono ?_;rintro e W ⟨rfl,hb⟩;have HA1:=hide ((un HA).later hb);have HR1:=hide ((un HR).later hb);have HB1:=hide ((un HB).trans (hb.mono (un HB).size));clear hb c3 HA HR HB))
 have HX:Hid (OwnU (W.alloc (.cells #[I 0,I 0,I 0,I 0,I 1,I 0,I 0,I 0,I 1000,I 1000] 112)) W.heap.size 112 #[I 0,I 0,I 0,I 0,I 1,I 0,I 0,I 0,I 1000,I 1000]):=OwnU.new _ _ _
 have hal:Below W.heap.size W (W.alloc (.cells #[I 0,I 0,I 0,I 0,I 1,I 0,I 0,I 0,I 1000,I 1000] 112)):=(Below.refl _ _).alloc (Nat.le_refl _) _
 have HA2:=hide ((un HA1).later (hal.trans (((Below.refl _ _).drew).mono hal.size)));have HR2:=hide ((un HR1).later (hal.trans (((Below.refl _ _).drew).mono hal.size)));have HB2:=hide ((un HB1).trans (Below.mono (hal.trans (((Below.refl _ _).drew).mono hal.size)) (un HB1).size));have HX2:=hide ((un HX).later (Below.refl _ _).drew)
 obtain⟨g3,hg3⟩:∃g3,g3=W.heap.size:=⟨_,rfl⟩
 rw[←hg3]at HX2 ⊢
 clear hal HX HA1 HR1 HB1 hg3
 have HSS:Hid (∀W',OwnU W' w.heap.size 68 #[.string ⟨#[107,101,108,118,105,110]⟩,.string ⟨#[75]⟩,I 1,.func (.func 62) #[] #[]]→OwnU W' g3 112 #[I 0,I 0,I 0,I 0,I 1,I 0,I 0,I 0,I 1000,I 1000]→W'.cell? ⟨w.heap.size,0,none⟩=some (.string ⟨#[107,101,108,118,105,110]⟩)∧W'.cell? ⟨w.heap.size,1,none⟩=some (.string ⟨#[75]⟩)∧W'.cell? ⟨w.heap.size,2,none⟩=some (I 1)∧W'.cell? ⟨g3,0,none⟩=some (I 0)∧W'.cell? ⟨g3,1,none⟩=some (I 0)∧W'.cell? ⟨g3,2,none⟩=some (I 0)∧W'.cell? ⟨g3,3,none⟩=some (I 0)∧W'.cell? ⟨g3,4,none⟩=some (I 1)∧W'.cell? ⟨g3,5,none⟩=some (I 0)∧W'.cell? ⟨g3,6,none⟩=some (I 0)∧W'.cell? ⟨g3,7,none⟩=some (I 0)∧W'.cell? ⟨g3,8,none⟩=some (I 1000)∧W'.cell? ⟨g3,9,none⟩=some (I 1000)):=fun W' h h'=>⟨h.ub.c 0 _ rfl,h.ub.c 1 _ rfl,h.ub.c 2 _ rfl,h'.ub.c 0 _ rfl,h'.ub.c 1 _ rfl,h'.ub.c 2 _ rfl,h'.ub.c 3 _ rfl,h'.ub.c 4 _ rfl,h'.ub.c 5 _ rfl,h'.ub.c 6 _ rfl,h'.ub.c 7 _ rfl,h'.ub.c 8 _ rfl,h'.ub.c 9 _ rfl⟩
 have HS0:=hide (un HSS _ (un HA2) (un HX2))
 refine region_reads 12 (fun W'=>W'.cell? ⟨w.heap.size,0,none⟩=some (.string ⟨#[107,101,108,118,105,110]⟩)∧W'.cell? ⟨w.heap.size,1,none⟩=some (.string ⟨#[75]⟩)∧W'.cell? ⟨w.heap.size,2,none⟩=some (I 1)∧W'.cell? ⟨g3,0,none⟩=some (I 0)∧W'.cell? ⟨g3,1,none⟩=some (I 0)∧W'.cell? ⟨g3,2,none⟩=some (I 0)∧W'.cell? ⟨g3,3,none⟩=some (I 0)∧W'.cell? ⟨g3,4,none⟩=some (I 1)∧W'.cell? ⟨g3,5,none⟩=some (I 0)∧W'.cell? ⟨g3,6,none⟩=some (I 0)∧W'.cell? ⟨g3,7,none⟩=some (I 0)∧W'.cell? ⟨g3,8,none⟩=some (I 1000)∧W'.cell? ⟨g3,9,none⟩=some (I 1000)) (fun _=>True) 13 rfl (by kernel_rfl) ?_
 refine wpR_take (i:=0) (oi:=_) (v:=.pointer (some ⟨w.heap.size,0,none⟩)) rfl (by kernel_rfl) (by kernel_rfl) (by kernel_rfl) (by kernel_rfl) (fun _ _ _ h=>h) (Or.inl ⟨by rfl,?_⟩) ⟨un HS0,trivial⟩ ?_
 ·intro W' hW
  go_split_ands
  go_simp
 refine wpR_take (i:=1) (oi:=_) (v:=.string ⟨#[107,101,108,118,105,110]⟩) rfl (by kernel_rfl) (by kernel_rfl) (by kernel_rfl) (by kernel_rfl) (fun _ _ _ h=>h) (Or.inl ⟨by rfl,?_⟩) ⟨un HS0,trivial⟩ ?_
 ·intro W' hW
  go_split_ands
  go_simp
 refine wpR_take (i:=2) (oi:=_) (v:=.pointer (some ⟨w.heap.size,1,none⟩)) rfl (by kernel_rfl) (by kernel_rfl) (by kernel_rfl) (by kernel_rfl) (fun _ _ _ h=>h) (Or.inl ⟨by rfl,?_⟩) ⟨un HS0,trivial⟩ ?_
 ·intro W' hW
  go_split_ands
  go_simp
 refine wpR_take (i:=3) (oi:=_) (v:=.string ⟨#[75]⟩) rfl (by kernel_rfl) (by kernel_rfl) (by kernel_rfl) (by kernel_rfl) (fun _ _ _ h=>h) (Or.inl ⟨by rfl,?_⟩) ⟨un HS0,trivial⟩ ?_
 ·intro W' hW
  go_split_ands
  go_simp
 refine wpR_take (i:=4) (oi:=_) (v:=.pointer (some ⟨g3,0,none⟩)) rfl (by kernel_rfl) (by kernel_rfl) (by kernel_rfl) (by kernel_rfl) (fun _ _ _ h=>h) (Or.inl ⟨by rfl,?_⟩) ⟨un HS0,trivial⟩ ?_
 ·intro W' hW
  go_split_ands
  go_simp
 refine wpR_take (i:=5) (oi:=_) (v:=.agg #[I 0,I 0,I 0,I 0,I 1,I 0,I 0,I 0]) rfl (by kernel_rfl) (by kernel_rfl) (by kernel_rfl) (by kernel_rfl) (fun _ _ _ h=>h) (Or.inl ⟨by rfl,?_⟩) ⟨un HS0,trivial⟩ ?_
 ·intro W' hW
  go_split_ands
  go_simp
 refine wpR_take (i:=6) (oi:=_) (v:=.agg #[I 0,I 0,I 0,I 0,I 1,I 0,I 0,I 0,I 1000,I 1000]) rfl (by kernel_rfl) (by kernel_rfl) (by kernel_rfl) (by kernel_rfl) (fun _ _ _ h=>h) (Or.inl ⟨by rfl,?_⟩) ⟨un HS0,trivial⟩ ?_
 ·intro W' hW
  go_split_ands
  go_simp
 refine wpR_take (i:=9) (oi:=_) (v:=.pointer (some ⟨w.heap.size,2,none⟩)) rfl (by kernel_rfl) (by kernel_rfl) (by kernel_rfl) (by kernel_rfl) (fun _ _ _ h=>h) (Or.inl ⟨by rfl,?_⟩) ⟨un HS0,trivial⟩ ?_
 ·intro W' hW
  go_split_ands
  go_simp
 refine wpR_take (i:=10) (oi:=_) (v:=I 1) rfl (by kernel_rfl) (by kernel_rfl) (by kernel_rfl) (by kernel_rfl) (fun _ _ _ h=>h) (Or.inl ⟨by rfl,?_⟩) ⟨un HS0,trivial⟩ ?_
 ·intro W' hW
  go_split_ands
  go_simp
 clear HS0
 generalize (W.alloc (.cells #[I 0,I 0,I 0,I 0,I 1,I 0,I 0,I 0,I 1000,I 1000] 112)).drew=U0 at *
 refine wpR_op (i:=7) (o:=_) (by kernel_rfl) rfl rfl (fun K hK=>?_)
 go_simp
 refine(factor_any 0 0 0 0 1 0 0 0 1000 1000 (1) ⟨#[49]⟩ ⟨#[49]⟩ _ (by decide) (by decide) (by decide +kernel) (by decide +kernel) isR_one (un HTA _ (un HB2))).mono ?_
 rintro e U7 ⟨rfl,hb⟩
 have HA3:=hide ((un HA2).later hb);have HR3:=hide ((un HR2).later hb);have HX3:=hide ((un HX2).later hb);have HB3:=hide ((un HB2).trans (hb.mono (un HB2).size))
 clear hb
 refine hK _ _ ⟨un HSS _ (un HA3) (un HX3),trivial⟩ ?_
 clear hK K
 refine wpR_op (i:=8) (o:=_) (by kernel_rfl) rfl rfl (fun K hK=>?_)
 go_simp
 refine(zero_of _ (un HTA _ (un HB3))).mono ?_
 rintro e U8 ⟨rfl,hb⟩
 have HA4:=hide ((un HA3).later hb);have HR4:=hide ((un HR3).later hb);have HX4:=hide ((un HX3).later hb);have HB4:=hide ((un HB3).trans (hb.mono (un HB3).size))
 clear hb
 refine hK _ _ ⟨un HSS _ (un HA4) (un HX4),trivial⟩ ?_
 clear hK K
 refine wpR_op (i:=11) (o:=_) (by kernel_rfl) rfl rfl (fun K hK=>?_)
 go_simp
 refine hK _ _ ⟨un HSS _ (un HA4) (un HX4),trivial⟩ ?_
 clear hK K
 refine wpR_late (i:=12) (o:=_) (by kernel_rfl) rfl rfl (by kernel_rfl) (fun K hK=>?_)
 refine wp_store_row 30 (.tmp 2) (.tmp 18) rfl (w.heap.size+1) #[.string ⟨#[107,101,108,118,105,110]⟩,.string ⟨#[75]⟩,I 0,I 0,I 0,I 0,I 1,I 0,I 0,I 0,.string ⟨#[49]⟩,.string ⟨#[49]⟩,.string ⟨#[48]⟩,.string ⟨#[49]⟩,I 1] rfl rfl 30 _ (un HR4) (by rw[info27];rfl) rfl (by kernel_rfl) (hK _ _ trivial ?_)
 clear hK K
 refine wpR_done (by kernel_rfl) ?_
 go_wp2_with fail
 exact bodyPost_ret (v:=.agg #[.string ⟨#[107,101,108,118,105,110]⟩,.string ⟨#[75]⟩,I 0,I 0,I 0,I 0,I 1,I 0,I 0,I 0,.string ⟨#[49]⟩,.string ⟨#[49]⟩,.string ⟨#[48]⟩,.string ⟨#[49]⟩,I 1]) (res27 Tryz.results33 _ _ (w.heap.size+1) _ rfl rfl ((un HR4).setRow _)) rfl ⟨rfl,below_setRow (un HB4) (by omega) _⟩
end Go.Proofs.YthcbhnggphdflaaGreatDoor

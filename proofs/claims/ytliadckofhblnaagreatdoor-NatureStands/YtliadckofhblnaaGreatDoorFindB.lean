/- The base units by their words. -/
import Derived.Test.YtliadckofhblnaaGreatDoorLimb3
import Derived.Test.YtliadckofhblnaaGreatDoorThou
import Derived.Test.YtliadckofhblnaaGreatDoorReads2
import Derived.OwnWalk
import Derived.Laws.AppendOwn
import Derived.Laws.EntriesVeiled
set_option maxHeartbeats 4000000
set_option maxRecDepth 100000
namespace Go.Proofs.YtliadckofhblnaaGreatDoor
open Go.RowKit
theorem zGv (w:World):Calls Tryz.prog 225 #[] w fun r w'=>r=.returned (.agg #[I 0,I 0,I 0,I 0,I 1,I 0,I 0,I 0,I 1000,I 1000])∧Below w.heap.size w w':=by
 obtain⟨V,hV⟩:∃V,V=w.alloc (.cells #[I 0,I 0,I 0,I 0,I 0,I 0,I 0,I 0,I 0,I 0] 235):=⟨_,rfl⟩
 have HR:Hid (zAc V w.heap.size 235 #[I 0,I 0,I 0,I 0,I 0,I 0,I 0,I 0,I 0,I 0]):=by rw[hV];exact zAc.new _ _ _
 have HB:Hid (Below w.heap.size w V):=by rw[hV];exact(Below.refl _ _).alloc (Nat.le_refl _) _
 have HV:=zAb hV
 clear hV
 go_enter Tryz.func225,Tryz.ntmps225
 go_upto_region 1 with fail
 rw[←un HV]
 clear HV
 go_wp2_with fail
 refine(zEx _).mono ?_
 rintro e W ⟨rfl,hb⟩
 have HR1:=zAb ((un HR).later hb);have HB1:=zAb ((un HB).trans (hb.mono (un HB).size))
 clear HR HB hb
 have HR:=HR1;have HB:=HB1
 clear HR1 HB1
 go_wp2_with fail
 refine(gram_made _).mono ?_
 rintro e W ⟨rfl,hb⟩
 have HR1:=zAb ((un HR).later hb);have HB1:=zAb ((un HB).trans (hb.mono (un HB).size))
 clear HR HB hb
 have HR:=HR1;have HB:=HB1
 clear HR1 HB1
 go_wp2_with fail
 refine(zCy _).mono ?_
 rintro e W ⟨rfl,hb⟩
 have HR1:=zAb ((un HR).later hb);have HB1:=zAb ((un HB).trans (hb.mono (un HB).size))
 clear HR HB hb
 have HR:=HR1;have HB:=HB1
 clear HR1 HB1
 go_wp2_with fail
 refine(joule_made _).mono ?_
 rintro e W ⟨rfl,hb⟩
 have HR1:=zAb ((un HR).later hb);have HB1:=zAb ((un HB).trans (hb.mono (un HB).size))
 clear HR HB hb
 have HR:=HR1;have HB:=HB1
 clear HR1 HB1
 go_upto_region 2 with fail
 have HX:Hid (zAc (W.alloc (.cells #[I 2,I 1,I (-2),I 0,I 0,I 0,I 0,I 0,I 1000,I 1000] 235)) W.heap.size 235 #[I 2,I 1,I (-2),I 0,I 0,I 0,I 0,I 0,I 1000,I 1000]∧Below W.heap.size W (W.alloc (.cells #[I 2,I 1,I (-2),I 0,I 0,I 0,I 0,I 0,I 1000,I 1000] 235))):=⟨zAc.new _ _ _,(Below.refl _ _).alloc (Nat.le_refl _) _⟩
 obtain⟨g1,hg1⟩:∃g1,g1=W.heap.size:=⟨_,rfl⟩
 obtain⟨U,hU⟩:∃U,U=W.alloc (.cells #[I 2,I 1,I (-2),I 0,I 0,I 0,I 0,I 0,I 1000,I 1000] 235):=⟨_,rfl⟩
 rw[←hU]at HX ⊢
 rw[←hg1]at HX ⊢
 have hne:¬g1=w.heap.size:=by have:=(un HR).lt;omega
 have HR1:=zAb ((un HR).later (by rw[←hg1];exact(un HX).2));have HB1:=zAb ((un HB).trans (Below.mono (by rw[←hg1];exact(un HX).2:Below W.heap.size W U) (un HB).size))
 have HQ:=zAb (un HX).1
 clear HX HR HB hU hg1
 have HBD:Hid (Below U.heap.size U U.drew):=(Below.refl _ _).drew
 have HSS:Hid (∀W',zAc W' g1 235 #[I 2,I 1,I (-2),I 0,I 0,I 0,I 0,I 0,I 1000,I 1000]→W'.cell? ⟨g1,0,none⟩=some (I 2)∧W'.cell? ⟨g1,1,none⟩=some (I 1)∧W'.cell? ⟨g1,2,none⟩=some (I (-2))∧W'.cell? ⟨g1,3,none⟩=some (I 0)∧W'.cell? ⟨g1,4,none⟩=some (I 0)∧W'.cell? ⟨g1,5,none⟩=some (I 0)∧W'.cell? ⟨g1,6,none⟩=some (I 0)∧W'.cell? ⟨g1,7,none⟩=some (I 0)∧W'.cell? ⟨g1,8,none⟩=some (I 1000)∧W'.cell? ⟨g1,9,none⟩=some (I 1000)):=fun W' h=>⟨h.ub.c 0 _ rfl,h.ub.c 1 _ rfl,h.ub.c 2 _ rfl,h.ub.c 3 _ rfl,h.ub.c 4 _ rfl,h.ub.c 5 _ rfl,h.ub.c 6 _ rfl,h.ub.c 7 _ rfl,h.ub.c 8 _ rfl,h.ub.c 9 _ rfl⟩
 have HR2:=zAb ((un HR1).later (un HBD));have HQ2:=zAb ((un HQ).later (un HBD));have HB2:=zAb ((un HB1).trans ((un HBD).mono (un HB1).size))
 clear HR1 HQ HB1
 have HS0:=zAb (un HSS _ (un HQ2))
 refine zAi 4 (fun W'=>W'.cell? ⟨g1,0,none⟩=some (I 2)∧W'.cell? ⟨g1,1,none⟩=some (I 1)∧W'.cell? ⟨g1,2,none⟩=some (I (-2))∧W'.cell? ⟨g1,3,none⟩=some (I 0)∧W'.cell? ⟨g1,4,none⟩=some (I 0)∧W'.cell? ⟨g1,5,none⟩=some (I 0)∧W'.cell? ⟨g1,6,none⟩=some (I 0)∧W'.cell? ⟨g1,7,none⟩=some (I 0)∧W'.cell? ⟨g1,8,none⟩=some (I 1000)∧W'.cell? ⟨g1,9,none⟩=some (I 1000)) (fun _=>True) 5 rfl (by kernel_rfl) ?_
 refine zAd (i:=0) (oi:=_) (v:=.agg #[I 2,I 1,I (-2),I 0,I 0,I 0,I 0,I 0,I 1000,I 1000]) rfl (by kernel_rfl) (by kernel_rfl) (by kernel_rfl) (by kernel_rfl) (fun _ _ _ h=>h) (Or.inl ⟨by rfl,?_⟩) ⟨un HS0,trivial⟩ ?_
 ·intro W' hW
  go_split_ands
  go_simp
 clear HBD HS0
 generalize U.drew=U0 at *
 refine zAg (i:=1) (o:=_) (by kernel_rfl) rfl rfl (fun K hK=>?_)
 go_simp
 refine hK _ _ ⟨un HSS _ (un HQ2),trivial⟩ ?_
 clear hK K
 refine zAg (i:=2) (o:=_) (by kernel_rfl) rfl rfl (fun K hK=>?_)
 go_simp
 refine(zDx 2 1 (-2) 0 (-1) 0 0 0 _).mono ?_
 rintro e U1 ⟨rfl,hb⟩
 have HR3:=zAb ((un HR2).later hb);have HQ3:=zAb ((un HQ2).later hb);have HB3:=zAb ((un HB2).trans (hb.mono (un HB2).size))
 clear hb HR2 HQ2 HB2
 refine hK _ _ ⟨un HSS _ (un HQ3),trivial⟩ ?_
 clear hK K
 refine zAg (i:=3) (o:=_) (by kernel_rfl) rfl rfl (fun K hK=>?_)
 go_simp
 refine(zFm 2 1 (-2) 0 0 0 0 0 1000 1000 2 1 (-2) 0 (-1) 0 0 0 1 1 0 0 0 0 1 0 0 0 1000 1000 _ (by decide +kernel) (by decide +kernel) (by decide +kernel)).mono ?_
 rintro e U2 ⟨rfl,hb⟩
 have HR4:=zAb ((un HR3).later hb);have HQ4:=zAb ((un HQ3).later hb);have HB4:=zAb ((un HB3).trans (hb.mono (un HB3).size))
 clear hb HR3 HQ3 HB3
 refine hK _ _ ⟨un HSS _ (un HQ4),trivial⟩ ?_
 clear hK K
 refine zAj (i:=4) (o:=_) (by kernel_rfl) rfl rfl (by kernel_rfl) (fun K hK=>?_)
 refine wp_store_row 235 (.tmp 0) (.tmp 9) rfl w.heap.size #[I 0,I 0,I 0,I 0,I 1,I 0,I 0,I 0,I 1000,I 1000] rfl rfl 235 _ (un HR4) (by rw[zCv];rfl) rfl (by kernel_rfl) (hK _ _ trivial ?_)
 clear hK K
 refine zAm (by kernel_rfl) ?_
 go_wp2_with fail
 exact bodyPost_ret (v:=.agg #[I 0,I 0,I 0,I 0,I 1,I 0,I 0,I 0,I 1000,I 1000]) (res43 Tryz.results225 _ _ w.heap.size _ rfl rfl ((un HR4).setRow _)) rfl ⟨rfl,below_setRow (un HB4) (Nat.le_refl _) _⟩
theorem candela_made (w:World):Calls Tryz.prog 224 #[] w fun r w'=>r=.returned (.agg #[I 0,I 0,I 0,I 0,I 0,I 0,I 1,I 0,I 1000,I 1000])∧Below w.heap.size w w':=by
 obtain⟨V,hV⟩:∃V,V=w.alloc (.cells #[I 0,I 0,I 0,I 0,I 0,I 0,I 0,I 0,I 0,I 0] 235):=⟨_,rfl⟩
 have HR:Hid (zAc V w.heap.size 235 #[I 0,I 0,I 0,I 0,I 0,I 0,I 0,I 0,I 0,I 0]):=by rw[hV];exact zAc.new _ _ _
 have HB:Hid (Below w.heap.size w V):=by rw[hV];exact(Below.refl _ _).alloc (Nat.le_refl _) _
 have HV:=zAb hV
 clear hV
 go_enter Tryz.func224,Tryz.ntmps224
 go_upto_region 1 with fail
 rw[←un HV]
 clear HV
 go_wp2_with fail
 refine(zEx _).mono ?_
 rintro e W ⟨rfl,hb⟩
 have HR1:=zAb ((un HR).later hb);have HB1:=zAb ((un HB).trans (hb.mono (un HB).size))
 clear HR HB hb
 have HR:=HR1;have HB:=HB1
 clear HR1 HB1
 go_wp2_with fail
 refine(gram_made _).mono ?_
 rintro e W ⟨rfl,hb⟩
 have HR1:=zAb ((un HR).later hb);have HB1:=zAb ((un HB).trans (hb.mono (un HB).size))
 clear HR HB hb
 have HR:=HR1;have HB:=HB1
 clear HR1 HB1
 go_wp2_with fail
 refine(zCy _).mono ?_
 rintro e W ⟨rfl,hb⟩
 have HR1:=zAb ((un HR).later hb);have HB1:=zAb ((un HB).trans (hb.mono (un HB).size))
 clear HR HB hb
 have HR:=HR1;have HB:=HB1
 clear HR1 HB1
 go_wp2_with fail
 refine(joule_made _).mono ?_
 rintro e W ⟨rfl,hb⟩
 have HR1:=zAb ((un HR).later hb);have HB1:=zAb ((un HB).trans (hb.mono (un HB).size))
 clear HR HB hb
 have HR:=HR1;have HB:=HB1
 clear HR1 HB1
 go_wp2_with fail
 refine(zCy _).mono ?_
 rintro e W ⟨rfl,hb⟩
 have HR1:=zAb ((un HR).later hb);have HB1:=zAb ((un HB).trans (hb.mono (un HB).size))
 clear HR HB hb
 have HR:=HR1;have HB:=HB1
 clear HR1 HB1
 go_wp2_with fail
 refine(zFm 2 1 (-2) 0 0 0 0 0 1000 1000 0 0 1 0 0 0 0 0 1 1 2 1 (-3) 0 0 0 0 0 1000 1000 _ (by decide +kernel) (by decide +kernel) (by decide +kernel)).mono ?_
 rintro e W ⟨rfl,hb⟩
 have HR1:=zAb ((un HR).later hb);have HB1:=zAb ((un HB).trans (hb.mono (un HB).size))
 clear HR HB hb
 have HR:=HR1;have HB:=HB1
 clear HR1 HB1
 go_upto_region 2 with fail
 have HX:Hid (zAc (W.alloc (.cells #[I 2,I 1,I (-3),I 0,I 0,I 0,I 0,I 0,I 1000,I 1000] 235)) W.heap.size 235 #[I 2,I 1,I (-3),I 0,I 0,I 0,I 0,I 0,I 1000,I 1000]∧Below W.heap.size W (W.alloc (.cells #[I 2,I 1,I (-3),I 0,I 0,I 0,I 0,I 0,I 1000,I 1000] 235))):=⟨zAc.new _ _ _,(Below.refl _ _).alloc (Nat.le_refl _) _⟩
 obtain⟨g1,hg1⟩:∃g1,g1=W.heap.size:=⟨_,rfl⟩
 obtain⟨U,hU⟩:∃U,U=W.alloc (.cells #[I 2,I 1,I (-3),I 0,I 0,I 0,I 0,I 0,I 1000,I 1000] 235):=⟨_,rfl⟩
 rw[←hU]at HX ⊢
 rw[←hg1]at HX ⊢
 have hne:¬g1=w.heap.size:=by have:=(un HR).lt;omega
 have HR1:=zAb ((un HR).later (by rw[←hg1];exact(un HX).2));have HB1:=zAb ((un HB).trans (Below.mono (by rw[←hg1];exact(un HX).2:Below W.heap.size W U) (un HB).size))
 have HQ:=zAb (un HX).1
 clear HX HR HB hU hg1
 have HBD:Hid (Below U.heap.size U U.drew):=(Below.refl _ _).drew
 have HSS:Hid (∀W',zAc W' g1 235 #[I 2,I 1,I (-3),I 0,I 0,I 0,I 0,I 0,I 1000,I 1000]→W'.cell? ⟨g1,0,none⟩=some (I 2)∧W'.cell? ⟨g1,1,none⟩=some (I 1)∧W'.cell? ⟨g1,2,none⟩=some (I (-3))∧W'.cell? ⟨g1,3,none⟩=some (I 0)∧W'.cell? ⟨g1,4,none⟩=some (I 0)∧W'.cell? ⟨g1,5,none⟩=some (I 0)∧W'.cell? ⟨g1,6,none⟩=some (I 0)∧W'.cell? ⟨g1,7,none⟩=some (I 0)∧W'.cell? ⟨g1,8,none⟩=some (I 1000)∧W'.cell? ⟨g1,9,none⟩=some (I 1000)):=fun W' h=>⟨h.ub.c 0 _ rfl,h.ub.c 1 _ rfl,h.ub.c 2 _ rfl,h.ub.c 3 _ rfl,h.ub.c 4 _ rfl,h.ub.c 5 _ rfl,h.ub.c 6 _ rfl,h.ub.c 7 _ rfl,h.ub.c 8 _ rfl,h.ub.c 9 _ rfl⟩
 have HR2:=zAb ((un HR1).later (un HBD));have HQ2:=zAb ((un HQ).later (un HBD));have HB2:=zAb ((un HB1).trans ((un HBD).mono (un HB1).size))
 clear HR1 HQ HB1
 have HS0:=zAb (un HSS _ (un HQ2))
 refine zAi 4 (fun W'=>W'.cell? ⟨g1,0,none⟩=some (I 2)∧W'.cell? ⟨g1,1,none⟩=some (I 1)∧W'.cell? ⟨g1,2,none⟩=some (I (-3))∧W'.cell? ⟨g1,3,none⟩=some (I 0)∧W'.cell? ⟨g1,4,none⟩=some (I 0)∧W'.cell? ⟨g1,5,none⟩=some (I 0)∧W'.cell? ⟨g1,6,none⟩=some (I 0)∧W'.cell? ⟨g1,7,none⟩=some (I 0)∧W'.cell? ⟨g1,8,none⟩=some (I 1000)∧W'.cell? ⟨g1,9,none⟩=some (I 1000)) (fun _=>True) 5 rfl (by kernel_rfl) ?_
 refine zAd (i:=2) (oi:=_) (v:=.agg #[I 2,I 1,I (-3),I 0,I 0,I 0,I 0,I 0,I 1000,I 1000]) rfl (by kernel_rfl) (by kernel_rfl) (by kernel_rfl) (by kernel_rfl) (fun _ _ _ h=>h) (Or.inl ⟨by rfl,?_⟩) ⟨un HS0,trivial⟩ ?_
 ·intro W' hW
  go_split_ands
  go_simp
 clear HBD HS0
 generalize U.drew=U0 at *
 refine zAg (i:=0) (o:=_) (by kernel_rfl) rfl rfl (fun K hK=>?_)
 go_simp
 refine hK _ _ ⟨un HSS _ (un HQ2),trivial⟩ ?_
 clear hK K
 refine zAg (i:=1) (o:=_) (by kernel_rfl) rfl rfl (fun K hK=>?_)
 go_simp
 refine(zDx (-2) (-1) 3 0 0 0 1 0 _).mono ?_
 rintro e U1 ⟨rfl,hb⟩
 have HR3:=zAb ((un HR2).later hb);have HQ3:=zAb ((un HQ2).later hb);have HB3:=zAb ((un HB2).trans (hb.mono (un HB2).size))
 clear hb HR2 HQ2 HB2
 refine hK _ _ ⟨un HSS _ (un HQ3),trivial⟩ ?_
 clear hK K
 refine zAg (i:=3) (o:=_) (by kernel_rfl) rfl rfl (fun K hK=>?_)
 go_simp
 refine(zDf (-2) (-1) 3 0 0 0 1 0 1 1 2 1 (-3) 0 0 0 0 0 1000 1000 0 0 0 0 0 0 1 0 1000 1000 _ (by decide +kernel) (by decide +kernel) (by decide +kernel)).mono ?_
 rintro e U2 ⟨rfl,hb⟩
 have HR4:=zAb ((un HR3).later hb);have HQ4:=zAb ((un HQ3).later hb);have HB4:=zAb ((un HB3).trans (hb.mono (un HB3).size))
 clear hb HR3 HQ3 HB3
 refine hK _ _ ⟨un HSS _ (un HQ4),trivial⟩ ?_
 clear hK K
 refine zAj (i:=4) (o:=_) (by kernel_rfl) rfl rfl (by kernel_rfl) (fun K hK=>?_)
 refine wp_store_row 235 (.tmp 0) (.tmp 11) rfl w.heap.size #[I 0,I 0,I 0,I 0,I 0,I 0,I 1,I 0,I 1000,I 1000] rfl rfl 235 _ (un HR4) (by rw[zCv];rfl) rfl (by kernel_rfl) (hK _ _ trivial ?_)
 clear hK K
 refine zAm (by kernel_rfl) ?_
 go_wp2_with fail
 exact bodyPost_ret (v:=.agg #[I 0,I 0,I 0,I 0,I 0,I 0,I 1,I 0,I 1000,I 1000]) (res43 Tryz.results224 _ _ w.heap.size _ rfl rfl ((un HR4).setRow _)) rfl ⟨rfl,below_setRow (un HB4) (Nat.le_refl _) _⟩
def nth8 (l:List Int) (k:Nat):Int:=l.getD k 0
theorem told_0 (w:World) (htab:Tab w):Calls Tryz.prog 159 #[.agg #[G #[98,105,116],G #[98],I 3,.func (.func 218) #[] #[]]] w fun r w'=>r=.returned (.agg #[G #[98,105,116],G #[98],I 0,I 0,I 0,I 0,I 0,I 0,I 0,I 1,G #[49],G #[49],G #[48],G #[49],I 3])∧Bw w w' :=
 toldB (nth8 [0,0,0,0,0,0,0,1]) 1 1 _ _ _ _ _ _ w (fun _=>by kernel_rfl) (fun W=>bit_made W) (fun W hb=>zCa 0 0 0 0 0 0 0 1 1 1 (1) _ _ W (by decide) (by decide) (by decide +kernel) (by decide +kernel) zAz (htab.later hb)) (fun W hb=>zFc W (htab.later hb))
theorem told_1 (w:World) (htab:Tab w):Calls Tryz.prog 159 #[.agg #[G #[109,111,108,101],G #[109,111,108],I 1,.func (.func 219) #[] #[]]] w fun r w'=>r=.returned (.agg #[G #[109,111,108,101],G #[109,111,108],I 0,I 0,I 0,I 0,I 0,I 1,I 0,I 0,G #[49],G #[49],G #[48],G #[49],I 1])∧Bw w w' :=
 toldB (nth8 [0,0,0,0,0,1,0,0]) 1 1 _ _ _ _ _ _ w (fun _=>by kernel_rfl) (fun W=>mole_made W) (fun W hb=>zCa 0 0 0 0 0 1 0 0 1 1 (1) _ _ W (by decide) (by decide) (by decide +kernel) (by decide +kernel) zAz (htab.later hb)) (fun W hb=>zFc W (htab.later hb))
theorem told_2 (w:World) (htab:Tab w):Calls Tryz.prog 159 #[.agg #[G #[115,101,99,111,110,100],G #[115],I 1,.func (.func 220) #[] #[]]] w fun r w'=>r=.returned (.agg #[G #[115,101,99,111,110,100],G #[115],I 0,I 0,I 1,I 0,I 0,I 0,I 0,I 0,G #[49],G #[49],G #[48],G #[49],I 1])∧Bw w w' :=
 toldB (nth8 [0,0,1,0,0,0,0,0]) 1 1 _ _ _ _ _ _ w (fun _=>by kernel_rfl) (fun W=>zCy W) (fun W hb=>zCa 0 0 1 0 0 0 0 0 1 1 (1) _ _ W (by decide) (by decide) (by decide +kernel) (by decide +kernel) zAz (htab.later hb)) (fun W hb=>zFc W (htab.later hb))
theorem told_3 (w:World) (htab:Tab w):Calls Tryz.prog 159 #[.agg #[G #[97,109,112,101,114,101],G #[65],I 1,.func (.func 221) #[] #[]]] w fun r w'=>r=.returned (.agg #[G #[97,109,112,101,114,101],G #[65],I 0,I 0,I 0,I 1,I 0,I 0,I 0,I 0,G #[49],G #[49],G #[48],G #[49],I 1])∧Bw w w' :=
 toldB (nth8 [0,0,0,1,0,0,0,0]) 1 1 _ _ _ _ _ _ w (fun _=>by kernel_rfl) (fun W=>ampere_made W) (fun W hb=>zCa 0 0 0 1 0 0 0 0 1 1 (1) _ _ W (by decide) (by decide) (by decide +kernel) (by decide +kernel) zAz (htab.later hb)) (fun W hb=>zFc W (htab.later hb))
theorem told_4 (w:World) (htab:Tab w):Calls Tryz.prog 159 #[.agg #[G #[109,101,116,114,101],G #[109],I 1,.func (.func 222) #[] #[]]] w fun r w'=>r=.returned (.agg #[G #[109,101,116,114,101],G #[109],I 1,I 0,I 0,I 0,I 0,I 0,I 0,I 0,G #[49],G #[49],G #[48],G #[49],I 1])∧Bw w w' :=
 toldB (nth8 [1,0,0,0,0,0,0,0]) 1 1 _ _ _ _ _ _ w (fun _=>by kernel_rfl) (fun W=>zEx W) (fun W hb=>zCa 1 0 0 0 0 0 0 0 1 1 (1) _ _ W (by decide) (by decide) (by decide +kernel) (by decide +kernel) zAz (htab.later hb)) (fun W hb=>zFc W (htab.later hb))
theorem told_5 (w:World) (htab:Tab w):Calls Tryz.prog 159 #[.agg #[G #[103,114,97,109],G #[103],I 1,.func (.func 223) #[] #[]]] w fun r w'=>r=.returned (.agg #[G #[103,114,97,109],G #[103],I 0,I 1,I 0,I 0,I 0,I 0,I 0,I 0,G #[49],G #[49,48,48,48],G #[48],G #[49],I 1])∧Bw w w' :=
 toldB (nth8 [0,1,0,0,0,0,0,0]) 1 1000 _ _ _ _ _ _ w (fun _=>by kernel_rfl) (fun W=>gram_made W) (fun W hb=>zCa 0 1 0 0 0 0 0 0 1 1000 (1 / 1000) _ _ W (by decide) (by decide) (by decide +kernel) (by decide +kernel) isR_milli (htab.later hb)) (fun W hb=>zFc W (htab.later hb))
theorem told_6 (w:World) (htab:Tab w):Calls Tryz.prog 159 #[.agg #[G #[99,97,110,100,101,108,97],G #[99,100],I 1,.func (.func 224) #[] #[]]] w fun r w'=>r=.returned (.agg #[G #[99,97,110,100,101,108,97],G #[99,100],I 0,I 0,I 0,I 0,I 0,I 0,I 1,I 0,G #[49],G #[49],G #[48],G #[49],I 1])∧Bw w w' :=
 toldB (nth8 [0,0,0,0,0,0,1,0]) 1000 1000 _ _ _ _ _ _ w (fun _=>by kernel_rfl) (fun W=>candela_made W) (fun W hb=>zCa 0 0 0 0 0 0 1 0 1000 1000 (1) _ _ W (by decide) (by decide) (by decide +kernel) (by decide +kernel) zAz (htab.later hb)) (fun W hb=>zFc W (htab.later hb))
theorem told_7 (w:World) (htab:Tab w):Calls Tryz.prog 159 #[.agg #[G #[107,101,108,118,105,110],G #[75],I 1,.func (.func 225) #[] #[]]] w fun r w'=>r=.returned (.agg #[G #[107,101,108,118,105,110],G #[75],I 0,I 0,I 0,I 0,I 1,I 0,I 0,I 0,G #[49],G #[49],G #[48],G #[49],I 1])∧Bw w w' :=
 toldB (nth8 [0,0,0,0,1,0,0,0]) 1000 1000 _ _ _ _ _ _ w (fun _=>by kernel_rfl) (fun W=>zGv W) (fun W hb=>zCa 0 0 0 0 1 0 0 0 1000 1000 (1) _ _ W (by decide) (by decide) (by decide +kernel) (by decide +kernel) zAz (htab.later hb)) (fun W hb=>zFc W (htab.later hb))
structure Sc where
 nm:ByteArray
 sy:ByteArray
 tk:Int
 f:Nat
 u:Array Value
def sct:Nat→Sc
 | 0=>⟨⟨#[98,105,116]⟩,⟨#[98]⟩,3,218,#[G #[98,105,116],G #[98],I 0,I 0,I 0,I 0,I 0,I 0,I 0,I 1,G #[49],G #[49],G #[48],G #[49],I 3]⟩
 | 1=>⟨⟨#[109,111,108,101]⟩,⟨#[109,111,108]⟩,1,219,#[G #[109,111,108,101],G #[109,111,108],I 0,I 0,I 0,I 0,I 0,I 1,I 0,I 0,G #[49],G #[49],G #[48],G #[49],I 1]⟩
 | 2=>⟨⟨#[115,101,99,111,110,100]⟩,⟨#[115]⟩,1,220,#[G #[115,101,99,111,110,100],G #[115],I 0,I 0,I 1,I 0,I 0,I 0,I 0,I 0,G #[49],G #[49],G #[48],G #[49],I 1]⟩
 | 3=>⟨⟨#[97,109,112,101,114,101]⟩,⟨#[65]⟩,1,221,#[G #[97,109,112,101,114,101],G #[65],I 0,I 0,I 0,I 1,I 0,I 0,I 0,I 0,G #[49],G #[49],G #[48],G #[49],I 1]⟩
 | 4=>⟨⟨#[109,101,116,114,101]⟩,⟨#[109]⟩,1,222,#[G #[109,101,116,114,101],G #[109],I 1,I 0,I 0,I 0,I 0,I 0,I 0,I 0,G #[49],G #[49],G #[48],G #[49],I 1]⟩
 | 5=>⟨⟨#[103,114,97,109]⟩,⟨#[103]⟩,1,223,#[G #[103,114,97,109],G #[103],I 0,I 1,I 0,I 0,I 0,I 0,I 0,I 0,G #[49],G #[49,48,48,48],G #[48],G #[49],I 1]⟩
 | 6=>⟨⟨#[99,97,110,100,101,108,97]⟩,⟨#[99,100]⟩,1,224,#[G #[99,97,110,100,101,108,97],G #[99,100],I 0,I 0,I 0,I 0,I 0,I 0,I 1,I 0,G #[49],G #[49],G #[48],G #[49],I 1]⟩
 | _=>⟨⟨#[107,101,108,118,105,110]⟩,⟨#[75]⟩,1,225,#[G #[107,101,108,118,105,110],G #[75],I 0,I 0,I 0,I 0,I 1,I 0,I 0,I 0,G #[49],G #[49],G #[48],G #[49],I 1]⟩
theorem told_sc:∀k,k<8→∀W,Tab W→Calls Tryz.prog 159 #[.agg #[.string (sct k).nm,.string (sct k).sy,I (sct k).tk,.func (.func (sct k).f) #[] #[]]] W fun r w'=>r=.returned (.agg (sct k).u)∧Bw W w'
 | 0,_,W,ht=>told_0 W ht
 | 1,_,W,ht=>told_1 W ht
 | 2,_,W,ht=>told_2 W ht
 | 3,_,W,ht=>told_3 W ht
 | 4,_,W,ht=>told_4 W ht
 | 5,_,W,ht=>told_5 W ht
 | 6,_,W,ht=>told_6 W ht
 | 7,_,W,ht=>told_7 W ht
 | n+8,h,_,_=>absurd h (by omega)
theorem size_sc:∀k,(sct k).u.size=15
 | 0=>rfl
 | 1=>rfl
 | 2=>rfl
 | 3=>rfl
 | 4=>rfl
 | 5=>rfl
 | 6=>rfl
 | _+7=>rfl
theorem ones_sc:∀k,(sct k).u.all (·.oneCell')=true
 | 0=>by kernel_rfl
 | 1=>by kernel_rfl
 | 2=>by kernel_rfl
 | 3=>by kernel_rfl
 | 4=>by kernel_rfl
 | 5=>by kernel_rfl
 | 6=>by kernel_rfl
 | _+7=>by kernel_rfl
structure R4 (W:World) (g k:Nat):Prop where
 c0:W.cell? ⟨g,k*4,none⟩=some (.string (sct k).nm)
 c1:W.cell? ⟨g,k*4+1,none⟩=some (.string (sct k).sy)
 c2:W.cell? ⟨g,k*4+2,none⟩=some (I (sct k).tk)
 c3:W.cell? ⟨g,k*4+3,none⟩=some (.func (.func (sct k).f) #[] #[])
theorem R4.later {W V:World} {B g k:Nat} (h:R4 W g k) (hb:Below B W V) (hg:g<B):R4 V g k :=
 ⟨(hb.cell (p:=⟨g,k*4,none⟩) hg).trans h.c0,(hb.cell (p:=⟨g,k*4+1,none⟩) hg).trans h.c1,(hb.cell (p:=⟨g,k*4+2,none⟩) hg).trans h.c2,(hb.cell (p:=⟨g,k*4+3,none⟩) hg).trans h.c3⟩
def zCe:Array Value:=#[G #[98,105,116],G #[98],I 3,.func (.func 218) #[] #[],G #[109,111,108,101],G #[109,111,108],I 1,.func (.func 219) #[] #[],G #[115,101,99,111,110,100],G #[115],I 1,.func (.func 220) #[] #[],G #[97,109,112,101,114,101],G #[65],I 1,.func (.func 221) #[] #[],G #[109,101,116,114,101],G #[109],I 1,.func (.func 222) #[] #[],G #[103,114,97,109],G #[103],I 1,.func (.func 223) #[] #[],G #[99,97,110,100,101,108,97],G #[99,100],I 1,.func (.func 224) #[] #[],G #[107,101,108,118,105,110],G #[75],I 1,.func (.func 225) #[] #[]]
theorem zEm (w:World):Calls Tryz.prog 157 #[] w fun r w'=>r=.returned (.slice (some ⟨w.heap.size,0,none⟩) 8 8)∧w'=w.alloc (.cells zCe 171):=by
 go_enter Tryz.func157,Tryz.ntmps157
 go_wp2
 go_ret
 exact⟨rfl,rfl⟩
theorem rows8_at (W:World):∀k,k<8→R4 (W.alloc (.cells zCe 171)) W.heap.size k
 | 0,_=>⟨(zAc.new W zCe 171).ub.c 0 _ rfl,(zAc.new W zCe 171).ub.c 1 _ rfl,(zAc.new W zCe 171).ub.c 2 _ rfl,(zAc.new W zCe 171).ub.c 3 _ rfl⟩
 | 1,_=>⟨(zAc.new W zCe 171).ub.c 4 _ rfl,(zAc.new W zCe 171).ub.c 5 _ rfl,(zAc.new W zCe 171).ub.c 6 _ rfl,(zAc.new W zCe 171).ub.c 7 _ rfl⟩
 | 2,_=>⟨(zAc.new W zCe 171).ub.c 8 _ rfl,(zAc.new W zCe 171).ub.c 9 _ rfl,(zAc.new W zCe 171).ub.c 10 _ rfl,(zAc.new W zCe 171).ub.c 11 _ rfl⟩
 | 3,_=>⟨(zAc.new W zCe 171).ub.c 12 _ rfl,(zAc.new W zCe 171).ub.c 13 _ rfl,(zAc.new W zCe 171).ub.c 14 _ rfl,(zAc.new W zCe 171).ub.c 15 _ rfl⟩
 | 4,_=>⟨(zAc.new W zCe 171).ub.c 16 _ rfl,(zAc.new W zCe 171).ub.c 17 _ rfl,(zAc.new W zCe 171).ub.c 18 _ rfl,(zAc.new W zCe 171).ub.c 19 _ rfl⟩
 | 5,_=>⟨(zAc.new W zCe 171).ub.c 20 _ rfl,(zAc.new W zCe 171).ub.c 21 _ rfl,(zAc.new W zCe 171).ub.c 22 _ rfl,(zAc.new W zCe 171).ub.c 23 _ rfl⟩
 | 6,_=>⟨(zAc.new W zCe 171).ub.c 24 _ rfl,(zAc.new W zCe 171).ub.c 25 _ rfl,(zAc.new W zCe 171).ub.c 26 _ rfl,(zAc.new W zCe 171).ub.c 27 _ rfl⟩
 | 7,_=>⟨(zAc.new W zCe 171).ub.c 28 _ rfl,(zAc.new W zCe 171).ub.c 29 _ rfl,(zAc.new W zCe 171).ub.c 30 _ rfl,(zAc.new W zCe 171).ub.c 31 _ rfl⟩
 | n+8,h=>absurd h (by omega)
def zGj (s nm sy:ByteArray):Bool:=nm.toList == s.toList || sy.toList == s.toList
theorem zEe (nm sy:ByteArray) (tk:Int) (fv:Value) (s:ByteArray) (b:Nat) (w:World) (hb:w.cell? ⟨b,0,none⟩=some (.string s)) (hlt:b<w.heap.size):Calls Tryz.prog 156 #[.agg #[.string nm,.string sy,I tk,fv],.pointer (some ⟨b,0,none⟩)] w fun r w'=>r=.returned (.bool (zGj s nm sy))∧Bw w w':=by
 unfold zGj;go_enter Tryz.func156,Tryz.ntmps156
 go_wp2_with fail
 all_goals
  go_ret
  refine⟨?_,bA⟩
  first|rfl|(simp[*];done)|(simp_all;done)
def scB (s:ByteArray) (k:Nat):Bool:=zGj s (sct k).nm (sct k).sy
def zBc (p:Nat→Bool) (j:Int):Prop:=(∃k:Nat,k<8∧j=(k:Int)∧p k=true∧∀i,i<k→p i=false)∨(j=-1∧∀i,i<8→p i=false)
theorem zEw {p:Nat→Bool} {k:Nat} (h:∀i,i<k→p i=false) (hk:p k=false):∀i,i<k+1→p i=false:=fun i hi=>by
 by_cases e:i=k
 ·rw[e];exact hk
 ·exact h i (by omega)
theorem zFz (s:ByteArray) (g cap b:Nat) (w:World) (hr:∀k,k<8→R4 w g k) (hg:g<w.heap.size) (hb:w.cell? ⟨b,0,none⟩=some (.string s)) (hlt:b<w.heap.size) :
 Calls Tryz.prog 158 #[.slice (some ⟨g,0,none⟩) 8 cap,.func (.func 156) #[] #[.pointer (some ⟨b,0,none⟩)]] w fun r w'=>∃j:Int,r=.returned (I j)∧zBc (scB s) j∧Bw w w':=by
 have HR:=zAb hr;have HBC:=zAb hb;clear hr hb;go_enter Tryz.func158,Tryz.ntmps158
 go_wp2_with fail
 go_loopw [8] (fun s8 wr=>∃(k:Nat),k≤8∧s8=I (k:Int)∧Hid (∀i,i<k→scB s i=false)∧Hid (Bw w wr)) (fun s8 _=>8 - (intOf s8).toNat)
 case atStart=>exact⟨0,by omega,rfl,fun i hi=>absurd hi (by omega),Below.refl _ _⟩
 case round=>
  obtain⟨k,hk,rfl,HN,HB⟩:=hrel
  by_cases hk4:k<8
  ·have hkI:(k:Int)<8:=by omega
   have hk0:(0:Int)≤(k:Int):=by omega
   have hrow:=(un HR k hk4).later (un HB) hg;have c0:=hrow.c0;have c1:=hrow.c1;have c2:=hrow.c2;have c3:=hrow.c3;clear hrow
   have HC:Hid (∀W,Below wr.heap.size wr W→Calls Tryz.prog 156 #[.agg #[.string (sct k).nm,.string (sct k).sy,I (sct k).tk,.func (.func (sct k).f) #[] #[]],.pointer (some ⟨b,0,none⟩)] W fun r w'=>r=.returned (.bool (scB s k))∧Bw W w'):=fun W hW=>
    zEe _ _ _ _ s b W ((bt HB hW).cell (p:=⟨b,0,none⟩) hlt |>.trans (un HBC)) (Nat.lt_of_lt_of_le hlt ((bt HB hW).size))
   have HNK:=zAb (fun (e:scB s k=false)=>zEw (un HN) e);have HYK:=zAb (fun (e:scB s k=true)=>(Or.inl ⟨k,hk4,rfl,e,un HN⟩:zBc (scB s) (k:Int)));generalize (sct k).nm=nm at *
   generalize (sct k).sy=sy at *
   generalize (sct k).tk=tk at *
   generalize (sct k).f=f at *
   by_cases hB:scB s k=true
   ·have HJ:=zAb (un HYK hB)
    rw[hB]at HC;clear HNK HYK hB
    go_wp2_with (go_at_call 156;go_must(refine(un HC _ (Below.refl _ _)).mono ?_;rintro e wt ⟨rfl,hbt⟩;have HBT:=zAb hbt;clear hbt))
    go_ret
    exact⟨_,rfl,un HJ,(un HB).trans ((un HBT).mono (un HB).size)⟩
   ·have hB':scB s k=false:=by simpa using hB
    have HJ:=zAb (un HNK hB');rw[hB']at HC;clear HNK HYK hB hB'
    go_wp2_with (go_at_call 156;go_must(refine(un HC _ (Below.refl _ _)).mono ?_;rintro e wt ⟨rfl,hbt⟩;have HBT:=zAb hbt;clear hbt))
    go_roundw
    case rel=>exact⟨k+1,by omega,by go_num,HJ,(un HB).trans ((un HBT).mono (un HB).size)⟩
    case measure=>simp[intOf];omega
  ·have hkI:¬(k:Int)<8:=by omega
   go_wp2_with fail
   go_ret
   exact⟨-1,rfl,Or.inr ⟨rfl,fun i hi=>un HN i (by omega)⟩,un HB⟩
theorem zCi {p:Nat→Bool} {i j:Int} (h1:zBc p i) (h2:zBc p j):i=j:=by
 rcases h1 with ⟨a,ha,rfl,pa,qa⟩|⟨rfl,na⟩<;>rcases h2 with ⟨c,hc,rfl,pc,qc⟩|⟨rfl,nc⟩
 ·rcases Nat.lt_trichotomy a c with h|h|h
  ·rw[qc a h]at pa;cases pa
  ·rw[h]
  ·rw[qa c h]at pc;cases pc
 ·rw[nc a ha]at pa;cases pa
 ·rw[na c hc]at pc;cases pc
 ·rfl
def FindV (p:Nat→Bool) (v:Value):Prop:=(∃k:Nat,k<8∧zBc p (k:Int)∧v=.tuple #[.agg (sct k).u,.bool true])∨(zBc p (-1)∧v=.tuple #[.agg #[G #[],G #[],I 0,I 0,I 0,I 0,I 0,I 0,I 0,I 0,G #[],G #[],G #[],G #[],I 0],.bool false])
theorem FindV.det {p:Nat→Bool} {v u:Value} (h1:FindV p v) (h2:FindV p u):v=u:=by
 rcases h1 with ⟨a,ha,fa,rfl⟩|⟨fa,rfl⟩<;>rcases h2 with ⟨c,hc,fc,rfl⟩|⟨fc,rfl⟩
 ·have:=zCi fa fc
  have e:a=c:=by omega
  rw[e]
 ·have:=zCi fa fc;omega
 ·have:=zCi fa fc;omega
 ·rfl
theorem find_any (s:ByteArray) (w:World) (htab:Tab w):Calls Tryz.prog 70 #[.string s] w fun r w'=>∃v,r=.returned v∧FindV (scB s) v∧Bw w w':=by
 obtain⟨V,hV⟩:∃V,V=(w.alloc (.cells #[.string s] 9)).alloc (.cells #[G #[],G #[],I 0,I 0,I 0,I 0,I 0,I 0,I 0,I 0,G #[],G #[],G #[],G #[],I 0] 30):=⟨_,rfl⟩;have HBX:Hid (V.cell? ⟨w.heap.size,0,none⟩=some (.string s)∧w.heap.size<V.heap.size):=by rw[hV];exact⟨by simp[go_sem],by simp;omega⟩
 have HR:Hid (zAc V (w.heap.size+1) 30 #[G #[],G #[],I 0,I 0,I 0,I 0,I 0,I 0,I 0,I 0,G #[],G #[],G #[],G #[],I 0]):=by rw[hV];have h:=zAc.new (w.alloc (.cells #[.string s] 9)) #[G #[],G #[],I 0,I 0,I 0,I 0,I 0,I 0,I 0,I 0,G #[],G #[],G #[],G #[],I 0] 30;rw[Dm.size_alloc]at h;exact h
 have HB:Hid (Bw w V):=by rw[hV];exact bA.alloc (by simp) _
 have HTA:Hid (∀W,Below w.heap.size w W→Tab W):=fun W h=>htab.later h
 have HV:=zAb hV;clear hV htab;go_enter Tryz.func70,Tryz.ntmps70
 go_upto_region 1 with fail
 rw[←un HV];clear HV
 go_upto_region 3 with (go_at_call 157;go_must(refine(zEm _).mono ?_;rintro e W0 ⟨rfl,rfl⟩))
 obtain⟨W1,hW1⟩:∃W1,W1=V.alloc (.cells zCe 171):=⟨_,rfl⟩;rw[←hW1];have HW:Hid (Bw V W1):=by rw[hW1];exact bA
 have HRW:Hid (∀k,k<8→R4 W1 V.heap.size k):=by rw[hW1];exact rows8_at V
 have HG:Hid (V.heap.size<W1.heap.size):=by rw[hW1];show _<_;simp
 clear hW1;have HBX1:Hid (W1.cell? ⟨w.heap.size,0,none⟩=some (.string s)∧w.heap.size<W1.heap.size):=⟨((un HW).cell (p:=⟨w.heap.size,0,none⟩) (un HBX).2).trans (un HBX).1,Nat.lt_trans (un HBX).2 (un HG)⟩;have HIX:=zAb (zFz s V.heap.size 8 w.heap.size W1 (un HRW) (un HG) (un HBX1).1 (un HBX1).2);have HR1:=zAb ((un HR).later (un HW));have HB1:=zAb ((un HB).trans ((un HW).mono (un HB).size));obtain⟨gR,hgR⟩:∃gR,gR=V.heap.size:=⟨_,rfl⟩;rw[←hgR]at HRW HG HIX ⊢;clear hgR HW HBX HBX1 HR HB
 go_upto_region 4 with (go_at_call 158;go_must(refine(un HIX).mono ?_;rintro e W2 ⟨j,rfl,hj,hb⟩;have HJ:=zAb hj;have HB2:=zAb (bt HB1 hb);have HR2:=zAb ((un HR1).later hb);have HRW2:=zAb (fun k hk=>(un HRW k hk).later hb (un HG));have HG2:=zAb (Nat.lt_of_lt_of_le (un HG) hb.size);clear hj hb))
 clear HIX HRW HG HR1 HB1;rcases un HJ with ⟨k,hk,rfl,hk1,hk2⟩|⟨rfl,hn⟩
 ·have hk0:(0:Int)≤(k:Int):=by omega
  have hkI:(k:Int)<8:=by omega
  have hkn:¬(k:Int)<0:=by omega
  have hrow:=un HRW2 k hk;have c0:=hrow.c0;have c1:=hrow.c1;have c2:=hrow.c2;have c3:=hrow.c3;have HTO:=zAb (told_sc k hk);have HOUT:Hid (FindV (scB s) (.tuple #[.agg (sct k).u,.bool true])):=Or.inl ⟨k,hk,Or.inl ⟨k,hk,rfl,hk1,hk2⟩,rfl⟩;have HSZ:=zAb (size_sc k);have HON:=zAb (ones_sc k);clear hrow hk1 hk2 HRW2 HJ;generalize (sct k).nm=nm at *
  generalize (sct k).sy=sy at *
  generalize (sct k).tk=tk at *
  generalize (sct k).f=f at *
  generalize (sct k).u=u at *
  go_wp2_with (first
   | (go_at_call 159;go_must(refine(un HTO _ (un HTA _ (un HB2))).mono ?_;rintro e W3 ⟨rfl,hb⟩;have HB3:=zAb (bt HB2 hb);have HR3:=zAb ((un HR2).later hb);clear hb c0 c1 c2 c3))
   | (refine zAn 30 15 zEd rfl (.tmp 2) (.tmp 19) rfl (w.heap.size+1) #[G #[],G #[],I 0,I 0,I 0,I 0,I 0,I 0,I 0,I 0,G #[],G #[],G #[],G #[],I 0] u rfl (un HSZ) rfl rfl (un HR3) (un HON) ?_))
  exact bodyPost_ret (v:=.tuple #[.agg u,.bool true]) (res27b Tryz.results70 _ _ (w.heap.size+1) _ (un HSZ) rfl ((un HR3).setRow _)) rfl ⟨_,rfl,un HOUT,below_setRow (un HB3) (by omega) _⟩
 ·have hn1:((-1:Int)<0):=by decide
  go_wp2_with (refine zAn 30 15 zEd rfl (.tmp 2) (.tmp 14) rfl (w.heap.size+1) #[G #[],G #[],I 0,I 0,I 0,I 0,I 0,I 0,I 0,I 0,G #[],G #[],G #[],G #[],I 0] #[G #[],G #[],I 0,I 0,I 0,I 0,I 0,I 0,I 0,I 0,G #[],G #[],G #[],G #[],I 0] rfl rfl rfl rfl (un HR2) (by kernel_rfl) ?_)
  exact bodyPost_ret (v:=.tuple #[.agg #[G #[],G #[],I 0,I 0,I 0,I 0,I 0,I 0,I 0,I 0,G #[],G #[],G #[],G #[],I 0],.bool false]) (res27b Tryz.results70 _ _ (w.heap.size+1) _ rfl rfl ((un HR2).setRow _)) rfl ⟨_,rfl,Or.inr ⟨Or.inr ⟨rfl,hn⟩,rfl⟩,below_setRow (un HB2) (by omega) _⟩
end Go.Proofs.YtliadckofhblnaaGreatDoor

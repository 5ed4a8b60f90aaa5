/- thousand (NOTYPE40): of the gram. -/
import Derived.Test.YtliadckofhblnaaGreatDoorLimb3
import Derived.Test.YtliadckofhblnaaGreatDoorFactor
import Derived.Test.YtliadckofhblnaaGreatDoorReads2
import Derived.Deep.Cut
import Derived.Test.YtliadckofhblnaaGreatDoorPower
set_option maxHeartbeats 16000000
set_option maxRecDepth 100000
namespace Go.Proofs.YtliadckofhblnaaGreatDoor
open Go.RowKit
theorem zBx (W:World) (O:Obj):Below W.heap.size W (W.alloc O):=(Below.refl _ _).alloc (Nat.le_refl _) O
structure JS (w W:World):Prop where
  m:zAc W w.heap.size 235 (J 1 0 0 0 0 0 0 0 1 1)
  g:zAc W (w.heap.size+1) 235 (J 0 1 0 0 0 0 0 0 1 1000)
  s:zAc W (w.heap.size+2) 235 (J 0 0 1 0 0 0 0 0 1 1)
  r:zAc W (w.heap.size+3) 235 (J 0 0 0 0 0 0 0 0 0 0)
  below:Below w.heap.size w W
theorem JS.later {w W V:World} (h:JS w W) (hb:Below W.heap.size W V):JS w V:=⟨h.m.later hb,h.g.later hb,h.s.later hb,h.r.later hb,h.below.trans (hb.mono h.below.size)⟩
theorem zAc.otherRow {W:World} {g k ty:Nat} {vs us:Array Value} (h:zAc W g ty vs) (hk:¬k=g):zAc (W.setRow k us) g ty vs:=by
  unfold zAc World.setRow at *
  simp only[Array.getElem?_modify,if_neg hk,h]
theorem JS.row {w W:World} {g:Nat} (h:JS w W) (hg:w.heap.size+3<g) (us:Array Value):JS w (W.setRow g us) :=
  ⟨h.m.otherRow (by omega),h.g.otherRow (by omega),h.s.otherRow (by omega),h.r.otherRow (by omega),below_setRow h.below (by omega) _⟩
theorem JS.first (w:World):JS w ((((w.alloc (.cells (J 1 0 0 0 0 0 0 0 1 1) 235)).alloc (.cells (J 0 1 0 0 0 0 0 0 1 1000) 235)).alloc (.cells (J 0 0 1 0 0 0 0 0 1 1) 235)).alloc (.cells (J 0 0 0 0 0 0 0 0 0 0) 235)) :=
  ⟨(((zAc.new w _ 235).alloc _).alloc _).alloc _,
   by have h:=((zAc.new (w.alloc (.cells (J 1 0 0 0 0 0 0 0 1 1) 235)) (J 0 1 0 0 0 0 0 0 1 1000) 235).alloc (.cells (J 0 0 1 0 0 0 0 0 1 1) 235)).alloc (.cells (J 0 0 0 0 0 0 0 0 0 0) 235);rw[Dm.size_alloc]at h;exact h,
   by have h:=(zAc.new ((w.alloc (.cells (J 1 0 0 0 0 0 0 0 1 1) 235)).alloc (.cells (J 0 1 0 0 0 0 0 0 1 1000) 235)) (J 0 0 1 0 0 0 0 0 1 1) 235).alloc (.cells (J 0 0 0 0 0 0 0 0 0 0) 235);rw[Dm.size_alloc,Dm.size_alloc]at h;exact h,
   by have h:=zAc.new (((w.alloc (.cells (J 1 0 0 0 0 0 0 0 1 1) 235)).alloc (.cells (J 0 1 0 0 0 0 0 0 1 1000) 235)).alloc (.cells (J 0 0 1 0 0 0 0 0 1 1) 235)) (J 0 0 0 0 0 0 0 0 0 0) 235;rw[Dm.size_alloc,Dm.size_alloc,Dm.size_alloc]at h;exact h,
   ((bA.alloc (by simp) _).alloc (by simp;omega) _).alloc (by simp;omega) _⟩
theorem joule_made (w:World):Calls Tryz.prog 264 #[.agg (J 1 0 0 0 0 0 0 0 1 1),.agg (J 0 1 0 0 0 0 0 0 1 1000),.agg (J 0 0 1 0 0 0 0 0 1 1)] w fun r w'=>r=.returned (.agg (J 2 1 (-2) 0 0 0 0 0 1000 1000))∧Bw w w':=by
  obtain⟨V,hV⟩:∃V,V=((((w.alloc (.cells (J 1 0 0 0 0 0 0 0 1 1) 235)).alloc (.cells (J 0 1 0 0 0 0 0 0 1 1000) 235)).alloc (.cells (J 0 0 1 0 0 0 0 0 1 1) 235)).alloc (.cells (J 0 0 0 0 0 0 0 0 0 0) 235)):=⟨_,rfl⟩;have HJ:Hid (JS w V):=by rw[hV];exact JS.first w
  have HV:=zAb hV;clear hV;have HSS:Hid (∀W',JS w W'→W'.cell? ⟨w.heap.size,0,none⟩=some (I 1)∧W'.cell? ⟨w.heap.size,1,none⟩=some (I 0)∧W'.cell? ⟨w.heap.size,2,none⟩=some (I 0)∧W'.cell? ⟨w.heap.size,3,none⟩=some (I 0)∧W'.cell? ⟨w.heap.size,4,none⟩=some (I 0)∧W'.cell? ⟨w.heap.size,5,none⟩=some (I 0)∧W'.cell? ⟨w.heap.size,6,none⟩=some (I 0)∧W'.cell? ⟨w.heap.size,7,none⟩=some (I 0)∧W'.cell? ⟨w.heap.size,8,none⟩=some (I 1)∧W'.cell? ⟨w.heap.size,9,none⟩=some (I 1)∧W'.cell? ⟨w.heap.size+1,0,none⟩=some (I 0)∧W'.cell? ⟨w.heap.size+1,1,none⟩=some (I 1)∧W'.cell? ⟨w.heap.size+1,2,none⟩=some (I 0)∧W'.cell? ⟨w.heap.size+1,3,none⟩=some (I 0)∧W'.cell? ⟨w.heap.size+1,4,none⟩=some (I 0)∧W'.cell? ⟨w.heap.size+1,5,none⟩=some (I 0)∧W'.cell? ⟨w.heap.size+1,6,none⟩=some (I 0)∧W'.cell? ⟨w.heap.size+1,7,none⟩=some (I 0)∧W'.cell? ⟨w.heap.size+1,8,none⟩=some (I 1)∧W'.cell? ⟨w.heap.size+1,9,none⟩=some (I 1000)∧W'.cell? ⟨w.heap.size+2,0,none⟩=some (I 0)∧W'.cell? ⟨w.heap.size+2,1,none⟩=some (I 0)∧W'.cell? ⟨w.heap.size+2,2,none⟩=some (I 1)∧W'.cell? ⟨w.heap.size+2,3,none⟩=some (I 0)∧W'.cell? ⟨w.heap.size+2,4,none⟩=some (I 0)∧W'.cell? ⟨w.heap.size+2,5,none⟩=some (I 0)∧W'.cell? ⟨w.heap.size+2,6,none⟩=some (I 0)∧W'.cell? ⟨w.heap.size+2,7,none⟩=some (I 0)∧W'.cell? ⟨w.heap.size+2,8,none⟩=some (I 1)∧W'.cell? ⟨w.heap.size+2,9,none⟩=some (I 1)):=fun W' h=>⟨h.m.ub.c 0 _ rfl,h.m.ub.c 1 _ rfl,h.m.ub.c 2 _ rfl,h.m.ub.c 3 _ rfl,h.m.ub.c 4 _ rfl,h.m.ub.c 5 _ rfl,h.m.ub.c 6 _ rfl,h.m.ub.c 7 _ rfl,h.m.ub.c 8 _ rfl,h.m.ub.c 9 _ rfl,h.g.ub.c 0 _ rfl,h.g.ub.c 1 _ rfl,h.g.ub.c 2 _ rfl,h.g.ub.c 3 _ rfl,h.g.ub.c 4 _ rfl,h.g.ub.c 5 _ rfl,h.g.ub.c 6 _ rfl,h.g.ub.c 7 _ rfl,h.g.ub.c 8 _ rfl,h.g.ub.c 9 _ rfl,h.s.ub.c 0 _ rfl,h.s.ub.c 1 _ rfl,h.s.ub.c 2 _ rfl,h.s.ub.c 3 _ rfl,h.s.ub.c 4 _ rfl,h.s.ub.c 5 _ rfl,h.s.ub.c 6 _ rfl,h.s.ub.c 7 _ rfl,h.s.ub.c 8 _ rfl,h.s.ub.c 9 _ rfl⟩
  go_enter Tryz.func264,Tryz.ntmps264
  go_upto_region 1 with fail
  rw[←un HV];clear HV;go_cut [7]from 8 (fun s9 wx=>∃g,s9=.pointer (some ⟨g,0,none⟩)∧Hid (zAc wx g 235 (J 1 1 (-2) 0 0 0 0 0 1000 1000))∧Hid (JS w wx))
  case first=>
    have HJ0:=zAb ((un HJ).later ((Below.refl _ _).drew));have HS0:=zAb (un HSS _ (un HJ0));refine zAi 10 (fun W'=>W'.cell? ⟨w.heap.size,0,none⟩=some (I 1)∧W'.cell? ⟨w.heap.size,1,none⟩=some (I 0)∧W'.cell? ⟨w.heap.size,2,none⟩=some (I 0)∧W'.cell? ⟨w.heap.size,3,none⟩=some (I 0)∧W'.cell? ⟨w.heap.size,4,none⟩=some (I 0)∧W'.cell? ⟨w.heap.size,5,none⟩=some (I 0)∧W'.cell? ⟨w.heap.size,6,none⟩=some (I 0)∧W'.cell? ⟨w.heap.size,7,none⟩=some (I 0)∧W'.cell? ⟨w.heap.size,8,none⟩=some (I 1)∧W'.cell? ⟨w.heap.size,9,none⟩=some (I 1)∧W'.cell? ⟨w.heap.size+1,0,none⟩=some (I 0)∧W'.cell? ⟨w.heap.size+1,1,none⟩=some (I 1)∧W'.cell? ⟨w.heap.size+1,2,none⟩=some (I 0)∧W'.cell? ⟨w.heap.size+1,3,none⟩=some (I 0)∧W'.cell? ⟨w.heap.size+1,4,none⟩=some (I 0)∧W'.cell? ⟨w.heap.size+1,5,none⟩=some (I 0)∧W'.cell? ⟨w.heap.size+1,6,none⟩=some (I 0)∧W'.cell? ⟨w.heap.size+1,7,none⟩=some (I 0)∧W'.cell? ⟨w.heap.size+1,8,none⟩=some (I 1)∧W'.cell? ⟨w.heap.size+1,9,none⟩=some (I 1000)∧W'.cell? ⟨w.heap.size+2,0,none⟩=some (I 0)∧W'.cell? ⟨w.heap.size+2,1,none⟩=some (I 0)∧W'.cell? ⟨w.heap.size+2,2,none⟩=some (I 1)∧W'.cell? ⟨w.heap.size+2,3,none⟩=some (I 0)∧W'.cell? ⟨w.heap.size+2,4,none⟩=some (I 0)∧W'.cell? ⟨w.heap.size+2,5,none⟩=some (I 0)∧W'.cell? ⟨w.heap.size+2,6,none⟩=some (I 0)∧W'.cell? ⟨w.heap.size+2,7,none⟩=some (I 0)∧W'.cell? ⟨w.heap.size+2,8,none⟩=some (I 1)∧W'.cell? ⟨w.heap.size+2,9,none⟩=some (I 1)) (fun _=>True) 11 rfl (by kernel_rfl) ?_;refine wT 1 (.agg (J 0 1 0 0 0 0 0 0 1 1000)) rfl (Or.inl ⟨by rfl,?_⟩) ⟨un HS0,trivial⟩ ?_
    · intro W' hW
      go_split_ands
      go_simp
    refine wT 3 (.agg (J 1 0 0 0 0 0 0 0 1 1)) rfl (Or.inl ⟨by rfl,?_⟩) ⟨un HS0,trivial⟩ ?_
    · intro W' hW
      go_split_ands
      go_simp
    refine wT 5 (.agg (J 0 0 1 0 0 0 0 0 1 1)) rfl (Or.inl ⟨by rfl,?_⟩) ⟨un HS0,trivial⟩ ?_
    · intro W' hW
      go_split_ands
      go_simp
    refine wT 7 (.agg (J 0 0 1 0 0 0 0 0 1 1)) rfl (Or.inl ⟨by rfl,?_⟩) ⟨un HS0,trivial⟩ ?_
    · intro W' hW
      go_split_ands
      go_simp
    clear HS0 HJ;generalize V.drew=W0 at *
    refine zBn (i:=0) (j:=9) (by kernel_rfl) rfl rfl rfl rfl (fun K hK=>?_) (fun K hK=>?_)
    · skip
      go_simp
      refine(zEv 1000 _).mono ?_;rintro e W1 ⟨rfl,hb⟩;have HJ1:=zAb ((un HJ0).later hb);clear hb;refine hK _ _ ⟨un HSS _ (un HJ1),trivial⟩ ?_;clear hK K;refine zBn (i:=2) (j:=9) (by kernel_rfl) rfl rfl rfl rfl (fun K hK=>?_) (fun K hK=>?_)
      · skip
        go_simp
        refine(zDf 0 0 0 0 0 0 0 0 1000 1 0 1 0 0 0 0 0 0 1 1000 0 1 0 0 0 0 0 0 1000 1000 _ (by decide +kernel) (by decide +kernel) (by decide +kernel)).mono ?_;rintro e W2 ⟨rfl,hb⟩;have HJ2:=zAb ((un HJ1).later hb);clear hb;refine hK _ _ ⟨un HSS _ (un HJ2),trivial⟩ ?_;clear hK K;refine zBn (i:=4) (j:=9) (by kernel_rfl) rfl rfl rfl rfl (fun K hK=>?_) (fun K hK=>?_)
        · skip
          go_simp
          refine(zDf 0 1 0 0 0 0 0 0 1000 1000 1 0 0 0 0 0 0 0 1 1 1 1 0 0 0 0 0 0 1000 1000 _ (by decide +kernel) (by decide +kernel) (by decide +kernel)).mono ?_;rintro e W3 ⟨rfl,hb⟩;have HJ3:=zAb ((un HJ2).later hb);clear hb;refine hK _ _ ⟨un HSS _ (un HJ3),trivial⟩ ?_;clear hK K;refine zBn (i:=6) (j:=9) (by kernel_rfl) rfl rfl rfl rfl (fun K hK=>?_) (fun K hK=>?_)
          · skip
            go_simp
            refine(zFm 1 1 0 0 0 0 0 0 1000 1000 0 0 1 0 0 0 0 0 1 1 1 1 (-1) 0 0 0 0 0 1000 1000 _ (by decide +kernel) (by decide +kernel) (by decide +kernel)).mono ?_;rintro e W4 ⟨rfl,hb⟩;have HJ4:=zAb ((un HJ3).later hb);clear hb;refine hK _ _ ⟨un HSS _ (un HJ4),trivial⟩ ?_;clear hK K;refine zBn (i:=8) (j:=9) (by kernel_rfl) rfl rfl rfl rfl (fun K hK=>?_) (fun K hK=>?_)
            · skip
              go_simp
              refine(zFm 1 1 (-1) 0 0 0 0 0 1000 1000 0 0 1 0 0 0 0 0 1 1 1 1 (-2) 0 0 0 0 0 1000 1000 _ (by decide +kernel) (by decide +kernel) (by decide +kernel)).mono ?_;rintro e W5 ⟨rfl,hb⟩;have HJ5:=zAb ((un HJ4).later hb);clear hb;refine hK _ _ ⟨un HSS _ (un HJ5),trivial⟩ ?_;clear hK K;refine wO 9 rfl rfl (fun K hK=>?_)
              go_simp
              have hb:=zBx W5 (.cells (J 0 0 0 0 0 0 0 0 0 0) 235);have HJ6:=zAb ((un HJ5).later hb);refine hK _ _ ⟨un HSS _ (un HJ6),trivial⟩ ?_;clear hK K hb;have HZ6:Hid (zAc (W5.alloc (.cells (J 0 0 0 0 0 0 0 0 0 0) 235)) W5.heap.size 235 (J 0 0 0 0 0 0 0 0 0 0)):=zAc.new _ _ _;have HL:Hid (w.heap.size+3<W5.heap.size):=(un HJ5).r.lt;obtain⟨W6,hW6⟩:∃W6,W6=W5.alloc (.cells (J 0 0 0 0 0 0 0 0 0 0) 235):=⟨_,rfl⟩;obtain⟨g7,hg7⟩:∃g7,g7=W5.heap.size:=⟨_,rfl⟩;rw[←hW6]at HJ6 HZ6 ⊢;rw[←hg7]at HZ6 HL ⊢;clear hW6 hg7;refine wL 10 rfl rfl (fun K hK=>?_);refine wp_store_row 235 (.tmp 7) (.tmp 16) rfl g7 (J 1 1 (-2) 0 0 0 0 0 1000 1000) rfl rfl 235 _ (un HZ6) (by rw[zCv];rfl) rfl (by kernel_rfl) (hK _ _ trivial ?_);clear hK K;refine wDn ?_;have HN:=zAb ((un HZ6).setRow (J 1 1 (-2) 0 0 0 0 0 1000 1000));have HJN:Hid (JS w (W6.setRow g7 (J 1 1 (-2) 0 0 0 0 0 1000 1000))):=(un HJ6).row (un HL) _;generalize W6.setRow g7 (J 1 1 (-2) 0 0 0 0 0 1000 1000)=U at HN HJN ⊢
              go_wp2_with fail
              go_meet
              exact⟨g7,rfl,un HN,un HJN⟩
            · skip
              go_simp
              have hb:=zBx W4 (.cells (J 0 0 0 0 0 0 0 0 0 0) 235);have HJ5:=zAb ((un HJ4).later hb);refine hK _ _ ⟨un HSS _ (un HJ5),trivial⟩ ?_;clear hK K hb;have HZ5:Hid (zAc (W4.alloc (.cells (J 0 0 0 0 0 0 0 0 0 0) 235)) W4.heap.size 235 (J 0 0 0 0 0 0 0 0 0 0)):=zAc.new _ _ _;have HL:Hid (w.heap.size+3<W4.heap.size):=(un HJ4).r.lt;obtain⟨W5,hW5⟩:∃W5,W5=W4.alloc (.cells (J 0 0 0 0 0 0 0 0 0 0) 235):=⟨_,rfl⟩;obtain⟨g7,hg7⟩:∃g7,g7=W4.heap.size:=⟨_,rfl⟩;rw[←hW5]at HJ5 HZ5 ⊢;rw[←hg7]at HZ5 HL ⊢;clear hW5 hg7;refine wO 8 rfl rfl (fun K hK=>?_)
              go_simp
              refine(zFm 1 1 (-1) 0 0 0 0 0 1000 1000 0 0 1 0 0 0 0 0 1 1 1 1 (-2) 0 0 0 0 0 1000 1000 _ (by decide +kernel) (by decide +kernel) (by decide +kernel)).mono ?_;rintro e W6 ⟨rfl,hb⟩;have HJ6:=zAb ((un HJ5).later hb);have HZ6:=zAb ((un HZ5).later hb);clear hb;refine hK _ _ ⟨un HSS _ (un HJ6),trivial⟩ ?_;clear hK K;refine wL 10 rfl rfl (fun K hK=>?_);refine wp_store_row 235 (.tmp 7) (.tmp 16) rfl g7 (J 1 1 (-2) 0 0 0 0 0 1000 1000) rfl rfl 235 _ (un HZ6) (by rw[zCv];rfl) rfl (by kernel_rfl) (hK _ _ trivial ?_);clear hK K;refine wDn ?_;have HN:=zAb ((un HZ6).setRow (J 1 1 (-2) 0 0 0 0 0 1000 1000));have HJN:Hid (JS w (W6.setRow g7 (J 1 1 (-2) 0 0 0 0 0 1000 1000))):=(un HJ6).row (un HL) _;generalize W6.setRow g7 (J 1 1 (-2) 0 0 0 0 0 1000 1000)=U at HN HJN ⊢
              go_wp2_with fail
              go_meet
              exact⟨g7,rfl,un HN,un HJN⟩
          · skip
            go_simp
            have hb:=zBx W3 (.cells (J 0 0 0 0 0 0 0 0 0 0) 235);have HJ4:=zAb ((un HJ3).later hb);refine hK _ _ ⟨un HSS _ (un HJ4),trivial⟩ ?_;clear hK K hb;have HZ4:Hid (zAc (W3.alloc (.cells (J 0 0 0 0 0 0 0 0 0 0) 235)) W3.heap.size 235 (J 0 0 0 0 0 0 0 0 0 0)):=zAc.new _ _ _;have HL:Hid (w.heap.size+3<W3.heap.size):=(un HJ3).r.lt;obtain⟨W4,hW4⟩:∃W4,W4=W3.alloc (.cells (J 0 0 0 0 0 0 0 0 0 0) 235):=⟨_,rfl⟩;obtain⟨g7,hg7⟩:∃g7,g7=W3.heap.size:=⟨_,rfl⟩;rw[←hW4]at HJ4 HZ4 ⊢;rw[←hg7]at HZ4 HL ⊢;clear hW4 hg7;refine wO 6 rfl rfl (fun K hK=>?_)
            go_simp
            refine(zFm 1 1 0 0 0 0 0 0 1000 1000 0 0 1 0 0 0 0 0 1 1 1 1 (-1) 0 0 0 0 0 1000 1000 _ (by decide +kernel) (by decide +kernel) (by decide +kernel)).mono ?_;rintro e W5 ⟨rfl,hb⟩;have HJ5:=zAb ((un HJ4).later hb);have HZ5:=zAb ((un HZ4).later hb);clear hb;refine hK _ _ ⟨un HSS _ (un HJ5),trivial⟩ ?_;clear hK K;refine wO 8 rfl rfl (fun K hK=>?_)
            go_simp
            refine(zFm 1 1 (-1) 0 0 0 0 0 1000 1000 0 0 1 0 0 0 0 0 1 1 1 1 (-2) 0 0 0 0 0 1000 1000 _ (by decide +kernel) (by decide +kernel) (by decide +kernel)).mono ?_;rintro e W6 ⟨rfl,hb⟩;have HJ6:=zAb ((un HJ5).later hb);have HZ6:=zAb ((un HZ5).later hb);clear hb;refine hK _ _ ⟨un HSS _ (un HJ6),trivial⟩ ?_;clear hK K;refine wL 10 rfl rfl (fun K hK=>?_);refine wp_store_row 235 (.tmp 7) (.tmp 16) rfl g7 (J 1 1 (-2) 0 0 0 0 0 1000 1000) rfl rfl 235 _ (un HZ6) (by rw[zCv];rfl) rfl (by kernel_rfl) (hK _ _ trivial ?_);clear hK K;refine wDn ?_;have HN:=zAb ((un HZ6).setRow (J 1 1 (-2) 0 0 0 0 0 1000 1000));have HJN:Hid (JS w (W6.setRow g7 (J 1 1 (-2) 0 0 0 0 0 1000 1000))):=(un HJ6).row (un HL) _;generalize W6.setRow g7 (J 1 1 (-2) 0 0 0 0 0 1000 1000)=U at HN HJN ⊢
            go_wp2_with fail
            go_meet
            exact⟨g7,rfl,un HN,un HJN⟩
        · skip
          go_simp
          have hb:=zBx W2 (.cells (J 0 0 0 0 0 0 0 0 0 0) 235);have HJ3:=zAb ((un HJ2).later hb);refine hK _ _ ⟨un HSS _ (un HJ3),trivial⟩ ?_;clear hK K hb;have HZ3:Hid (zAc (W2.alloc (.cells (J 0 0 0 0 0 0 0 0 0 0) 235)) W2.heap.size 235 (J 0 0 0 0 0 0 0 0 0 0)):=zAc.new _ _ _;have HL:Hid (w.heap.size+3<W2.heap.size):=(un HJ2).r.lt;obtain⟨W3,hW3⟩:∃W3,W3=W2.alloc (.cells (J 0 0 0 0 0 0 0 0 0 0) 235):=⟨_,rfl⟩;obtain⟨g7,hg7⟩:∃g7,g7=W2.heap.size:=⟨_,rfl⟩;rw[←hW3]at HJ3 HZ3 ⊢;rw[←hg7]at HZ3 HL ⊢;clear hW3 hg7;refine wO 4 rfl rfl (fun K hK=>?_)
          go_simp
          refine(zDf 0 1 0 0 0 0 0 0 1000 1000 1 0 0 0 0 0 0 0 1 1 1 1 0 0 0 0 0 0 1000 1000 _ (by decide +kernel) (by decide +kernel) (by decide +kernel)).mono ?_;rintro e W4 ⟨rfl,hb⟩;have HJ4:=zAb ((un HJ3).later hb);have HZ4:=zAb ((un HZ3).later hb);clear hb;refine hK _ _ ⟨un HSS _ (un HJ4),trivial⟩ ?_;clear hK K;refine wO 6 rfl rfl (fun K hK=>?_)
          go_simp
          refine(zFm 1 1 0 0 0 0 0 0 1000 1000 0 0 1 0 0 0 0 0 1 1 1 1 (-1) 0 0 0 0 0 1000 1000 _ (by decide +kernel) (by decide +kernel) (by decide +kernel)).mono ?_;rintro e W5 ⟨rfl,hb⟩;have HJ5:=zAb ((un HJ4).later hb);have HZ5:=zAb ((un HZ4).later hb);clear hb;refine hK _ _ ⟨un HSS _ (un HJ5),trivial⟩ ?_;clear hK K;refine wO 8 rfl rfl (fun K hK=>?_)
          go_simp
          refine(zFm 1 1 (-1) 0 0 0 0 0 1000 1000 0 0 1 0 0 0 0 0 1 1 1 1 (-2) 0 0 0 0 0 1000 1000 _ (by decide +kernel) (by decide +kernel) (by decide +kernel)).mono ?_;rintro e W6 ⟨rfl,hb⟩;have HJ6:=zAb ((un HJ5).later hb);have HZ6:=zAb ((un HZ5).later hb);clear hb;refine hK _ _ ⟨un HSS _ (un HJ6),trivial⟩ ?_;clear hK K;refine wL 10 rfl rfl (fun K hK=>?_);refine wp_store_row 235 (.tmp 7) (.tmp 16) rfl g7 (J 1 1 (-2) 0 0 0 0 0 1000 1000) rfl rfl 235 _ (un HZ6) (by rw[zCv];rfl) rfl (by kernel_rfl) (hK _ _ trivial ?_);clear hK K;refine wDn ?_;have HN:=zAb ((un HZ6).setRow (J 1 1 (-2) 0 0 0 0 0 1000 1000));have HJN:Hid (JS w (W6.setRow g7 (J 1 1 (-2) 0 0 0 0 0 1000 1000))):=(un HJ6).row (un HL) _;generalize W6.setRow g7 (J 1 1 (-2) 0 0 0 0 0 1000 1000)=U at HN HJN ⊢
          go_wp2_with fail
          go_meet
          exact⟨g7,rfl,un HN,un HJN⟩
      · skip
        go_simp
        have hb:=zBx W1 (.cells (J 0 0 0 0 0 0 0 0 0 0) 235);have HJ2:=zAb ((un HJ1).later hb);refine hK _ _ ⟨un HSS _ (un HJ2),trivial⟩ ?_;clear hK K hb;have HZ2:Hid (zAc (W1.alloc (.cells (J 0 0 0 0 0 0 0 0 0 0) 235)) W1.heap.size 235 (J 0 0 0 0 0 0 0 0 0 0)):=zAc.new _ _ _;have HL:Hid (w.heap.size+3<W1.heap.size):=(un HJ1).r.lt;obtain⟨W2,hW2⟩:∃W2,W2=W1.alloc (.cells (J 0 0 0 0 0 0 0 0 0 0) 235):=⟨_,rfl⟩;obtain⟨g7,hg7⟩:∃g7,g7=W1.heap.size:=⟨_,rfl⟩;rw[←hW2]at HJ2 HZ2 ⊢;rw[←hg7]at HZ2 HL ⊢;clear hW2 hg7;refine wO 2 rfl rfl (fun K hK=>?_)
        go_simp
        refine(zDf 0 0 0 0 0 0 0 0 1000 1 0 1 0 0 0 0 0 0 1 1000 0 1 0 0 0 0 0 0 1000 1000 _ (by decide +kernel) (by decide +kernel) (by decide +kernel)).mono ?_;rintro e W3 ⟨rfl,hb⟩;have HJ3:=zAb ((un HJ2).later hb);have HZ3:=zAb ((un HZ2).later hb);clear hb;refine hK _ _ ⟨un HSS _ (un HJ3),trivial⟩ ?_;clear hK K;refine wO 4 rfl rfl (fun K hK=>?_)
        go_simp
        refine(zDf 0 1 0 0 0 0 0 0 1000 1000 1 0 0 0 0 0 0 0 1 1 1 1 0 0 0 0 0 0 1000 1000 _ (by decide +kernel) (by decide +kernel) (by decide +kernel)).mono ?_;rintro e W4 ⟨rfl,hb⟩;have HJ4:=zAb ((un HJ3).later hb);have HZ4:=zAb ((un HZ3).later hb);clear hb;refine hK _ _ ⟨un HSS _ (un HJ4),trivial⟩ ?_;clear hK K;refine wO 6 rfl rfl (fun K hK=>?_)
        go_simp
        refine(zFm 1 1 0 0 0 0 0 0 1000 1000 0 0 1 0 0 0 0 0 1 1 1 1 (-1) 0 0 0 0 0 1000 1000 _ (by decide +kernel) (by decide +kernel) (by decide +kernel)).mono ?_;rintro e W5 ⟨rfl,hb⟩;have HJ5:=zAb ((un HJ4).later hb);have HZ5:=zAb ((un HZ4).later hb);clear hb;refine hK _ _ ⟨un HSS _ (un HJ5),trivial⟩ ?_;clear hK K;refine wO 8 rfl rfl (fun K hK=>?_)
        go_simp
        refine(zFm 1 1 (-1) 0 0 0 0 0 1000 1000 0 0 1 0 0 0 0 0 1 1 1 1 (-2) 0 0 0 0 0 1000 1000 _ (by decide +kernel) (by decide +kernel) (by decide +kernel)).mono ?_;rintro e W6 ⟨rfl,hb⟩;have HJ6:=zAb ((un HJ5).later hb);have HZ6:=zAb ((un HZ5).later hb);clear hb;refine hK _ _ ⟨un HSS _ (un HJ6),trivial⟩ ?_;clear hK K;refine wL 10 rfl rfl (fun K hK=>?_);refine wp_store_row 235 (.tmp 7) (.tmp 16) rfl g7 (J 1 1 (-2) 0 0 0 0 0 1000 1000) rfl rfl 235 _ (un HZ6) (by rw[zCv];rfl) rfl (by kernel_rfl) (hK _ _ trivial ?_);clear hK K;refine wDn ?_;have HN:=zAb ((un HZ6).setRow (J 1 1 (-2) 0 0 0 0 0 1000 1000));have HJN:Hid (JS w (W6.setRow g7 (J 1 1 (-2) 0 0 0 0 0 1000 1000))):=(un HJ6).row (un HL) _;generalize W6.setRow g7 (J 1 1 (-2) 0 0 0 0 0 1000 1000)=U at HN HJN ⊢
        go_wp2_with fail
        go_meet
        exact⟨g7,rfl,un HN,un HJN⟩
    · skip
      go_simp
      have hb:=zBx W0 (.cells (J 0 0 0 0 0 0 0 0 0 0) 235);have HJ1:=zAb ((un HJ0).later hb);refine hK _ _ ⟨un HSS _ (un HJ1),trivial⟩ ?_;clear hK K hb;have HZ1:Hid (zAc (W0.alloc (.cells (J 0 0 0 0 0 0 0 0 0 0) 235)) W0.heap.size 235 (J 0 0 0 0 0 0 0 0 0 0)):=zAc.new _ _ _;have HL:Hid (w.heap.size+3<W0.heap.size):=(un HJ0).r.lt;obtain⟨W1,hW1⟩:∃W1,W1=W0.alloc (.cells (J 0 0 0 0 0 0 0 0 0 0) 235):=⟨_,rfl⟩;obtain⟨g7,hg7⟩:∃g7,g7=W0.heap.size:=⟨_,rfl⟩;rw[←hW1]at HJ1 HZ1 ⊢;rw[←hg7]at HZ1 HL ⊢;clear hW1 hg7;refine wO 0 rfl rfl (fun K hK=>?_)
      go_simp
      refine(zEv 1000 _).mono ?_;rintro e W2 ⟨rfl,hb⟩;have HJ2:=zAb ((un HJ1).later hb);have HZ2:=zAb ((un HZ1).later hb);clear hb;refine hK _ _ ⟨un HSS _ (un HJ2),trivial⟩ ?_;clear hK K;refine wO 2 rfl rfl (fun K hK=>?_)
      go_simp
      refine(zDf 0 0 0 0 0 0 0 0 1000 1 0 1 0 0 0 0 0 0 1 1000 0 1 0 0 0 0 0 0 1000 1000 _ (by decide +kernel) (by decide +kernel) (by decide +kernel)).mono ?_;rintro e W3 ⟨rfl,hb⟩;have HJ3:=zAb ((un HJ2).later hb);have HZ3:=zAb ((un HZ2).later hb);clear hb;refine hK _ _ ⟨un HSS _ (un HJ3),trivial⟩ ?_;clear hK K;refine wO 4 rfl rfl (fun K hK=>?_)
      go_simp
      refine(zDf 0 1 0 0 0 0 0 0 1000 1000 1 0 0 0 0 0 0 0 1 1 1 1 0 0 0 0 0 0 1000 1000 _ (by decide +kernel) (by decide +kernel) (by decide +kernel)).mono ?_;rintro e W4 ⟨rfl,hb⟩;have HJ4:=zAb ((un HJ3).later hb);have HZ4:=zAb ((un HZ3).later hb);clear hb;refine hK _ _ ⟨un HSS _ (un HJ4),trivial⟩ ?_;clear hK K;refine wO 6 rfl rfl (fun K hK=>?_)
      go_simp
      refine(zFm 1 1 0 0 0 0 0 0 1000 1000 0 0 1 0 0 0 0 0 1 1 1 1 (-1) 0 0 0 0 0 1000 1000 _ (by decide +kernel) (by decide +kernel) (by decide +kernel)).mono ?_;rintro e W5 ⟨rfl,hb⟩;have HJ5:=zAb ((un HJ4).later hb);have HZ5:=zAb ((un HZ4).later hb);clear hb;refine hK _ _ ⟨un HSS _ (un HJ5),trivial⟩ ?_;clear hK K;refine wO 8 rfl rfl (fun K hK=>?_)
      go_simp
      refine(zFm 1 1 (-1) 0 0 0 0 0 1000 1000 0 0 1 0 0 0 0 0 1 1 1 1 (-2) 0 0 0 0 0 1000 1000 _ (by decide +kernel) (by decide +kernel) (by decide +kernel)).mono ?_;rintro e W6 ⟨rfl,hb⟩;have HJ6:=zAb ((un HJ5).later hb);have HZ6:=zAb ((un HZ5).later hb);clear hb;refine hK _ _ ⟨un HSS _ (un HJ6),trivial⟩ ?_;clear hK K;refine wL 10 rfl rfl (fun K hK=>?_);refine wp_store_row 235 (.tmp 7) (.tmp 16) rfl g7 (J 1 1 (-2) 0 0 0 0 0 1000 1000) rfl rfl 235 _ (un HZ6) (by rw[zCv];rfl) rfl (by kernel_rfl) (hK _ _ trivial ?_);clear hK K;refine wDn ?_;have HN:=zAb ((un HZ6).setRow (J 1 1 (-2) 0 0 0 0 0 1000 1000));have HJN:Hid (JS w (W6.setRow g7 (J 1 1 (-2) 0 0 0 0 0 1000 1000))):=(un HJ6).row (un HL) _;generalize W6.setRow g7 (J 1 1 (-2) 0 0 0 0 0 1000 1000)=U at HN HJN ⊢
      go_wp2_with fail
      go_meet
      exact⟨g7,rfl,un HN,un HJN⟩
  case rest=>
    obtain⟨g7,rfl,HN,HJ1⟩:=hcut;generalize wc=U at HN HJ1 ⊢
    clear HJ HSS;have m0:U.cell? ⟨w.heap.size,0,none⟩=some (I 1):=(un HJ1).m.ub.c 0 _ rfl;have m1:U.cell? ⟨w.heap.size,1,none⟩=some (I 0):=(un HJ1).m.ub.c 1 _ rfl;have m2:U.cell? ⟨w.heap.size,2,none⟩=some (I 0):=(un HJ1).m.ub.c 2 _ rfl;have m3:U.cell? ⟨w.heap.size,3,none⟩=some (I 0):=(un HJ1).m.ub.c 3 _ rfl;have m4:U.cell? ⟨w.heap.size,4,none⟩=some (I 0):=(un HJ1).m.ub.c 4 _ rfl;have m5:U.cell? ⟨w.heap.size,5,none⟩=some (I 0):=(un HJ1).m.ub.c 5 _ rfl;have m6:U.cell? ⟨w.heap.size,6,none⟩=some (I 0):=(un HJ1).m.ub.c 6 _ rfl;have m7:U.cell? ⟨w.heap.size,7,none⟩=some (I 0):=(un HJ1).m.ub.c 7 _ rfl;have m8:U.cell? ⟨w.heap.size,8,none⟩=some (I 1):=(un HJ1).m.ub.c 8 _ rfl;have m9:U.cell? ⟨w.heap.size,9,none⟩=some (I 1):=(un HJ1).m.ub.c 9 _ rfl;have n0:U.cell? ⟨g7,0,none⟩=some (I 1):=(un HN).ub.c 0 _ rfl;have n1:U.cell? ⟨g7,1,none⟩=some (I 1):=(un HN).ub.c 1 _ rfl;have n2:U.cell? ⟨g7,2,none⟩=some (I (-2)):=(un HN).ub.c 2 _ rfl;have n3:U.cell? ⟨g7,3,none⟩=some (I 0):=(un HN).ub.c 3 _ rfl;have n4:U.cell? ⟨g7,4,none⟩=some (I 0):=(un HN).ub.c 4 _ rfl;have n5:U.cell? ⟨g7,5,none⟩=some (I 0):=(un HN).ub.c 5 _ rfl;have n6:U.cell? ⟨g7,6,none⟩=some (I 0):=(un HN).ub.c 6 _ rfl;have n7:U.cell? ⟨g7,7,none⟩=some (I 0):=(un HN).ub.c 7 _ rfl;have n8:U.cell? ⟨g7,8,none⟩=some (I 1000):=(un HN).ub.c 8 _ rfl;have n9:U.cell? ⟨g7,9,none⟩=some (I 1000):=(un HN).ub.c 9 _ rfl
    go_wp2_with fail
    refine(zDf 1 1 (-2) 0 0 0 0 0 1000 1000 1 0 0 0 0 0 0 0 1 1 2 1 (-2) 0 0 0 0 0 1000 1000 _ (by decide +kernel) (by decide +kernel) (by decide +kernel)).mono ?_;rintro e W ⟨rfl,hb⟩;have HJ2:=zAb ((un HJ1).later hb);clear hb HJ1
    go_wp2_with (refine zAn 235 10 zCv rfl (.tmp 6) (.tmp 19) rfl (w.heap.size+3) (J 0 0 0 0 0 0 0 0 0 0) (J 2 1 (-2) 0 0 0 0 0 1000 1000) rfl rfl rfl rfl (un HJ2).r (by kernel_rfl) ?_)
    exact bodyPost_ret (v:=.agg (J 2 1 (-2) 0 0 0 0 0 1000 1000)) (res43 Tryz.results264 _ _ (w.heap.size+3) _ rfl rfl ((un HJ2).r.setRow _)) rfl ⟨rfl,below_setRow (un HJ2).below (by omega) _⟩
abbrev z15:Array Value:=#[G #[],G #[],I 0,I 0,I 0,I 0,I 0,I 0,I 0,I 0,G #[],G #[],G #[],G #[],I 0]
theorem err_of {s t:ByteArray} {x:Rat} (h:IsR s t x):zHa x=0:=by
 unfold zHa;rw[if_pos h.1]
theorem zFb {f:Nat} {args:Array Value} {w:World} {x y:Rat} {s t:ByteArray} (h:Ans f args w (zEp x) (zEr x) (zHa x)) (e:x=y) (hy:IsR s t y):Ans f args w s t 0:=by
 subst e;rw[←hy.2.1,←hy.2.2,err_of hy]at h;exact h
theorem isR_kilo:IsR ⟨#[49,48,48,48]⟩ ⟨#[49]⟩ 1000:=zBf _ _ 1000 1 _ (by decide +kernel) (by decide +kernel) (by decide +kernel) (by decide) (by decide) (by decide) (by decide) (by decide) (by decide)
theorem mul_kilo (w:World) (htab:Tab w):Ans 28 #[.agg #[G #[49,48,48,48],G #[49]],.agg #[G #[49],G #[49,48,48,48]]] w ⟨#[49]⟩ ⟨#[49]⟩ 0 :=
 zFb (rmul_ok _ _ _ _ _ _ w isR_kilo isR_milli htab) (by decide +kernel) zAz
def gramU:Array Value:=#[G #[103,114,97,109],G #[103],I 0,I 1,I 0,I 0,I 0,I 0,I 0,I 0,G #[49],G #[49,48,48,48],G #[48],G #[49],I 1]
def zEc:Array Value:=#[G #[107,105,108,111,103,114,97,109],G #[107,103],I 0,I 1,I 0,I 0,I 0,I 0,I 0,I 0,G #[49],G #[49],G #[48],G #[49],I 1]
theorem zGx:(Tryz.prog.info? 291).map (·.size)=some 5:=by kernel_rfl
theorem res30 {fn:Func} {p:Tmp} (h:fn.results=#[.cell p 30]) (tmps:Array Value) (w:World) (g:Nat) (vs:Array Value) (hl:vs.size=15) (hp:tmps.getD p undef=.pointer (some ⟨g,0,none⟩)) (ho:zAc w g 30 vs) :
  (results fn tmps).run Tryz.prog w=.ok (.agg vs) w:=by
 rw[zBb h,hp];simp only[asAddr,Sem.run_pure,Result.andThen_ok];rw[run_loadVar_row w g 30 30 vs (0,0) _ ho Tryz.underlying30 rfl (by rw[zEd,hl])]
theorem thousand_gram (w:World) (htab:Tab w):Calls Tryz.prog 232 #[.agg gramU] w fun r w'=>r=.returned (.agg zEc)∧Bw w w':=by
 unfold gramU zEc;obtain⟨V,hV⟩:∃V,V=(w.alloc (.cells #[G #[103,114,97,109],G #[103],I 0,I 1,I 0,I 0,I 0,I 0,I 0,I 0,G #[49],G #[49,48,48,48],G #[48],G #[49],I 1] 30)).alloc (.cells z15 30):=⟨_,rfl⟩;have HB:Hid (Bw w V):=by rw[hV];exact bA.alloc (by simp) _
 have HA:Hid (zAc V w.heap.size 30 #[G #[103,114,97,109],G #[103],I 0,I 1,I 0,I 0,I 0,I 0,I 0,I 0,G #[49],G #[49,48,48,48],G #[48],G #[49],I 1]):=by rw[hV];exact(zAc.new _ _ _).alloc _
 have HR:Hid (zAc V (w.heap.size+1) 30 z15):=by rw[hV];have h:=zAc.new (w.alloc (.cells #[G #[103,114,97,109],G #[103],I 0,I 1,I 0,I 0,I 0,I 0,I 0,I 0,G #[49],G #[49,48,48,48],G #[48],G #[49],I 1] 30)) z15 30;rw[Dm.size_alloc]at h;exact h
 have HTA:Hid (∀W,Below w.heap.size w W→Tab W):=fun W h=>htab.later h
 have HV:=zAb hV;clear hV htab;go_enter Tryz.func232,Tryz.ntmps232
 go_upto_region 1 with fail
 rw[←un HV];clear HV
 go_upto_region 2 with (first
  | (go_at_call 267;go_must(refine(Pf.find_kilo _ (un HTA _ (un HB))).mono ?_;rintro e w1 ⟨rfl,hb⟩;have HA1:=zAb ((un HA).later hb);have HR1:=zAb ((un HR).later hb);have HB1:Hid (Bw w w1):=bt HB hb;clear hb))
  | (refine zAn 291 5 zGx rfl (.tmp 3) (.tmp 7) rfl w1.heap.size #[G #[],G #[],G #[],G #[],.bool false] #[G #[107,105,108,111],G #[107],G #[49,48,48,48],G #[49],.bool false] rfl rfl rfl rfl (zAc.new _ _ _) (by kernel_rfl) ?_))
 obtain⟨V2,hV2⟩:∃V2,V2=(w1.alloc (.cells #[G #[],G #[],G #[],G #[],.bool false] 291)).setRow w1.heap.size #[G #[107,105,108,111],G #[107],G #[49,48,48,48],G #[49],.bool false]:=⟨_,rfl⟩;have hb2:Below w1.heap.size w1 V2:=by rw[hV2];exact below_setRow (zBx _ _) (Nat.le_refl _) _
 have HK2:Hid (zAc V2 w1.heap.size 291 #[G #[107,105,108,111],G #[107],G #[49,48,48,48],G #[49],.bool false]):=by rw[hV2];exact(zAc.new _ _ _).setRow _
 have HA2:=zAb ((un HA1).later hb2);have HR2:=zAb ((un HR1).later hb2);have HB2:Hid (Bw w V2):=bt HB1 hb2;have HNE:Hid (¬w1.heap.size=w.heap.size∧¬w1.heap.size=w.heap.size+1):=(by have:=(un HR1).lt;show _∧_;omega);rw[←hV2];clear hV2 hb2 HA1 HR1 HB1 HA HR HB;generalize w1.heap.size=g3 at *
 have HA3:Hid (zAc V2.drew w.heap.size 30 #[G #[103,114,97,109],G #[103],I 0,I 1,I 0,I 0,I 0,I 0,I 0,I 0,G #[49],G #[49,48,48,48],G #[48],G #[49],I 1]):=un HA2;have HR3:Hid (zAc V2.drew (w.heap.size+1) 30 z15):=un HR2;have HK3:Hid (zAc V2.drew g3 291 #[G #[107,105,108,111],G #[107],G #[49,48,48,48],G #[49],.bool false]):=un HK2;have HB3:Hid (Bw w V2.drew):=(un HB2).drew;clear HA2 HR2 HK2 HB2;have HS0:Hid (V2.drew.cell? ⟨w.heap.size,0,none⟩=some (G #[103,114,97,109])∧V2.drew.cell? ⟨w.heap.size,1,none⟩=some (G #[103])):=⟨(un HA3).ub.c 0 _ rfl,(un HA3).ub.c 1 _ rfl⟩;have HS7:Hid (V2.drew.cell? ⟨g3,0,none⟩=some (G #[107,105,108,111])∧V2.drew.cell? ⟨g3,1,none⟩=some (G #[107])):=⟨(un HK3).ub.c 0 _ rfl,(un HK3).ub.c 1 _ rfl⟩;have HF0:=zAb ((un HA3).ub.f 0 _ rfl);have HF1:=zAb ((un HA3).ub.f 1 _ rfl);refine zAi 11 (fun W'=>W'.cell? ⟨w.heap.size,0,none⟩=some (G #[103,114,97,109])∧W'.cell? ⟨w.heap.size,1,none⟩=some (G #[103])) (fun W'=>W'.cell? ⟨g3,0,none⟩=some (G #[107,105,108,111])∧W'.cell? ⟨g3,1,none⟩=some (G #[107])) 14 rfl (by kernel_rfl) ?_;refine wT7 0 (.pointer (some ⟨g3,0,none⟩)) rfl (Or.inl ⟨by rfl,?_⟩) ⟨un HS0,un HS7⟩ ?_
 ·intro W' hW
  go_split_ands
  go_simp
 refine wT7 1 (G #[107,105,108,111]) rfl (Or.inl ⟨by rfl,?_⟩) ⟨un HS0,un HS7⟩ ?_
 ·intro W' hW
  go_split_ands
  go_simp
 refine wT7 2 (.pointer (some ⟨w.heap.size,0,none⟩)) rfl (Or.inl ⟨by rfl,?_⟩) ⟨un HS0,un HS7⟩ ?_
 ·intro W' hW
  go_split_ands
  go_simp
 refine wT 3 (G #[103,114,97,109]) rfl (Or.inl ⟨by rfl,?_⟩) ⟨un HS0,un HS7⟩ ?_
 ·intro W' hW
  go_split_ands
  go_simp
 refine wT7 4 (G #[107,105,108,111,103,114,97,109]) rfl (Or.inl ⟨by rfl,?_⟩) ⟨un HS0,un HS7⟩ ?_
 ·intro W' hW
  go_split_ands
  go_simp
  decide
 refine wT7 5 (.pointer (some ⟨g3,1,none⟩)) rfl (Or.inl ⟨by rfl,?_⟩) ⟨un HS0,un HS7⟩ ?_
 ·intro W' hW
  go_split_ands
  go_simp
 refine wT7 6 (G #[107]) rfl (Or.inl ⟨by rfl,?_⟩) ⟨un HS0,un HS7⟩ ?_
 ·intro W' hW
  go_split_ands
  go_simp
 refine wT7 7 (.pointer (some ⟨w.heap.size,1,none⟩)) rfl (Or.inl ⟨by rfl,?_⟩) ⟨un HS0,un HS7⟩ ?_
 ·intro W' hW
  go_split_ands
  go_simp
 refine wT 8 (G #[103]) rfl (Or.inl ⟨by rfl,?_⟩) ⟨un HS0,un HS7⟩ ?_
 ·intro W' hW
  go_split_ands
  go_simp
 refine wT7 9 (G #[107,103]) rfl (Or.inl ⟨by rfl,?_⟩) ⟨un HS0,un HS7⟩ ?_
 ·intro W' hW
  go_split_ands
  go_simp
  decide
 refine wT7 10 (.pointer (some ⟨w.heap.size,0,none⟩)) rfl (Or.inl ⟨by rfl,?_⟩) ⟨un HS0,un HS7⟩ ?_
 ·intro W' hW
  go_split_ands
  go_simp
 generalize V2.drew=U at *
 have a0:=(un HS0).1;have a1:=(un HS0).2;have f0:=un HF0;have f1:=un HF1;refine wL 11 rfl rfl (fun K hK=>?_)
 go_simp
 have HK4:=zAb ((un HK3).otherSet (un HNE).1 0 (G #[107,105,108,111,103,114,97,109]));refine hK _ _ ⟨(un HK4).ub.c 0 _ rfl,(un HK4).ub.c 1 _ rfl⟩ ?_;clear hK K;have HA4:=zAb ((un HA3).set 0 (G #[107,105,108,111,103,114,97,109]));have HR4:=zAb ((un HR3).otherSet (show ¬w.heap.size+1=w.heap.size by omega) 0 (G #[107,105,108,111,103,114,97,109]));have HB4:Hid (Bw w (U.setCell ⟨w.heap.size,0,none⟩ (G #[107,105,108,111,103,114,97,109]))):=(un HB3).setCell (p:=⟨w.heap.size,0,none⟩) (Nat.le_refl _) _;clear a0 a1 f0 f1 HA3 HR3 HK3 HB3 HS0 HS7 HF0 HF1;generalize U.setCell ⟨w.heap.size,0,none⟩ (G #[107,105,108,111,103,114,97,109])=U4 at *
 refine wL 12 rfl rfl (fun K hK=>?_)
 go_simp
 refine hK _ _ ⟨(un HK4).ub.c 0 _ rfl,(un HK4).ub.c 1 _ rfl⟩ ?_;clear hK K;have a1:U4.cell? ⟨w.heap.size,1,none⟩=some (G #[103]):=(un HA4).ub.c 1 _ rfl;have f1:U4.frozen? ⟨w.heap.size,1,none⟩=false:=(un HA4).ub.f 1 _ rfl;refine wL 13 rfl rfl (fun K hK=>?_)
 go_simp
 have HK5:=zAb ((un HK4).otherSet (un HNE).1 1 (G #[107,103]));refine hK _ _ ⟨(un HK5).ub.c 0 _ rfl,(un HK5).ub.c 1 _ rfl⟩ ?_;clear hK K;have HA5:=zAb ((un HA4).set 1 (G #[107,103]));have HR5:=zAb ((un HR4).otherSet (show ¬w.heap.size+1=w.heap.size by omega) 1 (G #[107,103]));have HB5:Hid (Bw w (U4.setCell ⟨w.heap.size,1,none⟩ (G #[107,103]))):=(un HB4).setCell (p:=⟨w.heap.size,1,none⟩) (Nat.le_refl _) _;clear a1 f1 HA4 HR4 HK4 HB4;generalize U4.setCell ⟨w.heap.size,1,none⟩ (G #[107,103])=U5 at *
 refine wDn ?_;have HA6:Hid (zAc U5 w.heap.size 30 #[G #[107,105,108,111,103,114,97,109],G #[107,103],I 0,I 1,I 0,I 0,I 0,I 0,I 0,I 0,G #[49],G #[49,48,48,48],G #[48],G #[49],I 1]):=un HA5;clear HA5;have p2:U5.cell? ⟨g3,2,none⟩=some (G #[49,48,48,48]):=(un HK5).ub.c 2 _ rfl;have p3:U5.cell? ⟨g3,3,none⟩=some (G #[49]):=(un HK5).ub.c 3 _ rfl;have q0:U5.cell? ⟨w.heap.size,10,none⟩=some (G #[49]):=(un HA6).ub.c 10 _ rfl;have q1:U5.cell? ⟨w.heap.size,11,none⟩=some (G #[49,48,48,48]):=(un HA6).ub.c 11 _ rfl
 go_upto_region 4 with (go_at_call 28;go_must(refine(mul_kilo _ (un HTA _ (un HB5))).mono ?_;rintro e w6 ⟨rfl,hb⟩;have HA7:=zAb ((un HA6).later hb);have HR7:=zAb ((un HR5).later hb);have HB7:Hid (Bw w w6):=bt HB5 hb;clear hb p2 p3 q0 q1;have q0:w6.cell? ⟨w.heap.size,10,none⟩=some (G #[49]):=(un HA7).ub.c 10 _ rfl;have q1:w6.cell? ⟨w.heap.size,11,none⟩=some (G #[49,48,48,48]):=(un HA7).ub.c 11 _ rfl;have f0:w6.frozen? ⟨w.heap.size,10,none⟩=false:=(un HA7).ub.f 10 _ rfl;have f1:w6.frozen? ⟨w.heap.size,11,none⟩=false:=(un HA7).ub.f 11 _ rfl))
 have HA8:Hid (zAc ((w6.setCell ⟨w.heap.size,10,none⟩ (G #[49])).setCell ⟨w.heap.size,11,none⟩ (G #[49])) w.heap.size 30 #[G #[107,105,108,111,103,114,97,109],G #[107,103],I 0,I 1,I 0,I 0,I 0,I 0,I 0,I 0,G #[49],G #[49],G #[48],G #[49],I 1]):=((un HA7).set 10 _).set 11 _;have HR8:Hid (zAc ((w6.setCell ⟨w.heap.size,10,none⟩ (G #[49])).setCell ⟨w.heap.size,11,none⟩ (G #[49])) (w.heap.size+1) 30 z15):=((un HR7).otherSet (show ¬w.heap.size+1=w.heap.size by omega) 10 _).otherSet (show ¬w.heap.size+1=w.heap.size by omega) 11 _;have HB8:Hid (Bw w ((w6.setCell ⟨w.heap.size,10,none⟩ (G #[49])).setCell ⟨w.heap.size,11,none⟩ (G #[49]))):=((un HB7).setCell (p:=⟨w.heap.size,10,none⟩) (Nat.le_refl _) _).setCell (p:=⟨w.heap.size,11,none⟩) (Nat.le_refl _) _;clear q0 q1 f0 f1 HA7 HR7 HB7;generalize (w6.setCell ⟨w.heap.size,10,none⟩ (G #[49])).setCell ⟨w.heap.size,11,none⟩ (G #[49])=U8 at *
 go_wp2_with (first
  | (refine wpList_load_row rfl 30 (.tmp 1) rfl w.heap.size rfl 30 #[G #[107,105,108,111,103,114,97,109],G #[107,103],I 0,I 1,I 0,I 0,I 0,I 0,I 0,I 0,G #[49],G #[49],G #[48],G #[49],I 1] (0,0) _ (un HA8) Tryz.underlying30 rfl (by kernel_rfl) ?_)
  | (refine zAn 30 15 zEd rfl (.tmp 2) (.tmp 30) rfl (w.heap.size+1) z15 #[G #[107,105,108,111,103,114,97,109],G #[107,103],I 0,I 1,I 0,I 0,I 0,I 0,I 0,I 0,G #[49],G #[49],G #[48],G #[49],I 1] rfl rfl rfl rfl (un HR8) (by kernel_rfl) ?_))
 exact bodyPost_ret (v:=.agg #[G #[107,105,108,111,103,114,97,109],G #[107,103],I 0,I 1,I 0,I 0,I 0,I 0,I 0,I 0,G #[49],G #[49],G #[48],G #[49],I 1]) (res30 Tryz.results232 _ _ (w.heap.size+1) _ rfl rfl ((un HR8).setRow _)) rfl ⟨rfl,below_setRow (un HB8) (by omega) _⟩
end Go.Proofs.YtliadckofhblnaaGreatDoor

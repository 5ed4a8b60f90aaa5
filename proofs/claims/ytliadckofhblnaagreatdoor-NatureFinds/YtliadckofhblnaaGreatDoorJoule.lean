/- The joule. -/
import Derived.Test.YtliadckofhblnaaGreatDoorLimb3
import Derived.Test.YtliadckofhblnaaGreatDoorLast
import Derived.Test.YtliadckofhblnaaGreatDoorReads2
import Derived.Deep.Cut
namespace Go.Proofs.YtliadckofhblnaaGreatDoor
open Go.RowKit
theorem albel (W:World) (O:Obj):Below W.heap.size W (W.alloc O):=(Below.refl _ _).alloc (Nat.le_refl _) O
structure JS (w W:World):Prop where
  m:OwnU W w.heap.size 235 #[I 1,I 0,I 0,I 0,I 0,I 0,I 0,I 0,I 1,I 1]
  g:OwnU W (w.heap.size+1) 235 #[I 0,I 1,I 0,I 0,I 0,I 0,I 0,I 0,I 1,I 1000]
  s:OwnU W (w.heap.size+2) 235 #[I 0,I 0,I 1,I 0,I 0,I 0,I 0,I 0,I 1,I 1]
  r:OwnU W (w.heap.size+3) 235 #[I 0,I 0,I 0,I 0,I 0,I 0,I 0,I 0,I 0,I 0]
  below:Below w.heap.size w W
theorem JS.later {w W V:World} (h:JS w W) (hb:Below W.heap.size W V):JS w V:=⟨h.m.later hb,h.g.later hb,h.s.later hb,h.r.later hb,h.below.trans (hb.mono h.below.size)⟩
theorem OwnU.otherRow {W:World} {g k ty:Nat} {vs us:Array Value} (h:OwnU W g ty vs) (hk:¬k=g):OwnU (W.setRow k us) g ty vs:=by
  unfold OwnU World.setRow at *
  simp only[Array.getElem?_modify,if_neg hk,h]
theorem JS.row {w W:World} {g:Nat} (h:JS w W) (hg:w.heap.size+3<g) (us:Array Value):JS w (W.setRow g us) :=
  ⟨h.m.otherRow (by omega),h.g.otherRow (by omega),h.s.otherRow (by omega),h.r.otherRow (by omega),below_setRow h.below (by omega) _⟩
theorem JS.first (w:World):JS w ((((w.alloc (.cells #[I 1,I 0,I 0,I 0,I 0,I 0,I 0,I 0,I 1,I 1] 235)).alloc (.cells #[I 0,I 1,I 0,I 0,I 0,I 0,I 0,I 0,I 1,I 1000] 235)).alloc (.cells #[I 0,I 0,I 1,I 0,I 0,I 0,I 0,I 0,I 1,I 1] 235)).alloc (.cells #[I 0,I 0,I 0,I 0,I 0,I 0,I 0,I 0,I 0,I 0] 235)) :=
  ⟨(((OwnU.new w _ 235).alloc _).alloc _).alloc _,
   by have h:=((OwnU.new (w.alloc (.cells #[I 1,I 0,I 0,I 0,I 0,I 0,I 0,I 0,I 1,I 1] 235)) #[I 0,I 1,I 0,I 0,I 0,I 0,I 0,I 0,I 1,I 1000] 235).alloc (.cells #[I 0,I 0,I 1,I 0,I 0,I 0,I 0,I 0,I 1,I 1] 235)).alloc (.cells #[I 0,I 0,I 0,I 0,I 0,I 0,I 0,I 0,I 0,I 0] 235);rw[Dm.size_alloc]at h;exact h,
   by have h:=(OwnU.new ((w.alloc (.cells #[I 1,I 0,I 0,I 0,I 0,I 0,I 0,I 0,I 1,I 1] 235)).alloc (.cells #[I 0,I 1,I 0,I 0,I 0,I 0,I 0,I 0,I 1,I 1000] 235)) #[I 0,I 0,I 1,I 0,I 0,I 0,I 0,I 0,I 1,I 1] 235).alloc (.cells #[I 0,I 0,I 0,I 0,I 0,I 0,I 0,I 0,I 0,I 0] 235);rw[Dm.size_alloc,Dm.size_alloc]at h;exact h,
   by have h:=OwnU.new (((w.alloc (.cells #[I 1,I 0,I 0,I 0,I 0,I 0,I 0,I 0,I 1,I 1] 235)).alloc (.cells #[I 0,I 1,I 0,I 0,I 0,I 0,I 0,I 0,I 1,I 1000] 235)).alloc (.cells #[I 0,I 0,I 1,I 0,I 0,I 0,I 0,I 0,I 1,I 1] 235)) #[I 0,I 0,I 0,I 0,I 0,I 0,I 0,I 0,I 0,I 0] 235;rw[Dm.size_alloc,Dm.size_alloc,Dm.size_alloc]at h;exact h,
   ((((Below.refl _ _).alloc (Nat.le_refl _) _).alloc (by simp) _).alloc (by simp;omega) _).alloc (by simp;omega) _⟩
set_option maxRecDepth 100000 in
set_option maxHeartbeats 16000000 in
theorem joule_made (w:World):Calls Tryz.prog 264 #[.agg #[I 1,I 0,I 0,I 0,I 0,I 0,I 0,I 0,I 1,I 1],.agg #[I 0,I 1,I 0,I 0,I 0,I 0,I 0,I 0,I 1,I 1000],.agg #[I 0,I 0,I 1,I 0,I 0,I 0,I 0,I 0,I 1,I 1]] w fun r w'=>r=.returned (.agg #[I 2,I 1,I (-2),I 0,I 0,I 0,I 0,I 0,I 1000,I 1000])∧Below w.heap.size w w':=by
  obtain⟨V,hV⟩:∃V,V=((((w.alloc (.cells #[I 1,I 0,I 0,I 0,I 0,I 0,I 0,I 0,I 1,I 1] 235)).alloc (.cells #[I 0,I 1,I 0,I 0,I 0,I 0,I 0,I 0,I 1,I 1000] 235)).alloc (.cells #[I 0,I 0,I 1,I 0,I 0,I 0,I 0,I 0,I 1,I 1] 235)).alloc (.cells #[I 0,I 0,I 0,I 0,I 0,I 0,I 0,I 0,I 0,I 0] 235)):=⟨_,rfl⟩
  have HJ:Hid (JS w V):=by rw[hV];exact JS.first w
  have HV:=hide hV
  clear hV
  have HSS:Hid (∀W',JS w W'→W'.cell? ⟨w.heap.size,0,none⟩=some (I 1)∧W'.cell? ⟨w.heap.size,1,none⟩=some (I 0)∧W'.cell? ⟨w.heap.size,2,none⟩=some (I 0)∧W'.cell? ⟨w.heap.size,3,none⟩=some (I 0)∧W'.cell? ⟨w.heap.size,4,none⟩=some (I 0)∧W'.cell? ⟨w.heap.size,5,none⟩=some (I 0)∧W'.cell? ⟨w.heap.size,6,none⟩=some (I 0)∧W'.cell? ⟨w.heap.size,7,none⟩=some (I 0)∧W'.cell? ⟨w.heap.size,8,none⟩=some (I 1)∧W'.cell? ⟨w.heap.size,9,none⟩=some (I 1)∧W'.cell? ⟨w.heap.size+1,0,none⟩=some (I 0)∧W'.cell? ⟨w.heap.size+1,1,none⟩=some (I 1)∧W'.cell? ⟨w.heap.size+1,2,none⟩=some (I 0)∧W'.cell? ⟨w.heap.size+1,3,none⟩=some (I 0)∧W'.cell? ⟨w.heap.size+1,4,none⟩=some (I 0)∧W'.cell? ⟨w.heap.size+1,5,none⟩=some (I 0)∧W'.cell? ⟨w.heap.size+1,6,none⟩=some (I 0)∧W'.cell? ⟨w.heap.size+1,7,none⟩=some (I 0)∧W'.cell? ⟨w.heap.size+1,8,none⟩=some (I 1)∧W'.cell? ⟨w.heap.size+1,9,none⟩=some (I 1000)∧W'.cell? ⟨w.heap.size+2,0,none⟩=some (I 0)∧W'.cell? ⟨w.heap.size+2,1,none⟩=some (I 0)∧W'.cell? ⟨w.heap.size+2,2,none⟩=some (I 1)∧W'.cell? ⟨w.heap.size+2,3,none⟩=some (I 0)∧W'.cell? ⟨w.heap.size+2,4,none⟩=some (I 0)∧W'.cell? ⟨w.heap.size+2,5,none⟩=some (I 0)∧W'.cell? ⟨w.heap.size+2,6,none⟩=some (I 0)∧W'.cell? ⟨w.heap.size+2,7,none⟩=some (I 0)∧W'.cell? ⟨w.heap.size+2,8,none⟩=some (I 1)∧W'.cell? ⟨w.heap.size+2,9,none⟩=some (I 1)):=fun W' h=>⟨h.m.ub.c 0 _ rfl,h.m.ub.c 1 _ rfl,h.m.ub.c 2 _ rfl,h.m.ub.c 3 _ rfl,h.m.ub.c 4 _ rfl,h.m.ub.c 5 _ rfl,h.m.ub.c 6 _ rfl,h.m.ub.c 7 _ rfl,h.m.ub.c 8 _ rfl,h.m.ub.c 9 _ rfl,h.g.ub.c 0 _ rfl,h.g.ub.c 1 _ rfl,h.g.ub.c 2 _ rfl,h.g.ub.c 3 _ rfl,h.g.ub.c 4 _ rfl,h.g.ub.c 5 _ rfl,h.g.ub.c 6 _ rfl,h.g.ub.c 7 _ rfl,h.g.ub.c 8 _ rfl,h.g.ub.c 9 _ rfl,h.s.ub.c 0 _ rfl,h.s.ub.c 1 _ rfl,h.s.ub.c 2 _ rfl,h.s.ub.c 3 _ rfl,h.s.ub.c 4 _ rfl,h.s.ub.c 5 _ rfl,h.s.ub.c 6 _ rfl,h.s.ub.c 7 _ rfl,h.s.ub.c 8 _ rfl,h.s.ub.c 9 _ rfl⟩
  go_enter Tryz.func264,Tryz.ntmps264
  go_upto_region 1 with fail
  rw[←un HV]
  clear HV
  go_cut [7]from 8 (fun s9 wx=>∃g,s9=.pointer (some ⟨g,0,none⟩)∧Hid (OwnU wx g 235 #[I 1,I 1,I (-2),I 0,I 0,I 0,I 0,I 0,I 1000,I 1000])∧Hid (JS w wx))
  case first=>
    have HJ0:=hide ((un HJ).later ((Below.refl _ _).drew))
    have HS0:=hide (un HSS _ (un HJ0))
    refine region_reads 10 (fun W'=>W'.cell? ⟨w.heap.size,0,none⟩=some (I 1)∧W'.cell? ⟨w.heap.size,1,none⟩=some (I 0)∧W'.cell? ⟨w.heap.size,2,none⟩=some (I 0)∧W'.cell? ⟨w.heap.size,3,none⟩=some (I 0)∧W'.cell? ⟨w.heap.size,4,none⟩=some (I 0)∧W'.cell? ⟨w.heap.size,5,none⟩=some (I 0)∧W'.cell? ⟨w.heap.size,6,none⟩=some (I 0)∧W'.cell? ⟨w.heap.size,7,none⟩=some (I 0)∧W'.cell? ⟨w.heap.size,8,none⟩=some (I 1)∧W'.cell? ⟨w.heap.size,9,none⟩=some (I 1)∧W'.cell? ⟨w.heap.size+1,0,none⟩=some (I 0)∧W'.cell? ⟨w.heap.size+1,1,none⟩=some (I 1)∧W'.cell? ⟨w.heap.size+1,2,none⟩=some (I 0)∧W'.cell? ⟨w.heap.size+1,3,none⟩=some (I 0)∧W'.cell? ⟨w.heap.size+1,4,none⟩=some (I 0)∧W'.cell? ⟨w.heap.size+1,5,none⟩=some (I 0)∧W'.cell? ⟨w.heap.size+1,6,none⟩=some (I 0)∧W'.cell? ⟨w.heap.size+1,7,none⟩=some (I 0)∧W'.cell? ⟨w.heap.size+1,8,none⟩=some (I 1)∧W'.cell? ⟨w.heap.size+1,9,none⟩=some (I 1000)∧W'.cell? ⟨w.heap.size+2,0,none⟩=some (I 0)∧W'.cell? ⟨w.heap.size+2,1,none⟩=some (I 0)∧W'.cell? ⟨w.heap.size+2,2,none⟩=some (I 1)∧W'.cell? ⟨w.heap.size+2,3,none⟩=some (I 0)∧W'.cell? ⟨w.heap.size+2,4,none⟩=some (I 0)∧W'.cell? ⟨w.heap.size+2,5,none⟩=some (I 0)∧W'.cell? ⟨w.heap.size+2,6,none⟩=some (I 0)∧W'.cell? ⟨w.heap.size+2,7,none⟩=some (I 0)∧W'.cell? ⟨w.heap.size+2,8,none⟩=some (I 1)∧W'.cell? ⟨w.heap.size+2,9,none⟩=some (I 1)) (fun _=>True) 11 rfl (by kernel_rfl) ?_
    refine wpR_take (i:=1) (oi:=_) (v:=.agg #[I 0,I 1,I 0,I 0,I 0,I 0,I 0,I 0,I 1,I 1000]) rfl (by kernel_rfl) (by kernel_rfl) (by kernel_rfl) (by kernel_rfl) (fun _ _ _ h=>h) (Or.inl ⟨by rfl,?_⟩) ⟨un HS0,trivial⟩ ?_
    · intro W' hW
      go_split_ands
      go_simp
    refine wpR_take (i:=3) (oi:=_) (v:=.agg #[I 1,I 0,I 0,I 0,I 0,I 0,I 0,I 0,I 1,I 1]) rfl (by kernel_rfl) (by kernel_rfl) (by kernel_rfl) (by kernel_rfl) (fun _ _ _ h=>h) (Or.inl ⟨by rfl,?_⟩) ⟨un HS0,trivial⟩ ?_
    · intro W' hW
      go_split_ands
      go_simp
    refine wpR_take (i:=5) (oi:=_) (v:=.agg #[I 0,I 0,I 1,I 0,I 0,I 0,I 0,I 0,I 1,I 1]) rfl (by kernel_rfl) (by kernel_rfl) (by kernel_rfl) (by kernel_rfl) (fun _ _ _ h=>h) (Or.inl ⟨by rfl,?_⟩) ⟨un HS0,trivial⟩ ?_
    · intro W' hW
      go_split_ands
      go_simp
    refine wpR_take (i:=7) (oi:=_) (v:=.agg #[I 0,I 0,I 1,I 0,I 0,I 0,I 0,I 0,I 1,I 1]) rfl (by kernel_rfl) (by kernel_rfl) (by kernel_rfl) (by kernel_rfl) (fun _ _ _ h=>h) (Or.inl ⟨by rfl,?_⟩) ⟨un HS0,trivial⟩ ?_
    · intro W' hW
      go_split_ands
      go_simp
    clear HS0 HJ
    generalize V.drew=W0 at *
    refine wpR_two (i:=0) (j:=9) (by kernel_rfl) rfl rfl rfl rfl (fun K hK=>?_) (fun K hK=>?_)
    · skip
      go_simp
      refine(number_any 1000 _).mono ?_
      rintro e W1 ⟨rfl,hb⟩
      have HJ1:=hide ((un HJ0).later hb)
      clear hb
      refine hK _ _ ⟨un HSS _ (un HJ1),trivial⟩ ?_
      clear hK K
      refine wpR_two (i:=2) (j:=9) (by kernel_rfl) rfl rfl rfl rfl (fun K hK=>?_) (fun K hK=>?_)
      · skip
        go_simp
        refine(times_of 0 0 0 0 0 0 0 0 1000 1 0 1 0 0 0 0 0 0 1 1000 0 1 0 0 0 0 0 0 1000 1000 _ (by decide +kernel) (by decide +kernel) (by decide +kernel)).mono ?_
        rintro e W2 ⟨rfl,hb⟩
        have HJ2:=hide ((un HJ1).later hb)
        clear hb
        refine hK _ _ ⟨un HSS _ (un HJ2),trivial⟩ ?_
        clear hK K
        refine wpR_two (i:=4) (j:=9) (by kernel_rfl) rfl rfl rfl rfl (fun K hK=>?_) (fun K hK=>?_)
        · skip
          go_simp
          refine(times_of 0 1 0 0 0 0 0 0 1000 1000 1 0 0 0 0 0 0 0 1 1 1 1 0 0 0 0 0 0 1000 1000 _ (by decide +kernel) (by decide +kernel) (by decide +kernel)).mono ?_
          rintro e W3 ⟨rfl,hb⟩
          have HJ3:=hide ((un HJ2).later hb)
          clear hb
          refine hK _ _ ⟨un HSS _ (un HJ3),trivial⟩ ?_
          clear hK K
          refine wpR_two (i:=6) (j:=9) (by kernel_rfl) rfl rfl rfl rfl (fun K hK=>?_) (fun K hK=>?_)
          · skip
            go_simp
            refine(by_of 1 1 0 0 0 0 0 0 1000 1000 0 0 1 0 0 0 0 0 1 1 1 1 (-1) 0 0 0 0 0 1000 1000 _ (by decide +kernel) (by decide +kernel) (by decide +kernel)).mono ?_
            rintro e W4 ⟨rfl,hb⟩
            have HJ4:=hide ((un HJ3).later hb)
            clear hb
            refine hK _ _ ⟨un HSS _ (un HJ4),trivial⟩ ?_
            clear hK K
            refine wpR_two (i:=8) (j:=9) (by kernel_rfl) rfl rfl rfl rfl (fun K hK=>?_) (fun K hK=>?_)
            · skip
              go_simp
              refine(by_of 1 1 (-1) 0 0 0 0 0 1000 1000 0 0 1 0 0 0 0 0 1 1 1 1 (-2) 0 0 0 0 0 1000 1000 _ (by decide +kernel) (by decide +kernel) (by decide +kernel)).mono ?_
              rintro e W5 ⟨rfl,hb⟩
              have HJ5:=hide ((un HJ4).later hb)
              clear hb
              refine hK _ _ ⟨un HSS _ (un HJ5),trivial⟩ ?_
              clear hK K
              refine wpR_op (i:=9) (o:=_) (by kernel_rfl) rfl rfl (fun K hK=>?_)
              go_simp
              have hb:=albel W5 (.cells #[I 0,I 0,I 0,I 0,I 0,I 0,I 0,I 0,I 0,I 0] 235)
              have HJ6:=hide ((un HJ5).later hb)
              refine hK _ _ ⟨un HSS _ (un HJ6),trivial⟩ ?_
              clear hK K hb
              have HZ6:Hid (OwnU (W5.alloc (.cells #[I 0,I 0,I 0,I 0,I 0,I 0,I 0,I 0,I 0,I 0] 235)) W5.heap.size 235 #[I 0,I 0,I 0,I 0,I 0,I 0,I 0,I 0,I 0,I 0]):=OwnU.new _ _ _
              have HL:Hid (w.heap.size+3<W5.heap.size):=(un HJ5).r.lt
              obtain⟨W6,hW6⟩:∃W6,W6=W5.alloc (.cells #[I 0,I 0,I 0,I 0,I 0,I 0,I 0,I 0,I 0,I 0] 235):=⟨_,rfl⟩
              obtain⟨g7,hg7⟩:∃g7,g7=W5.heap.size:=⟨_,rfl⟩
              rw[←hW6]at HJ6 HZ6 ⊢
              rw[←hg7]at HZ6 HL ⊢
              clear hW6 hg7
              refine wpR_late (i:=10) (o:=_) (by kernel_rfl) rfl rfl (by kernel_rfl) (fun K hK=>?_)
              refine wp_store_row 235 (.tmp 7) (.tmp 16) rfl g7 #[I 1,I 1,I (-2),I 0,I 0,I 0,I 0,I 0,I 1000,I 1000] rfl rfl 235 _ (un HZ6) (by rw[info43];rfl) rfl (by kernel_rfl) (hK _ _ trivial ?_)
              clear hK K
              refine wpR_done (by kernel_rfl) ?_
              have HN:=hide ((un HZ6).setRow #[I 1,I 1,I (-2),I 0,I 0,I 0,I 0,I 0,I 1000,I 1000])
              have HJN:Hid (JS w (W6.setRow g7 #[I 1,I 1,I (-2),I 0,I 0,I 0,I 0,I 0,I 1000,I 1000])):=(un HJ6).row (un HL) _
              generalize W6.setRow g7 #[I 1,I 1,I (-2),I 0,I 0,I 0,I 0,I 0,I 1000,I 1000]=U at HN HJN ⊢
              go_wp2_with fail
              go_meet
              exact⟨g7,rfl,un HN,un HJN⟩
            · skip
              go_simp
              have hb:=albel W4 (.cells #[I 0,I 0,I 0,I 0,I 0,I 0,I 0,I 0,I 0,I 0] 235)
              have HJ5:=hide ((un HJ4).later hb)
              refine hK _ _ ⟨un HSS _ (un HJ5),trivial⟩ ?_
              clear hK K hb
              have HZ5:Hid (OwnU (W4.alloc (.cells #[I 0,I 0,I 0,I 0,I 0,I 0,I 0,I 0,I 0,I 0] 235)) W4.heap.size 235 #[I 0,I 0,I 0,I 0,I 0,I 0,I 0,I 0,I 0,I 0]):=OwnU.new _ _ _
              have HL:Hid (w.heap.size+3<W4.heap.size):=(un HJ4).r.lt
              obtain⟨W5,hW5⟩:∃W5,W5=W4.alloc (.cells #[I 0,I 0,I 0,I 0,I 0,I 0,I 0,I 0,I 0,I 0] 235):=⟨_,rfl⟩
              obtain⟨g7,hg7⟩:∃g7,g7=W4.heap.size:=⟨_,rfl⟩
              rw[←hW5]at HJ5 HZ5 ⊢
              rw[←hg7]at HZ5 HL ⊢
              clear hW5 hg7
              refine wpR_op (i:=8) (o:=_) (by kernel_rfl) rfl rfl (fun K hK=>?_)
              go_simp
              refine(by_of 1 1 (-1) 0 0 0 0 0 1000 1000 0 0 1 0 0 0 0 0 1 1 1 1 (-2) 0 0 0 0 0 1000 1000 _ (by decide +kernel) (by decide +kernel) (by decide +kernel)).mono ?_
              rintro e W6 ⟨rfl,hb⟩
              have HJ6:=hide ((un HJ5).later hb)
              have HZ6:=hide ((un HZ5).later hb)
              clear hb
              refine hK _ _ ⟨un HSS _ (un HJ6),trivial⟩ ?_
              clear hK K
              refine wpR_late (i:=10) (o:=_) (by kernel_rfl) rfl rfl (by kernel_rfl) (fun K hK=>?_)
              refine wp_store_row 235 (.tmp 7) (.tmp 16) rfl g7 #[I 1,I 1,I (-2),I 0,I 0,I 0,I 0,I 0,I 1000,I 1000] rfl rfl 235 _ (un HZ6) (by rw[info43];rfl) rfl (by kernel_rfl) (hK _ _ trivial ?_)
              clear hK K
              refine wpR_done (by kernel_rfl) ?_
              have HN:=hide ((un HZ6).setRow #[I 1,I 1,I (-2),I 0,I 0,I 0,I 0,I 0,I 1000,I 1000])
              have HJN:Hid (JS w (W6.setRow g7 #[I 1,I 1,I (-2),I 0,I 0,I 0,I 0,I 0,I 1000,I 1000])):=(un HJ6).row (un HL) _
              generalize W6.setRow g7 #[I 1,I 1,I (-2),I 0,I 0,I 0,I 0,I 0,I 1000,I 1000]=U at HN HJN ⊢
              go_wp2_with fail
              go_meet
              exact⟨g7,rfl,un HN,un HJN⟩
          · skip
            go_simp
            have hb:=albel W3 (.cells #[I 0,I 0,I 0,I 0,I 0,I 0,I 0,I 0,I 0,I 0] 235)
            have HJ4:=hide ((un HJ3).later hb)
            refine hK _ _ ⟨un HSS _ (un HJ4),trivial⟩ ?_
            clear hK K hb
            have HZ4:Hid (OwnU (W3.alloc (.cells #[I 0,I 0,I 0,I 0,I 0,I 0,I 0,I 0,I 0,I 0] 235)) W3.heap.size 235 #[I 0,I 0,I 0,I 0,I 0,I 0,I 0,I 0,I 0,I 0]):=OwnU.new _ _ _
            have HL:Hid (w.heap.size+3<W3.heap.size):=(un HJ3).r.lt
            obtain⟨W4,hW4⟩:∃W4,W4=W3.alloc (.cells #[I 0,I 0,I 0,I 0,I 0,I 0,I 0,I 0,I 0,I 0] 235):=⟨_,rfl⟩
            obtain⟨g7,hg7⟩:∃g7,g7=W3.heap.size:=⟨_,rfl⟩
            rw[←hW4]at HJ4 HZ4 ⊢
            rw[←hg7]at HZ4 HL ⊢
            clear hW4 hg7
            refine wpR_op (i:=6) (o:=_) (by kernel_rfl) rfl rfl (fun K hK=>?_)
            go_simp
            refine(by_of 1 1 0 0 0 0 0 0 1000 1000 0 0 1 0 0 0 0 0 1 1 1 1 (-1) 0 0 0 0 0 1000 1000 _ (by decide +kernel) (by decide +kernel) (by decide +kernel)).mono ?_
            rintro e W5 ⟨rfl,hb⟩
            have HJ5:=hide ((un HJ4).later hb)
            have HZ5:=hide ((un HZ4).later hb)
            clear hb
            refine hK _ _ ⟨un HSS _ (un HJ5),trivial⟩ ?_
            clear hK K
            refine wpR_op (i:=8) (o:=_) (by kernel_rfl) rfl rfl (fun K hK=>?_)
            go_simp
            refine(by_of 1 1 (-1) 0 0 0 0 0 1000 1000 0 0 1 0 0 0 0 0 1 1 1 1 (-2) 0 0 0 0 0 1000 1000 _ (by decide +kernel) (by decide +kernel) (by decide +kernel)).mono ?_
            rintro e W6 ⟨rfl,hb⟩
            have HJ6:=hide ((un HJ5).later hb)
            have HZ6:=hide ((un HZ5).later hb)
            clear hb
            refine hK _ _ ⟨un HSS _ (un HJ6),trivial⟩ ?_
            clear hK K
            refine wpR_late (i:=10) (o:=_) (by kernel_rfl) rfl rfl (by kernel_rfl) (fun K hK=>?_)
            refine wp_store_row 235 (.tmp 7) (.tmp 16) rfl g7 #[I 1,I 1,I (-2),I 0,I 0,I 0,I 0,I 0,I 1000,I 1000] rfl rfl 235 _ (un HZ6) (by rw[info43];rfl) rfl (by kernel_rfl) (hK _ _ trivial ?_)
            clear hK K
            refine wpR_done (by kernel_rfl) ?_
            have HN:=hide ((un HZ6).setRow #[I 1,I 1,I (-2),I 0,I 0,I 0,I 0,I 0,I 1000,I 1000])
            have HJN:Hid (JS w (W6.setRow g7 #[I 1,I 1,I (-2),I 0,I 0,I 0,I 0,I 0,I 1000,I 1000])):=(un HJ6).row (un HL) _
            generalize W6.setRow g7 #[I 1,I 1,I (-2),I 0,I 0,I 0,I 0,I 0,I 1000,I 1000]=U at HN HJN ⊢
            go_wp2_with fail
            go_meet
            exact⟨g7,rfl,un HN,un HJN⟩
        · skip
          go_simp
          have hb:=albel W2 (.cells #[I 0,I 0,I 0,I 0,I 0,I 0,I 0,I 0,I 0,I 0] 235)
          have HJ3:=hide ((un HJ2).later hb)
          refine hK _ _ ⟨un HSS _ (un HJ3),trivial⟩ ?_
          clear hK K hb
          have HZ3:Hid (OwnU (W2.alloc (.cells #[I 0,I 0,I 0,I 0,I 0,I 0,I 0,I 0,I 0,I 0] 235)) W2.heap.size 235 #[I 0,I 0,I 0,I 0,I 0,I 0,I 0,I 0,I 0,I 0]):=OwnU.new _ _ _
          have HL:Hid (w.heap.size+3<W2.heap.size):=(un HJ2).r.lt
          obtain⟨W3,hW3⟩:∃W3,W3=W2.alloc (.cells #[I 0,I 0,I 0,I 0,I 0,I 0,I 0,I 0,I 0,I 0] 235):=⟨_,rfl⟩
          obtain⟨g7,hg7⟩:∃g7,g7=W2.heap.size:=⟨_,rfl⟩
          rw[←hW3]at HJ3 HZ3 ⊢
          rw[←hg7]at HZ3 HL ⊢
          clear hW3 hg7
          refine wpR_op (i:=4) (o:=_) (by kernel_rfl) rfl rfl (fun K hK=>?_)
          go_simp
          refine(times_of 0 1 0 0 0 0 0 0 1000 1000 1 0 0 0 0 0 0 0 1 1 1 1 0 0 0 0 0 0 1000 1000 _ (by decide +kernel) (by decide +kernel) (by decide +kernel)).mono ?_
          rintro e W4 ⟨rfl,hb⟩
          have HJ4:=hide ((un HJ3).later hb)
          have HZ4:=hide ((un HZ3).later hb)
          clear hb
          refine hK _ _ ⟨un HSS _ (un HJ4),trivial⟩ ?_
          clear hK K
          refine wpR_op (i:=6) (o:=_) (by kernel_rfl) rfl rfl (fun K hK=>?_)
          go_simp
          refine(by_of 1 1 0 0 0 0 0 0 1000 1000 0 0 1 0 0 0 0 0 1 1 1 1 (-1) 0 0 0 0 0 1000 1000 _ (by decide +kernel) (by decide +kernel) (by decide +kernel)).mono ?_
          rintro e W5 ⟨rfl,hb⟩
          have HJ5:=hide ((un HJ4).later hb)
          have HZ5:=hide ((un HZ4).later hb)
          clear hb
          refine hK _ _ ⟨un HSS _ (un HJ5),trivial⟩ ?_
          clear hK K
          refine wpR_op (i:=8) (o:=_) (by kernel_rfl) rfl rfl (fun K hK=>?_)
          go_simp
          refine(by_of 1 1 (-1) 0 0 0 0 0 1000 1000 0 0 1 0 0 0 0 0 1 1 1 1 (-2) 0 0 0 0 0 1000 1000 _ (by decide +kernel) (by decide +kernel) (by decide +kernel)).mono ?_
          rintro e W6 ⟨rfl,hb⟩
          have HJ6:=hide ((un HJ5).later hb)
          have HZ6:=hide ((un HZ5).later hb)
          clear hb
          refine hK _ _ ⟨un HSS _ (un HJ6),trivial⟩ ?_
          clear hK K
          refine wpR_late (i:=10) (o:=_) (by kernel_rfl) rfl rfl (by kernel_rfl) (fun K hK=>?_)
          refine wp_store_row 235 (.tmp 7) (.tmp 16) rfl g7 #[I 1,I 1,I (-2),I 0,I 0,I 0,I 0,I 0,I 1000,I 1000] rfl rfl 235 _ (un HZ6) (by rw[info43];rfl) rfl (by kernel_rfl) (hK _ _ trivial ?_)
          clear hK K
          refine wpR_done (by kernel_rfl) ?_
          have HN:=hide ((un HZ6).setRow #[I 1,I 1,I (-2),I 0,I 0,I 0,I 0,I 0,I 1000,I 1000])
          have HJN:Hid (JS w (W6.setRow g7 #[I 1,I 1,I (-2),I 0,I 0,I 0,I 0,I 0,I 1000,I 1000])):=(un HJ6).row (un HL) _
          generalize W6.setRow g7 #[I 1,I 1,I (-2),I 0,I 0,I 0,I 0,I 0,I 1000,I 1000]=U at HN HJN ⊢
          go_wp2_with fail
          go_meet
          exact⟨g7,rfl,un HN,un HJN⟩
      · skip
        go_simp
        have hb:=albel W1 (.cells #[I 0,I 0,I 0,I 0,I 0,I 0,I 0,I 0,I 0,I 0] 235)
        have HJ2:=hide ((un HJ1).later hb)
        refine hK _ _ ⟨un HSS _ (un HJ2),trivial⟩ ?_
        clear hK K hb
        have HZ2:Hid (OwnU (W1.alloc (.cells #[I 0,I 0,I 0,I 0,I 0,I 0,I 0,I 0,I 0,I 0] 235)) W1.heap.size 235 #[I 0,I 0,I 0,I 0,I 0,I 0,I 0,I 0,I 0,I 0]):=OwnU.new _ _ _
        have HL:Hid (w.heap.size+3<W1.heap.size):=(un HJ1).r.lt
        obtain⟨W2,hW2⟩:∃W2,W2=W1.alloc (.cells #[I 0,I 0,I 0,I 0,I 0,I 0,I 0,I 0,I 0,I 0] 235):=⟨_,rfl⟩
        obtain⟨g7,hg7⟩:∃g7,g7=W1.heap.size:=⟨_,rfl⟩
        rw[←hW2]at HJ2 HZ2 ⊢
        rw[←hg7]at HZ2 HL ⊢
        clear hW2 hg7
        refine wpR_op (i:=2) (o:=_) (by kernel_rfl) rfl rfl (fun K hK=>?_)
        go_simp
        refine(times_of 0 0 0 0 0 0 0 0 1000 1 0 1 0 0 0 0 0 0 1 1000 0 1 0 0 0 0 0 0 1000 1000 _ (by decide +kernel) (by decide +kernel) (by decide +kernel)).mono ?_
        rintro e W3 ⟨rfl,hb⟩
        have HJ3:=hide ((un HJ2).later hb)
        have HZ3:=hide ((un HZ2).later hb)
        clear hb
        refine hK _ _ ⟨un HSS _ (un HJ3),trivial⟩ ?_
        clear hK K
        refine wpR_op (i:=4) (o:=_) (by kernel_rfl) rfl rfl (fun K hK=>?_)
        go_simp
        refine(times_of 0 1 0 0 0 0 0 0 1000 1000 1 0 0 0 0 0 0 0 1 1 1 1 0 0 0 0 0 0 1000 1000 _ (by decide +kernel) (by decide +kernel) (by decide +kernel)).mono ?_
        rintro e W4 ⟨rfl,hb⟩
        have HJ4:=hide ((un HJ3).later hb)
        have HZ4:=hide ((un HZ3).later hb)
        clear hb
        refine hK _ _ ⟨un HSS _ (un HJ4),trivial⟩ ?_
        clear hK K
        refine wpR_op (i:=6) (o:=_) (by kernel_rfl) rfl rfl (fun K hK=>?_)
        go_simp
        refine(by_of 1 1 0 0 0 0 0 0 1000 1000 0 0 1 0 0 0 0 0 1 1 1 1 (-1) 0 0 0 0 0 1000 1000 _ (by decide +kernel) (by decide +kernel) (by decide +kernel)).mono ?_
        rintro e W5 ⟨rfl,hb⟩
        have HJ5:=hide ((un HJ4).later hb)
        have HZ5:=hide ((un HZ4).later hb)
        clear hb
        refine hK _ _ ⟨un HSS _ (un HJ5),trivial⟩ ?_
        clear hK K
        refine wpR_op (i:=8) (o:=_) (by kernel_rfl) rfl rfl (fun K hK=>?_)
        go_simp
        refine(by_of 1 1 (-1) 0 0 0 0 0 1000 1000 0 0 1 0 0 0 0 0 1 1 1 1 (-2) 0 0 0 0 0 1000 1000 _ (by decide +kernel) (by decide +kernel) (by decide +kernel)).mono ?_
        rintro e W6 ⟨rfl,hb⟩
        have HJ6:=hide ((un HJ5).later hb)
        have HZ6:=hide ((un HZ5).later hb)
        clear hb
        refine hK _ _ ⟨un HSS _ (un HJ6),trivial⟩ ?_
        clear hK K
        refine wpR_late (i:=10) (o:=_) (by kernel_rfl) rfl rfl (by kernel_rfl) (fun K hK=>?_)
        refine wp_store_row 235 (.tmp 7) (.tmp 16) rfl g7 #[I 1,I 1,I (-2),I 0,I 0,I 0,I 0,I 0,I 1000,I 1000] rfl rfl 235 _ (un HZ6) (by rw[info43];rfl) rfl (by kernel_rfl) (hK _ _ trivial ?_)
        clear hK K
        refine wpR_done (by kernel_rfl) ?_
        have HN:=hide ((un HZ6).setRow #[I 1,I 1,I (-2),I 0,I 0,I 0,I 0,I 0,I 1000,I 1000])
        have HJN:Hid (JS w (W6.setRow g7 #[I 1,I 1,I (-2),I 0,I 0,I 0,I 0,I 0,I 1000,I 1000])):=(un HJ6).row (un HL) _
        generalize W6.setRow g7 #[I 1,I 1,I (-2),I 0,I 0,I 0,I 0,I 0,I 1000,I 1000]=U at HN HJN ⊢
        go_wp2_with fail
        go_meet
        exact⟨g7,rfl,un HN,un HJN⟩
    · skip
      go_simp
      have hb:=albel W0 (.cells #[I 0,I 0,I 0,I 0,I 0,I 0,I 0,I 0,I 0,I 0] 235)
      have HJ1:=hide ((un HJ0).later hb)
      refine hK _ _ ⟨un HSS _ (un HJ1),trivial⟩ ?_
      clear hK K hb
      have HZ1:Hid (OwnU (W0.alloc (.cells #[I 0,I 0,I 0,I 0,I 0,I 0,I 0,I 0,I 0,I 0] 235)) W0.heap.size 235 #[I 0,I 0,I 0,I 0,I 0,I 0,I 0,I 0,I 0,I 0]):=OwnU.new _ _ _
      have HL:Hid (w.heap.size+3<W0.heap.size):=(un HJ0).r.lt
      obtain⟨W1,hW1⟩:∃W1,W1=W0.alloc (.cells #[I 0,I 0,I 0,I 0,I 0,I 0,I 0,I 0,I 0,I 0] 235):=⟨_,rfl⟩
      obtain⟨g7,hg7⟩:∃g7,g7=W0.heap.size:=⟨_,rfl⟩
      rw[←hW1]at HJ1 HZ1 ⊢
      rw[←hg7]at HZ1 HL ⊢
      clear hW1 hg7
      refine wpR_op (i:=0) (o:=_) (by kernel_rfl) rfl rfl (fun K hK=>?_)
      go_simp
      refine(number_any 1000 _).mono ?_
      rintro e W2 ⟨rfl,hb⟩
      have HJ2:=hide ((un HJ1).later hb)
      have HZ2:=hide ((un HZ1).later hb)
      clear hb
      refine hK _ _ ⟨un HSS _ (un HJ2),trivial⟩ ?_
      clear hK K
      refine wpR_op (i:=2) (o:=_) (by kernel_rfl) rfl rfl (fun K hK=>?_)
      go_simp
      refine(times_of 0 0 0 0 0 0 0 0 1000 1 0 1 0 0 0 0 0 0 1 1000 0 1 0 0 0 0 0 0 1000 1000 _ (by decide +kernel) (by decide +kernel) (by decide +kernel)).mono ?_
      rintro e W3 ⟨rfl,hb⟩
      have HJ3:=hide ((un HJ2).later hb)
      have HZ3:=hide ((un HZ2).later hb)
      clear hb
      refine hK _ _ ⟨un HSS _ (un HJ3),trivial⟩ ?_
      clear hK K
      refine wpR_op (i:=4) (o:=_) (by kernel_rfl) rfl rfl (fun K hK=>?_)
      go_simp
      refine(times_of 0 1 0 0 0 0 0 0 1000 1000 1 0 0 0 0 0 0 0 1 1 1 1 0 0 0 0 0 0 1000 1000 _ (by decide +kernel) (by decide +kernel) (by decide +kernel)).mono ?_
      rintro e W4 ⟨rfl,hb⟩
      have HJ4:=hide ((un HJ3).later hb)
      have HZ4:=hide ((un HZ3).later hb)
      clear hb
      refine hK _ _ ⟨un HSS _ (un HJ4),trivial⟩ ?_
      clear hK K
      refine wpR_op (i:=6) (o:=_) (by kernel_rfl) rfl rfl (fun K hK=>?_)
      go_simp
      refine(by_of 1 1 0 0 0 0 0 0 1000 1000 0 0 1 0 0 0 0 0 1 1 1 1 (-1) 0 0 0 0 0 1000 1000 _ (by decide +kernel) (by decide +kernel) (by decide +kernel)).mono ?_
      rintro e W5 ⟨rfl,hb⟩
      have HJ5:=hide ((un HJ4).later hb)
      have HZ5:=hide ((un HZ4).later hb)
      clear hb
      refine hK _ _ ⟨un HSS _ (un HJ5),trivial⟩ ?_
      clear hK K
      refine wpR_op (i:=8) (o:=_) (by kernel_rfl) rfl rfl (fun K hK=>?_)
      go_simp
      refine(by_of 1 1 (-1) 0 0 0 0 0 1000 1000 0 0 1 0 0 0 0 0 1 1 1 1 (-2) 0 0 0 0 0 1000 1000 _ (by decide +kernel) (by decide +kernel) (by decide +kernel)).mono ?_
      rintro e W6 ⟨rfl,hb⟩
      have HJ6:=hide ((un HJ5).later hb)
      have HZ6:=hide ((un HZ5).later hb)
      clear hb
      refine hK _ _ ⟨un HSS _ (un HJ6),trivial⟩ ?_
      clear hK K
      refine wpR_late (i:=10) (o:=_) (by kernel_rfl) rfl rfl (by kernel_rfl) (fun K hK=>?_)
      refine wp_store_row 235 (.tmp 7) (.tmp 16) rfl g7 #[I 1,I 1,I (-2),I 0,I 0,I 0,I 0,I 0,I 1000,I 1000] rfl rfl 235 _ (un HZ6) (by rw[info43];rfl) rfl (by kernel_rfl) (hK _ _ trivial ?_)
      clear hK K
      refine wpR_done (by kernel_rfl) ?_
      have HN:=hide ((un HZ6).setRow #[I 1,I 1,I (-2),I 0,I 0,I 0,I 0,I 0,I 1000,I 1000])
      have HJN:Hid (JS w (W6.setRow g7 #[I 1,I 1,I (-2),I 0,I 0,I 0,I 0,I 0,I 1000,I 1000])):=(un HJ6).row (un HL) _
      generalize W6.setRow g7 #[I 1,I 1,I (-2),I 0,I 0,I 0,I 0,I 0,I 1000,I 1000]=U at HN HJN ⊢
      go_wp2_with fail
      go_meet
      exact⟨g7,rfl,un HN,un HJN⟩
  case rest=>
    obtain⟨g7,rfl,HN,HJ1⟩:=hcut
    generalize wc=U at HN HJ1 ⊢
    clear HJ HSS
    have m0:U.cell? ⟨w.heap.size,0,none⟩=some (I 1):=(un HJ1).m.ub.c 0 _ rfl;have m1:U.cell? ⟨w.heap.size,1,none⟩=some (I 0):=(un HJ1).m.ub.c 1 _ rfl;have m2:U.cell? ⟨w.heap.size,2,none⟩=some (I 0):=(un HJ1).m.ub.c 2 _ rfl;have m3:U.cell? ⟨w.heap.size,3,none⟩=some (I 0):=(un HJ1).m.ub.c 3 _ rfl;have m4:U.cell? ⟨w.heap.size,4,none⟩=some (I 0):=(un HJ1).m.ub.c 4 _ rfl;have m5:U.cell? ⟨w.heap.size,5,none⟩=some (I 0):=(un HJ1).m.ub.c 5 _ rfl;have m6:U.cell? ⟨w.heap.size,6,none⟩=some (I 0):=(un HJ1).m.ub.c 6 _ rfl;have m7:U.cell? ⟨w.heap.size,7,none⟩=some (I 0):=(un HJ1).m.ub.c 7 _ rfl;have m8:U.cell? ⟨w.heap.size,8,none⟩=some (I 1):=(un HJ1).m.ub.c 8 _ rfl;have m9:U.cell? ⟨w.heap.size,9,none⟩=some (I 1):=(un HJ1).m.ub.c 9 _ rfl
    have n0:U.cell? ⟨g7,0,none⟩=some (I 1):=(un HN).ub.c 0 _ rfl;have n1:U.cell? ⟨g7,1,none⟩=some (I 1):=(un HN).ub.c 1 _ rfl;have n2:U.cell? ⟨g7,2,none⟩=some (I (-2)):=(un HN).ub.c 2 _ rfl;have n3:U.cell? ⟨g7,3,none⟩=some (I 0):=(un HN).ub.c 3 _ rfl;have n4:U.cell? ⟨g7,4,none⟩=some (I 0):=(un HN).ub.c 4 _ rfl;have n5:U.cell? ⟨g7,5,none⟩=some (I 0):=(un HN).ub.c 5 _ rfl;have n6:U.cell? ⟨g7,6,none⟩=some (I 0):=(un HN).ub.c 6 _ rfl;have n7:U.cell? ⟨g7,7,none⟩=some (I 0):=(un HN).ub.c 7 _ rfl;have n8:U.cell? ⟨g7,8,none⟩=some (I 1000):=(un HN).ub.c 8 _ rfl;have n9:U.cell? ⟨g7,9,none⟩=some (I 1000):=(un HN).ub.c 9 _ rfl
    go_wp2_with fail
    refine(times_of 1 1 (-2) 0 0 0 0 0 1000 1000 1 0 0 0 0 0 0 0 1 1 2 1 (-2) 0 0 0 0 0 1000 1000 _ (by decide +kernel) (by decide +kernel) (by decide +kernel)).mono ?_
    rintro e W ⟨rfl,hb⟩
    have HJ2:=hide ((un HJ1).later hb)
    clear hb HJ1
    go_wp2_with (refine storeT 235 10 info43 rfl (.tmp 6) (.tmp 19) rfl (w.heap.size+3) #[I 0,I 0,I 0,I 0,I 0,I 0,I 0,I 0,I 0,I 0] #[I 2,I 1,I (-2),I 0,I 0,I 0,I 0,I 0,I 1000,I 1000] rfl rfl rfl rfl (un HJ2).r (by kernel_rfl) ?_)
    exact bodyPost_ret (v:=.agg #[I 2,I 1,I (-2),I 0,I 0,I 0,I 0,I 0,I 1000,I 1000]) (res43 Tryz.results264 _ _ (w.heap.size+3) _ rfl rfl ((un HJ2).r.setRow _)) rfl ⟨rfl,below_setRow (un HJ2).below (by omega) _⟩
end Go.Proofs.YtliadckofhblnaaGreatDoor

/- Groups of si, made. -/
import Derived.Test.YtliadckofhblnaaGreatDoorLimb3
import Derived.Test.YtliadckofhblnaaGreatDoorSi6
namespace Go.Proofs.YtliadckofhblnaaGreatDoor
open Go.RowKit
set_option maxRecDepth 100000 in
set_option maxHeartbeats 8000000 in
theorem fill_rays (g:Nat) (b1:Nat) (b2:Nat) (w:World) (hg:OwnU w g 286 gZero) (h1:OwnU w b1 180 #[I 0,I 0,I (-1),I 0,I 0,I 0,I 0,I 0,I 1,I 1]) (n1:¬b1=g) (h2:OwnU w b2 180 #[I 2,I 1,I (-2),I 0,I 0,I 0,I 0,I 0,I 1,I 1]) (n2:¬b2=g) :
    Calls Tryz.prog 322 #[.func (.func 367) #[] #[.pointer (some ⟨g,0,none⟩)],.pointer (some ⟨b1,0,none⟩),.pointer (some ⟨b2,0,none⟩)] w fun e w'=>e=.returned (.tuple #[])∧OwnU w' g 286 g_rays4∧Onto w w' g:=by
  have HF0:Hid (FS w w g gZero [(b1,#[I 0,I 0,I (-1),I 0,I 0,I 0,I 0,I 0,I 1,I 1]),(b2,#[I 2,I 1,I (-2),I 0,I 0,I 0,I 0,I 0,I 1,I 1])]):=⟨hg,Onto.of_below (Below.refl _ _),fun p hp=>(by simp only[List.mem_cons,List.not_mem_nil,or_false]at hp;rcases hp with rfl|rfl<;>first|exact⟨n1,h1⟩|exact⟨n2,h2⟩)⟩
  clear hg h1 n1 h2 n2
  go_enter Tryz.func322,Tryz.ntmps322
  have x0_0:w.cell? ⟨b1,0,none⟩=some (I 0):=((un HF0).bx (b1,#[I 0,I 0,I (-1),I 0,I 0,I 0,I 0,I 0,I 1,I 1]) (by simp)).2.ub.c 0 _ rfl;have x0_1:w.cell? ⟨b1,1,none⟩=some (I 0):=((un HF0).bx (b1,#[I 0,I 0,I (-1),I 0,I 0,I 0,I 0,I 0,I 1,I 1]) (by simp)).2.ub.c 1 _ rfl;have x0_2:w.cell? ⟨b1,2,none⟩=some (I (-1)):=((un HF0).bx (b1,#[I 0,I 0,I (-1),I 0,I 0,I 0,I 0,I 0,I 1,I 1]) (by simp)).2.ub.c 2 _ rfl;have x0_3:w.cell? ⟨b1,3,none⟩=some (I 0):=((un HF0).bx (b1,#[I 0,I 0,I (-1),I 0,I 0,I 0,I 0,I 0,I 1,I 1]) (by simp)).2.ub.c 3 _ rfl;have x0_4:w.cell? ⟨b1,4,none⟩=some (I 0):=((un HF0).bx (b1,#[I 0,I 0,I (-1),I 0,I 0,I 0,I 0,I 0,I 1,I 1]) (by simp)).2.ub.c 4 _ rfl;have x0_5:w.cell? ⟨b1,5,none⟩=some (I 0):=((un HF0).bx (b1,#[I 0,I 0,I (-1),I 0,I 0,I 0,I 0,I 0,I 1,I 1]) (by simp)).2.ub.c 5 _ rfl;have x0_6:w.cell? ⟨b1,6,none⟩=some (I 0):=((un HF0).bx (b1,#[I 0,I 0,I (-1),I 0,I 0,I 0,I 0,I 0,I 1,I 1]) (by simp)).2.ub.c 6 _ rfl;have x0_7:w.cell? ⟨b1,7,none⟩=some (I 0):=((un HF0).bx (b1,#[I 0,I 0,I (-1),I 0,I 0,I 0,I 0,I 0,I 1,I 1]) (by simp)).2.ub.c 7 _ rfl;have x0_8:w.cell? ⟨b1,8,none⟩=some (I 1):=((un HF0).bx (b1,#[I 0,I 0,I (-1),I 0,I 0,I 0,I 0,I 0,I 1,I 1]) (by simp)).2.ub.c 8 _ rfl;have x0_9:w.cell? ⟨b1,9,none⟩=some (I 1):=((un HF0).bx (b1,#[I 0,I 0,I (-1),I 0,I 0,I 0,I 0,I 0,I 1,I 1]) (by simp)).2.ub.c 9 _ rfl
  go_upto_region 1 with (first
    | (go_at_call 367;go_must(refine(put0_of 0 0 (-1) 0 0 0 0 0 1 1 g gZero g_rays1 _ (un HF0).gr rfl rfl (by kernel_rfl)).mono ?_;rintro e W1 ⟨rfl,hg1,ho1⟩;have HF1:=hide ((un HF0).put hg1 ho1);clear hg1 ho1 x0_0 x0_1 x0_2 x0_3 x0_4 x0_5 x0_6 x0_7 x0_8 x0_9)))
  go_wp2_with fail
  go_cut [4]from 8 (fun s9 wx=>∃k,s9=.pointer (some ⟨k,0,none⟩)∧Hid (FS w wx g g_rays2 ((k,#[I 2,I 0,I (-2),I 0,I 0,I 0,I 0,I 0,I 1,I 1]) :: [(b1,#[I 0,I 0,I (-1),I 0,I 0,I 0,I 0,I 0,I 1,I 1]),(b2,#[I 2,I 1,I (-2),I 0,I 0,I 0,I 0,I 0,I 1,I 1])])))
  case first=>
    have HSS:Hid (∀(W':World) (vs:Array Value),FS w W' g vs [(b1,#[I 0,I 0,I (-1),I 0,I 0,I 0,I 0,I 0,I 1,I 1]),(b2,#[I 2,I 1,I (-2),I 0,I 0,I 0,I 0,I 0,I 1,I 1])]→W'.cell? ⟨b2,0,none⟩=some (I 2)∧W'.cell? ⟨b2,1,none⟩=some (I 1)∧W'.cell? ⟨b2,2,none⟩=some (I (-2))∧W'.cell? ⟨b2,3,none⟩=some (I 0)∧W'.cell? ⟨b2,4,none⟩=some (I 0)∧W'.cell? ⟨b2,5,none⟩=some (I 0)∧W'.cell? ⟨b2,6,none⟩=some (I 0)∧W'.cell? ⟨b2,7,none⟩=some (I 0)∧W'.cell? ⟨b2,8,none⟩=some (I 1)∧W'.cell? ⟨b2,9,none⟩=some (I 1)):=fun W' vs h=>⟨((h.bx (b2,#[I 2,I 1,I (-2),I 0,I 0,I 0,I 0,I 0,I 1,I 1]) (by simp)).2.ub.c 0 _ rfl),((h.bx (b2,#[I 2,I 1,I (-2),I 0,I 0,I 0,I 0,I 0,I 1,I 1]) (by simp)).2.ub.c 1 _ rfl),((h.bx (b2,#[I 2,I 1,I (-2),I 0,I 0,I 0,I 0,I 0,I 1,I 1]) (by simp)).2.ub.c 2 _ rfl),((h.bx (b2,#[I 2,I 1,I (-2),I 0,I 0,I 0,I 0,I 0,I 1,I 1]) (by simp)).2.ub.c 3 _ rfl),((h.bx (b2,#[I 2,I 1,I (-2),I 0,I 0,I 0,I 0,I 0,I 1,I 1]) (by simp)).2.ub.c 4 _ rfl),((h.bx (b2,#[I 2,I 1,I (-2),I 0,I 0,I 0,I 0,I 0,I 1,I 1]) (by simp)).2.ub.c 5 _ rfl),((h.bx (b2,#[I 2,I 1,I (-2),I 0,I 0,I 0,I 0,I 0,I 1,I 1]) (by simp)).2.ub.c 6 _ rfl),((h.bx (b2,#[I 2,I 1,I (-2),I 0,I 0,I 0,I 0,I 0,I 1,I 1]) (by simp)).2.ub.c 7 _ rfl),((h.bx (b2,#[I 2,I 1,I (-2),I 0,I 0,I 0,I 0,I 0,I 1,I 1]) (by simp)).2.ub.c 8 _ rfl),((h.bx (b2,#[I 2,I 1,I (-2),I 0,I 0,I 0,I 0,I 0,I 1,I 1]) (by simp)).2.ub.c 9 _ rfl)⟩
    have HF2:Hid (FS w (W1.drew) g g_rays1 [(b1,#[I 0,I 0,I (-1),I 0,I 0,I 0,I 0,I 0,I 1,I 1]),(b2,#[I 2,I 1,I (-2),I 0,I 0,I 0,I 0,I 0,I 1,I 1])]):=(un HF1).later (Below.refl _ _).drew
    have HS2:=hide (un HSS _ _ (un HF2))
    refine region_reads 6 (fun _=>True) (fun W'=>W'.cell? ⟨b2,0,none⟩=some (I 2)∧W'.cell? ⟨b2,1,none⟩=some (I 1)∧W'.cell? ⟨b2,2,none⟩=some (I (-2))∧W'.cell? ⟨b2,3,none⟩=some (I 0)∧W'.cell? ⟨b2,4,none⟩=some (I 0)∧W'.cell? ⟨b2,5,none⟩=some (I 0)∧W'.cell? ⟨b2,6,none⟩=some (I 0)∧W'.cell? ⟨b2,7,none⟩=some (I 0)∧W'.cell? ⟨b2,8,none⟩=some (I 1)∧W'.cell? ⟨b2,9,none⟩=some (I 1)) 7 rfl (by kernel_rfl) ?_
    refine wpR_take7 (i:=0) (oi:=_) (v:=.func (.func 367) #[] #[.pointer (some ⟨g,0,none⟩)]) rfl (by kernel_rfl) (by kernel_rfl) (by kernel_rfl) (by kernel_rfl) (fun _ _ _ h=>h) (Or.inl ⟨by rfl,?_⟩) ⟨trivial,un HS2⟩ ?_
    · intro W hW
      go_split_ands
      go_simp
    refine wpR_take7 (i:=1) (oi:=_) (v:=.agg #[I 2,I 1,I (-2),I 0,I 0,I 0,I 0,I 0,I 1,I 1]) rfl (by kernel_rfl) (by kernel_rfl) (by kernel_rfl) (by kernel_rfl) (fun _ _ _ h=>h) (Or.inl ⟨by rfl,?_⟩) ⟨trivial,un HS2⟩ ?_
    · intro W hW
      go_split_ands
      go_simp
    clear HS2
    generalize W1.drew=W2 at *
    refine wpR_two (i:=2) (j:=5) (by kernel_rfl) rfl rfl rfl rfl (fun K hK=>?_) (fun K hK=>?_)
    · skip
      go_simp
      refine(siOne1 _).mono ?_
      rintro e W3 ⟨rfl,hb⟩
      have HF3:=hide ((un HF2).later hb)
      clear hb
      refine hK _ _ ⟨trivial,un HSS _ _ (un HF3)⟩ ?_
      clear hK K
      refine wpR_two (i:=3) (j:=5) (by kernel_rfl) rfl rfl rfl rfl (fun K hK=>?_) (fun K hK=>?_)
      · skip
        go_simp
        refine(by_si 2 1 (-2) 0 0 0 0 0 1 1 0 1 0 0 0 0 0 0 1 1 2 0 (-2) 0 0 0 0 0 1 1 _ (by decide +kernel)).mono ?_
        rintro e W4 ⟨rfl,hb⟩
        have HF4:=hide ((un HF3).later hb)
        clear hb
        refine hK _ _ ⟨trivial,un HSS _ _ (un HF4)⟩ ?_
        clear hK K
        refine wpR_two (i:=4) (j:=5) (by kernel_rfl) rfl rfl rfl rfl (fun K hK=>?_) (fun K hK=>?_)
        · skip
          go_simp
          refine(put1_of 2 0 (-2) 0 0 0 0 0 1 1 g g_rays1 g_rays2 _ (un HF4).gr rfl rfl (by kernel_rfl)).mono ?_
          rintro e W5 ⟨rfl,hg1,ho1⟩
          have HF5:=hide ((un HF4).put hg1 ho1)
          clear hg1 ho1
          refine hK _ _ ⟨trivial,un HSS _ _ (un HF5)⟩ ?_
          clear hK K
          refine wpR_op (i:=5) (o:=_) (by kernel_rfl) rfl rfl (fun K hK=>?_)
          go_simp
          have HL:Hid (w.heap.size≤W5.heap.size∧∀p:Nat×Array Value,p∈([(b1,#[I 0,I 0,I (-1),I 0,I 0,I 0,I 0,I 0,I 1,I 1]),(b2,#[I 2,I 1,I (-2),I 0,I 0,I 0,I 0,I 0,I 1,I 1])]:List (Nat×Array Value))→¬W5.heap.size=p.1):=⟨(un HF5).on.size,fun p hp=>Nat.ne_of_gt ((un HF5).bx p hp).2.lt⟩
          have HF6:=hide ((un HF5).alloc z10)
          refine hK _ _ ⟨trivial,un HSS _ _ (un HF6).tail⟩ ?_
          clear hK K
          generalize hW6:W5.alloc (.cells z10 180)=W6 at *
          clear hW6
          generalize W5.heap.size=k at *
          have HFE:=hide ((un HF6).row (un HL).1 (un HL).2 #[I 2,I 0,I (-2),I 0,I 0,I 0,I 0,I 0,I 1,I 1])
          refine wpR_late (i:=6) (o:=_) (by kernel_rfl) rfl rfl (by kernel_rfl) (fun K hK=>?_)
          refine wp_store_row 180 (.tmp 4) (.tmp 12) rfl k #[I 2,I 0,I (-2),I 0,I 0,I 0,I 0,I 0,I 1,I 1] rfl rfl 180 _ ((un HF6).bx (k,z10) (by simp)).2 (by rw[info55];rfl) rfl (by kernel_rfl) (hK _ _ (un HSS _ _ (un HFE).tail) ?_)
          clear hK K
          refine wpR_done (by kernel_rfl) ?_
          generalize W6.setRow k #[I 2,I 0,I (-2),I 0,I 0,I 0,I 0,I 0,I 1,I 1]=U at HFE ⊢
          go_wp2_with fail
          go_meet
          exact⟨k,rfl,HFE⟩
        · skip
          go_simp
          have HL:Hid (w.heap.size≤W4.heap.size∧∀p:Nat×Array Value,p∈([(b1,#[I 0,I 0,I (-1),I 0,I 0,I 0,I 0,I 0,I 1,I 1]),(b2,#[I 2,I 1,I (-2),I 0,I 0,I 0,I 0,I 0,I 1,I 1])]:List (Nat×Array Value))→¬W4.heap.size=p.1):=⟨(un HF4).on.size,fun p hp=>Nat.ne_of_gt ((un HF4).bx p hp).2.lt⟩
          have HF5:=hide ((un HF4).alloc z10)
          refine hK _ _ ⟨trivial,un HSS _ _ (un HF5).tail⟩ ?_
          clear hK K
          generalize hW5:W4.alloc (.cells z10 180)=W5 at *
          clear hW5
          generalize W4.heap.size=k at *
          refine wpR_op (i:=4) (o:=_) (by kernel_rfl) rfl rfl (fun K hK=>?_)
          go_simp
          refine(put1_of 2 0 (-2) 0 0 0 0 0 1 1 g g_rays1 g_rays2 _ (un HF5).gr rfl rfl (by kernel_rfl)).mono ?_
          rintro e W6 ⟨rfl,hg1,ho1⟩
          have HF6:=hide ((un HF5).put hg1 ho1)
          clear hg1 ho1
          refine hK _ _ ⟨trivial,un HSS _ _ ((un HF6).tail)⟩ ?_
          clear hK K
          have HFE:=hide ((un HF6).row (un HL).1 (un HL).2 #[I 2,I 0,I (-2),I 0,I 0,I 0,I 0,I 0,I 1,I 1])
          refine wpR_late (i:=6) (o:=_) (by kernel_rfl) rfl rfl (by kernel_rfl) (fun K hK=>?_)
          refine wp_store_row 180 (.tmp 4) (.tmp 12) rfl k #[I 2,I 0,I (-2),I 0,I 0,I 0,I 0,I 0,I 1,I 1] rfl rfl 180 _ ((un HF6).bx (k,z10) (by simp)).2 (by rw[info55];rfl) rfl (by kernel_rfl) (hK _ _ (un HSS _ _ (un HFE).tail) ?_)
          clear hK K
          refine wpR_done (by kernel_rfl) ?_
          generalize W6.setRow k #[I 2,I 0,I (-2),I 0,I 0,I 0,I 0,I 0,I 1,I 1]=U at HFE ⊢
          go_wp2_with fail
          go_meet
          exact⟨k,rfl,HFE⟩
      · skip
        go_simp
        have HL:Hid (w.heap.size≤W3.heap.size∧∀p:Nat×Array Value,p∈([(b1,#[I 0,I 0,I (-1),I 0,I 0,I 0,I 0,I 0,I 1,I 1]),(b2,#[I 2,I 1,I (-2),I 0,I 0,I 0,I 0,I 0,I 1,I 1])]:List (Nat×Array Value))→¬W3.heap.size=p.1):=⟨(un HF3).on.size,fun p hp=>Nat.ne_of_gt ((un HF3).bx p hp).2.lt⟩
        have HF4:=hide ((un HF3).alloc z10)
        refine hK _ _ ⟨trivial,un HSS _ _ (un HF4).tail⟩ ?_
        clear hK K
        generalize hW4:W3.alloc (.cells z10 180)=W4 at *
        clear hW4
        generalize W3.heap.size=k at *
        refine wpR_op (i:=3) (o:=_) (by kernel_rfl) rfl rfl (fun K hK=>?_)
        go_simp
        refine(by_si 2 1 (-2) 0 0 0 0 0 1 1 0 1 0 0 0 0 0 0 1 1 2 0 (-2) 0 0 0 0 0 1 1 _ (by decide +kernel)).mono ?_
        rintro e W5 ⟨rfl,hb⟩
        have HF5:=hide ((un HF4).later hb)
        clear hb
        refine hK _ _ ⟨trivial,un HSS _ _ ((un HF5).tail)⟩ ?_
        clear hK K
        refine wpR_op (i:=4) (o:=_) (by kernel_rfl) rfl rfl (fun K hK=>?_)
        go_simp
        refine(put1_of 2 0 (-2) 0 0 0 0 0 1 1 g g_rays1 g_rays2 _ (un HF5).gr rfl rfl (by kernel_rfl)).mono ?_
        rintro e W6 ⟨rfl,hg1,ho1⟩
        have HF6:=hide ((un HF5).put hg1 ho1)
        clear hg1 ho1
        refine hK _ _ ⟨trivial,un HSS _ _ ((un HF6).tail)⟩ ?_
        clear hK K
        have HFE:=hide ((un HF6).row (un HL).1 (un HL).2 #[I 2,I 0,I (-2),I 0,I 0,I 0,I 0,I 0,I 1,I 1])
        refine wpR_late (i:=6) (o:=_) (by kernel_rfl) rfl rfl (by kernel_rfl) (fun K hK=>?_)
        refine wp_store_row 180 (.tmp 4) (.tmp 12) rfl k #[I 2,I 0,I (-2),I 0,I 0,I 0,I 0,I 0,I 1,I 1] rfl rfl 180 _ ((un HF6).bx (k,z10) (by simp)).2 (by rw[info55];rfl) rfl (by kernel_rfl) (hK _ _ (un HSS _ _ (un HFE).tail) ?_)
        clear hK K
        refine wpR_done (by kernel_rfl) ?_
        generalize W6.setRow k #[I 2,I 0,I (-2),I 0,I 0,I 0,I 0,I 0,I 1,I 1]=U at HFE ⊢
        go_wp2_with fail
        go_meet
        exact⟨k,rfl,HFE⟩
    · skip
      go_simp
      have HL:Hid (w.heap.size≤W2.heap.size∧∀p:Nat×Array Value,p∈([(b1,#[I 0,I 0,I (-1),I 0,I 0,I 0,I 0,I 0,I 1,I 1]),(b2,#[I 2,I 1,I (-2),I 0,I 0,I 0,I 0,I 0,I 1,I 1])]:List (Nat×Array Value))→¬W2.heap.size=p.1):=⟨(un HF2).on.size,fun p hp=>Nat.ne_of_gt ((un HF2).bx p hp).2.lt⟩
      have HF3:=hide ((un HF2).alloc z10)
      refine hK _ _ ⟨trivial,un HSS _ _ (un HF3).tail⟩ ?_
      clear hK K
      generalize hW3:W2.alloc (.cells z10 180)=W3 at *
      clear hW3
      generalize W2.heap.size=k at *
      refine wpR_op (i:=2) (o:=_) (by kernel_rfl) rfl rfl (fun K hK=>?_)
      go_simp
      refine(siOne1 _).mono ?_
      rintro e W4 ⟨rfl,hb⟩
      have HF4:=hide ((un HF3).later hb)
      clear hb
      refine hK _ _ ⟨trivial,un HSS _ _ ((un HF4).tail)⟩ ?_
      clear hK K
      refine wpR_op (i:=3) (o:=_) (by kernel_rfl) rfl rfl (fun K hK=>?_)
      go_simp
      refine(by_si 2 1 (-2) 0 0 0 0 0 1 1 0 1 0 0 0 0 0 0 1 1 2 0 (-2) 0 0 0 0 0 1 1 _ (by decide +kernel)).mono ?_
      rintro e W5 ⟨rfl,hb⟩
      have HF5:=hide ((un HF4).later hb)
      clear hb
      refine hK _ _ ⟨trivial,un HSS _ _ ((un HF5).tail)⟩ ?_
      clear hK K
      refine wpR_op (i:=4) (o:=_) (by kernel_rfl) rfl rfl (fun K hK=>?_)
      go_simp
      refine(put1_of 2 0 (-2) 0 0 0 0 0 1 1 g g_rays1 g_rays2 _ (un HF5).gr rfl rfl (by kernel_rfl)).mono ?_
      rintro e W6 ⟨rfl,hg1,ho1⟩
      have HF6:=hide ((un HF5).put hg1 ho1)
      clear hg1 ho1
      refine hK _ _ ⟨trivial,un HSS _ _ ((un HF6).tail)⟩ ?_
      clear hK K
      have HFE:=hide ((un HF6).row (un HL).1 (un HL).2 #[I 2,I 0,I (-2),I 0,I 0,I 0,I 0,I 0,I 1,I 1])
      refine wpR_late (i:=6) (o:=_) (by kernel_rfl) rfl rfl (by kernel_rfl) (fun K hK=>?_)
      refine wp_store_row 180 (.tmp 4) (.tmp 12) rfl k #[I 2,I 0,I (-2),I 0,I 0,I 0,I 0,I 0,I 1,I 1] rfl rfl 180 _ ((un HF6).bx (k,z10) (by simp)).2 (by rw[info55];rfl) rfl (by kernel_rfl) (hK _ _ (un HSS _ _ (un HFE).tail) ?_)
      clear hK K
      refine wpR_done (by kernel_rfl) ?_
      generalize W6.setRow k #[I 2,I 0,I (-2),I 0,I 0,I 0,I 0,I 0,I 1,I 1]=U at HFE ⊢
      go_wp2_with fail
      go_meet
      exact⟨k,rfl,HFE⟩
  case rest=>
    obtain⟨k4,rfl,HF21⟩:=hcut
    generalize wc=W21 at HF21 ⊢
    have x0_0:W21.cell? ⟨k4,0,none⟩=some (I 2):=((un HF21).bx (k4,#[I 2,I 0,I (-2),I 0,I 0,I 0,I 0,I 0,I 1,I 1]) (by simp)).2.ub.c 0 _ rfl;have x0_1:W21.cell? ⟨k4,1,none⟩=some (I 0):=((un HF21).bx (k4,#[I 2,I 0,I (-2),I 0,I 0,I 0,I 0,I 0,I 1,I 1]) (by simp)).2.ub.c 1 _ rfl;have x0_2:W21.cell? ⟨k4,2,none⟩=some (I (-2)):=((un HF21).bx (k4,#[I 2,I 0,I (-2),I 0,I 0,I 0,I 0,I 0,I 1,I 1]) (by simp)).2.ub.c 2 _ rfl;have x0_3:W21.cell? ⟨k4,3,none⟩=some (I 0):=((un HF21).bx (k4,#[I 2,I 0,I (-2),I 0,I 0,I 0,I 0,I 0,I 1,I 1]) (by simp)).2.ub.c 3 _ rfl;have x0_4:W21.cell? ⟨k4,4,none⟩=some (I 0):=((un HF21).bx (k4,#[I 2,I 0,I (-2),I 0,I 0,I 0,I 0,I 0,I 1,I 1]) (by simp)).2.ub.c 4 _ rfl;have x0_5:W21.cell? ⟨k4,5,none⟩=some (I 0):=((un HF21).bx (k4,#[I 2,I 0,I (-2),I 0,I 0,I 0,I 0,I 0,I 1,I 1]) (by simp)).2.ub.c 5 _ rfl;have x0_6:W21.cell? ⟨k4,6,none⟩=some (I 0):=((un HF21).bx (k4,#[I 2,I 0,I (-2),I 0,I 0,I 0,I 0,I 0,I 1,I 1]) (by simp)).2.ub.c 6 _ rfl;have x0_7:W21.cell? ⟨k4,7,none⟩=some (I 0):=((un HF21).bx (k4,#[I 2,I 0,I (-2),I 0,I 0,I 0,I 0,I 0,I 1,I 1]) (by simp)).2.ub.c 7 _ rfl;have x0_8:W21.cell? ⟨k4,8,none⟩=some (I 1):=((un HF21).bx (k4,#[I 2,I 0,I (-2),I 0,I 0,I 0,I 0,I 0,I 1,I 1]) (by simp)).2.ub.c 8 _ rfl;have x0_9:W21.cell? ⟨k4,9,none⟩=some (I 1):=((un HF21).bx (k4,#[I 2,I 0,I (-2),I 0,I 0,I 0,I 0,I 0,I 1,I 1]) (by simp)).2.ub.c 9 _ rfl
    go_upto_region 3 with (first
    | (go_at_call 367;go_must(refine(put2_of 2 0 (-2) 0 0 0 0 0 1 1 g g_rays2 g_rays3 _ (un HF21).gr rfl rfl (by kernel_rfl)).mono ?_;rintro e W22 ⟨rfl,hg1,ho1⟩;have HF22:=hide ((un HF21).put hg1 ho1);clear hg1 ho1 x0_0 x0_1 x0_2 x0_3 x0_4 x0_5 x0_6 x0_7 x0_8 x0_9)))
    go_upto_region 3 with fail
    have HSS:Hid (∀(W':World) (vs:Array Value),FS w W' g vs [(k4,#[I 2,I 0,I (-2),I 0,I 0,I 0,I 0,I 0,I 1,I 1]),(b1,#[I 0,I 0,I (-1),I 0,I 0,I 0,I 0,I 0,I 1,I 1]),(b2,#[I 2,I 1,I (-2),I 0,I 0,I 0,I 0,I 0,I 1,I 1])]→W'.cell? ⟨b1,0,none⟩=some (I 0)∧W'.cell? ⟨b1,1,none⟩=some (I 0)∧W'.cell? ⟨b1,2,none⟩=some (I (-1))∧W'.cell? ⟨b1,3,none⟩=some (I 0)∧W'.cell? ⟨b1,4,none⟩=some (I 0)∧W'.cell? ⟨b1,5,none⟩=some (I 0)∧W'.cell? ⟨b1,6,none⟩=some (I 0)∧W'.cell? ⟨b1,7,none⟩=some (I 0)∧W'.cell? ⟨b1,8,none⟩=some (I 1)∧W'.cell? ⟨b1,9,none⟩=some (I 1)):=fun W' vs h=>⟨((h.bx (b1,#[I 0,I 0,I (-1),I 0,I 0,I 0,I 0,I 0,I 1,I 1]) (by simp)).2.ub.c 0 _ rfl),((h.bx (b1,#[I 0,I 0,I (-1),I 0,I 0,I 0,I 0,I 0,I 1,I 1]) (by simp)).2.ub.c 1 _ rfl),((h.bx (b1,#[I 0,I 0,I (-1),I 0,I 0,I 0,I 0,I 0,I 1,I 1]) (by simp)).2.ub.c 2 _ rfl),((h.bx (b1,#[I 0,I 0,I (-1),I 0,I 0,I 0,I 0,I 0,I 1,I 1]) (by simp)).2.ub.c 3 _ rfl),((h.bx (b1,#[I 0,I 0,I (-1),I 0,I 0,I 0,I 0,I 0,I 1,I 1]) (by simp)).2.ub.c 4 _ rfl),((h.bx (b1,#[I 0,I 0,I (-1),I 0,I 0,I 0,I 0,I 0,I 1,I 1]) (by simp)).2.ub.c 5 _ rfl),((h.bx (b1,#[I 0,I 0,I (-1),I 0,I 0,I 0,I 0,I 0,I 1,I 1]) (by simp)).2.ub.c 6 _ rfl),((h.bx (b1,#[I 0,I 0,I (-1),I 0,I 0,I 0,I 0,I 0,I 1,I 1]) (by simp)).2.ub.c 7 _ rfl),((h.bx (b1,#[I 0,I 0,I (-1),I 0,I 0,I 0,I 0,I 0,I 1,I 1]) (by simp)).2.ub.c 8 _ rfl),((h.bx (b1,#[I 0,I 0,I (-1),I 0,I 0,I 0,I 0,I 0,I 1,I 1]) (by simp)).2.ub.c 9 _ rfl)⟩
    have HF23:Hid (FS w (W22.drew) g g_rays3 [(k4,#[I 2,I 0,I (-2),I 0,I 0,I 0,I 0,I 0,I 1,I 1]),(b1,#[I 0,I 0,I (-1),I 0,I 0,I 0,I 0,I 0,I 1,I 1]),(b2,#[I 2,I 1,I (-2),I 0,I 0,I 0,I 0,I 0,I 1,I 1])]):=(un HF22).later (Below.refl _ _).drew
    have HS23:=hide (un HSS _ _ (un HF23))
    refine region_reads 4 (fun _=>True) (fun W'=>W'.cell? ⟨b1,0,none⟩=some (I 0)∧W'.cell? ⟨b1,1,none⟩=some (I 0)∧W'.cell? ⟨b1,2,none⟩=some (I (-1))∧W'.cell? ⟨b1,3,none⟩=some (I 0)∧W'.cell? ⟨b1,4,none⟩=some (I 0)∧W'.cell? ⟨b1,5,none⟩=some (I 0)∧W'.cell? ⟨b1,6,none⟩=some (I 0)∧W'.cell? ⟨b1,7,none⟩=some (I 0)∧W'.cell? ⟨b1,8,none⟩=some (I 1)∧W'.cell? ⟨b1,9,none⟩=some (I 1)) 5 rfl (by kernel_rfl) ?_
    refine wpR_take7 (i:=0) (oi:=_) (v:=.func (.func 367) #[] #[.pointer (some ⟨g,0,none⟩)]) rfl (by kernel_rfl) (by kernel_rfl) (by kernel_rfl) (by kernel_rfl) (fun _ _ _ h=>h) (Or.inl ⟨by rfl,?_⟩) ⟨trivial,un HS23⟩ ?_
    · intro W hW
      go_split_ands
      go_simp
    refine wpR_take7 (i:=2) (oi:=_) (v:=.agg #[I 0,I 0,I (-1),I 0,I 0,I 0,I 0,I 0,I 1,I 1]) rfl (by kernel_rfl) (by kernel_rfl) (by kernel_rfl) (by kernel_rfl) (fun _ _ _ h=>h) (Or.inl ⟨by rfl,?_⟩) ⟨trivial,un HS23⟩ ?_
    · intro W hW
      go_split_ands
      go_simp
    refine wpR_op (i:=1) (o:=_) (by kernel_rfl) rfl rfl (fun K hK=>?_)
    go_simp
    refine(siOne5 _).mono ?_
    rintro e W24 ⟨rfl,hb⟩
    have HF24:=hide ((un HF23).later hb)
    clear hb
    refine hK _ _ ⟨trivial,un HSS _ _ (un HF24)⟩ ?_
    clear hK K
    refine wpR_op (i:=3) (o:=_) (by kernel_rfl) rfl rfl (fun K hK=>?_)
    go_simp
    refine(times_si 0 0 0 0 0 1 0 0 1 1 0 0 (-1) 0 0 0 0 0 1 1 0 0 (-1) 0 0 1 0 0 1 1 _ (by decide +kernel)).mono ?_
    rintro e W25 ⟨rfl,hb⟩
    have HF25:=hide ((un HF24).later hb)
    clear hb
    refine hK _ _ ⟨trivial,un HSS _ _ (un HF25)⟩ ?_
    clear hK K
    refine wpR_late (i:=4) (o:=_) (by kernel_rfl) rfl rfl (by kernel_rfl) (fun K hK=>?_)
    go_simp
    refine(put3_of 0 0 (-1) 0 0 1 0 0 1 1 g g_rays3 g_rays4 _ (un HF25).gr rfl rfl (by kernel_rfl)).mono ?_
    rintro e W26 ⟨rfl,hg1,ho1⟩
    have HF26:=hide ((un HF25).put hg1 ho1)
    clear hg1 ho1
    refine hK _ _ (un HSS _ _ (un HF26)) ?_
    clear hK K
    refine wpR_done (by kernel_rfl) ?_
    clear HSS HS23
    go_wp2_with fail
    go_end0
    exact⟨rfl,(un HF26).gr,(un HF26).on⟩
end Go.Proofs.YtliadckofhblnaaGreatDoor

namespace Go.Proofs.YtliadckofhblnaaGreatDoor
open Go.RowKit
theorem zc91:Tryz.zeroCells286=gZero:=by kernel_rfl
theorem info91:(Tryz.prog.info? 286).map (·.size)=some 81:=by kernel_rfl
theorem res91 {fn:Func} {p:Tmp} (h:fn.results=#[.cell p 286]) (tmps:Array Value) (w:World) (g:Nat) (vs:Array Value) (hl:vs.size=81) (hp:tmps.getD p undef=.pointer (some ⟨g,0,none⟩)) (ho:OwnU w g 286 vs) :
  (results fn tmps).run Tryz.prog w=.ok (.agg vs) w:=by
 rw[results_cell1 h,hp]
 simp only[asAddr,Sem.run_pure,Result.andThen_ok]
 rw[run_loadVar_row w g 286 286 vs (0,0) _ ho Tryz.underlying286 rfl (by rw[info91,hl])]
set_option maxRecDepth 100000 in
set_option maxHeartbeats 4000000 in
theorem grp_force (w:World):Calls Tryz.prog 312 #[.func (.func 313) #[] #[]] w fun e w'=>e=.returned (.agg g_force2)∧Below w.heap.size w w':=by
 obtain⟨V,hV⟩:∃V,V=(w.alloc (.cells Tryz.zeroCells286 286)).alloc (.cells Tryz.zeroCells286 286):=⟨_,rfl⟩
 obtain⟨g,hg⟩:∃g,g=w.heap.size+1:=⟨_,rfl⟩
 have HW:Hid (Below w.heap.size w V):=by rw[hV];exact((Below.refl _ _).alloc (Nat.le_refl _) _).alloc (by simp) _
 have HR:Hid (OwnU V w.heap.size 286 gZero):=by rw[hV,←zc91];exact(OwnU.new w _ 286).alloc _
 have HG:Hid (OwnU V g 286 gZero):=by rw[hV,hg,←zc91];have h:=OwnU.new (w.alloc (.cells Tryz.zeroCells286 286)) Tryz.zeroCells286 286;rw[Dm.size_alloc]at h;exact h
 have HN:Hid (¬w.heap.size=g∧w.heap.size≤g∧w.heap.size≤V.heap.size):=⟨by omega,by omega,(un HW).size⟩
 have HV:=hide hV
 clear hV
 go_enter Tryz.func312,Tryz.ntmps312
 go_upto_region 2 with fail
 rw[←un HV,←hg]
 clear HV hg
 go_upto_region 3 with (go_at_call 313;go_must(refine(fill_force g  _ (un HG) ).mono ?_;rintro e w1 ⟨rfl,hg1,ho1⟩;have HG1:=hide hg1;have HR1:=hide (ho1.own _ _ _ (un HN).1 (un HR));have HW1:=hide (ho1.bel w.heap.size w (un HN).2.1 (un HN).2.2 (un HW));clear hg1 ho1))
 go_wp2_with (first
  | (refine wpList_load_row rfl 286 (.tmp 3) rfl g rfl 286 g_force2 (0,0) _ (un HG1) Tryz.underlying286 rfl (by kernel_rfl) ?_)
  | (refine storeT 286 81 info91 rfl (.tmp 2) (.tmp 7) rfl w.heap.size gZero g_force2 rfl rfl rfl rfl (un HR1) (by kernel_rfl) ?_))
 exact bodyPost_ret (v:=.agg g_force2) (res91 Tryz.results312 _ _ w.heap.size _ rfl rfl ((un HR1).setRow _)) rfl ⟨rfl,below_setRow (un HW1) (Nat.le_refl _) _⟩
set_option maxRecDepth 100000 in
set_option maxHeartbeats 4000000 in
theorem made_force (w:World):Calls Tryz.prog 286 #[] w fun e w'=>e=.returned (.agg g_force2)∧Below w.heap.size w w':=by
 obtain⟨V,hV⟩:∃V,V=w.alloc (.cells Tryz.zeroCells286 286):=⟨_,rfl⟩
 have HW:Hid (Below w.heap.size w V):=by rw[hV];exact(Below.refl _ _).alloc (Nat.le_refl _) _
 have HR:Hid (OwnU V w.heap.size 286 gZero):=by rw[hV,←zc91];exact OwnU.new w _ 286
 have HV:=hide hV
 clear hV
 go_enter Tryz.func286,Tryz.ntmps286
 go_upto_region 1 with fail
 rw[←un HV]
 clear HV
 go_wp2_with (first
  | (go_at_call 312;go_must(refine(grp_force _).mono ?_;rintro e w1 ⟨rfl,hb⟩;have HR1:=hide ((un HR).later hb);have HW1:=hide ((un HW).trans (hb.mono (un HW).size));clear hb))
  | (refine storeT 286 81 info91 rfl (.tmp 0) (.tmp 1) rfl w.heap.size gZero g_force2 rfl rfl rfl rfl (un HR1) (by kernel_rfl) ?_))
 exact bodyPost_ret (v:=.agg g_force2) (res91 Tryz.results286 _ _ w.heap.size _ rfl rfl ((un HR1).setRow _)) rfl ⟨rfl,below_setRow (un HW1) (Nat.le_refl _) _⟩
set_option maxRecDepth 100000 in
set_option maxHeartbeats 4000000 in
theorem grp_energy (b1:Nat) (w:World) (h1:OwnU w b1 180 #[I 1,I 1,I (-2),I 0,I 0,I 0,I 0,I 0,I 1,I 1]):Calls Tryz.prog 312 #[.func (.func 317) #[] #[.pointer (some ⟨b1,0,none⟩)]] w fun e w'=>e=.returned (.agg g_energy1)∧Below w.heap.size w w':=by
 obtain⟨V,hV⟩:∃V,V=(w.alloc (.cells Tryz.zeroCells286 286)).alloc (.cells Tryz.zeroCells286 286):=⟨_,rfl⟩
 obtain⟨g,hg⟩:∃g,g=w.heap.size+1:=⟨_,rfl⟩
 have HW:Hid (Below w.heap.size w V):=by rw[hV];exact((Below.refl _ _).alloc (Nat.le_refl _) _).alloc (by simp) _
 have HR:Hid (OwnU V w.heap.size 286 gZero):=by rw[hV,←zc91];exact(OwnU.new w _ 286).alloc _
 have HG:Hid (OwnU V g 286 gZero):=by rw[hV,hg,←zc91];have h:=OwnU.new (w.alloc (.cells Tryz.zeroCells286 286)) Tryz.zeroCells286 286;rw[Dm.size_alloc]at h;exact h
 have HC1:Hid (OwnU V b1 180 #[I 1,I 1,I (-2),I 0,I 0,I 0,I 0,I 0,I 1,I 1]∧¬b1=g):=⟨h1.later (un HW),(by have:=h1.lt;omega)⟩
 have HN:Hid (¬w.heap.size=g∧w.heap.size≤g∧w.heap.size≤V.heap.size):=⟨by omega,by omega,(un HW).size⟩
 have HV:=hide hV
 clear hV h1
 go_enter Tryz.func312,Tryz.ntmps312
 go_upto_region 2 with fail
 rw[←un HV,←hg]
 clear HV hg
 go_upto_region 3 with (go_at_call 317;go_must(refine(fill_energy g b1 _ (un HG) (un HC1).1 (un HC1).2).mono ?_;rintro e w1 ⟨rfl,hg1,ho1⟩;have HG1:=hide hg1;have HR1:=hide (ho1.own _ _ _ (un HN).1 (un HR));have HW1:=hide (ho1.bel w.heap.size w (un HN).2.1 (un HN).2.2 (un HW));clear hg1 ho1))
 go_wp2_with (first
  | (refine wpList_load_row rfl 286 (.tmp 3) rfl g rfl 286 g_energy1 (0,0) _ (un HG1) Tryz.underlying286 rfl (by kernel_rfl) ?_)
  | (refine storeT 286 81 info91 rfl (.tmp 2) (.tmp 7) rfl w.heap.size gZero g_energy1 rfl rfl rfl rfl (un HR1) (by kernel_rfl) ?_))
 exact bodyPost_ret (v:=.agg g_energy1) (res91 Tryz.results312 _ _ w.heap.size _ rfl rfl ((un HR1).setRow _)) rfl ⟨rfl,below_setRow (un HW1) (Nat.le_refl _) _⟩
theorem fld_energy (w:World):(Instr.field 286 (.agg g_force2) 0).run Tryz.prog w=.ok (.agg (g_force2.extract 0 80)) w:=by kernel_rfl
theorem idx_energy (w:World):(Instr.index 284 (.agg (g_force2.extract 0 80)) (I 0)).run Tryz.prog w=.ok (.agg #[I 1,I 1,I (-2),I 0,I 0,I 0,I 0,I 0,I 1,I 1]) w:=by kernel_rfl
set_option maxRecDepth 100000 in
set_option maxHeartbeats 4000000 in
theorem made_energy (w:World):Calls Tryz.prog 287 #[] w fun e w'=>e=.returned (.agg g_energy1)∧Below w.heap.size w w':=by
 obtain⟨V,hV⟩:∃V,V=w.alloc (.cells Tryz.zeroCells286 286):=⟨_,rfl⟩
 have HW:Hid (Below w.heap.size w V):=by rw[hV];exact(Below.refl _ _).alloc (Nat.le_refl _) _
 have HR:Hid (OwnU V w.heap.size 286 gZero):=by rw[hV,←zc91];exact OwnU.new w _ 286
 have HV:=hide hV
 clear hV
 have hfl:=fld_energy
 have hix:=idx_energy
 go_enter Tryz.func287,Tryz.ntmps287
 go_upto_region 1 with fail
 rw[←un HV]
 clear HV
 go_upto_region 2 with (first
  | (go_at_call 286;go_must(refine(made_force _).mono ?_;rintro e w1 ⟨rfl,hb⟩;have HR1:=hide ((un HR).later hb);have HW1:=hide ((un HW).trans (hb.mono (un HW).size));clear hb))
  | (refine storeT 180 10 info55 rfl (.tmp 1) (.tmp 4) rfl w1.heap.size #[I 0,I 0,I 0,I 0,I 0,I 0,I 0,I 0,I 0,I 0] #[I 1,I 1,I (-2),I 0,I 0,I 0,I 0,I 0,I 1,I 1] rfl rfl rfl rfl (OwnU.new _ _ _) (by kernel_rfl) ?_))
 have hb2:Below w1.heap.size w1 ((w1.alloc (.cells #[I 0,I 0,I 0,I 0,I 0,I 0,I 0,I 0,I 0,I 0] 180)).setRow w1.heap.size #[I 1,I 1,I (-2),I 0,I 0,I 0,I 0,I 0,I 1,I 1]):=below_setRow (albel _ _) (Nat.le_refl _) _
 have HB2:Hid (OwnU ((w1.alloc (.cells #[I 0,I 0,I 0,I 0,I 0,I 0,I 0,I 0,I 0,I 0] 180)).setRow w1.heap.size #[I 1,I 1,I (-2),I 0,I 0,I 0,I 0,I 0,I 1,I 1]) w1.heap.size 180 #[I 1,I 1,I (-2),I 0,I 0,I 0,I 0,I 0,I 1,I 1]):=(OwnU.new _ _ _).setRow _
 have HR2:=hide ((un HR1).later hb2)
 have HW2:=hide ((un HW1).trans (hb2.mono (un HW1).size))
 clear hb2 hfl hix
 generalize (w1.alloc (.cells #[I 0,I 0,I 0,I 0,I 0,I 0,I 0,I 0,I 0,I 0] 180)).setRow w1.heap.size #[I 1,I 1,I (-2),I 0,I 0,I 0,I 0,I 0,I 1,I 1]=w2 at *
 generalize w1.heap.size=b1 at *
 go_wp2_with (first
  | (go_at_call 312;go_must(refine(grp_energy b1 _ (un HB2)).mono ?_;rintro e w3 ⟨rfl,hb⟩;have HR3:=hide ((un HR2).later hb);have HW3:=hide ((un HW2).trans (hb.mono (un HW2).size));clear hb))
  | (refine storeT 286 81 info91 rfl (.tmp 0) (.tmp 6) rfl w.heap.size gZero g_energy1 rfl rfl rfl rfl (un HR3) (by kernel_rfl) ?_))
 exact bodyPost_ret (v:=.agg g_energy1) (res91 Tryz.results287 _ _ w.heap.size _ rfl rfl ((un HR3).setRow _)) rfl ⟨rfl,below_setRow (un HW3) (Nat.le_refl _) _⟩
set_option maxRecDepth 100000 in
set_option maxHeartbeats 4000000 in
theorem grp_power (b1:Nat) (w:World) (h1:OwnU w b1 180 #[I 2,I 1,I (-2),I 0,I 0,I 0,I 0,I 0,I 1,I 1]):Calls Tryz.prog 312 #[.func (.func 318) #[] #[.pointer (some ⟨b1,0,none⟩)]] w fun e w'=>e=.returned (.agg g_power1)∧Below w.heap.size w w':=by
 obtain⟨V,hV⟩:∃V,V=(w.alloc (.cells Tryz.zeroCells286 286)).alloc (.cells Tryz.zeroCells286 286):=⟨_,rfl⟩
 obtain⟨g,hg⟩:∃g,g=w.heap.size+1:=⟨_,rfl⟩
 have HW:Hid (Below w.heap.size w V):=by rw[hV];exact((Below.refl _ _).alloc (Nat.le_refl _) _).alloc (by simp) _
 have HR:Hid (OwnU V w.heap.size 286 gZero):=by rw[hV,←zc91];exact(OwnU.new w _ 286).alloc _
 have HG:Hid (OwnU V g 286 gZero):=by rw[hV,hg,←zc91];have h:=OwnU.new (w.alloc (.cells Tryz.zeroCells286 286)) Tryz.zeroCells286 286;rw[Dm.size_alloc]at h;exact h
 have HC1:Hid (OwnU V b1 180 #[I 2,I 1,I (-2),I 0,I 0,I 0,I 0,I 0,I 1,I 1]∧¬b1=g):=⟨h1.later (un HW),(by have:=h1.lt;omega)⟩
 have HN:Hid (¬w.heap.size=g∧w.heap.size≤g∧w.heap.size≤V.heap.size):=⟨by omega,by omega,(un HW).size⟩
 have HV:=hide hV
 clear hV h1
 go_enter Tryz.func312,Tryz.ntmps312
 go_upto_region 2 with fail
 rw[←un HV,←hg]
 clear HV hg
 go_upto_region 3 with (go_at_call 318;go_must(refine(fill_power g b1 _ (un HG) (un HC1).1 (un HC1).2).mono ?_;rintro e w1 ⟨rfl,hg1,ho1⟩;have HG1:=hide hg1;have HR1:=hide (ho1.own _ _ _ (un HN).1 (un HR));have HW1:=hide (ho1.bel w.heap.size w (un HN).2.1 (un HN).2.2 (un HW));clear hg1 ho1))
 go_wp2_with (first
  | (refine wpList_load_row rfl 286 (.tmp 3) rfl g rfl 286 g_power1 (0,0) _ (un HG1) Tryz.underlying286 rfl (by kernel_rfl) ?_)
  | (refine storeT 286 81 info91 rfl (.tmp 2) (.tmp 7) rfl w.heap.size gZero g_power1 rfl rfl rfl rfl (un HR1) (by kernel_rfl) ?_))
 exact bodyPost_ret (v:=.agg g_power1) (res91 Tryz.results312 _ _ w.heap.size _ rfl rfl ((un HR1).setRow _)) rfl ⟨rfl,below_setRow (un HW1) (Nat.le_refl _) _⟩
theorem fld_power (w:World):(Instr.field 286 (.agg g_energy1) 0).run Tryz.prog w=.ok (.agg (g_energy1.extract 0 80)) w:=by kernel_rfl
theorem idx_power (w:World):(Instr.index 284 (.agg (g_energy1.extract 0 80)) (I 0)).run Tryz.prog w=.ok (.agg #[I 2,I 1,I (-2),I 0,I 0,I 0,I 0,I 0,I 1,I 1]) w:=by kernel_rfl
set_option maxRecDepth 100000 in
set_option maxHeartbeats 4000000 in
theorem made_power (w:World):Calls Tryz.prog 288 #[] w fun e w'=>e=.returned (.agg g_power1)∧Below w.heap.size w w':=by
 obtain⟨V,hV⟩:∃V,V=w.alloc (.cells Tryz.zeroCells286 286):=⟨_,rfl⟩
 have HW:Hid (Below w.heap.size w V):=by rw[hV];exact(Below.refl _ _).alloc (Nat.le_refl _) _
 have HR:Hid (OwnU V w.heap.size 286 gZero):=by rw[hV,←zc91];exact OwnU.new w _ 286
 have HV:=hide hV
 clear hV
 have hfl:=fld_power
 have hix:=idx_power
 go_enter Tryz.func288,Tryz.ntmps288
 go_upto_region 1 with fail
 rw[←un HV]
 clear HV
 go_upto_region 2 with (first
  | (go_at_call 287;go_must(refine(made_energy _).mono ?_;rintro e w1 ⟨rfl,hb⟩;have HR1:=hide ((un HR).later hb);have HW1:=hide ((un HW).trans (hb.mono (un HW).size));clear hb))
  | (refine storeT 180 10 info55 rfl (.tmp 1) (.tmp 4) rfl w1.heap.size #[I 0,I 0,I 0,I 0,I 0,I 0,I 0,I 0,I 0,I 0] #[I 2,I 1,I (-2),I 0,I 0,I 0,I 0,I 0,I 1,I 1] rfl rfl rfl rfl (OwnU.new _ _ _) (by kernel_rfl) ?_))
 have hb2:Below w1.heap.size w1 ((w1.alloc (.cells #[I 0,I 0,I 0,I 0,I 0,I 0,I 0,I 0,I 0,I 0] 180)).setRow w1.heap.size #[I 2,I 1,I (-2),I 0,I 0,I 0,I 0,I 0,I 1,I 1]):=below_setRow (albel _ _) (Nat.le_refl _) _
 have HB2:Hid (OwnU ((w1.alloc (.cells #[I 0,I 0,I 0,I 0,I 0,I 0,I 0,I 0,I 0,I 0] 180)).setRow w1.heap.size #[I 2,I 1,I (-2),I 0,I 0,I 0,I 0,I 0,I 1,I 1]) w1.heap.size 180 #[I 2,I 1,I (-2),I 0,I 0,I 0,I 0,I 0,I 1,I 1]):=(OwnU.new _ _ _).setRow _
 have HR2:=hide ((un HR1).later hb2)
 have HW2:=hide ((un HW1).trans (hb2.mono (un HW1).size))
 clear hb2 hfl hix
 generalize (w1.alloc (.cells #[I 0,I 0,I 0,I 0,I 0,I 0,I 0,I 0,I 0,I 0] 180)).setRow w1.heap.size #[I 2,I 1,I (-2),I 0,I 0,I 0,I 0,I 0,I 1,I 1]=w2 at *
 generalize w1.heap.size=b1 at *
 go_wp2_with (first
  | (go_at_call 312;go_must(refine(grp_power b1 _ (un HB2)).mono ?_;rintro e w3 ⟨rfl,hb⟩;have HR3:=hide ((un HR2).later hb);have HW3:=hide ((un HW2).trans (hb.mono (un HW2).size));clear hb))
  | (refine storeT 286 81 info91 rfl (.tmp 0) (.tmp 6) rfl w.heap.size gZero g_power1 rfl rfl rfl rfl (un HR3) (by kernel_rfl) ?_))
 exact bodyPost_ret (v:=.agg g_power1) (res91 Tryz.results288 _ _ w.heap.size _ rfl rfl ((un HR3).setRow _)) rfl ⟨rfl,below_setRow (un HW3) (Nat.le_refl _) _⟩
set_option maxRecDepth 100000 in
set_option maxHeartbeats 4000000 in
theorem grp_times (w:World):Calls Tryz.prog 312 #[.func (.func 321) #[] #[]] w fun e w'=>e=.returned (.agg g_times1)∧Below w.heap.size w w':=by
 obtain⟨V,hV⟩:∃V,V=(w.alloc (.cells Tryz.zeroCells286 286)).alloc (.cells Tryz.zeroCells286 286):=⟨_,rfl⟩
 obtain⟨g,hg⟩:∃g,g=w.heap.size+1:=⟨_,rfl⟩
 have HW:Hid (Below w.heap.size w V):=by rw[hV];exact((Below.refl _ _).alloc (Nat.le_refl _) _).alloc (by simp) _
 have HR:Hid (OwnU V w.heap.size 286 gZero):=by rw[hV,←zc91];exact(OwnU.new w _ 286).alloc _
 have HG:Hid (OwnU V g 286 gZero):=by rw[hV,hg,←zc91];have h:=OwnU.new (w.alloc (.cells Tryz.zeroCells286 286)) Tryz.zeroCells286 286;rw[Dm.size_alloc]at h;exact h
 have HN:Hid (¬w.heap.size=g∧w.heap.size≤g∧w.heap.size≤V.heap.size):=⟨by omega,by omega,(un HW).size⟩
 have HV:=hide hV
 clear hV
 go_enter Tryz.func312,Tryz.ntmps312
 go_upto_region 2 with fail
 rw[←un HV,←hg]
 clear HV hg
 go_upto_region 3 with (go_at_call 321;go_must(refine(fill_times g  _ (un HG) ).mono ?_;rintro e w1 ⟨rfl,hg1,ho1⟩;have HG1:=hide hg1;have HR1:=hide (ho1.own _ _ _ (un HN).1 (un HR));have HW1:=hide (ho1.bel w.heap.size w (un HN).2.1 (un HN).2.2 (un HW));clear hg1 ho1))
 go_wp2_with (first
  | (refine wpList_load_row rfl 286 (.tmp 3) rfl g rfl 286 g_times1 (0,0) _ (un HG1) Tryz.underlying286 rfl (by kernel_rfl) ?_)
  | (refine storeT 286 81 info91 rfl (.tmp 2) (.tmp 7) rfl w.heap.size gZero g_times1 rfl rfl rfl rfl (un HR1) (by kernel_rfl) ?_))
 exact bodyPost_ret (v:=.agg g_times1) (res91 Tryz.results312 _ _ w.heap.size _ rfl rfl ((un HR1).setRow _)) rfl ⟨rfl,below_setRow (un HW1) (Nat.le_refl _) _⟩
set_option maxRecDepth 100000 in
set_option maxHeartbeats 4000000 in
theorem made_times (w:World):Calls Tryz.prog 290 #[] w fun e w'=>e=.returned (.agg g_times1)∧Below w.heap.size w w':=by
 obtain⟨V,hV⟩:∃V,V=w.alloc (.cells Tryz.zeroCells286 286):=⟨_,rfl⟩
 have HW:Hid (Below w.heap.size w V):=by rw[hV];exact(Below.refl _ _).alloc (Nat.le_refl _) _
 have HR:Hid (OwnU V w.heap.size 286 gZero):=by rw[hV,←zc91];exact OwnU.new w _ 286
 have HV:=hide hV
 clear hV
 go_enter Tryz.func290,Tryz.ntmps290
 go_upto_region 1 with fail
 rw[←un HV]
 clear HV
 go_wp2_with (first
  | (go_at_call 312;go_must(refine(grp_times _).mono ?_;rintro e w1 ⟨rfl,hb⟩;have HR1:=hide ((un HR).later hb);have HW1:=hide ((un HW).trans (hb.mono (un HW).size));clear hb))
  | (refine storeT 286 81 info91 rfl (.tmp 0) (.tmp 1) rfl w.heap.size gZero g_times1 rfl rfl rfl rfl (un HR1) (by kernel_rfl) ?_))
 exact bodyPost_ret (v:=.agg g_times1) (res91 Tryz.results290 _ _ w.heap.size _ rfl rfl ((un HR1).setRow _)) rfl ⟨rfl,below_setRow (un HW1) (Nat.le_refl _) _⟩
set_option maxRecDepth 100000 in
set_option maxHeartbeats 4000000 in
theorem grp_plane (w:World):Calls Tryz.prog 312 #[.func (.func 323) #[] #[]] w fun e w'=>e=.returned (.agg g_plane2)∧Below w.heap.size w w':=by
 obtain⟨V,hV⟩:∃V,V=(w.alloc (.cells Tryz.zeroCells286 286)).alloc (.cells Tryz.zeroCells286 286):=⟨_,rfl⟩
 obtain⟨g,hg⟩:∃g,g=w.heap.size+1:=⟨_,rfl⟩
 have HW:Hid (Below w.heap.size w V):=by rw[hV];exact((Below.refl _ _).alloc (Nat.le_refl _) _).alloc (by simp) _
 have HR:Hid (OwnU V w.heap.size 286 gZero):=by rw[hV,←zc91];exact(OwnU.new w _ 286).alloc _
 have HG:Hid (OwnU V g 286 gZero):=by rw[hV,hg,←zc91];have h:=OwnU.new (w.alloc (.cells Tryz.zeroCells286 286)) Tryz.zeroCells286 286;rw[Dm.size_alloc]at h;exact h
 have HN:Hid (¬w.heap.size=g∧w.heap.size≤g∧w.heap.size≤V.heap.size):=⟨by omega,by omega,(un HW).size⟩
 have HV:=hide hV
 clear hV
 go_enter Tryz.func312,Tryz.ntmps312
 go_upto_region 2 with fail
 rw[←un HV,←hg]
 clear HV hg
 go_upto_region 3 with (go_at_call 323;go_must(refine(fill_plane g  _ (un HG) ).mono ?_;rintro e w1 ⟨rfl,hg1,ho1⟩;have HG1:=hide hg1;have HR1:=hide (ho1.own _ _ _ (un HN).1 (un HR));have HW1:=hide (ho1.bel w.heap.size w (un HN).2.1 (un HN).2.2 (un HW));clear hg1 ho1))
 go_wp2_with (first
  | (refine wpList_load_row rfl 286 (.tmp 3) rfl g rfl 286 g_plane2 (0,0) _ (un HG1) Tryz.underlying286 rfl (by kernel_rfl) ?_)
  | (refine storeT 286 81 info91 rfl (.tmp 2) (.tmp 7) rfl w.heap.size gZero g_plane2 rfl rfl rfl rfl (un HR1) (by kernel_rfl) ?_))
 exact bodyPost_ret (v:=.agg g_plane2) (res91 Tryz.results312 _ _ w.heap.size _ rfl rfl ((un HR1).setRow _)) rfl ⟨rfl,below_setRow (un HW1) (Nat.le_refl _) _⟩
set_option maxRecDepth 100000 in
set_option maxHeartbeats 4000000 in
theorem made_plane (w:World):Calls Tryz.prog 292 #[] w fun e w'=>e=.returned (.agg g_plane2)∧Below w.heap.size w w':=by
 obtain⟨V,hV⟩:∃V,V=w.alloc (.cells Tryz.zeroCells286 286):=⟨_,rfl⟩
 have HW:Hid (Below w.heap.size w V):=by rw[hV];exact(Below.refl _ _).alloc (Nat.le_refl _) _
 have HR:Hid (OwnU V w.heap.size 286 gZero):=by rw[hV,←zc91];exact OwnU.new w _ 286
 have HV:=hide hV
 clear hV
 go_enter Tryz.func292,Tryz.ntmps292
 go_upto_region 1 with fail
 rw[←un HV]
 clear HV
 go_wp2_with (first
  | (go_at_call 312;go_must(refine(grp_plane _).mono ?_;rintro e w1 ⟨rfl,hb⟩;have HR1:=hide ((un HR).later hb);have HW1:=hide ((un HW).trans (hb.mono (un HW).size));clear hb))
  | (refine storeT 286 81 info91 rfl (.tmp 0) (.tmp 1) rfl w.heap.size gZero g_plane2 rfl rfl rfl rfl (un HR1) (by kernel_rfl) ?_))
 exact bodyPost_ret (v:=.agg g_plane2) (res91 Tryz.results292 _ _ w.heap.size _ rfl rfl ((un HR1).setRow _)) rfl ⟨rfl,below_setRow (un HW1) (Nat.le_refl _) _⟩
end Go.Proofs.YtliadckofhblnaaGreatDoor

/- Groups of si, made. -/
import Derived.Test.YtliadckofhblnaaGreatDoorLimb3
import Derived.Test.YtliadckofhblnaaGreatDoorSi6
import Derived.Test.YtliadckofhblnaaGreatDoorSi10
namespace Go.Proofs.YtliadckofhblnaaGreatDoor
open Go.RowKit
set_option maxRecDepth 100000 in
set_option maxHeartbeats 8000000 in
theorem fill_along (g:Nat) (b1:Nat) (w:World) (hg:OwnU w g 286 gZero) (h1:OwnU w b1 180 #[I (-1),I 1,I (-2),I 0,I 0,I 0,I 0,I 0,I 1,I 1]) (n1:¬b1=g) :
    Calls Tryz.prog 325 #[.func (.func 367) #[] #[.pointer (some ⟨g,0,none⟩)],.pointer (some ⟨b1,0,none⟩)] w fun e w'=>e=.returned (.tuple #[])∧OwnU w' g 286 g_along8∧Onto w w' g:=by
  have HF0:Hid (FS w w g gZero [(b1,#[I (-1),I 1,I (-2),I 0,I 0,I 0,I 0,I 0,I 1,I 1])]):=⟨hg,Onto.of_below (Below.refl _ _),fun p hp=>(by simp only[List.mem_cons,List.not_mem_nil,or_false]at hp;subst hp;exact⟨n1,h1⟩)⟩
  clear hg h1 n1
  go_enter Tryz.func325,Tryz.ntmps325
  go_upto_region 1 with (first
    | (refine storeT 180 10 info55 rfl (.tmp 3) (.tmp 10) rfl W4.heap.size z10 #[I 0,I 0,I 1,I 0,I 0,I 0,I 0,I 0,I 60,I 1] rfl rfl rfl rfl (OwnU.new _ _ _) (by kernel_rfl) ?_)
    | (go_at_call 367;go_must(refine(put0_of 0 0 1 0 0 0 0 0 60 1 g gZero g_along1 _ (un HF3).gr rfl rfl (by kernel_rfl)).mono ?_;rintro e W4 ⟨rfl,hg1,ho1⟩;have HF4:=hide ((un HF3).put hg1 ho1);clear hg1 ho1))
    | (go_at_call 315;have hchk:=HF2;clear hchk;refine(times_si 0 0 0 0 0 0 0 0 60 1 0 0 1 0 0 0 0 0 1 1 0 0 1 0 0 0 0 0 60 1 _ (by decide +kernel)).mono ?_;rintro e W3 ⟨rfl,hb⟩;have HF3:=hide ((un HF2).later hb);clear hb)
    | (go_at_call 314;have hchk:=HF1;clear hchk;refine(siOne2 _).mono ?_;rintro e W2 ⟨rfl,hb⟩;have HF2:=hide ((un HF1).later hb);clear hb)
    | (go_at_call 320;have hchk:=HF0;clear hchk;refine(siNumber 60 _).mono ?_;rintro e W1 ⟨rfl,hb⟩;have HF1:=hide ((un HF0).later hb);clear hb))
  have HF5:=hide (((un HF4).alloc z10).row (un HF4).on.size (fun p hp=>Nat.ne_of_gt ((un HF4).bx p hp).2.lt) #[I 0,I 0,I 1,I 0,I 0,I 0,I 0,I 0,I 60,I 1])
  generalize (W4.alloc (.cells z10 180)).setRow W4.heap.size #[I 0,I 0,I 1,I 0,I 0,I 0,I 0,I 0,I 60,I 1]=W5 at *
  generalize W4.heap.size=k3 at *
  have hpn:∀(a:Act) (v:Value),a.put none v=a:=fun _ _=>rfl
  simp only[hpn]
  clear hpn
  go_wp2_with fail
  go_cut [4]from 11 (fun s9 wx=>∃k,s9=.pointer (some ⟨k,0,none⟩)∧Hid (FS w wx g g_along2 ((k,#[I 0,I 0,I 1,I 0,I 0,I 0,I 0,I 0,I 3600,I 1]) :: [(k3,#[I 0,I 0,I 1,I 0,I 0,I 0,I 0,I 0,I 60,I 1]),(b1,#[I (-1),I 1,I (-2),I 0,I 0,I 0,I 0,I 0,I 1,I 1])])))
  case first=>
    have HSS:Hid (∀(W':World) (vs:Array Value),FS w W' g vs [(k3,#[I 0,I 0,I 1,I 0,I 0,I 0,I 0,I 0,I 60,I 1]),(b1,#[I (-1),I 1,I (-2),I 0,I 0,I 0,I 0,I 0,I 1,I 1])]→W'.cell? ⟨k3,0,none⟩=some (I 0)∧W'.cell? ⟨k3,1,none⟩=some (I 0)∧W'.cell? ⟨k3,2,none⟩=some (I 1)∧W'.cell? ⟨k3,3,none⟩=some (I 0)∧W'.cell? ⟨k3,4,none⟩=some (I 0)∧W'.cell? ⟨k3,5,none⟩=some (I 0)∧W'.cell? ⟨k3,6,none⟩=some (I 0)∧W'.cell? ⟨k3,7,none⟩=some (I 0)∧W'.cell? ⟨k3,8,none⟩=some (I 60)∧W'.cell? ⟨k3,9,none⟩=some (I 1)):=fun W' vs h=>⟨((h.bx (k3,#[I 0,I 0,I 1,I 0,I 0,I 0,I 0,I 0,I 60,I 1]) (by simp)).2.ub.c 0 _ rfl),((h.bx (k3,#[I 0,I 0,I 1,I 0,I 0,I 0,I 0,I 0,I 60,I 1]) (by simp)).2.ub.c 1 _ rfl),((h.bx (k3,#[I 0,I 0,I 1,I 0,I 0,I 0,I 0,I 0,I 60,I 1]) (by simp)).2.ub.c 2 _ rfl),((h.bx (k3,#[I 0,I 0,I 1,I 0,I 0,I 0,I 0,I 0,I 60,I 1]) (by simp)).2.ub.c 3 _ rfl),((h.bx (k3,#[I 0,I 0,I 1,I 0,I 0,I 0,I 0,I 0,I 60,I 1]) (by simp)).2.ub.c 4 _ rfl),((h.bx (k3,#[I 0,I 0,I 1,I 0,I 0,I 0,I 0,I 0,I 60,I 1]) (by simp)).2.ub.c 5 _ rfl),((h.bx (k3,#[I 0,I 0,I 1,I 0,I 0,I 0,I 0,I 0,I 60,I 1]) (by simp)).2.ub.c 6 _ rfl),((h.bx (k3,#[I 0,I 0,I 1,I 0,I 0,I 0,I 0,I 0,I 60,I 1]) (by simp)).2.ub.c 7 _ rfl),((h.bx (k3,#[I 0,I 0,I 1,I 0,I 0,I 0,I 0,I 0,I 60,I 1]) (by simp)).2.ub.c 8 _ rfl),((h.bx (k3,#[I 0,I 0,I 1,I 0,I 0,I 0,I 0,I 0,I 60,I 1]) (by simp)).2.ub.c 9 _ rfl)⟩
    have HF6:Hid (FS w (W5.drew) g g_along1 [(k3,#[I 0,I 0,I 1,I 0,I 0,I 0,I 0,I 0,I 60,I 1]),(b1,#[I (-1),I 1,I (-2),I 0,I 0,I 0,I 0,I 0,I 1,I 1])]):=(un HF5).later (Below.refl _ _).drew
    have HS6:=hide (un HSS _ _ (un HF6))
    refine region_reads 6 (fun _=>True) (fun W'=>W'.cell? ⟨k3,0,none⟩=some (I 0)∧W'.cell? ⟨k3,1,none⟩=some (I 0)∧W'.cell? ⟨k3,2,none⟩=some (I 1)∧W'.cell? ⟨k3,3,none⟩=some (I 0)∧W'.cell? ⟨k3,4,none⟩=some (I 0)∧W'.cell? ⟨k3,5,none⟩=some (I 0)∧W'.cell? ⟨k3,6,none⟩=some (I 0)∧W'.cell? ⟨k3,7,none⟩=some (I 0)∧W'.cell? ⟨k3,8,none⟩=some (I 60)∧W'.cell? ⟨k3,9,none⟩=some (I 1)) 7 rfl (by kernel_rfl) ?_
    refine wpR_take7 (i:=0) (oi:=_) (v:=.func (.func 367) #[] #[.pointer (some ⟨g,0,none⟩)]) rfl (by kernel_rfl) (by kernel_rfl) (by kernel_rfl) (by kernel_rfl) (fun _ _ _ h=>h) (Or.inl ⟨by rfl,?_⟩) ⟨trivial,un HS6⟩ ?_
    · intro W hW
      go_split_ands
      go_simp
    refine wpR_take7 (i:=2) (oi:=_) (v:=.agg #[I 0,I 0,I 1,I 0,I 0,I 0,I 0,I 0,I 60,I 1]) rfl (by kernel_rfl) (by kernel_rfl) (by kernel_rfl) (by kernel_rfl) (fun _ _ _ h=>h) (Or.inl ⟨by rfl,?_⟩) ⟨trivial,un HS6⟩ ?_
    · intro W hW
      go_split_ands
      go_simp
    clear HS6
    generalize W5.drew=W6 at *
    refine wpR_two (i:=1) (j:=5) (by kernel_rfl) rfl rfl rfl rfl (fun K hK=>?_) (fun K hK=>?_)
    · skip
      go_simp
      refine(siNumber 60 _).mono ?_
      rintro e W7 ⟨rfl,hb⟩
      have HF7:=hide ((un HF6).later hb)
      clear hb
      refine hK _ _ ⟨trivial,un HSS _ _ (un HF7)⟩ ?_
      clear hK K
      refine wpR_two (i:=3) (j:=5) (by kernel_rfl) rfl rfl rfl rfl (fun K hK=>?_) (fun K hK=>?_)
      · skip
        go_simp
        refine(times_si 0 0 0 0 0 0 0 0 60 1 0 0 1 0 0 0 0 0 60 1 0 0 1 0 0 0 0 0 3600 1 _ (by decide +kernel)).mono ?_
        rintro e W8 ⟨rfl,hb⟩
        have HF8:=hide ((un HF7).later hb)
        clear hb
        refine hK _ _ ⟨trivial,un HSS _ _ (un HF8)⟩ ?_
        clear hK K
        refine wpR_two (i:=4) (j:=5) (by kernel_rfl) rfl rfl rfl rfl (fun K hK=>?_) (fun K hK=>?_)
        · skip
          go_simp
          refine(put1_of 0 0 1 0 0 0 0 0 3600 1 g g_along1 g_along2 _ (un HF8).gr rfl rfl (by kernel_rfl)).mono ?_
          rintro e W9 ⟨rfl,hg1,ho1⟩
          have HF9:=hide ((un HF8).put hg1 ho1)
          clear hg1 ho1
          refine hK _ _ ⟨trivial,un HSS _ _ (un HF9)⟩ ?_
          clear hK K
          refine wpR_op (i:=5) (o:=_) (by kernel_rfl) rfl rfl (fun K hK=>?_)
          go_simp
          have HL:Hid (w.heap.size≤W9.heap.size∧∀p:Nat×Array Value,p∈([(k3,#[I 0,I 0,I 1,I 0,I 0,I 0,I 0,I 0,I 60,I 1]),(b1,#[I (-1),I 1,I (-2),I 0,I 0,I 0,I 0,I 0,I 1,I 1])]:List (Nat×Array Value))→¬W9.heap.size=p.1):=⟨(un HF9).on.size,fun p hp=>Nat.ne_of_gt ((un HF9).bx p hp).2.lt⟩
          have HF10:=hide ((un HF9).alloc z10)
          refine hK _ _ ⟨trivial,un HSS _ _ (un HF10).tail⟩ ?_
          clear hK K
          generalize hW10:W9.alloc (.cells z10 180)=W10 at *
          clear hW10
          generalize W9.heap.size=k at *
          have HFE:=hide ((un HF10).row (un HL).1 (un HL).2 #[I 0,I 0,I 1,I 0,I 0,I 0,I 0,I 0,I 3600,I 1])
          refine wpR_late (i:=6) (o:=_) (by kernel_rfl) rfl rfl (by kernel_rfl) (fun K hK=>?_)
          refine wp_store_row 180 (.tmp 4) (.tmp 15) rfl k #[I 0,I 0,I 1,I 0,I 0,I 0,I 0,I 0,I 3600,I 1] rfl rfl 180 _ ((un HF10).bx (k,z10) (by simp)).2 (by rw[info55];rfl) rfl (by kernel_rfl) (hK _ _ (un HSS _ _ (un HFE).tail) ?_)
          clear hK K
          refine wpR_done (by kernel_rfl) ?_
          generalize W10.setRow k #[I 0,I 0,I 1,I 0,I 0,I 0,I 0,I 0,I 3600,I 1]=U at HFE ⊢
          go_wp2_with fail
          go_meet
          exact⟨k,rfl,HFE⟩
        · skip
          go_simp
          have HL:Hid (w.heap.size≤W8.heap.size∧∀p:Nat×Array Value,p∈([(k3,#[I 0,I 0,I 1,I 0,I 0,I 0,I 0,I 0,I 60,I 1]),(b1,#[I (-1),I 1,I (-2),I 0,I 0,I 0,I 0,I 0,I 1,I 1])]:List (Nat×Array Value))→¬W8.heap.size=p.1):=⟨(un HF8).on.size,fun p hp=>Nat.ne_of_gt ((un HF8).bx p hp).2.lt⟩
          have HF9:=hide ((un HF8).alloc z10)
          refine hK _ _ ⟨trivial,un HSS _ _ (un HF9).tail⟩ ?_
          clear hK K
          generalize hW9:W8.alloc (.cells z10 180)=W9 at *
          clear hW9
          generalize W8.heap.size=k at *
          refine wpR_op (i:=4) (o:=_) (by kernel_rfl) rfl rfl (fun K hK=>?_)
          go_simp
          refine(put1_of 0 0 1 0 0 0 0 0 3600 1 g g_along1 g_along2 _ (un HF9).gr rfl rfl (by kernel_rfl)).mono ?_
          rintro e W10 ⟨rfl,hg1,ho1⟩
          have HF10:=hide ((un HF9).put hg1 ho1)
          clear hg1 ho1
          refine hK _ _ ⟨trivial,un HSS _ _ ((un HF10).tail)⟩ ?_
          clear hK K
          have HFE:=hide ((un HF10).row (un HL).1 (un HL).2 #[I 0,I 0,I 1,I 0,I 0,I 0,I 0,I 0,I 3600,I 1])
          refine wpR_late (i:=6) (o:=_) (by kernel_rfl) rfl rfl (by kernel_rfl) (fun K hK=>?_)
          refine wp_store_row 180 (.tmp 4) (.tmp 15) rfl k #[I 0,I 0,I 1,I 0,I 0,I 0,I 0,I 0,I 3600,I 1] rfl rfl 180 _ ((un HF10).bx (k,z10) (by simp)).2 (by rw[info55];rfl) rfl (by kernel_rfl) (hK _ _ (un HSS _ _ (un HFE).tail) ?_)
          clear hK K
          refine wpR_done (by kernel_rfl) ?_
          generalize W10.setRow k #[I 0,I 0,I 1,I 0,I 0,I 0,I 0,I 0,I 3600,I 1]=U at HFE ⊢
          go_wp2_with fail
          go_meet
          exact⟨k,rfl,HFE⟩
      · skip
        go_simp
        have HL:Hid (w.heap.size≤W7.heap.size∧∀p:Nat×Array Value,p∈([(k3,#[I 0,I 0,I 1,I 0,I 0,I 0,I 0,I 0,I 60,I 1]),(b1,#[I (-1),I 1,I (-2),I 0,I 0,I 0,I 0,I 0,I 1,I 1])]:List (Nat×Array Value))→¬W7.heap.size=p.1):=⟨(un HF7).on.size,fun p hp=>Nat.ne_of_gt ((un HF7).bx p hp).2.lt⟩
        have HF8:=hide ((un HF7).alloc z10)
        refine hK _ _ ⟨trivial,un HSS _ _ (un HF8).tail⟩ ?_
        clear hK K
        generalize hW8:W7.alloc (.cells z10 180)=W8 at *
        clear hW8
        generalize W7.heap.size=k at *
        refine wpR_op (i:=3) (o:=_) (by kernel_rfl) rfl rfl (fun K hK=>?_)
        go_simp
        refine(times_si 0 0 0 0 0 0 0 0 60 1 0 0 1 0 0 0 0 0 60 1 0 0 1 0 0 0 0 0 3600 1 _ (by decide +kernel)).mono ?_
        rintro e W9 ⟨rfl,hb⟩
        have HF9:=hide ((un HF8).later hb)
        clear hb
        refine hK _ _ ⟨trivial,un HSS _ _ ((un HF9).tail)⟩ ?_
        clear hK K
        refine wpR_op (i:=4) (o:=_) (by kernel_rfl) rfl rfl (fun K hK=>?_)
        go_simp
        refine(put1_of 0 0 1 0 0 0 0 0 3600 1 g g_along1 g_along2 _ (un HF9).gr rfl rfl (by kernel_rfl)).mono ?_
        rintro e W10 ⟨rfl,hg1,ho1⟩
        have HF10:=hide ((un HF9).put hg1 ho1)
        clear hg1 ho1
        refine hK _ _ ⟨trivial,un HSS _ _ ((un HF10).tail)⟩ ?_
        clear hK K
        have HFE:=hide ((un HF10).row (un HL).1 (un HL).2 #[I 0,I 0,I 1,I 0,I 0,I 0,I 0,I 0,I 3600,I 1])
        refine wpR_late (i:=6) (o:=_) (by kernel_rfl) rfl rfl (by kernel_rfl) (fun K hK=>?_)
        refine wp_store_row 180 (.tmp 4) (.tmp 15) rfl k #[I 0,I 0,I 1,I 0,I 0,I 0,I 0,I 0,I 3600,I 1] rfl rfl 180 _ ((un HF10).bx (k,z10) (by simp)).2 (by rw[info55];rfl) rfl (by kernel_rfl) (hK _ _ (un HSS _ _ (un HFE).tail) ?_)
        clear hK K
        refine wpR_done (by kernel_rfl) ?_
        generalize W10.setRow k #[I 0,I 0,I 1,I 0,I 0,I 0,I 0,I 0,I 3600,I 1]=U at HFE ⊢
        go_wp2_with fail
        go_meet
        exact⟨k,rfl,HFE⟩
    · skip
      go_simp
      have HL:Hid (w.heap.size≤W6.heap.size∧∀p:Nat×Array Value,p∈([(k3,#[I 0,I 0,I 1,I 0,I 0,I 0,I 0,I 0,I 60,I 1]),(b1,#[I (-1),I 1,I (-2),I 0,I 0,I 0,I 0,I 0,I 1,I 1])]:List (Nat×Array Value))→¬W6.heap.size=p.1):=⟨(un HF6).on.size,fun p hp=>Nat.ne_of_gt ((un HF6).bx p hp).2.lt⟩
      have HF7:=hide ((un HF6).alloc z10)
      refine hK _ _ ⟨trivial,un HSS _ _ (un HF7).tail⟩ ?_
      clear hK K
      generalize hW7:W6.alloc (.cells z10 180)=W7 at *
      clear hW7
      generalize W6.heap.size=k at *
      refine wpR_op (i:=1) (o:=_) (by kernel_rfl) rfl rfl (fun K hK=>?_)
      go_simp
      refine(siNumber 60 _).mono ?_
      rintro e W8 ⟨rfl,hb⟩
      have HF8:=hide ((un HF7).later hb)
      clear hb
      refine hK _ _ ⟨trivial,un HSS _ _ ((un HF8).tail)⟩ ?_
      clear hK K
      refine wpR_op (i:=3) (o:=_) (by kernel_rfl) rfl rfl (fun K hK=>?_)
      go_simp
      refine(times_si 0 0 0 0 0 0 0 0 60 1 0 0 1 0 0 0 0 0 60 1 0 0 1 0 0 0 0 0 3600 1 _ (by decide +kernel)).mono ?_
      rintro e W9 ⟨rfl,hb⟩
      have HF9:=hide ((un HF8).later hb)
      clear hb
      refine hK _ _ ⟨trivial,un HSS _ _ ((un HF9).tail)⟩ ?_
      clear hK K
      refine wpR_op (i:=4) (o:=_) (by kernel_rfl) rfl rfl (fun K hK=>?_)
      go_simp
      refine(put1_of 0 0 1 0 0 0 0 0 3600 1 g g_along1 g_along2 _ (un HF9).gr rfl rfl (by kernel_rfl)).mono ?_
      rintro e W10 ⟨rfl,hg1,ho1⟩
      have HF10:=hide ((un HF9).put hg1 ho1)
      clear hg1 ho1
      refine hK _ _ ⟨trivial,un HSS _ _ ((un HF10).tail)⟩ ?_
      clear hK K
      have HFE:=hide ((un HF10).row (un HL).1 (un HL).2 #[I 0,I 0,I 1,I 0,I 0,I 0,I 0,I 0,I 3600,I 1])
      refine wpR_late (i:=6) (o:=_) (by kernel_rfl) rfl rfl (by kernel_rfl) (fun K hK=>?_)
      refine wp_store_row 180 (.tmp 4) (.tmp 15) rfl k #[I 0,I 0,I 1,I 0,I 0,I 0,I 0,I 0,I 3600,I 1] rfl rfl 180 _ ((un HF10).bx (k,z10) (by simp)).2 (by rw[info55];rfl) rfl (by kernel_rfl) (hK _ _ (un HSS _ _ (un HFE).tail) ?_)
      clear hK K
      refine wpR_done (by kernel_rfl) ?_
      generalize W10.setRow k #[I 0,I 0,I 1,I 0,I 0,I 0,I 0,I 0,I 3600,I 1]=U at HFE ⊢
      go_wp2_with fail
      go_meet
      exact⟨k,rfl,HFE⟩
  case rest=>
    obtain⟨k4,rfl,HF25⟩:=hcut
    generalize wc=W25 at HF25 ⊢
    go_upto_region 2 with fail
    have HSS:Hid (∀(W':World) (vs:Array Value),FS w W' g vs [(k4,#[I 0,I 0,I 1,I 0,I 0,I 0,I 0,I 0,I 3600,I 1]),(k3,#[I 0,I 0,I 1,I 0,I 0,I 0,I 0,I 0,I 60,I 1]),(b1,#[I (-1),I 1,I (-2),I 0,I 0,I 0,I 0,I 0,I 1,I 1])]→W'.cell? ⟨k4,0,none⟩=some (I 0)∧W'.cell? ⟨k4,1,none⟩=some (I 0)∧W'.cell? ⟨k4,2,none⟩=some (I 1)∧W'.cell? ⟨k4,3,none⟩=some (I 0)∧W'.cell? ⟨k4,4,none⟩=some (I 0)∧W'.cell? ⟨k4,5,none⟩=some (I 0)∧W'.cell? ⟨k4,6,none⟩=some (I 0)∧W'.cell? ⟨k4,7,none⟩=some (I 0)∧W'.cell? ⟨k4,8,none⟩=some (I 3600)∧W'.cell? ⟨k4,9,none⟩=some (I 1)):=fun W' vs h=>⟨((h.bx (k4,#[I 0,I 0,I 1,I 0,I 0,I 0,I 0,I 0,I 3600,I 1]) (by simp)).2.ub.c 0 _ rfl),((h.bx (k4,#[I 0,I 0,I 1,I 0,I 0,I 0,I 0,I 0,I 3600,I 1]) (by simp)).2.ub.c 1 _ rfl),((h.bx (k4,#[I 0,I 0,I 1,I 0,I 0,I 0,I 0,I 0,I 3600,I 1]) (by simp)).2.ub.c 2 _ rfl),((h.bx (k4,#[I 0,I 0,I 1,I 0,I 0,I 0,I 0,I 0,I 3600,I 1]) (by simp)).2.ub.c 3 _ rfl),((h.bx (k4,#[I 0,I 0,I 1,I 0,I 0,I 0,I 0,I 0,I 3600,I 1]) (by simp)).2.ub.c 4 _ rfl),((h.bx (k4,#[I 0,I 0,I 1,I 0,I 0,I 0,I 0,I 0,I 3600,I 1]) (by simp)).2.ub.c 5 _ rfl),((h.bx (k4,#[I 0,I 0,I 1,I 0,I 0,I 0,I 0,I 0,I 3600,I 1]) (by simp)).2.ub.c 6 _ rfl),((h.bx (k4,#[I 0,I 0,I 1,I 0,I 0,I 0,I 0,I 0,I 3600,I 1]) (by simp)).2.ub.c 7 _ rfl),((h.bx (k4,#[I 0,I 0,I 1,I 0,I 0,I 0,I 0,I 0,I 3600,I 1]) (by simp)).2.ub.c 8 _ rfl),((h.bx (k4,#[I 0,I 0,I 1,I 0,I 0,I 0,I 0,I 0,I 3600,I 1]) (by simp)).2.ub.c 9 _ rfl)⟩
    have HF26:Hid (FS w (W25.drew) g g_along2 [(k4,#[I 0,I 0,I 1,I 0,I 0,I 0,I 0,I 0,I 3600,I 1]),(k3,#[I 0,I 0,I 1,I 0,I 0,I 0,I 0,I 0,I 60,I 1]),(b1,#[I (-1),I 1,I (-2),I 0,I 0,I 0,I 0,I 0,I 1,I 1])]):=(un HF25).later (Below.refl _ _).drew
    have HS26:=hide (un HSS _ _ (un HF26))
    refine region_reads 4 (fun _=>True) (fun W'=>W'.cell? ⟨k4,0,none⟩=some (I 0)∧W'.cell? ⟨k4,1,none⟩=some (I 0)∧W'.cell? ⟨k4,2,none⟩=some (I 1)∧W'.cell? ⟨k4,3,none⟩=some (I 0)∧W'.cell? ⟨k4,4,none⟩=some (I 0)∧W'.cell? ⟨k4,5,none⟩=some (I 0)∧W'.cell? ⟨k4,6,none⟩=some (I 0)∧W'.cell? ⟨k4,7,none⟩=some (I 0)∧W'.cell? ⟨k4,8,none⟩=some (I 3600)∧W'.cell? ⟨k4,9,none⟩=some (I 1)) 5 rfl (by kernel_rfl) ?_
    refine wpR_take7 (i:=0) (oi:=_) (v:=.func (.func 367) #[] #[.pointer (some ⟨g,0,none⟩)]) rfl (by kernel_rfl) (by kernel_rfl) (by kernel_rfl) (by kernel_rfl) (fun _ _ _ h=>h) (Or.inl ⟨by rfl,?_⟩) ⟨trivial,un HS26⟩ ?_
    · intro W hW
      go_split_ands
      go_simp
    refine wpR_take7 (i:=2) (oi:=_) (v:=.agg #[I 0,I 0,I 1,I 0,I 0,I 0,I 0,I 0,I 3600,I 1]) rfl (by kernel_rfl) (by kernel_rfl) (by kernel_rfl) (by kernel_rfl) (fun _ _ _ h=>h) (Or.inl ⟨by rfl,?_⟩) ⟨trivial,un HS26⟩ ?_
    · intro W hW
      go_split_ands
      go_simp
    refine wpR_op (i:=1) (o:=_) (by kernel_rfl) rfl rfl (fun K hK=>?_)
    go_simp
    refine(siNumber 24 _).mono ?_
    rintro e W27 ⟨rfl,hb⟩
    have HF27:=hide ((un HF26).later hb)
    clear hb
    refine hK _ _ ⟨trivial,un HSS _ _ (un HF27)⟩ ?_
    clear hK K
    refine wpR_op (i:=3) (o:=_) (by kernel_rfl) rfl rfl (fun K hK=>?_)
    go_simp
    refine(times_si 0 0 0 0 0 0 0 0 24 1 0 0 1 0 0 0 0 0 3600 1 0 0 1 0 0 0 0 0 86400 1 _ (by decide +kernel)).mono ?_
    rintro e W28 ⟨rfl,hb⟩
    have HF28:=hide ((un HF27).later hb)
    clear hb
    refine hK _ _ ⟨trivial,un HSS _ _ (un HF28)⟩ ?_
    clear hK K
    refine wpR_late (i:=4) (o:=_) (by kernel_rfl) rfl rfl (by kernel_rfl) (fun K hK=>?_)
    go_simp
    refine(put2_of 0 0 1 0 0 0 0 0 86400 1 g g_along2 g_along3 _ (un HF28).gr rfl rfl (by kernel_rfl)).mono ?_
    rintro e W29 ⟨rfl,hg1,ho1⟩
    have HF29:=hide ((un HF28).put hg1 ho1)
    clear hg1 ho1
    refine hK _ _ (un HSS _ _ (un HF29)) ?_
    clear hK K
    refine wpR_done (by kernel_rfl) ?_
    clear HSS HS26
    go_upto_region 4 with (first
    | (refine storeT 180 10 info55 rfl (.tmp 5) (.tmp 23) rfl W32.heap.size z10 #[I 2,I 0,I 0,I 0,I 0,I 0,I 0,I 0,I 1,I 1] rfl rfl rfl rfl (OwnU.new _ _ _) (by kernel_rfl) ?_)
    | (go_at_call 315;have hchk:=HF31;clear hchk;refine(times_si 1 0 0 0 0 0 0 0 1 1 1 0 0 0 0 0 0 0 1 1 2 0 0 0 0 0 0 0 1 1 _ (by decide +kernel)).mono ?_;rintro e W32 ⟨rfl,hb⟩;have HF32:=hide ((un HF31).later hb);clear hb)
    | (go_at_call 314;have hchk:=HF30;clear hchk;refine(siOne0 _).mono ?_;rintro e W31 ⟨rfl,hb⟩;have HF31:=hide ((un HF30).later hb);clear hb)
    | (go_at_call 314;have hchk:=HF29;clear hchk;refine(siOne0 _).mono ?_;rintro e W30 ⟨rfl,hb⟩;have HF30:=hide ((un HF29).later hb);clear hb))
    have HF33:=hide (((un HF32).alloc z10).row (un HF32).on.size (fun p hp=>Nat.ne_of_gt ((un HF32).bx p hp).2.lt) #[I 2,I 0,I 0,I 0,I 0,I 0,I 0,I 0,I 1,I 1])
    generalize (W32.alloc (.cells z10 180)).setRow W32.heap.size #[I 2,I 0,I 0,I 0,I 0,I 0,I 0,I 0,I 1,I 1]=W33 at *
    generalize W32.heap.size=k5 at *
    have hpn:∀(a:Act) (v:Value),a.put none v=a:=fun _ _=>rfl
    simp only[hpn]
    clear hpn
    go_upto_region 4 with fail
    have HSS:Hid (∀(W':World) (vs:Array Value),FS w W' g vs [(k5,#[I 2,I 0,I 0,I 0,I 0,I 0,I 0,I 0,I 1,I 1]),(k4,#[I 0,I 0,I 1,I 0,I 0,I 0,I 0,I 0,I 3600,I 1]),(k3,#[I 0,I 0,I 1,I 0,I 0,I 0,I 0,I 0,I 60,I 1]),(b1,#[I (-1),I 1,I (-2),I 0,I 0,I 0,I 0,I 0,I 1,I 1])]→W'.cell? ⟨k5,0,none⟩=some (I 2)∧W'.cell? ⟨k5,1,none⟩=some (I 0)∧W'.cell? ⟨k5,2,none⟩=some (I 0)∧W'.cell? ⟨k5,3,none⟩=some (I 0)∧W'.cell? ⟨k5,4,none⟩=some (I 0)∧W'.cell? ⟨k5,5,none⟩=some (I 0)∧W'.cell? ⟨k5,6,none⟩=some (I 0)∧W'.cell? ⟨k5,7,none⟩=some (I 0)∧W'.cell? ⟨k5,8,none⟩=some (I 1)∧W'.cell? ⟨k5,9,none⟩=some (I 1)):=fun W' vs h=>⟨((h.bx (k5,#[I 2,I 0,I 0,I 0,I 0,I 0,I 0,I 0,I 1,I 1]) (by simp)).2.ub.c 0 _ rfl),((h.bx (k5,#[I 2,I 0,I 0,I 0,I 0,I 0,I 0,I 0,I 1,I 1]) (by simp)).2.ub.c 1 _ rfl),((h.bx (k5,#[I 2,I 0,I 0,I 0,I 0,I 0,I 0,I 0,I 1,I 1]) (by simp)).2.ub.c 2 _ rfl),((h.bx (k5,#[I 2,I 0,I 0,I 0,I 0,I 0,I 0,I 0,I 1,I 1]) (by simp)).2.ub.c 3 _ rfl),((h.bx (k5,#[I 2,I 0,I 0,I 0,I 0,I 0,I 0,I 0,I 1,I 1]) (by simp)).2.ub.c 4 _ rfl),((h.bx (k5,#[I 2,I 0,I 0,I 0,I 0,I 0,I 0,I 0,I 1,I 1]) (by simp)).2.ub.c 5 _ rfl),((h.bx (k5,#[I 2,I 0,I 0,I 0,I 0,I 0,I 0,I 0,I 1,I 1]) (by simp)).2.ub.c 6 _ rfl),((h.bx (k5,#[I 2,I 0,I 0,I 0,I 0,I 0,I 0,I 0,I 1,I 1]) (by simp)).2.ub.c 7 _ rfl),((h.bx (k5,#[I 2,I 0,I 0,I 0,I 0,I 0,I 0,I 0,I 1,I 1]) (by simp)).2.ub.c 8 _ rfl),((h.bx (k5,#[I 2,I 0,I 0,I 0,I 0,I 0,I 0,I 0,I 1,I 1]) (by simp)).2.ub.c 9 _ rfl)⟩
    have HF34:Hid (FS w (W33.drew) g g_along3 [(k5,#[I 2,I 0,I 0,I 0,I 0,I 0,I 0,I 0,I 1,I 1]),(k4,#[I 0,I 0,I 1,I 0,I 0,I 0,I 0,I 0,I 3600,I 1]),(k3,#[I 0,I 0,I 1,I 0,I 0,I 0,I 0,I 0,I 60,I 1]),(b1,#[I (-1),I 1,I (-2),I 0,I 0,I 0,I 0,I 0,I 1,I 1])]):=(un HF33).later (Below.refl _ _).drew
    have HS34:=hide (un HSS _ _ (un HF34))
    refine region_reads 6 (fun _=>True) (fun W'=>W'.cell? ⟨k5,0,none⟩=some (I 2)∧W'.cell? ⟨k5,1,none⟩=some (I 0)∧W'.cell? ⟨k5,2,none⟩=some (I 0)∧W'.cell? ⟨k5,3,none⟩=some (I 0)∧W'.cell? ⟨k5,4,none⟩=some (I 0)∧W'.cell? ⟨k5,5,none⟩=some (I 0)∧W'.cell? ⟨k5,6,none⟩=some (I 0)∧W'.cell? ⟨k5,7,none⟩=some (I 0)∧W'.cell? ⟨k5,8,none⟩=some (I 1)∧W'.cell? ⟨k5,9,none⟩=some (I 1)) 7 rfl (by kernel_rfl) ?_
    refine wpR_take7 (i:=0) (oi:=_) (v:=.func (.func 367) #[] #[.pointer (some ⟨g,0,none⟩)]) rfl (by kernel_rfl) (by kernel_rfl) (by kernel_rfl) (by kernel_rfl) (fun _ _ _ h=>h) (Or.inl ⟨by rfl,?_⟩) ⟨trivial,un HS34⟩ ?_
    · intro W hW
      go_split_ands
      go_simp
    refine wpR_take7 (i:=1) (oi:=_) (v:=.agg #[I 2,I 0,I 0,I 0,I 0,I 0,I 0,I 0,I 1,I 1]) rfl (by kernel_rfl) (by kernel_rfl) (by kernel_rfl) (by kernel_rfl) (fun _ _ _ h=>h) (Or.inl ⟨by rfl,?_⟩) ⟨trivial,un HS34⟩ ?_
    · intro W hW
      go_split_ands
      go_simp
    refine wpR_op (i:=2) (o:=_) (by kernel_rfl) rfl rfl (fun K hK=>?_)
    go_simp
    refine(siOne0 _).mono ?_
    rintro e W35 ⟨rfl,hb⟩
    have HF35:=hide ((un HF34).later hb)
    clear hb
    refine hK _ _ ⟨trivial,un HSS _ _ (un HF35)⟩ ?_
    clear hK K
    refine wpR_op (i:=3) (o:=_) (by kernel_rfl) rfl rfl (fun K hK=>?_)
    go_simp
    refine(times_si 2 0 0 0 0 0 0 0 1 1 1 0 0 0 0 0 0 0 1 1 3 0 0 0 0 0 0 0 1 1 _ (by decide +kernel)).mono ?_
    rintro e W36 ⟨rfl,hb⟩
    have HF36:=hide ((un HF35).later hb)
    clear hb
    refine hK _ _ ⟨trivial,un HSS _ _ (un HF36)⟩ ?_
    clear hK K
    refine wpR_op (i:=4) (o:=_) (by kernel_rfl) rfl rfl (fun K hK=>?_)
    go_simp
    refine(siNumber 1000 _).mono ?_
    rintro e W37 ⟨rfl,hb⟩
    have HF37:=hide ((un HF36).later hb)
    clear hb
    refine hK _ _ ⟨trivial,un HSS _ _ (un HF37)⟩ ?_
    clear hK K
    refine wpR_op (i:=5) (o:=_) (by kernel_rfl) rfl rfl (fun K hK=>?_)
    go_simp
    refine(by_si 3 0 0 0 0 0 0 0 1 1 0 0 0 0 0 0 0 0 1000 1 3 0 0 0 0 0 0 0 1 1000 _ (by decide +kernel)).mono ?_
    rintro e W38 ⟨rfl,hb⟩
    have HF38:=hide ((un HF37).later hb)
    clear hb
    refine hK _ _ ⟨trivial,un HSS _ _ (un HF38)⟩ ?_
    clear hK K
    refine wpR_late (i:=6) (o:=_) (by kernel_rfl) rfl rfl (by kernel_rfl) (fun K hK=>?_)
    go_simp
    refine(put3_of 3 0 0 0 0 0 0 0 1 1000 g g_along3 g_along4 _ (un HF38).gr rfl rfl (by kernel_rfl)).mono ?_
    rintro e W39 ⟨rfl,hg1,ho1⟩
    have HF39:=hide ((un HF38).put hg1 ho1)
    clear hg1 ho1
    refine hK _ _ (un HSS _ _ (un HF39)) ?_
    clear hK K
    refine wpR_done (by kernel_rfl) ?_
    clear HSS HS34
    go_upto_region 6 with (first
    | (go_at_call 367;go_must(refine(put4_of 0 1 0 0 0 0 0 0 1000 1 g g_along4 g_along5 _ (un HF42).gr rfl rfl (by kernel_rfl)).mono ?_;rintro e W43 ⟨rfl,hg1,ho1⟩;have HF43:=hide ((un HF42).put hg1 ho1);clear hg1 ho1))
    | (go_at_call 315;have hchk:=HF41;clear hchk;refine(times_si 0 0 0 0 0 0 0 0 1000 1 0 1 0 0 0 0 0 0 1 1 0 1 0 0 0 0 0 0 1000 1 _ (by decide +kernel)).mono ?_;rintro e W42 ⟨rfl,hb⟩;have HF42:=hide ((un HF41).later hb);clear hb)
    | (go_at_call 314;have hchk:=HF40;clear hchk;refine(siOne1 _).mono ?_;rintro e W41 ⟨rfl,hb⟩;have HF41:=hide ((un HF40).later hb);clear hb)
    | (go_at_call 320;have hchk:=HF39;clear hchk;refine(siNumber 1000 _).mono ?_;rintro e W40 ⟨rfl,hb⟩;have HF40:=hide ((un HF39).later hb);clear hb))
    go_upto_region 6 with fail
    have HSS:Hid (∀(W':World) (vs:Array Value),FS w W' g vs [(k5,#[I 2,I 0,I 0,I 0,I 0,I 0,I 0,I 0,I 1,I 1]),(k4,#[I 0,I 0,I 1,I 0,I 0,I 0,I 0,I 0,I 3600,I 1]),(k3,#[I 0,I 0,I 1,I 0,I 0,I 0,I 0,I 0,I 60,I 1]),(b1,#[I (-1),I 1,I (-2),I 0,I 0,I 0,I 0,I 0,I 1,I 1])]→W'.cell? ⟨b1,0,none⟩=some (I (-1))∧W'.cell? ⟨b1,1,none⟩=some (I 1)∧W'.cell? ⟨b1,2,none⟩=some (I (-2))∧W'.cell? ⟨b1,3,none⟩=some (I 0)∧W'.cell? ⟨b1,4,none⟩=some (I 0)∧W'.cell? ⟨b1,5,none⟩=some (I 0)∧W'.cell? ⟨b1,6,none⟩=some (I 0)∧W'.cell? ⟨b1,7,none⟩=some (I 0)∧W'.cell? ⟨b1,8,none⟩=some (I 1)∧W'.cell? ⟨b1,9,none⟩=some (I 1)):=fun W' vs h=>⟨((h.bx (b1,#[I (-1),I 1,I (-2),I 0,I 0,I 0,I 0,I 0,I 1,I 1]) (by simp)).2.ub.c 0 _ rfl),((h.bx (b1,#[I (-1),I 1,I (-2),I 0,I 0,I 0,I 0,I 0,I 1,I 1]) (by simp)).2.ub.c 1 _ rfl),((h.bx (b1,#[I (-1),I 1,I (-2),I 0,I 0,I 0,I 0,I 0,I 1,I 1]) (by simp)).2.ub.c 2 _ rfl),((h.bx (b1,#[I (-1),I 1,I (-2),I 0,I 0,I 0,I 0,I 0,I 1,I 1]) (by simp)).2.ub.c 3 _ rfl),((h.bx (b1,#[I (-1),I 1,I (-2),I 0,I 0,I 0,I 0,I 0,I 1,I 1]) (by simp)).2.ub.c 4 _ rfl),((h.bx (b1,#[I (-1),I 1,I (-2),I 0,I 0,I 0,I 0,I 0,I 1,I 1]) (by simp)).2.ub.c 5 _ rfl),((h.bx (b1,#[I (-1),I 1,I (-2),I 0,I 0,I 0,I 0,I 0,I 1,I 1]) (by simp)).2.ub.c 6 _ rfl),((h.bx (b1,#[I (-1),I 1,I (-2),I 0,I 0,I 0,I 0,I 0,I 1,I 1]) (by simp)).2.ub.c 7 _ rfl),((h.bx (b1,#[I (-1),I 1,I (-2),I 0,I 0,I 0,I 0,I 0,I 1,I 1]) (by simp)).2.ub.c 8 _ rfl),((h.bx (b1,#[I (-1),I 1,I (-2),I 0,I 0,I 0,I 0,I 0,I 1,I 1]) (by simp)).2.ub.c 9 _ rfl)⟩
    have HF44:Hid (FS w (W43.drew) g g_along5 [(k5,#[I 2,I 0,I 0,I 0,I 0,I 0,I 0,I 0,I 1,I 1]),(k4,#[I 0,I 0,I 1,I 0,I 0,I 0,I 0,I 0,I 3600,I 1]),(k3,#[I 0,I 0,I 1,I 0,I 0,I 0,I 0,I 0,I 60,I 1]),(b1,#[I (-1),I 1,I (-2),I 0,I 0,I 0,I 0,I 0,I 1,I 1])]):=(un HF43).later (Below.refl _ _).drew
    have HS44:=hide (un HSS _ _ (un HF44))
    refine region_reads 4 (fun _=>True) (fun W'=>W'.cell? ⟨b1,0,none⟩=some (I (-1))∧W'.cell? ⟨b1,1,none⟩=some (I 1)∧W'.cell? ⟨b1,2,none⟩=some (I (-2))∧W'.cell? ⟨b1,3,none⟩=some (I 0)∧W'.cell? ⟨b1,4,none⟩=some (I 0)∧W'.cell? ⟨b1,5,none⟩=some (I 0)∧W'.cell? ⟨b1,6,none⟩=some (I 0)∧W'.cell? ⟨b1,7,none⟩=some (I 0)∧W'.cell? ⟨b1,8,none⟩=some (I 1)∧W'.cell? ⟨b1,9,none⟩=some (I 1)) 5 rfl (by kernel_rfl) ?_
    refine wpR_take7 (i:=0) (oi:=_) (v:=.func (.func 367) #[] #[.pointer (some ⟨g,0,none⟩)]) rfl (by kernel_rfl) (by kernel_rfl) (by kernel_rfl) (by kernel_rfl) (fun _ _ _ h=>h) (Or.inl ⟨by rfl,?_⟩) ⟨trivial,un HS44⟩ ?_
    · intro W hW
      go_split_ands
      go_simp
    refine wpR_take7 (i:=2) (oi:=_) (v:=.agg #[I (-1),I 1,I (-2),I 0,I 0,I 0,I 0,I 0,I 1,I 1]) rfl (by kernel_rfl) (by kernel_rfl) (by kernel_rfl) (by kernel_rfl) (fun _ _ _ h=>h) (Or.inl ⟨by rfl,?_⟩) ⟨trivial,un HS44⟩ ?_
    · intro W hW
      go_split_ands
      go_simp
    refine wpR_op (i:=1) (o:=_) (by kernel_rfl) rfl rfl (fun K hK=>?_)
    go_simp
    refine(siNumber 100000 _).mono ?_
    rintro e W45 ⟨rfl,hb⟩
    have HF45:=hide ((un HF44).later hb)
    clear hb
    refine hK _ _ ⟨trivial,un HSS _ _ (un HF45)⟩ ?_
    clear hK K
    refine wpR_op (i:=3) (o:=_) (by kernel_rfl) rfl rfl (fun K hK=>?_)
    go_simp
    refine(times_si 0 0 0 0 0 0 0 0 100000 1 (-1) 1 (-2) 0 0 0 0 0 1 1 (-1) 1 (-2) 0 0 0 0 0 100000 1 _ (by decide +kernel)).mono ?_
    rintro e W46 ⟨rfl,hb⟩
    have HF46:=hide ((un HF45).later hb)
    clear hb
    refine hK _ _ ⟨trivial,un HSS _ _ (un HF46)⟩ ?_
    clear hK K
    refine wpR_late (i:=4) (o:=_) (by kernel_rfl) rfl rfl (by kernel_rfl) (fun K hK=>?_)
    go_simp
    refine(put5_of (-1) 1 (-2) 0 0 0 0 0 100000 1 g g_along5 g_along6 _ (un HF46).gr rfl rfl (by kernel_rfl)).mono ?_
    rintro e W47 ⟨rfl,hg1,ho1⟩
    have HF47:=hide ((un HF46).put hg1 ho1)
    clear hg1 ho1
    refine hK _ _ (un HSS _ _ (un HF47)) ?_
    clear hK K
    refine wpR_done (by kernel_rfl) ?_
    clear HSS HS44
    go_upto_region 7 with fail
    have HSS:Hid (∀(W':World) (vs:Array Value),FS w W' g vs [(k5,#[I 2,I 0,I 0,I 0,I 0,I 0,I 0,I 0,I 1,I 1]),(k4,#[I 0,I 0,I 1,I 0,I 0,I 0,I 0,I 0,I 3600,I 1]),(k3,#[I 0,I 0,I 1,I 0,I 0,I 0,I 0,I 0,I 60,I 1]),(b1,#[I (-1),I 1,I (-2),I 0,I 0,I 0,I 0,I 0,I 1,I 1])]→W'.cell? ⟨k5,0,none⟩=some (I 2)∧W'.cell? ⟨k5,1,none⟩=some (I 0)∧W'.cell? ⟨k5,2,none⟩=some (I 0)∧W'.cell? ⟨k5,3,none⟩=some (I 0)∧W'.cell? ⟨k5,4,none⟩=some (I 0)∧W'.cell? ⟨k5,5,none⟩=some (I 0)∧W'.cell? ⟨k5,6,none⟩=some (I 0)∧W'.cell? ⟨k5,7,none⟩=some (I 0)∧W'.cell? ⟨k5,8,none⟩=some (I 1)∧W'.cell? ⟨k5,9,none⟩=some (I 1)):=fun W' vs h=>⟨((h.bx (k5,#[I 2,I 0,I 0,I 0,I 0,I 0,I 0,I 0,I 1,I 1]) (by simp)).2.ub.c 0 _ rfl),((h.bx (k5,#[I 2,I 0,I 0,I 0,I 0,I 0,I 0,I 0,I 1,I 1]) (by simp)).2.ub.c 1 _ rfl),((h.bx (k5,#[I 2,I 0,I 0,I 0,I 0,I 0,I 0,I 0,I 1,I 1]) (by simp)).2.ub.c 2 _ rfl),((h.bx (k5,#[I 2,I 0,I 0,I 0,I 0,I 0,I 0,I 0,I 1,I 1]) (by simp)).2.ub.c 3 _ rfl),((h.bx (k5,#[I 2,I 0,I 0,I 0,I 0,I 0,I 0,I 0,I 1,I 1]) (by simp)).2.ub.c 4 _ rfl),((h.bx (k5,#[I 2,I 0,I 0,I 0,I 0,I 0,I 0,I 0,I 1,I 1]) (by simp)).2.ub.c 5 _ rfl),((h.bx (k5,#[I 2,I 0,I 0,I 0,I 0,I 0,I 0,I 0,I 1,I 1]) (by simp)).2.ub.c 6 _ rfl),((h.bx (k5,#[I 2,I 0,I 0,I 0,I 0,I 0,I 0,I 0,I 1,I 1]) (by simp)).2.ub.c 7 _ rfl),((h.bx (k5,#[I 2,I 0,I 0,I 0,I 0,I 0,I 0,I 0,I 1,I 1]) (by simp)).2.ub.c 8 _ rfl),((h.bx (k5,#[I 2,I 0,I 0,I 0,I 0,I 0,I 0,I 0,I 1,I 1]) (by simp)).2.ub.c 9 _ rfl)⟩
    have HF48:Hid (FS w (W47.drew) g g_along6 [(k5,#[I 2,I 0,I 0,I 0,I 0,I 0,I 0,I 0,I 1,I 1]),(k4,#[I 0,I 0,I 1,I 0,I 0,I 0,I 0,I 0,I 3600,I 1]),(k3,#[I 0,I 0,I 1,I 0,I 0,I 0,I 0,I 0,I 60,I 1]),(b1,#[I (-1),I 1,I (-2),I 0,I 0,I 0,I 0,I 0,I 1,I 1])]):=(un HF47).later (Below.refl _ _).drew
    have HS48:=hide (un HSS _ _ (un HF48))
    refine region_reads 4 (fun _=>True) (fun W'=>W'.cell? ⟨k5,0,none⟩=some (I 2)∧W'.cell? ⟨k5,1,none⟩=some (I 0)∧W'.cell? ⟨k5,2,none⟩=some (I 0)∧W'.cell? ⟨k5,3,none⟩=some (I 0)∧W'.cell? ⟨k5,4,none⟩=some (I 0)∧W'.cell? ⟨k5,5,none⟩=some (I 0)∧W'.cell? ⟨k5,6,none⟩=some (I 0)∧W'.cell? ⟨k5,7,none⟩=some (I 0)∧W'.cell? ⟨k5,8,none⟩=some (I 1)∧W'.cell? ⟨k5,9,none⟩=some (I 1)) 5 rfl (by kernel_rfl) ?_
    refine wpR_take7 (i:=0) (oi:=_) (v:=.func (.func 367) #[] #[.pointer (some ⟨g,0,none⟩)]) rfl (by kernel_rfl) (by kernel_rfl) (by kernel_rfl) (by kernel_rfl) (fun _ _ _ h=>h) (Or.inl ⟨by rfl,?_⟩) ⟨trivial,un HS48⟩ ?_
    · intro W hW
      go_split_ands
      go_simp
    refine wpR_take7 (i:=2) (oi:=_) (v:=.agg #[I 2,I 0,I 0,I 0,I 0,I 0,I 0,I 0,I 1,I 1]) rfl (by kernel_rfl) (by kernel_rfl) (by kernel_rfl) (by kernel_rfl) (fun _ _ _ h=>h) (Or.inl ⟨by rfl,?_⟩) ⟨trivial,un HS48⟩ ?_
    · intro W hW
      go_split_ands
      go_simp
    refine wpR_op (i:=1) (o:=_) (by kernel_rfl) rfl rfl (fun K hK=>?_)
    go_simp
    refine(siNumber 10000 _).mono ?_
    rintro e W49 ⟨rfl,hb⟩
    have HF49:=hide ((un HF48).later hb)
    clear hb
    refine hK _ _ ⟨trivial,un HSS _ _ (un HF49)⟩ ?_
    clear hK K
    refine wpR_op (i:=3) (o:=_) (by kernel_rfl) rfl rfl (fun K hK=>?_)
    go_simp
    refine(times_si 0 0 0 0 0 0 0 0 10000 1 2 0 0 0 0 0 0 0 1 1 2 0 0 0 0 0 0 0 10000 1 _ (by decide +kernel)).mono ?_
    rintro e W50 ⟨rfl,hb⟩
    have HF50:=hide ((un HF49).later hb)
    clear hb
    refine hK _ _ ⟨trivial,un HSS _ _ (un HF50)⟩ ?_
    clear hK K
    refine wpR_late (i:=4) (o:=_) (by kernel_rfl) rfl rfl (by kernel_rfl) (fun K hK=>?_)
    go_simp
    refine(put6_of 2 0 0 0 0 0 0 0 10000 1 g g_along6 g_along7 _ (un HF50).gr rfl rfl (by kernel_rfl)).mono ?_
    rintro e W51 ⟨rfl,hg1,ho1⟩
    have HF51:=hide ((un HF50).put hg1 ho1)
    clear hg1 ho1
    refine hK _ _ (un HSS _ _ (un HF51)) ?_
    clear hK K
    refine wpR_done (by kernel_rfl) ?_
    clear HSS HS48
    go_wp2_with (first
    | (go_at_call 367;go_must(refine(put7_of 0 0 0 0 0 0 0 1 8 1 g g_along7 g_along8 _ (un HF54).gr rfl rfl (by kernel_rfl)).mono ?_;rintro e W55 ⟨rfl,hg1,ho1⟩;have HF55:=hide ((un HF54).put hg1 ho1);clear hg1 ho1))
    | (go_at_call 315;have hchk:=HF53;clear hchk;refine(times_si 0 0 0 0 0 0 0 0 8 1 0 0 0 0 0 0 0 1 1 1 0 0 0 0 0 0 0 1 8 1 _ (by decide +kernel)).mono ?_;rintro e W54 ⟨rfl,hb⟩;have HF54:=hide ((un HF53).later hb);clear hb)
    | (go_at_call 314;have hchk:=HF52;clear hchk;refine(siOne7 _).mono ?_;rintro e W53 ⟨rfl,hb⟩;have HF53:=hide ((un HF52).later hb);clear hb)
    | (go_at_call 320;have hchk:=HF51;clear hchk;refine(siNumber 8 _).mono ?_;rintro e W52 ⟨rfl,hb⟩;have HF52:=hide ((un HF51).later hb);clear hb))
    skip
    go_end0
    exact⟨rfl,(un HF55).gr,(un HF55).on⟩
end Go.Proofs.YtliadckofhblnaaGreatDoor

namespace Go.Proofs.YtliadckofhblnaaGreatDoor
open Go.RowKit
set_option maxRecDepth 100000 in
set_option maxHeartbeats 4000000 in
theorem grp_along (b1:Nat) (w:World) (h1:OwnU w b1 180 #[I (-1),I 1,I (-2),I 0,I 0,I 0,I 0,I 0,I 1,I 1]):Calls Tryz.prog 312 #[.func (.func 325) #[] #[.pointer (some ⟨b1,0,none⟩)]] w fun e w'=>e=.returned (.agg g_along8)∧Below w.heap.size w w':=by
 obtain⟨V,hV⟩:∃V,V=(w.alloc (.cells Tryz.zeroCells286 286)).alloc (.cells Tryz.zeroCells286 286):=⟨_,rfl⟩
 obtain⟨g,hg⟩:∃g,g=w.heap.size+1:=⟨_,rfl⟩
 have HW:Hid (Below w.heap.size w V):=by rw[hV];exact((Below.refl _ _).alloc (Nat.le_refl _) _).alloc (by simp) _
 have HR:Hid (OwnU V w.heap.size 286 gZero):=by rw[hV,←zc91];exact(OwnU.new w _ 286).alloc _
 have HG:Hid (OwnU V g 286 gZero):=by rw[hV,hg,←zc91];have h:=OwnU.new (w.alloc (.cells Tryz.zeroCells286 286)) Tryz.zeroCells286 286;rw[Dm.size_alloc]at h;exact h
 have HC1:Hid (OwnU V b1 180 #[I (-1),I 1,I (-2),I 0,I 0,I 0,I 0,I 0,I 1,I 1]∧¬b1=g):=⟨h1.later (un HW),(by have:=h1.lt;omega)⟩
 have HN:Hid (¬w.heap.size=g∧w.heap.size≤g∧w.heap.size≤V.heap.size):=⟨by omega,by omega,(un HW).size⟩
 have HV:=hide hV
 clear hV h1
 go_enter Tryz.func312,Tryz.ntmps312
 go_upto_region 2 with fail
 rw[←un HV,←hg]
 clear HV hg
 go_upto_region 3 with (go_at_call 325;go_must(refine(fill_along g b1 _ (un HG) (un HC1).1 (un HC1).2).mono ?_;rintro e w1 ⟨rfl,hg1,ho1⟩;have HG1:=hide hg1;have HR1:=hide (ho1.own _ _ _ (un HN).1 (un HR));have HW1:=hide (ho1.bel w.heap.size w (un HN).2.1 (un HN).2.2 (un HW));clear hg1 ho1))
 go_wp2_with (first
  | (refine wpList_load_row rfl 286 (.tmp 3) rfl g rfl 286 g_along8 (0,0) _ (un HG1) Tryz.underlying286 rfl (by kernel_rfl) ?_)
  | (refine storeT 286 81 info91 rfl (.tmp 2) (.tmp 7) rfl w.heap.size gZero g_along8 rfl rfl rfl rfl (un HR1) (by kernel_rfl) ?_))
 exact bodyPost_ret (v:=.agg g_along8) (res91 Tryz.results312 _ _ w.heap.size _ rfl rfl ((un HR1).setRow _)) rfl ⟨rfl,below_setRow (un HW1) (Nat.le_refl _) _⟩
theorem fld_along (w:World):(Instr.field 286 (.agg g_force2) 0).run Tryz.prog w=.ok (.agg (g_force2.extract 0 80)) w:=by kernel_rfl
theorem idx_along (w:World):(Instr.index 284 (.agg (g_force2.extract 0 80)) (I 1)).run Tryz.prog w=.ok (.agg #[I (-1),I 1,I (-2),I 0,I 0,I 0,I 0,I 0,I 1,I 1]) w:=by kernel_rfl
set_option maxRecDepth 100000 in
set_option maxHeartbeats 4000000 in
theorem made_along (w:World):Calls Tryz.prog 294 #[] w fun e w'=>e=.returned (.agg g_along8)∧Below w.heap.size w w':=by
 obtain⟨V,hV⟩:∃V,V=w.alloc (.cells Tryz.zeroCells286 286):=⟨_,rfl⟩
 have HW:Hid (Below w.heap.size w V):=by rw[hV];exact(Below.refl _ _).alloc (Nat.le_refl _) _
 have HR:Hid (OwnU V w.heap.size 286 gZero):=by rw[hV,←zc91];exact OwnU.new w _ 286
 have HV:=hide hV
 clear hV
 have hfl:=fld_along
 have hix:=idx_along
 go_enter Tryz.func294,Tryz.ntmps294
 go_upto_region 1 with fail
 rw[←un HV]
 clear HV
 go_upto_region 2 with (first
  | (go_at_call 286;go_must(refine(made_force _).mono ?_;rintro e w1 ⟨rfl,hb⟩;have HR1:=hide ((un HR).later hb);have HW1:=hide ((un HW).trans (hb.mono (un HW).size));clear hb))
  | (refine storeT 180 10 info55 rfl (.tmp 1) (.tmp 4) rfl w1.heap.size #[I 0,I 0,I 0,I 0,I 0,I 0,I 0,I 0,I 0,I 0] #[I (-1),I 1,I (-2),I 0,I 0,I 0,I 0,I 0,I 1,I 1] rfl rfl rfl rfl (OwnU.new _ _ _) (by kernel_rfl) ?_))
 have hb2:Below w1.heap.size w1 ((w1.alloc (.cells #[I 0,I 0,I 0,I 0,I 0,I 0,I 0,I 0,I 0,I 0] 180)).setRow w1.heap.size #[I (-1),I 1,I (-2),I 0,I 0,I 0,I 0,I 0,I 1,I 1]):=below_setRow (albel _ _) (Nat.le_refl _) _
 have HB2:Hid (OwnU ((w1.alloc (.cells #[I 0,I 0,I 0,I 0,I 0,I 0,I 0,I 0,I 0,I 0] 180)).setRow w1.heap.size #[I (-1),I 1,I (-2),I 0,I 0,I 0,I 0,I 0,I 1,I 1]) w1.heap.size 180 #[I (-1),I 1,I (-2),I 0,I 0,I 0,I 0,I 0,I 1,I 1]):=(OwnU.new _ _ _).setRow _
 have HR2:=hide ((un HR1).later hb2)
 have HW2:=hide ((un HW1).trans (hb2.mono (un HW1).size))
 clear hb2 hfl hix
 generalize (w1.alloc (.cells #[I 0,I 0,I 0,I 0,I 0,I 0,I 0,I 0,I 0,I 0] 180)).setRow w1.heap.size #[I (-1),I 1,I (-2),I 0,I 0,I 0,I 0,I 0,I 1,I 1]=w2 at *
 generalize w1.heap.size=b1 at *
 go_wp2_with (first
  | (go_at_call 312;go_must(refine(grp_along b1 _ (un HB2)).mono ?_;rintro e w3 ⟨rfl,hb⟩;have HR3:=hide ((un HR2).later hb);have HW3:=hide ((un HW2).trans (hb.mono (un HW2).size));clear hb))
  | (refine storeT 286 81 info91 rfl (.tmp 0) (.tmp 6) rfl w.heap.size gZero g_along8 rfl rfl rfl rfl (un HR3) (by kernel_rfl) ?_))
 exact bodyPost_ret (v:=.agg g_along8) (res91 Tryz.results294 _ _ w.heap.size _ rfl rfl ((un HR3).setRow _)) rfl ⟨rfl,below_setRow (un HW3) (Nat.le_refl _) _⟩
end Go.Proofs.YtliadckofhblnaaGreatDoor

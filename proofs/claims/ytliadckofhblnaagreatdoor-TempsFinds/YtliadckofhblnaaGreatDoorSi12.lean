/- Groups of si, made. -/
import Derived.Test.YtliadckofhblnaaGreatDoorAdd
import Derived.Test.YtliadckofhblnaaGreatDoorSi6
import Derived.Test.YtliadckofhblnaaGreatDoorJoule
set_option maxHeartbeats 8000000
set_option maxRecDepth 100000
namespace Go.Proofs.YtliadckofhblnaaGreatDoor
open Go.RowKit
theorem fill_rays (g:Nat) (b1:Nat) (b2:Nat) (w:World) (hg:zAc w g 286 zAw) (h1:zAc w b1 180 (J 0 0 (-1) 0 0 0 0 0 1 1)) (n1:¬b1=g) (h2:zAc w b2 180 (J 2 1 (-2) 0 0 0 0 0 1 1)) (n2:¬b2=g) :
 Calls Tryz.prog 322 #[.func (.func 367) #[] #[.pointer (some ⟨g,0,none⟩)],.pointer (some ⟨b1,0,none⟩),.pointer (some ⟨b2,0,none⟩)] w fun e w'=>e=.returned (.tuple #[])∧zAc w' g 286 zEt∧Onto w w' g:=by
 have HF0:Hid (FS w w g zAw [(b1,J 0 0 (-1) 0 0 0 0 0 1 1),(b2,J 2 1 (-2) 0 0 0 0 0 1 1)]):=⟨hg,Onto.of_below (Below.refl _ _),fun p hp=>(by simp only[List.mem_cons,List.not_mem_nil,or_false]at hp;rcases hp with rfl|rfl<;>first|exact⟨n1,h1⟩|exact⟨n2,h2⟩)⟩;clear hg h1 n1 h2 n2;go_enter Tryz.func322,Tryz.ntmps322;have x0_0:w.cell? ⟨b1,0,none⟩=some (I 0):=((un HF0).bx (b1,J 0 0 (-1) 0 0 0 0 0 1 1) (by simp)).2.ub.c 0 _ rfl;have x0_1:w.cell? ⟨b1,1,none⟩=some (I 0):=((un HF0).bx (b1,J 0 0 (-1) 0 0 0 0 0 1 1) (by simp)).2.ub.c 1 _ rfl;have x0_2:w.cell? ⟨b1,2,none⟩=some (I (-1)):=((un HF0).bx (b1,J 0 0 (-1) 0 0 0 0 0 1 1) (by simp)).2.ub.c 2 _ rfl;have x0_3:w.cell? ⟨b1,3,none⟩=some (I 0):=((un HF0).bx (b1,J 0 0 (-1) 0 0 0 0 0 1 1) (by simp)).2.ub.c 3 _ rfl;have x0_4:w.cell? ⟨b1,4,none⟩=some (I 0):=((un HF0).bx (b1,J 0 0 (-1) 0 0 0 0 0 1 1) (by simp)).2.ub.c 4 _ rfl;have x0_5:w.cell? ⟨b1,5,none⟩=some (I 0):=((un HF0).bx (b1,J 0 0 (-1) 0 0 0 0 0 1 1) (by simp)).2.ub.c 5 _ rfl;have x0_6:w.cell? ⟨b1,6,none⟩=some (I 0):=((un HF0).bx (b1,J 0 0 (-1) 0 0 0 0 0 1 1) (by simp)).2.ub.c 6 _ rfl;have x0_7:w.cell? ⟨b1,7,none⟩=some (I 0):=((un HF0).bx (b1,J 0 0 (-1) 0 0 0 0 0 1 1) (by simp)).2.ub.c 7 _ rfl;have x0_8:w.cell? ⟨b1,8,none⟩=some (I 1):=((un HF0).bx (b1,J 0 0 (-1) 0 0 0 0 0 1 1) (by simp)).2.ub.c 8 _ rfl;have x0_9:w.cell? ⟨b1,9,none⟩=some (I 1):=((un HF0).bx (b1,J 0 0 (-1) 0 0 0 0 0 1 1) (by simp)).2.ub.c 9 _ rfl
 go_upto_region 1 with (first
  | (go_at_call 367;go_must(refine(zDy 0 0 (-1) 0 0 0 0 0 1 1 g zAw g_rays1 _ (un HF0).gr rfl rfl (by kernel_rfl)).mono ?_;rintro e W1 ⟨rfl,hg1,ho1⟩;have HF1:=zAb ((un HF0).put hg1 ho1);clear hg1 ho1 x0_0 x0_1 x0_2 x0_3 x0_4 x0_5 x0_6 x0_7 x0_8 x0_9)))
 go_wp2_with fail
 go_cut [4]from 8 (fun s9 wx=>∃k,s9=.pointer (some ⟨k,0,none⟩)∧Hid (FS w wx g g_rays2 ((k,J 2 0 (-2) 0 0 0 0 0 1 1) :: [(b1,J 0 0 (-1) 0 0 0 0 0 1 1),(b2,J 2 1 (-2) 0 0 0 0 0 1 1)])))
 case first=>
  have HSS:Hid (∀(W':World) (vs:Array Value),FS w W' g vs [(b1,J 0 0 (-1) 0 0 0 0 0 1 1),(b2,J 2 1 (-2) 0 0 0 0 0 1 1)]→C10 W' b2 (I 2) (I 1) (I (-2)) (I 0) (I 0) (I 0) (I 0) (I 0) (I 1) (I 1)):=fun W' vs h=>(h.bx (b2,J 2 1 (-2) 0 0 0 0 0 1 1) (by simp)).2.c10
  have HF2:Hid (FS w (W1.drew) g g_rays1 [(b1,J 0 0 (-1) 0 0 0 0 0 1 1),(b2,J 2 1 (-2) 0 0 0 0 0 1 1)]):=(un HF1).later (Below.refl _ _).drew;have HS2:=zAb (un HSS _ _ (un HF2));refine zAi 6 (fun _=>True) (fun W'=>W'.cell? ⟨b2,0,none⟩=some (I 2)∧W'.cell? ⟨b2,1,none⟩=some (I 1)∧W'.cell? ⟨b2,2,none⟩=some (I (-2))∧W'.cell? ⟨b2,3,none⟩=some (I 0)∧W'.cell? ⟨b2,4,none⟩=some (I 0)∧W'.cell? ⟨b2,5,none⟩=some (I 0)∧W'.cell? ⟨b2,6,none⟩=some (I 0)∧W'.cell? ⟨b2,7,none⟩=some (I 0)∧W'.cell? ⟨b2,8,none⟩=some (I 1)∧W'.cell? ⟨b2,9,none⟩=some (I 1)) 7 rfl (by kernel_rfl) ?_;refine wT7 0 (.func (.func 367) #[] #[.pointer (some ⟨g,0,none⟩)]) rfl (Or.inl ⟨by rfl,?_⟩) ⟨trivial,un HS2⟩ ?_
  ·intro W hW
   go_split_ands
   go_simp
  refine wT7 1 (.agg (J 2 1 (-2) 0 0 0 0 0 1 1)) rfl (Or.inl ⟨by rfl,?_⟩) ⟨trivial,un HS2⟩ ?_
  ·intro W hW
   go_split_ands
   go_simp
  clear HS2;generalize W1.drew=W2 at *
  refine zBn (i:=2) (j:=5) (by kernel_rfl) rfl rfl rfl rfl (fun K hK=>?_) (fun K hK=>?_)
  ·skip
   go_simp
   refine(siOne1 _).mono ?_;rintro e W3 ⟨rfl,hb⟩;have HF3:=zAb ((un HF2).later hb);clear hb;refine hK _ _ ⟨trivial,un HSS _ _ (un HF3)⟩ ?_;clear hK K;refine zBn (i:=3) (j:=5) (by kernel_rfl) rfl rfl rfl rfl (fun K hK=>?_) (fun K hK=>?_)
   ·skip
    go_simp
    refine(zDz 2 1 (-2) 0 0 0 0 0 1 1 0 1 0 0 0 0 0 0 1 1 2 0 (-2) 0 0 0 0 0 1 1 _ (by decide +kernel)).mono ?_;rintro e W4 ⟨rfl,hb⟩;have HF4:=zAb ((un HF3).later hb);clear hb;refine hK _ _ ⟨trivial,un HSS _ _ (un HF4)⟩ ?_;clear hK K;refine zBn (i:=4) (j:=5) (by kernel_rfl) rfl rfl rfl rfl (fun K hK=>?_) (fun K hK=>?_)
    ·skip
     go_simp
     refine(zDa 2 0 (-2) 0 0 0 0 0 1 1 g g_rays1 g_rays2 _ (un HF4).gr rfl rfl (by kernel_rfl)).mono ?_;rintro e W5 ⟨rfl,hg1,ho1⟩;have HF5:=zAb ((un HF4).put hg1 ho1);clear hg1 ho1;refine hK _ _ ⟨trivial,un HSS _ _ (un HF5)⟩ ?_;clear hK K;refine wO 5 rfl rfl (fun K hK=>?_)
     go_simp
     have HL:Hid (w.heap.size≤W5.heap.size∧∀p:Nat×Array Value,p∈([(b1,J 0 0 (-1) 0 0 0 0 0 1 1),(b2,J 2 1 (-2) 0 0 0 0 0 1 1)]:List (Nat×Array Value))→¬W5.heap.size=p.1):=⟨(un HF5).on.size,fun p hp=>Nat.ne_of_gt ((un HF5).bx p hp).2.lt⟩;have HF6:=zAb ((un HF5).alloc z10);refine hK _ _ ⟨trivial,un HSS _ _ (un HF6).tail⟩ ?_;clear hK K;generalize hW6:W5.alloc (.cells z10 180)=W6 at *
     clear hW6;generalize W5.heap.size=k at *
     have HFE:=zAb ((un HF6).row (un HL).1 (un HL).2 (J 2 0 (-2) 0 0 0 0 0 1 1));refine wL 6 rfl rfl (fun K hK=>?_);refine wp_store_row 180 (.tmp 4) (.tmp 12) rfl k (J 2 0 (-2) 0 0 0 0 0 1 1) rfl rfl 180 _ ((un HF6).bx (k,z10) (by simp)).2 (by rw[zAu];rfl) rfl (by kernel_rfl) (hK _ _ (un HSS _ _ (un HFE).tail) ?_);clear hK K;refine wDn ?_;generalize W6.setRow k (J 2 0 (-2) 0 0 0 0 0 1 1)=U at HFE ⊢
     go_wp2_with fail
     go_meet
     exact⟨k,rfl,HFE⟩
    ·skip
     go_simp
     have HL:Hid (w.heap.size≤W4.heap.size∧∀p:Nat×Array Value,p∈([(b1,J 0 0 (-1) 0 0 0 0 0 1 1),(b2,J 2 1 (-2) 0 0 0 0 0 1 1)]:List (Nat×Array Value))→¬W4.heap.size=p.1):=⟨(un HF4).on.size,fun p hp=>Nat.ne_of_gt ((un HF4).bx p hp).2.lt⟩;have HF5:=zAb ((un HF4).alloc z10);refine hK _ _ ⟨trivial,un HSS _ _ (un HF5).tail⟩ ?_;clear hK K;generalize hW5:W4.alloc (.cells z10 180)=W5 at *
     clear hW5;generalize W4.heap.size=k at *
     refine wO 4 rfl rfl (fun K hK=>?_)
     go_simp
     refine(zDa 2 0 (-2) 0 0 0 0 0 1 1 g g_rays1 g_rays2 _ (un HF5).gr rfl rfl (by kernel_rfl)).mono ?_;rintro e W6 ⟨rfl,hg1,ho1⟩;have HF6:=zAb ((un HF5).put hg1 ho1);clear hg1 ho1;refine hK _ _ ⟨trivial,un HSS _ _ ((un HF6).tail)⟩ ?_;clear hK K;have HFE:=zAb ((un HF6).row (un HL).1 (un HL).2 (J 2 0 (-2) 0 0 0 0 0 1 1));refine wL 6 rfl rfl (fun K hK=>?_);refine wp_store_row 180 (.tmp 4) (.tmp 12) rfl k (J 2 0 (-2) 0 0 0 0 0 1 1) rfl rfl 180 _ ((un HF6).bx (k,z10) (by simp)).2 (by rw[zAu];rfl) rfl (by kernel_rfl) (hK _ _ (un HSS _ _ (un HFE).tail) ?_);clear hK K;refine wDn ?_;generalize W6.setRow k (J 2 0 (-2) 0 0 0 0 0 1 1)=U at HFE ⊢
     go_wp2_with fail
     go_meet
     exact⟨k,rfl,HFE⟩
   ·skip
    go_simp
    have HL:Hid (w.heap.size≤W3.heap.size∧∀p:Nat×Array Value,p∈([(b1,J 0 0 (-1) 0 0 0 0 0 1 1),(b2,J 2 1 (-2) 0 0 0 0 0 1 1)]:List (Nat×Array Value))→¬W3.heap.size=p.1):=⟨(un HF3).on.size,fun p hp=>Nat.ne_of_gt ((un HF3).bx p hp).2.lt⟩;have HF4:=zAb ((un HF3).alloc z10);refine hK _ _ ⟨trivial,un HSS _ _ (un HF4).tail⟩ ?_;clear hK K;generalize hW4:W3.alloc (.cells z10 180)=W4 at *
    clear hW4;generalize W3.heap.size=k at *
    refine wO 3 rfl rfl (fun K hK=>?_)
    go_simp
    refine(zDz 2 1 (-2) 0 0 0 0 0 1 1 0 1 0 0 0 0 0 0 1 1 2 0 (-2) 0 0 0 0 0 1 1 _ (by decide +kernel)).mono ?_;rintro e W5 ⟨rfl,hb⟩;have HF5:=zAb ((un HF4).later hb);clear hb;refine hK _ _ ⟨trivial,un HSS _ _ ((un HF5).tail)⟩ ?_;clear hK K;refine wO 4 rfl rfl (fun K hK=>?_)
    go_simp
    refine(zDa 2 0 (-2) 0 0 0 0 0 1 1 g g_rays1 g_rays2 _ (un HF5).gr rfl rfl (by kernel_rfl)).mono ?_;rintro e W6 ⟨rfl,hg1,ho1⟩;have HF6:=zAb ((un HF5).put hg1 ho1);clear hg1 ho1;refine hK _ _ ⟨trivial,un HSS _ _ ((un HF6).tail)⟩ ?_;clear hK K;have HFE:=zAb ((un HF6).row (un HL).1 (un HL).2 (J 2 0 (-2) 0 0 0 0 0 1 1));refine wL 6 rfl rfl (fun K hK=>?_);refine wp_store_row 180 (.tmp 4) (.tmp 12) rfl k (J 2 0 (-2) 0 0 0 0 0 1 1) rfl rfl 180 _ ((un HF6).bx (k,z10) (by simp)).2 (by rw[zAu];rfl) rfl (by kernel_rfl) (hK _ _ (un HSS _ _ (un HFE).tail) ?_);clear hK K;refine wDn ?_;generalize W6.setRow k (J 2 0 (-2) 0 0 0 0 0 1 1)=U at HFE ⊢
    go_wp2_with fail
    go_meet
    exact⟨k,rfl,HFE⟩
  ·skip
   go_simp
   have HL:Hid (w.heap.size≤W2.heap.size∧∀p:Nat×Array Value,p∈([(b1,J 0 0 (-1) 0 0 0 0 0 1 1),(b2,J 2 1 (-2) 0 0 0 0 0 1 1)]:List (Nat×Array Value))→¬W2.heap.size=p.1):=⟨(un HF2).on.size,fun p hp=>Nat.ne_of_gt ((un HF2).bx p hp).2.lt⟩;have HF3:=zAb ((un HF2).alloc z10);refine hK _ _ ⟨trivial,un HSS _ _ (un HF3).tail⟩ ?_;clear hK K;generalize hW3:W2.alloc (.cells z10 180)=W3 at *
   clear hW3;generalize W2.heap.size=k at *
   refine wO 2 rfl rfl (fun K hK=>?_)
   go_simp
   refine(siOne1 _).mono ?_;rintro e W4 ⟨rfl,hb⟩;have HF4:=zAb ((un HF3).later hb);clear hb;refine hK _ _ ⟨trivial,un HSS _ _ ((un HF4).tail)⟩ ?_;clear hK K;refine wO 3 rfl rfl (fun K hK=>?_)
   go_simp
   refine(zDz 2 1 (-2) 0 0 0 0 0 1 1 0 1 0 0 0 0 0 0 1 1 2 0 (-2) 0 0 0 0 0 1 1 _ (by decide +kernel)).mono ?_;rintro e W5 ⟨rfl,hb⟩;have HF5:=zAb ((un HF4).later hb);clear hb;refine hK _ _ ⟨trivial,un HSS _ _ ((un HF5).tail)⟩ ?_;clear hK K;refine wO 4 rfl rfl (fun K hK=>?_)
   go_simp
   refine(zDa 2 0 (-2) 0 0 0 0 0 1 1 g g_rays1 g_rays2 _ (un HF5).gr rfl rfl (by kernel_rfl)).mono ?_;rintro e W6 ⟨rfl,hg1,ho1⟩;have HF6:=zAb ((un HF5).put hg1 ho1);clear hg1 ho1;refine hK _ _ ⟨trivial,un HSS _ _ ((un HF6).tail)⟩ ?_;clear hK K;have HFE:=zAb ((un HF6).row (un HL).1 (un HL).2 (J 2 0 (-2) 0 0 0 0 0 1 1));refine wL 6 rfl rfl (fun K hK=>?_);refine wp_store_row 180 (.tmp 4) (.tmp 12) rfl k (J 2 0 (-2) 0 0 0 0 0 1 1) rfl rfl 180 _ ((un HF6).bx (k,z10) (by simp)).2 (by rw[zAu];rfl) rfl (by kernel_rfl) (hK _ _ (un HSS _ _ (un HFE).tail) ?_);clear hK K;refine wDn ?_;generalize W6.setRow k (J 2 0 (-2) 0 0 0 0 0 1 1)=U at HFE ⊢
   go_wp2_with fail
   go_meet
   exact⟨k,rfl,HFE⟩
 case rest=>
  obtain⟨k4,rfl,HF21⟩:=hcut;generalize wc=W21 at HF21 ⊢
  have x0_0:W21.cell? ⟨k4,0,none⟩=some (I 2):=((un HF21).bx (k4,J 2 0 (-2) 0 0 0 0 0 1 1) (by simp)).2.ub.c 0 _ rfl;have x0_1:W21.cell? ⟨k4,1,none⟩=some (I 0):=((un HF21).bx (k4,J 2 0 (-2) 0 0 0 0 0 1 1) (by simp)).2.ub.c 1 _ rfl;have x0_2:W21.cell? ⟨k4,2,none⟩=some (I (-2)):=((un HF21).bx (k4,J 2 0 (-2) 0 0 0 0 0 1 1) (by simp)).2.ub.c 2 _ rfl;have x0_3:W21.cell? ⟨k4,3,none⟩=some (I 0):=((un HF21).bx (k4,J 2 0 (-2) 0 0 0 0 0 1 1) (by simp)).2.ub.c 3 _ rfl;have x0_4:W21.cell? ⟨k4,4,none⟩=some (I 0):=((un HF21).bx (k4,J 2 0 (-2) 0 0 0 0 0 1 1) (by simp)).2.ub.c 4 _ rfl;have x0_5:W21.cell? ⟨k4,5,none⟩=some (I 0):=((un HF21).bx (k4,J 2 0 (-2) 0 0 0 0 0 1 1) (by simp)).2.ub.c 5 _ rfl;have x0_6:W21.cell? ⟨k4,6,none⟩=some (I 0):=((un HF21).bx (k4,J 2 0 (-2) 0 0 0 0 0 1 1) (by simp)).2.ub.c 6 _ rfl;have x0_7:W21.cell? ⟨k4,7,none⟩=some (I 0):=((un HF21).bx (k4,J 2 0 (-2) 0 0 0 0 0 1 1) (by simp)).2.ub.c 7 _ rfl;have x0_8:W21.cell? ⟨k4,8,none⟩=some (I 1):=((un HF21).bx (k4,J 2 0 (-2) 0 0 0 0 0 1 1) (by simp)).2.ub.c 8 _ rfl;have x0_9:W21.cell? ⟨k4,9,none⟩=some (I 1):=((un HF21).bx (k4,J 2 0 (-2) 0 0 0 0 0 1 1) (by simp)).2.ub.c 9 _ rfl
  go_upto_region 3 with (first
  | (go_at_call 367;go_must(refine(put2_of 2 0 (-2) 0 0 0 0 0 1 1 g g_rays2 g_rays3 _ (un HF21).gr rfl rfl (by kernel_rfl)).mono ?_;rintro e W22 ⟨rfl,hg1,ho1⟩;have HF22:=zAb ((un HF21).put hg1 ho1);clear hg1 ho1 x0_0 x0_1 x0_2 x0_3 x0_4 x0_5 x0_6 x0_7 x0_8 x0_9)))
  go_upto_region 3 with fail
  have HSS:Hid (∀(W':World) (vs:Array Value),FS w W' g vs [(k4,J 2 0 (-2) 0 0 0 0 0 1 1),(b1,J 0 0 (-1) 0 0 0 0 0 1 1),(b2,J 2 1 (-2) 0 0 0 0 0 1 1)]→C10 W' b1 (I 0) (I 0) (I (-1)) (I 0) (I 0) (I 0) (I 0) (I 0) (I 1) (I 1)):=fun W' vs h=>(h.bx (b1,J 0 0 (-1) 0 0 0 0 0 1 1) (by simp)).2.c10
  have HF23:Hid (FS w (W22.drew) g g_rays3 [(k4,J 2 0 (-2) 0 0 0 0 0 1 1),(b1,J 0 0 (-1) 0 0 0 0 0 1 1),(b2,J 2 1 (-2) 0 0 0 0 0 1 1)]):=(un HF22).later (Below.refl _ _).drew;have HS23:=zAb (un HSS _ _ (un HF23));refine zAi 4 (fun _=>True) (fun W'=>W'.cell? ⟨b1,0,none⟩=some (I 0)∧W'.cell? ⟨b1,1,none⟩=some (I 0)∧W'.cell? ⟨b1,2,none⟩=some (I (-1))∧W'.cell? ⟨b1,3,none⟩=some (I 0)∧W'.cell? ⟨b1,4,none⟩=some (I 0)∧W'.cell? ⟨b1,5,none⟩=some (I 0)∧W'.cell? ⟨b1,6,none⟩=some (I 0)∧W'.cell? ⟨b1,7,none⟩=some (I 0)∧W'.cell? ⟨b1,8,none⟩=some (I 1)∧W'.cell? ⟨b1,9,none⟩=some (I 1)) 5 rfl (by kernel_rfl) ?_;refine wT7 0 (.func (.func 367) #[] #[.pointer (some ⟨g,0,none⟩)]) rfl (Or.inl ⟨by rfl,?_⟩) ⟨trivial,un HS23⟩ ?_
  ·intro W hW
   go_split_ands
   go_simp
  refine wT7 2 (.agg (J 0 0 (-1) 0 0 0 0 0 1 1)) rfl (Or.inl ⟨by rfl,?_⟩) ⟨trivial,un HS23⟩ ?_
  ·intro W hW
   go_split_ands
   go_simp
  refine wO 1 rfl rfl (fun K hK=>?_)
  go_simp
  refine(siOne5 _).mono ?_;rintro e W24 ⟨rfl,hb⟩;have HF24:=zAb ((un HF23).later hb);clear hb;refine hK _ _ ⟨trivial,un HSS _ _ (un HF24)⟩ ?_;clear hK K;refine wO 3 rfl rfl (fun K hK=>?_)
  go_simp
  refine(zBe 0 0 0 0 0 1 0 0 1 1 0 0 (-1) 0 0 0 0 0 1 1 0 0 (-1) 0 0 1 0 0 1 1 _ (by decide +kernel)).mono ?_;rintro e W25 ⟨rfl,hb⟩;have HF25:=zAb ((un HF24).later hb);clear hb;refine hK _ _ ⟨trivial,un HSS _ _ (un HF25)⟩ ?_;clear hK K;refine wL 4 rfl rfl (fun K hK=>?_)
  go_simp
  refine(put3_of 0 0 (-1) 0 0 1 0 0 1 1 g g_rays3 zEt _ (un HF25).gr rfl rfl (by kernel_rfl)).mono ?_;rintro e W26 ⟨rfl,hg1,ho1⟩;have HF26:=zAb ((un HF25).put hg1 ho1);clear hg1 ho1;refine hK _ _ (un HSS _ _ (un HF26)) ?_;clear hK K;refine wDn ?_;clear HSS HS23
  go_wp2_with fail
  go_end0
  exact⟨rfl,(un HF26).gr,(un HF26).on⟩
theorem zc91:Tryz.zeroCells286=zAw:=by kernel_rfl
theorem zDe:(Tryz.prog.info? 286).map (·.size)=some 81:=by kernel_rfl
theorem zFu {fn:Func} {p:Tmp} (h:fn.results=#[.cell p 286]) (tmps:Array Value) (w:World) (g:Nat) (vs:Array Value) (hl:vs.size=81) (hp:tmps.getD p undef=.pointer (some ⟨g,0,none⟩)) (ho:zAc w g 286 vs) :
  (results fn tmps).run Tryz.prog w=.ok (.agg vs) w:=by
 rw[zBb h,hp];simp only[asAddr,Sem.run_pure,Result.andThen_ok];rw[run_loadVar_row w g 286 286 vs (0,0) _ ho Tryz.underlying286 rfl (by rw[zDe,hl])]
theorem grp_force (w:World):Calls Tryz.prog 312 #[.func (.func 313) #[] #[]] w fun e w'=>e=.returned (.agg zBv)∧Bw w w':=by
 obtain⟨V,hV⟩:∃V,V=(w.alloc (.cells Tryz.zeroCells286 286)).alloc (.cells Tryz.zeroCells286 286):=⟨_,rfl⟩;obtain⟨g,hg⟩:∃g,g=w.heap.size+1:=⟨_,rfl⟩;have HW:Hid (Bw w V):=by rw[hV];exact bA.alloc (by simp) _
 have HR:Hid (zAc V w.heap.size 286 zAw):=by rw[hV,←zc91];exact(zAc.new w _ 286).alloc _
 have HG:Hid (zAc V g 286 zAw):=by rw[hV,hg,←zc91];have h:=zAc.new (w.alloc (.cells Tryz.zeroCells286 286)) Tryz.zeroCells286 286;rw[Dm.size_alloc]at h;exact h
 have HN:Hid (¬w.heap.size=g∧w.heap.size≤g∧w.heap.size≤V.heap.size):=⟨by omega,by omega,(un HW).size⟩;have HV:=zAb hV;clear hV;go_enter Tryz.func312,Tryz.ntmps312
 go_upto_region 2 with fail
 rw[←un HV,←hg];clear HV hg
 go_upto_region 3 with (go_at_call 313;go_must(refine(fill_force g  _ (un HG) ).mono ?_;rintro e w1 ⟨rfl,hg1,ho1⟩;have HG1:=zAb hg1;have HR1:=zAb (ho1.own _ _ _ (un HN).1 (un HR));have HW1:=zAb (ho1.bel w.heap.size w (un HN).2.1 (un HN).2.2 (un HW));clear hg1 ho1))
 go_wp2_with (first
  | (refine wpList_load_row rfl 286 (.tmp 3) rfl g rfl 286 zBv (0,0) _ (un HG1) Tryz.underlying286 rfl (by kernel_rfl) ?_)
  | (refine zAn 286 81 zDe rfl (.tmp 2) (.tmp 7) rfl w.heap.size zAw zBv rfl rfl rfl rfl (un HR1) (by kernel_rfl) ?_))
 exact bodyPost_ret (v:=.agg zBv) (zFu Tryz.results312 _ _ w.heap.size _ rfl rfl ((un HR1).setRow _)) rfl ⟨rfl,below_setRow (un HW1) (Nat.le_refl _) _⟩
theorem made_force (w:World):Calls Tryz.prog 286 #[] w fun e w'=>e=.returned (.agg zBv)∧Bw w w':=by
 obtain⟨V,hV⟩:∃V,V=w.alloc (.cells Tryz.zeroCells286 286):=⟨_,rfl⟩;have HW:Hid (Bw w V):=by rw[hV];exact bA
 have HR:Hid (zAc V w.heap.size 286 zAw):=by rw[hV,←zc91];exact zAc.new w _ 286
 have HV:=zAb hV;clear hV;go_enter Tryz.func286,Tryz.ntmps286
 go_upto_region 1 with fail
 rw[←un HV];clear HV
 go_wp2_with (first
  | (go_at_call 312;go_must(refine(grp_force _).mono ?_;rintro e w1 ⟨rfl,hb⟩;have HR1:=zAb ((un HR).later hb);have HW1:=zAb (bt HW hb);clear hb))
  | (refine zAn 286 81 zDe rfl (.tmp 0) (.tmp 1) rfl w.heap.size zAw zBv rfl rfl rfl rfl (un HR1) (by kernel_rfl) ?_))
 exact bodyPost_ret (v:=.agg zBv) (zFu Tryz.results286 _ _ w.heap.size _ rfl rfl ((un HR1).setRow _)) rfl ⟨rfl,below_setRow (un HW1) (Nat.le_refl _) _⟩
theorem grp_energy (b1:Nat) (w:World) (h1:zAc w b1 180 (J 1 1 (-2) 0 0 0 0 0 1 1)):Calls Tryz.prog 312 #[.func (.func 317) #[] #[.pointer (some ⟨b1,0,none⟩)]] w fun e w'=>e=.returned (.agg zBm)∧Bw w w':=by
 obtain⟨V,hV⟩:∃V,V=(w.alloc (.cells Tryz.zeroCells286 286)).alloc (.cells Tryz.zeroCells286 286):=⟨_,rfl⟩;obtain⟨g,hg⟩:∃g,g=w.heap.size+1:=⟨_,rfl⟩;have HW:Hid (Bw w V):=by rw[hV];exact bA.alloc (by simp) _
 have HR:Hid (zAc V w.heap.size 286 zAw):=by rw[hV,←zc91];exact(zAc.new w _ 286).alloc _
 have HG:Hid (zAc V g 286 zAw):=by rw[hV,hg,←zc91];have h:=zAc.new (w.alloc (.cells Tryz.zeroCells286 286)) Tryz.zeroCells286 286;rw[Dm.size_alloc]at h;exact h
 have HC1:Hid (zAc V b1 180 (J 1 1 (-2) 0 0 0 0 0 1 1)∧¬b1=g):=⟨h1.later (un HW),(by have:=h1.lt;omega)⟩;have HN:Hid (¬w.heap.size=g∧w.heap.size≤g∧w.heap.size≤V.heap.size):=⟨by omega,by omega,(un HW).size⟩;have HV:=zAb hV;clear hV h1;go_enter Tryz.func312,Tryz.ntmps312
 go_upto_region 2 with fail
 rw[←un HV,←hg];clear HV hg
 go_upto_region 3 with (go_at_call 317;go_must(refine(fill_energy g b1 _ (un HG) (un HC1).1 (un HC1).2).mono ?_;rintro e w1 ⟨rfl,hg1,ho1⟩;have HG1:=zAb hg1;have HR1:=zAb (ho1.own _ _ _ (un HN).1 (un HR));have HW1:=zAb (ho1.bel w.heap.size w (un HN).2.1 (un HN).2.2 (un HW));clear hg1 ho1))
 go_wp2_with (first
  | (refine wpList_load_row rfl 286 (.tmp 3) rfl g rfl 286 zBm (0,0) _ (un HG1) Tryz.underlying286 rfl (by kernel_rfl) ?_)
  | (refine zAn 286 81 zDe rfl (.tmp 2) (.tmp 7) rfl w.heap.size zAw zBm rfl rfl rfl rfl (un HR1) (by kernel_rfl) ?_))
 exact bodyPost_ret (v:=.agg zBm) (zFu Tryz.results312 _ _ w.heap.size _ rfl rfl ((un HR1).setRow _)) rfl ⟨rfl,below_setRow (un HW1) (Nat.le_refl _) _⟩
theorem fld_energy (w:World):(Instr.field 286 (.agg zBv) 0).run Tryz.prog w=.ok (.agg (zBv.extract 0 80)) w:=by kernel_rfl
theorem idx_energy (w:World):(Instr.index 284 (.agg (zBv.extract 0 80)) (I 0)).run Tryz.prog w=.ok (.agg (J 1 1 (-2) 0 0 0 0 0 1 1)) w:=by kernel_rfl
theorem zGt (w:World):Calls Tryz.prog 287 #[] w fun e w'=>e=.returned (.agg zBm)∧Bw w w':=by
 obtain⟨V,hV⟩:∃V,V=w.alloc (.cells Tryz.zeroCells286 286):=⟨_,rfl⟩;have HW:Hid (Bw w V):=by rw[hV];exact bA
 have HR:Hid (zAc V w.heap.size 286 zAw):=by rw[hV,←zc91];exact zAc.new w _ 286
 have HV:=zAb hV;clear hV;have hfl:=fld_energy;have hix:=idx_energy;go_enter Tryz.func287,Tryz.ntmps287
 go_upto_region 1 with fail
 rw[←un HV];clear HV
 go_upto_region 2 with (first
  | (go_at_call 286;go_must(refine(made_force _).mono ?_;rintro e w1 ⟨rfl,hb⟩;have HR1:=zAb ((un HR).later hb);have HW1:=zAb (bt HW hb);clear hb))
  | (refine zAn 180 10 zAu rfl (.tmp 1) (.tmp 4) rfl w1.heap.size (J 0 0 0 0 0 0 0 0 0 0) (J 1 1 (-2) 0 0 0 0 0 1 1) rfl rfl rfl rfl (zAc.new _ _ _) (by kernel_rfl) ?_))
 have hb2:Below w1.heap.size w1 ((w1.alloc (.cells (J 0 0 0 0 0 0 0 0 0 0) 180)).setRow w1.heap.size (J 1 1 (-2) 0 0 0 0 0 1 1)):=below_setRow (zBx _ _) (Nat.le_refl _) _;have HB2:Hid (zAc ((w1.alloc (.cells (J 0 0 0 0 0 0 0 0 0 0) 180)).setRow w1.heap.size (J 1 1 (-2) 0 0 0 0 0 1 1)) w1.heap.size 180 (J 1 1 (-2) 0 0 0 0 0 1 1)):=(zAc.new _ _ _).setRow _;have HR2:=zAb ((un HR1).later hb2);have HW2:=zAb (bt HW1 hb2);clear hb2 hfl hix;generalize (w1.alloc (.cells (J 0 0 0 0 0 0 0 0 0 0) 180)).setRow w1.heap.size (J 1 1 (-2) 0 0 0 0 0 1 1)=w2 at *
 generalize w1.heap.size=b1 at *
 go_wp2_with (first
  | (go_at_call 312;go_must(refine(grp_energy b1 _ (un HB2)).mono ?_;rintro e w3 ⟨rfl,hb⟩;have HR3:=zAb ((un HR2).later hb);have HW3:=zAb (bt HW2 hb);clear hb))
  | (refine zAn 286 81 zDe rfl (.tmp 0) (.tmp 6) rfl w.heap.size zAw zBm rfl rfl rfl rfl (un HR3) (by kernel_rfl) ?_))
 exact bodyPost_ret (v:=.agg zBm) (zFu Tryz.results287 _ _ w.heap.size _ rfl rfl ((un HR3).setRow _)) rfl ⟨rfl,below_setRow (un HW3) (Nat.le_refl _) _⟩
theorem grp_power (b1:Nat) (w:World) (h1:zAc w b1 180 (J 2 1 (-2) 0 0 0 0 0 1 1)):Calls Tryz.prog 312 #[.func (.func 318) #[] #[.pointer (some ⟨b1,0,none⟩)]] w fun e w'=>e=.returned (.agg zCn)∧Bw w w':=by
 obtain⟨V,hV⟩:∃V,V=(w.alloc (.cells Tryz.zeroCells286 286)).alloc (.cells Tryz.zeroCells286 286):=⟨_,rfl⟩;obtain⟨g,hg⟩:∃g,g=w.heap.size+1:=⟨_,rfl⟩;have HW:Hid (Bw w V):=by rw[hV];exact bA.alloc (by simp) _
 have HR:Hid (zAc V w.heap.size 286 zAw):=by rw[hV,←zc91];exact(zAc.new w _ 286).alloc _
 have HG:Hid (zAc V g 286 zAw):=by rw[hV,hg,←zc91];have h:=zAc.new (w.alloc (.cells Tryz.zeroCells286 286)) Tryz.zeroCells286 286;rw[Dm.size_alloc]at h;exact h
 have HC1:Hid (zAc V b1 180 (J 2 1 (-2) 0 0 0 0 0 1 1)∧¬b1=g):=⟨h1.later (un HW),(by have:=h1.lt;omega)⟩;have HN:Hid (¬w.heap.size=g∧w.heap.size≤g∧w.heap.size≤V.heap.size):=⟨by omega,by omega,(un HW).size⟩;have HV:=zAb hV;clear hV h1;go_enter Tryz.func312,Tryz.ntmps312
 go_upto_region 2 with fail
 rw[←un HV,←hg];clear HV hg
 go_upto_region 3 with (go_at_call 318;go_must(refine(fill_power g b1 _ (un HG) (un HC1).1 (un HC1).2).mono ?_;rintro e w1 ⟨rfl,hg1,ho1⟩;have HG1:=zAb hg1;have HR1:=zAb (ho1.own _ _ _ (un HN).1 (un HR));have HW1:=zAb (ho1.bel w.heap.size w (un HN).2.1 (un HN).2.2 (un HW));clear hg1 ho1))
 go_wp2_with (first
  | (refine wpList_load_row rfl 286 (.tmp 3) rfl g rfl 286 zCn (0,0) _ (un HG1) Tryz.underlying286 rfl (by kernel_rfl) ?_)
  | (refine zAn 286 81 zDe rfl (.tmp 2) (.tmp 7) rfl w.heap.size zAw zCn rfl rfl rfl rfl (un HR1) (by kernel_rfl) ?_))
 exact bodyPost_ret (v:=.agg zCn) (zFu Tryz.results312 _ _ w.heap.size _ rfl rfl ((un HR1).setRow _)) rfl ⟨rfl,below_setRow (un HW1) (Nat.le_refl _) _⟩
theorem fld_power (w:World):(Instr.field 286 (.agg zBm) 0).run Tryz.prog w=.ok (.agg (zBm.extract 0 80)) w:=by kernel_rfl
theorem idx_power (w:World):(Instr.index 284 (.agg (zBm.extract 0 80)) (I 0)).run Tryz.prog w=.ok (.agg (J 2 1 (-2) 0 0 0 0 0 1 1)) w:=by kernel_rfl
theorem made_power (w:World):Calls Tryz.prog 288 #[] w fun e w'=>e=.returned (.agg zCn)∧Bw w w':=by
 obtain⟨V,hV⟩:∃V,V=w.alloc (.cells Tryz.zeroCells286 286):=⟨_,rfl⟩;have HW:Hid (Bw w V):=by rw[hV];exact bA
 have HR:Hid (zAc V w.heap.size 286 zAw):=by rw[hV,←zc91];exact zAc.new w _ 286
 have HV:=zAb hV;clear hV;have hfl:=fld_power;have hix:=idx_power;go_enter Tryz.func288,Tryz.ntmps288
 go_upto_region 1 with fail
 rw[←un HV];clear HV
 go_upto_region 2 with (first
  | (go_at_call 287;go_must(refine(zGt _).mono ?_;rintro e w1 ⟨rfl,hb⟩;have HR1:=zAb ((un HR).later hb);have HW1:=zAb (bt HW hb);clear hb))
  | (refine zAn 180 10 zAu rfl (.tmp 1) (.tmp 4) rfl w1.heap.size (J 0 0 0 0 0 0 0 0 0 0) (J 2 1 (-2) 0 0 0 0 0 1 1) rfl rfl rfl rfl (zAc.new _ _ _) (by kernel_rfl) ?_))
 have hb2:Below w1.heap.size w1 ((w1.alloc (.cells (J 0 0 0 0 0 0 0 0 0 0) 180)).setRow w1.heap.size (J 2 1 (-2) 0 0 0 0 0 1 1)):=below_setRow (zBx _ _) (Nat.le_refl _) _;have HB2:Hid (zAc ((w1.alloc (.cells (J 0 0 0 0 0 0 0 0 0 0) 180)).setRow w1.heap.size (J 2 1 (-2) 0 0 0 0 0 1 1)) w1.heap.size 180 (J 2 1 (-2) 0 0 0 0 0 1 1)):=(zAc.new _ _ _).setRow _;have HR2:=zAb ((un HR1).later hb2);have HW2:=zAb (bt HW1 hb2);clear hb2 hfl hix;generalize (w1.alloc (.cells (J 0 0 0 0 0 0 0 0 0 0) 180)).setRow w1.heap.size (J 2 1 (-2) 0 0 0 0 0 1 1)=w2 at *
 generalize w1.heap.size=b1 at *
 go_wp2_with (first
  | (go_at_call 312;go_must(refine(grp_power b1 _ (un HB2)).mono ?_;rintro e w3 ⟨rfl,hb⟩;have HR3:=zAb ((un HR2).later hb);have HW3:=zAb (bt HW2 hb);clear hb))
  | (refine zAn 286 81 zDe rfl (.tmp 0) (.tmp 6) rfl w.heap.size zAw zCn rfl rfl rfl rfl (un HR3) (by kernel_rfl) ?_))
 exact bodyPost_ret (v:=.agg zCn) (zFu Tryz.results288 _ _ w.heap.size _ rfl rfl ((un HR3).setRow _)) rfl ⟨rfl,below_setRow (un HW3) (Nat.le_refl _) _⟩
theorem grp_times (w:World):Calls Tryz.prog 312 #[.func (.func 321) #[] #[]] w fun e w'=>e=.returned (.agg zCm)∧Bw w w':=by
 obtain⟨V,hV⟩:∃V,V=(w.alloc (.cells Tryz.zeroCells286 286)).alloc (.cells Tryz.zeroCells286 286):=⟨_,rfl⟩;obtain⟨g,hg⟩:∃g,g=w.heap.size+1:=⟨_,rfl⟩;have HW:Hid (Bw w V):=by rw[hV];exact bA.alloc (by simp) _
 have HR:Hid (zAc V w.heap.size 286 zAw):=by rw[hV,←zc91];exact(zAc.new w _ 286).alloc _
 have HG:Hid (zAc V g 286 zAw):=by rw[hV,hg,←zc91];have h:=zAc.new (w.alloc (.cells Tryz.zeroCells286 286)) Tryz.zeroCells286 286;rw[Dm.size_alloc]at h;exact h
 have HN:Hid (¬w.heap.size=g∧w.heap.size≤g∧w.heap.size≤V.heap.size):=⟨by omega,by omega,(un HW).size⟩;have HV:=zAb hV;clear hV;go_enter Tryz.func312,Tryz.ntmps312
 go_upto_region 2 with fail
 rw[←un HV,←hg];clear HV hg
 go_upto_region 3 with (go_at_call 321;go_must(refine(fill_times g  _ (un HG) ).mono ?_;rintro e w1 ⟨rfl,hg1,ho1⟩;have HG1:=zAb hg1;have HR1:=zAb (ho1.own _ _ _ (un HN).1 (un HR));have HW1:=zAb (ho1.bel w.heap.size w (un HN).2.1 (un HN).2.2 (un HW));clear hg1 ho1))
 go_wp2_with (first
  | (refine wpList_load_row rfl 286 (.tmp 3) rfl g rfl 286 zCm (0,0) _ (un HG1) Tryz.underlying286 rfl (by kernel_rfl) ?_)
  | (refine zAn 286 81 zDe rfl (.tmp 2) (.tmp 7) rfl w.heap.size zAw zCm rfl rfl rfl rfl (un HR1) (by kernel_rfl) ?_))
 exact bodyPost_ret (v:=.agg zCm) (zFu Tryz.results312 _ _ w.heap.size _ rfl rfl ((un HR1).setRow _)) rfl ⟨rfl,below_setRow (un HW1) (Nat.le_refl _) _⟩
theorem made_times (w:World):Calls Tryz.prog 290 #[] w fun e w'=>e=.returned (.agg zCm)∧Bw w w':=by
 obtain⟨V,hV⟩:∃V,V=w.alloc (.cells Tryz.zeroCells286 286):=⟨_,rfl⟩;have HW:Hid (Bw w V):=by rw[hV];exact bA
 have HR:Hid (zAc V w.heap.size 286 zAw):=by rw[hV,←zc91];exact zAc.new w _ 286
 have HV:=zAb hV;clear hV;go_enter Tryz.func290,Tryz.ntmps290
 go_upto_region 1 with fail
 rw[←un HV];clear HV
 go_wp2_with (first
  | (go_at_call 312;go_must(refine(grp_times _).mono ?_;rintro e w1 ⟨rfl,hb⟩;have HR1:=zAb ((un HR).later hb);have HW1:=zAb (bt HW hb);clear hb))
  | (refine zAn 286 81 zDe rfl (.tmp 0) (.tmp 1) rfl w.heap.size zAw zCm rfl rfl rfl rfl (un HR1) (by kernel_rfl) ?_))
 exact bodyPost_ret (v:=.agg zCm) (zFu Tryz.results290 _ _ w.heap.size _ rfl rfl ((un HR1).setRow _)) rfl ⟨rfl,below_setRow (un HW1) (Nat.le_refl _) _⟩
theorem grp_plane (w:World):Calls Tryz.prog 312 #[.func (.func 323) #[] #[]] w fun e w'=>e=.returned (.agg zCp)∧Bw w w':=by
 obtain⟨V,hV⟩:∃V,V=(w.alloc (.cells Tryz.zeroCells286 286)).alloc (.cells Tryz.zeroCells286 286):=⟨_,rfl⟩;obtain⟨g,hg⟩:∃g,g=w.heap.size+1:=⟨_,rfl⟩;have HW:Hid (Bw w V):=by rw[hV];exact bA.alloc (by simp) _
 have HR:Hid (zAc V w.heap.size 286 zAw):=by rw[hV,←zc91];exact(zAc.new w _ 286).alloc _
 have HG:Hid (zAc V g 286 zAw):=by rw[hV,hg,←zc91];have h:=zAc.new (w.alloc (.cells Tryz.zeroCells286 286)) Tryz.zeroCells286 286;rw[Dm.size_alloc]at h;exact h
 have HN:Hid (¬w.heap.size=g∧w.heap.size≤g∧w.heap.size≤V.heap.size):=⟨by omega,by omega,(un HW).size⟩;have HV:=zAb hV;clear hV;go_enter Tryz.func312,Tryz.ntmps312
 go_upto_region 2 with fail
 rw[←un HV,←hg];clear HV hg
 go_upto_region 3 with (go_at_call 323;go_must(refine(fill_plane g  _ (un HG) ).mono ?_;rintro e w1 ⟨rfl,hg1,ho1⟩;have HG1:=zAb hg1;have HR1:=zAb (ho1.own _ _ _ (un HN).1 (un HR));have HW1:=zAb (ho1.bel w.heap.size w (un HN).2.1 (un HN).2.2 (un HW));clear hg1 ho1))
 go_wp2_with (first
  | (refine wpList_load_row rfl 286 (.tmp 3) rfl g rfl 286 zCp (0,0) _ (un HG1) Tryz.underlying286 rfl (by kernel_rfl) ?_)
  | (refine zAn 286 81 zDe rfl (.tmp 2) (.tmp 7) rfl w.heap.size zAw zCp rfl rfl rfl rfl (un HR1) (by kernel_rfl) ?_))
 exact bodyPost_ret (v:=.agg zCp) (zFu Tryz.results312 _ _ w.heap.size _ rfl rfl ((un HR1).setRow _)) rfl ⟨rfl,below_setRow (un HW1) (Nat.le_refl _) _⟩
theorem made_plane (w:World):Calls Tryz.prog 292 #[] w fun e w'=>e=.returned (.agg zCp)∧Bw w w':=by
 obtain⟨V,hV⟩:∃V,V=w.alloc (.cells Tryz.zeroCells286 286):=⟨_,rfl⟩;have HW:Hid (Bw w V):=by rw[hV];exact bA
 have HR:Hid (zAc V w.heap.size 286 zAw):=by rw[hV,←zc91];exact zAc.new w _ 286
 have HV:=zAb hV;clear hV;go_enter Tryz.func292,Tryz.ntmps292
 go_upto_region 1 with fail
 rw[←un HV];clear HV
 go_wp2_with (first
  | (go_at_call 312;go_must(refine(grp_plane _).mono ?_;rintro e w1 ⟨rfl,hb⟩;have HR1:=zAb ((un HR).later hb);have HW1:=zAb (bt HW hb);clear hb))
  | (refine zAn 286 81 zDe rfl (.tmp 0) (.tmp 1) rfl w.heap.size zAw zCp rfl rfl rfl rfl (un HR1) (by kernel_rfl) ?_))
 exact bodyPost_ret (v:=.agg zCp) (zFu Tryz.results292 _ _ w.heap.size _ rfl rfl ((un HR1).setRow _)) rfl ⟨rfl,below_setRow (un HW1) (Nat.le_refl _) _⟩
theorem grp_light (b1:Nat) (w:World) (h1:zAc w b1 180 (J 0 0 0 0 0 0 0 0 1 1)):Calls Tryz.prog 312 #[.func (.func 324) #[] #[.pointer (some ⟨b1,0,none⟩)]] w fun e w'=>e=.returned (.agg zDu)∧Bw w w':=by
 obtain⟨V,hV⟩:∃V,V=(w.alloc (.cells Tryz.zeroCells286 286)).alloc (.cells Tryz.zeroCells286 286):=⟨_,rfl⟩;obtain⟨g,hg⟩:∃g,g=w.heap.size+1:=⟨_,rfl⟩;have HW:Hid (Bw w V):=by rw[hV];exact bA.alloc (by simp) _
 have HR:Hid (zAc V w.heap.size 286 zAw):=by rw[hV,←zc91];exact(zAc.new w _ 286).alloc _
 have HG:Hid (zAc V g 286 zAw):=by rw[hV,hg,←zc91];have h:=zAc.new (w.alloc (.cells Tryz.zeroCells286 286)) Tryz.zeroCells286 286;rw[Dm.size_alloc]at h;exact h
 have HC1:Hid (zAc V b1 180 (J 0 0 0 0 0 0 0 0 1 1)∧¬b1=g):=⟨h1.later (un HW),(by have:=h1.lt;omega)⟩;have HN:Hid (¬w.heap.size=g∧w.heap.size≤g∧w.heap.size≤V.heap.size):=⟨by omega,by omega,(un HW).size⟩;have HV:=zAb hV;clear hV h1;go_enter Tryz.func312,Tryz.ntmps312
 go_upto_region 2 with fail
 rw[←un HV,←hg];clear HV hg
 go_upto_region 3 with (go_at_call 324;go_must(refine(fill_light g b1 _ (un HG) (un HC1).1 (un HC1).2).mono ?_;rintro e w1 ⟨rfl,hg1,ho1⟩;have HG1:=zAb hg1;have HR1:=zAb (ho1.own _ _ _ (un HN).1 (un HR));have HW1:=zAb (ho1.bel w.heap.size w (un HN).2.1 (un HN).2.2 (un HW));clear hg1 ho1))
 go_wp2_with (first
  | (refine wpList_load_row rfl 286 (.tmp 3) rfl g rfl 286 zDu (0,0) _ (un HG1) Tryz.underlying286 rfl (by kernel_rfl) ?_)
  | (refine zAn 286 81 zDe rfl (.tmp 2) (.tmp 7) rfl w.heap.size zAw zDu rfl rfl rfl rfl (un HR1) (by kernel_rfl) ?_))
 exact bodyPost_ret (v:=.agg zDu) (zFu Tryz.results312 _ _ w.heap.size _ rfl rfl ((un HR1).setRow _)) rfl ⟨rfl,below_setRow (un HW1) (Nat.le_refl _) _⟩
theorem fld_light (w:World):(Instr.field 286 (.agg zCp) 0).run Tryz.prog w=.ok (.agg (zCp.extract 0 80)) w:=by kernel_rfl
theorem idx_light (w:World):(Instr.index 284 (.agg (zCp.extract 0 80)) (I 1)).run Tryz.prog w=.ok (.agg (J 0 0 0 0 0 0 0 0 1 1)) w:=by kernel_rfl
theorem made_light (w:World):Calls Tryz.prog 293 #[] w fun e w'=>e=.returned (.agg zDu)∧Bw w w':=by
 obtain⟨V,hV⟩:∃V,V=w.alloc (.cells Tryz.zeroCells286 286):=⟨_,rfl⟩;have HW:Hid (Bw w V):=by rw[hV];exact bA
 have HR:Hid (zAc V w.heap.size 286 zAw):=by rw[hV,←zc91];exact zAc.new w _ 286
 have HV:=zAb hV;clear hV;have hfl:=fld_light;have hix:=idx_light;go_enter Tryz.func293,Tryz.ntmps293
 go_upto_region 1 with fail
 rw[←un HV];clear HV
 go_upto_region 2 with (first
  | (go_at_call 292;go_must(refine(made_plane _).mono ?_;rintro e w1 ⟨rfl,hb⟩;have HR1:=zAb ((un HR).later hb);have HW1:=zAb (bt HW hb);clear hb))
  | (refine zAn 180 10 zAu rfl (.tmp 1) (.tmp 4) rfl w1.heap.size (J 0 0 0 0 0 0 0 0 0 0) (J 0 0 0 0 0 0 0 0 1 1) rfl rfl rfl rfl (zAc.new _ _ _) (by kernel_rfl) ?_))
 have hb2:Below w1.heap.size w1 ((w1.alloc (.cells (J 0 0 0 0 0 0 0 0 0 0) 180)).setRow w1.heap.size (J 0 0 0 0 0 0 0 0 1 1)):=below_setRow (zBx _ _) (Nat.le_refl _) _;have HB2:Hid (zAc ((w1.alloc (.cells (J 0 0 0 0 0 0 0 0 0 0) 180)).setRow w1.heap.size (J 0 0 0 0 0 0 0 0 1 1)) w1.heap.size 180 (J 0 0 0 0 0 0 0 0 1 1)):=(zAc.new _ _ _).setRow _;have HR2:=zAb ((un HR1).later hb2);have HW2:=zAb (bt HW1 hb2);clear hb2 hfl hix;generalize (w1.alloc (.cells (J 0 0 0 0 0 0 0 0 0 0) 180)).setRow w1.heap.size (J 0 0 0 0 0 0 0 0 1 1)=w2 at *
 generalize w1.heap.size=b1 at *
 go_wp2_with (first
  | (go_at_call 312;go_must(refine(grp_light b1 _ (un HB2)).mono ?_;rintro e w3 ⟨rfl,hb⟩;have HR3:=zAb ((un HR2).later hb);have HW3:=zAb (bt HW2 hb);clear hb))
  | (refine zAn 286 81 zDe rfl (.tmp 0) (.tmp 6) rfl w.heap.size zAw zDu rfl rfl rfl rfl (un HR3) (by kernel_rfl) ?_))
 exact bodyPost_ret (v:=.agg zDu) (zFu Tryz.results293 _ _ w.heap.size _ rfl rfl ((un HR3).setRow _)) rfl ⟨rfl,below_setRow (un HW3) (Nat.le_refl _) _⟩
theorem grp_rays (b1:Nat) (b2:Nat) (w:World) (h1:zAc w b1 180 (J 0 0 (-1) 0 0 0 0 0 1 1)) (h2:zAc w b2 180 (J 2 1 (-2) 0 0 0 0 0 1 1)):Calls Tryz.prog 312 #[.func (.func 322) #[] #[.pointer (some ⟨b1,0,none⟩),.pointer (some ⟨b2,0,none⟩)]] w fun e w'=>e=.returned (.agg zEt)∧Bw w w':=by
 obtain⟨V,hV⟩:∃V,V=(w.alloc (.cells Tryz.zeroCells286 286)).alloc (.cells Tryz.zeroCells286 286):=⟨_,rfl⟩;obtain⟨g,hg⟩:∃g,g=w.heap.size+1:=⟨_,rfl⟩;have HW:Hid (Bw w V):=by rw[hV];exact bA.alloc (by simp) _
 have HR:Hid (zAc V w.heap.size 286 zAw):=by rw[hV,←zc91];exact(zAc.new w _ 286).alloc _
 have HG:Hid (zAc V g 286 zAw):=by rw[hV,hg,←zc91];have h:=zAc.new (w.alloc (.cells Tryz.zeroCells286 286)) Tryz.zeroCells286 286;rw[Dm.size_alloc]at h;exact h
 have HC1:Hid (zAc V b1 180 (J 0 0 (-1) 0 0 0 0 0 1 1)∧¬b1=g):=⟨h1.later (un HW),(by have:=h1.lt;omega)⟩;have HC2:Hid (zAc V b2 180 (J 2 1 (-2) 0 0 0 0 0 1 1)∧¬b2=g):=⟨h2.later (un HW),(by have:=h2.lt;omega)⟩;have HN:Hid (¬w.heap.size=g∧w.heap.size≤g∧w.heap.size≤V.heap.size):=⟨by omega,by omega,(un HW).size⟩;have HV:=zAb hV;clear hV h1 h2;go_enter Tryz.func312,Tryz.ntmps312
 go_upto_region 2 with fail
 rw[←un HV,←hg];clear HV hg
 go_upto_region 3 with (go_at_call 322;go_must(refine(fill_rays g b1 b2 _ (un HG) (un HC1).1 (un HC1).2 (un HC2).1 (un HC2).2).mono ?_;rintro e w1 ⟨rfl,hg1,ho1⟩;have HG1:=zAb hg1;have HR1:=zAb (ho1.own _ _ _ (un HN).1 (un HR));have HW1:=zAb (ho1.bel w.heap.size w (un HN).2.1 (un HN).2.2 (un HW));clear hg1 ho1))
 go_wp2_with (first
  | (refine wpList_load_row rfl 286 (.tmp 3) rfl g rfl 286 zEt (0,0) _ (un HG1) Tryz.underlying286 rfl (by kernel_rfl) ?_)
  | (refine zAn 286 81 zDe rfl (.tmp 2) (.tmp 7) rfl w.heap.size zAw zEt rfl rfl rfl rfl (un HR1) (by kernel_rfl) ?_))
 exact bodyPost_ret (v:=.agg zEt) (zFu Tryz.results312 _ _ w.heap.size _ rfl rfl ((un HR1).setRow _)) rfl ⟨rfl,below_setRow (un HW1) (Nat.le_refl _) _⟩
theorem fld_rays1 (w:World):(Instr.field 286 (.agg zBm) 0).run Tryz.prog w=.ok (.agg (zBm.extract 0 80)) w:=by kernel_rfl
theorem idx_rays1 (w:World):(Instr.index 284 (.agg (zBm.extract 0 80)) (I 0)).run Tryz.prog w=.ok (.agg (J 2 1 (-2) 0 0 0 0 0 1 1)) w:=by kernel_rfl
theorem fld_rays2 (w:World):(Instr.field 286 (.agg zCm) 0).run Tryz.prog w=.ok (.agg (zCm.extract 0 80)) w:=by kernel_rfl
theorem idx_rays2 (w:World):(Instr.index 284 (.agg (zCm.extract 0 80)) (I 0)).run Tryz.prog w=.ok (.agg (J 0 0 (-1) 0 0 0 0 0 1 1)) w:=by kernel_rfl
theorem made_rays (w:World):Calls Tryz.prog 291 #[] w fun e w'=>e=.returned (.agg zEt)∧Bw w w':=by
 obtain⟨V,hV⟩:∃V,V=w.alloc (.cells Tryz.zeroCells286 286):=⟨_,rfl⟩;have HW:Hid (Bw w V):=by rw[hV];exact bA
 have HR:Hid (zAc V w.heap.size 286 zAw):=by rw[hV,←zc91];exact zAc.new w _ 286
 have HV:=zAb hV;clear hV;have hfl:=fld_rays1;have hix:=idx_rays1;have hfm:=fld_rays2;have hiy:=idx_rays2;go_enter Tryz.func291,Tryz.ntmps291
 go_upto_region 1 with fail
 rw[←un HV];clear HV
 go_upto_region 2 with (first
  | (go_at_call 287;go_must(refine(zGt _).mono ?_;rintro e w1 ⟨rfl,hb⟩;have HR1:=zAb ((un HR).later hb);have HW1:=zAb (bt HW hb);clear hb))
  | (go_at_call 290;go_must(refine(made_times _).mono ?_;rintro e w2 ⟨rfl,hb⟩;have HR2:=zAb ((un HR1).later hb);have HW2:=zAb (bt HW1 hb);clear hb)))
 clear hfl hix hfm hiy;obtain⟨U,hU⟩:∃U,U=(w2.alloc (.cells (J 2 1 (-2) 0 0 0 0 0 1 1) 180)).alloc (.cells (J 0 0 (-1) 0 0 0 0 0 1 1) 180):=⟨_,rfl⟩;have hbU:Below w2.heap.size w2 U:=by rw[hU];exact bA.alloc (by simp) _
 have HJ:Hid (zAc U w2.heap.size 180 (J 2 1 (-2) 0 0 0 0 0 1 1)):=by rw[hU];exact(zAc.new _ _ _).alloc _
 have HH:Hid (zAc U (w2.heap.size+1) 180 (J 0 0 (-1) 0 0 0 0 0 1 1)):=by rw[hU];have h:=zAc.new (w2.alloc (.cells (J 2 1 (-2) 0 0 0 0 0 1 1) 180)) (J 0 0 (-1) 0 0 0 0 0 1 1) 180;rw[Dm.size_alloc]at h;exact h
 have HR3:=zAb ((un HR2).later hbU);have HW3:=zAb (bt HW2 hbU);rw[←hU];clear hU hbU;obtain⟨c1,hc1⟩:∃c1,c1=w2.heap.size+1:=⟨_,rfl⟩;rw[←hc1]at HH ⊢;clear hc1;generalize w2.heap.size=c2 at *
 go_wp2_with (first
  | (go_at_call 312;go_must(refine(grp_rays c1 c2 _ (un HH) (un HJ)).mono ?_;rintro e w4 ⟨rfl,hb⟩;have HR4:=zAb ((un HR3).later hb);have HW4:=zAb (bt HW3 hb);clear hb))
  | (refine zAn 286 81 zDe rfl (.tmp 0) (.tmp 10) rfl w.heap.size zAw zEt rfl rfl rfl rfl (un HR4) (by kernel_rfl) ?_))
 exact bodyPost_ret (v:=.agg zEt) (zFu Tryz.results291 _ _ w.heap.size _ rfl rfl ((un HR4).setRow _)) rfl ⟨rfl,below_setRow (un HW4) (Nat.le_refl _) _⟩
def labs:Array Value:=#[G #[110,101,119,116,111,110],G #[78],I 1,G #[112,97,115,99,97,108],G #[80,97],I 1,G #[106,111,117,108,101],G #[74],I 1,G #[119,97,116,116],G #[87],I 1,G #[99,111,117,108,111,109,98],G #[67],I 1,G #[118,111,108,116],G #[86],I 1,G #[102,97,114,97,100],G #[70],I 1,G #[111,104,109],G #[206,169],I 1,G #[115,105,101,109,101,110,115],G #[83],I 1,G #[119,101,98,101,114],G #[87,98],I 1,G #[116,101,115,108,97],G #[84],I 1,G #[104,101,110,114,121],G #[72],I 1,G #[104,101,114,116,122],G #[72,122],I 1,G #[98,101,99,113,117,101,114,101,108],G #[66,113],I 1,G #[103,114,97,121],G #[71,121],I 1,G #[115,105,101,118,101,114,116],G #[83,118],I 1,G #[107,97,116,97,108],G #[107,97,116],I 1,G #[114,97,100,105,97,110],G #[114,97,100],I 1,G #[115,116,101,114,97,100,105,97,110],G #[115,114],I 1,G #[108,117,109,101,110],G #[108,109],I 1,G #[108,117,120],G #[108,120],I 1,G #[109,105,110,117,116,101],G #[109,105,110],I 0,G #[104,111,117,114],G #[104],I 0,G #[100,97,121],G #[100],I 0,G #[108,105,116,114,101],G #[76],I 1,G #[116,111,110,110,101],G #[116],I 1,G #[98,97,114],G #[98,97,114],I 1,G #[104,101,99,116,97,114,101],G #[104,97],I 0,G #[98,121,116,101],G #[66],I 3]
theorem labels_any (w:World):Calls Tryz.prog 265 #[] w fun r w'=>r=.returned (.slice (some ⟨w.heap.size,0,none⟩) 29 29)∧w'=w.alloc (.cells labs 178):=by
 go_enter Tryz.func265,Tryz.ntmps265
 go_wp2
 go_ret
 exact⟨rfl,rfl⟩
structure Su where
 nm:ByteArray
 sy:ByteArray
 tk:Int
 e0:Int
 e1:Int
 e2:Int
 e3:Int
 e4:Int
 e5:Int
 e6:Int
 e7:Int
 n:Int
 d:Int
def sut:Nat→Su
 | 0=>⟨⟨#[110,101,119,116,111,110]⟩,⟨#[78]⟩,1,1,1,-2,0,0,0,0,0,1,1⟩
 | 1=>⟨⟨#[112,97,115,99,97,108]⟩,⟨#[80,97]⟩,1,-1,1,-2,0,0,0,0,0,1,1⟩
 | 2=>⟨⟨#[106,111,117,108,101]⟩,⟨#[74]⟩,1,2,1,-2,0,0,0,0,0,1,1⟩
 | 3=>⟨⟨#[119,97,116,116]⟩,⟨#[87]⟩,1,2,1,-3,0,0,0,0,0,1,1⟩
 | 4=>⟨⟨#[99,111,117,108,111,109,98]⟩,⟨#[67]⟩,1,0,0,1,1,0,0,0,0,1,1⟩
 | 5=>⟨⟨#[118,111,108,116]⟩,⟨#[86]⟩,1,2,1,-3,-1,0,0,0,0,1,1⟩
 | 6=>⟨⟨#[102,97,114,97,100]⟩,⟨#[70]⟩,1,-2,-1,4,2,0,0,0,0,1,1⟩
 | 7=>⟨⟨#[111,104,109]⟩,⟨#[206,169]⟩,1,2,1,-3,-2,0,0,0,0,1,1⟩
 | 8=>⟨⟨#[115,105,101,109,101,110,115]⟩,⟨#[83]⟩,1,-2,-1,3,2,0,0,0,0,1,1⟩
 | 9=>⟨⟨#[119,101,98,101,114]⟩,⟨#[87,98]⟩,1,2,1,-2,-1,0,0,0,0,1,1⟩
 | 10=>⟨⟨#[116,101,115,108,97]⟩,⟨#[84]⟩,1,0,1,-2,-1,0,0,0,0,1,1⟩
 | 11=>⟨⟨#[104,101,110,114,121]⟩,⟨#[72]⟩,1,2,1,-2,-2,0,0,0,0,1,1⟩
 | 12=>⟨⟨#[104,101,114,116,122]⟩,⟨#[72,122]⟩,1,0,0,-1,0,0,0,0,0,1,1⟩
 | 13=>⟨⟨#[98,101,99,113,117,101,114,101,108]⟩,⟨#[66,113]⟩,1,0,0,-1,0,0,0,0,0,1,1⟩
 | 14=>⟨⟨#[103,114,97,121]⟩,⟨#[71,121]⟩,1,2,0,-2,0,0,0,0,0,1,1⟩
 | 15=>⟨⟨#[115,105,101,118,101,114,116]⟩,⟨#[83,118]⟩,1,2,0,-2,0,0,0,0,0,1,1⟩
 | 16=>⟨⟨#[107,97,116,97,108]⟩,⟨#[107,97,116]⟩,1,0,0,-1,0,0,1,0,0,1,1⟩
 | 17=>⟨⟨#[114,97,100,105,97,110]⟩,⟨#[114,97,100]⟩,1,0,0,0,0,0,0,0,0,1,1⟩
 | 18=>⟨⟨#[115,116,101,114,97,100,105,97,110]⟩,⟨#[115,114]⟩,1,0,0,0,0,0,0,0,0,1,1⟩
 | 19=>⟨⟨#[108,117,109,101,110]⟩,⟨#[108,109]⟩,1,0,0,0,0,0,0,1,0,1,1⟩
 | 20=>⟨⟨#[108,117,120]⟩,⟨#[108,120]⟩,1,-2,0,0,0,0,0,1,0,1,1⟩
 | 21=>⟨⟨#[109,105,110,117,116,101]⟩,⟨#[109,105,110]⟩,0,0,0,1,0,0,0,0,0,60,1⟩
 | 22=>⟨⟨#[104,111,117,114]⟩,⟨#[104]⟩,0,0,0,1,0,0,0,0,0,3600,1⟩
 | 23=>⟨⟨#[100,97,121]⟩,⟨#[100]⟩,0,0,0,1,0,0,0,0,0,86400,1⟩
 | 24=>⟨⟨#[108,105,116,114,101]⟩,⟨#[76]⟩,1,3,0,0,0,0,0,0,0,1,1000⟩
 | 25=>⟨⟨#[116,111,110,110,101]⟩,⟨#[116]⟩,1,0,1,0,0,0,0,0,0,1000,1⟩
 | 26=>⟨⟨#[98,97,114]⟩,⟨#[98,97,114]⟩,1,-1,1,-2,0,0,0,0,0,100000,1⟩
 | 27=>⟨⟨#[104,101,99,116,97,114,101]⟩,⟨#[104,97]⟩,0,2,0,0,0,0,0,0,0,10000,1⟩
 | _=>⟨⟨#[98,121,116,101]⟩,⟨#[66]⟩,3,0,0,0,0,0,0,0,1,8,1⟩
def suL (s:Su):List Value:=[.string s.nm,.string s.sy,I s.tk,I s.e0,I s.e1,I s.e2,I s.e3,I s.e4,I s.e5,I s.e6,I s.e7,I s.n,I s.d]
def flatS (n:Nat):List Value:=(List.range n).flatMap fun i=>suL (sut i)
theorem flatS_succ (n:Nat):flatS (n+1)=flatS n ++ suL (sut n):=by
 unfold flatS;rw[List.range_succ,List.flatMap_append];simp
def cntG:Nat→Nat
 | 0=>2
 | 1=>1
 | 2=>1
 | 3=>8
 | 4=>1
 | 5=>4
 | 6=>2
 | 7=>2
 | _=>8
def offG:Nat→Nat
 | 0=>0
 | 1=>2
 | 2=>3
 | 3=>4
 | 4=>12
 | 5=>13
 | 6=>17
 | 7=>19
 | 8=>21
 | _=>29
theorem offG_succ:∀k,k<9→offG (k+1)=offG k+cntG k
 | 0,_=>rfl
 | 1,_=>rfl
 | 2,_=>rfl
 | 3,_=>rfl
 | 4,_=>rfl
 | 5,_=>rfl
 | 6,_=>rfl
 | 7,_=>rfl
 | 8,_=>rfl
 | _+9,h=>absurd h (by omega)
theorem cntG_le:∀k,1≤cntG k∧cntG k≤8
 | 0=>by decide
 | 1=>by decide
 | 2=>by decide
 | 3=>by decide
 | 4=>by decide
 | 5=>by decide
 | 6=>by decide
 | 7=>by decide
 | _+8=>by show 1≤8∧8≤8;decide
theorem offG_le:∀k,k<9→offG k+cntG k≤29
 | 0,_=>by decide
 | 1,_=>by decide
 | 2,_=>by decide
 | 3,_=>by decide
 | 4,_=>by decide
 | 5,_=>by decide
 | 6,_=>by decide
 | 7,_=>by decide
 | 8,_=>by decide
 | _+9,h=>absurd h (by omega)
theorem gAt_size:∀k,(gAt k).size=81
 | 0=>rfl
 | 1=>rfl
 | 2=>rfl
 | 3=>rfl
 | 4=>rfl
 | 5=>rfl
 | 6=>rfl
 | 7=>rfl
 | _+8=>rfl
theorem gAt_ones:∀k,(gAt k).all (·.oneCell')=true
 | 0=>by kernel_rfl
 | 1=>by kernel_rfl
 | 2=>by kernel_rfl
 | 3=>by kernel_rfl
 | 4=>by kernel_rfl
 | 5=>by kernel_rfl
 | 6=>by kernel_rfl
 | 7=>by kernel_rfl
 | _+8=>by kernel_rfl
theorem gAt_cnt:∀k:Nat,(gAt k)[80]?=some (I (cntG k:Int))
 | 0=>rfl
 | 1=>rfl
 | 2=>rfl
 | 3=>rfl
 | 4=>rfl
 | 5=>rfl
 | 6=>rfl
 | 7=>rfl
 | _+8=>rfl
theorem allIx:∀k:Nat,k<9→∀w:World,(Instr.index 287 (.agg allG) (I (k:Int))).run Tryz.prog w=.ok (.agg (gAt k)) w
 | 0,_=>allIx0
 | 1,_=>allIx1
 | 2,_=>allIx2
 | 3,_=>allIx3
 | 4,_=>allIx4
 | 5,_=>allIx5
 | 6,_=>allIx6
 | 7,_=>allIx7
 | 8,_=>allIx8
 | _+9,h=>absurd h (by omega)
structure Am (gA:Array Value) (j:Nat) (s:Su):Prop where
 c0:gA[j*10]?=some (I s.e0)
 c1:gA[j*10+1]?=some (I s.e1)
 c2:gA[j*10+2]?=some (I s.e2)
 c3:gA[j*10+3]?=some (I s.e3)
 c4:gA[j*10+4]?=some (I s.e4)
 c5:gA[j*10+5]?=some (I s.e5)
 c6:gA[j*10+6]?=some (I s.e6)
 c7:gA[j*10+7]?=some (I s.e7)
 c8:gA[j*10+8]?=some (I s.n)
 c9:gA[j*10+9]?=some (I s.d)
theorem gAt_am:∀k j,k<9→j<cntG k→Am (gAt k) j (sut (offG k+j))
 | 0,0,_,_=>⟨rfl,rfl,rfl,rfl,rfl,rfl,rfl,rfl,rfl,rfl⟩
 | 0,1,_,_=>⟨rfl,rfl,rfl,rfl,rfl,rfl,rfl,rfl,rfl,rfl⟩
 | 0,_+2,_,h=>absurd h (by show ¬_<2;omega)
 | 1,0,_,_=>⟨rfl,rfl,rfl,rfl,rfl,rfl,rfl,rfl,rfl,rfl⟩
 | 1,_+1,_,h=>absurd h (by show ¬_<1;omega)
 | 2,0,_,_=>⟨rfl,rfl,rfl,rfl,rfl,rfl,rfl,rfl,rfl,rfl⟩
 | 2,_+1,_,h=>absurd h (by show ¬_<1;omega)
 | 3,0,_,_=>⟨rfl,rfl,rfl,rfl,rfl,rfl,rfl,rfl,rfl,rfl⟩
 | 3,1,_,_=>⟨rfl,rfl,rfl,rfl,rfl,rfl,rfl,rfl,rfl,rfl⟩
 | 3,2,_,_=>⟨rfl,rfl,rfl,rfl,rfl,rfl,rfl,rfl,rfl,rfl⟩
 | 3,3,_,_=>⟨rfl,rfl,rfl,rfl,rfl,rfl,rfl,rfl,rfl,rfl⟩
 | 3,4,_,_=>⟨rfl,rfl,rfl,rfl,rfl,rfl,rfl,rfl,rfl,rfl⟩
 | 3,5,_,_=>⟨rfl,rfl,rfl,rfl,rfl,rfl,rfl,rfl,rfl,rfl⟩
 | 3,6,_,_=>⟨rfl,rfl,rfl,rfl,rfl,rfl,rfl,rfl,rfl,rfl⟩
 | 3,7,_,_=>⟨rfl,rfl,rfl,rfl,rfl,rfl,rfl,rfl,rfl,rfl⟩
 | 3,_+8,_,h=>absurd h (by show ¬_<8;omega)
 | 4,0,_,_=>⟨rfl,rfl,rfl,rfl,rfl,rfl,rfl,rfl,rfl,rfl⟩
 | 4,_+1,_,h=>absurd h (by show ¬_<1;omega)
 | 5,0,_,_=>⟨rfl,rfl,rfl,rfl,rfl,rfl,rfl,rfl,rfl,rfl⟩
 | 5,1,_,_=>⟨rfl,rfl,rfl,rfl,rfl,rfl,rfl,rfl,rfl,rfl⟩
 | 5,2,_,_=>⟨rfl,rfl,rfl,rfl,rfl,rfl,rfl,rfl,rfl,rfl⟩
 | 5,3,_,_=>⟨rfl,rfl,rfl,rfl,rfl,rfl,rfl,rfl,rfl,rfl⟩
 | 5,_+4,_,h=>absurd h (by show ¬_<4;omega)
 | 6,0,_,_=>⟨rfl,rfl,rfl,rfl,rfl,rfl,rfl,rfl,rfl,rfl⟩
 | 6,1,_,_=>⟨rfl,rfl,rfl,rfl,rfl,rfl,rfl,rfl,rfl,rfl⟩
 | 6,_+2,_,h=>absurd h (by show ¬_<2;omega)
 | 7,0,_,_=>⟨rfl,rfl,rfl,rfl,rfl,rfl,rfl,rfl,rfl,rfl⟩
 | 7,1,_,_=>⟨rfl,rfl,rfl,rfl,rfl,rfl,rfl,rfl,rfl,rfl⟩
 | 7,_+2,_,h=>absurd h (by show ¬_<2;omega)
 | 8,0,_,_=>⟨rfl,rfl,rfl,rfl,rfl,rfl,rfl,rfl,rfl,rfl⟩
 | 8,1,_,_=>⟨rfl,rfl,rfl,rfl,rfl,rfl,rfl,rfl,rfl,rfl⟩
 | 8,2,_,_=>⟨rfl,rfl,rfl,rfl,rfl,rfl,rfl,rfl,rfl,rfl⟩
 | 8,3,_,_=>⟨rfl,rfl,rfl,rfl,rfl,rfl,rfl,rfl,rfl,rfl⟩
 | 8,4,_,_=>⟨rfl,rfl,rfl,rfl,rfl,rfl,rfl,rfl,rfl,rfl⟩
 | 8,5,_,_=>⟨rfl,rfl,rfl,rfl,rfl,rfl,rfl,rfl,rfl,rfl⟩
 | 8,6,_,_=>⟨rfl,rfl,rfl,rfl,rfl,rfl,rfl,rfl,rfl,rfl⟩
 | 8,7,_,_=>⟨rfl,rfl,rfl,rfl,rfl,rfl,rfl,rfl,rfl,rfl⟩
 | 8,_+8,_,h=>absurd h (by show ¬_<8;omega)
 | _+9,_,h,_=>absurd h (by omega)
structure Lb (n:Nat) (s:Su):Prop where
 c0:labs[n*3]?=some (.string s.nm)
 c1:labs[n*3+1]?=some (.string s.sy)
 c2:labs[n*3+2]?=some (I s.tk)
theorem labs_at:∀n,n<29→Lb n (sut n)
 | 0,_=>⟨rfl,rfl,rfl⟩
 | 1,_=>⟨rfl,rfl,rfl⟩
 | 2,_=>⟨rfl,rfl,rfl⟩
 | 3,_=>⟨rfl,rfl,rfl⟩
 | 4,_=>⟨rfl,rfl,rfl⟩
 | 5,_=>⟨rfl,rfl,rfl⟩
 | 6,_=>⟨rfl,rfl,rfl⟩
 | 7,_=>⟨rfl,rfl,rfl⟩
 | 8,_=>⟨rfl,rfl,rfl⟩
 | 9,_=>⟨rfl,rfl,rfl⟩
 | 10,_=>⟨rfl,rfl,rfl⟩
 | 11,_=>⟨rfl,rfl,rfl⟩
 | 12,_=>⟨rfl,rfl,rfl⟩
 | 13,_=>⟨rfl,rfl,rfl⟩
 | 14,_=>⟨rfl,rfl,rfl⟩
 | 15,_=>⟨rfl,rfl,rfl⟩
 | 16,_=>⟨rfl,rfl,rfl⟩
 | 17,_=>⟨rfl,rfl,rfl⟩
 | 18,_=>⟨rfl,rfl,rfl⟩
 | 19,_=>⟨rfl,rfl,rfl⟩
 | 20,_=>⟨rfl,rfl,rfl⟩
 | 21,_=>⟨rfl,rfl,rfl⟩
 | 22,_=>⟨rfl,rfl,rfl⟩
 | 23,_=>⟨rfl,rfl,rfl⟩
 | 24,_=>⟨rfl,rfl,rfl⟩
 | 25,_=>⟨rfl,rfl,rfl⟩
 | 26,_=>⟨rfl,rfl,rfl⟩
 | 27,_=>⟨rfl,rfl,rfl⟩
 | 28,_=>⟨rfl,rfl,rfl⟩
 | _+29,h=>absurd h (by omega)
theorem fill_along (g:Nat) (b1:Nat) (w:World) (hg:zAc w g 286 zAw) (h1:zAc w b1 180 (J (-1) 1 (-2) 0 0 0 0 0 1 1)) (n1:¬b1=g) :
 Calls Tryz.prog 325 #[.func (.func 367) #[] #[.pointer (some ⟨g,0,none⟩)],.pointer (some ⟨b1,0,none⟩)] w fun e w'=>e=.returned (.tuple #[])∧zAc w' g 286 zDv∧Onto w w' g:=by
 have HF0:Hid (FS w w g zAw [(b1,J (-1) 1 (-2) 0 0 0 0 0 1 1)]):=⟨hg,Onto.of_below (Below.refl _ _),fun p hp=>(by simp only[List.mem_cons,List.not_mem_nil,or_false]at hp;subst hp;exact⟨n1,h1⟩)⟩;clear hg h1 n1;go_enter Tryz.func325,Tryz.ntmps325
 go_upto_region 1 with (first
  | (refine zAn 180 10 zAu rfl (.tmp 3) (.tmp 10) rfl W4.heap.size z10 (J 0 0 1 0 0 0 0 0 60 1) rfl rfl rfl rfl (zAc.new _ _ _) (by kernel_rfl) ?_)
  | (go_at_call 367;go_must(refine(zDy 0 0 1 0 0 0 0 0 60 1 g zAw zGh _ (un HF3).gr rfl rfl (by kernel_rfl)).mono ?_;rintro e W4 ⟨rfl,hg1,ho1⟩;have HF4:=zAb ((un HF3).put hg1 ho1);clear hg1 ho1))
  | (go_at_call 315;have hchk:=HF2;clear hchk;refine(zBe 0 0 0 0 0 0 0 0 60 1 0 0 1 0 0 0 0 0 1 1 0 0 1 0 0 0 0 0 60 1 _ (by decide +kernel)).mono ?_;rintro e W3 ⟨rfl,hb⟩;have HF3:=zAb ((un HF2).later hb);clear hb)
  | (go_at_call 314;have hchk:=HF1;clear hchk;refine(siOne2 _).mono ?_;rintro e W2 ⟨rfl,hb⟩;have HF2:=zAb ((un HF1).later hb);clear hb)
  | (go_at_call 320;have hchk:=HF0;clear hchk;refine(zBp 60 _).mono ?_;rintro e W1 ⟨rfl,hb⟩;have HF1:=zAb ((un HF0).later hb);clear hb))
 have HF5:=zAb (((un HF4).alloc z10).row (un HF4).on.size (fun p hp=>Nat.ne_of_gt ((un HF4).bx p hp).2.lt) (J 0 0 1 0 0 0 0 0 60 1));generalize (W4.alloc (.cells z10 180)).setRow W4.heap.size (J 0 0 1 0 0 0 0 0 60 1)=W5 at *
 generalize W4.heap.size=k3 at *
 have hpn:∀(a:Act) (v:Value),a.put none v=a:=fun _ _=>rfl
 simp only[hpn];clear hpn
 go_wp2_with fail
 go_cut [4]from 11 (fun s9 wx=>∃k,s9=.pointer (some ⟨k,0,none⟩)∧Hid (FS w wx g zFi ((k,J 0 0 1 0 0 0 0 0 3600 1) :: [(k3,J 0 0 1 0 0 0 0 0 60 1),(b1,J (-1) 1 (-2) 0 0 0 0 0 1 1)])))
 case first=>
  have HSS:Hid (∀(W':World) (vs:Array Value),FS w W' g vs [(k3,J 0 0 1 0 0 0 0 0 60 1),(b1,J (-1) 1 (-2) 0 0 0 0 0 1 1)]→C10 W' k3 (I 0) (I 0) (I 1) (I 0) (I 0) (I 0) (I 0) (I 0) (I 60) (I 1)):=fun W' vs h=>(h.bx (k3,J 0 0 1 0 0 0 0 0 60 1) (by simp)).2.c10
  have HF6:Hid (FS w (W5.drew) g zGh [(k3,J 0 0 1 0 0 0 0 0 60 1),(b1,J (-1) 1 (-2) 0 0 0 0 0 1 1)]):=(un HF5).later (Below.refl _ _).drew;have HS6:=zAb (un HSS _ _ (un HF6));refine zAi 6 (fun _=>True) (fun W'=>W'.cell? ⟨k3,0,none⟩=some (I 0)∧W'.cell? ⟨k3,1,none⟩=some (I 0)∧W'.cell? ⟨k3,2,none⟩=some (I 1)∧W'.cell? ⟨k3,3,none⟩=some (I 0)∧W'.cell? ⟨k3,4,none⟩=some (I 0)∧W'.cell? ⟨k3,5,none⟩=some (I 0)∧W'.cell? ⟨k3,6,none⟩=some (I 0)∧W'.cell? ⟨k3,7,none⟩=some (I 0)∧W'.cell? ⟨k3,8,none⟩=some (I 60)∧W'.cell? ⟨k3,9,none⟩=some (I 1)) 7 rfl (by kernel_rfl) ?_;refine wT7 0 (.func (.func 367) #[] #[.pointer (some ⟨g,0,none⟩)]) rfl (Or.inl ⟨by rfl,?_⟩) ⟨trivial,un HS6⟩ ?_
  ·intro W hW
   go_split_ands
   go_simp
  refine wT7 2 (.agg (J 0 0 1 0 0 0 0 0 60 1)) rfl (Or.inl ⟨by rfl,?_⟩) ⟨trivial,un HS6⟩ ?_
  ·intro W hW
   go_split_ands
   go_simp
  clear HS6;generalize W5.drew=W6 at *
  refine zBn (i:=1) (j:=5) (by kernel_rfl) rfl rfl rfl rfl (fun K hK=>?_) (fun K hK=>?_)
  ·skip
   go_simp
   refine(zBp 60 _).mono ?_;rintro e W7 ⟨rfl,hb⟩;have HF7:=zAb ((un HF6).later hb);clear hb;refine hK _ _ ⟨trivial,un HSS _ _ (un HF7)⟩ ?_;clear hK K;refine zBn (i:=3) (j:=5) (by kernel_rfl) rfl rfl rfl rfl (fun K hK=>?_) (fun K hK=>?_)
   ·skip
    go_simp
    refine(zBe 0 0 0 0 0 0 0 0 60 1 0 0 1 0 0 0 0 0 60 1 0 0 1 0 0 0 0 0 3600 1 _ (by decide +kernel)).mono ?_;rintro e W8 ⟨rfl,hb⟩;have HF8:=zAb ((un HF7).later hb);clear hb;refine hK _ _ ⟨trivial,un HSS _ _ (un HF8)⟩ ?_;clear hK K;refine zBn (i:=4) (j:=5) (by kernel_rfl) rfl rfl rfl rfl (fun K hK=>?_) (fun K hK=>?_)
    ·skip
     go_simp
     refine(zDa 0 0 1 0 0 0 0 0 3600 1 g zGh zFi _ (un HF8).gr rfl rfl (by kernel_rfl)).mono ?_;rintro e W9 ⟨rfl,hg1,ho1⟩;have HF9:=zAb ((un HF8).put hg1 ho1);clear hg1 ho1;refine hK _ _ ⟨trivial,un HSS _ _ (un HF9)⟩ ?_;clear hK K;refine wO 5 rfl rfl (fun K hK=>?_)
     go_simp
     have HL:Hid (w.heap.size≤W9.heap.size∧∀p:Nat×Array Value,p∈([(k3,J 0 0 1 0 0 0 0 0 60 1),(b1,J (-1) 1 (-2) 0 0 0 0 0 1 1)]:List (Nat×Array Value))→¬W9.heap.size=p.1):=⟨(un HF9).on.size,fun p hp=>Nat.ne_of_gt ((un HF9).bx p hp).2.lt⟩;have HF10:=zAb ((un HF9).alloc z10);refine hK _ _ ⟨trivial,un HSS _ _ (un HF10).tail⟩ ?_;clear hK K;generalize hW10:W9.alloc (.cells z10 180)=W10 at *
     clear hW10;generalize W9.heap.size=k at *
     have HFE:=zAb ((un HF10).row (un HL).1 (un HL).2 (J 0 0 1 0 0 0 0 0 3600 1));refine wL 6 rfl rfl (fun K hK=>?_);refine wp_store_row 180 (.tmp 4) (.tmp 15) rfl k (J 0 0 1 0 0 0 0 0 3600 1) rfl rfl 180 _ ((un HF10).bx (k,z10) (by simp)).2 (by rw[zAu];rfl) rfl (by kernel_rfl) (hK _ _ (un HSS _ _ (un HFE).tail) ?_);clear hK K;refine wDn ?_;generalize W10.setRow k (J 0 0 1 0 0 0 0 0 3600 1)=U at HFE ⊢
     go_wp2_with fail
     go_meet
     exact⟨k,rfl,HFE⟩
    ·skip
     go_simp
     have HL:Hid (w.heap.size≤W8.heap.size∧∀p:Nat×Array Value,p∈([(k3,J 0 0 1 0 0 0 0 0 60 1),(b1,J (-1) 1 (-2) 0 0 0 0 0 1 1)]:List (Nat×Array Value))→¬W8.heap.size=p.1):=⟨(un HF8).on.size,fun p hp=>Nat.ne_of_gt ((un HF8).bx p hp).2.lt⟩;have HF9:=zAb ((un HF8).alloc z10);refine hK _ _ ⟨trivial,un HSS _ _ (un HF9).tail⟩ ?_;clear hK K;generalize hW9:W8.alloc (.cells z10 180)=W9 at *
     clear hW9;generalize W8.heap.size=k at *
     refine wO 4 rfl rfl (fun K hK=>?_)
     go_simp
     refine(zDa 0 0 1 0 0 0 0 0 3600 1 g zGh zFi _ (un HF9).gr rfl rfl (by kernel_rfl)).mono ?_;rintro e W10 ⟨rfl,hg1,ho1⟩;have HF10:=zAb ((un HF9).put hg1 ho1);clear hg1 ho1;refine hK _ _ ⟨trivial,un HSS _ _ ((un HF10).tail)⟩ ?_;clear hK K;have HFE:=zAb ((un HF10).row (un HL).1 (un HL).2 (J 0 0 1 0 0 0 0 0 3600 1));refine wL 6 rfl rfl (fun K hK=>?_);refine wp_store_row 180 (.tmp 4) (.tmp 15) rfl k (J 0 0 1 0 0 0 0 0 3600 1) rfl rfl 180 _ ((un HF10).bx (k,z10) (by simp)).2 (by rw[zAu];rfl) rfl (by kernel_rfl) (hK _ _ (un HSS _ _ (un HFE).tail) ?_);clear hK K;refine wDn ?_;generalize W10.setRow k (J 0 0 1 0 0 0 0 0 3600 1)=U at HFE ⊢
     go_wp2_with fail
     go_meet
     exact⟨k,rfl,HFE⟩
   ·skip
    go_simp
    have HL:Hid (w.heap.size≤W7.heap.size∧∀p:Nat×Array Value,p∈([(k3,J 0 0 1 0 0 0 0 0 60 1),(b1,J (-1) 1 (-2) 0 0 0 0 0 1 1)]:List (Nat×Array Value))→¬W7.heap.size=p.1):=⟨(un HF7).on.size,fun p hp=>Nat.ne_of_gt ((un HF7).bx p hp).2.lt⟩;have HF8:=zAb ((un HF7).alloc z10);refine hK _ _ ⟨trivial,un HSS _ _ (un HF8).tail⟩ ?_;clear hK K;generalize hW8:W7.alloc (.cells z10 180)=W8 at *
    clear hW8;generalize W7.heap.size=k at *
    refine wO 3 rfl rfl (fun K hK=>?_)
    go_simp
    refine(zBe 0 0 0 0 0 0 0 0 60 1 0 0 1 0 0 0 0 0 60 1 0 0 1 0 0 0 0 0 3600 1 _ (by decide +kernel)).mono ?_;rintro e W9 ⟨rfl,hb⟩;have HF9:=zAb ((un HF8).later hb);clear hb;refine hK _ _ ⟨trivial,un HSS _ _ ((un HF9).tail)⟩ ?_;clear hK K;refine wO 4 rfl rfl (fun K hK=>?_)
    go_simp
    refine(zDa 0 0 1 0 0 0 0 0 3600 1 g zGh zFi _ (un HF9).gr rfl rfl (by kernel_rfl)).mono ?_;rintro e W10 ⟨rfl,hg1,ho1⟩;have HF10:=zAb ((un HF9).put hg1 ho1);clear hg1 ho1;refine hK _ _ ⟨trivial,un HSS _ _ ((un HF10).tail)⟩ ?_;clear hK K;have HFE:=zAb ((un HF10).row (un HL).1 (un HL).2 (J 0 0 1 0 0 0 0 0 3600 1));refine wL 6 rfl rfl (fun K hK=>?_);refine wp_store_row 180 (.tmp 4) (.tmp 15) rfl k (J 0 0 1 0 0 0 0 0 3600 1) rfl rfl 180 _ ((un HF10).bx (k,z10) (by simp)).2 (by rw[zAu];rfl) rfl (by kernel_rfl) (hK _ _ (un HSS _ _ (un HFE).tail) ?_);clear hK K;refine wDn ?_;generalize W10.setRow k (J 0 0 1 0 0 0 0 0 3600 1)=U at HFE ⊢
    go_wp2_with fail
    go_meet
    exact⟨k,rfl,HFE⟩
  ·skip
   go_simp
   have HL:Hid (w.heap.size≤W6.heap.size∧∀p:Nat×Array Value,p∈([(k3,J 0 0 1 0 0 0 0 0 60 1),(b1,J (-1) 1 (-2) 0 0 0 0 0 1 1)]:List (Nat×Array Value))→¬W6.heap.size=p.1):=⟨(un HF6).on.size,fun p hp=>Nat.ne_of_gt ((un HF6).bx p hp).2.lt⟩;have HF7:=zAb ((un HF6).alloc z10);refine hK _ _ ⟨trivial,un HSS _ _ (un HF7).tail⟩ ?_;clear hK K;generalize hW7:W6.alloc (.cells z10 180)=W7 at *
   clear hW7;generalize W6.heap.size=k at *
   refine wO 1 rfl rfl (fun K hK=>?_)
   go_simp
   refine(zBp 60 _).mono ?_;rintro e W8 ⟨rfl,hb⟩;have HF8:=zAb ((un HF7).later hb);clear hb;refine hK _ _ ⟨trivial,un HSS _ _ ((un HF8).tail)⟩ ?_;clear hK K;refine wO 3 rfl rfl (fun K hK=>?_)
   go_simp
   refine(zBe 0 0 0 0 0 0 0 0 60 1 0 0 1 0 0 0 0 0 60 1 0 0 1 0 0 0 0 0 3600 1 _ (by decide +kernel)).mono ?_;rintro e W9 ⟨rfl,hb⟩;have HF9:=zAb ((un HF8).later hb);clear hb;refine hK _ _ ⟨trivial,un HSS _ _ ((un HF9).tail)⟩ ?_;clear hK K;refine wO 4 rfl rfl (fun K hK=>?_)
   go_simp
   refine(zDa 0 0 1 0 0 0 0 0 3600 1 g zGh zFi _ (un HF9).gr rfl rfl (by kernel_rfl)).mono ?_;rintro e W10 ⟨rfl,hg1,ho1⟩;have HF10:=zAb ((un HF9).put hg1 ho1);clear hg1 ho1;refine hK _ _ ⟨trivial,un HSS _ _ ((un HF10).tail)⟩ ?_;clear hK K;have HFE:=zAb ((un HF10).row (un HL).1 (un HL).2 (J 0 0 1 0 0 0 0 0 3600 1));refine wL 6 rfl rfl (fun K hK=>?_);refine wp_store_row 180 (.tmp 4) (.tmp 15) rfl k (J 0 0 1 0 0 0 0 0 3600 1) rfl rfl 180 _ ((un HF10).bx (k,z10) (by simp)).2 (by rw[zAu];rfl) rfl (by kernel_rfl) (hK _ _ (un HSS _ _ (un HFE).tail) ?_);clear hK K;refine wDn ?_;generalize W10.setRow k (J 0 0 1 0 0 0 0 0 3600 1)=U at HFE ⊢
   go_wp2_with fail
   go_meet
   exact⟨k,rfl,HFE⟩
 case rest=>
  obtain⟨k4,rfl,HF25⟩:=hcut;generalize wc=W25 at HF25 ⊢
  go_upto_region 2 with fail
  have HSS:Hid (∀(W':World) (vs:Array Value),FS w W' g vs [(k4,J 0 0 1 0 0 0 0 0 3600 1),(k3,J 0 0 1 0 0 0 0 0 60 1),(b1,J (-1) 1 (-2) 0 0 0 0 0 1 1)]→C10 W' k4 (I 0) (I 0) (I 1) (I 0) (I 0) (I 0) (I 0) (I 0) (I 3600) (I 1)):=fun W' vs h=>(h.bx (k4,J 0 0 1 0 0 0 0 0 3600 1) (by simp)).2.c10
  have HF26:Hid (FS w (W25.drew) g zFi [(k4,J 0 0 1 0 0 0 0 0 3600 1),(k3,J 0 0 1 0 0 0 0 0 60 1),(b1,J (-1) 1 (-2) 0 0 0 0 0 1 1)]):=(un HF25).later (Below.refl _ _).drew;have HS26:=zAb (un HSS _ _ (un HF26));refine zAi 4 (fun _=>True) (fun W'=>W'.cell? ⟨k4,0,none⟩=some (I 0)∧W'.cell? ⟨k4,1,none⟩=some (I 0)∧W'.cell? ⟨k4,2,none⟩=some (I 1)∧W'.cell? ⟨k4,3,none⟩=some (I 0)∧W'.cell? ⟨k4,4,none⟩=some (I 0)∧W'.cell? ⟨k4,5,none⟩=some (I 0)∧W'.cell? ⟨k4,6,none⟩=some (I 0)∧W'.cell? ⟨k4,7,none⟩=some (I 0)∧W'.cell? ⟨k4,8,none⟩=some (I 3600)∧W'.cell? ⟨k4,9,none⟩=some (I 1)) 5 rfl (by kernel_rfl) ?_;refine wT7 0 (.func (.func 367) #[] #[.pointer (some ⟨g,0,none⟩)]) rfl (Or.inl ⟨by rfl,?_⟩) ⟨trivial,un HS26⟩ ?_
  ·intro W hW
   go_split_ands
   go_simp
  refine wT7 2 (.agg (J 0 0 1 0 0 0 0 0 3600 1)) rfl (Or.inl ⟨by rfl,?_⟩) ⟨trivial,un HS26⟩ ?_
  ·intro W hW
   go_split_ands
   go_simp
  refine wO 1 rfl rfl (fun K hK=>?_)
  go_simp
  refine(zBp 24 _).mono ?_;rintro e W27 ⟨rfl,hb⟩;have HF27:=zAb ((un HF26).later hb);clear hb;refine hK _ _ ⟨trivial,un HSS _ _ (un HF27)⟩ ?_;clear hK K;refine wO 3 rfl rfl (fun K hK=>?_)
  go_simp
  refine(zBe 0 0 0 0 0 0 0 0 24 1 0 0 1 0 0 0 0 0 3600 1 0 0 1 0 0 0 0 0 86400 1 _ (by decide +kernel)).mono ?_;rintro e W28 ⟨rfl,hb⟩;have HF28:=zAb ((un HF27).later hb);clear hb;refine hK _ _ ⟨trivial,un HSS _ _ (un HF28)⟩ ?_;clear hK K;refine wL 4 rfl rfl (fun K hK=>?_)
  go_simp
  refine(put2_of 0 0 1 0 0 0 0 0 86400 1 g zFi g_along3 _ (un HF28).gr rfl rfl (by kernel_rfl)).mono ?_;rintro e W29 ⟨rfl,hg1,ho1⟩;have HF29:=zAb ((un HF28).put hg1 ho1);clear hg1 ho1;refine hK _ _ (un HSS _ _ (un HF29)) ?_;clear hK K;refine wDn ?_;clear HSS HS26
  go_upto_region 4 with (first
  | (refine zAn 180 10 zAu rfl (.tmp 5) (.tmp 23) rfl W32.heap.size z10 (J 2 0 0 0 0 0 0 0 1 1) rfl rfl rfl rfl (zAc.new _ _ _) (by kernel_rfl) ?_)
  | (go_at_call 315;have hchk:=HF31;clear hchk;refine(zBe 1 0 0 0 0 0 0 0 1 1 1 0 0 0 0 0 0 0 1 1 2 0 0 0 0 0 0 0 1 1 _ (by decide +kernel)).mono ?_;rintro e W32 ⟨rfl,hb⟩;have HF32:=zAb ((un HF31).later hb);clear hb)
  | (go_at_call 314;have hchk:=HF30;clear hchk;refine(zEu _).mono ?_;rintro e W31 ⟨rfl,hb⟩;have HF31:=zAb ((un HF30).later hb);clear hb)
  | (go_at_call 314;have hchk:=HF29;clear hchk;refine(zEu _).mono ?_;rintro e W30 ⟨rfl,hb⟩;have HF30:=zAb ((un HF29).later hb);clear hb))
  have HF33:=zAb (((un HF32).alloc z10).row (un HF32).on.size (fun p hp=>Nat.ne_of_gt ((un HF32).bx p hp).2.lt) (J 2 0 0 0 0 0 0 0 1 1));generalize (W32.alloc (.cells z10 180)).setRow W32.heap.size (J 2 0 0 0 0 0 0 0 1 1)=W33 at *
  generalize W32.heap.size=k5 at *
  have hpn:∀(a:Act) (v:Value),a.put none v=a:=fun _ _=>rfl
  simp only[hpn];clear hpn
  go_upto_region 4 with fail
  have HSS:Hid (∀(W':World) (vs:Array Value),FS w W' g vs [(k5,J 2 0 0 0 0 0 0 0 1 1),(k4,J 0 0 1 0 0 0 0 0 3600 1),(k3,J 0 0 1 0 0 0 0 0 60 1),(b1,J (-1) 1 (-2) 0 0 0 0 0 1 1)]→C10 W' k5 (I 2) (I 0) (I 0) (I 0) (I 0) (I 0) (I 0) (I 0) (I 1) (I 1)):=fun W' vs h=>(h.bx (k5,J 2 0 0 0 0 0 0 0 1 1) (by simp)).2.c10
  have HF34:Hid (FS w (W33.drew) g g_along3 [(k5,J 2 0 0 0 0 0 0 0 1 1),(k4,J 0 0 1 0 0 0 0 0 3600 1),(k3,J 0 0 1 0 0 0 0 0 60 1),(b1,J (-1) 1 (-2) 0 0 0 0 0 1 1)]):=(un HF33).later (Below.refl _ _).drew;have HS34:=zAb (un HSS _ _ (un HF34));refine zAi 6 (fun _=>True) (fun W'=>W'.cell? ⟨k5,0,none⟩=some (I 2)∧W'.cell? ⟨k5,1,none⟩=some (I 0)∧W'.cell? ⟨k5,2,none⟩=some (I 0)∧W'.cell? ⟨k5,3,none⟩=some (I 0)∧W'.cell? ⟨k5,4,none⟩=some (I 0)∧W'.cell? ⟨k5,5,none⟩=some (I 0)∧W'.cell? ⟨k5,6,none⟩=some (I 0)∧W'.cell? ⟨k5,7,none⟩=some (I 0)∧W'.cell? ⟨k5,8,none⟩=some (I 1)∧W'.cell? ⟨k5,9,none⟩=some (I 1)) 7 rfl (by kernel_rfl) ?_;refine wT7 0 (.func (.func 367) #[] #[.pointer (some ⟨g,0,none⟩)]) rfl (Or.inl ⟨by rfl,?_⟩) ⟨trivial,un HS34⟩ ?_
  ·intro W hW
   go_split_ands
   go_simp
  refine wT7 1 (.agg (J 2 0 0 0 0 0 0 0 1 1)) rfl (Or.inl ⟨by rfl,?_⟩) ⟨trivial,un HS34⟩ ?_
  ·intro W hW
   go_split_ands
   go_simp
  refine wO 2 rfl rfl (fun K hK=>?_)
  go_simp
  refine(zEu _).mono ?_;rintro e W35 ⟨rfl,hb⟩;have HF35:=zAb ((un HF34).later hb);clear hb;refine hK _ _ ⟨trivial,un HSS _ _ (un HF35)⟩ ?_;clear hK K;refine wO 3 rfl rfl (fun K hK=>?_)
  go_simp
  refine(zBe 2 0 0 0 0 0 0 0 1 1 1 0 0 0 0 0 0 0 1 1 3 0 0 0 0 0 0 0 1 1 _ (by decide +kernel)).mono ?_;rintro e W36 ⟨rfl,hb⟩;have HF36:=zAb ((un HF35).later hb);clear hb;refine hK _ _ ⟨trivial,un HSS _ _ (un HF36)⟩ ?_;clear hK K;refine wO 4 rfl rfl (fun K hK=>?_)
  go_simp
  refine(zBp 1000 _).mono ?_;rintro e W37 ⟨rfl,hb⟩;have HF37:=zAb ((un HF36).later hb);clear hb;refine hK _ _ ⟨trivial,un HSS _ _ (un HF37)⟩ ?_;clear hK K;refine wO 5 rfl rfl (fun K hK=>?_)
  go_simp
  refine(zDz 3 0 0 0 0 0 0 0 1 1 0 0 0 0 0 0 0 0 1000 1 3 0 0 0 0 0 0 0 1 1000 _ (by decide +kernel)).mono ?_;rintro e W38 ⟨rfl,hb⟩;have HF38:=zAb ((un HF37).later hb);clear hb;refine hK _ _ ⟨trivial,un HSS _ _ (un HF38)⟩ ?_;clear hK K;refine wL 6 rfl rfl (fun K hK=>?_)
  go_simp
  refine(put3_of 3 0 0 0 0 0 0 0 1 1000 g g_along3 g_along4 _ (un HF38).gr rfl rfl (by kernel_rfl)).mono ?_;rintro e W39 ⟨rfl,hg1,ho1⟩;have HF39:=zAb ((un HF38).put hg1 ho1);clear hg1 ho1;refine hK _ _ (un HSS _ _ (un HF39)) ?_;clear hK K;refine wDn ?_;clear HSS HS34
  go_upto_region 6 with (first
  | (go_at_call 367;go_must(refine(put4_of 0 1 0 0 0 0 0 0 1000 1 g g_along4 g_along5 _ (un HF42).gr rfl rfl (by kernel_rfl)).mono ?_;rintro e W43 ⟨rfl,hg1,ho1⟩;have HF43:=zAb ((un HF42).put hg1 ho1);clear hg1 ho1))
  | (go_at_call 315;have hchk:=HF41;clear hchk;refine(zBe 0 0 0 0 0 0 0 0 1000 1 0 1 0 0 0 0 0 0 1 1 0 1 0 0 0 0 0 0 1000 1 _ (by decide +kernel)).mono ?_;rintro e W42 ⟨rfl,hb⟩;have HF42:=zAb ((un HF41).later hb);clear hb)
  | (go_at_call 314;have hchk:=HF40;clear hchk;refine(siOne1 _).mono ?_;rintro e W41 ⟨rfl,hb⟩;have HF41:=zAb ((un HF40).later hb);clear hb)
  | (go_at_call 320;have hchk:=HF39;clear hchk;refine(zBp 1000 _).mono ?_;rintro e W40 ⟨rfl,hb⟩;have HF40:=zAb ((un HF39).later hb);clear hb))
  go_upto_region 6 with fail
  have HSS:Hid (∀(W':World) (vs:Array Value),FS w W' g vs [(k5,J 2 0 0 0 0 0 0 0 1 1),(k4,J 0 0 1 0 0 0 0 0 3600 1),(k3,J 0 0 1 0 0 0 0 0 60 1),(b1,J (-1) 1 (-2) 0 0 0 0 0 1 1)]→C10 W' b1 (I (-1)) (I 1) (I (-2)) (I 0) (I 0) (I 0) (I 0) (I 0) (I 1) (I 1)):=fun W' vs h=>(h.bx (b1,J (-1) 1 (-2) 0 0 0 0 0 1 1) (by simp)).2.c10
  have HF44:Hid (FS w (W43.drew) g g_along5 [(k5,J 2 0 0 0 0 0 0 0 1 1),(k4,J 0 0 1 0 0 0 0 0 3600 1),(k3,J 0 0 1 0 0 0 0 0 60 1),(b1,J (-1) 1 (-2) 0 0 0 0 0 1 1)]):=(un HF43).later (Below.refl _ _).drew;have HS44:=zAb (un HSS _ _ (un HF44));refine zAi 4 (fun _=>True) (fun W'=>W'.cell? ⟨b1,0,none⟩=some (I (-1))∧W'.cell? ⟨b1,1,none⟩=some (I 1)∧W'.cell? ⟨b1,2,none⟩=some (I (-2))∧W'.cell? ⟨b1,3,none⟩=some (I 0)∧W'.cell? ⟨b1,4,none⟩=some (I 0)∧W'.cell? ⟨b1,5,none⟩=some (I 0)∧W'.cell? ⟨b1,6,none⟩=some (I 0)∧W'.cell? ⟨b1,7,none⟩=some (I 0)∧W'.cell? ⟨b1,8,none⟩=some (I 1)∧W'.cell? ⟨b1,9,none⟩=some (I 1)) 5 rfl (by kernel_rfl) ?_;refine wT7 0 (.func (.func 367) #[] #[.pointer (some ⟨g,0,none⟩)]) rfl (Or.inl ⟨by rfl,?_⟩) ⟨trivial,un HS44⟩ ?_
  ·intro W hW
   go_split_ands
   go_simp
  refine wT7 2 (.agg (J (-1) 1 (-2) 0 0 0 0 0 1 1)) rfl (Or.inl ⟨by rfl,?_⟩) ⟨trivial,un HS44⟩ ?_
  ·intro W hW
   go_split_ands
   go_simp
  refine wO 1 rfl rfl (fun K hK=>?_)
  go_simp
  refine(zBp 100000 _).mono ?_;rintro e W45 ⟨rfl,hb⟩;have HF45:=zAb ((un HF44).later hb);clear hb;refine hK _ _ ⟨trivial,un HSS _ _ (un HF45)⟩ ?_;clear hK K;refine wO 3 rfl rfl (fun K hK=>?_)
  go_simp
  refine(zBe 0 0 0 0 0 0 0 0 100000 1 (-1) 1 (-2) 0 0 0 0 0 1 1 (-1) 1 (-2) 0 0 0 0 0 100000 1 _ (by decide +kernel)).mono ?_;rintro e W46 ⟨rfl,hb⟩;have HF46:=zAb ((un HF45).later hb);clear hb;refine hK _ _ ⟨trivial,un HSS _ _ (un HF46)⟩ ?_;clear hK K;refine wL 4 rfl rfl (fun K hK=>?_)
  go_simp
  refine(put5_of (-1) 1 (-2) 0 0 0 0 0 100000 1 g g_along5 g_along6 _ (un HF46).gr rfl rfl (by kernel_rfl)).mono ?_;rintro e W47 ⟨rfl,hg1,ho1⟩;have HF47:=zAb ((un HF46).put hg1 ho1);clear hg1 ho1;refine hK _ _ (un HSS _ _ (un HF47)) ?_;clear hK K;refine wDn ?_;clear HSS HS44
  go_upto_region 7 with fail
  have HSS:Hid (∀(W':World) (vs:Array Value),FS w W' g vs [(k5,J 2 0 0 0 0 0 0 0 1 1),(k4,J 0 0 1 0 0 0 0 0 3600 1),(k3,J 0 0 1 0 0 0 0 0 60 1),(b1,J (-1) 1 (-2) 0 0 0 0 0 1 1)]→C10 W' k5 (I 2) (I 0) (I 0) (I 0) (I 0) (I 0) (I 0) (I 0) (I 1) (I 1)):=fun W' vs h=>(h.bx (k5,J 2 0 0 0 0 0 0 0 1 1) (by simp)).2.c10
  have HF48:Hid (FS w (W47.drew) g g_along6 [(k5,J 2 0 0 0 0 0 0 0 1 1),(k4,J 0 0 1 0 0 0 0 0 3600 1),(k3,J 0 0 1 0 0 0 0 0 60 1),(b1,J (-1) 1 (-2) 0 0 0 0 0 1 1)]):=(un HF47).later (Below.refl _ _).drew;have HS48:=zAb (un HSS _ _ (un HF48));refine zAi 4 (fun _=>True) (fun W'=>W'.cell? ⟨k5,0,none⟩=some (I 2)∧W'.cell? ⟨k5,1,none⟩=some (I 0)∧W'.cell? ⟨k5,2,none⟩=some (I 0)∧W'.cell? ⟨k5,3,none⟩=some (I 0)∧W'.cell? ⟨k5,4,none⟩=some (I 0)∧W'.cell? ⟨k5,5,none⟩=some (I 0)∧W'.cell? ⟨k5,6,none⟩=some (I 0)∧W'.cell? ⟨k5,7,none⟩=some (I 0)∧W'.cell? ⟨k5,8,none⟩=some (I 1)∧W'.cell? ⟨k5,9,none⟩=some (I 1)) 5 rfl (by kernel_rfl) ?_;refine wT7 0 (.func (.func 367) #[] #[.pointer (some ⟨g,0,none⟩)]) rfl (Or.inl ⟨by rfl,?_⟩) ⟨trivial,un HS48⟩ ?_
  ·intro W hW
   go_split_ands
   go_simp
  refine wT7 2 (.agg (J 2 0 0 0 0 0 0 0 1 1)) rfl (Or.inl ⟨by rfl,?_⟩) ⟨trivial,un HS48⟩ ?_
  ·intro W hW
   go_split_ands
   go_simp
  refine wO 1 rfl rfl (fun K hK=>?_)
  go_simp
  refine(zBp 10000 _).mono ?_;rintro e W49 ⟨rfl,hb⟩;have HF49:=zAb ((un HF48).later hb);clear hb;refine hK _ _ ⟨trivial,un HSS _ _ (un HF49)⟩ ?_;clear hK K;refine wO 3 rfl rfl (fun K hK=>?_)
  go_simp
  refine(zBe 0 0 0 0 0 0 0 0 10000 1 2 0 0 0 0 0 0 0 1 1 2 0 0 0 0 0 0 0 10000 1 _ (by decide +kernel)).mono ?_;rintro e W50 ⟨rfl,hb⟩;have HF50:=zAb ((un HF49).later hb);clear hb;refine hK _ _ ⟨trivial,un HSS _ _ (un HF50)⟩ ?_;clear hK K;refine wL 4 rfl rfl (fun K hK=>?_)
  go_simp
  refine(put6_of 2 0 0 0 0 0 0 0 10000 1 g g_along6 g_along7 _ (un HF50).gr rfl rfl (by kernel_rfl)).mono ?_;rintro e W51 ⟨rfl,hg1,ho1⟩;have HF51:=zAb ((un HF50).put hg1 ho1);clear hg1 ho1;refine hK _ _ (un HSS _ _ (un HF51)) ?_;clear hK K;refine wDn ?_;clear HSS HS48
  go_wp2_with (first
  | (go_at_call 367;go_must(refine(put7_of 0 0 0 0 0 0 0 1 8 1 g g_along7 zDv _ (un HF54).gr rfl rfl (by kernel_rfl)).mono ?_;rintro e W55 ⟨rfl,hg1,ho1⟩;have HF55:=zAb ((un HF54).put hg1 ho1);clear hg1 ho1))
  | (go_at_call 315;have hchk:=HF53;clear hchk;refine(zBe 0 0 0 0 0 0 0 0 8 1 0 0 0 0 0 0 0 1 1 1 0 0 0 0 0 0 0 1 8 1 _ (by decide +kernel)).mono ?_;rintro e W54 ⟨rfl,hb⟩;have HF54:=zAb ((un HF53).later hb);clear hb)
  | (go_at_call 314;have hchk:=HF52;clear hchk;refine(siOne7 _).mono ?_;rintro e W53 ⟨rfl,hb⟩;have HF53:=zAb ((un HF52).later hb);clear hb)
  | (go_at_call 320;have hchk:=HF51;clear hchk;refine(zBp 8 _).mono ?_;rintro e W52 ⟨rfl,hb⟩;have HF52:=zAb ((un HF51).later hb);clear hb))
  skip
  go_end0
  exact⟨rfl,(un HF55).gr,(un HF55).on⟩
theorem grp_along (b1:Nat) (w:World) (h1:zAc w b1 180 (J (-1) 1 (-2) 0 0 0 0 0 1 1)):Calls Tryz.prog 312 #[.func (.func 325) #[] #[.pointer (some ⟨b1,0,none⟩)]] w fun e w'=>e=.returned (.agg zDv)∧Bw w w':=by
 obtain⟨V,hV⟩:∃V,V=(w.alloc (.cells Tryz.zeroCells286 286)).alloc (.cells Tryz.zeroCells286 286):=⟨_,rfl⟩;obtain⟨g,hg⟩:∃g,g=w.heap.size+1:=⟨_,rfl⟩;have HW:Hid (Bw w V):=by rw[hV];exact bA.alloc (by simp) _
 have HR:Hid (zAc V w.heap.size 286 zAw):=by rw[hV,←zc91];exact(zAc.new w _ 286).alloc _
 have HG:Hid (zAc V g 286 zAw):=by rw[hV,hg,←zc91];have h:=zAc.new (w.alloc (.cells Tryz.zeroCells286 286)) Tryz.zeroCells286 286;rw[Dm.size_alloc]at h;exact h
 have HC1:Hid (zAc V b1 180 (J (-1) 1 (-2) 0 0 0 0 0 1 1)∧¬b1=g):=⟨h1.later (un HW),(by have:=h1.lt;omega)⟩;have HN:Hid (¬w.heap.size=g∧w.heap.size≤g∧w.heap.size≤V.heap.size):=⟨by omega,by omega,(un HW).size⟩;have HV:=zAb hV;clear hV h1;go_enter Tryz.func312,Tryz.ntmps312
 go_upto_region 2 with fail
 rw[←un HV,←hg];clear HV hg
 go_upto_region 3 with (go_at_call 325;go_must(refine(fill_along g b1 _ (un HG) (un HC1).1 (un HC1).2).mono ?_;rintro e w1 ⟨rfl,hg1,ho1⟩;have HG1:=zAb hg1;have HR1:=zAb (ho1.own _ _ _ (un HN).1 (un HR));have HW1:=zAb (ho1.bel w.heap.size w (un HN).2.1 (un HN).2.2 (un HW));clear hg1 ho1))
 go_wp2_with (first
  | (refine wpList_load_row rfl 286 (.tmp 3) rfl g rfl 286 zDv (0,0) _ (un HG1) Tryz.underlying286 rfl (by kernel_rfl) ?_)
  | (refine zAn 286 81 zDe rfl (.tmp 2) (.tmp 7) rfl w.heap.size zAw zDv rfl rfl rfl rfl (un HR1) (by kernel_rfl) ?_))
 exact bodyPost_ret (v:=.agg zDv) (zFu Tryz.results312 _ _ w.heap.size _ rfl rfl ((un HR1).setRow _)) rfl ⟨rfl,below_setRow (un HW1) (Nat.le_refl _) _⟩
theorem fld_along (w:World):(Instr.field 286 (.agg zBv) 0).run Tryz.prog w=.ok (.agg (zBv.extract 0 80)) w:=by kernel_rfl
theorem idx_along (w:World):(Instr.index 284 (.agg (zBv.extract 0 80)) (I 1)).run Tryz.prog w=.ok (.agg (J (-1) 1 (-2) 0 0 0 0 0 1 1)) w:=by kernel_rfl
theorem made_along (w:World):Calls Tryz.prog 294 #[] w fun e w'=>e=.returned (.agg zDv)∧Bw w w':=by
 obtain⟨V,hV⟩:∃V,V=w.alloc (.cells Tryz.zeroCells286 286):=⟨_,rfl⟩;have HW:Hid (Bw w V):=by rw[hV];exact bA
 have HR:Hid (zAc V w.heap.size 286 zAw):=by rw[hV,←zc91];exact zAc.new w _ 286
 have HV:=zAb hV;clear hV;have hfl:=fld_along;have hix:=idx_along;go_enter Tryz.func294,Tryz.ntmps294
 go_upto_region 1 with fail
 rw[←un HV];clear HV
 go_upto_region 2 with (first
  | (go_at_call 286;go_must(refine(made_force _).mono ?_;rintro e w1 ⟨rfl,hb⟩;have HR1:=zAb ((un HR).later hb);have HW1:=zAb (bt HW hb);clear hb))
  | (refine zAn 180 10 zAu rfl (.tmp 1) (.tmp 4) rfl w1.heap.size (J 0 0 0 0 0 0 0 0 0 0) (J (-1) 1 (-2) 0 0 0 0 0 1 1) rfl rfl rfl rfl (zAc.new _ _ _) (by kernel_rfl) ?_))
 have hb2:Below w1.heap.size w1 ((w1.alloc (.cells (J 0 0 0 0 0 0 0 0 0 0) 180)).setRow w1.heap.size (J (-1) 1 (-2) 0 0 0 0 0 1 1)):=below_setRow (zBx _ _) (Nat.le_refl _) _;have HB2:Hid (zAc ((w1.alloc (.cells (J 0 0 0 0 0 0 0 0 0 0) 180)).setRow w1.heap.size (J (-1) 1 (-2) 0 0 0 0 0 1 1)) w1.heap.size 180 (J (-1) 1 (-2) 0 0 0 0 0 1 1)):=(zAc.new _ _ _).setRow _;have HR2:=zAb ((un HR1).later hb2);have HW2:=zAb (bt HW1 hb2);clear hb2 hfl hix;generalize (w1.alloc (.cells (J 0 0 0 0 0 0 0 0 0 0) 180)).setRow w1.heap.size (J (-1) 1 (-2) 0 0 0 0 0 1 1)=w2 at *
 generalize w1.heap.size=b1 at *
 go_wp2_with (first
  | (go_at_call 312;go_must(refine(grp_along b1 _ (un HB2)).mono ?_;rintro e w3 ⟨rfl,hb⟩;have HR3:=zAb ((un HR2).later hb);have HW3:=zAb (bt HW2 hb);clear hb))
  | (refine zAn 286 81 zDe rfl (.tmp 0) (.tmp 6) rfl w.heap.size zAw zDv rfl rfl rfl rfl (un HR3) (by kernel_rfl) ?_))
 exact bodyPost_ret (v:=.agg zDv) (zFu Tryz.results294 _ _ w.heap.size _ rfl rfl ((un HR3).setRow _)) rfl ⟨rfl,below_setRow (un HW3) (Nat.le_refl _) _⟩
end Go.Proofs.YtliadckofhblnaaGreatDoor

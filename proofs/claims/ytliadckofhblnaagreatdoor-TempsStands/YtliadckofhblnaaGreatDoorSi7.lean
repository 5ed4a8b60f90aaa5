/- What fills si's groups. -/
import Derived.Test.YtliadckofhblnaaGreatDoorLimb3
import Derived.Test.YtliadckofhblnaaGreatDoorSi5
set_option maxHeartbeats 8000000
set_option maxRecDepth 100000
namespace Go.Proofs.YtliadckofhblnaaGreatDoor
open Go.RowKit
theorem fill_light (g:Nat) (b1:Nat) (w:World) (hg:zAc w g 286 zAw) (h1:zAc w b1 180 (J 0 0 0 0 0 0 0 0 1 1)) (n1:¬b1=g) :
 Calls Tryz.prog 324 #[.func (.func 367) #[] #[.pointer (some ⟨g,0,none⟩)],.pointer (some ⟨b1,0,none⟩)] w fun e w'=>e=.returned (.tuple #[])∧zAc w' g 286 zDu∧Onto w w' g:=by
 have HF0:Hid (FS w w g zAw [(b1,J 0 0 0 0 0 0 0 0 1 1)]):=⟨hg,Onto.of_below (Below.refl _ _),fun p hp=>(by simp only[List.mem_cons,List.not_mem_nil,or_false]at hp;subst hp;exact⟨n1,h1⟩)⟩;clear hg h1 n1;go_enter Tryz.func324,Tryz.ntmps324
 go_upto_region 0 with fail
 go_cut [3]from 4 (fun s9 wx=>∃k,s9=.pointer (some ⟨k,0,none⟩)∧Hid (FS w wx g zFh ((k,J 0 0 0 0 0 0 1 0 1 1) :: [(b1,J 0 0 0 0 0 0 0 0 1 1)])))
 case first=>
  have HSS:Hid (∀(W':World) (vs:Array Value),FS w W' g vs [(b1,J 0 0 0 0 0 0 0 0 1 1)]→C10 W' b1 (I 0) (I 0) (I 0) (I 0) (I 0) (I 0) (I 0) (I 0) (I 1) (I 1)):=fun W' vs h=>(h.bx (b1,J 0 0 0 0 0 0 0 0 1 1) (by simp)).2.c10
  have HF1:Hid (FS w (w.drew) g zAw [(b1,J 0 0 0 0 0 0 0 0 1 1)]):=(un HF0).later (Below.refl _ _).drew;have HS1:=zAb (un HSS _ _ (un HF1));refine zAi 6 (fun _=>True) (fun W'=>W'.cell? ⟨b1,0,none⟩=some (I 0)∧W'.cell? ⟨b1,1,none⟩=some (I 0)∧W'.cell? ⟨b1,2,none⟩=some (I 0)∧W'.cell? ⟨b1,3,none⟩=some (I 0)∧W'.cell? ⟨b1,4,none⟩=some (I 0)∧W'.cell? ⟨b1,5,none⟩=some (I 0)∧W'.cell? ⟨b1,6,none⟩=some (I 0)∧W'.cell? ⟨b1,7,none⟩=some (I 0)∧W'.cell? ⟨b1,8,none⟩=some (I 1)∧W'.cell? ⟨b1,9,none⟩=some (I 1)) 7 rfl (by kernel_rfl) ?_;refine wT7 0 (.func (.func 367) #[] #[.pointer (some ⟨g,0,none⟩)]) rfl (Or.inl ⟨by rfl,?_⟩) ⟨trivial,un HS1⟩ ?_
  ·intro W hW
   go_split_ands
   go_simp
  refine wT7 2 (.agg (J 0 0 0 0 0 0 0 0 1 1)) rfl (Or.inl ⟨by rfl,?_⟩) ⟨trivial,un HS1⟩ ?_
  ·intro W hW
   go_split_ands
   go_simp
  clear HS1;generalize w.drew=W1 at *
  refine zBn (i:=1) (j:=5) (by kernel_rfl) rfl rfl rfl rfl (fun K hK=>?_) (fun K hK=>?_)
  ·skip
   go_simp
   refine(siOne6 _).mono ?_;rintro e W2 ⟨rfl,hb⟩;have HF2:=zAb ((un HF1).later hb);clear hb;refine hK _ _ ⟨trivial,un HSS _ _ (un HF2)⟩ ?_;clear hK K;refine zBn (i:=3) (j:=5) (by kernel_rfl) rfl rfl rfl rfl (fun K hK=>?_) (fun K hK=>?_)
   ·skip
    go_simp
    refine(zBe 0 0 0 0 0 0 1 0 1 1 0 0 0 0 0 0 0 0 1 1 0 0 0 0 0 0 1 0 1 1 _ (by decide +kernel)).mono ?_;rintro e W3 ⟨rfl,hb⟩;have HF3:=zAb ((un HF2).later hb);clear hb;refine hK _ _ ⟨trivial,un HSS _ _ (un HF3)⟩ ?_;clear hK K;refine zBn (i:=4) (j:=5) (by kernel_rfl) rfl rfl rfl rfl (fun K hK=>?_) (fun K hK=>?_)
    ·skip
     go_simp
     refine(zDy 0 0 0 0 0 0 1 0 1 1 g zAw zFh _ (un HF3).gr rfl rfl (by kernel_rfl)).mono ?_;rintro e W4 ⟨rfl,hg1,ho1⟩;have HF4:=zAb ((un HF3).put hg1 ho1);clear hg1 ho1;refine hK _ _ ⟨trivial,un HSS _ _ (un HF4)⟩ ?_;clear hK K;refine wO 5 rfl rfl (fun K hK=>?_)
     go_simp
     have HL:Hid (w.heap.size≤W4.heap.size∧∀p:Nat×Array Value,p∈([(b1,J 0 0 0 0 0 0 0 0 1 1)]:List (Nat×Array Value))→¬W4.heap.size=p.1):=⟨(un HF4).on.size,fun p hp=>Nat.ne_of_gt ((un HF4).bx p hp).2.lt⟩;have HF5:=zAb ((un HF4).alloc z10);refine hK _ _ ⟨trivial,un HSS _ _ (un HF5).tail⟩ ?_;clear hK K;generalize hW5:W4.alloc (.cells z10 180)=W5 at *
     clear hW5;generalize W4.heap.size=k at *
     have HFE:=zAb ((un HF5).row (un HL).1 (un HL).2 (J 0 0 0 0 0 0 1 0 1 1));refine wL 6 rfl rfl (fun K hK=>?_);refine wp_store_row 180 (.tmp 3) (.tmp 8) rfl k (J 0 0 0 0 0 0 1 0 1 1) rfl rfl 180 _ ((un HF5).bx (k,z10) (by simp)).2 (by rw[zAu];rfl) rfl (by kernel_rfl) (hK _ _ (un HSS _ _ (un HFE).tail) ?_);clear hK K;refine wDn ?_;generalize W5.setRow k (J 0 0 0 0 0 0 1 0 1 1)=U at HFE ⊢
     go_wp2_with fail
     go_meet
     exact⟨k,rfl,HFE⟩
    ·skip
     go_simp
     have HL:Hid (w.heap.size≤W3.heap.size∧∀p:Nat×Array Value,p∈([(b1,J 0 0 0 0 0 0 0 0 1 1)]:List (Nat×Array Value))→¬W3.heap.size=p.1):=⟨(un HF3).on.size,fun p hp=>Nat.ne_of_gt ((un HF3).bx p hp).2.lt⟩;have HF4:=zAb ((un HF3).alloc z10);refine hK _ _ ⟨trivial,un HSS _ _ (un HF4).tail⟩ ?_;clear hK K;generalize hW4:W3.alloc (.cells z10 180)=W4 at *
     clear hW4;generalize W3.heap.size=k at *
     refine wO 4 rfl rfl (fun K hK=>?_)
     go_simp
     refine(zDy 0 0 0 0 0 0 1 0 1 1 g zAw zFh _ (un HF4).gr rfl rfl (by kernel_rfl)).mono ?_;rintro e W5 ⟨rfl,hg1,ho1⟩;have HF5:=zAb ((un HF4).put hg1 ho1);clear hg1 ho1;refine hK _ _ ⟨trivial,un HSS _ _ ((un HF5).tail)⟩ ?_;clear hK K;have HFE:=zAb ((un HF5).row (un HL).1 (un HL).2 (J 0 0 0 0 0 0 1 0 1 1));refine wL 6 rfl rfl (fun K hK=>?_);refine wp_store_row 180 (.tmp 3) (.tmp 8) rfl k (J 0 0 0 0 0 0 1 0 1 1) rfl rfl 180 _ ((un HF5).bx (k,z10) (by simp)).2 (by rw[zAu];rfl) rfl (by kernel_rfl) (hK _ _ (un HSS _ _ (un HFE).tail) ?_);clear hK K;refine wDn ?_;generalize W5.setRow k (J 0 0 0 0 0 0 1 0 1 1)=U at HFE ⊢
     go_wp2_with fail
     go_meet
     exact⟨k,rfl,HFE⟩
   ·skip
    go_simp
    have HL:Hid (w.heap.size≤W2.heap.size∧∀p:Nat×Array Value,p∈([(b1,J 0 0 0 0 0 0 0 0 1 1)]:List (Nat×Array Value))→¬W2.heap.size=p.1):=⟨(un HF2).on.size,fun p hp=>Nat.ne_of_gt ((un HF2).bx p hp).2.lt⟩;have HF3:=zAb ((un HF2).alloc z10);refine hK _ _ ⟨trivial,un HSS _ _ (un HF3).tail⟩ ?_;clear hK K;generalize hW3:W2.alloc (.cells z10 180)=W3 at *
    clear hW3;generalize W2.heap.size=k at *
    refine wO 3 rfl rfl (fun K hK=>?_)
    go_simp
    refine(zBe 0 0 0 0 0 0 1 0 1 1 0 0 0 0 0 0 0 0 1 1 0 0 0 0 0 0 1 0 1 1 _ (by decide +kernel)).mono ?_;rintro e W4 ⟨rfl,hb⟩;have HF4:=zAb ((un HF3).later hb);clear hb;refine hK _ _ ⟨trivial,un HSS _ _ ((un HF4).tail)⟩ ?_;clear hK K;refine wO 4 rfl rfl (fun K hK=>?_)
    go_simp
    refine(zDy 0 0 0 0 0 0 1 0 1 1 g zAw zFh _ (un HF4).gr rfl rfl (by kernel_rfl)).mono ?_;rintro e W5 ⟨rfl,hg1,ho1⟩;have HF5:=zAb ((un HF4).put hg1 ho1);clear hg1 ho1;refine hK _ _ ⟨trivial,un HSS _ _ ((un HF5).tail)⟩ ?_;clear hK K;have HFE:=zAb ((un HF5).row (un HL).1 (un HL).2 (J 0 0 0 0 0 0 1 0 1 1));refine wL 6 rfl rfl (fun K hK=>?_);refine wp_store_row 180 (.tmp 3) (.tmp 8) rfl k (J 0 0 0 0 0 0 1 0 1 1) rfl rfl 180 _ ((un HF5).bx (k,z10) (by simp)).2 (by rw[zAu];rfl) rfl (by kernel_rfl) (hK _ _ (un HSS _ _ (un HFE).tail) ?_);clear hK K;refine wDn ?_;generalize W5.setRow k (J 0 0 0 0 0 0 1 0 1 1)=U at HFE ⊢
    go_wp2_with fail
    go_meet
    exact⟨k,rfl,HFE⟩
  ·skip
   go_simp
   have HL:Hid (w.heap.size≤W1.heap.size∧∀p:Nat×Array Value,p∈([(b1,J 0 0 0 0 0 0 0 0 1 1)]:List (Nat×Array Value))→¬W1.heap.size=p.1):=⟨(un HF1).on.size,fun p hp=>Nat.ne_of_gt ((un HF1).bx p hp).2.lt⟩;have HF2:=zAb ((un HF1).alloc z10);refine hK _ _ ⟨trivial,un HSS _ _ (un HF2).tail⟩ ?_;clear hK K;generalize hW2:W1.alloc (.cells z10 180)=W2 at *
   clear hW2;generalize W1.heap.size=k at *
   refine wO 1 rfl rfl (fun K hK=>?_)
   go_simp
   refine(siOne6 _).mono ?_;rintro e W3 ⟨rfl,hb⟩;have HF3:=zAb ((un HF2).later hb);clear hb;refine hK _ _ ⟨trivial,un HSS _ _ ((un HF3).tail)⟩ ?_;clear hK K;refine wO 3 rfl rfl (fun K hK=>?_)
   go_simp
   refine(zBe 0 0 0 0 0 0 1 0 1 1 0 0 0 0 0 0 0 0 1 1 0 0 0 0 0 0 1 0 1 1 _ (by decide +kernel)).mono ?_;rintro e W4 ⟨rfl,hb⟩;have HF4:=zAb ((un HF3).later hb);clear hb;refine hK _ _ ⟨trivial,un HSS _ _ ((un HF4).tail)⟩ ?_;clear hK K;refine wO 4 rfl rfl (fun K hK=>?_)
   go_simp
   refine(zDy 0 0 0 0 0 0 1 0 1 1 g zAw zFh _ (un HF4).gr rfl rfl (by kernel_rfl)).mono ?_;rintro e W5 ⟨rfl,hg1,ho1⟩;have HF5:=zAb ((un HF4).put hg1 ho1);clear hg1 ho1;refine hK _ _ ⟨trivial,un HSS _ _ ((un HF5).tail)⟩ ?_;clear hK K;have HFE:=zAb ((un HF5).row (un HL).1 (un HL).2 (J 0 0 0 0 0 0 1 0 1 1));refine wL 6 rfl rfl (fun K hK=>?_);refine wp_store_row 180 (.tmp 3) (.tmp 8) rfl k (J 0 0 0 0 0 0 1 0 1 1) rfl rfl 180 _ ((un HF5).bx (k,z10) (by simp)).2 (by rw[zAu];rfl) rfl (by kernel_rfl) (hK _ _ (un HSS _ _ (un HFE).tail) ?_);clear hK K;refine wDn ?_;generalize W5.setRow k (J 0 0 0 0 0 0 1 0 1 1)=U at HFE ⊢
   go_wp2_with fail
   go_meet
   exact⟨k,rfl,HFE⟩
 case rest=>
  obtain⟨k3,rfl,HF20⟩:=hcut;generalize wc=W20 at HF20 ⊢
  go_upto_region 1 with fail
  have HSS:Hid (∀(W':World) (vs:Array Value),FS w W' g vs [(k3,J 0 0 0 0 0 0 1 0 1 1),(b1,J 0 0 0 0 0 0 0 0 1 1)]→C10 W' k3 (I 0) (I 0) (I 0) (I 0) (I 0) (I 0) (I 1) (I 0) (I 1) (I 1)):=fun W' vs h=>(h.bx (k3,J 0 0 0 0 0 0 1 0 1 1) (by simp)).2.c10
  have HF21:Hid (FS w (W20.drew) g zFh [(k3,J 0 0 0 0 0 0 1 0 1 1),(b1,J 0 0 0 0 0 0 0 0 1 1)]):=(un HF20).later (Below.refl _ _).drew;have HS21:=zAb (un HSS _ _ (un HF21));refine zAi 6 (fun _=>True) (fun W'=>W'.cell? ⟨k3,0,none⟩=some (I 0)∧W'.cell? ⟨k3,1,none⟩=some (I 0)∧W'.cell? ⟨k3,2,none⟩=some (I 0)∧W'.cell? ⟨k3,3,none⟩=some (I 0)∧W'.cell? ⟨k3,4,none⟩=some (I 0)∧W'.cell? ⟨k3,5,none⟩=some (I 0)∧W'.cell? ⟨k3,6,none⟩=some (I 1)∧W'.cell? ⟨k3,7,none⟩=some (I 0)∧W'.cell? ⟨k3,8,none⟩=some (I 1)∧W'.cell? ⟨k3,9,none⟩=some (I 1)) 7 rfl (by kernel_rfl) ?_;refine wT7 0 (.func (.func 367) #[] #[.pointer (some ⟨g,0,none⟩)]) rfl (Or.inl ⟨by rfl,?_⟩) ⟨trivial,un HS21⟩ ?_
  ·intro W hW
   go_split_ands
   go_simp
  refine wT7 1 (.agg (J 0 0 0 0 0 0 1 0 1 1)) rfl (Or.inl ⟨by rfl,?_⟩) ⟨trivial,un HS21⟩ ?_
  ·intro W hW
   go_split_ands
   go_simp
  refine wO 2 rfl rfl (fun K hK=>?_)
  go_simp
  refine(zEu _).mono ?_;rintro e W22 ⟨rfl,hb⟩;have HF22:=zAb ((un HF21).later hb);clear hb;refine hK _ _ ⟨trivial,un HSS _ _ (un HF22)⟩ ?_;clear hK K;refine wO 3 rfl rfl (fun K hK=>?_)
  go_simp
  refine(zDz 0 0 0 0 0 0 1 0 1 1 1 0 0 0 0 0 0 0 1 1 (-1) 0 0 0 0 0 1 0 1 1 _ (by decide +kernel)).mono ?_;rintro e W23 ⟨rfl,hb⟩;have HF23:=zAb ((un HF22).later hb);clear hb;refine hK _ _ ⟨trivial,un HSS _ _ (un HF23)⟩ ?_;clear hK K;refine wO 4 rfl rfl (fun K hK=>?_)
  go_simp
  refine(zEu _).mono ?_;rintro e W24 ⟨rfl,hb⟩;have HF24:=zAb ((un HF23).later hb);clear hb;refine hK _ _ ⟨trivial,un HSS _ _ (un HF24)⟩ ?_;clear hK K;refine wO 5 rfl rfl (fun K hK=>?_)
  go_simp
  refine(zDz (-1) 0 0 0 0 0 1 0 1 1 1 0 0 0 0 0 0 0 1 1 (-2) 0 0 0 0 0 1 0 1 1 _ (by decide +kernel)).mono ?_;rintro e W25 ⟨rfl,hb⟩;have HF25:=zAb ((un HF24).later hb);clear hb;refine hK _ _ ⟨trivial,un HSS _ _ (un HF25)⟩ ?_;clear hK K;refine wL 6 rfl rfl (fun K hK=>?_)
  go_simp
  refine(zDa (-2) 0 0 0 0 0 1 0 1 1 g zFh zDu _ (un HF25).gr rfl rfl (by kernel_rfl)).mono ?_;rintro e W26 ⟨rfl,hg1,ho1⟩;have HF26:=zAb ((un HF25).put hg1 ho1);clear hg1 ho1;refine hK _ _ (un HSS _ _ (un HF26)) ?_;clear hK K;refine wDn ?_;clear HSS HS21
  go_wp2_with fail
  go_end0
  exact⟨rfl,(un HF26).gr,(un HF26).on⟩
theorem fill_rays (g:Nat) (b1:Nat) (b2:Nat) (w:World) (hg:zAc w g 286 zAw) (h1:zAc w b1 180 (J 0 0 (-1) 0 0 0 0 0 1 1)) (n1:¬b1=g) (h2:zAc w b2 180 (J 2 1 (-2) 0 0 0 0 0 1 1)) (n2:¬b2=g) :
 Calls Tryz.prog 322 #[.func (.func 367) #[] #[.pointer (some ⟨g,0,none⟩)],.pointer (some ⟨b1,0,none⟩),.pointer (some ⟨b2,0,none⟩)] w fun e w'=>e=.returned (.tuple #[])∧zAc w' g 286 zEt∧Onto w w' g:=by
 have HF0:Hid (FS w w g zAw [(b1,J 0 0 (-1) 0 0 0 0 0 1 1),(b2,J 2 1 (-2) 0 0 0 0 0 1 1)]):=⟨hg,Onto.of_below (Below.refl _ _),fun p hp=>(by simp only[List.mem_cons,List.not_mem_nil,or_false]at hp;rcases hp with rfl|rfl<;>first|exact⟨n1,h1⟩|exact⟨n2,h2⟩)⟩;clear hg h1 n1 h2 n2;go_enter Tryz.func322,Tryz.ntmps322;have x0_0:w.cell? ⟨b1,0,none⟩=some (I 0):=((un HF0).bx (b1,J 0 0 (-1) 0 0 0 0 0 1 1) (by simp)).2.ub.c 0 _ rfl;have x0_1:w.cell? ⟨b1,1,none⟩=some (I 0):=((un HF0).bx (b1,J 0 0 (-1) 0 0 0 0 0 1 1) (by simp)).2.ub.c 1 _ rfl;have x0_2:w.cell? ⟨b1,2,none⟩=some (I (-1)):=((un HF0).bx (b1,J 0 0 (-1) 0 0 0 0 0 1 1) (by simp)).2.ub.c 2 _ rfl;have x0_3:w.cell? ⟨b1,3,none⟩=some (I 0):=((un HF0).bx (b1,J 0 0 (-1) 0 0 0 0 0 1 1) (by simp)).2.ub.c 3 _ rfl;have x0_4:w.cell? ⟨b1,4,none⟩=some (I 0):=((un HF0).bx (b1,J 0 0 (-1) 0 0 0 0 0 1 1) (by simp)).2.ub.c 4 _ rfl;have x0_5:w.cell? ⟨b1,5,none⟩=some (I 0):=((un HF0).bx (b1,J 0 0 (-1) 0 0 0 0 0 1 1) (by simp)).2.ub.c 5 _ rfl;have x0_6:w.cell? ⟨b1,6,none⟩=some (I 0):=((un HF0).bx (b1,J 0 0 (-1) 0 0 0 0 0 1 1) (by simp)).2.ub.c 6 _ rfl;have x0_7:w.cell? ⟨b1,7,none⟩=some (I 0):=((un HF0).bx (b1,J 0 0 (-1) 0 0 0 0 0 1 1) (by simp)).2.ub.c 7 _ rfl;have x0_8:w.cell? ⟨b1,8,none⟩=some (I 1):=((un HF0).bx (b1,J 0 0 (-1) 0 0 0 0 0 1 1) (by simp)).2.ub.c 8 _ rfl;have x0_9:w.cell? ⟨b1,9,none⟩=some (I 1):=((un HF0).bx (b1,J 0 0 (-1) 0 0 0 0 0 1 1) (by simp)).2.ub.c 9 _ rfl
 go_upto_region 1 with (first
  | (go_at_call 367;go_must(refine(zDy 0 0 (-1) 0 0 0 0 0 1 1 g zAw g_rays1 _ (un HF0).gr rfl rfl (by kernel_rfl)).mono ?_;rintro e W1 ⟨rfl,hg1,ho1⟩;have HF1:=zAb ((un HF0).put hg1 ho1);clear hg1 ho1 x0_0 x0_1 x0_2 x0_3 x0_4 x0_5 x0_6 x0_7 x0_8 x0_9)))
 go_wp2_with fail
 go_cut [4]from 8 (fun s9 wx=>∃k,s9=.pointer (some ⟨k,0,none⟩)∧Hid (FS w wx g g_rays2 ((k,J 2 0 (-2) 0 0 0 0 0 1 1) :: [(b1,J 0 0 (-1) 0 0 0 0 0 1 1),(b2,J 2 1 (-2) 0 0 0 0 0 1 1)])))
 case first=>
  have HSS:Hid (∀(W':World) (vs:Array Value),FS w W' g vs [(b1,J 0 0 (-1) 0 0 0 0 0 1 1),(b2,J 2 1 (-2) 0 0 0 0 0 1 1)]→C10 W' b2 (I 2) (I 1) (I (-2)) (I 0) (I 0) (I 0) (I 0) (I 0) (I 1) (I 1)):=fun W' vs h=>(h.bx (b2,J 2 1 (-2) 0 0 0 0 0 1 1) (by simp)).2.c10
  have HF2:Hid (FS w (W1.drew) g g_rays1 [(b1,J 0 0 (-1) 0 0 0 0 0 1 1),(b2,J 2 1 (-2) 0 0 0 0 0 1 1)]):=(un HF1).later (Below.refl _ _).drew;have HS2:=zAb (un HSS _ _ (un HF2));refine zAi 6 (fun _=>True) (fun W'=>W'.cell? ⟨b2,0,none⟩=some (I 2)∧W'.cell? ⟨b2,1,none⟩=some (I 1)∧W'.cell? ⟨b2,2,none⟩=some (I (-2))∧W'.cell? ⟨b2,3,none⟩=some (I 0)∧W'.cell? ⟨b2,4,none⟩=some (I 0)∧W'.cell? ⟨b2,5,none⟩=some (I 0)∧W'.cell? ⟨b2,6,none⟩=some (I 0)∧W'.cell? ⟨b2,7,none⟩=some (I 0)∧W'.cell? ⟨b2,8,none⟩=some (I 1)∧W'.cell? ⟨b2,9,none⟩=some (I 1)) 7 rfl (by kernel_rfl) ?_;refine wT7 0 (.func (.func 367) #[] #[.pointer (some ⟨g,0,none⟩)]) rfl (Or.inl ⟨by rfl,?_⟩) ⟨trivial,un HS2⟩ ?_
  ·intro W hW
   go_split_ands
   go_simp
  refine wT7 1 (.agg (J 2 1 (-2) 0 0 0 0 0 1 1)) rfl (Or.inl ⟨by rfl,?_⟩) ⟨trivial,un HS2⟩ ?_
  ·intro W hW
   go_split_ands
   go_simp
  clear HS2;generalize W1.drew=W2 at *
  refine zBn (i:=2) (j:=5) (by kernel_rfl) rfl rfl rfl rfl (fun K hK=>?_) (fun K hK=>?_)
  ·skip
   go_simp
   refine(siOne1 _).mono ?_;rintro e W3 ⟨rfl,hb⟩;have HF3:=zAb ((un HF2).later hb);clear hb;refine hK _ _ ⟨trivial,un HSS _ _ (un HF3)⟩ ?_;clear hK K;refine zBn (i:=3) (j:=5) (by kernel_rfl) rfl rfl rfl rfl (fun K hK=>?_) (fun K hK=>?_)
   ·skip
    go_simp
    refine(zDz 2 1 (-2) 0 0 0 0 0 1 1 0 1 0 0 0 0 0 0 1 1 2 0 (-2) 0 0 0 0 0 1 1 _ (by decide +kernel)).mono ?_;rintro e W4 ⟨rfl,hb⟩;have HF4:=zAb ((un HF3).later hb);clear hb;refine hK _ _ ⟨trivial,un HSS _ _ (un HF4)⟩ ?_;clear hK K;refine zBn (i:=4) (j:=5) (by kernel_rfl) rfl rfl rfl rfl (fun K hK=>?_) (fun K hK=>?_)
    ·skip
     go_simp
     refine(zDa 2 0 (-2) 0 0 0 0 0 1 1 g g_rays1 g_rays2 _ (un HF4).gr rfl rfl (by kernel_rfl)).mono ?_;rintro e W5 ⟨rfl,hg1,ho1⟩;have HF5:=zAb ((un HF4).put hg1 ho1);clear hg1 ho1;refine hK _ _ ⟨trivial,un HSS _ _ (un HF5)⟩ ?_;clear hK K;refine wO 5 rfl rfl (fun K hK=>?_)
     go_simp
     have HL:Hid (w.heap.size≤W5.heap.size∧∀p:Nat×Array Value,p∈([(b1,J 0 0 (-1) 0 0 0 0 0 1 1),(b2,J 2 1 (-2) 0 0 0 0 0 1 1)]:List (Nat×Array Value))→¬W5.heap.size=p.1):=⟨(un HF5).on.size,fun p hp=>Nat.ne_of_gt ((un HF5).bx p hp).2.lt⟩;have HF6:=zAb ((un HF5).alloc z10);refine hK _ _ ⟨trivial,un HSS _ _ (un HF6).tail⟩ ?_;clear hK K;generalize hW6:W5.alloc (.cells z10 180)=W6 at *
     clear hW6;generalize W5.heap.size=k at *
     have HFE:=zAb ((un HF6).row (un HL).1 (un HL).2 (J 2 0 (-2) 0 0 0 0 0 1 1));refine wL 6 rfl rfl (fun K hK=>?_);refine wp_store_row 180 (.tmp 4) (.tmp 12) rfl k (J 2 0 (-2) 0 0 0 0 0 1 1) rfl rfl 180 _ ((un HF6).bx (k,z10) (by simp)).2 (by rw[zAu];rfl) rfl (by kernel_rfl) (hK _ _ (un HSS _ _ (un HFE).tail) ?_);clear hK K;refine wDn ?_;generalize W6.setRow k (J 2 0 (-2) 0 0 0 0 0 1 1)=U at HFE ⊢
     go_wp2_with fail
     go_meet
     exact⟨k,rfl,HFE⟩
    ·skip
     go_simp
     have HL:Hid (w.heap.size≤W4.heap.size∧∀p:Nat×Array Value,p∈([(b1,J 0 0 (-1) 0 0 0 0 0 1 1),(b2,J 2 1 (-2) 0 0 0 0 0 1 1)]:List (Nat×Array Value))→¬W4.heap.size=p.1):=⟨(un HF4).on.size,fun p hp=>Nat.ne_of_gt ((un HF4).bx p hp).2.lt⟩;have HF5:=zAb ((un HF4).alloc z10);refine hK _ _ ⟨trivial,un HSS _ _ (un HF5).tail⟩ ?_;clear hK K;generalize hW5:W4.alloc (.cells z10 180)=W5 at *
     clear hW5;generalize W4.heap.size=k at *
     refine wO 4 rfl rfl (fun K hK=>?_)
     go_simp
     refine(zDa 2 0 (-2) 0 0 0 0 0 1 1 g g_rays1 g_rays2 _ (un HF5).gr rfl rfl (by kernel_rfl)).mono ?_;rintro e W6 ⟨rfl,hg1,ho1⟩;have HF6:=zAb ((un HF5).put hg1 ho1);clear hg1 ho1;refine hK _ _ ⟨trivial,un HSS _ _ ((un HF6).tail)⟩ ?_;clear hK K;have HFE:=zAb ((un HF6).row (un HL).1 (un HL).2 (J 2 0 (-2) 0 0 0 0 0 1 1));refine wL 6 rfl rfl (fun K hK=>?_);refine wp_store_row 180 (.tmp 4) (.tmp 12) rfl k (J 2 0 (-2) 0 0 0 0 0 1 1) rfl rfl 180 _ ((un HF6).bx (k,z10) (by simp)).2 (by rw[zAu];rfl) rfl (by kernel_rfl) (hK _ _ (un HSS _ _ (un HFE).tail) ?_);clear hK K;refine wDn ?_;generalize W6.setRow k (J 2 0 (-2) 0 0 0 0 0 1 1)=U at HFE ⊢
     go_wp2_with fail
     go_meet
     exact⟨k,rfl,HFE⟩
   ·skip
    go_simp
    have HL:Hid (w.heap.size≤W3.heap.size∧∀p:Nat×Array Value,p∈([(b1,J 0 0 (-1) 0 0 0 0 0 1 1),(b2,J 2 1 (-2) 0 0 0 0 0 1 1)]:List (Nat×Array Value))→¬W3.heap.size=p.1):=⟨(un HF3).on.size,fun p hp=>Nat.ne_of_gt ((un HF3).bx p hp).2.lt⟩;have HF4:=zAb ((un HF3).alloc z10);refine hK _ _ ⟨trivial,un HSS _ _ (un HF4).tail⟩ ?_;clear hK K;generalize hW4:W3.alloc (.cells z10 180)=W4 at *
    clear hW4;generalize W3.heap.size=k at *
    refine wO 3 rfl rfl (fun K hK=>?_)
    go_simp
    refine(zDz 2 1 (-2) 0 0 0 0 0 1 1 0 1 0 0 0 0 0 0 1 1 2 0 (-2) 0 0 0 0 0 1 1 _ (by decide +kernel)).mono ?_;rintro e W5 ⟨rfl,hb⟩;have HF5:=zAb ((un HF4).later hb);clear hb;refine hK _ _ ⟨trivial,un HSS _ _ ((un HF5).tail)⟩ ?_;clear hK K;refine wO 4 rfl rfl (fun K hK=>?_)
    go_simp
    refine(zDa 2 0 (-2) 0 0 0 0 0 1 1 g g_rays1 g_rays2 _ (un HF5).gr rfl rfl (by kernel_rfl)).mono ?_;rintro e W6 ⟨rfl,hg1,ho1⟩;have HF6:=zAb ((un HF5).put hg1 ho1);clear hg1 ho1;refine hK _ _ ⟨trivial,un HSS _ _ ((un HF6).tail)⟩ ?_;clear hK K;have HFE:=zAb ((un HF6).row (un HL).1 (un HL).2 (J 2 0 (-2) 0 0 0 0 0 1 1));refine wL 6 rfl rfl (fun K hK=>?_);refine wp_store_row 180 (.tmp 4) (.tmp 12) rfl k (J 2 0 (-2) 0 0 0 0 0 1 1) rfl rfl 180 _ ((un HF6).bx (k,z10) (by simp)).2 (by rw[zAu];rfl) rfl (by kernel_rfl) (hK _ _ (un HSS _ _ (un HFE).tail) ?_);clear hK K;refine wDn ?_;generalize W6.setRow k (J 2 0 (-2) 0 0 0 0 0 1 1)=U at HFE ⊢
    go_wp2_with fail
    go_meet
    exact⟨k,rfl,HFE⟩
  ·skip
   go_simp
   have HL:Hid (w.heap.size≤W2.heap.size∧∀p:Nat×Array Value,p∈([(b1,J 0 0 (-1) 0 0 0 0 0 1 1),(b2,J 2 1 (-2) 0 0 0 0 0 1 1)]:List (Nat×Array Value))→¬W2.heap.size=p.1):=⟨(un HF2).on.size,fun p hp=>Nat.ne_of_gt ((un HF2).bx p hp).2.lt⟩;have HF3:=zAb ((un HF2).alloc z10);refine hK _ _ ⟨trivial,un HSS _ _ (un HF3).tail⟩ ?_;clear hK K;generalize hW3:W2.alloc (.cells z10 180)=W3 at *
   clear hW3;generalize W2.heap.size=k at *
   refine wO 2 rfl rfl (fun K hK=>?_)
   go_simp
   refine(siOne1 _).mono ?_;rintro e W4 ⟨rfl,hb⟩;have HF4:=zAb ((un HF3).later hb);clear hb;refine hK _ _ ⟨trivial,un HSS _ _ ((un HF4).tail)⟩ ?_;clear hK K;refine wO 3 rfl rfl (fun K hK=>?_)
   go_simp
   refine(zDz 2 1 (-2) 0 0 0 0 0 1 1 0 1 0 0 0 0 0 0 1 1 2 0 (-2) 0 0 0 0 0 1 1 _ (by decide +kernel)).mono ?_;rintro e W5 ⟨rfl,hb⟩;have HF5:=zAb ((un HF4).later hb);clear hb;refine hK _ _ ⟨trivial,un HSS _ _ ((un HF5).tail)⟩ ?_;clear hK K;refine wO 4 rfl rfl (fun K hK=>?_)
   go_simp
   refine(zDa 2 0 (-2) 0 0 0 0 0 1 1 g g_rays1 g_rays2 _ (un HF5).gr rfl rfl (by kernel_rfl)).mono ?_;rintro e W6 ⟨rfl,hg1,ho1⟩;have HF6:=zAb ((un HF5).put hg1 ho1);clear hg1 ho1;refine hK _ _ ⟨trivial,un HSS _ _ ((un HF6).tail)⟩ ?_;clear hK K;have HFE:=zAb ((un HF6).row (un HL).1 (un HL).2 (J 2 0 (-2) 0 0 0 0 0 1 1));refine wL 6 rfl rfl (fun K hK=>?_);refine wp_store_row 180 (.tmp 4) (.tmp 12) rfl k (J 2 0 (-2) 0 0 0 0 0 1 1) rfl rfl 180 _ ((un HF6).bx (k,z10) (by simp)).2 (by rw[zAu];rfl) rfl (by kernel_rfl) (hK _ _ (un HSS _ _ (un HFE).tail) ?_);clear hK K;refine wDn ?_;generalize W6.setRow k (J 2 0 (-2) 0 0 0 0 0 1 1)=U at HFE ⊢
   go_wp2_with fail
   go_meet
   exact⟨k,rfl,HFE⟩
 case rest=>
  obtain⟨k4,rfl,HF21⟩:=hcut;generalize wc=W21 at HF21 ⊢
  have x0_0:W21.cell? ⟨k4,0,none⟩=some (I 2):=((un HF21).bx (k4,J 2 0 (-2) 0 0 0 0 0 1 1) (by simp)).2.ub.c 0 _ rfl;have x0_1:W21.cell? ⟨k4,1,none⟩=some (I 0):=((un HF21).bx (k4,J 2 0 (-2) 0 0 0 0 0 1 1) (by simp)).2.ub.c 1 _ rfl;have x0_2:W21.cell? ⟨k4,2,none⟩=some (I (-2)):=((un HF21).bx (k4,J 2 0 (-2) 0 0 0 0 0 1 1) (by simp)).2.ub.c 2 _ rfl;have x0_3:W21.cell? ⟨k4,3,none⟩=some (I 0):=((un HF21).bx (k4,J 2 0 (-2) 0 0 0 0 0 1 1) (by simp)).2.ub.c 3 _ rfl;have x0_4:W21.cell? ⟨k4,4,none⟩=some (I 0):=((un HF21).bx (k4,J 2 0 (-2) 0 0 0 0 0 1 1) (by simp)).2.ub.c 4 _ rfl;have x0_5:W21.cell? ⟨k4,5,none⟩=some (I 0):=((un HF21).bx (k4,J 2 0 (-2) 0 0 0 0 0 1 1) (by simp)).2.ub.c 5 _ rfl;have x0_6:W21.cell? ⟨k4,6,none⟩=some (I 0):=((un HF21).bx (k4,J 2 0 (-2) 0 0 0 0 0 1 1) (by simp)).2.ub.c 6 _ rfl;have x0_7:W21.cell? ⟨k4,7,none⟩=some (I 0):=((un HF21).bx (k4,J 2 0 (-2) 0 0 0 0 0 1 1) (by simp)).2.ub.c 7 _ rfl;have x0_8:W21.cell? ⟨k4,8,none⟩=some (I 1):=((un HF21).bx (k4,J 2 0 (-2) 0 0 0 0 0 1 1) (by simp)).2.ub.c 8 _ rfl;have x0_9:W21.cell? ⟨k4,9,none⟩=some (I 1):=((un HF21).bx (k4,J 2 0 (-2) 0 0 0 0 0 1 1) (by simp)).2.ub.c 9 _ rfl
  go_upto_region 3 with (first
  | (go_at_call 367;go_must(refine(put2_of 2 0 (-2) 0 0 0 0 0 1 1 g g_rays2 g_rays3 _ (un HF21).gr rfl rfl (by kernel_rfl)).mono ?_;rintro e W22 ⟨rfl,hg1,ho1⟩;have HF22:=zAb ((un HF21).put hg1 ho1);clear hg1 ho1 x0_0 x0_1 x0_2 x0_3 x0_4 x0_5 x0_6 x0_7 x0_8 x0_9)))
  go_upto_region 3 with fail
  have HSS:Hid (∀(W':World) (vs:Array Value),FS w W' g vs [(k4,J 2 0 (-2) 0 0 0 0 0 1 1),(b1,J 0 0 (-1) 0 0 0 0 0 1 1),(b2,J 2 1 (-2) 0 0 0 0 0 1 1)]→C10 W' b1 (I 0) (I 0) (I (-1)) (I 0) (I 0) (I 0) (I 0) (I 0) (I 1) (I 1)):=fun W' vs h=>(h.bx (b1,J 0 0 (-1) 0 0 0 0 0 1 1) (by simp)).2.c10
  have HF23:Hid (FS w (W22.drew) g g_rays3 [(k4,J 2 0 (-2) 0 0 0 0 0 1 1),(b1,J 0 0 (-1) 0 0 0 0 0 1 1),(b2,J 2 1 (-2) 0 0 0 0 0 1 1)]):=(un HF22).later (Below.refl _ _).drew;have HS23:=zAb (un HSS _ _ (un HF23));refine zAi 4 (fun _=>True) (fun W'=>W'.cell? ⟨b1,0,none⟩=some (I 0)∧W'.cell? ⟨b1,1,none⟩=some (I 0)∧W'.cell? ⟨b1,2,none⟩=some (I (-1))∧W'.cell? ⟨b1,3,none⟩=some (I 0)∧W'.cell? ⟨b1,4,none⟩=some (I 0)∧W'.cell? ⟨b1,5,none⟩=some (I 0)∧W'.cell? ⟨b1,6,none⟩=some (I 0)∧W'.cell? ⟨b1,7,none⟩=some (I 0)∧W'.cell? ⟨b1,8,none⟩=some (I 1)∧W'.cell? ⟨b1,9,none⟩=some (I 1)) 5 rfl (by kernel_rfl) ?_;refine wT7 0 (.func (.func 367) #[] #[.pointer (some ⟨g,0,none⟩)]) rfl (Or.inl ⟨by rfl,?_⟩) ⟨trivial,un HS23⟩ ?_
  ·intro W hW
   go_split_ands
   go_simp
  refine wT7 2 (.agg (J 0 0 (-1) 0 0 0 0 0 1 1)) rfl (Or.inl ⟨by rfl,?_⟩) ⟨trivial,un HS23⟩ ?_
  ·intro W hW
   go_split_ands
   go_simp
  refine wO 1 rfl rfl (fun K hK=>?_)
  go_simp
  refine(siOne5 _).mono ?_;rintro e W24 ⟨rfl,hb⟩;have HF24:=zAb ((un HF23).later hb);clear hb;refine hK _ _ ⟨trivial,un HSS _ _ (un HF24)⟩ ?_;clear hK K;refine wO 3 rfl rfl (fun K hK=>?_)
  go_simp
  refine(zBe 0 0 0 0 0 1 0 0 1 1 0 0 (-1) 0 0 0 0 0 1 1 0 0 (-1) 0 0 1 0 0 1 1 _ (by decide +kernel)).mono ?_;rintro e W25 ⟨rfl,hb⟩;have HF25:=zAb ((un HF24).later hb);clear hb;refine hK _ _ ⟨trivial,un HSS _ _ (un HF25)⟩ ?_;clear hK K;refine wL 4 rfl rfl (fun K hK=>?_)
  go_simp
  refine(put3_of 0 0 (-1) 0 0 1 0 0 1 1 g g_rays3 zEt _ (un HF25).gr rfl rfl (by kernel_rfl)).mono ?_;rintro e W26 ⟨rfl,hg1,ho1⟩;have HF26:=zAb ((un HF25).put hg1 ho1);clear hg1 ho1;refine hK _ _ (un HSS _ _ (un HF26)) ?_;clear hK K;refine wDn ?_;clear HSS HS23
  go_wp2_with fail
  go_end0
  exact⟨rfl,(un HF26).gr,(un HF26).on⟩
end Go.Proofs.YtliadckofhblnaaGreatDoor

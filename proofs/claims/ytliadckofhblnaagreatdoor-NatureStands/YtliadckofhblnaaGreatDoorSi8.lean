/- What fills si's groups. -/
import Derived.Test.YtliadckofhblnaaGreatDoorLimb3
import Derived.Test.YtliadckofhblnaaGreatDoorSi5
set_option maxHeartbeats 8000000
set_option maxRecDepth 100000
namespace Go.Proofs.YtliadckofhblnaaGreatDoor
open Go.RowKit
theorem fill_electric (g:Nat) (b1:Nat) (w:World) (hg:zAc w g 286 zAw) (h1:zAc w b1 180 (J 2 1 (-3) 0 0 0 0 0 1 1)) (n1:¬b1=g) :
 Calls Tryz.prog 319 #[.func (.func 367) #[] #[.pointer (some ⟨g,0,none⟩)],.pointer (some ⟨b1,0,none⟩)] w fun e w'=>e=.returned (.tuple #[])∧zAc w' g 286 zBu∧Onto w w' g:=by
 have HF0:Hid (FS w w g zAw [(b1,J 2 1 (-3) 0 0 0 0 0 1 1)]):=⟨hg,Onto.of_below (Below.refl _ _),fun p hp=>(by simp only[List.mem_cons,List.not_mem_nil,or_false]at hp;subst hp;exact⟨n1,h1⟩)⟩;clear hg h1 n1;go_enter Tryz.func319,Tryz.ntmps319
 go_upto_region 1 with (first
  | (refine zAn 180 10 zAu rfl (.tmp 3) (.tmp 11) rfl W4.heap.size z10 (J 0 0 1 1 0 0 0 0 1 1) rfl rfl rfl rfl (zAc.new _ _ _) (by kernel_rfl) ?_)
  | (go_at_call 367;go_must(refine(zDy 0 0 1 1 0 0 0 0 1 1 g zAw zDr _ (un HF3).gr rfl rfl (by kernel_rfl)).mono ?_;rintro e W4 ⟨rfl,hg1,ho1⟩;have HF4:=zAb ((un HF3).put hg1 ho1);clear hg1 ho1))
  | (go_at_call 315;have hchk:=HF2;clear hchk;refine(zBe 0 0 0 1 0 0 0 0 1 1 0 0 1 0 0 0 0 0 1 1 0 0 1 1 0 0 0 0 1 1 _ (by decide +kernel)).mono ?_;rintro e W3 ⟨rfl,hb⟩;have HF3:=zAb ((un HF2).later hb);clear hb)
  | (go_at_call 314;have hchk:=HF1;clear hchk;refine(siOne2 _).mono ?_;rintro e W2 ⟨rfl,hb⟩;have HF2:=zAb ((un HF1).later hb);clear hb)
  | (go_at_call 314;have hchk:=HF0;clear hchk;refine(siOne3 _).mono ?_;rintro e W1 ⟨rfl,hb⟩;have HF1:=zAb ((un HF0).later hb);clear hb))
 have HF5:=zAb (((un HF4).alloc z10).row (un HF4).on.size (fun p hp=>Nat.ne_of_gt ((un HF4).bx p hp).2.lt) (J 0 0 1 1 0 0 0 0 1 1));generalize (W4.alloc (.cells z10 180)).setRow W4.heap.size (J 0 0 1 1 0 0 0 0 1 1)=W5 at *
 generalize W4.heap.size=k3 at *
 have hpn:∀(a:Act) (v:Value),a.put none v=a:=fun _ _=>rfl
 simp only[hpn];clear hpn
 go_wp2_with fail
 go_cut [4]from 12 (fun s9 wx=>∃k,s9=.pointer (some ⟨k,0,none⟩)∧Hid (FS w wx g zDq ((k,J 2 1 (-3) (-1) 0 0 0 0 1 1) :: [(k3,J 0 0 1 1 0 0 0 0 1 1),(b1,J 2 1 (-3) 0 0 0 0 0 1 1)])))
 case first=>
  have HSS:Hid (∀(W':World) (vs:Array Value),FS w W' g vs [(k3,J 0 0 1 1 0 0 0 0 1 1),(b1,J 2 1 (-3) 0 0 0 0 0 1 1)]→C10 W' b1 (I 2) (I 1) (I (-3)) (I 0) (I 0) (I 0) (I 0) (I 0) (I 1) (I 1)):=fun W' vs h=>(h.bx (b1,J 2 1 (-3) 0 0 0 0 0 1 1) (by simp)).2.c10
  have HF6:Hid (FS w (W5.drew) g zDr [(k3,J 0 0 1 1 0 0 0 0 1 1),(b1,J 2 1 (-3) 0 0 0 0 0 1 1)]):=(un HF5).later (Below.refl _ _).drew;have HS6:=zAb (un HSS _ _ (un HF6));refine zAi 6 (fun _=>True) (fun W'=>W'.cell? ⟨b1,0,none⟩=some (I 2)∧W'.cell? ⟨b1,1,none⟩=some (I 1)∧W'.cell? ⟨b1,2,none⟩=some (I (-3))∧W'.cell? ⟨b1,3,none⟩=some (I 0)∧W'.cell? ⟨b1,4,none⟩=some (I 0)∧W'.cell? ⟨b1,5,none⟩=some (I 0)∧W'.cell? ⟨b1,6,none⟩=some (I 0)∧W'.cell? ⟨b1,7,none⟩=some (I 0)∧W'.cell? ⟨b1,8,none⟩=some (I 1)∧W'.cell? ⟨b1,9,none⟩=some (I 1)) 7 rfl (by kernel_rfl) ?_;refine wT7 0 (.func (.func 367) #[] #[.pointer (some ⟨g,0,none⟩)]) rfl (Or.inl ⟨by rfl,?_⟩) ⟨trivial,un HS6⟩ ?_
  ·intro W hW
   go_split_ands
   go_simp
  refine wT7 1 (.agg (J 2 1 (-3) 0 0 0 0 0 1 1)) rfl (Or.inl ⟨by rfl,?_⟩) ⟨trivial,un HS6⟩ ?_
  ·intro W hW
   go_split_ands
   go_simp
  clear HS6;generalize W5.drew=W6 at *
  refine zBn (i:=2) (j:=5) (by kernel_rfl) rfl rfl rfl rfl (fun K hK=>?_) (fun K hK=>?_)
  ·skip
   go_simp
   refine(siOne3 _).mono ?_;rintro e W7 ⟨rfl,hb⟩;have HF7:=zAb ((un HF6).later hb);clear hb;refine hK _ _ ⟨trivial,un HSS _ _ (un HF7)⟩ ?_;clear hK K;refine zBn (i:=3) (j:=5) (by kernel_rfl) rfl rfl rfl rfl (fun K hK=>?_) (fun K hK=>?_)
   ·skip
    go_simp
    refine(zDz 2 1 (-3) 0 0 0 0 0 1 1 0 0 0 1 0 0 0 0 1 1 2 1 (-3) (-1) 0 0 0 0 1 1 _ (by decide +kernel)).mono ?_;rintro e W8 ⟨rfl,hb⟩;have HF8:=zAb ((un HF7).later hb);clear hb;refine hK _ _ ⟨trivial,un HSS _ _ (un HF8)⟩ ?_;clear hK K;refine zBn (i:=4) (j:=5) (by kernel_rfl) rfl rfl rfl rfl (fun K hK=>?_) (fun K hK=>?_)
    ·skip
     go_simp
     refine(zDa 2 1 (-3) (-1) 0 0 0 0 1 1 g zDr zDq _ (un HF8).gr rfl rfl (by kernel_rfl)).mono ?_;rintro e W9 ⟨rfl,hg1,ho1⟩;have HF9:=zAb ((un HF8).put hg1 ho1);clear hg1 ho1;refine hK _ _ ⟨trivial,un HSS _ _ (un HF9)⟩ ?_;clear hK K;refine wO 5 rfl rfl (fun K hK=>?_)
     go_simp
     have HL:Hid (w.heap.size≤W9.heap.size∧∀p:Nat×Array Value,p∈([(k3,J 0 0 1 1 0 0 0 0 1 1),(b1,J 2 1 (-3) 0 0 0 0 0 1 1)]:List (Nat×Array Value))→¬W9.heap.size=p.1):=⟨(un HF9).on.size,fun p hp=>Nat.ne_of_gt ((un HF9).bx p hp).2.lt⟩;have HF10:=zAb ((un HF9).alloc z10);refine hK _ _ ⟨trivial,un HSS _ _ (un HF10).tail⟩ ?_;clear hK K;generalize hW10:W9.alloc (.cells z10 180)=W10 at *
     clear hW10;generalize W9.heap.size=k at *
     have HFE:=zAb ((un HF10).row (un HL).1 (un HL).2 (J 2 1 (-3) (-1) 0 0 0 0 1 1));refine wL 6 rfl rfl (fun K hK=>?_);refine wp_store_row 180 (.tmp 4) (.tmp 16) rfl k (J 2 1 (-3) (-1) 0 0 0 0 1 1) rfl rfl 180 _ ((un HF10).bx (k,z10) (by simp)).2 (by rw[zAu];rfl) rfl (by kernel_rfl) (hK _ _ (un HSS _ _ (un HFE).tail) ?_);clear hK K;refine wDn ?_;generalize W10.setRow k (J 2 1 (-3) (-1) 0 0 0 0 1 1)=U at HFE ⊢
     go_wp2_with fail
     go_meet
     exact⟨k,rfl,HFE⟩
    ·skip
     go_simp
     have HL:Hid (w.heap.size≤W8.heap.size∧∀p:Nat×Array Value,p∈([(k3,J 0 0 1 1 0 0 0 0 1 1),(b1,J 2 1 (-3) 0 0 0 0 0 1 1)]:List (Nat×Array Value))→¬W8.heap.size=p.1):=⟨(un HF8).on.size,fun p hp=>Nat.ne_of_gt ((un HF8).bx p hp).2.lt⟩;have HF9:=zAb ((un HF8).alloc z10);refine hK _ _ ⟨trivial,un HSS _ _ (un HF9).tail⟩ ?_;clear hK K;generalize hW9:W8.alloc (.cells z10 180)=W9 at *
     clear hW9;generalize W8.heap.size=k at *
     refine wO 4 rfl rfl (fun K hK=>?_)
     go_simp
     refine(zDa 2 1 (-3) (-1) 0 0 0 0 1 1 g zDr zDq _ (un HF9).gr rfl rfl (by kernel_rfl)).mono ?_;rintro e W10 ⟨rfl,hg1,ho1⟩;have HF10:=zAb ((un HF9).put hg1 ho1);clear hg1 ho1;refine hK _ _ ⟨trivial,un HSS _ _ ((un HF10).tail)⟩ ?_;clear hK K;have HFE:=zAb ((un HF10).row (un HL).1 (un HL).2 (J 2 1 (-3) (-1) 0 0 0 0 1 1));refine wL 6 rfl rfl (fun K hK=>?_);refine wp_store_row 180 (.tmp 4) (.tmp 16) rfl k (J 2 1 (-3) (-1) 0 0 0 0 1 1) rfl rfl 180 _ ((un HF10).bx (k,z10) (by simp)).2 (by rw[zAu];rfl) rfl (by kernel_rfl) (hK _ _ (un HSS _ _ (un HFE).tail) ?_);clear hK K;refine wDn ?_;generalize W10.setRow k (J 2 1 (-3) (-1) 0 0 0 0 1 1)=U at HFE ⊢
     go_wp2_with fail
     go_meet
     exact⟨k,rfl,HFE⟩
   ·skip
    go_simp
    have HL:Hid (w.heap.size≤W7.heap.size∧∀p:Nat×Array Value,p∈([(k3,J 0 0 1 1 0 0 0 0 1 1),(b1,J 2 1 (-3) 0 0 0 0 0 1 1)]:List (Nat×Array Value))→¬W7.heap.size=p.1):=⟨(un HF7).on.size,fun p hp=>Nat.ne_of_gt ((un HF7).bx p hp).2.lt⟩;have HF8:=zAb ((un HF7).alloc z10);refine hK _ _ ⟨trivial,un HSS _ _ (un HF8).tail⟩ ?_;clear hK K;generalize hW8:W7.alloc (.cells z10 180)=W8 at *
    clear hW8;generalize W7.heap.size=k at *
    refine wO 3 rfl rfl (fun K hK=>?_)
    go_simp
    refine(zDz 2 1 (-3) 0 0 0 0 0 1 1 0 0 0 1 0 0 0 0 1 1 2 1 (-3) (-1) 0 0 0 0 1 1 _ (by decide +kernel)).mono ?_;rintro e W9 ⟨rfl,hb⟩;have HF9:=zAb ((un HF8).later hb);clear hb;refine hK _ _ ⟨trivial,un HSS _ _ ((un HF9).tail)⟩ ?_;clear hK K;refine wO 4 rfl rfl (fun K hK=>?_)
    go_simp
    refine(zDa 2 1 (-3) (-1) 0 0 0 0 1 1 g zDr zDq _ (un HF9).gr rfl rfl (by kernel_rfl)).mono ?_;rintro e W10 ⟨rfl,hg1,ho1⟩;have HF10:=zAb ((un HF9).put hg1 ho1);clear hg1 ho1;refine hK _ _ ⟨trivial,un HSS _ _ ((un HF10).tail)⟩ ?_;clear hK K;have HFE:=zAb ((un HF10).row (un HL).1 (un HL).2 (J 2 1 (-3) (-1) 0 0 0 0 1 1));refine wL 6 rfl rfl (fun K hK=>?_);refine wp_store_row 180 (.tmp 4) (.tmp 16) rfl k (J 2 1 (-3) (-1) 0 0 0 0 1 1) rfl rfl 180 _ ((un HF10).bx (k,z10) (by simp)).2 (by rw[zAu];rfl) rfl (by kernel_rfl) (hK _ _ (un HSS _ _ (un HFE).tail) ?_);clear hK K;refine wDn ?_;generalize W10.setRow k (J 2 1 (-3) (-1) 0 0 0 0 1 1)=U at HFE ⊢
    go_wp2_with fail
    go_meet
    exact⟨k,rfl,HFE⟩
  ·skip
   go_simp
   have HL:Hid (w.heap.size≤W6.heap.size∧∀p:Nat×Array Value,p∈([(k3,J 0 0 1 1 0 0 0 0 1 1),(b1,J 2 1 (-3) 0 0 0 0 0 1 1)]:List (Nat×Array Value))→¬W6.heap.size=p.1):=⟨(un HF6).on.size,fun p hp=>Nat.ne_of_gt ((un HF6).bx p hp).2.lt⟩;have HF7:=zAb ((un HF6).alloc z10);refine hK _ _ ⟨trivial,un HSS _ _ (un HF7).tail⟩ ?_;clear hK K;generalize hW7:W6.alloc (.cells z10 180)=W7 at *
   clear hW7;generalize W6.heap.size=k at *
   refine wO 2 rfl rfl (fun K hK=>?_)
   go_simp
   refine(siOne3 _).mono ?_;rintro e W8 ⟨rfl,hb⟩;have HF8:=zAb ((un HF7).later hb);clear hb;refine hK _ _ ⟨trivial,un HSS _ _ ((un HF8).tail)⟩ ?_;clear hK K;refine wO 3 rfl rfl (fun K hK=>?_)
   go_simp
   refine(zDz 2 1 (-3) 0 0 0 0 0 1 1 0 0 0 1 0 0 0 0 1 1 2 1 (-3) (-1) 0 0 0 0 1 1 _ (by decide +kernel)).mono ?_;rintro e W9 ⟨rfl,hb⟩;have HF9:=zAb ((un HF8).later hb);clear hb;refine hK _ _ ⟨trivial,un HSS _ _ ((un HF9).tail)⟩ ?_;clear hK K;refine wO 4 rfl rfl (fun K hK=>?_)
   go_simp
   refine(zDa 2 1 (-3) (-1) 0 0 0 0 1 1 g zDr zDq _ (un HF9).gr rfl rfl (by kernel_rfl)).mono ?_;rintro e W10 ⟨rfl,hg1,ho1⟩;have HF10:=zAb ((un HF9).put hg1 ho1);clear hg1 ho1;refine hK _ _ ⟨trivial,un HSS _ _ ((un HF10).tail)⟩ ?_;clear hK K;have HFE:=zAb ((un HF10).row (un HL).1 (un HL).2 (J 2 1 (-3) (-1) 0 0 0 0 1 1));refine wL 6 rfl rfl (fun K hK=>?_);refine wp_store_row 180 (.tmp 4) (.tmp 16) rfl k (J 2 1 (-3) (-1) 0 0 0 0 1 1) rfl rfl 180 _ ((un HF10).bx (k,z10) (by simp)).2 (by rw[zAu];rfl) rfl (by kernel_rfl) (hK _ _ (un HSS _ _ (un HFE).tail) ?_);clear hK K;refine wDn ?_;generalize W10.setRow k (J 2 1 (-3) (-1) 0 0 0 0 1 1)=U at HFE ⊢
   go_wp2_with fail
   go_meet
   exact⟨k,rfl,HFE⟩
 case rest=>
  obtain⟨k4,rfl,HF25⟩:=hcut;generalize wc=W25 at HF25 ⊢
  have x0_0:W25.cell? ⟨k3,0,none⟩=some (I 0):=((un HF25).bx (k3,J 0 0 1 1 0 0 0 0 1 1) (by simp)).2.ub.c 0 _ rfl;have x0_1:W25.cell? ⟨k3,1,none⟩=some (I 0):=((un HF25).bx (k3,J 0 0 1 1 0 0 0 0 1 1) (by simp)).2.ub.c 1 _ rfl;have x0_2:W25.cell? ⟨k3,2,none⟩=some (I 1):=((un HF25).bx (k3,J 0 0 1 1 0 0 0 0 1 1) (by simp)).2.ub.c 2 _ rfl;have x0_3:W25.cell? ⟨k3,3,none⟩=some (I 1):=((un HF25).bx (k3,J 0 0 1 1 0 0 0 0 1 1) (by simp)).2.ub.c 3 _ rfl;have x0_4:W25.cell? ⟨k3,4,none⟩=some (I 0):=((un HF25).bx (k3,J 0 0 1 1 0 0 0 0 1 1) (by simp)).2.ub.c 4 _ rfl;have x0_5:W25.cell? ⟨k3,5,none⟩=some (I 0):=((un HF25).bx (k3,J 0 0 1 1 0 0 0 0 1 1) (by simp)).2.ub.c 5 _ rfl;have x0_6:W25.cell? ⟨k3,6,none⟩=some (I 0):=((un HF25).bx (k3,J 0 0 1 1 0 0 0 0 1 1) (by simp)).2.ub.c 6 _ rfl;have x0_7:W25.cell? ⟨k3,7,none⟩=some (I 0):=((un HF25).bx (k3,J 0 0 1 1 0 0 0 0 1 1) (by simp)).2.ub.c 7 _ rfl;have x0_8:W25.cell? ⟨k3,8,none⟩=some (I 1):=((un HF25).bx (k3,J 0 0 1 1 0 0 0 0 1 1) (by simp)).2.ub.c 8 _ rfl;have x0_9:W25.cell? ⟨k3,9,none⟩=some (I 1):=((un HF25).bx (k3,J 0 0 1 1 0 0 0 0 1 1) (by simp)).2.ub.c 9 _ rfl;have x1_0:W25.cell? ⟨k4,0,none⟩=some (I 2):=((un HF25).bx (k4,J 2 1 (-3) (-1) 0 0 0 0 1 1) (by simp)).2.ub.c 0 _ rfl;have x1_1:W25.cell? ⟨k4,1,none⟩=some (I 1):=((un HF25).bx (k4,J 2 1 (-3) (-1) 0 0 0 0 1 1) (by simp)).2.ub.c 1 _ rfl;have x1_2:W25.cell? ⟨k4,2,none⟩=some (I (-3)):=((un HF25).bx (k4,J 2 1 (-3) (-1) 0 0 0 0 1 1) (by simp)).2.ub.c 2 _ rfl;have x1_3:W25.cell? ⟨k4,3,none⟩=some (I (-1)):=((un HF25).bx (k4,J 2 1 (-3) (-1) 0 0 0 0 1 1) (by simp)).2.ub.c 3 _ rfl;have x1_4:W25.cell? ⟨k4,4,none⟩=some (I 0):=((un HF25).bx (k4,J 2 1 (-3) (-1) 0 0 0 0 1 1) (by simp)).2.ub.c 4 _ rfl;have x1_5:W25.cell? ⟨k4,5,none⟩=some (I 0):=((un HF25).bx (k4,J 2 1 (-3) (-1) 0 0 0 0 1 1) (by simp)).2.ub.c 5 _ rfl;have x1_6:W25.cell? ⟨k4,6,none⟩=some (I 0):=((un HF25).bx (k4,J 2 1 (-3) (-1) 0 0 0 0 1 1) (by simp)).2.ub.c 6 _ rfl;have x1_7:W25.cell? ⟨k4,7,none⟩=some (I 0):=((un HF25).bx (k4,J 2 1 (-3) (-1) 0 0 0 0 1 1) (by simp)).2.ub.c 7 _ rfl;have x1_8:W25.cell? ⟨k4,8,none⟩=some (I 1):=((un HF25).bx (k4,J 2 1 (-3) (-1) 0 0 0 0 1 1) (by simp)).2.ub.c 8 _ rfl;have x1_9:W25.cell? ⟨k4,9,none⟩=some (I 1):=((un HF25).bx (k4,J 2 1 (-3) (-1) 0 0 0 0 1 1) (by simp)).2.ub.c 9 _ rfl
  go_upto_region 3 with (first
  | (go_at_call 367;go_must(refine(put2_of (-2) (-1) 4 2 0 0 0 0 1 1 g zDq zDp _ (un HF26).gr rfl rfl (by kernel_rfl)).mono ?_;rintro e W27 ⟨rfl,hg1,ho1⟩;have HF27:=zAb ((un HF26).put hg1 ho1);clear hg1 ho1))
  | (go_at_call 316;have hchk:=HF25;clear hchk;refine(zDz 0 0 1 1 0 0 0 0 1 1 2 1 (-3) (-1) 0 0 0 0 1 1 (-2) (-1) 4 2 0 0 0 0 1 1 _ (by decide +kernel)).mono ?_;rintro e W26 ⟨rfl,hb⟩;have HF26:=zAb ((un HF25).later hb);clear hb x0_0 x0_1 x0_2 x0_3 x0_4 x0_5 x0_6 x0_7 x0_8 x0_9 x1_0 x1_1 x1_2 x1_3 x1_4 x1_5 x1_6 x1_7 x1_8 x1_9))
  go_wp2_with fail
  go_cut [5]from 22 (fun s9 wx=>∃k,s9=.pointer (some ⟨k,0,none⟩)∧Hid (FS w wx g zDc ((k,J 2 1 (-3) (-2) 0 0 0 0 1 1) :: [(k4,J 2 1 (-3) (-1) 0 0 0 0 1 1),(k3,J 0 0 1 1 0 0 0 0 1 1),(b1,J 2 1 (-3) 0 0 0 0 0 1 1)])))
  case first=>
   have HSS:Hid (∀(W':World) (vs:Array Value),FS w W' g vs [(k4,J 2 1 (-3) (-1) 0 0 0 0 1 1),(k3,J 0 0 1 1 0 0 0 0 1 1),(b1,J 2 1 (-3) 0 0 0 0 0 1 1)]→C10 W' k4 (I 2) (I 1) (I (-3)) (I (-1)) (I 0) (I 0) (I 0) (I 0) (I 1) (I 1)):=fun W' vs h=>(h.bx (k4,J 2 1 (-3) (-1) 0 0 0 0 1 1) (by simp)).2.c10
   have HF28:Hid (FS w (W27.drew) g zDp [(k4,J 2 1 (-3) (-1) 0 0 0 0 1 1),(k3,J 0 0 1 1 0 0 0 0 1 1),(b1,J 2 1 (-3) 0 0 0 0 0 1 1)]):=(un HF27).later (Below.refl _ _).drew;have HS28:=zAb (un HSS _ _ (un HF28));refine zAi 6 (fun _=>True) (fun W'=>W'.cell? ⟨k4,0,none⟩=some (I 2)∧W'.cell? ⟨k4,1,none⟩=some (I 1)∧W'.cell? ⟨k4,2,none⟩=some (I (-3))∧W'.cell? ⟨k4,3,none⟩=some (I (-1))∧W'.cell? ⟨k4,4,none⟩=some (I 0)∧W'.cell? ⟨k4,5,none⟩=some (I 0)∧W'.cell? ⟨k4,6,none⟩=some (I 0)∧W'.cell? ⟨k4,7,none⟩=some (I 0)∧W'.cell? ⟨k4,8,none⟩=some (I 1)∧W'.cell? ⟨k4,9,none⟩=some (I 1)) 7 rfl (by kernel_rfl) ?_;refine wT7 0 (.func (.func 367) #[] #[.pointer (some ⟨g,0,none⟩)]) rfl (Or.inl ⟨by rfl,?_⟩) ⟨trivial,un HS28⟩ ?_
   ·intro W hW
    go_split_ands
    go_simp
   refine wT7 1 (.agg (J 2 1 (-3) (-1) 0 0 0 0 1 1)) rfl (Or.inl ⟨by rfl,?_⟩) ⟨trivial,un HS28⟩ ?_
   ·intro W hW
    go_split_ands
    go_simp
   clear HS28;generalize W27.drew=W28 at *
   refine zBn (i:=2) (j:=5) (by kernel_rfl) rfl rfl rfl rfl (fun K hK=>?_) (fun K hK=>?_)
   ·skip
    go_simp
    refine(siOne3 _).mono ?_;rintro e W29 ⟨rfl,hb⟩;have HF29:=zAb ((un HF28).later hb);clear hb;refine hK _ _ ⟨trivial,un HSS _ _ (un HF29)⟩ ?_;clear hK K;refine zBn (i:=3) (j:=5) (by kernel_rfl) rfl rfl rfl rfl (fun K hK=>?_) (fun K hK=>?_)
    ·skip
     go_simp
     refine(zDz 2 1 (-3) (-1) 0 0 0 0 1 1 0 0 0 1 0 0 0 0 1 1 2 1 (-3) (-2) 0 0 0 0 1 1 _ (by decide +kernel)).mono ?_;rintro e W30 ⟨rfl,hb⟩;have HF30:=zAb ((un HF29).later hb);clear hb;refine hK _ _ ⟨trivial,un HSS _ _ (un HF30)⟩ ?_;clear hK K;refine zBn (i:=4) (j:=5) (by kernel_rfl) rfl rfl rfl rfl (fun K hK=>?_) (fun K hK=>?_)
     ·skip
      go_simp
      refine(put3_of 2 1 (-3) (-2) 0 0 0 0 1 1 g zDp zDc _ (un HF30).gr rfl rfl (by kernel_rfl)).mono ?_;rintro e W31 ⟨rfl,hg1,ho1⟩;have HF31:=zAb ((un HF30).put hg1 ho1);clear hg1 ho1;refine hK _ _ ⟨trivial,un HSS _ _ (un HF31)⟩ ?_;clear hK K;refine wO 5 rfl rfl (fun K hK=>?_)
      go_simp
      have HL:Hid (w.heap.size≤W31.heap.size∧∀p:Nat×Array Value,p∈([(k4,J 2 1 (-3) (-1) 0 0 0 0 1 1),(k3,J 0 0 1 1 0 0 0 0 1 1),(b1,J 2 1 (-3) 0 0 0 0 0 1 1)]:List (Nat×Array Value))→¬W31.heap.size=p.1):=⟨(un HF31).on.size,fun p hp=>Nat.ne_of_gt ((un HF31).bx p hp).2.lt⟩;have HF32:=zAb ((un HF31).alloc z10);refine hK _ _ ⟨trivial,un HSS _ _ (un HF32).tail⟩ ?_;clear hK K;generalize hW32:W31.alloc (.cells z10 180)=W32 at *
      clear hW32;generalize W31.heap.size=k at *
      have HFE:=zAb ((un HF32).row (un HL).1 (un HL).2 (J 2 1 (-3) (-2) 0 0 0 0 1 1));refine wL 6 rfl rfl (fun K hK=>?_);refine wp_store_row 180 (.tmp 5) (.tmp 26) rfl k (J 2 1 (-3) (-2) 0 0 0 0 1 1) rfl rfl 180 _ ((un HF32).bx (k,z10) (by simp)).2 (by rw[zAu];rfl) rfl (by kernel_rfl) (hK _ _ (un HSS _ _ (un HFE).tail) ?_);clear hK K;refine wDn ?_;generalize W32.setRow k (J 2 1 (-3) (-2) 0 0 0 0 1 1)=U at HFE ⊢
      go_wp2_with fail
      go_meet
      exact⟨k,rfl,HFE⟩
     ·skip
      go_simp
      have HL:Hid (w.heap.size≤W30.heap.size∧∀p:Nat×Array Value,p∈([(k4,J 2 1 (-3) (-1) 0 0 0 0 1 1),(k3,J 0 0 1 1 0 0 0 0 1 1),(b1,J 2 1 (-3) 0 0 0 0 0 1 1)]:List (Nat×Array Value))→¬W30.heap.size=p.1):=⟨(un HF30).on.size,fun p hp=>Nat.ne_of_gt ((un HF30).bx p hp).2.lt⟩;have HF31:=zAb ((un HF30).alloc z10);refine hK _ _ ⟨trivial,un HSS _ _ (un HF31).tail⟩ ?_;clear hK K;generalize hW31:W30.alloc (.cells z10 180)=W31 at *
      clear hW31;generalize W30.heap.size=k at *
      refine wO 4 rfl rfl (fun K hK=>?_)
      go_simp
      refine(put3_of 2 1 (-3) (-2) 0 0 0 0 1 1 g zDp zDc _ (un HF31).gr rfl rfl (by kernel_rfl)).mono ?_;rintro e W32 ⟨rfl,hg1,ho1⟩;have HF32:=zAb ((un HF31).put hg1 ho1);clear hg1 ho1;refine hK _ _ ⟨trivial,un HSS _ _ ((un HF32).tail)⟩ ?_;clear hK K;have HFE:=zAb ((un HF32).row (un HL).1 (un HL).2 (J 2 1 (-3) (-2) 0 0 0 0 1 1));refine wL 6 rfl rfl (fun K hK=>?_);refine wp_store_row 180 (.tmp 5) (.tmp 26) rfl k (J 2 1 (-3) (-2) 0 0 0 0 1 1) rfl rfl 180 _ ((un HF32).bx (k,z10) (by simp)).2 (by rw[zAu];rfl) rfl (by kernel_rfl) (hK _ _ (un HSS _ _ (un HFE).tail) ?_);clear hK K;refine wDn ?_;generalize W32.setRow k (J 2 1 (-3) (-2) 0 0 0 0 1 1)=U at HFE ⊢
      go_wp2_with fail
      go_meet
      exact⟨k,rfl,HFE⟩
    ·skip
     go_simp
     have HL:Hid (w.heap.size≤W29.heap.size∧∀p:Nat×Array Value,p∈([(k4,J 2 1 (-3) (-1) 0 0 0 0 1 1),(k3,J 0 0 1 1 0 0 0 0 1 1),(b1,J 2 1 (-3) 0 0 0 0 0 1 1)]:List (Nat×Array Value))→¬W29.heap.size=p.1):=⟨(un HF29).on.size,fun p hp=>Nat.ne_of_gt ((un HF29).bx p hp).2.lt⟩;have HF30:=zAb ((un HF29).alloc z10);refine hK _ _ ⟨trivial,un HSS _ _ (un HF30).tail⟩ ?_;clear hK K;generalize hW30:W29.alloc (.cells z10 180)=W30 at *
     clear hW30;generalize W29.heap.size=k at *
     refine wO 3 rfl rfl (fun K hK=>?_)
     go_simp
     refine(zDz 2 1 (-3) (-1) 0 0 0 0 1 1 0 0 0 1 0 0 0 0 1 1 2 1 (-3) (-2) 0 0 0 0 1 1 _ (by decide +kernel)).mono ?_;rintro e W31 ⟨rfl,hb⟩;have HF31:=zAb ((un HF30).later hb);clear hb;refine hK _ _ ⟨trivial,un HSS _ _ ((un HF31).tail)⟩ ?_;clear hK K;refine wO 4 rfl rfl (fun K hK=>?_)
     go_simp
     refine(put3_of 2 1 (-3) (-2) 0 0 0 0 1 1 g zDp zDc _ (un HF31).gr rfl rfl (by kernel_rfl)).mono ?_;rintro e W32 ⟨rfl,hg1,ho1⟩;have HF32:=zAb ((un HF31).put hg1 ho1);clear hg1 ho1;refine hK _ _ ⟨trivial,un HSS _ _ ((un HF32).tail)⟩ ?_;clear hK K;have HFE:=zAb ((un HF32).row (un HL).1 (un HL).2 (J 2 1 (-3) (-2) 0 0 0 0 1 1));refine wL 6 rfl rfl (fun K hK=>?_);refine wp_store_row 180 (.tmp 5) (.tmp 26) rfl k (J 2 1 (-3) (-2) 0 0 0 0 1 1) rfl rfl 180 _ ((un HF32).bx (k,z10) (by simp)).2 (by rw[zAu];rfl) rfl (by kernel_rfl) (hK _ _ (un HSS _ _ (un HFE).tail) ?_);clear hK K;refine wDn ?_;generalize W32.setRow k (J 2 1 (-3) (-2) 0 0 0 0 1 1)=U at HFE ⊢
     go_wp2_with fail
     go_meet
     exact⟨k,rfl,HFE⟩
   ·skip
    go_simp
    have HL:Hid (w.heap.size≤W28.heap.size∧∀p:Nat×Array Value,p∈([(k4,J 2 1 (-3) (-1) 0 0 0 0 1 1),(k3,J 0 0 1 1 0 0 0 0 1 1),(b1,J 2 1 (-3) 0 0 0 0 0 1 1)]:List (Nat×Array Value))→¬W28.heap.size=p.1):=⟨(un HF28).on.size,fun p hp=>Nat.ne_of_gt ((un HF28).bx p hp).2.lt⟩;have HF29:=zAb ((un HF28).alloc z10);refine hK _ _ ⟨trivial,un HSS _ _ (un HF29).tail⟩ ?_;clear hK K;generalize hW29:W28.alloc (.cells z10 180)=W29 at *
    clear hW29;generalize W28.heap.size=k at *
    refine wO 2 rfl rfl (fun K hK=>?_)
    go_simp
    refine(siOne3 _).mono ?_;rintro e W30 ⟨rfl,hb⟩;have HF30:=zAb ((un HF29).later hb);clear hb;refine hK _ _ ⟨trivial,un HSS _ _ ((un HF30).tail)⟩ ?_;clear hK K;refine wO 3 rfl rfl (fun K hK=>?_)
    go_simp
    refine(zDz 2 1 (-3) (-1) 0 0 0 0 1 1 0 0 0 1 0 0 0 0 1 1 2 1 (-3) (-2) 0 0 0 0 1 1 _ (by decide +kernel)).mono ?_;rintro e W31 ⟨rfl,hb⟩;have HF31:=zAb ((un HF30).later hb);clear hb;refine hK _ _ ⟨trivial,un HSS _ _ ((un HF31).tail)⟩ ?_;clear hK K;refine wO 4 rfl rfl (fun K hK=>?_)
    go_simp
    refine(put3_of 2 1 (-3) (-2) 0 0 0 0 1 1 g zDp zDc _ (un HF31).gr rfl rfl (by kernel_rfl)).mono ?_;rintro e W32 ⟨rfl,hg1,ho1⟩;have HF32:=zAb ((un HF31).put hg1 ho1);clear hg1 ho1;refine hK _ _ ⟨trivial,un HSS _ _ ((un HF32).tail)⟩ ?_;clear hK K;have HFE:=zAb ((un HF32).row (un HL).1 (un HL).2 (J 2 1 (-3) (-2) 0 0 0 0 1 1));refine wL 6 rfl rfl (fun K hK=>?_);refine wp_store_row 180 (.tmp 5) (.tmp 26) rfl k (J 2 1 (-3) (-2) 0 0 0 0 1 1) rfl rfl 180 _ ((un HF32).bx (k,z10) (by simp)).2 (by rw[zAu];rfl) rfl (by kernel_rfl) (hK _ _ (un HSS _ _ (un HFE).tail) ?_);clear hK K;refine wDn ?_;generalize W32.setRow k (J 2 1 (-3) (-2) 0 0 0 0 1 1)=U at HFE ⊢
    go_wp2_with fail
    go_meet
    exact⟨k,rfl,HFE⟩
  case rest=>
   obtain⟨k5,rfl,HF47⟩:=hcut;generalize wc=W47 at HF47 ⊢
   go_upto_region 4 with fail
   have HSS:Hid (∀(W':World) (vs:Array Value),FS w W' g vs [(k5,J 2 1 (-3) (-2) 0 0 0 0 1 1),(k4,J 2 1 (-3) (-1) 0 0 0 0 1 1),(k3,J 0 0 1 1 0 0 0 0 1 1),(b1,J 2 1 (-3) 0 0 0 0 0 1 1)]→C10 W' k5 (I 2) (I 1) (I (-3)) (I (-2)) (I 0) (I 0) (I 0) (I 0) (I 1) (I 1)):=fun W' vs h=>(h.bx (k5,J 2 1 (-3) (-2) 0 0 0 0 1 1) (by simp)).2.c10
   have HF48:Hid (FS w (W47.drew) g zDc [(k5,J 2 1 (-3) (-2) 0 0 0 0 1 1),(k4,J 2 1 (-3) (-1) 0 0 0 0 1 1),(k3,J 0 0 1 1 0 0 0 0 1 1),(b1,J 2 1 (-3) 0 0 0 0 0 1 1)]):=(un HF47).later (Below.refl _ _).drew;have HS48:=zAb (un HSS _ _ (un HF48));refine zAi 4 (fun _=>True) (fun W'=>W'.cell? ⟨k5,0,none⟩=some (I 2)∧W'.cell? ⟨k5,1,none⟩=some (I 1)∧W'.cell? ⟨k5,2,none⟩=some (I (-3))∧W'.cell? ⟨k5,3,none⟩=some (I (-2))∧W'.cell? ⟨k5,4,none⟩=some (I 0)∧W'.cell? ⟨k5,5,none⟩=some (I 0)∧W'.cell? ⟨k5,6,none⟩=some (I 0)∧W'.cell? ⟨k5,7,none⟩=some (I 0)∧W'.cell? ⟨k5,8,none⟩=some (I 1)∧W'.cell? ⟨k5,9,none⟩=some (I 1)) 5 rfl (by kernel_rfl) ?_;refine wT7 0 (.func (.func 367) #[] #[.pointer (some ⟨g,0,none⟩)]) rfl (Or.inl ⟨by rfl,?_⟩) ⟨trivial,un HS48⟩ ?_
   ·intro W hW
    go_split_ands
    go_simp
   refine wT7 2 (.agg (J 2 1 (-3) (-2) 0 0 0 0 1 1)) rfl (Or.inl ⟨by rfl,?_⟩) ⟨trivial,un HS48⟩ ?_
   ·intro W hW
    go_split_ands
    go_simp
   refine wO 1 rfl rfl (fun K hK=>?_)
   go_simp
   refine(zBp 1 _).mono ?_;rintro e W49 ⟨rfl,hb⟩;have HF49:=zAb ((un HF48).later hb);clear hb;refine hK _ _ ⟨trivial,un HSS _ _ (un HF49)⟩ ?_;clear hK K;refine wO 3 rfl rfl (fun K hK=>?_)
   go_simp
   refine(zDz 0 0 0 0 0 0 0 0 1 1 2 1 (-3) (-2) 0 0 0 0 1 1 (-2) (-1) 3 2 0 0 0 0 1 1 _ (by decide +kernel)).mono ?_;rintro e W50 ⟨rfl,hb⟩;have HF50:=zAb ((un HF49).later hb);clear hb;refine hK _ _ ⟨trivial,un HSS _ _ (un HF50)⟩ ?_;clear hK K;refine wL 4 rfl rfl (fun K hK=>?_)
   go_simp
   refine(put4_of (-2) (-1) 3 2 0 0 0 0 1 1 g zDc zDn _ (un HF50).gr rfl rfl (by kernel_rfl)).mono ?_;rintro e W51 ⟨rfl,hg1,ho1⟩;have HF51:=zAb ((un HF50).put hg1 ho1);clear hg1 ho1;refine hK _ _ (un HSS _ _ (un HF51)) ?_;clear hK K;refine wDn ?_;clear HSS HS48
   go_wp2_with fail
   go_cut [6]from 32 (fun s9 wx=>∃k,s9=.pointer (some ⟨k,0,none⟩)∧Hid (FS w wx g zDb ((k,J 2 1 (-2) (-1) 0 0 0 0 1 1) :: [(k5,J 2 1 (-3) (-2) 0 0 0 0 1 1),(k4,J 2 1 (-3) (-1) 0 0 0 0 1 1),(k3,J 0 0 1 1 0 0 0 0 1 1),(b1,J 2 1 (-3) 0 0 0 0 0 1 1)])))
   case first=>
    have HSS:Hid (∀(W':World) (vs:Array Value),FS w W' g vs [(k5,J 2 1 (-3) (-2) 0 0 0 0 1 1),(k4,J 2 1 (-3) (-1) 0 0 0 0 1 1),(k3,J 0 0 1 1 0 0 0 0 1 1),(b1,J 2 1 (-3) 0 0 0 0 0 1 1)]→C10 W' k4 (I 2) (I 1) (I (-3)) (I (-1)) (I 0) (I 0) (I 0) (I 0) (I 1) (I 1)):=fun W' vs h=>(h.bx (k4,J 2 1 (-3) (-1) 0 0 0 0 1 1) (by simp)).2.c10
    have HF52:Hid (FS w (W51.drew) g zDn [(k5,J 2 1 (-3) (-2) 0 0 0 0 1 1),(k4,J 2 1 (-3) (-1) 0 0 0 0 1 1),(k3,J 0 0 1 1 0 0 0 0 1 1),(b1,J 2 1 (-3) 0 0 0 0 0 1 1)]):=(un HF51).later (Below.refl _ _).drew;have HS52:=zAb (un HSS _ _ (un HF52));refine zAi 6 (fun _=>True) (fun W'=>W'.cell? ⟨k4,0,none⟩=some (I 2)∧W'.cell? ⟨k4,1,none⟩=some (I 1)∧W'.cell? ⟨k4,2,none⟩=some (I (-3))∧W'.cell? ⟨k4,3,none⟩=some (I (-1))∧W'.cell? ⟨k4,4,none⟩=some (I 0)∧W'.cell? ⟨k4,5,none⟩=some (I 0)∧W'.cell? ⟨k4,6,none⟩=some (I 0)∧W'.cell? ⟨k4,7,none⟩=some (I 0)∧W'.cell? ⟨k4,8,none⟩=some (I 1)∧W'.cell? ⟨k4,9,none⟩=some (I 1)) 7 rfl (by kernel_rfl) ?_;refine wT7 0 (.func (.func 367) #[] #[.pointer (some ⟨g,0,none⟩)]) rfl (Or.inl ⟨by rfl,?_⟩) ⟨trivial,un HS52⟩ ?_
    ·intro W hW
     go_split_ands
     go_simp
    refine wT7 1 (.agg (J 2 1 (-3) (-1) 0 0 0 0 1 1)) rfl (Or.inl ⟨by rfl,?_⟩) ⟨trivial,un HS52⟩ ?_
    ·intro W hW
     go_split_ands
     go_simp
    clear HS52;generalize W51.drew=W52 at *
    refine zBn (i:=2) (j:=5) (by kernel_rfl) rfl rfl rfl rfl (fun K hK=>?_) (fun K hK=>?_)
    ·skip
     go_simp
     refine(siOne2 _).mono ?_;rintro e W53 ⟨rfl,hb⟩;have HF53:=zAb ((un HF52).later hb);clear hb;refine hK _ _ ⟨trivial,un HSS _ _ (un HF53)⟩ ?_;clear hK K;refine zBn (i:=3) (j:=5) (by kernel_rfl) rfl rfl rfl rfl (fun K hK=>?_) (fun K hK=>?_)
     ·skip
      go_simp
      refine(zBe 2 1 (-3) (-1) 0 0 0 0 1 1 0 0 1 0 0 0 0 0 1 1 2 1 (-2) (-1) 0 0 0 0 1 1 _ (by decide +kernel)).mono ?_;rintro e W54 ⟨rfl,hb⟩;have HF54:=zAb ((un HF53).later hb);clear hb;refine hK _ _ ⟨trivial,un HSS _ _ (un HF54)⟩ ?_;clear hK K;refine zBn (i:=4) (j:=5) (by kernel_rfl) rfl rfl rfl rfl (fun K hK=>?_) (fun K hK=>?_)
      ·skip
       go_simp
       refine(put5_of 2 1 (-2) (-1) 0 0 0 0 1 1 g zDn zDb _ (un HF54).gr rfl rfl (by kernel_rfl)).mono ?_;rintro e W55 ⟨rfl,hg1,ho1⟩;have HF55:=zAb ((un HF54).put hg1 ho1);clear hg1 ho1;refine hK _ _ ⟨trivial,un HSS _ _ (un HF55)⟩ ?_;clear hK K;refine wO 5 rfl rfl (fun K hK=>?_)
       go_simp
       have HL:Hid (w.heap.size≤W55.heap.size∧∀p:Nat×Array Value,p∈([(k5,J 2 1 (-3) (-2) 0 0 0 0 1 1),(k4,J 2 1 (-3) (-1) 0 0 0 0 1 1),(k3,J 0 0 1 1 0 0 0 0 1 1),(b1,J 2 1 (-3) 0 0 0 0 0 1 1)]:List (Nat×Array Value))→¬W55.heap.size=p.1):=⟨(un HF55).on.size,fun p hp=>Nat.ne_of_gt ((un HF55).bx p hp).2.lt⟩;have HF56:=zAb ((un HF55).alloc z10);refine hK _ _ ⟨trivial,un HSS _ _ (un HF56).tail⟩ ?_;clear hK K;generalize hW56:W55.alloc (.cells z10 180)=W56 at *
       clear hW56;generalize W55.heap.size=k at *
       have HFE:=zAb ((un HF56).row (un HL).1 (un HL).2 (J 2 1 (-2) (-1) 0 0 0 0 1 1));refine wL 6 rfl rfl (fun K hK=>?_);refine wp_store_row 180 (.tmp 6) (.tmp 36) rfl k (J 2 1 (-2) (-1) 0 0 0 0 1 1) rfl rfl 180 _ ((un HF56).bx (k,z10) (by simp)).2 (by rw[zAu];rfl) rfl (by kernel_rfl) (hK _ _ (un HSS _ _ (un HFE).tail) ?_);clear hK K;refine wDn ?_;generalize W56.setRow k (J 2 1 (-2) (-1) 0 0 0 0 1 1)=U at HFE ⊢
       go_wp2_with fail
       go_meet
       exact⟨k,rfl,HFE⟩
      ·skip
       go_simp
       have HL:Hid (w.heap.size≤W54.heap.size∧∀p:Nat×Array Value,p∈([(k5,J 2 1 (-3) (-2) 0 0 0 0 1 1),(k4,J 2 1 (-3) (-1) 0 0 0 0 1 1),(k3,J 0 0 1 1 0 0 0 0 1 1),(b1,J 2 1 (-3) 0 0 0 0 0 1 1)]:List (Nat×Array Value))→¬W54.heap.size=p.1):=⟨(un HF54).on.size,fun p hp=>Nat.ne_of_gt ((un HF54).bx p hp).2.lt⟩;have HF55:=zAb ((un HF54).alloc z10);refine hK _ _ ⟨trivial,un HSS _ _ (un HF55).tail⟩ ?_;clear hK K;generalize hW55:W54.alloc (.cells z10 180)=W55 at *
       clear hW55;generalize W54.heap.size=k at *
       refine wO 4 rfl rfl (fun K hK=>?_)
       go_simp
       refine(put5_of 2 1 (-2) (-1) 0 0 0 0 1 1 g zDn zDb _ (un HF55).gr rfl rfl (by kernel_rfl)).mono ?_;rintro e W56 ⟨rfl,hg1,ho1⟩;have HF56:=zAb ((un HF55).put hg1 ho1);clear hg1 ho1;refine hK _ _ ⟨trivial,un HSS _ _ ((un HF56).tail)⟩ ?_;clear hK K;have HFE:=zAb ((un HF56).row (un HL).1 (un HL).2 (J 2 1 (-2) (-1) 0 0 0 0 1 1));refine wL 6 rfl rfl (fun K hK=>?_);refine wp_store_row 180 (.tmp 6) (.tmp 36) rfl k (J 2 1 (-2) (-1) 0 0 0 0 1 1) rfl rfl 180 _ ((un HF56).bx (k,z10) (by simp)).2 (by rw[zAu];rfl) rfl (by kernel_rfl) (hK _ _ (un HSS _ _ (un HFE).tail) ?_);clear hK K;refine wDn ?_;generalize W56.setRow k (J 2 1 (-2) (-1) 0 0 0 0 1 1)=U at HFE ⊢
       go_wp2_with fail
       go_meet
       exact⟨k,rfl,HFE⟩
     ·skip
      go_simp
      have HL:Hid (w.heap.size≤W53.heap.size∧∀p:Nat×Array Value,p∈([(k5,J 2 1 (-3) (-2) 0 0 0 0 1 1),(k4,J 2 1 (-3) (-1) 0 0 0 0 1 1),(k3,J 0 0 1 1 0 0 0 0 1 1),(b1,J 2 1 (-3) 0 0 0 0 0 1 1)]:List (Nat×Array Value))→¬W53.heap.size=p.1):=⟨(un HF53).on.size,fun p hp=>Nat.ne_of_gt ((un HF53).bx p hp).2.lt⟩;have HF54:=zAb ((un HF53).alloc z10);refine hK _ _ ⟨trivial,un HSS _ _ (un HF54).tail⟩ ?_;clear hK K;generalize hW54:W53.alloc (.cells z10 180)=W54 at *
      clear hW54;generalize W53.heap.size=k at *
      refine wO 3 rfl rfl (fun K hK=>?_)
      go_simp
      refine(zBe 2 1 (-3) (-1) 0 0 0 0 1 1 0 0 1 0 0 0 0 0 1 1 2 1 (-2) (-1) 0 0 0 0 1 1 _ (by decide +kernel)).mono ?_;rintro e W55 ⟨rfl,hb⟩;have HF55:=zAb ((un HF54).later hb);clear hb;refine hK _ _ ⟨trivial,un HSS _ _ ((un HF55).tail)⟩ ?_;clear hK K;refine wO 4 rfl rfl (fun K hK=>?_)
      go_simp
      refine(put5_of 2 1 (-2) (-1) 0 0 0 0 1 1 g zDn zDb _ (un HF55).gr rfl rfl (by kernel_rfl)).mono ?_;rintro e W56 ⟨rfl,hg1,ho1⟩;have HF56:=zAb ((un HF55).put hg1 ho1);clear hg1 ho1;refine hK _ _ ⟨trivial,un HSS _ _ ((un HF56).tail)⟩ ?_;clear hK K;have HFE:=zAb ((un HF56).row (un HL).1 (un HL).2 (J 2 1 (-2) (-1) 0 0 0 0 1 1));refine wL 6 rfl rfl (fun K hK=>?_);refine wp_store_row 180 (.tmp 6) (.tmp 36) rfl k (J 2 1 (-2) (-1) 0 0 0 0 1 1) rfl rfl 180 _ ((un HF56).bx (k,z10) (by simp)).2 (by rw[zAu];rfl) rfl (by kernel_rfl) (hK _ _ (un HSS _ _ (un HFE).tail) ?_);clear hK K;refine wDn ?_;generalize W56.setRow k (J 2 1 (-2) (-1) 0 0 0 0 1 1)=U at HFE ⊢
      go_wp2_with fail
      go_meet
      exact⟨k,rfl,HFE⟩
    ·skip
     go_simp
     have HL:Hid (w.heap.size≤W52.heap.size∧∀p:Nat×Array Value,p∈([(k5,J 2 1 (-3) (-2) 0 0 0 0 1 1),(k4,J 2 1 (-3) (-1) 0 0 0 0 1 1),(k3,J 0 0 1 1 0 0 0 0 1 1),(b1,J 2 1 (-3) 0 0 0 0 0 1 1)]:List (Nat×Array Value))→¬W52.heap.size=p.1):=⟨(un HF52).on.size,fun p hp=>Nat.ne_of_gt ((un HF52).bx p hp).2.lt⟩;have HF53:=zAb ((un HF52).alloc z10);refine hK _ _ ⟨trivial,un HSS _ _ (un HF53).tail⟩ ?_;clear hK K;generalize hW53:W52.alloc (.cells z10 180)=W53 at *
     clear hW53;generalize W52.heap.size=k at *
     refine wO 2 rfl rfl (fun K hK=>?_)
     go_simp
     refine(siOne2 _).mono ?_;rintro e W54 ⟨rfl,hb⟩;have HF54:=zAb ((un HF53).later hb);clear hb;refine hK _ _ ⟨trivial,un HSS _ _ ((un HF54).tail)⟩ ?_;clear hK K;refine wO 3 rfl rfl (fun K hK=>?_)
     go_simp
     refine(zBe 2 1 (-3) (-1) 0 0 0 0 1 1 0 0 1 0 0 0 0 0 1 1 2 1 (-2) (-1) 0 0 0 0 1 1 _ (by decide +kernel)).mono ?_;rintro e W55 ⟨rfl,hb⟩;have HF55:=zAb ((un HF54).later hb);clear hb;refine hK _ _ ⟨trivial,un HSS _ _ ((un HF55).tail)⟩ ?_;clear hK K;refine wO 4 rfl rfl (fun K hK=>?_)
     go_simp
     refine(put5_of 2 1 (-2) (-1) 0 0 0 0 1 1 g zDn zDb _ (un HF55).gr rfl rfl (by kernel_rfl)).mono ?_;rintro e W56 ⟨rfl,hg1,ho1⟩;have HF56:=zAb ((un HF55).put hg1 ho1);clear hg1 ho1;refine hK _ _ ⟨trivial,un HSS _ _ ((un HF56).tail)⟩ ?_;clear hK K;have HFE:=zAb ((un HF56).row (un HL).1 (un HL).2 (J 2 1 (-2) (-1) 0 0 0 0 1 1));refine wL 6 rfl rfl (fun K hK=>?_);refine wp_store_row 180 (.tmp 6) (.tmp 36) rfl k (J 2 1 (-2) (-1) 0 0 0 0 1 1) rfl rfl 180 _ ((un HF56).bx (k,z10) (by simp)).2 (by rw[zAu];rfl) rfl (by kernel_rfl) (hK _ _ (un HSS _ _ (un HFE).tail) ?_);clear hK K;refine wDn ?_;generalize W56.setRow k (J 2 1 (-2) (-1) 0 0 0 0 1 1)=U at HFE ⊢
     go_wp2_with fail
     go_meet
     exact⟨k,rfl,HFE⟩
   case rest=>
    obtain⟨k6,rfl,HF71⟩:=hcut;generalize wc=W71 at HF71 ⊢
    go_upto_region 6 with fail
    have HSS:Hid (∀(W':World) (vs:Array Value),FS w W' g vs [(k6,J 2 1 (-2) (-1) 0 0 0 0 1 1),(k5,J 2 1 (-3) (-2) 0 0 0 0 1 1),(k4,J 2 1 (-3) (-1) 0 0 0 0 1 1),(k3,J 0 0 1 1 0 0 0 0 1 1),(b1,J 2 1 (-3) 0 0 0 0 0 1 1)]→C10 W' k6 (I 2) (I 1) (I (-2)) (I (-1)) (I 0) (I 0) (I 0) (I 0) (I 1) (I 1)):=fun W' vs h=>(h.bx (k6,J 2 1 (-2) (-1) 0 0 0 0 1 1) (by simp)).2.c10
    have HF72:Hid (FS w (W71.drew) g zDb [(k6,J 2 1 (-2) (-1) 0 0 0 0 1 1),(k5,J 2 1 (-3) (-2) 0 0 0 0 1 1),(k4,J 2 1 (-3) (-1) 0 0 0 0 1 1),(k3,J 0 0 1 1 0 0 0 0 1 1),(b1,J 2 1 (-3) 0 0 0 0 0 1 1)]):=(un HF71).later (Below.refl _ _).drew;have HS72:=zAb (un HSS _ _ (un HF72));refine zAi 6 (fun _=>True) (fun W'=>W'.cell? ⟨k6,0,none⟩=some (I 2)∧W'.cell? ⟨k6,1,none⟩=some (I 1)∧W'.cell? ⟨k6,2,none⟩=some (I (-2))∧W'.cell? ⟨k6,3,none⟩=some (I (-1))∧W'.cell? ⟨k6,4,none⟩=some (I 0)∧W'.cell? ⟨k6,5,none⟩=some (I 0)∧W'.cell? ⟨k6,6,none⟩=some (I 0)∧W'.cell? ⟨k6,7,none⟩=some (I 0)∧W'.cell? ⟨k6,8,none⟩=some (I 1)∧W'.cell? ⟨k6,9,none⟩=some (I 1)) 7 rfl (by kernel_rfl) ?_;refine wT7 0 (.func (.func 367) #[] #[.pointer (some ⟨g,0,none⟩)]) rfl (Or.inl ⟨by rfl,?_⟩) ⟨trivial,un HS72⟩ ?_
    ·intro W hW
     go_split_ands
     go_simp
    refine wT7 1 (.agg (J 2 1 (-2) (-1) 0 0 0 0 1 1)) rfl (Or.inl ⟨by rfl,?_⟩) ⟨trivial,un HS72⟩ ?_
    ·intro W hW
     go_split_ands
     go_simp
    refine wO 2 rfl rfl (fun K hK=>?_)
    go_simp
    refine(zEu _).mono ?_;rintro e W73 ⟨rfl,hb⟩;have HF73:=zAb ((un HF72).later hb);clear hb;refine hK _ _ ⟨trivial,un HSS _ _ (un HF73)⟩ ?_;clear hK K;refine wO 3 rfl rfl (fun K hK=>?_)
    go_simp
    refine(zDz 2 1 (-2) (-1) 0 0 0 0 1 1 1 0 0 0 0 0 0 0 1 1 1 1 (-2) (-1) 0 0 0 0 1 1 _ (by decide +kernel)).mono ?_;rintro e W74 ⟨rfl,hb⟩;have HF74:=zAb ((un HF73).later hb);clear hb;refine hK _ _ ⟨trivial,un HSS _ _ (un HF74)⟩ ?_;clear hK K;refine wO 4 rfl rfl (fun K hK=>?_)
    go_simp
    refine(zEu _).mono ?_;rintro e W75 ⟨rfl,hb⟩;have HF75:=zAb ((un HF74).later hb);clear hb;refine hK _ _ ⟨trivial,un HSS _ _ (un HF75)⟩ ?_;clear hK K;refine wO 5 rfl rfl (fun K hK=>?_)
    go_simp
    refine(zDz 1 1 (-2) (-1) 0 0 0 0 1 1 1 0 0 0 0 0 0 0 1 1 0 1 (-2) (-1) 0 0 0 0 1 1 _ (by decide +kernel)).mono ?_;rintro e W76 ⟨rfl,hb⟩;have HF76:=zAb ((un HF75).later hb);clear hb;refine hK _ _ ⟨trivial,un HSS _ _ (un HF76)⟩ ?_;clear hK K;refine wL 6 rfl rfl (fun K hK=>?_)
    go_simp
    refine(put6_of 0 1 (-2) (-1) 0 0 0 0 1 1 g zDb zGy _ (un HF76).gr rfl rfl (by kernel_rfl)).mono ?_;rintro e W77 ⟨rfl,hg1,ho1⟩;have HF77:=zAb ((un HF76).put hg1 ho1);clear hg1 ho1;refine hK _ _ (un HSS _ _ (un HF77)) ?_;clear hK K;refine wDn ?_;clear HSS HS72
    go_upto_region 7 with fail
    have HSS:Hid (∀(W':World) (vs:Array Value),FS w W' g vs [(k6,J 2 1 (-2) (-1) 0 0 0 0 1 1),(k5,J 2 1 (-3) (-2) 0 0 0 0 1 1),(k4,J 2 1 (-3) (-1) 0 0 0 0 1 1),(k3,J 0 0 1 1 0 0 0 0 1 1),(b1,J 2 1 (-3) 0 0 0 0 0 1 1)]→C10 W' k6 (I 2) (I 1) (I (-2)) (I (-1)) (I 0) (I 0) (I 0) (I 0) (I 1) (I 1)):=fun W' vs h=>(h.bx (k6,J 2 1 (-2) (-1) 0 0 0 0 1 1) (by simp)).2.c10
    have HF78:Hid (FS w (W77.drew) g zGy [(k6,J 2 1 (-2) (-1) 0 0 0 0 1 1),(k5,J 2 1 (-3) (-2) 0 0 0 0 1 1),(k4,J 2 1 (-3) (-1) 0 0 0 0 1 1),(k3,J 0 0 1 1 0 0 0 0 1 1),(b1,J 2 1 (-3) 0 0 0 0 0 1 1)]):=(un HF77).later (Below.refl _ _).drew;have HS78:=zAb (un HSS _ _ (un HF78));refine zAi 4 (fun _=>True) (fun W'=>W'.cell? ⟨k6,0,none⟩=some (I 2)∧W'.cell? ⟨k6,1,none⟩=some (I 1)∧W'.cell? ⟨k6,2,none⟩=some (I (-2))∧W'.cell? ⟨k6,3,none⟩=some (I (-1))∧W'.cell? ⟨k6,4,none⟩=some (I 0)∧W'.cell? ⟨k6,5,none⟩=some (I 0)∧W'.cell? ⟨k6,6,none⟩=some (I 0)∧W'.cell? ⟨k6,7,none⟩=some (I 0)∧W'.cell? ⟨k6,8,none⟩=some (I 1)∧W'.cell? ⟨k6,9,none⟩=some (I 1)) 5 rfl (by kernel_rfl) ?_;refine wT7 0 (.func (.func 367) #[] #[.pointer (some ⟨g,0,none⟩)]) rfl (Or.inl ⟨by rfl,?_⟩) ⟨trivial,un HS78⟩ ?_
    ·intro W hW
     go_split_ands
     go_simp
    refine wT7 1 (.agg (J 2 1 (-2) (-1) 0 0 0 0 1 1)) rfl (Or.inl ⟨by rfl,?_⟩) ⟨trivial,un HS78⟩ ?_
    ·intro W hW
     go_split_ands
     go_simp
    refine wO 2 rfl rfl (fun K hK=>?_)
    go_simp
    refine(siOne3 _).mono ?_;rintro e W79 ⟨rfl,hb⟩;have HF79:=zAb ((un HF78).later hb);clear hb;refine hK _ _ ⟨trivial,un HSS _ _ (un HF79)⟩ ?_;clear hK K;refine wO 3 rfl rfl (fun K hK=>?_)
    go_simp
    refine(zDz 2 1 (-2) (-1) 0 0 0 0 1 1 0 0 0 1 0 0 0 0 1 1 2 1 (-2) (-2) 0 0 0 0 1 1 _ (by decide +kernel)).mono ?_;rintro e W80 ⟨rfl,hb⟩;have HF80:=zAb ((un HF79).later hb);clear hb;refine hK _ _ ⟨trivial,un HSS _ _ (un HF80)⟩ ?_;clear hK K;refine wL 4 rfl rfl (fun K hK=>?_)
    go_simp
    refine(put7_of 2 1 (-2) (-2) 0 0 0 0 1 1 g zGy zBu _ (un HF80).gr rfl rfl (by kernel_rfl)).mono ?_;rintro e W81 ⟨rfl,hg1,ho1⟩;have HF81:=zAb ((un HF80).put hg1 ho1);clear hg1 ho1;refine hK _ _ (un HSS _ _ (un HF81)) ?_;clear hK K;refine wDn ?_;clear HSS HS78
    go_wp2_with fail
    go_end0
    exact⟨rfl,(un HF81).gr,(un HF81).on⟩
end Go.Proofs.YtliadckofhblnaaGreatDoor

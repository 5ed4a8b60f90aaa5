/- dim.Pow. -/
import Derived.Test.YtliadckofhblnaaGreatDoorAdd
import Derived.Test.YtliadckofhblnaaGreatDoorSi6
import Derived.Test.YtliadckofhblnaaGreatDoorSi12
import Derived.Great.BuildSlice
import Derived.Laws.OwnMore
import Derived.Lib.SmallJoins
import Derived.Lib.OwnKind
import Derived.OwnWalk
import Derived.Deep.Onto
import Derived.Test.YtliadckofhblnaaGreatDoorSi1
import Derived.Test.YtliadckofhblnaaGreatDoorDimMul
import Derived.ChangeKeysEq
set_option maxHeartbeats 8000000
set_option maxRecDepth 100000
namespace Go.Proofs.YtliadckofhblnaaGreatDoor
open Go.RowKit
theorem fill_electric (g:Nat) (b1:Nat) (w:World) (hg:zAc w g 286 zAw) (h1:zAc w b1 180 (J 2 1 (-3) 0 0 0 0 0 1 1)) (n1:¬b1=g) :
 Calls Tryz.prog 319 #[.func (.func 367) #[] #[.pointer (some ⟨g,0,none⟩)],.pointer (some ⟨b1,0,none⟩)] w fun e w'=>e=.returned (.tuple #[])∧zAc w' g 286 zBu∧Onto w w' g:=by
 have HF0:Hid (FS w w g zAw [(b1,J 2 1 (-3) 0 0 0 0 0 1 1)]):=⟨hg,Onto.of_below (Below.refl _ _),fun p hp=>(by simp only[List.mem_cons,List.not_mem_nil,or_false]at hp;subst hp;exact⟨n1,h1⟩)⟩;clear hg h1 n1;go_enter Tryz.func319,Tryz.ntmps319
 go_upto_region 1 with (first
  | (refine zAn 180 10 zAu rfl (.tmp 3) (.tmp 11) rfl W4.heap.size z10 (J 0 0 1 1 0 0 0 0 1 1) rfl rfl rfl rfl (zAc.new _ _ _) (by kernel_rfl) ?_)
  | (go_at_call 367;go_must(refine(zDy 0 0 1 1 0 0 0 0 1 1 g zAw zDr _ (un HF3).gr rfl rfl (by kernel_rfl)).mono ?_;rintro e W4 ⟨rfl,hg1,ho1⟩;have HF4:=zAb ((un HF3).put hg1 ho1);clear hg1 ho1))
  | (go_at_call 315;have hchk:=HF2;clear hchk;refine(zBe 0 0 0 1 0 0 0 0 1 1 0 0 1 0 0 0 0 0 1 1 0 0 1 1 0 0 0 0 1 1 _ (by decide +kernel)).mono ?_;rintro e W3 ⟨rfl,hb⟩;have HF3:=zAb ((un HF2).later hb);clear hb)
  | (go_at_call 314;have hchk:=HF1;clear hchk;refine(siOne2 _).mono ?_;rintro e W2 ⟨rfl,hb⟩;have HF2:=zAb ((un HF1).later hb);clear hb)
  | (go_at_call 314;have hchk:=HF0;clear hchk;refine(siOne3 _).mono ?_;rintro e W1 ⟨rfl,hb⟩;have HF1:=zAb ((un HF0).later hb);clear hb))
 have HF5:=zAb (((un HF4).alloc z10).row (un HF4).on.size (fun p hp=>Nat.ne_of_gt ((un HF4).bx p hp).2.lt) (J 0 0 1 1 0 0 0 0 1 1));generalize (W4.alloc (.cells z10 180)).setRow W4.heap.size (J 0 0 1 1 0 0 0 0 1 1)=W5 at *
 generalize W4.heap.size=k3 at *
 have hpn:∀(a:Act) (v:Value),a.put none v=a:=fun _ _=>rfl
 simp only[hpn];clear hpn
 go_wp2_with fail
 go_cut [4]from 12 (fun s9 wx=>∃k,s9=.pointer (some ⟨k,0,none⟩)∧Hid (FS w wx g zDq ((k,J 2 1 (-3) (-1) 0 0 0 0 1 1) :: [(k3,J 0 0 1 1 0 0 0 0 1 1),(b1,J 2 1 (-3) 0 0 0 0 0 1 1)])))
 case first=>
  have HSS:Hid (∀(W':World) (vs:Array Value),FS w W' g vs [(k3,J 0 0 1 1 0 0 0 0 1 1),(b1,J 2 1 (-3) 0 0 0 0 0 1 1)]→C10 W' b1 (I 2) (I 1) (I (-3)) (I 0) (I 0) (I 0) (I 0) (I 0) (I 1) (I 1)):=fun W' vs h=>(h.bx (b1,J 2 1 (-3) 0 0 0 0 0 1 1) (by simp)).2.c10
  have HF6:Hid (FS w (W5.drew) g zDr [(k3,J 0 0 1 1 0 0 0 0 1 1),(b1,J 2 1 (-3) 0 0 0 0 0 1 1)]):=(un HF5).later (Below.refl _ _).drew;have HS6:=zAb (un HSS _ _ (un HF6));refine zAi 6 (fun _=>True) (fun W'=>W'.cell? ⟨b1,0,none⟩=some (I 2)∧W'.cell? ⟨b1,1,none⟩=some (I 1)∧W'.cell? ⟨b1,2,none⟩=some (I (-3))∧W'.cell? ⟨b1,3,none⟩=some (I 0)∧W'.cell? ⟨b1,4,none⟩=some (I 0)∧W'.cell? ⟨b1,5,none⟩=some (I 0)∧W'.cell? ⟨b1,6,none⟩=some (I 0)∧W'.cell? ⟨b1,7,none⟩=some (I 0)∧W'.cell? ⟨b1,8,none⟩=some (I 1)∧W'.cell? ⟨b1,9,none⟩=some (I 1)) 7 rfl (by kernel_rfl) ?_;refine wT7 0 (.func (.func 367) #[] #[.pointer (some ⟨g,0,none⟩)]) rfl (Or.inl ⟨by rfl,?_⟩) ⟨trivial,un HS6⟩ ?_
  ·intro W hW
   go_split_ands
   go_simp
  refine wT7 1 (.agg (J 2 1 (-3) 0 0 0 0 0 1 1)) rfl (Or.inl ⟨by rfl,?_⟩) ⟨trivial,un HS6⟩ ?_
  ·intro W hW
   go_split_ands
   go_simp
  clear HS6;generalize W5.drew=W6 at *
  refine zBn (i:=2) (j:=5) (by kernel_rfl) rfl rfl rfl rfl (fun K hK=>?_) (fun K hK=>?_)
  ·skip
   go_simp
   refine(siOne3 _).mono ?_;rintro e W7 ⟨rfl,hb⟩;have HF7:=zAb ((un HF6).later hb);clear hb;refine hK _ _ ⟨trivial,un HSS _ _ (un HF7)⟩ ?_;clear hK K;refine zBn (i:=3) (j:=5) (by kernel_rfl) rfl rfl rfl rfl (fun K hK=>?_) (fun K hK=>?_)
   ·skip
    go_simp
    refine(zDz 2 1 (-3) 0 0 0 0 0 1 1 0 0 0 1 0 0 0 0 1 1 2 1 (-3) (-1) 0 0 0 0 1 1 _ (by decide +kernel)).mono ?_;rintro e W8 ⟨rfl,hb⟩;have HF8:=zAb ((un HF7).later hb);clear hb;refine hK _ _ ⟨trivial,un HSS _ _ (un HF8)⟩ ?_;clear hK K;refine zBn (i:=4) (j:=5) (by kernel_rfl) rfl rfl rfl rfl (fun K hK=>?_) (fun K hK=>?_)
    ·skip
     go_simp
     refine(zDa 2 1 (-3) (-1) 0 0 0 0 1 1 g zDr zDq _ (un HF8).gr rfl rfl (by kernel_rfl)).mono ?_;rintro e W9 ⟨rfl,hg1,ho1⟩;have HF9:=zAb ((un HF8).put hg1 ho1);clear hg1 ho1;refine hK _ _ ⟨trivial,un HSS _ _ (un HF9)⟩ ?_;clear hK K;refine wO 5 rfl rfl (fun K hK=>?_)
     go_simp
     have HL:Hid (w.heap.size≤W9.heap.size∧∀p:Nat×Array Value,p∈([(k3,J 0 0 1 1 0 0 0 0 1 1),(b1,J 2 1 (-3) 0 0 0 0 0 1 1)]:List (Nat×Array Value))→¬W9.heap.size=p.1):=⟨(un HF9).on.size,fun p hp=>Nat.ne_of_gt ((un HF9).bx p hp).2.lt⟩;have HF10:=zAb ((un HF9).alloc z10);refine hK _ _ ⟨trivial,un HSS _ _ (un HF10).tail⟩ ?_;clear hK K;generalize hW10:W9.alloc (.cells z10 180)=W10 at *
     clear hW10;generalize W9.heap.size=k at *
     have HFE:=zAb ((un HF10).row (un HL).1 (un HL).2 (J 2 1 (-3) (-1) 0 0 0 0 1 1));refine wL 6 rfl rfl (fun K hK=>?_);refine wp_store_row 180 (.tmp 4) (.tmp 16) rfl k (J 2 1 (-3) (-1) 0 0 0 0 1 1) rfl rfl 180 _ ((un HF10).bx (k,z10) (by simp)).2 (by rw[zAu];rfl) rfl (by kernel_rfl) (hK _ _ (un HSS _ _ (un HFE).tail) ?_);clear hK K;refine wDn ?_;generalize W10.setRow k (J 2 1 (-3) (-1) 0 0 0 0 1 1)=U at HFE ⊢
     go_wp2_with fail
     go_meet
     exact⟨k,rfl,HFE⟩
    ·skip
     go_simp
     have HL:Hid (w.heap.size≤W8.heap.size∧∀p:Nat×Array Value,p∈([(k3,J 0 0 1 1 0 0 0 0 1 1),(b1,J 2 1 (-3) 0 0 0 0 0 1 1)]:List (Nat×Array Value))→¬W8.heap.size=p.1):=⟨(un HF8).on.size,fun p hp=>Nat.ne_of_gt ((un HF8).bx p hp).2.lt⟩;have HF9:=zAb ((un HF8).alloc z10);refine hK _ _ ⟨trivial,un HSS _ _ (un HF9).tail⟩ ?_;clear hK K;generalize hW9:W8.alloc (.cells z10 180)=W9 at *
     clear hW9;generalize W8.heap.size=k at *
     refine wO 4 rfl rfl (fun K hK=>?_)
     go_simp
     refine(zDa 2 1 (-3) (-1) 0 0 0 0 1 1 g zDr zDq _ (un HF9).gr rfl rfl (by kernel_rfl)).mono ?_;rintro e W10 ⟨rfl,hg1,ho1⟩;have HF10:=zAb ((un HF9).put hg1 ho1);clear hg1 ho1;refine hK _ _ ⟨trivial,un HSS _ _ ((un HF10).tail)⟩ ?_;clear hK K;have HFE:=zAb ((un HF10).row (un HL).1 (un HL).2 (J 2 1 (-3) (-1) 0 0 0 0 1 1));refine wL 6 rfl rfl (fun K hK=>?_);refine wp_store_row 180 (.tmp 4) (.tmp 16) rfl k (J 2 1 (-3) (-1) 0 0 0 0 1 1) rfl rfl 180 _ ((un HF10).bx (k,z10) (by simp)).2 (by rw[zAu];rfl) rfl (by kernel_rfl) (hK _ _ (un HSS _ _ (un HFE).tail) ?_);clear hK K;refine wDn ?_;generalize W10.setRow k (J 2 1 (-3) (-1) 0 0 0 0 1 1)=U at HFE ⊢
     go_wp2_with fail
     go_meet
     exact⟨k,rfl,HFE⟩
   ·skip
    go_simp
    have HL:Hid (w.heap.size≤W7.heap.size∧∀p:Nat×Array Value,p∈([(k3,J 0 0 1 1 0 0 0 0 1 1),(b1,J 2 1 (-3) 0 0 0 0 0 1 1)]:List (Nat×Array Value))→¬W7.heap.size=p.1):=⟨(un HF7).on.size,fun p hp=>Nat.ne_of_gt ((un HF7).bx p hp).2.lt⟩;have HF8:=zAb ((un HF7).alloc z10);refine hK _ _ ⟨trivial,un HSS _ _ (un HF8).tail⟩ ?_;clear hK K;generalize hW8:W7.alloc (.cells z10 180)=W8 at *
    clear hW8;generalize W7.heap.size=k at *
    refine wO 3 rfl rfl (fun K hK=>?_)
    go_simp
    refine(zDz 2 1 (-3) 0 0 0 0 0 1 1 0 0 0 1 0 0 0 0 1 1 2 1 (-3) (-1) 0 0 0 0 1 1 _ (by decide +kernel)).mono ?_;rintro e W9 ⟨rfl,hb⟩;have HF9:=zAb ((un HF8).later hb);clear hb;refine hK _ _ ⟨trivial,un HSS _ _ ((un HF9).tail)⟩ ?_;clear hK K;refine wO 4 rfl rfl (fun K hK=>?_)
    go_simp
    refine(zDa 2 1 (-3) (-1) 0 0 0 0 1 1 g zDr zDq _ (un HF9).gr rfl rfl (by kernel_rfl)).mono ?_;rintro e W10 ⟨rfl,hg1,ho1⟩;have HF10:=zAb ((un HF9).put hg1 ho1);clear hg1 ho1;refine hK _ _ ⟨trivial,un HSS _ _ ((un HF10).tail)⟩ ?_;clear hK K;have HFE:=zAb ((un HF10).row (un HL).1 (un HL).2 (J 2 1 (-3) (-1) 0 0 0 0 1 1));refine wL 6 rfl rfl (fun K hK=>?_);refine wp_store_row 180 (.tmp 4) (.tmp 16) rfl k (J 2 1 (-3) (-1) 0 0 0 0 1 1) rfl rfl 180 _ ((un HF10).bx (k,z10) (by simp)).2 (by rw[zAu];rfl) rfl (by kernel_rfl) (hK _ _ (un HSS _ _ (un HFE).tail) ?_);clear hK K;refine wDn ?_;generalize W10.setRow k (J 2 1 (-3) (-1) 0 0 0 0 1 1)=U at HFE ⊢
    go_wp2_with fail
    go_meet
    exact⟨k,rfl,HFE⟩
  ·skip
   go_simp
   have HL:Hid (w.heap.size≤W6.heap.size∧∀p:Nat×Array Value,p∈([(k3,J 0 0 1 1 0 0 0 0 1 1),(b1,J 2 1 (-3) 0 0 0 0 0 1 1)]:List (Nat×Array Value))→¬W6.heap.size=p.1):=⟨(un HF6).on.size,fun p hp=>Nat.ne_of_gt ((un HF6).bx p hp).2.lt⟩;have HF7:=zAb ((un HF6).alloc z10);refine hK _ _ ⟨trivial,un HSS _ _ (un HF7).tail⟩ ?_;clear hK K;generalize hW7:W6.alloc (.cells z10 180)=W7 at *
   clear hW7;generalize W6.heap.size=k at *
   refine wO 2 rfl rfl (fun K hK=>?_)
   go_simp
   refine(siOne3 _).mono ?_;rintro e W8 ⟨rfl,hb⟩;have HF8:=zAb ((un HF7).later hb);clear hb;refine hK _ _ ⟨trivial,un HSS _ _ ((un HF8).tail)⟩ ?_;clear hK K;refine wO 3 rfl rfl (fun K hK=>?_)
   go_simp
   refine(zDz 2 1 (-3) 0 0 0 0 0 1 1 0 0 0 1 0 0 0 0 1 1 2 1 (-3) (-1) 0 0 0 0 1 1 _ (by decide +kernel)).mono ?_;rintro e W9 ⟨rfl,hb⟩;have HF9:=zAb ((un HF8).later hb);clear hb;refine hK _ _ ⟨trivial,un HSS _ _ ((un HF9).tail)⟩ ?_;clear hK K;refine wO 4 rfl rfl (fun K hK=>?_)
   go_simp
   refine(zDa 2 1 (-3) (-1) 0 0 0 0 1 1 g zDr zDq _ (un HF9).gr rfl rfl (by kernel_rfl)).mono ?_;rintro e W10 ⟨rfl,hg1,ho1⟩;have HF10:=zAb ((un HF9).put hg1 ho1);clear hg1 ho1;refine hK _ _ ⟨trivial,un HSS _ _ ((un HF10).tail)⟩ ?_;clear hK K;have HFE:=zAb ((un HF10).row (un HL).1 (un HL).2 (J 2 1 (-3) (-1) 0 0 0 0 1 1));refine wL 6 rfl rfl (fun K hK=>?_);refine wp_store_row 180 (.tmp 4) (.tmp 16) rfl k (J 2 1 (-3) (-1) 0 0 0 0 1 1) rfl rfl 180 _ ((un HF10).bx (k,z10) (by simp)).2 (by rw[zAu];rfl) rfl (by kernel_rfl) (hK _ _ (un HSS _ _ (un HFE).tail) ?_);clear hK K;refine wDn ?_;generalize W10.setRow k (J 2 1 (-3) (-1) 0 0 0 0 1 1)=U at HFE ⊢
   go_wp2_with fail
   go_meet
   exact⟨k,rfl,HFE⟩
 case rest=>
  obtain⟨k4,rfl,HF25⟩:=hcut;generalize wc=W25 at HF25 ⊢
  have x0_0:W25.cell? ⟨k3,0,none⟩=some (I 0):=((un HF25).bx (k3,J 0 0 1 1 0 0 0 0 1 1) (by simp)).2.ub.c 0 _ rfl;have x0_1:W25.cell? ⟨k3,1,none⟩=some (I 0):=((un HF25).bx (k3,J 0 0 1 1 0 0 0 0 1 1) (by simp)).2.ub.c 1 _ rfl;have x0_2:W25.cell? ⟨k3,2,none⟩=some (I 1):=((un HF25).bx (k3,J 0 0 1 1 0 0 0 0 1 1) (by simp)).2.ub.c 2 _ rfl;have x0_3:W25.cell? ⟨k3,3,none⟩=some (I 1):=((un HF25).bx (k3,J 0 0 1 1 0 0 0 0 1 1) (by simp)).2.ub.c 3 _ rfl;have x0_4:W25.cell? ⟨k3,4,none⟩=some (I 0):=((un HF25).bx (k3,J 0 0 1 1 0 0 0 0 1 1) (by simp)).2.ub.c 4 _ rfl;have x0_5:W25.cell? ⟨k3,5,none⟩=some (I 0):=((un HF25).bx (k3,J 0 0 1 1 0 0 0 0 1 1) (by simp)).2.ub.c 5 _ rfl;have x0_6:W25.cell? ⟨k3,6,none⟩=some (I 0):=((un HF25).bx (k3,J 0 0 1 1 0 0 0 0 1 1) (by simp)).2.ub.c 6 _ rfl;have x0_7:W25.cell? ⟨k3,7,none⟩=some (I 0):=((un HF25).bx (k3,J 0 0 1 1 0 0 0 0 1 1) (by simp)).2.ub.c 7 _ rfl;have x0_8:W25.cell? ⟨k3,8,none⟩=some (I 1):=((un HF25).bx (k3,J 0 0 1 1 0 0 0 0 1 1) (by simp)).2.ub.c 8 _ rfl;have x0_9:W25.cell? ⟨k3,9,none⟩=some (I 1):=((un HF25).bx (k3,J 0 0 1 1 0 0 0 0 1 1) (by simp)).2.ub.c 9 _ rfl;have x1_0:W25.cell? ⟨k4,0,none⟩=some (I 2):=((un HF25).bx (k4,J 2 1 (-3) (-1) 0 0 0 0 1 1) (by simp)).2.ub.c 0 _ rfl;have x1_1:W25.cell? ⟨k4,1,none⟩=some (I 1):=((un HF25).bx (k4,J 2 1 (-3) (-1) 0 0 0 0 1 1) (by simp)).2.ub.c 1 _ rfl;have x1_2:W25.cell? ⟨k4,2,none⟩=some (I (-3)):=((un HF25).bx (k4,J 2 1 (-3) (-1) 0 0 0 0 1 1) (by simp)).2.ub.c 2 _ rfl;have x1_3:W25.cell? ⟨k4,3,none⟩=some (I (-1)):=((un HF25).bx (k4,J 2 1 (-3) (-1) 0 0 0 0 1 1) (by simp)).2.ub.c 3 _ rfl;have x1_4:W25.cell? ⟨k4,4,none⟩=some (I 0):=((un HF25).bx (k4,J 2 1 (-3) (-1) 0 0 0 0 1 1) (by simp)).2.ub.c 4 _ rfl;have x1_5:W25.cell? ⟨k4,5,none⟩=some (I 0):=((un HF25).bx (k4,J 2 1 (-3) (-1) 0 0 0 0 1 1) (by simp)).2.ub.c 5 _ rfl;have x1_6:W25.cell? ⟨k4,6,none⟩=some (I 0):=((un HF25).bx (k4,J 2 1 (-3) (-1) 0 0 0 0 1 1) (by simp)).2.ub.c 6 _ rfl;have x1_7:W25.cell? ⟨k4,7,none⟩=some (I 0):=((un HF25).bx (k4,J 2 1 (-3) (-1) 0 0 0 0 1 1) (by simp)).2.ub.c 7 _ rfl;have x1_8:W25.cell? ⟨k4,8,none⟩=some (I 1):=((un HF25).bx (k4,J 2 1 (-3) (-1) 0 0 0 0 1 1) (by simp)).2.ub.c 8 _ rfl;have x1_9:W25.cell? ⟨k4,9,none⟩=some (I 1):=((un HF25).bx (k4,J 2 1 (-3) (-1) 0 0 0 0 1 1) (by simp)).2.ub.c 9 _ rfl
  go_upto_region 3 with (first
  | (go_at_call 367;go_must(refine(put2_of (-2) (-1) 4 2 0 0 0 0 1 1 g zDq zDp _ (un HF26).gr rfl rfl (by kernel_rfl)).mono ?_;rintro e W27 ⟨rfl,hg1,ho1⟩;have HF27:=zAb ((un HF26).put hg1 ho1);clear hg1 ho1))
  | (go_at_call 316;have hchk:=HF25;clear hchk;refine(zDz 0 0 1 1 0 0 0 0 1 1 2 1 (-3) (-1) 0 0 0 0 1 1 (-2) (-1) 4 2 0 0 0 0 1 1 _ (by decide +kernel)).mono ?_;rintro e W26 ⟨rfl,hb⟩;have HF26:=zAb ((un HF25).later hb);clear hb x0_0 x0_1 x0_2 x0_3 x0_4 x0_5 x0_6 x0_7 x0_8 x0_9 x1_0 x1_1 x1_2 x1_3 x1_4 x1_5 x1_6 x1_7 x1_8 x1_9))
  go_wp2_with fail
  go_cut [5]from 22 (fun s9 wx=>∃k,s9=.pointer (some ⟨k,0,none⟩)∧Hid (FS w wx g zDc ((k,J 2 1 (-3) (-2) 0 0 0 0 1 1) :: [(k4,J 2 1 (-3) (-1) 0 0 0 0 1 1),(k3,J 0 0 1 1 0 0 0 0 1 1),(b1,J 2 1 (-3) 0 0 0 0 0 1 1)])))
  case first=>
   have HSS:Hid (∀(W':World) (vs:Array Value),FS w W' g vs [(k4,J 2 1 (-3) (-1) 0 0 0 0 1 1),(k3,J 0 0 1 1 0 0 0 0 1 1),(b1,J 2 1 (-3) 0 0 0 0 0 1 1)]→C10 W' k4 (I 2) (I 1) (I (-3)) (I (-1)) (I 0) (I 0) (I 0) (I 0) (I 1) (I 1)):=fun W' vs h=>(h.bx (k4,J 2 1 (-3) (-1) 0 0 0 0 1 1) (by simp)).2.c10
   have HF28:Hid (FS w (W27.drew) g zDp [(k4,J 2 1 (-3) (-1) 0 0 0 0 1 1),(k3,J 0 0 1 1 0 0 0 0 1 1),(b1,J 2 1 (-3) 0 0 0 0 0 1 1)]):=(un HF27).later (Below.refl _ _).drew;have HS28:=zAb (un HSS _ _ (un HF28));refine zAi 6 (fun _=>True) (fun W'=>W'.cell? ⟨k4,0,none⟩=some (I 2)∧W'.cell? ⟨k4,1,none⟩=some (I 1)∧W'.cell? ⟨k4,2,none⟩=some (I (-3))∧W'.cell? ⟨k4,3,none⟩=some (I (-1))∧W'.cell? ⟨k4,4,none⟩=some (I 0)∧W'.cell? ⟨k4,5,none⟩=some (I 0)∧W'.cell? ⟨k4,6,none⟩=some (I 0)∧W'.cell? ⟨k4,7,none⟩=some (I 0)∧W'.cell? ⟨k4,8,none⟩=some (I 1)∧W'.cell? ⟨k4,9,none⟩=some (I 1)) 7 rfl (by kernel_rfl) ?_;refine wT7 0 (.func (.func 367) #[] #[.pointer (some ⟨g,0,none⟩)]) rfl (Or.inl ⟨by rfl,?_⟩) ⟨trivial,un HS28⟩ ?_
   ·intro W hW
    go_split_ands
    go_simp
   refine wT7 1 (.agg (J 2 1 (-3) (-1) 0 0 0 0 1 1)) rfl (Or.inl ⟨by rfl,?_⟩) ⟨trivial,un HS28⟩ ?_
   ·intro W hW
    go_split_ands
    go_simp
   clear HS28;generalize W27.drew=W28 at *
   refine zBn (i:=2) (j:=5) (by kernel_rfl) rfl rfl rfl rfl (fun K hK=>?_) (fun K hK=>?_)
   ·skip
    go_simp
    refine(siOne3 _).mono ?_;rintro e W29 ⟨rfl,hb⟩;have HF29:=zAb ((un HF28).later hb);clear hb;refine hK _ _ ⟨trivial,un HSS _ _ (un HF29)⟩ ?_;clear hK K;refine zBn (i:=3) (j:=5) (by kernel_rfl) rfl rfl rfl rfl (fun K hK=>?_) (fun K hK=>?_)
    ·skip
     go_simp
     refine(zDz 2 1 (-3) (-1) 0 0 0 0 1 1 0 0 0 1 0 0 0 0 1 1 2 1 (-3) (-2) 0 0 0 0 1 1 _ (by decide +kernel)).mono ?_;rintro e W30 ⟨rfl,hb⟩;have HF30:=zAb ((un HF29).later hb);clear hb;refine hK _ _ ⟨trivial,un HSS _ _ (un HF30)⟩ ?_;clear hK K;refine zBn (i:=4) (j:=5) (by kernel_rfl) rfl rfl rfl rfl (fun K hK=>?_) (fun K hK=>?_)
     ·skip
      go_simp
      refine(put3_of 2 1 (-3) (-2) 0 0 0 0 1 1 g zDp zDc _ (un HF30).gr rfl rfl (by kernel_rfl)).mono ?_;rintro e W31 ⟨rfl,hg1,ho1⟩;have HF31:=zAb ((un HF30).put hg1 ho1);clear hg1 ho1;refine hK _ _ ⟨trivial,un HSS _ _ (un HF31)⟩ ?_;clear hK K;refine wO 5 rfl rfl (fun K hK=>?_)
      go_simp
      have HL:Hid (w.heap.size≤W31.heap.size∧∀p:Nat×Array Value,p∈([(k4,J 2 1 (-3) (-1) 0 0 0 0 1 1),(k3,J 0 0 1 1 0 0 0 0 1 1),(b1,J 2 1 (-3) 0 0 0 0 0 1 1)]:List (Nat×Array Value))→¬W31.heap.size=p.1):=⟨(un HF31).on.size,fun p hp=>Nat.ne_of_gt ((un HF31).bx p hp).2.lt⟩;have HF32:=zAb ((un HF31).alloc z10);refine hK _ _ ⟨trivial,un HSS _ _ (un HF32).tail⟩ ?_;clear hK K;generalize hW32:W31.alloc (.cells z10 180)=W32 at *
      clear hW32;generalize W31.heap.size=k at *
      have HFE:=zAb ((un HF32).row (un HL).1 (un HL).2 (J 2 1 (-3) (-2) 0 0 0 0 1 1));refine wL 6 rfl rfl (fun K hK=>?_);refine wp_store_row 180 (.tmp 5) (.tmp 26) rfl k (J 2 1 (-3) (-2) 0 0 0 0 1 1) rfl rfl 180 _ ((un HF32).bx (k,z10) (by simp)).2 (by rw[zAu];rfl) rfl (by kernel_rfl) (hK _ _ (un HSS _ _ (un HFE).tail) ?_);clear hK K;refine wDn ?_;generalize W32.setRow k (J 2 1 (-3) (-2) 0 0 0 0 1 1)=U at HFE ⊢
      go_wp2_with fail
      go_meet
      exact⟨k,rfl,HFE⟩
     ·skip
      go_simp
      have HL:Hid (w.heap.size≤W30.heap.size∧∀p:Nat×Array Value,p∈([(k4,J 2 1 (-3) (-1) 0 0 0 0 1 1),(k3,J 0 0 1 1 0 0 0 0 1 1),(b1,J 2 1 (-3) 0 0 0 0 0 1 1)]:List (Nat×Array Value))→¬W30.heap.size=p.1):=⟨(un HF30).on.size,fun p hp=>Nat.ne_of_gt ((un HF30).bx p hp).2.lt⟩;have HF31:=zAb ((un HF30).alloc z10);refine hK _ _ ⟨trivial,un HSS _ _ (un HF31).tail⟩ ?_;clear hK K;generalize hW31:W30.alloc (.cells z10 180)=W31 at *
      clear hW31;generalize W30.heap.size=k at *
      refine wO 4 rfl rfl (fun K hK=>?_)
      go_simp
      refine(put3_of 2 1 (-3) (-2) 0 0 0 0 1 1 g zDp zDc _ (un HF31).gr rfl rfl (by kernel_rfl)).mono ?_;rintro e W32 ⟨rfl,hg1,ho1⟩;have HF32:=zAb ((un HF31).put hg1 ho1);clear hg1 ho1;refine hK _ _ ⟨trivial,un HSS _ _ ((un HF32).tail)⟩ ?_;clear hK K;have HFE:=zAb ((un HF32).row (un HL).1 (un HL).2 (J 2 1 (-3) (-2) 0 0 0 0 1 1));refine wL 6 rfl rfl (fun K hK=>?_);refine wp_store_row 180 (.tmp 5) (.tmp 26) rfl k (J 2 1 (-3) (-2) 0 0 0 0 1 1) rfl rfl 180 _ ((un HF32).bx (k,z10) (by simp)).2 (by rw[zAu];rfl) rfl (by kernel_rfl) (hK _ _ (un HSS _ _ (un HFE).tail) ?_);clear hK K;refine wDn ?_;generalize W32.setRow k (J 2 1 (-3) (-2) 0 0 0 0 1 1)=U at HFE ⊢
      go_wp2_with fail
      go_meet
      exact⟨k,rfl,HFE⟩
    ·skip
     go_simp
     have HL:Hid (w.heap.size≤W29.heap.size∧∀p:Nat×Array Value,p∈([(k4,J 2 1 (-3) (-1) 0 0 0 0 1 1),(k3,J 0 0 1 1 0 0 0 0 1 1),(b1,J 2 1 (-3) 0 0 0 0 0 1 1)]:List (Nat×Array Value))→¬W29.heap.size=p.1):=⟨(un HF29).on.size,fun p hp=>Nat.ne_of_gt ((un HF29).bx p hp).2.lt⟩;have HF30:=zAb ((un HF29).alloc z10);refine hK _ _ ⟨trivial,un HSS _ _ (un HF30).tail⟩ ?_;clear hK K;generalize hW30:W29.alloc (.cells z10 180)=W30 at *
     clear hW30;generalize W29.heap.size=k at *
     refine wO 3 rfl rfl (fun K hK=>?_)
     go_simp
     refine(zDz 2 1 (-3) (-1) 0 0 0 0 1 1 0 0 0 1 0 0 0 0 1 1 2 1 (-3) (-2) 0 0 0 0 1 1 _ (by decide +kernel)).mono ?_;rintro e W31 ⟨rfl,hb⟩;have HF31:=zAb ((un HF30).later hb);clear hb;refine hK _ _ ⟨trivial,un HSS _ _ ((un HF31).tail)⟩ ?_;clear hK K;refine wO 4 rfl rfl (fun K hK=>?_)
     go_simp
     refine(put3_of 2 1 (-3) (-2) 0 0 0 0 1 1 g zDp zDc _ (un HF31).gr rfl rfl (by kernel_rfl)).mono ?_;rintro e W32 ⟨rfl,hg1,ho1⟩;have HF32:=zAb ((un HF31).put hg1 ho1);clear hg1 ho1;refine hK _ _ ⟨trivial,un HSS _ _ ((un HF32).tail)⟩ ?_;clear hK K;have HFE:=zAb ((un HF32).row (un HL).1 (un HL).2 (J 2 1 (-3) (-2) 0 0 0 0 1 1));refine wL 6 rfl rfl (fun K hK=>?_);refine wp_store_row 180 (.tmp 5) (.tmp 26) rfl k (J 2 1 (-3) (-2) 0 0 0 0 1 1) rfl rfl 180 _ ((un HF32).bx (k,z10) (by simp)).2 (by rw[zAu];rfl) rfl (by kernel_rfl) (hK _ _ (un HSS _ _ (un HFE).tail) ?_);clear hK K;refine wDn ?_;generalize W32.setRow k (J 2 1 (-3) (-2) 0 0 0 0 1 1)=U at HFE ⊢
     go_wp2_with fail
     go_meet
     exact⟨k,rfl,HFE⟩
   ·skip
    go_simp
    have HL:Hid (w.heap.size≤W28.heap.size∧∀p:Nat×Array Value,p∈([(k4,J 2 1 (-3) (-1) 0 0 0 0 1 1),(k3,J 0 0 1 1 0 0 0 0 1 1),(b1,J 2 1 (-3) 0 0 0 0 0 1 1)]:List (Nat×Array Value))→¬W28.heap.size=p.1):=⟨(un HF28).on.size,fun p hp=>Nat.ne_of_gt ((un HF28).bx p hp).2.lt⟩;have HF29:=zAb ((un HF28).alloc z10);refine hK _ _ ⟨trivial,un HSS _ _ (un HF29).tail⟩ ?_;clear hK K;generalize hW29:W28.alloc (.cells z10 180)=W29 at *
    clear hW29;generalize W28.heap.size=k at *
    refine wO 2 rfl rfl (fun K hK=>?_)
    go_simp
    refine(siOne3 _).mono ?_;rintro e W30 ⟨rfl,hb⟩;have HF30:=zAb ((un HF29).later hb);clear hb;refine hK _ _ ⟨trivial,un HSS _ _ ((un HF30).tail)⟩ ?_;clear hK K;refine wO 3 rfl rfl (fun K hK=>?_)
    go_simp
    refine(zDz 2 1 (-3) (-1) 0 0 0 0 1 1 0 0 0 1 0 0 0 0 1 1 2 1 (-3) (-2) 0 0 0 0 1 1 _ (by decide +kernel)).mono ?_;rintro e W31 ⟨rfl,hb⟩;have HF31:=zAb ((un HF30).later hb);clear hb;refine hK _ _ ⟨trivial,un HSS _ _ ((un HF31).tail)⟩ ?_;clear hK K;refine wO 4 rfl rfl (fun K hK=>?_)
    go_simp
    refine(put3_of 2 1 (-3) (-2) 0 0 0 0 1 1 g zDp zDc _ (un HF31).gr rfl rfl (by kernel_rfl)).mono ?_;rintro e W32 ⟨rfl,hg1,ho1⟩;have HF32:=zAb ((un HF31).put hg1 ho1);clear hg1 ho1;refine hK _ _ ⟨trivial,un HSS _ _ ((un HF32).tail)⟩ ?_;clear hK K;have HFE:=zAb ((un HF32).row (un HL).1 (un HL).2 (J 2 1 (-3) (-2) 0 0 0 0 1 1));refine wL 6 rfl rfl (fun K hK=>?_);refine wp_store_row 180 (.tmp 5) (.tmp 26) rfl k (J 2 1 (-3) (-2) 0 0 0 0 1 1) rfl rfl 180 _ ((un HF32).bx (k,z10) (by simp)).2 (by rw[zAu];rfl) rfl (by kernel_rfl) (hK _ _ (un HSS _ _ (un HFE).tail) ?_);clear hK K;refine wDn ?_;generalize W32.setRow k (J 2 1 (-3) (-2) 0 0 0 0 1 1)=U at HFE ⊢
    go_wp2_with fail
    go_meet
    exact⟨k,rfl,HFE⟩
  case rest=>
   obtain⟨k5,rfl,HF47⟩:=hcut;generalize wc=W47 at HF47 ⊢
   go_upto_region 4 with fail
   have HSS:Hid (∀(W':World) (vs:Array Value),FS w W' g vs [(k5,J 2 1 (-3) (-2) 0 0 0 0 1 1),(k4,J 2 1 (-3) (-1) 0 0 0 0 1 1),(k3,J 0 0 1 1 0 0 0 0 1 1),(b1,J 2 1 (-3) 0 0 0 0 0 1 1)]→C10 W' k5 (I 2) (I 1) (I (-3)) (I (-2)) (I 0) (I 0) (I 0) (I 0) (I 1) (I 1)):=fun W' vs h=>(h.bx (k5,J 2 1 (-3) (-2) 0 0 0 0 1 1) (by simp)).2.c10
   have HF48:Hid (FS w (W47.drew) g zDc [(k5,J 2 1 (-3) (-2) 0 0 0 0 1 1),(k4,J 2 1 (-3) (-1) 0 0 0 0 1 1),(k3,J 0 0 1 1 0 0 0 0 1 1),(b1,J 2 1 (-3) 0 0 0 0 0 1 1)]):=(un HF47).later (Below.refl _ _).drew;have HS48:=zAb (un HSS _ _ (un HF48));refine zAi 4 (fun _=>True) (fun W'=>W'.cell? ⟨k5,0,none⟩=some (I 2)∧W'.cell? ⟨k5,1,none⟩=some (I 1)∧W'.cell? ⟨k5,2,none⟩=some (I (-3))∧W'.cell? ⟨k5,3,none⟩=some (I (-2))∧W'.cell? ⟨k5,4,none⟩=some (I 0)∧W'.cell? ⟨k5,5,none⟩=some (I 0)∧W'.cell? ⟨k5,6,none⟩=some (I 0)∧W'.cell? ⟨k5,7,none⟩=some (I 0)∧W'.cell? ⟨k5,8,none⟩=some (I 1)∧W'.cell? ⟨k5,9,none⟩=some (I 1)) 5 rfl (by kernel_rfl) ?_;refine wT7 0 (.func (.func 367) #[] #[.pointer (some ⟨g,0,none⟩)]) rfl (Or.inl ⟨by rfl,?_⟩) ⟨trivial,un HS48⟩ ?_
   ·intro W hW
    go_split_ands
    go_simp
   refine wT7 2 (.agg (J 2 1 (-3) (-2) 0 0 0 0 1 1)) rfl (Or.inl ⟨by rfl,?_⟩) ⟨trivial,un HS48⟩ ?_
   ·intro W hW
    go_split_ands
    go_simp
   refine wO 1 rfl rfl (fun K hK=>?_)
   go_simp
   refine(zBp 1 _).mono ?_;rintro e W49 ⟨rfl,hb⟩;have HF49:=zAb ((un HF48).later hb);clear hb;refine hK _ _ ⟨trivial,un HSS _ _ (un HF49)⟩ ?_;clear hK K;refine wO 3 rfl rfl (fun K hK=>?_)
   go_simp
   refine(zDz 0 0 0 0 0 0 0 0 1 1 2 1 (-3) (-2) 0 0 0 0 1 1 (-2) (-1) 3 2 0 0 0 0 1 1 _ (by decide +kernel)).mono ?_;rintro e W50 ⟨rfl,hb⟩;have HF50:=zAb ((un HF49).later hb);clear hb;refine hK _ _ ⟨trivial,un HSS _ _ (un HF50)⟩ ?_;clear hK K;refine wL 4 rfl rfl (fun K hK=>?_)
   go_simp
   refine(put4_of (-2) (-1) 3 2 0 0 0 0 1 1 g zDc zDn _ (un HF50).gr rfl rfl (by kernel_rfl)).mono ?_;rintro e W51 ⟨rfl,hg1,ho1⟩;have HF51:=zAb ((un HF50).put hg1 ho1);clear hg1 ho1;refine hK _ _ (un HSS _ _ (un HF51)) ?_;clear hK K;refine wDn ?_;clear HSS HS48
   go_wp2_with fail
   go_cut [6]from 32 (fun s9 wx=>∃k,s9=.pointer (some ⟨k,0,none⟩)∧Hid (FS w wx g zDb ((k,J 2 1 (-2) (-1) 0 0 0 0 1 1) :: [(k5,J 2 1 (-3) (-2) 0 0 0 0 1 1),(k4,J 2 1 (-3) (-1) 0 0 0 0 1 1),(k3,J 0 0 1 1 0 0 0 0 1 1),(b1,J 2 1 (-3) 0 0 0 0 0 1 1)])))
   case first=>
    have HSS:Hid (∀(W':World) (vs:Array Value),FS w W' g vs [(k5,J 2 1 (-3) (-2) 0 0 0 0 1 1),(k4,J 2 1 (-3) (-1) 0 0 0 0 1 1),(k3,J 0 0 1 1 0 0 0 0 1 1),(b1,J 2 1 (-3) 0 0 0 0 0 1 1)]→C10 W' k4 (I 2) (I 1) (I (-3)) (I (-1)) (I 0) (I 0) (I 0) (I 0) (I 1) (I 1)):=fun W' vs h=>(h.bx (k4,J 2 1 (-3) (-1) 0 0 0 0 1 1) (by simp)).2.c10
    have HF52:Hid (FS w (W51.drew) g zDn [(k5,J 2 1 (-3) (-2) 0 0 0 0 1 1),(k4,J 2 1 (-3) (-1) 0 0 0 0 1 1),(k3,J 0 0 1 1 0 0 0 0 1 1),(b1,J 2 1 (-3) 0 0 0 0 0 1 1)]):=(un HF51).later (Below.refl _ _).drew;have HS52:=zAb (un HSS _ _ (un HF52));refine zAi 6 (fun _=>True) (fun W'=>W'.cell? ⟨k4,0,none⟩=some (I 2)∧W'.cell? ⟨k4,1,none⟩=some (I 1)∧W'.cell? ⟨k4,2,none⟩=some (I (-3))∧W'.cell? ⟨k4,3,none⟩=some (I (-1))∧W'.cell? ⟨k4,4,none⟩=some (I 0)∧W'.cell? ⟨k4,5,none⟩=some (I 0)∧W'.cell? ⟨k4,6,none⟩=some (I 0)∧W'.cell? ⟨k4,7,none⟩=some (I 0)∧W'.cell? ⟨k4,8,none⟩=some (I 1)∧W'.cell? ⟨k4,9,none⟩=some (I 1)) 7 rfl (by kernel_rfl) ?_;refine wT7 0 (.func (.func 367) #[] #[.pointer (some ⟨g,0,none⟩)]) rfl (Or.inl ⟨by rfl,?_⟩) ⟨trivial,un HS52⟩ ?_
    ·intro W hW
     go_split_ands
     go_simp
    refine wT7 1 (.agg (J 2 1 (-3) (-1) 0 0 0 0 1 1)) rfl (Or.inl ⟨by rfl,?_⟩) ⟨trivial,un HS52⟩ ?_
    ·intro W hW
     go_split_ands
     go_simp
    clear HS52;generalize W51.drew=W52 at *
    refine zBn (i:=2) (j:=5) (by kernel_rfl) rfl rfl rfl rfl (fun K hK=>?_) (fun K hK=>?_)
    ·skip
     go_simp
     refine(siOne2 _).mono ?_;rintro e W53 ⟨rfl,hb⟩;have HF53:=zAb ((un HF52).later hb);clear hb;refine hK _ _ ⟨trivial,un HSS _ _ (un HF53)⟩ ?_;clear hK K;refine zBn (i:=3) (j:=5) (by kernel_rfl) rfl rfl rfl rfl (fun K hK=>?_) (fun K hK=>?_)
     ·skip
      go_simp
      refine(zBe 2 1 (-3) (-1) 0 0 0 0 1 1 0 0 1 0 0 0 0 0 1 1 2 1 (-2) (-1) 0 0 0 0 1 1 _ (by decide +kernel)).mono ?_;rintro e W54 ⟨rfl,hb⟩;have HF54:=zAb ((un HF53).later hb);clear hb;refine hK _ _ ⟨trivial,un HSS _ _ (un HF54)⟩ ?_;clear hK K;refine zBn (i:=4) (j:=5) (by kernel_rfl) rfl rfl rfl rfl (fun K hK=>?_) (fun K hK=>?_)
      ·skip
       go_simp
       refine(put5_of 2 1 (-2) (-1) 0 0 0 0 1 1 g zDn zDb _ (un HF54).gr rfl rfl (by kernel_rfl)).mono ?_;rintro e W55 ⟨rfl,hg1,ho1⟩;have HF55:=zAb ((un HF54).put hg1 ho1);clear hg1 ho1;refine hK _ _ ⟨trivial,un HSS _ _ (un HF55)⟩ ?_;clear hK K;refine wO 5 rfl rfl (fun K hK=>?_)
       go_simp
       have HL:Hid (w.heap.size≤W55.heap.size∧∀p:Nat×Array Value,p∈([(k5,J 2 1 (-3) (-2) 0 0 0 0 1 1),(k4,J 2 1 (-3) (-1) 0 0 0 0 1 1),(k3,J 0 0 1 1 0 0 0 0 1 1),(b1,J 2 1 (-3) 0 0 0 0 0 1 1)]:List (Nat×Array Value))→¬W55.heap.size=p.1):=⟨(un HF55).on.size,fun p hp=>Nat.ne_of_gt ((un HF55).bx p hp).2.lt⟩;have HF56:=zAb ((un HF55).alloc z10);refine hK _ _ ⟨trivial,un HSS _ _ (un HF56).tail⟩ ?_;clear hK K;generalize hW56:W55.alloc (.cells z10 180)=W56 at *
       clear hW56;generalize W55.heap.size=k at *
       have HFE:=zAb ((un HF56).row (un HL).1 (un HL).2 (J 2 1 (-2) (-1) 0 0 0 0 1 1));refine wL 6 rfl rfl (fun K hK=>?_);refine wp_store_row 180 (.tmp 6) (.tmp 36) rfl k (J 2 1 (-2) (-1) 0 0 0 0 1 1) rfl rfl 180 _ ((un HF56).bx (k,z10) (by simp)).2 (by rw[zAu];rfl) rfl (by kernel_rfl) (hK _ _ (un HSS _ _ (un HFE).tail) ?_);clear hK K;refine wDn ?_;generalize W56.setRow k (J 2 1 (-2) (-1) 0 0 0 0 1 1)=U at HFE ⊢
       go_wp2_with fail
       go_meet
       exact⟨k,rfl,HFE⟩
      ·skip
       go_simp
       have HL:Hid (w.heap.size≤W54.heap.size∧∀p:Nat×Array Value,p∈([(k5,J 2 1 (-3) (-2) 0 0 0 0 1 1),(k4,J 2 1 (-3) (-1) 0 0 0 0 1 1),(k3,J 0 0 1 1 0 0 0 0 1 1),(b1,J 2 1 (-3) 0 0 0 0 0 1 1)]:List (Nat×Array Value))→¬W54.heap.size=p.1):=⟨(un HF54).on.size,fun p hp=>Nat.ne_of_gt ((un HF54).bx p hp).2.lt⟩;have HF55:=zAb ((un HF54).alloc z10);refine hK _ _ ⟨trivial,un HSS _ _ (un HF55).tail⟩ ?_;clear hK K;generalize hW55:W54.alloc (.cells z10 180)=W55 at *
       clear hW55;generalize W54.heap.size=k at *
       refine wO 4 rfl rfl (fun K hK=>?_)
       go_simp
       refine(put5_of 2 1 (-2) (-1) 0 0 0 0 1 1 g zDn zDb _ (un HF55).gr rfl rfl (by kernel_rfl)).mono ?_;rintro e W56 ⟨rfl,hg1,ho1⟩;have HF56:=zAb ((un HF55).put hg1 ho1);clear hg1 ho1;refine hK _ _ ⟨trivial,un HSS _ _ ((un HF56).tail)⟩ ?_;clear hK K;have HFE:=zAb ((un HF56).row (un HL).1 (un HL).2 (J 2 1 (-2) (-1) 0 0 0 0 1 1));refine wL 6 rfl rfl (fun K hK=>?_);refine wp_store_row 180 (.tmp 6) (.tmp 36) rfl k (J 2 1 (-2) (-1) 0 0 0 0 1 1) rfl rfl 180 _ ((un HF56).bx (k,z10) (by simp)).2 (by rw[zAu];rfl) rfl (by kernel_rfl) (hK _ _ (un HSS _ _ (un HFE).tail) ?_);clear hK K;refine wDn ?_;generalize W56.setRow k (J 2 1 (-2) (-1) 0 0 0 0 1 1)=U at HFE ⊢
       go_wp2_with fail
       go_meet
       exact⟨k,rfl,HFE⟩
     ·skip
      go_simp
      have HL:Hid (w.heap.size≤W53.heap.size∧∀p:Nat×Array Value,p∈([(k5,J 2 1 (-3) (-2) 0 0 0 0 1 1),(k4,J 2 1 (-3) (-1) 0 0 0 0 1 1),(k3,J 0 0 1 1 0 0 0 0 1 1),(b1,J 2 1 (-3) 0 0 0 0 0 1 1)]:List (Nat×Array Value))→¬W53.heap.size=p.1):=⟨(un HF53).on.size,fun p hp=>Nat.ne_of_gt ((un HF53).bx p hp).2.lt⟩;have HF54:=zAb ((un HF53).alloc z10);refine hK _ _ ⟨trivial,un HSS _ _ (un HF54).tail⟩ ?_;clear hK K;generalize hW54:W53.alloc (.cells z10 180)=W54 at *
      clear hW54;generalize W53.heap.size=k at *
      refine wO 3 rfl rfl (fun K hK=>?_)
      go_simp
      refine(zBe 2 1 (-3) (-1) 0 0 0 0 1 1 0 0 1 0 0 0 0 0 1 1 2 1 (-2) (-1) 0 0 0 0 1 1 _ (by decide +kernel)).mono ?_;rintro e W55 ⟨rfl,hb⟩;have HF55:=zAb ((un HF54).later hb);clear hb;refine hK _ _ ⟨trivial,un HSS _ _ ((un HF55).tail)⟩ ?_;clear hK K;refine wO 4 rfl rfl (fun K hK=>?_)
      go_simp
      refine(put5_of 2 1 (-2) (-1) 0 0 0 0 1 1 g zDn zDb _ (un HF55).gr rfl rfl (by kernel_rfl)).mono ?_;rintro e W56 ⟨rfl,hg1,ho1⟩;have HF56:=zAb ((un HF55).put hg1 ho1);clear hg1 ho1;refine hK _ _ ⟨trivial,un HSS _ _ ((un HF56).tail)⟩ ?_;clear hK K;have HFE:=zAb ((un HF56).row (un HL).1 (un HL).2 (J 2 1 (-2) (-1) 0 0 0 0 1 1));refine wL 6 rfl rfl (fun K hK=>?_);refine wp_store_row 180 (.tmp 6) (.tmp 36) rfl k (J 2 1 (-2) (-1) 0 0 0 0 1 1) rfl rfl 180 _ ((un HF56).bx (k,z10) (by simp)).2 (by rw[zAu];rfl) rfl (by kernel_rfl) (hK _ _ (un HSS _ _ (un HFE).tail) ?_);clear hK K;refine wDn ?_;generalize W56.setRow k (J 2 1 (-2) (-1) 0 0 0 0 1 1)=U at HFE ⊢
      go_wp2_with fail
      go_meet
      exact⟨k,rfl,HFE⟩
    ·skip
     go_simp
     have HL:Hid (w.heap.size≤W52.heap.size∧∀p:Nat×Array Value,p∈([(k5,J 2 1 (-3) (-2) 0 0 0 0 1 1),(k4,J 2 1 (-3) (-1) 0 0 0 0 1 1),(k3,J 0 0 1 1 0 0 0 0 1 1),(b1,J 2 1 (-3) 0 0 0 0 0 1 1)]:List (Nat×Array Value))→¬W52.heap.size=p.1):=⟨(un HF52).on.size,fun p hp=>Nat.ne_of_gt ((un HF52).bx p hp).2.lt⟩;have HF53:=zAb ((un HF52).alloc z10);refine hK _ _ ⟨trivial,un HSS _ _ (un HF53).tail⟩ ?_;clear hK K;generalize hW53:W52.alloc (.cells z10 180)=W53 at *
     clear hW53;generalize W52.heap.size=k at *
     refine wO 2 rfl rfl (fun K hK=>?_)
     go_simp
     refine(siOne2 _).mono ?_;rintro e W54 ⟨rfl,hb⟩;have HF54:=zAb ((un HF53).later hb);clear hb;refine hK _ _ ⟨trivial,un HSS _ _ ((un HF54).tail)⟩ ?_;clear hK K;refine wO 3 rfl rfl (fun K hK=>?_)
     go_simp
     refine(zBe 2 1 (-3) (-1) 0 0 0 0 1 1 0 0 1 0 0 0 0 0 1 1 2 1 (-2) (-1) 0 0 0 0 1 1 _ (by decide +kernel)).mono ?_;rintro e W55 ⟨rfl,hb⟩;have HF55:=zAb ((un HF54).later hb);clear hb;refine hK _ _ ⟨trivial,un HSS _ _ ((un HF55).tail)⟩ ?_;clear hK K;refine wO 4 rfl rfl (fun K hK=>?_)
     go_simp
     refine(put5_of 2 1 (-2) (-1) 0 0 0 0 1 1 g zDn zDb _ (un HF55).gr rfl rfl (by kernel_rfl)).mono ?_;rintro e W56 ⟨rfl,hg1,ho1⟩;have HF56:=zAb ((un HF55).put hg1 ho1);clear hg1 ho1;refine hK _ _ ⟨trivial,un HSS _ _ ((un HF56).tail)⟩ ?_;clear hK K;have HFE:=zAb ((un HF56).row (un HL).1 (un HL).2 (J 2 1 (-2) (-1) 0 0 0 0 1 1));refine wL 6 rfl rfl (fun K hK=>?_);refine wp_store_row 180 (.tmp 6) (.tmp 36) rfl k (J 2 1 (-2) (-1) 0 0 0 0 1 1) rfl rfl 180 _ ((un HF56).bx (k,z10) (by simp)).2 (by rw[zAu];rfl) rfl (by kernel_rfl) (hK _ _ (un HSS _ _ (un HFE).tail) ?_);clear hK K;refine wDn ?_;generalize W56.setRow k (J 2 1 (-2) (-1) 0 0 0 0 1 1)=U at HFE ⊢
     go_wp2_with fail
     go_meet
     exact⟨k,rfl,HFE⟩
   case rest=>
    obtain⟨k6,rfl,HF71⟩:=hcut;generalize wc=W71 at HF71 ⊢
    go_upto_region 6 with fail
    have HSS:Hid (∀(W':World) (vs:Array Value),FS w W' g vs [(k6,J 2 1 (-2) (-1) 0 0 0 0 1 1),(k5,J 2 1 (-3) (-2) 0 0 0 0 1 1),(k4,J 2 1 (-3) (-1) 0 0 0 0 1 1),(k3,J 0 0 1 1 0 0 0 0 1 1),(b1,J 2 1 (-3) 0 0 0 0 0 1 1)]→C10 W' k6 (I 2) (I 1) (I (-2)) (I (-1)) (I 0) (I 0) (I 0) (I 0) (I 1) (I 1)):=fun W' vs h=>(h.bx (k6,J 2 1 (-2) (-1) 0 0 0 0 1 1) (by simp)).2.c10
    have HF72:Hid (FS w (W71.drew) g zDb [(k6,J 2 1 (-2) (-1) 0 0 0 0 1 1),(k5,J 2 1 (-3) (-2) 0 0 0 0 1 1),(k4,J 2 1 (-3) (-1) 0 0 0 0 1 1),(k3,J 0 0 1 1 0 0 0 0 1 1),(b1,J 2 1 (-3) 0 0 0 0 0 1 1)]):=(un HF71).later (Below.refl _ _).drew;have HS72:=zAb (un HSS _ _ (un HF72));refine zAi 6 (fun _=>True) (fun W'=>W'.cell? ⟨k6,0,none⟩=some (I 2)∧W'.cell? ⟨k6,1,none⟩=some (I 1)∧W'.cell? ⟨k6,2,none⟩=some (I (-2))∧W'.cell? ⟨k6,3,none⟩=some (I (-1))∧W'.cell? ⟨k6,4,none⟩=some (I 0)∧W'.cell? ⟨k6,5,none⟩=some (I 0)∧W'.cell? ⟨k6,6,none⟩=some (I 0)∧W'.cell? ⟨k6,7,none⟩=some (I 0)∧W'.cell? ⟨k6,8,none⟩=some (I 1)∧W'.cell? ⟨k6,9,none⟩=some (I 1)) 7 rfl (by kernel_rfl) ?_;refine wT7 0 (.func (.func 367) #[] #[.pointer (some ⟨g,0,none⟩)]) rfl (Or.inl ⟨by rfl,?_⟩) ⟨trivial,un HS72⟩ ?_
    ·intro W hW
     go_split_ands
     go_simp
    refine wT7 1 (.agg (J 2 1 (-2) (-1) 0 0 0 0 1 1)) rfl (Or.inl ⟨by rfl,?_⟩) ⟨trivial,un HS72⟩ ?_
    ·intro W hW
     go_split_ands
     go_simp
    refine wO 2 rfl rfl (fun K hK=>?_)
    go_simp
    refine(zEu _).mono ?_;rintro e W73 ⟨rfl,hb⟩;have HF73:=zAb ((un HF72).later hb);clear hb;refine hK _ _ ⟨trivial,un HSS _ _ (un HF73)⟩ ?_;clear hK K;refine wO 3 rfl rfl (fun K hK=>?_)
    go_simp
    refine(zDz 2 1 (-2) (-1) 0 0 0 0 1 1 1 0 0 0 0 0 0 0 1 1 1 1 (-2) (-1) 0 0 0 0 1 1 _ (by decide +kernel)).mono ?_;rintro e W74 ⟨rfl,hb⟩;have HF74:=zAb ((un HF73).later hb);clear hb;refine hK _ _ ⟨trivial,un HSS _ _ (un HF74)⟩ ?_;clear hK K;refine wO 4 rfl rfl (fun K hK=>?_)
    go_simp
    refine(zEu _).mono ?_;rintro e W75 ⟨rfl,hb⟩;have HF75:=zAb ((un HF74).later hb);clear hb;refine hK _ _ ⟨trivial,un HSS _ _ (un HF75)⟩ ?_;clear hK K;refine wO 5 rfl rfl (fun K hK=>?_)
    go_simp
    refine(zDz 1 1 (-2) (-1) 0 0 0 0 1 1 1 0 0 0 0 0 0 0 1 1 0 1 (-2) (-1) 0 0 0 0 1 1 _ (by decide +kernel)).mono ?_;rintro e W76 ⟨rfl,hb⟩;have HF76:=zAb ((un HF75).later hb);clear hb;refine hK _ _ ⟨trivial,un HSS _ _ (un HF76)⟩ ?_;clear hK K;refine wL 6 rfl rfl (fun K hK=>?_)
    go_simp
    refine(put6_of 0 1 (-2) (-1) 0 0 0 0 1 1 g zDb zGy _ (un HF76).gr rfl rfl (by kernel_rfl)).mono ?_;rintro e W77 ⟨rfl,hg1,ho1⟩;have HF77:=zAb ((un HF76).put hg1 ho1);clear hg1 ho1;refine hK _ _ (un HSS _ _ (un HF77)) ?_;clear hK K;refine wDn ?_;clear HSS HS72
    go_upto_region 7 with fail
    have HSS:Hid (∀(W':World) (vs:Array Value),FS w W' g vs [(k6,J 2 1 (-2) (-1) 0 0 0 0 1 1),(k5,J 2 1 (-3) (-2) 0 0 0 0 1 1),(k4,J 2 1 (-3) (-1) 0 0 0 0 1 1),(k3,J 0 0 1 1 0 0 0 0 1 1),(b1,J 2 1 (-3) 0 0 0 0 0 1 1)]→C10 W' k6 (I 2) (I 1) (I (-2)) (I (-1)) (I 0) (I 0) (I 0) (I 0) (I 1) (I 1)):=fun W' vs h=>(h.bx (k6,J 2 1 (-2) (-1) 0 0 0 0 1 1) (by simp)).2.c10
    have HF78:Hid (FS w (W77.drew) g zGy [(k6,J 2 1 (-2) (-1) 0 0 0 0 1 1),(k5,J 2 1 (-3) (-2) 0 0 0 0 1 1),(k4,J 2 1 (-3) (-1) 0 0 0 0 1 1),(k3,J 0 0 1 1 0 0 0 0 1 1),(b1,J 2 1 (-3) 0 0 0 0 0 1 1)]):=(un HF77).later (Below.refl _ _).drew;have HS78:=zAb (un HSS _ _ (un HF78));refine zAi 4 (fun _=>True) (fun W'=>W'.cell? ⟨k6,0,none⟩=some (I 2)∧W'.cell? ⟨k6,1,none⟩=some (I 1)∧W'.cell? ⟨k6,2,none⟩=some (I (-2))∧W'.cell? ⟨k6,3,none⟩=some (I (-1))∧W'.cell? ⟨k6,4,none⟩=some (I 0)∧W'.cell? ⟨k6,5,none⟩=some (I 0)∧W'.cell? ⟨k6,6,none⟩=some (I 0)∧W'.cell? ⟨k6,7,none⟩=some (I 0)∧W'.cell? ⟨k6,8,none⟩=some (I 1)∧W'.cell? ⟨k6,9,none⟩=some (I 1)) 5 rfl (by kernel_rfl) ?_;refine wT7 0 (.func (.func 367) #[] #[.pointer (some ⟨g,0,none⟩)]) rfl (Or.inl ⟨by rfl,?_⟩) ⟨trivial,un HS78⟩ ?_
    ·intro W hW
     go_split_ands
     go_simp
    refine wT7 1 (.agg (J 2 1 (-2) (-1) 0 0 0 0 1 1)) rfl (Or.inl ⟨by rfl,?_⟩) ⟨trivial,un HS78⟩ ?_
    ·intro W hW
     go_split_ands
     go_simp
    refine wO 2 rfl rfl (fun K hK=>?_)
    go_simp
    refine(siOne3 _).mono ?_;rintro e W79 ⟨rfl,hb⟩;have HF79:=zAb ((un HF78).later hb);clear hb;refine hK _ _ ⟨trivial,un HSS _ _ (un HF79)⟩ ?_;clear hK K;refine wO 3 rfl rfl (fun K hK=>?_)
    go_simp
    refine(zDz 2 1 (-2) (-1) 0 0 0 0 1 1 0 0 0 1 0 0 0 0 1 1 2 1 (-2) (-2) 0 0 0 0 1 1 _ (by decide +kernel)).mono ?_;rintro e W80 ⟨rfl,hb⟩;have HF80:=zAb ((un HF79).later hb);clear hb;refine hK _ _ ⟨trivial,un HSS _ _ (un HF80)⟩ ?_;clear hK K;refine wL 4 rfl rfl (fun K hK=>?_)
    go_simp
    refine(put7_of 2 1 (-2) (-2) 0 0 0 0 1 1 g zGy zBu _ (un HF80).gr rfl rfl (by kernel_rfl)).mono ?_;rintro e W81 ⟨rfl,hg1,ho1⟩;have HF81:=zAb ((un HF80).put hg1 ho1);clear hg1 ho1;refine hK _ _ (un HSS _ _ (un HF81)) ?_;clear hK K;refine wDn ?_;clear HSS HS78
    go_wp2_with fail
    go_end0
    exact⟨rfl,(un HF81).gr,(un HF81).on⟩
theorem grp_electric (b1:Nat) (w:World) (h1:zAc w b1 180 (J 2 1 (-3) 0 0 0 0 0 1 1)):Calls Tryz.prog 312 #[.func (.func 319) #[] #[.pointer (some ⟨b1,0,none⟩)]] w fun e w'=>e=.returned (.agg zBu)∧Bw w w':=by
 obtain⟨V,hV⟩:∃V,V=(w.alloc (.cells Tryz.zeroCells286 286)).alloc (.cells Tryz.zeroCells286 286):=⟨_,rfl⟩;obtain⟨g,hg⟩:∃g,g=w.heap.size+1:=⟨_,rfl⟩;have HW:Hid (Bw w V):=by rw[hV];exact bA.alloc (by simp) _
 have HR:Hid (zAc V w.heap.size 286 zAw):=by rw[hV,←zc91];exact(zAc.new w _ 286).alloc _
 have HG:Hid (zAc V g 286 zAw):=by rw[hV,hg,←zc91];have h:=zAc.new (w.alloc (.cells Tryz.zeroCells286 286)) Tryz.zeroCells286 286;rw[Dm.size_alloc]at h;exact h
 have HC1:Hid (zAc V b1 180 (J 2 1 (-3) 0 0 0 0 0 1 1)∧¬b1=g):=⟨h1.later (un HW),(by have:=h1.lt;omega)⟩;have HN:Hid (¬w.heap.size=g∧w.heap.size≤g∧w.heap.size≤V.heap.size):=⟨by omega,by omega,(un HW).size⟩;have HV:=zAb hV;clear hV h1;go_enter Tryz.func312,Tryz.ntmps312
 go_upto_region 2 with fail
 rw[←un HV,←hg];clear HV hg
 go_upto_region 3 with (go_at_call 319;go_must(refine(fill_electric g b1 _ (un HG) (un HC1).1 (un HC1).2).mono ?_;rintro e w1 ⟨rfl,hg1,ho1⟩;have HG1:=zAb hg1;have HR1:=zAb (ho1.own _ _ _ (un HN).1 (un HR));have HW1:=zAb (ho1.bel w.heap.size w (un HN).2.1 (un HN).2.2 (un HW));clear hg1 ho1))
 go_wp2_with (first
  | (refine wpList_load_row rfl 286 (.tmp 3) rfl g rfl 286 zBu (0,0) _ (un HG1) Tryz.underlying286 rfl (by kernel_rfl) ?_)
  | (refine zAn 286 81 zDe rfl (.tmp 2) (.tmp 7) rfl w.heap.size zAw zBu rfl rfl rfl rfl (un HR1) (by kernel_rfl) ?_))
 exact bodyPost_ret (v:=.agg zBu) (zFu Tryz.results312 _ _ w.heap.size _ rfl rfl ((un HR1).setRow _)) rfl ⟨rfl,below_setRow (un HW1) (Nat.le_refl _) _⟩
theorem fld_electric (w:World):(Instr.field 286 (.agg zCn) 0).run Tryz.prog w=.ok (.agg (zCn.extract 0 80)) w:=by kernel_rfl
theorem idx_electric (w:World):(Instr.index 284 (.agg (zCn.extract 0 80)) (I 0)).run Tryz.prog w=.ok (.agg (J 2 1 (-3) 0 0 0 0 0 1 1)) w:=by kernel_rfl
theorem made_electric (w:World):Calls Tryz.prog 289 #[] w fun e w'=>e=.returned (.agg zBu)∧Bw w w':=by
 obtain⟨V,hV⟩:∃V,V=w.alloc (.cells Tryz.zeroCells286 286):=⟨_,rfl⟩;have HW:Hid (Bw w V):=by rw[hV];exact bA
 have HR:Hid (zAc V w.heap.size 286 zAw):=by rw[hV,←zc91];exact zAc.new w _ 286
 have HV:=zAb hV;clear hV;have hfl:=fld_electric;have hix:=idx_electric;go_enter Tryz.func289,Tryz.ntmps289
 go_upto_region 1 with fail
 rw[←un HV];clear HV
 go_upto_region 2 with (first
  | (go_at_call 288;go_must(refine(made_power _).mono ?_;rintro e w1 ⟨rfl,hb⟩;have HR1:=zAb ((un HR).later hb);have HW1:=zAb (bt HW hb);clear hb))
  | (refine zAn 180 10 zAu rfl (.tmp 1) (.tmp 4) rfl w1.heap.size (J 0 0 0 0 0 0 0 0 0 0) (J 2 1 (-3) 0 0 0 0 0 1 1) rfl rfl rfl rfl (zAc.new _ _ _) (by kernel_rfl) ?_))
 have hb2:Below w1.heap.size w1 ((w1.alloc (.cells (J 0 0 0 0 0 0 0 0 0 0) 180)).setRow w1.heap.size (J 2 1 (-3) 0 0 0 0 0 1 1)):=below_setRow (zBx _ _) (Nat.le_refl _) _;have HB2:Hid (zAc ((w1.alloc (.cells (J 0 0 0 0 0 0 0 0 0 0) 180)).setRow w1.heap.size (J 2 1 (-3) 0 0 0 0 0 1 1)) w1.heap.size 180 (J 2 1 (-3) 0 0 0 0 0 1 1)):=(zAc.new _ _ _).setRow _;have HR2:=zAb ((un HR1).later hb2);have HW2:=zAb (bt HW1 hb2);clear hb2 hfl hix;generalize (w1.alloc (.cells (J 0 0 0 0 0 0 0 0 0 0) 180)).setRow w1.heap.size (J 2 1 (-3) 0 0 0 0 0 1 1)=w2 at *
 generalize w1.heap.size=b1 at *
 go_wp2_with (first
  | (go_at_call 312;go_must(refine(grp_electric b1 _ (un HB2)).mono ?_;rintro e w3 ⟨rfl,hb⟩;have HR3:=zAb ((un HR2).later hb);have HW3:=zAb (bt HW2 hb);clear hb))
  | (refine zAn 286 81 zDe rfl (.tmp 0) (.tmp 6) rfl w.heap.size zAw zBu rfl rfl rfl rfl (un HR3) (by kernel_rfl) ?_))
 exact bodyPost_ret (v:=.agg zBu) (zFu Tryz.results289 _ _ w.heap.size _ rfl rfl ((un HR3).setRow _)) rfl ⟨rfl,below_setRow (un HW3) (Nat.le_refl _) _⟩
theorem res92 {fn:Func} {p:Tmp} (h:fn.results=#[.cell p 287]) (tmps:Array Value) (w:World) (g:Nat) (vs:Array Value) (hl:vs.size=729) (hp:tmps.getD p undef=.pointer (some ⟨g,0,none⟩)) (ho:zAc w g 287 vs) :
  (results fn tmps).run Tryz.prog w=.ok (.agg vs) w:=by
 rw[zBb h,hp];simp only[asAddr,Sem.run_pure,Result.andThen_ok];rw[run_loadVar_row w g 287 287 vs (0,0) _ ho Tryz.underlying287 rfl (by rw[info92,hl])]
theorem allMade_of (A0 A1 A2 A3 A4 A5 A6 A7 A8 G:Array Value) (h0:∀W:World,Calls Tryz.prog 286 #[] W fun e w'=>e=.returned (.agg A0)∧Bw W w') (h1:∀W:World,Calls Tryz.prog 287 #[] W fun e w'=>e=.returned (.agg A1)∧Bw W w') (h2:∀W:World,Calls Tryz.prog 288 #[] W fun e w'=>e=.returned (.agg A2)∧Bw W w') (h3:∀W:World,Calls Tryz.prog 289 #[] W fun e w'=>e=.returned (.agg A3)∧Bw W w') (h4:∀W:World,Calls Tryz.prog 290 #[] W fun e w'=>e=.returned (.agg A4)∧Bw W w') (h5:∀W:World,Calls Tryz.prog 291 #[] W fun e w'=>e=.returned (.agg A5)∧Bw W w') (h6:∀W:World,Calls Tryz.prog 292 #[] W fun e w'=>e=.returned (.agg A6)∧Bw W w') (h7:∀W:World,Calls Tryz.prog 293 #[] W fun e w'=>e=.returned (.agg A7)∧Bw W w') (h8:∀W:World,Calls Tryz.prog 294 #[] W fun e w'=>e=.returned (.agg A8)∧Bw W w')
  (hbu:Tryz.prog.built 287 [(0,.agg A0),(1,.agg A1),(2,.agg A2),(3,.agg A3),(4,.agg A4),(5,.agg A5),(6,.agg A6),(7,.agg A7),(8,.agg A8)]=some G) (hz:G.size=729) (h1o:G.all (·.oneCell')=true) (w:World):Calls Tryz.prog 266 #[] w fun e w'=>e=.returned (.agg G)∧Bw w w':=by
 obtain⟨V,hV⟩:∃V,V=w.alloc (.cells Tryz.zeroCells287 287):=⟨_,rfl⟩;have HR:Hid (zAc V w.heap.size 287 Tryz.zeroCells287):=by rw[hV];exact zAc.new w _ 287
 have HW:Hid (Bw w V):=by rw[hV];exact bA
 have HV:=zAb hV;have H0:=zAb h0;have H1:=zAb h1;have H2:=zAb h2;have H3:=zAb h3;have H4:=zAb h4;have H5:=zAb h5;have H6:=zAb h6;have H7:=zAb h7;have H8:=zAb h8;have HBU:=zAb hbu;have HZ:=zAb hz;have HO:=zAb h1o;clear hV h0 h1 h2 h3 h4 h5 h6 h7 h8 hbu hz h1o;go_enter Tryz.func266,Tryz.ntmps266
 go_upto_region 1 with fail
 rw[←un HV];clear HV
 go_wp2_with (first
  | (go_at_call 286;go_must(refine(un H0 _).mono ?_;rintro e w1 ⟨rfl,hb1⟩;have HB1:=zAb hb1;clear hb1))
  | (go_at_call 287;go_must(refine(un H1 _).mono ?_;rintro e w2 ⟨rfl,hb1⟩;have HB2:=zAb (bt HB1 hb1);clear hb1))
  | (go_at_call 288;go_must(refine(un H2 _).mono ?_;rintro e w3 ⟨rfl,hb1⟩;have HB3:=zAb (bt HB2 hb1);clear hb1))
  | (go_at_call 289;go_must(refine(un H3 _).mono ?_;rintro e w4 ⟨rfl,hb1⟩;have HB4:=zAb (bt HB3 hb1);clear hb1))
  | (go_at_call 290;go_must(refine(un H4 _).mono ?_;rintro e w5 ⟨rfl,hb1⟩;have HB5:=zAb (bt HB4 hb1);clear hb1))
  | (go_at_call 291;go_must(refine(un H5 _).mono ?_;rintro e w6 ⟨rfl,hb1⟩;have HB6:=zAb (bt HB5 hb1);clear hb1))
  | (go_at_call 292;go_must(refine(un H6 _).mono ?_;rintro e w7 ⟨rfl,hb1⟩;have HB7:=zAb (bt HB6 hb1);clear hb1))
  | (go_at_call 293;go_must(refine(un H7 _).mono ?_;rintro e w8 ⟨rfl,hb1⟩;have HB8:=zAb (bt HB7 hb1);clear hb1))
  | (go_at_call 294;go_must(refine(un H8 _).mono ?_;rintro e w9 ⟨rfl,hb1⟩;have HB9:=zAb (bt HB8 hb1);clear hb1))
  | (refine wpList_buildTo rfl 287 _ rfl (some 10) rfl G ((by kernel_rfl:_=Tryz.prog.built 287 [(0,.agg A0),(1,.agg A1),(2,.agg A2),(3,.agg A3),(4,.agg A4),(5,.agg A5),(6,.agg A6),(7,.agg A7),(8,.agg A8)]).trans (un HBU)) ?_)
  | (refine zAn 287 729 info92 rfl (.tmp 0) (.tmp 10) rfl w.heap.size Tryz.zeroCells287 G zsize92 (un HZ) rfl rfl ((un HR).later (un HB9)) (un HO) ?_))
 exact bodyPost_ret (v:=.agg G) (res92 Tryz.results266 _ _ w.heap.size _ (un HZ) rfl (((un HR).later (un HB9)).setRow _)) rfl ⟨rfl,below_setRow ((un HW).trans ((un HB9).mono (un HW).size)) (Nat.le_refl _) _⟩
theorem allMade (w:World):Calls Tryz.prog 266 #[] w fun e w'=>e=.returned (.agg allG)∧Bw w w' :=
 allMade_of (gAt 0) (gAt 1) (gAt 2) (gAt 3) (gAt 4) (gAt 5) (gAt 6) (gAt 7) (gAt 8) allG made_force zGt made_power made_electric made_times made_rays made_plane made_light made_along built92 gsize92 gones92 w
theorem info57:(Tryz.prog.info? 182).map (fun i=>(i.zero,i.size,i.bytes))=some (some (.agg #[G #[],G #[],I 0,I 0,I 0,I 0,I 0,I 0,I 0,I 0,I 0,I 0,I 0]),13,120):=by kernel_rfl
theorem under50:Tryz.prog.underlying 236=some (.slice 182):=by kernel_rfl
theorem rowBelow {B:Nat} {e:TypeId} {k:Nat} {v:Value} {n:Nat} {xs:List Value} {w w':World} (h:w.ownsRow B e k v n xs) (hb:Below w.heap.size w w'):w'.ownsRow B e k v n xs :=
 h.kept (row:=none) ⟨hb.os,hb.tape,hb.output,hb.size,fun j hj _=>hb.block j hj⟩ (by cases hv:v.ownBlock<;>simp)
theorem rowNe {W:World} {B n g ty:Nat} {e:TypeId} {sz:Nat} {v:Value} {xs:List Value} {vs:Array Value} (h:W.ownsRow B e sz v n xs) (ho:zAc W g ty vs) (hty:ty≠e):some g≠v.ownBlock:=fun he=>by
 obtain⟨c,fz,hh⟩:=Lib.ownsRow_kind h g he.symm;rw[show W.heap[g]?=some (.cells vs ty (0,0))from ho]at hh;simp only[Option.some.injEq,Obj.cells.injEq]at hh;exact hty hh.2.1
theorem ownGrown {W V:World} {g ty:Nat} {vs:Array Value} {row:Option Nat} (h:zAc W g ty vs) (hg:W.grownBy V row) (hne:some g≠row):zAc V g ty vs:=(hg.block g h.lt hne).trans h
theorem ownGrownD {W V:World} {g ty:Nat} {vs:Array Value} {row:Option Nat} (h:zAc W g ty vs) (hg:W.drew.grownBy V row) (hne:some g≠row):zAc V g ty vs:=ownGrown (W:=W.drew) h hg hne
theorem rowShape {w:World} {base:Nat} {e:TypeId} {size:Nat} {v:Value} {n:Nat} {xs:List Value} (h:w.ownsRow base e size v n xs):∃a c,v=.slice a n c:=by
 rcases Joins.ownsRow_forms h with ⟨rfl,rfl⟩|⟨g,cap,rfl⟩
 ·exact⟨_,_,rfl⟩
 ·exact⟨_,_,rfl⟩
theorem news13 (W:World) (y0 y1 y2 y3 y4 y5 y6 y7 y8 y9 y10 y11 y12:Value) (ty:Nat):∀j u,[y0,y1,y2,y3,y4,y5,y6,y7,y8,y9,y10,y11,y12][j]?=some u→(W.alloc (.cells #[y0,y1,y2,y3,y4,y5,y6,y7,y8,y9,y10,y11,y12] ty)).cell? ((⟨W.heap.size,0,none⟩:Addr).add j)=some u:=by
 intro j u hu;have h:=(zAc.new W #[y0,y1,y2,y3,y4,y5,y6,y7,y8,y9,y10,y11,y12] ty).ub.c j u (by simpa using hu);have e:(⟨W.heap.size,0,none⟩:Addr).add j=⟨W.heap.size,j,none⟩:=by by_cases hj:j=0<;>simp[Addr.add,hj]
 rw[e];exact h
theorem one13 (nm sy:ByteArray) (tk x0 x1 x2 x3 x4 x5 x6 x7 x8 x9:Int):∀u∈([.string nm,.string sy,I tk,I x0,I x1,I x2,I x3,I x4,I x5,I x6,I x7,I x8,I x9]:List Value),u.oneCell'=true:=by
 intro u hu;simp only[List.mem_cons,List.not_mem_nil,or_false]at hu;rcases hu with rfl|rfl|rfl|rfl|rfl|rfl|rfl|rfl|rfl|rfl|rfl|rfl|rfl<;>rfl
theorem units_si (w:World):Calls Tryz.prog 227 #[] w fun e w'=>∃v,e=.returned v∧w'.ownsRow w.heap.size 182 13 v 29 (flatS 29)∧Bw w w':=by
 obtain⟨i0,hi,hz0,hz1,hz2⟩:=info_parts info57;go_enter Tryz.func227,Tryz.ntmps227
 go_upto_region 4 with (first
  | (go_at_call 265;go_must(refine(labels_any _).mono ?_;rintro e w1 ⟨rfl,hw1⟩;have HW1:=zAb hw1;clear hw1))
  | (go_at_call 266;go_must(refine(allMade _).mono ?_;rintro e w2 ⟨rfl,hb⟩;have HB2:=zAb hb;clear hb)))
 have hb1:Below w.heap.size w w1:=by rw[un HW1];exact bA
 have HB:Hid (Bw w w2):=hb1.trans ((un HB2).mono hb1.size);have ho1:zAc w1 w.heap.size 178 labs:=by rw[un HW1];exact zAc.new _ _ _
 have HL:Hid (zAc w2 w.heap.size 178 labs):=ho1.later (un HB2);clear hb1 ho1 HB2 HW1
 go_loopw [1,9] (fun s1 s9 wr=>∃(k:Nat) (v:Value),k≤9∧v=s1∧s9=I (k:Int)∧Hid (wr.ownsRow (w.heap.size+1) 182 13 v (offG k) (flatS (offG k)))∧Hid (Bw w wr)∧Hid (zAc wr w.heap.size 178 labs)) (fun _ s9 _=>9 - (intOf s9).toNat)
 case atStart=>exact⟨0,_,by omega,rfl,rfl,World.ownsRow_nil _ _ _ _,HB,HL⟩
 case round=>
  clear HB HL;obtain⟨k,v,hk,rfl,rfl,HO,HB,HL⟩:=hrel
  by_cases hlt:k<9
  ·have hkI:(k:Int)<9:=by omega
   have hk0:(0:Int)≤(k:Int):=by omega
   have hix:=allIx k hlt;have HAM:=zAb (fun j hj=>gAt_am k j hlt hj);have HSZ:=zAb (gAt_size k);have HON:=zAb (gAt_ones k);have HCN:=zAb (gAt_cnt k);have HOF:=zAb (offG_succ k hlt);have HLE:=zAb (offG_le k hlt);have HC8:=zAb (cntG_le k);generalize gAt k=gA at *
   generalize cntG k=c at *
   obtain⟨o,ho⟩:∃o,o=offG k:=⟨_,rfl⟩;rw[←ho]at HO HAM HOF HLE;have HOO:=zAb ho;clear ho
   go_upto_region 6 with (refine zAn 286 81 zDe rfl (.tmp 4) (.tmp 11) rfl wr.heap.size Tryz.zeroCells286 gA (by kernel_rfl) (un HSZ) rfl rfl (zAc.new _ _ _) (un HON) ?_)
   clear hix;have hb3:Below wr.heap.size wr ((wr.alloc (.cells Tryz.zeroCells286 286)).setRow wr.heap.size gA):=below_setRow (zBx _ _) (Nat.le_refl _) _;have HG3:Hid (zAc ((wr.alloc (.cells Tryz.zeroCells286 286)).setRow wr.heap.size gA) wr.heap.size 286 gA):=(zAc.new _ _ _).setRow _;have HO3:=zAb (rowBelow (un HO) hb3);have HB3:Hid (Bw w _):=bt HB hb3;have HL3:=zAb ((un HL).later hb3);clear hb3 HO HB HL;generalize (wr.alloc (.cells Tryz.zeroCells286 286)).setRow wr.heap.size gA=w3 at *
   generalize wr.heap.size=g at *
   have c80:w3.cell? ⟨g,80,none⟩=some (I (c:Int)):=(un HG3).ub.c 80 _ (un HCN);have hc0:(0:Int)≤(c:Int):=by omega
   have hc8:(c:Int)≤8:=by have:=(un HC8).2;omega
   have hc8n:c≤8:=by omega
   go_upto_region 7 with fail
   clear c80
   go_loopw [1,17] (fun s1 s17 wr=>∃(j:Nat) (v:Value),j≤c∧v=s1∧s17=I (j:Int)∧Hid (wr.ownsRow (w.heap.size+1) 182 13 v (o+j) (flatS (o+j)))∧Hid (Bw w wr)∧Hid (zAc wr w.heap.size 178 labs)∧Hid (zAc wr g 286 gA)) (fun _ s17 _=>c - (intOf s17).toNat)
   case atStart=>exact⟨0,_,by omega,rfl,rfl,HO3,HB3,HL3,HG3⟩
   case round=>
    clear HO3 HB3 HL3 HG3;obtain⟨j,v,hj,rfl,rfl,HO,HB,HL,HG⟩:=hrel
    by_cases hjt:j<c
    ·have hjI:(j:Int)<(c:Int):=by omega
     have hj0:(0:Int)≤(j:Int):=by omega
     have am:=un HAM j hjt;have lb:=labs_at (o+j) (by have:=un HLE;omega);have HFL:=zAb (flatS_succ (o+j));unfold suL at HFL
     obtain⟨N,hN⟩:∃N,N=o+j:=⟨_,rfl⟩;have HN29:Hid (N<29):=by have:=un HLE;show N<29;omega
     rw[←hN]at HO HFL am lb;have HNN:=zAb hN;clear hN;have a0:=(un HG).ub.c _ _ am.c0;have a1:=(un HG).ub.c _ _ am.c1;have a2:=(un HG).ub.c _ _ am.c2;have a3:=(un HG).ub.c _ _ am.c3;have a4:=(un HG).ub.c _ _ am.c4;have a5:=(un HG).ub.c _ _ am.c5;have a6:=(un HG).ub.c _ _ am.c6;have a7:=(un HG).ub.c _ _ am.c7;have a8:=(un HG).ub.c _ _ am.c8;have a9:=(un HG).ub.c _ _ am.c9;have l0:=lb.c0;have l1:=lb.c1;have l2:=lb.c2;clear am lb;generalize (sut N).nm=nm at *
     generalize (sut N).sy=sy at *
     generalize (sut N).tk=tk at *
     generalize (sut N).e0=x0 at *
     generalize (sut N).e1=x1 at *
     generalize (sut N).e2=x2 at *
     generalize (sut N).e3=x3 at *
     generalize (sut N).e4=x4 at *
     generalize (sut N).e5=x5 at *
     generalize (sut N).e6=x6 at *
     generalize (sut N).e7=x7 at *
     generalize (sut N).n=x8 at *
     generalize (sut N).d=x9 at *
     obtain⟨ad,cp,rfl⟩:=rowShape (un HO);have HLB:=zAb (And.intro l0 (And.intro l1 l2));clear l0 l1 l2
     go_upto_region 9 with (refine zAn 180 10 zAu rfl (.tmp 6) (.tmp 20) rfl wr.heap.size (J 0 0 0 0 0 0 0 0 0 0) (J x0 x1 x2 x3 x4 x5 x6 x7 x8 x9) rfl rfl rfl rfl (zAc.new _ _ _) (by kernel_rfl) ?_)
     clear a0 a1 a2 a3 a4 a5 a6 a7 a8 a9;have hb4:Below wr.heap.size wr ((wr.alloc (.cells (J 0 0 0 0 0 0 0 0 0 0) 180)).setRow wr.heap.size (J x0 x1 x2 x3 x4 x5 x6 x7 x8 x9)):=below_setRow (zBx _ _) (Nat.le_refl _) _;have HX4:Hid (zAc ((wr.alloc (.cells (J 0 0 0 0 0 0 0 0 0 0) 180)).setRow wr.heap.size (J x0 x1 x2 x3 x4 x5 x6 x7 x8 x9)) wr.heap.size 180 (J x0 x1 x2 x3 x4 x5 x6 x7 x8 x9)):=(zAc.new _ _ _).setRow _;have HO4:=zAb (rowBelow (un HO) hb4);have HB4:Hid (Bw w _):=bt HB hb4;have HL4:=zAb ((un HL).later hb4);have HG4:=zAb ((un HG).later hb4);clear hb4 HO HB HL HG;generalize (wr.alloc (.cells (J 0 0 0 0 0 0 0 0 0 0) 180)).setRow wr.heap.size (J x0 x1 x2 x3 x4 x5 x6 x7 x8 x9)=w4 at *
     generalize wr.heap.size=g6 at *
     have HSS:Hid (∀W':World,zAc W' w.heap.size 178 labs→zAc W' g6 180 (J x0 x1 x2 x3 x4 x5 x6 x7 x8 x9)→W'.cell? ⟨w.heap.size,N*3,none⟩=some (.string nm)∧W'.cell? ⟨w.heap.size,N*3+1,none⟩=some (.string sy)∧W'.cell? ⟨w.heap.size,N*3+2,none⟩=some (I tk)∧W'.cell? ⟨g6,0,none⟩=some (I x0)∧W'.cell? ⟨g6,1,none⟩=some (I x1)∧W'.cell? ⟨g6,2,none⟩=some (I x2)∧W'.cell? ⟨g6,3,none⟩=some (I x3)∧W'.cell? ⟨g6,4,none⟩=some (I x4)∧W'.cell? ⟨g6,5,none⟩=some (I x5)∧W'.cell? ⟨g6,6,none⟩=some (I x6)∧W'.cell? ⟨g6,7,none⟩=some (I x7)∧W'.cell? ⟨g6,8,none⟩=some (I x8)∧W'.cell? ⟨g6,9,none⟩=some (I x9)):=fun W' h1 h2=>⟨h1.ub.c _ _ (un HLB).1,h1.ub.c _ _ (un HLB).2.1,h1.ub.c _ _ (un HLB).2.2,h2.ub.c 0 _ rfl,h2.ub.c 1 _ rfl,h2.ub.c 2 _ rfl,h2.ub.c 3 _ rfl,h2.ub.c 4 _ rfl,h2.ub.c 5 _ rfl,h2.ub.c 6 _ rfl,h2.ub.c 7 _ rfl,h2.ub.c 8 _ rfl,h2.ub.c 9 _ rfl⟩
     have HS0:=zAb (un HSS w4.drew (un HL4) (un HX4));have hN0:(0:Int)≤(N:Int):=by omega
     have hN29:(N:Int)<29:=by have:=un HN29;omega
     refine zAi 9 (fun _=>True) (fun W'=>W'.cell? ⟨w.heap.size,N*3,none⟩=some (.string nm)∧W'.cell? ⟨w.heap.size,N*3+1,none⟩=some (.string sy)∧W'.cell? ⟨w.heap.size,N*3+2,none⟩=some (I tk)∧W'.cell? ⟨g6,0,none⟩=some (I x0)∧W'.cell? ⟨g6,1,none⟩=some (I x1)∧W'.cell? ⟨g6,2,none⟩=some (I x2)∧W'.cell? ⟨g6,3,none⟩=some (I x3)∧W'.cell? ⟨g6,4,none⟩=some (I x4)∧W'.cell? ⟨g6,5,none⟩=some (I x5)∧W'.cell? ⟨g6,6,none⟩=some (I x6)∧W'.cell? ⟨g6,7,none⟩=some (I x7)∧W'.cell? ⟨g6,8,none⟩=some (I x8)∧W'.cell? ⟨g6,9,none⟩=some (I x9)) 11 rfl (by kernel_rfl) ?_;refine wT7 0 (.slice ad N cp) rfl (Or.inl ⟨by rfl,?_⟩) ⟨trivial,un HS0⟩ ?_
     ·intro W' hW
      go_split_ands
      go_simp
     refine wT7 1 (.slice (some ⟨w.heap.size,0,none⟩) 29 29) rfl (Or.inl ⟨by rfl,?_⟩) ⟨trivial,un HS0⟩ ?_
     ·intro W' hW
      go_split_ands
      go_simp
     refine wT7 2 (.slice ad N cp) rfl (Or.inl ⟨by rfl,?_⟩) ⟨trivial,un HS0⟩ ?_
     ·intro W' hW
      go_split_ands
      go_simp
     refine wT7 3 (I (N:Int)) rfl (Or.inl ⟨by rfl,?_⟩) ⟨trivial,un HS0⟩ ?_
     ·intro W' hW
      go_split_ands
      go_simp
     refine wT7 4 (.pointer (some ⟨w.heap.size,N*3,none⟩)) rfl (Or.inl ⟨by rfl,?_⟩) ⟨trivial,un HS0⟩ ?_
     ·intro W' hW
      go_split_ands
      go_simp
     refine wT7 5 (.agg #[.string nm,.string sy,I tk]) rfl (Or.inl ⟨by rfl,?_⟩) ⟨trivial,un HS0⟩ ?_
     ·intro W' hW
      go_split_ands
      go_simp
     refine wT7 6 (.agg (J x0 x1 x2 x3 x4 x5 x6 x7 x8 x9)) rfl (Or.inl ⟨by rfl,?_⟩) ⟨trivial,un HS0⟩ ?_
     ·intro W' hW
      go_split_ands
      go_simp
     refine wT7 7 (.agg #[.string nm,.string sy,I tk,I x0,I x1,I x2,I x3,I x4,I x5,I x6,I x7,I x8,I x9]) rfl (Or.inl ⟨by rfl,?_⟩) ⟨trivial,un HS0⟩ ?_
     ·intro W' hW
      go_split_ands
      go_simp
     refine wO 8 rfl rfl (fun K hK=>?_)
     go_simp
     have HL5:=zAb ((un HL4).alloc (.cells #[.string nm,.string sy,I tk,I x0,I x1,I x2,I x3,I x4,I x5,I x6,I x7,I x8,I x9] 182));have HX5:=zAb ((un HX4).alloc (.cells #[.string nm,.string sy,I tk,I x0,I x1,I x2,I x3,I x4,I x5,I x6,I x7,I x8,I x9] 182));refine hK _ _ ⟨trivial,un HSS _ (un HL5) (un HX5)⟩ ?_;clear hK K;refine wO 9 rfl rfl (fun K hK=>?_);refine wp_append_own _ (.tmp 21) (.tmp 29) 236 rfl (w.heap.size+1) 182 i0 (.agg #[G #[],G #[],I 0,I 0,I 0,I 0,I 0,I 0,I 0,I 0,I 0,I 0,I 0]) 13 120 under50 hi hz0 hz1 hz2 rfl (by decide) (.slice ad N cp) N (flatS N) rfl ((un HO4).alloc _) ⟨w4.heap.size,0,none⟩ 1 1 [.string nm,.string sy,I tk,I x0,I x1,I x2,I x3,I x4,I x5,I x6,I x7,I x8,I x9] rfl rfl (news13 _ _ _ _ _ _ _ _ _ _ _ _ _ _ _) (one13 _ _ _ _ _ _ _ _ _ _ _ _ _) (by unfold maxLen;omega) (by omega) (by have h1:=(un HX4).lt;have h2:=(un HB4).size;simp;omega) ?_;intro v2 wa hown hgrow _;have HN5:=zAb ((un HO4).alloc (.cells #[.string nm,.string sy,I tk,I x0,I x1,I x2,I x3,I x4,I x5,I x6,I x7,I x8,I x9] 182));have HL6:Hid (zAc wa w.heap.size 178 labs):=ownGrownD (un HL5) hgrow (rowNe (un HN5) (un HL5) (by decide));have HX6:Hid (zAc wa g6 180 (J x0 x1 x2 x3 x4 x5 x6 x7 x8 x9)):=ownGrownD (un HX5) hgrow (rowNe (un HN5) (un HX5) (by decide));have HG5:=zAb ((un HG4).alloc (.cells #[.string nm,.string sy,I tk,I x0,I x1,I x2,I x3,I x4,I x5,I x6,I x7,I x8,I x9] 182));have HG6:Hid (zAc wa g 286 gA):=ownGrownD (un HG5) hgrow (rowNe (un HN5) (un HG5) (by decide));have HB6:Hid (Bw w wa):=(((un HB4).alloc (un HB4).size (.cells #[.string nm,.string sy,I tk,I x0,I x1,I x2,I x3,I x4,I x5,I x6,I x7,I x8,I x9] 182)).drew).grown hgrow (by have h2:=(un HB4).size;simp;omega) (fun j hj=>Nat.le_of_succ_le ((un HN5).lt j hj).1)
     have HOW:Hid (wa.ownsRow (w.heap.size+1) 182 13 v2 (N+1) (flatS (N+1))):=by
      have h:=hown;rw[←un HFL]at h;exact h
     clear hown hgrow HN5 HG5;refine hK _ _ ⟨trivial,un HSS _ (un HL6) (un HX6)⟩ ?_;clear hK K;refine wO 10 rfl rfl (fun K hK=>?_)
     go_simp
     refine hK _ _ ⟨trivial,un HSS _ (un HL6) (un HX6)⟩ ?_;clear hK K;refine wDn ?_
     go_wp2_with fail
     go_roundw
     case rel=>
      refine⟨j+1,v2,by omega,rfl,by go_num,?_,HB6,HL6,HG6⟩;have h:=un HOW;rw[show N+1=o+(j+1)from by have:=un HNN;omega]at h;exact h
     case measure=>simp[intOf];omega
    ·have hjI:¬(j:Int)<(c:Int):=by omega
     have HJ:Hid (o+j=offG (k+1)):=by have:=un HOF;show o+j=offG (k+1);omega
     have HO5:Hid (wr.ownsRow (w.heap.size+1) 182 13 v (offG (k+1)) (flatS (offG (k+1)))):=by rw[←un HJ];exact HO
     go_wp2_with fail
     go_roundw
     case rel=>exact⟨k+1,v,by omega,rfl,by go_num,HO5,HB,HL⟩
     case measure=>simp[intOf];omega
  ·have hkI:¬(k:Int)<9:=by omega
   have HK:Hid (k=9):=by show k=9;omega
   have HO5:Hid (wr.ownsRow (w.heap.size+1) 182 13 v 29 (flatS 29)):=by have h:=un HO;rw[un HK]at h;exact h
   go_wp2_with fail
   go_ret
   exact⟨v,rfl,Joins.ownsRow_le (un HO5) (Nat.le_succ _),un HB⟩
def psy:Nat→ByteArray
 | 0=>⟨#[109]⟩
 | 1=>⟨#[103]⟩
 | 2=>⟨#[115]⟩
 | 3=>⟨#[65]⟩
 | 4=>⟨#[75]⟩
 | 5=>⟨#[109,111,108]⟩
 | 6=>⟨#[99,100]⟩
 | _=>⟨#[98]⟩
def pix:Nat→Nat
 | 0=>4
 | 1=>5
 | 2=>2
 | 3=>3
 | 4=>7
 | 5=>1
 | 6=>6
 | _=>0
theorem pix_first:∀k,k<8→zBc (scB (psy k)) (pix k:Int)∧pix k<8
 | 0,_=>⟨Or.inl ⟨4,by decide,rfl,by decide +kernel,by decide +kernel⟩,by decide⟩
 | 1,_=>⟨Or.inl ⟨5,by decide,rfl,by decide +kernel,by decide +kernel⟩,by decide⟩
 | 2,_=>⟨Or.inl ⟨2,by decide,rfl,by decide +kernel,by decide +kernel⟩,by decide⟩
 | 3,_=>⟨Or.inl ⟨3,by decide,rfl,by decide +kernel,by decide +kernel⟩,by decide⟩
 | 4,_=>⟨Or.inl ⟨7,by decide,rfl,by decide +kernel,by decide +kernel⟩,by decide⟩
 | 5,_=>⟨Or.inl ⟨1,by decide,rfl,by decide +kernel,by decide +kernel⟩,by decide⟩
 | 6,_=>⟨Or.inl ⟨6,by decide,rfl,by decide +kernel,by decide +kernel⟩,by decide⟩
 | 7,_=>⟨Or.inl ⟨0,by decide,rfl,by decide +kernel,by decide +kernel⟩,by decide⟩
 | _+8,h=>absurd h (by omega)
theorem find_part (k:Nat) (hk:k<8) (w:World) (htab:Tab w):Calls Tryz.prog 70 #[.string (psy k)] w fun r w'=>r=.returned (.tuple #[.agg (sct (pix k)).u,.bool true])∧Bw w w':=by
 refine(find_any (psy k) w htab).mono ?_;rintro r w' ⟨v,rfl,hv,hb⟩;rw[hv.det (Or.inl ⟨pix k,(pix_first k hk).2,(pix_first k hk).1,rfl⟩)];exact⟨rfl,hb⟩
def symsA:Array Value:=#[G #[109],G #[103],G #[115],G #[65],G #[75],G #[109,111,108],G #[99,100],G #[98]]
theorem symIx:∀k:Nat,k<8→∀w:World,(Instr.index 242 (.agg symsA) (I (k:Int))).run Tryz.prog w=.ok (.string (psy k)) w
 | 0,_=>fun w=>by kernel_rfl
 | 1,_=>fun w=>by kernel_rfl
 | 2,_=>fun w=>by kernel_rfl
 | 3,_=>fun w=>by kernel_rfl
 | 4,_=>fun w=>by kernel_rfl
 | 5,_=>fun w=>by kernel_rfl
 | 6,_=>fun w=>by kernel_rfl
 | 7,_=>fun w=>by kernel_rfl
 | _+8,h=>absurd h (by omega)
theorem z48:Tryz.zeroCells186.size=120:=by kernel_rfl
theorem info48:(Tryz.prog.info? 186).map (·.size)=some 120:=by kernel_rfl
noncomputable def pA:Nat→Array Value
 | 0=>Tryz.zeroCells186
 | k+1=>zDg (pA k) (k*15) (sct (pix k)).u.toList
theorem pA_size:∀k,(pA k).size=120
 | 0=>z48
 | k+1=>by rw[pA,size_putAt,pA_size k]
noncomputable def zCr:Array Value:=zDg (pA 8) 15 zEc.toList
theorem partsA_size:zCr.size=120:=by unfold zCr;rw[size_putAt,pA_size]
theorem partsA_ones:zCr.all (·.oneCell')=true:=by kernel_rfl
theorem pA_gram15:∀j:Nat,j<15→(pA 8)[15+j]?=gramU.toList[j]?
 | 0,_=>by kernel_rfl
 | 1,_=>by kernel_rfl
 | 2,_=>by kernel_rfl
 | 3,_=>by kernel_rfl
 | 4,_=>by kernel_rfl
 | 5,_=>by kernel_rfl
 | 6,_=>by kernel_rfl
 | 7,_=>by kernel_rfl
 | 8,_=>by kernel_rfl
 | 9,_=>by kernel_rfl
 | 10,_=>by kernel_rfl
 | 11,_=>by kernel_rfl
 | 12,_=>by kernel_rfl
 | 13,_=>by kernel_rfl
 | 14,_=>by kernel_rfl
 | _+15,h=>absurd h (by omega)
theorem pA_gram (j:Nat) (v:Value) (h:gramU.toList[j]?=some v):(pA 8)[15+j]?=some v:=by
 rw[pA_gram15 j (List.getElem?_eq_some_iff.1 h).1];exact h
theorem res48 {fn:Func} {p:Tmp} (h:fn.results=#[.cell p 186]) (tmps:Array Value) (w:World) (g:Nat) (vs:Array Value) (hl:vs.size=120) (hp:tmps.getD p undef=.pointer (some ⟨g,0,none⟩)) (ho:zAc w g 186 vs) :
 (results fn tmps).run Tryz.prog w=.ok (.agg vs) w:=by
 rw[zBb h,hp];simp only[asAddr,Sem.run_pure,Result.andThen_ok];rw[run_loadVar_row w g 186 186 vs (0,0) _ ho Tryz.underlying186 rfl (by rw[info48,hl])]
theorem parts_si (w:World) (htab:Tab w):Calls Tryz.prog 162 #[] w fun r w'=>r=.returned (.agg zCr)∧Bw w w':=by
 obtain⟨V,hV⟩:∃V,V=(w.alloc (.cells Tryz.zeroCells186 186)).alloc (.cells Tryz.zeroCells186 186):=⟨_,rfl⟩;have HB:Hid (Bw w V):=by rw[hV];exact bA.alloc (by simp) _
 have HR:Hid (zAc V w.heap.size 186 Tryz.zeroCells186):=by rw[hV];exact(zAc.new _ _ _).alloc _
 have HL:Hid (zAc V (w.heap.size+1) 186 (pA 0)):=by rw[hV];have h:=zAc.new (w.alloc (.cells Tryz.zeroCells186 186)) Tryz.zeroCells186 186;rw[Dm.size_alloc]at h;exact h
 have HTA:Hid (∀W,Below w.heap.size w W→Tab W):=fun W h=>htab.later h
 have HV:=zAb hV;clear hV htab;go_enter Tryz.func162,Tryz.ntmps162
 go_upto_region 2 with fail
 rw[←un HV];clear HV
 go_upto_region 3 with (refine wpList_buildTo rfl 242 _ rfl (some 4) rfl symsA (by kernel_rfl) ?_)
 go_loopw [5] (fun s5 wr=>∃(k:Nat),k≤8∧s5=I (k:Int)∧Hid (zAc wr w.heap.size 186 Tryz.zeroCells186)∧Hid (zAc wr (w.heap.size+1) 186 (pA k))∧Hid (Bw w wr)) (fun s5 _=>8 - (intOf s5).toNat)
 case atStart=>exact⟨0,by omega,rfl,HR,HL,HB⟩
 case round=>
  clear HR HL HB;obtain⟨k,hk,rfl,HR,HL,HB⟩:=hrel
  by_cases hlt:k<8
  ·have hkI:(k:Int)<8:=by omega
   have hk0:(0:Int)≤(k:Int):=by omega
   have hix:=symIx k hlt;have HF:=zAb (fun W ht=>find_part k hlt W ht);have HSZ:Hid ((sct (pix k)).u.size=15):=size_sc _;have HON:Hid ((sct (pix k)).u.all (·.oneCell')=true):=ones_sc _;have HPS:Hid (pA (k+1)=zDg (pA k) (k*15) (sct (pix k)).u.toList):=rfl;generalize (sct (pix k)).u=u at *
   generalize psy k=sy at *
   go_wp2_with (first
    | (go_at_call 70;go_must(refine(un HF _ (un HTA _ (un HB))).mono ?_;rintro e w1 ⟨rfl,hb⟩;have HR1:=zAb ((un HR).later hb);have HL1:=zAb ((un HL).later hb);have HB1:Hid (Bw w w1):=bt HB hb;clear hb))
    | (refine wpList_store_mid rfl 30 (.tmp 15) (.tmp 13) rfl (w.heap.size+1) (k*15) u rfl rfl ((un HL1).there _ _ (by rw[un HSZ,pA_size];omega)) (by rw[un HSZ];exact zEd) (un HON) ?_))
   have HL2:Hid (zAc (w1.setCells (w.heap.size+1) (k*15) u.toList) (w.heap.size+1) 186 (pA (k+1))):=by rw[un HPS];exact zAc.setCells _ _ _ _ (un HL1)
   have HR2:Hid (zAc (w1.setCells (w.heap.size+1) (k*15) u.toList) w.heap.size 186 Tryz.zeroCells186):=zAc.otherCells (by omega) _ _ _ (un HR1);have HB2:Hid (Bw w (w1.setCells (w.heap.size+1) (k*15) u.toList)):=zCb (by omega) _ _ _ (un HB1)
   go_roundw
   case rel=>exact⟨k+1,by omega,by go_num,HR2,HL2,HB2⟩
   case measure=>simp[intOf];omega
  ·have hkI:¬(k:Int)<8:=by omega
   have HK:Hid (k=8):=by show k=8;omega
   have HL3:Hid (zAc wr (w.heap.size+1) 186 (pA 8)):=by rw[←un HK];exact HL
   have HPS:Hid (zCr=zDg (pA 8) 15 zEc.toList):=rfl;have HP8:Hid ((pA 8).size=120):=pA_size 8;have HMD:Hid (wr.rangeAt (w.heap.size+1) 15 gramU.toList):=(un HL3).mid 15 _ pA_gram;have HTH:=zAb (fun W ht=>thousand_gram W ht);have HGS:Hid (gramU.toList.length=15∧zEc.size=15∧zEc.all (·.oneCell')=true):=⟨rfl,rfl,by kernel_rfl⟩;have HZ1:=zAb partsA_size;have HZ2:=zAb partsA_ones;clear HL;generalize pA 8=p8 at *
   obtain⟨pF,hpF⟩:∃pF,pF=zCr:=⟨_,rfl⟩;rw[←hpF]at HPS HZ1 HZ2;have HEQ:=zAb hpF;clear hpF;generalize gramU=gu at *
   generalize zEc=ku at *
   go_upto_region 8 with (first
    | (refine wpList_load_mid rfl 30 (.tmp 17) rfl (w.heap.size+1) 15 rfl gu.toList _ (un HMD) Tryz.underlying30 rfl (by rw[(un HGS).1];exact zEd) ?_)
    | (go_at_call 232;go_must(refine(un HTH _ (un HTA _ (un HB))).mono ?_;rintro e w1 ⟨rfl,hb⟩;have HR1:=zAb ((un HR).later hb);have HL1:=zAb ((un HL3).later hb);have HB1:Hid (Bw w w1):=bt HB hb;clear hb))
    | (refine wpList_store_mid rfl 30 (.tmp 20) (.tmp 19) rfl (w.heap.size+1) 15 ku rfl rfl ((un HL1).there _ _ (by rw[(un HGS).2.1,un HP8];decide)) (by rw[(un HGS).2.1];exact zEd) (un HGS).2.2 ?_))
   have HL2:Hid (zAc (w1.setCells (w.heap.size+1) 15 ku.toList) (w.heap.size+1) 186 pF):=by rw[un HPS];exact zAc.setCells _ _ _ _ (un HL1)
   have HR2:Hid (zAc (w1.setCells (w.heap.size+1) 15 ku.toList) w.heap.size 186 Tryz.zeroCells186):=zAc.otherCells (by omega) _ _ _ (un HR1);have HB2:Hid (Bw w (w1.setCells (w.heap.size+1) 15 ku.toList)):=zCb (by omega) _ _ _ (un HB1);generalize w1.setCells (w.heap.size+1) 15 ku.toList=w2 at *
   go_wp2_with (first
    | (refine wpList_load_row rfl 186 (.tmp 1) rfl (w.heap.size+1) rfl 186 pF (0,0) _ (un HL2) Tryz.underlying186 rfl (by rw[info48,un HZ1]) ?_)
    | (refine zAn 186 120 info48 rfl (.tmp 0) (.tmp 21) rfl w.heap.size Tryz.zeroCells186 pF z48 (un HZ1) rfl rfl (un HR2) (un HZ2) ?_))
   exact bodyPost_ret (v:=.agg pF) (res48 Tryz.results162 _ _ w.heap.size _ (un HZ1) rfl ((un HR2).setRow _)) rfl ⟨by rw[un HEQ],below_setRow (un HB2) (Nat.le_refl _) _⟩
end Go.Proofs.YtliadckofhblnaaGreatDoor
namespace Go.Proofs.YtliadckofhblnaaGreatDoor.Dm
open Go.RowKit
def eqB (l m:List Int):Bool:=decide (l=m)
theorem cells3:Tryz.prog.cellsOf 3=1:=by kernel_rfl
theorem info3:∃i,Tryz.prog.info? 3=some i:=Option.isSome_iff_exists.1 (by kernel_rfl)
section
variable (x0 x1 x2 x3 x4 x5 x6 x7 y0 y1 y2 y3 y4 y5 y6 y7:Int)
theorem eqIn24 (w:World):(Op.equalIn 10000 26 (.agg #[I x0,I x1,I x2,I x3,I x4,I x5,I x6,I x7]) (.agg #[I y0,I y1,I y2,I y3,I y4,I y5,I y6,I y7])).run Tryz.prog w=.ok (eqB [x0,x1,x2,x3,x4,x5,x6,x7] [y0,y1,y2,y3,y4,y5,y6,y7]) w:=by
 obtain⟨inf,hinf⟩:=info3;rw[show(10000:Nat)=9999+1 from rfl,run_equalIn_array w 9999 _ _ Tryz.underlying26 hinf,cells3,show List.range 8=[0,1,2,3,4,5,6,7]from rfl];have p0:∀w:World,(part 3 #[I x0,I x1,I x2,I x3,I x4,I x5,I x6,I x7] (0*1)).run Tryz.prog w=.ok (I x0) w:=fun _=>by kernel_rfl
 have p1:∀w:World,(part 3 #[I x0,I x1,I x2,I x3,I x4,I x5,I x6,I x7] (1*1)).run Tryz.prog w=.ok (I x1) w:=fun _=>by kernel_rfl
 have p2:∀w:World,(part 3 #[I x0,I x1,I x2,I x3,I x4,I x5,I x6,I x7] (2*1)).run Tryz.prog w=.ok (I x2) w:=fun _=>by kernel_rfl
 have p3:∀w:World,(part 3 #[I x0,I x1,I x2,I x3,I x4,I x5,I x6,I x7] (3*1)).run Tryz.prog w=.ok (I x3) w:=fun _=>by kernel_rfl
 have p4:∀w:World,(part 3 #[I x0,I x1,I x2,I x3,I x4,I x5,I x6,I x7] (4*1)).run Tryz.prog w=.ok (I x4) w:=fun _=>by kernel_rfl
 have p5:∀w:World,(part 3 #[I x0,I x1,I x2,I x3,I x4,I x5,I x6,I x7] (5*1)).run Tryz.prog w=.ok (I x5) w:=fun _=>by kernel_rfl
 have p6:∀w:World,(part 3 #[I x0,I x1,I x2,I x3,I x4,I x5,I x6,I x7] (6*1)).run Tryz.prog w=.ok (I x6) w:=fun _=>by kernel_rfl
 have p7:∀w:World,(part 3 #[I x0,I x1,I x2,I x3,I x4,I x5,I x6,I x7] (7*1)).run Tryz.prog w=.ok (I x7) w:=fun _=>by kernel_rfl
 have q0:∀w:World,(part 3 #[I y0,I y1,I y2,I y3,I y4,I y5,I y6,I y7] (0*1)).run Tryz.prog w=.ok (I y0) w:=fun _=>by kernel_rfl
 have q1:∀w:World,(part 3 #[I y0,I y1,I y2,I y3,I y4,I y5,I y6,I y7] (1*1)).run Tryz.prog w=.ok (I y1) w:=fun _=>by kernel_rfl
 have q2:∀w:World,(part 3 #[I y0,I y1,I y2,I y3,I y4,I y5,I y6,I y7] (2*1)).run Tryz.prog w=.ok (I y2) w:=fun _=>by kernel_rfl
 have q3:∀w:World,(part 3 #[I y0,I y1,I y2,I y3,I y4,I y5,I y6,I y7] (3*1)).run Tryz.prog w=.ok (I y3) w:=fun _=>by kernel_rfl
 have q4:∀w:World,(part 3 #[I y0,I y1,I y2,I y3,I y4,I y5,I y6,I y7] (4*1)).run Tryz.prog w=.ok (I y4) w:=fun _=>by kernel_rfl
 have q5:∀w:World,(part 3 #[I y0,I y1,I y2,I y3,I y4,I y5,I y6,I y7] (5*1)).run Tryz.prog w=.ok (I y5) w:=fun _=>by kernel_rfl
 have q6:∀w:World,(part 3 #[I y0,I y1,I y2,I y3,I y4,I y5,I y6,I y7] (6*1)).run Tryz.prog w=.ok (I y6) w:=fun _=>by kernel_rfl
 have q7:∀w:World,(part 3 #[I y0,I y1,I y2,I y3,I y4,I y5,I y6,I y7] (7*1)).run Tryz.prog w=.ok (I y7) w:=fun _=>by kernel_rfl
 have e:=fun w a b=>run_equalIn_int (P:=Tryz.prog) w 9998 3 .i64 .i64 a b Tryz.underlying3
 simp only[Op.eqItems,Sem.run_bind,p0,p1,p2,p3,p4,p5,p6,p7,q0,q1,q2,q3,q4,q5,q6,q7,Result.andThen_ok,e,Sem.run_ite,Sem.run_pure];unfold eqB
 by_cases h0:x0=y0
 rotate_left
 ·simp[h0]
 by_cases h1:x1=y1
 rotate_left
 ·simp[h1,h0]
 by_cases h2:x2=y2
 rotate_left
 ·simp[h2,h0,h1]
 by_cases h3:x3=y3
 rotate_left
 ·simp[h3,h0,h1,h2]
 by_cases h4:x4=y4
 rotate_left
 ·simp[h4,h0,h1,h2,h3]
 by_cases h5:x5=y5
 rotate_left
 ·simp[h5,h0,h1,h2,h3,h4]
 by_cases h6:x6=y6
 rotate_left
 ·simp[h6,h0,h1,h2,h3,h4,h5]
 by_cases h7:x7=y7
 rotate_left
 ·simp[h7,h0,h1,h2,h3,h4,h5,h6]
 simp[h0,h1,h2,h3,h4,h5,h6,h7]
end
theorem mul_abs {x n:Int} {p q:Nat} (h1:x.natAbs≤p) (h2:n.natAbs≤q):(x*n).natAbs≤p*q:=by
 rw[Int.natAbs_mul];exact Nat.mul_le_mul h1 h2
theorem zEg {x n:Int} (h1:-99≤x∧x≤99) (h2:-1000≤n∧n≤1000):wrap64 (x*n)=x*n:=by
 have:=mul_abs (x:=x) (n:=n) (p:=99) (q:=1000) (by omega) (by omega);unfold wrap64;omega
theorem zGa {x n:Int} (hx:x≠0) (hn:n < -99∨99<n):okB (x*n)=false:=by
 have h1:1≤x.natAbs:=by omega
 have h2:100≤n.natAbs:=by omega
 have h3:1*100≤x.natAbs*n.natAbs:=Nat.mul_le_mul h1 h2;rw[←Int.natAbs_mul]at h3;exact zHh (by omega)
def powErr (r:Bool) (l:List Int):Int:=if r=true then errOf (rightB l) 51 else 1
section
variable (x0 x1 x2 x3 x4 x5 x6 x7 n:Int)
theorem far_right (h:eqB [x0,x1,x2,x3,x4,x5,x6,x7] [0,0,0,0,0,0,0,0]=false) (hn:n < -99∨99<n):rightB [x0*n,x1*n,x2*n,x3*n,x4*n,x5*n,x6*n,x7*n]=false:=by
 by_cases h0:x0=0
 rotate_left
 ·exact zAr 0 (x0*n) rfl (zGa h0 hn)
 by_cases h1:x1=0
 rotate_left
 ·exact zAr 1 (x1*n) rfl (zGa h1 hn)
 by_cases h2:x2=0
 rotate_left
 ·exact zAr 2 (x2*n) rfl (zGa h2 hn)
 by_cases h3:x3=0
 rotate_left
 ·exact zAr 3 (x3*n) rfl (zGa h3 hn)
 by_cases h4:x4=0
 rotate_left
 ·exact zAr 4 (x4*n) rfl (zGa h4 hn)
 by_cases h5:x5=0
 rotate_left
 ·exact zAr 5 (x5*n) rfl (zGa h5 hn)
 by_cases h6:x6=0
 rotate_left
 ·exact zAr 6 (x6*n) rfl (zGa h6 hn)
 by_cases h7:x7=0
 rotate_left
 ·exact zAr 7 (x7*n) rfl (zGa h7 hn)
 simp[eqB,h0,h1,h2,h3,h4,h5,h6,h7]at h
theorem pow_any (w:World):Calls Tryz.prog 174 #[.agg #[I x0,I x1,I x2,I x3,I x4,I x5,I x6,I x7],I n] w fun e w'=>e=.returned (.tuple #[.agg #[I (sel (rightB [x0,x1,x2,x3,x4,x5,x6,x7] && rightB [x0*n,x1*n,x2*n,x3*n,x4*n,x5*n,x6*n,x7*n]) (x0*n)),I (sel (rightB [x0,x1,x2,x3,x4,x5,x6,x7] && rightB [x0*n,x1*n,x2*n,x3*n,x4*n,x5*n,x6*n,x7*n]) (x1*n)),I (sel (rightB [x0,x1,x2,x3,x4,x5,x6,x7] && rightB [x0*n,x1*n,x2*n,x3*n,x4*n,x5*n,x6*n,x7*n]) (x2*n)),I (sel (rightB [x0,x1,x2,x3,x4,x5,x6,x7] && rightB [x0*n,x1*n,x2*n,x3*n,x4*n,x5*n,x6*n,x7*n]) (x3*n)),I (sel (rightB [x0,x1,x2,x3,x4,x5,x6,x7] && rightB [x0*n,x1*n,x2*n,x3*n,x4*n,x5*n,x6*n,x7*n]) (x4*n)),I (sel (rightB [x0,x1,x2,x3,x4,x5,x6,x7] && rightB [x0*n,x1*n,x2*n,x3*n,x4*n,x5*n,x6*n,x7*n]) (x5*n)),I (sel (rightB [x0,x1,x2,x3,x4,x5,x6,x7] && rightB [x0*n,x1*n,x2*n,x3*n,x4*n,x5*n,x6*n,x7*n]) (x6*n)),I (sel (rightB [x0,x1,x2,x3,x4,x5,x6,x7] && rightB [x0*n,x1*n,x2*n,x3*n,x4*n,x5*n,x6*n,x7*n]) (x7*n))],I (powErr (rightB [x0,x1,x2,x3,x4,x5,x6,x7]) [x0*n,x1*n,x2*n,x3*n,x4*n,x5*n,x6*n,x7*n])])∧Bw w w':=by
 have HA:=zAb (zHy x0 x1 x2 x3 x4 x5 x6 x7);have HT:=zAb (zGf (x0*n) (x1*n) (x2*n) (x3*n) (x4*n) (x5*n) (x6*n) (x7*n));have HG:=zAb (rightB_get (l:=[x0,x1,x2,x3,x4,x5,x6,x7]));have HF:=zAb (far_right x0 x1 x2 x3 x4 x5 x6 x7 n);have heq:=eqIn24 x0 x1 x2 x3 x4 x5 x6 x7 0 0 0 0 0 0 0 0
 have hz:eqB [x0,x1,x2,x3,x4,x5,x6,x7] [0,0,0,0,0,0,0,0]=true→x0=0∧x1=0∧x2=0∧x3=0∧x4=0∧x5=0∧x6=0∧x7=0:=by
  intro h;simpa [eqB] using h
 have HZ:=zAb hz;clear hz;unfold powErr;generalize hr:rightB [x0,x1,x2,x3,x4,x5,x6,x7]=r at *
 cases r with
 | false=>
  clear hr;simp only[Bool.false_and,sel_false,Bool.false_eq_true,if_false];go_enter Tryz.func174,Tryz.ntmps174
  go_wp2_with (go_at_call 170;refine(un HA _).mono ?_;rintro e w' ⟨rfl,rfl⟩)
  exact bodyPost_ret (v:=.tuple #[.agg #[I 0,I 0,I 0,I 0,I 0,I 0,I 0,I 0],I 1]) (by simp[results,Tryz.results174,go_sem]) rfl ⟨rfl,by repeat (first|exact Below.refl _ _|(refine Below.alloc ?_ (by simp<;>omega) _))⟩
 | true=>
  simp only[Bool.true_and,if_true];have hb:=un HG rfl;clear hr
  cases he:eqB [x0,x1,x2,x3,x4,x5,x6,x7] [0,0,0,0,0,0,0,0]with
  | true=>
   obtain⟨rfl,rfl,rfl,rfl,rfl,rfl,rfl,rfl⟩:=un HZ he
   have hr0:rightB [0*n,0*n,0*n,0*n,0*n,0*n,0*n,0*n]=true:=rightB_true fun j x hx=>by
    have hm:=List.mem_of_getElem? hx;have:x=0:=by simp at hm;exact hm
    subst this;rfl
   rw[hr0];simp only[sel_true,errOf_true,Int.zero_mul];rw[he]at heq;clear HF HT HZ hr0 hb HG he;go_enter Tryz.func174,Tryz.ntmps174
   go_wp2_with (go_at_call 170;refine(un HA _).mono ?_;rintro e w' ⟨rfl,rfl⟩)
   exact bodyPost_ret (v:=.tuple #[.agg #[I 0,I 0,I 0,I 0,I 0,I 0,I 0,I 0],I 0]) (by simp[results,Tryz.results174,go_sem]) rfl ⟨rfl,by repeat (first|exact Below.refl _ _|(refine Below.alloc ?_ (by simp<;>omega) _))⟩
  | false=>
   rw[he]at heq
   by_cases hn:n < -99∨99<n
   ·rw[un HF he hn]
    simp only[sel_false,errOf_false];clear HF HT HZ hb HG he;rcases hn with hn|hn
    ·go_enter Tryz.func174,Tryz.ntmps174
     go_wp2_with (go_at_call 170;refine(un HA _).mono ?_;rintro e w' ⟨rfl,rfl⟩)
     exact bodyPost_ret (v:=.tuple #[.agg #[I 0,I 0,I 0,I 0,I 0,I 0,I 0,I 0],I 51]) (by simp[results,Tryz.results174,go_sem]) rfl ⟨rfl,by repeat (first|exact Below.refl _ _|(refine Below.alloc ?_ (by simp<;>omega) _))⟩
    ·have hn':¬n < -99:=by omega
     go_enter Tryz.func174,Tryz.ntmps174
     go_wp2_with (go_at_call 170;refine(un HA _).mono ?_;rintro e w' ⟨rfl,rfl⟩)
     exact bodyPost_ret (v:=.tuple #[.agg #[I 0,I 0,I 0,I 0,I 0,I 0,I 0,I 0],I 51]) (by simp[results,Tryz.results174,go_sem]) rfl ⟨rfl,by repeat (first|exact Below.refl _ _|(refine Below.alloc ?_ (by simp<;>omega) _))⟩
   ·have h1:¬n < -99:=by omega
    have h2:¬ 99<n:=by omega
    have m0:=zEg (n:=n) (hb 0 x0 rfl) (by omega);have m1:=zEg (n:=n) (hb 1 x1 rfl) (by omega);have m2:=zEg (n:=n) (hb 2 x2 rfl) (by omega);have m3:=zEg (n:=n) (hb 3 x3 rfl) (by omega);have m4:=zEg (n:=n) (hb 4 x4 rfl) (by omega);have m5:=zEg (n:=n) (hb 5 x5 rfl) (by omega);have m6:=zEg (n:=n) (hb 6 x6 rfl) (by omega);have m7:=zEg (n:=n) (hb 7 x7 rfl) (by omega);clear hn HF HZ hb HG he;generalize rightB [x0*n,x1*n,x2*n,x3*n,x4*n,x5*n,x6*n,x7*n]=rq at *
    go_enter Tryz.func174,Tryz.ntmps174
    go_wp2_with (go_at_call 170;refine(un HA _).mono ?_;rintro e w' ⟨rfl,rfl⟩)
    refine wp_loop_rounds 9 ?_
    repeat any_goals (rw[rounds_succ];go_wp2_with (go_at_call 179;refine(un HT _).mono ?_;rintro e w' ⟨rfl,rfl⟩))
    exact bodyPost_ret (v:=.tuple #[.agg #[I (sel rq (x0*n)),I (sel rq (x1*n)),I (sel rq (x2*n)),I (sel rq (x3*n)),I (sel rq (x4*n)),I (sel rq (x5*n)),I (sel rq (x6*n)),I (sel rq (x7*n))],I (errOf rq 51)]) (by simp[results,Tryz.results174,go_sem]) rfl ⟨rfl,by repeat (first|exact Below.refl _ _|(refine Below.alloc ?_ (by simp<;>omega) _))⟩
end
end Go.Proofs.YtliadckofhblnaaGreatDoor.Dm

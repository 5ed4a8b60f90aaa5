/- Groups of si, made. -/
import Derived.Test.YtliadckofhblnaaGreatDoorLimb3
import Derived.Test.YtliadckofhblnaaGreatDoorSi5
import Derived.Test.YtliadckofhblnaaGreatDoorSu
set_option maxHeartbeats 8000000
set_option maxRecDepth 100000
namespace Go.Proofs.YtliadckofhblnaaGreatDoor
open Go.RowKit
theorem fill_along (g:Nat) (b1:Nat) (w:World) (hg:zAc w g 286 zAw) (h1:zAc w b1 180 (J (-1) 1 (-2) 0 0 0 0 0 1 1)) (n1:¬b1=g) :
 Calls Tryz.prog 325 #[.func (.func 367) #[] #[.pointer (some ⟨g,0,none⟩)],.pointer (some ⟨b1,0,none⟩)] w fun e w'=>e=.returned (.tuple #[])∧zAc w' g 286 zDv∧Onto w w' g:=by
 have HF0:Hid (FS w w g zAw [(b1,J (-1) 1 (-2) 0 0 0 0 0 1 1)]):=⟨hg,Onto.of_below (Below.refl _ _),fun p hp=>(by simp only[List.mem_cons,List.not_mem_nil,or_false]at hp;subst hp;exact⟨n1,h1⟩)⟩;clear hg h1 n1;go_enter Tryz.func325,Tryz.ntmps325
 go_upto_region 1 with (first
  | (refine zAn 180 10 zAu rfl (.tmp 3) (.tmp 10) rfl W4.heap.size z10 (J 0 0 1 0 0 0 0 0 60 1) rfl rfl rfl rfl (zAc.new _ _ _) (by kernel_rfl) ?_)
  | (go_at_call 367;go_must(refine(zDy 0 0 1 0 0 0 0 0 60 1 g zAw zGh _ (un HF3).gr rfl rfl (by kernel_rfl)).mono ?_;rintro e W4 ⟨rfl,hg1,ho1⟩;have HF4:=zAb ((un HF3).put hg1 ho1);clear hg1 ho1))
  | (go_at_call 315;have hchk:=HF2;clear hchk;refine(zBe 0 0 0 0 0 0 0 0 60 1 0 0 1 0 0 0 0 0 1 1 0 0 1 0 0 0 0 0 60 1 _ (by decide +kernel)).mono ?_;rintro e W3 ⟨rfl,hb⟩;have HF3:=zAb ((un HF2).later hb);clear hb)
  | (go_at_call 314;have hchk:=HF1;clear hchk;refine(siOne2 _).mono ?_;rintro e W2 ⟨rfl,hb⟩;have HF2:=zAb ((un HF1).later hb);clear hb)
  | (go_at_call 320;have hchk:=HF0;clear hchk;refine(zBp 60 _).mono ?_;rintro e W1 ⟨rfl,hb⟩;have HF1:=zAb ((un HF0).later hb);clear hb))
 have HF5:=zAb (((un HF4).alloc z10).row (un HF4).on.size (fun p hp=>Nat.ne_of_gt ((un HF4).bx p hp).2.lt) (J 0 0 1 0 0 0 0 0 60 1));generalize (W4.alloc (.cells z10 180)).setRow W4.heap.size (J 0 0 1 0 0 0 0 0 60 1)=W5 at *
 generalize W4.heap.size=k3 at *
 have hpn:∀(a:Act) (v:Value),a.put none v=a:=fun _ _=>rfl
 simp only[hpn];clear hpn
 go_wp2_with fail
 go_cut [4]from 11 (fun s9 wx=>∃k,s9=.pointer (some ⟨k,0,none⟩)∧Hid (FS w wx g zFi ((k,J 0 0 1 0 0 0 0 0 3600 1) :: [(k3,J 0 0 1 0 0 0 0 0 60 1),(b1,J (-1) 1 (-2) 0 0 0 0 0 1 1)])))
 case first=>
  have HSS:Hid (∀(W':World) (vs:Array Value),FS w W' g vs [(k3,J 0 0 1 0 0 0 0 0 60 1),(b1,J (-1) 1 (-2) 0 0 0 0 0 1 1)]→C10 W' k3 (I 0) (I 0) (I 1) (I 0) (I 0) (I 0) (I 0) (I 0) (I 60) (I 1)):=fun W' vs h=>(h.bx (k3,J 0 0 1 0 0 0 0 0 60 1) (by simp)).2.c10
  have HF6:Hid (FS w (W5.drew) g zGh [(k3,J 0 0 1 0 0 0 0 0 60 1),(b1,J (-1) 1 (-2) 0 0 0 0 0 1 1)]):=(un HF5).later (Below.refl _ _).drew;have HS6:=zAb (un HSS _ _ (un HF6));refine zAi 6 (fun _=>True) (fun W'=>W'.cell? ⟨k3,0,none⟩=some (I 0)∧W'.cell? ⟨k3,1,none⟩=some (I 0)∧W'.cell? ⟨k3,2,none⟩=some (I 1)∧W'.cell? ⟨k3,3,none⟩=some (I 0)∧W'.cell? ⟨k3,4,none⟩=some (I 0)∧W'.cell? ⟨k3,5,none⟩=some (I 0)∧W'.cell? ⟨k3,6,none⟩=some (I 0)∧W'.cell? ⟨k3,7,none⟩=some (I 0)∧W'.cell? ⟨k3,8,none⟩=some (I 60)∧W'.cell? ⟨k3,9,none⟩=some (I 1)) 7 rfl (by kernel_rfl) ?_;refine wT7 0 (.func (.func 367) #[] #[.pointer (some ⟨g,0,none⟩)]) rfl (Or.inl ⟨by rfl,?_⟩) ⟨trivial,un HS6⟩ ?_
  ·intro W hW
   go_split_ands
   go_simp
  refine wT7 2 (.agg (J 0 0 1 0 0 0 0 0 60 1)) rfl (Or.inl ⟨by rfl,?_⟩) ⟨trivial,un HS6⟩ ?_
  ·intro W hW
   go_split_ands
   go_simp
  clear HS6;generalize W5.drew=W6 at *
  refine zBn (i:=1) (j:=5) (by kernel_rfl) rfl rfl rfl rfl (fun K hK=>?_) (fun K hK=>?_)
  ·skip
   go_simp
   refine(zBp 60 _).mono ?_;rintro e W7 ⟨rfl,hb⟩;have HF7:=zAb ((un HF6).later hb);clear hb;refine hK _ _ ⟨trivial,un HSS _ _ (un HF7)⟩ ?_;clear hK K;refine zBn (i:=3) (j:=5) (by kernel_rfl) rfl rfl rfl rfl (fun K hK=>?_) (fun K hK=>?_)
   ·skip
    go_simp
    refine(zBe 0 0 0 0 0 0 0 0 60 1 0 0 1 0 0 0 0 0 60 1 0 0 1 0 0 0 0 0 3600 1 _ (by decide +kernel)).mono ?_;rintro e W8 ⟨rfl,hb⟩;have HF8:=zAb ((un HF7).later hb);clear hb;refine hK _ _ ⟨trivial,un HSS _ _ (un HF8)⟩ ?_;clear hK K;refine zBn (i:=4) (j:=5) (by kernel_rfl) rfl rfl rfl rfl (fun K hK=>?_) (fun K hK=>?_)
    ·skip
     go_simp
     refine(zDa 0 0 1 0 0 0 0 0 3600 1 g zGh zFi _ (un HF8).gr rfl rfl (by kernel_rfl)).mono ?_;rintro e W9 ⟨rfl,hg1,ho1⟩;have HF9:=zAb ((un HF8).put hg1 ho1);clear hg1 ho1;refine hK _ _ ⟨trivial,un HSS _ _ (un HF9)⟩ ?_;clear hK K;refine wO 5 rfl rfl (fun K hK=>?_)
     go_simp
     have HL:Hid (w.heap.size≤W9.heap.size∧∀p:Nat×Array Value,p∈([(k3,J 0 0 1 0 0 0 0 0 60 1),(b1,J (-1) 1 (-2) 0 0 0 0 0 1 1)]:List (Nat×Array Value))→¬W9.heap.size=p.1):=⟨(un HF9).on.size,fun p hp=>Nat.ne_of_gt ((un HF9).bx p hp).2.lt⟩;have HF10:=zAb ((un HF9).alloc z10);refine hK _ _ ⟨trivial,un HSS _ _ (un HF10).tail⟩ ?_;clear hK K;generalize hW10:W9.alloc (.cells z10 180)=W10 at *
     clear hW10;generalize W9.heap.size=k at *
     have HFE:=zAb ((un HF10).row (un HL).1 (un HL).2 (J 0 0 1 0 0 0 0 0 3600 1));refine wL 6 rfl rfl (fun K hK=>?_);refine wp_store_row 180 (.tmp 4) (.tmp 15) rfl k (J 0 0 1 0 0 0 0 0 3600 1) rfl rfl 180 _ ((un HF10).bx (k,z10) (by simp)).2 (by rw[zAu];rfl) rfl (by kernel_rfl) (hK _ _ (un HSS _ _ (un HFE).tail) ?_);clear hK K;refine wDn ?_;generalize W10.setRow k (J 0 0 1 0 0 0 0 0 3600 1)=U at HFE ⊢
     go_wp2_with fail
     go_meet
     exact⟨k,rfl,HFE⟩
    ·skip
     go_simp
     have HL:Hid (w.heap.size≤W8.heap.size∧∀p:Nat×Array Value,p∈([(k3,J 0 0 1 0 0 0 0 0 60 1),(b1,J (-1) 1 (-2) 0 0 0 0 0 1 1)]:List (Nat×Array Value))→¬W8.heap.size=p.1):=⟨(un HF8).on.size,fun p hp=>Nat.ne_of_gt ((un HF8).bx p hp).2.lt⟩;have HF9:=zAb ((un HF8).alloc z10);refine hK _ _ ⟨trivial,un HSS _ _ (un HF9).tail⟩ ?_;clear hK K;generalize hW9:W8.alloc (.cells z10 180)=W9 at *
     clear hW9;generalize W8.heap.size=k at *
     refine wO 4 rfl rfl (fun K hK=>?_)
     go_simp
     refine(zDa 0 0 1 0 0 0 0 0 3600 1 g zGh zFi _ (un HF9).gr rfl rfl (by kernel_rfl)).mono ?_;rintro e W10 ⟨rfl,hg1,ho1⟩;have HF10:=zAb ((un HF9).put hg1 ho1);clear hg1 ho1;refine hK _ _ ⟨trivial,un HSS _ _ ((un HF10).tail)⟩ ?_;clear hK K;have HFE:=zAb ((un HF10).row (un HL).1 (un HL).2 (J 0 0 1 0 0 0 0 0 3600 1));refine wL 6 rfl rfl (fun K hK=>?_);refine wp_store_row 180 (.tmp 4) (.tmp 15) rfl k (J 0 0 1 0 0 0 0 0 3600 1) rfl rfl 180 _ ((un HF10).bx (k,z10) (by simp)).2 (by rw[zAu];rfl) rfl (by kernel_rfl) (hK _ _ (un HSS _ _ (un HFE).tail) ?_);clear hK K;refine wDn ?_;generalize W10.setRow k (J 0 0 1 0 0 0 0 0 3600 1)=U at HFE ⊢
     go_wp2_with fail
     go_meet
     exact⟨k,rfl,HFE⟩
   ·skip
    go_simp
    have HL:Hid (w.heap.size≤W7.heap.size∧∀p:Nat×Array Value,p∈([(k3,J 0 0 1 0 0 0 0 0 60 1),(b1,J (-1) 1 (-2) 0 0 0 0 0 1 1)]:List (Nat×Array Value))→¬W7.heap.size=p.1):=⟨(un HF7).on.size,fun p hp=>Nat.ne_of_gt ((un HF7).bx p hp).2.lt⟩;have HF8:=zAb ((un HF7).alloc z10);refine hK _ _ ⟨trivial,un HSS _ _ (un HF8).tail⟩ ?_;clear hK K;generalize hW8:W7.alloc (.cells z10 180)=W8 at *
    clear hW8;generalize W7.heap.size=k at *
    refine wO 3 rfl rfl (fun K hK=>?_)
    go_simp
    refine(zBe 0 0 0 0 0 0 0 0 60 1 0 0 1 0 0 0 0 0 60 1 0 0 1 0 0 0 0 0 3600 1 _ (by decide +kernel)).mono ?_;rintro e W9 ⟨rfl,hb⟩;have HF9:=zAb ((un HF8).later hb);clear hb;refine hK _ _ ⟨trivial,un HSS _ _ ((un HF9).tail)⟩ ?_;clear hK K;refine wO 4 rfl rfl (fun K hK=>?_)
    go_simp
    refine(zDa 0 0 1 0 0 0 0 0 3600 1 g zGh zFi _ (un HF9).gr rfl rfl (by kernel_rfl)).mono ?_;rintro e W10 ⟨rfl,hg1,ho1⟩;have HF10:=zAb ((un HF9).put hg1 ho1);clear hg1 ho1;refine hK _ _ ⟨trivial,un HSS _ _ ((un HF10).tail)⟩ ?_;clear hK K;have HFE:=zAb ((un HF10).row (un HL).1 (un HL).2 (J 0 0 1 0 0 0 0 0 3600 1));refine wL 6 rfl rfl (fun K hK=>?_);refine wp_store_row 180 (.tmp 4) (.tmp 15) rfl k (J 0 0 1 0 0 0 0 0 3600 1) rfl rfl 180 _ ((un HF10).bx (k,z10) (by simp)).2 (by rw[zAu];rfl) rfl (by kernel_rfl) (hK _ _ (un HSS _ _ (un HFE).tail) ?_);clear hK K;refine wDn ?_;generalize W10.setRow k (J 0 0 1 0 0 0 0 0 3600 1)=U at HFE ⊢
    go_wp2_with fail
    go_meet
    exact⟨k,rfl,HFE⟩
  ·skip
   go_simp
   have HL:Hid (w.heap.size≤W6.heap.size∧∀p:Nat×Array Value,p∈([(k3,J 0 0 1 0 0 0 0 0 60 1),(b1,J (-1) 1 (-2) 0 0 0 0 0 1 1)]:List (Nat×Array Value))→¬W6.heap.size=p.1):=⟨(un HF6).on.size,fun p hp=>Nat.ne_of_gt ((un HF6).bx p hp).2.lt⟩;have HF7:=zAb ((un HF6).alloc z10);refine hK _ _ ⟨trivial,un HSS _ _ (un HF7).tail⟩ ?_;clear hK K;generalize hW7:W6.alloc (.cells z10 180)=W7 at *
   clear hW7;generalize W6.heap.size=k at *
   refine wO 1 rfl rfl (fun K hK=>?_)
   go_simp
   refine(zBp 60 _).mono ?_;rintro e W8 ⟨rfl,hb⟩;have HF8:=zAb ((un HF7).later hb);clear hb;refine hK _ _ ⟨trivial,un HSS _ _ ((un HF8).tail)⟩ ?_;clear hK K;refine wO 3 rfl rfl (fun K hK=>?_)
   go_simp
   refine(zBe 0 0 0 0 0 0 0 0 60 1 0 0 1 0 0 0 0 0 60 1 0 0 1 0 0 0 0 0 3600 1 _ (by decide +kernel)).mono ?_;rintro e W9 ⟨rfl,hb⟩;have HF9:=zAb ((un HF8).later hb);clear hb;refine hK _ _ ⟨trivial,un HSS _ _ ((un HF9).tail)⟩ ?_;clear hK K;refine wO 4 rfl rfl (fun K hK=>?_)
   go_simp
   refine(zDa 0 0 1 0 0 0 0 0 3600 1 g zGh zFi _ (un HF9).gr rfl rfl (by kernel_rfl)).mono ?_;rintro e W10 ⟨rfl,hg1,ho1⟩;have HF10:=zAb ((un HF9).put hg1 ho1);clear hg1 ho1;refine hK _ _ ⟨trivial,un HSS _ _ ((un HF10).tail)⟩ ?_;clear hK K;have HFE:=zAb ((un HF10).row (un HL).1 (un HL).2 (J 0 0 1 0 0 0 0 0 3600 1));refine wL 6 rfl rfl (fun K hK=>?_);refine wp_store_row 180 (.tmp 4) (.tmp 15) rfl k (J 0 0 1 0 0 0 0 0 3600 1) rfl rfl 180 _ ((un HF10).bx (k,z10) (by simp)).2 (by rw[zAu];rfl) rfl (by kernel_rfl) (hK _ _ (un HSS _ _ (un HFE).tail) ?_);clear hK K;refine wDn ?_;generalize W10.setRow k (J 0 0 1 0 0 0 0 0 3600 1)=U at HFE ⊢
   go_wp2_with fail
   go_meet
   exact⟨k,rfl,HFE⟩
 case rest=>
  obtain⟨k4,rfl,HF25⟩:=hcut;generalize wc=W25 at HF25 ⊢
  go_upto_region 2 with fail
  have HSS:Hid (∀(W':World) (vs:Array Value),FS w W' g vs [(k4,J 0 0 1 0 0 0 0 0 3600 1),(k3,J 0 0 1 0 0 0 0 0 60 1),(b1,J (-1) 1 (-2) 0 0 0 0 0 1 1)]→C10 W' k4 (I 0) (I 0) (I 1) (I 0) (I 0) (I 0) (I 0) (I 0) (I 3600) (I 1)):=fun W' vs h=>(h.bx (k4,J 0 0 1 0 0 0 0 0 3600 1) (by simp)).2.c10
  have HF26:Hid (FS w (W25.drew) g zFi [(k4,J 0 0 1 0 0 0 0 0 3600 1),(k3,J 0 0 1 0 0 0 0 0 60 1),(b1,J (-1) 1 (-2) 0 0 0 0 0 1 1)]):=(un HF25).later (Below.refl _ _).drew;have HS26:=zAb (un HSS _ _ (un HF26));refine zAi 4 (fun _=>True) (fun W'=>W'.cell? ⟨k4,0,none⟩=some (I 0)∧W'.cell? ⟨k4,1,none⟩=some (I 0)∧W'.cell? ⟨k4,2,none⟩=some (I 1)∧W'.cell? ⟨k4,3,none⟩=some (I 0)∧W'.cell? ⟨k4,4,none⟩=some (I 0)∧W'.cell? ⟨k4,5,none⟩=some (I 0)∧W'.cell? ⟨k4,6,none⟩=some (I 0)∧W'.cell? ⟨k4,7,none⟩=some (I 0)∧W'.cell? ⟨k4,8,none⟩=some (I 3600)∧W'.cell? ⟨k4,9,none⟩=some (I 1)) 5 rfl (by kernel_rfl) ?_;refine wT7 0 (.func (.func 367) #[] #[.pointer (some ⟨g,0,none⟩)]) rfl (Or.inl ⟨by rfl,?_⟩) ⟨trivial,un HS26⟩ ?_
  ·intro W hW
   go_split_ands
   go_simp
  refine wT7 2 (.agg (J 0 0 1 0 0 0 0 0 3600 1)) rfl (Or.inl ⟨by rfl,?_⟩) ⟨trivial,un HS26⟩ ?_
  ·intro W hW
   go_split_ands
   go_simp
  refine wO 1 rfl rfl (fun K hK=>?_)
  go_simp
  refine(zBp 24 _).mono ?_;rintro e W27 ⟨rfl,hb⟩;have HF27:=zAb ((un HF26).later hb);clear hb;refine hK _ _ ⟨trivial,un HSS _ _ (un HF27)⟩ ?_;clear hK K;refine wO 3 rfl rfl (fun K hK=>?_)
  go_simp
  refine(zBe 0 0 0 0 0 0 0 0 24 1 0 0 1 0 0 0 0 0 3600 1 0 0 1 0 0 0 0 0 86400 1 _ (by decide +kernel)).mono ?_;rintro e W28 ⟨rfl,hb⟩;have HF28:=zAb ((un HF27).later hb);clear hb;refine hK _ _ ⟨trivial,un HSS _ _ (un HF28)⟩ ?_;clear hK K;refine wL 4 rfl rfl (fun K hK=>?_)
  go_simp
  refine(put2_of 0 0 1 0 0 0 0 0 86400 1 g zFi g_along3 _ (un HF28).gr rfl rfl (by kernel_rfl)).mono ?_;rintro e W29 ⟨rfl,hg1,ho1⟩;have HF29:=zAb ((un HF28).put hg1 ho1);clear hg1 ho1;refine hK _ _ (un HSS _ _ (un HF29)) ?_;clear hK K;refine wDn ?_;clear HSS HS26
  go_upto_region 4 with (first
  | (refine zAn 180 10 zAu rfl (.tmp 5) (.tmp 23) rfl W32.heap.size z10 (J 2 0 0 0 0 0 0 0 1 1) rfl rfl rfl rfl (zAc.new _ _ _) (by kernel_rfl) ?_)
  | (go_at_call 315;have hchk:=HF31;clear hchk;refine(zBe 1 0 0 0 0 0 0 0 1 1 1 0 0 0 0 0 0 0 1 1 2 0 0 0 0 0 0 0 1 1 _ (by decide +kernel)).mono ?_;rintro e W32 ⟨rfl,hb⟩;have HF32:=zAb ((un HF31).later hb);clear hb)
  | (go_at_call 314;have hchk:=HF30;clear hchk;refine(zEu _).mono ?_;rintro e W31 ⟨rfl,hb⟩;have HF31:=zAb ((un HF30).later hb);clear hb)
  | (go_at_call 314;have hchk:=HF29;clear hchk;refine(zEu _).mono ?_;rintro e W30 ⟨rfl,hb⟩;have HF30:=zAb ((un HF29).later hb);clear hb))
  have HF33:=zAb (((un HF32).alloc z10).row (un HF32).on.size (fun p hp=>Nat.ne_of_gt ((un HF32).bx p hp).2.lt) (J 2 0 0 0 0 0 0 0 1 1));generalize (W32.alloc (.cells z10 180)).setRow W32.heap.size (J 2 0 0 0 0 0 0 0 1 1)=W33 at *
  generalize W32.heap.size=k5 at *
  have hpn:∀(a:Act) (v:Value),a.put none v=a:=fun _ _=>rfl
  simp only[hpn];clear hpn
  go_upto_region 4 with fail
  have HSS:Hid (∀(W':World) (vs:Array Value),FS w W' g vs [(k5,J 2 0 0 0 0 0 0 0 1 1),(k4,J 0 0 1 0 0 0 0 0 3600 1),(k3,J 0 0 1 0 0 0 0 0 60 1),(b1,J (-1) 1 (-2) 0 0 0 0 0 1 1)]→C10 W' k5 (I 2) (I 0) (I 0) (I 0) (I 0) (I 0) (I 0) (I 0) (I 1) (I 1)):=fun W' vs h=>(h.bx (k5,J 2 0 0 0 0 0 0 0 1 1) (by simp)).2.c10
  have HF34:Hid (FS w (W33.drew) g g_along3 [(k5,J 2 0 0 0 0 0 0 0 1 1),(k4,J 0 0 1 0 0 0 0 0 3600 1),(k3,J 0 0 1 0 0 0 0 0 60 1),(b1,J (-1) 1 (-2) 0 0 0 0 0 1 1)]):=(un HF33).later (Below.refl _ _).drew;have HS34:=zAb (un HSS _ _ (un HF34));refine zAi 6 (fun _=>True) (fun W'=>W'.cell? ⟨k5,0,none⟩=some (I 2)∧W'.cell? ⟨k5,1,none⟩=some (I 0)∧W'.cell? ⟨k5,2,none⟩=some (I 0)∧W'.cell? ⟨k5,3,none⟩=some (I 0)∧W'.cell? ⟨k5,4,none⟩=some (I 0)∧W'.cell? ⟨k5,5,none⟩=some (I 0)∧W'.cell? ⟨k5,6,none⟩=some (I 0)∧W'.cell? ⟨k5,7,none⟩=some (I 0)∧W'.cell? ⟨k5,8,none⟩=some (I 1)∧W'.cell? ⟨k5,9,none⟩=some (I 1)) 7 rfl (by kernel_rfl) ?_;refine wT7 0 (.func (.func 367) #[] #[.pointer (some ⟨g,0,none⟩)]) rfl (Or.inl ⟨by rfl,?_⟩) ⟨trivial,un HS34⟩ ?_
  ·intro W hW
   go_split_ands
   go_simp
  refine wT7 1 (.agg (J 2 0 0 0 0 0 0 0 1 1)) rfl (Or.inl ⟨by rfl,?_⟩) ⟨trivial,un HS34⟩ ?_
  ·intro W hW
   go_split_ands
   go_simp
  refine wO 2 rfl rfl (fun K hK=>?_)
  go_simp
  refine(zEu _).mono ?_;rintro e W35 ⟨rfl,hb⟩;have HF35:=zAb ((un HF34).later hb);clear hb;refine hK _ _ ⟨trivial,un HSS _ _ (un HF35)⟩ ?_;clear hK K;refine wO 3 rfl rfl (fun K hK=>?_)
  go_simp
  refine(zBe 2 0 0 0 0 0 0 0 1 1 1 0 0 0 0 0 0 0 1 1 3 0 0 0 0 0 0 0 1 1 _ (by decide +kernel)).mono ?_;rintro e W36 ⟨rfl,hb⟩;have HF36:=zAb ((un HF35).later hb);clear hb;refine hK _ _ ⟨trivial,un HSS _ _ (un HF36)⟩ ?_;clear hK K;refine wO 4 rfl rfl (fun K hK=>?_)
  go_simp
  refine(zBp 1000 _).mono ?_;rintro e W37 ⟨rfl,hb⟩;have HF37:=zAb ((un HF36).later hb);clear hb;refine hK _ _ ⟨trivial,un HSS _ _ (un HF37)⟩ ?_;clear hK K;refine wO 5 rfl rfl (fun K hK=>?_)
  go_simp
  refine(zDz 3 0 0 0 0 0 0 0 1 1 0 0 0 0 0 0 0 0 1000 1 3 0 0 0 0 0 0 0 1 1000 _ (by decide +kernel)).mono ?_;rintro e W38 ⟨rfl,hb⟩;have HF38:=zAb ((un HF37).later hb);clear hb;refine hK _ _ ⟨trivial,un HSS _ _ (un HF38)⟩ ?_;clear hK K;refine wL 6 rfl rfl (fun K hK=>?_)
  go_simp
  refine(put3_of 3 0 0 0 0 0 0 0 1 1000 g g_along3 g_along4 _ (un HF38).gr rfl rfl (by kernel_rfl)).mono ?_;rintro e W39 ⟨rfl,hg1,ho1⟩;have HF39:=zAb ((un HF38).put hg1 ho1);clear hg1 ho1;refine hK _ _ (un HSS _ _ (un HF39)) ?_;clear hK K;refine wDn ?_;clear HSS HS34
  go_upto_region 6 with (first
  | (go_at_call 367;go_must(refine(put4_of 0 1 0 0 0 0 0 0 1000 1 g g_along4 g_along5 _ (un HF42).gr rfl rfl (by kernel_rfl)).mono ?_;rintro e W43 ⟨rfl,hg1,ho1⟩;have HF43:=zAb ((un HF42).put hg1 ho1);clear hg1 ho1))
  | (go_at_call 315;have hchk:=HF41;clear hchk;refine(zBe 0 0 0 0 0 0 0 0 1000 1 0 1 0 0 0 0 0 0 1 1 0 1 0 0 0 0 0 0 1000 1 _ (by decide +kernel)).mono ?_;rintro e W42 ⟨rfl,hb⟩;have HF42:=zAb ((un HF41).later hb);clear hb)
  | (go_at_call 314;have hchk:=HF40;clear hchk;refine(siOne1 _).mono ?_;rintro e W41 ⟨rfl,hb⟩;have HF41:=zAb ((un HF40).later hb);clear hb)
  | (go_at_call 320;have hchk:=HF39;clear hchk;refine(zBp 1000 _).mono ?_;rintro e W40 ⟨rfl,hb⟩;have HF40:=zAb ((un HF39).later hb);clear hb))
  go_upto_region 6 with fail
  have HSS:Hid (∀(W':World) (vs:Array Value),FS w W' g vs [(k5,J 2 0 0 0 0 0 0 0 1 1),(k4,J 0 0 1 0 0 0 0 0 3600 1),(k3,J 0 0 1 0 0 0 0 0 60 1),(b1,J (-1) 1 (-2) 0 0 0 0 0 1 1)]→C10 W' b1 (I (-1)) (I 1) (I (-2)) (I 0) (I 0) (I 0) (I 0) (I 0) (I 1) (I 1)):=fun W' vs h=>(h.bx (b1,J (-1) 1 (-2) 0 0 0 0 0 1 1) (by simp)).2.c10
  have HF44:Hid (FS w (W43.drew) g g_along5 [(k5,J 2 0 0 0 0 0 0 0 1 1),(k4,J 0 0 1 0 0 0 0 0 3600 1),(k3,J 0 0 1 0 0 0 0 0 60 1),(b1,J (-1) 1 (-2) 0 0 0 0 0 1 1)]):=(un HF43).later (Below.refl _ _).drew;have HS44:=zAb (un HSS _ _ (un HF44));refine zAi 4 (fun _=>True) (fun W'=>W'.cell? ⟨b1,0,none⟩=some (I (-1))∧W'.cell? ⟨b1,1,none⟩=some (I 1)∧W'.cell? ⟨b1,2,none⟩=some (I (-2))∧W'.cell? ⟨b1,3,none⟩=some (I 0)∧W'.cell? ⟨b1,4,none⟩=some (I 0)∧W'.cell? ⟨b1,5,none⟩=some (I 0)∧W'.cell? ⟨b1,6,none⟩=some (I 0)∧W'.cell? ⟨b1,7,none⟩=some (I 0)∧W'.cell? ⟨b1,8,none⟩=some (I 1)∧W'.cell? ⟨b1,9,none⟩=some (I 1)) 5 rfl (by kernel_rfl) ?_;refine wT7 0 (.func (.func 367) #[] #[.pointer (some ⟨g,0,none⟩)]) rfl (Or.inl ⟨by rfl,?_⟩) ⟨trivial,un HS44⟩ ?_
  ·intro W hW
   go_split_ands
   go_simp
  refine wT7 2 (.agg (J (-1) 1 (-2) 0 0 0 0 0 1 1)) rfl (Or.inl ⟨by rfl,?_⟩) ⟨trivial,un HS44⟩ ?_
  ·intro W hW
   go_split_ands
   go_simp
  refine wO 1 rfl rfl (fun K hK=>?_)
  go_simp
  refine(zBp 100000 _).mono ?_;rintro e W45 ⟨rfl,hb⟩;have HF45:=zAb ((un HF44).later hb);clear hb;refine hK _ _ ⟨trivial,un HSS _ _ (un HF45)⟩ ?_;clear hK K;refine wO 3 rfl rfl (fun K hK=>?_)
  go_simp
  refine(zBe 0 0 0 0 0 0 0 0 100000 1 (-1) 1 (-2) 0 0 0 0 0 1 1 (-1) 1 (-2) 0 0 0 0 0 100000 1 _ (by decide +kernel)).mono ?_;rintro e W46 ⟨rfl,hb⟩;have HF46:=zAb ((un HF45).later hb);clear hb;refine hK _ _ ⟨trivial,un HSS _ _ (un HF46)⟩ ?_;clear hK K;refine wL 4 rfl rfl (fun K hK=>?_)
  go_simp
  refine(put5_of (-1) 1 (-2) 0 0 0 0 0 100000 1 g g_along5 g_along6 _ (un HF46).gr rfl rfl (by kernel_rfl)).mono ?_;rintro e W47 ⟨rfl,hg1,ho1⟩;have HF47:=zAb ((un HF46).put hg1 ho1);clear hg1 ho1;refine hK _ _ (un HSS _ _ (un HF47)) ?_;clear hK K;refine wDn ?_;clear HSS HS44
  go_upto_region 7 with fail
  have HSS:Hid (∀(W':World) (vs:Array Value),FS w W' g vs [(k5,J 2 0 0 0 0 0 0 0 1 1),(k4,J 0 0 1 0 0 0 0 0 3600 1),(k3,J 0 0 1 0 0 0 0 0 60 1),(b1,J (-1) 1 (-2) 0 0 0 0 0 1 1)]→C10 W' k5 (I 2) (I 0) (I 0) (I 0) (I 0) (I 0) (I 0) (I 0) (I 1) (I 1)):=fun W' vs h=>(h.bx (k5,J 2 0 0 0 0 0 0 0 1 1) (by simp)).2.c10
  have HF48:Hid (FS w (W47.drew) g g_along6 [(k5,J 2 0 0 0 0 0 0 0 1 1),(k4,J 0 0 1 0 0 0 0 0 3600 1),(k3,J 0 0 1 0 0 0 0 0 60 1),(b1,J (-1) 1 (-2) 0 0 0 0 0 1 1)]):=(un HF47).later (Below.refl _ _).drew;have HS48:=zAb (un HSS _ _ (un HF48));refine zAi 4 (fun _=>True) (fun W'=>W'.cell? ⟨k5,0,none⟩=some (I 2)∧W'.cell? ⟨k5,1,none⟩=some (I 0)∧W'.cell? ⟨k5,2,none⟩=some (I 0)∧W'.cell? ⟨k5,3,none⟩=some (I 0)∧W'.cell? ⟨k5,4,none⟩=some (I 0)∧W'.cell? ⟨k5,5,none⟩=some (I 0)∧W'.cell? ⟨k5,6,none⟩=some (I 0)∧W'.cell? ⟨k5,7,none⟩=some (I 0)∧W'.cell? ⟨k5,8,none⟩=some (I 1)∧W'.cell? ⟨k5,9,none⟩=some (I 1)) 5 rfl (by kernel_rfl) ?_;refine wT7 0 (.func (.func 367) #[] #[.pointer (some ⟨g,0,none⟩)]) rfl (Or.inl ⟨by rfl,?_⟩) ⟨trivial,un HS48⟩ ?_
  ·intro W hW
   go_split_ands
   go_simp
  refine wT7 2 (.agg (J 2 0 0 0 0 0 0 0 1 1)) rfl (Or.inl ⟨by rfl,?_⟩) ⟨trivial,un HS48⟩ ?_
  ·intro W hW
   go_split_ands
   go_simp
  refine wO 1 rfl rfl (fun K hK=>?_)
  go_simp
  refine(zBp 10000 _).mono ?_;rintro e W49 ⟨rfl,hb⟩;have HF49:=zAb ((un HF48).later hb);clear hb;refine hK _ _ ⟨trivial,un HSS _ _ (un HF49)⟩ ?_;clear hK K;refine wO 3 rfl rfl (fun K hK=>?_)
  go_simp
  refine(zBe 0 0 0 0 0 0 0 0 10000 1 2 0 0 0 0 0 0 0 1 1 2 0 0 0 0 0 0 0 10000 1 _ (by decide +kernel)).mono ?_;rintro e W50 ⟨rfl,hb⟩;have HF50:=zAb ((un HF49).later hb);clear hb;refine hK _ _ ⟨trivial,un HSS _ _ (un HF50)⟩ ?_;clear hK K;refine wL 4 rfl rfl (fun K hK=>?_)
  go_simp
  refine(put6_of 2 0 0 0 0 0 0 0 10000 1 g g_along6 g_along7 _ (un HF50).gr rfl rfl (by kernel_rfl)).mono ?_;rintro e W51 ⟨rfl,hg1,ho1⟩;have HF51:=zAb ((un HF50).put hg1 ho1);clear hg1 ho1;refine hK _ _ (un HSS _ _ (un HF51)) ?_;clear hK K;refine wDn ?_;clear HSS HS48
  go_wp2_with (first
  | (go_at_call 367;go_must(refine(put7_of 0 0 0 0 0 0 0 1 8 1 g g_along7 zDv _ (un HF54).gr rfl rfl (by kernel_rfl)).mono ?_;rintro e W55 ⟨rfl,hg1,ho1⟩;have HF55:=zAb ((un HF54).put hg1 ho1);clear hg1 ho1))
  | (go_at_call 315;have hchk:=HF53;clear hchk;refine(zBe 0 0 0 0 0 0 0 0 8 1 0 0 0 0 0 0 0 1 1 1 0 0 0 0 0 0 0 1 8 1 _ (by decide +kernel)).mono ?_;rintro e W54 ⟨rfl,hb⟩;have HF54:=zAb ((un HF53).later hb);clear hb)
  | (go_at_call 314;have hchk:=HF52;clear hchk;refine(siOne7 _).mono ?_;rintro e W53 ⟨rfl,hb⟩;have HF53:=zAb ((un HF52).later hb);clear hb)
  | (go_at_call 320;have hchk:=HF51;clear hchk;refine(zBp 8 _).mono ?_;rintro e W52 ⟨rfl,hb⟩;have HF52:=zAb ((un HF51).later hb);clear hb))
  skip
  go_end0
  exact⟨rfl,(un HF55).gr,(un HF55).on⟩
theorem grp_along (b1:Nat) (w:World) (h1:zAc w b1 180 (J (-1) 1 (-2) 0 0 0 0 0 1 1)):Calls Tryz.prog 312 #[.func (.func 325) #[] #[.pointer (some ⟨b1,0,none⟩)]] w fun e w'=>e=.returned (.agg zDv)∧Bw w w':=by
 obtain⟨V,hV⟩:∃V,V=(w.alloc (.cells Tryz.zeroCells286 286)).alloc (.cells Tryz.zeroCells286 286):=⟨_,rfl⟩;obtain⟨g,hg⟩:∃g,g=w.heap.size+1:=⟨_,rfl⟩;have HW:Hid (Bw w V):=by rw[hV];exact bA.alloc (by simp) _
 have HR:Hid (zAc V w.heap.size 286 zAw):=by rw[hV,←zc91];exact(zAc.new w _ 286).alloc _
 have HG:Hid (zAc V g 286 zAw):=by rw[hV,hg,←zc91];have h:=zAc.new (w.alloc (.cells Tryz.zeroCells286 286)) Tryz.zeroCells286 286;rw[Dm.size_alloc]at h;exact h
 have HC1:Hid (zAc V b1 180 (J (-1) 1 (-2) 0 0 0 0 0 1 1)∧¬b1=g):=⟨h1.later (un HW),(by have:=h1.lt;omega)⟩;have HN:Hid (¬w.heap.size=g∧w.heap.size≤g∧w.heap.size≤V.heap.size):=⟨by omega,by omega,(un HW).size⟩;have HV:=zAb hV;clear hV h1;go_enter Tryz.func312,Tryz.ntmps312
 go_upto_region 2 with fail
 rw[←un HV,←hg];clear HV hg
 go_upto_region 3 with (go_at_call 325;go_must(refine(fill_along g b1 _ (un HG) (un HC1).1 (un HC1).2).mono ?_;rintro e w1 ⟨rfl,hg1,ho1⟩;have HG1:=zAb hg1;have HR1:=zAb (ho1.own _ _ _ (un HN).1 (un HR));have HW1:=zAb (ho1.bel w.heap.size w (un HN).2.1 (un HN).2.2 (un HW));clear hg1 ho1))
 go_wp2_with (first
  | (refine wpList_load_row rfl 286 (.tmp 3) rfl g rfl 286 zDv (0,0) _ (un HG1) Tryz.underlying286 rfl (by kernel_rfl) ?_)
  | (refine zAn 286 81 zDe rfl (.tmp 2) (.tmp 7) rfl w.heap.size zAw zDv rfl rfl rfl rfl (un HR1) (by kernel_rfl) ?_))
 exact bodyPost_ret (v:=.agg zDv) (zFu Tryz.results312 _ _ w.heap.size _ rfl rfl ((un HR1).setRow _)) rfl ⟨rfl,below_setRow (un HW1) (Nat.le_refl _) _⟩
theorem fld_along (w:World):(Instr.field 286 (.agg zBv) 0).run Tryz.prog w=.ok (.agg (zBv.extract 0 80)) w:=by kernel_rfl
theorem idx_along (w:World):(Instr.index 284 (.agg (zBv.extract 0 80)) (I 1)).run Tryz.prog w=.ok (.agg (J (-1) 1 (-2) 0 0 0 0 0 1 1)) w:=by kernel_rfl
theorem made_along (w:World):Calls Tryz.prog 294 #[] w fun e w'=>e=.returned (.agg zDv)∧Bw w w':=by
 obtain⟨V,hV⟩:∃V,V=w.alloc (.cells Tryz.zeroCells286 286):=⟨_,rfl⟩;have HW:Hid (Bw w V):=by rw[hV];exact bA
 have HR:Hid (zAc V w.heap.size 286 zAw):=by rw[hV,←zc91];exact zAc.new w _ 286
 have HV:=zAb hV;clear hV;have hfl:=fld_along;have hix:=idx_along;go_enter Tryz.func294,Tryz.ntmps294
 go_upto_region 1 with fail
 rw[←un HV];clear HV
 go_upto_region 2 with (first
  | (go_at_call 286;go_must(refine(made_force _).mono ?_;rintro e w1 ⟨rfl,hb⟩;have HR1:=zAb ((un HR).later hb);have HW1:=zAb (bt HW hb);clear hb))
  | (refine zAn 180 10 zAu rfl (.tmp 1) (.tmp 4) rfl w1.heap.size (J 0 0 0 0 0 0 0 0 0 0) (J (-1) 1 (-2) 0 0 0 0 0 1 1) rfl rfl rfl rfl (zAc.new _ _ _) (by kernel_rfl) ?_))
 have hb2:Below w1.heap.size w1 ((w1.alloc (.cells (J 0 0 0 0 0 0 0 0 0 0) 180)).setRow w1.heap.size (J (-1) 1 (-2) 0 0 0 0 0 1 1)):=below_setRow (zBx _ _) (Nat.le_refl _) _;have HB2:Hid (zAc ((w1.alloc (.cells (J 0 0 0 0 0 0 0 0 0 0) 180)).setRow w1.heap.size (J (-1) 1 (-2) 0 0 0 0 0 1 1)) w1.heap.size 180 (J (-1) 1 (-2) 0 0 0 0 0 1 1)):=(zAc.new _ _ _).setRow _;have HR2:=zAb ((un HR1).later hb2);have HW2:=zAb (bt HW1 hb2);clear hb2 hfl hix;generalize (w1.alloc (.cells (J 0 0 0 0 0 0 0 0 0 0) 180)).setRow w1.heap.size (J (-1) 1 (-2) 0 0 0 0 0 1 1)=w2 at *
 generalize w1.heap.size=b1 at *
 go_wp2_with (first
  | (go_at_call 312;go_must(refine(grp_along b1 _ (un HB2)).mono ?_;rintro e w3 ⟨rfl,hb⟩;have HR3:=zAb ((un HR2).later hb);have HW3:=zAb (bt HW2 hb);clear hb))
  | (refine zAn 286 81 zDe rfl (.tmp 0) (.tmp 6) rfl w.heap.size zAw zDv rfl rfl rfl rfl (un HR3) (by kernel_rfl) ?_))
 exact bodyPost_ret (v:=.agg zDv) (zFu Tryz.results294 _ _ w.heap.size _ rfl rfl ((un HR3).setRow _)) rfl ⟨rfl,below_setRow (un HW3) (Nat.le_refl _) _⟩
end Go.Proofs.YtliadckofhblnaaGreatDoor

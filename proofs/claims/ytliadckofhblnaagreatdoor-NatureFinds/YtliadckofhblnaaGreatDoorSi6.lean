/- What fills si's groups. -/
import Derived.Test.YtliadckofhblnaaGreatDoorLimb3
import Derived.Test.YtliadckofhblnaaGreatDoorSi14a
import Derived.Test.YtliadckofhblnaaGreatDoorReads2
import Derived.Test.YtliadckofhblnaaGreatDoorJoule
import Derived.Deep.Cut
namespace Go.Proofs.YtliadckofhblnaaGreatDoor
open Go.RowKit
structure FS (w W:World) (g:Nat) (vs:Array Value) (bs:List (Nat×Array Value)):Prop where
 gr:OwnU W g 286 vs
 on:Onto w W g
 bx:∀p,p∈bs→¬p.1=g∧OwnU W p.1 180 p.2
theorem FS.later {w W V:World} {g:Nat} {vs:Array Value} {bs:List (Nat×Array Value)} (h:FS w W g vs bs) (hb:Below W.heap.size W V):FS w V g vs bs :=
 ⟨h.gr.later hb,h.on.trans (Onto.of_below hb),fun p hp=>⟨(h.bx p hp).1,(h.bx p hp).2.later hb⟩⟩
theorem FS.put {w W V:World} {g:Nat} {vs us:Array Value} {bs:List (Nat×Array Value)} (h:FS w W g vs bs) (hg:OwnU V g 286 us) (ho:Onto W V g):FS w V g us bs :=
 ⟨hg,h.on.trans ho,fun p hp=>⟨(h.bx p hp).1,ho.own _ _ _ (h.bx p hp).1 (h.bx p hp).2⟩⟩
theorem FS.tail {w W:World} {g:Nat} {vs:Array Value} {q:Nat×Array Value} {bs:List (Nat×Array Value)} (h:FS w W g vs (q :: bs)):FS w W g vs bs :=
 ⟨h.gr,h.on,fun p hp=>h.bx p (List.mem_cons_of_mem _ hp)⟩
theorem FS.alloc {w W:World} {g:Nat} {vs:Array Value} {bs:List (Nat×Array Value)} (h:FS w W g vs bs) (us:Array Value):FS w (W.alloc (.cells us 180)) g vs ((W.heap.size,us) :: bs):=by
 have h1:=h.later (albel W (.cells us 180))
 refine⟨h1.gr,h1.on,fun p hp=>?_⟩
 rcases List.mem_cons.1 hp with rfl|hp
 ·exact⟨Nat.ne_of_gt h.gr.lt,OwnU.new _ _ _⟩
 ·exact h1.bx p hp
theorem FS.row {w W:World} {g b:Nat} {vs us:Array Value} {bs:List (Nat×Array Value)} (h:FS w W g vs ((b,us) :: bs)) (hlt:w.heap.size≤b) (hne:∀p,p∈bs→¬b=p.1) (u:Array Value):FS w (W.setRow b u) g vs ((b,u) :: bs):=by
 have hb:=h.bx (b,us) (by simp)
 refine⟨h.gr.otherRow hb.1,⟨fun q ty xs hq ho=>(h.on.own q ty xs hq ho).otherRow (by have:=ho.lt;omega),fun B w0 h1 h2 hB=>below_setRow (h.on.bel B w0 h1 h2 hB) (Nat.le_trans h2 hlt) _,Nat.le_trans h.on.size (below_setRow (Below.refl 0 W) (Nat.zero_le b) u).size⟩,fun p hp=>?_⟩
 rcases List.mem_cons.1 hp with rfl|hp
 ·exact⟨hb.1,hb.2.setRow _⟩
 ·exact⟨(h.bx p (List.mem_cons_of_mem _ hp)).1,(h.bx p (List.mem_cons_of_mem _ hp)).2.otherRow (hne p hp)⟩
set_option maxRecDepth 100000 in
set_option maxHeartbeats 8000000 in
theorem fill_force (g:Nat) (w:World) (hg:OwnU w g 286 gZero) :
  Calls Tryz.prog 313 #[.func (.func 367) #[] #[.pointer (some ⟨g,0,none⟩)]] w fun e w'=>e=.returned (.tuple #[])∧OwnU w' g 286 g_force2∧Onto w w' g:=by
 have HF0:Hid (FS w w g gZero []):=⟨hg,Onto.of_below (Below.refl _ _),fun p hp=>(by exact absurd hp (by simp))⟩
 clear hg
 go_enter Tryz.func313,Tryz.ntmps313
 go_upto_region 1 with (first
  | (refine storeT 180 10 info55 rfl (.tmp 2) (.tmp 11) rfl W8.heap.size z10 #[I 1,I 1,I (-2),I 0,I 0,I 0,I 0,I 0,I 1,I 1] rfl rfl rfl rfl (OwnU.new _ _ _) (by kernel_rfl) ?_)
  | (go_at_call 367;go_must(refine(put0_of 1 1 (-2) 0 0 0 0 0 1 1 g gZero g_force1 _ (un HF7).gr rfl rfl (by kernel_rfl)).mono ?_;rintro e W8 ⟨rfl,hg1,ho1⟩;have HF8:=hide ((un HF7).put hg1 ho1);clear hg1 ho1))
  | (go_at_call 316;have hchk:=HF6;clear hchk;refine(by_si 1 1 (-1) 0 0 0 0 0 1 1 0 0 1 0 0 0 0 0 1 1 1 1 (-2) 0 0 0 0 0 1 1 _ (by decide +kernel)).mono ?_;rintro e W7 ⟨rfl,hb⟩;have HF7:=hide ((un HF6).later hb);clear hb)
  | (go_at_call 314;have hchk:=HF5;clear hchk;refine(siOne2 _).mono ?_;rintro e W6 ⟨rfl,hb⟩;have HF6:=hide ((un HF5).later hb);clear hb)
  | (go_at_call 316;have hchk:=HF4;clear hchk;refine(by_si 1 1 0 0 0 0 0 0 1 1 0 0 1 0 0 0 0 0 1 1 1 1 (-1) 0 0 0 0 0 1 1 _ (by decide +kernel)).mono ?_;rintro e W5 ⟨rfl,hb⟩;have HF5:=hide ((un HF4).later hb);clear hb)
  | (go_at_call 314;have hchk:=HF3;clear hchk;refine(siOne2 _).mono ?_;rintro e W4 ⟨rfl,hb⟩;have HF4:=hide ((un HF3).later hb);clear hb)
  | (go_at_call 315;have hchk:=HF2;clear hchk;refine(times_si 0 1 0 0 0 0 0 0 1 1 1 0 0 0 0 0 0 0 1 1 1 1 0 0 0 0 0 0 1 1 _ (by decide +kernel)).mono ?_;rintro e W3 ⟨rfl,hb⟩;have HF3:=hide ((un HF2).later hb);clear hb)
  | (go_at_call 314;have hchk:=HF1;clear hchk;refine(siOne0 _).mono ?_;rintro e W2 ⟨rfl,hb⟩;have HF2:=hide ((un HF1).later hb);clear hb)
  | (go_at_call 314;have hchk:=HF0;clear hchk;refine(siOne1 _).mono ?_;rintro e W1 ⟨rfl,hb⟩;have HF1:=hide ((un HF0).later hb);clear hb))
 have HF9:=hide (((un HF8).alloc z10).row (un HF8).on.size (fun p hp=>Nat.ne_of_gt ((un HF8).bx p hp).2.lt) #[I 1,I 1,I (-2),I 0,I 0,I 0,I 0,I 0,I 1,I 1])
 generalize (W8.alloc (.cells z10 180)).setRow W8.heap.size #[I 1,I 1,I (-2),I 0,I 0,I 0,I 0,I 0,I 1,I 1]=W9 at *
 generalize W8.heap.size=k2 at *
 go_upto_region 1 with fail
 have HSS:Hid (∀(W':World) (vs:Array Value),FS w W' g vs [(k2,#[I 1,I 1,I (-2),I 0,I 0,I 0,I 0,I 0,I 1,I 1])]→W'.cell? ⟨k2,0,none⟩=some (I 1)∧W'.cell? ⟨k2,1,none⟩=some (I 1)∧W'.cell? ⟨k2,2,none⟩=some (I (-2))∧W'.cell? ⟨k2,3,none⟩=some (I 0)∧W'.cell? ⟨k2,4,none⟩=some (I 0)∧W'.cell? ⟨k2,5,none⟩=some (I 0)∧W'.cell? ⟨k2,6,none⟩=some (I 0)∧W'.cell? ⟨k2,7,none⟩=some (I 0)∧W'.cell? ⟨k2,8,none⟩=some (I 1)∧W'.cell? ⟨k2,9,none⟩=some (I 1)):=fun W' vs h=>⟨((h.bx (k2,#[I 1,I 1,I (-2),I 0,I 0,I 0,I 0,I 0,I 1,I 1]) (by simp)).2.ub.c 0 _ rfl),((h.bx (k2,#[I 1,I 1,I (-2),I 0,I 0,I 0,I 0,I 0,I 1,I 1]) (by simp)).2.ub.c 1 _ rfl),((h.bx (k2,#[I 1,I 1,I (-2),I 0,I 0,I 0,I 0,I 0,I 1,I 1]) (by simp)).2.ub.c 2 _ rfl),((h.bx (k2,#[I 1,I 1,I (-2),I 0,I 0,I 0,I 0,I 0,I 1,I 1]) (by simp)).2.ub.c 3 _ rfl),((h.bx (k2,#[I 1,I 1,I (-2),I 0,I 0,I 0,I 0,I 0,I 1,I 1]) (by simp)).2.ub.c 4 _ rfl),((h.bx (k2,#[I 1,I 1,I (-2),I 0,I 0,I 0,I 0,I 0,I 1,I 1]) (by simp)).2.ub.c 5 _ rfl),((h.bx (k2,#[I 1,I 1,I (-2),I 0,I 0,I 0,I 0,I 0,I 1,I 1]) (by simp)).2.ub.c 6 _ rfl),((h.bx (k2,#[I 1,I 1,I (-2),I 0,I 0,I 0,I 0,I 0,I 1,I 1]) (by simp)).2.ub.c 7 _ rfl),((h.bx (k2,#[I 1,I 1,I (-2),I 0,I 0,I 0,I 0,I 0,I 1,I 1]) (by simp)).2.ub.c 8 _ rfl),((h.bx (k2,#[I 1,I 1,I (-2),I 0,I 0,I 0,I 0,I 0,I 1,I 1]) (by simp)).2.ub.c 9 _ rfl)⟩
 have HF10:Hid (FS w (W9.drew) g g_force1 [(k2,#[I 1,I 1,I (-2),I 0,I 0,I 0,I 0,I 0,I 1,I 1])]):=(un HF9).later (Below.refl _ _).drew
 have HS10:=hide (un HSS _ _ (un HF10))
 refine region_reads 6 (fun _=>True) (fun W'=>W'.cell? ⟨k2,0,none⟩=some (I 1)∧W'.cell? ⟨k2,1,none⟩=some (I 1)∧W'.cell? ⟨k2,2,none⟩=some (I (-2))∧W'.cell? ⟨k2,3,none⟩=some (I 0)∧W'.cell? ⟨k2,4,none⟩=some (I 0)∧W'.cell? ⟨k2,5,none⟩=some (I 0)∧W'.cell? ⟨k2,6,none⟩=some (I 0)∧W'.cell? ⟨k2,7,none⟩=some (I 0)∧W'.cell? ⟨k2,8,none⟩=some (I 1)∧W'.cell? ⟨k2,9,none⟩=some (I 1)) 7 rfl (by kernel_rfl) ?_
 refine wpR_take7 (i:=0) (oi:=_) (v:=.func (.func 367) #[] #[.pointer (some ⟨g,0,none⟩)]) rfl (by kernel_rfl) (by kernel_rfl) (by kernel_rfl) (by kernel_rfl) (fun _ _ _ h=>h) (Or.inl ⟨by rfl,?_⟩) ⟨trivial,un HS10⟩ ?_
 ·intro W hW
  go_split_ands
  go_simp
 refine wpR_take7 (i:=1) (oi:=_) (v:=.agg #[I 1,I 1,I (-2),I 0,I 0,I 0,I 0,I 0,I 1,I 1]) rfl (by kernel_rfl) (by kernel_rfl) (by kernel_rfl) (by kernel_rfl) (fun _ _ _ h=>h) (Or.inl ⟨by rfl,?_⟩) ⟨trivial,un HS10⟩ ?_
 ·intro W hW
  go_split_ands
  go_simp
 refine wpR_op (i:=2) (o:=_) (by kernel_rfl) rfl rfl (fun K hK=>?_)
 go_simp
 refine(siOne0 _).mono ?_
 rintro e W11 ⟨rfl,hb⟩
 have HF11:=hide ((un HF10).later hb)
 clear hb
 refine hK _ _ ⟨trivial,un HSS _ _ (un HF11)⟩ ?_
 clear hK K
 refine wpR_op (i:=3) (o:=_) (by kernel_rfl) rfl rfl (fun K hK=>?_)
 go_simp
 refine(by_si 1 1 (-2) 0 0 0 0 0 1 1 1 0 0 0 0 0 0 0 1 1 0 1 (-2) 0 0 0 0 0 1 1 _ (by decide +kernel)).mono ?_
 rintro e W12 ⟨rfl,hb⟩
 have HF12:=hide ((un HF11).later hb)
 clear hb
 refine hK _ _ ⟨trivial,un HSS _ _ (un HF12)⟩ ?_
 clear hK K
 refine wpR_op (i:=4) (o:=_) (by kernel_rfl) rfl rfl (fun K hK=>?_)
 go_simp
 refine(siOne0 _).mono ?_
 rintro e W13 ⟨rfl,hb⟩
 have HF13:=hide ((un HF12).later hb)
 clear hb
 refine hK _ _ ⟨trivial,un HSS _ _ (un HF13)⟩ ?_
 clear hK K
 refine wpR_op (i:=5) (o:=_) (by kernel_rfl) rfl rfl (fun K hK=>?_)
 go_simp
 refine(by_si 0 1 (-2) 0 0 0 0 0 1 1 1 0 0 0 0 0 0 0 1 1 (-1) 1 (-2) 0 0 0 0 0 1 1 _ (by decide +kernel)).mono ?_
 rintro e W14 ⟨rfl,hb⟩
 have HF14:=hide ((un HF13).later hb)
 clear hb
 refine hK _ _ ⟨trivial,un HSS _ _ (un HF14)⟩ ?_
 clear hK K
 refine wpR_late (i:=6) (o:=_) (by kernel_rfl) rfl rfl (by kernel_rfl) (fun K hK=>?_)
 go_simp
 refine(put1_of (-1) 1 (-2) 0 0 0 0 0 1 1 g g_force1 g_force2 _ (un HF14).gr rfl rfl (by kernel_rfl)).mono ?_
 rintro e W15 ⟨rfl,hg1,ho1⟩
 have HF15:=hide ((un HF14).put hg1 ho1)
 clear hg1 ho1
 refine hK _ _ (un HSS _ _ (un HF15)) ?_
 clear hK K
 refine wpR_done (by kernel_rfl) ?_
 clear HSS HS10
 go_wp2_with fail
 go_end0
 exact⟨rfl,(un HF15).gr,(un HF15).on⟩
set_option maxRecDepth 100000 in
set_option maxHeartbeats 8000000 in
theorem fill_energy (g:Nat) (b1:Nat) (w:World) (hg:OwnU w g 286 gZero) (h1:OwnU w b1 180 #[I 1,I 1,I (-2),I 0,I 0,I 0,I 0,I 0,I 1,I 1]) (n1:¬b1=g) :
  Calls Tryz.prog 317 #[.func (.func 367) #[] #[.pointer (some ⟨g,0,none⟩)],.pointer (some ⟨b1,0,none⟩)] w fun e w'=>e=.returned (.tuple #[])∧OwnU w' g 286 g_energy1∧Onto w w' g:=by
 have HF0:Hid (FS w w g gZero [(b1,#[I 1,I 1,I (-2),I 0,I 0,I 0,I 0,I 0,I 1,I 1])]):=⟨hg,Onto.of_below (Below.refl _ _),fun p hp=>(by simp only[List.mem_cons,List.not_mem_nil,or_false]at hp;subst hp;exact⟨n1,h1⟩)⟩
 clear hg h1 n1
 go_enter Tryz.func317,Tryz.ntmps317
 go_upto_region 0 with fail
 have HSS:Hid (∀(W':World) (vs:Array Value),FS w W' g vs [(b1,#[I 1,I 1,I (-2),I 0,I 0,I 0,I 0,I 0,I 1,I 1])]→W'.cell? ⟨b1,0,none⟩=some (I 1)∧W'.cell? ⟨b1,1,none⟩=some (I 1)∧W'.cell? ⟨b1,2,none⟩=some (I (-2))∧W'.cell? ⟨b1,3,none⟩=some (I 0)∧W'.cell? ⟨b1,4,none⟩=some (I 0)∧W'.cell? ⟨b1,5,none⟩=some (I 0)∧W'.cell? ⟨b1,6,none⟩=some (I 0)∧W'.cell? ⟨b1,7,none⟩=some (I 0)∧W'.cell? ⟨b1,8,none⟩=some (I 1)∧W'.cell? ⟨b1,9,none⟩=some (I 1)):=fun W' vs h=>⟨((h.bx (b1,#[I 1,I 1,I (-2),I 0,I 0,I 0,I 0,I 0,I 1,I 1]) (by simp)).2.ub.c 0 _ rfl),((h.bx (b1,#[I 1,I 1,I (-2),I 0,I 0,I 0,I 0,I 0,I 1,I 1]) (by simp)).2.ub.c 1 _ rfl),((h.bx (b1,#[I 1,I 1,I (-2),I 0,I 0,I 0,I 0,I 0,I 1,I 1]) (by simp)).2.ub.c 2 _ rfl),((h.bx (b1,#[I 1,I 1,I (-2),I 0,I 0,I 0,I 0,I 0,I 1,I 1]) (by simp)).2.ub.c 3 _ rfl),((h.bx (b1,#[I 1,I 1,I (-2),I 0,I 0,I 0,I 0,I 0,I 1,I 1]) (by simp)).2.ub.c 4 _ rfl),((h.bx (b1,#[I 1,I 1,I (-2),I 0,I 0,I 0,I 0,I 0,I 1,I 1]) (by simp)).2.ub.c 5 _ rfl),((h.bx (b1,#[I 1,I 1,I (-2),I 0,I 0,I 0,I 0,I 0,I 1,I 1]) (by simp)).2.ub.c 6 _ rfl),((h.bx (b1,#[I 1,I 1,I (-2),I 0,I 0,I 0,I 0,I 0,I 1,I 1]) (by simp)).2.ub.c 7 _ rfl),((h.bx (b1,#[I 1,I 1,I (-2),I 0,I 0,I 0,I 0,I 0,I 1,I 1]) (by simp)).2.ub.c 8 _ rfl),((h.bx (b1,#[I 1,I 1,I (-2),I 0,I 0,I 0,I 0,I 0,I 1,I 1]) (by simp)).2.ub.c 9 _ rfl)⟩
 have HF1:Hid (FS w (w.drew) g gZero [(b1,#[I 1,I 1,I (-2),I 0,I 0,I 0,I 0,I 0,I 1,I 1])]):=(un HF0).later (Below.refl _ _).drew
 have HS1:=hide (un HSS _ _ (un HF1))
 refine region_reads 4 (fun _=>True) (fun W'=>W'.cell? ⟨b1,0,none⟩=some (I 1)∧W'.cell? ⟨b1,1,none⟩=some (I 1)∧W'.cell? ⟨b1,2,none⟩=some (I (-2))∧W'.cell? ⟨b1,3,none⟩=some (I 0)∧W'.cell? ⟨b1,4,none⟩=some (I 0)∧W'.cell? ⟨b1,5,none⟩=some (I 0)∧W'.cell? ⟨b1,6,none⟩=some (I 0)∧W'.cell? ⟨b1,7,none⟩=some (I 0)∧W'.cell? ⟨b1,8,none⟩=some (I 1)∧W'.cell? ⟨b1,9,none⟩=some (I 1)) 5 rfl (by kernel_rfl) ?_
 refine wpR_take7 (i:=0) (oi:=_) (v:=.func (.func 367) #[] #[.pointer (some ⟨g,0,none⟩)]) rfl (by kernel_rfl) (by kernel_rfl) (by kernel_rfl) (by kernel_rfl) (fun _ _ _ h=>h) (Or.inl ⟨by rfl,?_⟩) ⟨trivial,un HS1⟩ ?_
 ·intro W hW
  go_split_ands
  go_simp
 refine wpR_take7 (i:=1) (oi:=_) (v:=.agg #[I 1,I 1,I (-2),I 0,I 0,I 0,I 0,I 0,I 1,I 1]) rfl (by kernel_rfl) (by kernel_rfl) (by kernel_rfl) (by kernel_rfl) (fun _ _ _ h=>h) (Or.inl ⟨by rfl,?_⟩) ⟨trivial,un HS1⟩ ?_
 ·intro W hW
  go_split_ands
  go_simp
 refine wpR_op (i:=2) (o:=_) (by kernel_rfl) rfl rfl (fun K hK=>?_)
 go_simp
 refine(siOne0 _).mono ?_
 rintro e W2 ⟨rfl,hb⟩
 have HF2:=hide ((un HF1).later hb)
 clear hb
 refine hK _ _ ⟨trivial,un HSS _ _ (un HF2)⟩ ?_
 clear hK K
 refine wpR_op (i:=3) (o:=_) (by kernel_rfl) rfl rfl (fun K hK=>?_)
 go_simp
 refine(times_si 1 1 (-2) 0 0 0 0 0 1 1 1 0 0 0 0 0 0 0 1 1 2 1 (-2) 0 0 0 0 0 1 1 _ (by decide +kernel)).mono ?_
 rintro e W3 ⟨rfl,hb⟩
 have HF3:=hide ((un HF2).later hb)
 clear hb
 refine hK _ _ ⟨trivial,un HSS _ _ (un HF3)⟩ ?_
 clear hK K
 refine wpR_late (i:=4) (o:=_) (by kernel_rfl) rfl rfl (by kernel_rfl) (fun K hK=>?_)
 go_simp
 refine(put0_of 2 1 (-2) 0 0 0 0 0 1 1 g gZero g_energy1 _ (un HF3).gr rfl rfl (by kernel_rfl)).mono ?_
 rintro e W4 ⟨rfl,hg1,ho1⟩
 have HF4:=hide ((un HF3).put hg1 ho1)
 clear hg1 ho1
 refine hK _ _ (un HSS _ _ (un HF4)) ?_
 clear hK K
 refine wpR_done (by kernel_rfl) ?_
 clear HSS HS1
 go_wp2_with fail
 go_end0
 exact⟨rfl,(un HF4).gr,(un HF4).on⟩
set_option maxRecDepth 100000 in
set_option maxHeartbeats 8000000 in
theorem fill_times (g:Nat) (w:World) (hg:OwnU w g 286 gZero) :
  Calls Tryz.prog 321 #[.func (.func 367) #[] #[.pointer (some ⟨g,0,none⟩)]] w fun e w'=>e=.returned (.tuple #[])∧OwnU w' g 286 g_times1∧Onto w w' g:=by
 have HF0:Hid (FS w w g gZero []):=⟨hg,Onto.of_below (Below.refl _ _),fun p hp=>(by exact absurd hp (by simp))⟩
 clear hg
 go_enter Tryz.func321,Tryz.ntmps321
 go_wp2_with (first
  | (go_at_call 367;go_must(refine(put0_of 0 0 (-1) 0 0 0 0 0 1 1 g gZero g_times1 _ (un HF3).gr rfl rfl (by kernel_rfl)).mono ?_;rintro e W4 ⟨rfl,hg1,ho1⟩;have HF4:=hide ((un HF3).put hg1 ho1);clear hg1 ho1))
  | (go_at_call 316;have hchk:=HF2;clear hchk;refine(by_si 0 0 0 0 0 0 0 0 1 1 0 0 1 0 0 0 0 0 1 1 0 0 (-1) 0 0 0 0 0 1 1 _ (by decide +kernel)).mono ?_;rintro e W3 ⟨rfl,hb⟩;have HF3:=hide ((un HF2).later hb);clear hb)
  | (go_at_call 314;have hchk:=HF1;clear hchk;refine(siOne2 _).mono ?_;rintro e W2 ⟨rfl,hb⟩;have HF2:=hide ((un HF1).later hb);clear hb)
  | (go_at_call 320;have hchk:=HF0;clear hchk;refine(siNumber 1 _).mono ?_;rintro e W1 ⟨rfl,hb⟩;have HF1:=hide ((un HF0).later hb);clear hb))
 skip
 go_end0
 exact⟨rfl,(un HF4).gr,(un HF4).on⟩
set_option maxRecDepth 100000 in
set_option maxHeartbeats 8000000 in
theorem fill_power (g:Nat) (b1:Nat) (w:World) (hg:OwnU w g 286 gZero) (h1:OwnU w b1 180 #[I 2,I 1,I (-2),I 0,I 0,I 0,I 0,I 0,I 1,I 1]) (n1:¬b1=g) :
  Calls Tryz.prog 318 #[.func (.func 367) #[] #[.pointer (some ⟨g,0,none⟩)],.pointer (some ⟨b1,0,none⟩)] w fun e w'=>e=.returned (.tuple #[])∧OwnU w' g 286 g_power1∧Onto w w' g:=by
 have HF0:Hid (FS w w g gZero [(b1,#[I 2,I 1,I (-2),I 0,I 0,I 0,I 0,I 0,I 1,I 1])]):=⟨hg,Onto.of_below (Below.refl _ _),fun p hp=>(by simp only[List.mem_cons,List.not_mem_nil,or_false]at hp;subst hp;exact⟨n1,h1⟩)⟩
 clear hg h1 n1
 go_enter Tryz.func318,Tryz.ntmps318
 go_upto_region 0 with fail
 have HSS:Hid (∀(W':World) (vs:Array Value),FS w W' g vs [(b1,#[I 2,I 1,I (-2),I 0,I 0,I 0,I 0,I 0,I 1,I 1])]→W'.cell? ⟨b1,0,none⟩=some (I 2)∧W'.cell? ⟨b1,1,none⟩=some (I 1)∧W'.cell? ⟨b1,2,none⟩=some (I (-2))∧W'.cell? ⟨b1,3,none⟩=some (I 0)∧W'.cell? ⟨b1,4,none⟩=some (I 0)∧W'.cell? ⟨b1,5,none⟩=some (I 0)∧W'.cell? ⟨b1,6,none⟩=some (I 0)∧W'.cell? ⟨b1,7,none⟩=some (I 0)∧W'.cell? ⟨b1,8,none⟩=some (I 1)∧W'.cell? ⟨b1,9,none⟩=some (I 1)):=fun W' vs h=>⟨((h.bx (b1,#[I 2,I 1,I (-2),I 0,I 0,I 0,I 0,I 0,I 1,I 1]) (by simp)).2.ub.c 0 _ rfl),((h.bx (b1,#[I 2,I 1,I (-2),I 0,I 0,I 0,I 0,I 0,I 1,I 1]) (by simp)).2.ub.c 1 _ rfl),((h.bx (b1,#[I 2,I 1,I (-2),I 0,I 0,I 0,I 0,I 0,I 1,I 1]) (by simp)).2.ub.c 2 _ rfl),((h.bx (b1,#[I 2,I 1,I (-2),I 0,I 0,I 0,I 0,I 0,I 1,I 1]) (by simp)).2.ub.c 3 _ rfl),((h.bx (b1,#[I 2,I 1,I (-2),I 0,I 0,I 0,I 0,I 0,I 1,I 1]) (by simp)).2.ub.c 4 _ rfl),((h.bx (b1,#[I 2,I 1,I (-2),I 0,I 0,I 0,I 0,I 0,I 1,I 1]) (by simp)).2.ub.c 5 _ rfl),((h.bx (b1,#[I 2,I 1,I (-2),I 0,I 0,I 0,I 0,I 0,I 1,I 1]) (by simp)).2.ub.c 6 _ rfl),((h.bx (b1,#[I 2,I 1,I (-2),I 0,I 0,I 0,I 0,I 0,I 1,I 1]) (by simp)).2.ub.c 7 _ rfl),((h.bx (b1,#[I 2,I 1,I (-2),I 0,I 0,I 0,I 0,I 0,I 1,I 1]) (by simp)).2.ub.c 8 _ rfl),((h.bx (b1,#[I 2,I 1,I (-2),I 0,I 0,I 0,I 0,I 0,I 1,I 1]) (by simp)).2.ub.c 9 _ rfl)⟩
 have HF1:Hid (FS w (w.drew) g gZero [(b1,#[I 2,I 1,I (-2),I 0,I 0,I 0,I 0,I 0,I 1,I 1])]):=(un HF0).later (Below.refl _ _).drew
 have HS1:=hide (un HSS _ _ (un HF1))
 refine region_reads 4 (fun _=>True) (fun W'=>W'.cell? ⟨b1,0,none⟩=some (I 2)∧W'.cell? ⟨b1,1,none⟩=some (I 1)∧W'.cell? ⟨b1,2,none⟩=some (I (-2))∧W'.cell? ⟨b1,3,none⟩=some (I 0)∧W'.cell? ⟨b1,4,none⟩=some (I 0)∧W'.cell? ⟨b1,5,none⟩=some (I 0)∧W'.cell? ⟨b1,6,none⟩=some (I 0)∧W'.cell? ⟨b1,7,none⟩=some (I 0)∧W'.cell? ⟨b1,8,none⟩=some (I 1)∧W'.cell? ⟨b1,9,none⟩=some (I 1)) 5 rfl (by kernel_rfl) ?_
 refine wpR_take7 (i:=0) (oi:=_) (v:=.func (.func 367) #[] #[.pointer (some ⟨g,0,none⟩)]) rfl (by kernel_rfl) (by kernel_rfl) (by kernel_rfl) (by kernel_rfl) (fun _ _ _ h=>h) (Or.inl ⟨by rfl,?_⟩) ⟨trivial,un HS1⟩ ?_
 ·intro W hW
  go_split_ands
  go_simp
 refine wpR_take7 (i:=1) (oi:=_) (v:=.agg #[I 2,I 1,I (-2),I 0,I 0,I 0,I 0,I 0,I 1,I 1]) rfl (by kernel_rfl) (by kernel_rfl) (by kernel_rfl) (by kernel_rfl) (fun _ _ _ h=>h) (Or.inl ⟨by rfl,?_⟩) ⟨trivial,un HS1⟩ ?_
 ·intro W hW
  go_split_ands
  go_simp
 refine wpR_op (i:=2) (o:=_) (by kernel_rfl) rfl rfl (fun K hK=>?_)
 go_simp
 refine(siOne2 _).mono ?_
 rintro e W2 ⟨rfl,hb⟩
 have HF2:=hide ((un HF1).later hb)
 clear hb
 refine hK _ _ ⟨trivial,un HSS _ _ (un HF2)⟩ ?_
 clear hK K
 refine wpR_op (i:=3) (o:=_) (by kernel_rfl) rfl rfl (fun K hK=>?_)
 go_simp
 refine(by_si 2 1 (-2) 0 0 0 0 0 1 1 0 0 1 0 0 0 0 0 1 1 2 1 (-3) 0 0 0 0 0 1 1 _ (by decide +kernel)).mono ?_
 rintro e W3 ⟨rfl,hb⟩
 have HF3:=hide ((un HF2).later hb)
 clear hb
 refine hK _ _ ⟨trivial,un HSS _ _ (un HF3)⟩ ?_
 clear hK K
 refine wpR_late (i:=4) (o:=_) (by kernel_rfl) rfl rfl (by kernel_rfl) (fun K hK=>?_)
 go_simp
 refine(put0_of 2 1 (-3) 0 0 0 0 0 1 1 g gZero g_power1 _ (un HF3).gr rfl rfl (by kernel_rfl)).mono ?_
 rintro e W4 ⟨rfl,hg1,ho1⟩
 have HF4:=hide ((un HF3).put hg1 ho1)
 clear hg1 ho1
 refine hK _ _ (un HSS _ _ (un HF4)) ?_
 clear hK K
 refine wpR_done (by kernel_rfl) ?_
 clear HSS HS1
 go_wp2_with fail
 go_end0
 exact⟨rfl,(un HF4).gr,(un HF4).on⟩
set_option maxRecDepth 100000 in
set_option maxHeartbeats 8000000 in
theorem fill_plane (g:Nat) (w:World) (hg:OwnU w g 286 gZero) :
  Calls Tryz.prog 323 #[.func (.func 367) #[] #[.pointer (some ⟨g,0,none⟩)]] w fun e w'=>e=.returned (.tuple #[])∧OwnU w' g 286 g_plane2∧Onto w w' g:=by
 have HF0:Hid (FS w w g gZero []):=⟨hg,Onto.of_below (Below.refl _ _),fun p hp=>(by exact absurd hp (by simp))⟩
 clear hg
 go_enter Tryz.func323,Tryz.ntmps323
 go_upto_region 1 with (first
  | (refine storeT 180 10 info55 rfl (.tmp 2) (.tmp 7) rfl W4.heap.size z10 #[I 0,I 0,I 0,I 0,I 0,I 0,I 0,I 0,I 1,I 1] rfl rfl rfl rfl (OwnU.new _ _ _) (by kernel_rfl) ?_)
  | (go_at_call 367;go_must(refine(put0_of 0 0 0 0 0 0 0 0 1 1 g gZero g_plane1 _ (un HF3).gr rfl rfl (by kernel_rfl)).mono ?_;rintro e W4 ⟨rfl,hg1,ho1⟩;have HF4:=hide ((un HF3).put hg1 ho1);clear hg1 ho1))
  | (go_at_call 316;have hchk:=HF2;clear hchk;refine(by_si 1 0 0 0 0 0 0 0 1 1 1 0 0 0 0 0 0 0 1 1 0 0 0 0 0 0 0 0 1 1 _ (by decide +kernel)).mono ?_;rintro e W3 ⟨rfl,hb⟩;have HF3:=hide ((un HF2).later hb);clear hb)
  | (go_at_call 314;have hchk:=HF1;clear hchk;refine(siOne0 _).mono ?_;rintro e W2 ⟨rfl,hb⟩;have HF2:=hide ((un HF1).later hb);clear hb)
  | (go_at_call 314;have hchk:=HF0;clear hchk;refine(siOne0 _).mono ?_;rintro e W1 ⟨rfl,hb⟩;have HF1:=hide ((un HF0).later hb);clear hb))
 have HF5:=hide (((un HF4).alloc z10).row (un HF4).on.size (fun p hp=>Nat.ne_of_gt ((un HF4).bx p hp).2.lt) #[I 0,I 0,I 0,I 0,I 0,I 0,I 0,I 0,I 1,I 1])
 generalize (W4.alloc (.cells z10 180)).setRow W4.heap.size #[I 0,I 0,I 0,I 0,I 0,I 0,I 0,I 0,I 1,I 1]=W5 at *
 generalize W4.heap.size=k2 at *
 have x0_0:W5.cell? ⟨k2,0,none⟩=some (I 0):=((un HF5).bx (k2,#[I 0,I 0,I 0,I 0,I 0,I 0,I 0,I 0,I 1,I 1]) (by simp)).2.ub.c 0 _ rfl;have x0_1:W5.cell? ⟨k2,1,none⟩=some (I 0):=((un HF5).bx (k2,#[I 0,I 0,I 0,I 0,I 0,I 0,I 0,I 0,I 1,I 1]) (by simp)).2.ub.c 1 _ rfl;have x0_2:W5.cell? ⟨k2,2,none⟩=some (I 0):=((un HF5).bx (k2,#[I 0,I 0,I 0,I 0,I 0,I 0,I 0,I 0,I 1,I 1]) (by simp)).2.ub.c 2 _ rfl;have x0_3:W5.cell? ⟨k2,3,none⟩=some (I 0):=((un HF5).bx (k2,#[I 0,I 0,I 0,I 0,I 0,I 0,I 0,I 0,I 1,I 1]) (by simp)).2.ub.c 3 _ rfl;have x0_4:W5.cell? ⟨k2,4,none⟩=some (I 0):=((un HF5).bx (k2,#[I 0,I 0,I 0,I 0,I 0,I 0,I 0,I 0,I 1,I 1]) (by simp)).2.ub.c 4 _ rfl;have x0_5:W5.cell? ⟨k2,5,none⟩=some (I 0):=((un HF5).bx (k2,#[I 0,I 0,I 0,I 0,I 0,I 0,I 0,I 0,I 1,I 1]) (by simp)).2.ub.c 5 _ rfl;have x0_6:W5.cell? ⟨k2,6,none⟩=some (I 0):=((un HF5).bx (k2,#[I 0,I 0,I 0,I 0,I 0,I 0,I 0,I 0,I 1,I 1]) (by simp)).2.ub.c 6 _ rfl;have x0_7:W5.cell? ⟨k2,7,none⟩=some (I 0):=((un HF5).bx (k2,#[I 0,I 0,I 0,I 0,I 0,I 0,I 0,I 0,I 1,I 1]) (by simp)).2.ub.c 7 _ rfl;have x0_8:W5.cell? ⟨k2,8,none⟩=some (I 1):=((un HF5).bx (k2,#[I 0,I 0,I 0,I 0,I 0,I 0,I 0,I 0,I 1,I 1]) (by simp)).2.ub.c 8 _ rfl;have x0_9:W5.cell? ⟨k2,9,none⟩=some (I 1):=((un HF5).bx (k2,#[I 0,I 0,I 0,I 0,I 0,I 0,I 0,I 0,I 1,I 1]) (by simp)).2.ub.c 9 _ rfl
 go_wp2_with (first
  | (go_at_call 367;go_must(refine(put1_of 0 0 0 0 0 0 0 0 1 1 g g_plane1 g_plane2 _ (un HF6).gr rfl rfl (by kernel_rfl)).mono ?_;rintro e W7 ⟨rfl,hg1,ho1⟩;have HF7:=hide ((un HF6).put hg1 ho1);clear hg1 ho1))
  | (go_at_call 315;have hchk:=HF5;clear hchk;refine(times_si 0 0 0 0 0 0 0 0 1 1 0 0 0 0 0 0 0 0 1 1 0 0 0 0 0 0 0 0 1 1 _ (by decide +kernel)).mono ?_;rintro e W6 ⟨rfl,hb⟩;have HF6:=hide ((un HF5).later hb);clear hb x0_0 x0_1 x0_2 x0_3 x0_4 x0_5 x0_6 x0_7 x0_8 x0_9))
 skip
 go_end0
 exact⟨rfl,(un HF7).gr,(un HF7).on⟩
end Go.Proofs.YtliadckofhblnaaGreatDoor

namespace Go.Proofs.YtliadckofhblnaaGreatDoor
open Go.RowKit
set_option maxRecDepth 100000 in
set_option maxHeartbeats 8000000 in
theorem fill_light (g:Nat) (b1:Nat) (w:World) (hg:OwnU w g 286 gZero) (h1:OwnU w b1 180 #[I 0,I 0,I 0,I 0,I 0,I 0,I 0,I 0,I 1,I 1]) (n1:¬b1=g) :
    Calls Tryz.prog 324 #[.func (.func 367) #[] #[.pointer (some ⟨g,0,none⟩)],.pointer (some ⟨b1,0,none⟩)] w fun e w'=>e=.returned (.tuple #[])∧OwnU w' g 286 g_light2∧Onto w w' g:=by
  have HF0:Hid (FS w w g gZero [(b1,#[I 0,I 0,I 0,I 0,I 0,I 0,I 0,I 0,I 1,I 1])]):=⟨hg,Onto.of_below (Below.refl _ _),fun p hp=>(by simp only[List.mem_cons,List.not_mem_nil,or_false]at hp;subst hp;exact⟨n1,h1⟩)⟩
  clear hg h1 n1
  go_enter Tryz.func324,Tryz.ntmps324
  go_upto_region 0 with fail
  go_cut [3]from 4 (fun s9 wx=>∃k,s9=.pointer (some ⟨k,0,none⟩)∧Hid (FS w wx g g_light1 ((k,#[I 0,I 0,I 0,I 0,I 0,I 0,I 1,I 0,I 1,I 1]) :: [(b1,#[I 0,I 0,I 0,I 0,I 0,I 0,I 0,I 0,I 1,I 1])])))
  case first=>
    have HSS:Hid (∀(W':World) (vs:Array Value),FS w W' g vs [(b1,#[I 0,I 0,I 0,I 0,I 0,I 0,I 0,I 0,I 1,I 1])]→W'.cell? ⟨b1,0,none⟩=some (I 0)∧W'.cell? ⟨b1,1,none⟩=some (I 0)∧W'.cell? ⟨b1,2,none⟩=some (I 0)∧W'.cell? ⟨b1,3,none⟩=some (I 0)∧W'.cell? ⟨b1,4,none⟩=some (I 0)∧W'.cell? ⟨b1,5,none⟩=some (I 0)∧W'.cell? ⟨b1,6,none⟩=some (I 0)∧W'.cell? ⟨b1,7,none⟩=some (I 0)∧W'.cell? ⟨b1,8,none⟩=some (I 1)∧W'.cell? ⟨b1,9,none⟩=some (I 1)):=fun W' vs h=>⟨((h.bx (b1,#[I 0,I 0,I 0,I 0,I 0,I 0,I 0,I 0,I 1,I 1]) (by simp)).2.ub.c 0 _ rfl),((h.bx (b1,#[I 0,I 0,I 0,I 0,I 0,I 0,I 0,I 0,I 1,I 1]) (by simp)).2.ub.c 1 _ rfl),((h.bx (b1,#[I 0,I 0,I 0,I 0,I 0,I 0,I 0,I 0,I 1,I 1]) (by simp)).2.ub.c 2 _ rfl),((h.bx (b1,#[I 0,I 0,I 0,I 0,I 0,I 0,I 0,I 0,I 1,I 1]) (by simp)).2.ub.c 3 _ rfl),((h.bx (b1,#[I 0,I 0,I 0,I 0,I 0,I 0,I 0,I 0,I 1,I 1]) (by simp)).2.ub.c 4 _ rfl),((h.bx (b1,#[I 0,I 0,I 0,I 0,I 0,I 0,I 0,I 0,I 1,I 1]) (by simp)).2.ub.c 5 _ rfl),((h.bx (b1,#[I 0,I 0,I 0,I 0,I 0,I 0,I 0,I 0,I 1,I 1]) (by simp)).2.ub.c 6 _ rfl),((h.bx (b1,#[I 0,I 0,I 0,I 0,I 0,I 0,I 0,I 0,I 1,I 1]) (by simp)).2.ub.c 7 _ rfl),((h.bx (b1,#[I 0,I 0,I 0,I 0,I 0,I 0,I 0,I 0,I 1,I 1]) (by simp)).2.ub.c 8 _ rfl),((h.bx (b1,#[I 0,I 0,I 0,I 0,I 0,I 0,I 0,I 0,I 1,I 1]) (by simp)).2.ub.c 9 _ rfl)⟩
    have HF1:Hid (FS w (w.drew) g gZero [(b1,#[I 0,I 0,I 0,I 0,I 0,I 0,I 0,I 0,I 1,I 1])]):=(un HF0).later (Below.refl _ _).drew
    have HS1:=hide (un HSS _ _ (un HF1))
    refine region_reads 6 (fun _=>True) (fun W'=>W'.cell? ⟨b1,0,none⟩=some (I 0)∧W'.cell? ⟨b1,1,none⟩=some (I 0)∧W'.cell? ⟨b1,2,none⟩=some (I 0)∧W'.cell? ⟨b1,3,none⟩=some (I 0)∧W'.cell? ⟨b1,4,none⟩=some (I 0)∧W'.cell? ⟨b1,5,none⟩=some (I 0)∧W'.cell? ⟨b1,6,none⟩=some (I 0)∧W'.cell? ⟨b1,7,none⟩=some (I 0)∧W'.cell? ⟨b1,8,none⟩=some (I 1)∧W'.cell? ⟨b1,9,none⟩=some (I 1)) 7 rfl (by kernel_rfl) ?_
    refine wpR_take7 (i:=0) (oi:=_) (v:=.func (.func 367) #[] #[.pointer (some ⟨g,0,none⟩)]) rfl (by kernel_rfl) (by kernel_rfl) (by kernel_rfl) (by kernel_rfl) (fun _ _ _ h=>h) (Or.inl ⟨by rfl,?_⟩) ⟨trivial,un HS1⟩ ?_
    · intro W hW
      go_split_ands
      go_simp
    refine wpR_take7 (i:=2) (oi:=_) (v:=.agg #[I 0,I 0,I 0,I 0,I 0,I 0,I 0,I 0,I 1,I 1]) rfl (by kernel_rfl) (by kernel_rfl) (by kernel_rfl) (by kernel_rfl) (fun _ _ _ h=>h) (Or.inl ⟨by rfl,?_⟩) ⟨trivial,un HS1⟩ ?_
    · intro W hW
      go_split_ands
      go_simp
    clear HS1
    generalize w.drew=W1 at *
    refine wpR_two (i:=1) (j:=5) (by kernel_rfl) rfl rfl rfl rfl (fun K hK=>?_) (fun K hK=>?_)
    · skip
      go_simp
      refine(siOne6 _).mono ?_
      rintro e W2 ⟨rfl,hb⟩
      have HF2:=hide ((un HF1).later hb)
      clear hb
      refine hK _ _ ⟨trivial,un HSS _ _ (un HF2)⟩ ?_
      clear hK K
      refine wpR_two (i:=3) (j:=5) (by kernel_rfl) rfl rfl rfl rfl (fun K hK=>?_) (fun K hK=>?_)
      · skip
        go_simp
        refine(times_si 0 0 0 0 0 0 1 0 1 1 0 0 0 0 0 0 0 0 1 1 0 0 0 0 0 0 1 0 1 1 _ (by decide +kernel)).mono ?_
        rintro e W3 ⟨rfl,hb⟩
        have HF3:=hide ((un HF2).later hb)
        clear hb
        refine hK _ _ ⟨trivial,un HSS _ _ (un HF3)⟩ ?_
        clear hK K
        refine wpR_two (i:=4) (j:=5) (by kernel_rfl) rfl rfl rfl rfl (fun K hK=>?_) (fun K hK=>?_)
        · skip
          go_simp
          refine(put0_of 0 0 0 0 0 0 1 0 1 1 g gZero g_light1 _ (un HF3).gr rfl rfl (by kernel_rfl)).mono ?_
          rintro e W4 ⟨rfl,hg1,ho1⟩
          have HF4:=hide ((un HF3).put hg1 ho1)
          clear hg1 ho1
          refine hK _ _ ⟨trivial,un HSS _ _ (un HF4)⟩ ?_
          clear hK K
          refine wpR_op (i:=5) (o:=_) (by kernel_rfl) rfl rfl (fun K hK=>?_)
          go_simp
          have HL:Hid (w.heap.size≤W4.heap.size∧∀p:Nat×Array Value,p∈([(b1,#[I 0,I 0,I 0,I 0,I 0,I 0,I 0,I 0,I 1,I 1])]:List (Nat×Array Value))→¬W4.heap.size=p.1):=⟨(un HF4).on.size,fun p hp=>Nat.ne_of_gt ((un HF4).bx p hp).2.lt⟩
          have HF5:=hide ((un HF4).alloc z10)
          refine hK _ _ ⟨trivial,un HSS _ _ (un HF5).tail⟩ ?_
          clear hK K
          generalize hW5:W4.alloc (.cells z10 180)=W5 at *
          clear hW5
          generalize W4.heap.size=k at *
          have HFE:=hide ((un HF5).row (un HL).1 (un HL).2 #[I 0,I 0,I 0,I 0,I 0,I 0,I 1,I 0,I 1,I 1])
          refine wpR_late (i:=6) (o:=_) (by kernel_rfl) rfl rfl (by kernel_rfl) (fun K hK=>?_)
          refine wp_store_row 180 (.tmp 3) (.tmp 8) rfl k #[I 0,I 0,I 0,I 0,I 0,I 0,I 1,I 0,I 1,I 1] rfl rfl 180 _ ((un HF5).bx (k,z10) (by simp)).2 (by rw[info55];rfl) rfl (by kernel_rfl) (hK _ _ (un HSS _ _ (un HFE).tail) ?_)
          clear hK K
          refine wpR_done (by kernel_rfl) ?_
          generalize W5.setRow k #[I 0,I 0,I 0,I 0,I 0,I 0,I 1,I 0,I 1,I 1]=U at HFE ⊢
          go_wp2_with fail
          go_meet
          exact⟨k,rfl,HFE⟩
        · skip
          go_simp
          have HL:Hid (w.heap.size≤W3.heap.size∧∀p:Nat×Array Value,p∈([(b1,#[I 0,I 0,I 0,I 0,I 0,I 0,I 0,I 0,I 1,I 1])]:List (Nat×Array Value))→¬W3.heap.size=p.1):=⟨(un HF3).on.size,fun p hp=>Nat.ne_of_gt ((un HF3).bx p hp).2.lt⟩
          have HF4:=hide ((un HF3).alloc z10)
          refine hK _ _ ⟨trivial,un HSS _ _ (un HF4).tail⟩ ?_
          clear hK K
          generalize hW4:W3.alloc (.cells z10 180)=W4 at *
          clear hW4
          generalize W3.heap.size=k at *
          refine wpR_op (i:=4) (o:=_) (by kernel_rfl) rfl rfl (fun K hK=>?_)
          go_simp
          refine(put0_of 0 0 0 0 0 0 1 0 1 1 g gZero g_light1 _ (un HF4).gr rfl rfl (by kernel_rfl)).mono ?_
          rintro e W5 ⟨rfl,hg1,ho1⟩
          have HF5:=hide ((un HF4).put hg1 ho1)
          clear hg1 ho1
          refine hK _ _ ⟨trivial,un HSS _ _ ((un HF5).tail)⟩ ?_
          clear hK K
          have HFE:=hide ((un HF5).row (un HL).1 (un HL).2 #[I 0,I 0,I 0,I 0,I 0,I 0,I 1,I 0,I 1,I 1])
          refine wpR_late (i:=6) (o:=_) (by kernel_rfl) rfl rfl (by kernel_rfl) (fun K hK=>?_)
          refine wp_store_row 180 (.tmp 3) (.tmp 8) rfl k #[I 0,I 0,I 0,I 0,I 0,I 0,I 1,I 0,I 1,I 1] rfl rfl 180 _ ((un HF5).bx (k,z10) (by simp)).2 (by rw[info55];rfl) rfl (by kernel_rfl) (hK _ _ (un HSS _ _ (un HFE).tail) ?_)
          clear hK K
          refine wpR_done (by kernel_rfl) ?_
          generalize W5.setRow k #[I 0,I 0,I 0,I 0,I 0,I 0,I 1,I 0,I 1,I 1]=U at HFE ⊢
          go_wp2_with fail
          go_meet
          exact⟨k,rfl,HFE⟩
      · skip
        go_simp
        have HL:Hid (w.heap.size≤W2.heap.size∧∀p:Nat×Array Value,p∈([(b1,#[I 0,I 0,I 0,I 0,I 0,I 0,I 0,I 0,I 1,I 1])]:List (Nat×Array Value))→¬W2.heap.size=p.1):=⟨(un HF2).on.size,fun p hp=>Nat.ne_of_gt ((un HF2).bx p hp).2.lt⟩
        have HF3:=hide ((un HF2).alloc z10)
        refine hK _ _ ⟨trivial,un HSS _ _ (un HF3).tail⟩ ?_
        clear hK K
        generalize hW3:W2.alloc (.cells z10 180)=W3 at *
        clear hW3
        generalize W2.heap.size=k at *
        refine wpR_op (i:=3) (o:=_) (by kernel_rfl) rfl rfl (fun K hK=>?_)
        go_simp
        refine(times_si 0 0 0 0 0 0 1 0 1 1 0 0 0 0 0 0 0 0 1 1 0 0 0 0 0 0 1 0 1 1 _ (by decide +kernel)).mono ?_
        rintro e W4 ⟨rfl,hb⟩
        have HF4:=hide ((un HF3).later hb)
        clear hb
        refine hK _ _ ⟨trivial,un HSS _ _ ((un HF4).tail)⟩ ?_
        clear hK K
        refine wpR_op (i:=4) (o:=_) (by kernel_rfl) rfl rfl (fun K hK=>?_)
        go_simp
        refine(put0_of 0 0 0 0 0 0 1 0 1 1 g gZero g_light1 _ (un HF4).gr rfl rfl (by kernel_rfl)).mono ?_
        rintro e W5 ⟨rfl,hg1,ho1⟩
        have HF5:=hide ((un HF4).put hg1 ho1)
        clear hg1 ho1
        refine hK _ _ ⟨trivial,un HSS _ _ ((un HF5).tail)⟩ ?_
        clear hK K
        have HFE:=hide ((un HF5).row (un HL).1 (un HL).2 #[I 0,I 0,I 0,I 0,I 0,I 0,I 1,I 0,I 1,I 1])
        refine wpR_late (i:=6) (o:=_) (by kernel_rfl) rfl rfl (by kernel_rfl) (fun K hK=>?_)
        refine wp_store_row 180 (.tmp 3) (.tmp 8) rfl k #[I 0,I 0,I 0,I 0,I 0,I 0,I 1,I 0,I 1,I 1] rfl rfl 180 _ ((un HF5).bx (k,z10) (by simp)).2 (by rw[info55];rfl) rfl (by kernel_rfl) (hK _ _ (un HSS _ _ (un HFE).tail) ?_)
        clear hK K
        refine wpR_done (by kernel_rfl) ?_
        generalize W5.setRow k #[I 0,I 0,I 0,I 0,I 0,I 0,I 1,I 0,I 1,I 1]=U at HFE ⊢
        go_wp2_with fail
        go_meet
        exact⟨k,rfl,HFE⟩
    · skip
      go_simp
      have HL:Hid (w.heap.size≤W1.heap.size∧∀p:Nat×Array Value,p∈([(b1,#[I 0,I 0,I 0,I 0,I 0,I 0,I 0,I 0,I 1,I 1])]:List (Nat×Array Value))→¬W1.heap.size=p.1):=⟨(un HF1).on.size,fun p hp=>Nat.ne_of_gt ((un HF1).bx p hp).2.lt⟩
      have HF2:=hide ((un HF1).alloc z10)
      refine hK _ _ ⟨trivial,un HSS _ _ (un HF2).tail⟩ ?_
      clear hK K
      generalize hW2:W1.alloc (.cells z10 180)=W2 at *
      clear hW2
      generalize W1.heap.size=k at *
      refine wpR_op (i:=1) (o:=_) (by kernel_rfl) rfl rfl (fun K hK=>?_)
      go_simp
      refine(siOne6 _).mono ?_
      rintro e W3 ⟨rfl,hb⟩
      have HF3:=hide ((un HF2).later hb)
      clear hb
      refine hK _ _ ⟨trivial,un HSS _ _ ((un HF3).tail)⟩ ?_
      clear hK K
      refine wpR_op (i:=3) (o:=_) (by kernel_rfl) rfl rfl (fun K hK=>?_)
      go_simp
      refine(times_si 0 0 0 0 0 0 1 0 1 1 0 0 0 0 0 0 0 0 1 1 0 0 0 0 0 0 1 0 1 1 _ (by decide +kernel)).mono ?_
      rintro e W4 ⟨rfl,hb⟩
      have HF4:=hide ((un HF3).later hb)
      clear hb
      refine hK _ _ ⟨trivial,un HSS _ _ ((un HF4).tail)⟩ ?_
      clear hK K
      refine wpR_op (i:=4) (o:=_) (by kernel_rfl) rfl rfl (fun K hK=>?_)
      go_simp
      refine(put0_of 0 0 0 0 0 0 1 0 1 1 g gZero g_light1 _ (un HF4).gr rfl rfl (by kernel_rfl)).mono ?_
      rintro e W5 ⟨rfl,hg1,ho1⟩
      have HF5:=hide ((un HF4).put hg1 ho1)
      clear hg1 ho1
      refine hK _ _ ⟨trivial,un HSS _ _ ((un HF5).tail)⟩ ?_
      clear hK K
      have HFE:=hide ((un HF5).row (un HL).1 (un HL).2 #[I 0,I 0,I 0,I 0,I 0,I 0,I 1,I 0,I 1,I 1])
      refine wpR_late (i:=6) (o:=_) (by kernel_rfl) rfl rfl (by kernel_rfl) (fun K hK=>?_)
      refine wp_store_row 180 (.tmp 3) (.tmp 8) rfl k #[I 0,I 0,I 0,I 0,I 0,I 0,I 1,I 0,I 1,I 1] rfl rfl 180 _ ((un HF5).bx (k,z10) (by simp)).2 (by rw[info55];rfl) rfl (by kernel_rfl) (hK _ _ (un HSS _ _ (un HFE).tail) ?_)
      clear hK K
      refine wpR_done (by kernel_rfl) ?_
      generalize W5.setRow k #[I 0,I 0,I 0,I 0,I 0,I 0,I 1,I 0,I 1,I 1]=U at HFE ⊢
      go_wp2_with fail
      go_meet
      exact⟨k,rfl,HFE⟩
  case rest=>
    obtain⟨k3,rfl,HF20⟩:=hcut
    generalize wc=W20 at HF20 ⊢
    go_upto_region 1 with fail
    have HSS:Hid (∀(W':World) (vs:Array Value),FS w W' g vs [(k3,#[I 0,I 0,I 0,I 0,I 0,I 0,I 1,I 0,I 1,I 1]),(b1,#[I 0,I 0,I 0,I 0,I 0,I 0,I 0,I 0,I 1,I 1])]→W'.cell? ⟨k3,0,none⟩=some (I 0)∧W'.cell? ⟨k3,1,none⟩=some (I 0)∧W'.cell? ⟨k3,2,none⟩=some (I 0)∧W'.cell? ⟨k3,3,none⟩=some (I 0)∧W'.cell? ⟨k3,4,none⟩=some (I 0)∧W'.cell? ⟨k3,5,none⟩=some (I 0)∧W'.cell? ⟨k3,6,none⟩=some (I 1)∧W'.cell? ⟨k3,7,none⟩=some (I 0)∧W'.cell? ⟨k3,8,none⟩=some (I 1)∧W'.cell? ⟨k3,9,none⟩=some (I 1)):=fun W' vs h=>⟨((h.bx (k3,#[I 0,I 0,I 0,I 0,I 0,I 0,I 1,I 0,I 1,I 1]) (by simp)).2.ub.c 0 _ rfl),((h.bx (k3,#[I 0,I 0,I 0,I 0,I 0,I 0,I 1,I 0,I 1,I 1]) (by simp)).2.ub.c 1 _ rfl),((h.bx (k3,#[I 0,I 0,I 0,I 0,I 0,I 0,I 1,I 0,I 1,I 1]) (by simp)).2.ub.c 2 _ rfl),((h.bx (k3,#[I 0,I 0,I 0,I 0,I 0,I 0,I 1,I 0,I 1,I 1]) (by simp)).2.ub.c 3 _ rfl),((h.bx (k3,#[I 0,I 0,I 0,I 0,I 0,I 0,I 1,I 0,I 1,I 1]) (by simp)).2.ub.c 4 _ rfl),((h.bx (k3,#[I 0,I 0,I 0,I 0,I 0,I 0,I 1,I 0,I 1,I 1]) (by simp)).2.ub.c 5 _ rfl),((h.bx (k3,#[I 0,I 0,I 0,I 0,I 0,I 0,I 1,I 0,I 1,I 1]) (by simp)).2.ub.c 6 _ rfl),((h.bx (k3,#[I 0,I 0,I 0,I 0,I 0,I 0,I 1,I 0,I 1,I 1]) (by simp)).2.ub.c 7 _ rfl),((h.bx (k3,#[I 0,I 0,I 0,I 0,I 0,I 0,I 1,I 0,I 1,I 1]) (by simp)).2.ub.c 8 _ rfl),((h.bx (k3,#[I 0,I 0,I 0,I 0,I 0,I 0,I 1,I 0,I 1,I 1]) (by simp)).2.ub.c 9 _ rfl)⟩
    have HF21:Hid (FS w (W20.drew) g g_light1 [(k3,#[I 0,I 0,I 0,I 0,I 0,I 0,I 1,I 0,I 1,I 1]),(b1,#[I 0,I 0,I 0,I 0,I 0,I 0,I 0,I 0,I 1,I 1])]):=(un HF20).later (Below.refl _ _).drew
    have HS21:=hide (un HSS _ _ (un HF21))
    refine region_reads 6 (fun _=>True) (fun W'=>W'.cell? ⟨k3,0,none⟩=some (I 0)∧W'.cell? ⟨k3,1,none⟩=some (I 0)∧W'.cell? ⟨k3,2,none⟩=some (I 0)∧W'.cell? ⟨k3,3,none⟩=some (I 0)∧W'.cell? ⟨k3,4,none⟩=some (I 0)∧W'.cell? ⟨k3,5,none⟩=some (I 0)∧W'.cell? ⟨k3,6,none⟩=some (I 1)∧W'.cell? ⟨k3,7,none⟩=some (I 0)∧W'.cell? ⟨k3,8,none⟩=some (I 1)∧W'.cell? ⟨k3,9,none⟩=some (I 1)) 7 rfl (by kernel_rfl) ?_
    refine wpR_take7 (i:=0) (oi:=_) (v:=.func (.func 367) #[] #[.pointer (some ⟨g,0,none⟩)]) rfl (by kernel_rfl) (by kernel_rfl) (by kernel_rfl) (by kernel_rfl) (fun _ _ _ h=>h) (Or.inl ⟨by rfl,?_⟩) ⟨trivial,un HS21⟩ ?_
    · intro W hW
      go_split_ands
      go_simp
    refine wpR_take7 (i:=1) (oi:=_) (v:=.agg #[I 0,I 0,I 0,I 0,I 0,I 0,I 1,I 0,I 1,I 1]) rfl (by kernel_rfl) (by kernel_rfl) (by kernel_rfl) (by kernel_rfl) (fun _ _ _ h=>h) (Or.inl ⟨by rfl,?_⟩) ⟨trivial,un HS21⟩ ?_
    · intro W hW
      go_split_ands
      go_simp
    refine wpR_op (i:=2) (o:=_) (by kernel_rfl) rfl rfl (fun K hK=>?_)
    go_simp
    refine(siOne0 _).mono ?_
    rintro e W22 ⟨rfl,hb⟩
    have HF22:=hide ((un HF21).later hb)
    clear hb
    refine hK _ _ ⟨trivial,un HSS _ _ (un HF22)⟩ ?_
    clear hK K
    refine wpR_op (i:=3) (o:=_) (by kernel_rfl) rfl rfl (fun K hK=>?_)
    go_simp
    refine(by_si 0 0 0 0 0 0 1 0 1 1 1 0 0 0 0 0 0 0 1 1 (-1) 0 0 0 0 0 1 0 1 1 _ (by decide +kernel)).mono ?_
    rintro e W23 ⟨rfl,hb⟩
    have HF23:=hide ((un HF22).later hb)
    clear hb
    refine hK _ _ ⟨trivial,un HSS _ _ (un HF23)⟩ ?_
    clear hK K
    refine wpR_op (i:=4) (o:=_) (by kernel_rfl) rfl rfl (fun K hK=>?_)
    go_simp
    refine(siOne0 _).mono ?_
    rintro e W24 ⟨rfl,hb⟩
    have HF24:=hide ((un HF23).later hb)
    clear hb
    refine hK _ _ ⟨trivial,un HSS _ _ (un HF24)⟩ ?_
    clear hK K
    refine wpR_op (i:=5) (o:=_) (by kernel_rfl) rfl rfl (fun K hK=>?_)
    go_simp
    refine(by_si (-1) 0 0 0 0 0 1 0 1 1 1 0 0 0 0 0 0 0 1 1 (-2) 0 0 0 0 0 1 0 1 1 _ (by decide +kernel)).mono ?_
    rintro e W25 ⟨rfl,hb⟩
    have HF25:=hide ((un HF24).later hb)
    clear hb
    refine hK _ _ ⟨trivial,un HSS _ _ (un HF25)⟩ ?_
    clear hK K
    refine wpR_late (i:=6) (o:=_) (by kernel_rfl) rfl rfl (by kernel_rfl) (fun K hK=>?_)
    go_simp
    refine(put1_of (-2) 0 0 0 0 0 1 0 1 1 g g_light1 g_light2 _ (un HF25).gr rfl rfl (by kernel_rfl)).mono ?_
    rintro e W26 ⟨rfl,hg1,ho1⟩
    have HF26:=hide ((un HF25).put hg1 ho1)
    clear hg1 ho1
    refine hK _ _ (un HSS _ _ (un HF26)) ?_
    clear hK K
    refine wpR_done (by kernel_rfl) ?_
    clear HSS HS21
    go_wp2_with fail
    go_end0
    exact⟨rfl,(un HF26).gr,(un HF26).on⟩
end Go.Proofs.YtliadckofhblnaaGreatDoor

/- SiRelations: what is made of what. -/
import Derived.Test.YthcbhnggphdflaaGreatDoorLimb3
import Derived.Test.YthcbhnggphdflaaGreatDoorAmtM
import Derived.Great.BuildSlice
import Derived.Test.YthcbhnggphdflaaGreatDoorUnit2
import Derived.ChangeKeysEq
import Derived.Laws.StructEq
import Derived.Deep.QuietTactic
import Derived.BigQuiet
import Derived.Test.YthcbhnggphdflaaGreatDoorOwn
import Derived.Test.YthcbhnggphdflaaGreatDoorAmtD
import Derived.Test.YthcbhnggphdflaaGreatDoorMade
namespace Go.Proofs.YthcbhnggphdflaaGreatDoor
open Go.RowKit
set_option maxRecDepth 100000 in
set_option maxHeartbeats 4000000 in
theorem siMade_walk (s:ByteArray) (w:World) (nm sy:ByteArray) (tk x0 x1 x2 x3 x4 x5 x6 x7 x8 x9:Int) (pa:Array Value) (c:Nat) (L:List Value)
  (hfi:∀W:World,Calls Tryz.prog 27 #[.string s] W fun r w'=>r=.returned (.tuple #[.agg #[.string nm,.string sy,I tk,I x0,I x1,I x2,I x3,I x4,I x5,I x6,I x7,I x8,I x9],.bool true])∧Below W.heap.size W w')
  (hpa:∀W,Below w.heap.size w W→Calls Tryz.prog 20 #[] W fun r w'=>r=.returned (.agg pa)∧Below W.heap.size W w')
  (hma:∀W:World,Calls Tryz.prog 28 #[.agg #[I x0,I x1,I x2,I x3,I x4,I x5,I x6,I x7,I x8,I x9],.agg pa] W fun r w'=>∃v,r=.returned v∧w'.ownsRow W.heap.size 40 2 v c L∧Below W.heap.size W w') :
  Calls Tryz.prog 13 #[.string s] w fun r w'=>∃v,r=.returned (.tuple #[v,.bool true])∧w'.ownsRow w.heap.size 40 2 v c L∧Below w.heap.size w w':=by
 have HFI:=hide hfi;have HPA:=hide hpa;have HMA:=hide hma
 have HB:Hid (Below w.heap.size w w):=Below.refl _ _
 clear hfi hpa hma
 go_enter Tryz.func13,Tryz.ntmps13
 go_upto_region 2 with (first
  | (go_at_call 27;go_must(refine(un HFI _).mono ?_;rintro e w1 ⟨rfl,hb⟩;have HB1:Hid (Below w.heap.size w w1):=(un HB).trans (hb.mono (un HB).size);clear hb))
  | (refine storeT 57 13 info57s rfl (.tmp 4) (.tmp 9) rfl w1.heap.size z13 #[.string nm,.string sy,I tk,I x0,I x1,I x2,I x3,I x4,I x5,I x6,I x7,I x8,I x9] rfl rfl rfl rfl (OwnU.new _ _ _) (by kernel_rfl) ?_))
 have hb2:Below w1.heap.size w1 ((w1.alloc (.cells z13 57)).setRow w1.heap.size #[.string nm,.string sy,I tk,I x0,I x1,I x2,I x3,I x4,I x5,I x6,I x7,I x8,I x9]):=below_setRow (albel _ _) (Nat.le_refl _) _
 have HX2:Hid (OwnU ((w1.alloc (.cells z13 57)).setRow w1.heap.size #[.string nm,.string sy,I tk,I x0,I x1,I x2,I x3,I x4,I x5,I x6,I x7,I x8,I x9]) w1.heap.size 57 #[.string nm,.string sy,I tk,I x0,I x1,I x2,I x3,I x4,I x5,I x6,I x7,I x8,I x9]):=(OwnU.new _ _ _).setRow _
 have HB2:Hid (Below w.heap.size w _):=(un HB1).trans (hb2.mono (un HB1).size)
 clear hb2 HB1 HB HFI
 generalize (w1.alloc (.cells z13 57)).setRow w1.heap.size #[.string nm,.string sy,I tk,I x0,I x1,I x2,I x3,I x4,I x5,I x6,I x7,I x8,I x9]=w2 at *
 generalize w1.heap.size=g4 at *
 go_upto_region 4 with fail
 have HX3:Hid (OwnU w2.drew g4 57 #[.string nm,.string sy,I tk,I x0,I x1,I x2,I x3,I x4,I x5,I x6,I x7,I x8,I x9]):=un HX2
 have HB3:Hid (Below w.heap.size w w2.drew):=(un HB2).drew
 have HSS:Hid (∀W':World,OwnU W' g4 57 #[.string nm,.string sy,I tk,I x0,I x1,I x2,I x3,I x4,I x5,I x6,I x7,I x8,I x9]→W'.cell? ⟨g4,0,none⟩=some (.string nm)∧W'.cell? ⟨g4,1,none⟩=some (.string sy)∧W'.cell? ⟨g4,2,none⟩=some (I tk)∧W'.cell? ⟨g4,3,none⟩=some (I x0)∧W'.cell? ⟨g4,4,none⟩=some (I x1)∧W'.cell? ⟨g4,5,none⟩=some (I x2)∧W'.cell? ⟨g4,6,none⟩=some (I x3)∧W'.cell? ⟨g4,7,none⟩=some (I x4)∧W'.cell? ⟨g4,8,none⟩=some (I x5)∧W'.cell? ⟨g4,9,none⟩=some (I x6)∧W'.cell? ⟨g4,10,none⟩=some (I x7)∧W'.cell? ⟨g4,11,none⟩=some (I x8)∧W'.cell? ⟨g4,12,none⟩=some (I x9)):=fun W' h1=>⟨h1.ub.c 0 _ rfl,h1.ub.c 1 _ rfl,h1.ub.c 2 _ rfl,h1.ub.c 3 _ rfl,h1.ub.c 4 _ rfl,h1.ub.c 5 _ rfl,h1.ub.c 6 _ rfl,h1.ub.c 7 _ rfl,h1.ub.c 8 _ rfl,h1.ub.c 9 _ rfl,h1.ub.c 10 _ rfl,h1.ub.c 11 _ rfl,h1.ub.c 12 _ rfl⟩
 have HS0:=hide (un HSS _ (un HX3))
 clear HX2 HB2
 refine region_reads 4 (fun _=>True) (fun W'=>W'.cell? ⟨g4,0,none⟩=some (.string nm)∧W'.cell? ⟨g4,1,none⟩=some (.string sy)∧W'.cell? ⟨g4,2,none⟩=some (I tk)∧W'.cell? ⟨g4,3,none⟩=some (I x0)∧W'.cell? ⟨g4,4,none⟩=some (I x1)∧W'.cell? ⟨g4,5,none⟩=some (I x2)∧W'.cell? ⟨g4,6,none⟩=some (I x3)∧W'.cell? ⟨g4,7,none⟩=some (I x4)∧W'.cell? ⟨g4,8,none⟩=some (I x5)∧W'.cell? ⟨g4,9,none⟩=some (I x6)∧W'.cell? ⟨g4,10,none⟩=some (I x7)∧W'.cell? ⟨g4,11,none⟩=some (I x8)∧W'.cell? ⟨g4,12,none⟩=some (I x9)) 6 rfl (by kernel_rfl) ?_
 generalize w2.drew=U1 at *
 refine wpR_take7 (i:=0) (oi:=_) (v:=.pointer (some ⟨g4,3,none⟩)) rfl (by kernel_rfl) (by kernel_rfl) (by kernel_rfl) (by kernel_rfl) (fun _ _ _ h=>h) (Or.inl ⟨by rfl,?_⟩) ⟨trivial,un HS0⟩ ?_
 ·intro W' hW
  go_split_ands
  go_simp
 refine wpR_take7 (i:=1) (oi:=_) (v:=.agg #[I x0,I x1,I x2,I x3,I x4,I x5,I x6,I x7,I x8,I x9]) rfl (by kernel_rfl) (by kernel_rfl) (by kernel_rfl) (by kernel_rfl) (fun _ _ _ h=>h) (Or.inl ⟨by rfl,?_⟩) ⟨trivial,un HS0⟩ ?_
 ·intro W' hW
  go_split_ands
  go_simp
 refine wpR_op (i:=2) (o:=_) (by kernel_rfl) rfl rfl (fun K hK=>?_)
 go_simp
 refine(un HPA _ (un HB3)).mono ?_
 rintro e U4 ⟨rfl,hb⟩
 have HX4:=hide ((un HX3).later hb);have HB4:Hid (Below w.heap.size w U4):=(un HB3).trans (hb.mono (un HB3).size)
 clear hb HX3 HB3
 refine hK _ _ ⟨trivial,un HSS _ (un HX4)⟩ ?_
 clear hK K
 refine wpR_op (i:=3) (o:=_) (by kernel_rfl) rfl rfl (fun K hK=>?_)
 go_simp
 refine(un HMA _).mono ?_
 rintro e U5 ⟨v,rfl,hown,hb⟩
 have HOW:Hid (U5.ownsRow w.heap.size 40 2 v c L):=hown.mono (un HB4).size
 have HX5:=hide ((un HX4).later hb);have HB5:Hid (Below w.heap.size w U5):=(un HB4).trans (hb.mono (un HB4).size)
 clear hb hown HX4 HB4
 refine hK _ _ ⟨trivial,un HSS _ (un HX5)⟩ ?_
 clear hK K
 refine wpR_late (i:=4) (o:=_) (by kernel_rfl) rfl rfl (by kernel_rfl) (fun K hK=>?_)
 go_simp
 refine hK _ _ (un HSS _ (un HX5)) ?_
 clear hK K
 refine wpR_late (i:=5) (o:=_) (by kernel_rfl) rfl rfl (by kernel_rfl) (fun K hK=>?_)
 go_simp
 refine hK _ _ (un HSS _ (un HX5)) ?_
 clear hK K
 refine wpR_done (by kernel_rfl) ?_
 go_wp2_with fail
 exact bodyPost_ret (v:=.tuple #[v,.bool true]) (by simp[results,Tryz.results13,go_sem]) rfl ⟨v,rfl,un HOW,un HB5⟩
theorem siMade_yes (s:ByteArray) (k:Nat) (hf:IsF29 (suB s) (k:Int)) (w:World) (htab:Tab w):Calls Tryz.prog 13 #[.string s] w fun r w'=>∃v,r=.returned (.tuple #[v,.bool true])∧w'.ownsRow w.heap.size 40 2 v (cntM (evF (sut k)) 8) (mkL (evF (sut k)) 8)∧Below w.heap.size w w' :=
 siMade_walk s w _ _ _ _ _ _ _ _ _ _ _ _ _ partsA _ _ (fun W=>findS_yes s k hf W) (fun W hb=>parts_si W (htab.later hb)) (fun W=>made_any (evF (sut k)) (sut k).n (sut k).d W)
end Go.Proofs.YthcbhnggphdflaaGreatDoor

namespace Go.Proofs.YthcbhnggphdflaaGreatDoor
open Go.RowKit
set_option maxRecDepth 100000 in
set_option maxHeartbeats 2000000 in
theorem refUnit (nm sy fn fd:ByteArray) (d0 d1 d2 d3 d4 d5 d6 d7 tk:Int) (w:World):Calls Tryz.prog 26 #[.string nm,.string sy,.agg #[I d0,I d1,I d2,I d3,I d4,I d5,I d6,I d7],.string fn,.string fd,I tk] w fun r w'=>r=.returned (.agg #[.string nm,.string sy,I d0,I d1,I d2,I d3,I d4,I d5,I d6,I d7,.string fn,.string fd,.string ⟨#[48]⟩,.string ⟨#[49]⟩,I tk])∧Below w.heap.size w w':=by
 obtain⟨V,hV⟩:∃V,V=(w.alloc (.cells #[I d0,I d1,I d2,I d3,I d4,I d5,I d6,I d7] 26)).alloc (.cells z15 30):=⟨_,rfl⟩
 have HB:Hid (Below w.heap.size w V):=by rw[hV];exact((Below.refl _ _).alloc (Nat.le_refl _) _).alloc (by simp) _
 have HA:Hid (OwnU V w.heap.size 26 #[I d0,I d1,I d2,I d3,I d4,I d5,I d6,I d7]):=by rw[hV];exact(OwnU.new _ _ _).alloc _
 have HR:Hid (OwnU V (w.heap.size+1) 30 z15):=by rw[hV];have h:=OwnU.new (w.alloc (.cells #[I d0,I d1,I d2,I d3,I d4,I d5,I d6,I d7] 26)) z15 30;rw[Dm.size_alloc]at h;exact h
 have HV:=hide hV
 clear hV
 go_enter Tryz.func26,Tryz.ntmps26
 go_upto_region 1 with fail
 rw[←un HV]
 clear HV
 go_wp2_with (first
  | (refine wpList_load_row rfl 26 (.tmp 8) rfl w.heap.size rfl 26 #[I d0,I d1,I d2,I d3,I d4,I d5,I d6,I d7] (0,0) _ (un HA) Tryz.underlying26 rfl (by kernel_rfl) ?_)
  | (refine storeT 30 15 info27 rfl (.tmp 12) (.tmp 21) rfl (w.heap.size+1) z15 #[.string nm,.string sy,I d0,I d1,I d2,I d3,I d4,I d5,I d6,I d7,.string fn,.string fd,.string ⟨#[48]⟩,.string ⟨#[49]⟩,I tk] rfl rfl rfl rfl (un HR) (by kernel_rfl) ?_))
 exact bodyPost_ret (v:=.agg #[.string nm,.string sy,I d0,I d1,I d2,I d3,I d4,I d5,I d6,I d7,.string fn,.string fd,.string ⟨#[48]⟩,.string ⟨#[49]⟩,I tk]) (res30 Tryz.results26 _ _ (w.heap.size+1) _ rfl rfl ((un HR).setRow _)) rfl ⟨rfl,below_setRow (un HB) (by omega) _⟩
set_option maxRecDepth 100000 in
set_option maxHeartbeats 2000000 in
theorem refCoh (nm sy:ByteArray) (d0 d1 d2 d3 d4 d5 d6 d7:Int) (w:World):Calls Tryz.prog 25 #[.string nm,.string sy,.agg #[I d0,I d1,I d2,I d3,I d4,I d5,I d6,I d7]] w fun r w'=>r=.returned (.agg #[.string nm,.string sy,I d0,I d1,I d2,I d3,I d4,I d5,I d6,I d7,.string ⟨#[49]⟩,.string ⟨#[49]⟩,.string ⟨#[48]⟩,.string ⟨#[49]⟩,I 1])∧Below w.heap.size w w':=by
 obtain⟨V,hV⟩:∃V,V=(w.alloc (.cells #[I d0,I d1,I d2,I d3,I d4,I d5,I d6,I d7] 26)).alloc (.cells z15 30):=⟨_,rfl⟩
 have HB:Hid (Below w.heap.size w V):=by rw[hV];exact((Below.refl _ _).alloc (Nat.le_refl _) _).alloc (by simp) _
 have HA:Hid (OwnU V w.heap.size 26 #[I d0,I d1,I d2,I d3,I d4,I d5,I d6,I d7]):=by rw[hV];exact(OwnU.new _ _ _).alloc _
 have HR:Hid (OwnU V (w.heap.size+1) 30 z15):=by rw[hV];have h:=OwnU.new (w.alloc (.cells #[I d0,I d1,I d2,I d3,I d4,I d5,I d6,I d7] 26)) z15 30;rw[Dm.size_alloc]at h;exact h
 have HV:=hide hV
 clear hV
 go_enter Tryz.func25,Tryz.ntmps25
 go_upto_region 1 with fail
 rw[←un HV]
 clear HV
 go_wp2_with (first
  | (refine wpList_load_row rfl 26 (.tmp 5) rfl w.heap.size rfl 26 #[I d0,I d1,I d2,I d3,I d4,I d5,I d6,I d7] (0,0) _ (un HA) Tryz.underlying26 rfl (by kernel_rfl) ?_)
  | (go_at_call 26;go_must(refine(refUnit _ _ _ _ _ _ _ _ _ _ _ _ _ _).mono ?_;rintro e w1 ⟨rfl,hb⟩;have HR1:=hide ((un HR).later hb);have HB1:Hid (Below w.heap.size w w1):=(un HB).trans (hb.mono (un HB).size);clear hb))
  | (refine storeT 30 15 info27 rfl (.tmp 6) (.tmp 10) rfl (w.heap.size+1) z15 #[.string nm,.string sy,I d0,I d1,I d2,I d3,I d4,I d5,I d6,I d7,.string ⟨#[49]⟩,.string ⟨#[49]⟩,.string ⟨#[48]⟩,.string ⟨#[49]⟩,I 1] rfl rfl rfl rfl (un HR1) (by kernel_rfl) ?_))
 exact bodyPost_ret (v:=.agg #[.string nm,.string sy,I d0,I d1,I d2,I d3,I d4,I d5,I d6,I d7,.string ⟨#[49]⟩,.string ⟨#[49]⟩,.string ⟨#[48]⟩,.string ⟨#[49]⟩,I 1]) (res30 Tryz.results25 _ _ (w.heap.size+1) _ rfl rfl ((un HR1).setRow _)) rfl ⟨rfl,below_setRow (un HB1) (by omega) _⟩
def uAllS:Array Value:=#[.string ⟨#[110,101,119,116,111,110]⟩,.string ⟨#[78]⟩,I 1,I 1,I (-2),I 0,I 0,I 0,I 0,I 0,.string ⟨#[49]⟩,.string ⟨#[49]⟩,.string ⟨#[48]⟩,.string ⟨#[49]⟩,I 1,.string ⟨#[112,97,115,99,97,108]⟩,.string ⟨#[80,97]⟩,I (-1),I 1,I (-2),I 0,I 0,I 0,I 0,I 0,.string ⟨#[49]⟩,.string ⟨#[49]⟩,.string ⟨#[48]⟩,.string ⟨#[49]⟩,I 1,.string ⟨#[106,111,117,108,101]⟩,.string ⟨#[74]⟩,I 2,I 1,I (-2),I 0,I 0,I 0,I 0,I 0,.string ⟨#[49]⟩,.string ⟨#[49]⟩,.string ⟨#[48]⟩,.string ⟨#[49]⟩,I 1,.string ⟨#[119,97,116,116]⟩,.string ⟨#[87]⟩,I 2,I 1,I (-3),I 0,I 0,I 0,I 0,I 0,.string ⟨#[49]⟩,.string ⟨#[49]⟩,.string ⟨#[48]⟩,.string ⟨#[49]⟩,I 1,.string ⟨#[99,111,117,108,111,109,98]⟩,.string ⟨#[67]⟩,I 0,I 0,I 1,I 1,I 0,I 0,I 0,I 0,.string ⟨#[49]⟩,.string ⟨#[49]⟩,.string ⟨#[48]⟩,.string ⟨#[49]⟩,I 1,.string ⟨#[118,111,108,116]⟩,.string ⟨#[86]⟩,I 2,I 1,I (-3),I (-1),I 0,I 0,I 0,I 0,.string ⟨#[49]⟩,.string ⟨#[49]⟩,.string ⟨#[48]⟩,.string ⟨#[49]⟩,I 1,.string ⟨#[102,97,114,97,100]⟩,.string ⟨#[70]⟩,I (-2),I (-1),I 4,I 2,I 0,I 0,I 0,I 0,.string ⟨#[49]⟩,.string ⟨#[49]⟩,.string ⟨#[48]⟩,.string ⟨#[49]⟩,I 1,.string ⟨#[111,104,109]⟩,.string ⟨#[206,169]⟩,I 2,I 1,I (-3),I (-2),I 0,I 0,I 0,I 0,.string ⟨#[49]⟩,.string ⟨#[49]⟩,.string ⟨#[48]⟩,.string ⟨#[49]⟩,I 1,.string ⟨#[115,105,101,109,101,110,115]⟩,.string ⟨#[83]⟩,I (-2),I (-1),I 3,I 2,I 0,I 0,I 0,I 0,.string ⟨#[49]⟩,.string ⟨#[49]⟩,.string ⟨#[48]⟩,.string ⟨#[49]⟩,I 1,.string ⟨#[119,101,98,101,114]⟩,.string ⟨#[87,98]⟩,I 2,I 1,I (-2),I (-1),I 0,I 0,I 0,I 0,.string ⟨#[49]⟩,.string ⟨#[49]⟩,.string ⟨#[48]⟩,.string ⟨#[49]⟩,I 1,.string ⟨#[116,101,115,108,97]⟩,.string ⟨#[84]⟩,I 0,I 1,I (-2),I (-1),I 0,I 0,I 0,I 0,.string ⟨#[49]⟩,.string ⟨#[49]⟩,.string ⟨#[48]⟩,.string ⟨#[49]⟩,I 1,.string ⟨#[104,101,110,114,121]⟩,.string ⟨#[72]⟩,I 2,I 1,I (-2),I (-2),I 0,I 0,I 0,I 0,.string ⟨#[49]⟩,.string ⟨#[49]⟩,.string ⟨#[48]⟩,.string ⟨#[49]⟩,I 1,.string ⟨#[104,101,114,116,122]⟩,.string ⟨#[72,122]⟩,I 0,I 0,I (-1),I 0,I 0,I 0,I 0,I 0,.string ⟨#[49]⟩,.string ⟨#[49]⟩,.string ⟨#[48]⟩,.string ⟨#[49]⟩,I 1,.string ⟨#[98,101,99,113,117,101,114,101,108]⟩,.string ⟨#[66,113]⟩,I 0,I 0,I (-1),I 0,I 0,I 0,I 0,I 0,.string ⟨#[49]⟩,.string ⟨#[49]⟩,.string ⟨#[48]⟩,.string ⟨#[49]⟩,I 1,.string ⟨#[103,114,97,121]⟩,.string ⟨#[71,121]⟩,I 2,I 0,I (-2),I 0,I 0,I 0,I 0,I 0,.string ⟨#[49]⟩,.string ⟨#[49]⟩,.string ⟨#[48]⟩,.string ⟨#[49]⟩,I 1,.string ⟨#[115,105,101,118,101,114,116]⟩,.string ⟨#[83,118]⟩,I 2,I 0,I (-2),I 0,I 0,I 0,I 0,I 0,.string ⟨#[49]⟩,.string ⟨#[49]⟩,.string ⟨#[48]⟩,.string ⟨#[49]⟩,I 1,.string ⟨#[107,97,116,97,108]⟩,.string ⟨#[107,97,116]⟩,I 0,I 0,I (-1),I 0,I 0,I 1,I 0,I 0,.string ⟨#[49]⟩,.string ⟨#[49]⟩,.string ⟨#[48]⟩,.string ⟨#[49]⟩,I 1,.string ⟨#[114,97,100,105,97,110]⟩,.string ⟨#[114,97,100]⟩,I 0,I 0,I 0,I 0,I 0,I 0,I 0,I 0,.string ⟨#[49]⟩,.string ⟨#[49]⟩,.string ⟨#[48]⟩,.string ⟨#[49]⟩,I 1,.string ⟨#[115,116,101,114,97,100,105,97,110]⟩,.string ⟨#[115,114]⟩,I 0,I 0,I 0,I 0,I 0,I 0,I 0,I 0,.string ⟨#[49]⟩,.string ⟨#[49]⟩,.string ⟨#[48]⟩,.string ⟨#[49]⟩,I 1,.string ⟨#[108,117,109,101,110]⟩,.string ⟨#[108,109]⟩,I 0,I 0,I 0,I 0,I 0,I 0,I 1,I 0,.string ⟨#[49]⟩,.string ⟨#[49]⟩,.string ⟨#[48]⟩,.string ⟨#[49]⟩,I 1,.string ⟨#[108,117,120]⟩,.string ⟨#[108,120]⟩,I (-2),I 0,I 0,I 0,I 0,I 0,I 1,I 0,.string ⟨#[49]⟩,.string ⟨#[49]⟩,.string ⟨#[48]⟩,.string ⟨#[49]⟩,I 1,.string ⟨#[109,105,110,117,116,101]⟩,.string ⟨#[109,105,110]⟩,I 0,I 0,I 1,I 0,I 0,I 0,I 0,I 0,.string ⟨#[54,48]⟩,.string ⟨#[49]⟩,.string ⟨#[48]⟩,.string ⟨#[49]⟩,I 0,.string ⟨#[104,111,117,114]⟩,.string ⟨#[104]⟩,I 0,I 0,I 1,I 0,I 0,I 0,I 0,I 0,.string ⟨#[51,54,48,48]⟩,.string ⟨#[49]⟩,.string ⟨#[48]⟩,.string ⟨#[49]⟩,I 0,.string ⟨#[100,97,121]⟩,.string ⟨#[100]⟩,I 0,I 0,I 1,I 0,I 0,I 0,I 0,I 0,.string ⟨#[56,54,52,48,48]⟩,.string ⟨#[49]⟩,.string ⟨#[48]⟩,.string ⟨#[49]⟩,I 0,.string ⟨#[108,105,116,114,101]⟩,.string ⟨#[76]⟩,I 3,I 0,I 0,I 0,I 0,I 0,I 0,I 0,.string ⟨#[49]⟩,.string ⟨#[49,48,48,48]⟩,.string ⟨#[48]⟩,.string ⟨#[49]⟩,I 1,.string ⟨#[116,111,110,110,101]⟩,.string ⟨#[116]⟩,I 0,I 1,I 0,I 0,I 0,I 0,I 0,I 0,.string ⟨#[49,48,48,48]⟩,.string ⟨#[49]⟩,.string ⟨#[48]⟩,.string ⟨#[49]⟩,I 1,.string ⟨#[98,97,114]⟩,.string ⟨#[98,97,114]⟩,I (-1),I 1,I (-2),I 0,I 0,I 0,I 0,I 0,.string ⟨#[49,48,48,48,48,48]⟩,.string ⟨#[49]⟩,.string ⟨#[48]⟩,.string ⟨#[49]⟩,I 1,.string ⟨#[104,101,99,116,97,114,101]⟩,.string ⟨#[104,97]⟩,I 2,I 0,I 0,I 0,I 0,I 0,I 0,I 0,.string ⟨#[49,48,48,48,48]⟩,.string ⟨#[49]⟩,.string ⟨#[48]⟩,.string ⟨#[49]⟩,I 0,.string ⟨#[98,121,116,101]⟩,.string ⟨#[66]⟩,I 0,I 0,I 0,I 0,I 0,I 0,I 0,I 1,.string ⟨#[56]⟩,.string ⟨#[49]⟩,.string ⟨#[48]⟩,.string ⟨#[49]⟩,I 3]
theorem info30r:(Tryz.prog.info? 30).map (fun i=>(i.zero,i.size,i.bytes))=some (some (.agg z15),15,168):=by kernel_rfl
theorem under22r:Tryz.prog.underlying 22=some (.slice 30):=by kernel_rfl
set_option maxRecDepth 100000 in
set_option maxHeartbeats 8000000 in
theorem refUnitsS (w:World):Calls Tryz.prog 10 #[] w fun r w'=>∃W,r=.returned (.slice (some ⟨W.heap.size,0,none⟩) 29 29)∧w'=W.alloc (.cells uAllS 30)∧Below w.heap.size w W:=by
 obtain⟨i0,hi,hz0,hz1,hz2⟩:=info_parts info30r
 have HI0:=hide hi;have HZ0:=hide hz0;have HZ1:=hide hz1
 have HB:Hid (Below w.heap.size w w):=Below.refl _ _
 clear hi hz0 hz1 hz2
 go_enter Tryz.func10,Tryz.ntmps10
 go_wp2_with (first
  | (go_at_call 25;go_must(refine(refCoh _ _ _ _ _ _ _ _ _ _ _).mono ?_;rintro e W1 ⟨rfl,hb⟩;have HBn:Hid (Below w.heap.size w W1):=(un HB).trans (hb.mono (un HB).size);clear hb HB;have HB:=HBn;clear HBn))
  | (go_at_call 26;go_must(refine(refUnit _ _ _ _ _ _ _ _ _ _ _ _ _ _).mono ?_;rintro e W1 ⟨rfl,hb⟩;have HBn:Hid (Below w.heap.size w W1):=(un HB).trans (hb.mono (un HB).size);clear hb HB;have HB:=HBn;clear HBn))
  | (refine wpList_buildSlice rfl 22 30 29 _ rfl uAllS i0 (.agg z15) under22r (un HI0) (un HZ0) (by rw[un HZ1];decide) (by rw[un HZ1];decide) (by rw[un HZ1];kernel_rfl) ?_))
 go_ret
 exact⟨W1,rfl,rfl,un HB⟩
end Go.Proofs.YthcbhnggphdflaaGreatDoor

namespace Go.Proofs.YthcbhnggphdflaaGreatDoor
open Go.RowKit
theorem uAllS_ex:∀k,k<29→uAllS.extract (k*15) (k*15+15)=ruT k
 | 0,_=>by kernel_rfl
 | 1,_=>by kernel_rfl
 | 2,_=>by kernel_rfl
 | 3,_=>by kernel_rfl
 | 4,_=>by kernel_rfl
 | 5,_=>by kernel_rfl
 | 6,_=>by kernel_rfl
 | 7,_=>by kernel_rfl
 | 8,_=>by kernel_rfl
 | 9,_=>by kernel_rfl
 | 10,_=>by kernel_rfl
 | 11,_=>by kernel_rfl
 | 12,_=>by kernel_rfl
 | 13,_=>by kernel_rfl
 | 14,_=>by kernel_rfl
 | 15,_=>by kernel_rfl
 | 16,_=>by kernel_rfl
 | 17,_=>by kernel_rfl
 | 18,_=>by kernel_rfl
 | 19,_=>by kernel_rfl
 | 20,_=>by kernel_rfl
 | 21,_=>by kernel_rfl
 | 22,_=>by kernel_rfl
 | 23,_=>by kernel_rfl
 | 24,_=>by kernel_rfl
 | 25,_=>by kernel_rfl
 | 26,_=>by kernel_rfl
 | 27,_=>by kernel_rfl
 | 28,_=>by kernel_rfl
 | _+29,h=>absurd h (by omega)
theorem uAllS_size:uAllS.size=435:=by kernel_rfl
theorem uAllS_row (k:Nat) (hk:k<29) (i:Nat) (v:Value) (h:(ruT k)[i]?=some v):uAllS[k*15+i]?=some v:=by
 have hi:i<15:=by have:=(Array.getElem?_eq_some_iff.1 h).1;rw[ruT_size]at this;exact this
 rw[←uAllS_ex k hk,Array.getElem?_extract,if_pos (by rw[uAllS_size];omega)]at h
 exact h
def UR (W:World) (g k:Nat):Prop:=∀i v,(ruT k)[i]?=some v→W.cell? ⟨g,k*15+i,none⟩=some v
theorem UR.later {W V:World} {B g k:Nat} (h:UR W g k) (hb:Below B W V) (hg:g<B):UR V g k:=fun i v e=>(hb.cell (p:=⟨g,k*15+i,none⟩) hg).trans (h i v e)
theorem uAllS_at (W:World) (k:Nat) (hk:k<29):UR (W.alloc (.cells uAllS 30)) W.heap.size k:=fun i v e=>(OwnU.new W uAllS 30).ub.c _ _ (uAllS_row k hk i v e)
end Go.Proofs.YthcbhnggphdflaaGreatDoor

namespace Go.Proofs.YthcbhnggphdflaaGreatDoor
open Go.RowKit
def URE (W:World) (g k:Nat) (nm sy fn fd:ByteArray) (ev:Nat→Int) (tk:Int):Prop:=∀i v,(#[.string nm,.string sy,I (ev 0),I (ev 1),I (ev 2),I (ev 3),I (ev 4),I (ev 5),I (ev 6),I (ev 7),.string fn,.string fd,.string ⟨#[48]⟩,.string ⟨#[49]⟩,I tk]:Array Value)[i]?=some v→W.cell? ⟨g,k*15+i,none⟩=some v
end Go.Proofs.YthcbhnggphdflaaGreatDoor

namespace Go.Proofs.YthcbhnggphdflaaGreatDoor
open Go.RowKit
def sAt (L:List Value) (i:Nat):ByteArray:=match L[i*2]? with|some (.string s)=>s|_=>⟨#[]⟩
def eAt (L:List Value) (i:Nat):Int:=match L[i*2+1]? with|some (.int _ e)=>e|_=>0
def PairsL (L:List Value) (c:Nat):Prop:=∀i,i<c→L[i*2]?=some (.string (sAt L i))∧L[i*2+1]?=some (I (eAt L i))
theorem pair_of {L:List Value} {i:Nat} {s:ByteArray} {e:Int} (h1:L[i*2]?=some (.string s)) (h2:L[i*2+1]?=some (I e)):L[i*2]?=some (.string (sAt L i))∧L[i*2+1]?=some (I (eAt L i)):=by
  unfold sAt eAt
  rw[h1,h2]
  exact⟨rfl,rfl⟩
theorem mkL_pairs (ev:Nat→Int):∀k,(mkL ev k).length=cntM ev k*2∧PairsL (mkL ev k) (cntM ev k)
  | 0=>⟨rfl,fun i hi=>absurd hi (by unfold cntM;omega)⟩
  | k + 1=>by
    obtain⟨h1,h2⟩:=mkL_pairs ev k
    by_cases h0:ev k=0
    · rw[(mkL_no ev k h0).1,(mkL_no ev k h0).2]
      exact⟨h1,h2⟩
    · rw[(mkL_yes ev k h0).1,(mkL_yes ev k h0).2]
      refine⟨by simp[h1];omega,fun i hi=>?_⟩
      by_cases hlt:i<cntM ev k
      · obtain⟨a1,a2⟩:=h2 i hlt
        exact pair_of (by rw[List.getElem?_append_left (by omega)];exact a1) (by rw[List.getElem?_append_left (by omega)];exact a2)
      · obtain rfl:i=cntM ev k:=by omega
        exact pair_of (s:=ksy k) (e:=ev k) (by rw[List.getElem?_append_right (by omega),h1,Nat.sub_self];rfl) (by rw[List.getElem?_append_right (by omega),h1,show cntM ev k*2+1 - cntM ev k*2=1 by omega];rfl)
def RowC (W:World) (g i c:Nat) (sf:Nat→ByteArray) (ef:Nat→Int):Prop:=∀j,i≤j→j<c→W.cell? ⟨g,j*2,none⟩=some (.string (sf j))∧W.cell? ⟨g,j*2+1,none⟩=some (I (ef j))
theorem RowC.later {W V:World} {B g i c:Nat} {sf:Nat→ByteArray} {ef:Nat→Int} (h:RowC W g i c sf ef) (hb:Below B W V) (hg:g<B):RowC V g i c sf ef:=fun j h1 h2=>⟨(hb.cell (p:=⟨g,j*2,none⟩) hg).trans (h j h1 h2).1,(hb.cell (p:=⟨g,j*2+1,none⟩) hg).trans (h j h1 h2).2⟩
theorem RowC.set {W:World} {g g1 i i1 c:Nat} {sf:Nat→ByteArray} {ef:Nat→Int} (h:RowC W g i c sf ef) (x:Value) (hg:g=g1→i1<i):RowC (W.setCell ⟨g1,i1*2,none⟩ x) g i c sf ef:=fun j h1 h2=>by
  have n1:(⟨g1,i1*2,none⟩:Addr)≠⟨g,j*2,none⟩:=fun e=>by have e1:=congrArg Addr.block e;have e2:=congrArg Addr.off e;simp at e1 e2;have:=hg e1.symm;omega
  have n2:(⟨g1,i1*2,none⟩:Addr)≠⟨g,j*2+1,none⟩:=fun e=>by have e2:=congrArg Addr.off e;simp at e2;omega
  exact⟨(World.cell?_setCell_other _ _ _ _ n1).trans (h j h1 h2).1,(World.cell?_setCell_other _ _ _ _ n2).trans (h j h1 h2).2⟩
def NF (W:World) (g:Nat):Prop:=∃vs,OwnU W g 40 vs
theorem NF.later {W V:World} {g:Nat} (h:NF W g) (hb:Below W.heap.size W V):NF V g:=let ⟨_,h⟩:=h;⟨_,h.later hb⟩
theorem NF.set {W:World} {g:Nat} (h:NF W g) (i:Nat) (v:Value):NF (W.setCell ⟨g,i,none⟩ v) g:=let ⟨_,h⟩:=h;⟨_,h.set i v⟩
theorem NF.f {W:World} {g:Nat} (h:NF W g) (i:Nat):W.frozen? ⟨g,i,none⟩=false:=by
  obtain⟨_,h⟩:=h
  unfold OwnU at h
  simp[World.frozen?,h]
theorem row_of {W:World} {B n:Nat} {v:Value} {L:List Value} (h:W.ownsRow B 40 2 v n L) (hp:PairsL L n):∃a cap,v=.slice a n cap∧(0<n→∃g,a=some ⟨g,0,none⟩∧B≤g∧g<W.heap.size∧NF W g∧RowC W g 0 n (sAt L) (eAt L)):=by
  rcases h.2 with ⟨rfl,rfl⟩|⟨g,cap,cur,rfl,hb,hh,hn,_,hz,ht⟩
  · exact⟨_,_,rfl,fun h=>absurd h (by omega)⟩
  · refine⟨_,_,rfl,fun _=>⟨g,rfl,hb,(Array.getElem?_eq_some_iff.1 hh).1,⟨_,hh⟩,fun j _ hj=>?_⟩⟩
    have ho:OwnU W g 40 cur:=hh
    have hc:∀q v,q<n*2→L[q]?=some v→cur[q]?=some v:=fun q v hq e=>by
      rw[←ht,List.getElem?_take_of_lt hq]at e
      simpa using e
    obtain⟨a1,a2⟩:=hp j hj
    exact⟨ho.ub.c _ _ (hc _ _ (by omega) a1),ho.ub.c _ _ (hc _ _ (by omega) a2)⟩
def Mk (f:Nat) (s:ByteArray) (W:World) (c:Nat) (ok:Bool) (sf:Nat→ByteArray) (ef:Nat→Int):Prop:=Calls Tryz.prog f #[.string s] W fun r w'=>∃a cap,r=.returned (.tuple #[.slice a c cap,.bool ok])∧(0<c→∃g,a=some ⟨g,0,none⟩∧W.heap.size≤g∧g<w'.heap.size∧NF w' g∧RowC w' g 0 c sf ef)∧Below W.heap.size W w'
def Two (w wr:World) (a1 a2:Option Addr) (i c:Nat) (sf:Nat→ByteArray) (ef:Nat→Int):Prop:=0<c→∃g1 g2,a1=some ⟨g1,0,none⟩∧a2=some ⟨g2,0,none⟩∧w.heap.size≤g1∧w.heap.size≤g2∧g1≠g2∧g1<wr.heap.size∧g2<wr.heap.size∧NF wr g1∧RowC wr g1 i c sf ef∧RowC wr g2 0 c sf ef
theorem IsF29.nat {p:Nat→Bool} {i k:Nat} (h1:IsF29 p (i:Int)) (h2:IsF29 p (k:Int)):i=k:=by
  have:=first29 h1 h2
  omega
theorem made_shape13 (s:ByteArray) (k:Nat) (hf:IsF29 (suB s) (k:Int)) (W:World) (htab:Tab W):Mk 13 s W (cntM (evF (sut k)) 8) true (sAt (mkL (evF (sut k)) 8)) (eAt (mkL (evF (sut k)) 8)) :=
  (siMade_yes s k hf W htab).mono (by
    rintro r w' ⟨v,rfl,ho,hb⟩
    obtain⟨a,cap,rfl,h⟩:=row_of ho (mkL_pairs _ 8).2
    exact⟨a,cap,rfl,h,hb⟩)
end Go.Proofs.YthcbhnggphdflaaGreatDoor

namespace Go.Proofs.YthcbhnggphdflaaGreatDoor
open Go.RowKit
abbrev dA (a0 a1 a2 a3 a4 a5 a6 a7:Int):Array Value:=#[I a0,I a1,I a2,I a3,I a4,I a5,I a6,I a7]
theorem dc {W:World} {g:Nat} {a0 a1 a2 a3 a4 a5 a6 a7:Int} (h:OwnU W g 26 (dA a0 a1 a2 a3 a4 a5 a6 a7)):W.cell? ⟨g,0,none⟩=some (I a0)∧W.cell? ⟨g,1,none⟩=some (I a1)∧W.cell? ⟨g,2,none⟩=some (I a2)∧W.cell? ⟨g,3,none⟩=some (I a3)∧W.cell? ⟨g,4,none⟩=some (I a4)∧W.cell? ⟨g,5,none⟩=some (I a5)∧W.cell? ⟨g,6,none⟩=some (I a6)∧W.cell? ⟨g,7,none⟩=some (I a7):=⟨h.ub.c 0 _ rfl,h.ub.c 1 _ rfl,h.ub.c 2 _ rfl,h.ub.c 3 _ rfl,h.ub.c 4 _ rfl,h.ub.c 5 _ rfl,h.ub.c 6 _ rfl,h.ub.c 7 _ rfl⟩
theorem eqR (w:World):(Op.equalIn 10000 28 (.agg #[.string ⟨#[49]⟩,.string ⟨#[49]⟩]) (.agg #[.string ⟨#[49]⟩,.string ⟨#[49]⟩])).run Tryz.prog w=.ok true w:=by kernel_rfl
end Go.Proofs.YthcbhnggphdflaaGreatDoor

namespace Go.Proofs.YthcbhnggphdflaaGreatDoor
open Go.RowKit
theorem mul_at (a0 a1 a2 a3 a4 a5 a6 a7 b0 b1 b2 b3 b4 b5 b6 b7 c0 c1 c2 c3 c4 c5 c6 c7:Int) (g:Nat) (w:World) (hg:OwnU w g 26 #[I a0,I a1,I a2,I a3,I a4,I a5,I a6,I a7,I b0,I b1,I b2,I b3,I b4,I b5,I b6,I b7]) (h:mulL [a0,a1,a2,a3,a4,a5,a6,a7,b0,b1,b2,b3,b4,b5,b6,b7]=[c0,c1,c2,c3,c4,c5,c6,c7]) (he:Dm.mulErr (X2 [a0,a1,a2,a3,a4,a5,a6,a7,b0,b1,b2,b3,b4,b5,b6,b7]) 2=0) :
  Calls Tryz.prog 17 #[.slice (some ⟨g,0,none⟩) 2 2] w fun r w'=>r=.returned (.tuple #[.agg #[I c0,I c1,I c2,I c3,I c4,I c5,I c6,I c7],I 0])∧Below w.heap.size w w':=by
 have hd:Dm.Dims w g 0 2 (X2 [a0,a1,a2,a3,a4,a5,a6,a7,b0,b1,b2,b3,b4,b5,b6,b7]):=by
  refine⟨hg.lt,fun i hi j hj=>?_⟩
  have h:=hg.ub.c (0+i*8+j)
  refine h _ ?_
  rcases(by omega:i=0∨i=1)with rfl|rfl<;>rcases(by omega:j=0∨j=1∨j=2∨j=3∨j=4∨j=5∨j=6∨j=7)with rfl|rfl|rfl|rfl|rfl|rfl|rfl|rfl<;>rfl
 have hh:=Dm.mul_any g 0 2 2 (X2 [a0,a1,a2,a3,a4,a5,a6,a7,b0,b1,b2,b3,b4,b5,b6,b7]) w (by decide) hd
 rw[he]at hh
 unfold mulL at h
 simp only[List.cons.injEq,and_true]at h
 obtain⟨rfl,rfl,rfl,rfl,rfl,rfl,rfl,rfl⟩:=h
 exact hh
end Go.Proofs.YthcbhnggphdflaaGreatDoor

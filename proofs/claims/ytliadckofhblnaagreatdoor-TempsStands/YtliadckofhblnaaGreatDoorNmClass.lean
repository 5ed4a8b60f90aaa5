/- The classes of runes: names.folded, isLetter, lowered, isRaised, isSign, Class; the document's own fold and Class. -/
import Derived.Test.YtliadckofhblnaaGreatDoorLimb3
import Derived.Test.YtliadckofhblnaaGreatDoorNtSum
import Derived.Test.YtliadckofhblnaaGreatDoorTmFind
import Derived.Test.YtliadckofhblnaaGreatDoorFindS
import Derived.Test.YtliadckofhblnaaGreatDoorReads2
import Derived.Test.YtliadckofhblnaaGreatDoorProg
import Derived.WalkKit
import Derived.WalkSpells
import Derived.WalkLawsBesides
import Derived.Handy
import Derived.WalkSmall
import Derived.Deep.Cut
set_option maxHeartbeats 4000000
set_option maxRecDepth 100000
namespace Go.Proofs.YtliadckofhblnaaGreatDoor.Tm
open Go.RowKit
structure TK (w W:World) (rw am:Array Value) (g:Nat):Prop where
 a:zAc W w.heap.size 69 rw
 o:zAc W (w.heap.size+1) 26 dimK
 r:zAc W (w.heap.size+1+1) 30 z15
 x:zAc W g 138 am
 b:Below w.heap.size w W
 n:w.heap.size+1+1<g
theorem TK.later {w W V:World} {rw am:Array Value} {g:Nat} (h:TK w W rw am g) (hb:Below W.heap.size W V):TK w V rw am g:=⟨h.a.later hb,h.o.later hb,h.r.later hb,h.x.later hb,h.b.trans (hb.mono h.b.size),h.n⟩
theorem info138:(Tryz.prog.info? 138).map (·.size)=some 4:=by kernel_rfl
abbrev z4:Array Value:=#[I 0,I 0,I 0,I 0]
theorem told44 (a b c d:Int) (f:Nat) (nm sy fn fd on od:ByteArray) (w:World)
  (hcf:∀W,(callFunc f #[]).run Tryz.prog W=.ok (.enter f #[]) W) (hma:MadeS f a b c d)
  (hfa:∀W,Below w.heap.size w W→Calls Tryz.prog 109 #[.agg #[I a,I b]] W fun r w'=>r=.returned (.agg #[.string fn,.string fd])∧Bw W w')
  (hof:∀W,Below w.heap.size w W→Calls Tryz.prog 109 #[.agg #[I c,I d]] W fun r w'=>r=.returned (.agg #[.string on,.string od])∧Bw W w') :
  Calls Tryz.prog 44 #[.agg #[.string nm,.string sy,.func (.func f) #[] #[]],.agg #[I 0,I 0,I 0,I 0,I 1,I 0,I 0,I 0]] w fun r w'=>r=.returned (.agg #[.string nm,.string sy,I 0,I 0,I 0,I 0,I 1,I 0,I 0,I 0,.string fn,.string fd,.string on,.string od,I 0])∧Bw w w':=by
 obtain⟨V,hV⟩:∃V,V=((w.alloc (.cells #[.string nm,.string sy,.func (.func f) #[] #[]] 69)).alloc (.cells #[I 0,I 0,I 0,I 0,I 1,I 0,I 0,I 0] 26)).alloc (.cells z15 30):=⟨_,rfl⟩;have HB0:Hid (Bw w V):=by rw[hV];exact(bA.alloc (by simp) _).alloc (by simp;omega) _
 have HA0:Hid (zAc V w.heap.size 69 #[.string nm,.string sy,.func (.func f) #[] #[]]):=by rw[hV];exact((zAc.new _ _ _).alloc _).alloc _
 have HO0:Hid (zAc V (w.heap.size+1) 26 dimK):=by rw[hV];have h:=zAc.new (w.alloc (.cells #[.string nm,.string sy,.func (.func f) #[] #[]] 69)) dimK 26;rw[Dm.size_alloc]at h;exact h.alloc _
 have HR0:Hid (zAc V (w.heap.size+1+1) 30 z15):=by rw[hV];have h:=zAc.new ((w.alloc (.cells #[.string nm,.string sy,.func (.func f) #[] #[]] 69)).alloc (.cells dimK 26)) z15 30;rw[Dm.size_alloc,Dm.size_alloc]at h;exact h
 have HMA:=zAb hma;have HFA:=zAb hfa;have HOF:=zAb hof;have HV:=zAb hV;clear hV hma hfa hof;go_enter Tryz.func44,Tryz.ntmps44
 go_upto_region 1 with fail
 rw[←un HV];clear HV;have c2:V.cell? ⟨w.heap.size,2,none⟩=some (.func (.func f) #[] #[]):=(un HA0).ub.c 2 _ rfl
 go_wp2_with fail
 refine(un HMA _).mono ?_;rintro e w1 ⟨rfl,hb⟩;have HA1:=zAb ((un HA0).later hb);have HO1:=zAb ((un HO0).later hb);have HR1:=zAb ((un HR0).later hb);have HB1:Hid (Bw w w1):=bt HB0 hb;clear hb c2 HA0 HO0 HR0 HB0 hcf HMA
 go_upto_region 2 with (refine zAn 138 4 info138 rfl (.tmp 5) (.tmp 8) rfl w1.heap.size z4 #[I a,I b,I c,I d] rfl rfl rfl rfl (zAc.new _ _ _) (by kernel_rfl) ?_)
 have hb2:Below w1.heap.size w1 ((w1.alloc (.cells z4 138)).setRow w1.heap.size #[I a,I b,I c,I d]):=below_setRow (zBx _ _) (Nat.le_refl _) _;have HT0:Hid (TK w ((w1.alloc (.cells z4 138)).setRow w1.heap.size #[I a,I b,I c,I d]) #[.string nm,.string sy,.func (.func f) #[] #[]] #[I a,I b,I c,I d] w1.heap.size):=⟨(un HA1).later hb2,(un HO1).later hb2,(un HR1).later hb2,(zAc.new _ _ _).setRow _,bt HB1 hb2,(un HR1).lt⟩;clear hb2 HA1 HO1 HR1 HB1;generalize (w1.alloc (.cells z4 138)).setRow w1.heap.size #[I a,I b,I c,I d]=w2 at *
 generalize w1.heap.size=g5 at *
 have HT1:Hid (TK w w2.drew #[.string nm,.string sy,.func (.func f) #[] #[]] #[I a,I b,I c,I d] g5):=(un HT0).later (Below.refl _ _).drew;have HSS:Hid (∀W':World,TK w W' #[.string nm,.string sy,.func (.func f) #[] #[]] #[I a,I b,I c,I d] g5→W'.cell? ⟨w.heap.size,0,none⟩=some (.string nm)∧W'.cell? ⟨w.heap.size,1,none⟩=some (.string sy)∧W'.cell? ⟨w.heap.size+1,0,none⟩=some (I 0)∧W'.cell? ⟨w.heap.size+1,1,none⟩=some (I 0)∧W'.cell? ⟨w.heap.size+1,2,none⟩=some (I 0)∧W'.cell? ⟨w.heap.size+1,3,none⟩=some (I 0)∧W'.cell? ⟨w.heap.size+1,4,none⟩=some (I 1)∧W'.cell? ⟨w.heap.size+1,5,none⟩=some (I 0)∧W'.cell? ⟨w.heap.size+1,6,none⟩=some (I 0)∧W'.cell? ⟨w.heap.size+1,7,none⟩=some (I 0)∧W'.cell? ⟨g5,0,none⟩=some (I a)∧W'.cell? ⟨g5,1,none⟩=some (I b)∧W'.cell? ⟨g5,2,none⟩=some (I c)∧W'.cell? ⟨g5,3,none⟩=some (I d)):=fun W' h=>⟨h.a.ub.c 0 _ rfl,h.a.ub.c 1 _ rfl,h.o.ub.c 0 _ rfl,h.o.ub.c 1 _ rfl,h.o.ub.c 2 _ rfl,h.o.ub.c 3 _ rfl,h.o.ub.c 4 _ rfl,h.o.ub.c 5 _ rfl,h.o.ub.c 6 _ rfl,h.o.ub.c 7 _ rfl,h.x.ub.c 0 _ rfl,h.x.ub.c 1 _ rfl,h.x.ub.c 2 _ rfl,h.x.ub.c 3 _ rfl⟩
 have HS0:=zAb (un HSS _ (un HT1));clear HT0;refine zAi 12 (fun _=>True) (fun W'=>W'.cell? ⟨w.heap.size,0,none⟩=some (.string nm)∧W'.cell? ⟨w.heap.size,1,none⟩=some (.string sy)∧W'.cell? ⟨w.heap.size+1,0,none⟩=some (I 0)∧W'.cell? ⟨w.heap.size+1,1,none⟩=some (I 0)∧W'.cell? ⟨w.heap.size+1,2,none⟩=some (I 0)∧W'.cell? ⟨w.heap.size+1,3,none⟩=some (I 0)∧W'.cell? ⟨w.heap.size+1,4,none⟩=some (I 1)∧W'.cell? ⟨w.heap.size+1,5,none⟩=some (I 0)∧W'.cell? ⟨w.heap.size+1,6,none⟩=some (I 0)∧W'.cell? ⟨w.heap.size+1,7,none⟩=some (I 0)∧W'.cell? ⟨g5,0,none⟩=some (I a)∧W'.cell? ⟨g5,1,none⟩=some (I b)∧W'.cell? ⟨g5,2,none⟩=some (I c)∧W'.cell? ⟨g5,3,none⟩=some (I d)) 13 rfl (by kernel_rfl) ?_;generalize w2.drew=U1 at *
 refine wT7 0 (.pointer (some ⟨w.heap.size,0,none⟩)) rfl (Or.inl ⟨by rfl,?_⟩) ⟨trivial,un HS0⟩ ?_
 ·intro W' hW
  go_split_ands
  go_simp
 refine wT7 1 (.string nm) rfl (Or.inl ⟨by rfl,?_⟩) ⟨trivial,un HS0⟩ ?_
 ·intro W' hW
  go_split_ands
  go_simp
 refine wT7 2 (.pointer (some ⟨w.heap.size,1,none⟩)) rfl (Or.inl ⟨by rfl,?_⟩) ⟨trivial,un HS0⟩ ?_
 ·intro W' hW
  go_split_ands
  go_simp
 refine wT7 3 (.string sy) rfl (Or.inl ⟨by rfl,?_⟩) ⟨trivial,un HS0⟩ ?_
 ·intro W' hW
  go_split_ands
  go_simp
 refine wT7 4 (.agg #[I 0,I 0,I 0,I 0,I 1,I 0,I 0,I 0]) rfl (Or.inl ⟨by rfl,?_⟩) ⟨trivial,un HS0⟩ ?_
 ·intro W' hW
  go_split_ands
  go_simp
 refine wT7 5 (.pointer (some ⟨g5,0,none⟩)) rfl (Or.inl ⟨by rfl,?_⟩) ⟨trivial,un HS0⟩ ?_
 ·intro W' hW
  go_split_ands
  go_simp
 refine wT7 6 (.agg #[I a,I b]) rfl (Or.inl ⟨by rfl,?_⟩) ⟨trivial,un HS0⟩ ?_
 ·intro W' hW
  go_split_ands
  go_simp
 refine wT7 8 (.pointer (some ⟨g5,2,none⟩)) rfl (Or.inl ⟨by rfl,?_⟩) ⟨trivial,un HS0⟩ ?_
 ·intro W' hW
  go_split_ands
  go_simp
 refine wT7 9 (.agg #[I c,I d]) rfl (Or.inl ⟨by rfl,?_⟩) ⟨trivial,un HS0⟩ ?_
 ·intro W' hW
  go_split_ands
  go_simp
 refine wO 7 rfl rfl (fun K hK=>?_)
 go_simp
 refine(un HFA _ (un HT1).b).mono ?_;rintro e U2 ⟨rfl,hb⟩;have HT2:=zAb ((un HT1).later hb);clear hb HT1;refine hK _ _ ⟨trivial,un HSS _ (un HT2)⟩ ?_;clear hK K;refine wO 10 rfl rfl (fun K hK=>?_)
 go_simp
 refine(un HOF _ (un HT2).b).mono ?_;rintro e U3 ⟨rfl,hb⟩;have HT3:=zAb ((un HT2).later hb);clear hb HT2;refine hK _ _ ⟨trivial,un HSS _ (un HT3)⟩ ?_;clear hK K;refine wO 11 rfl rfl (fun K hK=>?_)
 go_simp
 refine hK _ _ ⟨trivial,un HSS _ (un HT3)⟩ ?_;clear hK K
 have HT5:Hid ((U3.setRow (w.heap.size+1+1) #[.string nm,.string sy,I 0,I 0,I 0,I 0,I 1,I 0,I 0,I 0,.string fn,.string fd,.string on,.string od,I 0]).cell? ⟨w.heap.size,0,none⟩=some (.string nm)∧(U3.setRow (w.heap.size+1+1) #[.string nm,.string sy,I 0,I 0,I 0,I 0,I 1,I 0,I 0,I 0,.string fn,.string fd,.string on,.string od,I 0]).cell? ⟨w.heap.size,1,none⟩=some (.string sy)∧(U3.setRow (w.heap.size+1+1) #[.string nm,.string sy,I 0,I 0,I 0,I 0,I 1,I 0,I 0,I 0,.string fn,.string fd,.string on,.string od,I 0]).cell? ⟨w.heap.size+1,0,none⟩=some (I 0)∧(U3.setRow (w.heap.size+1+1) #[.string nm,.string sy,I 0,I 0,I 0,I 0,I 1,I 0,I 0,I 0,.string fn,.string fd,.string on,.string od,I 0]).cell? ⟨w.heap.size+1,1,none⟩=some (I 0)∧(U3.setRow (w.heap.size+1+1) #[.string nm,.string sy,I 0,I 0,I 0,I 0,I 1,I 0,I 0,I 0,.string fn,.string fd,.string on,.string od,I 0]).cell? ⟨w.heap.size+1,2,none⟩=some (I 0)∧(U3.setRow (w.heap.size+1+1) #[.string nm,.string sy,I 0,I 0,I 0,I 0,I 1,I 0,I 0,I 0,.string fn,.string fd,.string on,.string od,I 0]).cell? ⟨w.heap.size+1,3,none⟩=some (I 0)∧(U3.setRow (w.heap.size+1+1) #[.string nm,.string sy,I 0,I 0,I 0,I 0,I 1,I 0,I 0,I 0,.string fn,.string fd,.string on,.string od,I 0]).cell? ⟨w.heap.size+1,4,none⟩=some (I 1)∧(U3.setRow (w.heap.size+1+1) #[.string nm,.string sy,I 0,I 0,I 0,I 0,I 1,I 0,I 0,I 0,.string fn,.string fd,.string on,.string od,I 0]).cell? ⟨w.heap.size+1,5,none⟩=some (I 0)∧(U3.setRow (w.heap.size+1+1) #[.string nm,.string sy,I 0,I 0,I 0,I 0,I 1,I 0,I 0,I 0,.string fn,.string fd,.string on,.string od,I 0]).cell? ⟨w.heap.size+1,6,none⟩=some (I 0)∧(U3.setRow (w.heap.size+1+1) #[.string nm,.string sy,I 0,I 0,I 0,I 0,I 1,I 0,I 0,I 0,.string fn,.string fd,.string on,.string od,I 0]).cell? ⟨w.heap.size+1,7,none⟩=some (I 0)∧(U3.setRow (w.heap.size+1+1) #[.string nm,.string sy,I 0,I 0,I 0,I 0,I 1,I 0,I 0,I 0,.string fn,.string fd,.string on,.string od,I 0]).cell? ⟨g5,0,none⟩=some (I a)∧(U3.setRow (w.heap.size+1+1) #[.string nm,.string sy,I 0,I 0,I 0,I 0,I 1,I 0,I 0,I 0,.string fn,.string fd,.string on,.string od,I 0]).cell? ⟨g5,1,none⟩=some (I b)∧(U3.setRow (w.heap.size+1+1) #[.string nm,.string sy,I 0,I 0,I 0,I 0,I 1,I 0,I 0,I 0,.string fn,.string fd,.string on,.string od,I 0]).cell? ⟨g5,2,none⟩=some (I c)∧(U3.setRow (w.heap.size+1+1) #[.string nm,.string sy,I 0,I 0,I 0,I 0,I 1,I 0,I 0,I 0,.string fn,.string fd,.string on,.string od,I 0]).cell? ⟨g5,3,none⟩=some (I d)):=by
  have h:=un HT3;have hn:=h.n;have ha:=h.a.otherRow (us:=#[.string nm,.string sy,I 0,I 0,I 0,I 0,I 1,I 0,I 0,I 0,.string fn,.string fd,.string on,.string od,I 0]) (show ¬w.heap.size+1+1=w.heap.size by omega);have ho:=h.o.otherRow (us:=#[.string nm,.string sy,I 0,I 0,I 0,I 0,I 1,I 0,I 0,I 0,.string fn,.string fd,.string on,.string od,I 0]) (show ¬w.heap.size+1+1=w.heap.size+1 by omega);have hx:=h.x.otherRow (us:=#[.string nm,.string sy,I 0,I 0,I 0,I 0,I 1,I 0,I 0,I 0,.string fn,.string fd,.string on,.string od,I 0]) (show ¬w.heap.size+1+1=g5 by omega);exact⟨ha.ub.c 0 _ rfl,ha.ub.c 1 _ rfl,ho.ub.c 0 _ rfl,ho.ub.c 1 _ rfl,ho.ub.c 2 _ rfl,ho.ub.c 3 _ rfl,ho.ub.c 4 _ rfl,ho.ub.c 5 _ rfl,ho.ub.c 6 _ rfl,ho.ub.c 7 _ rfl,hx.ub.c 0 _ rfl,hx.ub.c 1 _ rfl,hx.ub.c 2 _ rfl,hx.ub.c 3 _ rfl⟩
 refine wL 12 rfl rfl (fun K hK=>?_);refine wp_store_row 30 (.tmp 4) (.tmp 20) rfl (w.heap.size+1+1) #[.string nm,.string sy,I 0,I 0,I 0,I 0,I 1,I 0,I 0,I 0,.string fn,.string fd,.string on,.string od,I 0] (by kernel_rfl) (by kernel_rfl) 30 _ (un HT3).r (by rw[zEd];rfl) rfl (by kernel_rfl) (hK _ _ (un HT5) ?_);clear hK K;refine wDn ?_
 go_wp2_with fail
 exact bodyPost_ret (v:=.agg #[.string nm,.string sy,I 0,I 0,I 0,I 0,I 1,I 0,I 0,I 0,.string fn,.string fd,.string on,.string od,I 0]) (res30 Tryz.results44 _ _ (w.heap.size+1+1) _ rfl rfl ((un HT3).r.setRow _)) rfl ⟨rfl,below_setRow (un HT3).b (by omega) _⟩
end Go.Proofs.YtliadckofhblnaaGreatDoor.Tm
namespace Go.Proofs.YtliadckofhblnaaGreatDoor
open Go.RowKit
theorem zBj (n d:ByteArray) (x:Rat) (sg:Int) (hsg:Cub.cmpQ x 0=sg) (w:World) (hx:IsR n d x):Calls Tryz.prog 206 #[.agg #[.string n,.string d]] w fun r w'=>r=.returned (.tuple #[I sg,I 0])∧Bw w w':=by
 obtain⟨V,hV⟩:∃V,V=w.alloc (.cells #[.string n,.string d] 28):=⟨_,rfl⟩;have HN:Hid (T2 V w.heap.size (.string n) (.string d)):=by rw[hV];exact⟨by simp[go_sem],by simp[go_sem],by simp[go_sem],by simp[go_sem]⟩
 have HB:Hid (Bw w V):=by rw[hV];exact bA
 have HV:=zAb hV;have HRD:=zAb (fun W=>qread n d x W hx);have HSG:=zAb hsg;clear hV hx hsg;go_enter Tryz.func206,Tryz.ntmps206
 go_upto_region 1 with fail
 rw[←un HV];clear HV;have t0:=(un HN).c0;have t1:=(un HN).c1
 go_upto_region 2 with (go_at_call 118;go_must(refine(un HRD _).mono ?_;rintro e w1 ⟨v1,rfl,hv1,hb1⟩;obtain⟨bz,az,lz,cz,dz,mz,ez,rfl⟩:=hv1.form;have HZ1:=zAb hv1;have HB1:=zAb (bt HB hb1);clear hv1 hb1 t0 t1))
 have hal:Below w1.heap.size w1 (w1.alloc (.cells #[.bool bz,.slice az lz cz,.slice dz mz ez] 82)):=bA;have HX:Hid (zAc (w1.alloc (.cells #[.bool bz,.slice az lz cz,.slice dz mz ez] 82)) w1.heap.size 82 #[.bool bz,.slice az lz cz,.slice dz mz ez]):=zAc.new _ _ _;have HZ2:=zAb ((un HZ1).later hal);have HB2:=zAb (bt HB1 hal);clear hal HZ1 HB1;generalize w1.alloc (.cells #[.bool bz,.slice az lz cz,.slice dz mz ez] 82)=V2 at *
 generalize w1.heap.size=g4 at *
 have z0:V2.cell? ⟨g4,0,none⟩=some (.bool bz):=(un HX).ub.c 0 _ rfl;have z1:V2.cell? ⟨g4,1,none⟩=some (.slice az lz cz):=(un HX).ub.c 1 _ rfl;have z2:V2.cell? ⟨g4,2,none⟩=some (.slice dz mz ez):=(un HX).ub.c 2 _ rfl;have HSI:=zAb (qsign _ _ _ V2 (un HZ2));rw[un HSG]at HSI
 go_wp2_with (go_at_call 68;go_must(refine(un HSI).mono ?_;rintro e w3 ⟨rfl,hb3⟩;have HB3:=zAb (bt HB2 hb3);clear hb3))
 go_ret2
 exact⟨rfl,un HB3⟩
theorem zBd (n d:ByteArray) (x:Rat) (w:World) (hx:IsR n d x):Calls Tryz.prog 172 #[.agg #[.string n,.string d]] w fun r w'=>r=.returned (.bool true)∧Bw w w':=by
 obtain⟨V,hV⟩:∃V,V=w.alloc (.cells #[.string n,.string d] 28):=⟨_,rfl⟩;have HN:Hid (T2 V w.heap.size (.string n) (.string d)):=by rw[hV];exact⟨by simp[go_sem],by simp[go_sem],by simp[go_sem],by simp[go_sem]⟩
 have HB:Hid (Bw w V):=by rw[hV];exact bA
 have HV:=zAb hV;have HRD:=zAb (fun W=>qread n d x W hx)
 skip
 clear hV hx;go_enter Tryz.func172,Tryz.ntmps172
 go_upto_region 1 with fail
 rw[←un HV];clear HV;have t0:=(un HN).c0;have t1:=(un HN).c1
 go_upto_region 2 with (go_at_call 118;go_must(refine(un HRD _).mono ?_;rintro e w1 ⟨v1,rfl,hv1,hb1⟩;obtain⟨bz,az,lz,cz,dz,mz,ez,rfl⟩:=hv1.form;have HZ1:=zAb hv1;have HB1:=zAb (bt HB hb1);clear hv1 hb1 t0 t1))
 go_wp2_with fail
 go_ret
 exact⟨rfl,(un HB1).alloc (un HB1).size _⟩
theorem closed_any (g:Nat) (w:World) (h:w.cell? ⟨g,3,none⟩=some (.bool false)):Calls Tryz.prog 168 #[.pointer (some ⟨g,0,none⟩)] w fun r w'=>r=.returned (I 0)∧w'=w:=by
 go_enter Tryz.func168,Tryz.ntmps168
 go_wp2_with fail
 go_ret
 exact⟨rfl,rfl⟩
theorem room_any (n:Int) (w:World) (h:n<512):Calls Tryz.prog 98 #[I n,I 512] w fun r w'=>r=.returned (I 0)∧w'=w:=by
 have h1:¬(512:Int)≤n:=by omega
 go_enter Tryz.func98,Tryz.ntmps98
 go_wp2_with fail
 go_ret
 exact⟨rfl,rfl⟩
theorem above_any (n d:ByteArray) (x:Rat) (w:World) (hx:IsR n d x) (h0:Cub.cmpQ x 0=1):Calls Tryz.prog 171 #[.agg #[.string n,.string d]] w fun r w'=>r=.returned (.bool true)∧Bw w w':=by
 have HS:Hid (∀W,Calls Tryz.prog 206 #[.agg #[.string n,.string d]] W fun r w'=>r=.returned (.tuple #[I 1,I 0])∧Bw W w'):=fun W=>zBj n d x 1 h0 W hx
 clear hx h0;go_enter Tryz.func171,Tryz.ntmps171
 go_wp2_with (go_at_call 206;go_must(refine(un HS _).mono ?_;rintro e w1 ⟨rfl,hb⟩;have HB:=zAb hb;clear hb))
 go_ret
 exact⟨rfl,bA.trans ((un HB).mono (by simp))⟩
end Go.Proofs.YtliadckofhblnaaGreatDoor
namespace Go.Proofs.YtliadckofhblnaaGreatDoor.Nm
open Go.RowKit
theorem zAb {p:Prop} (h:p):Hid p:=h
theorem un {p:Prop} (h:Hid p):p:=h
def foldR (r:Int):Int:=if r=181 then 956 else if r=8486 then 937 else if r=8491 then 197 else if r=8490 then 75 else if r=8242 then 39 else if r=8217 then 39 else if r=8243 then 34 else r
def zBk (r:Int):Prop:=r=95∨r=197∨r=198∨r=216∨r=229∨r=230∨r=248∨(r≠930∧((65≤r∧r≤90)∨(97≤r∧r≤122)∨(913≤r∧r≤937)∨(945≤r∧r≤969)))
def zFf (r:Int):Prop:=r=8304∨r=185∨r=178∨r=179∨r=8308∨r=8309∨r=8310∨r=8311∨r=8312∨r=8313∨r=8314∨r=8315
def signP (r:Int):Prop:=r=37∨r=39∨r=34∨r=176∨r=8240∨r=8451∨r=8457
instance (r:Int):Decidable (zBk r):=by unfold zBk;infer_instance
instance (r:Int):Decidable (zFf r):=by unfold zFf;infer_instance
instance (r:Int):Decidable (signP r):=by unfold signP;infer_instance
def classF (r:Int):Int:=if zBk r then 1 else if 48≤r∧r≤57 then 2 else if zFf r then 3 else if signP r then 4 else 0
def zCj (r:Int):Int:=classF (foldR r)
theorem folded_any (r:Int) (w:World):Calls Tryz.prog 363 #[.int .i32 r] w fun e w'=>e=.returned (.int .i32 (foldR r))∧w'=w:=by
 by_cases h181:r=181
 ·subst h181
  go_enter Tryz.func363,Tryz.ntmps363
  go_wp2
  go_ret
  exact⟨rfl,rfl⟩
 by_cases h8486:r=8486
 ·subst h8486
  go_enter Tryz.func363,Tryz.ntmps363
  go_wp2
  go_ret
  exact⟨rfl,rfl⟩
 by_cases h8491:r=8491
 ·subst h8491
  go_enter Tryz.func363,Tryz.ntmps363
  go_wp2
  go_ret
  exact⟨rfl,rfl⟩
 by_cases h8490:r=8490
 ·subst h8490
  go_enter Tryz.func363,Tryz.ntmps363
  go_wp2
  go_ret
  exact⟨rfl,rfl⟩
 by_cases h8242:r=8242
 ·subst h8242
  go_enter Tryz.func363,Tryz.ntmps363
  go_wp2
  go_ret
  exact⟨rfl,rfl⟩
 by_cases h8217:r=8217
 ·subst h8217
  go_enter Tryz.func363,Tryz.ntmps363
  go_wp2
  go_ret
  exact⟨rfl,rfl⟩
 by_cases h8243:r=8243
 ·subst h8243
  go_enter Tryz.func363,Tryz.ntmps363
  go_wp2
  go_ret
  exact⟨rfl,rfl⟩
 have hf:foldR r=r:=by unfold foldR;rw[if_neg h181,if_neg h8486,if_neg h8491,if_neg h8490,if_neg h8242,if_neg h8217,if_neg h8243]
 rw[hf];clear hf;have e181:(r == 181)=false:=by rw[beq_eq_false_iff_ne];exact h181
 have e8486:(r == 8486)=false:=by rw[beq_eq_false_iff_ne];exact h8486
 have e8491:(r == 8491)=false:=by rw[beq_eq_false_iff_ne];exact h8491
 have e8490:(r == 8490)=false:=by rw[beq_eq_false_iff_ne];exact h8490
 have e8242:(r == 8242)=false:=by rw[beq_eq_false_iff_ne];exact h8242
 have e8217:(r == 8217)=false:=by rw[beq_eq_false_iff_ne];exact h8217
 have e8243:(r == 8243)=false:=by rw[beq_eq_false_iff_ne];exact h8243
 clear h181 h8486 h8491 h8490 h8242 h8217 h8243;go_enter Tryz.func363,Tryz.ntmps363
 go_wp2
 go_ret
 exact⟨rfl,rfl⟩
theorem isLetter_any (r:Int) (w:World):Calls Tryz.prog 373 #[.int .i32 r] w fun e w'=>e=.returned (.bool (decide (zBk r)))∧w'=w:=by
 by_cases h95:r=95
 ·subst h95
  go_enter Tryz.func373,Tryz.ntmps373
  go_wp2
  go_ret
  exact⟨by rfl,rfl⟩
 by_cases h197:r=197
 ·subst h197
  go_enter Tryz.func373,Tryz.ntmps373
  go_wp2
  go_ret
  exact⟨by rfl,rfl⟩
 by_cases h198:r=198
 ·subst h198
  go_enter Tryz.func373,Tryz.ntmps373
  go_wp2
  go_ret
  exact⟨by rfl,rfl⟩
 by_cases h216:r=216
 ·subst h216
  go_enter Tryz.func373,Tryz.ntmps373
  go_wp2
  go_ret
  exact⟨by rfl,rfl⟩
 by_cases h229:r=229
 ·subst h229
  go_enter Tryz.func373,Tryz.ntmps373
  go_wp2
  go_ret
  exact⟨by rfl,rfl⟩
 by_cases h230:r=230
 ·subst h230
  go_enter Tryz.func373,Tryz.ntmps373
  go_wp2
  go_ret
  exact⟨by rfl,rfl⟩
 by_cases h248:r=248
 ·subst h248
  go_enter Tryz.func373,Tryz.ntmps373
  go_wp2
  go_ret
  exact⟨by rfl,rfl⟩
 by_cases h930:r=930
 ·subst h930
  go_enter Tryz.func373,Tryz.ntmps373
  go_wp2
  go_ret
  exact⟨by rfl,rfl⟩
 have e95:(r == 95)=false:=by rw[beq_eq_false_iff_ne];exact h95
 have e197:(r == 197)=false:=by rw[beq_eq_false_iff_ne];exact h197
 have e198:(r == 198)=false:=by rw[beq_eq_false_iff_ne];exact h198
 have e216:(r == 216)=false:=by rw[beq_eq_false_iff_ne];exact h216
 have e229:(r == 229)=false:=by rw[beq_eq_false_iff_ne];exact h229
 have e230:(r == 230)=false:=by rw[beq_eq_false_iff_ne];exact h230
 have e248:(r == 248)=false:=by rw[beq_eq_false_iff_ne];exact h248
 have e930:(r == 930)=false:=by rw[beq_eq_false_iff_ne];exact h930
 rcases(by omega:r≤64∨(65≤r∧r≤90)∨(91≤r∧r≤96)∨(97≤r∧r≤122)∨(123≤r∧r≤912)∨(913≤r∧r≤937)∨(938≤r∧r≤944)∨(945≤r∧r≤969)∨970≤r)with hi|⟨hi,hj⟩|⟨hi,hj⟩|⟨hi,hj⟩|⟨hi,hj⟩|⟨hi,hj⟩|⟨hi,hj⟩|⟨hi,hj⟩|hi
 ·have hv:decide (zBk r)=false:=by rw[decide_eq_false_iff_not];unfold zBk;omega
  rw[hv];clear hv h95 h197 h198 h216 h229 h230 h248 h930;go_enter Tryz.func373,Tryz.ntmps373
  go_wp2
  go_ret
  exact⟨rfl,rfl⟩
 ·have hv:decide (zBk r)=true:=by rw[decide_eq_true_iff];unfold zBk;omega
  rw[hv];clear hv h95 h197 h198 h216 h229 h230 h248 h930;go_enter Tryz.func373,Tryz.ntmps373
  go_wp2
  go_ret
  exact⟨rfl,rfl⟩
 ·have hv:decide (zBk r)=false:=by rw[decide_eq_false_iff_not];unfold zBk;omega
  rw[hv];have d90:decide (r≤90)=false:=by rw[decide_eq_false_iff_not];omega
  clear hv h95 h197 h198 h216 h229 h230 h248 h930;go_enter Tryz.func373,Tryz.ntmps373
  go_wp2
  go_ret
  exact⟨rfl,rfl⟩
 ·have hv:decide (zBk r)=true:=by rw[decide_eq_true_iff];unfold zBk;omega
  rw[hv];have d90:decide (r≤90)=false:=by rw[decide_eq_false_iff_not];omega
  clear hv h95 h197 h198 h216 h229 h230 h248 h930;go_enter Tryz.func373,Tryz.ntmps373
  go_wp2
  go_ret
  exact⟨rfl,rfl⟩
 ·have hv:decide (zBk r)=false:=by rw[decide_eq_false_iff_not];unfold zBk;omega
  rw[hv];have d90:decide (r≤90)=false:=by rw[decide_eq_false_iff_not];omega
  have d122:decide (r≤122)=false:=by rw[decide_eq_false_iff_not];omega
  clear hv h95 h197 h198 h216 h229 h230 h248 h930;go_enter Tryz.func373,Tryz.ntmps373
  go_wp2
  go_ret
  exact⟨rfl,rfl⟩
 ·have hv:decide (zBk r)=true:=by rw[decide_eq_true_iff];unfold zBk;omega
  rw[hv];have d90:decide (r≤90)=false:=by rw[decide_eq_false_iff_not];omega
  have d122:decide (r≤122)=false:=by rw[decide_eq_false_iff_not];omega
  clear hv h95 h197 h198 h216 h229 h230 h248 h930;go_enter Tryz.func373,Tryz.ntmps373
  go_wp2
  go_ret
  exact⟨rfl,rfl⟩
 ·have hv:decide (zBk r)=false:=by rw[decide_eq_false_iff_not];unfold zBk;omega
  rw[hv];have d90:decide (r≤90)=false:=by rw[decide_eq_false_iff_not];omega
  have d122:decide (r≤122)=false:=by rw[decide_eq_false_iff_not];omega
  have d937:decide (r≤937)=false:=by rw[decide_eq_false_iff_not];omega
  clear hv h95 h197 h198 h216 h229 h230 h248 h930;go_enter Tryz.func373,Tryz.ntmps373
  go_wp2
  go_ret
  exact⟨rfl,rfl⟩
 ·have hv:decide (zBk r)=true:=by rw[decide_eq_true_iff];unfold zBk;omega
  rw[hv];have d90:decide (r≤90)=false:=by rw[decide_eq_false_iff_not];omega
  have d122:decide (r≤122)=false:=by rw[decide_eq_false_iff_not];omega
  have d937:decide (r≤937)=false:=by rw[decide_eq_false_iff_not];omega
  clear hv h95 h197 h198 h216 h229 h230 h248 h930;go_enter Tryz.func373,Tryz.ntmps373
  go_wp2
  go_ret
  exact⟨rfl,rfl⟩
 ·have hv:decide (zBk r)=false:=by rw[decide_eq_false_iff_not];unfold zBk;omega
  rw[hv];have d90:decide (r≤90)=false:=by rw[decide_eq_false_iff_not];omega
  have d122:decide (r≤122)=false:=by rw[decide_eq_false_iff_not];omega
  have d937:decide (r≤937)=false:=by rw[decide_eq_false_iff_not];omega
  have d969:decide (r≤969)=false:=by rw[decide_eq_false_iff_not];omega
  clear hv h95 h197 h198 h216 h229 h230 h248 h930;go_enter Tryz.func373,Tryz.ntmps373
  go_wp2
  go_ret
  exact⟨rfl,rfl⟩
theorem isSign_any (r:Int) (w:World):Calls Tryz.prog 375 #[.int .i32 r] w fun e w'=>e=.returned (.bool (decide (signP r)))∧w'=w:=by
 by_cases h37:r=37
 ·subst h37
  go_enter Tryz.func375,Tryz.ntmps375
  go_wp2
  go_ret
  exact⟨by rfl,rfl⟩
 by_cases h39:r=39
 ·subst h39
  go_enter Tryz.func375,Tryz.ntmps375
  go_wp2
  go_ret
  exact⟨by rfl,rfl⟩
 by_cases h34:r=34
 ·subst h34
  go_enter Tryz.func375,Tryz.ntmps375
  go_wp2
  go_ret
  exact⟨by rfl,rfl⟩
 by_cases h176:r=176
 ·subst h176
  go_enter Tryz.func375,Tryz.ntmps375
  go_wp2
  go_ret
  exact⟨by rfl,rfl⟩
 by_cases h8240:r=8240
 ·subst h8240
  go_enter Tryz.func375,Tryz.ntmps375
  go_wp2
  go_ret
  exact⟨by rfl,rfl⟩
 by_cases h8451:r=8451
 ·subst h8451
  go_enter Tryz.func375,Tryz.ntmps375
  go_wp2
  go_ret
  exact⟨by rfl,rfl⟩
 by_cases h8457:r=8457
 ·subst h8457
  go_enter Tryz.func375,Tryz.ntmps375
  go_wp2
  go_ret
  exact⟨by rfl,rfl⟩
 have hv:decide (signP r)=false:=by rw[decide_eq_false_iff_not];unfold signP;omega
 rw[hv];have e37:(r == 37)=false:=by rw[beq_eq_false_iff_ne];exact h37
 have e39:(r == 39)=false:=by rw[beq_eq_false_iff_ne];exact h39
 have e34:(r == 34)=false:=by rw[beq_eq_false_iff_ne];exact h34
 have e176:(r == 176)=false:=by rw[beq_eq_false_iff_ne];exact h176
 have e8240:(r == 8240)=false:=by rw[beq_eq_false_iff_ne];exact h8240
 have e8451:(r == 8451)=false:=by rw[beq_eq_false_iff_ne];exact h8451
 have e8457:(r == 8457)=false:=by rw[beq_eq_false_iff_ne];exact h8457
 clear hv h37 h39 h34 h176 h8240 h8451 h8457;go_enter Tryz.func375,Tryz.ntmps375
 go_wp2
 go_ret
 exact⟨rfl,rfl⟩
end Go.Proofs.YtliadckofhblnaaGreatDoor.Nm

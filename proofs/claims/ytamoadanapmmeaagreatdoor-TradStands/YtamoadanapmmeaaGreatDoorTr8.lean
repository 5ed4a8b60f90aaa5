/- The units of old as a table; what told answers of each. -/
import Derived.Test.YtamoadanapmmeaaGreatDoorLimb3
import Derived.Test.YtamoadanapmmeaaGreatDoorTr6
import Derived.Test.YtamoadanapmmeaaGreatDoorTr4
namespace Go.Proofs.YtamoadanapmmeaaGreatDoor.Tr
open Go.RowKit
structure TL (w W:World) (rw pl am:Array Value) (g:Nat):Prop where
 a:OwnU W w.heap.size 58 rw
 o:OwnU W (w.heap.size+1) 52 pl
 r:OwnU W (w.heap.size+1+1) 30 z15
 x:OwnU W g 127 am
 b:Below w.heap.size w W
 n:w.heap.size+1+1<g
theorem TL.later {w W V:World} {rw pl am:Array Value} {g:Nat} (h:TL w W rw pl am g) (hb:Below W.heap.size W V):TL w V rw pl am g:=⟨h.a.later hb,h.o.later hb,h.r.later hb,h.x.later hb,h.b.trans (hb.mono h.b.size),h.n⟩
set_option maxRecDepth 100000 in
set_option maxHeartbeats 4000000 in
theorem toldT (ev dv:Nat→Int) (n d:Int) (f:Nat) (nm sy fn fd:ByteArray) (pa:Array Value) (w:World) (hpz:pa.size=75)
  (hcf:∀W,(callFunc f #[]).run Tryz.prog W=.ok (.enter f #[]) W)
  (hma:∀W,Calls Tryz.prog f #[] W fun r w'=>r=.returned (.agg #[I (ev 0),I (ev 1),I (ev 2),I (ev 3),I (ev 4),I n,I d])∧Below W.heap.size W w')
  (hdi:∀W,Below w.heap.size w W→Calls Tryz.prog 101 #[.agg #[I (ev 0),I (ev 1),I (ev 2),I (ev 3),I (ev 4),I n,I d],.agg pa] W fun r w'=>r=.returned (.agg #[I (dv 0),I (dv 1),I (dv 2),I (dv 3),I (dv 4),I (dv 5),I (dv 6),I (dv 7)])∧Below W.heap.size W w')
  (hfa:∀W,Below w.heap.size w W→Calls Tryz.prog 102 #[.agg #[I (ev 0),I (ev 1),I (ev 2),I (ev 3),I (ev 4),I n,I d],.agg pa] W fun r w'=>r=.returned (.agg #[.string fn,.string fd])∧Below W.heap.size W w')
  (hze:∀W,Below w.heap.size w W→Calls Tryz.prog 103 #[I 0] W fun r w'=>r=.returned (.agg #[.string ⟨#[48]⟩,.string ⟨#[49]⟩])∧Below W.heap.size W w') :
  Calls Tryz.prog 36 #[.agg #[.string nm,.string sy,.func (.func f) #[] #[]],.agg pa] w fun r w'=>r=.returned (.agg #[.string nm,.string sy,I (dv 0),I (dv 1),I (dv 2),I (dv 3),I (dv 4),I (dv 5),I (dv 6),I (dv 7),.string fn,.string fd,.string ⟨#[48]⟩,.string ⟨#[49]⟩,I 0])∧Below w.heap.size w w':=by
 obtain⟨pL,hpL,HLN⟩:∃pL:List Value,pL.toArray=pa∧Hid (pL.length=75):=⟨pa.toList,by simp,by show _=_;rw[Array.length_toList];exact hpz⟩
 rw[←hpL]at hdi hfa ⊢
 clear hpL hpz
 obtain⟨V,hV⟩:∃V,V=((w.alloc (.cells #[.string nm,.string sy,.func (.func f) #[] #[]] 58)).alloc (.cells pL.toArray 52)).alloc (.cells z15 30):=⟨_,rfl⟩
 have HB0:Hid (Below w.heap.size w V):=by rw[hV];exact(((Below.refl _ _).alloc (Nat.le_refl _) _).alloc (by simp) _).alloc (by simp;omega) _
 have HA0:Hid (OwnU V w.heap.size 58 #[.string nm,.string sy,.func (.func f) #[] #[]]):=by rw[hV];exact((OwnU.new _ _ _).alloc _).alloc _
 have HO0:Hid (OwnU V (w.heap.size+1) 52 pL.toArray):=by rw[hV];have h:=OwnU.new (w.alloc (.cells #[.string nm,.string sy,.func (.func f) #[] #[]] 58)) pL.toArray 52;rw[Dm.size_alloc]at h;exact h.alloc _
 have HR0:Hid (OwnU V (w.heap.size+1+1) 30 z15):=by rw[hV];have h:=OwnU.new ((w.alloc (.cells #[.string nm,.string sy,.func (.func f) #[] #[]] 58)).alloc (.cells pL.toArray 52)) z15 30;rw[Dm.size_alloc,Dm.size_alloc]at h;exact h
 have HMA:=hide hma;have HDI:=hide hdi;have HFA:=hide hfa;have HZE:=hide hze
 have HV:=hide hV
 clear hV hma hdi hfa hze
 go_enter Tryz.func36,Tryz.ntmps36
 go_upto_region 1 with fail
 rw[←un HV]
 clear HV
 have c2:V.cell? ⟨w.heap.size,2,none⟩=some (.func (.func f) #[] #[]):=(un HA0).ub.c 2 _ rfl
 go_wp2_with fail
 refine(un HMA _).mono ?_
 rintro e w1 ⟨rfl,hb⟩
 have HA1:=hide ((un HA0).later hb);have HO1:=hide ((un HO0).later hb);have HR1:=hide ((un HR0).later hb);have HB1:Hid (Below w.heap.size w w1):=(un HB0).trans (hb.mono (un HB0).size)
 clear hb c2 HA0 HO0 HR0 HB0 hcf HMA
 go_upto_region 2 with (refine storeT 127 7 info127 rfl (.tmp 5) (.tmp 8) rfl w1.heap.size z7 #[I (ev 0),I (ev 1),I (ev 2),I (ev 3),I (ev 4),I n,I d] rfl rfl rfl rfl (OwnU.new _ _ _) (by kernel_rfl) ?_)
 have hb2:Below w1.heap.size w1 ((w1.alloc (.cells z7 127)).setRow w1.heap.size #[I (ev 0),I (ev 1),I (ev 2),I (ev 3),I (ev 4),I n,I d]):=below_setRow (albel _ _) (Nat.le_refl _) _
 have HT0:Hid (TL w ((w1.alloc (.cells z7 127)).setRow w1.heap.size #[I (ev 0),I (ev 1),I (ev 2),I (ev 3),I (ev 4),I n,I d]) #[.string nm,.string sy,.func (.func f) #[] #[]] pL.toArray #[I (ev 0),I (ev 1),I (ev 2),I (ev 3),I (ev 4),I n,I d] w1.heap.size):=⟨(un HA1).later hb2,(un HO1).later hb2,(un HR1).later hb2,(OwnU.new _ _ _).setRow _,(un HB1).trans (hb2.mono (un HB1).size),(un HR1).lt⟩
 clear hb2 HA1 HO1 HR1 HB1
 generalize (w1.alloc (.cells z7 127)).setRow w1.heap.size #[I (ev 0),I (ev 1),I (ev 2),I (ev 3),I (ev 4),I n,I d]=w2 at *
 generalize w1.heap.size=g5 at *
 have HT1:Hid (TL w w2.drew #[.string nm,.string sy,.func (.func f) #[] #[]] pL.toArray #[I (ev 0),I (ev 1),I (ev 2),I (ev 3),I (ev 4),I n,I d] g5):=(un HT0).later (Below.refl _ _).drew
 have HSS:Hid (∀W':World,TL w W' #[.string nm,.string sy,.func (.func f) #[] #[]] pL.toArray #[I (ev 0),I (ev 1),I (ev 2),I (ev 3),I (ev 4),I n,I d] g5→W'.cell? ⟨w.heap.size,0,none⟩=some (.string nm)∧W'.cell? ⟨w.heap.size,1,none⟩=some (.string sy)∧W'.cell? ⟨g5,0,none⟩=some (I (ev 0))∧W'.cell? ⟨g5,1,none⟩=some (I (ev 1))∧W'.cell? ⟨g5,2,none⟩=some (I (ev 2))∧W'.cell? ⟨g5,3,none⟩=some (I (ev 3))∧W'.cell? ⟨g5,4,none⟩=some (I (ev 4))∧W'.cell? ⟨g5,5,none⟩=some (I n)∧W'.cell? ⟨g5,6,none⟩=some (I d)∧W'.rangeAt (w.heap.size+1) 0 pL):=fun W' h=>⟨h.a.ub.c 0 _ rfl,h.a.ub.c 1 _ rfl,h.x.ub.c 0 _ rfl,h.x.ub.c 1 _ rfl,h.x.ub.c 2 _ rfl,h.x.ub.c 3 _ rfl,h.x.ub.c 4 _ rfl,h.x.ub.c 5 _ rfl,h.x.ub.c 6 _ rfl,h.o.mid 0 pL (fun j v h=>by simpa using h)⟩
 have HS0:=hide (un HSS _ (un HT1))
 clear HT0
 refine region_reads 12 (fun _=>True) (fun W'=>W'.cell? ⟨w.heap.size,0,none⟩=some (.string nm)∧W'.cell? ⟨w.heap.size,1,none⟩=some (.string sy)∧W'.cell? ⟨g5,0,none⟩=some (I (ev 0))∧W'.cell? ⟨g5,1,none⟩=some (I (ev 1))∧W'.cell? ⟨g5,2,none⟩=some (I (ev 2))∧W'.cell? ⟨g5,3,none⟩=some (I (ev 3))∧W'.cell? ⟨g5,4,none⟩=some (I (ev 4))∧W'.cell? ⟨g5,5,none⟩=some (I n)∧W'.cell? ⟨g5,6,none⟩=some (I d)∧W'.rangeAt (w.heap.size+1) 0 pL) 13 rfl (by kernel_rfl) ?_
 generalize w2.drew=U1 at *
 refine wpR_take7 (i:=0) (oi:=_) (v:=.pointer (some ⟨w.heap.size,0,none⟩)) rfl (by kernel_rfl) (by kernel_rfl) (by kernel_rfl) (by kernel_rfl) (fun _ _ _ h=>h) (Or.inl ⟨by rfl,?_⟩) ⟨trivial,un HS0⟩ ?_
 ·intro W' hW
  go_split_ands
  go_simp
 refine wpR_take7 (i:=1) (oi:=_) (v:=.string nm) rfl (by kernel_rfl) (by kernel_rfl) (by kernel_rfl) (by kernel_rfl) (fun _ _ _ h=>h) (Or.inl ⟨by rfl,?_⟩) ⟨trivial,un HS0⟩ ?_
 ·intro W' hW
  go_split_ands
  go_simp
 refine wpR_take7 (i:=2) (oi:=_) (v:=.pointer (some ⟨w.heap.size,1,none⟩)) rfl (by kernel_rfl) (by kernel_rfl) (by kernel_rfl) (by kernel_rfl) (fun _ _ _ h=>h) (Or.inl ⟨by rfl,?_⟩) ⟨trivial,un HS0⟩ ?_
 ·intro W' hW
  go_split_ands
  go_simp
 refine wpR_take7 (i:=3) (oi:=_) (v:=.string sy) rfl (by kernel_rfl) (by kernel_rfl) (by kernel_rfl) (by kernel_rfl) (fun _ _ _ h=>h) (Or.inl ⟨by rfl,?_⟩) ⟨trivial,un HS0⟩ ?_
 ·intro W' hW
  go_split_ands
  go_simp
 refine wpR_take7 (i:=4) (oi:=_) (v:=.agg #[I (ev 0),I (ev 1),I (ev 2),I (ev 3),I (ev 4),I n,I d]) rfl (by kernel_rfl) (by kernel_rfl) (by kernel_rfl) (by kernel_rfl) (fun _ _ _ h=>h) (Or.inl ⟨by rfl,?_⟩) ⟨trivial,un HS0⟩ ?_
 ·intro W' hW
  go_split_ands
  go_simp
 refine wpR_take7 (i:=5) (oi:=_) (v:=.agg pL.toArray) rfl (by kernel_rfl) (by kernel_rfl) (by kernel_rfl) (by kernel_rfl) (fun _ _ _ h=>h) ?_ ⟨trivial,un HS0⟩ ?_
 ·refine yieldsIf_load_mid (by kernel_rfl) 52 (.tmp 3) (by kernel_rfl) (w.heap.size+1) 0 (by kernel_rfl) pL _ (fun W' hW=>hW.2.2.2.2.2.2.2.2.2) Tryz.underlying52 rfl (by rw[info52,un HLN])
 refine wpR_take7 (i:=7) (oi:=_) (v:=.agg #[I (ev 0),I (ev 1),I (ev 2),I (ev 3),I (ev 4),I n,I d]) rfl (by kernel_rfl) (by kernel_rfl) (by kernel_rfl) (by kernel_rfl) (fun _ _ _ h=>h) (Or.inl ⟨by rfl,?_⟩) ⟨trivial,un HS0⟩ ?_
 ·intro W' hW
  go_split_ands
  go_simp
 refine wpR_take7 (i:=8) (oi:=_) (v:=.agg pL.toArray) rfl (by kernel_rfl) (by kernel_rfl) (by kernel_rfl) (by kernel_rfl) (fun _ _ _ h=>h) ?_ ⟨trivial,un HS0⟩ ?_
 ·refine yieldsIf_load_mid (by kernel_rfl) 52 (.tmp 3) (by kernel_rfl) (w.heap.size+1) 0 (by kernel_rfl) pL _ (fun W' hW=>hW.2.2.2.2.2.2.2.2.2) Tryz.underlying52 rfl (by rw[info52,un HLN])
 refine wpR_op (i:=6) (o:=_) (by kernel_rfl) rfl rfl (fun K hK=>?_)
 go_simp
 refine(un HDI _ (un HT1).b).mono ?_
 rintro e U2 ⟨rfl,hb⟩
 have HT2:=hide ((un HT1).later hb)
 clear hb HT1
 refine hK _ _ ⟨trivial,un HSS _ (un HT2)⟩ ?_
 clear hK K
 refine wpR_op (i:=9) (o:=_) (by kernel_rfl) rfl rfl (fun K hK=>?_)
 go_simp
 refine(un HFA _ (un HT2).b).mono ?_
 rintro e U3 ⟨rfl,hb⟩
 have HT3:=hide ((un HT2).later hb)
 clear hb HT2
 refine hK _ _ ⟨trivial,un HSS _ (un HT3)⟩ ?_
 clear hK K
 refine wpR_op (i:=10) (o:=_) (by kernel_rfl) rfl rfl (fun K hK=>?_)
 go_simp
 refine(un HZE _ (un HT3).b).mono ?_
 rintro e U4 ⟨rfl,hb⟩
 have HT4:=hide ((un HT3).later hb)
 clear hb HT3
 refine hK _ _ ⟨trivial,un HSS _ (un HT4)⟩ ?_
 clear hK K
 refine wpR_op (i:=11) (o:=_) (by kernel_rfl) rfl rfl (fun K hK=>?_)
 go_simp
 refine hK _ _ ⟨trivial,un HSS _ (un HT4)⟩ ?_
 clear hK K
 have HT5:Hid (((U4.setRow (w.heap.size+1+1) #[.string nm,.string sy,I (dv 0),I (dv 1),I (dv 2),I (dv 3),I (dv 4),I (dv 5),I (dv 6),I (dv 7),.string fn,.string fd,.string ⟨#[48]⟩,.string ⟨#[49]⟩,I 0]).cell? ⟨w.heap.size,0,none⟩=some (.string nm)∧(U4.setRow (w.heap.size+1+1) #[.string nm,.string sy,I (dv 0),I (dv 1),I (dv 2),I (dv 3),I (dv 4),I (dv 5),I (dv 6),I (dv 7),.string fn,.string fd,.string ⟨#[48]⟩,.string ⟨#[49]⟩,I 0]).cell? ⟨w.heap.size,1,none⟩=some (.string sy)∧(U4.setRow (w.heap.size+1+1) #[.string nm,.string sy,I (dv 0),I (dv 1),I (dv 2),I (dv 3),I (dv 4),I (dv 5),I (dv 6),I (dv 7),.string fn,.string fd,.string ⟨#[48]⟩,.string ⟨#[49]⟩,I 0]).cell? ⟨g5,0,none⟩=some (I (ev 0))∧(U4.setRow (w.heap.size+1+1) #[.string nm,.string sy,I (dv 0),I (dv 1),I (dv 2),I (dv 3),I (dv 4),I (dv 5),I (dv 6),I (dv 7),.string fn,.string fd,.string ⟨#[48]⟩,.string ⟨#[49]⟩,I 0]).cell? ⟨g5,1,none⟩=some (I (ev 1))∧(U4.setRow (w.heap.size+1+1) #[.string nm,.string sy,I (dv 0),I (dv 1),I (dv 2),I (dv 3),I (dv 4),I (dv 5),I (dv 6),I (dv 7),.string fn,.string fd,.string ⟨#[48]⟩,.string ⟨#[49]⟩,I 0]).cell? ⟨g5,2,none⟩=some (I (ev 2))∧(U4.setRow (w.heap.size+1+1) #[.string nm,.string sy,I (dv 0),I (dv 1),I (dv 2),I (dv 3),I (dv 4),I (dv 5),I (dv 6),I (dv 7),.string fn,.string fd,.string ⟨#[48]⟩,.string ⟨#[49]⟩,I 0]).cell? ⟨g5,3,none⟩=some (I (ev 3))∧(U4.setRow (w.heap.size+1+1) #[.string nm,.string sy,I (dv 0),I (dv 1),I (dv 2),I (dv 3),I (dv 4),I (dv 5),I (dv 6),I (dv 7),.string fn,.string fd,.string ⟨#[48]⟩,.string ⟨#[49]⟩,I 0]).cell? ⟨g5,4,none⟩=some (I (ev 4))∧(U4.setRow (w.heap.size+1+1) #[.string nm,.string sy,I (dv 0),I (dv 1),I (dv 2),I (dv 3),I (dv 4),I (dv 5),I (dv 6),I (dv 7),.string fn,.string fd,.string ⟨#[48]⟩,.string ⟨#[49]⟩,I 0]).cell? ⟨g5,5,none⟩=some (I n)∧(U4.setRow (w.heap.size+1+1) #[.string nm,.string sy,I (dv 0),I (dv 1),I (dv 2),I (dv 3),I (dv 4),I (dv 5),I (dv 6),I (dv 7),.string fn,.string fd,.string ⟨#[48]⟩,.string ⟨#[49]⟩,I 0]).cell? ⟨g5,6,none⟩=some (I d)∧(U4.setRow (w.heap.size+1+1) #[.string nm,.string sy,I (dv 0),I (dv 1),I (dv 2),I (dv 3),I (dv 4),I (dv 5),I (dv 6),I (dv 7),.string fn,.string fd,.string ⟨#[48]⟩,.string ⟨#[49]⟩,I 0]).rangeAt (w.heap.size+1) 0 pL)):=(by
  have h:=un HT4
  have hn:=h.n
  have ha:=h.a.otherRow (us:=#[.string nm,.string sy,I (dv 0),I (dv 1),I (dv 2),I (dv 3),I (dv 4),I (dv 5),I (dv 6),I (dv 7),.string fn,.string fd,.string ⟨#[48]⟩,.string ⟨#[49]⟩,I 0]) (show ¬w.heap.size+1+1=w.heap.size by omega)
  have ho:=h.o.otherRow (us:=#[.string nm,.string sy,I (dv 0),I (dv 1),I (dv 2),I (dv 3),I (dv 4),I (dv 5),I (dv 6),I (dv 7),.string fn,.string fd,.string ⟨#[48]⟩,.string ⟨#[49]⟩,I 0]) (show ¬w.heap.size+1+1=w.heap.size+1 by omega)
  have hx:=h.x.otherRow (us:=#[.string nm,.string sy,I (dv 0),I (dv 1),I (dv 2),I (dv 3),I (dv 4),I (dv 5),I (dv 6),I (dv 7),.string fn,.string fd,.string ⟨#[48]⟩,.string ⟨#[49]⟩,I 0]) (show ¬w.heap.size+1+1=g5 by omega)
  exact⟨ha.ub.c 0 _ rfl,ha.ub.c 1 _ rfl,hx.ub.c 0 _ rfl,hx.ub.c 1 _ rfl,hx.ub.c 2 _ rfl,hx.ub.c 3 _ rfl,hx.ub.c 4 _ rfl,hx.ub.c 5 _ rfl,hx.ub.c 6 _ rfl,ho.mid 0 pL (fun j v h=>by simpa using h)⟩)
 refine wpR_late (i:=12) (o:=_) (by kernel_rfl) rfl rfl (by kernel_rfl) (fun K hK=>?_)
 refine wp_store_row 30 (.tmp 4) (.tmp 20) rfl (w.heap.size+1+1) #[.string nm,.string sy,I (dv 0),I (dv 1),I (dv 2),I (dv 3),I (dv 4),I (dv 5),I (dv 6),I (dv 7),.string fn,.string fd,.string ⟨#[48]⟩,.string ⟨#[49]⟩,I 0] (by kernel_rfl) (by kernel_rfl) 30 _ (un HT4).r (by rw[info27];rfl) rfl (by kernel_rfl) (hK _ _ (un HT5) ?_)
 clear hK K
 refine wpR_done (by kernel_rfl) ?_
 go_wp2_with fail
 exact bodyPost_ret (v:=.agg #[.string nm,.string sy,I (dv 0),I (dv 1),I (dv 2),I (dv 3),I (dv 4),I (dv 5),I (dv 6),I (dv 7),.string fn,.string fd,.string ⟨#[48]⟩,.string ⟨#[49]⟩,I 0]) (res30 Tryz.results36 _ _ (w.heap.size+1+1) _ rfl rfl ((un HT4).r.setRow _)) rfl ⟨rfl,below_setRow (un HT4).b (by omega) _⟩
end Go.Proofs.YtamoadanapmmeaaGreatDoor.Tr

namespace Go.Proofs.YtamoadanapmmeaaGreatDoor.Tr
open Go.RowKit
structure Tu where
 nm:ByteArray
 sy:ByteArray
 f:Nat
 e0:Int
 e1:Int
 e2:Int
 e3:Int
 e4:Int
 n:Nat
 d:Nat
 d0:Int
 d1:Int
 d2:Int
 d3:Int
 d4:Int
 d5:Int
 d6:Int
 d7:Int
 an:ByteArray
 ad:ByteArray
 fn:ByteArray
 fd:ByteArray
def trt:Nat→Tu
 | 0=>⟨⟨#[105,110,99,104]⟩,⟨#[105,110,99,104]⟩,72,1,0,0,0,0,127,5000,1,0,0,0,0,0,0,0,⟨#[49,50,55]⟩,⟨#[53,48,48,48]⟩,⟨#[49,50,55]⟩,⟨#[53,48,48,48]⟩⟩
 | 1=>⟨⟨#[102,111,111,116]⟩,⟨#[102,116]⟩,73,1,0,0,0,0,381,1250,1,0,0,0,0,0,0,0,⟨#[51,56,49]⟩,⟨#[49,50,53,48]⟩,⟨#[51,56,49]⟩,⟨#[49,50,53,48]⟩⟩
 | 2=>⟨⟨#[102,97,116,104,111,109]⟩,⟨#[102,116,109]⟩,74,1,0,0,0,0,1143,625,1,0,0,0,0,0,0,0,⟨#[49,49,52,51]⟩,⟨#[54,50,53]⟩,⟨#[49,49,52,51]⟩,⟨#[54,50,53]⟩⟩
 | 3=>⟨⟨#[104,97,110,100]⟩,⟨#[104,104]⟩,75,1,0,0,0,0,127,1250,1,0,0,0,0,0,0,0,⟨#[49,50,55]⟩,⟨#[49,50,53,48]⟩,⟨#[49,50,55]⟩,⟨#[49,50,53,48]⟩⟩
 | 4=>⟨⟨#[110,97,117,116,105,99,97,108]⟩,⟨#[110,109,105]⟩,76,1,0,0,0,0,1852,1,1,0,0,0,0,0,0,0,⟨#[49,56,53,50]⟩,⟨#[49]⟩,⟨#[49,56,53,50]⟩,⟨#[49]⟩⟩
 | 5=>⟨⟨#[107,110,111,116]⟩,⟨#[107,110]⟩,77,1,0,-1,0,0,463,900,1,0,-1,0,0,0,0,0,⟨#[52,54,51]⟩,⟨#[57,48,48]⟩,⟨#[52,54,51]⟩,⟨#[57,48,48]⟩⟩
 | 6=>⟨⟨#[121,97,114,100]⟩,⟨#[121,100]⟩,78,1,0,0,0,0,1143,1250,1,0,0,0,0,0,0,0,⟨#[49,49,52,51]⟩,⟨#[49,50,53,48]⟩,⟨#[49,49,52,51]⟩,⟨#[49,50,53,48]⟩⟩
 | 7=>⟨⟨#[109,105,108,101]⟩,⟨#[109,105]⟩,79,1,0,0,0,0,201168,125,1,0,0,0,0,0,0,0,⟨#[50,48,49,49,54,56]⟩,⟨#[49,50,53]⟩,⟨#[50,48,49,49,54,56]⟩,⟨#[49,50,53]⟩⟩
 | 8=>⟨⟨#[97,99,114,101]⟩,⟨#[97,99]⟩,80,2,0,0,0,0,316160658,78125,2,0,0,0,0,0,0,0,⟨#[51,49,54,49,54,48,54,53,56]⟩,⟨#[55,56,49,50,53]⟩,⟨#[51,49,54,49,54,48,54,53,56]⟩,⟨#[55,56,49,50,53]⟩⟩
 | 9=>⟨⟨#[97,116,109,111,115,112,104,101,114,101]⟩,⟨#[97,116,109]⟩,81,0,0,0,1,0,101325,1,-1,1,-2,0,0,0,0,0,⟨#[49,48,49,51,50,53]⟩,⟨#[49]⟩,⟨#[49,48,49,51,50,53]⟩,⟨#[49]⟩⟩
 | 10=>⟨⟨#[99,97,108,111,114,105,101]⟩,⟨#[99,97,108]⟩,82,0,0,0,0,1,523,125,2,1,-2,0,0,0,0,0,⟨#[53,50,51]⟩,⟨#[49,50,53]⟩,⟨#[53,50,51]⟩,⟨#[49,50,53]⟩⟩
 | 11=>⟨⟨#[103,97,108,108,111,110]⟩,⟨#[103,97,108]⟩,83,3,0,0,0,0,473176473,125000000000,3,0,0,0,0,0,0,0,⟨#[52,55,51,49,55,54,52,55,51]⟩,⟨#[49,50,53,48,48,48,48,48,48,48,48,48]⟩,⟨#[52,55,51,49,55,54,52,55,51]⟩,⟨#[49,50,53,48,48,48,48,48,48,48,48,48]⟩⟩
 | 12=>⟨⟨#[112,105,110,116]⟩,⟨#[112,116]⟩,84,3,0,0,0,0,473176473,1000000000000,3,0,0,0,0,0,0,0,⟨#[52,55,51,49,55,54,52,55,51]⟩,⟨#[49,48,48,48,48,48,48,48,48,48,48,48,48]⟩,⟨#[52,55,51,49,55,54,52,55,51]⟩,⟨#[49,48,48,48,48,48,48,48,48,48,48,48,48]⟩⟩
 | 13=>⟨⟨#[112,111,117,110,100]⟩,⟨#[108,98]⟩,85,0,1,0,0,0,45359237,100000,0,1,0,0,0,0,0,0,⟨#[52,53,51,53,57,50,51,55]⟩,⟨#[49,48,48,48,48,48]⟩,⟨#[52,53,51,53,57,50,51,55]⟩,⟨#[49,48,48,48,48,48,48,48,48]⟩⟩
 | 14=>⟨⟨#[103,114,97,105,110]⟩,⟨#[103,114]⟩,86,0,1,0,0,0,6479891,100000000,0,1,0,0,0,0,0,0,⟨#[54,52,55,57,56,57,49]⟩,⟨#[49,48,48,48,48,48,48,48,48]⟩,⟨#[54,52,55,57,56,57,49]⟩,⟨#[49,48,48,48,48,48,48,48,48,48,48,48]⟩⟩
 | 15=>⟨⟨#[111,117,110,99,101]⟩,⟨#[111,122]⟩,87,0,1,0,0,0,45359237,1600000,0,1,0,0,0,0,0,0,⟨#[52,53,51,53,57,50,51,55]⟩,⟨#[49,54,48,48,48,48,48]⟩,⟨#[52,53,51,53,57,50,51,55]⟩,⟨#[49,54,48,48,48,48,48,48,48,48]⟩⟩
 | 16=>⟨⟨#[112,111,117,110,100,102,111,114,99,101]⟩,⟨#[108,98,102]⟩,88,1,1,-2,0,0,8896443230521,2000000000,1,1,-2,0,0,0,0,0,⟨#[56,56,57,54,52,52,51,50,51,48,53,50,49]⟩,⟨#[50,48,48,48,48,48,48,48,48,48]⟩,⟨#[56,56,57,54,52,52,51,50,51,48,53,50,49]⟩,⟨#[50,48,48,48,48,48,48,48,48,48,48,48,48]⟩⟩
 | 17=>⟨⟨#[104,111,114,115,101,112,111,119,101,114]⟩,⟨#[104,112]⟩,89,2,1,-3,0,0,37284993579113511,50000000000,2,1,-3,0,0,0,0,0,⟨#[51,55,50,56,52,57,57,51,53,55,57,49,49,51,53,49,49]⟩,⟨#[53,48,48,48,48,48,48,48,48,48,48]⟩,⟨#[51,55,50,56,52,57,57,51,53,55,57,49,49,51,53,49,49]⟩,⟨#[53,48,48,48,48,48,48,48,48,48,48,48,48,48]⟩⟩
 | 18=>⟨⟨#[112,115,105]⟩,⟨#[112,115,105]⟩,90,-1,1,-2,0,0,8896443230521,1290320,-1,1,-2,0,0,0,0,0,⟨#[56,56,57,54,52,52,51,50,51,48,53,50,49]⟩,⟨#[49,50,57,48,51,50,48]⟩,⟨#[56,56,57,54,52,52,51,50,51,48,53,50,49]⟩,⟨#[49,50,57,48,51,50,48,48,48,48]⟩⟩
 | 19=>⟨⟨#[115,116,111,110,101]⟩,⟨#[115,116]⟩,91,0,1,0,0,0,317514659,50000,0,1,0,0,0,0,0,0,⟨#[51,49,55,53,49,52,54,53,57]⟩,⟨#[53,48,48,48,48]⟩,⟨#[51,49,55,53,49,52,54,53,57]⟩,⟨#[53,48,48,48,48,48,48,48]⟩⟩
 | 20=>⟨⟨#[116,111,110]⟩,⟨#[116,110]⟩,92,0,1,0,0,0,45359237,50,0,1,0,0,0,0,0,0,⟨#[52,53,51,53,57,50,51,55]⟩,⟨#[53,48]⟩,⟨#[52,53,51,53,57,50,51,55]⟩,⟨#[53,48,48,48,48]⟩⟩
 | _=>⟨⟨#[116,111,114,114]⟩,⟨#[84,111,114,114]⟩,93,0,0,0,1,0,20265,152,-1,1,-2,0,0,0,0,0,⟨#[50,48,50,54,53]⟩,⟨#[49,53,50]⟩,⟨#[50,48,50,54,53]⟩,⟨#[49,53,50]⟩⟩
def evT (t:Tu):Nat→Int
 | 0=>t.e0
 | 1=>t.e1
 | 2=>t.e2
 | 3=>t.e3
 | _=>t.e4
def dvT (t:Tu):Nat→Int
 | 0=>t.d0
 | 1=>t.d1
 | 2=>t.d2
 | 3=>t.d3
 | 4=>t.d4
 | 5=>t.d5
 | 6=>t.d6
 | _=>t.d7
def puD:Nat→Nat→Int
 | 0,0=>1
 | 1,1=>1
 | 2,2=>1
 | 3,0=>-1
 | 3,1=>1
 | 3,2=>-2
 | 4,0=>2
 | 4,1=>1
 | 4,2=>-2
 | _,_=>0
def prT (t:Tu):Nat→Nat→Int
 | 0,_=>0
 | k+1,j=>prT t k j+puD k j*evT t k
def inB (x:Int):Bool:=decide (-99≤x∧x≤99)
def okD (t:Tu):Bool:=(List.range 5).all (fun k=>(List.range 8).all fun j=>inB (prT t k j) && inB (puD k j*evT t k) && inB (prT t (k+1) j)) && (List.range 8).all fun j=>prT t 5 j == dvT t j
theorem okD_at {t:Tu} (h:okD t=true):(∀k,k<5→∀j,j<8→(-99≤prT t k j∧prT t k j≤99)∧(-99≤puD k j*evT t k∧puD k j*evT t k≤99)∧(-99≤prT t (k+1) j∧prT t (k+1) j≤99))∧∀j,j<8→prT t 5 j=dvT t j:=by
 simp only[okD,Bool.and_eq_true,List.all_eq_true,List.mem_range,inB,decide_eq_true_eq,beq_iff_eq]at h
 exact⟨fun k hk j hj=>have a:=h.1 k hk j hj;⟨a.1.1,a.1.2,a.2⟩,h.2⟩
theorem pow_two (U:Nat→Int) (n:Int) (w:World) (hU:∀j,j<8→-99≤U j∧U j≤99) (hQ:∀j,j<8→-99≤U j*n∧U j*n≤99) :
  Calls Tryz.prog 174 #[.agg #[I (U 0),I (U 1),I (U 2),I (U 3),I (U 4),I (U 5),I (U 6),I (U 7)],I n] w fun e w'=>e=.returned (.tuple #[.agg #[I (U 0*n),I (U 1*n),I (U 2*n),I (U 3*n),I (U 4*n),I (U 5*n),I (U 6*n),I (U 7*n)],I 0])∧Below w.heap.size w w':=by
 have h:=Dm.pow_any (U 0) (U 1) (U 2) (U 3) (U 4) (U 5) (U 6) (U 7) n w
 have hp:∀F:Nat→Int,(∀j,j<8→-99≤F j∧F j≤99)→Dm.rightB [F 0,F 1,F 2,F 3,F 4,F 5,F 6,F 7]=true:=fun F hF=>by
  have f0:=hF 0 (by decide);have f1:=hF 1 (by decide);have f2:=hF 2 (by decide);have f3:=hF 3 (by decide);have f4:=hF 4 (by decide);have f5:=hF 5 (by decide);have f6:=hF 6 (by decide);have f7:=hF 7 (by decide)
  simp[Dm.rightB,Dm.okB];omega
 rw[hp U hU,hp (fun j=>U j*n) hQ]at h
 simp only[Bool.and_self,Dm.sel_true,Dm.powErr,if_true]at h
 rw[hp (fun j=>U j*n) hQ]at h
 exact h
theorem puD_le:∀k,k<5→∀j,j<8→-99≤puD k j∧puD k j≤99:=by decide
noncomputable def q1T:Array Value:=putAt Tryz.zeroCells52 0 (sct 4).u.toList
noncomputable def q2T:Array Value:=putAt q1T 15 (sct 5).u.toList
noncomputable def q3T:Array Value:=putAt q2T 30 (sct 2).u.toList
noncomputable def q4T:Array Value:=putAt q3T 45 (ruT 1).toList
noncomputable def partsT:Array Value:=putAt q4T 60 (ruT 2).toList
theorem partsT_size:partsT.size=75:=by unfold partsT q4T q3T q2T q1T;rw[size_putAt,size_putAt,size_putAt,size_putAt,size_putAt];exact z52
theorem partsT_ones:partsT.all (·.oneCell')=true:=by kernel_rfl
theorem base_word (s:ByteArray) (k:Nat) (hk:k<8) (hf:IsFirst (scB s) (k:Int)) (w:World) (htab:Tab w):Calls Tryz.prog 70 #[.string s] w fun r w'=>r=.returned (.tuple #[.agg (sct k).u,.bool true])∧Below w.heap.size w w':=by
 refine(find_any s w htab).mono ?_
 rintro r w' ⟨v,rfl,hv,hb⟩
 rw[hv.det (Or.inl ⟨k,hk,hf,rfl⟩)]
 exact⟨rfl,hb⟩
theorem partsT_any (w:World) (htab:Tab w):Calls Tryz.prog 33 #[] w fun r w'=>r=.returned (.agg partsT)∧Below w.heap.size w w' :=
 parts_walk (sct 4).u (sct 5).u (sct 2).u (ruT 1) (ruT 2) q1T q2T q3T q4T partsT w htab partsT_ones rfl rfl rfl rfl rfl ⟨rfl,rfl,rfl,rfl,rfl⟩ ⟨by kernel_rfl,by kernel_rfl,by kernel_rfl,by kernel_rfl,by kernel_rfl⟩
  (fun W ht=>base_word _ 4 (by decide) (Or.inl ⟨4,by decide,rfl,by decide +kernel,by decide +kernel⟩) W ht) (fun W ht=>base_word _ 5 (by decide) (Or.inl ⟨5,by decide,rfl,by decide +kernel,by decide +kernel⟩) W ht) (fun W ht=>base_word _ 2 (by decide) (Or.inl ⟨2,by decide,rfl,by decide +kernel,by decide +kernel⟩) W ht)
  (fun W ht=>siFind_yes _ 1 (by decide) (Or.inl ⟨1,by decide,rfl,by decide +kernel,by decide +kernel⟩) W ht) (fun W ht=>siFind_yes _ 2 (by decide) (Or.inl ⟨2,by decide,rfl,by decide +kernel,by decide +kernel⟩) W ht)
theorem partsT_dim:∀k:Nat,k<5→∀j v,([I (puD k 0),I (puD k 1),I (puD k 2),I (puD k 3),I (puD k 4),I (puD k 5),I (puD k 6),I (puD k 7)]:List Value)[j]?=some v→partsT[k*15+2+j]?=some v:=by
 intro k hk j v h
 have key:∀k:Nat,k<5→∀j:Nat,j<8→partsT[k*15+2+j]?=([I (puD k 0),I (puD k 1),I (puD k 2),I (puD k 3),I (puD k 4),I (puD k 5),I (puD k 6),I (puD k 7)]:List Value)[j]?:=by
  intro k hk j hj
  rcases(by omega:k=0∨k=1∨k=2∨k=3∨k=4)with rfl|rfl|rfl|rfl|rfl<;>rcases Dm.eight (Nat.le_of_lt hj)with rfl|rfl|rfl|rfl|rfl|rfl|rfl|rfl|rfl<;>first|omega|kernel_rfl
 rw[key k hk j (List.getElem?_eq_some_iff.1 h).1];exact h
def uNt:Nat→ByteArray:=fun _=>⟨#[49]⟩
def uDt:Nat→ByteArray
 | 1=>⟨#[49,48,48,48]⟩
 | _=>⟨#[49]⟩
theorem partsT_fac:∀k:Nat,k<5→partsT[k*15+10]?=some (.string (uNt k))∧partsT[k*15+10+1]?=some (.string (uDt k))
 | 0,_=>⟨by kernel_rfl,by kernel_rfl⟩
 | 1,_=>⟨by kernel_rfl,by kernel_rfl⟩
 | 2,_=>⟨by kernel_rfl,by kernel_rfl⟩
 | 3,_=>⟨by kernel_rfl,by kernel_rfl⟩
 | 4,_=>⟨by kernel_rfl,by kernel_rfl⟩
 | _+5,h=>absurd h (by omega)
end Go.Proofs.YtamoadanapmmeaaGreatDoor.Tr

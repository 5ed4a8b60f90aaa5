/- fact.told (61) at the thirteen constants. -/
import Derived.Test.YtliadckofhblnaaGreatDoorLimb3
import Derived.Test.YtliadckofhblnaaGreatDoorNtFrame
namespace Go.Proofs.YtliadckofhblnaaGreatDoor.Nt
open Go.RowKit
abbrev zC:Array Value:=#[.string ⟨#[]⟩,.string ⟨#[]⟩,.string ⟨#[]⟩,.string ⟨#[]⟩,.string ⟨#[]⟩,.string ⟨#[]⟩,.string ⟨#[]⟩]
theorem info45:(Tryz.prog.info? 45).map (·.size)=some 7:=by kernel_rfl
theorem res45 {fn:Func} {p:Tmp} (h:fn.results=#[.cell p 45]) (tmps:Array Value) (w:World) (g:Nat) (vs:Array Value) (hl:vs.size=7) (hp:tmps.getD p undef=.pointer (some ⟨g,0,none⟩)) (ho:OwnU w g 45 vs) :
  (results fn tmps).run Tryz.prog w=.ok (.agg vs) w:=by
 rw[results_cell1 h,hp]
 simp only[asAddr,Sem.run_pure,Result.andThen_ok]
 rw[run_loadVar_row w g 45 45 vs (0,0) _ ho Tryz.underlying45 rfl (by rw[info45,hl])]
structure FL (w W:World) (row am:Array Value) (g:Nat):Prop where
 a:OwnU W w.heap.size 103 row
 r:OwnU W (w.heap.size+1) 45 zC
 x:OwnU W g 155 am
 b:Below w.heap.size w W
 n:w.heap.size+1<g
theorem FL.later {w W V:World} {row am:Array Value} {g:Nat} (h:FL w W row am g) (hb:Below W.heap.size W V):FL w V row am g:=⟨h.a.later hb,h.r.later hb,h.x.later hb,h.b.trans (hb.mono h.b.size),h.n⟩
set_option maxRecDepth 100000 in
set_option maxHeartbeats 4000000 in
theorem factTold (pl a0 a1 a2 b0 b1 b2:Int) (D:Nat→Int) (f:Nat) (nm sy us vn vd wn wd ut:ByteArray) (w:World)
  (hcf:∀W,(callFunc f #[]).run Tryz.prog W=.ok (.enter f #[]) W)
  (hma:∀W,Below w.heap.size w W→Calls Tryz.prog f #[] W fun r w'=>r=.returned (.agg #[I a0,I a1,I a2,I b0,I b1,I b2,I (D 0),I (D 1),I (D 2),I (D 3),I (D 4),I (D 5),I (D 6),I (D 7)])∧Below W.heap.size W w')
  (hv:∀W,Below w.heap.size w W→Calls Tryz.prog 140 #[.agg #[I a0,I a1,I a2]] W fun r w'=>r=.returned (.agg #[.string vn,.string vd])∧Below W.heap.size W w')
  (hs:∀W,Below w.heap.size w W→Calls Tryz.prog 140 #[.agg #[I b0,I b1,I b2]] W fun r w'=>r=.returned (.agg #[.string wn,.string wd])∧Below W.heap.size W w')
  (hu:∀W,Below w.heap.size w W→Calls Tryz.prog 141 #[.string us,.agg #[I (D 0),I (D 1),I (D 2),I (D 3),I (D 4),I (D 5),I (D 6),I (D 7)]] W fun r w'=>r=.returned (.string ut)∧Below W.heap.size W w') :
  Calls Tryz.prog 61 #[.agg #[I pl,.string sy,.string us,.func (.func f) #[] #[]],.string nm] w fun r w'=>r=.returned (.agg #[.string nm,.string sy,.string vn,.string vd,.string wn,.string wd,.string ut])∧Below w.heap.size w w':=by
 obtain⟨V,hV⟩:∃V,V=(w.alloc (.cells #[I pl,.string sy,.string us,.func (.func f) #[] #[]] 103)).alloc (.cells zC 45):=⟨_,rfl⟩
 have HA:Hid (OwnU V w.heap.size 103 #[I pl,.string sy,.string us,.func (.func f) #[] #[]]):=by rw[hV];exact(OwnU.new _ _ _).alloc _
 have HR:Hid (OwnU V (w.heap.size+1) 45 zC):=by rw[hV];have h:=OwnU.new (w.alloc (.cells #[I pl,.string sy,.string us,.func (.func f) #[] #[]] 103)) zC 45;rw[Dm.size_alloc]at h;exact h
 have HB:Hid (Below w.heap.size w V):=by rw[hV];exact((Below.refl _ _).alloc (Nat.le_refl _) _).alloc (by simp) _
 have HMA:=hide hma;have H1:=hide hv;have H2:=hide hs;have H3:=hide hu
 have HV:=hide hV
 clear hV hma hv hs hu
 go_enter Tryz.func61,Tryz.ntmps61
 go_upto_region 1 with fail
 rw[←un HV]
 clear HV
 have c3:V.cell? ⟨w.heap.size,3,none⟩=some (.func (.func f) #[] #[]):=(un HA).ub.c 3 _ rfl
 go_wp2_with fail
 refine(un HMA _ (un HB)).mono ?_
 rintro e w1 ⟨rfl,hb⟩
 have HA1:=hide ((un HA).later hb);have HR1:=hide ((un HR).later hb);have HB1:Hid (Below w.heap.size w w1):=(un HB).trans (hb.mono (un HB).size)
 clear hb c3 HA HR HB hcf HMA
 go_upto_region 2 with (refine storeT 155 14 info155 rfl (.tmp 5) (.tmp 8) rfl w1.heap.size z14 #[I a0,I a1,I a2,I b0,I b1,I b2,I (D 0),I (D 1),I (D 2),I (D 3),I (D 4),I (D 5),I (D 6),I (D 7)] rfl rfl rfl rfl (OwnU.new _ _ _) (by kernel_rfl) ?_)
 have hb2:Below w1.heap.size w1 ((w1.alloc (.cells z14 155)).setRow w1.heap.size #[I a0,I a1,I a2,I b0,I b1,I b2,I (D 0),I (D 1),I (D 2),I (D 3),I (D 4),I (D 5),I (D 6),I (D 7)]):=below_setRow (albel _ _) (Nat.le_refl _) _
 have HT0:Hid (FL w ((w1.alloc (.cells z14 155)).setRow w1.heap.size #[I a0,I a1,I a2,I b0,I b1,I b2,I (D 0),I (D 1),I (D 2),I (D 3),I (D 4),I (D 5),I (D 6),I (D 7)]) #[I pl,.string sy,.string us,.func (.func f) #[] #[]] #[I a0,I a1,I a2,I b0,I b1,I b2,I (D 0),I (D 1),I (D 2),I (D 3),I (D 4),I (D 5),I (D 6),I (D 7)] w1.heap.size):=⟨(un HA1).later hb2,(un HR1).later hb2,(OwnU.new _ _ _).setRow _,(un HB1).trans (hb2.mono (un HB1).size),(un HR1).lt⟩
 clear hb2 HA1 HR1 HB1
 generalize (w1.alloc (.cells z14 155)).setRow w1.heap.size #[I a0,I a1,I a2,I b0,I b1,I b2,I (D 0),I (D 1),I (D 2),I (D 3),I (D 4),I (D 5),I (D 6),I (D 7)]=w2 at *
 generalize w1.heap.size=g5 at *
 have HT1:Hid (FL w w2.drew #[I pl,.string sy,.string us,.func (.func f) #[] #[]] #[I a0,I a1,I a2,I b0,I b1,I b2,I (D 0),I (D 1),I (D 2),I (D 3),I (D 4),I (D 5),I (D 6),I (D 7)] g5):=(un HT0).later (Below.refl _ _).drew
 have HSS:Hid (∀W':World,FL w W' #[I pl,.string sy,.string us,.func (.func f) #[] #[]] #[I a0,I a1,I a2,I b0,I b1,I b2,I (D 0),I (D 1),I (D 2),I (D 3),I (D 4),I (D 5),I (D 6),I (D 7)] g5→W'.cell? ⟨w.heap.size,1,none⟩=some (.string sy)∧W'.cell? ⟨w.heap.size,2,none⟩=some (.string us)∧W'.cell? ⟨g5,0,none⟩=some (I a0)∧W'.cell? ⟨g5,1,none⟩=some (I a1)∧W'.cell? ⟨g5,2,none⟩=some (I a2)∧W'.cell? ⟨g5,3,none⟩=some (I b0)∧W'.cell? ⟨g5,4,none⟩=some (I b1)∧W'.cell? ⟨g5,5,none⟩=some (I b2)∧W'.cell? ⟨g5,6,none⟩=some (I (D 0))∧W'.cell? ⟨g5,7,none⟩=some (I (D 1))∧W'.cell? ⟨g5,8,none⟩=some (I (D 2))∧W'.cell? ⟨g5,9,none⟩=some (I (D 3))∧W'.cell? ⟨g5,10,none⟩=some (I (D 4))∧W'.cell? ⟨g5,11,none⟩=some (I (D 5))∧W'.cell? ⟨g5,12,none⟩=some (I (D 6))∧W'.cell? ⟨g5,13,none⟩=some (I (D 7))):=fun W' h=>⟨h.a.ub.c 1 _ rfl,h.a.ub.c 2 _ rfl,h.x.ub.c 0 _ rfl,h.x.ub.c 1 _ rfl,h.x.ub.c 2 _ rfl,h.x.ub.c 3 _ rfl,h.x.ub.c 4 _ rfl,h.x.ub.c 5 _ rfl,h.x.ub.c 6 _ rfl,h.x.ub.c 7 _ rfl,h.x.ub.c 8 _ rfl,h.x.ub.c 9 _ rfl,h.x.ub.c 10 _ rfl,h.x.ub.c 11 _ rfl,h.x.ub.c 12 _ rfl,h.x.ub.c 13 _ rfl⟩
 have HS0:=hide (un HSS _ (un HT1))
 clear HT0
 refine region_reads 15 (fun W'=>W'.cell? ⟨w.heap.size,1,none⟩=some (.string sy)∧W'.cell? ⟨w.heap.size,2,none⟩=some (.string us)∧W'.cell? ⟨g5,0,none⟩=some (I a0)∧W'.cell? ⟨g5,1,none⟩=some (I a1)∧W'.cell? ⟨g5,2,none⟩=some (I a2)∧W'.cell? ⟨g5,3,none⟩=some (I b0)∧W'.cell? ⟨g5,4,none⟩=some (I b1)∧W'.cell? ⟨g5,5,none⟩=some (I b2)∧W'.cell? ⟨g5,6,none⟩=some (I (D 0))∧W'.cell? ⟨g5,7,none⟩=some (I (D 1))∧W'.cell? ⟨g5,8,none⟩=some (I (D 2))∧W'.cell? ⟨g5,9,none⟩=some (I (D 3))∧W'.cell? ⟨g5,10,none⟩=some (I (D 4))∧W'.cell? ⟨g5,11,none⟩=some (I (D 5))∧W'.cell? ⟨g5,12,none⟩=some (I (D 6))∧W'.cell? ⟨g5,13,none⟩=some (I (D 7))) (fun _=>True) 16 rfl (by kernel_rfl) ?_
 generalize w2.drew=U1 at *
 refine wpR_take (i:=0) (oi:=_) (v:=.string nm) rfl (by kernel_rfl) (by kernel_rfl) (by kernel_rfl) (by kernel_rfl) (fun _ _ _ h=>h) (Or.inl ⟨by rfl,?_⟩) ⟨un HS0,trivial⟩ ?_
 ·intro W' hW
  go_split_ands
  go_simp
 refine wpR_take (i:=1) (oi:=_) (v:=.pointer (some ⟨w.heap.size,1,none⟩)) rfl (by kernel_rfl) (by kernel_rfl) (by kernel_rfl) (by kernel_rfl) (fun _ _ _ h=>h) (Or.inl ⟨by rfl,?_⟩) ⟨un HS0,trivial⟩ ?_
 ·intro W' hW
  go_split_ands
  go_simp
 refine wpR_take (i:=2) (oi:=_) (v:=.string sy) rfl (by kernel_rfl) (by kernel_rfl) (by kernel_rfl) (by kernel_rfl) (fun _ _ _ h=>h) (Or.inl ⟨by rfl,?_⟩) ⟨un HS0,trivial⟩ ?_
 ·intro W' hW
  go_split_ands
  go_simp
 refine wpR_take (i:=3) (oi:=_) (v:=.pointer (some ⟨g5,0,none⟩)) rfl (by kernel_rfl) (by kernel_rfl) (by kernel_rfl) (by kernel_rfl) (fun _ _ _ h=>h) (Or.inl ⟨by rfl,?_⟩) ⟨un HS0,trivial⟩ ?_
 ·intro W' hW
  go_split_ands
  go_simp
 refine wpR_take (i:=4) (oi:=_) (v:=.agg #[I a0,I a1,I a2]) rfl (by kernel_rfl) (by kernel_rfl) (by kernel_rfl) (by kernel_rfl) (fun _ _ _ h=>h) (Or.inl ⟨by rfl,?_⟩) ⟨un HS0,trivial⟩ ?_
 ·intro W' hW
  go_split_ands
  go_simp
 refine wpR_take (i:=6) (oi:=_) (v:=.pointer (some ⟨g5,3,none⟩)) rfl (by kernel_rfl) (by kernel_rfl) (by kernel_rfl) (by kernel_rfl) (fun _ _ _ h=>h) (Or.inl ⟨by rfl,?_⟩) ⟨un HS0,trivial⟩ ?_
 ·intro W' hW
  go_split_ands
  go_simp
 refine wpR_take (i:=7) (oi:=_) (v:=.agg #[I b0,I b1,I b2]) rfl (by kernel_rfl) (by kernel_rfl) (by kernel_rfl) (by kernel_rfl) (fun _ _ _ h=>h) (Or.inl ⟨by rfl,?_⟩) ⟨un HS0,trivial⟩ ?_
 ·intro W' hW
  go_split_ands
  go_simp
 refine wpR_take (i:=9) (oi:=_) (v:=.pointer (some ⟨w.heap.size,2,none⟩)) rfl (by kernel_rfl) (by kernel_rfl) (by kernel_rfl) (by kernel_rfl) (fun _ _ _ h=>h) (Or.inl ⟨by rfl,?_⟩) ⟨un HS0,trivial⟩ ?_
 ·intro W' hW
  go_split_ands
  go_simp
 refine wpR_take (i:=10) (oi:=_) (v:=.string us) rfl (by kernel_rfl) (by kernel_rfl) (by kernel_rfl) (by kernel_rfl) (fun _ _ _ h=>h) (Or.inl ⟨by rfl,?_⟩) ⟨un HS0,trivial⟩ ?_
 ·intro W' hW
  go_split_ands
  go_simp
 refine wpR_take (i:=11) (oi:=_) (v:=.pointer (some ⟨g5,6,none⟩)) rfl (by kernel_rfl) (by kernel_rfl) (by kernel_rfl) (by kernel_rfl) (fun _ _ _ h=>h) (Or.inl ⟨by rfl,?_⟩) ⟨un HS0,trivial⟩ ?_
 ·intro W' hW
  go_split_ands
  go_simp
 refine wpR_take (i:=12) (oi:=_) (v:=.agg #[I (D 0),I (D 1),I (D 2),I (D 3),I (D 4),I (D 5),I (D 6),I (D 7)]) rfl (by kernel_rfl) (by kernel_rfl) (by kernel_rfl) (by kernel_rfl) (fun _ _ _ h=>h) (Or.inl ⟨by rfl,?_⟩) ⟨un HS0,trivial⟩ ?_
 ·intro W' hW
  go_split_ands
  go_simp
 refine wpR_op (i:=5) (o:=_) (by kernel_rfl) rfl rfl (fun K hK=>?_)
 go_simp
 refine(un H1 _ (un HT1).b).mono ?_
 rintro e U2 ⟨rfl,hb⟩
 have HT2:=hide ((un HT1).later hb)
 clear hb HT1
 refine hK _ _ ⟨un HSS _ (un HT2),trivial⟩ ?_
 clear hK K
 refine wpR_op (i:=8) (o:=_) (by kernel_rfl) rfl rfl (fun K hK=>?_)
 go_simp
 refine(un H2 _ (un HT2).b).mono ?_
 rintro e U3 ⟨rfl,hb⟩
 have HT3:=hide ((un HT2).later hb)
 clear hb HT2
 refine hK _ _ ⟨un HSS _ (un HT3),trivial⟩ ?_
 clear hK K
 refine wpR_op (i:=13) (o:=_) (by kernel_rfl) rfl rfl (fun K hK=>?_)
 go_simp
 refine(un H3 _ (un HT3).b).mono ?_
 rintro e U4 ⟨rfl,hb⟩
 have HT4:=hide ((un HT3).later hb)
 clear hb HT3
 refine hK _ _ ⟨un HSS _ (un HT4),trivial⟩ ?_
 clear hK K
 refine wpR_op (i:=14) (o:=_) (by kernel_rfl) rfl rfl (fun K hK=>?_)
 go_simp
 refine hK _ _ ⟨un HSS _ (un HT4),trivial⟩ ?_
 clear hK K
 refine wpR_late (i:=15) (o:=_) (by kernel_rfl) rfl rfl (by kernel_rfl) (fun K hK=>?_)
 refine wp_store_row 45 (.tmp 4) (.tmp 23) rfl (w.heap.size+1) #[.string nm,.string sy,.string vn,.string vd,.string wn,.string wd,.string ut] (by kernel_rfl) (by kernel_rfl) 45 _ (un HT4).r (by rw[info45];rfl) rfl (by kernel_rfl) (hK _ _ trivial ?_)
 clear hK K
 refine wpR_done (by kernel_rfl) ?_
 go_wp2_with fail
 exact bodyPost_ret (v:=.agg #[.string nm,.string sy,.string vn,.string vd,.string wn,.string wd,.string ut]) (res45 Tryz.results61 _ _ (w.heap.size+1) _ rfl rfl ((un HT4).r.setRow _)) rfl ⟨rfl,below_setRow (un HT4).b (by omega) _⟩
end Go.Proofs.YtliadckofhblnaaGreatDoor.Nt

namespace Go.Proofs.YtliadckofhblnaaGreatDoor.Nt
open Go.RowKit
def cT_avogadro:Array Value:=#[.string ⟨#[97,118,111,103,97,100,114,111]⟩,.string ⟨#[110,97,118,111]⟩,.string ⟨#[54,48,50,50,49,52,48,55,54,48,48,48,48,48,48,48,48,48,48,48,48,48,48,48]⟩,.string ⟨#[49]⟩,.string ⟨#[48]⟩,.string ⟨#[49]⟩,.string ⟨#[109,111,108,94,45,49]⟩]
theorem told_avogadro (w:World) (hsp:Spc w) (htb:Tab w):Calls Tryz.prog 61 #[.agg #[I 0,.string ⟨#[110,97,118,111]⟩,.string ⟨#[109,111,108]⟩,.func (.func 127) #[] #[]],.string ⟨#[97,118,111,103,97,100,114,111]⟩] w fun r w'=>r=.returned (.agg cT_avogadro)∧Below w.heap.size w w' :=
 factTold 0 (602214076) (1) (15) (0) (1) (0) dd_avogadro 127 ⟨#[97,118,111,103,97,100,114,111]⟩ ⟨#[110,97,118,111]⟩ ⟨#[109,111,108]⟩ ⟨#[54,48,50,50,49,52,48,55,54,48,48,48,48,48,48,48,48,48,48,48,48,48,48,48]⟩ ⟨#[49]⟩ ⟨#[48]⟩ ⟨#[49]⟩ ⟨#[109,111,108,94,45,49]⟩ w (fun _=>by kernel_rfl)
  (fun W hb=>avogadro_made W (htb.later hb)) (fun W hb=>v_avogadro W (htb.later hb)) (fun W hb=>s_avogadro W (htb.later hb)) (fun W hb=>pow_avogadro W (hsp.later hb) (htb.later hb))
def cT_boltzmann:Array Value:=#[.string ⟨#[98,111,108,116,122,109,97,110,110]⟩,.string ⟨#[107,98,111,108,116,122]⟩,.string ⟨#[49,51,56,48,54,52,57]⟩,.string ⟨#[49,48,48,48,48,48,48,48,48,48,48,48,48,48,48,48,48,48,48,48,48,48,48,48,48,48,48,48,48,48]⟩,.string ⟨#[48]⟩,.string ⟨#[49]⟩,.string ⟨#[109,94,50,32,107,103,32,115,94,45,50,32,75,94,45,49]⟩]
theorem told_boltzmann (w:World) (hsp:Spc w) (htb:Tab w):Calls Tryz.prog 61 #[.agg #[I 1,.string ⟨#[107,98,111,108,116,122]⟩,.string ⟨#[109,32,107,103,32,115,32,75]⟩,.func (.func 128) #[] #[]],.string ⟨#[98,111,108,116,122,109,97,110,110]⟩] w fun r w'=>r=.returned (.agg cT_boltzmann)∧Below w.heap.size w w' :=
 factTold 1 (1380649) (1) (-29) (0) (1) (0) dd_boltzmann 128 ⟨#[98,111,108,116,122,109,97,110,110]⟩ ⟨#[107,98,111,108,116,122]⟩ ⟨#[109,32,107,103,32,115,32,75]⟩ ⟨#[49,51,56,48,54,52,57]⟩ ⟨#[49,48,48,48,48,48,48,48,48,48,48,48,48,48,48,48,48,48,48,48,48,48,48,48,48,48,48,48,48,48]⟩ ⟨#[48]⟩ ⟨#[49]⟩ ⟨#[109,94,50,32,107,103,32,115,94,45,50,32,75,94,45,49]⟩ w (fun _=>by kernel_rfl)
  (fun W hb=>boltzmann_made W (htb.later hb)) (fun W hb=>v_boltzmann W (htb.later hb)) (fun W hb=>s_boltzmann W (htb.later hb)) (fun W hb=>pow_boltzmann W (hsp.later hb) (htb.later hb))
def cT_gas:Array Value:=#[.string ⟨#[103,97,115]⟩,.string ⟨#[114,103,97,115]⟩,.string ⟨#[50,48,55,56,54,49,53,54,53,52,53,51,56,51,49]⟩,.string ⟨#[50,53,48,48,48,48,48,48,48,48,48,48,48,48]⟩,.string ⟨#[48]⟩,.string ⟨#[49]⟩,.string ⟨#[109,94,50,32,107,103,32,115,94,45,50,32,75,94,45,49,32,109,111,108,94,45,49]⟩]
theorem told_gas (w:World) (hsp:Spc w) (htb:Tab w):Calls Tryz.prog 61 #[.agg #[I 2,.string ⟨#[114,103,97,115]⟩,.string ⟨#[109,32,107,103,32,115,32,75,32,109,111,108]⟩,.func (.func 129) #[] #[]],.string ⟨#[103,97,115]⟩] w fun r w'=>r=.returned (.agg cT_gas)∧Below w.heap.size w w' :=
 factTold 2 (831446261815324) (1) (-14) (0) (1) (15) dd_gas 129 ⟨#[103,97,115]⟩ ⟨#[114,103,97,115]⟩ ⟨#[109,32,107,103,32,115,32,75,32,109,111,108]⟩ ⟨#[50,48,55,56,54,49,53,54,53,52,53,51,56,51,49]⟩ ⟨#[50,53,48,48,48,48,48,48,48,48,48,48,48,48]⟩ ⟨#[48]⟩ ⟨#[49]⟩ ⟨#[109,94,50,32,107,103,32,115,94,45,50,32,75,94,45,49,32,109,111,108,94,45,49]⟩ w (fun _=>by kernel_rfl)
  (fun W hb=>gas_made W (htb.later hb)) (fun W hb=>v_gas W (htb.later hb)) (fun W hb=>s_gas W (htb.later hb)) (fun W hb=>pow_gas W (hsp.later hb) (htb.later hb))
def cT_charge:Array Value:=#[.string ⟨#[99,104,97,114,103,101]⟩,.string ⟨#[101,99,104,97,114,103,101]⟩,.string ⟨#[56,48,49,48,56,56,51,49,55]⟩,.string ⟨#[53,48,48,48,48,48,48,48,48,48,48,48,48,48,48,48,48,48,48,48,48,48,48,48,48,48,48,48]⟩,.string ⟨#[48]⟩,.string ⟨#[49]⟩,.string ⟨#[65,32,115]⟩]
theorem told_charge (w:World) (hsp:Spc w) (htb:Tab w):Calls Tryz.prog 61 #[.agg #[I 3,.string ⟨#[101,99,104,97,114,103,101]⟩,.string ⟨#[65,32,115]⟩,.func (.func 130) #[] #[]],.string ⟨#[99,104,97,114,103,101]⟩] w fun r w'=>r=.returned (.agg cT_charge)∧Below w.heap.size w w' :=
 factTold 3 (1602176634) (1) (-28) (0) (1) (0) dd_charge 130 ⟨#[99,104,97,114,103,101]⟩ ⟨#[101,99,104,97,114,103,101]⟩ ⟨#[65,32,115]⟩ ⟨#[56,48,49,48,56,56,51,49,55]⟩ ⟨#[53,48,48,48,48,48,48,48,48,48,48,48,48,48,48,48,48,48,48,48,48,48,48,48,48,48,48,48]⟩ ⟨#[48]⟩ ⟨#[49]⟩ ⟨#[65,32,115]⟩ w (fun _=>by kernel_rfl)
  (fun W hb=>charge_made W (htb.later hb)) (fun W hb=>v_charge W (htb.later hb)) (fun W hb=>s_charge W (htb.later hb)) (fun W hb=>pow_charge W (hsp.later hb) (htb.later hb))
def cT_faraday:Array Value:=#[.string ⟨#[102,97,114,97,100,97,121]⟩,.string ⟨#[102,102,97,114]⟩,.string ⟨#[49,50,48,54,48,54,54,54,53,49,53,52,49,51,55,53,50,51]⟩,.string ⟨#[49,50,53,48,48,48,48,48,48,48,48,48,48]⟩,.string ⟨#[48]⟩,.string ⟨#[49]⟩,.string ⟨#[65,32,115,32,109,111,108,94,45,49]⟩]
theorem told_faraday (w:World) (hsp:Spc w) (htb:Tab w):Calls Tryz.prog 61 #[.agg #[I 4,.string ⟨#[102,102,97,114]⟩,.string ⟨#[65,32,115,32,109,111,108]⟩,.func (.func 131) #[] #[]],.string ⟨#[102,97,114,97,100,97,121]⟩] w fun r w'=>r=.returned (.agg cT_faraday)∧Below w.heap.size w w' :=
 factTold 4 (964853321233100184) (1) (-13) (0) (1) (15) dd_faraday 131 ⟨#[102,97,114,97,100,97,121]⟩ ⟨#[102,102,97,114]⟩ ⟨#[65,32,115,32,109,111,108]⟩ ⟨#[49,50,48,54,48,54,54,54,53,49,53,52,49,51,55,53,50,51]⟩ ⟨#[49,50,53,48,48,48,48,48,48,48,48,48,48]⟩ ⟨#[48]⟩ ⟨#[49]⟩ ⟨#[65,32,115,32,109,111,108,94,45,49]⟩ w (fun _=>by kernel_rfl)
  (fun W hb=>faraday_made W (htb.later hb)) (fun W hb=>v_faraday W (htb.later hb)) (fun W hb=>s_faraday W (htb.later hb)) (fun W hb=>pow_faraday W (hsp.later hb) (htb.later hb))
def cT_electron:Array Value:=#[.string ⟨#[101,108,101,99,116,114,111,110]⟩,.string ⟨#[109,101,108,101,99]⟩,.string ⟨#[49,56,50,49,56,55,54,55,52,48,51]⟩,.string ⟨#[50,48,48,48,48,48,48,48,48,48,48,48,48,48,48,48,48,48,48,48,48,48,48,48,48,48,48,48,48,48,48,48,48,48,48,48,48,48,48,48,48]⟩,.string ⟨#[55]⟩,.string ⟨#[50,53,48,48,48,48,48,48,48,48,48,48,48,48,48,48,48,48,48,48,48,48,48,48,48,48,48,48,48,48,48,48,48,48,48,48,48,48,48,48,48]⟩,.string ⟨#[107,103]⟩]
theorem told_electron (w:World) (hsp:Spc w) (htb:Tab w):Calls Tryz.prog 61 #[.agg #[I 5,.string ⟨#[109,101,108,101,99]⟩,.string ⟨#[107,103]⟩,.func (.func 132) #[] #[]],.string ⟨#[101,108,101,99,116,114,111,110]⟩] w fun r w'=>r=.returned (.agg cT_electron)∧Below w.heap.size w w' :=
 factTold 5 (91093837015) (1) (-41) (28) (1) (-41) dd_electron 132 ⟨#[101,108,101,99,116,114,111,110]⟩ ⟨#[109,101,108,101,99]⟩ ⟨#[107,103]⟩ ⟨#[49,56,50,49,56,55,54,55,52,48,51]⟩ ⟨#[50,48,48,48,48,48,48,48,48,48,48,48,48,48,48,48,48,48,48,48,48,48,48,48,48,48,48,48,48,48,48,48,48,48,48,48,48,48,48,48,48]⟩ ⟨#[55]⟩ ⟨#[50,53,48,48,48,48,48,48,48,48,48,48,48,48,48,48,48,48,48,48,48,48,48,48,48,48,48,48,48,48,48,48,48,48,48,48,48,48,48,48,48]⟩ ⟨#[107,103]⟩ w (fun _=>by kernel_rfl)
  (fun W hb=>electron_made W (htb.later hb)) (fun W hb=>v_electron W (htb.later hb)) (fun W hb=>s_electron W (htb.later hb)) (fun W hb=>pow_electron W (hsp.later hb) (htb.later hb))
def cT_gravitation:Array Value:=#[.string ⟨#[103,114,97,118,105,116,97,116,105,111,110]⟩,.string ⟨#[103,103,114,97,118]⟩,.string ⟨#[54,54,55,52,51]⟩,.string ⟨#[49,48,48,48,48,48,48,48,48,48,48,48,48,48,48,48]⟩,.string ⟨#[51]⟩,.string ⟨#[50,48,48,48,48,48,48,48,48,48,48,48,48,48,48,48]⟩,.string ⟨#[109,94,51,32,107,103,94,45,49,32,115,94,45,50]⟩]
theorem told_gravitation (w:World) (hsp:Spc w) (htb:Tab w):Calls Tryz.prog 61 #[.agg #[I 6,.string ⟨#[103,103,114,97,118]⟩,.string ⟨#[109,32,107,103,32,115]⟩,.func (.func 133) #[] #[]],.string ⟨#[103,114,97,118,105,116,97,116,105,111,110]⟩] w fun r w'=>r=.returned (.agg cT_gravitation)∧Below w.heap.size w w' :=
 factTold 6 (667430) (1) (-16) (15) (1) (-16) dd_gravitation 133 ⟨#[103,114,97,118,105,116,97,116,105,111,110]⟩ ⟨#[103,103,114,97,118]⟩ ⟨#[109,32,107,103,32,115]⟩ ⟨#[54,54,55,52,51]⟩ ⟨#[49,48,48,48,48,48,48,48,48,48,48,48,48,48,48,48]⟩ ⟨#[51]⟩ ⟨#[50,48,48,48,48,48,48,48,48,48,48,48,48,48,48,48]⟩ ⟨#[109,94,51,32,107,103,94,45,49,32,115,94,45,50]⟩ w (fun _=>by kernel_rfl)
  (fun W hb=>gravitation_made W (htb.later hb)) (fun W hb=>v_gravitation W (htb.later hb)) (fun W hb=>s_gravitation W (htb.later hb)) (fun W hb=>pow_gravitation W (hsp.later hb) (htb.later hb))
def cT_gravity:Array Value:=#[.string ⟨#[103,114,97,118,105,116,121]⟩,.string ⟨#[103,101,97,114,116,104]⟩,.string ⟨#[49,57,54,49,51,51]⟩,.string ⟨#[50,48,48,48,48]⟩,.string ⟨#[48]⟩,.string ⟨#[49]⟩,.string ⟨#[109,32,115,94,45,50]⟩]
theorem told_gravity (w:World) (hsp:Spc w) (htb:Tab w):Calls Tryz.prog 61 #[.agg #[I 7,.string ⟨#[103,101,97,114,116,104]⟩,.string ⟨#[109,32,115]⟩,.func (.func 134) #[] #[]],.string ⟨#[103,114,97,118,105,116,121]⟩] w fun r w'=>r=.returned (.agg cT_gravity)∧Below w.heap.size w w' :=
 factTold 7 (980665) (1) (-5) (0) (1) (0) dd_gravity 134 ⟨#[103,114,97,118,105,116,121]⟩ ⟨#[103,101,97,114,116,104]⟩ ⟨#[109,32,115]⟩ ⟨#[49,57,54,49,51,51]⟩ ⟨#[50,48,48,48,48]⟩ ⟨#[48]⟩ ⟨#[49]⟩ ⟨#[109,32,115,94,45,50]⟩ w (fun _=>by kernel_rfl)
  (fun W hb=>gravity_made W (htb.later hb)) (fun W hb=>v_gravity W (htb.later hb)) (fun W hb=>s_gravity W (htb.later hb)) (fun W hb=>pow_gravity W (hsp.later hb) (htb.later hb))
def cT_light:Array Value:=#[.string ⟨#[108,105,103,104,116]⟩,.string ⟨#[99,108,105,103,104,116]⟩,.string ⟨#[50,57,57,55,57,50,52,53,56]⟩,.string ⟨#[49]⟩,.string ⟨#[48]⟩,.string ⟨#[49]⟩,.string ⟨#[109,32,115,94,45,49]⟩]
theorem told_light (w:World) (hsp:Spc w) (htb:Tab w):Calls Tryz.prog 61 #[.agg #[I 8,.string ⟨#[99,108,105,103,104,116]⟩,.string ⟨#[109,32,115]⟩,.func (.func 135) #[] #[]],.string ⟨#[108,105,103,104,116]⟩] w fun r w'=>r=.returned (.agg cT_light)∧Below w.heap.size w w' :=
 factTold 8 (299792458) (1) (0) (0) (1) (0) dd_light 135 ⟨#[108,105,103,104,116]⟩ ⟨#[99,108,105,103,104,116]⟩ ⟨#[109,32,115]⟩ ⟨#[50,57,57,55,57,50,52,53,56]⟩ ⟨#[49]⟩ ⟨#[48]⟩ ⟨#[49]⟩ ⟨#[109,32,115,94,45,49]⟩ w (fun _=>by kernel_rfl)
  (fun W hb=>light_made W (htb.later hb)) (fun W hb=>v_light W (htb.later hb)) (fun W hb=>s_light W (htb.later hb)) (fun W hb=>pow_light W (hsp.later hb) (htb.later hb))
def cT_planck:Array Value:=#[.string ⟨#[112,108,97,110,99,107]⟩,.string ⟨#[104,112,108,97,110,99,107]⟩,.string ⟨#[49,51,50,53,50,49,52,48,51]⟩,.string ⟨#[50,48,48,48,48,48,48,48,48,48,48,48,48,48,48,48,48,48,48,48,48,48,48,48,48,48,48,48,48,48,48,48,48,48,48,48,48,48,48,48,48,48]⟩,.string ⟨#[48]⟩,.string ⟨#[49]⟩,.string ⟨#[109,94,50,32,107,103,32,115,94,45,49]⟩]
theorem told_planck (w:World) (hsp:Spc w) (htb:Tab w):Calls Tryz.prog 61 #[.agg #[I 9,.string ⟨#[104,112,108,97,110,99,107]⟩,.string ⟨#[109,32,107,103,32,115]⟩,.func (.func 136) #[] #[]],.string ⟨#[112,108,97,110,99,107]⟩] w fun r w'=>r=.returned (.agg cT_planck)∧Below w.heap.size w w' :=
 factTold 9 (662607015) (1) (-42) (0) (1) (0) dd_planck 136 ⟨#[112,108,97,110,99,107]⟩ ⟨#[104,112,108,97,110,99,107]⟩ ⟨#[109,32,107,103,32,115]⟩ ⟨#[49,51,50,53,50,49,52,48,51]⟩ ⟨#[50,48,48,48,48,48,48,48,48,48,48,48,48,48,48,48,48,48,48,48,48,48,48,48,48,48,48,48,48,48,48,48,48,48,48,48,48,48,48,48,48,48]⟩ ⟨#[48]⟩ ⟨#[49]⟩ ⟨#[109,94,50,32,107,103,32,115,94,45,49]⟩ w (fun _=>by kernel_rfl)
  (fun W hb=>planck_made W (htb.later hb)) (fun W hb=>v_planck W (htb.later hb)) (fun W hb=>s_planck W (htb.later hb)) (fun W hb=>pow_planck W (hsp.later hb) (htb.later hb))
def cT_josephson:Array Value:=#[.string ⟨#[106,111,115,101,112,104,115,111,110]⟩,.string ⟨#[107,106,111,115]⟩,.string ⟨#[50,49,51,54,50,51,53,53,49,50,48,48,48,48,48,48,48,48,48,48,48,48,48]⟩,.string ⟨#[52,52,49,55,51,56,48,49]⟩,.string ⟨#[48]⟩,.string ⟨#[49]⟩,.string ⟨#[109,94,45,50,32,107,103,94,45,49,32,115,94,50,32,65]⟩]
theorem told_josephson (w:World) (hsp:Spc w) (htb:Tab w):Calls Tryz.prog 61 #[.agg #[I 10,.string ⟨#[107,106,111,115]⟩,.string ⟨#[109,32,107,103,32,115,32,65]⟩,.func (.func 137) #[] #[]],.string ⟨#[106,111,115,101,112,104,115,111,110]⟩] w fun r w'=>r=.returned (.agg cT_josephson)∧Below w.heap.size w w' :=
 factTold 10 (3204353268) (662607015) (14) (0) (662607015) (14) dd_josephson 137 ⟨#[106,111,115,101,112,104,115,111,110]⟩ ⟨#[107,106,111,115]⟩ ⟨#[109,32,107,103,32,115,32,65]⟩ ⟨#[50,49,51,54,50,51,53,53,49,50,48,48,48,48,48,48,48,48,48,48,48,48,48]⟩ ⟨#[52,52,49,55,51,56,48,49]⟩ ⟨#[48]⟩ ⟨#[49]⟩ ⟨#[109,94,45,50,32,107,103,94,45,49,32,115,94,50,32,65]⟩ w (fun _=>by kernel_rfl)
  (fun W hb=>josephson_made W (htb.later hb)) (fun W hb=>v_josephson W (htb.later hb)) (fun W hb=>s_josephson W (htb.later hb)) (fun W hb=>pow_josephson W (hsp.later hb) (htb.later hb))
def cT_klitzing:Array Value:=#[.string ⟨#[107,108,105,116,122,105,110,103]⟩,.string ⟨#[114,107,108,105,116,122]⟩,.string ⟨#[53,53,50,49,55,50,53,49,50,53,48,48,48,48,48,48,48,48,48,48,48,48]⟩,.string ⟨#[50,49,51,57,49,52,49,54,51,56,55,55,57,54,52,49,54,51]⟩,.string ⟨#[48]⟩,.string ⟨#[49]⟩,.string ⟨#[109,94,50,32,107,103,32,115,94,45,51,32,65,94,45,50]⟩]
theorem told_klitzing (w:World) (hsp:Spc w) (htb:Tab w):Calls Tryz.prog 61 #[.agg #[I 11,.string ⟨#[114,107,108,105,116,122]⟩,.string ⟨#[109,32,107,103,32,115,32,65]⟩,.func (.func 138) #[] #[]],.string ⟨#[107,108,105,116,122,105,110,103]⟩] w fun r w'=>r=.returned (.agg cT_klitzing)∧Below w.heap.size w w' :=
 factTold 11 (662607015) (2566969966535569956) (14) (0) (2566969966535569956) (56) dd_klitzing 138 ⟨#[107,108,105,116,122,105,110,103]⟩ ⟨#[114,107,108,105,116,122]⟩ ⟨#[109,32,107,103,32,115,32,65]⟩ ⟨#[53,53,50,49,55,50,53,49,50,53,48,48,48,48,48,48,48,48,48,48,48,48]⟩ ⟨#[50,49,51,57,49,52,49,54,51,56,55,55,57,54,52,49,54,51]⟩ ⟨#[48]⟩ ⟨#[49]⟩ ⟨#[109,94,50,32,107,103,32,115,94,45,51,32,65,94,45,50]⟩ w (fun _=>by kernel_rfl)
  (fun W hb=>klitzing_made W (htb.later hb)) (fun W hb=>v_klitzing W (htb.later hb)) (fun W hb=>s_klitzing W (htb.later hb)) (fun W hb=>pow_klitzing W (hsp.later hb) (htb.later hb))
def cT_proton:Array Value:=#[.string ⟨#[112,114,111,116,111,110]⟩,.string ⟨#[109,112,114,111,116]⟩,.string ⟨#[49,54,55,50,54,50,49,57,50,51,54,57]⟩,.string ⟨#[49,48,48,48,48,48,48,48,48,48,48,48,48,48,48,48,48,48,48,48,48,48,48,48,48,48,48,48,48,48,48,48,48,48,48,48,48,48,48]⟩,.string ⟨#[53,49]⟩,.string ⟨#[49,48,48,48,48,48,48,48,48,48,48,48,48,48,48,48,48,48,48,48,48,48,48,48,48,48,48,48,48,48,48,48,48,48,48,48,48,48,48]⟩,.string ⟨#[107,103]⟩]
theorem told_proton (w:World) (hsp:Spc w) (htb:Tab w):Calls Tryz.prog 61 #[.agg #[I 12,.string ⟨#[109,112,114,111,116]⟩,.string ⟨#[107,103]⟩,.func (.func 139) #[] #[]],.string ⟨#[112,114,111,116,111,110]⟩] w fun r w'=>r=.returned (.agg cT_proton)∧Below w.heap.size w w' :=
 factTold 12 (167262192369) (1) (-38) (51) (1) (-38) dd_proton 139 ⟨#[112,114,111,116,111,110]⟩ ⟨#[109,112,114,111,116]⟩ ⟨#[107,103]⟩ ⟨#[49,54,55,50,54,50,49,57,50,51,54,57]⟩ ⟨#[49,48,48,48,48,48,48,48,48,48,48,48,48,48,48,48,48,48,48,48,48,48,48,48,48,48,48,48,48,48,48,48,48,48,48,48,48,48,48]⟩ ⟨#[53,49]⟩ ⟨#[49,48,48,48,48,48,48,48,48,48,48,48,48,48,48,48,48,48,48,48,48,48,48,48,48,48,48,48,48,48,48,48,48,48,48,48,48,48,48]⟩ ⟨#[107,103]⟩ w (fun _=>by kernel_rfl)
  (fun W hb=>proton_made W (htb.later hb)) (fun W hb=>v_proton W (htb.later hb)) (fun W hb=>s_proton W (htb.later hb)) (fun W hb=>pow_proton W (hsp.later hb) (htb.later hb))
end Go.Proofs.YtliadckofhblnaaGreatDoor.Nt

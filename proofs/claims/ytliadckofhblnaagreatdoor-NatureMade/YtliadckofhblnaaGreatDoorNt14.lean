/- The thirteen constants by their places; what the map of facts holds at a word. -/
import Derived.Test.YtliadckofhblnaaGreatDoorLimb3
import Derived.Test.YtliadckofhblnaaGreatDoorNtFrame
import Derived.Maps.OwnSet
import Derived.Laws.EntriesVeiled
set_option maxHeartbeats 4000000
set_option maxRecDepth 100000
namespace Go.Proofs.YtliadckofhblnaaGreatDoor.Nt
open Go.RowKit
abbrev zC:Array Value:=#[G #[],G #[],G #[],G #[],G #[],G #[],G #[]]
theorem zHn:(Tryz.prog.info? 45).map (·.size)=some 7:=by kernel_rfl
theorem res45 {fn:Func} {p:Tmp} (h:fn.results=#[.cell p 45]) (tmps:Array Value) (w:World) (g:Nat) (vs:Array Value) (hl:vs.size=7) (hp:tmps.getD p undef=.pointer (some ⟨g,0,none⟩)) (ho:zAc w g 45 vs) :
  (results fn tmps).run Tryz.prog w=.ok (.agg vs) w:=by
 rw[zBb h,hp];simp only[asAddr,Sem.run_pure,Result.andThen_ok];rw[run_loadVar_row w g 45 45 vs (0,0) _ ho Tryz.underlying45 rfl (by rw[zHn,hl])]
structure FL (w W:World) (row am:Array Value) (g:Nat):Prop where
 a:zAc W w.heap.size 103 row
 r:zAc W (w.heap.size+1) 45 zC
 x:zAc W g 155 am
 b:Below w.heap.size w W
 n:w.heap.size+1<g
theorem FL.later {w W V:World} {row am:Array Value} {g:Nat} (h:FL w W row am g) (hb:Below W.heap.size W V):FL w V row am g:=⟨h.a.later hb,h.r.later hb,h.x.later hb,h.b.trans (hb.mono h.b.size),h.n⟩
theorem zCq (pl a0 a1 a2 b0 b1 b2:Int) (D:Nat→Int) (f:Nat) (nm sy us vn vd wn wd ut:ByteArray) (w:World)
  (hcf:∀W,(callFunc f #[]).run Tryz.prog W=.ok (.enter f #[]) W)
  (hma:∀W,Below w.heap.size w W→Calls Tryz.prog f #[] W fun r w'=>r=.returned (.agg #[I a0,I a1,I a2,I b0,I b1,I b2,I (D 0),I (D 1),I (D 2),I (D 3),I (D 4),I (D 5),I (D 6),I (D 7)])∧Bw W w')
  (hv:∀W,Below w.heap.size w W→Calls Tryz.prog 140 #[.agg #[I a0,I a1,I a2]] W fun r w'=>r=.returned (.agg #[.string vn,.string vd])∧Bw W w')
  (hs:∀W,Below w.heap.size w W→Calls Tryz.prog 140 #[.agg #[I b0,I b1,I b2]] W fun r w'=>r=.returned (.agg #[.string wn,.string wd])∧Bw W w')
  (hu:∀W,Below w.heap.size w W→Calls Tryz.prog 141 #[.string us,.agg #[I (D 0),I (D 1),I (D 2),I (D 3),I (D 4),I (D 5),I (D 6),I (D 7)]] W fun r w'=>r=.returned (.string ut)∧Bw W w') :
  Calls Tryz.prog 61 #[.agg #[I pl,.string sy,.string us,.func (.func f) #[] #[]],.string nm] w fun r w'=>r=.returned (.agg #[.string nm,.string sy,.string vn,.string vd,.string wn,.string wd,.string ut])∧Bw w w':=by
 obtain⟨V,hV⟩:∃V,V=(w.alloc (.cells #[I pl,.string sy,.string us,.func (.func f) #[] #[]] 103)).alloc (.cells zC 45):=⟨_,rfl⟩;have HA:Hid (zAc V w.heap.size 103 #[I pl,.string sy,.string us,.func (.func f) #[] #[]]):=by rw[hV];exact(zAc.new _ _ _).alloc _
 have HR:Hid (zAc V (w.heap.size+1) 45 zC):=by rw[hV];have h:=zAc.new (w.alloc (.cells #[I pl,.string sy,.string us,.func (.func f) #[] #[]] 103)) zC 45;rw[Dm.size_alloc]at h;exact h
 have HB:Hid (Bw w V):=by rw[hV];exact bA.alloc (by simp) _
 have HMA:=zAb hma;have H1:=zAb hv;have H2:=zAb hs;have H3:=zAb hu;have HV:=zAb hV;clear hV hma hv hs hu;go_enter Tryz.func61,Tryz.ntmps61
 go_upto_region 1 with fail
 rw[←un HV];clear HV;have c3:V.cell? ⟨w.heap.size,3,none⟩=some (.func (.func f) #[] #[]):=(un HA).ub.c 3 _ rfl
 go_wp2_with fail
 refine(un HMA _ (un HB)).mono ?_;rintro e w1 ⟨rfl,hb⟩;have HA1:=zAb ((un HA).later hb);have HR1:=zAb ((un HR).later hb);have HB1:Hid (Bw w w1):=bt HB hb;clear hb c3 HA HR HB hcf HMA
 go_upto_region 2 with (refine zAn 155 14 zBa rfl (.tmp 5) (.tmp 8) rfl w1.heap.size z14 #[I a0,I a1,I a2,I b0,I b1,I b2,I (D 0),I (D 1),I (D 2),I (D 3),I (D 4),I (D 5),I (D 6),I (D 7)] rfl rfl rfl rfl (zAc.new _ _ _) (by kernel_rfl) ?_)
 have hb2:Below w1.heap.size w1 ((w1.alloc (.cells z14 155)).setRow w1.heap.size #[I a0,I a1,I a2,I b0,I b1,I b2,I (D 0),I (D 1),I (D 2),I (D 3),I (D 4),I (D 5),I (D 6),I (D 7)]):=below_setRow (zBx _ _) (Nat.le_refl _) _;have HT0:Hid (FL w ((w1.alloc (.cells z14 155)).setRow w1.heap.size #[I a0,I a1,I a2,I b0,I b1,I b2,I (D 0),I (D 1),I (D 2),I (D 3),I (D 4),I (D 5),I (D 6),I (D 7)]) #[I pl,.string sy,.string us,.func (.func f) #[] #[]] #[I a0,I a1,I a2,I b0,I b1,I b2,I (D 0),I (D 1),I (D 2),I (D 3),I (D 4),I (D 5),I (D 6),I (D 7)] w1.heap.size):=⟨(un HA1).later hb2,(un HR1).later hb2,(zAc.new _ _ _).setRow _,bt HB1 hb2,(un HR1).lt⟩;clear hb2 HA1 HR1 HB1;generalize (w1.alloc (.cells z14 155)).setRow w1.heap.size #[I a0,I a1,I a2,I b0,I b1,I b2,I (D 0),I (D 1),I (D 2),I (D 3),I (D 4),I (D 5),I (D 6),I (D 7)]=w2 at *
 generalize w1.heap.size=g5 at *
 have HT1:Hid (FL w w2.drew #[I pl,.string sy,.string us,.func (.func f) #[] #[]] #[I a0,I a1,I a2,I b0,I b1,I b2,I (D 0),I (D 1),I (D 2),I (D 3),I (D 4),I (D 5),I (D 6),I (D 7)] g5):=(un HT0).later (Below.refl _ _).drew;have HSS:Hid (∀W':World,FL w W' #[I pl,.string sy,.string us,.func (.func f) #[] #[]] #[I a0,I a1,I a2,I b0,I b1,I b2,I (D 0),I (D 1),I (D 2),I (D 3),I (D 4),I (D 5),I (D 6),I (D 7)] g5→W'.cell? ⟨w.heap.size,1,none⟩=some (.string sy)∧W'.cell? ⟨w.heap.size,2,none⟩=some (.string us)∧W'.cell? ⟨g5,0,none⟩=some (I a0)∧W'.cell? ⟨g5,1,none⟩=some (I a1)∧W'.cell? ⟨g5,2,none⟩=some (I a2)∧W'.cell? ⟨g5,3,none⟩=some (I b0)∧W'.cell? ⟨g5,4,none⟩=some (I b1)∧W'.cell? ⟨g5,5,none⟩=some (I b2)∧W'.cell? ⟨g5,6,none⟩=some (I (D 0))∧W'.cell? ⟨g5,7,none⟩=some (I (D 1))∧W'.cell? ⟨g5,8,none⟩=some (I (D 2))∧W'.cell? ⟨g5,9,none⟩=some (I (D 3))∧W'.cell? ⟨g5,10,none⟩=some (I (D 4))∧W'.cell? ⟨g5,11,none⟩=some (I (D 5))∧W'.cell? ⟨g5,12,none⟩=some (I (D 6))∧W'.cell? ⟨g5,13,none⟩=some (I (D 7))):=fun W' h=>⟨h.a.ub.c 1 _ rfl,h.a.ub.c 2 _ rfl,h.x.ub.c 0 _ rfl,h.x.ub.c 1 _ rfl,h.x.ub.c 2 _ rfl,h.x.ub.c 3 _ rfl,h.x.ub.c 4 _ rfl,h.x.ub.c 5 _ rfl,h.x.ub.c 6 _ rfl,h.x.ub.c 7 _ rfl,h.x.ub.c 8 _ rfl,h.x.ub.c 9 _ rfl,h.x.ub.c 10 _ rfl,h.x.ub.c 11 _ rfl,h.x.ub.c 12 _ rfl,h.x.ub.c 13 _ rfl⟩
 have HS0:=zAb (un HSS _ (un HT1));clear HT0;refine zAi 15 (fun W'=>W'.cell? ⟨w.heap.size,1,none⟩=some (.string sy)∧W'.cell? ⟨w.heap.size,2,none⟩=some (.string us)∧W'.cell? ⟨g5,0,none⟩=some (I a0)∧W'.cell? ⟨g5,1,none⟩=some (I a1)∧W'.cell? ⟨g5,2,none⟩=some (I a2)∧W'.cell? ⟨g5,3,none⟩=some (I b0)∧W'.cell? ⟨g5,4,none⟩=some (I b1)∧W'.cell? ⟨g5,5,none⟩=some (I b2)∧W'.cell? ⟨g5,6,none⟩=some (I (D 0))∧W'.cell? ⟨g5,7,none⟩=some (I (D 1))∧W'.cell? ⟨g5,8,none⟩=some (I (D 2))∧W'.cell? ⟨g5,9,none⟩=some (I (D 3))∧W'.cell? ⟨g5,10,none⟩=some (I (D 4))∧W'.cell? ⟨g5,11,none⟩=some (I (D 5))∧W'.cell? ⟨g5,12,none⟩=some (I (D 6))∧W'.cell? ⟨g5,13,none⟩=some (I (D 7))) (fun _=>True) 16 rfl (by kernel_rfl) ?_;generalize w2.drew=U1 at *
 refine wT 0 (.string nm) rfl (Or.inl ⟨by rfl,?_⟩) ⟨un HS0,trivial⟩ ?_
 ·intro W' hW
  go_split_ands
  go_simp
 refine wT 1 (.pointer (some ⟨w.heap.size,1,none⟩)) rfl (Or.inl ⟨by rfl,?_⟩) ⟨un HS0,trivial⟩ ?_
 ·intro W' hW
  go_split_ands
  go_simp
 refine wT 2 (.string sy) rfl (Or.inl ⟨by rfl,?_⟩) ⟨un HS0,trivial⟩ ?_
 ·intro W' hW
  go_split_ands
  go_simp
 refine wT 3 (.pointer (some ⟨g5,0,none⟩)) rfl (Or.inl ⟨by rfl,?_⟩) ⟨un HS0,trivial⟩ ?_
 ·intro W' hW
  go_split_ands
  go_simp
 refine wT 4 (.agg #[I a0,I a1,I a2]) rfl (Or.inl ⟨by rfl,?_⟩) ⟨un HS0,trivial⟩ ?_
 ·intro W' hW
  go_split_ands
  go_simp
 refine wT 6 (.pointer (some ⟨g5,3,none⟩)) rfl (Or.inl ⟨by rfl,?_⟩) ⟨un HS0,trivial⟩ ?_
 ·intro W' hW
  go_split_ands
  go_simp
 refine wT 7 (.agg #[I b0,I b1,I b2]) rfl (Or.inl ⟨by rfl,?_⟩) ⟨un HS0,trivial⟩ ?_
 ·intro W' hW
  go_split_ands
  go_simp
 refine wT 9 (.pointer (some ⟨w.heap.size,2,none⟩)) rfl (Or.inl ⟨by rfl,?_⟩) ⟨un HS0,trivial⟩ ?_
 ·intro W' hW
  go_split_ands
  go_simp
 refine wT 10 (.string us) rfl (Or.inl ⟨by rfl,?_⟩) ⟨un HS0,trivial⟩ ?_
 ·intro W' hW
  go_split_ands
  go_simp
 refine wT 11 (.pointer (some ⟨g5,6,none⟩)) rfl (Or.inl ⟨by rfl,?_⟩) ⟨un HS0,trivial⟩ ?_
 ·intro W' hW
  go_split_ands
  go_simp
 refine wT 12 (.agg #[I (D 0),I (D 1),I (D 2),I (D 3),I (D 4),I (D 5),I (D 6),I (D 7)]) rfl (Or.inl ⟨by rfl,?_⟩) ⟨un HS0,trivial⟩ ?_
 ·intro W' hW
  go_split_ands
  go_simp
 refine wO 5 rfl rfl (fun K hK=>?_)
 go_simp
 refine(un H1 _ (un HT1).b).mono ?_;rintro e U2 ⟨rfl,hb⟩;have HT2:=zAb ((un HT1).later hb);clear hb HT1;refine hK _ _ ⟨un HSS _ (un HT2),trivial⟩ ?_;clear hK K;refine wO 8 rfl rfl (fun K hK=>?_)
 go_simp
 refine(un H2 _ (un HT2).b).mono ?_;rintro e U3 ⟨rfl,hb⟩;have HT3:=zAb ((un HT2).later hb);clear hb HT2;refine hK _ _ ⟨un HSS _ (un HT3),trivial⟩ ?_;clear hK K;refine wO 13 rfl rfl (fun K hK=>?_)
 go_simp
 refine(un H3 _ (un HT3).b).mono ?_;rintro e U4 ⟨rfl,hb⟩;have HT4:=zAb ((un HT3).later hb);clear hb HT3;refine hK _ _ ⟨un HSS _ (un HT4),trivial⟩ ?_;clear hK K;refine wO 14 rfl rfl (fun K hK=>?_)
 go_simp
 refine hK _ _ ⟨un HSS _ (un HT4),trivial⟩ ?_;clear hK K;refine wL 15 rfl rfl (fun K hK=>?_);refine wp_store_row 45 (.tmp 4) (.tmp 23) rfl (w.heap.size+1) #[.string nm,.string sy,.string vn,.string vd,.string wn,.string wd,.string ut] (by kernel_rfl) (by kernel_rfl) 45 _ (un HT4).r (by rw[zHn];rfl) rfl (by kernel_rfl) (hK _ _ trivial ?_);clear hK K;refine wDn ?_
 go_wp2_with fail
 exact bodyPost_ret (v:=.agg #[.string nm,.string sy,.string vn,.string vd,.string wn,.string wd,.string ut]) (res45 Tryz.results61 _ _ (w.heap.size+1) _ rfl rfl ((un HT4).r.setRow _)) rfl ⟨rfl,below_setRow (un HT4).b (by omega) _⟩
def cT_avogadro:Array Value:=#[G #[97,118,111,103,97,100,114,111],G #[110,97,118,111],G #[54,48,50,50,49,52,48,55,54,48,48,48,48,48,48,48,48,48,48,48,48,48,48,48],G #[49],G #[48],G #[49],G #[109,111,108,94,45,49]]
theorem told_avogadro (w:World) (hsp:Spc w) (htb:Tab w):Calls Tryz.prog 61 #[.agg #[I 0,G #[110,97,118,111],G #[109,111,108],.func (.func 127) #[] #[]],G #[97,118,111,103,97,100,114,111]] w fun r w'=>r=.returned (.agg cT_avogadro)∧Bw w w' :=
 zCq 0 (602214076) (1) (15) (0) (1) (0) dd_avogadro 127 ⟨#[97,118,111,103,97,100,114,111]⟩ ⟨#[110,97,118,111]⟩ ⟨#[109,111,108]⟩ ⟨#[54,48,50,50,49,52,48,55,54,48,48,48,48,48,48,48,48,48,48,48,48,48,48,48]⟩ ⟨#[49]⟩ ⟨#[48]⟩ ⟨#[49]⟩ ⟨#[109,111,108,94,45,49]⟩ w (fun _=>by kernel_rfl)
  (fun W hb=>zFp W (htb.later hb)) (fun W hb=>v_avogadro W (htb.later hb)) (fun W hb=>s_avogadro W (htb.later hb)) (fun W hb=>pow_avogadro W (hsp.later hb) (htb.later hb))
def cT_boltzmann:Array Value:=#[G #[98,111,108,116,122,109,97,110,110],G #[107,98,111,108,116,122],G #[49,51,56,48,54,52,57],G #[49,48,48,48,48,48,48,48,48,48,48,48,48,48,48,48,48,48,48,48,48,48,48,48,48,48,48,48,48,48],G #[48],G #[49],G #[109,94,50,32,107,103,32,115,94,45,50,32,75,94,45,49]]
theorem told_boltzmann (w:World) (hsp:Spc w) (htb:Tab w):Calls Tryz.prog 61 #[.agg #[I 1,G #[107,98,111,108,116,122],G #[109,32,107,103,32,115,32,75],.func (.func 128) #[] #[]],G #[98,111,108,116,122,109,97,110,110]] w fun r w'=>r=.returned (.agg cT_boltzmann)∧Bw w w' :=
 zCq 1 (1380649) (1) (-29) (0) (1) (0) dd_boltzmann 128 ⟨#[98,111,108,116,122,109,97,110,110]⟩ ⟨#[107,98,111,108,116,122]⟩ ⟨#[109,32,107,103,32,115,32,75]⟩ ⟨#[49,51,56,48,54,52,57]⟩ ⟨#[49,48,48,48,48,48,48,48,48,48,48,48,48,48,48,48,48,48,48,48,48,48,48,48,48,48,48,48,48,48]⟩ ⟨#[48]⟩ ⟨#[49]⟩ ⟨#[109,94,50,32,107,103,32,115,94,45,50,32,75,94,45,49]⟩ w (fun _=>by kernel_rfl)
  (fun W hb=>zGp W (htb.later hb)) (fun W hb=>v_boltzmann W (htb.later hb)) (fun W hb=>s_boltzmann W (htb.later hb)) (fun W hb=>pow_boltzmann W (hsp.later hb) (htb.later hb))
def cT_gas:Array Value:=#[G #[103,97,115],G #[114,103,97,115],G #[50,48,55,56,54,49,53,54,53,52,53,51,56,51,49],G #[50,53,48,48,48,48,48,48,48,48,48,48,48,48],G #[48],G #[49],G #[109,94,50,32,107,103,32,115,94,45,50,32,75,94,45,49,32,109,111,108,94,45,49]]
theorem told_gas (w:World) (hsp:Spc w) (htb:Tab w):Calls Tryz.prog 61 #[.agg #[I 2,G #[114,103,97,115],G #[109,32,107,103,32,115,32,75,32,109,111,108],.func (.func 129) #[] #[]],G #[103,97,115]] w fun r w'=>r=.returned (.agg cT_gas)∧Bw w w' :=
 zCq 2 (831446261815324) (1) (-14) (0) (1) (15) dd_gas 129 ⟨#[103,97,115]⟩ ⟨#[114,103,97,115]⟩ ⟨#[109,32,107,103,32,115,32,75,32,109,111,108]⟩ ⟨#[50,48,55,56,54,49,53,54,53,52,53,51,56,51,49]⟩ ⟨#[50,53,48,48,48,48,48,48,48,48,48,48,48,48]⟩ ⟨#[48]⟩ ⟨#[49]⟩ ⟨#[109,94,50,32,107,103,32,115,94,45,50,32,75,94,45,49,32,109,111,108,94,45,49]⟩ w (fun _=>by kernel_rfl)
  (fun W hb=>gas_made W (htb.later hb)) (fun W hb=>v_gas W (htb.later hb)) (fun W hb=>s_gas W (htb.later hb)) (fun W hb=>pow_gas W (hsp.later hb) (htb.later hb))
def cT_charge:Array Value:=#[G #[99,104,97,114,103,101],G #[101,99,104,97,114,103,101],G #[56,48,49,48,56,56,51,49,55],G #[53,48,48,48,48,48,48,48,48,48,48,48,48,48,48,48,48,48,48,48,48,48,48,48,48,48,48,48],G #[48],G #[49],G #[65,32,115]]
theorem told_charge (w:World) (hsp:Spc w) (htb:Tab w):Calls Tryz.prog 61 #[.agg #[I 3,G #[101,99,104,97,114,103,101],G #[65,32,115],.func (.func 130) #[] #[]],G #[99,104,97,114,103,101]] w fun r w'=>r=.returned (.agg cT_charge)∧Bw w w' :=
 zCq 3 (1602176634) (1) (-28) (0) (1) (0) dd_charge 130 ⟨#[99,104,97,114,103,101]⟩ ⟨#[101,99,104,97,114,103,101]⟩ ⟨#[65,32,115]⟩ ⟨#[56,48,49,48,56,56,51,49,55]⟩ ⟨#[53,48,48,48,48,48,48,48,48,48,48,48,48,48,48,48,48,48,48,48,48,48,48,48,48,48,48,48]⟩ ⟨#[48]⟩ ⟨#[49]⟩ ⟨#[65,32,115]⟩ w (fun _=>by kernel_rfl)
  (fun W hb=>zFk W (htb.later hb)) (fun W hb=>v_charge W (htb.later hb)) (fun W hb=>s_charge W (htb.later hb)) (fun W hb=>pow_charge W (hsp.later hb) (htb.later hb))
def cT_faraday:Array Value:=#[G #[102,97,114,97,100,97,121],G #[102,102,97,114],G #[49,50,48,54,48,54,54,54,53,49,53,52,49,51,55,53,50,51],G #[49,50,53,48,48,48,48,48,48,48,48,48,48],G #[48],G #[49],G #[65,32,115,32,109,111,108,94,45,49]]
theorem told_faraday (w:World) (hsp:Spc w) (htb:Tab w):Calls Tryz.prog 61 #[.agg #[I 4,G #[102,102,97,114],G #[65,32,115,32,109,111,108],.func (.func 131) #[] #[]],G #[102,97,114,97,100,97,121]] w fun r w'=>r=.returned (.agg cT_faraday)∧Bw w w' :=
 zCq 4 (964853321233100184) (1) (-13) (0) (1) (15) dd_faraday 131 ⟨#[102,97,114,97,100,97,121]⟩ ⟨#[102,102,97,114]⟩ ⟨#[65,32,115,32,109,111,108]⟩ ⟨#[49,50,48,54,48,54,54,54,53,49,53,52,49,51,55,53,50,51]⟩ ⟨#[49,50,53,48,48,48,48,48,48,48,48,48,48]⟩ ⟨#[48]⟩ ⟨#[49]⟩ ⟨#[65,32,115,32,109,111,108,94,45,49]⟩ w (fun _=>by kernel_rfl)
  (fun W hb=>faraday_made W (htb.later hb)) (fun W hb=>v_faraday W (htb.later hb)) (fun W hb=>s_faraday W (htb.later hb)) (fun W hb=>pow_faraday W (hsp.later hb) (htb.later hb))
def cT_electron:Array Value:=#[G #[101,108,101,99,116,114,111,110],G #[109,101,108,101,99],G #[49,56,50,49,56,55,54,55,52,48,51],G #[50,48,48,48,48,48,48,48,48,48,48,48,48,48,48,48,48,48,48,48,48,48,48,48,48,48,48,48,48,48,48,48,48,48,48,48,48,48,48,48,48],G #[55],G #[50,53,48,48,48,48,48,48,48,48,48,48,48,48,48,48,48,48,48,48,48,48,48,48,48,48,48,48,48,48,48,48,48,48,48,48,48,48,48,48,48],G #[107,103]]
theorem told_electron (w:World) (hsp:Spc w) (htb:Tab w):Calls Tryz.prog 61 #[.agg #[I 5,G #[109,101,108,101,99],G #[107,103],.func (.func 132) #[] #[]],G #[101,108,101,99,116,114,111,110]] w fun r w'=>r=.returned (.agg cT_electron)∧Bw w w' :=
 zCq 5 (91093837015) (1) (-41) (28) (1) (-41) dd_electron 132 ⟨#[101,108,101,99,116,114,111,110]⟩ ⟨#[109,101,108,101,99]⟩ ⟨#[107,103]⟩ ⟨#[49,56,50,49,56,55,54,55,52,48,51]⟩ ⟨#[50,48,48,48,48,48,48,48,48,48,48,48,48,48,48,48,48,48,48,48,48,48,48,48,48,48,48,48,48,48,48,48,48,48,48,48,48,48,48,48,48]⟩ ⟨#[55]⟩ ⟨#[50,53,48,48,48,48,48,48,48,48,48,48,48,48,48,48,48,48,48,48,48,48,48,48,48,48,48,48,48,48,48,48,48,48,48,48,48,48,48,48,48]⟩ ⟨#[107,103]⟩ w (fun _=>by kernel_rfl)
  (fun W hb=>electron_made W (htb.later hb)) (fun W hb=>v_electron W (htb.later hb)) (fun W hb=>s_electron W (htb.later hb)) (fun W hb=>pow_electron W (hsp.later hb) (htb.later hb))
def zGn:Array Value:=#[G #[103,114,97,118,105,116,97,116,105,111,110],G #[103,103,114,97,118],G #[54,54,55,52,51],G #[49,48,48,48,48,48,48,48,48,48,48,48,48,48,48,48],G #[51],G #[50,48,48,48,48,48,48,48,48,48,48,48,48,48,48,48],G #[109,94,51,32,107,103,94,45,49,32,115,94,45,50]]
theorem told_gravitation (w:World) (hsp:Spc w) (htb:Tab w):Calls Tryz.prog 61 #[.agg #[I 6,G #[103,103,114,97,118],G #[109,32,107,103,32,115],.func (.func 133) #[] #[]],G #[103,114,97,118,105,116,97,116,105,111,110]] w fun r w'=>r=.returned (.agg zGn)∧Bw w w' :=
 zCq 6 (667430) (1) (-16) (15) (1) (-16) zGm 133 ⟨#[103,114,97,118,105,116,97,116,105,111,110]⟩ ⟨#[103,103,114,97,118]⟩ ⟨#[109,32,107,103,32,115]⟩ ⟨#[54,54,55,52,51]⟩ ⟨#[49,48,48,48,48,48,48,48,48,48,48,48,48,48,48,48]⟩ ⟨#[51]⟩ ⟨#[50,48,48,48,48,48,48,48,48,48,48,48,48,48,48,48]⟩ ⟨#[109,94,51,32,107,103,94,45,49,32,115,94,45,50]⟩ w (fun _=>by kernel_rfl)
  (fun W hb=>gravitation_made W (htb.later hb)) (fun W hb=>v_gravitation W (htb.later hb)) (fun W hb=>s_gravitation W (htb.later hb)) (fun W hb=>pow_gravitation W (hsp.later hb) (htb.later hb))
def cT_gravity:Array Value:=#[G #[103,114,97,118,105,116,121],G #[103,101,97,114,116,104],G #[49,57,54,49,51,51],G #[50,48,48,48,48],G #[48],G #[49],G #[109,32,115,94,45,50]]
theorem told_gravity (w:World) (hsp:Spc w) (htb:Tab w):Calls Tryz.prog 61 #[.agg #[I 7,G #[103,101,97,114,116,104],G #[109,32,115],.func (.func 134) #[] #[]],G #[103,114,97,118,105,116,121]] w fun r w'=>r=.returned (.agg cT_gravity)∧Bw w w' :=
 zCq 7 (980665) (1) (-5) (0) (1) (0) dd_gravity 134 ⟨#[103,114,97,118,105,116,121]⟩ ⟨#[103,101,97,114,116,104]⟩ ⟨#[109,32,115]⟩ ⟨#[49,57,54,49,51,51]⟩ ⟨#[50,48,48,48,48]⟩ ⟨#[48]⟩ ⟨#[49]⟩ ⟨#[109,32,115,94,45,50]⟩ w (fun _=>by kernel_rfl)
  (fun W hb=>gravity_made W (htb.later hb)) (fun W hb=>v_gravity W (htb.later hb)) (fun W hb=>s_gravity W (htb.later hb)) (fun W hb=>pow_gravity W (hsp.later hb) (htb.later hb))
def cT_light:Array Value:=#[G #[108,105,103,104,116],G #[99,108,105,103,104,116],G #[50,57,57,55,57,50,52,53,56],G #[49],G #[48],G #[49],G #[109,32,115,94,45,49]]
theorem told_light (w:World) (hsp:Spc w) (htb:Tab w):Calls Tryz.prog 61 #[.agg #[I 8,G #[99,108,105,103,104,116],G #[109,32,115],.func (.func 135) #[] #[]],G #[108,105,103,104,116]] w fun r w'=>r=.returned (.agg cT_light)∧Bw w w' :=
 zCq 8 (299792458) (1) (0) (0) (1) (0) dd_light 135 ⟨#[108,105,103,104,116]⟩ ⟨#[99,108,105,103,104,116]⟩ ⟨#[109,32,115]⟩ ⟨#[50,57,57,55,57,50,52,53,56]⟩ ⟨#[49]⟩ ⟨#[48]⟩ ⟨#[49]⟩ ⟨#[109,32,115,94,45,49]⟩ w (fun _=>by kernel_rfl)
  (fun W hb=>light_made W (htb.later hb)) (fun W hb=>v_light W (htb.later hb)) (fun W hb=>s_light W (htb.later hb)) (fun W hb=>pow_light W (hsp.later hb) (htb.later hb))
def cT_planck:Array Value:=#[G #[112,108,97,110,99,107],G #[104,112,108,97,110,99,107],G #[49,51,50,53,50,49,52,48,51],G #[50,48,48,48,48,48,48,48,48,48,48,48,48,48,48,48,48,48,48,48,48,48,48,48,48,48,48,48,48,48,48,48,48,48,48,48,48,48,48,48,48,48],G #[48],G #[49],G #[109,94,50,32,107,103,32,115,94,45,49]]
theorem told_planck (w:World) (hsp:Spc w) (htb:Tab w):Calls Tryz.prog 61 #[.agg #[I 9,G #[104,112,108,97,110,99,107],G #[109,32,107,103,32,115],.func (.func 136) #[] #[]],G #[112,108,97,110,99,107]] w fun r w'=>r=.returned (.agg cT_planck)∧Bw w w' :=
 zCq 9 (662607015) (1) (-42) (0) (1) (0) dd_planck 136 ⟨#[112,108,97,110,99,107]⟩ ⟨#[104,112,108,97,110,99,107]⟩ ⟨#[109,32,107,103,32,115]⟩ ⟨#[49,51,50,53,50,49,52,48,51]⟩ ⟨#[50,48,48,48,48,48,48,48,48,48,48,48,48,48,48,48,48,48,48,48,48,48,48,48,48,48,48,48,48,48,48,48,48,48,48,48,48,48,48,48,48,48]⟩ ⟨#[48]⟩ ⟨#[49]⟩ ⟨#[109,94,50,32,107,103,32,115,94,45,49]⟩ w (fun _=>by kernel_rfl)
  (fun W hb=>zGr W (htb.later hb)) (fun W hb=>v_planck W (htb.later hb)) (fun W hb=>s_planck W (htb.later hb)) (fun W hb=>pow_planck W (hsp.later hb) (htb.later hb))
def cT_josephson:Array Value:=#[G #[106,111,115,101,112,104,115,111,110],G #[107,106,111,115],G #[50,49,51,54,50,51,53,53,49,50,48,48,48,48,48,48,48,48,48,48,48,48,48],G #[52,52,49,55,51,56,48,49],G #[48],G #[49],G #[109,94,45,50,32,107,103,94,45,49,32,115,94,50,32,65]]
theorem told_josephson (w:World) (hsp:Spc w) (htb:Tab w):Calls Tryz.prog 61 #[.agg #[I 10,G #[107,106,111,115],G #[109,32,107,103,32,115,32,65],.func (.func 137) #[] #[]],G #[106,111,115,101,112,104,115,111,110]] w fun r w'=>r=.returned (.agg cT_josephson)∧Bw w w' :=
 zCq 10 (3204353268) (662607015) (14) (0) (662607015) (14) dd_josephson 137 ⟨#[106,111,115,101,112,104,115,111,110]⟩ ⟨#[107,106,111,115]⟩ ⟨#[109,32,107,103,32,115,32,65]⟩ ⟨#[50,49,51,54,50,51,53,53,49,50,48,48,48,48,48,48,48,48,48,48,48,48,48]⟩ ⟨#[52,52,49,55,51,56,48,49]⟩ ⟨#[48]⟩ ⟨#[49]⟩ ⟨#[109,94,45,50,32,107,103,94,45,49,32,115,94,50,32,65]⟩ w (fun _=>by kernel_rfl)
  (fun W hb=>josephson_made W (htb.later hb)) (fun W hb=>v_josephson W (htb.later hb)) (fun W hb=>s_josephson W (htb.later hb)) (fun W hb=>pow_josephson W (hsp.later hb) (htb.later hb))
def cT_klitzing:Array Value:=#[G #[107,108,105,116,122,105,110,103],G #[114,107,108,105,116,122],G #[53,53,50,49,55,50,53,49,50,53,48,48,48,48,48,48,48,48,48,48,48,48],G #[50,49,51,57,49,52,49,54,51,56,55,55,57,54,52,49,54,51],G #[48],G #[49],G #[109,94,50,32,107,103,32,115,94,45,51,32,65,94,45,50]]
theorem told_klitzing (w:World) (hsp:Spc w) (htb:Tab w):Calls Tryz.prog 61 #[.agg #[I 11,G #[114,107,108,105,116,122],G #[109,32,107,103,32,115,32,65],.func (.func 138) #[] #[]],G #[107,108,105,116,122,105,110,103]] w fun r w'=>r=.returned (.agg cT_klitzing)∧Bw w w' :=
 zCq 11 (662607015) (2566969966535569956) (14) (0) (2566969966535569956) (56) dd_klitzing 138 ⟨#[107,108,105,116,122,105,110,103]⟩ ⟨#[114,107,108,105,116,122]⟩ ⟨#[109,32,107,103,32,115,32,65]⟩ ⟨#[53,53,50,49,55,50,53,49,50,53,48,48,48,48,48,48,48,48,48,48,48,48]⟩ ⟨#[50,49,51,57,49,52,49,54,51,56,55,55,57,54,52,49,54,51]⟩ ⟨#[48]⟩ ⟨#[49]⟩ ⟨#[109,94,50,32,107,103,32,115,94,45,51,32,65,94,45,50]⟩ w (fun _=>by kernel_rfl)
  (fun W hb=>klitzing_made W (htb.later hb)) (fun W hb=>v_klitzing W (htb.later hb)) (fun W hb=>s_klitzing W (htb.later hb)) (fun W hb=>pow_klitzing W (hsp.later hb) (htb.later hb))
def cT_proton:Array Value:=#[G #[112,114,111,116,111,110],G #[109,112,114,111,116],G #[49,54,55,50,54,50,49,57,50,51,54,57],G #[49,48,48,48,48,48,48,48,48,48,48,48,48,48,48,48,48,48,48,48,48,48,48,48,48,48,48,48,48,48,48,48,48,48,48,48,48,48,48],G #[53,49],G #[49,48,48,48,48,48,48,48,48,48,48,48,48,48,48,48,48,48,48,48,48,48,48,48,48,48,48,48,48,48,48,48,48,48,48,48,48,48,48],G #[107,103]]
theorem told_proton (w:World) (hsp:Spc w) (htb:Tab w):Calls Tryz.prog 61 #[.agg #[I 12,G #[109,112,114,111,116],G #[107,103],.func (.func 139) #[] #[]],G #[112,114,111,116,111,110]] w fun r w'=>r=.returned (.agg cT_proton)∧Bw w w' :=
 zCq 12 (167262192369) (1) (-38) (51) (1) (-38) dd_proton 139 ⟨#[112,114,111,116,111,110]⟩ ⟨#[109,112,114,111,116]⟩ ⟨#[107,103]⟩ ⟨#[49,54,55,50,54,50,49,57,50,51,54,57]⟩ ⟨#[49,48,48,48,48,48,48,48,48,48,48,48,48,48,48,48,48,48,48,48,48,48,48,48,48,48,48,48,48,48,48,48,48,48,48,48,48,48,48]⟩ ⟨#[53,49]⟩ ⟨#[49,48,48,48,48,48,48,48,48,48,48,48,48,48,48,48,48,48,48,48,48,48,48,48,48,48,48,48,48,48,48,48,48,48,48,48,48,48,48]⟩ ⟨#[107,103]⟩ w (fun _=>by kernel_rfl)
  (fun W hb=>proton_made W (htb.later hb)) (fun W hb=>v_proton W (htb.later hb)) (fun W hb=>s_proton W (htb.later hb)) (fun W hb=>pow_proton W (hsp.later hb) (htb.later hb))
end Go.Proofs.YtliadckofhblnaaGreatDoor.Nt
namespace Go.Proofs.YtliadckofhblnaaGreatDoor.Nt
open Go.RowKit Go.Maps Go.ChangeMaps Go.WideMaps
def fNm:Nat→ByteArray
 | 0=>⟨#[97,118,111,103,97,100,114,111]⟩
 | 1=>⟨#[98,111,108,116,122,109,97,110,110]⟩
 | 2=>⟨#[103,97,115]⟩
 | 3=>⟨#[99,104,97,114,103,101]⟩
 | 4=>⟨#[102,97,114,97,100,97,121]⟩
 | 5=>⟨#[101,108,101,99,116,114,111,110]⟩
 | 6=>⟨#[103,114,97,118,105,116,97,116,105,111,110]⟩
 | 7=>⟨#[103,114,97,118,105,116,121]⟩
 | 8=>⟨#[108,105,103,104,116]⟩
 | 9=>⟨#[112,108,97,110,99,107]⟩
 | 10=>⟨#[106,111,115,101,112,104,115,111,110]⟩
 | 11=>⟨#[107,108,105,116,122,105,110,103]⟩
 | _=>⟨#[112,114,111,116,111,110]⟩
def fSy:Nat→ByteArray
 | 0=>⟨#[110,97,118,111]⟩
 | 1=>⟨#[107,98,111,108,116,122]⟩
 | 2=>⟨#[114,103,97,115]⟩
 | 3=>⟨#[101,99,104,97,114,103,101]⟩
 | 4=>⟨#[102,102,97,114]⟩
 | 5=>⟨#[109,101,108,101,99]⟩
 | 6=>⟨#[103,103,114,97,118]⟩
 | 7=>⟨#[103,101,97,114,116,104]⟩
 | 8=>⟨#[99,108,105,103,104,116]⟩
 | 9=>⟨#[104,112,108,97,110,99,107]⟩
 | 10=>⟨#[107,106,111,115]⟩
 | 11=>⟨#[114,107,108,105,116,122]⟩
 | _=>⟨#[109,112,114,111,116]⟩
def fUs:Nat→ByteArray
 | 0=>⟨#[109,111,108]⟩
 | 1=>⟨#[109,32,107,103,32,115,32,75]⟩
 | 2=>⟨#[109,32,107,103,32,115,32,75,32,109,111,108]⟩
 | 3=>⟨#[65,32,115]⟩
 | 4=>⟨#[65,32,115,32,109,111,108]⟩
 | 5=>⟨#[107,103]⟩
 | 6=>⟨#[109,32,107,103,32,115]⟩
 | 7=>⟨#[109,32,115]⟩
 | 8=>⟨#[109,32,115]⟩
 | 9=>⟨#[109,32,107,103,32,115]⟩
 | 10=>⟨#[109,32,107,103,32,115,32,65]⟩
 | 11=>⟨#[109,32,107,103,32,115,32,65]⟩
 | _=>⟨#[107,103]⟩
def fFn:Nat→Nat
 | 0=>127
 | 1=>128
 | 2=>129
 | 3=>130
 | 4=>131
 | 5=>132
 | 6=>133
 | 7=>134
 | 8=>135
 | 9=>136
 | 10=>137
 | 11=>138
 | _=>139
def fcR:Value→Option (DataW Unit×List MemPlace)
 | .agg ⟨[.int .i64 p,.string s,.string u,.func (.func f) ⟨[]⟩ ⟨[]⟩]⟩=>if 0≤p∧p<13∧s=fSy p.toNat∧u=fUs p.toNat∧f=fFn p.toNat then some (.lit (.int .i64 p),[])else none
 | .agg ⟨[.int .i64 0,.string ⟨⟨[]⟩⟩,.string ⟨⟨[]⟩⟩,.nilFunc]⟩=>some (.lit (.int .i64 (-1)),[])
 | _=>none
theorem fcR_zero:fcR (.agg #[.int .i64 0,.string ⟨#[]⟩,.string ⟨#[]⟩,.nilFunc])=some (.lit (.int .i64 (-1)),[]):=rfl
def fcV (k:Nat):Value:=.agg #[.int .i64 (k:Int),.string (fSy k),.string (fUs k),.func (.func (fFn k)) #[] #[]]
theorem fcR_inv {v:Value} {p:Int} {ps:List MemPlace} (h:fcR v=some (.lit (.int .i64 p),ps)) (h0:0≤p):p<13∧v=fcV p.toNat:=by
 unfold fcR at h
 split at h
 ·split at h
  ·rename_i hc
   obtain⟨h1,h2,rfl,rfl,rfl⟩:=hc
   cases h
   refine⟨h2,?_⟩
   unfold fcV
   rw[Int.toNat_of_nonneg h1]
  ·cases h
 ·cases h
  omega
 ·cases h
def fcD:Nat→DataW Unit
 | 0=>.map []
 | k+1=>(fcD k).put (.string (fNm k).data.toList) (.lit (.int .i64 (k:Int)))
theorem zDm:Tryz.prog.underlying 99=some (.map 9 103):=by kernel_rfl
theorem fcR_0:fcR (Value.agg #[.int .i64 0,.string ⟨#[110,97,118,111]⟩,.string ⟨#[109,111,108]⟩,.func (.func 127) #[] #[]])=some (.lit (.int .i64 0),[]):=by kernel_rfl
theorem fcR_1:fcR (Value.agg #[.int .i64 1,.string ⟨#[107,98,111,108,116,122]⟩,.string ⟨#[109,32,107,103,32,115,32,75]⟩,.func (.func 128) #[] #[]])=some (.lit (.int .i64 1),[]):=by kernel_rfl
theorem fcR_2:fcR (Value.agg #[.int .i64 2,.string ⟨#[114,103,97,115]⟩,.string ⟨#[109,32,107,103,32,115,32,75,32,109,111,108]⟩,.func (.func 129) #[] #[]])=some (.lit (.int .i64 2),[]):=by kernel_rfl
theorem fcR_3:fcR (Value.agg #[.int .i64 3,.string ⟨#[101,99,104,97,114,103,101]⟩,.string ⟨#[65,32,115]⟩,.func (.func 130) #[] #[]])=some (.lit (.int .i64 3),[]):=by kernel_rfl
theorem fcR_4:fcR (Value.agg #[.int .i64 4,.string ⟨#[102,102,97,114]⟩,.string ⟨#[65,32,115,32,109,111,108]⟩,.func (.func 131) #[] #[]])=some (.lit (.int .i64 4),[]):=by kernel_rfl
theorem fcR_5:fcR (Value.agg #[.int .i64 5,.string ⟨#[109,101,108,101,99]⟩,.string ⟨#[107,103]⟩,.func (.func 132) #[] #[]])=some (.lit (.int .i64 5),[]):=by kernel_rfl
theorem fcR_6:fcR (Value.agg #[.int .i64 6,.string ⟨#[103,103,114,97,118]⟩,.string ⟨#[109,32,107,103,32,115]⟩,.func (.func 133) #[] #[]])=some (.lit (.int .i64 6),[]):=by kernel_rfl
theorem fcR_7:fcR (Value.agg #[.int .i64 7,.string ⟨#[103,101,97,114,116,104]⟩,.string ⟨#[109,32,115]⟩,.func (.func 134) #[] #[]])=some (.lit (.int .i64 7),[]):=by kernel_rfl
theorem fcR_8:fcR (Value.agg #[.int .i64 8,.string ⟨#[99,108,105,103,104,116]⟩,.string ⟨#[109,32,115]⟩,.func (.func 135) #[] #[]])=some (.lit (.int .i64 8),[]):=by kernel_rfl
theorem fcR_9:fcR (Value.agg #[.int .i64 9,.string ⟨#[104,112,108,97,110,99,107]⟩,.string ⟨#[109,32,107,103,32,115]⟩,.func (.func 136) #[] #[]])=some (.lit (.int .i64 9),[]):=by kernel_rfl
theorem fcR_10:fcR (Value.agg #[.int .i64 10,.string ⟨#[107,106,111,115]⟩,.string ⟨#[109,32,107,103,32,115,32,65]⟩,.func (.func 137) #[] #[]])=some (.lit (.int .i64 10),[]):=by kernel_rfl
theorem fcR_11:fcR (Value.agg #[.int .i64 11,.string ⟨#[114,107,108,105,116,122]⟩,.string ⟨#[109,32,107,103,32,115,32,65]⟩,.func (.func 138) #[] #[]])=some (.lit (.int .i64 11),[]):=by kernel_rfl
theorem fcR_12:fcR (Value.agg #[.int .i64 12,.string ⟨#[109,112,114,111,116]⟩,.string ⟨#[107,103]⟩,.func (.func 139) #[] #[]])=some (.lit (.int .i64 12),[]):=by kernel_rfl
theorem zEz (s:ByteArray) (h:s.size≤20):keyOf Tryz.prog 9 (.string s)=some (.string s.data.toList):=keyOf_string_mk Tryz.underlying9 (by unfold maxLen;omega)
theorem facts_any (w:World):Calls Tryz.prog 60 #[] w fun r w'=>r=.returned (.map (some w.heap.size))∧w'.ownsMap Tryz.prog 9 fcR w.heap.size 13 (fcD 13)∧Below w.heap.size w w':=by
 have hmm:=@run_makeMap Tryz.prog
 obtain⟨W1,hW1⟩:∃W1,W1=w.alloc (.map #[] 0):=⟨_,rfl⟩
 have HO:Hid (W1.ownsMap Tryz.prog 9 fcR w.heap.size 0 (fcD 0)):=by rw[hW1];exact World.ownsMap_made w Tryz.prog 9 fcR
 have HB:Hid (Below w.heap.size w W1∧w.heap.size+1≤W1.heap.size):=by rw[hW1];exact⟨(Below.refl _ _).alloc (Nat.le_refl _) _,by simp⟩
 go_enter Tryz.func60,Tryz.ntmps60
 go_wp2_with fail
 rw[←hW1]
 clear hW1
 obtain⟨wu0,hrun,r1,r2⟩:=(un HO).update (string_keyed Tryz.underlying9) zDm (by unfold maxLen;omega) (zEz ⟨#[97,118,111,103,97,100,114,111]⟩ (by decide)) fcR_0
 rw[hrun]
 clear hrun HO
 have HO:Hid (wu0.ownsMap Tryz.prog 9 fcR w.heap.size 1 (fcD 1)):=r1
 replace HB:Hid (Below w.heap.size w wu0∧w.heap.size+1≤wu0.heap.size):=⟨(un HB).1.grown r2 (by have h:=(un HB).2;omega) (fun j hj=>by cases hj;exact Nat.le_refl _),Nat.le_trans (un HB).2 r2.size⟩
 clear r1 r2
 go_wp2_with fail
 obtain⟨wu1,hrun,r1,r2⟩:=(un HO).update (string_keyed Tryz.underlying9) zDm (by unfold maxLen;omega) (zEz ⟨#[98,111,108,116,122,109,97,110,110]⟩ (by decide)) fcR_1
 rw[hrun]
 clear hrun HO
 have HO:Hid (wu1.ownsMap Tryz.prog 9 fcR w.heap.size 2 (fcD 2)):=r1
 replace HB:Hid (Below w.heap.size w wu1∧w.heap.size+1≤wu1.heap.size):=⟨(un HB).1.grown r2 (by have h:=(un HB).2;omega) (fun j hj=>by cases hj;exact Nat.le_refl _),Nat.le_trans (un HB).2 r2.size⟩
 clear r1 r2
 go_wp2_with fail
 obtain⟨wu2,hrun,r1,r2⟩:=(un HO).update (string_keyed Tryz.underlying9) zDm (by unfold maxLen;omega) (zEz ⟨#[103,97,115]⟩ (by decide)) fcR_2
 rw[hrun]
 clear hrun HO
 have HO:Hid (wu2.ownsMap Tryz.prog 9 fcR w.heap.size 3 (fcD 3)):=r1
 replace HB:Hid (Below w.heap.size w wu2∧w.heap.size+1≤wu2.heap.size):=⟨(un HB).1.grown r2 (by have h:=(un HB).2;omega) (fun j hj=>by cases hj;exact Nat.le_refl _),Nat.le_trans (un HB).2 r2.size⟩
 clear r1 r2
 go_wp2_with fail
 obtain⟨wu3,hrun,r1,r2⟩:=(un HO).update (string_keyed Tryz.underlying9) zDm (by unfold maxLen;omega) (zEz ⟨#[99,104,97,114,103,101]⟩ (by decide)) fcR_3
 rw[hrun]
 clear hrun HO
 have HO:Hid (wu3.ownsMap Tryz.prog 9 fcR w.heap.size 4 (fcD 4)):=r1
 replace HB:Hid (Below w.heap.size w wu3∧w.heap.size+1≤wu3.heap.size):=⟨(un HB).1.grown r2 (by have h:=(un HB).2;omega) (fun j hj=>by cases hj;exact Nat.le_refl _),Nat.le_trans (un HB).2 r2.size⟩
 clear r1 r2
 go_wp2_with fail
 obtain⟨wu4,hrun,r1,r2⟩:=(un HO).update (string_keyed Tryz.underlying9) zDm (by unfold maxLen;omega) (zEz ⟨#[102,97,114,97,100,97,121]⟩ (by decide)) fcR_4
 rw[hrun]
 clear hrun HO
 have HO:Hid (wu4.ownsMap Tryz.prog 9 fcR w.heap.size 5 (fcD 5)):=r1
 replace HB:Hid (Below w.heap.size w wu4∧w.heap.size+1≤wu4.heap.size):=⟨(un HB).1.grown r2 (by have h:=(un HB).2;omega) (fun j hj=>by cases hj;exact Nat.le_refl _),Nat.le_trans (un HB).2 r2.size⟩
 clear r1 r2
 go_wp2_with fail
 obtain⟨wu5,hrun,r1,r2⟩:=(un HO).update (string_keyed Tryz.underlying9) zDm (by unfold maxLen;omega) (zEz ⟨#[101,108,101,99,116,114,111,110]⟩ (by decide)) fcR_5
 rw[hrun]
 clear hrun HO
 have HO:Hid (wu5.ownsMap Tryz.prog 9 fcR w.heap.size 6 (fcD 6)):=r1
 replace HB:Hid (Below w.heap.size w wu5∧w.heap.size+1≤wu5.heap.size):=⟨(un HB).1.grown r2 (by have h:=(un HB).2;omega) (fun j hj=>by cases hj;exact Nat.le_refl _),Nat.le_trans (un HB).2 r2.size⟩
 clear r1 r2
 go_wp2_with fail
 obtain⟨wu6,hrun,r1,r2⟩:=(un HO).update (string_keyed Tryz.underlying9) zDm (by unfold maxLen;omega) (zEz ⟨#[103,114,97,118,105,116,97,116,105,111,110]⟩ (by decide)) fcR_6
 rw[hrun]
 clear hrun HO
 have HO:Hid (wu6.ownsMap Tryz.prog 9 fcR w.heap.size 7 (fcD 7)):=r1
 replace HB:Hid (Below w.heap.size w wu6∧w.heap.size+1≤wu6.heap.size):=⟨(un HB).1.grown r2 (by have h:=(un HB).2;omega) (fun j hj=>by cases hj;exact Nat.le_refl _),Nat.le_trans (un HB).2 r2.size⟩
 clear r1 r2
 go_wp2_with fail
 obtain⟨wu7,hrun,r1,r2⟩:=(un HO).update (string_keyed Tryz.underlying9) zDm (by unfold maxLen;omega) (zEz ⟨#[103,114,97,118,105,116,121]⟩ (by decide)) fcR_7
 rw[hrun]
 clear hrun HO
 have HO:Hid (wu7.ownsMap Tryz.prog 9 fcR w.heap.size 8 (fcD 8)):=r1
 replace HB:Hid (Below w.heap.size w wu7∧w.heap.size+1≤wu7.heap.size):=⟨(un HB).1.grown r2 (by have h:=(un HB).2;omega) (fun j hj=>by cases hj;exact Nat.le_refl _),Nat.le_trans (un HB).2 r2.size⟩
 clear r1 r2
 go_wp2_with fail
 obtain⟨wu8,hrun,r1,r2⟩:=(un HO).update (string_keyed Tryz.underlying9) zDm (by unfold maxLen;omega) (zEz ⟨#[108,105,103,104,116]⟩ (by decide)) fcR_8
 rw[hrun]
 clear hrun HO
 have HO:Hid (wu8.ownsMap Tryz.prog 9 fcR w.heap.size 9 (fcD 9)):=r1
 replace HB:Hid (Below w.heap.size w wu8∧w.heap.size+1≤wu8.heap.size):=⟨(un HB).1.grown r2 (by have h:=(un HB).2;omega) (fun j hj=>by cases hj;exact Nat.le_refl _),Nat.le_trans (un HB).2 r2.size⟩
 clear r1 r2
 go_wp2_with fail
 obtain⟨wu9,hrun,r1,r2⟩:=(un HO).update (string_keyed Tryz.underlying9) zDm (by unfold maxLen;omega) (zEz ⟨#[112,108,97,110,99,107]⟩ (by decide)) fcR_9
 rw[hrun]
 clear hrun HO
 have HO:Hid (wu9.ownsMap Tryz.prog 9 fcR w.heap.size 10 (fcD 10)):=r1
 replace HB:Hid (Below w.heap.size w wu9∧w.heap.size+1≤wu9.heap.size):=⟨(un HB).1.grown r2 (by have h:=(un HB).2;omega) (fun j hj=>by cases hj;exact Nat.le_refl _),Nat.le_trans (un HB).2 r2.size⟩
 clear r1 r2
 go_wp2_with fail
 obtain⟨wu10,hrun,r1,r2⟩:=(un HO).update (string_keyed Tryz.underlying9) zDm (by unfold maxLen;omega) (zEz ⟨#[106,111,115,101,112,104,115,111,110]⟩ (by decide)) fcR_10
 rw[hrun]
 clear hrun HO
 have HO:Hid (wu10.ownsMap Tryz.prog 9 fcR w.heap.size 11 (fcD 11)):=r1
 replace HB:Hid (Below w.heap.size w wu10∧w.heap.size+1≤wu10.heap.size):=⟨(un HB).1.grown r2 (by have h:=(un HB).2;omega) (fun j hj=>by cases hj;exact Nat.le_refl _),Nat.le_trans (un HB).2 r2.size⟩
 clear r1 r2
 go_wp2_with fail
 obtain⟨wu11,hrun,r1,r2⟩:=(un HO).update (string_keyed Tryz.underlying9) zDm (by unfold maxLen;omega) (zEz ⟨#[107,108,105,116,122,105,110,103]⟩ (by decide)) fcR_11
 rw[hrun]
 clear hrun HO
 have HO:Hid (wu11.ownsMap Tryz.prog 9 fcR w.heap.size 12 (fcD 12)):=r1
 replace HB:Hid (Below w.heap.size w wu11∧w.heap.size+1≤wu11.heap.size):=⟨(un HB).1.grown r2 (by have h:=(un HB).2;omega) (fun j hj=>by cases hj;exact Nat.le_refl _),Nat.le_trans (un HB).2 r2.size⟩
 clear r1 r2
 go_wp2_with fail
 obtain⟨wu12,hrun,r1,r2⟩:=(un HO).update (string_keyed Tryz.underlying9) zDm (by unfold maxLen;omega) (zEz ⟨#[112,114,111,116,111,110]⟩ (by decide)) fcR_12
 rw[hrun]
 clear hrun HO
 have HO:Hid (wu12.ownsMap Tryz.prog 9 fcR w.heap.size 13 (fcD 13)):=r1
 replace HB:Hid (Below w.heap.size w wu12∧w.heap.size+1≤wu12.heap.size):=⟨(un HB).1.grown r2 (by have h:=(un HB).2;omega) (fun j hj=>by cases hj;exact Nat.le_refl _),Nat.le_trans (un HB).2 r2.size⟩
 clear r1 r2
 go_wp2_with fail
 go_ret
 exact⟨rfl,un HO,(un HB).1⟩
def cT:Nat→Array Value
  | 0=>cT_avogadro
  | 1=>cT_boltzmann
  | 2=>cT_gas
  | 3=>cT_charge
  | 4=>cT_faraday
  | 5=>cT_electron
  | 6=>zGn
  | 7=>cT_gravity
  | 8=>cT_light
  | 9=>cT_planck
  | 10=>cT_josephson
  | 11=>cT_klitzing
  | _=>cT_proton
theorem told_at:∀k,k<13→∀w:World,Spc w→Tab w→Calls Tryz.prog 61 #[fcV k,.string (fNm k)] w fun r w'=>r=.returned (.agg (cT k))∧Below w.heap.size w w'
  | 0,_,w,hs,ht=>told_avogadro w hs ht
  | 1,_,w,hs,ht=>told_boltzmann w hs ht
  | 2,_,w,hs,ht=>told_gas w hs ht
  | 3,_,w,hs,ht=>told_charge w hs ht
  | 4,_,w,hs,ht=>told_faraday w hs ht
  | 5,_,w,hs,ht=>told_electron w hs ht
  | 6,_,w,hs,ht=>told_gravitation w hs ht
  | 7,_,w,hs,ht=>told_gravity w hs ht
  | 8,_,w,hs,ht=>told_light w hs ht
  | 9,_,w,hs,ht=>told_planck w hs ht
  | 10,_,w,hs,ht=>told_josephson w hs ht
  | 11,_,w,hs,ht=>told_klitzing w hs ht
  | 12,_,w,hs,ht=>told_proton w hs ht
  | _+13,h,_,_,_=>absurd h (by omega)
theorem at_name:∀k,k<13→∀zd,(fcD 13).atKey (.string (fNm k).data.toList) zd=.lit (.int .i64 (k:Int))∧Maps.has (fcD 13) (.string (fNm k).data.toList)=true
  | 0,_,_=>⟨by kernel_rfl,by kernel_rfl⟩
  | 1,_,_=>⟨by kernel_rfl,by kernel_rfl⟩
  | 2,_,_=>⟨by kernel_rfl,by kernel_rfl⟩
  | 3,_,_=>⟨by kernel_rfl,by kernel_rfl⟩
  | 4,_,_=>⟨by kernel_rfl,by kernel_rfl⟩
  | 5,_,_=>⟨by kernel_rfl,by kernel_rfl⟩
  | 6,_,_=>⟨by kernel_rfl,by kernel_rfl⟩
  | 7,_,_=>⟨by kernel_rfl,by kernel_rfl⟩
  | 8,_,_=>⟨by kernel_rfl,by kernel_rfl⟩
  | 9,_,_=>⟨by kernel_rfl,by kernel_rfl⟩
  | 10,_,_=>⟨by kernel_rfl,by kernel_rfl⟩
  | 11,_,_=>⟨by kernel_rfl,by kernel_rfl⟩
  | 12,_,_=>⟨by kernel_rfl,by kernel_rfl⟩
  | _+13,h,_=>absurd h (by omega)
theorem has_only (kl:Lit):∀n,Maps.has (fcD n) kl=true→∃k,k<n∧kl=.string (fNm k).data.toList
  | 0,h=>absurd h (by simp[fcD,Maps.has])
  | n + 1,h=>by
    by_cases e:kl=.string (fNm n).data.toList
    · exact⟨n,by omega,e⟩
    · rw[show fcD (n+1)=(fcD n).put (.string (fNm n).data.toList) (.lit (.int .i64 (n:Int)))from rfl,Maps.has_put_other e]at h
      obtain⟨k,hk,e⟩:=has_only kl n h
      exact⟨k,by omega,e⟩
theorem has_none (s:ByteArray) (h:∀k,k<13→s≠fNm k):Maps.has (fcD 13) (.string s.data.toList)=false:=by
  cases e:Maps.has (fcD 13) (.string s.data.toList)with
  | false=>rfl
  | true=>
    obtain⟨k,hk,hs⟩:=has_only _ 13 e
    refine absurd ?_ (h k hk)
    injection hs with hs
    exact ByteArray.ext (Array.ext' hs)
end Go.Proofs.YtliadckofhblnaaGreatDoor.Nt

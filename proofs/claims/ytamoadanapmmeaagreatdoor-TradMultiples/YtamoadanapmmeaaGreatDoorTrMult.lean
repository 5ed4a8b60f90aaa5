/- TradMultiples: what is made of what. -/
import Derived.Test.YtamoadanapmmeaaGreatDoorLimb3
import Derived.Test.YtamoadanapmmeaaGreatDoorTrFinds
namespace Go.Proofs.YtamoadanapmmeaaGreatDoor.Tr
open Go.RowKit
theorem rt_n (t:Tu):(rtT t)[10]?=some (.string t.fn)∧(rtT t)[11]?=some (.string t.fd):=⟨rfl,rfl⟩
set_option maxRecDepth 100000 in
set_option maxHeartbeats 4000000 in
theorem factorT (s fn fd:ByteArray) (u:Array Value) (hz:u.size=15) (h1:u.all (·.oneCell')=true) (hn:u[10]?=some (.string fn)) (hd:u[11]?=some (.string fd)) (w:World)
  (hf:∀W,Below w.heap.size w W→Calls Tryz.prog 14 #[.string s] W fun r w'=>r=.returned (.tuple #[.agg u,.bool true])∧Below W.heap.size W w') :
  Calls Tryz.prog 41 #[.string s] w fun r w'=>r=.returned (.agg #[.string fn,.string fd])∧Below w.heap.size w w':=by
 obtain⟨V,hV⟩:∃V,V=w.alloc (.cells #[.string ⟨#[]⟩,.string ⟨#[]⟩] 28):=⟨_,rfl⟩
 have HB:Hid (Below w.heap.size w V):=by rw[hV];exact(Below.refl _ _).alloc (Nat.le_refl _) _
 have HR:Hid (T2 V w.heap.size (.string ⟨#[]⟩) (.string ⟨#[]⟩)):=by rw[hV];exact⟨by simp[go_sem],by simp[go_sem],by simp[go_sem],by simp[go_sem]⟩
 have HF:=hide hf;have HZ:=hide hz;have H1:=hide h1;have HN:=hide hn;have HD:=hide hd
 have HV:=hide hV
 clear hV hf hz h1 hn hd
 go_enter Tryz.func41,Tryz.ntmps41
 go_upto_region 1 with fail
 rw[←un HV]
 clear HV
 go_upto_region 2 with (first
  | (go_at_call 14;go_must(refine(un HF _ (un HB)).mono ?_;rintro e w1 ⟨rfl,hb⟩;have HR1:=hide ((un HR).later hb);have HB1:Hid (Below w.heap.size w w1):=(un HB).trans (hb.mono (un HB).size);clear hb))
  | (refine storeT 30 15 info27 rfl (.tmp 3) (.tmp 8) rfl w1.heap.size z15 u rfl (un HZ) rfl rfl (OwnU.new _ _ _) (un H1) ?_))
 have hb2:Below w1.heap.size w1 ((w1.alloc (.cells z15 30)).setRow w1.heap.size u):=below_setRow (albel _ _) (Nat.le_refl _) _
 have HX2:Hid (OwnU ((w1.alloc (.cells z15 30)).setRow w1.heap.size u) w1.heap.size 30 u):=(OwnU.new _ _ _).setRow _
 have HR2:=hide ((un HR1).later hb2);have HB2:Hid (Below w.heap.size w _):=(un HB1).trans (hb2.mono (un HB1).size)
 clear hb2 HR1 HB1 HR HB HF
 generalize (w1.alloc (.cells z15 30)).setRow w1.heap.size u=w2 at *
 generalize w1.heap.size=g3 at *
 have x0:w2.cell? ⟨g3,10,none⟩=some (.string fn):=(un HX2).ub.c 10 _ (un HN)
 have x1:w2.cell? ⟨g3,11,none⟩=some (.string fd):=(un HX2).ub.c 11 _ (un HD)
 have r0:=(un HR2).c0;have r1:=(un HR2).c1;have rf0:=(un HR2).f0;have rf1:=(un HR2).f1
 go_wp2_with fail
 have hS:=(un HR2).store (.string fn) (.string fd)
 have hb:=below_store2 (un HB2) (Nat.le_refl _) (.string fn) (.string fd) (g:=w.heap.size)
 have v0:=hS.c0;have v1:=hS.c1
 exact bodyPost_ret (v:=.agg #[.string fn,.string fd]) (w:=store2 w2 w.heap.size (.string fn) (.string fd)) (by simp[results,Tryz.results41,go_sem,v0,v1]) rfl ⟨rfl,hb⟩
theorem fac_word (s:ByteArray) (k:Nat) (hk:k<22) (hf:IsF22 (trB s) (k:Int)) (w:World) (htab:Tab w):Calls Tryz.prog 41 #[.string s] w fun r w'=>r=.returned (.agg #[.string (trt k).fn,.string (trt k).fd])∧Below w.heap.size w w' :=
 factorT s _ _ (rtT (trt k)) (rtT_size k) (rtT_ones k) (rt_n _).1 (rt_n _).2 w (fun W hb=>findT_yes s k hk hf W (htab.later hb))
set_option maxRecDepth 100000 in
set_option maxHeartbeats 4000000 in
theorem are1 (num den of_ is_ on od yn yd:ByteArray) (w:World) (hne:yn.toList.isEmpty=false)
  (hof:∀W,Below w.heap.size w W→Calls Tryz.prog 41 #[.string of_] W fun r w'=>r=.returned (.agg #[.string on,.string od])∧Below W.heap.size W w')
  (hmu:∀W,Below w.heap.size w W→Calls Tryz.prog 28 #[.agg #[.string num,.string den],.agg #[.string on,.string od]] W fun r w'=>r=.returned (.tuple #[.agg #[.string yn,.string yd],I 0])∧Below W.heap.size W w')
  (his:∀W,Below w.heap.size w W→Calls Tryz.prog 41 #[.string is_] W fun r w'=>r=.returned (.agg #[.string yn,.string yd])∧Below W.heap.size W w') :
  Calls Tryz.prog 16 #[.string num,.string den,.string of_,.string ⟨#[]⟩,.string is_] w fun r w'=>r=.returned (.bool true)∧Below w.heap.size w w':=by
 have HOF:=hide hof;have HMU:=hide hmu;have HIS:=hide his
 have HB0:Hid (Below w.heap.size w w):=Below.refl _ _
 clear hof hmu his
 go_enter Tryz.func16,Tryz.ntmps16
 go_upto_region 2 with (first
  | (go_at_call 41;go_must(refine(un HOF _ (un HB0)).mono ?_;rintro e w1 ⟨rfl,hb⟩;have HB1:Hid (Below w.heap.size w w1):=(un HB0).trans (hb.mono (un HB0).size);clear hb))
  | (go_at_call 28;go_must(refine(un HMU _ (un HB1)).mono ?_;rintro e w2 ⟨rfl,hb⟩;have HB2:Hid (Below w.heap.size w w2):=(un HB1).trans (hb.mono (un HB1).size);clear hb)))
 obtain⟨V,hV⟩:∃V,V=w2.alloc (.cells #[.string yn,.string yd] 28):=⟨_,rfl⟩
 have HB3:Hid (Below w.heap.size w V):=by rw[hV];exact(un HB2).alloc (un HB2).size _
 have HX3:Hid (T2 V w2.heap.size (.string yn) (.string yd)):=by rw[hV];exact⟨by simp[go_sem],by simp[go_sem],by simp[go_sem],by simp[go_sem]⟩
 have HL3:Hid (w.heap.size≤w2.heap.size):=(un HB2).size
 rw[←hV]
 clear hV HB0 HB1 HB2
 generalize w2.heap.size=g at *
 go_upto_region 5 with fail
 have HUQ:Hid (∀W,Below V.heap.size V W→Below w.heap.size w W):=fun W h=>(un HB3).trans (h.mono (un HB3).size)
 have q0:∀xz:Later V,xz.world.cell? ⟨g,0,none⟩=some (.string yn):=fun xz=>((un HX3).later xz.below).c0
 have q1:∀xz:Later V,xz.world.cell? ⟨g,1,none⟩=some (.string yd):=fun xz=>((un HX3).later xz.below).c1
 have heq:=eqQ yn yd 9998
 refine quiet_later (by kernel_rfl) (by kernel_rfl) ?_
 repeat (go_big_quiet_step (first
  | (go_at_call 41;rename_i xx;refine(un HIS _ (un HUQ _ xx.below)).mono ?_;rintro e w9 ⟨rfl,hb9⟩;have hz:=xx.below.trans (hb9.mono xx.below.size);first|exact⟨rfl,⟨w9,hz⟩,rfl⟩|exact⟨rfl,hz⟩|exact⟨rfl,w9,hz,rfl⟩)))
 refine wpQuiet_nil ?_
 intro _ hw'
 obtain⟨xz,hw''⟩:=hw'
 subst hw''
 have HE:=hide (un HUQ _ xz.below)
 obtain⟨G,hG⟩:∃G,G=xz.world:=⟨_,rfl⟩
 rw[←hG]at HE ⊢
 clear q0 q1 hG xz HUQ
 go_wp2_with fail
 go_ret
 exact⟨rfl,un HE⟩
set_option maxRecDepth 100000 in
set_option maxHeartbeats 4000000 in
theorem are2 (num den of_ and_ is_ on od an ad xn xd yn yd:ByteArray) (w:World) (hne:yn.toList.isEmpty=false) (hna:and_.toList.isEmpty=false)
  (hof:∀W,Below w.heap.size w W→Calls Tryz.prog 41 #[.string of_] W fun r w'=>r=.returned (.agg #[.string on,.string od])∧Below W.heap.size W w')
  (hmu:∀W,Below w.heap.size w W→Calls Tryz.prog 28 #[.agg #[.string num,.string den],.agg #[.string on,.string od]] W fun r w'=>r=.returned (.tuple #[.agg #[.string xn,.string xd],I 0])∧Below W.heap.size W w')
  (han:∀W,Below w.heap.size w W→Calls Tryz.prog 41 #[.string and_] W fun r w'=>r=.returned (.agg #[.string an,.string ad])∧Below W.heap.size W w')
  (hmv:∀W,Below w.heap.size w W→Calls Tryz.prog 28 #[.agg #[.string xn,.string xd],.agg #[.string an,.string ad]] W fun r w'=>r=.returned (.tuple #[.agg #[.string yn,.string yd],I 0])∧Below W.heap.size W w')
  (his:∀W,Below w.heap.size w W→Calls Tryz.prog 41 #[.string is_] W fun r w'=>r=.returned (.agg #[.string yn,.string yd])∧Below W.heap.size W w') :
  Calls Tryz.prog 16 #[.string num,.string den,.string of_,.string and_,.string is_] w fun r w'=>r=.returned (.bool true)∧Below w.heap.size w w':=by
 have HAN:=hide han;have HMV:=hide hmv
 clear han hmv
 have HOF:=hide hof;have HMU:=hide hmu;have HIS:=hide his
 have HB0:Hid (Below w.heap.size w w):=Below.refl _ _
 clear hof hmu his
 go_enter Tryz.func16,Tryz.ntmps16
 go_upto_region 2 with (first
  | (go_at_call 41;go_must(refine(un HOF _ (un HB0)).mono ?_;rintro e w1 ⟨rfl,hb⟩;have HB1:Hid (Below w.heap.size w w1):=(un HB0).trans (hb.mono (un HB0).size);clear hb))
  | (go_at_call 28;go_must(refine(un HMU _ (un HB1)).mono ?_;rintro e w2 ⟨rfl,hb⟩;have HB2:Hid (Below w.heap.size w w2):=(un HB1).trans (hb.mono (un HB1).size);clear hb)))
 obtain⟨V,hV⟩:∃V,V=w2.alloc (.cells #[.string xn,.string xd] 28):=⟨_,rfl⟩
 have HB3:Hid (Below w.heap.size w V):=by rw[hV];exact(un HB2).alloc (un HB2).size _
 have HX3:Hid (T2 V w2.heap.size (.string xn) (.string xd)):=by rw[hV];exact⟨by simp[go_sem],by simp[go_sem],by simp[go_sem],by simp[go_sem]⟩
 have HL3:Hid (w.heap.size≤w2.heap.size):=(un HB2).size
 rw[←hV]
 clear hV HB0 HB1 HB2
 generalize w2.heap.size=g at *
 go_upto_region 4 with fail
 have HX4:Hid (T2 V.drew g (.string xn) (.string xd)):=(un HX3).later (Below.refl V.heap.size V).drew
 have HB4:Hid (Below w.heap.size w V.drew):=(un HB3).drew
 have HS0:Hid (V.drew.cell? ⟨g,0,none⟩=some (.string xn)∧V.drew.cell? ⟨g,1,none⟩=some (.string xd)):=⟨(un HX4).c0,(un HX4).c1⟩
 clear HX3 HB3
 refine region_reads 7 (fun W'=>W'.cell? ⟨g,0,none⟩=some (.string xn)∧W'.cell? ⟨g,1,none⟩=some (.string xd)) (fun _=>True) 9 rfl (by kernel_rfl) ?_
 generalize V.drew=U4 at *
 refine wpR_take (i:=0) (oi:=_) (v:=.agg #[.string xn,.string xd]) rfl (by kernel_rfl) (by kernel_rfl) (by kernel_rfl) (by kernel_rfl) (fun _ _ _ h=>h) (Or.inl ⟨by rfl,?_⟩) ⟨un HS0,trivial⟩ ?_
 ·intro W' hW
  go_split_ands
  go_simp
 refine wpR_take (i:=1) (oi:=_) (v:=.string and_) rfl (by kernel_rfl) (by kernel_rfl) (by kernel_rfl) (by kernel_rfl) (fun _ _ _ h=>h) (Or.inl ⟨by rfl,?_⟩) ⟨un HS0,trivial⟩ ?_
 ·intro W' hW
  go_split_ands
  go_simp
 refine wpR_op (i:=2) (o:=_) (by kernel_rfl) rfl rfl (fun K hK=>?_)
 go_simp
 refine(un HAN _ (un HB4)).mono ?_
 rintro e U5 ⟨rfl,hb⟩
 have HX5:=hide ((un HX4).later hb);have HB5:Hid (Below w.heap.size w U5):=(un HB4).trans (hb.mono (un HB4).size)
 clear hb HX4 HB4
 refine hK _ _ ⟨⟨(un HX5).c0,(un HX5).c1⟩,trivial⟩ ?_
 clear hK K
 refine wpR_op (i:=3) (o:=_) (by kernel_rfl) rfl rfl (fun K hK=>?_)
 go_simp
 refine(un HMV _ (un HB5)).mono ?_
 rintro e U6 ⟨rfl,hb⟩
 have HX6:=hide ((un HX5).later hb);have HB6:Hid (Below w.heap.size w U6):=(un HB5).trans (hb.mono (un HB5).size)
 clear hb HX5 HB5
 refine hK _ _ ⟨⟨(un HX6).c0,(un HX6).c1⟩,trivial⟩ ?_
 clear hK K
 refine wpR_op (i:=4) (o:=_) (by kernel_rfl) rfl rfl (fun K hK=>?_)
 go_simp
 refine hK _ _ ⟨⟨(un HX6).c0,(un HX6).c1⟩,trivial⟩ ?_
 clear hK K
 refine wpR_take (i:=5) (oi:=_) (v:=.agg #[.string yn,.string yd]) rfl (by kernel_rfl) (by kernel_rfl) (by kernel_rfl) (by kernel_rfl) (fun _ _ _ h=>h) (Or.inl ⟨by rfl,?_⟩) ⟨⟨(un HX6).c0,(un HX6).c1⟩,trivial⟩ ?_
 ·intro W' hW
  go_split_ands
  go_simp
 refine wpR_take7 (i:=6) (oi:=_) (v:=I 0) rfl (by kernel_rfl) (by kernel_rfl) (by kernel_rfl) (by kernel_rfl) (fun _ _ _ h=>h) (Or.inl ⟨by rfl,?_⟩) ⟨⟨(un HX6).c0,(un HX6).c1⟩,trivial⟩ ?_
 ·intro W' hW
  go_split_ands
  go_simp
 have x0:=(un HX6).c0;have x1:=(un HX6).c1;have xf0:=(un HX6).f0;have xf1:=(un HX6).f1
 refine wpR_late (i:=7) (o:=_) (by kernel_rfl) rfl rfl (by kernel_rfl) (fun K hK=>?_)
 go_simp
 refine hK _ _ trivial ?_
 clear hK K
 refine wpR_late (i:=8) (o:=_) (by kernel_rfl) rfl rfl (by kernel_rfl) (fun K hK=>?_)
 go_simp
 refine hK _ _ trivial ?_
 clear hK K
 refine wpR_done (by kernel_rfl) ?_
 have HX3:Hid (T2 ((U6.setCell ⟨g,0,none⟩ (.string yn)).setCell ⟨g,1,none⟩ (.string yd)) g (.string yn) (.string yd)):=(un HX6).store _ _
 have HB3:Hid (Below w.heap.size w ((U6.setCell ⟨g,0,none⟩ (.string yn)).setCell ⟨g,1,none⟩ (.string yd))):=below_store2 (un HB6) (un HL3) _ _
 clear HX6 HB6 x0 x1 xf0 xf1 HS0
 generalize (U6.setCell ⟨g,0,none⟩ (.string yn)).setCell ⟨g,1,none⟩ (.string yd)=Z at *
 go_upto_region 5 with fail
 have HUQ:Hid (∀W,Below Z.heap.size Z W→Below w.heap.size w W):=fun W h=>(un HB3).trans (h.mono (un HB3).size)
 have q0:∀xz:Later Z,xz.world.cell? ⟨g,0,none⟩=some (.string yn):=fun xz=>((un HX3).later xz.below).c0
 have q1:∀xz:Later Z,xz.world.cell? ⟨g,1,none⟩=some (.string yd):=fun xz=>((un HX3).later xz.below).c1
 have heq:=eqQ yn yd 9998
 refine quiet_later (by kernel_rfl) (by kernel_rfl) ?_
 repeat (go_big_quiet_step (first
  | (go_at_call 41;rename_i xx;refine(un HIS _ (un HUQ _ xx.below)).mono ?_;rintro e w9 ⟨rfl,hb9⟩;have hz:=xx.below.trans (hb9.mono xx.below.size);first|exact⟨rfl,⟨w9,hz⟩,rfl⟩|exact⟨rfl,hz⟩|exact⟨rfl,w9,hz,rfl⟩)))
 refine wpQuiet_nil ?_
 intro _ hw'
 obtain⟨xz,hw''⟩:=hw'
 subst hw''
 have HE:=hide (un HUQ _ xz.below)
 obtain⟨G,hG⟩:∃G,G=xz.world:=⟨_,rfl⟩
 rw[←hG]at HE ⊢
 clear q0 q1 hG xz HUQ
 go_wp2_with fail
 go_ret
 exact⟨rfl,un HE⟩
end Go.Proofs.YtamoadanapmmeaaGreatDoor.Tr

namespace Go.Proofs.YtamoadanapmmeaaGreatDoor.Tr
open Go.RowKit
theorem is_inch:IsR (trt 0).fn (trt 0).fd (127 / 5000):=isR_lit2 _ _ 127 5000 _ (by decide +kernel) (by decide +kernel) (by decide +kernel) (by decide +kernel) (by decide +kernel) (by decide +kernel) (by decide +kernel) (by decide +kernel) (by decide +kernel)
theorem fw_inch (w:World) (htab:Tab w):Calls Tryz.prog 41 #[.string ⟨#[105,110,99,104]⟩] w fun r w'=>r=.returned (.agg #[.string (trt 0).fn,.string (trt 0).fd])∧Below w.heap.size w w':=fac_word _ 0 (by decide) (Or.inl ⟨0,by decide,rfl,by decide +kernel,by decide +kernel⟩) w htab
theorem is_foot:IsR (trt 1).fn (trt 1).fd (381 / 1250):=isR_lit2 _ _ 381 1250 _ (by decide +kernel) (by decide +kernel) (by decide +kernel) (by decide +kernel) (by decide +kernel) (by decide +kernel) (by decide +kernel) (by decide +kernel) (by decide +kernel)
theorem fw_foot (w:World) (htab:Tab w):Calls Tryz.prog 41 #[.string ⟨#[102,111,111,116]⟩] w fun r w'=>r=.returned (.agg #[.string (trt 1).fn,.string (trt 1).fd])∧Below w.heap.size w w':=fac_word _ 1 (by decide) (Or.inl ⟨1,by decide,rfl,by decide +kernel,by decide +kernel⟩) w htab
theorem is_fathom:IsR (trt 2).fn (trt 2).fd (1143 / 625):=isR_lit2 _ _ 1143 625 _ (by decide +kernel) (by decide +kernel) (by decide +kernel) (by decide +kernel) (by decide +kernel) (by decide +kernel) (by decide +kernel) (by decide +kernel) (by decide +kernel)
theorem fw_fathom (w:World) (htab:Tab w):Calls Tryz.prog 41 #[.string ⟨#[102,97,116,104,111,109]⟩] w fun r w'=>r=.returned (.agg #[.string (trt 2).fn,.string (trt 2).fd])∧Below w.heap.size w w':=fac_word _ 2 (by decide) (Or.inl ⟨2,by decide,rfl,by decide +kernel,by decide +kernel⟩) w htab
theorem is_hand:IsR (trt 3).fn (trt 3).fd (127 / 1250):=isR_lit2 _ _ 127 1250 _ (by decide +kernel) (by decide +kernel) (by decide +kernel) (by decide +kernel) (by decide +kernel) (by decide +kernel) (by decide +kernel) (by decide +kernel) (by decide +kernel)
theorem fw_hand (w:World) (htab:Tab w):Calls Tryz.prog 41 #[.string ⟨#[104,97,110,100]⟩] w fun r w'=>r=.returned (.agg #[.string (trt 3).fn,.string (trt 3).fd])∧Below w.heap.size w w':=fac_word _ 3 (by decide) (Or.inl ⟨3,by decide,rfl,by decide +kernel,by decide +kernel⟩) w htab
theorem is_nautical:IsR (trt 4).fn (trt 4).fd 1852:=isR_lit2 _ _ 1852 1 _ (by decide +kernel) (by decide +kernel) (by decide +kernel) (by decide +kernel) (by decide +kernel) (by decide +kernel) (by decide +kernel) (by decide +kernel) (by decide +kernel)
theorem fw_nautical (w:World) (htab:Tab w):Calls Tryz.prog 41 #[.string ⟨#[110,97,117,116,105,99,97,108]⟩] w fun r w'=>r=.returned (.agg #[.string (trt 4).fn,.string (trt 4).fd])∧Below w.heap.size w w':=fac_word _ 4 (by decide) (Or.inl ⟨4,by decide,rfl,by decide +kernel,by decide +kernel⟩) w htab
theorem is_knot:IsR (trt 5).fn (trt 5).fd (463 / 900):=isR_lit2 _ _ 463 900 _ (by decide +kernel) (by decide +kernel) (by decide +kernel) (by decide +kernel) (by decide +kernel) (by decide +kernel) (by decide +kernel) (by decide +kernel) (by decide +kernel)
theorem fw_knot (w:World) (htab:Tab w):Calls Tryz.prog 41 #[.string ⟨#[107,110,111,116]⟩] w fun r w'=>r=.returned (.agg #[.string (trt 5).fn,.string (trt 5).fd])∧Below w.heap.size w w':=fac_word _ 5 (by decide) (Or.inl ⟨5,by decide,rfl,by decide +kernel,by decide +kernel⟩) w htab
theorem is_yard:IsR (trt 6).fn (trt 6).fd (1143 / 1250):=isR_lit2 _ _ 1143 1250 _ (by decide +kernel) (by decide +kernel) (by decide +kernel) (by decide +kernel) (by decide +kernel) (by decide +kernel) (by decide +kernel) (by decide +kernel) (by decide +kernel)
theorem fw_yard (w:World) (htab:Tab w):Calls Tryz.prog 41 #[.string ⟨#[121,97,114,100]⟩] w fun r w'=>r=.returned (.agg #[.string (trt 6).fn,.string (trt 6).fd])∧Below w.heap.size w w':=fac_word _ 6 (by decide) (Or.inl ⟨6,by decide,rfl,by decide +kernel,by decide +kernel⟩) w htab
theorem is_mile:IsR (trt 7).fn (trt 7).fd (201168 / 125):=isR_lit2 _ _ 201168 125 _ (by decide +kernel) (by decide +kernel) (by decide +kernel) (by decide +kernel) (by decide +kernel) (by decide +kernel) (by decide +kernel) (by decide +kernel) (by decide +kernel)
theorem fw_mile (w:World) (htab:Tab w):Calls Tryz.prog 41 #[.string ⟨#[109,105,108,101]⟩] w fun r w'=>r=.returned (.agg #[.string (trt 7).fn,.string (trt 7).fd])∧Below w.heap.size w w':=fac_word _ 7 (by decide) (Or.inl ⟨7,by decide,rfl,by decide +kernel,by decide +kernel⟩) w htab
theorem is_acre:IsR (trt 8).fn (trt 8).fd (316160658 / 78125):=isR_lit2 _ _ 316160658 78125 _ (by decide +kernel) (by decide +kernel) (by decide +kernel) (by decide +kernel) (by decide +kernel) (by decide +kernel) (by decide +kernel) (by decide +kernel) (by decide +kernel)
theorem fw_acre (w:World) (htab:Tab w):Calls Tryz.prog 41 #[.string ⟨#[97,99,114,101]⟩] w fun r w'=>r=.returned (.agg #[.string (trt 8).fn,.string (trt 8).fd])∧Below w.heap.size w w':=fac_word _ 8 (by decide) (Or.inl ⟨8,by decide,rfl,by decide +kernel,by decide +kernel⟩) w htab
theorem is_atmosphere:IsR (trt 9).fn (trt 9).fd 101325:=isR_lit2 _ _ 101325 1 _ (by decide +kernel) (by decide +kernel) (by decide +kernel) (by decide +kernel) (by decide +kernel) (by decide +kernel) (by decide +kernel) (by decide +kernel) (by decide +kernel)
theorem fw_atmosphere (w:World) (htab:Tab w):Calls Tryz.prog 41 #[.string ⟨#[97,116,109,111,115,112,104,101,114,101]⟩] w fun r w'=>r=.returned (.agg #[.string (trt 9).fn,.string (trt 9).fd])∧Below w.heap.size w w':=fac_word _ 9 (by decide) (Or.inl ⟨9,by decide,rfl,by decide +kernel,by decide +kernel⟩) w htab
theorem is_gallon:IsR (trt 11).fn (trt 11).fd (473176473 / 125000000000):=isR_lit2 _ _ 473176473 125000000000 _ (by decide +kernel) (by decide +kernel) (by decide +kernel) (by decide +kernel) (by decide +kernel) (by decide +kernel) (by decide +kernel) (by decide +kernel) (by decide +kernel)
theorem fw_gallon (w:World) (htab:Tab w):Calls Tryz.prog 41 #[.string ⟨#[103,97,108,108,111,110]⟩] w fun r w'=>r=.returned (.agg #[.string (trt 11).fn,.string (trt 11).fd])∧Below w.heap.size w w':=fac_word _ 11 (by decide) (Or.inl ⟨11,by decide,rfl,by decide +kernel,by decide +kernel⟩) w htab
theorem is_pint:IsR (trt 12).fn (trt 12).fd (473176473 / 1000000000000):=isR_lit2 _ _ 473176473 1000000000000 _ (by decide +kernel) (by decide +kernel) (by decide +kernel) (by decide +kernel) (by decide +kernel) (by decide +kernel) (by decide +kernel) (by decide +kernel) (by decide +kernel)
theorem fw_pint (w:World) (htab:Tab w):Calls Tryz.prog 41 #[.string ⟨#[112,105,110,116]⟩] w fun r w'=>r=.returned (.agg #[.string (trt 12).fn,.string (trt 12).fd])∧Below w.heap.size w w':=fac_word _ 12 (by decide) (Or.inl ⟨12,by decide,rfl,by decide +kernel,by decide +kernel⟩) w htab
theorem is_pound:IsR (trt 13).fn (trt 13).fd (45359237 / 100000000):=isR_lit2 _ _ 45359237 100000000 _ (by decide +kernel) (by decide +kernel) (by decide +kernel) (by decide +kernel) (by decide +kernel) (by decide +kernel) (by decide +kernel) (by decide +kernel) (by decide +kernel)
theorem fw_pound (w:World) (htab:Tab w):Calls Tryz.prog 41 #[.string ⟨#[112,111,117,110,100]⟩] w fun r w'=>r=.returned (.agg #[.string (trt 13).fn,.string (trt 13).fd])∧Below w.heap.size w w':=fac_word _ 13 (by decide) (Or.inl ⟨13,by decide,rfl,by decide +kernel,by decide +kernel⟩) w htab
theorem is_grain:IsR (trt 14).fn (trt 14).fd (6479891 / 100000000000):=isR_lit2 _ _ 6479891 100000000000 _ (by decide +kernel) (by decide +kernel) (by decide +kernel) (by decide +kernel) (by decide +kernel) (by decide +kernel) (by decide +kernel) (by decide +kernel) (by decide +kernel)
theorem fw_grain (w:World) (htab:Tab w):Calls Tryz.prog 41 #[.string ⟨#[103,114,97,105,110]⟩] w fun r w'=>r=.returned (.agg #[.string (trt 14).fn,.string (trt 14).fd])∧Below w.heap.size w w':=fac_word _ 14 (by decide) (Or.inl ⟨14,by decide,rfl,by decide +kernel,by decide +kernel⟩) w htab
theorem is_ounce:IsR (trt 15).fn (trt 15).fd (45359237 / 1600000000):=isR_lit2 _ _ 45359237 1600000000 _ (by decide +kernel) (by decide +kernel) (by decide +kernel) (by decide +kernel) (by decide +kernel) (by decide +kernel) (by decide +kernel) (by decide +kernel) (by decide +kernel)
theorem fw_ounce (w:World) (htab:Tab w):Calls Tryz.prog 41 #[.string ⟨#[111,117,110,99,101]⟩] w fun r w'=>r=.returned (.agg #[.string (trt 15).fn,.string (trt 15).fd])∧Below w.heap.size w w':=fac_word _ 15 (by decide) (Or.inl ⟨15,by decide,rfl,by decide +kernel,by decide +kernel⟩) w htab
theorem is_poundforce:IsR (trt 16).fn (trt 16).fd (8896443230521 / 2000000000000):=isR_lit2 _ _ 8896443230521 2000000000000 _ (by decide +kernel) (by decide +kernel) (by decide +kernel) (by decide +kernel) (by decide +kernel) (by decide +kernel) (by decide +kernel) (by decide +kernel) (by decide +kernel)
theorem fw_poundforce (w:World) (htab:Tab w):Calls Tryz.prog 41 #[.string ⟨#[112,111,117,110,100,102,111,114,99,101]⟩] w fun r w'=>r=.returned (.agg #[.string (trt 16).fn,.string (trt 16).fd])∧Below w.heap.size w w':=fac_word _ 16 (by decide) (Or.inl ⟨16,by decide,rfl,by decide +kernel,by decide +kernel⟩) w htab
theorem is_horsepower:IsR (trt 17).fn (trt 17).fd (37284993579113511 / 50000000000000):=isR_lit2 _ _ 37284993579113511 50000000000000 _ (by decide +kernel) (by decide +kernel) (by decide +kernel) (by decide +kernel) (by decide +kernel) (by decide +kernel) (by decide +kernel) (by decide +kernel) (by decide +kernel)
theorem fw_horsepower (w:World) (htab:Tab w):Calls Tryz.prog 41 #[.string ⟨#[104,111,114,115,101,112,111,119,101,114]⟩] w fun r w'=>r=.returned (.agg #[.string (trt 17).fn,.string (trt 17).fd])∧Below w.heap.size w w':=fac_word _ 17 (by decide) (Or.inl ⟨17,by decide,rfl,by decide +kernel,by decide +kernel⟩) w htab
theorem is_stone:IsR (trt 19).fn (trt 19).fd (317514659 / 50000000):=isR_lit2 _ _ 317514659 50000000 _ (by decide +kernel) (by decide +kernel) (by decide +kernel) (by decide +kernel) (by decide +kernel) (by decide +kernel) (by decide +kernel) (by decide +kernel) (by decide +kernel)
theorem fw_stone (w:World) (htab:Tab w):Calls Tryz.prog 41 #[.string ⟨#[115,116,111,110,101]⟩] w fun r w'=>r=.returned (.agg #[.string (trt 19).fn,.string (trt 19).fd])∧Below w.heap.size w w':=fac_word _ 19 (by decide) (Or.inl ⟨19,by decide,rfl,by decide +kernel,by decide +kernel⟩) w htab
theorem is_ton:IsR (trt 20).fn (trt 20).fd (45359237 / 50000):=isR_lit2 _ _ 45359237 50000 _ (by decide +kernel) (by decide +kernel) (by decide +kernel) (by decide +kernel) (by decide +kernel) (by decide +kernel) (by decide +kernel) (by decide +kernel) (by decide +kernel)
theorem fw_ton (w:World) (htab:Tab w):Calls Tryz.prog 41 #[.string ⟨#[116,111,110]⟩] w fun r w'=>r=.returned (.agg #[.string (trt 20).fn,.string (trt 20).fd])∧Below w.heap.size w w':=fac_word _ 20 (by decide) (Or.inl ⟨20,by decide,rfl,by decide +kernel,by decide +kernel⟩) w htab
theorem is_torr:IsR (trt 21).fn (trt 21).fd (20265 / 152):=isR_lit2 _ _ 20265 152 _ (by decide +kernel) (by decide +kernel) (by decide +kernel) (by decide +kernel) (by decide +kernel) (by decide +kernel) (by decide +kernel) (by decide +kernel) (by decide +kernel)
theorem fw_torr (w:World) (htab:Tab w):Calls Tryz.prog 41 #[.string ⟨#[116,111,114,114]⟩] w fun r w'=>r=.returned (.agg #[.string (trt 21).fn,.string (trt 21).fd])∧Below w.heap.size w w':=fac_word _ 21 (by decide) (Or.inl ⟨21,by decide,rfl,by decide +kernel,by decide +kernel⟩) w htab
theorem mul0 (w:World) (htab:Tab w):Calls Tryz.prog 16 #[.string ⟨#[49,50]⟩,.string ⟨#[49]⟩,.string ⟨#[105,110,99,104]⟩,.string ⟨#[]⟩,.string ⟨#[102,111,111,116]⟩] w fun r w'=>r=.returned (.bool true)∧Below w.heap.size w w' :=
 are1 _ _ _ _ _ _ _ _ w (by decide +kernel) (fun W hb=>fw_inch W (htab.later hb)) (fun W hb=>ans_of (rmul_ok _ _ _ _ 12 (127 / 5000) W (isR_lit2 _ _ 12 1 _ (by decide +kernel) (by decide +kernel) (by decide +kernel) (by decide +kernel) (by decide +kernel) (by decide +kernel) (by decide +kernel) (by decide +kernel) (by decide +kernel)) is_inch (htab.later hb)) (by decide +kernel) is_foot) (fun W hb=>fw_foot W (htab.later hb))
theorem mul1 (w:World) (htab:Tab w):Calls Tryz.prog 16 #[.string ⟨#[54]⟩,.string ⟨#[49]⟩,.string ⟨#[102,111,111,116]⟩,.string ⟨#[]⟩,.string ⟨#[102,97,116,104,111,109]⟩] w fun r w'=>r=.returned (.bool true)∧Below w.heap.size w w' :=
 are1 _ _ _ _ _ _ _ _ w (by decide +kernel) (fun W hb=>fw_foot W (htab.later hb)) (fun W hb=>ans_of (rmul_ok _ _ _ _ 6 (381 / 1250) W (isR_lit2 _ _ 6 1 _ (by decide +kernel) (by decide +kernel) (by decide +kernel) (by decide +kernel) (by decide +kernel) (by decide +kernel) (by decide +kernel) (by decide +kernel) (by decide +kernel)) is_foot (htab.later hb)) (by decide +kernel) is_fathom) (fun W hb=>fw_fathom W (htab.later hb))
theorem mul2 (w:World) (htab:Tab w):Calls Tryz.prog 16 #[.string ⟨#[52]⟩,.string ⟨#[49]⟩,.string ⟨#[105,110,99,104]⟩,.string ⟨#[]⟩,.string ⟨#[104,97,110,100]⟩] w fun r w'=>r=.returned (.bool true)∧Below w.heap.size w w' :=
 are1 _ _ _ _ _ _ _ _ w (by decide +kernel) (fun W hb=>fw_inch W (htab.later hb)) (fun W hb=>ans_of (rmul_ok _ _ _ _ 4 (127 / 5000) W (isR_lit2 _ _ 4 1 _ (by decide +kernel) (by decide +kernel) (by decide +kernel) (by decide +kernel) (by decide +kernel) (by decide +kernel) (by decide +kernel) (by decide +kernel) (by decide +kernel)) is_inch (htab.later hb)) (by decide +kernel) is_hand) (fun W hb=>fw_hand W (htab.later hb))
theorem mul3 (w:World) (htab:Tab w):Calls Tryz.prog 16 #[.string ⟨#[51]⟩,.string ⟨#[49]⟩,.string ⟨#[102,111,111,116]⟩,.string ⟨#[]⟩,.string ⟨#[121,97,114,100]⟩] w fun r w'=>r=.returned (.bool true)∧Below w.heap.size w w' :=
 are1 _ _ _ _ _ _ _ _ w (by decide +kernel) (fun W hb=>fw_foot W (htab.later hb)) (fun W hb=>ans_of (rmul_ok _ _ _ _ 3 (381 / 1250) W (isR_lit2 _ _ 3 1 _ (by decide +kernel) (by decide +kernel) (by decide +kernel) (by decide +kernel) (by decide +kernel) (by decide +kernel) (by decide +kernel) (by decide +kernel) (by decide +kernel)) is_foot (htab.later hb)) (by decide +kernel) is_yard) (fun W hb=>fw_yard W (htab.later hb))
theorem mul4 (w:World) (htab:Tab w):Calls Tryz.prog 16 #[.string ⟨#[49,55,54,48]⟩,.string ⟨#[49]⟩,.string ⟨#[121,97,114,100]⟩,.string ⟨#[]⟩,.string ⟨#[109,105,108,101]⟩] w fun r w'=>r=.returned (.bool true)∧Below w.heap.size w w' :=
 are1 _ _ _ _ _ _ _ _ w (by decide +kernel) (fun W hb=>fw_yard W (htab.later hb)) (fun W hb=>ans_of (rmul_ok _ _ _ _ 1760 (1143 / 1250) W (isR_lit2 _ _ 1760 1 _ (by decide +kernel) (by decide +kernel) (by decide +kernel) (by decide +kernel) (by decide +kernel) (by decide +kernel) (by decide +kernel) (by decide +kernel) (by decide +kernel)) is_yard (htab.later hb)) (by decide +kernel) is_mile) (fun W hb=>fw_mile W (htab.later hb))
theorem mul5 (w:World) (htab:Tab w):Calls Tryz.prog 16 #[.string ⟨#[49]⟩,.string ⟨#[51,54,48,48]⟩,.string ⟨#[110,97,117,116,105,99,97,108]⟩,.string ⟨#[]⟩,.string ⟨#[107,110,111,116]⟩] w fun r w'=>r=.returned (.bool true)∧Below w.heap.size w w' :=
 are1 _ _ _ _ _ _ _ _ w (by decide +kernel) (fun W hb=>fw_nautical W (htab.later hb)) (fun W hb=>ans_of (rmul_ok _ _ _ _ (1 / 3600) 1852 W (isR_lit2 _ _ 1 3600 _ (by decide +kernel) (by decide +kernel) (by decide +kernel) (by decide +kernel) (by decide +kernel) (by decide +kernel) (by decide +kernel) (by decide +kernel) (by decide +kernel)) is_nautical (htab.later hb)) (by decide +kernel) is_knot) (fun W hb=>fw_knot W (htab.later hb))
theorem mul6 (w:World) (htab:Tab w):Calls Tryz.prog 16 #[.string ⟨#[52,51,53,54,48]⟩,.string ⟨#[49]⟩,.string ⟨#[102,111,111,116]⟩,.string ⟨#[102,111,111,116]⟩,.string ⟨#[97,99,114,101]⟩] w fun r w'=>r=.returned (.bool true)∧Below w.heap.size w w' :=
 are2 _ _ _ _ _ _ _ _ _ ⟨#[49,54,53,57,54,51,54]⟩ ⟨#[49,50,53]⟩ _ _ w (by decide +kernel) (by decide +kernel) (fun W hb=>fw_foot W (htab.later hb)) (fun W hb=>ans_of (rmul_ok _ _ _ _ 43560 (381 / 1250) W (isR_lit2 _ _ 43560 1 _ (by decide +kernel) (by decide +kernel) (by decide +kernel) (by decide +kernel) (by decide +kernel) (by decide +kernel) (by decide +kernel) (by decide +kernel) (by decide +kernel)) is_foot (htab.later hb)) (by decide +kernel) (isR_lit2 _ _ 1659636 125 _ (by decide +kernel) (by decide +kernel) (by decide +kernel) (by decide +kernel) (by decide +kernel) (by decide +kernel) (by decide +kernel) (by decide +kernel) (by decide +kernel):IsR _ _ (1659636 / 125))) (fun W hb=>fw_foot W (htab.later hb)) (fun W hb=>ans_of (rmul_ok _ _ _ _ (1659636 / 125) (381 / 1250) W (isR_lit2 _ _ 1659636 125 _ (by decide +kernel) (by decide +kernel) (by decide +kernel) (by decide +kernel) (by decide +kernel) (by decide +kernel) (by decide +kernel) (by decide +kernel) (by decide +kernel)) is_foot (htab.later hb)) (by decide +kernel) is_acre) (fun W hb=>fw_acre W (htab.later hb))
theorem mul7 (w:World) (htab:Tab w):Calls Tryz.prog 16 #[.string ⟨#[49]⟩,.string ⟨#[56]⟩,.string ⟨#[103,97,108,108,111,110]⟩,.string ⟨#[]⟩,.string ⟨#[112,105,110,116]⟩] w fun r w'=>r=.returned (.bool true)∧Below w.heap.size w w' :=
 are1 _ _ _ _ _ _ _ _ w (by decide +kernel) (fun W hb=>fw_gallon W (htab.later hb)) (fun W hb=>ans_of (rmul_ok _ _ _ _ (1 / 8) (473176473 / 125000000000) W (isR_lit2 _ _ 1 8 _ (by decide +kernel) (by decide +kernel) (by decide +kernel) (by decide +kernel) (by decide +kernel) (by decide +kernel) (by decide +kernel) (by decide +kernel) (by decide +kernel)) is_gallon (htab.later hb)) (by decide +kernel) is_pint) (fun W hb=>fw_pint W (htab.later hb))
theorem mul8 (w:World) (htab:Tab w):Calls Tryz.prog 16 #[.string ⟨#[49]⟩,.string ⟨#[55,48,48,48]⟩,.string ⟨#[112,111,117,110,100]⟩,.string ⟨#[]⟩,.string ⟨#[103,114,97,105,110]⟩] w fun r w'=>r=.returned (.bool true)∧Below w.heap.size w w' :=
 are1 _ _ _ _ _ _ _ _ w (by decide +kernel) (fun W hb=>fw_pound W (htab.later hb)) (fun W hb=>ans_of (rmul_ok _ _ _ _ (1 / 7000) (45359237 / 100000000) W (isR_lit2 _ _ 1 7000 _ (by decide +kernel) (by decide +kernel) (by decide +kernel) (by decide +kernel) (by decide +kernel) (by decide +kernel) (by decide +kernel) (by decide +kernel) (by decide +kernel)) is_pound (htab.later hb)) (by decide +kernel) is_grain) (fun W hb=>fw_grain W (htab.later hb))
theorem mul9 (w:World) (htab:Tab w):Calls Tryz.prog 16 #[.string ⟨#[49]⟩,.string ⟨#[49,54]⟩,.string ⟨#[112,111,117,110,100]⟩,.string ⟨#[]⟩,.string ⟨#[111,117,110,99,101]⟩] w fun r w'=>r=.returned (.bool true)∧Below w.heap.size w w' :=
 are1 _ _ _ _ _ _ _ _ w (by decide +kernel) (fun W hb=>fw_pound W (htab.later hb)) (fun W hb=>ans_of (rmul_ok _ _ _ _ (1 / 16) (45359237 / 100000000) W (isR_lit2 _ _ 1 16 _ (by decide +kernel) (by decide +kernel) (by decide +kernel) (by decide +kernel) (by decide +kernel) (by decide +kernel) (by decide +kernel) (by decide +kernel) (by decide +kernel)) is_pound (htab.later hb)) (by decide +kernel) is_ounce) (fun W hb=>fw_ounce W (htab.later hb))
theorem mul10 (w:World) (htab:Tab w):Calls Tryz.prog 16 #[.string ⟨#[49,57,54,49,51,51]⟩,.string ⟨#[50,48,48,48,48]⟩,.string ⟨#[112,111,117,110,100]⟩,.string ⟨#[]⟩,.string ⟨#[112,111,117,110,100,102,111,114,99,101]⟩] w fun r w'=>r=.returned (.bool true)∧Below w.heap.size w w' :=
 are1 _ _ _ _ _ _ _ _ w (by decide +kernel) (fun W hb=>fw_pound W (htab.later hb)) (fun W hb=>ans_of (rmul_ok _ _ _ _ (196133 / 20000) (45359237 / 100000000) W (isR_lit2 _ _ 196133 20000 _ (by decide +kernel) (by decide +kernel) (by decide +kernel) (by decide +kernel) (by decide +kernel) (by decide +kernel) (by decide +kernel) (by decide +kernel) (by decide +kernel)) is_pound (htab.later hb)) (by decide +kernel) is_poundforce) (fun W hb=>fw_poundforce W (htab.later hb))
theorem mul11 (w:World) (htab:Tab w):Calls Tryz.prog 16 #[.string ⟨#[53,53,48]⟩,.string ⟨#[49]⟩,.string ⟨#[102,111,111,116]⟩,.string ⟨#[112,111,117,110,100,102,111,114,99,101]⟩,.string ⟨#[104,111,114,115,101,112,111,119,101,114]⟩] w fun r w'=>r=.returned (.bool true)∧Below w.heap.size w w' :=
 are2 _ _ _ _ _ _ _ _ _ ⟨#[52,49,57,49]⟩ ⟨#[50,53]⟩ _ _ w (by decide +kernel) (by decide +kernel) (fun W hb=>fw_foot W (htab.later hb)) (fun W hb=>ans_of (rmul_ok _ _ _ _ 550 (381 / 1250) W (isR_lit2 _ _ 550 1 _ (by decide +kernel) (by decide +kernel) (by decide +kernel) (by decide +kernel) (by decide +kernel) (by decide +kernel) (by decide +kernel) (by decide +kernel) (by decide +kernel)) is_foot (htab.later hb)) (by decide +kernel) (isR_lit2 _ _ 4191 25 _ (by decide +kernel) (by decide +kernel) (by decide +kernel) (by decide +kernel) (by decide +kernel) (by decide +kernel) (by decide +kernel) (by decide +kernel) (by decide +kernel):IsR _ _ (4191 / 25))) (fun W hb=>fw_poundforce W (htab.later hb)) (fun W hb=>ans_of (rmul_ok _ _ _ _ (4191 / 25) (8896443230521 / 2000000000000) W (isR_lit2 _ _ 4191 25 _ (by decide +kernel) (by decide +kernel) (by decide +kernel) (by decide +kernel) (by decide +kernel) (by decide +kernel) (by decide +kernel) (by decide +kernel) (by decide +kernel)) is_poundforce (htab.later hb)) (by decide +kernel) is_horsepower) (fun W hb=>fw_horsepower W (htab.later hb))
theorem mul12 (w:World) (htab:Tab w):Calls Tryz.prog 16 #[.string ⟨#[49,52]⟩,.string ⟨#[49]⟩,.string ⟨#[112,111,117,110,100]⟩,.string ⟨#[]⟩,.string ⟨#[115,116,111,110,101]⟩] w fun r w'=>r=.returned (.bool true)∧Below w.heap.size w w' :=
 are1 _ _ _ _ _ _ _ _ w (by decide +kernel) (fun W hb=>fw_pound W (htab.later hb)) (fun W hb=>ans_of (rmul_ok _ _ _ _ 14 (45359237 / 100000000) W (isR_lit2 _ _ 14 1 _ (by decide +kernel) (by decide +kernel) (by decide +kernel) (by decide +kernel) (by decide +kernel) (by decide +kernel) (by decide +kernel) (by decide +kernel) (by decide +kernel)) is_pound (htab.later hb)) (by decide +kernel) is_stone) (fun W hb=>fw_stone W (htab.later hb))
theorem mul13 (w:World) (htab:Tab w):Calls Tryz.prog 16 #[.string ⟨#[50,48,48,48]⟩,.string ⟨#[49]⟩,.string ⟨#[112,111,117,110,100]⟩,.string ⟨#[]⟩,.string ⟨#[116,111,110]⟩] w fun r w'=>r=.returned (.bool true)∧Below w.heap.size w w' :=
 are1 _ _ _ _ _ _ _ _ w (by decide +kernel) (fun W hb=>fw_pound W (htab.later hb)) (fun W hb=>ans_of (rmul_ok _ _ _ _ 2000 (45359237 / 100000000) W (isR_lit2 _ _ 2000 1 _ (by decide +kernel) (by decide +kernel) (by decide +kernel) (by decide +kernel) (by decide +kernel) (by decide +kernel) (by decide +kernel) (by decide +kernel) (by decide +kernel)) is_pound (htab.later hb)) (by decide +kernel) is_ton) (fun W hb=>fw_ton W (htab.later hb))
theorem mul14 (w:World) (htab:Tab w):Calls Tryz.prog 16 #[.string ⟨#[49]⟩,.string ⟨#[55,54,48]⟩,.string ⟨#[97,116,109,111,115,112,104,101,114,101]⟩,.string ⟨#[]⟩,.string ⟨#[116,111,114,114]⟩] w fun r w'=>r=.returned (.bool true)∧Below w.heap.size w w' :=
 are1 _ _ _ _ _ _ _ _ w (by decide +kernel) (fun W hb=>fw_atmosphere W (htab.later hb)) (fun W hb=>ans_of (rmul_ok _ _ _ _ (1 / 760) 101325 W (isR_lit2 _ _ 1 760 _ (by decide +kernel) (by decide +kernel) (by decide +kernel) (by decide +kernel) (by decide +kernel) (by decide +kernel) (by decide +kernel) (by decide +kernel) (by decide +kernel)) is_atmosphere (htab.later hb)) (by decide +kernel) is_torr) (fun W hb=>fw_torr W (htab.later hb))
set_option maxRecDepth 100000 in
set_option maxHeartbeats 8000000 in
theorem law_mult (w:World) (htab:Tab w):Calls Tryz.prog 5 #[] w fun r w'=>r=.returned (.bool true)∧Below w.heap.size w w':=by
 have HTA:Hid (∀W,Below w.heap.size w W→Tab W):=fun W h=>htab.later h
 have HB:Hid (Below w.heap.size w w):=Below.refl _ _
 clear htab
 go_enter Tryz.func5,Tryz.ntmps5
 go_wp2_with fail
 refine(mul0 _ (un HTA _ (un HB))).mono ?_
 rintro e W ⟨rfl,hb⟩
 have HB1:Hid (Below w.heap.size w W):=(un HB).trans (hb.mono (un HB).size)
 clear HB hb
 have HB:=HB1
 clear HB1
 go_wp2_with fail
 refine(mul1 _ (un HTA _ (un HB))).mono ?_
 rintro e W ⟨rfl,hb⟩
 have HB1:Hid (Below w.heap.size w W):=(un HB).trans (hb.mono (un HB).size)
 clear HB hb
 have HB:=HB1
 clear HB1
 go_wp2_with fail
 refine(mul2 _ (un HTA _ (un HB))).mono ?_
 rintro e W ⟨rfl,hb⟩
 have HB1:Hid (Below w.heap.size w W):=(un HB).trans (hb.mono (un HB).size)
 clear HB hb
 have HB:=HB1
 clear HB1
 go_wp2_with fail
 refine(mul3 _ (un HTA _ (un HB))).mono ?_
 rintro e W ⟨rfl,hb⟩
 have HB1:Hid (Below w.heap.size w W):=(un HB).trans (hb.mono (un HB).size)
 clear HB hb
 have HB:=HB1
 clear HB1
 go_wp2_with fail
 refine(mul4 _ (un HTA _ (un HB))).mono ?_
 rintro e W ⟨rfl,hb⟩
 have HB1:Hid (Below w.heap.size w W):=(un HB).trans (hb.mono (un HB).size)
 clear HB hb
 have HB:=HB1
 clear HB1
 go_wp2_with fail
 refine(mul5 _ (un HTA _ (un HB))).mono ?_
 rintro e W ⟨rfl,hb⟩
 have HB1:Hid (Below w.heap.size w W):=(un HB).trans (hb.mono (un HB).size)
 clear HB hb
 have HB:=HB1
 clear HB1
 go_wp2_with fail
 refine(mul6 _ (un HTA _ (un HB))).mono ?_
 rintro e W ⟨rfl,hb⟩
 have HB1:Hid (Below w.heap.size w W):=(un HB).trans (hb.mono (un HB).size)
 clear HB hb
 have HB:=HB1
 clear HB1
 go_wp2_with fail
 refine(mul7 _ (un HTA _ (un HB))).mono ?_
 rintro e W ⟨rfl,hb⟩
 have HB1:Hid (Below w.heap.size w W):=(un HB).trans (hb.mono (un HB).size)
 clear HB hb
 have HB:=HB1
 clear HB1
 go_wp2_with fail
 refine(mul8 _ (un HTA _ (un HB))).mono ?_
 rintro e W ⟨rfl,hb⟩
 have HB1:Hid (Below w.heap.size w W):=(un HB).trans (hb.mono (un HB).size)
 clear HB hb
 have HB:=HB1
 clear HB1
 go_wp2_with fail
 refine(mul9 _ (un HTA _ (un HB))).mono ?_
 rintro e W ⟨rfl,hb⟩
 have HB1:Hid (Below w.heap.size w W):=(un HB).trans (hb.mono (un HB).size)
 clear HB hb
 have HB:=HB1
 clear HB1
 go_wp2_with fail
 refine(mul10 _ (un HTA _ (un HB))).mono ?_
 rintro e W ⟨rfl,hb⟩
 have HB1:Hid (Below w.heap.size w W):=(un HB).trans (hb.mono (un HB).size)
 clear HB hb
 have HB:=HB1
 clear HB1
 go_wp2_with fail
 refine(mul11 _ (un HTA _ (un HB))).mono ?_
 rintro e W ⟨rfl,hb⟩
 have HB1:Hid (Below w.heap.size w W):=(un HB).trans (hb.mono (un HB).size)
 clear HB hb
 have HB:=HB1
 clear HB1
 go_wp2_with fail
 refine(mul12 _ (un HTA _ (un HB))).mono ?_
 rintro e W ⟨rfl,hb⟩
 have HB1:Hid (Below w.heap.size w W):=(un HB).trans (hb.mono (un HB).size)
 clear HB hb
 have HB:=HB1
 clear HB1
 go_wp2_with fail
 refine(mul13 _ (un HTA _ (un HB))).mono ?_
 rintro e W ⟨rfl,hb⟩
 have HB1:Hid (Below w.heap.size w W):=(un HB).trans (hb.mono (un HB).size)
 clear HB hb
 have HB:=HB1
 clear HB1
 go_wp2_with fail
 refine(mul14 _ (un HTA _ (un HB))).mono ?_
 rintro e W ⟨rfl,hb⟩
 have HB1:Hid (Below w.heap.size w W):=(un HB).trans (hb.mono (un HB).size)
 clear HB hb
 have HB:=HB1
 clear HB1
 go_wp2_with fail
 go_ret
 exact⟨rfl,un HB⟩
end Go.Proofs.YtamoadanapmmeaaGreatDoor.Tr

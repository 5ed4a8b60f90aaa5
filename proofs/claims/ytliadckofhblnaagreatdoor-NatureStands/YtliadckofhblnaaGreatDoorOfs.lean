/- rat.Of and the document's Of. -/
import Derived.Test.YtliadckofhblnaaGreatDoorLimb3
import Derived.Test.YtliadckofhblnaaGreatDoorPower
import Derived.Test.YtliadckofhblnaaGreatDoorTx
import Derived.Test.YtliadckofhblnaaGreatDoorOfTwo
import Derived.Test.YtliadckofhblnaaGreatDoorOwn
import Derived.Test.YtliadckofhblnaaGreatDoorLehmer
import Derived.Deep.RegionHeld3
import Derived.Test.YtliadckofhblnaaGreatDoorOne
set_option maxHeartbeats 6400000
set_option maxRecDepth 100000
namespace Go.Proofs.YtliadckofhblnaaGreatDoor
open Go.RowKit
theorem fpow_pos (b:Bool) (a1 a2:Option Addr) (l1 c1 l2 c2:Nat) (N D k NK DK:Nat) (w:World)
  (hN:zAf w (.agg #[.slice a1 l1 c1]) N) (hD:zAf w (.agg #[.slice a2 l2 c2]) D) (hk:k≤4096)
  (hp1:∀W v,zAf W v N→Calls Tryz.prog 269 #[v,I (k:Int)] W fun e w'=>∃a l c,e=.returned (.tuple #[.agg #[.slice a l c],.bool true])∧zAf w' (.agg #[.slice a l c]) NK∧Bw W w')
  (hp2:∀W v,zAf W v D→Calls Tryz.prog 269 #[v,I (k:Int)] W fun e w'=>∃a l c,e=.returned (.tuple #[.agg #[.slice a l c],.bool true])∧zAf w' (.agg #[.slice a l c]) DK∧Bw W w') :
  Calls Tryz.prog 235 #[.agg #[.bool b,.slice a1 l1 c1,.slice a2 l2 c2],I (k:Int)] w fun e w'=>∃v,e=.returned (.tuple #[v,I 0])∧zCd w' v (b && decide (k % 2=1)) NK DK∧Bw w w':=by
 obtain⟨V,hV⟩:∃V,V=(w.alloc (.cells #[.bool b,.slice a1 l1 c1,.slice a2 l2 c2] 82)).alloc (.cells #[.bool false,.slice none 0 0,.slice none 0 0] 82):=⟨_,rfl⟩;have HW:Hid (Bw w V):=by rw[hV];exact bA.alloc (by simp) _
 have HA:Hid (FBox V w.heap.size (.bool b) (.slice a1 l1 c1) (.slice a2 l2 c2)):=by rw[hV];exact(FBox.new _ _ _ _).later bA
 have HR:Hid (FBox V (w.heap.size+1) (.bool false) (.slice none 0 0) (.slice none 0 0)):=by rw[hV];have h:=FBox.new (w.alloc (.cells #[.bool b,.slice a1 l1 c1,.slice a2 l2 c2] 82)) (.bool false) (.slice none 0 0) (.slice none 0 0);rw[Dm.size_alloc]at h;exact h
 have HN:=zAb (hN.later (un HW));have HD:=zAb (hD.later (un HW));have H1:=zAb hp1;have H2:=zAb hp2;have HV:=zAb hV;have hk0:¬(k:Int)<0:=by omega
 have HPAR:Hid (((k:Int) % 2 == 1)=decide (k % 2=1)):=by
  show _=_;rw[Bool.eq_iff_iff];simp
  omega
 clear hV hN hD hp1 hp2;go_enter Tryz.func235,Tryz.ntmps235
 go_upto_region 1 with fail
 rw[←un HV];clear HV;have t0:=(un HA).c0;have t1:=(un HA).c1;have t2:=(un HA).c2
 go_upto_region 6 with (go_at_call 269;go_must(refine(un H1 _ _ (un HN)).mono ?_;rintro e w1 ⟨p1,p2,p3,rfl,hp,hb⟩;have HP1:=zAb hp;have HA1:=zAb ((un HA).later hb);have HR1:=zAb ((un HR).later hb);have HD1:=zAb ((un HD).later hb);have HW1:Hid (Bw w w1):=bt HW hb;clear hb hp t0 t1 t2))
 obtain⟨V3,hV3⟩:∃V3,V3=w1.alloc (.cells #[.slice p1 p2 p3] 80):=⟨_,rfl⟩;have hb3:Below w1.heap.size w1 V3:=by rw[hV3];exact bA
 have HX3:Hid (Box V3 w1.heap.size (.slice p1 p2 p3)):=by rw[hV3];exact⟨by simp[go_sem],by simp[go_sem]⟩
 have HP3:=zAb ((un HP1).later hb3);have HA3:=zAb ((un HA1).later hb3);have HR3:=zAb ((un HR1).later hb3);have HD3:=zAb ((un HD1).later hb3);have HW3:Hid (Bw w V3):=bt HW1 hb3;have HNE:Hid (¬w.heap.size+1=w1.heap.size):=(by have:=(un HR1).lt;show ¬_;omega);rw[←hV3];clear hV3 hb3 HP1 HA1 HR1 HD1 HW1 HA HR HN HD HW H1;generalize w1.heap.size=g6 at *
 have t0:=(un HA3).c0;have t1:=(un HA3).c1;have t2:=(un HA3).c2
 go_upto_region 7 with (go_at_call 269;go_must(refine(un H2 _ _ (un HD3)).mono ?_;rintro e w4 ⟨q1,q2,q3,rfl,hp,hb⟩;have HQ4:=zAb hp;have HA4:=zAb ((un HA3).later hb);have HR4:=zAb ((un HR3).later hb);have HX4:=zAb ((un HX3).later hb);have HP4:=zAb ((un HP3).later hb);have HW4:Hid (Bw w w4):=bt HW3 hb;clear hb hp t0 t1 t2))
 obtain⟨V5,hV5⟩:∃V5,V5=w4.alloc (.cells #[.slice q1 q2 q3] 80):=⟨_,rfl⟩;have hb5:Below w4.heap.size w4 V5:=by rw[hV5];exact bA
 have HY5:Hid (Box V5 w4.heap.size (.slice q1 q2 q3)):=by rw[hV5];exact⟨by simp[go_sem],by simp[go_sem]⟩
 have HX5:=zAb ((un HX4).later hb5);have HP5:=zAb ((un HP4).later hb5);have HQ5:=zAb ((un HQ4).later hb5);have HA5:=zAb ((un HA4).later hb5);have HR5:=zAb ((un HR4).later hb5);have HW5:Hid (Bw w V5):=bt HW4 hb5;rw[←hV5];clear hV5 hb5 HX4 HP4 HQ4 HA4 HR4 HW4 HX3 HP3 HA3 HR3 HD3 HW3 H2;generalize w4.heap.size=g8 at *
 have t0:=(un HA5).c0;have x0:=(un HX5).c;have y0:=(un HY5).c;have r0:=(un HR5).c0;have r1:=(un HR5).c1;have r2:=(un HR5).c2;have f0:=(un HR5).f0;have f1:=(un HR5).f1;have f2:=(un HR5).f2
 cases b
 ·go_wp2_with fail
  have hS:=(un HR5).store (.bool false) (.slice p1 p2 p3) (.slice q1 q2 q3);have u0:=hS.c0;have u1:=hS.c1;have u2:=hS.c2;refine bodyPost_ret (v:=.tuple #[.agg #[.bool false,.slice p1 p2 p3,.slice q1 q2 q3],I 0]) (w:=zAs V5 (w.heap.size+1) (.bool false) (.slice p1 p2 p3) (.slice q1 q2 q3)) (by simp[results,Tryz.results235,go_sem,u0,u1,u2]) rfl ⟨_,rfl,⟨_,_,?_,(un HR5).big _ _ _ (un HP5),(un HR5).big _ _ _ (un HQ5)⟩,zAq (un HW5) (by omega) _ _ _⟩;rw[Bool.false_and]
 ·go_wp2_with fail
  have hS:=(un HR5).store (.bool ((k:Int) % 2 == 1)) (.slice p1 p2 p3) (.slice q1 q2 q3);have u0:=hS.c0;have u1:=hS.c1;have u2:=hS.c2;refine bodyPost_ret (v:=.tuple #[.agg #[.bool ((k:Int) % 2 == 1),.slice p1 p2 p3,.slice q1 q2 q3],I 0]) (w:=zAs V5 (w.heap.size+1) (.bool ((k:Int) % 2 == 1)) (.slice p1 p2 p3) (.slice q1 q2 q3)) (by simp[results,Tryz.results235,go_sem,u0,u1,u2]) rfl ⟨_,rfl,⟨_,_,?_,(un HR5).big _ _ _ (un HP5),(un HR5).big _ _ _ (un HQ5)⟩,zAq (un HW5) (by omega) _ _ _⟩;rw[un HPAR,Bool.true_and]
theorem fpow_neg (b:Bool) (x1 x2:Option Addr) (y1 z1 y2 z2:Nat) (N D k NK DK:Nat) (sg:Int) (w:World)
  (hF:zCd w (.agg #[.bool b,.slice x1 y1 z1,.slice x2 y2 z2]) b D N) (hk:k≤4096) (hk1:0<k) (hsg0:sg≠0)
  (hsg:∀W,zCd W (.agg #[.bool b,.slice x1 y1 z1,.slice x2 y2 z2]) b D N→Calls Tryz.prog 68 #[.agg #[.bool b,.slice x1 y1 z1,.slice x2 y2 z2]] W fun e w'=>e=.returned (I sg)∧Bw W w')
  (hin:∀W,zCd W (.agg #[.bool b,.slice x1 y1 z1,.slice x2 y2 z2]) b D N→Calls Tryz.prog 155 #[.agg #[.bool b,.slice x1 y1 z1,.slice x2 y2 z2]] W fun e w'=>∃v,e=.returned v∧zCd w' v b N D∧Bw W w')
  (hp1:∀W v,zAf W v N→Calls Tryz.prog 269 #[v,I (k:Int)] W fun e w'=>∃a l c,e=.returned (.tuple #[.agg #[.slice a l c],.bool true])∧zAf w' (.agg #[.slice a l c]) NK∧Bw W w')
  (hp2:∀W v,zAf W v D→Calls Tryz.prog 269 #[v,I (k:Int)] W fun e w'=>∃a l c,e=.returned (.tuple #[.agg #[.slice a l c],.bool true])∧zAf w' (.agg #[.slice a l c]) DK∧Bw W w') :
  Calls Tryz.prog 235 #[.agg #[.bool b,.slice x1 y1 z1,.slice x2 y2 z2],I (-(k:Int))] w fun e w'=>∃v,e=.returned (.tuple #[v,I 0])∧zCd w' v (b && decide (k % 2=1)) NK DK∧Bw w w':=by
 obtain⟨V,hV⟩:∃V,V=(w.alloc (.cells #[.bool b,.slice x1 y1 z1,.slice x2 y2 z2] 82)).alloc (.cells #[.bool false,.slice none 0 0,.slice none 0 0] 82):=⟨_,rfl⟩;have HW:Hid (Bw w V):=by rw[hV];exact bA.alloc (by simp) _
 have HA:Hid (FBox V w.heap.size (.bool b) (.slice x1 y1 z1) (.slice x2 y2 z2)):=by rw[hV];exact(FBox.new _ _ _ _).later bA
 have HR:Hid (FBox V (w.heap.size+1) (.bool false) (.slice none 0 0) (.slice none 0 0)):=by rw[hV];have h:=FBox.new (w.alloc (.cells #[.bool b,.slice x1 y1 z1,.slice x2 y2 z2] 82)) (.bool false) (.slice none 0 0) (.slice none 0 0);rw[Dm.size_alloc]at h;exact h
 have HF:=zAb (hF.later (un HW));have H1:=zAb hp1;have H2:=zAb hp2;have HSG:=zAb hsg;have HIN:=zAb hin;have HV:=zAb hV;have hk0:-(k:Int)<0:=by omega
 have hsb:(sg == 0)=false:=by simpa using hsg0
 have HPAR:Hid (((k:Int) % 2 == 1)=decide (k % 2=1)):=by
  show _=_;rw[Bool.eq_iff_iff];simp
  omega
 clear hV hF hp1 hp2 hsg hin hsg0;go_enter Tryz.func235,Tryz.ntmps235
 go_upto_region 1 with fail
 rw[←un HV];clear HV;have t0:=(un HA).c0;have t1:=(un HA).c1;have t2:=(un HA).c2
 go_upto_region 4 with (go_at_call 68;go_must(refine(un HSG _ (un HF)).mono ?_;rintro e w1 ⟨rfl,hb⟩;have HF1:=zAb ((un HF).later hb);have HA1:=zAb ((un HA).later hb);have HR1:=zAb ((un HR).later hb);have HW1:Hid (Bw w w1):=bt HW hb;clear hb t0 t1 t2))
 clear hsb HF HA HR HW HSG;have t0:=(un HA1).c0;have t1:=(un HA1).c1;have t2:=(un HA1).c2;have f0:=(un HA1).f0;have f1:=(un HA1).f1;have f2:=(un HA1).f2
 go_upto_region 5 with (go_at_call 155;go_must(refine(un HIN _ (un HF1)).mono ?_;rintro e w2 ⟨v2,rfl,hv,hb⟩;obtain⟨a1,l1,c1,a2,l2,c2,rfl,hN,hD⟩:=hv.form;have HN2:=zAb hN;have HD2:=zAb hD;have HA2:=zAb ((un HA1).later hb);have HR2:=zAb ((un HR1).later hb);have HW2:Hid (Bw w w2):=bt HW1 hb;clear hb hv hN hD t0 t1 t2 f0 f1 f2;have t0:=(un HA2).c0;have t1:=(un HA2).c1;have t2:=(un HA2).c2;have f0:=(un HA2).f0;have f1:=(un HA2).f1;have f2:=(un HA2).f2))
 have HA:Hid (FBox (zAs w2 w.heap.size (.bool b) (.slice a1 l1 c1) (.slice a2 l2 c2)) w.heap.size (.bool b) (.slice a1 l1 c1) (.slice a2 l2 c2)):=(un HA2).store _ _ _;have HR:Hid (FBox (zAs w2 w.heap.size (.bool b) (.slice a1 l1 c1) (.slice a2 l2 c2)) (w.heap.size+1) (.bool false) (.slice none 0 0) (.slice none 0 0)):=(un HR2).other3 (by omega) _ _ _;have HN:Hid (zAf (zAs w2 w.heap.size (.bool b) (.slice a1 l1 c1) (.slice a2 l2 c2)) (.agg #[.slice a1 l1 c1]) N):=(un HA2).big _ _ _ (un HN2);have HD:Hid (zAf (zAs w2 w.heap.size (.bool b) (.slice a1 l1 c1) (.slice a2 l2 c2)) (.agg #[.slice a2 l2 c2]) D):=(un HA2).big _ _ _ (un HD2);have HW:Hid (Bw w (zAs w2 w.heap.size (.bool b) (.slice a1 l1 c1) (.slice a2 l2 c2))):=zAq (un HW2) (Nat.le_refl _) _ _ _;unfold zAs at HA HR HN HD HW
 clear t0 t1 t2 f0 f1 f2 HA2 HR2 HN2 HD2 HW2 HF1 HA1 HR1 HW1 HIN hk0;generalize ((w2.setCell ⟨w.heap.size,0,none⟩ (.bool b)).setCell ⟨w.heap.size,1,none⟩ (.slice a1 l1 c1)).setCell ⟨w.heap.size,2,none⟩ (.slice a2 l2 c2)=V at *
 have t0:=(un HA).c0;have t1:=(un HA).c1;have t2:=(un HA).c2
 go_upto_region 6 with (go_at_call 269;go_must(refine(un H1 _ _ (un HN)).mono ?_;rintro e w1 ⟨p1,p2,p3,rfl,hp,hb⟩;have HP1:=zAb hp;have HA1:=zAb ((un HA).later hb);have HR1:=zAb ((un HR).later hb);have HD1:=zAb ((un HD).later hb);have HW1:Hid (Bw w w1):=bt HW hb;clear hb hp t0 t1 t2))
 obtain⟨V3,hV3⟩:∃V3,V3=w1.alloc (.cells #[.slice p1 p2 p3] 80):=⟨_,rfl⟩;have hb3:Below w1.heap.size w1 V3:=by rw[hV3];exact bA
 have HX3:Hid (Box V3 w1.heap.size (.slice p1 p2 p3)):=by rw[hV3];exact⟨by simp[go_sem],by simp[go_sem]⟩
 have HP3:=zAb ((un HP1).later hb3);have HA3:=zAb ((un HA1).later hb3);have HR3:=zAb ((un HR1).later hb3);have HD3:=zAb ((un HD1).later hb3);have HW3:Hid (Bw w V3):=bt HW1 hb3;have HNE:Hid (¬w.heap.size+1=w1.heap.size):=(by have:=(un HR1).lt;show ¬_;omega);rw[←hV3];clear hV3 hb3 HP1 HA1 HR1 HD1 HW1 HA HR HN HD HW H1;generalize w1.heap.size=g6 at *
 have t0:=(un HA3).c0;have t1:=(un HA3).c1;have t2:=(un HA3).c2
 go_upto_region 7 with (go_at_call 269;go_must(refine(un H2 _ _ (un HD3)).mono ?_;rintro e w4 ⟨q1,q2,q3,rfl,hp,hb⟩;have HQ4:=zAb hp;have HA4:=zAb ((un HA3).later hb);have HR4:=zAb ((un HR3).later hb);have HX4:=zAb ((un HX3).later hb);have HP4:=zAb ((un HP3).later hb);have HW4:Hid (Bw w w4):=bt HW3 hb;clear hb hp t0 t1 t2))
 obtain⟨V5,hV5⟩:∃V5,V5=w4.alloc (.cells #[.slice q1 q2 q3] 80):=⟨_,rfl⟩;have hb5:Below w4.heap.size w4 V5:=by rw[hV5];exact bA
 have HY5:Hid (Box V5 w4.heap.size (.slice q1 q2 q3)):=by rw[hV5];exact⟨by simp[go_sem],by simp[go_sem]⟩
 have HX5:=zAb ((un HX4).later hb5);have HP5:=zAb ((un HP4).later hb5);have HQ5:=zAb ((un HQ4).later hb5);have HA5:=zAb ((un HA4).later hb5);have HR5:=zAb ((un HR4).later hb5);have HW5:Hid (Bw w V5):=bt HW4 hb5;rw[←hV5];clear hV5 hb5 HX4 HP4 HQ4 HA4 HR4 HW4 HX3 HP3 HA3 HR3 HD3 HW3 H2;generalize w4.heap.size=g8 at *
 have t0:=(un HA5).c0;have x0:=(un HX5).c;have y0:=(un HY5).c;have r0:=(un HR5).c0;have r1:=(un HR5).c1;have r2:=(un HR5).c2;have f0:=(un HR5).f0;have f1:=(un HR5).f1;have f2:=(un HR5).f2
 cases b
 ·go_wp2_with fail
  have hS:=(un HR5).store (.bool false) (.slice p1 p2 p3) (.slice q1 q2 q3);have u0:=hS.c0;have u1:=hS.c1;have u2:=hS.c2;refine bodyPost_ret (v:=.tuple #[.agg #[.bool false,.slice p1 p2 p3,.slice q1 q2 q3],I 0]) (w:=zAs V5 (w.heap.size+1) (.bool false) (.slice p1 p2 p3) (.slice q1 q2 q3)) (by simp[results,Tryz.results235,go_sem,u0,u1,u2]) rfl ⟨_,rfl,⟨_,_,?_,(un HR5).big _ _ _ (un HP5),(un HR5).big _ _ _ (un HQ5)⟩,zAq (un HW5) (by omega) _ _ _⟩;rw[Bool.false_and]
 ·go_wp2_with fail
  have hS:=(un HR5).store (.bool ((k:Int) % 2 == 1)) (.slice p1 p2 p3) (.slice q1 q2 q3);have u0:=hS.c0;have u1:=hS.c1;have u2:=hS.c2;refine bodyPost_ret (v:=.tuple #[.agg #[.bool ((k:Int) % 2 == 1),.slice p1 p2 p3,.slice q1 q2 q3],I 0]) (w:=zAs V5 (w.heap.size+1) (.bool ((k:Int) % 2 == 1)) (.slice p1 p2 p3) (.slice q1 q2 q3)) (by simp[results,Tryz.results235,go_sem,u0,u1,u2]) rfl ⟨_,rfl,⟨_,_,?_,(un HR5).big _ _ _ (un HP5),(un HR5).big _ _ _ (un HQ5)⟩,zAq (un HW5) (by omega) _ _ _⟩;rw[un HPAR,Bool.true_and]
theorem qquo (x y:Value) (p q:Rat) (k:Nat) (w:World) (hx:QOf w x p k) (hy:QOf w y q k) (hk:k+k≤100000) (hq:q≠0) :
  Calls Tryz.prog 69 #[x,y] w fun r w'=>∃v,r=.returned v∧QOf w' v (p*q⁻¹) (k+k)∧Bw w w':=by
 obtain⟨b,a1,l1,c1,a2,l2,c2,rfl⟩:=hx.form;obtain⟨c,a3,l3,c3,a4,l4,c4,rfl⟩:=hy.form;obtain⟨V,hV⟩:∃V,V=(((w.alloc (.cells #[.bool b,.slice a1 l1 c1,.slice a2 l2 c2] 82)).alloc (.cells #[.bool c,.slice a3 l3 c3,.slice a4 l4 c4] 82)).alloc (.cells #[.bool false,.slice none 0 0,.slice none 0 0] 82)):=⟨_,rfl⟩;have HS:Hid (AS w V (.bool b) (.slice a1 l1 c1) (.slice a2 l2 c2) (.bool c) (.slice a3 l3 c3) (.slice a4 l4 c4) []):=by rw[hV];exact AS.first _ _ _ _ _ _ _
 have HX:=zAb (hx.later (un HS).below);have HY:=zAb (hy.later (un HS).below);have HV:=zAb hV;have HK:=zAb hk
 have HC:Hid (∀w',Below V.heap.size V w'→(w'.cell? ⟨w.heap.size,0,none⟩=some (.bool b)∧w'.cell? ⟨w.heap.size,1,none⟩=some (.slice a1 l1 c1)∧w'.cell? ⟨w.heap.size,2,none⟩=some (.slice a2 l2 c2)∧w'.cell? ⟨w.heap.size+1,0,none⟩=some (.bool c)∧w'.cell? ⟨w.heap.size+1,1,none⟩=some (.slice a3 l3 c3)∧w'.cell? ⟨w.heap.size+1,2,none⟩=some (.slice a4 l4 c4))∧(w'.cell? ⟨w.heap.size+1+1,0,none⟩=some (.bool false)∧w'.cell? ⟨w.heap.size+1+1,1,none⟩=some (.slice none 0 0)∧w'.cell? ⟨w.heap.size+1+1,2,none⟩=some (.slice none 0 0)∧w'.frozen? ⟨w.heap.size+1+1,0,none⟩=false∧w'.frozen? ⟨w.heap.size+1+1,1,none⟩=false∧w'.frozen? ⟨w.heap.size+1+1,2,none⟩=false)∧w.heap.size<w'.heap.size∧w.heap.size+1<w'.heap.size∧w.heap.size+1+1<w'.heap.size):=fun U hb=>by
  have s:=(un HS).later hb;exact⟨⟨s.x.c0,s.x.c1,s.x.c2,s.y.c0,s.y.c1,s.y.c2⟩,⟨s.r.c0,s.r.c1,s.r.c2,s.r.f0,s.r.f1,s.r.f2⟩,s.x.lt,s.y.lt,s.r.lt⟩
 have HQ0:=zAb hq
 have HT:Hid (∀W v1 (j1 j2 j3:Nat) (o1:Option Addr) (o2:Option Addr) (j4:Nat) (bq:Bool),Below V.heap.size V W→v1=.agg #[.bool bq,.slice o1 j1 j2,.slice o2 j3 j4]→QOf W v1 q⁻¹ k→Calls Tryz.prog 147 #[.slice (some ⟨W.heap.size,0,none⟩) 2 2] (W.alloc (.cells #[.bool b,.slice a1 l1 c1,.slice a2 l2 c2,.bool bq,.slice o1 j1 j2,.slice o2 j3 j4] 82)) fun r w'=>∃v,r=.returned v∧QOf w' v (p*q⁻¹) (k+k)∧Bw W w'):=by
  intro W v1 j1 j2 j3 o1 o2 j4 bq hbW hv1 hq1;subst hv1;have hb:Below W.heap.size W (W.alloc (.cells #[.bool b,.slice a1 l1 c1,.slice a2 l2 c2,.bool bq,.slice o1 j1 j2,.slice o2 j3 j4] 82)):=bA;refine(qtimes W.heap.size b bq a1 a2 o1 o2 l1 c1 l2 c2 j1 j2 j3 j4 p q⁻¹ k _ (by simp[go_sem]) (by simp[go_sem]) (by simp[go_sem]) (by simp[go_sem]) (by simp[go_sem]) (by simp[go_sem]) (((un HX).later hbW).later hb) (hq1.later hb) hk).mono ?_;rintro r w' ⟨v,rfl,hv,hb'⟩;exact⟨v,rfl,hv,hb.trans (hb'.mono hb.size)⟩
 clear hx hy hk hV hq;go_enter Tryz.func69,Tryz.ntmps69
 go_upto_region 1 with fail
 rw[←un HV];clear HV;obtain⟨⟨t0,t1,t2,t3,t4,t5⟩,_⟩:=un HC V (Below.refl _ _)
 go_region_held3 (fun w'=>w'.cell? ⟨w.heap.size,0,none⟩=some (.bool b)∧w'.cell? ⟨w.heap.size,1,none⟩=some (.slice a1 l1 c1)∧w'.cell? ⟨w.heap.size,2,none⟩=some (.slice a2 l2 c2)∧w'.cell? ⟨w.heap.size+1,0,none⟩=some (.bool c)∧w'.cell? ⟨w.heap.size+1,1,none⟩=some (.slice a3 l3 c3)∧w'.cell? ⟨w.heap.size+1,2,none⟩=some (.slice a4 l4 c4)) (first|assumption|(refine⟨?_,?_,?_,?_,?_,?_⟩<;>first|assumption|(simp[go_sem, *];done)|(rw[World.cell?_setCell_other _ _ _ _ (by simp),World.cell?_setCell_other _ _ _ _ (by simp),World.cell?_setCell_other _ _ _ _ (by simp)];assumption))|(simp[go_sem, *];done)) ((first
  | (go_at_call 155;go_must(refine(qinv _ q k _ ((un HY).later ((Below.refl _ _).drew)) (un HQ0)).mono ?_;rintro e wa ⟨va,rfl,hva,hba⟩;obtain⟨bq,o1,j1,j2,o2,j3,j4,rfl⟩:=hva.form;have HVA:=zAb hva;have HCA:=zAb (((Below.refl V.heap.size V).drew).trans hba);clear hva hba t0 t1 t2 t3 t4 t5;obtain⟨⟨t0,t1,t2,t3,t4,t5⟩,_,z1,z2,z3⟩:=un HC wa (un HCA)))
  | (go_at_call 147;go_must(refine(un HT wa _ _ _ _ _ _ _ _ (un HCA) rfl (un HVA)).mono ?_;rintro e wb ⟨vb,rfl,hvb,hbb⟩;obtain⟨b1,i1,i2,i3,i4,i5,i6,rfl⟩:=hvb.form;have HVB:=zAb hvb;have HCB:=zAb (bt HCA hbb);clear hvb hbb t0 t1 t2 t3 t4 t5 z1 z2 z3;obtain⟨⟨t0,t1,t2,t3,t4,t5⟩,⟨r0,r1,r2,rf0,rf1,rf2⟩,_⟩:=un HC wb (un HCB)))))
 have HS1:=zAb ((un HS).later (un HCB));clear r0 r1 r2 rf0 rf1 rf2 t0 t1 t2 t3 t4 t5;have hS:=(un HS1).r.store (.bool b1) (.slice i1 i2 i3) (.slice i4 i5 i6);have hb:Below w.heap.size w (zAs wb (w.heap.size+1+1) (.bool b1) (.slice i1 i2 i3) (.slice i4 i5 i6)):=zAq (un HS1).below (by omega) _ _ _;obtain⟨V9,hV9⟩:∃V9,V9=zAs wb (w.heap.size+1+1) (.bool b1) (.slice i1 i2 i3) (.slice i4 i5 i6):=⟨_,rfl⟩;have hV9':V9=((wb.setCell ⟨w.heap.size+1+1,0,none⟩ (.bool b1)).setCell ⟨w.heap.size+1+1,1,none⟩ (.slice i1 i2 i3)).setCell ⟨w.heap.size+1+1,2,none⟩ (.slice i4 i5 i6):=hV9;have HQ9:=zAb ((un HVB).stored (un HS1).r);have u0:=hS.c0;have u1:=hS.c1;have u2:=hS.c2;rw[←hV9]at u0 u1 u2 HQ9 hb;rw[←hV9'];have HB9:=zAb hb;clear hV9 hV9' hS hb
 go_wp2_with fail
 exact bodyPost_ret (v:=.agg #[.bool b1,.slice i1 i2 i3,.slice i4 i5 i6]) (by simp[results,Tryz.results69,go_sem,u0,u1,u2]) rfl ⟨_,rfl,un HQ9,un HB9⟩
theorem cmp_zero (y:Rat) (h:y≠0):(Cub.cmpQ y 0 == 0)=false:=by
 rw[beq_eq_false_iff_ne];unfold Cub.cmpQ
 split
 ·decide
 ·split
  ·decide
  ·exfalso;apply h;grind
theorem zGq (n1 d1 n2 d2:ByteArray) (x y:Rat) (w:World) (h1:IsR n1 d1 x) (h2:IsR n2 d2 y) (hy:y≠0) (htab:Tab w):Ans 31 #[.agg #[.string n1,.string d1],.agg #[.string n2,.string d2]] w (zEp (x*y⁻¹)) (zEr (x*y⁻¹)) (zHa (x*y⁻¹)):=by
 unfold Ans;obtain⟨V,hV⟩:∃V,V=((w.alloc (.cells #[.string n1,.string d1] 28)).alloc (.cells #[.string n2,.string d2] 28)).alloc (.cells #[G #[],G #[]] 28):=⟨_,rfl⟩;have HS:Hid (O3 w V (.string n1) (.string d1) (.string n2) (.string d2)):=by rw[hV];exact O3.first _ _ _ _ _
 have HV:=zAb hV;have HR:=zAb (readTwo_ok n1 d1 n2 d2 x y V h1 h2);have HT:=zAb (htab.later (un HS).below);have HY0:=zAb hy;have HSG:Hid (∀W v,QOf W v y 67→∃sg:Int,(sg == 0)=false∧Calls Tryz.prog 68 #[v] W fun r w'=>r=.returned (I sg)∧Bw W w'):=fun W v hv=>⟨_,cmp_zero y hy,qsign v y 67 W hv⟩
 clear h1 h2 htab hy;go_enter Tryz.func31,Tryz.ntmps31
 go_upto_region 1 with fail
 rw[←un HV];clear hV HV;have t0:=(un HS).a.c0;have t1:=(un HS).a.c1;have t2:=(un HS).b.c0;have t3:=(un HS).b.c1
 go_upto_region 2 with (go_at_call 67;go_must(refine(un HR).mono ?_;rintro e w1 ⟨v1,v2,rfl,hv1,hv2,hb1⟩;obtain⟨b1,i1,i2,i3,i4,i5,i6,rfl⟩:=hv1.form;obtain⟨b2,j1,j2,j3,j4,j5,j6,rfl⟩:=hv2.form;have HS1:=zAb ((un HS).later hb1);have HV1:=zAb hv1;have HV2:=zAb hv2;have HT1:=zAb ((un HT).later hb1);clear hv1 hv2 hb1 t0 t1 t2 t3))
 obtain⟨V2,hV2⟩:∃V2,V2=(w1.alloc (.cells #[.bool b1,.slice i1 i2 i3,.slice i4 i5 i6] 82)).alloc (.cells #[.bool b2,.slice j1 j2 j3,.slice j4 j5 j6] 82):=⟨_,rfl⟩;have hb:Below w1.heap.size w1 V2:=by rw[hV2];exact bA.alloc (by simp) _
 have HS2:=zAb ((un HS1).later hb);have HX:=zAb ((un HV1).later hb);have HY:=zAb ((un HV2).later hb);have HT2:=zAb ((un HT1).later hb);have HP:Hid (FBox V2 w1.heap.size (.bool b1) (.slice i1 i2 i3) (.slice i4 i5 i6)):=by rw[hV2];exact(FBox.new _ _ _ _).later bA
 have HQ:Hid (FBox V2 (w1.heap.size+1) (.bool b2) (.slice j1 j2 j3) (.slice j4 j5 j6)):=by
  rw[hV2];have:=FBox.new (w1.alloc (.cells #[.bool b1,.slice i1 i2 i3,.slice i4 i5 i6] 82)) (.bool b2) (.slice j1 j2 j3) (.slice j4 j5 j6)
  rwa [show(w1.alloc (.cells #[.bool b1,.slice i1 i2 i3,.slice i4 i5 i6] 82)).heap.size=w1.heap.size+1 by simp]at this
 rw[←hV2];clear hV2 hb HS HS1 HV1 HV2 HT HT1 HR;generalize w1.heap.size=g8 at *
 have t0:=(un HP).c0;have t1:=(un HP).c1;have t2:=(un HP).c2;have t3:=(un HQ).c0;have t4:=(un HQ).c1;have t5:=(un HQ).c2;obtain⟨sg,hsg,hq⟩:=un HSG V2 _ (un HY);have HSS:=zAb hq;clear hq
 go_wp2_with (first
  | (go_at_call 68;go_must(refine(un HSS).mono ?_;rintro e w3 ⟨rfl,hb3⟩;have HX3:=zAb ((un HX).later hb3);have HY3:=zAb ((un HY).later hb3);have HS3:=zAb ((un HS2).later hb3);have HT3:=zAb ((un HT2).later hb3);have HP3:=zAb ((un HP).later hb3);have HQ3:=zAb ((un HQ).later hb3);clear hb3 t0 t1 t2 t3 t4 t5;have t0:=(un HP3).c0;have t1:=(un HP3).c1;have t2:=(un HP3).c2;have t3:=(un HQ3).c0;have t4:=(un HQ3).c1;have t5:=(un HQ3).c2))
  | (go_at_call 69;go_must(refine(qquo _ _ x y 67 _ (un HX3) (un HY3) (by decide) (un HY0)).mono ?_;rintro e w5 ⟨v5,rfl,hv5,hb5⟩;have HV5:=zAb hv5;have HS5:=zAb ((un HS3).later hb5);have HT5:=zAb ((un HT3).later hb5);clear hv5 hb5 t0 t1 t2 t3 t4 t5))
  | (go_at_call 55;go_must(refine(qtell _ _ (67+67) _ (un HV5) (by decide) (un HT5)).mono ?_;rintro e w4 ⟨rfl,hb4⟩;have HS4:=zAb ((un HS5).later hb4);clear hb4;have r0:=(un HS4).r.c0;have r1:=(un HS4).r.c1;have rf0:=(un HS4).r.f0;have rf1:=(un HS4).r.f1)))
 have hS:=(un HS4).r.store (.string (zEp (x*y⁻¹))) (.string (zEr (x*y⁻¹)));have hb:Below w.heap.size w (zBh w4 (w.heap.size+1+1) (.string (zEp (x*y⁻¹))) (.string (zEr (x*y⁻¹)))):=zAk (un HS4).below (by omega) _ _;have u0:=hS.c0;have u1:=hS.c1;exact bodyPost_ret (v:=.tuple #[.agg #[.string (zEp (x*y⁻¹)),.string (zEr (x*y⁻¹))],I (zHa (x*y⁻¹))]) (w:=zBh w4 (w.heap.size+1+1) (.string (zEp (x*y⁻¹))) (.string (zEr (x*y⁻¹)))) (by simp[results,Tryz.results31,go_sem,u0,u1]) rfl ⟨rfl,hb⟩
theorem rpow_of (n1 d1:ByteArray) (x y:Rat) (j:Int) (w:World) (h1:IsR n1 d1 x) (hj1:-4096≤j) (hj2:j≤4096) (htab:Tab w)
  (hF:∀W v,QOf W v x 67→Calls Tryz.prog 235 #[v,I j] W fun e w'=>∃u,e=.returned (.tuple #[u,I 0])∧QOf w' u y 67∧Bw W w') :
  Ans 176 #[.agg #[.string n1,.string d1],I j] w (zEp y) (zEr y) (zHa y):=by
 unfold Ans;obtain⟨V,hV⟩:∃V,V=(w.alloc (.cells #[.string n1,.string d1] 28)).alloc (.cells #[G #[],G #[]] 28):=⟨_,rfl⟩;have HW:Hid (Bw w V):=by rw[hV];exact bA.alloc (by simp) _
 have HA:Hid (T2 V w.heap.size (.string n1) (.string d1)):=by rw[hV];exact⟨by simp[go_sem],by simp[go_sem],by simp[go_sem],by simp[go_sem]⟩
 have HR:Hid (T2 V (w.heap.size+1) (G #[]) (G #[])):=by rw[hV];exact⟨by simp[go_sem],by simp[go_sem],by simp[go_sem],by simp[go_sem]⟩
 have HRD:=zAb (qread n1 d1 x V h1);have HTA:Hid (∀W,Below w.heap.size w W→Tab W):=fun W h=>htab.later h
 have HF:=zAb hF;have HV:=zAb hV;have k1:¬(4096:Int)<j:=by omega
 have k2:¬j < -4096:=by omega
 generalize hn:zEp y=nY at *
 generalize hd:zEr y=dY at *
 generalize he:zHa y=eY at *
 have HTL:Hid (∀W v,QOf W v y 67→Tab W→Calls Tryz.prog 55 #[v] W fun r w'=>r=.returned (.tuple #[.agg #[.string nY,.string dY],I eY])∧Bw W w'):=fun W v h ht=>by have:=qtell v y 67 W h (by decide) ht;rw[hn,hd,he]at this;exact this
 clear hV h1 hF htab hj1 hj2 hn hd he;go_enter Tryz.func176,Tryz.ntmps176
 go_upto_region 1 with fail
 rw[←un HV];clear HV;have t0:=(un HA).c0;have t1:=(un HA).c1
 go_upto_region 2 with (go_at_call 118;go_must(refine(un HRD).mono ?_;rintro e w1 ⟨v1,rfl,hv1,hb1⟩;obtain⟨b1,i1,i2,i3,i4,i5,i6,rfl⟩:=hv1.form;have HQ1:=zAb hv1;have HR1:=zAb ((un HR).later hb1);have HW1:Hid (Bw w w1):=bt HW hb1;clear hv1 hb1 t0 t1))
 obtain⟨V2,hV2⟩:∃V2,V2=w1.alloc (.cells #[.bool b1,.slice i1 i2 i3,.slice i4 i5 i6] 82):=⟨_,rfl⟩;have hb2:Below w1.heap.size w1 V2:=by rw[hV2];exact bA
 have HX2:Hid (FBox V2 w1.heap.size (.bool b1) (.slice i1 i2 i3) (.slice i4 i5 i6)):=by rw[hV2];exact FBox.new _ _ _ _
 have HQ2:=zAb ((un HQ1).later hb2);have HR2:=zAb ((un HR1).later hb2);have HW2:Hid (Bw w V2):=bt HW1 hb2;rw[←hV2];clear hV2 hb2 HQ1 HR1 HW1 HA HR HW HRD;generalize w1.heap.size=g6 at *
 have t0:=(un HX2).c0;have t1:=(un HX2).c1;have t2:=(un HX2).c2
 go_upto_region 7 with (go_at_call 235;go_must(refine(un HF _ _ (un HQ2)).mono ?_;rintro e w3 ⟨u,rfl,hu,hb⟩;obtain⟨b3,m1,m2,m3,m4,m5,m6,rfl⟩:=hu.form;have HQ3:=zAb hu;have HR3:=zAb ((un HR2).later hb);have HW3:Hid (Bw w w3):=bt HW2 hb;clear hu hb t0 t1 t2))
 obtain⟨V4,hV4⟩:∃V4,V4=w3.alloc (.cells #[.bool b3,.slice m1 m2 m3,.slice m4 m5 m6] 82):=⟨_,rfl⟩;have hb4:Below w3.heap.size w3 V4:=by rw[hV4];exact bA
 have HX4:Hid (FBox V4 w3.heap.size (.bool b3) (.slice m1 m2 m3) (.slice m4 m5 m6)):=by rw[hV4];exact FBox.new _ _ _ _
 have HQ4:=zAb ((un HQ3).later hb4);have HR4:=zAb ((un HR3).later hb4);have HW4:Hid (Bw w V4):=bt HW3 hb4;rw[←hV4];clear hV4 hb4 HQ3 HR3 HW3 HQ2 HR2 HW2 HX2 HF k1 k2;generalize w3.heap.size=g8 at *
 have t0:=(un HX4).c0;have t1:=(un HX4).c1;have t2:=(un HX4).c2
 go_wp2_with (go_at_call 55;go_must(refine(un HTL _ _ (un HQ4) (un HTA _ (un HW4))).mono ?_;rintro e w5 ⟨rfl,hb⟩;have HR5:=zAb ((un HR4).later hb);have HW5:Hid (Bw w w5):=bt HW4 hb;clear hb t0 t1 t2;have r0:=(un HR5).c0;have r1:=(un HR5).c1;have f0:=(un HR5).f0;have f1:=(un HR5).f1))
 have hS:=(un HR5).store (.string nY) (.string dY);have u0:=hS.c0;have u1:=hS.c1;exact bodyPost_ret (v:=.tuple #[.agg #[.string nY,.string dY],I eY]) (w:=zBh w5 (w.heap.size+1) (.string nY) (.string dY)) (by simp[results,Tryz.results176,go_sem,u0,u1]) rfl ⟨rfl,zAk (un HW5) (by omega) _ _⟩
end Go.Proofs.YtliadckofhblnaaGreatDoor
namespace Cub
theorem valQ_mul {b c:Bool} {n d m e:Nat} (hd:0<d) (he:0<e):valQ b n d*valQ c m e=valQ (b != c) (n*m) (d*e):=by
 unfold valQ
 rw[←sg_mul]
 have h1:=dR hd
 have h2:=dR he
 push_cast
 grind
theorem parity (b:Bool) (k:Nat):((b && decide (k % 2=1)) != b)=(b && decide ((k+1) % 2=1)):=by
 cases b
 ·rfl
 ·rcases Nat.mod_two_eq_zero_or_one k with h|h
  ·have:(k+1) % 2=1:=by omega
   simp[h,this]
  ·have:(k+1) % 2=0:=by omega
   simp[h,this]
theorem pow_val {b:Bool} {n d:Nat} (hd:0<d) (k:Nat):valQ (b && decide (k % 2=1)) (n ^ k) (d ^ k)=(valQ b n d) ^ k:=by
 induction k with
 | zero=>
  rw[Nat.pow_zero,Nat.pow_zero]
  have:(b && decide (0 % 2=1))=false:=by simp
  rw[this]
  show((sg false 1:Int):Rat) / ((1:Nat):Rat)=_
  rw[show(valQ b n d) ^ 0=1 from by simp[Rat.pow_zero]]
  simp[sg]
  grind
 | succ k ih=>
  rw[Rat.pow_succ,←ih,valQ_mul (Nat.pow_pos hd) hd,parity,←Nat.pow_succ,←Nat.pow_succ]
theorem pow_low {b:Bool} {n d:Nat} (h:Low b n d) (k:Nat):Low (b && decide (k % 2=1)) (n ^ k) (d ^ k)∧valQ (b && decide (k % 2=1)) (n ^ k) (d ^ k)=(valQ b n d) ^ k:=by
 refine⟨⟨Nat.pow_pos h.pos,?_,?_⟩,pow_val h.pos k⟩
 ·exact Nat.Coprime.pow k k h.cop
 ·intro hb
  have hb':b=true:=by cases b<;>simp_all
  have hn:=h.sign hb'
  exact Nat.pos_iff_ne_zero.1 (Nat.pow_pos (Nat.pos_iff_ne_zero.2 hn))
def pw (x:Rat) (j:Int):Rat:=if j<0 then(x⁻¹) ^ (-j).toNat else x ^ j.toNat
end Cub
namespace Go.Proofs.YtliadckofhblnaaGreatDoor
open Go.RowKit
theorem digs_pow (m n E:Nat) (hm:0<m) (h:m ^ n<10 ^ E):(Lib.nDigits m - 1)*n<E:=by
 have h1:=Cub.nDigits_ge m hm;have h2:(10 ^ (Lib.nDigits m - 1)) ^ n≤m ^ n:=Nat.pow_le_pow_left h1 n;rw[←Nat.pow_mul]at h2;exact(Nat.pow_lt_pow_iff_right (by decide)).1 (Nat.lt_of_le_of_lt h2 h)
theorem digs_le (m E:Nat) (hm:0<m) (h:m<10 ^ E):Lib.nDigits m≤E:=by
 have h1:=Cub.nDigits_ge m hm;have h2:=(Nat.pow_lt_pow_iff_right (a:=10) (by decide)).1 (Nat.lt_of_le_of_lt h1 h)
 omega
theorem power_ok (x:Value) (m n E:Nat) (w:World) (hx:zAf w x m) (hm0:0<m) (hn:n≤4096) (hE:E=600) (hm:m<10 ^ E) (hP:m ^ n<10 ^ E) :
  Calls Tryz.prog 269 #[x,I (n:Int)] w fun e w'=>∃a l c,e=.returned (.tuple #[.agg #[.slice a l c],.bool true])∧zAf w' (.agg #[.slice a l c]) (m ^ n)∧Bw w w':=by
 have hle:10 ^ E≤1000000000 ^ 67:=pow_nine E 67 (by rw[hE];decide);have d1:=digs_pow m n E hm0 hP;have d2:=digs_le m E hm0 hm;have d3:=digs_le (m ^ n) E (Nat.pow_pos hm0) hP;have d4:=Lib.nDigits_pos m
 have e1:((Lib.nDigits m:Int) - 1)*(n:Int)=(((Lib.nDigits m - 1)*n:Nat):Int):=by
  rw[Int.natCast_mul,Int.natCast_sub d4];rfl
 exact power_of x m n (m ^ n) _ _ w hx hn rfl (Nat.lt_of_lt_of_le hm hle) (Nat.lt_of_lt_of_le hP hle) rfl rfl (by omega) (by omega) (by rw[e1];omega) (by rw[e1];omega)
theorem signI_ne (b:Bool) (n:Nat) (h:n≠0):signI b n≠0:=by cases b<;>simp[signI,h]
theorem fpow_ok (v:Value) (x:Rat) (j:Int) (w:World) (hq:QOf w v x 67) (hx:x≠0) (hs:Small x) (hj1:-4096≤j) (hj2:j≤4096) (hP:Small (Cub.pw x j)) :
  Calls Tryz.prog 235 #[v,I j] w fun e w'=>∃u,e=.returned (.tuple #[u,I 0])∧QOf w' u (Cub.pw x j) 67∧Bw w w':=by
 obtain⟨b,n,d,h1,h2,rfl,h4,h5⟩:=hq;obtain⟨e1,e2,e3⟩:=Cub.low_is h2;have hn0:n≠0:=by intro h;subst h;exact hx (Cub.valQ_zero _ _)
 have hd0:=h2.pos;have hn:n<10 ^ 600:=by rw[e2];exact hs.1
 have hd:d<10 ^ 600:=by rw[e3];exact hs.2
 clear e1 e2 e3;unfold Cub.pw at hP ⊢
 by_cases hj:j<0
 ·rw[if_pos hj]at hP ⊢
  obtain⟨k,hk⟩:∃k:Nat,j=-(k:Int):=⟨(-j).toNat,by omega⟩;have e:(-j).toNat=k:=by omega
  rw[e]at hP ⊢;rw[hk];obtain⟨m1,m2⟩:=Cub.inv_low h2 hn0;rw[←m2]at hP ⊢;obtain⟨p1,p2⟩:=Cub.pow_low m1 k;obtain⟨q1,q2,q3⟩:=Cub.low_is p1;rw[←p2]at hP ⊢;have hN:d ^ k<10 ^ 600:=by rw[q2];exact hP.1
  have hD:n ^ k<10 ^ 600:=by rw[q3];exact hP.2
  obtain⟨x1,y1,z1,x2,y2,z2,rfl,_,_⟩:=h1.form
  refine(fpow_neg b x1 x2 y1 z1 y2 z2 d n k (d ^ k) (n ^ k) (signI b n) w h1 (by omega) (by omega) (signI_ne b n hn0) (fun W h=>sign_any _ b n d W h) (fun W h=>inv_any _ b n d W h)
   (fun W u hu=>power_ok u d k 600 W hu hd0 (by omega) rfl hd hN) (fun W u hu=>power_ok u n k 600 W hu (Nat.pos_of_ne_zero hn0) (by omega) rfl hn hD)).mono ?_
  rintro r w' ⟨u,rfl,hf,hb⟩;exact⟨u,rfl,⟨_,_,_,hf,p1,rfl,Nat.lt_of_lt_of_le hN pow600,Nat.lt_of_lt_of_le hD pow600⟩,hb⟩
 ·rw[if_neg hj]at hP ⊢
  obtain⟨k,hk⟩:∃k:Nat,j=(k:Int):=⟨j.toNat,by omega⟩;have e:j.toNat=k:=by omega
  rw[e]at hP ⊢;rw[hk];obtain⟨p1,p2⟩:=Cub.pow_low h2 k;obtain⟨q1,q2,q3⟩:=Cub.low_is p1;rw[←p2]at hP ⊢;have hN:n ^ k<10 ^ 600:=by rw[q2];exact hP.1
  have hD:d ^ k<10 ^ 600:=by rw[q3];exact hP.2
  obtain⟨x1,y1,z1,x2,y2,z2,rfl,g1,g2⟩:=h1.form
  refine(fpow_pos b x1 x2 y1 z1 y2 z2 n d k (n ^ k) (d ^ k) w g1 g2 (by omega)
   (fun W u hu=>power_ok u n k 600 W hu (Nat.pos_of_ne_zero hn0) (by omega) rfl hn hN) (fun W u hu=>power_ok u d k 600 W hu hd0 (by omega) rfl hd hD)).mono ?_
  rintro r w' ⟨u,rfl,hf,hb⟩;exact⟨u,rfl,⟨_,_,_,hf,p1,rfl,Nat.lt_of_lt_of_le hN pow600,Nat.lt_of_lt_of_le hD pow600⟩,hb⟩
theorem rpow_ok (n1 d1:ByteArray) (x:Rat) (j:Int) (w:World) (h1:IsR n1 d1 x) (hj1:-4096≤j) (hj2:j≤4096) (hx0:x≠0) (hP:Small (Cub.pw x j)) (htab:Tab w) :
  Ans 176 #[.agg #[.string n1,.string d1],I j] w (zEp (Cub.pw x j)) (zEr (Cub.pw x j)) (zHa (Cub.pw x j)) :=
 rpow_of n1 d1 x _ j w h1 hj1 hj2 htab (fun W v hq=>fpow_ok v x j W hq hx0 ⟨h1.rt.hn,h1.rt.hd⟩ hj1 hj2 hP)
theorem zHk (s:ByteArray) (n:Nat) (h:Cub.rightB s.data.toList=true) (hv:Cub.dval s.data.toList=n):s=tb n∧n<10 ^ 600:=by
 obtain⟨m,hm,rfl⟩:=tb_of h;have:=(zEk m hm).2;have e:m=n:=this.symm.trans hv;subst e;exact⟨rfl,hm⟩
end Go.Proofs.YtliadckofhblnaaGreatDoor
namespace Go.Proofs.YtliadckofhblnaaGreatDoor
open Go.RowKit Go.Sort
theorem below_grow (w:World) (k:Nat) (os:Array Obj):Below w.heap.size w (grow (w.drewN k) os):=by
 refine⟨rfl,rfl,rfl,?_,fun i hi=>?_⟩
 ·simp[grow,World.drewN]
 ·simp only[grow]
  rw[Array.getElem?_append_left (by simpa [World.drewN] using hi)];rfl
theorem intFormatUint_any (u:Nat) (hu64:u<18446744073709551616) (w:World) (htab:Tab w) :
 Calls Tryz.prog 270 #[.int .u64 u,I 10] w fun e w'=>e=.returned (.string ⟨(Lib.decDigits u).toArray⟩)∧Bw w w':=by
 by_cases hs:u<100
 ·clear htab
  go_enter Tryz.func270,Tryz.ntmps270
  go_wp2_with (go_at_call 272;refine(Tryz.internal_strconv_small u hs _).mono ?_;rintro e w' ⟨rfl,rfl⟩)
  go_ret
  exact⟨rfl,Below.refl _ _⟩
 ·have hu1:1≤u:=by omega
  have hnd20:Lib.nDigits u≤20:=by have:=Lib.numDigits_eq u hu1 hu64;split at this<;>omega
  have hal:Tryz.prog.arrayLen 298=24:=by kernel_rfl
  have hsl:∀W,(Instr.sliceAt 298 (.pointer (some ⟨w.heap.size,0,none⟩)) none (some (I (Lib.nDigits u:Int))) none).run Tryz.prog W=.ok (.slice (some ⟨w.heap.size,0,none⟩) (Lib.nDigits u) 24) W:=fun W=>by
   rw[run_sliceAt_array_h W 298 ⟨w.heap.size,0,none⟩ (by kernel_rfl) .i64 (Lib.nDigits u:Int) (by omega) (by rw[hal];omega)]
   go_simp
  have hH0:=Lib.holds_zero0 w 298 (Lib.nDigits u) (by omega);have hfmt:=Tryz.internal_strconv_formatBase10 w.heap.size 0 24 u (Array.replicate (Lib.nDigits u) 0) (w.alloc (.cells Lib.zeros24 298)) hH0 (by rw[Array.size_replicate];exact Lib.lt_pow_nDigits u) hu64 (by rw[Array.size_replicate];omega);rw[Array.size_replicate]at hfmt;have HH0:=Lib.hid hH0;have HT:=zAb htab;have iu:(100:Int)≤(u:Int):=by omega
  clear hH0 hal htab;go_enter Tryz.func270,Tryz.ntmps270
  go_wp2_with (first
   | (go_at_call 273;refine(Tryz.internal_strconv_numDigits u hu1 hu64 _ (Lib.tabIs_alloc (un HT) _)).mono ?_;rintro e w' ⟨rfl,rfl⟩))
  go_at_call 274
  refine hfmt.mono ?_;rintro e w' ⟨rfl,k,v',dk,rfl,hF⟩
  have hcv:(convert 208 9 (.slice (some ⟨w.heap.size,0,none⟩) (Lib.nDigits u) 24)).run Tryz.prog ((putRow (fun (b:UInt8)=>Value.int .u8 (b.toNat:Int)) (w.alloc (.cells Lib.zeros24 298)) w.heap.size 0 dk).drewN k)=.ok (.string ⟨(Lib.decDigits u).toArray⟩) ((putRow (fun (b:UInt8)=>Value.int .u8 (b.toNat:Int)) (w.alloc (.cells Lib.zeros24 298)) w.heap.size 0 dk).drewN k):=by
   have h:=run_convert_bytes_back (P:=Tryz.prog) ((putRow (fun (b:UInt8)=>Value.int .u8 (b.toNat:Int)) (w.alloc (.cells Lib.zeros24 298)) w.heap.size 0 dk).drewN k) 208 9 5 ⟨w.heap.size,0,none⟩ 24 (Lib.decDigits u) Tryz.underlying208 Tryz.underlying5 Tryz.underlying9 (fun j hj=>by
    rw[Lib.row_is_numeral hF j hj,Lib.add_plain,World.cell?_drewN];exact cell?_putRow (fun (b:UInt8)=>Value.int .u8 (b.toNat:Int)) _ w.heap.size 0 _ dk HH0.out (by rw[hF.size,Array.size_replicate]) j (by rw[hF.size];rw[Lib.decDigits_length]at hj;exact hj))
   rw[Lib.decDigits_length]at h;exact h
  go_wp2
  go_ret
  refine⟨rfl,?_⟩;obtain⟨os',_,e⟩:=putRow_grow_new (fun (b:UInt8)=>Value.int .u8 (b.toNat:Int)) w #[.cells Lib.zeros24 298] w.heap.size 0 dk (Nat.le_refl _)
  have e2:(putRow (fun (b:UInt8)=>Value.int .u8 (b.toNat:Int)) (w.alloc (.cells Lib.zeros24 298)) w.heap.size 0 dk).drewN k=grow (w.drewN k) os':=by
   rw[alloc_eq_grow,e];rfl
  rw[e2];exact below_grow w k os'
theorem formatUint_any (u:Nat) (hu64:u<18446744073709551616) (w:World) (htab:Tab w) :
 Calls Tryz.prog 236 #[.int .u64 u,I 10] w fun e w'=>e=.returned (.string ⟨(Lib.decDigits u).toArray⟩)∧Bw w w':=by
 have HT:=zAb htab;clear htab;go_enter Tryz.func236,Tryz.ntmps236
 go_wp2_with (go_at_call 270;refine(intFormatUint_any u hu64 _ (un HT)).mono ?_;rintro e w' ⟨rfl,hb⟩)
 go_ret
 exact⟨rfl,hb⟩
theorem natOf_any (u:Nat) (hu64:u<18446744073709551616) (w:World) (htab:Tab w) :
 Calls Tryz.prog 177 #[.int .u64 u] w fun e w'=>e=.returned (.string ⟨(Lib.decDigits u).toArray⟩)∧Bw w w':=by
 have HT:=zAb htab;clear htab;go_enter Tryz.func177,Tryz.ntmps177
 go_wp2_with (go_at_call 236;refine(formatUint_any u hu64 _ (un HT)).mono ?_;rintro e w' ⟨rfl,hb⟩)
 go_ret
 exact⟨rfl,hb⟩
end Go.Proofs.YtliadckofhblnaaGreatDoor
namespace Go.Proofs.YtliadckofhblnaaGreatDoor
open Go.RowKit
theorem pow_grow (e:Nat) (he:20≤e):18446744073709551616≤10 ^ e:=Nat.le_trans (by decide:18446744073709551616≤10 ^ 20) (Nat.pow_le_pow_right (by decide) he)
theorem u64_600 (N:Nat) (h:N<18446744073709551616):N<10 ^ 600:=Nat.lt_of_lt_of_le h (pow_grow 600 (by decide))
theorem zCg (N:Nat) (w:World) (h2:N<9223372036854775808) (htab:Tab w) :
  Calls Tryz.prog 103 #[I (N:Int)] w fun r w'=>r=.returned (.agg #[.string (sT false N),G #[49]])∧Bw w w':=by
 obtain⟨V,hV⟩:∃V,V=w.alloc (.cells #[G #[],G #[]] 28):=⟨_,rfl⟩;have hbV:Below w.heap.size w V:=by rw[hV];exact bA
 have HR:Hid (T2 V w.heap.size (G #[]) (G #[])∧Bw w V):=⟨by rw[hV];exact⟨by simp[go_sem],by simp[go_sem],by simp[go_sem],by simp[go_sem]⟩,hbV⟩;have HV:=zAb hV;have hN:N<10 ^ 600:=u64_600 N (by omega)
 have HOF:Hid (Calls Tryz.prog 177 #[.int .u64 (N:Int)] V fun e w'=>e=.returned (.string (tb N))∧Bw V w'):=by
  have:=natOf_any N (by omega) V (htab.later hbV)
  rwa [show(⟨(Lib.decDigits N).toArray⟩:ByteArray)=tb N from zGb (by rw[tb_list N hN])]at this
 have HSG:Hid (∀W,Calls Tryz.prog 120 #[.bool false,.string (tb N)] W fun e w'=>e=.returned (.string (sT false N))∧w'=W):=fun W=>signed_any false (tb N) W (by have:=(zFd N hN).2;omega)
 have k0:¬(N:Int)<0:=by omega
 skip
 skip
 clear hN htab hbV;generalize sT false N=sn at *
 generalize tb N=tn at *
 go_enter Tryz.func103,Tryz.ntmps103
 go_upto_region 4 with fail
 skip
 rw[←un HV];clear hV HV
 go_wp2_with (first
  | (go_at_call 177;go_must(refine(un HOF).mono ?_;rintro e W9 ⟨rfl,hb1⟩;have HR1:Hid (T2 W9 w.heap.size (G #[]) (G #[])∧Bw w W9):=⟨(un HR).1.later hb1,(un HR).2.trans (hb1.mono (un HR).2.size)⟩;clear hb1))
  | (go_at_call 120;go_must(refine(un HSG _).mono ?_;rintro e wB ⟨rfl,hwB⟩;obtain rfl:W9=wB:=hwB.symm;have r0:=(un HR1).1.c0;have r1:=(un HR1).1.c1;have rf0:=(un HR1).1.f0;have rf1:=(un HR1).1.f1)))
 have hS:=(un HR1).1.store (.string sn) (G #[49]);have hb:Below w.heap.size w (zBh W9 w.heap.size (.string sn) (G #[49])):=zAk (un HR1).2 (Nat.le_refl _) _ _;have u0:=hS.c0;have u1:=hS.c1;exact bodyPost_ret (v:=.agg #[.string sn,G #[49]]) (w:=zBh W9 w.heap.size (.string sn) (G #[49])) (by simp[results,Tryz.results103,go_sem,u0,u1]) rfl ⟨rfl,hb⟩
end Go.Proofs.YtliadckofhblnaaGreatDoor

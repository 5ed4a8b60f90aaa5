/- The document's units of temperature: Units (18). -/
import Derived.Test.YtliadckofhblnaaGreatDoorLimb3
import Derived.Test.YtliadckofhblnaaGreatDoorTmKnown
import Derived.Laws.Bits
import Derived.Test.YtliadckofhblnaaGreatDoorFactor
import Derived.Test.YtliadckofhblnaaGreatDoorCopy
import Derived.Test.YtliadckofhblnaaGreatDoorPower
import Derived.Test.YtliadckofhblnaaGreatDoorThou
import Derived.Test.YtliadckofhblnaaGreatDoorFindS
import Derived.Great.BuildSlice
set_option maxHeartbeats 8000000
set_option maxRecDepth 100000
namespace Go.Proofs.YtliadckofhblnaaGreatDoor.Tm
open Go.RowKit
theorem zCi {p:Nat→Bool} {i j:Int} (h1:zBc p i) (h2:zBc p j):i=j:=by
 rcases h1 with ⟨a,ha,rfl,pa,na⟩|⟨rfl,na⟩<;>rcases h2 with ⟨b,hb,rfl,pb,nb⟩|⟨rfl,nb⟩
 ·have h3:¬a<b:=fun h=>by rw[nb a h]at pa;cases pa
  have h4:¬b<a:=fun h=>by rw[na b h]at pb;cases pb
  omega
 ·rw[nb a ha]at pa;cases pa
 ·rw[na b hb]at pb;cases pb
 ·rfl
theorem known_at (s:ByteArray) (i:Nat) (hi:zBc (scB s) (i:Int)) (w:World) (htab:Tab w):Calls Tryz.prog 51 #[.string s] w fun r w'=>∃(bp bq:Bool) (ap dp aq dq:Option Addr) (lp cp mp ep lq cq mq eq:Nat),r=.returned (.tuple #[.agg #[.bool bp,.slice ap lp cp,.slice dp mp ep,.bool bq,.slice aq lq cq,.slice dq mq eq],.bool true])∧QOf w' (.agg #[.bool bp,.slice ap lp cp,.slice dp mp ep]) (fq i) 67∧QOf w' (.agg #[.bool bq,.slice aq lq cq,.slice dq mq eq]) (oq i) 67∧Bw w w':=by
 refine(known_any s w htab).mono ?_;rintro r w' ⟨v,rfl,hv,hb⟩;rcases hv with ⟨k,b,c,a1,a2,a3,a4,l1,c1,l2,c2,l3,c3,l4,c4,hk,hf,rfl,h1,h2⟩|⟨hf,_⟩
 ·have e:=zCi hf hi
  have e':k=i:=by omega
  subst e';exact⟨b,c,a1,a2,a3,a4,l1,c1,l2,c2,l3,c3,l4,c4,rfl,h1,h2,hb⟩
 ·have e:=zCi hf hi
  omega
theorem T6.setOther {W:World} {g k o:Nat} {a b c d e f:Value} (h:T6 W g a b c d e f) (hk:g≠k) (u:Value):T6 (W.setCell ⟨k,o,none⟩ u) g a b c d e f:=by
 have e1:∀q v,W.cell? ⟨g,q,none⟩=some v→(W.setCell ⟨k,o,none⟩ u).cell? ⟨g,q,none⟩=some v:=fun q v hv=>by
  rw[World.cell?_setCell_other _ _ _ _ (by intro e;exact hk (congrArg Addr.block e).symm)];exact hv
 exact⟨e1 _ _ h.c0,e1 _ _ h.c1,e1 _ _ h.c2,e1 _ _ h.c3,e1 _ _ h.c4,e1 _ _ h.c5,by rw[World.frozen?_setCell];exact h.f0,by rw[World.frozen?_setCell];exact h.f1,by rw[World.frozen?_setCell];exact h.f2,by rw[World.frozen?_setCell];exact h.f3,by rw[World.frozen?_setCell];exact h.f4,by rw[World.frozen?_setCell];exact h.f5⟩
theorem T6.other3 {W:World} {g k:Nat} {a b c d e f:Value} (h:T6 W g a b c d e f) (hk:g≠k) (x y z:Value):T6 (zAs W k x y z) g a b c d e f:=((h.setOther hk x).setOther hk y).setOther hk z
theorem T6.other6 {W:World} {g k:Nat} {a b c d e f:Value} (h:T6 W g a b c d e f) (hk:g≠k) (x y z t u v:Value):T6 (zBg W k x y z t u v) g a b c d e f:=(((((h.setOther hk x).setOther hk y).setOther hk z).setOther hk t).setOther hk u).setOther hk v
theorem _root_.Go.Proofs.YtliadckofhblnaaGreatDoor.FBox.other6 {W:World} {g k:Nat} {a b c:Value} (h:FBox W g a b c) (hk:g≠k) (x y z t u v:Value):FBox (zBg W k x y z t u v) g a b c:=(((((h.otherAt hk x).otherAt hk y).otherAt hk z).otherAt hk t).otherAt hk u).otherAt hk v
theorem readU_ok (n d s t:ByteArray) (x:Rat) (i j:Nat) (w:World) (hx:IsR n d x) (hi:zBc (scB s) (i:Int)) (hj:zBc (scB t) (j:Int)) (htab:Tab w) :
  Calls Tryz.prog 110 #[.agg #[.string n,.string d],.string s,.string t] w fun r w'=>∃(bz bp bq br bv:Bool) (az dz ap dp aq dq ar dr av dv:Option Addr) (lz cz mz ez lp cp mp ep lq cq mq eq lr cr mr er lv cv mv ev:Nat),r=.returned (.tuple #[.agg #[.bool bz,.slice az lz cz,.slice dz mz ez],.agg #[.bool bp,.slice ap lp cp,.slice dp mp ep,.bool bq,.slice aq lq cq,.slice dq mq eq],.agg #[.bool br,.slice ar lr cr,.slice dr mr er,.bool bv,.slice av lv cv,.slice dv mv ev],I 0])∧(QOf w' (.agg #[.bool bz,.slice az lz cz,.slice dz mz ez]) x 67∧QOf w' (.agg #[.bool bp,.slice ap lp cp,.slice dp mp ep]) (fq i) 67∧QOf w' (.agg #[.bool bq,.slice aq lq cq,.slice dq mq eq]) (oq i) 67∧QOf w' (.agg #[.bool br,.slice ar lr cr,.slice dr mr er]) (fq j) 67∧QOf w' (.agg #[.bool bv,.slice av lv cv,.slice dv mv ev]) (oq j) 67)∧Bw w w':=by
 obtain⟨V,hV⟩:∃V,V=(((w.alloc (.cells #[.string n,.string d] 28)).alloc (.cells #[.bool false,.slice none 0 0,.slice none 0 0] 82)).alloc (.cells #[.bool false,.slice none 0 0,.slice none 0 0,.bool false,.slice none 0 0,.slice none 0 0] 84)).alloc (.cells #[.bool false,.slice none 0 0,.slice none 0 0,.bool false,.slice none 0 0,.slice none 0 0] 84):=⟨_,rfl⟩;have HN:Hid (T2 V w.heap.size (.string n) (.string d)):=by rw[hV];exact⟨by simp[go_sem],by simp[go_sem],by simp[go_sem],by simp[go_sem]⟩
 have H1:Hid (FBox V (w.heap.size+1) (.bool false) (.slice none 0 0) (.slice none 0 0)):=by rw[hV];exact⟨by simp[go_sem],by simp[go_sem],by simp[go_sem],by simp[go_sem],by simp[go_sem],by simp[go_sem]⟩
 have H2:Hid (T6 V (w.heap.size+2) (.bool false) (.slice none 0 0) (.slice none 0 0) (.bool false) (.slice none 0 0) (.slice none 0 0)):=by rw[hV];exact⟨by simp[go_sem],by simp[go_sem],by simp[go_sem],by simp[go_sem],by simp[go_sem],by simp[go_sem],by simp[go_sem],by simp[go_sem],by simp[go_sem],by simp[go_sem],by simp[go_sem],by simp[go_sem]⟩
 have H3:Hid (T6 V (w.heap.size+3) (.bool false) (.slice none 0 0) (.slice none 0 0) (.bool false) (.slice none 0 0) (.slice none 0 0)):=by rw[hV];exact⟨by simp[go_sem],by simp[go_sem],by simp[go_sem],by simp[go_sem],by simp[go_sem],by simp[go_sem],by simp[go_sem],by simp[go_sem],by simp[go_sem],by simp[go_sem],by simp[go_sem],by simp[go_sem]⟩
 have HB:Hid (Bw w V):=by rw[hV];exact((bA.alloc (by simp) _).alloc (by simp;omega) _).alloc (by simp;omega) _
 have HSZ:Hid (w.heap.size+4≤V.heap.size):=by rw[hV];show _≤_;simp
 have HV:=zAb hV;have HTW:=zAb htab;have HRD:=zAb (fun W=>qread n d x W hx);have HK1:=zAb (fun W hb=>known_at s i hi W (htab.later hb));have HK2:=zAb (fun W hb=>known_at t j hj W (htab.later hb));clear hV htab hx hi hj;go_enter Tryz.func110,Tryz.ntmps110
 go_upto_region 1 with fail
 rw[←un HV];clear HV;have t0:=(un HN).c0;have t1:=(un HN).c1
 go_upto_region 2 with (go_at_call 118;go_must(refine(un HRD _).mono ?_;rintro e w1 ⟨v1,rfl,hv1,hb1⟩;obtain⟨bz,az,lz,cz,dz,mz,ez,rfl⟩:=hv1.form;have HZ1:=zAb hv1;have HB1:=zAb hb1;clear hv1 hb1 t0 t1))
 obtain⟨A,hA⟩:∃A,A=w1.alloc (.cells #[.bool bz,.slice az lz cz,.slice dz mz ez] 82):=⟨_,rfl⟩;have HAX:Hid (FBox A w1.heap.size (.bool bz) (.slice az lz cz) (.slice dz mz ez)):=by rw[hA];exact⟨by simp[go_sem],by simp[go_sem],by simp[go_sem],by simp[go_sem],by simp[go_sem],by simp[go_sem]⟩
 have HBA1:Hid (Bw w1 A):=by rw[hA];exact bA
 rw[←hA];clear hA;have HBA:Hid (Bw V A):=(un HB1).trans ((un HBA1).mono (un HB1).size);have HZA:=zAb ((un HZ1).later (un HBA1));have HG10:Hid (w.heap.size+4≤w1.heap.size):=Nat.le_trans (un HSZ) (un HB1).size;have HBWA:Hid (Bw w A):=(un HB).trans ((un HBA).mono (un HB).size);clear HZ1 HB1 HBA1;generalize w1.heap.size=g10 at *
 go_upto_region 5 with (go_at_call 51;go_must(refine(un HK1 _ (un HBWA)).mono ?_;rintro e w2 ⟨bp,bq,ap,dp,aq,dq,lp,cp,mp,ep,lq,cq,mq,eq,rfl,hp2,hq2,hb2⟩;have HP2:=zAb hp2;have HQ2:=zAb hq2;have HB2:=zAb hb2;clear hp2 hq2 hb2))
 obtain⟨B,hB⟩:∃B,B=w2.alloc (.cells #[.bool bp,.slice ap lp cp,.slice dp mp ep,.bool bq,.slice aq lq cq,.slice dq mq eq] 84):=⟨_,rfl⟩;have HBX:Hid (T6 B w2.heap.size (.bool bp) (.slice ap lp cp) (.slice dp mp ep) (.bool bq) (.slice aq lq cq) (.slice dq mq eq)):=by rw[hB];exact⟨by simp[go_sem],by simp[go_sem],by simp[go_sem],by simp[go_sem],by simp[go_sem],by simp[go_sem],by simp[go_sem],by simp[go_sem],by simp[go_sem],by simp[go_sem],by simp[go_sem],by simp[go_sem]⟩
 have HBB1:Hid (Bw w2 B):=by rw[hB];exact bA
 rw[←hB];clear hB;have HBB:Hid (Bw A B):=(un HB2).trans ((un HBB1).mono (un HB2).size);have HPB:=zAb ((un HP2).later (un HBB1));have HQB:=zAb ((un HQ2).later (un HBB1));have HZB:=zAb ((un HZA).later (un HBB));have HG12:Hid (w.heap.size+4≤w2.heap.size):=Nat.le_trans (Nat.le_of_lt (Nat.lt_of_le_of_lt (un HG10) (un HAX).lt)) (un HB2).size;have HBWB:Hid (Bw w B):=(un HBWA).trans ((un HBB).mono (un HBWA).size);have HAX2:=zAb ((un HAX).later (un HBB));clear HP2 HQ2 HB2 HBB1 HZA HAX;generalize w2.heap.size=g12 at *
 go_upto_region 6 with (go_at_call 51;go_must(refine(un HK2 _ (un HBWB)).mono ?_;rintro e w3 ⟨br,bv,ar,dr,av,dv,lr,cr,mr,er,lv,cv,mv,ev,rfl,hr3,ht3,hb3⟩;have HR3:=zAb hr3;have HT3:=zAb ht3;have HB3:=zAb hb3;clear hr3 ht3 hb3))
 obtain⟨Y,hY⟩:∃Y,Y=w3.alloc (.cells #[.bool br,.slice ar lr cr,.slice dr mr er,.bool bv,.slice av lv cv,.slice dv mv ev] 84):=⟨_,rfl⟩;have HYX:Hid (T6 Y w3.heap.size (.bool br) (.slice ar lr cr) (.slice dr mr er) (.bool bv) (.slice av lv cv) (.slice dv mv ev)):=by rw[hY];exact⟨by simp[go_sem],by simp[go_sem],by simp[go_sem],by simp[go_sem],by simp[go_sem],by simp[go_sem],by simp[go_sem],by simp[go_sem],by simp[go_sem],by simp[go_sem],by simp[go_sem],by simp[go_sem]⟩
 have HBY1:Hid (Bw w3 Y):=by rw[hY];exact bA
 rw[←hY];clear hY;have HBY:Hid (Bw B Y):=(un HB3).trans ((un HBY1).mono (un HB3).size);have HRY:=zAb ((un HR3).later (un HBY1));have HTY:=zAb ((un HT3).later (un HBY1));have HPY:=zAb ((un HPB).later (un HBY));have HQY:=zAb ((un HQB).later (un HBY));have HZY:=zAb ((un HZB).later (un HBY));have HG14:Hid (w.heap.size+4≤w3.heap.size):=Nat.le_trans (Nat.le_of_lt (Nat.lt_of_le_of_lt (un HG12) (un HBX).lt)) (un HB3).size;have HBWY:Hid (Bw w Y):=(un HBWB).trans ((un HBY).mono (un HBWB).size);have HAX3:=zAb ((un HAX2).later (un HBY));have HBX3:=zAb ((un HBX).later (un HBY));have HVY:Hid (Bw V Y):=(un HBA).trans (((un HBB).trans ((un HBY).mono (un HBB).size)).mono (un HBA).size);have H1Y:=zAb ((un H1).later (un HVY));have H2Y:=zAb ((un H2).later (un HVY));have H3Y:=zAb ((un H3).later (un HVY));clear HR3 HT3 HB3 HBY1 HPB HQB HZB HAX2 HBX HBA HBB HBY H1 H2 H3 HN HVY HBWA HBWB;generalize w3.heap.size=g14 at *
 go_upto_region 8 with fail
 have HS0:Hid (Y.drew.cell? ⟨g10,0,none⟩=some (.bool bz)∧Y.drew.cell? ⟨g10,1,none⟩=some (.slice az lz cz)∧Y.drew.cell? ⟨g10,2,none⟩=some (.slice dz mz ez)):=⟨(un HAX3).c0,(un HAX3).c1,(un HAX3).c2⟩;have HSS:Hid (∀W,T6 W g12 (.bool bp) (.slice ap lp cp) (.slice dp mp ep) (.bool bq) (.slice aq lq cq) (.slice dq mq eq)→T6 W g14 (.bool br) (.slice ar lr cr) (.slice dr mr er) (.bool bv) (.slice av lv cv) (.slice dv mv ev)→W.cell? ⟨g12,0,none⟩=some (.bool bp)∧W.cell? ⟨g12,1,none⟩=some (.slice ap lp cp)∧W.cell? ⟨g12,2,none⟩=some (.slice dp mp ep)∧W.cell? ⟨g12,3,none⟩=some (.bool bq)∧W.cell? ⟨g12,4,none⟩=some (.slice aq lq cq)∧W.cell? ⟨g12,5,none⟩=some (.slice dq mq eq)∧W.cell? ⟨g14,0,none⟩=some (.bool br)∧W.cell? ⟨g14,1,none⟩=some (.slice ar lr cr)∧W.cell? ⟨g14,2,none⟩=some (.slice dr mr er)∧W.cell? ⟨g14,3,none⟩=some (.bool bv)∧W.cell? ⟨g14,4,none⟩=some (.slice av lv cv)∧W.cell? ⟨g14,5,none⟩=some (.slice dv mv ev)):=fun W h1 h2=>⟨h1.c0,h1.c1,h1.c2,h1.c3,h1.c4,h1.c5,h2.c0,h2.c1,h2.c2,h2.c3,h2.c4,h2.c5⟩
 have HS70:=zAb (un HSS Y.drew ((un HBX3).later ((Below.refl _ _).drew)) ((un HYX).later ((Below.refl _ _).drew)));have HE1:Hid (g12≠w.heap.size+1∧g14≠w.heap.size+1∧g12≠w.heap.size+2∧g14≠w.heap.size+2∧g12≠w.heap.size+3∧g14≠w.heap.size+3):=by have h1:=un HG12;have h2:=un HG14;show _∧_;omega
 obtain⟨D,hD⟩:∃D,D=Y.drew:=⟨_,rfl⟩;have HBYD:Hid (Bw Y D):=by rw[hD];exact(Below.refl _ _).drew
 have HXD:=zAb ((un HBX3).later (un HBYD));have HYD:=zAb ((un HYX).later (un HBYD));have H1D:=zAb ((un H1Y).later (un HBYD));have H2D:=zAb ((un H2Y).later (un HBYD));have H3D:=zAb ((un H3Y).later (un HBYD));have HS7a:=zAb (un HSS (zAs D (w.heap.size+1) (.bool bz) (.slice az lz cz) (.slice dz mz ez)) ((un HXD).other3 (un HE1).1 _ _ _) ((un HYD).other3 (un HE1).2.1 _ _ _));have HS7b:=zAb (un HSS (zBg (zAs D (w.heap.size+1) (.bool bz) (.slice az lz cz) (.slice dz mz ez)) (w.heap.size+2) (.bool bp) (.slice ap lp cp) (.slice dp mp ep) (.bool bq) (.slice aq lq cq) (.slice dq mq eq)) (((un HXD).other3 (un HE1).1 _ _ _).other6 (un HE1).2.2.1 _ _ _ _ _ _) (((un HYD).other3 (un HE1).2.1 _ _ _).other6 (un HE1).2.2.2.1 _ _ _ _ _ _));have HS7c:=zAb (un HSS (zBg (zBg (zAs D (w.heap.size+1) (.bool bz) (.slice az lz cz) (.slice dz mz ez)) (w.heap.size+2) (.bool bp) (.slice ap lp cp) (.slice dp mp ep) (.bool bq) (.slice aq lq cq) (.slice dq mq eq)) (w.heap.size+3) (.bool br) (.slice ar lr cr) (.slice dr mr er) (.bool bv) (.slice av lv cv) (.slice dv mv ev)) ((((un HXD).other3 (un HE1).1 _ _ _).other6 (un HE1).2.2.1 _ _ _ _ _ _).other6 (un HE1).2.2.2.2.1 _ _ _ _ _ _) ((((un HYD).other3 (un HE1).2.1 _ _ _).other6 (un HE1).2.2.2.1 _ _ _ _ _ _).other6 (un HE1).2.2.2.2.2 _ _ _ _ _ _));have HF1:Hid (FBox D (w.heap.size+1) (.bool false) (.slice none 0 0) (.slice none 0 0)):=H1D;have HF2:Hid (T6 (zAs D (w.heap.size+1) (.bool bz) (.slice az lz cz) (.slice dz mz ez)) (w.heap.size+2) (.bool false) (.slice none 0 0) (.slice none 0 0) (.bool false) (.slice none 0 0) (.slice none 0 0)):=(un H2D).other3 (by omega) _ _ _;have HF3:Hid (T6 (zBg (zAs D (w.heap.size+1) (.bool bz) (.slice az lz cz) (.slice dz mz ez)) (w.heap.size+2) (.bool bp) (.slice ap lp cp) (.slice dp mp ep) (.bool bq) (.slice aq lq cq) (.slice dq mq eq)) (w.heap.size+3) (.bool false) (.slice none 0 0) (.slice none 0 0) (.bool false) (.slice none 0 0) (.slice none 0 0)):=((un H3D).other3 (by omega) _ _ _).other6 (by omega) _ _ _ _ _ _;subst hD;have HQ:=zAb (And.intro (un HZY) (And.intro (un HPY) (And.intro (un HQY) (And.intro (un HRY) (un HTY)))));have p0:=(un H1Y).c0;have p1:=(un H1Y).c1;have p2:=(un H1Y).c2;have pf0:=(un H1Y).f0;have pf1:=(un H1Y).f1;have pf2:=(un H1Y).f2;have HQQ:∀(v:Value) (q:Rat),QOf Y v q 67→QOf (zBg (zBg (zAs Y.drew (w.heap.size+1) (.bool bz) (.slice az lz cz) (.slice dz mz ez)) (w.heap.size+2) (.bool bp) (.slice ap lp cp) (.slice dp mp ep) (.bool bq) (.slice aq lq cq) (.slice dq mq eq)) (w.heap.size+3) (.bool br) (.slice ar lr cr) (.slice dr mr er) (.bool bv) (.slice av lv cv) (.slice dv mv ev)) v q 67:=fun v q h=>QOf.six (un HF3) _ _ _ _ _ _ (QOf.six (un HF2) _ _ _ _ _ _ (QOf.over (un HF1) _ _ _ (h.later ((Below.refl _ _).drew))))
 have HE:Hid ((FBox (zBg (zBg (zAs Y.drew (w.heap.size+1) (.bool bz) (.slice az lz cz) (.slice dz mz ez)) (w.heap.size+2) (.bool bp) (.slice ap lp cp) (.slice dp mp ep) (.bool bq) (.slice aq lq cq) (.slice dq mq eq)) (w.heap.size+3) (.bool br) (.slice ar lr cr) (.slice dr mr er) (.bool bv) (.slice av lv cv) (.slice dv mv ev)) (w.heap.size+1) (.bool bz) (.slice az lz cz) (.slice dz mz ez)∧T6 (zBg (zBg (zAs Y.drew (w.heap.size+1) (.bool bz) (.slice az lz cz) (.slice dz mz ez)) (w.heap.size+2) (.bool bp) (.slice ap lp cp) (.slice dp mp ep) (.bool bq) (.slice aq lq cq) (.slice dq mq eq)) (w.heap.size+3) (.bool br) (.slice ar lr cr) (.slice dr mr er) (.bool bv) (.slice av lv cv) (.slice dv mv ev)) (w.heap.size+2) (.bool bp) (.slice ap lp cp) (.slice dp mp ep) (.bool bq) (.slice aq lq cq) (.slice dq mq eq)∧T6 (zBg (zBg (zAs Y.drew (w.heap.size+1) (.bool bz) (.slice az lz cz) (.slice dz mz ez)) (w.heap.size+2) (.bool bp) (.slice ap lp cp) (.slice dp mp ep) (.bool bq) (.slice aq lq cq) (.slice dq mq eq)) (w.heap.size+3) (.bool br) (.slice ar lr cr) (.slice dr mr er) (.bool bv) (.slice av lv cv) (.slice dv mv ev)) (w.heap.size+3) (.bool br) (.slice ar lr cr) (.slice dr mr er) (.bool bv) (.slice av lv cv) (.slice dv mv ev))∧(QOf (zBg (zBg (zAs Y.drew (w.heap.size+1) (.bool bz) (.slice az lz cz) (.slice dz mz ez)) (w.heap.size+2) (.bool bp) (.slice ap lp cp) (.slice dp mp ep) (.bool bq) (.slice aq lq cq) (.slice dq mq eq)) (w.heap.size+3) (.bool br) (.slice ar lr cr) (.slice dr mr er) (.bool bv) (.slice av lv cv) (.slice dv mv ev)) (.agg #[.bool bz,.slice az lz cz,.slice dz mz ez]) x 67∧QOf (zBg (zBg (zAs Y.drew (w.heap.size+1) (.bool bz) (.slice az lz cz) (.slice dz mz ez)) (w.heap.size+2) (.bool bp) (.slice ap lp cp) (.slice dp mp ep) (.bool bq) (.slice aq lq cq) (.slice dq mq eq)) (w.heap.size+3) (.bool br) (.slice ar lr cr) (.slice dr mr er) (.bool bv) (.slice av lv cv) (.slice dv mv ev)) (.agg #[.bool bp,.slice ap lp cp,.slice dp mp ep]) (fq i) 67∧QOf (zBg (zBg (zAs Y.drew (w.heap.size+1) (.bool bz) (.slice az lz cz) (.slice dz mz ez)) (w.heap.size+2) (.bool bp) (.slice ap lp cp) (.slice dp mp ep) (.bool bq) (.slice aq lq cq) (.slice dq mq eq)) (w.heap.size+3) (.bool br) (.slice ar lr cr) (.slice dr mr er) (.bool bv) (.slice av lv cv) (.slice dv mv ev)) (.agg #[.bool bq,.slice aq lq cq,.slice dq mq eq]) (oq i) 67∧QOf (zBg (zBg (zAs Y.drew (w.heap.size+1) (.bool bz) (.slice az lz cz) (.slice dz mz ez)) (w.heap.size+2) (.bool bp) (.slice ap lp cp) (.slice dp mp ep) (.bool bq) (.slice aq lq cq) (.slice dq mq eq)) (w.heap.size+3) (.bool br) (.slice ar lr cr) (.slice dr mr er) (.bool bv) (.slice av lv cv) (.slice dv mv ev)) (.agg #[.bool br,.slice ar lr cr,.slice dr mr er]) (fq j) 67∧QOf (zBg (zBg (zAs Y.drew (w.heap.size+1) (.bool bz) (.slice az lz cz) (.slice dz mz ez)) (w.heap.size+2) (.bool bp) (.slice ap lp cp) (.slice dp mp ep) (.bool bq) (.slice aq lq cq) (.slice dq mq eq)) (w.heap.size+3) (.bool br) (.slice ar lr cr) (.slice dr mr er) (.bool bv) (.slice av lv cv) (.slice dv mv ev)) (.agg #[.bool bv,.slice av lv cv,.slice dv mv ev]) (oq j) 67)∧Bw w (zBg (zBg (zAs Y.drew (w.heap.size+1) (.bool bz) (.slice az lz cz) (.slice dz mz ez)) (w.heap.size+2) (.bool bp) (.slice ap lp cp) (.slice dp mp ep) (.bool bq) (.slice aq lq cq) (.slice dq mq eq)) (w.heap.size+3) (.bool br) (.slice ar lr cr) (.slice dr mr er) (.bool bv) (.slice av lv cv) (.slice dv mv ev))):=⟨⟨(((un HF1).store (.bool bz) (.slice az lz cz) (.slice dz mz ez)).other6 (k:=w.heap.size+2) (by omega) (.bool bp) (.slice ap lp cp) (.slice dp mp ep) (.bool bq) (.slice aq lq cq) (.slice dq mq eq)).other6 (k:=w.heap.size+3) (by omega) (.bool br) (.slice ar lr cr) (.slice dr mr er) (.bool bv) (.slice av lv cv) (.slice dv mv ev),((un HF2).store (.bool bp) (.slice ap lp cp) (.slice dp mp ep) (.bool bq) (.slice aq lq cq) (.slice dq mq eq)).other6 (k:=w.heap.size+3) (by omega) (.bool br) (.slice ar lr cr) (.slice dr mr er) (.bool bv) (.slice av lv cv) (.slice dv mv ev),(un HF3).store (.bool br) (.slice ar lr cr) (.slice dr mr er) (.bool bv) (.slice av lv cv) (.slice dv mv ev)⟩,⟨HQQ _ _ (un HQ).1,HQQ _ _ (un HQ).2.1,HQQ _ _ (un HQ).2.2.1,HQQ _ _ (un HQ).2.2.2.1,HQQ _ _ (un HQ).2.2.2.2⟩,zEs (zEs (zAq (un HBWY).drew (by omega) _ _ _) (by omega) _ _ _ _ _ _) (by omega) _ _ _ _ _ _⟩
 clear HQQ HQ HZY HPY HQY HRY HTY HXD HYD H1D H2D H3D H2Y H3Y HBYD HSS;refine zAi 3 (fun W=>W.cell? ⟨g10,0,none⟩=some (.bool bz)∧W.cell? ⟨g10,1,none⟩=some (.slice az lz cz)∧W.cell? ⟨g10,2,none⟩=some (.slice dz mz ez)) (fun W=>W.cell? ⟨g12,0,none⟩=some (.bool bp)∧W.cell? ⟨g12,1,none⟩=some (.slice ap lp cp)∧W.cell? ⟨g12,2,none⟩=some (.slice dp mp ep)∧W.cell? ⟨g12,3,none⟩=some (.bool bq)∧W.cell? ⟨g12,4,none⟩=some (.slice aq lq cq)∧W.cell? ⟨g12,5,none⟩=some (.slice dq mq eq)∧W.cell? ⟨g14,0,none⟩=some (.bool br)∧W.cell? ⟨g14,1,none⟩=some (.slice ar lr cr)∧W.cell? ⟨g14,2,none⟩=some (.slice dr mr er)∧W.cell? ⟨g14,3,none⟩=some (.bool bv)∧W.cell? ⟨g14,4,none⟩=some (.slice av lv cv)∧W.cell? ⟨g14,5,none⟩=some (.slice dv mv ev)) 7 rfl (by kernel_rfl) ?_;refine wT 0 (.agg #[.bool bz,.slice az lz cz,.slice dz mz ez]) rfl (Or.inl ⟨by rfl,?_⟩) ⟨un HS0,un HS70⟩ ?_
 ·intro W hW
  go_split_ands
  go_simp
 refine wT7 1 (.agg #[.bool bp,.slice ap lp cp,.slice dp mp ep,.bool bq,.slice aq lq cq,.slice dq mq eq]) rfl (Or.inl ⟨by rfl,?_⟩) ⟨un HS0,un HS70⟩ ?_
 ·intro W hW
  go_split_ands
  go_simp
 refine wT7 2 (.agg #[.bool br,.slice ar lr cr,.slice dr mr er,.bool bv,.slice av lv cv,.slice dv mv ev]) rfl (Or.inl ⟨by rfl,?_⟩) ⟨un HS0,un HS70⟩ ?_
 ·intro W hW
  go_split_ands
  go_simp
 refine wL 3 rfl rfl (fun K hK=>?_)
 go_simp
 refine hK _ (zAs Y.drew (w.heap.size+1) (.bool bz) (.slice az lz cz) (.slice dz mz ez)) (un HS7a) ?_;clear hK K;generalize zAs Y.drew (w.heap.size+1) (.bool bz) (.slice az lz cz) (.slice dz mz ez)=A3 at *
 have q0:=(un HF2).c0;have q1:=(un HF2).c1;have q2:=(un HF2).c2;have q3:=(un HF2).c3;have q4:=(un HF2).c4;have q5:=(un HF2).c5;have qf0:=(un HF2).f0;have qf1:=(un HF2).f1;have qf2:=(un HF2).f2;have qf3:=(un HF2).f3;have qf4:=(un HF2).f4;have qf5:=(un HF2).f5;refine wL 4 rfl rfl (fun K hK=>?_)
 go_simp
 refine hK _ (zBg A3 (w.heap.size+2) (.bool bp) (.slice ap lp cp) (.slice dp mp ep) (.bool bq) (.slice aq lq cq) (.slice dq mq eq)) (un HS7b) ?_;clear hK K;generalize zBg A3 (w.heap.size+2) (.bool bp) (.slice ap lp cp) (.slice dp mp ep) (.bool bq) (.slice aq lq cq) (.slice dq mq eq)=A4 at *
 have r0:=(un HF3).c0;have r1:=(un HF3).c1;have r2:=(un HF3).c2;have r3:=(un HF3).c3;have r4:=(un HF3).c4;have r5:=(un HF3).c5;have rf0:=(un HF3).f0;have rf1:=(un HF3).f1;have rf2:=(un HF3).f2;have rf3:=(un HF3).f3;have rf4:=(un HF3).f4;have rf5:=(un HF3).f5;refine wL 5 rfl rfl (fun K hK=>?_)
 go_simp
 refine hK _ (zBg A4 (w.heap.size+3) (.bool br) (.slice ar lr cr) (.slice dr mr er) (.bool bv) (.slice av lv cv) (.slice dv mv ev)) (un HS7c) ?_;clear hK K;generalize zBg A4 (w.heap.size+3) (.bool br) (.slice ar lr cr) (.slice dr mr er) (.bool bv) (.slice av lv cv) (.slice dv mv ev)=A5 at *
 skip
 refine wL 6 rfl rfl (fun K hK=>?_)
 go_simp
 refine hK _ _ (un HS7c) ?_;clear hK K;refine wDn ?_
 go_wp2_with fail
 have hS1:=(un HE).1.1;have hS2:=(un HE).1.2.1;have hS3:=(un HE).1.2.2;have u0:=hS1.c0;have u1:=hS1.c1;have u2:=hS1.c2;have v0:=hS2.c0;have v1:=hS2.c1;have v2:=hS2.c2;have v3:=hS2.c3;have v4:=hS2.c4;have v5:=hS2.c5;have y0:=hS3.c0;have y1:=hS3.c1;have y2:=hS3.c2;have y3:=hS3.c3;have y4:=hS3.c4;have y5:=hS3.c5;exact bodyPost_ret (v:=.tuple #[.agg #[.bool bz,.slice az lz cz,.slice dz mz ez],.agg #[.bool bp,.slice ap lp cp,.slice dp mp ep,.bool bq,.slice aq lq cq,.slice dq mq eq],.agg #[.bool br,.slice ar lr cr,.slice dr mr er,.bool bv,.slice av lv cv,.slice dv mv ev],I 0]) (w:=A5) (by simp[results,Tryz.results110,go_sem,u0,u1,u2,v0,v1,v2,v3,v4,v5,y0,y1,y2,y3,y4,y5]) rfl ⟨bz,bp,bq,br,bv,az,dz,ap,dp,aq,dq,ar,dr,av,dv,lz,cz,mz,ez,lp,cp,mp,ep,lq,cq,mq,eq,lr,cr,mr,er,lv,cv,mv,ev,rfl,(un HE).2.1,(un HE).2.2⟩
theorem fq_ne:∀j,fq j≠0
 | 0=>by decide +kernel
 | 1=>by decide +kernel
 | 2=>by decide +kernel
 | n+3=>by show(1:Rat)≠0;decide +kernel
theorem cmp_neg_inv {p:Rat} (h:Cub.cmpQ p 0<0):p<0:=by
 unfold Cub.cmpQ at h
 split at h
 ·assumption
 ·split at h<;>omega
theorem to_tell (n d s t:ByteArray) (x:Rat) (i j:Nat) (w:World) (hx:IsR n d x) (hi:zBc (scB s) (i:Int)) (hj:zBc (scB t) (j:Int)) (hk:¬x*fq i+oq i<0) (htab:Tab w) :
  Calls Tryz.prog 46 #[.agg #[.string n,.string d],.string s,.string t] w fun r w'=>r=.returned (.tuple #[.agg #[.string (zEp ((x*fq i+oq i + -oq j)*(fq j)⁻¹)),.string (zEr ((x*fq i+oq i + -oq j)*(fq j)⁻¹))],I (zHa ((x*fq i+oq i + -oq j)*(fq j)⁻¹))])∧Bw w w':=by
 obtain⟨V,hV⟩:∃V,V=(w.alloc (.cells #[.string n,.string d] 28)).alloc (.cells #[G #[],G #[]] 28):=⟨_,rfl⟩;have HN:Hid (T2 V w.heap.size (.string n) (.string d)):=by rw[hV];exact⟨by simp[go_sem],by simp[go_sem],by simp[go_sem],by simp[go_sem]⟩
 have HR:Hid (T2 V (w.heap.size+1) (G #[]) (G #[])):=by rw[hV];exact⟨by simp[go_sem],by simp[go_sem],by simp[go_sem],by simp[go_sem]⟩
 have HB:Hid (Bw w V):=by rw[hV];exact bA.alloc (by simp) _
 have HV:=zAb hV;have HTW:=zAb htab;have HRU:=zAb (fun W hb=>readU_ok n d s t x i j W hx hi hj (htab.later hb));have HSG:Hid (Cub.cmpQ (x*fq i+oq i) 0<0→False):=fun h=>hk (cmp_neg_inv h)
 have HF0:=zAb (fq_ne j);clear hV htab hx hi hj hk;generalize hyy:(x*fq i+oq i + -oq j)*(fq j)⁻¹=yy;have HYY:=zAb hyy;clear hyy;go_enter Tryz.func46,Tryz.ntmps46
 go_upto_region 1 with fail
 rw[←un HV];clear HV;have t0:=(un HN).c0;have t1:=(un HN).c1
 go_upto_region 2 with (go_at_call 110;go_must(refine(un HRU _ (un HB)).mono ?_;rintro e w1 ⟨bz,bp,bq,br,bv,az,dz,ap,dp,aq,dq,ar,dr,av,dv,lz,cz,mz,ez,lp,cp,mp,ep,lq,cq,mq,eq,lr,cr,mr,er,lv,cv,mv,ev,rfl,hq1,hb1⟩;have HQ1:=zAb hq1;have HB1:=zAb hb1;clear hq1 hb1 t0 t1))
 obtain⟨A,hA⟩:∃A,A=((w1.alloc (.cells #[.bool bz,.slice az lz cz,.slice dz mz ez] 82)).alloc (.cells #[.bool bp,.slice ap lp cp,.slice dp mp ep,.bool bq,.slice aq lq cq,.slice dq mq eq] 84)).alloc (.cells #[.bool br,.slice ar lr cr,.slice dr mr er,.bool bv,.slice av lv cv,.slice dv mv ev] 84):=⟨_,rfl⟩;have HZA:Hid (FBox A w1.heap.size (.bool bz) (.slice az lz cz) (.slice dz mz ez)):=by rw[hA];exact⟨by simp[go_sem],by simp[go_sem],by simp[go_sem],by simp[go_sem],by simp[go_sem],by simp[go_sem]⟩
 have HPA:Hid (T6 A (w1.heap.size+1) (.bool bp) (.slice ap lp cp) (.slice dp mp ep) (.bool bq) (.slice aq lq cq) (.slice dq mq eq)):=by rw[hA];exact⟨by simp[go_sem],by simp[go_sem],by simp[go_sem],by simp[go_sem],by simp[go_sem],by simp[go_sem],by simp[go_sem],by simp[go_sem],by simp[go_sem],by simp[go_sem],by simp[go_sem],by simp[go_sem]⟩
 have HTA:Hid (T6 A (w1.heap.size+2) (.bool br) (.slice ar lr cr) (.slice dr mr er) (.bool bv) (.slice av lv cv) (.slice dv mv ev)):=by rw[hA];exact⟨by simp[go_sem],by simp[go_sem],by simp[go_sem],by simp[go_sem],by simp[go_sem],by simp[go_sem],by simp[go_sem],by simp[go_sem],by simp[go_sem],by simp[go_sem],by simp[go_sem],by simp[go_sem]⟩
 have HBA1:Hid (Bw w1 A):=by rw[hA];exact(bA.alloc (by simp) _).alloc (by simp;omega) _
 rw[←hA];clear hA;have HBA:Hid (Bw V A):=(un HB1).trans ((un HBA1).mono (un HB1).size);have HQA:=zAb (And.intro ((un HQ1).1.later (un HBA1)) (And.intro ((un HQ1).2.1.later (un HBA1)) (And.intro ((un HQ1).2.2.1.later (un HBA1)) (And.intro ((un HQ1).2.2.2.1.later (un HBA1)) ((un HQ1).2.2.2.2.later (un HBA1))))));have HRA:=zAb ((un HR).later (un HBA));have HBW:Hid (Bw w A):=(un HB).trans ((un HBA).mono (un HB).size);clear HQ1 HB1 HBA1 HBA;generalize w1.heap.size=g8 at *
 have p0:=(un HPA).c0;have p1:=(un HPA).c1;have p2:=(un HPA).c2;have p3:=(un HPA).c3;have p4:=(un HPA).c4;have p5:=(un HPA).c5;have r0:=(un HTA).c0;have r1:=(un HTA).c1;have r2:=(un HTA).c2;have r3:=(un HTA).c3;have r4:=(un HTA).c4;have r5:=(un HTA).c5
 go_upto_region 4 with fail
 go_region_held3 (fun w'=>w'.cell? ⟨g8+1,0,none⟩=some (.bool bp)∧w'.cell? ⟨g8+1,1,none⟩=some (.slice ap lp cp)∧w'.cell? ⟨g8+1,2,none⟩=some (.slice dp mp ep)∧w'.cell? ⟨g8+1,3,none⟩=some (.bool bq)∧w'.cell? ⟨g8+1,4,none⟩=some (.slice aq lq cq)∧w'.cell? ⟨g8+1,5,none⟩=some (.slice dq mq eq)∧w'.cell? ⟨g8+2,0,none⟩=some (.bool br)∧w'.cell? ⟨g8+2,1,none⟩=some (.slice ar lr cr)∧w'.cell? ⟨g8+2,2,none⟩=some (.slice dr mr er)∧w'.cell? ⟨g8+2,3,none⟩=some (.bool bv)∧w'.cell? ⟨g8+2,4,none⟩=some (.slice av lv cv)∧w'.cell? ⟨g8+2,5,none⟩=some (.slice dv mv ev)) (first|assumption|(simp[go_sem, *];done)) (fail)
 all_goals
  clear p0 p1 p2 p3 p4 p5 r0 r1 r2 r3 r4 r5;have z0:=(un HZA).c0;have z1:=(un HZA).c1;have z2:=(un HZA).c2;have HAD:Hid (Bw A A.drew):=(Below.refl _ _).drew;have HKE:=zAb (kelvins_any (.agg #[.bool bp,.slice ap lp cp,.slice dp mp ep]) (.agg #[.bool bq,.slice aq lq cq,.slice dq mq eq]) (.agg #[.bool bz,.slice az lz cz,.slice dz mz ez]) (fq i) (oq i) x 67 A.drew bp bq bz ap dp aq dq az dz lp cp mp ep lq cq mq eq lz cz mz ez rfl rfl rfl ((un HQA).2.1.later (un HAD)) ((un HQA).2.2.1.later (un HAD)) ((un HQA).1.later (un HAD)) (by omega))
  go_upto_region 6 with (go_at_call 111;go_must(refine(un HKE).mono ?_;rintro e w2 ⟨v2,rfl,hv2,hb2⟩;obtain⟨bk,ak,lk,ck,dk,mk,ek,rfl⟩:=hv2.form;have HV2:=zAb hv2;have HB2:Hid (Bw A w2):=bt HAD hb2;clear hv2 hb2 z0 z1 z2))
  obtain⟨B,hB⟩:∃B,B=w2.alloc (.cells #[.bool bk,.slice ak lk ck,.slice dk mk ek] 82):=⟨_,rfl⟩;have HMB:Hid (FBox B w2.heap.size (.bool bk) (.slice ak lk ck) (.slice dk mk ek)):=by rw[hB];exact⟨by simp[go_sem],by simp[go_sem],by simp[go_sem],by simp[go_sem],by simp[go_sem],by simp[go_sem]⟩
  have HBB2:Hid (Bw w2 B):=by rw[hB];exact bA
  rw[←hB];clear hB;have HBB:Hid (Bw A B):=(un HB2).trans ((un HBB2).mono (un HB2).size);have HVB:=zAb ((un HV2).later (un HBB2));have HRB:=zAb ((un HRA).later (un HBB));have HBWB:Hid (Bw w B):=(un HBW).trans ((un HBB).mono (un HBW).size);have HSI:=zAb (qsign (.agg #[.bool bk,.slice ak lk ck,.slice dk mk ek]) _ _ B (un HVB));clear HB2 HBB2 HV2;generalize w2.heap.size=g14 at *
  generalize Cub.cmpQ (x*fq i+oq i) 0=sg at HSI HSG
  have m0:=(un HMB).c0;have m1:=(un HMB).c1;have m2:=(un HMB).c2;have hsg:¬sg<0:=fun h=>un HSG h
  go_upto_region 8 with (go_at_call 68;go_must(refine(un HSI).mono ?_;rintro e w3 ⟨rfl,hb3⟩;have HB3:=zAb hb3;have HMB3:=zAb ((un HMB).later hb3);have HVB3:=zAb ((un HVB).later hb3);have HR3:=zAb ((un HRB).later hb3);have HBA3:Hid (Bw A w3):=bt HBB hb3;clear hb3 m0 m1 m2))
  have m0:=(un HMB3).c0;have m1:=(un HMB3).c1;have m2:=(un HMB3).c2;have HBW3:Hid (Bw w w3):=(un HBW).trans ((un HBA3).mono (un HBW).size);have HMK:=zAb (mark_any (.agg #[.bool br,.slice ar lr cr,.slice dr mr er]) (.agg #[.bool bv,.slice av lv cv,.slice dv mv ev]) (.agg #[.bool bk,.slice ak lk ck,.slice dk mk ek]) (fq j) (oq j) (x*fq i+oq i) (67+67+(67+67)+(67+67)) w3 br bv bk ar dr av dv ak dk lr cr mr er lv cv mv ev lk ck mk ek rfl rfl rfl (((un HQA).2.2.2.1.later (un HBA3)).mono (by omega)) (((un HQA).2.2.2.2.later (un HBA3)).mono (by omega)) (un HVB3) (by omega) (un HF0));rw[un HYY]at HMK
  go_wp2_with (first
   | (go_at_call 52;go_must(refine(un HMK).mono ?_;rintro e w4 ⟨v4,rfl,hv4,hb4⟩;have HV4:=zAb hv4;have HB4:=zAb hb4;clear hv4 hb4 m0 m1 m2))
   | (go_at_call 55;go_must(refine(qtell _ _ _ _ (un HV4) (by omega) ((un HTW).later ((un HBW3).trans ((un HB4).mono (un HBW3).size)))).mono ?_;rintro e w5 ⟨rfl,hb5⟩;have HB5:Hid (Bw w3 w5):=bt HB4 hb5;have HR5:=zAb ((un HR3).later (un HB5));clear hb5;have q0:=(un HR5).c0;have q1:=(un HR5).c1;have f0:=(un HR5).f0;have f1:=(un HR5).f1)))
  have hS:=(un HR5).store (.string (zEp yy)) (.string (zEr yy));have v0:=hS.c0;have v1:=hS.c1;exact bodyPost_ret (v:=.tuple #[.agg #[.string (zEp yy),.string (zEr yy)],I (zHa yy)]) (w:=zBh w5 (w.heap.size+1) (.string (zEp yy)) (.string (zEr yy))) (by simp[results,Tryz.results46,go_sem,v0,v1]) rfl ⟨rfl,zAk ((un HBW3).trans ((un HB5).mono (un HBW3).size)) (by omega) _ _⟩
theorem rat31 (a b:ByteArray) (w:World):Calls Tryz.prog 47 #[.string a,.string b] w fun r w'=>r=.returned (.agg #[.string a,.string b])∧Bw w w':=by
 go_enter Tryz.func47,Tryz.ntmps47
 go_wp2
 exact bodyPost_ret (v:=.agg #[.string a,.string b]) (by simp[results,Tryz.results47,go_sem]) rfl ⟨rfl,bA⟩
end Go.Proofs.YtliadckofhblnaaGreatDoor.Tm
namespace Go.Proofs.YtliadckofhblnaaGreatDoor.Tr
open Go.RowKit
theorem info30r:(Tryz.prog.info? 30).map (fun i=>(i.zero,i.size,i.bytes))=some (some (.agg z15),15,168):=by kernel_rfl
theorem under22r:Tryz.prog.underlying 22=some (.slice 30):=by kernel_rfl
end Go.Proofs.YtliadckofhblnaaGreatDoor.Tr
namespace Go.Proofs.YtliadckofhblnaaGreatDoor.Tm
open Go.RowKit
def uAllM:Array Value:=((List.range 3).flatMap fun k=>(rtM k).toList).toArray
theorem rat45 (a b:ByteArray) (w:World):Calls Tryz.prog 45 #[.string a,.string b] w fun r w'=>r=.returned (.agg #[.string a,.string b])∧Bw w w':=by
 go_enter Tryz.func45,Tryz.ntmps45
 go_wp2
 exact bodyPost_ret (v:=.agg #[.string a,.string b]) (by simp[results,Tryz.results45,go_sem]) rfl ⟨rfl,bA⟩
structure D8 (w W:World):Prop where
 o:zAc W w.heap.size 26 dimK
 b:Below w.heap.size w W
theorem D8.later {w W V:World} (h:D8 w W) (hb:Below W.heap.size W V):D8 w V:=⟨h.o.later hb,h.b.trans (hb.mono h.b.size)⟩
theorem refUnitsM (w:World):Calls Tryz.prog 18 #[] w fun r w'=>∃W,r=.returned (.slice (some ⟨W.heap.size,0,none⟩) 3 3)∧w'=W.alloc (.cells uAllM 30)∧Bw w W:=by
 obtain⟨i0,hi,hz0,hz1,hz2⟩:=info_parts Tr.info30r;have HI0:=zAb hi;have HZ0:=zAb hz0;have HZ1:=zAb hz1;clear hi hz0 hz1 hz2;go_enter Tryz.func18,Tryz.ntmps18
 go_upto_region 2 with (refine zAn 26 8 zCw rfl (.tmp 1) (.tmp 2) rfl w.heap.size z8 dimK rfl rfl rfl rfl (zAc.new _ _ _) (by kernel_rfl) ?_)
 have HT0:Hid (D8 w ((w.alloc (.cells z8 26)).setRow w.heap.size dimK)):=⟨(zAc.new _ _ _).setRow _,below_setRow (zBx _ _) (Nat.le_refl _) _⟩;generalize (w.alloc (.cells z8 26)).setRow w.heap.size dimK=w2 at *
 have HT1:Hid (D8 w w2.drew):=(un HT0).later (Below.refl _ _).drew;have HSS:Hid (∀W':World,D8 w W'→W'.cell? ⟨w.heap.size,0,none⟩=some (I 0)∧W'.cell? ⟨w.heap.size,1,none⟩=some (I 0)∧W'.cell? ⟨w.heap.size,2,none⟩=some (I 0)∧W'.cell? ⟨w.heap.size,3,none⟩=some (I 0)∧W'.cell? ⟨w.heap.size,4,none⟩=some (I 1)∧W'.cell? ⟨w.heap.size,5,none⟩=some (I 0)∧W'.cell? ⟨w.heap.size,6,none⟩=some (I 0)∧W'.cell? ⟨w.heap.size,7,none⟩=some (I 0)):=fun W' h=>⟨h.o.ub.c 0 _ rfl,h.o.ub.c 1 _ rfl,h.o.ub.c 2 _ rfl,h.o.ub.c 3 _ rfl,h.o.ub.c 4 _ rfl,h.o.ub.c 5 _ rfl,h.o.ub.c 6 _ rfl,h.o.ub.c 7 _ rfl⟩
 have HS0:=zAb (un HSS _ (un HT1));clear HT0;refine zAi 12 (fun _=>True) (fun W'=>W'.cell? ⟨w.heap.size,0,none⟩=some (I 0)∧W'.cell? ⟨w.heap.size,1,none⟩=some (I 0)∧W'.cell? ⟨w.heap.size,2,none⟩=some (I 0)∧W'.cell? ⟨w.heap.size,3,none⟩=some (I 0)∧W'.cell? ⟨w.heap.size,4,none⟩=some (I 1)∧W'.cell? ⟨w.heap.size,5,none⟩=some (I 0)∧W'.cell? ⟨w.heap.size,6,none⟩=some (I 0)∧W'.cell? ⟨w.heap.size,7,none⟩=some (I 0)) 14 rfl (by kernel_rfl) ?_;generalize w2.drew=U1 at *
 refine wT7 0 (.agg #[I 0,I 0,I 0,I 0,I 1,I 0,I 0,I 0]) rfl (Or.inl ⟨by rfl,?_⟩) ⟨trivial,un HSS _ (un HT1)⟩ ?_
 ·intro W' hW
  go_split_ands
  go_simp
 refine wT7 4 (.agg #[I 0,I 0,I 0,I 0,I 1,I 0,I 0,I 0]) rfl (Or.inl ⟨by rfl,?_⟩) ⟨trivial,un HSS _ (un HT1)⟩ ?_
 ·intro W' hW
  go_split_ands
  go_simp
 refine wT7 8 (.agg #[I 0,I 0,I 0,I 0,I 1,I 0,I 0,I 0]) rfl (Or.inl ⟨by rfl,?_⟩) ⟨trivial,un HSS _ (un HT1)⟩ ?_
 ·intro W' hW
  go_split_ands
  go_simp
 refine wO 1 rfl rfl (fun K hK=>?_)
 go_simp
 refine(rat45 _ _ _).mono ?_;rintro e U2 ⟨rfl,hb⟩;have HT2:=zAb ((un HT1).later hb);clear hb HT1;refine hK _ _ ⟨trivial,un HSS _ (un HT2)⟩ ?_;clear hK K;refine wO 2 rfl rfl (fun K hK=>?_)
 go_simp
 refine(rat45 _ _ _).mono ?_;rintro e U3 ⟨rfl,hb⟩;have HT3:=zAb ((un HT2).later hb);clear hb HT2;refine hK _ _ ⟨trivial,un HSS _ (un HT3)⟩ ?_;clear hK K;refine wT7 3 (.agg #[G #[114,97,110,107,105,110,101],G #[194,176,82],I 0,I 0,I 0,I 0,I 1,I 0,I 0,I 0,G #[53],G #[57],G #[48],G #[49],I 0]) rfl (Or.inl ⟨by rfl,?_⟩) ⟨trivial,un HSS _ (un HT3)⟩ ?_
 ·intro W' hW
  go_split_ands
  go_simp
 refine wO 5 rfl rfl (fun K hK=>?_)
 go_simp
 refine(rat45 _ _ _).mono ?_;rintro e U4 ⟨rfl,hb⟩;have HT4:=zAb ((un HT3).later hb);clear hb HT3;refine hK _ _ ⟨trivial,un HSS _ (un HT4)⟩ ?_;clear hK K;refine wO 6 rfl rfl (fun K hK=>?_)
 go_simp
 refine(rat45 _ _ _).mono ?_;rintro e U5 ⟨rfl,hb⟩;have HT5:=zAb ((un HT4).later hb);clear hb HT4;refine hK _ _ ⟨trivial,un HSS _ (un HT5)⟩ ?_;clear hK K;refine wT7 7 (.agg #[G #[99,101,108,115,105,117,115],G #[194,176,67],I 0,I 0,I 0,I 0,I 1,I 0,I 0,I 0,G #[49],G #[49],G #[53,52,54,51],G #[50,48],I 0]) rfl (Or.inl ⟨by rfl,?_⟩) ⟨trivial,un HSS _ (un HT5)⟩ ?_
 ·intro W' hW
  go_split_ands
  go_simp
 refine wO 9 rfl rfl (fun K hK=>?_)
 go_simp
 refine(rat45 _ _ _).mono ?_;rintro e U6 ⟨rfl,hb⟩;have HT6:=zAb ((un HT5).later hb);clear hb HT5;refine hK _ _ ⟨trivial,un HSS _ (un HT6)⟩ ?_;clear hK K;refine wO 10 rfl rfl (fun K hK=>?_)
 go_simp
 refine(rat45 _ _ _).mono ?_;rintro e U7 ⟨rfl,hb⟩;have HT7:=zAb ((un HT6).later hb);clear hb HT6;refine hK _ _ ⟨trivial,un HSS _ (un HT7)⟩ ?_;clear hK K;refine wT7 11 (.agg #[G #[102,97,104,114,101,110,104,101,105,116],G #[194,176,70],I 0,I 0,I 0,I 0,I 1,I 0,I 0,I 0,G #[53],G #[57],G #[52,53,57,54,55],G #[49,56,48],I 0]) rfl (Or.inl ⟨by rfl,?_⟩) ⟨trivial,un HSS _ (un HT7)⟩ ?_
 ·intro W' hW
  go_split_ands
  go_simp
 refine wO 12 rfl rfl (fun K hK=>?_);refine wp_buildSlice 22 30 3 _ rfl uAllM i0 (.agg z15) Tr.under22r (un HI0) (un HZ0) (by rw[un HZ1];decide) (by rw[un HZ1];decide) (by rw[un HZ1];kernel_rfl) ?_;refine hK _ _ ⟨trivial,un HSS _ ((un HT7).later (zBx _ _))⟩ ?_;clear hK K;refine wO 13 rfl rfl (fun K hK=>?_)
 go_simp
 refine hK _ _ ⟨trivial,un HSS _ ((un HT7).later (zBx _ _))⟩ ?_;clear hK K;refine wDn ?_
 go_wp2_with fail
 go_ret
 exact⟨_,rfl,rfl,(un HT7).b⟩
theorem uAllM_ex:∀k,k<3→uAllM.extract (k*15) (k*15+15)=rtM k
 | 0,_=>by kernel_rfl
 | 1,_=>by kernel_rfl
 | 2,_=>by kernel_rfl
 | _+3,h=>absurd h (by omega)
theorem uAllM_size:uAllM.size=45:=by kernel_rfl
theorem rtM_size (k:Nat):(rtM k).size=15:=rfl
theorem uAllM_row (k:Nat) (hk:k<3) (i:Nat) (v:Value) (h:(rtM k)[i]?=some v):uAllM[k*15+i]?=some v:=by
 have hi:i<15:=by have:=(Array.getElem?_eq_some_iff.1 h).1;rw[rtM_size]at this;exact this
 rw[←uAllM_ex k hk,Array.getElem?_extract,if_pos (by rw[uAllM_size];omega)]at h;exact h
def UR (W:World) (g k:Nat):Prop:=∀i v,(rtM k)[i]?=some v→W.cell? ⟨g,k*15+i,none⟩=some v
theorem UR.later {W V:World} {B g k:Nat} (h:UR W g k) (hb:Below B W V) (hg:g<B):UR V g k:=fun i v e=>(hb.cell (p:=⟨g,k*15+i,none⟩) hg).trans (h i v e)
theorem uAllM_at (W:World) (k:Nat) (hk:k<3):UR (W.alloc (.cells uAllM 30)) W.heap.size k:=fun i v e=>(zAc.new W uAllM 30).ub.c _ _ (uAllM_row k hk i v e)
end Go.Proofs.YtliadckofhblnaaGreatDoor.Tm

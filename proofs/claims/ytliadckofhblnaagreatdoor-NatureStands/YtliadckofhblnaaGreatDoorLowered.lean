/- names.raised, lowered. -/
import Derived.Test.YtliadckofhblnaaGreatDoorLimb3
import Derived.Test.YtliadckofhblnaaGreatDoorJoule
import Derived.Test.YtliadckofhblnaaGreatDoorProg
import Derived.WalkKit
import Derived.WalkSpells
import Derived.WalkLawsBesides
import Derived.Handy
import Derived.WalkSmall
import Derived.Deep.Cut
import Derived.Deep.RegionWith
set_option maxHeartbeats 4000000
set_option maxRecDepth 100000
namespace Go.Proofs.YtliadckofhblnaaGreatDoor
open Go.RowKit
theorem zBj (n d:ByteArray) (x:Rat) (sg:Int) (hsg:Cub.cmpQ x 0=sg) (w:World) (hx:IsR n d x):Calls Tryz.prog 206 #[.agg #[.string n,.string d]] w fun r w'=>r=.returned (.tuple #[I sg,I 0])∧Bw w w':=by
 obtain⟨V,hV⟩:∃V,V=w.alloc (.cells #[.string n,.string d] 28):=⟨_,rfl⟩;have HN:Hid (T2 V w.heap.size (.string n) (.string d)):=by rw[hV];exact⟨by simp[go_sem],by simp[go_sem],by simp[go_sem],by simp[go_sem]⟩
 have HB:Hid (Bw w V):=by rw[hV];exact bA
 have HV:=zAb hV;have HRD:=zAb (fun W=>qread n d x W hx);have HSG:=zAb hsg;clear hV hx hsg;go_enter Tryz.func206,Tryz.ntmps206
 go_upto_region 1 with fail
 rw[←un HV];clear HV;have t0:=(un HN).c0;have t1:=(un HN).c1
 go_upto_region 2 with (go_at_call 118;go_must(refine(un HRD _).mono ?_;rintro e w1 ⟨v1,rfl,hv1,hb1⟩;obtain⟨bz,az,lz,cz,dz,mz,ez,rfl⟩:=hv1.form;have HZ1:=zAb hv1;have HB1:=zAb (bt HB hb1);clear hv1 hb1 t0 t1))
 have hal:Below w1.heap.size w1 (w1.alloc (.cells #[.bool bz,.slice az lz cz,.slice dz mz ez] 82)):=bA;have HX:Hid (zAc (w1.alloc (.cells #[.bool bz,.slice az lz cz,.slice dz mz ez] 82)) w1.heap.size 82 #[.bool bz,.slice az lz cz,.slice dz mz ez]):=zAc.new _ _ _;have HZ2:=zAb ((un HZ1).later hal);have HB2:=zAb (bt HB1 hal);clear hal HZ1 HB1;generalize w1.alloc (.cells #[.bool bz,.slice az lz cz,.slice dz mz ez] 82)=V2 at *
 generalize w1.heap.size=g4 at *
 have z0:V2.cell? ⟨g4,0,none⟩=some (.bool bz):=(un HX).ub.c 0 _ rfl;have z1:V2.cell? ⟨g4,1,none⟩=some (.slice az lz cz):=(un HX).ub.c 1 _ rfl;have z2:V2.cell? ⟨g4,2,none⟩=some (.slice dz mz ez):=(un HX).ub.c 2 _ rfl;have HSI:=zAb (qsign _ _ _ V2 (un HZ2));rw[un HSG]at HSI
 go_wp2_with (go_at_call 68;go_must(refine(un HSI).mono ?_;rintro e w3 ⟨rfl,hb3⟩;have HB3:=zAb (bt HB2 hb3);clear hb3))
 go_ret2
 exact⟨rfl,un HB3⟩
theorem zBd (n d:ByteArray) (x:Rat) (w:World) (hx:IsR n d x):Calls Tryz.prog 172 #[.agg #[.string n,.string d]] w fun r w'=>r=.returned (.bool true)∧Bw w w':=by
 obtain⟨V,hV⟩:∃V,V=w.alloc (.cells #[.string n,.string d] 28):=⟨_,rfl⟩;have HN:Hid (T2 V w.heap.size (.string n) (.string d)):=by rw[hV];exact⟨by simp[go_sem],by simp[go_sem],by simp[go_sem],by simp[go_sem]⟩
 have HB:Hid (Bw w V):=by rw[hV];exact bA
 have HV:=zAb hV;have HRD:=zAb (fun W=>qread n d x W hx)
 skip
 clear hV hx;go_enter Tryz.func172,Tryz.ntmps172
 go_upto_region 1 with fail
 rw[←un HV];clear HV;have t0:=(un HN).c0;have t1:=(un HN).c1
 go_upto_region 2 with (go_at_call 118;go_must(refine(un HRD _).mono ?_;rintro e w1 ⟨v1,rfl,hv1,hb1⟩;obtain⟨bz,az,lz,cz,dz,mz,ez,rfl⟩:=hv1.form;have HZ1:=zAb hv1;have HB1:=zAb (bt HB hb1);clear hv1 hb1 t0 t1))
 go_wp2_with fail
 go_ret
 exact⟨rfl,(un HB1).alloc (un HB1).size _⟩
theorem closed_any (g:Nat) (w:World) (h:w.cell? ⟨g,3,none⟩=some (.bool false)):Calls Tryz.prog 168 #[.pointer (some ⟨g,0,none⟩)] w fun r w'=>r=.returned (I 0)∧w'=w:=by
 go_enter Tryz.func168,Tryz.ntmps168
 go_wp2_with fail
 go_ret
 exact⟨rfl,rfl⟩
theorem room_any (n:Int) (w:World) (h:n<512):Calls Tryz.prog 98 #[I n,I 512] w fun r w'=>r=.returned (I 0)∧w'=w:=by
 have h1:¬(512:Int)≤n:=by omega
 go_enter Tryz.func98,Tryz.ntmps98
 go_wp2_with fail
 go_ret
 exact⟨rfl,rfl⟩
theorem above_any (n d:ByteArray) (x:Rat) (w:World) (hx:IsR n d x) (h0:Cub.cmpQ x 0=1):Calls Tryz.prog 171 #[.agg #[.string n,.string d]] w fun r w'=>r=.returned (.bool true)∧Bw w w':=by
 have HS:Hid (∀W,Calls Tryz.prog 206 #[.agg #[.string n,.string d]] W fun r w'=>r=.returned (.tuple #[I 1,I 0])∧Bw W w'):=fun W=>zBj n d x 1 h0 W hx
 clear hx h0;go_enter Tryz.func171,Tryz.ntmps171
 go_wp2_with (go_at_call 206;go_must(refine(un HS _).mono ?_;rintro e w1 ⟨rfl,hb⟩;have HB:=zAb hb;clear hb))
 go_ret
 exact⟨rfl,bA.trans ((un HB).mono (by simp))⟩
end Go.Proofs.YtliadckofhblnaaGreatDoor
namespace Go.Proofs.YtliadckofhblnaaGreatDoor.Nm
open Go.RowKit
theorem zAb {p:Prop} (h:p):Hid p:=h
theorem un {p:Prop} (h:Hid p):p:=h
def foldR (r:Int):Int:=if r=181 then 956 else if r=8486 then 937 else if r=8491 then 197 else if r=8490 then 75 else if r=8242 then 39 else if r=8217 then 39 else if r=8243 then 34 else r
def zBk (r:Int):Prop:=r=95∨r=197∨r=198∨r=216∨r=229∨r=230∨r=248∨(r≠930∧((65≤r∧r≤90)∨(97≤r∧r≤122)∨(913≤r∧r≤937)∨(945≤r∧r≤969)))
def zFf (r:Int):Prop:=r=8304∨r=185∨r=178∨r=179∨r=8308∨r=8309∨r=8310∨r=8311∨r=8312∨r=8313∨r=8314∨r=8315
def signP (r:Int):Prop:=r=37∨r=39∨r=34∨r=176∨r=8240∨r=8451∨r=8457
instance (r:Int):Decidable (zBk r):=by unfold zBk;infer_instance
instance (r:Int):Decidable (zFf r):=by unfold zFf;infer_instance
instance (r:Int):Decidable (signP r):=by unfold signP;infer_instance
def classF (r:Int):Int:=if zBk r then 1 else if 48≤r∧r≤57 then 2 else if zFf r then 3 else if signP r then 4 else 0
def zCj (r:Int):Int:=classF (foldR r)
theorem folded_any (r:Int) (w:World):Calls Tryz.prog 363 #[.int .i32 r] w fun e w'=>e=.returned (.int .i32 (foldR r))∧w'=w:=by
 by_cases h181:r=181
 ·subst h181
  go_enter Tryz.func363,Tryz.ntmps363
  go_wp2
  go_ret
  exact⟨rfl,rfl⟩
 by_cases h8486:r=8486
 ·subst h8486
  go_enter Tryz.func363,Tryz.ntmps363
  go_wp2
  go_ret
  exact⟨rfl,rfl⟩
 by_cases h8491:r=8491
 ·subst h8491
  go_enter Tryz.func363,Tryz.ntmps363
  go_wp2
  go_ret
  exact⟨rfl,rfl⟩
 by_cases h8490:r=8490
 ·subst h8490
  go_enter Tryz.func363,Tryz.ntmps363
  go_wp2
  go_ret
  exact⟨rfl,rfl⟩
 by_cases h8242:r=8242
 ·subst h8242
  go_enter Tryz.func363,Tryz.ntmps363
  go_wp2
  go_ret
  exact⟨rfl,rfl⟩
 by_cases h8217:r=8217
 ·subst h8217
  go_enter Tryz.func363,Tryz.ntmps363
  go_wp2
  go_ret
  exact⟨rfl,rfl⟩
 by_cases h8243:r=8243
 ·subst h8243
  go_enter Tryz.func363,Tryz.ntmps363
  go_wp2
  go_ret
  exact⟨rfl,rfl⟩
 have hf:foldR r=r:=by unfold foldR;rw[if_neg h181,if_neg h8486,if_neg h8491,if_neg h8490,if_neg h8242,if_neg h8217,if_neg h8243]
 rw[hf];clear hf;have e181:(r == 181)=false:=by rw[beq_eq_false_iff_ne];exact h181
 have e8486:(r == 8486)=false:=by rw[beq_eq_false_iff_ne];exact h8486
 have e8491:(r == 8491)=false:=by rw[beq_eq_false_iff_ne];exact h8491
 have e8490:(r == 8490)=false:=by rw[beq_eq_false_iff_ne];exact h8490
 have e8242:(r == 8242)=false:=by rw[beq_eq_false_iff_ne];exact h8242
 have e8217:(r == 8217)=false:=by rw[beq_eq_false_iff_ne];exact h8217
 have e8243:(r == 8243)=false:=by rw[beq_eq_false_iff_ne];exact h8243
 clear h181 h8486 h8491 h8490 h8242 h8217 h8243;go_enter Tryz.func363,Tryz.ntmps363
 go_wp2
 go_ret
 exact⟨rfl,rfl⟩
theorem isLetter_any (r:Int) (w:World):Calls Tryz.prog 373 #[.int .i32 r] w fun e w'=>e=.returned (.bool (decide (zBk r)))∧w'=w:=by
 by_cases h95:r=95
 ·subst h95
  go_enter Tryz.func373,Tryz.ntmps373
  go_wp2
  go_ret
  exact⟨by rfl,rfl⟩
 by_cases h197:r=197
 ·subst h197
  go_enter Tryz.func373,Tryz.ntmps373
  go_wp2
  go_ret
  exact⟨by rfl,rfl⟩
 by_cases h198:r=198
 ·subst h198
  go_enter Tryz.func373,Tryz.ntmps373
  go_wp2
  go_ret
  exact⟨by rfl,rfl⟩
 by_cases h216:r=216
 ·subst h216
  go_enter Tryz.func373,Tryz.ntmps373
  go_wp2
  go_ret
  exact⟨by rfl,rfl⟩
 by_cases h229:r=229
 ·subst h229
  go_enter Tryz.func373,Tryz.ntmps373
  go_wp2
  go_ret
  exact⟨by rfl,rfl⟩
 by_cases h230:r=230
 ·subst h230
  go_enter Tryz.func373,Tryz.ntmps373
  go_wp2
  go_ret
  exact⟨by rfl,rfl⟩
 by_cases h248:r=248
 ·subst h248
  go_enter Tryz.func373,Tryz.ntmps373
  go_wp2
  go_ret
  exact⟨by rfl,rfl⟩
 by_cases h930:r=930
 ·subst h930
  go_enter Tryz.func373,Tryz.ntmps373
  go_wp2
  go_ret
  exact⟨by rfl,rfl⟩
 have e95:(r == 95)=false:=by rw[beq_eq_false_iff_ne];exact h95
 have e197:(r == 197)=false:=by rw[beq_eq_false_iff_ne];exact h197
 have e198:(r == 198)=false:=by rw[beq_eq_false_iff_ne];exact h198
 have e216:(r == 216)=false:=by rw[beq_eq_false_iff_ne];exact h216
 have e229:(r == 229)=false:=by rw[beq_eq_false_iff_ne];exact h229
 have e230:(r == 230)=false:=by rw[beq_eq_false_iff_ne];exact h230
 have e248:(r == 248)=false:=by rw[beq_eq_false_iff_ne];exact h248
 have e930:(r == 930)=false:=by rw[beq_eq_false_iff_ne];exact h930
 rcases(by omega:r≤64∨(65≤r∧r≤90)∨(91≤r∧r≤96)∨(97≤r∧r≤122)∨(123≤r∧r≤912)∨(913≤r∧r≤937)∨(938≤r∧r≤944)∨(945≤r∧r≤969)∨970≤r)with hi|⟨hi,hj⟩|⟨hi,hj⟩|⟨hi,hj⟩|⟨hi,hj⟩|⟨hi,hj⟩|⟨hi,hj⟩|⟨hi,hj⟩|hi
 ·have hv:decide (zBk r)=false:=by rw[decide_eq_false_iff_not];unfold zBk;omega
  rw[hv];clear hv h95 h197 h198 h216 h229 h230 h248 h930;go_enter Tryz.func373,Tryz.ntmps373
  go_wp2
  go_ret
  exact⟨rfl,rfl⟩
 ·have hv:decide (zBk r)=true:=by rw[decide_eq_true_iff];unfold zBk;omega
  rw[hv];clear hv h95 h197 h198 h216 h229 h230 h248 h930;go_enter Tryz.func373,Tryz.ntmps373
  go_wp2
  go_ret
  exact⟨rfl,rfl⟩
 ·have hv:decide (zBk r)=false:=by rw[decide_eq_false_iff_not];unfold zBk;omega
  rw[hv];have d90:decide (r≤90)=false:=by rw[decide_eq_false_iff_not];omega
  clear hv h95 h197 h198 h216 h229 h230 h248 h930;go_enter Tryz.func373,Tryz.ntmps373
  go_wp2
  go_ret
  exact⟨rfl,rfl⟩
 ·have hv:decide (zBk r)=true:=by rw[decide_eq_true_iff];unfold zBk;omega
  rw[hv];have d90:decide (r≤90)=false:=by rw[decide_eq_false_iff_not];omega
  clear hv h95 h197 h198 h216 h229 h230 h248 h930;go_enter Tryz.func373,Tryz.ntmps373
  go_wp2
  go_ret
  exact⟨rfl,rfl⟩
 ·have hv:decide (zBk r)=false:=by rw[decide_eq_false_iff_not];unfold zBk;omega
  rw[hv];have d90:decide (r≤90)=false:=by rw[decide_eq_false_iff_not];omega
  have d122:decide (r≤122)=false:=by rw[decide_eq_false_iff_not];omega
  clear hv h95 h197 h198 h216 h229 h230 h248 h930;go_enter Tryz.func373,Tryz.ntmps373
  go_wp2
  go_ret
  exact⟨rfl,rfl⟩
 ·have hv:decide (zBk r)=true:=by rw[decide_eq_true_iff];unfold zBk;omega
  rw[hv];have d90:decide (r≤90)=false:=by rw[decide_eq_false_iff_not];omega
  have d122:decide (r≤122)=false:=by rw[decide_eq_false_iff_not];omega
  clear hv h95 h197 h198 h216 h229 h230 h248 h930;go_enter Tryz.func373,Tryz.ntmps373
  go_wp2
  go_ret
  exact⟨rfl,rfl⟩
 ·have hv:decide (zBk r)=false:=by rw[decide_eq_false_iff_not];unfold zBk;omega
  rw[hv];have d90:decide (r≤90)=false:=by rw[decide_eq_false_iff_not];omega
  have d122:decide (r≤122)=false:=by rw[decide_eq_false_iff_not];omega
  have d937:decide (r≤937)=false:=by rw[decide_eq_false_iff_not];omega
  clear hv h95 h197 h198 h216 h229 h230 h248 h930;go_enter Tryz.func373,Tryz.ntmps373
  go_wp2
  go_ret
  exact⟨rfl,rfl⟩
 ·have hv:decide (zBk r)=true:=by rw[decide_eq_true_iff];unfold zBk;omega
  rw[hv];have d90:decide (r≤90)=false:=by rw[decide_eq_false_iff_not];omega
  have d122:decide (r≤122)=false:=by rw[decide_eq_false_iff_not];omega
  have d937:decide (r≤937)=false:=by rw[decide_eq_false_iff_not];omega
  clear hv h95 h197 h198 h216 h229 h230 h248 h930;go_enter Tryz.func373,Tryz.ntmps373
  go_wp2
  go_ret
  exact⟨rfl,rfl⟩
 ·have hv:decide (zBk r)=false:=by rw[decide_eq_false_iff_not];unfold zBk;omega
  rw[hv];have d90:decide (r≤90)=false:=by rw[decide_eq_false_iff_not];omega
  have d122:decide (r≤122)=false:=by rw[decide_eq_false_iff_not];omega
  have d937:decide (r≤937)=false:=by rw[decide_eq_false_iff_not];omega
  have d969:decide (r≤969)=false:=by rw[decide_eq_false_iff_not];omega
  clear hv h95 h197 h198 h216 h229 h230 h248 h930;go_enter Tryz.func373,Tryz.ntmps373
  go_wp2
  go_ret
  exact⟨rfl,rfl⟩
theorem isSign_any (r:Int) (w:World):Calls Tryz.prog 375 #[.int .i32 r] w fun e w'=>e=.returned (.bool (decide (signP r)))∧w'=w:=by
 by_cases h37:r=37
 ·subst h37
  go_enter Tryz.func375,Tryz.ntmps375
  go_wp2
  go_ret
  exact⟨by rfl,rfl⟩
 by_cases h39:r=39
 ·subst h39
  go_enter Tryz.func375,Tryz.ntmps375
  go_wp2
  go_ret
  exact⟨by rfl,rfl⟩
 by_cases h34:r=34
 ·subst h34
  go_enter Tryz.func375,Tryz.ntmps375
  go_wp2
  go_ret
  exact⟨by rfl,rfl⟩
 by_cases h176:r=176
 ·subst h176
  go_enter Tryz.func375,Tryz.ntmps375
  go_wp2
  go_ret
  exact⟨by rfl,rfl⟩
 by_cases h8240:r=8240
 ·subst h8240
  go_enter Tryz.func375,Tryz.ntmps375
  go_wp2
  go_ret
  exact⟨by rfl,rfl⟩
 by_cases h8451:r=8451
 ·subst h8451
  go_enter Tryz.func375,Tryz.ntmps375
  go_wp2
  go_ret
  exact⟨by rfl,rfl⟩
 by_cases h8457:r=8457
 ·subst h8457
  go_enter Tryz.func375,Tryz.ntmps375
  go_wp2
  go_ret
  exact⟨by rfl,rfl⟩
 have hv:decide (signP r)=false:=by rw[decide_eq_false_iff_not];unfold signP;omega
 rw[hv];have e37:(r == 37)=false:=by rw[beq_eq_false_iff_ne];exact h37
 have e39:(r == 39)=false:=by rw[beq_eq_false_iff_ne];exact h39
 have e34:(r == 34)=false:=by rw[beq_eq_false_iff_ne];exact h34
 have e176:(r == 176)=false:=by rw[beq_eq_false_iff_ne];exact h176
 have e8240:(r == 8240)=false:=by rw[beq_eq_false_iff_ne];exact h8240
 have e8451:(r == 8451)=false:=by rw[beq_eq_false_iff_ne];exact h8451
 have e8457:(r == 8457)=false:=by rw[beq_eq_false_iff_ne];exact h8457
 clear hv h37 h39 h34 h176 h8240 h8451 h8457;go_enter Tryz.func375,Tryz.ntmps375
 go_wp2
 go_ret
 exact⟨rfl,rfl⟩
theorem zAh (d:Nat) (hd:d<10) (w:World):Calls Tryz.prog 378 #[.int .i64 (d:Int)] w fun e w'=>e=.returned (.int .i32 (([8304,185,178,179,8308,8309,8310,8311,8312,8313]:List Int).getD d 0))∧w'=w:=by
 rcases(by omega:d=0∨d=1∨d=2∨d=3∨d=4∨d=5∨d=6∨d=7∨d=8∨d=9)with rfl|rfl|rfl|rfl|rfl|rfl|rfl|rfl|rfl|rfl
 all_goals
  go_enter Tryz.func378,Tryz.ntmps378
  go_wp2
  go_ret
  exact⟨rfl,rfl⟩
theorem lowered_no (r:Int) (w:World) (h:r≠8304∧r≠185∧r≠178∧r≠179∧r≠8308∧r≠8309∧r≠8310∧r≠8311∧r≠8312∧r≠8313):Calls Tryz.prog 377 #[.int .i32 r] w fun e w'=>e=.returned (.tuple #[.int .i64 0,.bool false])∧w'=w:=by
 have e0:((8304:Int) == r)=false:=by rw[beq_eq_false_iff_ne];omega
 have e1:((185:Int) == r)=false:=by rw[beq_eq_false_iff_ne];omega
 have e2:((178:Int) == r)=false:=by rw[beq_eq_false_iff_ne];omega
 have e3:((179:Int) == r)=false:=by rw[beq_eq_false_iff_ne];omega
 have e4:((8308:Int) == r)=false:=by rw[beq_eq_false_iff_ne];omega
 have e5:((8309:Int) == r)=false:=by rw[beq_eq_false_iff_ne];omega
 have e6:((8310:Int) == r)=false:=by rw[beq_eq_false_iff_ne];omega
 have e7:((8311:Int) == r)=false:=by rw[beq_eq_false_iff_ne];omega
 have e8:((8312:Int) == r)=false:=by rw[beq_eq_false_iff_ne];omega
 have e9:((8313:Int) == r)=false:=by rw[beq_eq_false_iff_ne];omega
 have c0:Hid (∀w,Calls Tryz.prog 378 #[.int .i64 0] w fun e w'=>e=.returned (.int .i32 8304)∧w'=w):=fun w=>zAh 0 (by omega) w
 have c1:Hid (∀w,Calls Tryz.prog 378 #[.int .i64 1] w fun e w'=>e=.returned (.int .i32 185)∧w'=w):=fun w=>zAh 1 (by omega) w
 have c2:Hid (∀w,Calls Tryz.prog 378 #[.int .i64 2] w fun e w'=>e=.returned (.int .i32 178)∧w'=w):=fun w=>zAh 2 (by omega) w
 have c3:Hid (∀w,Calls Tryz.prog 378 #[.int .i64 3] w fun e w'=>e=.returned (.int .i32 179)∧w'=w):=fun w=>zAh 3 (by omega) w
 have c4:Hid (∀w,Calls Tryz.prog 378 #[.int .i64 4] w fun e w'=>e=.returned (.int .i32 8308)∧w'=w):=fun w=>zAh 4 (by omega) w
 have c5:Hid (∀w,Calls Tryz.prog 378 #[.int .i64 5] w fun e w'=>e=.returned (.int .i32 8309)∧w'=w):=fun w=>zAh 5 (by omega) w
 have c6:Hid (∀w,Calls Tryz.prog 378 #[.int .i64 6] w fun e w'=>e=.returned (.int .i32 8310)∧w'=w):=fun w=>zAh 6 (by omega) w
 have c7:Hid (∀w,Calls Tryz.prog 378 #[.int .i64 7] w fun e w'=>e=.returned (.int .i32 8311)∧w'=w):=fun w=>zAh 7 (by omega) w
 have c8:Hid (∀w,Calls Tryz.prog 378 #[.int .i64 8] w fun e w'=>e=.returned (.int .i32 8312)∧w'=w):=fun w=>zAh 8 (by omega) w
 have c9:Hid (∀w,Calls Tryz.prog 378 #[.int .i64 9] w fun e w'=>e=.returned (.int .i32 8313)∧w'=w):=fun w=>zAh 9 (by omega) w
 clear h
 go_enter Tryz.func377,Tryz.ntmps377
 go_wp2
 refine wp_loop_rounds 11 ?_
 repeat any_goals (rw[rounds_succ];go_wp2_with (first
  |  (go_at_call_of 378 (Value.int .i64 0);refine(un c0 _).mono ?_;rintro e w' ⟨rfl,rfl⟩)
  |  (go_at_call_of 378 (Value.int .i64 1);refine(un c1 _).mono ?_;rintro e w' ⟨rfl,rfl⟩)
  |  (go_at_call_of 378 (Value.int .i64 2);refine(un c2 _).mono ?_;rintro e w' ⟨rfl,rfl⟩)
  |  (go_at_call_of 378 (Value.int .i64 3);refine(un c3 _).mono ?_;rintro e w' ⟨rfl,rfl⟩)
  |  (go_at_call_of 378 (Value.int .i64 4);refine(un c4 _).mono ?_;rintro e w' ⟨rfl,rfl⟩)
  |  (go_at_call_of 378 (Value.int .i64 5);refine(un c5 _).mono ?_;rintro e w' ⟨rfl,rfl⟩)
  |  (go_at_call_of 378 (Value.int .i64 6);refine(un c6 _).mono ?_;rintro e w' ⟨rfl,rfl⟩)
  |  (go_at_call_of 378 (Value.int .i64 7);refine(un c7 _).mono ?_;rintro e w' ⟨rfl,rfl⟩)
  |  (go_at_call_of 378 (Value.int .i64 8);refine(un c8 _).mono ?_;rintro e w' ⟨rfl,rfl⟩)
  |  (go_at_call_of 378 (Value.int .i64 9);refine(un c9 _).mono ?_;rintro e w' ⟨rfl,rfl⟩)))
 go_ret2
 exact⟨rfl,rfl⟩
theorem lowered_0 (w:World):Calls Tryz.prog 377 #[.int .i32 8304] w fun e w'=>e=.returned (.tuple #[.int .i64 0,.bool true])∧w'=w:=by
 have c0:Hid (∀w,Calls Tryz.prog 378 #[.int .i64 0] w fun e w'=>e=.returned (.int .i32 8304)∧w'=w):=fun w=>zAh 0 (by omega) w
 go_enter Tryz.func377,Tryz.ntmps377
 go_wp2
 refine wp_loop_rounds 1 ?_
 repeat any_goals (rw[rounds_succ];go_wp2_with (first
  | (go_at_call_of 378 (Value.int .i64 0);refine(un c0 _).mono ?_;rintro e w' ⟨rfl,rfl⟩)))
 go_ret2
 exact⟨rfl,rfl⟩
theorem lowered_1 (w:World):Calls Tryz.prog 377 #[.int .i32 185] w fun e w'=>e=.returned (.tuple #[.int .i64 1,.bool true])∧w'=w:=by
 have c0:Hid (∀w,Calls Tryz.prog 378 #[.int .i64 0] w fun e w'=>e=.returned (.int .i32 8304)∧w'=w):=fun w=>zAh 0 (by omega) w
 have c1:Hid (∀w,Calls Tryz.prog 378 #[.int .i64 1] w fun e w'=>e=.returned (.int .i32 185)∧w'=w):=fun w=>zAh 1 (by omega) w
 go_enter Tryz.func377,Tryz.ntmps377
 go_wp2
 refine wp_loop_rounds 2 ?_
 repeat any_goals (rw[rounds_succ];go_wp2_with (first
  | (go_at_call_of 378 (Value.int .i64 0);refine(un c0 _).mono ?_;rintro e w' ⟨rfl,rfl⟩)
  | (go_at_call_of 378 (Value.int .i64 1);refine(un c1 _).mono ?_;rintro e w' ⟨rfl,rfl⟩)))
 go_ret2
 exact⟨rfl,rfl⟩
theorem lowered_2 (w:World):Calls Tryz.prog 377 #[.int .i32 178] w fun e w'=>e=.returned (.tuple #[.int .i64 2,.bool true])∧w'=w:=by
 have c0:Hid (∀w,Calls Tryz.prog 378 #[.int .i64 0] w fun e w'=>e=.returned (.int .i32 8304)∧w'=w):=fun w=>zAh 0 (by omega) w
 have c1:Hid (∀w,Calls Tryz.prog 378 #[.int .i64 1] w fun e w'=>e=.returned (.int .i32 185)∧w'=w):=fun w=>zAh 1 (by omega) w
 have c2:Hid (∀w,Calls Tryz.prog 378 #[.int .i64 2] w fun e w'=>e=.returned (.int .i32 178)∧w'=w):=fun w=>zAh 2 (by omega) w
 go_enter Tryz.func377,Tryz.ntmps377
 go_wp2
 refine wp_loop_rounds 3 ?_
 repeat any_goals (rw[rounds_succ];go_wp2_with (first
  | (go_at_call_of 378 (Value.int .i64 0);refine(un c0 _).mono ?_;rintro e w' ⟨rfl,rfl⟩)
  | (go_at_call_of 378 (Value.int .i64 1);refine(un c1 _).mono ?_;rintro e w' ⟨rfl,rfl⟩)
  | (go_at_call_of 378 (Value.int .i64 2);refine(un c2 _).mono ?_;rintro e w' ⟨rfl,rfl⟩)))
 go_ret2
 exact⟨rfl,rfl⟩
theorem lowered_3 (w:World):Calls Tryz.prog 377 #[.int .i32 179] w fun e w'=>e=.returned (.tuple #[.int .i64 3,.bool true])∧w'=w:=by
 have c0:Hid (∀w,Calls Tryz.prog 378 #[.int .i64 0] w fun e w'=>e=.returned (.int .i32 8304)∧w'=w):=fun w=>zAh 0 (by omega) w
 have c1:Hid (∀w,Calls Tryz.prog 378 #[.int .i64 1] w fun e w'=>e=.returned (.int .i32 185)∧w'=w):=fun w=>zAh 1 (by omega) w
 have c2:Hid (∀w,Calls Tryz.prog 378 #[.int .i64 2] w fun e w'=>e=.returned (.int .i32 178)∧w'=w):=fun w=>zAh 2 (by omega) w
 have c3:Hid (∀w,Calls Tryz.prog 378 #[.int .i64 3] w fun e w'=>e=.returned (.int .i32 179)∧w'=w):=fun w=>zAh 3 (by omega) w
 go_enter Tryz.func377,Tryz.ntmps377
 go_wp2
 refine wp_loop_rounds 4 ?_
 repeat any_goals (rw[rounds_succ];go_wp2_with (first
  | (go_at_call_of 378 (Value.int .i64 0);refine(un c0 _).mono ?_;rintro e w' ⟨rfl,rfl⟩)
  | (go_at_call_of 378 (Value.int .i64 1);refine(un c1 _).mono ?_;rintro e w' ⟨rfl,rfl⟩)
  | (go_at_call_of 378 (Value.int .i64 2);refine(un c2 _).mono ?_;rintro e w' ⟨rfl,rfl⟩)
  | (go_at_call_of 378 (Value.int .i64 3);refine(un c3 _).mono ?_;rintro e w' ⟨rfl,rfl⟩)))
 go_ret2
 exact⟨rfl,rfl⟩
theorem lowered_4 (w:World):Calls Tryz.prog 377 #[.int .i32 8308] w fun e w'=>e=.returned (.tuple #[.int .i64 4,.bool true])∧w'=w:=by
 have c0:Hid (∀w,Calls Tryz.prog 378 #[.int .i64 0] w fun e w'=>e=.returned (.int .i32 8304)∧w'=w):=fun w=>zAh 0 (by omega) w
 have c1:Hid (∀w,Calls Tryz.prog 378 #[.int .i64 1] w fun e w'=>e=.returned (.int .i32 185)∧w'=w):=fun w=>zAh 1 (by omega) w
 have c2:Hid (∀w,Calls Tryz.prog 378 #[.int .i64 2] w fun e w'=>e=.returned (.int .i32 178)∧w'=w):=fun w=>zAh 2 (by omega) w
 have c3:Hid (∀w,Calls Tryz.prog 378 #[.int .i64 3] w fun e w'=>e=.returned (.int .i32 179)∧w'=w):=fun w=>zAh 3 (by omega) w
 have c4:Hid (∀w,Calls Tryz.prog 378 #[.int .i64 4] w fun e w'=>e=.returned (.int .i32 8308)∧w'=w):=fun w=>zAh 4 (by omega) w
 go_enter Tryz.func377,Tryz.ntmps377
 go_wp2
 refine wp_loop_rounds 5 ?_
 repeat any_goals (rw[rounds_succ];go_wp2_with (first
  | (go_at_call_of 378 (Value.int .i64 0);refine(un c0 _).mono ?_;rintro e w' ⟨rfl,rfl⟩)
  | (go_at_call_of 378 (Value.int .i64 1);refine(un c1 _).mono ?_;rintro e w' ⟨rfl,rfl⟩)
  | (go_at_call_of 378 (Value.int .i64 2);refine(un c2 _).mono ?_;rintro e w' ⟨rfl,rfl⟩)
  | (go_at_call_of 378 (Value.int .i64 3);refine(un c3 _).mono ?_;rintro e w' ⟨rfl,rfl⟩)
  | (go_at_call_of 378 (Value.int .i64 4);refine(un c4 _).mono ?_;rintro e w' ⟨rfl,rfl⟩)))
 go_ret2
 exact⟨rfl,rfl⟩
theorem lowered_5 (w:World):Calls Tryz.prog 377 #[.int .i32 8309] w fun e w'=>e=.returned (.tuple #[.int .i64 5,.bool true])∧w'=w:=by
 have c0:Hid (∀w,Calls Tryz.prog 378 #[.int .i64 0] w fun e w'=>e=.returned (.int .i32 8304)∧w'=w):=fun w=>zAh 0 (by omega) w
 have c1:Hid (∀w,Calls Tryz.prog 378 #[.int .i64 1] w fun e w'=>e=.returned (.int .i32 185)∧w'=w):=fun w=>zAh 1 (by omega) w
 have c2:Hid (∀w,Calls Tryz.prog 378 #[.int .i64 2] w fun e w'=>e=.returned (.int .i32 178)∧w'=w):=fun w=>zAh 2 (by omega) w
 have c3:Hid (∀w,Calls Tryz.prog 378 #[.int .i64 3] w fun e w'=>e=.returned (.int .i32 179)∧w'=w):=fun w=>zAh 3 (by omega) w
 have c4:Hid (∀w,Calls Tryz.prog 378 #[.int .i64 4] w fun e w'=>e=.returned (.int .i32 8308)∧w'=w):=fun w=>zAh 4 (by omega) w
 have c5:Hid (∀w,Calls Tryz.prog 378 #[.int .i64 5] w fun e w'=>e=.returned (.int .i32 8309)∧w'=w):=fun w=>zAh 5 (by omega) w
 go_enter Tryz.func377,Tryz.ntmps377
 go_wp2
 refine wp_loop_rounds 6 ?_
 repeat any_goals (rw[rounds_succ];go_wp2_with (first
  | (go_at_call_of 378 (Value.int .i64 0);refine(un c0 _).mono ?_;rintro e w' ⟨rfl,rfl⟩)
  | (go_at_call_of 378 (Value.int .i64 1);refine(un c1 _).mono ?_;rintro e w' ⟨rfl,rfl⟩)
  | (go_at_call_of 378 (Value.int .i64 2);refine(un c2 _).mono ?_;rintro e w' ⟨rfl,rfl⟩)
  | (go_at_call_of 378 (Value.int .i64 3);refine(un c3 _).mono ?_;rintro e w' ⟨rfl,rfl⟩)
  | (go_at_call_of 378 (Value.int .i64 4);refine(un c4 _).mono ?_;rintro e w' ⟨rfl,rfl⟩)
  | (go_at_call_of 378 (Value.int .i64 5);refine(un c5 _).mono ?_;rintro e w' ⟨rfl,rfl⟩)))
 go_ret2
 exact⟨rfl,rfl⟩
theorem lowered_6 (w:World):Calls Tryz.prog 377 #[.int .i32 8310] w fun e w'=>e=.returned (.tuple #[.int .i64 6,.bool true])∧w'=w:=by
 have c0:Hid (∀w,Calls Tryz.prog 378 #[.int .i64 0] w fun e w'=>e=.returned (.int .i32 8304)∧w'=w):=fun w=>zAh 0 (by omega) w
 have c1:Hid (∀w,Calls Tryz.prog 378 #[.int .i64 1] w fun e w'=>e=.returned (.int .i32 185)∧w'=w):=fun w=>zAh 1 (by omega) w
 have c2:Hid (∀w,Calls Tryz.prog 378 #[.int .i64 2] w fun e w'=>e=.returned (.int .i32 178)∧w'=w):=fun w=>zAh 2 (by omega) w
 have c3:Hid (∀w,Calls Tryz.prog 378 #[.int .i64 3] w fun e w'=>e=.returned (.int .i32 179)∧w'=w):=fun w=>zAh 3 (by omega) w
 have c4:Hid (∀w,Calls Tryz.prog 378 #[.int .i64 4] w fun e w'=>e=.returned (.int .i32 8308)∧w'=w):=fun w=>zAh 4 (by omega) w
 have c5:Hid (∀w,Calls Tryz.prog 378 #[.int .i64 5] w fun e w'=>e=.returned (.int .i32 8309)∧w'=w):=fun w=>zAh 5 (by omega) w
 have c6:Hid (∀w,Calls Tryz.prog 378 #[.int .i64 6] w fun e w'=>e=.returned (.int .i32 8310)∧w'=w):=fun w=>zAh 6 (by omega) w
 go_enter Tryz.func377,Tryz.ntmps377
 go_wp2
 refine wp_loop_rounds 7 ?_
 repeat any_goals (rw[rounds_succ];go_wp2_with (first
  | (go_at_call_of 378 (Value.int .i64 0);refine(un c0 _).mono ?_;rintro e w' ⟨rfl,rfl⟩)
  | (go_at_call_of 378 (Value.int .i64 1);refine(un c1 _).mono ?_;rintro e w' ⟨rfl,rfl⟩)
  | (go_at_call_of 378 (Value.int .i64 2);refine(un c2 _).mono ?_;rintro e w' ⟨rfl,rfl⟩)
  | (go_at_call_of 378 (Value.int .i64 3);refine(un c3 _).mono ?_;rintro e w' ⟨rfl,rfl⟩)
  | (go_at_call_of 378 (Value.int .i64 4);refine(un c4 _).mono ?_;rintro e w' ⟨rfl,rfl⟩)
  | (go_at_call_of 378 (Value.int .i64 5);refine(un c5 _).mono ?_;rintro e w' ⟨rfl,rfl⟩)
  | (go_at_call_of 378 (Value.int .i64 6);refine(un c6 _).mono ?_;rintro e w' ⟨rfl,rfl⟩)))
 go_ret2
 exact⟨rfl,rfl⟩
theorem lowered_7 (w:World):Calls Tryz.prog 377 #[.int .i32 8311] w fun e w'=>e=.returned (.tuple #[.int .i64 7,.bool true])∧w'=w:=by
 have c0:Hid (∀w,Calls Tryz.prog 378 #[.int .i64 0] w fun e w'=>e=.returned (.int .i32 8304)∧w'=w):=fun w=>zAh 0 (by omega) w
 have c1:Hid (∀w,Calls Tryz.prog 378 #[.int .i64 1] w fun e w'=>e=.returned (.int .i32 185)∧w'=w):=fun w=>zAh 1 (by omega) w
 have c2:Hid (∀w,Calls Tryz.prog 378 #[.int .i64 2] w fun e w'=>e=.returned (.int .i32 178)∧w'=w):=fun w=>zAh 2 (by omega) w
 have c3:Hid (∀w,Calls Tryz.prog 378 #[.int .i64 3] w fun e w'=>e=.returned (.int .i32 179)∧w'=w):=fun w=>zAh 3 (by omega) w
 have c4:Hid (∀w,Calls Tryz.prog 378 #[.int .i64 4] w fun e w'=>e=.returned (.int .i32 8308)∧w'=w):=fun w=>zAh 4 (by omega) w
 have c5:Hid (∀w,Calls Tryz.prog 378 #[.int .i64 5] w fun e w'=>e=.returned (.int .i32 8309)∧w'=w):=fun w=>zAh 5 (by omega) w
 have c6:Hid (∀w,Calls Tryz.prog 378 #[.int .i64 6] w fun e w'=>e=.returned (.int .i32 8310)∧w'=w):=fun w=>zAh 6 (by omega) w
 have c7:Hid (∀w,Calls Tryz.prog 378 #[.int .i64 7] w fun e w'=>e=.returned (.int .i32 8311)∧w'=w):=fun w=>zAh 7 (by omega) w
 go_enter Tryz.func377,Tryz.ntmps377
 go_wp2
 refine wp_loop_rounds 8 ?_
 repeat any_goals (rw[rounds_succ];go_wp2_with (first
  | (go_at_call_of 378 (Value.int .i64 0);refine(un c0 _).mono ?_;rintro e w' ⟨rfl,rfl⟩)
  | (go_at_call_of 378 (Value.int .i64 1);refine(un c1 _).mono ?_;rintro e w' ⟨rfl,rfl⟩)
  | (go_at_call_of 378 (Value.int .i64 2);refine(un c2 _).mono ?_;rintro e w' ⟨rfl,rfl⟩)
  | (go_at_call_of 378 (Value.int .i64 3);refine(un c3 _).mono ?_;rintro e w' ⟨rfl,rfl⟩)
  | (go_at_call_of 378 (Value.int .i64 4);refine(un c4 _).mono ?_;rintro e w' ⟨rfl,rfl⟩)
  | (go_at_call_of 378 (Value.int .i64 5);refine(un c5 _).mono ?_;rintro e w' ⟨rfl,rfl⟩)
  | (go_at_call_of 378 (Value.int .i64 6);refine(un c6 _).mono ?_;rintro e w' ⟨rfl,rfl⟩)
  | (go_at_call_of 378 (Value.int .i64 7);refine(un c7 _).mono ?_;rintro e w' ⟨rfl,rfl⟩)))
 go_ret2
 exact⟨rfl,rfl⟩
theorem lowered_8 (w:World):Calls Tryz.prog 377 #[.int .i32 8312] w fun e w'=>e=.returned (.tuple #[.int .i64 8,.bool true])∧w'=w:=by
 have c0:Hid (∀w,Calls Tryz.prog 378 #[.int .i64 0] w fun e w'=>e=.returned (.int .i32 8304)∧w'=w):=fun w=>zAh 0 (by omega) w
 have c1:Hid (∀w,Calls Tryz.prog 378 #[.int .i64 1] w fun e w'=>e=.returned (.int .i32 185)∧w'=w):=fun w=>zAh 1 (by omega) w
 have c2:Hid (∀w,Calls Tryz.prog 378 #[.int .i64 2] w fun e w'=>e=.returned (.int .i32 178)∧w'=w):=fun w=>zAh 2 (by omega) w
 have c3:Hid (∀w,Calls Tryz.prog 378 #[.int .i64 3] w fun e w'=>e=.returned (.int .i32 179)∧w'=w):=fun w=>zAh 3 (by omega) w
 have c4:Hid (∀w,Calls Tryz.prog 378 #[.int .i64 4] w fun e w'=>e=.returned (.int .i32 8308)∧w'=w):=fun w=>zAh 4 (by omega) w
 have c5:Hid (∀w,Calls Tryz.prog 378 #[.int .i64 5] w fun e w'=>e=.returned (.int .i32 8309)∧w'=w):=fun w=>zAh 5 (by omega) w
 have c6:Hid (∀w,Calls Tryz.prog 378 #[.int .i64 6] w fun e w'=>e=.returned (.int .i32 8310)∧w'=w):=fun w=>zAh 6 (by omega) w
 have c7:Hid (∀w,Calls Tryz.prog 378 #[.int .i64 7] w fun e w'=>e=.returned (.int .i32 8311)∧w'=w):=fun w=>zAh 7 (by omega) w
 have c8:Hid (∀w,Calls Tryz.prog 378 #[.int .i64 8] w fun e w'=>e=.returned (.int .i32 8312)∧w'=w):=fun w=>zAh 8 (by omega) w
 go_enter Tryz.func377,Tryz.ntmps377
 go_wp2
 refine wp_loop_rounds 9 ?_
 repeat any_goals (rw[rounds_succ];go_wp2_with (first
  | (go_at_call_of 378 (Value.int .i64 0);refine(un c0 _).mono ?_;rintro e w' ⟨rfl,rfl⟩)
  | (go_at_call_of 378 (Value.int .i64 1);refine(un c1 _).mono ?_;rintro e w' ⟨rfl,rfl⟩)
  | (go_at_call_of 378 (Value.int .i64 2);refine(un c2 _).mono ?_;rintro e w' ⟨rfl,rfl⟩)
  | (go_at_call_of 378 (Value.int .i64 3);refine(un c3 _).mono ?_;rintro e w' ⟨rfl,rfl⟩)
  | (go_at_call_of 378 (Value.int .i64 4);refine(un c4 _).mono ?_;rintro e w' ⟨rfl,rfl⟩)
  | (go_at_call_of 378 (Value.int .i64 5);refine(un c5 _).mono ?_;rintro e w' ⟨rfl,rfl⟩)
  | (go_at_call_of 378 (Value.int .i64 6);refine(un c6 _).mono ?_;rintro e w' ⟨rfl,rfl⟩)
  | (go_at_call_of 378 (Value.int .i64 7);refine(un c7 _).mono ?_;rintro e w' ⟨rfl,rfl⟩)
  | (go_at_call_of 378 (Value.int .i64 8);refine(un c8 _).mono ?_;rintro e w' ⟨rfl,rfl⟩)))
 go_ret2
 exact⟨rfl,rfl⟩
theorem lowered_9 (w:World):Calls Tryz.prog 377 #[.int .i32 8313] w fun e w'=>e=.returned (.tuple #[.int .i64 9,.bool true])∧w'=w:=by
 have c0:Hid (∀w,Calls Tryz.prog 378 #[.int .i64 0] w fun e w'=>e=.returned (.int .i32 8304)∧w'=w):=fun w=>zAh 0 (by omega) w
 have c1:Hid (∀w,Calls Tryz.prog 378 #[.int .i64 1] w fun e w'=>e=.returned (.int .i32 185)∧w'=w):=fun w=>zAh 1 (by omega) w
 have c2:Hid (∀w,Calls Tryz.prog 378 #[.int .i64 2] w fun e w'=>e=.returned (.int .i32 178)∧w'=w):=fun w=>zAh 2 (by omega) w
 have c3:Hid (∀w,Calls Tryz.prog 378 #[.int .i64 3] w fun e w'=>e=.returned (.int .i32 179)∧w'=w):=fun w=>zAh 3 (by omega) w
 have c4:Hid (∀w,Calls Tryz.prog 378 #[.int .i64 4] w fun e w'=>e=.returned (.int .i32 8308)∧w'=w):=fun w=>zAh 4 (by omega) w
 have c5:Hid (∀w,Calls Tryz.prog 378 #[.int .i64 5] w fun e w'=>e=.returned (.int .i32 8309)∧w'=w):=fun w=>zAh 5 (by omega) w
 have c6:Hid (∀w,Calls Tryz.prog 378 #[.int .i64 6] w fun e w'=>e=.returned (.int .i32 8310)∧w'=w):=fun w=>zAh 6 (by omega) w
 have c7:Hid (∀w,Calls Tryz.prog 378 #[.int .i64 7] w fun e w'=>e=.returned (.int .i32 8311)∧w'=w):=fun w=>zAh 7 (by omega) w
 have c8:Hid (∀w,Calls Tryz.prog 378 #[.int .i64 8] w fun e w'=>e=.returned (.int .i32 8312)∧w'=w):=fun w=>zAh 8 (by omega) w
 have c9:Hid (∀w,Calls Tryz.prog 378 #[.int .i64 9] w fun e w'=>e=.returned (.int .i32 8313)∧w'=w):=fun w=>zAh 9 (by omega) w
 go_enter Tryz.func377,Tryz.ntmps377
 go_wp2
 refine wp_loop_rounds 10 ?_
 repeat any_goals (rw[rounds_succ];go_wp2_with (first
  | (go_at_call_of 378 (Value.int .i64 0);refine(un c0 _).mono ?_;rintro e w' ⟨rfl,rfl⟩)
  | (go_at_call_of 378 (Value.int .i64 1);refine(un c1 _).mono ?_;rintro e w' ⟨rfl,rfl⟩)
  | (go_at_call_of 378 (Value.int .i64 2);refine(un c2 _).mono ?_;rintro e w' ⟨rfl,rfl⟩)
  | (go_at_call_of 378 (Value.int .i64 3);refine(un c3 _).mono ?_;rintro e w' ⟨rfl,rfl⟩)
  | (go_at_call_of 378 (Value.int .i64 4);refine(un c4 _).mono ?_;rintro e w' ⟨rfl,rfl⟩)
  | (go_at_call_of 378 (Value.int .i64 5);refine(un c5 _).mono ?_;rintro e w' ⟨rfl,rfl⟩)
  | (go_at_call_of 378 (Value.int .i64 6);refine(un c6 _).mono ?_;rintro e w' ⟨rfl,rfl⟩)
  | (go_at_call_of 378 (Value.int .i64 7);refine(un c7 _).mono ?_;rintro e w' ⟨rfl,rfl⟩)
  | (go_at_call_of 378 (Value.int .i64 8);refine(un c8 _).mono ?_;rintro e w' ⟨rfl,rfl⟩)
  | (go_at_call_of 378 (Value.int .i64 9);refine(un c9 _).mono ?_;rintro e w' ⟨rfl,rfl⟩)))
 go_ret2
 exact⟨rfl,rfl⟩
end Go.Proofs.YtliadckofhblnaaGreatDoor.Nm

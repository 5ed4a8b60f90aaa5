/- names.isRaised, Class, begins, goesOn; the document's own Class. -/
import Derived.Test.YtamoadanapmmeaaGreatDoorNmRight
import Derived.Handy
import Derived.WalkSmall
import Derived.Deep.Cut
import Derived.Deep.RegionWith
import Derived.Test.YtamoadanapmmeaaGreatDoorLimb3
namespace Go.Proofs.YtamoadanapmmeaaGreatDoor.Nm
open Go.RowKit
def foldR (r:Int):Int:=if r=181 then 956 else if r=8486 then 937 else if r=8491 then 197 else if r=8490 then 75 else if r=8242 then 39 else if r=8217 then 39 else if r=8243 then 34 else r
def letterP (r:Int):Prop:=r=95∨r=197∨r=198∨r=216∨r=229∨r=230∨r=248∨(r≠930∧((65≤r∧r≤90)∨(97≤r∧r≤122)∨(913≤r∧r≤937)∨(945≤r∧r≤969)))
def raisedP (r:Int):Prop:=r=8304∨r=185∨r=178∨r=179∨r=8308∨r=8309∨r=8310∨r=8311∨r=8312∨r=8313∨r=8314∨r=8315
def signP (r:Int):Prop:=r=37∨r=39∨r=34∨r=176∨r=8240∨r=8451∨r=8457
instance (r:Int):Decidable (letterP r):=by unfold letterP;infer_instance
instance (r:Int):Decidable (raisedP r):=by unfold raisedP;infer_instance
instance (r:Int):Decidable (signP r):=by unfold signP;infer_instance
def classF (r:Int):Int:=if letterP r then 1 else if 48≤r∧r≤57 then 2 else if raisedP r then 3 else if signP r then 4 else 0
def classOf (r:Int):Int:=classF (foldR r)
set_option maxRecDepth 100000 in
set_option maxHeartbeats 400000 in
theorem folded_any (r:Int) (w:World):Calls Tryz.prog 363 #[.int .i32 r] w fun e w'=>e=.returned (.int .i32 (foldR r))∧w'=w:=by
 by_cases h181:r=181
 ·subst h181
  go_enter Tryz.func363,Tryz.ntmps363
  go_wp2
  go_ret
  exact⟨rfl,rfl⟩
 by_cases h8486:r=8486
 ·subst h8486
  go_enter Tryz.func363,Tryz.ntmps363
  go_wp2
  go_ret
  exact⟨rfl,rfl⟩
 by_cases h8491:r=8491
 ·subst h8491
  go_enter Tryz.func363,Tryz.ntmps363
  go_wp2
  go_ret
  exact⟨rfl,rfl⟩
 by_cases h8490:r=8490
 ·subst h8490
  go_enter Tryz.func363,Tryz.ntmps363
  go_wp2
  go_ret
  exact⟨rfl,rfl⟩
 by_cases h8242:r=8242
 ·subst h8242
  go_enter Tryz.func363,Tryz.ntmps363
  go_wp2
  go_ret
  exact⟨rfl,rfl⟩
 by_cases h8217:r=8217
 ·subst h8217
  go_enter Tryz.func363,Tryz.ntmps363
  go_wp2
  go_ret
  exact⟨rfl,rfl⟩
 by_cases h8243:r=8243
 ·subst h8243
  go_enter Tryz.func363,Tryz.ntmps363
  go_wp2
  go_ret
  exact⟨rfl,rfl⟩
 have hf:foldR r=r:=by unfold foldR;rw[if_neg h181,if_neg h8486,if_neg h8491,if_neg h8490,if_neg h8242,if_neg h8217,if_neg h8243]
 rw[hf]
 clear hf
 have e181:(r == 181)=false:=by rw[beq_eq_false_iff_ne];exact h181
 have e8486:(r == 8486)=false:=by rw[beq_eq_false_iff_ne];exact h8486
 have e8491:(r == 8491)=false:=by rw[beq_eq_false_iff_ne];exact h8491
 have e8490:(r == 8490)=false:=by rw[beq_eq_false_iff_ne];exact h8490
 have e8242:(r == 8242)=false:=by rw[beq_eq_false_iff_ne];exact h8242
 have e8217:(r == 8217)=false:=by rw[beq_eq_false_iff_ne];exact h8217
 have e8243:(r == 8243)=false:=by rw[beq_eq_false_iff_ne];exact h8243
 clear h181 h8486 h8491 h8490 h8242 h8217 h8243
 go_enter Tryz.func363,Tryz.ntmps363
 go_wp2
 go_ret
 exact⟨rfl,rfl⟩
set_option maxRecDepth 100000 in
set_option maxHeartbeats 1000000 in
theorem isLetter_any (r:Int) (w:World):Calls Tryz.prog 373 #[.int .i32 r] w fun e w'=>e=.returned (.bool (decide (letterP r)))∧w'=w:=by
 by_cases h95:r=95
 ·subst h95
  go_enter Tryz.func373,Tryz.ntmps373
  go_wp2
  go_ret
  exact⟨by rfl,rfl⟩
 by_cases h197:r=197
 ·subst h197
  go_enter Tryz.func373,Tryz.ntmps373
  go_wp2
  go_ret
  exact⟨by rfl,rfl⟩
 by_cases h198:r=198
 ·subst h198
  go_enter Tryz.func373,Tryz.ntmps373
  go_wp2
  go_ret
  exact⟨by rfl,rfl⟩
 by_cases h216:r=216
 ·subst h216
  go_enter Tryz.func373,Tryz.ntmps373
  go_wp2
  go_ret
  exact⟨by rfl,rfl⟩
 by_cases h229:r=229
 ·subst h229
  go_enter Tryz.func373,Tryz.ntmps373
  go_wp2
  go_ret
  exact⟨by rfl,rfl⟩
 by_cases h230:r=230
 ·subst h230
  go_enter Tryz.func373,Tryz.ntmps373
  go_wp2
  go_ret
  exact⟨by rfl,rfl⟩
 by_cases h248:r=248
 ·subst h248
  go_enter Tryz.func373,Tryz.ntmps373
  go_wp2
  go_ret
  exact⟨by rfl,rfl⟩
 by_cases h930:r=930
 ·subst h930
  go_enter Tryz.func373,Tryz.ntmps373
  go_wp2
  go_ret
  exact⟨by rfl,rfl⟩
 have e95:(r == 95)=false:=by rw[beq_eq_false_iff_ne];exact h95
 have e197:(r == 197)=false:=by rw[beq_eq_false_iff_ne];exact h197
 have e198:(r == 198)=false:=by rw[beq_eq_false_iff_ne];exact h198
 have e216:(r == 216)=false:=by rw[beq_eq_false_iff_ne];exact h216
 have e229:(r == 229)=false:=by rw[beq_eq_false_iff_ne];exact h229
 have e230:(r == 230)=false:=by rw[beq_eq_false_iff_ne];exact h230
 have e248:(r == 248)=false:=by rw[beq_eq_false_iff_ne];exact h248
 have e930:(r == 930)=false:=by rw[beq_eq_false_iff_ne];exact h930
 rcases(by omega:r≤64∨(65≤r∧r≤90)∨(91≤r∧r≤96)∨(97≤r∧r≤122)∨(123≤r∧r≤912)∨(913≤r∧r≤937)∨(938≤r∧r≤944)∨(945≤r∧r≤969)∨970≤r)with hi|⟨hi,hj⟩|⟨hi,hj⟩|⟨hi,hj⟩|⟨hi,hj⟩|⟨hi,hj⟩|⟨hi,hj⟩|⟨hi,hj⟩|hi
 ·have hv:decide (letterP r)=false:=by rw[decide_eq_false_iff_not];unfold letterP;omega
  rw[hv]
  clear hv h95 h197 h198 h216 h229 h230 h248 h930
  go_enter Tryz.func373,Tryz.ntmps373
  go_wp2
  go_ret
  exact⟨rfl,rfl⟩
 ·have hv:decide (letterP r)=true:=by rw[decide_eq_true_iff];unfold letterP;omega
  rw[hv]
  clear hv h95 h197 h198 h216 h229 h230 h248 h930
  go_enter Tryz.func373,Tryz.ntmps373
  go_wp2
  go_ret
  exact⟨rfl,rfl⟩
 ·have hv:decide (letterP r)=false:=by rw[decide_eq_false_iff_not];unfold letterP;omega
  rw[hv]
  have d90:decide (r≤90)=false:=by rw[decide_eq_false_iff_not];omega
  clear hv h95 h197 h198 h216 h229 h230 h248 h930
  go_enter Tryz.func373,Tryz.ntmps373
  go_wp2
  go_ret
  exact⟨rfl,rfl⟩
 ·have hv:decide (letterP r)=true:=by rw[decide_eq_true_iff];unfold letterP;omega
  rw[hv]
  have d90:decide (r≤90)=false:=by rw[decide_eq_false_iff_not];omega
  clear hv h95 h197 h198 h216 h229 h230 h248 h930
  go_enter Tryz.func373,Tryz.ntmps373
  go_wp2
  go_ret
  exact⟨rfl,rfl⟩
 ·have hv:decide (letterP r)=false:=by rw[decide_eq_false_iff_not];unfold letterP;omega
  rw[hv]
  have d90:decide (r≤90)=false:=by rw[decide_eq_false_iff_not];omega
  have d122:decide (r≤122)=false:=by rw[decide_eq_false_iff_not];omega
  clear hv h95 h197 h198 h216 h229 h230 h248 h930
  go_enter Tryz.func373,Tryz.ntmps373
  go_wp2
  go_ret
  exact⟨rfl,rfl⟩
 ·have hv:decide (letterP r)=true:=by rw[decide_eq_true_iff];unfold letterP;omega
  rw[hv]
  have d90:decide (r≤90)=false:=by rw[decide_eq_false_iff_not];omega
  have d122:decide (r≤122)=false:=by rw[decide_eq_false_iff_not];omega
  clear hv h95 h197 h198 h216 h229 h230 h248 h930
  go_enter Tryz.func373,Tryz.ntmps373
  go_wp2
  go_ret
  exact⟨rfl,rfl⟩
 ·have hv:decide (letterP r)=false:=by rw[decide_eq_false_iff_not];unfold letterP;omega
  rw[hv]
  have d90:decide (r≤90)=false:=by rw[decide_eq_false_iff_not];omega
  have d122:decide (r≤122)=false:=by rw[decide_eq_false_iff_not];omega
  have d937:decide (r≤937)=false:=by rw[decide_eq_false_iff_not];omega
  clear hv h95 h197 h198 h216 h229 h230 h248 h930
  go_enter Tryz.func373,Tryz.ntmps373
  go_wp2
  go_ret
  exact⟨rfl,rfl⟩
 ·have hv:decide (letterP r)=true:=by rw[decide_eq_true_iff];unfold letterP;omega
  rw[hv]
  have d90:decide (r≤90)=false:=by rw[decide_eq_false_iff_not];omega
  have d122:decide (r≤122)=false:=by rw[decide_eq_false_iff_not];omega
  have d937:decide (r≤937)=false:=by rw[decide_eq_false_iff_not];omega
  clear hv h95 h197 h198 h216 h229 h230 h248 h930
  go_enter Tryz.func373,Tryz.ntmps373
  go_wp2
  go_ret
  exact⟨rfl,rfl⟩
 ·have hv:decide (letterP r)=false:=by rw[decide_eq_false_iff_not];unfold letterP;omega
  rw[hv]
  have d90:decide (r≤90)=false:=by rw[decide_eq_false_iff_not];omega
  have d122:decide (r≤122)=false:=by rw[decide_eq_false_iff_not];omega
  have d937:decide (r≤937)=false:=by rw[decide_eq_false_iff_not];omega
  have d969:decide (r≤969)=false:=by rw[decide_eq_false_iff_not];omega
  clear hv h95 h197 h198 h216 h229 h230 h248 h930
  go_enter Tryz.func373,Tryz.ntmps373
  go_wp2
  go_ret
  exact⟨rfl,rfl⟩
set_option maxRecDepth 100000 in
set_option maxHeartbeats 400000 in
theorem isSign_any (r:Int) (w:World):Calls Tryz.prog 375 #[.int .i32 r] w fun e w'=>e=.returned (.bool (decide (signP r)))∧w'=w:=by
 by_cases h37:r=37
 ·subst h37
  go_enter Tryz.func375,Tryz.ntmps375
  go_wp2
  go_ret
  exact⟨by rfl,rfl⟩
 by_cases h39:r=39
 ·subst h39
  go_enter Tryz.func375,Tryz.ntmps375
  go_wp2
  go_ret
  exact⟨by rfl,rfl⟩
 by_cases h34:r=34
 ·subst h34
  go_enter Tryz.func375,Tryz.ntmps375
  go_wp2
  go_ret
  exact⟨by rfl,rfl⟩
 by_cases h176:r=176
 ·subst h176
  go_enter Tryz.func375,Tryz.ntmps375
  go_wp2
  go_ret
  exact⟨by rfl,rfl⟩
 by_cases h8240:r=8240
 ·subst h8240
  go_enter Tryz.func375,Tryz.ntmps375
  go_wp2
  go_ret
  exact⟨by rfl,rfl⟩
 by_cases h8451:r=8451
 ·subst h8451
  go_enter Tryz.func375,Tryz.ntmps375
  go_wp2
  go_ret
  exact⟨by rfl,rfl⟩
 by_cases h8457:r=8457
 ·subst h8457
  go_enter Tryz.func375,Tryz.ntmps375
  go_wp2
  go_ret
  exact⟨by rfl,rfl⟩
 have hv:decide (signP r)=false:=by rw[decide_eq_false_iff_not];unfold signP;omega
 rw[hv]
 have e37:(r == 37)=false:=by rw[beq_eq_false_iff_ne];exact h37
 have e39:(r == 39)=false:=by rw[beq_eq_false_iff_ne];exact h39
 have e34:(r == 34)=false:=by rw[beq_eq_false_iff_ne];exact h34
 have e176:(r == 176)=false:=by rw[beq_eq_false_iff_ne];exact h176
 have e8240:(r == 8240)=false:=by rw[beq_eq_false_iff_ne];exact h8240
 have e8451:(r == 8451)=false:=by rw[beq_eq_false_iff_ne];exact h8451
 have e8457:(r == 8457)=false:=by rw[beq_eq_false_iff_ne];exact h8457
 clear hv h37 h39 h34 h176 h8240 h8451 h8457
 go_enter Tryz.func375,Tryz.ntmps375
 go_wp2
 go_ret
 exact⟨rfl,rfl⟩
end Go.Proofs.YtamoadanapmmeaaGreatDoor.Nm

namespace Go.Proofs.YtamoadanapmmeaaGreatDoor.Nm
open Go.RowKit
set_option maxRecDepth 100000 in
set_option maxHeartbeats 400000 in
theorem raised_any (d:Nat) (hd:d<10) (w:World):Calls Tryz.prog 378 #[.int .i64 (d:Int)] w fun e w'=>e=.returned (.int .i32 (([8304,185,178,179,8308,8309,8310,8311,8312,8313]:List Int).getD d 0))∧w'=w:=by
  rcases(by omega:d=0∨d=1∨d=2∨d=3∨d=4∨d=5∨d=6∨d=7∨d=8∨d=9)with rfl|rfl|rfl|rfl|rfl|rfl|rfl|rfl|rfl|rfl
  all_goals
    go_enter Tryz.func378,Tryz.ntmps378
    go_wp2
    go_ret
    exact⟨rfl,rfl⟩
set_option maxRecDepth 100000 in
set_option maxHeartbeats 1000000 in
theorem lowered_no (r:Int) (w:World) (h:r≠8304∧r≠185∧r≠178∧r≠179∧r≠8308∧r≠8309∧r≠8310∧r≠8311∧r≠8312∧r≠8313):Calls Tryz.prog 377 #[.int .i32 r] w fun e w'=>e=.returned (.tuple #[.int .i64 0,.bool false])∧w'=w:=by
  have e0:((8304:Int) == r)=false:=by rw[beq_eq_false_iff_ne];omega
  have e1:((185:Int) == r)=false:=by rw[beq_eq_false_iff_ne];omega
  have e2:((178:Int) == r)=false:=by rw[beq_eq_false_iff_ne];omega
  have e3:((179:Int) == r)=false:=by rw[beq_eq_false_iff_ne];omega
  have e4:((8308:Int) == r)=false:=by rw[beq_eq_false_iff_ne];omega
  have e5:((8309:Int) == r)=false:=by rw[beq_eq_false_iff_ne];omega
  have e6:((8310:Int) == r)=false:=by rw[beq_eq_false_iff_ne];omega
  have e7:((8311:Int) == r)=false:=by rw[beq_eq_false_iff_ne];omega
  have e8:((8312:Int) == r)=false:=by rw[beq_eq_false_iff_ne];omega
  have e9:((8313:Int) == r)=false:=by rw[beq_eq_false_iff_ne];omega
  have c0:Hid (∀w,Calls Tryz.prog 378 #[.int .i64 0] w fun e w'=>e=.returned (.int .i32 8304)∧w'=w):=fun w=>raised_any 0 (by omega) w
  have c1:Hid (∀w,Calls Tryz.prog 378 #[.int .i64 1] w fun e w'=>e=.returned (.int .i32 185)∧w'=w):=fun w=>raised_any 1 (by omega) w
  have c2:Hid (∀w,Calls Tryz.prog 378 #[.int .i64 2] w fun e w'=>e=.returned (.int .i32 178)∧w'=w):=fun w=>raised_any 2 (by omega) w
  have c3:Hid (∀w,Calls Tryz.prog 378 #[.int .i64 3] w fun e w'=>e=.returned (.int .i32 179)∧w'=w):=fun w=>raised_any 3 (by omega) w
  have c4:Hid (∀w,Calls Tryz.prog 378 #[.int .i64 4] w fun e w'=>e=.returned (.int .i32 8308)∧w'=w):=fun w=>raised_any 4 (by omega) w
  have c5:Hid (∀w,Calls Tryz.prog 378 #[.int .i64 5] w fun e w'=>e=.returned (.int .i32 8309)∧w'=w):=fun w=>raised_any 5 (by omega) w
  have c6:Hid (∀w,Calls Tryz.prog 378 #[.int .i64 6] w fun e w'=>e=.returned (.int .i32 8310)∧w'=w):=fun w=>raised_any 6 (by omega) w
  have c7:Hid (∀w,Calls Tryz.prog 378 #[.int .i64 7] w fun e w'=>e=.returned (.int .i32 8311)∧w'=w):=fun w=>raised_any 7 (by omega) w
  have c8:Hid (∀w,Calls Tryz.prog 378 #[.int .i64 8] w fun e w'=>e=.returned (.int .i32 8312)∧w'=w):=fun w=>raised_any 8 (by omega) w
  have c9:Hid (∀w,Calls Tryz.prog 378 #[.int .i64 9] w fun e w'=>e=.returned (.int .i32 8313)∧w'=w):=fun w=>raised_any 9 (by omega) w
  clear h
  go_enter Tryz.func377,Tryz.ntmps377
  go_wp2
  refine wp_loop_rounds 11 ?_
  repeat any_goals (rw[rounds_succ];go_wp2_with (first
    |  (go_at_call_of 378 (Value.int .i64 0);refine(un c0 _).mono ?_;rintro e w' ⟨rfl,rfl⟩)
    |  (go_at_call_of 378 (Value.int .i64 1);refine(un c1 _).mono ?_;rintro e w' ⟨rfl,rfl⟩)
    |  (go_at_call_of 378 (Value.int .i64 2);refine(un c2 _).mono ?_;rintro e w' ⟨rfl,rfl⟩)
    |  (go_at_call_of 378 (Value.int .i64 3);refine(un c3 _).mono ?_;rintro e w' ⟨rfl,rfl⟩)
    |  (go_at_call_of 378 (Value.int .i64 4);refine(un c4 _).mono ?_;rintro e w' ⟨rfl,rfl⟩)
    |  (go_at_call_of 378 (Value.int .i64 5);refine(un c5 _).mono ?_;rintro e w' ⟨rfl,rfl⟩)
    |  (go_at_call_of 378 (Value.int .i64 6);refine(un c6 _).mono ?_;rintro e w' ⟨rfl,rfl⟩)
    |  (go_at_call_of 378 (Value.int .i64 7);refine(un c7 _).mono ?_;rintro e w' ⟨rfl,rfl⟩)
    |  (go_at_call_of 378 (Value.int .i64 8);refine(un c8 _).mono ?_;rintro e w' ⟨rfl,rfl⟩)
    |  (go_at_call_of 378 (Value.int .i64 9);refine(un c9 _).mono ?_;rintro e w' ⟨rfl,rfl⟩)))
  go_ret2
  exact⟨rfl,rfl⟩
set_option maxRecDepth 100000 in
set_option maxHeartbeats 400000 in
theorem lowered_0 (w:World):Calls Tryz.prog 377 #[.int .i32 8304] w fun e w'=>e=.returned (.tuple #[.int .i64 0,.bool true])∧w'=w:=by
  have c0:Hid (∀w,Calls Tryz.prog 378 #[.int .i64 0] w fun e w'=>e=.returned (.int .i32 8304)∧w'=w):=fun w=>raised_any 0 (by omega) w
  go_enter Tryz.func377,Tryz.ntmps377
  go_wp2
  refine wp_loop_rounds 1 ?_
  repeat any_goals (rw[rounds_succ];go_wp2_with (first
    | (go_at_call_of 378 (Value.int .i64 0);refine(un c0 _).mono ?_;rintro e w' ⟨rfl,rfl⟩)))
  go_ret2
  exact⟨rfl,rfl⟩
set_option maxRecDepth 100000 in
set_option maxHeartbeats 400000 in
theorem lowered_1 (w:World):Calls Tryz.prog 377 #[.int .i32 185] w fun e w'=>e=.returned (.tuple #[.int .i64 1,.bool true])∧w'=w:=by
  have c0:Hid (∀w,Calls Tryz.prog 378 #[.int .i64 0] w fun e w'=>e=.returned (.int .i32 8304)∧w'=w):=fun w=>raised_any 0 (by omega) w
  have c1:Hid (∀w,Calls Tryz.prog 378 #[.int .i64 1] w fun e w'=>e=.returned (.int .i32 185)∧w'=w):=fun w=>raised_any 1 (by omega) w
  go_enter Tryz.func377,Tryz.ntmps377
  go_wp2
  refine wp_loop_rounds 2 ?_
  repeat any_goals (rw[rounds_succ];go_wp2_with (first
    | (go_at_call_of 378 (Value.int .i64 0);refine(un c0 _).mono ?_;rintro e w' ⟨rfl,rfl⟩)
    | (go_at_call_of 378 (Value.int .i64 1);refine(un c1 _).mono ?_;rintro e w' ⟨rfl,rfl⟩)))
  go_ret2
  exact⟨rfl,rfl⟩
set_option maxRecDepth 100000 in
set_option maxHeartbeats 400000 in
theorem lowered_2 (w:World):Calls Tryz.prog 377 #[.int .i32 178] w fun e w'=>e=.returned (.tuple #[.int .i64 2,.bool true])∧w'=w:=by
  have c0:Hid (∀w,Calls Tryz.prog 378 #[.int .i64 0] w fun e w'=>e=.returned (.int .i32 8304)∧w'=w):=fun w=>raised_any 0 (by omega) w
  have c1:Hid (∀w,Calls Tryz.prog 378 #[.int .i64 1] w fun e w'=>e=.returned (.int .i32 185)∧w'=w):=fun w=>raised_any 1 (by omega) w
  have c2:Hid (∀w,Calls Tryz.prog 378 #[.int .i64 2] w fun e w'=>e=.returned (.int .i32 178)∧w'=w):=fun w=>raised_any 2 (by omega) w
  go_enter Tryz.func377,Tryz.ntmps377
  go_wp2
  refine wp_loop_rounds 3 ?_
  repeat any_goals (rw[rounds_succ];go_wp2_with (first
    | (go_at_call_of 378 (Value.int .i64 0);refine(un c0 _).mono ?_;rintro e w' ⟨rfl,rfl⟩)
    | (go_at_call_of 378 (Value.int .i64 1);refine(un c1 _).mono ?_;rintro e w' ⟨rfl,rfl⟩)
    | (go_at_call_of 378 (Value.int .i64 2);refine(un c2 _).mono ?_;rintro e w' ⟨rfl,rfl⟩)))
  go_ret2
  exact⟨rfl,rfl⟩
set_option maxRecDepth 100000 in
set_option maxHeartbeats 400000 in
theorem lowered_3 (w:World):Calls Tryz.prog 377 #[.int .i32 179] w fun e w'=>e=.returned (.tuple #[.int .i64 3,.bool true])∧w'=w:=by
  have c0:Hid (∀w,Calls Tryz.prog 378 #[.int .i64 0] w fun e w'=>e=.returned (.int .i32 8304)∧w'=w):=fun w=>raised_any 0 (by omega) w
  have c1:Hid (∀w,Calls Tryz.prog 378 #[.int .i64 1] w fun e w'=>e=.returned (.int .i32 185)∧w'=w):=fun w=>raised_any 1 (by omega) w
  have c2:Hid (∀w,Calls Tryz.prog 378 #[.int .i64 2] w fun e w'=>e=.returned (.int .i32 178)∧w'=w):=fun w=>raised_any 2 (by omega) w
  have c3:Hid (∀w,Calls Tryz.prog 378 #[.int .i64 3] w fun e w'=>e=.returned (.int .i32 179)∧w'=w):=fun w=>raised_any 3 (by omega) w
  go_enter Tryz.func377,Tryz.ntmps377
  go_wp2
  refine wp_loop_rounds 4 ?_
  repeat any_goals (rw[rounds_succ];go_wp2_with (first
    | (go_at_call_of 378 (Value.int .i64 0);refine(un c0 _).mono ?_;rintro e w' ⟨rfl,rfl⟩)
    | (go_at_call_of 378 (Value.int .i64 1);refine(un c1 _).mono ?_;rintro e w' ⟨rfl,rfl⟩)
    | (go_at_call_of 378 (Value.int .i64 2);refine(un c2 _).mono ?_;rintro e w' ⟨rfl,rfl⟩)
    | (go_at_call_of 378 (Value.int .i64 3);refine(un c3 _).mono ?_;rintro e w' ⟨rfl,rfl⟩)))
  go_ret2
  exact⟨rfl,rfl⟩
set_option maxRecDepth 100000 in
set_option maxHeartbeats 400000 in
theorem lowered_4 (w:World):Calls Tryz.prog 377 #[.int .i32 8308] w fun e w'=>e=.returned (.tuple #[.int .i64 4,.bool true])∧w'=w:=by
  have c0:Hid (∀w,Calls Tryz.prog 378 #[.int .i64 0] w fun e w'=>e=.returned (.int .i32 8304)∧w'=w):=fun w=>raised_any 0 (by omega) w
  have c1:Hid (∀w,Calls Tryz.prog 378 #[.int .i64 1] w fun e w'=>e=.returned (.int .i32 185)∧w'=w):=fun w=>raised_any 1 (by omega) w
  have c2:Hid (∀w,Calls Tryz.prog 378 #[.int .i64 2] w fun e w'=>e=.returned (.int .i32 178)∧w'=w):=fun w=>raised_any 2 (by omega) w
  have c3:Hid (∀w,Calls Tryz.prog 378 #[.int .i64 3] w fun e w'=>e=.returned (.int .i32 179)∧w'=w):=fun w=>raised_any 3 (by omega) w
  have c4:Hid (∀w,Calls Tryz.prog 378 #[.int .i64 4] w fun e w'=>e=.returned (.int .i32 8308)∧w'=w):=fun w=>raised_any 4 (by omega) w
  go_enter Tryz.func377,Tryz.ntmps377
  go_wp2
  refine wp_loop_rounds 5 ?_
  repeat any_goals (rw[rounds_succ];go_wp2_with (first
    | (go_at_call_of 378 (Value.int .i64 0);refine(un c0 _).mono ?_;rintro e w' ⟨rfl,rfl⟩)
    | (go_at_call_of 378 (Value.int .i64 1);refine(un c1 _).mono ?_;rintro e w' ⟨rfl,rfl⟩)
    | (go_at_call_of 378 (Value.int .i64 2);refine(un c2 _).mono ?_;rintro e w' ⟨rfl,rfl⟩)
    | (go_at_call_of 378 (Value.int .i64 3);refine(un c3 _).mono ?_;rintro e w' ⟨rfl,rfl⟩)
    | (go_at_call_of 378 (Value.int .i64 4);refine(un c4 _).mono ?_;rintro e w' ⟨rfl,rfl⟩)))
  go_ret2
  exact⟨rfl,rfl⟩
set_option maxRecDepth 100000 in
set_option maxHeartbeats 400000 in
theorem lowered_5 (w:World):Calls Tryz.prog 377 #[.int .i32 8309] w fun e w'=>e=.returned (.tuple #[.int .i64 5,.bool true])∧w'=w:=by
  have c0:Hid (∀w,Calls Tryz.prog 378 #[.int .i64 0] w fun e w'=>e=.returned (.int .i32 8304)∧w'=w):=fun w=>raised_any 0 (by omega) w
  have c1:Hid (∀w,Calls Tryz.prog 378 #[.int .i64 1] w fun e w'=>e=.returned (.int .i32 185)∧w'=w):=fun w=>raised_any 1 (by omega) w
  have c2:Hid (∀w,Calls Tryz.prog 378 #[.int .i64 2] w fun e w'=>e=.returned (.int .i32 178)∧w'=w):=fun w=>raised_any 2 (by omega) w
  have c3:Hid (∀w,Calls Tryz.prog 378 #[.int .i64 3] w fun e w'=>e=.returned (.int .i32 179)∧w'=w):=fun w=>raised_any 3 (by omega) w
  have c4:Hid (∀w,Calls Tryz.prog 378 #[.int .i64 4] w fun e w'=>e=.returned (.int .i32 8308)∧w'=w):=fun w=>raised_any 4 (by omega) w
  have c5:Hid (∀w,Calls Tryz.prog 378 #[.int .i64 5] w fun e w'=>e=.returned (.int .i32 8309)∧w'=w):=fun w=>raised_any 5 (by omega) w
  go_enter Tryz.func377,Tryz.ntmps377
  go_wp2
  refine wp_loop_rounds 6 ?_
  repeat any_goals (rw[rounds_succ];go_wp2_with (first
    | (go_at_call_of 378 (Value.int .i64 0);refine(un c0 _).mono ?_;rintro e w' ⟨rfl,rfl⟩)
    | (go_at_call_of 378 (Value.int .i64 1);refine(un c1 _).mono ?_;rintro e w' ⟨rfl,rfl⟩)
    | (go_at_call_of 378 (Value.int .i64 2);refine(un c2 _).mono ?_;rintro e w' ⟨rfl,rfl⟩)
    | (go_at_call_of 378 (Value.int .i64 3);refine(un c3 _).mono ?_;rintro e w' ⟨rfl,rfl⟩)
    | (go_at_call_of 378 (Value.int .i64 4);refine(un c4 _).mono ?_;rintro e w' ⟨rfl,rfl⟩)
    | (go_at_call_of 378 (Value.int .i64 5);refine(un c5 _).mono ?_;rintro e w' ⟨rfl,rfl⟩)))
  go_ret2
  exact⟨rfl,rfl⟩
set_option maxRecDepth 100000 in
set_option maxHeartbeats 400000 in
theorem lowered_6 (w:World):Calls Tryz.prog 377 #[.int .i32 8310] w fun e w'=>e=.returned (.tuple #[.int .i64 6,.bool true])∧w'=w:=by
  have c0:Hid (∀w,Calls Tryz.prog 378 #[.int .i64 0] w fun e w'=>e=.returned (.int .i32 8304)∧w'=w):=fun w=>raised_any 0 (by omega) w
  have c1:Hid (∀w,Calls Tryz.prog 378 #[.int .i64 1] w fun e w'=>e=.returned (.int .i32 185)∧w'=w):=fun w=>raised_any 1 (by omega) w
  have c2:Hid (∀w,Calls Tryz.prog 378 #[.int .i64 2] w fun e w'=>e=.returned (.int .i32 178)∧w'=w):=fun w=>raised_any 2 (by omega) w
  have c3:Hid (∀w,Calls Tryz.prog 378 #[.int .i64 3] w fun e w'=>e=.returned (.int .i32 179)∧w'=w):=fun w=>raised_any 3 (by omega) w
  have c4:Hid (∀w,Calls Tryz.prog 378 #[.int .i64 4] w fun e w'=>e=.returned (.int .i32 8308)∧w'=w):=fun w=>raised_any 4 (by omega) w
  have c5:Hid (∀w,Calls Tryz.prog 378 #[.int .i64 5] w fun e w'=>e=.returned (.int .i32 8309)∧w'=w):=fun w=>raised_any 5 (by omega) w
  have c6:Hid (∀w,Calls Tryz.prog 378 #[.int .i64 6] w fun e w'=>e=.returned (.int .i32 8310)∧w'=w):=fun w=>raised_any 6 (by omega) w
  go_enter Tryz.func377,Tryz.ntmps377
  go_wp2
  refine wp_loop_rounds 7 ?_
  repeat any_goals (rw[rounds_succ];go_wp2_with (first
    | (go_at_call_of 378 (Value.int .i64 0);refine(un c0 _).mono ?_;rintro e w' ⟨rfl,rfl⟩)
    | (go_at_call_of 378 (Value.int .i64 1);refine(un c1 _).mono ?_;rintro e w' ⟨rfl,rfl⟩)
    | (go_at_call_of 378 (Value.int .i64 2);refine(un c2 _).mono ?_;rintro e w' ⟨rfl,rfl⟩)
    | (go_at_call_of 378 (Value.int .i64 3);refine(un c3 _).mono ?_;rintro e w' ⟨rfl,rfl⟩)
    | (go_at_call_of 378 (Value.int .i64 4);refine(un c4 _).mono ?_;rintro e w' ⟨rfl,rfl⟩)
    | (go_at_call_of 378 (Value.int .i64 5);refine(un c5 _).mono ?_;rintro e w' ⟨rfl,rfl⟩)
    | (go_at_call_of 378 (Value.int .i64 6);refine(un c6 _).mono ?_;rintro e w' ⟨rfl,rfl⟩)))
  go_ret2
  exact⟨rfl,rfl⟩
set_option maxRecDepth 100000 in
set_option maxHeartbeats 400000 in
theorem lowered_7 (w:World):Calls Tryz.prog 377 #[.int .i32 8311] w fun e w'=>e=.returned (.tuple #[.int .i64 7,.bool true])∧w'=w:=by
  have c0:Hid (∀w,Calls Tryz.prog 378 #[.int .i64 0] w fun e w'=>e=.returned (.int .i32 8304)∧w'=w):=fun w=>raised_any 0 (by omega) w
  have c1:Hid (∀w,Calls Tryz.prog 378 #[.int .i64 1] w fun e w'=>e=.returned (.int .i32 185)∧w'=w):=fun w=>raised_any 1 (by omega) w
  have c2:Hid (∀w,Calls Tryz.prog 378 #[.int .i64 2] w fun e w'=>e=.returned (.int .i32 178)∧w'=w):=fun w=>raised_any 2 (by omega) w
  have c3:Hid (∀w,Calls Tryz.prog 378 #[.int .i64 3] w fun e w'=>e=.returned (.int .i32 179)∧w'=w):=fun w=>raised_any 3 (by omega) w
  have c4:Hid (∀w,Calls Tryz.prog 378 #[.int .i64 4] w fun e w'=>e=.returned (.int .i32 8308)∧w'=w):=fun w=>raised_any 4 (by omega) w
  have c5:Hid (∀w,Calls Tryz.prog 378 #[.int .i64 5] w fun e w'=>e=.returned (.int .i32 8309)∧w'=w):=fun w=>raised_any 5 (by omega) w
  have c6:Hid (∀w,Calls Tryz.prog 378 #[.int .i64 6] w fun e w'=>e=.returned (.int .i32 8310)∧w'=w):=fun w=>raised_any 6 (by omega) w
  have c7:Hid (∀w,Calls Tryz.prog 378 #[.int .i64 7] w fun e w'=>e=.returned (.int .i32 8311)∧w'=w):=fun w=>raised_any 7 (by omega) w
  go_enter Tryz.func377,Tryz.ntmps377
  go_wp2
  refine wp_loop_rounds 8 ?_
  repeat any_goals (rw[rounds_succ];go_wp2_with (first
    | (go_at_call_of 378 (Value.int .i64 0);refine(un c0 _).mono ?_;rintro e w' ⟨rfl,rfl⟩)
    | (go_at_call_of 378 (Value.int .i64 1);refine(un c1 _).mono ?_;rintro e w' ⟨rfl,rfl⟩)
    | (go_at_call_of 378 (Value.int .i64 2);refine(un c2 _).mono ?_;rintro e w' ⟨rfl,rfl⟩)
    | (go_at_call_of 378 (Value.int .i64 3);refine(un c3 _).mono ?_;rintro e w' ⟨rfl,rfl⟩)
    | (go_at_call_of 378 (Value.int .i64 4);refine(un c4 _).mono ?_;rintro e w' ⟨rfl,rfl⟩)
    | (go_at_call_of 378 (Value.int .i64 5);refine(un c5 _).mono ?_;rintro e w' ⟨rfl,rfl⟩)
    | (go_at_call_of 378 (Value.int .i64 6);refine(un c6 _).mono ?_;rintro e w' ⟨rfl,rfl⟩)
    | (go_at_call_of 378 (Value.int .i64 7);refine(un c7 _).mono ?_;rintro e w' ⟨rfl,rfl⟩)))
  go_ret2
  exact⟨rfl,rfl⟩
set_option maxRecDepth 100000 in
set_option maxHeartbeats 400000 in
theorem lowered_8 (w:World):Calls Tryz.prog 377 #[.int .i32 8312] w fun e w'=>e=.returned (.tuple #[.int .i64 8,.bool true])∧w'=w:=by
  have c0:Hid (∀w,Calls Tryz.prog 378 #[.int .i64 0] w fun e w'=>e=.returned (.int .i32 8304)∧w'=w):=fun w=>raised_any 0 (by omega) w
  have c1:Hid (∀w,Calls Tryz.prog 378 #[.int .i64 1] w fun e w'=>e=.returned (.int .i32 185)∧w'=w):=fun w=>raised_any 1 (by omega) w
  have c2:Hid (∀w,Calls Tryz.prog 378 #[.int .i64 2] w fun e w'=>e=.returned (.int .i32 178)∧w'=w):=fun w=>raised_any 2 (by omega) w
  have c3:Hid (∀w,Calls Tryz.prog 378 #[.int .i64 3] w fun e w'=>e=.returned (.int .i32 179)∧w'=w):=fun w=>raised_any 3 (by omega) w
  have c4:Hid (∀w,Calls Tryz.prog 378 #[.int .i64 4] w fun e w'=>e=.returned (.int .i32 8308)∧w'=w):=fun w=>raised_any 4 (by omega) w
  have c5:Hid (∀w,Calls Tryz.prog 378 #[.int .i64 5] w fun e w'=>e=.returned (.int .i32 8309)∧w'=w):=fun w=>raised_any 5 (by omega) w
  have c6:Hid (∀w,Calls Tryz.prog 378 #[.int .i64 6] w fun e w'=>e=.returned (.int .i32 8310)∧w'=w):=fun w=>raised_any 6 (by omega) w
  have c7:Hid (∀w,Calls Tryz.prog 378 #[.int .i64 7] w fun e w'=>e=.returned (.int .i32 8311)∧w'=w):=fun w=>raised_any 7 (by omega) w
  have c8:Hid (∀w,Calls Tryz.prog 378 #[.int .i64 8] w fun e w'=>e=.returned (.int .i32 8312)∧w'=w):=fun w=>raised_any 8 (by omega) w
  go_enter Tryz.func377,Tryz.ntmps377
  go_wp2
  refine wp_loop_rounds 9 ?_
  repeat any_goals (rw[rounds_succ];go_wp2_with (first
    | (go_at_call_of 378 (Value.int .i64 0);refine(un c0 _).mono ?_;rintro e w' ⟨rfl,rfl⟩)
    | (go_at_call_of 378 (Value.int .i64 1);refine(un c1 _).mono ?_;rintro e w' ⟨rfl,rfl⟩)
    | (go_at_call_of 378 (Value.int .i64 2);refine(un c2 _).mono ?_;rintro e w' ⟨rfl,rfl⟩)
    | (go_at_call_of 378 (Value.int .i64 3);refine(un c3 _).mono ?_;rintro e w' ⟨rfl,rfl⟩)
    | (go_at_call_of 378 (Value.int .i64 4);refine(un c4 _).mono ?_;rintro e w' ⟨rfl,rfl⟩)
    | (go_at_call_of 378 (Value.int .i64 5);refine(un c5 _).mono ?_;rintro e w' ⟨rfl,rfl⟩)
    | (go_at_call_of 378 (Value.int .i64 6);refine(un c6 _).mono ?_;rintro e w' ⟨rfl,rfl⟩)
    | (go_at_call_of 378 (Value.int .i64 7);refine(un c7 _).mono ?_;rintro e w' ⟨rfl,rfl⟩)
    | (go_at_call_of 378 (Value.int .i64 8);refine(un c8 _).mono ?_;rintro e w' ⟨rfl,rfl⟩)))
  go_ret2
  exact⟨rfl,rfl⟩
set_option maxRecDepth 100000 in
set_option maxHeartbeats 400000 in
theorem lowered_9 (w:World):Calls Tryz.prog 377 #[.int .i32 8313] w fun e w'=>e=.returned (.tuple #[.int .i64 9,.bool true])∧w'=w:=by
  have c0:Hid (∀w,Calls Tryz.prog 378 #[.int .i64 0] w fun e w'=>e=.returned (.int .i32 8304)∧w'=w):=fun w=>raised_any 0 (by omega) w
  have c1:Hid (∀w,Calls Tryz.prog 378 #[.int .i64 1] w fun e w'=>e=.returned (.int .i32 185)∧w'=w):=fun w=>raised_any 1 (by omega) w
  have c2:Hid (∀w,Calls Tryz.prog 378 #[.int .i64 2] w fun e w'=>e=.returned (.int .i32 178)∧w'=w):=fun w=>raised_any 2 (by omega) w
  have c3:Hid (∀w,Calls Tryz.prog 378 #[.int .i64 3] w fun e w'=>e=.returned (.int .i32 179)∧w'=w):=fun w=>raised_any 3 (by omega) w
  have c4:Hid (∀w,Calls Tryz.prog 378 #[.int .i64 4] w fun e w'=>e=.returned (.int .i32 8308)∧w'=w):=fun w=>raised_any 4 (by omega) w
  have c5:Hid (∀w,Calls Tryz.prog 378 #[.int .i64 5] w fun e w'=>e=.returned (.int .i32 8309)∧w'=w):=fun w=>raised_any 5 (by omega) w
  have c6:Hid (∀w,Calls Tryz.prog 378 #[.int .i64 6] w fun e w'=>e=.returned (.int .i32 8310)∧w'=w):=fun w=>raised_any 6 (by omega) w
  have c7:Hid (∀w,Calls Tryz.prog 378 #[.int .i64 7] w fun e w'=>e=.returned (.int .i32 8311)∧w'=w):=fun w=>raised_any 7 (by omega) w
  have c8:Hid (∀w,Calls Tryz.prog 378 #[.int .i64 8] w fun e w'=>e=.returned (.int .i32 8312)∧w'=w):=fun w=>raised_any 8 (by omega) w
  have c9:Hid (∀w,Calls Tryz.prog 378 #[.int .i64 9] w fun e w'=>e=.returned (.int .i32 8313)∧w'=w):=fun w=>raised_any 9 (by omega) w
  go_enter Tryz.func377,Tryz.ntmps377
  go_wp2
  refine wp_loop_rounds 10 ?_
  repeat any_goals (rw[rounds_succ];go_wp2_with (first
    | (go_at_call_of 378 (Value.int .i64 0);refine(un c0 _).mono ?_;rintro e w' ⟨rfl,rfl⟩)
    | (go_at_call_of 378 (Value.int .i64 1);refine(un c1 _).mono ?_;rintro e w' ⟨rfl,rfl⟩)
    | (go_at_call_of 378 (Value.int .i64 2);refine(un c2 _).mono ?_;rintro e w' ⟨rfl,rfl⟩)
    | (go_at_call_of 378 (Value.int .i64 3);refine(un c3 _).mono ?_;rintro e w' ⟨rfl,rfl⟩)
    | (go_at_call_of 378 (Value.int .i64 4);refine(un c4 _).mono ?_;rintro e w' ⟨rfl,rfl⟩)
    | (go_at_call_of 378 (Value.int .i64 5);refine(un c5 _).mono ?_;rintro e w' ⟨rfl,rfl⟩)
    | (go_at_call_of 378 (Value.int .i64 6);refine(un c6 _).mono ?_;rintro e w' ⟨rfl,rfl⟩)
    | (go_at_call_of 378 (Value.int .i64 7);refine(un c7 _).mono ?_;rintro e w' ⟨rfl,rfl⟩)
    | (go_at_call_of 378 (Value.int .i64 8);refine(un c8 _).mono ?_;rintro e w' ⟨rfl,rfl⟩)
    | (go_at_call_of 378 (Value.int .i64 9);refine(un c9 _).mono ?_;rintro e w' ⟨rfl,rfl⟩)))
  go_ret2
  exact⟨rfl,rfl⟩
end Go.Proofs.YtamoadanapmmeaaGreatDoor.Nm

namespace Go.Proofs.YtamoadanapmmeaaGreatDoor.Nm
open Go.RowKit
set_option maxRecDepth 100000 in
set_option maxHeartbeats 400000 in
theorem isRaised_any (r:Int) (w:World):Calls Tryz.prog 374 #[.int .i32 r] w fun e w'=>e=.returned (.bool (decide (raisedP r)))∧w'=w:=by
  by_cases h8304:r=8304
  · subst h8304
    have H:=hide (lowered_0 w)
    go_enter Tryz.func374,Tryz.ntmps374
    go_wp2_with (go_at_call 377;refine(un H).mono ?_;rintro e w' ⟨rfl,rfl⟩)
    go_ret
    exact⟨by rfl,rfl⟩
  by_cases h185:r=185
  · subst h185
    have H:=hide (lowered_1 w)
    go_enter Tryz.func374,Tryz.ntmps374
    go_wp2_with (go_at_call 377;refine(un H).mono ?_;rintro e w' ⟨rfl,rfl⟩)
    go_ret
    exact⟨by rfl,rfl⟩
  by_cases h178:r=178
  · subst h178
    have H:=hide (lowered_2 w)
    go_enter Tryz.func374,Tryz.ntmps374
    go_wp2_with (go_at_call 377;refine(un H).mono ?_;rintro e w' ⟨rfl,rfl⟩)
    go_ret
    exact⟨by rfl,rfl⟩
  by_cases h179:r=179
  · subst h179
    have H:=hide (lowered_3 w)
    go_enter Tryz.func374,Tryz.ntmps374
    go_wp2_with (go_at_call 377;refine(un H).mono ?_;rintro e w' ⟨rfl,rfl⟩)
    go_ret
    exact⟨by rfl,rfl⟩
  by_cases h8308:r=8308
  · subst h8308
    have H:=hide (lowered_4 w)
    go_enter Tryz.func374,Tryz.ntmps374
    go_wp2_with (go_at_call 377;refine(un H).mono ?_;rintro e w' ⟨rfl,rfl⟩)
    go_ret
    exact⟨by rfl,rfl⟩
  by_cases h8309:r=8309
  · subst h8309
    have H:=hide (lowered_5 w)
    go_enter Tryz.func374,Tryz.ntmps374
    go_wp2_with (go_at_call 377;refine(un H).mono ?_;rintro e w' ⟨rfl,rfl⟩)
    go_ret
    exact⟨by rfl,rfl⟩
  by_cases h8310:r=8310
  · subst h8310
    have H:=hide (lowered_6 w)
    go_enter Tryz.func374,Tryz.ntmps374
    go_wp2_with (go_at_call 377;refine(un H).mono ?_;rintro e w' ⟨rfl,rfl⟩)
    go_ret
    exact⟨by rfl,rfl⟩
  by_cases h8311:r=8311
  · subst h8311
    have H:=hide (lowered_7 w)
    go_enter Tryz.func374,Tryz.ntmps374
    go_wp2_with (go_at_call 377;refine(un H).mono ?_;rintro e w' ⟨rfl,rfl⟩)
    go_ret
    exact⟨by rfl,rfl⟩
  by_cases h8312:r=8312
  · subst h8312
    have H:=hide (lowered_8 w)
    go_enter Tryz.func374,Tryz.ntmps374
    go_wp2_with (go_at_call 377;refine(un H).mono ?_;rintro e w' ⟨rfl,rfl⟩)
    go_ret
    exact⟨by rfl,rfl⟩
  by_cases h8313:r=8313
  · subst h8313
    have H:=hide (lowered_9 w)
    go_enter Tryz.func374,Tryz.ntmps374
    go_wp2_with (go_at_call 377;refine(un H).mono ?_;rintro e w' ⟨rfl,rfl⟩)
    go_ret
    exact⟨by rfl,rfl⟩
  have H:=hide (lowered_no r w (by omega))
  by_cases h8314:r=8314
  · subst h8314
    go_enter Tryz.func374,Tryz.ntmps374
    go_wp2_with (go_at_call 377;refine(un H).mono ?_;rintro e w' ⟨rfl,rfl⟩)
    go_ret
    exact⟨by rfl,rfl⟩
  by_cases h8315:r=8315
  · subst h8315
    go_enter Tryz.func374,Tryz.ntmps374
    go_wp2_with (go_at_call 377;refine(un H).mono ?_;rintro e w' ⟨rfl,rfl⟩)
    go_ret
    exact⟨by rfl,rfl⟩
  have hv:decide (raisedP r)=false:=by rw[decide_eq_false_iff_not];unfold raisedP;omega
  rw[hv]
  have e1:(r == 8314)=false:=by rw[beq_eq_false_iff_ne];exact h8314
  have e2:(r == 8315)=false:=by rw[beq_eq_false_iff_ne];exact h8315
  clear hv h8304 h185 h178 h179 h8308 h8309 h8310 h8311 h8312 h8313 h8314 h8315
  go_enter Tryz.func374,Tryz.ntmps374
  go_wp2_with (go_at_call 377;refine(un H).mono ?_;rintro e w' ⟨rfl,rfl⟩)
  go_ret
  exact⟨rfl,rfl⟩
set_option maxRecDepth 100000 in
set_option maxHeartbeats 400000 in
theorem class_any (r:Int) (w:World):Calls Tryz.prog 370 #[.int .i32 r] w fun e w'=>e=.returned (I (classOf r))∧w'=w:=by
  have HF:=hide (folded_any r w)
  unfold classOf classF
  generalize foldR r=f at *
  have HL:=hide (isLetter_any f w)
  have HR:=hide (isRaised_any f w)
  have HS:=hide (isSign_any f w)
  by_cases h1:letterP f
  · rw[if_pos h1]
    rw[show decide (letterP f)=true by simp[h1]]at HL
    clear h1
    go_enter Tryz.func370,Tryz.ntmps370
    go_wp2_with (first
        | (go_at_call 363;refine(un HF).mono ?_;rintro e w' ⟨rfl,rfl⟩)
        | (go_at_call 373;refine(un HL).mono ?_;rintro e w' ⟨rfl,rfl⟩)
        | (go_at_call 374;refine(un HR).mono ?_;rintro e w' ⟨rfl,rfl⟩)
        | (go_at_call 375;refine(un HS).mono ?_;rintro e w' ⟨rfl,rfl⟩))
    go_ret
    exact⟨rfl,rfl⟩
  rw[if_neg h1]
  rw[show decide (letterP f)=false by simp[h1]]at HL
  clear h1
  by_cases h2:48≤f∧f≤57
  · rw[if_pos h2]
    obtain⟨h2,h3⟩:=h2
    go_enter Tryz.func370,Tryz.ntmps370
    go_wp2_with (first
        | (go_at_call 363;refine(un HF).mono ?_;rintro e w' ⟨rfl,rfl⟩)
        | (go_at_call 373;refine(un HL).mono ?_;rintro e w' ⟨rfl,rfl⟩)
        | (go_at_call 374;refine(un HR).mono ?_;rintro e w' ⟨rfl,rfl⟩)
        | (go_at_call 375;refine(un HS).mono ?_;rintro e w' ⟨rfl,rfl⟩))
    go_ret
    exact⟨rfl,rfl⟩
  rw[if_neg h2]
  by_cases h3:raisedP f
  · rw[if_pos h3]
    rw[show decide (raisedP f)=true by simp[h3]]at HR
    clear h3
    by_cases h4:48≤f
    · have h5:57<f:=by omega
      have d57:decide (f≤57)=false:=by rw[decide_eq_false_iff_not];omega
      clear h2
      go_enter Tryz.func370,Tryz.ntmps370
      go_wp2_with (first
          | (go_at_call 363;refine(un HF).mono ?_;rintro e w' ⟨rfl,rfl⟩)
          | (go_at_call 373;refine(un HL).mono ?_;rintro e w' ⟨rfl,rfl⟩)
          | (go_at_call 374;refine(un HR).mono ?_;rintro e w' ⟨rfl,rfl⟩)
          | (go_at_call 375;refine(un HS).mono ?_;rintro e w' ⟨rfl,rfl⟩))
      go_ret
      exact⟨rfl,rfl⟩
    · clear h2
      go_enter Tryz.func370,Tryz.ntmps370
      go_wp2_with (first
          | (go_at_call 363;refine(un HF).mono ?_;rintro e w' ⟨rfl,rfl⟩)
          | (go_at_call 373;refine(un HL).mono ?_;rintro e w' ⟨rfl,rfl⟩)
          | (go_at_call 374;refine(un HR).mono ?_;rintro e w' ⟨rfl,rfl⟩)
          | (go_at_call 375;refine(un HS).mono ?_;rintro e w' ⟨rfl,rfl⟩))
      go_ret
      exact⟨rfl,rfl⟩
  rw[if_neg h3]
  rw[show decide (raisedP f)=false by simp[h3]]at HR
  clear h3
  by_cases h3:signP f
  · rw[if_pos h3]
    rw[show decide (signP f)=true by simp[h3]]at HS
    clear h3
    by_cases h4:48≤f
    · have h5:57<f:=by omega
      have d57:decide (f≤57)=false:=by rw[decide_eq_false_iff_not];omega
      clear h2
      go_enter Tryz.func370,Tryz.ntmps370
      go_wp2_with (first
          | (go_at_call 363;refine(un HF).mono ?_;rintro e w' ⟨rfl,rfl⟩)
          | (go_at_call 373;refine(un HL).mono ?_;rintro e w' ⟨rfl,rfl⟩)
          | (go_at_call 374;refine(un HR).mono ?_;rintro e w' ⟨rfl,rfl⟩)
          | (go_at_call 375;refine(un HS).mono ?_;rintro e w' ⟨rfl,rfl⟩))
      go_ret
      exact⟨rfl,rfl⟩
    · clear h2
      go_enter Tryz.func370,Tryz.ntmps370
      go_wp2_with (first
          | (go_at_call 363;refine(un HF).mono ?_;rintro e w' ⟨rfl,rfl⟩)
          | (go_at_call 373;refine(un HL).mono ?_;rintro e w' ⟨rfl,rfl⟩)
          | (go_at_call 374;refine(un HR).mono ?_;rintro e w' ⟨rfl,rfl⟩)
          | (go_at_call 375;refine(un HS).mono ?_;rintro e w' ⟨rfl,rfl⟩))
      go_ret
      exact⟨rfl,rfl⟩
  rw[if_neg h3]
  rw[show decide (signP f)=false by simp[h3]]at HS
  clear h3
  by_cases h4:48≤f
  · have h5:57<f:=by omega
    have d57:decide (f≤57)=false:=by rw[decide_eq_false_iff_not];omega
    clear h2
    go_enter Tryz.func370,Tryz.ntmps370
    go_wp2_with (first
        | (go_at_call 363;refine(un HF).mono ?_;rintro e w' ⟨rfl,rfl⟩)
        | (go_at_call 373;refine(un HL).mono ?_;rintro e w' ⟨rfl,rfl⟩)
        | (go_at_call 374;refine(un HR).mono ?_;rintro e w' ⟨rfl,rfl⟩)
        | (go_at_call 375;refine(un HS).mono ?_;rintro e w' ⟨rfl,rfl⟩))
    go_ret
    exact⟨rfl,rfl⟩
  · clear h2
    go_enter Tryz.func370,Tryz.ntmps370
    go_wp2_with (first
        | (go_at_call 363;refine(un HF).mono ?_;rintro e w' ⟨rfl,rfl⟩)
        | (go_at_call 373;refine(un HL).mono ?_;rintro e w' ⟨rfl,rfl⟩)
        | (go_at_call 374;refine(un HR).mono ?_;rintro e w' ⟨rfl,rfl⟩)
        | (go_at_call 375;refine(un HS).mono ?_;rintro e w' ⟨rfl,rfl⟩))
    go_ret
    exact⟨rfl,rfl⟩
set_option maxRecDepth 100000 in
set_option maxHeartbeats 400000 in
theorem begins_any (r:Int) (w:World):Calls Tryz.prog 360 #[.int .i32 r] w fun e w'=>e=.returned (.bool (classOf r == 1 || classOf r == 4))∧w'=w:=by
  have H:=hide (class_any r w)
  generalize classOf r=c at *
  by_cases h1:c=1
  · subst h1
    go_enter Tryz.func360,Tryz.ntmps360
    go_wp2_with (go_at_call 370;refine(un H).mono ?_;rintro e w' ⟨rfl,rfl⟩)
    go_ret
    exact⟨rfl,rfl⟩
  · have e1:(c == 1)=false:=by rw[beq_eq_false_iff_ne];exact h1
    rw[e1,Bool.false_or]
    clear h1
    go_enter Tryz.func360,Tryz.ntmps360
    go_wp2_with (go_at_call 370;refine(un H).mono ?_;rintro e w' ⟨rfl,rfl⟩)
    go_ret
    exact⟨rfl,rfl⟩
end Go.Proofs.YtamoadanapmmeaaGreatDoor.Nm

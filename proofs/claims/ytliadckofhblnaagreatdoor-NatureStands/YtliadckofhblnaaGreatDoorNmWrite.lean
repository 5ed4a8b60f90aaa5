/- (*strings.Builder).copyCheck and WriteRune, as this program has them. -/
import Derived.Test.YtliadckofhblnaaGreatDoorLimb3
import Derived.Test.YtliadckofhblnaaGreatDoorNmClass
import Derived.Deep.RegionWith
import Derived.Shelf.Strings.Builder1
import Derived.Shelf.Small.Utf8
import Derived.Shelf.Small.Bits
import Derived.Shelf.Small.Strs
import Derived.Shelf.Small.Wraps
import Derived.Shelf.Strings.BuilderF
import Derived.Shelf.Strings.BuilderK
import Derived.Shelf.Strings.BuilderRune
import Derived.Shelf.Utf8.AppendRune
import Derived.Shelf.Utf8.AppendRunePlain
import Derived.Shelf.Strconv.Itoa0
import Derived.Shelf.Strconv.Itoa1
import Derived.Shelf.LaysM
import Derived.Shelf.Strconv.Itoa2
import Derived.Shelf.Strconv.Itoa3
import Derived.Shelf.Unicode.Decode
import Derived.Shelf.Unicode.DecodeSlow
import Derived.Shelf.Unicode.DecodeAny
import Derived.Ground.Names2Prog
import Derived.Shelf.Slices.Clone
import Derived.Shelf.Slices.CompactS
import Derived.Test.YtliadckofhblnaaGreatDoorProg
import Derived.Deep.Cut
set_option maxHeartbeats 1000000
set_option maxRecDepth 100000
namespace Go.Proofs.YtliadckofhblnaaGreatDoor.Nm
open Go.RowKit
theorem zAh (d:Nat) (hd:d<10) (w:World):Calls Tryz.prog 378 #[.int .i64 (d:Int)] w fun e w'=>e=.returned (.int .i32 (([8304,185,178,179,8308,8309,8310,8311,8312,8313]:List Int).getD d 0))∧w'=w:=by
 rcases(by omega:d=0∨d=1∨d=2∨d=3∨d=4∨d=5∨d=6∨d=7∨d=8∨d=9)with rfl|rfl|rfl|rfl|rfl|rfl|rfl|rfl|rfl|rfl
 all_goals
  go_enter Tryz.func378,Tryz.ntmps378
  go_wp2
  go_ret
  exact⟨rfl,rfl⟩
theorem lowered_no (r:Int) (w:World) (h:r≠8304∧r≠185∧r≠178∧r≠179∧r≠8308∧r≠8309∧r≠8310∧r≠8311∧r≠8312∧r≠8313):Calls Tryz.prog 377 #[.int .i32 r] w fun e w'=>e=.returned (.tuple #[.int .i64 0,.bool false])∧w'=w:=by
 have e0:((8304:Int) == r)=false:=by rw[beq_eq_false_iff_ne];omega
 have e1:((185:Int) == r)=false:=by rw[beq_eq_false_iff_ne];omega
 have e2:((178:Int) == r)=false:=by rw[beq_eq_false_iff_ne];omega
 have e3:((179:Int) == r)=false:=by rw[beq_eq_false_iff_ne];omega
 have e4:((8308:Int) == r)=false:=by rw[beq_eq_false_iff_ne];omega
 have e5:((8309:Int) == r)=false:=by rw[beq_eq_false_iff_ne];omega
 have e6:((8310:Int) == r)=false:=by rw[beq_eq_false_iff_ne];omega
 have e7:((8311:Int) == r)=false:=by rw[beq_eq_false_iff_ne];omega
 have e8:((8312:Int) == r)=false:=by rw[beq_eq_false_iff_ne];omega
 have e9:((8313:Int) == r)=false:=by rw[beq_eq_false_iff_ne];omega
 have c0:Hid (∀w,Calls Tryz.prog 378 #[.int .i64 0] w fun e w'=>e=.returned (.int .i32 8304)∧w'=w):=fun w=>zAh 0 (by omega) w
 have c1:Hid (∀w,Calls Tryz.prog 378 #[.int .i64 1] w fun e w'=>e=.returned (.int .i32 185)∧w'=w):=fun w=>zAh 1 (by omega) w
 have c2:Hid (∀w,Calls Tryz.prog 378 #[.int .i64 2] w fun e w'=>e=.returned (.int .i32 178)∧w'=w):=fun w=>zAh 2 (by omega) w
 have c3:Hid (∀w,Calls Tryz.prog 378 #[.int .i64 3] w fun e w'=>e=.returned (.int .i32 179)∧w'=w):=fun w=>zAh 3 (by omega) w
 have c4:Hid (∀w,Calls Tryz.prog 378 #[.int .i64 4] w fun e w'=>e=.returned (.int .i32 8308)∧w'=w):=fun w=>zAh 4 (by omega) w
 have c5:Hid (∀w,Calls Tryz.prog 378 #[.int .i64 5] w fun e w'=>e=.returned (.int .i32 8309)∧w'=w):=fun w=>zAh 5 (by omega) w
 have c6:Hid (∀w,Calls Tryz.prog 378 #[.int .i64 6] w fun e w'=>e=.returned (.int .i32 8310)∧w'=w):=fun w=>zAh 6 (by omega) w
 have c7:Hid (∀w,Calls Tryz.prog 378 #[.int .i64 7] w fun e w'=>e=.returned (.int .i32 8311)∧w'=w):=fun w=>zAh 7 (by omega) w
 have c8:Hid (∀w,Calls Tryz.prog 378 #[.int .i64 8] w fun e w'=>e=.returned (.int .i32 8312)∧w'=w):=fun w=>zAh 8 (by omega) w
 have c9:Hid (∀w,Calls Tryz.prog 378 #[.int .i64 9] w fun e w'=>e=.returned (.int .i32 8313)∧w'=w):=fun w=>zAh 9 (by omega) w
 clear h
 go_enter Tryz.func377,Tryz.ntmps377
 go_wp2
 refine wp_loop_rounds 11 ?_
 repeat any_goals (rw[rounds_succ];go_wp2_with (first
  |  (go_at_call_of 378 (Value.int .i64 0);refine(un c0 _).mono ?_;rintro e w' ⟨rfl,rfl⟩)
  |  (go_at_call_of 378 (Value.int .i64 1);refine(un c1 _).mono ?_;rintro e w' ⟨rfl,rfl⟩)
  |  (go_at_call_of 378 (Value.int .i64 2);refine(un c2 _).mono ?_;rintro e w' ⟨rfl,rfl⟩)
  |  (go_at_call_of 378 (Value.int .i64 3);refine(un c3 _).mono ?_;rintro e w' ⟨rfl,rfl⟩)
  |  (go_at_call_of 378 (Value.int .i64 4);refine(un c4 _).mono ?_;rintro e w' ⟨rfl,rfl⟩)
  |  (go_at_call_of 378 (Value.int .i64 5);refine(un c5 _).mono ?_;rintro e w' ⟨rfl,rfl⟩)
  |  (go_at_call_of 378 (Value.int .i64 6);refine(un c6 _).mono ?_;rintro e w' ⟨rfl,rfl⟩)
  |  (go_at_call_of 378 (Value.int .i64 7);refine(un c7 _).mono ?_;rintro e w' ⟨rfl,rfl⟩)
  |  (go_at_call_of 378 (Value.int .i64 8);refine(un c8 _).mono ?_;rintro e w' ⟨rfl,rfl⟩)
  |  (go_at_call_of 378 (Value.int .i64 9);refine(un c9 _).mono ?_;rintro e w' ⟨rfl,rfl⟩)))
 go_ret2
 exact⟨rfl,rfl⟩
theorem lowered_0 (w:World):Calls Tryz.prog 377 #[.int .i32 8304] w fun e w'=>e=.returned (.tuple #[.int .i64 0,.bool true])∧w'=w:=by
 have c0:Hid (∀w,Calls Tryz.prog 378 #[.int .i64 0] w fun e w'=>e=.returned (.int .i32 8304)∧w'=w):=fun w=>zAh 0 (by omega) w
 go_enter Tryz.func377,Tryz.ntmps377
 go_wp2
 refine wp_loop_rounds 1 ?_
 repeat any_goals (rw[rounds_succ];go_wp2_with (first
  | (go_at_call_of 378 (Value.int .i64 0);refine(un c0 _).mono ?_;rintro e w' ⟨rfl,rfl⟩)))
 go_ret2
 exact⟨rfl,rfl⟩
theorem lowered_1 (w:World):Calls Tryz.prog 377 #[.int .i32 185] w fun e w'=>e=.returned (.tuple #[.int .i64 1,.bool true])∧w'=w:=by
 have c0:Hid (∀w,Calls Tryz.prog 378 #[.int .i64 0] w fun e w'=>e=.returned (.int .i32 8304)∧w'=w):=fun w=>zAh 0 (by omega) w
 have c1:Hid (∀w,Calls Tryz.prog 378 #[.int .i64 1] w fun e w'=>e=.returned (.int .i32 185)∧w'=w):=fun w=>zAh 1 (by omega) w
 go_enter Tryz.func377,Tryz.ntmps377
 go_wp2
 refine wp_loop_rounds 2 ?_
 repeat any_goals (rw[rounds_succ];go_wp2_with (first
  | (go_at_call_of 378 (Value.int .i64 0);refine(un c0 _).mono ?_;rintro e w' ⟨rfl,rfl⟩)
  | (go_at_call_of 378 (Value.int .i64 1);refine(un c1 _).mono ?_;rintro e w' ⟨rfl,rfl⟩)))
 go_ret2
 exact⟨rfl,rfl⟩
theorem lowered_2 (w:World):Calls Tryz.prog 377 #[.int .i32 178] w fun e w'=>e=.returned (.tuple #[.int .i64 2,.bool true])∧w'=w:=by
 have c0:Hid (∀w,Calls Tryz.prog 378 #[.int .i64 0] w fun e w'=>e=.returned (.int .i32 8304)∧w'=w):=fun w=>zAh 0 (by omega) w
 have c1:Hid (∀w,Calls Tryz.prog 378 #[.int .i64 1] w fun e w'=>e=.returned (.int .i32 185)∧w'=w):=fun w=>zAh 1 (by omega) w
 have c2:Hid (∀w,Calls Tryz.prog 378 #[.int .i64 2] w fun e w'=>e=.returned (.int .i32 178)∧w'=w):=fun w=>zAh 2 (by omega) w
 go_enter Tryz.func377,Tryz.ntmps377
 go_wp2
 refine wp_loop_rounds 3 ?_
 repeat any_goals (rw[rounds_succ];go_wp2_with (first
  | (go_at_call_of 378 (Value.int .i64 0);refine(un c0 _).mono ?_;rintro e w' ⟨rfl,rfl⟩)
  | (go_at_call_of 378 (Value.int .i64 1);refine(un c1 _).mono ?_;rintro e w' ⟨rfl,rfl⟩)
  | (go_at_call_of 378 (Value.int .i64 2);refine(un c2 _).mono ?_;rintro e w' ⟨rfl,rfl⟩)))
 go_ret2
 exact⟨rfl,rfl⟩
theorem lowered_3 (w:World):Calls Tryz.prog 377 #[.int .i32 179] w fun e w'=>e=.returned (.tuple #[.int .i64 3,.bool true])∧w'=w:=by
 have c0:Hid (∀w,Calls Tryz.prog 378 #[.int .i64 0] w fun e w'=>e=.returned (.int .i32 8304)∧w'=w):=fun w=>zAh 0 (by omega) w
 have c1:Hid (∀w,Calls Tryz.prog 378 #[.int .i64 1] w fun e w'=>e=.returned (.int .i32 185)∧w'=w):=fun w=>zAh 1 (by omega) w
 have c2:Hid (∀w,Calls Tryz.prog 378 #[.int .i64 2] w fun e w'=>e=.returned (.int .i32 178)∧w'=w):=fun w=>zAh 2 (by omega) w
 have c3:Hid (∀w,Calls Tryz.prog 378 #[.int .i64 3] w fun e w'=>e=.returned (.int .i32 179)∧w'=w):=fun w=>zAh 3 (by omega) w
 go_enter Tryz.func377,Tryz.ntmps377
 go_wp2
 refine wp_loop_rounds 4 ?_
 repeat any_goals (rw[rounds_succ];go_wp2_with (first
  | (go_at_call_of 378 (Value.int .i64 0);refine(un c0 _).mono ?_;rintro e w' ⟨rfl,rfl⟩)
  | (go_at_call_of 378 (Value.int .i64 1);refine(un c1 _).mono ?_;rintro e w' ⟨rfl,rfl⟩)
  | (go_at_call_of 378 (Value.int .i64 2);refine(un c2 _).mono ?_;rintro e w' ⟨rfl,rfl⟩)
  | (go_at_call_of 378 (Value.int .i64 3);refine(un c3 _).mono ?_;rintro e w' ⟨rfl,rfl⟩)))
 go_ret2
 exact⟨rfl,rfl⟩
theorem lowered_4 (w:World):Calls Tryz.prog 377 #[.int .i32 8308] w fun e w'=>e=.returned (.tuple #[.int .i64 4,.bool true])∧w'=w:=by
 have c0:Hid (∀w,Calls Tryz.prog 378 #[.int .i64 0] w fun e w'=>e=.returned (.int .i32 8304)∧w'=w):=fun w=>zAh 0 (by omega) w
 have c1:Hid (∀w,Calls Tryz.prog 378 #[.int .i64 1] w fun e w'=>e=.returned (.int .i32 185)∧w'=w):=fun w=>zAh 1 (by omega) w
 have c2:Hid (∀w,Calls Tryz.prog 378 #[.int .i64 2] w fun e w'=>e=.returned (.int .i32 178)∧w'=w):=fun w=>zAh 2 (by omega) w
 have c3:Hid (∀w,Calls Tryz.prog 378 #[.int .i64 3] w fun e w'=>e=.returned (.int .i32 179)∧w'=w):=fun w=>zAh 3 (by omega) w
 have c4:Hid (∀w,Calls Tryz.prog 378 #[.int .i64 4] w fun e w'=>e=.returned (.int .i32 8308)∧w'=w):=fun w=>zAh 4 (by omega) w
 go_enter Tryz.func377,Tryz.ntmps377
 go_wp2
 refine wp_loop_rounds 5 ?_
 repeat any_goals (rw[rounds_succ];go_wp2_with (first
  | (go_at_call_of 378 (Value.int .i64 0);refine(un c0 _).mono ?_;rintro e w' ⟨rfl,rfl⟩)
  | (go_at_call_of 378 (Value.int .i64 1);refine(un c1 _).mono ?_;rintro e w' ⟨rfl,rfl⟩)
  | (go_at_call_of 378 (Value.int .i64 2);refine(un c2 _).mono ?_;rintro e w' ⟨rfl,rfl⟩)
  | (go_at_call_of 378 (Value.int .i64 3);refine(un c3 _).mono ?_;rintro e w' ⟨rfl,rfl⟩)
  | (go_at_call_of 378 (Value.int .i64 4);refine(un c4 _).mono ?_;rintro e w' ⟨rfl,rfl⟩)))
 go_ret2
 exact⟨rfl,rfl⟩
theorem lowered_5 (w:World):Calls Tryz.prog 377 #[.int .i32 8309] w fun e w'=>e=.returned (.tuple #[.int .i64 5,.bool true])∧w'=w:=by
 have c0:Hid (∀w,Calls Tryz.prog 378 #[.int .i64 0] w fun e w'=>e=.returned (.int .i32 8304)∧w'=w):=fun w=>zAh 0 (by omega) w
 have c1:Hid (∀w,Calls Tryz.prog 378 #[.int .i64 1] w fun e w'=>e=.returned (.int .i32 185)∧w'=w):=fun w=>zAh 1 (by omega) w
 have c2:Hid (∀w,Calls Tryz.prog 378 #[.int .i64 2] w fun e w'=>e=.returned (.int .i32 178)∧w'=w):=fun w=>zAh 2 (by omega) w
 have c3:Hid (∀w,Calls Tryz.prog 378 #[.int .i64 3] w fun e w'=>e=.returned (.int .i32 179)∧w'=w):=fun w=>zAh 3 (by omega) w
 have c4:Hid (∀w,Calls Tryz.prog 378 #[.int .i64 4] w fun e w'=>e=.returned (.int .i32 8308)∧w'=w):=fun w=>zAh 4 (by omega) w
 have c5:Hid (∀w,Calls Tryz.prog 378 #[.int .i64 5] w fun e w'=>e=.returned (.int .i32 8309)∧w'=w):=fun w=>zAh 5 (by omega) w
 go_enter Tryz.func377,Tryz.ntmps377
 go_wp2
 refine wp_loop_rounds 6 ?_
 repeat any_goals (rw[rounds_succ];go_wp2_with (first
  | (go_at_call_of 378 (Value.int .i64 0);refine(un c0 _).mono ?_;rintro e w' ⟨rfl,rfl⟩)
  | (go_at_call_of 378 (Value.int .i64 1);refine(un c1 _).mono ?_;rintro e w' ⟨rfl,rfl⟩)
  | (go_at_call_of 378 (Value.int .i64 2);refine(un c2 _).mono ?_;rintro e w' ⟨rfl,rfl⟩)
  | (go_at_call_of 378 (Value.int .i64 3);refine(un c3 _).mono ?_;rintro e w' ⟨rfl,rfl⟩)
  | (go_at_call_of 378 (Value.int .i64 4);refine(un c4 _).mono ?_;rintro e w' ⟨rfl,rfl⟩)
  | (go_at_call_of 378 (Value.int .i64 5);refine(un c5 _).mono ?_;rintro e w' ⟨rfl,rfl⟩)))
 go_ret2
 exact⟨rfl,rfl⟩
theorem lowered_6 (w:World):Calls Tryz.prog 377 #[.int .i32 8310] w fun e w'=>e=.returned (.tuple #[.int .i64 6,.bool true])∧w'=w:=by
 have c0:Hid (∀w,Calls Tryz.prog 378 #[.int .i64 0] w fun e w'=>e=.returned (.int .i32 8304)∧w'=w):=fun w=>zAh 0 (by omega) w
 have c1:Hid (∀w,Calls Tryz.prog 378 #[.int .i64 1] w fun e w'=>e=.returned (.int .i32 185)∧w'=w):=fun w=>zAh 1 (by omega) w
 have c2:Hid (∀w,Calls Tryz.prog 378 #[.int .i64 2] w fun e w'=>e=.returned (.int .i32 178)∧w'=w):=fun w=>zAh 2 (by omega) w
 have c3:Hid (∀w,Calls Tryz.prog 378 #[.int .i64 3] w fun e w'=>e=.returned (.int .i32 179)∧w'=w):=fun w=>zAh 3 (by omega) w
 have c4:Hid (∀w,Calls Tryz.prog 378 #[.int .i64 4] w fun e w'=>e=.returned (.int .i32 8308)∧w'=w):=fun w=>zAh 4 (by omega) w
 have c5:Hid (∀w,Calls Tryz.prog 378 #[.int .i64 5] w fun e w'=>e=.returned (.int .i32 8309)∧w'=w):=fun w=>zAh 5 (by omega) w
 have c6:Hid (∀w,Calls Tryz.prog 378 #[.int .i64 6] w fun e w'=>e=.returned (.int .i32 8310)∧w'=w):=fun w=>zAh 6 (by omega) w
 go_enter Tryz.func377,Tryz.ntmps377
 go_wp2
 refine wp_loop_rounds 7 ?_
 repeat any_goals (rw[rounds_succ];go_wp2_with (first
  | (go_at_call_of 378 (Value.int .i64 0);refine(un c0 _).mono ?_;rintro e w' ⟨rfl,rfl⟩)
  | (go_at_call_of 378 (Value.int .i64 1);refine(un c1 _).mono ?_;rintro e w' ⟨rfl,rfl⟩)
  | (go_at_call_of 378 (Value.int .i64 2);refine(un c2 _).mono ?_;rintro e w' ⟨rfl,rfl⟩)
  | (go_at_call_of 378 (Value.int .i64 3);refine(un c3 _).mono ?_;rintro e w' ⟨rfl,rfl⟩)
  | (go_at_call_of 378 (Value.int .i64 4);refine(un c4 _).mono ?_;rintro e w' ⟨rfl,rfl⟩)
  | (go_at_call_of 378 (Value.int .i64 5);refine(un c5 _).mono ?_;rintro e w' ⟨rfl,rfl⟩)
  | (go_at_call_of 378 (Value.int .i64 6);refine(un c6 _).mono ?_;rintro e w' ⟨rfl,rfl⟩)))
 go_ret2
 exact⟨rfl,rfl⟩
theorem lowered_7 (w:World):Calls Tryz.prog 377 #[.int .i32 8311] w fun e w'=>e=.returned (.tuple #[.int .i64 7,.bool true])∧w'=w:=by
 have c0:Hid (∀w,Calls Tryz.prog 378 #[.int .i64 0] w fun e w'=>e=.returned (.int .i32 8304)∧w'=w):=fun w=>zAh 0 (by omega) w
 have c1:Hid (∀w,Calls Tryz.prog 378 #[.int .i64 1] w fun e w'=>e=.returned (.int .i32 185)∧w'=w):=fun w=>zAh 1 (by omega) w
 have c2:Hid (∀w,Calls Tryz.prog 378 #[.int .i64 2] w fun e w'=>e=.returned (.int .i32 178)∧w'=w):=fun w=>zAh 2 (by omega) w
 have c3:Hid (∀w,Calls Tryz.prog 378 #[.int .i64 3] w fun e w'=>e=.returned (.int .i32 179)∧w'=w):=fun w=>zAh 3 (by omega) w
 have c4:Hid (∀w,Calls Tryz.prog 378 #[.int .i64 4] w fun e w'=>e=.returned (.int .i32 8308)∧w'=w):=fun w=>zAh 4 (by omega) w
 have c5:Hid (∀w,Calls Tryz.prog 378 #[.int .i64 5] w fun e w'=>e=.returned (.int .i32 8309)∧w'=w):=fun w=>zAh 5 (by omega) w
 have c6:Hid (∀w,Calls Tryz.prog 378 #[.int .i64 6] w fun e w'=>e=.returned (.int .i32 8310)∧w'=w):=fun w=>zAh 6 (by omega) w
 have c7:Hid (∀w,Calls Tryz.prog 378 #[.int .i64 7] w fun e w'=>e=.returned (.int .i32 8311)∧w'=w):=fun w=>zAh 7 (by omega) w
 go_enter Tryz.func377,Tryz.ntmps377
 go_wp2
 refine wp_loop_rounds 8 ?_
 repeat any_goals (rw[rounds_succ];go_wp2_with (first
  | (go_at_call_of 378 (Value.int .i64 0);refine(un c0 _).mono ?_;rintro e w' ⟨rfl,rfl⟩)
  | (go_at_call_of 378 (Value.int .i64 1);refine(un c1 _).mono ?_;rintro e w' ⟨rfl,rfl⟩)
  | (go_at_call_of 378 (Value.int .i64 2);refine(un c2 _).mono ?_;rintro e w' ⟨rfl,rfl⟩)
  | (go_at_call_of 378 (Value.int .i64 3);refine(un c3 _).mono ?_;rintro e w' ⟨rfl,rfl⟩)
  | (go_at_call_of 378 (Value.int .i64 4);refine(un c4 _).mono ?_;rintro e w' ⟨rfl,rfl⟩)
  | (go_at_call_of 378 (Value.int .i64 5);refine(un c5 _).mono ?_;rintro e w' ⟨rfl,rfl⟩)
  | (go_at_call_of 378 (Value.int .i64 6);refine(un c6 _).mono ?_;rintro e w' ⟨rfl,rfl⟩)
  | (go_at_call_of 378 (Value.int .i64 7);refine(un c7 _).mono ?_;rintro e w' ⟨rfl,rfl⟩)))
 go_ret2
 exact⟨rfl,rfl⟩
theorem lowered_8 (w:World):Calls Tryz.prog 377 #[.int .i32 8312] w fun e w'=>e=.returned (.tuple #[.int .i64 8,.bool true])∧w'=w:=by
 have c0:Hid (∀w,Calls Tryz.prog 378 #[.int .i64 0] w fun e w'=>e=.returned (.int .i32 8304)∧w'=w):=fun w=>zAh 0 (by omega) w
 have c1:Hid (∀w,Calls Tryz.prog 378 #[.int .i64 1] w fun e w'=>e=.returned (.int .i32 185)∧w'=w):=fun w=>zAh 1 (by omega) w
 have c2:Hid (∀w,Calls Tryz.prog 378 #[.int .i64 2] w fun e w'=>e=.returned (.int .i32 178)∧w'=w):=fun w=>zAh 2 (by omega) w
 have c3:Hid (∀w,Calls Tryz.prog 378 #[.int .i64 3] w fun e w'=>e=.returned (.int .i32 179)∧w'=w):=fun w=>zAh 3 (by omega) w
 have c4:Hid (∀w,Calls Tryz.prog 378 #[.int .i64 4] w fun e w'=>e=.returned (.int .i32 8308)∧w'=w):=fun w=>zAh 4 (by omega) w
 have c5:Hid (∀w,Calls Tryz.prog 378 #[.int .i64 5] w fun e w'=>e=.returned (.int .i32 8309)∧w'=w):=fun w=>zAh 5 (by omega) w
 have c6:Hid (∀w,Calls Tryz.prog 378 #[.int .i64 6] w fun e w'=>e=.returned (.int .i32 8310)∧w'=w):=fun w=>zAh 6 (by omega) w
 have c7:Hid (∀w,Calls Tryz.prog 378 #[.int .i64 7] w fun e w'=>e=.returned (.int .i32 8311)∧w'=w):=fun w=>zAh 7 (by omega) w
 have c8:Hid (∀w,Calls Tryz.prog 378 #[.int .i64 8] w fun e w'=>e=.returned (.int .i32 8312)∧w'=w):=fun w=>zAh 8 (by omega) w
 go_enter Tryz.func377,Tryz.ntmps377
 go_wp2
 refine wp_loop_rounds 9 ?_
 repeat any_goals (rw[rounds_succ];go_wp2_with (first
  | (go_at_call_of 378 (Value.int .i64 0);refine(un c0 _).mono ?_;rintro e w' ⟨rfl,rfl⟩)
  | (go_at_call_of 378 (Value.int .i64 1);refine(un c1 _).mono ?_;rintro e w' ⟨rfl,rfl⟩)
  | (go_at_call_of 378 (Value.int .i64 2);refine(un c2 _).mono ?_;rintro e w' ⟨rfl,rfl⟩)
  | (go_at_call_of 378 (Value.int .i64 3);refine(un c3 _).mono ?_;rintro e w' ⟨rfl,rfl⟩)
  | (go_at_call_of 378 (Value.int .i64 4);refine(un c4 _).mono ?_;rintro e w' ⟨rfl,rfl⟩)
  | (go_at_call_of 378 (Value.int .i64 5);refine(un c5 _).mono ?_;rintro e w' ⟨rfl,rfl⟩)
  | (go_at_call_of 378 (Value.int .i64 6);refine(un c6 _).mono ?_;rintro e w' ⟨rfl,rfl⟩)
  | (go_at_call_of 378 (Value.int .i64 7);refine(un c7 _).mono ?_;rintro e w' ⟨rfl,rfl⟩)
  | (go_at_call_of 378 (Value.int .i64 8);refine(un c8 _).mono ?_;rintro e w' ⟨rfl,rfl⟩)))
 go_ret2
 exact⟨rfl,rfl⟩
theorem lowered_9 (w:World):Calls Tryz.prog 377 #[.int .i32 8313] w fun e w'=>e=.returned (.tuple #[.int .i64 9,.bool true])∧w'=w:=by
 have c0:Hid (∀w,Calls Tryz.prog 378 #[.int .i64 0] w fun e w'=>e=.returned (.int .i32 8304)∧w'=w):=fun w=>zAh 0 (by omega) w
 have c1:Hid (∀w,Calls Tryz.prog 378 #[.int .i64 1] w fun e w'=>e=.returned (.int .i32 185)∧w'=w):=fun w=>zAh 1 (by omega) w
 have c2:Hid (∀w,Calls Tryz.prog 378 #[.int .i64 2] w fun e w'=>e=.returned (.int .i32 178)∧w'=w):=fun w=>zAh 2 (by omega) w
 have c3:Hid (∀w,Calls Tryz.prog 378 #[.int .i64 3] w fun e w'=>e=.returned (.int .i32 179)∧w'=w):=fun w=>zAh 3 (by omega) w
 have c4:Hid (∀w,Calls Tryz.prog 378 #[.int .i64 4] w fun e w'=>e=.returned (.int .i32 8308)∧w'=w):=fun w=>zAh 4 (by omega) w
 have c5:Hid (∀w,Calls Tryz.prog 378 #[.int .i64 5] w fun e w'=>e=.returned (.int .i32 8309)∧w'=w):=fun w=>zAh 5 (by omega) w
 have c6:Hid (∀w,Calls Tryz.prog 378 #[.int .i64 6] w fun e w'=>e=.returned (.int .i32 8310)∧w'=w):=fun w=>zAh 6 (by omega) w
 have c7:Hid (∀w,Calls Tryz.prog 378 #[.int .i64 7] w fun e w'=>e=.returned (.int .i32 8311)∧w'=w):=fun w=>zAh 7 (by omega) w
 have c8:Hid (∀w,Calls Tryz.prog 378 #[.int .i64 8] w fun e w'=>e=.returned (.int .i32 8312)∧w'=w):=fun w=>zAh 8 (by omega) w
 have c9:Hid (∀w,Calls Tryz.prog 378 #[.int .i64 9] w fun e w'=>e=.returned (.int .i32 8313)∧w'=w):=fun w=>zAh 9 (by omega) w
 go_enter Tryz.func377,Tryz.ntmps377
 go_wp2
 refine wp_loop_rounds 10 ?_
 repeat any_goals (rw[rounds_succ];go_wp2_with (first
  | (go_at_call_of 378 (Value.int .i64 0);refine(un c0 _).mono ?_;rintro e w' ⟨rfl,rfl⟩)
  | (go_at_call_of 378 (Value.int .i64 1);refine(un c1 _).mono ?_;rintro e w' ⟨rfl,rfl⟩)
  | (go_at_call_of 378 (Value.int .i64 2);refine(un c2 _).mono ?_;rintro e w' ⟨rfl,rfl⟩)
  | (go_at_call_of 378 (Value.int .i64 3);refine(un c3 _).mono ?_;rintro e w' ⟨rfl,rfl⟩)
  | (go_at_call_of 378 (Value.int .i64 4);refine(un c4 _).mono ?_;rintro e w' ⟨rfl,rfl⟩)
  | (go_at_call_of 378 (Value.int .i64 5);refine(un c5 _).mono ?_;rintro e w' ⟨rfl,rfl⟩)
  | (go_at_call_of 378 (Value.int .i64 6);refine(un c6 _).mono ?_;rintro e w' ⟨rfl,rfl⟩)
  | (go_at_call_of 378 (Value.int .i64 7);refine(un c7 _).mono ?_;rintro e w' ⟨rfl,rfl⟩)
  | (go_at_call_of 378 (Value.int .i64 8);refine(un c8 _).mono ?_;rintro e w' ⟨rfl,rfl⟩)
  | (go_at_call_of 378 (Value.int .i64 9);refine(un c9 _).mono ?_;rintro e w' ⟨rfl,rfl⟩)))
 go_ret2
 exact⟨rfl,rfl⟩
theorem isRaised_any (r:Int) (w:World):Calls Tryz.prog 374 #[.int .i32 r] w fun e w'=>e=.returned (.bool (decide (zFf r)))∧w'=w:=by
 by_cases h8304:r=8304
 ·subst h8304
  have H:=zAb (lowered_0 w);go_enter Tryz.func374,Tryz.ntmps374
  go_wp2_with (go_at_call 377;refine(un H).mono ?_;rintro e w' ⟨rfl,rfl⟩)
  go_ret
  exact⟨by rfl,rfl⟩
 by_cases h185:r=185
 ·subst h185
  have H:=zAb (lowered_1 w);go_enter Tryz.func374,Tryz.ntmps374
  go_wp2_with (go_at_call 377;refine(un H).mono ?_;rintro e w' ⟨rfl,rfl⟩)
  go_ret
  exact⟨by rfl,rfl⟩
 by_cases h178:r=178
 ·subst h178
  have H:=zAb (lowered_2 w);go_enter Tryz.func374,Tryz.ntmps374
  go_wp2_with (go_at_call 377;refine(un H).mono ?_;rintro e w' ⟨rfl,rfl⟩)
  go_ret
  exact⟨by rfl,rfl⟩
 by_cases h179:r=179
 ·subst h179
  have H:=zAb (lowered_3 w);go_enter Tryz.func374,Tryz.ntmps374
  go_wp2_with (go_at_call 377;refine(un H).mono ?_;rintro e w' ⟨rfl,rfl⟩)
  go_ret
  exact⟨by rfl,rfl⟩
 by_cases h8308:r=8308
 ·subst h8308
  have H:=zAb (lowered_4 w);go_enter Tryz.func374,Tryz.ntmps374
  go_wp2_with (go_at_call 377;refine(un H).mono ?_;rintro e w' ⟨rfl,rfl⟩)
  go_ret
  exact⟨by rfl,rfl⟩
 by_cases h8309:r=8309
 ·subst h8309
  have H:=zAb (lowered_5 w);go_enter Tryz.func374,Tryz.ntmps374
  go_wp2_with (go_at_call 377;refine(un H).mono ?_;rintro e w' ⟨rfl,rfl⟩)
  go_ret
  exact⟨by rfl,rfl⟩
 by_cases h8310:r=8310
 ·subst h8310
  have H:=zAb (lowered_6 w);go_enter Tryz.func374,Tryz.ntmps374
  go_wp2_with (go_at_call 377;refine(un H).mono ?_;rintro e w' ⟨rfl,rfl⟩)
  go_ret
  exact⟨by rfl,rfl⟩
 by_cases h8311:r=8311
 ·subst h8311
  have H:=zAb (lowered_7 w);go_enter Tryz.func374,Tryz.ntmps374
  go_wp2_with (go_at_call 377;refine(un H).mono ?_;rintro e w' ⟨rfl,rfl⟩)
  go_ret
  exact⟨by rfl,rfl⟩
 by_cases h8312:r=8312
 ·subst h8312
  have H:=zAb (lowered_8 w);go_enter Tryz.func374,Tryz.ntmps374
  go_wp2_with (go_at_call 377;refine(un H).mono ?_;rintro e w' ⟨rfl,rfl⟩)
  go_ret
  exact⟨by rfl,rfl⟩
 by_cases h8313:r=8313
 ·subst h8313
  have H:=zAb (lowered_9 w);go_enter Tryz.func374,Tryz.ntmps374
  go_wp2_with (go_at_call 377;refine(un H).mono ?_;rintro e w' ⟨rfl,rfl⟩)
  go_ret
  exact⟨by rfl,rfl⟩
 have H:=zAb (lowered_no r w (by omega))
 by_cases h8314:r=8314
 ·subst h8314
  go_enter Tryz.func374,Tryz.ntmps374
  go_wp2_with (go_at_call 377;refine(un H).mono ?_;rintro e w' ⟨rfl,rfl⟩)
  go_ret
  exact⟨by rfl,rfl⟩
 by_cases h8315:r=8315
 ·subst h8315
  go_enter Tryz.func374,Tryz.ntmps374
  go_wp2_with (go_at_call 377;refine(un H).mono ?_;rintro e w' ⟨rfl,rfl⟩)
  go_ret
  exact⟨by rfl,rfl⟩
 have hv:decide (zFf r)=false:=by rw[decide_eq_false_iff_not];unfold zFf;omega
 rw[hv];have e1:(r == 8314)=false:=by rw[beq_eq_false_iff_ne];exact h8314
 have e2:(r == 8315)=false:=by rw[beq_eq_false_iff_ne];exact h8315
 clear hv h8304 h185 h178 h179 h8308 h8309 h8310 h8311 h8312 h8313 h8314 h8315;go_enter Tryz.func374,Tryz.ntmps374
 go_wp2_with (go_at_call 377;refine(un H).mono ?_;rintro e w' ⟨rfl,rfl⟩)
 go_ret
 exact⟨rfl,rfl⟩
theorem class_any (r:Int) (w:World):Calls Tryz.prog 370 #[.int .i32 r] w fun e w'=>e=.returned (I (zCj r))∧w'=w:=by
 have HF:=zAb (folded_any r w);unfold zCj classF;generalize foldR r=f at *
 have HL:=zAb (isLetter_any f w);have HR:=zAb (isRaised_any f w);have HS:=zAb (isSign_any f w)
 by_cases h1:zBk f
 ·rw[if_pos h1]
  rw[show decide (zBk f)=true by simp[h1]]at HL;clear h1;go_enter Tryz.func370,Tryz.ntmps370
  go_wp2_with (first
   | (go_at_call 363;refine(un HF).mono ?_;rintro e w' ⟨rfl,rfl⟩)
   | (go_at_call 373;refine(un HL).mono ?_;rintro e w' ⟨rfl,rfl⟩)
   | (go_at_call 374;refine(un HR).mono ?_;rintro e w' ⟨rfl,rfl⟩)
   | (go_at_call 375;refine(un HS).mono ?_;rintro e w' ⟨rfl,rfl⟩))
  go_ret
  exact⟨rfl,rfl⟩
 rw[if_neg h1];rw[show decide (zBk f)=false by simp[h1]]at HL;clear h1
 by_cases h2:48≤f∧f≤57
 ·rw[if_pos h2]
  obtain⟨h2,h3⟩:=h2;go_enter Tryz.func370,Tryz.ntmps370
  go_wp2_with (first
   | (go_at_call 363;refine(un HF).mono ?_;rintro e w' ⟨rfl,rfl⟩)
   | (go_at_call 373;refine(un HL).mono ?_;rintro e w' ⟨rfl,rfl⟩)
   | (go_at_call 374;refine(un HR).mono ?_;rintro e w' ⟨rfl,rfl⟩)
   | (go_at_call 375;refine(un HS).mono ?_;rintro e w' ⟨rfl,rfl⟩))
  go_ret
  exact⟨rfl,rfl⟩
 rw[if_neg h2]
 by_cases h3:zFf f
 ·rw[if_pos h3]
  rw[show decide (zFf f)=true by simp[h3]]at HR;clear h3
  by_cases h4:48≤f
  ·have h5:57<f:=by omega
   have d57:decide (f≤57)=false:=by rw[decide_eq_false_iff_not];omega
   clear h2;go_enter Tryz.func370,Tryz.ntmps370
   go_wp2_with (first
    | (go_at_call 363;refine(un HF).mono ?_;rintro e w' ⟨rfl,rfl⟩)
    | (go_at_call 373;refine(un HL).mono ?_;rintro e w' ⟨rfl,rfl⟩)
    | (go_at_call 374;refine(un HR).mono ?_;rintro e w' ⟨rfl,rfl⟩)
    | (go_at_call 375;refine(un HS).mono ?_;rintro e w' ⟨rfl,rfl⟩))
   go_ret
   exact⟨rfl,rfl⟩
  ·clear h2
   go_enter Tryz.func370,Tryz.ntmps370
   go_wp2_with (first
    | (go_at_call 363;refine(un HF).mono ?_;rintro e w' ⟨rfl,rfl⟩)
    | (go_at_call 373;refine(un HL).mono ?_;rintro e w' ⟨rfl,rfl⟩)
    | (go_at_call 374;refine(un HR).mono ?_;rintro e w' ⟨rfl,rfl⟩)
    | (go_at_call 375;refine(un HS).mono ?_;rintro e w' ⟨rfl,rfl⟩))
   go_ret
   exact⟨rfl,rfl⟩
 rw[if_neg h3];rw[show decide (zFf f)=false by simp[h3]]at HR;clear h3
 by_cases h3:signP f
 ·rw[if_pos h3]
  rw[show decide (signP f)=true by simp[h3]]at HS;clear h3
  by_cases h4:48≤f
  ·have h5:57<f:=by omega
   have d57:decide (f≤57)=false:=by rw[decide_eq_false_iff_not];omega
   clear h2;go_enter Tryz.func370,Tryz.ntmps370
   go_wp2_with (first
    | (go_at_call 363;refine(un HF).mono ?_;rintro e w' ⟨rfl,rfl⟩)
    | (go_at_call 373;refine(un HL).mono ?_;rintro e w' ⟨rfl,rfl⟩)
    | (go_at_call 374;refine(un HR).mono ?_;rintro e w' ⟨rfl,rfl⟩)
    | (go_at_call 375;refine(un HS).mono ?_;rintro e w' ⟨rfl,rfl⟩))
   go_ret
   exact⟨rfl,rfl⟩
  ·clear h2
   go_enter Tryz.func370,Tryz.ntmps370
   go_wp2_with (first
    | (go_at_call 363;refine(un HF).mono ?_;rintro e w' ⟨rfl,rfl⟩)
    | (go_at_call 373;refine(un HL).mono ?_;rintro e w' ⟨rfl,rfl⟩)
    | (go_at_call 374;refine(un HR).mono ?_;rintro e w' ⟨rfl,rfl⟩)
    | (go_at_call 375;refine(un HS).mono ?_;rintro e w' ⟨rfl,rfl⟩))
   go_ret
   exact⟨rfl,rfl⟩
 rw[if_neg h3];rw[show decide (signP f)=false by simp[h3]]at HS;clear h3
 by_cases h4:48≤f
 ·have h5:57<f:=by omega
  have d57:decide (f≤57)=false:=by rw[decide_eq_false_iff_not];omega
  clear h2;go_enter Tryz.func370,Tryz.ntmps370
  go_wp2_with (first
   | (go_at_call 363;refine(un HF).mono ?_;rintro e w' ⟨rfl,rfl⟩)
   | (go_at_call 373;refine(un HL).mono ?_;rintro e w' ⟨rfl,rfl⟩)
   | (go_at_call 374;refine(un HR).mono ?_;rintro e w' ⟨rfl,rfl⟩)
   | (go_at_call 375;refine(un HS).mono ?_;rintro e w' ⟨rfl,rfl⟩))
  go_ret
  exact⟨rfl,rfl⟩
 ·clear h2
  go_enter Tryz.func370,Tryz.ntmps370
  go_wp2_with (first
   | (go_at_call 363;refine(un HF).mono ?_;rintro e w' ⟨rfl,rfl⟩)
   | (go_at_call 373;refine(un HL).mono ?_;rintro e w' ⟨rfl,rfl⟩)
   | (go_at_call 374;refine(un HR).mono ?_;rintro e w' ⟨rfl,rfl⟩)
   | (go_at_call 375;refine(un HS).mono ?_;rintro e w' ⟨rfl,rfl⟩))
  go_ret
  exact⟨rfl,rfl⟩
theorem begins_any (r:Int) (w:World):Calls Tryz.prog 360 #[.int .i32 r] w fun e w'=>e=.returned (.bool (zCj r == 1 || zCj r == 4))∧w'=w:=by
 have H:=zAb (class_any r w);generalize zCj r=c at *
 by_cases h1:c=1
 ·subst h1
  go_enter Tryz.func360,Tryz.ntmps360
  go_wp2_with (go_at_call 370;refine(un H).mono ?_;rintro e w' ⟨rfl,rfl⟩)
  go_ret
  exact⟨rfl,rfl⟩
 ·have e1:(c == 1)=false:=by rw[beq_eq_false_iff_ne];exact h1
  rw[e1,Bool.false_or];clear h1;go_enter Tryz.func360,Tryz.ntmps360
  go_wp2_with (go_at_call 370;refine(un H).mono ?_;rintro e w' ⟨rfl,rfl⟩)
  go_ret
  exact⟨rfl,rfl⟩
def goesB (a r:Int):Bool:=if zCj a=4 then(a == 176 && zCj r == 1)else(zCj r == 1 || zCj r == 2)
theorem goesOn_any (a r:Int) (w:World):Calls Tryz.prog 361 #[.int .i32 a,.int .i32 r] w fun e w'=>e=.returned (.bool (goesB a r))∧w'=w:=by
 have HR:=zAb (class_any r w);have HA:=zAb (class_any a w);unfold goesB;generalize zCj r=c at *
 generalize zCj a=d at *
 by_cases h4:d=4
 ·subst h4
  rw[if_pos rfl]
  cases hx:(a == 176)
  all_goals
   go_enter Tryz.func361,Tryz.ntmps361
   go_upto_region 2 with (go_at_call 370;refine(un HR).mono ?_;rintro e w' ⟨rfl,rfl⟩)
   go_wp2_with (go_at_call 370;refine(un HA).mono ?_;rintro e w' ⟨rfl,rfl⟩)
   go_ret
   exact⟨rfl,rfl⟩
 ·rw[if_neg h4]
  have e4:(d == 4)=false:=by rw[beq_eq_false_iff_ne];exact h4
  clear h4
  cases hx:(c == 1)
  all_goals
   go_enter Tryz.func361,Tryz.ntmps361
   go_upto_region 2 with (go_at_call 370;refine(un HR).mono ?_;rintro e w' ⟨rfl,rfl⟩)
   go_wp2_with (go_at_call 370;refine(un HA).mono ?_;rintro e w' ⟨rfl,rfl⟩)
   go_ret
   exact⟨rfl,rfl⟩
end Go.Proofs.YtliadckofhblnaaGreatDoor.Nm
namespace Go.Proofs
open Go.Shelf
def Tryz.lays169_ren:Go.Shelf.Ren:=⟨fun|169=>252|n=>n,fun|70=>263|9=>9|0=>0|72=>265|37=>208|127=>313|3=>3|5=>5|n=>n,fun|n=>n⟩
theorem Tryz.lays169:Go.Proofs.Lays.n169 Tryz.prog Tryz.lays169_ren:={
 mixed:=by kernel_rfl
 f169:=Tryz.func252.trans (congrArg some (by kernel_rfl))
 t0:=Tryz.underlying0
 a0:=Tryz.isAgg0
 z0:=Tryz.sizeOf0
 v0:=Tryz.zeroValue0
 t3:=Tryz.underlying3
 a3:=Tryz.isAgg3
 z3:=Tryz.sizeOf3
 v3:=Tryz.zeroValue3
 t9:=Tryz.underlying9
 a9:=Tryz.isAgg9
 z9:=Tryz.sizeOf9
 v9:=Tryz.zeroValue9
 t37:=Tryz.underlying208
 a37:=Tryz.isAgg208
 z37:=Tryz.sizeOf208
 v37:=Tryz.zeroValue208
 t70:=Tryz.underlying263
 a70:=Tryz.isAgg263
 z70:=Tryz.sizeOf263
 v70:=Tryz.zeroValue263
 t72:=Tryz.underlying265
 a72:=Tryz.isAgg265
 z72:=Tryz.sizeOf265
 v72:=Tryz.zeroValue265
 t127:=Tryz.underlying313
 a127:=Tryz.isAgg313
 z127:=Tryz.sizeOf313
 v127:=Tryz.zeroValue313 }
theorem Tryz.Builder_Extra_169:Builder.Extra Tryz.prog Tryz.lays169_ren:={
 sizeBuilder:=by kernel_rfl
 liesBuilder:=by kernel_rfl
 t5:=Tryz.underlying5
 a5:=Tryz.isAgg5
 z5:=Tryz.sizeOf5
 v5:=Tryz.zeroValue5
 infoByte:=by kernel_rfl
 cellsByte:=by kernel_rfl
 sizeByte:=by kernel_rfl
 neB5:=by decide }
open Go.RowKit in
theorem Tryz.Builder_String_any_k (B b:Nat) (l:List UInt8) (w:World) (h:Lib.IsBuilderF 265 5 B b (Lib.byteCells l) w) (hBw:B≤w.heap.size) :
  Calls Tryz.prog 252 #[.pointer (some ⟨b,0,none⟩)] w fun e w'=>e=.returned (.string ⟨l.toArray⟩)∧(Lib.IsBuilderF 265 5 B b (Lib.byteCells l) w'∧Below B w w'∧Lib.OthersKept 5 (some b) w w'):=Any.Builder_String_any_k Tryz.lays169 Tryz.Builder_Extra_169 B b l w h hBw
def Tryz.lays242_ren:Go.Shelf.Ren:=⟨fun|242=>371|278=>376|n=>n,fun|37=>208|21=>21|51=>309|4=>4|5=>5|46=>335|n=>n,fun|n=>n⟩
theorem Tryz.lays242:Go.Proofs.Lays.n242 Tryz.prog Tryz.lays242_ren:={
 mixed:=by kernel_rfl
 f242:=Tryz.func371.trans (congrArg some (by kernel_rfl))
 f278:=Tryz.func376.trans (congrArg some (by kernel_rfl))
 t4:=Tryz.underlying4
 a4:=Tryz.isAgg4
 z4:=Tryz.sizeOf4
 v4:=Tryz.zeroValue4
 t5:=Tryz.underlying5
 a5:=Tryz.isAgg5
 z5:=Tryz.sizeOf5
 v5:=Tryz.zeroValue5
 t21:=Tryz.underlying21
 a21:=Tryz.isAgg21
 z21:=Tryz.sizeOf21
 v21:=Tryz.zeroValue21
 t37:=Tryz.underlying208
 a37:=Tryz.isAgg208
 z37:=Tryz.sizeOf208
 v37:=Tryz.zeroValue208
 t46:=Tryz.underlying335
 a46:=Tryz.isAgg335
 z46:=Tryz.sizeOf335
 v46:=Tryz.zeroValue335
 t51:=Tryz.underlying309
 a51:=Tryz.isAgg309
 z51:=Tryz.sizeOf309
 v51:=Tryz.zeroValue309 }
open Go.RowKit in
theorem Tryz.utf8_AppendRune_row (B:Nat) (v:Value) (n:Nat) (xs:List Value) (r:Int) (hr0:-2147483648≤r) (hr1:r≤2147483647) (w:World) (hown:w.ownsRowF B 5 1 v n xs) (hlen:n+4≤140737488355328) (hBw:B≤w.heap.size) :
  Calls Tryz.prog 371 #[v,.int .i32 r] w fun e w'=>∃v',e=.returned v'∧w'.ownsRowF B 5 1 v' (n+(Lib.runeCells r).length) (xs ++ Lib.runeCells r)∧∃o,(w.alloc o).grownBy w' v.ownBlock:=Any.utf8_AppendRune_row Tryz.lays242 (by kernel_rfl) B v n xs r hr0 hr1 w hown hlen hBw
end Go.Proofs
namespace Go.Proofs.YtliadckofhblnaaGreatDoor.Nm
open Go.RowKit
theorem copyCheck_used (b:Nat) (w:World) (h0:w.cell? ⟨b,0,none⟩=some (.pointer (some ⟨b,0,none⟩))):Calls Tryz.prog 281 #[.pointer (some ⟨b,0,none⟩)] w fun e w'=>e=.returned (.tuple #[])∧w'=w:=by
 obtain⟨j,hj,_⟩:=Option.map_eq_some_iff.1 Tryz.Builder_Extra_169.toX72.sizeBuilder;have hj':Tryz.prog.info? 265=some j:=hj;have hT:Tryz.prog.underlying 263=some (.pointer 265):=by kernel_rfl
 go_enter Tryz.func281,Tryz.ntmps281
 go_wp2
 rw[Lib.run_neq_ptr_same w _ hT hj']
 go_wp2
 go_end0
 exact⟨rfl,rfl⟩
theorem copyCheck_fresh (b:Nat) (w:World) (h0:w.cell? ⟨b,0,none⟩=some (.pointer none)) (hf:w.frozen? ⟨b,0,none⟩=false) (hsh:w.shape? b=some (265,2)):Calls Tryz.prog 281 #[.pointer (some ⟨b,0,none⟩)] w fun e w'=>e=.returned (.tuple #[])∧w'=w.setCell ⟨b,0,none⟩ (.pointer (some ⟨b,0,none⟩)):=by
 obtain⟨j,hj,hjs⟩:=Option.map_eq_some_iff.1 Tryz.Builder_Extra_169.toX72.sizeBuilder;have hj':Tryz.prog.info? 265=some j:=hj;have hT:Tryz.prog.underlying 263=some (.pointer 265):=by kernel_rfl
 have hU:Tryz.prog.underlying 348=some .unsafePointer:=by kernel_rfl
 go_enter Tryz.func281,Tryz.ntmps281
 go_wp2
 rw[Lib.run_to_unsafe w ⟨b,0,none⟩ hT hU hj' (by rw[hjs];decide) hsh (Nat.zero_lt_succ 1)];simp only[Result.andThen];rw[Oper.upon_value]
 go_wp2
 rw[run_callFunc_extern Tryz.func310 (by kernel_rfl) (by kernel_rfl) (by kernel_rfl) (e:=Extern.AbiNoEscape.same) (by kernel_rfl)];rw[Lib.run_noEscape];simp only[Result.andThen];rw[Oper.upon_value]
 go_wp2
 rw[Lib.run_from_unsafe w ⟨b,0,none⟩ hU hT hj' hsh Tryz.Builder_Extra_169.toX72.liesBuilder];simp only[Result.andThen];rw[Oper.upon_value]
 go_wp2
 go_end0
 exact⟨rfl,rfl⟩
theorem copyCheck_any (B b:Nat) (bs:List Value) (w:World) (h:Lib.IsBuilderF 265 5 B b bs w):Calls Tryz.prog 281 #[.pointer (some ⟨b,0,none⟩)] w fun e w'=>e=.returned (.tuple #[])∧Lib.BuilderAtF 265 5 B b (.pointer (some ⟨b,0,none⟩)) bs w'∧Below B w w'∧Lib.OthersKept 5 (some b) w w':=by
 rcases h with h|h
 ·refine(copyCheck_fresh b w h.cell0 h.frozen0 h.shape).mono ?_
  rintro e w' ⟨rfl,rfl⟩;exact⟨rfl,h.used _,(Below.refl _ _).setCell h.1 _,(Lib.OthersKept.refl 5 (some b) w).setCell ⟨b,0,none⟩ rfl _⟩
 ·refine(copyCheck_used b w h.cell0).mono ?_
  rintro e w' ⟨rfl,rfl⟩;exact⟨rfl,h,Below.refl _ _,Lib.OthersKept.refl _ _ _⟩
theorem writeRune_any (B b:Nat) (bs:List Value) (r:Int) (hr0:-2147483648≤r) (hr1:r≤2147483647) (w:World) (h:Lib.IsBuilderF 265 5 B b bs w) (hlen:bs.length+4≤140737488355328) (hBw:B≤w.heap.size) :
  Calls Tryz.prog 362 #[.pointer (some ⟨b,0,none⟩),.int .i32 r] w fun e w'=>(∃n,e=.returned (.tuple #[I n,.nilIface]))∧Lib.BuilderAtF 265 5 B b (.pointer (some ⟨b,0,none⟩)) (bs ++ Lib.runeCells r) w'∧Below B w w'∧Lib.OthersKept 5 (some b) w w':=by
 have HC:=zAb (copyCheck_any B b bs w h);have hk4:=Lib.runeCells_le r;clear h;go_enter Tryz.func362,Tryz.ntmps362
 go_upto_region 2 with (go_at_call 281;refine(un HC).mono ?_;rintro e w1 ⟨rfl,h1,hb1,hk1⟩)
 have hB:=h1.1;obtain⟨_,v,hbk,hown,hne⟩:=h1
 obtain⟨ao,cap,rfl⟩:∃ao cap,v=.slice ao bs.length cap:=by
  rcases hown.2 with ⟨hv,h0⟩|⟨g,cap,cur,fz,hv,_⟩
  ·exact⟨none,0,by rw[hv,h0]⟩
  ·exact⟨_,_,hv⟩
 have c0:w1.cell? ⟨b,0,none⟩=some (.pointer (some ⟨b,0,none⟩)):=by rw[Lib.cell_of_heap hbk];rfl
 have c1:w1.cell? ⟨b,1,none⟩=some (.slice ao bs.length cap):=by rw[Lib.cell_of_heap hbk];rfl
 have HA:=zAb (Tryz.utf8_AppendRune_row B _ bs.length bs r hr0 hr1 w1 hown hlen (by have:=hb1.size;omega));have hlt:b<w1.heap.size:=(Array.getElem?_eq_some_iff.1 hbk).1;have HK:=zAb hbk;have HO:=zAb hown;have HN:=zAb hne;clear hbk hown hne
 go_upto_region 4 with (go_at_call 371;refine(un HA).mono ?_;rintro e w2 ⟨v',rfl,hown',o,hgrow⟩;have hb2:w2.heap[b]?=some (.cells #[.pointer (some ⟨b,0,none⟩),.slice ao bs.length cap] 265 (0,0)):=(by rw[hgrow.block b (by simp;omega) (fun e=>un HN e.symm),Lib.alloc_old w1 _ b hlt];exact un HK);have d0:w2.cell? ⟨b,0,none⟩=some (.pointer (some ⟨b,0,none⟩)):=(by rw[Lib.cell_of_heap hb2];rfl);have d1:w2.cell? ⟨b,1,none⟩=some (.slice ao bs.length cap):=(by rw[Lib.cell_of_heap hb2];rfl);have df:w2.frozen? ⟨b,1,none⟩=false:=(by simp[World.frozen?,hb2]);have HB2:=zAb hb2;have HG:=zAb hgrow;obtain⟨ao2,cap2,rfl⟩:∃ao cap,v'=.slice ao (bs.length+(Lib.runeCells r).length) cap:=(by rcases hown'.2 with ⟨hv,h0⟩|⟨g,cap,cur,fz,hv,_⟩;exact⟨none,0,by rw[hv,h0]⟩;exact⟨_,_,hv⟩);have HO2:=zAb hown';clear hb2 hown' hgrow)
 obtain⟨W3,hW3⟩:∃W3,W3=w2.setCell ⟨b,1,none⟩ (.slice ao2 (bs.length+(Lib.runeCells r).length) cap2):=⟨_,rfl⟩;rw[←hW3];have hb3:W3.heap[b]?=some (.cells #[.pointer (some ⟨b,0,none⟩),.slice ao2 (bs.length+(Lib.runeCells r).length) cap2] 265 (0,0)):=by rw[hW3];simp[World.setCell,Array.getElem?_modify,un HB2]
 have d1':W3.cell? ⟨b,1,none⟩=some (.slice ao2 (bs.length+(Lib.runeCells r).length) cap2):=by rw[Lib.cell_of_heap hb3];rfl
 have HB3:=zAb hb3;have HW3:=zAb hW3;clear hb3 hW3
 go_wp2
 go_ret2
 refine⟨⟨_,rfl⟩,?_,?_,?_⟩
 ·rw[un HW3]
  exact Lib.BuilderAtF.put (T:=265) (e:=5) hB (un HB2) (bs':=bs ++ Lib.runeCells r) (by simpa using un HO2) (by decide)
 ·rw[un HW3]
  exact((hb1.alloc (by have:=hb1.size;omega) _).grown (un HG) (by have:=hb1.size;simp;omega) (fun k hk=>((un HO).lt k hk).1)).setCell (p:=⟨b,1,none⟩) hB _
 ·rw[un HW3]
  exact((hk1.alloc _).grown (un HG) (Lib.ownsRowF_kind ((un HO).alloc _))).setCell ⟨b,1,none⟩ rfl _
end Go.Proofs.YtliadckofhblnaaGreatDoor.Nm

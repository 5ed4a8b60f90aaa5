/- What reg asks of a unit. -/
import Derived.Test.YtliadckofhblnaaGreatDoorLimb3
import Derived.Test.YtliadckofhblnaaGreatDoorLowered
import Derived.Shelf.Strings.Builder1
import Derived.Shelf.Small.Utf8
import Derived.Shelf.Small.Bits
import Derived.Shelf.Small.Strs
import Derived.Shelf.Small.Wraps
import Derived.Shelf.Strings.BuilderF
import Derived.Shelf.Strings.BuilderK
import Derived.Shelf.Strings.BuilderRune
import Derived.Shelf.Utf8.AppendRune
import Derived.Shelf.Utf8.AppendRunePlain
import Derived.Shelf.Strconv.Itoa0
import Derived.Shelf.Strconv.Itoa1
import Derived.Shelf.LaysM
import Derived.Shelf.Strconv.Itoa2
import Derived.Shelf.Strconv.Itoa3
import Derived.Shelf.Unicode.Decode
import Derived.Shelf.Unicode.DecodeSlow
import Derived.Shelf.Unicode.DecodeAny
import Derived.Ground.Names2Prog
import Derived.Shelf.Slices.Clone
import Derived.Shelf.Slices.CompactS
import Derived.Test.YtliadckofhblnaaGreatDoorProg
import Derived.Deep.Cut
import Derived.Laws.RangeAny
import Derived.Lib.RuneCount
import Derived.Lib.OthersKept
import Derived.Deep.Quiet
import Derived.BigQuiet
set_option maxHeartbeats 2000000
set_option maxRecDepth 100000
namespace Go.Proofs.YtliadckofhblnaaGreatDoor.Nm
open Go.RowKit
theorem isRaised_any (r:Int) (w:World):Calls Tryz.prog 374 #[.int .i32 r] w fun e w'=>e=.returned (.bool (decide (zFf r)))∧w'=w:=by
 by_cases h8304:r=8304
 ·subst h8304
  have H:=zAb (lowered_0 w);go_enter Tryz.func374,Tryz.ntmps374
  go_wp2_with (go_at_call 377;refine(un H).mono ?_;rintro e w' ⟨rfl,rfl⟩)
  go_ret
  exact⟨by rfl,rfl⟩
 by_cases h185:r=185
 ·subst h185
  have H:=zAb (lowered_1 w);go_enter Tryz.func374,Tryz.ntmps374
  go_wp2_with (go_at_call 377;refine(un H).mono ?_;rintro e w' ⟨rfl,rfl⟩)
  go_ret
  exact⟨by rfl,rfl⟩
 by_cases h178:r=178
 ·subst h178
  have H:=zAb (lowered_2 w);go_enter Tryz.func374,Tryz.ntmps374
  go_wp2_with (go_at_call 377;refine(un H).mono ?_;rintro e w' ⟨rfl,rfl⟩)
  go_ret
  exact⟨by rfl,rfl⟩
 by_cases h179:r=179
 ·subst h179
  have H:=zAb (lowered_3 w);go_enter Tryz.func374,Tryz.ntmps374
  go_wp2_with (go_at_call 377;refine(un H).mono ?_;rintro e w' ⟨rfl,rfl⟩)
  go_ret
  exact⟨by rfl,rfl⟩
 by_cases h8308:r=8308
 ·subst h8308
  have H:=zAb (lowered_4 w);go_enter Tryz.func374,Tryz.ntmps374
  go_wp2_with (go_at_call 377;refine(un H).mono ?_;rintro e w' ⟨rfl,rfl⟩)
  go_ret
  exact⟨by rfl,rfl⟩
 by_cases h8309:r=8309
 ·subst h8309
  have H:=zAb (lowered_5 w);go_enter Tryz.func374,Tryz.ntmps374
  go_wp2_with (go_at_call 377;refine(un H).mono ?_;rintro e w' ⟨rfl,rfl⟩)
  go_ret
  exact⟨by rfl,rfl⟩
 by_cases h8310:r=8310
 ·subst h8310
  have H:=zAb (lowered_6 w);go_enter Tryz.func374,Tryz.ntmps374
  go_wp2_with (go_at_call 377;refine(un H).mono ?_;rintro e w' ⟨rfl,rfl⟩)
  go_ret
  exact⟨by rfl,rfl⟩
 by_cases h8311:r=8311
 ·subst h8311
  have H:=zAb (lowered_7 w);go_enter Tryz.func374,Tryz.ntmps374
  go_wp2_with (go_at_call 377;refine(un H).mono ?_;rintro e w' ⟨rfl,rfl⟩)
  go_ret
  exact⟨by rfl,rfl⟩
 by_cases h8312:r=8312
 ·subst h8312
  have H:=zAb (lowered_8 w);go_enter Tryz.func374,Tryz.ntmps374
  go_wp2_with (go_at_call 377;refine(un H).mono ?_;rintro e w' ⟨rfl,rfl⟩)
  go_ret
  exact⟨by rfl,rfl⟩
 by_cases h8313:r=8313
 ·subst h8313
  have H:=zAb (lowered_9 w);go_enter Tryz.func374,Tryz.ntmps374
  go_wp2_with (go_at_call 377;refine(un H).mono ?_;rintro e w' ⟨rfl,rfl⟩)
  go_ret
  exact⟨by rfl,rfl⟩
 have H:=zAb (lowered_no r w (by omega))
 by_cases h8314:r=8314
 ·subst h8314
  go_enter Tryz.func374,Tryz.ntmps374
  go_wp2_with (go_at_call 377;refine(un H).mono ?_;rintro e w' ⟨rfl,rfl⟩)
  go_ret
  exact⟨by rfl,rfl⟩
 by_cases h8315:r=8315
 ·subst h8315
  go_enter Tryz.func374,Tryz.ntmps374
  go_wp2_with (go_at_call 377;refine(un H).mono ?_;rintro e w' ⟨rfl,rfl⟩)
  go_ret
  exact⟨by rfl,rfl⟩
 have hv:decide (zFf r)=false:=by rw[decide_eq_false_iff_not];unfold zFf;omega
 rw[hv];have e1:(r == 8314)=false:=by rw[beq_eq_false_iff_ne];exact h8314
 have e2:(r == 8315)=false:=by rw[beq_eq_false_iff_ne];exact h8315
 clear hv h8304 h185 h178 h179 h8308 h8309 h8310 h8311 h8312 h8313 h8314 h8315;go_enter Tryz.func374,Tryz.ntmps374
 go_wp2_with (go_at_call 377;refine(un H).mono ?_;rintro e w' ⟨rfl,rfl⟩)
 go_ret
 exact⟨rfl,rfl⟩
theorem class_any (r:Int) (w:World):Calls Tryz.prog 370 #[.int .i32 r] w fun e w'=>e=.returned (I (zCj r))∧w'=w:=by
 have HF:=zAb (folded_any r w);unfold zCj classF;generalize foldR r=f at *
 have HL:=zAb (isLetter_any f w);have HR:=zAb (isRaised_any f w);have HS:=zAb (isSign_any f w)
 by_cases h1:zBk f
 ·rw[if_pos h1]
  rw[show decide (zBk f)=true by simp[h1]]at HL;clear h1;go_enter Tryz.func370,Tryz.ntmps370
  go_wp2_with (first
   | (go_at_call 363;refine(un HF).mono ?_;rintro e w' ⟨rfl,rfl⟩)
   | (go_at_call 373;refine(un HL).mono ?_;rintro e w' ⟨rfl,rfl⟩)
   | (go_at_call 374;refine(un HR).mono ?_;rintro e w' ⟨rfl,rfl⟩)
   | (go_at_call 375;refine(un HS).mono ?_;rintro e w' ⟨rfl,rfl⟩))
  go_ret
  exact⟨rfl,rfl⟩
 rw[if_neg h1];rw[show decide (zBk f)=false by simp[h1]]at HL;clear h1
 by_cases h2:48≤f∧f≤57
 ·rw[if_pos h2]
  obtain⟨h2,h3⟩:=h2;go_enter Tryz.func370,Tryz.ntmps370
  go_wp2_with (first
   | (go_at_call 363;refine(un HF).mono ?_;rintro e w' ⟨rfl,rfl⟩)
   | (go_at_call 373;refine(un HL).mono ?_;rintro e w' ⟨rfl,rfl⟩)
   | (go_at_call 374;refine(un HR).mono ?_;rintro e w' ⟨rfl,rfl⟩)
   | (go_at_call 375;refine(un HS).mono ?_;rintro e w' ⟨rfl,rfl⟩))
  go_ret
  exact⟨rfl,rfl⟩
 rw[if_neg h2]
 by_cases h3:zFf f
 ·rw[if_pos h3]
  rw[show decide (zFf f)=true by simp[h3]]at HR;clear h3
  by_cases h4:48≤f
  ·have h5:57<f:=by omega
   have d57:decide (f≤57)=false:=by rw[decide_eq_false_iff_not];omega
   clear h2;go_enter Tryz.func370,Tryz.ntmps370
   go_wp2_with (first
    | (go_at_call 363;refine(un HF).mono ?_;rintro e w' ⟨rfl,rfl⟩)
    | (go_at_call 373;refine(un HL).mono ?_;rintro e w' ⟨rfl,rfl⟩)
    | (go_at_call 374;refine(un HR).mono ?_;rintro e w' ⟨rfl,rfl⟩)
    | (go_at_call 375;refine(un HS).mono ?_;rintro e w' ⟨rfl,rfl⟩))
   go_ret
   exact⟨rfl,rfl⟩
  ·clear h2
   go_enter Tryz.func370,Tryz.ntmps370
   go_wp2_with (first
    | (go_at_call 363;refine(un HF).mono ?_;rintro e w' ⟨rfl,rfl⟩)
    | (go_at_call 373;refine(un HL).mono ?_;rintro e w' ⟨rfl,rfl⟩)
    | (go_at_call 374;refine(un HR).mono ?_;rintro e w' ⟨rfl,rfl⟩)
    | (go_at_call 375;refine(un HS).mono ?_;rintro e w' ⟨rfl,rfl⟩))
   go_ret
   exact⟨rfl,rfl⟩
 rw[if_neg h3];rw[show decide (zFf f)=false by simp[h3]]at HR;clear h3
 by_cases h3:signP f
 ·rw[if_pos h3]
  rw[show decide (signP f)=true by simp[h3]]at HS;clear h3
  by_cases h4:48≤f
  ·have h5:57<f:=by omega
   have d57:decide (f≤57)=false:=by rw[decide_eq_false_iff_not];omega
   clear h2;go_enter Tryz.func370,Tryz.ntmps370
   go_wp2_with (first
    | (go_at_call 363;refine(un HF).mono ?_;rintro e w' ⟨rfl,rfl⟩)
    | (go_at_call 373;refine(un HL).mono ?_;rintro e w' ⟨rfl,rfl⟩)
    | (go_at_call 374;refine(un HR).mono ?_;rintro e w' ⟨rfl,rfl⟩)
    | (go_at_call 375;refine(un HS).mono ?_;rintro e w' ⟨rfl,rfl⟩))
   go_ret
   exact⟨rfl,rfl⟩
  ·clear h2
   go_enter Tryz.func370,Tryz.ntmps370
   go_wp2_with (first
    | (go_at_call 363;refine(un HF).mono ?_;rintro e w' ⟨rfl,rfl⟩)
    | (go_at_call 373;refine(un HL).mono ?_;rintro e w' ⟨rfl,rfl⟩)
    | (go_at_call 374;refine(un HR).mono ?_;rintro e w' ⟨rfl,rfl⟩)
    | (go_at_call 375;refine(un HS).mono ?_;rintro e w' ⟨rfl,rfl⟩))
   go_ret
   exact⟨rfl,rfl⟩
 rw[if_neg h3];rw[show decide (signP f)=false by simp[h3]]at HS;clear h3
 by_cases h4:48≤f
 ·have h5:57<f:=by omega
  have d57:decide (f≤57)=false:=by rw[decide_eq_false_iff_not];omega
  clear h2;go_enter Tryz.func370,Tryz.ntmps370
  go_wp2_with (first
   | (go_at_call 363;refine(un HF).mono ?_;rintro e w' ⟨rfl,rfl⟩)
   | (go_at_call 373;refine(un HL).mono ?_;rintro e w' ⟨rfl,rfl⟩)
   | (go_at_call 374;refine(un HR).mono ?_;rintro e w' ⟨rfl,rfl⟩)
   | (go_at_call 375;refine(un HS).mono ?_;rintro e w' ⟨rfl,rfl⟩))
  go_ret
  exact⟨rfl,rfl⟩
 ·clear h2
  go_enter Tryz.func370,Tryz.ntmps370
  go_wp2_with (first
   | (go_at_call 363;refine(un HF).mono ?_;rintro e w' ⟨rfl,rfl⟩)
   | (go_at_call 373;refine(un HL).mono ?_;rintro e w' ⟨rfl,rfl⟩)
   | (go_at_call 374;refine(un HR).mono ?_;rintro e w' ⟨rfl,rfl⟩)
   | (go_at_call 375;refine(un HS).mono ?_;rintro e w' ⟨rfl,rfl⟩))
  go_ret
  exact⟨rfl,rfl⟩
theorem begins_any (r:Int) (w:World):Calls Tryz.prog 360 #[.int .i32 r] w fun e w'=>e=.returned (.bool (zCj r == 1 || zCj r == 4))∧w'=w:=by
 have H:=zAb (class_any r w);generalize zCj r=c at *
 by_cases h1:c=1
 ·subst h1
  go_enter Tryz.func360,Tryz.ntmps360
  go_wp2_with (go_at_call 370;refine(un H).mono ?_;rintro e w' ⟨rfl,rfl⟩)
  go_ret
  exact⟨rfl,rfl⟩
 ·have e1:(c == 1)=false:=by rw[beq_eq_false_iff_ne];exact h1
  rw[e1,Bool.false_or];clear h1;go_enter Tryz.func360,Tryz.ntmps360
  go_wp2_with (go_at_call 370;refine(un H).mono ?_;rintro e w' ⟨rfl,rfl⟩)
  go_ret
  exact⟨rfl,rfl⟩
def goesB (a r:Int):Bool:=if zCj a=4 then(a == 176 && zCj r == 1)else(zCj r == 1 || zCj r == 2)
theorem goesOn_any (a r:Int) (w:World):Calls Tryz.prog 361 #[.int .i32 a,.int .i32 r] w fun e w'=>e=.returned (.bool (goesB a r))∧w'=w:=by
 have HR:=zAb (class_any r w);have HA:=zAb (class_any a w);unfold goesB;generalize zCj r=c at *
 generalize zCj a=d at *
 by_cases h4:d=4
 ·subst h4
  rw[if_pos rfl]
  cases hx:(a == 176)
  all_goals
   go_enter Tryz.func361,Tryz.ntmps361
   go_upto_region 2 with (go_at_call 370;refine(un HR).mono ?_;rintro e w' ⟨rfl,rfl⟩)
   go_wp2_with (go_at_call 370;refine(un HA).mono ?_;rintro e w' ⟨rfl,rfl⟩)
   go_ret
   exact⟨rfl,rfl⟩
 ·rw[if_neg h4]
  have e4:(d == 4)=false:=by rw[beq_eq_false_iff_ne];exact h4
  clear h4
  cases hx:(c == 1)
  all_goals
   go_enter Tryz.func361,Tryz.ntmps361
   go_upto_region 2 with (go_at_call 370;refine(un HR).mono ?_;rintro e w' ⟨rfl,rfl⟩)
   go_wp2_with (go_at_call 370;refine(un HA).mono ?_;rintro e w' ⟨rfl,rfl⟩)
   go_ret
   exact⟨rfl,rfl⟩
end Go.Proofs.YtliadckofhblnaaGreatDoor.Nm
namespace Go.Proofs
open Go.Shelf
def Tryz.lays169_ren:Go.Shelf.Ren:=⟨fun|169=>252|n=>n,fun|70=>263|9=>9|0=>0|72=>265|37=>208|127=>313|3=>3|5=>5|n=>n,fun|n=>n⟩
theorem Tryz.lays169:Go.Proofs.Lays.n169 Tryz.prog Tryz.lays169_ren:={
 mixed:=by kernel_rfl
 f169:=Tryz.func252.trans (congrArg some (by kernel_rfl))
 t0:=Tryz.underlying0
 a0:=Tryz.isAgg0
 z0:=Tryz.sizeOf0
 v0:=Tryz.zeroValue0
 t3:=Tryz.underlying3
 a3:=Tryz.isAgg3
 z3:=Tryz.sizeOf3
 v3:=Tryz.zeroValue3
 t9:=Tryz.underlying9
 a9:=Tryz.isAgg9
 z9:=Tryz.sizeOf9
 v9:=Tryz.zeroValue9
 t37:=Tryz.underlying208
 a37:=Tryz.isAgg208
 z37:=Tryz.sizeOf208
 v37:=Tryz.zeroValue208
 t70:=Tryz.underlying263
 a70:=Tryz.isAgg263
 z70:=Tryz.sizeOf263
 v70:=Tryz.zeroValue263
 t72:=Tryz.underlying265
 a72:=Tryz.isAgg265
 z72:=Tryz.sizeOf265
 v72:=Tryz.zeroValue265
 t127:=Tryz.underlying313
 a127:=Tryz.isAgg313
 z127:=Tryz.sizeOf313
 v127:=Tryz.zeroValue313 }
theorem Tryz.Builder_Extra_169:Builder.Extra Tryz.prog Tryz.lays169_ren:={
 sizeBuilder:=by kernel_rfl
 liesBuilder:=by kernel_rfl
 t5:=Tryz.underlying5
 a5:=Tryz.isAgg5
 z5:=Tryz.sizeOf5
 v5:=Tryz.zeroValue5
 infoByte:=by kernel_rfl
 cellsByte:=by kernel_rfl
 sizeByte:=by kernel_rfl
 neB5:=by decide }
open Go.RowKit in
theorem Tryz.Builder_String_any_k (B b:Nat) (l:List UInt8) (w:World) (h:Lib.IsBuilderF 265 5 B b (Lib.byteCells l) w) (hBw:B≤w.heap.size) :
  Calls Tryz.prog 252 #[.pointer (some ⟨b,0,none⟩)] w fun e w'=>e=.returned (.string ⟨l.toArray⟩)∧(Lib.IsBuilderF 265 5 B b (Lib.byteCells l) w'∧Below B w w'∧Lib.OthersKept 5 (some b) w w'):=Any.Builder_String_any_k Tryz.lays169 Tryz.Builder_Extra_169 B b l w h hBw
def Tryz.lays242_ren:Go.Shelf.Ren:=⟨fun|242=>371|278=>376|n=>n,fun|37=>208|21=>21|51=>309|4=>4|5=>5|46=>335|n=>n,fun|n=>n⟩
theorem Tryz.lays242:Go.Proofs.Lays.n242 Tryz.prog Tryz.lays242_ren:={
 mixed:=by kernel_rfl
 f242:=Tryz.func371.trans (congrArg some (by kernel_rfl))
 f278:=Tryz.func376.trans (congrArg some (by kernel_rfl))
 t4:=Tryz.underlying4
 a4:=Tryz.isAgg4
 z4:=Tryz.sizeOf4
 v4:=Tryz.zeroValue4
 t5:=Tryz.underlying5
 a5:=Tryz.isAgg5
 z5:=Tryz.sizeOf5
 v5:=Tryz.zeroValue5
 t21:=Tryz.underlying21
 a21:=Tryz.isAgg21
 z21:=Tryz.sizeOf21
 v21:=Tryz.zeroValue21
 t37:=Tryz.underlying208
 a37:=Tryz.isAgg208
 z37:=Tryz.sizeOf208
 v37:=Tryz.zeroValue208
 t46:=Tryz.underlying335
 a46:=Tryz.isAgg335
 z46:=Tryz.sizeOf335
 v46:=Tryz.zeroValue335
 t51:=Tryz.underlying309
 a51:=Tryz.isAgg309
 z51:=Tryz.sizeOf309
 v51:=Tryz.zeroValue309 }
open Go.RowKit in
theorem Tryz.utf8_AppendRune_row (B:Nat) (v:Value) (n:Nat) (xs:List Value) (r:Int) (hr0:-2147483648≤r) (hr1:r≤2147483647) (w:World) (hown:w.ownsRowF B 5 1 v n xs) (hlen:n+4≤140737488355328) (hBw:B≤w.heap.size) :
  Calls Tryz.prog 371 #[v,.int .i32 r] w fun e w'=>∃v',e=.returned v'∧w'.ownsRowF B 5 1 v' (n+(Lib.runeCells r).length) (xs ++ Lib.runeCells r)∧∃o,(w.alloc o).grownBy w' v.ownBlock:=Any.utf8_AppendRune_row Tryz.lays242 (by kernel_rfl) B v n xs r hr0 hr1 w hown hlen hBw
end Go.Proofs
namespace Go.Proofs.YtliadckofhblnaaGreatDoor.Nm
open Go.RowKit
theorem copyCheck_used (b:Nat) (w:World) (h0:w.cell? ⟨b,0,none⟩=some (.pointer (some ⟨b,0,none⟩))):Calls Tryz.prog 281 #[.pointer (some ⟨b,0,none⟩)] w fun e w'=>e=.returned (.tuple #[])∧w'=w:=by
 obtain⟨j,hj,_⟩:=Option.map_eq_some_iff.1 Tryz.Builder_Extra_169.toX72.sizeBuilder;have hj':Tryz.prog.info? 265=some j:=hj;have hT:Tryz.prog.underlying 263=some (.pointer 265):=by kernel_rfl
 go_enter Tryz.func281,Tryz.ntmps281
 go_wp2
 rw[Lib.run_neq_ptr_same w _ hT hj']
 go_wp2
 go_end0
 exact⟨rfl,rfl⟩
theorem copyCheck_fresh (b:Nat) (w:World) (h0:w.cell? ⟨b,0,none⟩=some (.pointer none)) (hf:w.frozen? ⟨b,0,none⟩=false) (hsh:w.shape? b=some (265,2)):Calls Tryz.prog 281 #[.pointer (some ⟨b,0,none⟩)] w fun e w'=>e=.returned (.tuple #[])∧w'=w.setCell ⟨b,0,none⟩ (.pointer (some ⟨b,0,none⟩)):=by
 obtain⟨j,hj,hjs⟩:=Option.map_eq_some_iff.1 Tryz.Builder_Extra_169.toX72.sizeBuilder;have hj':Tryz.prog.info? 265=some j:=hj;have hT:Tryz.prog.underlying 263=some (.pointer 265):=by kernel_rfl
 have hU:Tryz.prog.underlying 348=some .unsafePointer:=by kernel_rfl
 go_enter Tryz.func281,Tryz.ntmps281
 go_wp2
 rw[Lib.run_to_unsafe w ⟨b,0,none⟩ hT hU hj' (by rw[hjs];decide) hsh (Nat.zero_lt_succ 1)];simp only[Result.andThen];rw[Oper.upon_value]
 go_wp2
 rw[run_callFunc_extern Tryz.func310 (by kernel_rfl) (by kernel_rfl) (by kernel_rfl) (e:=Extern.AbiNoEscape.same) (by kernel_rfl)];rw[Lib.run_noEscape];simp only[Result.andThen];rw[Oper.upon_value]
 go_wp2
 rw[Lib.run_from_unsafe w ⟨b,0,none⟩ hU hT hj' hsh Tryz.Builder_Extra_169.toX72.liesBuilder];simp only[Result.andThen];rw[Oper.upon_value]
 go_wp2
 go_end0
 exact⟨rfl,rfl⟩
theorem copyCheck_any (B b:Nat) (bs:List Value) (w:World) (h:Lib.IsBuilderF 265 5 B b bs w):Calls Tryz.prog 281 #[.pointer (some ⟨b,0,none⟩)] w fun e w'=>e=.returned (.tuple #[])∧Lib.BuilderAtF 265 5 B b (.pointer (some ⟨b,0,none⟩)) bs w'∧Below B w w'∧Lib.OthersKept 5 (some b) w w':=by
 rcases h with h|h
 ·refine(copyCheck_fresh b w h.cell0 h.frozen0 h.shape).mono ?_
  rintro e w' ⟨rfl,rfl⟩;exact⟨rfl,h.used _,(Below.refl _ _).setCell h.1 _,(Lib.OthersKept.refl 5 (some b) w).setCell ⟨b,0,none⟩ rfl _⟩
 ·refine(copyCheck_used b w h.cell0).mono ?_
  rintro e w' ⟨rfl,rfl⟩;exact⟨rfl,h,Below.refl _ _,Lib.OthersKept.refl _ _ _⟩
theorem writeRune_any (B b:Nat) (bs:List Value) (r:Int) (hr0:-2147483648≤r) (hr1:r≤2147483647) (w:World) (h:Lib.IsBuilderF 265 5 B b bs w) (hlen:bs.length+4≤140737488355328) (hBw:B≤w.heap.size) :
  Calls Tryz.prog 362 #[.pointer (some ⟨b,0,none⟩),.int .i32 r] w fun e w'=>(∃n,e=.returned (.tuple #[I n,.nilIface]))∧Lib.BuilderAtF 265 5 B b (.pointer (some ⟨b,0,none⟩)) (bs ++ Lib.runeCells r) w'∧Below B w w'∧Lib.OthersKept 5 (some b) w w':=by
 have HC:=zAb (copyCheck_any B b bs w h);have hk4:=Lib.runeCells_le r;clear h;go_enter Tryz.func362,Tryz.ntmps362
 go_upto_region 2 with (go_at_call 281;refine(un HC).mono ?_;rintro e w1 ⟨rfl,h1,hb1,hk1⟩)
 have hB:=h1.1;obtain⟨_,v,hbk,hown,hne⟩:=h1
 obtain⟨ao,cap,rfl⟩:∃ao cap,v=.slice ao bs.length cap:=by
  rcases hown.2 with ⟨hv,h0⟩|⟨g,cap,cur,fz,hv,_⟩
  ·exact⟨none,0,by rw[hv,h0]⟩
  ·exact⟨_,_,hv⟩
 have c0:w1.cell? ⟨b,0,none⟩=some (.pointer (some ⟨b,0,none⟩)):=by rw[Lib.cell_of_heap hbk];rfl
 have c1:w1.cell? ⟨b,1,none⟩=some (.slice ao bs.length cap):=by rw[Lib.cell_of_heap hbk];rfl
 have HA:=zAb (Tryz.utf8_AppendRune_row B _ bs.length bs r hr0 hr1 w1 hown hlen (by have:=hb1.size;omega));have hlt:b<w1.heap.size:=(Array.getElem?_eq_some_iff.1 hbk).1;have HK:=zAb hbk;have HO:=zAb hown;have HN:=zAb hne;clear hbk hown hne
 go_upto_region 4 with (go_at_call 371;refine(un HA).mono ?_;rintro e w2 ⟨v',rfl,hown',o,hgrow⟩;have hb2:w2.heap[b]?=some (.cells #[.pointer (some ⟨b,0,none⟩),.slice ao bs.length cap] 265 (0,0)):=(by rw[hgrow.block b (by simp;omega) (fun e=>un HN e.symm),Lib.alloc_old w1 _ b hlt];exact un HK);have d0:w2.cell? ⟨b,0,none⟩=some (.pointer (some ⟨b,0,none⟩)):=(by rw[Lib.cell_of_heap hb2];rfl);have d1:w2.cell? ⟨b,1,none⟩=some (.slice ao bs.length cap):=(by rw[Lib.cell_of_heap hb2];rfl);have df:w2.frozen? ⟨b,1,none⟩=false:=(by simp[World.frozen?,hb2]);have HB2:=zAb hb2;have HG:=zAb hgrow;obtain⟨ao2,cap2,rfl⟩:∃ao cap,v'=.slice ao (bs.length+(Lib.runeCells r).length) cap:=(by rcases hown'.2 with ⟨hv,h0⟩|⟨g,cap,cur,fz,hv,_⟩;exact⟨none,0,by rw[hv,h0]⟩;exact⟨_,_,hv⟩);have HO2:=zAb hown';clear hb2 hown' hgrow)
 obtain⟨W3,hW3⟩:∃W3,W3=w2.setCell ⟨b,1,none⟩ (.slice ao2 (bs.length+(Lib.runeCells r).length) cap2):=⟨_,rfl⟩;rw[←hW3];have hb3:W3.heap[b]?=some (.cells #[.pointer (some ⟨b,0,none⟩),.slice ao2 (bs.length+(Lib.runeCells r).length) cap2] 265 (0,0)):=by rw[hW3];simp[World.setCell,Array.getElem?_modify,un HB2]
 have d1':W3.cell? ⟨b,1,none⟩=some (.slice ao2 (bs.length+(Lib.runeCells r).length) cap2):=by rw[Lib.cell_of_heap hb3];rfl
 have HB3:=zAb hb3;have HW3:=zAb hW3;clear hb3 hW3
 go_wp2
 go_ret2
 refine⟨⟨_,rfl⟩,?_,?_,?_⟩
 ·rw[un HW3]
  exact Lib.BuilderAtF.put (T:=265) (e:=5) hB (un HB2) (bs':=bs ++ Lib.runeCells r) (by simpa using un HO2) (by decide)
 ·rw[un HW3]
  exact((hb1.alloc (by have:=hb1.size;omega) _).grown (un HG) (by have:=hb1.size;simp;omega) (fun k hk=>((un HO).lt k hk).1)).setCell (p:=⟨b,1,none⟩) hB _
 ·rw[un HW3]
  exact((hk1.alloc _).grown (un HG) (Lib.ownsRowF_kind ((un HO).alloc _))).setCell ⟨b,1,none⟩ rfl _
def contB (p:Nat) (f r:Int):Bool:=if p=0 then(zCj r == 1 || zCj r == 4)else goesB f r
def firstOf (p:Nat) (f r:Int):Int:=if p=0 then r else f
inductive Lg (s:ByteArray):Nat→Int→List UInt8→List UInt8→Nat→Prop
 | stop (p:Nat) (f:Int) (acc:List UInt8):p<s.size→contB p f (Utf8.decode s p).1=false→Lg s p f acc acc p
 | done (p:Nat) (f:Int) (acc:List UInt8):¬p<s.size→Lg s p f acc acc s.size
 | step (p:Nat) (f:Int) (acc out:List UInt8) (q:Nat):p<s.size→contB p f (Utf8.decode s p).1=true→Lg s (p+(Utf8.decode s p).2) (firstOf p f (Utf8.decode s p).1) (acc ++ Lib.encodeRune (foldR (Utf8.decode s p).1)) out q→Lg s p f acc out q
theorem foldR_range (r:Int) (h0:0≤r) (h1:r≤2147483647):-2147483648≤foldR r∧foldR r≤2147483647:=by
 unfold foldR
 repeat' split
 all_goals omega
theorem zHs (a b:List UInt8):Lib.byteCells (a ++ b)=Lib.byteCells a ++ Lib.byteCells b:=by simp[Lib.byteCells]
theorem byteCells_len (a:List UInt8):(Lib.byteCells a).length=a.length:=by simp[Lib.byteCells]
theorem longest_any (s:ByteArray) (w:World) (hs:s.size≤1000000000000) :
 Calls Tryz.prog 300 #[.string s] w fun e w'=>(∃out q,e=.returned (.tuple #[.string ⟨out.toArray⟩,I (q:Nat)])∧Lg s 0 0 [] out q)∧Bw w w':=by
 go_enter Tryz.func300,Tryz.ntmps300
 go_upto_region 4 with fail
 go_loopw [5] (fun f wr=>∃(p:Nat) (fr:Int) (acc:List UInt8),f=.int .i32 fr∧acc.length≤4*p∧Hid (wr.heap[w.heap.size+1]?=some (.stringIter s p))∧Hid (Lib.IsBuilderF 265 5 w.heap.size w.heap.size (Lib.byteCells acc) wr)∧Hid (Bw w wr)∧Hid (∀out q,Lg s p fr acc out q→Lg s 0 0 [] out q)) (fun _ wr=>s.size - wr.iterPos (w.heap.size+1))
 case atStart=>
  refine⟨0,0,[],rfl,by simp,?_,?_,bA.alloc (by simp) _,fun _ _ h=>h⟩
  ·show _=_
   rw[show w.heap.size+1=(w.alloc (.cells #[.pointer none,.slice none 0 0] 265)).heap.size by simp];exact World.iter_heap _ _ _
  ·refine .inl ⟨Nat.le_refl _,.slice none 0 0,?_,World.ownsRowF_nil _ _ _ _,by simp[Value.ownBlock]⟩
   exact(Below.heap_alloc _ _ _ (by simp)).trans (heap_alloc_new w _)
 case round=>
  obtain⟨p,fr,acc,rfl,hacc,HI,HBU,HB,HL⟩:=hrel;have hB0:w.heap.size≤wr.heap.size:=(un HB).size
  by_cases hlt:p<s.size
  ·obtain⟨r,p2,hr,hp2⟩:∃(r:Int) (p2:Nat),((Utf8.decode s p).1:Int)=r∧p+(Utf8.decode s p).2=p2:=⟨_,_,rfl,rfl⟩
   have hw:=Lib.decode_width_pos s p hlt;have hpp:p<p2:=by omega
   have hr01:0≤r∧r≤2147483647:=by have:=decode_le s p;omega
   obtain⟨W2,hW2⟩:∃W2,W2=wr.iterAt (w.heap.size+1) s p2:=⟨_,rfl⟩
   have hnx:∀ty,(Instr.next (.pointer (some ⟨w.heap.size+1,0,none⟩)) true ty).run Tryz.prog wr=.ok (.tuple #[.bool true,I p,.int .i32 r]) W2:=fun ty=>by
    rw[hW2,←hp2,←hr];exact Lib.run_next_any_at wr _ s p ty (un HI) hlt
   have HI2:Hid (W2.heap[w.heap.size+1]?=some (.stringIter s p2)):=by show W2.heap[_]?=_;rw[hW2];exact Lib.iterAt_heap _ _ _ _ _ (un HI)
   have HBU2:Hid (Lib.IsBuilderF 265 5 w.heap.size w.heap.size (Lib.byteCells acc) W2):=by show Lib.IsBuilderF _ _ _ _ _ W2;rw[hW2];exact(un HBU).iterAt (un HI) _
   have HB2:Hid (Bw w W2):=by show Below _ _ W2;rw[hW2];exact Lib.below_iterAt (un HB) (by omega) _ _
   have HM:Hid (wr.iterPos (w.heap.size+1)=p):=iterPos_of (un HI);have HBG:=zAb (begins_any r W2);have HGO:=zAb (fun f=>goesOn_any f r W2);have HFO:=zAb (folded_any r W2);have hfr:=foldR_range r hr01.1 hr01.2;have HWR:=zAb (writeRune_any w.heap.size w.heap.size (Lib.byteCells acc) (foldR r) hfr.1 hfr.2 W2 (un HBU2) (by rw[byteCells_len];omega) (un HB2).size);have HSG:=zAb (Tryz.Builder_String_any_k w.heap.size w.heap.size acc W2 (un HBU2) (un HB2).size)
   have hacc2:(acc ++ Lib.encodeRune (foldR r)).length≤4*p2:=by
    have h1:=(Lib.runeCells_le (foldR r)).2;rw[Lib.runeCells_length]at h1;rw[List.length_append];omega
   cases hc:contB p fr r with
   | false=>
    have HST:Hid (Lg s 0 0 [] acc p):=un HL acc p (.stop p fr acc hlt (by rw[hr];exact hc));clear hW2 HI HBU HB HL hr hp2 hw
    by_cases hp0:p=0
    ·subst hp0
     have hcc:(zCj r == 1 || zCj r == 4)=false:=hc;rw[hcc]at HBG;clear hc hcc
     go_wp2_with (first
      | (go_at_call 360;refine(un HBG).mono ?_;rintro e w3 ⟨rfl,rfl⟩)
      | (go_at_call 252;refine(un HSG).mono ?_;rintro e w3 ⟨rfl,_,hb3,_⟩))
     go_ret2
     exact⟨⟨acc,0,rfl,un HST⟩,(un HB2).trans hb3⟩
    ·have hcc:goesB fr r=false:=by unfold contB at hc;rw[if_neg hp0]at hc;exact hc
     have HG2:=zAb (un HGO fr);rw[hcc]at HG2;have hpz:((p:Int) == 0)=false:=by rw[beq_eq_false_iff_ne];omega
     have hpp0:0<p:=by omega
     clear hc hcc hp0
     go_wp2_with (first
      | (go_at_call 361;refine(un HG2).mono ?_;rintro e w3 ⟨rfl,rfl⟩)
      | (go_at_call 252;refine(un HSG).mono ?_;rintro e w3 ⟨rfl,_,hb3,_⟩))
     go_ret2
     exact⟨⟨acc,p,rfl,un HST⟩,(un HB2).trans hb3⟩
   | true=>
    obtain⟨FR,hFR⟩:∃FR,FR=firstOf p fr r:=⟨_,rfl⟩;have HST:Hid (∀out q,Lg s p2 FR (acc ++ Lib.encodeRune (foldR r)) out q→Lg s 0 0 [] out q):=fun out q h=>un HL out q (.step p fr acc out q hlt (by rw[hr];exact hc) (by rw[hr,hp2,←hFR];exact h))
    clear hW2 HI HBU HB HL hr hp2 hw
    by_cases hp0:p=0
    ·subst hp0
     have hcc:(zCj r == 1 || zCj r == 4)=true:=hc;rw[hcc]at HBG;obtain rfl:FR=r:=hFR;clear hc hcc
     go_wp2_with (first
      | (go_at_call 360;refine(un HBG).mono ?_;rintro e w3 ⟨rfl,rfl⟩)
      | (go_at_call 363;refine(un HFO).mono ?_;rintro e w3 ⟨rfl,rfl⟩)
      | (go_at_call 362;refine(un HWR).mono ?_;rintro e w4 ⟨⟨n4,rfl⟩,hbu4,hb4,hk4⟩))
     have HI4:Hid (w4.heap[w.heap.size+1]?=some (.stringIter s p2)):=hk4.iter (un HI2) (by omega);have HBU4:Hid (Lib.IsBuilderF 265 5 w.heap.size w.heap.size (Lib.byteCells (acc ++ Lib.encodeRune (foldR FR))) w4):=.inr (by rw[zHs,Lib.byteCells_encodeRune];exact hbu4);have HB4:Hid (Bw w w4):=(un HB2).trans hb4;clear hbu4 hb4 hk4
     go_roundw
     case rel=>exact⟨p2,FR,acc ++ Lib.encodeRune (foldR FR),rfl,hacc2,HI4,HBU4,HB4,HST⟩
     case measure=>rw[un HM,iterPos_of (un HI4)];omega
    ·have hcc:goesB fr r=true:=by unfold contB at hc;rw[if_neg hp0]at hc;exact hc
     have HG2:=zAb (un HGO fr);rw[hcc]at HG2;obtain rfl:FR=fr:=by rw[hFR];unfold firstOf;rw[if_neg hp0]
     have hpz:((p:Int) == 0)=false:=by rw[beq_eq_false_iff_ne];omega
     have hpp0:0<p:=by omega
     clear hc hcc hp0 hFR
     go_wp2_with (first
      | (go_at_call 361;refine(un HG2).mono ?_;rintro e w3 ⟨rfl,rfl⟩)
      | (go_at_call 363;refine(un HFO).mono ?_;rintro e w3 ⟨rfl,rfl⟩)
      | (go_at_call 362;refine(un HWR).mono ?_;rintro e w4 ⟨⟨n4,rfl⟩,hbu4,hb4,hk4⟩))
     have HI4:Hid (w4.heap[w.heap.size+1]?=some (.stringIter s p2)):=hk4.iter (un HI2) (by omega);have HBU4:Hid (Lib.IsBuilderF 265 5 w.heap.size w.heap.size (Lib.byteCells (acc ++ Lib.encodeRune (foldR r))) w4):=.inr (by rw[zHs,Lib.byteCells_encodeRune];exact hbu4);have HB4:Hid (Bw w w4):=(un HB2).trans hb4;clear hbu4 hb4 hk4
     go_roundw
     case rel=>exact⟨p2,FR,acc ++ Lib.encodeRune (foldR r),rfl,hacc2,HI4,HBU4,HB4,HST⟩
     case measure=>rw[un HM,iterPos_of (un HI4)];omega
  ·have hnx:∀ty,(Instr.next (.pointer (some ⟨w.heap.size+1,0,none⟩)) true ty).run Tryz.prog wr=.ok (.tuple #[.bool false]) wr:=fun ty=>Lib.run_next_end_at wr _ s _ ty (un HI) hlt
   have HST:Hid (Lg s 0 0 [] acc s.size):=un HL acc s.size (.done p fr acc hlt);have HSG:=zAb (Tryz.Builder_String_any_k w.heap.size w.heap.size acc wr (un HBU) hB0);clear HI HBU HL
   go_wp2_with (go_at_call 252;refine(un HSG).mono ?_;rintro e w3 ⟨rfl,_,hb3,_⟩)
   go_ret2
   exact⟨⟨acc,s.size,rfl,un HST⟩,(un HB).trans hb3⟩
theorem res3t {fn:Func} {a b c:Tmp} (h:fn.results=#[.tmp a,.tmp b,.tmp c]) (tmps:Array Value) (w:World):(results fn tmps).run Tryz.prog w=.ok (.tuple #[tmps.getD a undef,tmps.getD b undef,tmps.getD c undef]) w:=by
 simp[results,h]
def foldV (s:ByteArray) (out:List UInt8) (q:Nat):Value :=
 if s.size=0∨q<s.size then .tuple #[G #[],I 60,I (q:Nat)]
 else if 40<out.length then .tuple #[G #[],I 4,I 0]
 else if out=[105,110]then .tuple #[G #[],I 201,I 0]
 else .tuple #[.string ⟨out.toArray⟩,I 0,I 0]
theorem empty_size (s:ByteArray):s.toList.isEmpty=decide (s.size=0):=by
 rw[ByteArray.toList_eq];have hl:s.data.toList.length=s.size:=by simp
 rw[←hl]
 cases s.data.toList<;>simp
theorem fold_any (s:ByteArray) (w:World) (hs:s.size≤1000000000000) :
 Calls Tryz.prog 268 #[.string s] w fun e w'=>(∃out q,e=.returned (foldV s out q)∧Lg s 0 0 [] out q)∧Bw w w':=by
 have HL:=zAb (longest_any s w hs);have hse:=empty_size s;go_enter Tryz.func268,Tryz.ntmps268
 go_upto_region 2 with (go_at_call 300;refine(un HL).mono ?_;rintro e w1 ⟨⟨out,q,rfl,hlg⟩,hb1⟩)
 have HG:=zAb hlg;have HB:=zAb hb1;have hos:(⟨out.toArray⟩:ByteArray).size=out.length:=by simp[ByteArray.size]
 have hot:(out == [105,110])=decide (out=[105,110]):=by rw[Bool.eq_iff_iff,beq_iff_eq,decide_eq_true_iff]
 clear hlg hb1 HL
 by_cases h0:s.size=0
 ·have HV:Hid (foldV s out q=.tuple #[G #[],I 60,I (q:Nat)]):=if_pos (.inl h0)
  rw[show decide (s.size=0)=true by simp[h0]]at hse;clear h0 hot
  go_wp2
  exact bodyPost_ret (res3t Tryz.results268 _ _) rfl ⟨⟨out,q,by rw[un HV];rfl,un HG⟩,un HB⟩
 ·rw [show decide (s.size=0)=false by simp[h0]]at hse
  by_cases h1:q<s.size
  ·have HV:Hid (foldV s out q=.tuple #[G #[],I 60,I (q:Nat)]):=if_pos (.inr h1)
   clear h0 hot
   go_wp2
   exact bodyPost_ret (res3t Tryz.results268 _ _) rfl ⟨⟨out,q,by rw[un HV];rfl,un HG⟩,un HB⟩
  ·have hn:¬(s.size=0∨q<s.size):=by omega
   by_cases h2:40<out.length
   ·have HV:Hid (foldV s out q=.tuple #[G #[],I 4,I 0]):=(if_neg hn).trans (if_pos h2)
    clear h0 hot hn
    go_wp2
    exact bodyPost_ret (res3t Tryz.results268 _ _) rfl ⟨⟨out,q,by rw[un HV];rfl,un HG⟩,un HB⟩
   ·by_cases h3:out=[105,110]
    ·have HV:Hid (foldV s out q=.tuple #[G #[],I 201,I 0]):=((if_neg hn).trans (if_neg h2)).trans (if_pos h3)
     rw[show decide (out=[105,110])=true by simp[h3]]at hot;clear h0 hn h3
     go_wp2
     exact bodyPost_ret (res3t Tryz.results268 _ _) rfl ⟨⟨out,q,by rw[un HV];rfl,un HG⟩,un HB⟩
    ·have HV:Hid (foldV s out q=.tuple #[.string ⟨out.toArray⟩,I 0,I 0]):=((if_neg hn).trans (if_neg h2)).trans (if_neg h3)
     rw[show decide (out=[105,110])=false by simp[h3]]at hot;clear h0 hn h3
     go_wp2
     exact bodyPost_ret (res3t Tryz.results268 _ _) rfl ⟨⟨out,q,by rw[un HV];rfl,un HG⟩,un HB⟩
end Go.Proofs.YtliadckofhblnaaGreatDoor.Nm
namespace Go.Proofs.YtliadckofhblnaaGreatDoor
open Go.RowKit
theorem lg_det {s:ByteArray} {p:Nat} {f:Int} {acc o1 o2:List UInt8} {q1 q2:Nat} (h1:Nm.Lg s p f acc o1 q1) (h2:Nm.Lg s p f acc o2 q2):o1=o2∧q1=q2:=by
  induction h1 with
  | stop p f acc hl hc=>
    cases h2 with
    | stop=>exact⟨rfl,rfl⟩
    | done _ _ _ hn=>exact absurd hl hn
    | step _ _ _ _ _ _ hc' _=>rw[hc]at hc';cases hc'
  | done p f acc hn=>
    cases h2 with
    | stop _ _ _ hl=>exact absurd hl hn
    | done=>exact⟨rfl,rfl⟩
    | step _ _ _ _ _ hl _ _=>exact absurd hl hn
  | step p f acc out q hl hc _ ih=>
    cases h2 with
    | stop _ _ _ _ hc'=>rw[hc]at hc';cases hc'
    | done _ _ _ hn=>exact absurd hl hn
    | step _ _ _ _ _ _ _ h'=>exact ih h'
theorem nameRight (s:ByteArray) (w:World) (h:Nm.Lg s 0 0 [] s.data.toList s.size) (h0:s.size≠0) (h40:s.size≤40) (hin:s.data.toList≠[105,110]) :
    Calls Tryz.prog 234 #[.string s] w fun r w'=>r=.returned (.bool true)∧Bw w w':=by
  have HF : Hid (∀ W, Calls Tryz.prog 268 #[.string s] W fun e w'=>e=.returned (.tuple #[.string s,I 0,I 0])∧Bw W w'):=fun W=>by
    refine(Nm.fold_any s W (by omega)).mono ?_;rintro e w' ⟨⟨out,q,rfl,hl⟩,hb⟩;obtain⟨rfl,rfl⟩:=lg_det h hl;refine⟨?_,hb⟩;unfold Nm.foldV
    rw [if_neg (by omega), if_neg (by have:s.data.toList.length=s.size:=by simp
                                      omega),if_neg hin]
  clear h h0 h40 hin;go_enter Tryz.func234,Tryz.ntmps234
  go_wp2_with (go_at_call 268;go_must(refine(un HF _).mono ?_;rintro e w1 ⟨rfl,hb⟩;have HB:=zAb hb;clear hb))
  go_ret
  exact⟨rfl,un HB⟩
theorem lg_step {s:ByteArray} {p:Nat} {f:Int} {acc out:List UInt8} {q:Nat} (p':Nat) (f':Int) (acc':List UInt8) (h1:p<s.size) (h2:Nm.contB p f (Utf8.decode s p).1=true) (h3:p+(Utf8.decode s p).2=p') (h4:Nm.firstOf p f (Utf8.decode s p).1=f') (h5:acc ++ Lib.encodeRune (Nm.foldR (Utf8.decode s p).1)=acc') (h:Nm.Lg s p' f' acc' out q):Nm.Lg s p f acc out q:=by
  subst h3 h4 h5;exact Nm.Lg.step _ _ _ _ _ h1 h2 h
theorem zAv (a c:ByteArray) (w:World) (h1:∀W,Calls Tryz.prog 234 #[.string a] W fun r w'=>r=.returned (.bool true)∧Bw W w') (h2:∀W,Calls Tryz.prog 234 #[.string c] W fun r w'=>r=.returned (.bool true)∧Bw W w') :
    Calls Tryz.prog 169 #[.string a,.string c] w fun r w'=>r=.returned (.bool true)∧Bw w w':=by
  have H1:=zAb h1;have H2:=zAb h2;clear h1 h2;go_enter Tryz.func169,Tryz.ntmps169
  go_wp2_with (first
    | (go_at_call_of 234 a;go_must(refine(un H1 _).mono ?_;rintro e w1 ⟨rfl,hb⟩;have HB1:=zAb hb;clear hb))
    | (go_at_call_of 234 c;go_must(refine(un H2 _).mono ?_;rintro e w2 ⟨rfl,hb⟩;have HB2:=zAb (bt HB1 hb);clear hb)))
  go_ret
  exact⟨rfl,un HB2⟩
end Go.Proofs.YtliadckofhblnaaGreatDoor

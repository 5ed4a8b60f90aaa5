/- (Big).IsOne; boxes. -/
import Derived.Test.YtliadckofhblnaaGreatDoorLimb3
import Derived.Lib.AppendIntMem
import Derived.Shelf.Small.Bits
import Derived.Shelf.Small.Wraps
import Derived.Shelf.Strconv.Itoa0
import Derived.Shelf.Strconv.Itoa1
import Derived.Shelf.LaysM
import Derived.Shelf.Strconv.Itoa2
import Derived.Shelf.Strconv.AppendUint10
import Derived.Shelf.Strconv.AppendInt10
import Derived.Shelf.Strings.Prefix
import Derived.Ground.Names2Prog
import Derived.Shelf.Slices.SearchI
import Derived.Test.YtliadckofhblnaaGreatDoorProg
import Derived.Test.YtliadckofhblnaaGreatDoorCards
import Derived.Test.YtliadckofhblnaaGreatDoorTie
import Derived.WalkKit
import Derived.ProofKit
import Derived.OpenShut
import Derived.ChangeSame
import Derived.Deep.DeepHandedRow
import Derived.Lib.LaidTab
import Derived.LaidSub
import Derived.LaidLaws
import Derived.Carry
set_option maxHeartbeats 1000000
set_option maxRecDepth 100000
namespace Go.Proofs.YtliadckofhblnaaGreatDoor
open Go.RowKit
theorem zAf.form {w:World} {v:Value} {n:Nat} (h:zAf w v n):∃a l cap,v=.agg #[.slice a l.length cap]∧l.length≤9223372036854775807∧Row w (.slice a l.length cap) l∧Cub.normal 1000000000 l∧Cub.lval 1000000000 l=n:=by
 obtain⟨s,l,rfl,hr,hn,hv⟩:=h;obtain⟨a,cap,rfl,hc,hm⟩:=hr.form;exact⟨a,l,cap,rfl,by omega,hr,hn,hv⟩
theorem big_zero {l:List Nat} (hn:Cub.normal 1000000000 l):(Cub.lval 1000000000 l == 0)=((l.length:Int) == 0):=by
 rw[Bool.eq_iff_iff,beq_iff_eq,beq_iff_eq,Cub.normal_zero hn (by decide),←List.length_eq_zero_iff];omega
theorem zCk (v:Value) (n:Nat) (w:World) (h:zAf w v n) :
 Calls Tryz.prog 153 #[v] w fun e w'=>e=.returned (.bool (n == 0))∧Bw w w':=by
 obtain⟨a,l,cap,rfl,hl,hr,hn,rfl⟩:=h.form;rw[big_zero hn];clear h hr hn;go_enter Tryz.func153,Tryz.ntmps153
 go_wp2
 go_ret
 exact⟨rfl,bA⟩
theorem zGu (v:Value) (n k:Nat) (w:World) (h:zAf w v n) (hk:k≤1000000) (hn:n<1000000000 ^ k) :
 Calls Tryz.prog 119 #[v] w fun e w'=>e=.returned (I (Lib.nDigits n:Nat))∧Bw w w':=by
 have H:=zAb h;obtain⟨a,l,cap,rfl,hl,hr,hnm,rfl⟩:=h.form;have hlk:=Cub.len_le hnm hn;clear hn hl h
 by_cases h0:l=[]
 ·subst h0
  have e1:Lib.nDigits (Cub.lval 1000000000 [])=1:=Lib.nDigits_small (by decide);rw[e1];clear e1;go_enter Tryz.func119,Tryz.ntmps119
  go_wp2_with (go_at_call 153;refine(zCk _ _ _ ((un H).later bA)).mono ?_;rintro e w2 ⟨rfl,hb2⟩)
  go_ret
  exact⟨rfl,bA.trans (hb2.mono (by simp))⟩
 ·obtain⟨t,x,rfl⟩:=Cub.split_last h0
  obtain⟨ht,hx0,hxB⟩:=Cub.normal_last hnm
  have hz:(Cub.lval 1000000000 (t ++ [x]) == 0)=false:=by
   rw[beq_eq_false_iff_ne];intro e;exact h0 ((Cub.normal_zero hnm (by decide)).1 e)
  have HD:=zAb (Cub.nDigits_top t x ht hx0);have HL:=zAb (Cub.nDigits_le9 x hxB);obtain⟨a',cap',ev,hc,hm,hcells⟩:=hr;simp only[Value.slice.injEq]at ev;obtain⟨rfl,_,rfl⟩:=ev;obtain⟨b,o,rfl,hbw,hcell⟩:=hcells h0;have hx:=hcell t.length (by simp);simp only[List.getElem_concat_length]at hx;have htk:t.length+1≤k:=by simpa using hlk
  have hlen:(t ++ [x]).length=t.length+1:=by simp
  have HZ:=zAb hz;rw[hlen]at H ⊢;clear hcell hcells hnm ht hlk hz h0 hlen;have HX:Hid (∀W,Below w.heap.size w W→W.cell? ⟨b,o+t.length,none⟩=some (.int .u64 (x:Int))):=fun W hW=>(hW.cell (p:=⟨b,o+t.length,none⟩) hbw).trans hx
  clear hx;go_enter Tryz.func119,Tryz.ntmps119
  go_wp2_with (go_at_call 153;refine(zCk _ _ _ ((un H).later bA)).mono ?_;rintro e w2 ⟨rfl,hb2⟩;rw[un HZ];obtain⟨hcb,_⟩:=zBt hb2 (g:=w.heap.size) (x:=.slice (some ⟨b,o,none⟩) (t.length+1) cap) (by simp) (by simp) (by simp);have hb3:=((Below.refl w.heap.size w).alloc (Nat.le_refl _) (.cells #[.slice (some ⟨b,o,none⟩) (t.length+1) cap] 80)).trans (hb2.mono (by simp));have hx2:=un HX w2 hb3;clear hb2)
  go_loop [4,5] (fun m y=>∃(c z:Nat),m=I ((t.length:Int)*9+(c:Int))∧y=.int .u64 (z:Int)∧z<1000000000∧c≤9∧Hid (c+Cub.dcount z=Lib.nDigits x)) (fun _ y=>(intOf y).toNat)
  case atStart=>exact⟨0,x,by simp,rfl,hxB,by omega,by rw[Cub.dcount_pos x hx0];exact Nat.zero_add _⟩
  case round=>
   obtain⟨c,z,rfl,rfl,hz,hc9,HC⟩:=hrel
   by_cases hz0:0<z
   ·have hC:Hid (c+1+Cub.dcount (z / 10)=Lib.nDigits x):=by rw[←un HC,Cub.dcount_step z hz0];exact(by omega:c+1+Cub.dcount (z / 10)=c+(Cub.dcount (z / 10)+1))
    have hc8:c+1≤9:=by have:=un hC;have:=un HL;omega
    go_wp2
    go_round
    case rel=>exact⟨c+1,z / 10,by go_num,by go_num,by omega,hc8,hC⟩
    case measure=>simp[intOf];omega
   ·have:z=0:=by omega
    subst this;have hfin:(t.length:Int)*9+(c:Int)=((9*t.length+Lib.nDigits x:Nat):Int):=by have:=un HC;rw[Cub.dcount_zero]at this;omega
    have HF:=zAb hfin;clear hfin
    go_wp2
    go_ret
    exact⟨by rw[un HD,←un HF];rfl,hb3⟩
end Go.Proofs.YtliadckofhblnaaGreatDoor
namespace Cub
open Go.Lib (nDigits decDigits)
def padn:Nat→Nat→List UInt8
  | 0,_=>[]
  | k+1,d=>padn k (d / 10) ++ [UInt8.ofNat (48+d % 10)]
theorem dec_pad (k:Nat):∀(q r:Nat),0<q→r<10 ^ k→decDigits (10 ^ k*q+r)=decDigits q ++ padn k r:=by
  induction k with
  | zero => intro q r hq hr;have:r=0:=by simpa using hr
            subst this;simp[padn]
  | succ k ih=>
    intro q r hq hr
    have hp:0<10 ^ k:=Nat.pow_pos (by decide)
    have h1:10≤10 ^ (k+1)*q+r:=by
      rw[Nat.pow_succ]
      have:10 ^ k*10*1≤10 ^ k*10*q:=Nat.mul_le_mul_left _ hq
      omega
    have e:10 ^ (k+1)*q+r=10*(10 ^ k*q)+r:=by rw[Nat.pow_succ,Nat.mul_comm (10 ^ k) 10,Nat.mul_assoc]
    rw[decDigits,dif_neg (by omega)]
    have d1:(10 ^ (k+1)*q+r) / 10=10 ^ k*q+r / 10:=by rw[e];omega
    have d2:(10 ^ (k+1)*q+r) % 10=r % 10:=by rw[e];omega
    rw[d1,d2,ih q (r / 10) hq (by rw[Nat.pow_succ]at hr;omega)]
    simp[padn]
theorem pad_step (d j:Nat) (hj:j+1≤9):padn (9 - (j+1)) (d / 10 ^ (j+1)) ++ [UInt8.ofNat (48+d / 10 ^ j % 10)]=padn (9 - j) (d / 10 ^ j):=by
  rw[show 9 - j=(9 - (j+1))+1 by omega]
  simp only[padn]
  rw[Nat.div_div_eq_div_mul,←Nat.pow_succ]
theorem pad_all (d:Nat):padn (9 - 0) (d / 10 ^ 0)=padn 9 d:=by simp
theorem dec_limb (l:List Nat) (i:Nat) (hi:i<l.length) (hl:limbs 1000000000 l) (hq:0<lval 1000000000 (l.drop (i+1))) :
    decDigits (lval 1000000000 (l.drop i))=decDigits (lval 1000000000 (l.drop (i+1))) ++ padn 9 l[i]:=by
  have hx:=hl l[i] (List.getElem_mem hi)
  rw[List.drop_eq_getElem_cons hi]
  simp only[lval]
  rw[Nat.add_comm]
  exact dec_pad 9 _ _ hq hx
theorem drop_pos {l:List Nat} (h:normal 1000000000 l) (i:Nat) (hi:i<l.length):0<lval 1000000000 (l.drop i):=by
  have hne:l.drop i≠[]:=by intro e;have:=congrArg List.length e;simp at this;omega
  have hn:normal 1000000000 (l.drop i):=by
    refine⟨fun x hx=>h.1 x (List.mem_of_mem_drop hx),?_⟩
    rw[List.getLast?_drop,if_neg (by omega)];exact h.2
  have h1:=normal_ge hn hne
  have:0<1000000000 ^ ((l.drop i).length - 1):=Nat.pow_pos (by decide)
  omega
def unitOf (j:Nat):Nat:=if j=0 then 0 else 10 ^ (j - 1)
theorem unit_div (j:Nat):unitOf (j+1) / 10=unitOf j:=by
  unfold unitOf
  rw[if_neg (by omega)]
  cases j with
  | zero=>rfl
  | succ k=>rw[if_neg (by omega)];simp[Nat.pow_succ]
theorem unit_pos (j:Nat):0<unitOf j↔0<j:=by
  unfold unitOf
  by_cases h:j=0
  · simp[h]
  · rw[if_neg h];exact⟨fun _=>by omega,fun _=>Nat.pow_pos (by decide)⟩
theorem unit_at (j:Nat):unitOf (j+1)=10 ^ j:=by unfold unitOf;rw[if_neg (by omega)];rfl
end Cub
namespace Go.Proofs.YtliadckofhblnaaGreatDoor
open Go.RowKit
theorem Tryz.info5:(Tryz.prog.info? 5).map (fun i=>(i.zero,i.size,i.bytes))=some (some (.int .u8 0),1,1):=by kernel_rfl
theorem byteCells_snoc (l:List UInt8) (c:Nat) (hc:c<10):Lib.byteCells l ++ [.int .u8 (48+(c:Int))]=Lib.byteCells (l ++ [UInt8.ofNat (48+c)]):=by
 rw[Lib.byteCells_append]
 congr 1
 simp only[Lib.byteCells,List.map_cons,List.map_nil];rw[Cub.toNat_dig c hc];rfl
def toldText (n:Nat):List UInt8:=if n<10 ^ 600 then Lib.decDigits n else []
theorem len600 (n:Nat):Lib.nDigits n≤600↔n<10 ^ 600:=by
 rw[←Lib.decDigits_length];exact Cub.dec_len_lt n 600 (by decide)
theorem right_digs {s:ByteArray} (h:Cub.rightB s.data.toList=true):Cub.digs s.data.toList∧s.size≤600:=by
 obtain⟨h1,h2⟩:=(Cub.rightB_iff _).1 h;exact⟨h1.1,by rw[zBq]at h2;exact h2⟩
theorem mk_list (l:List UInt8):(⟨l.toArray⟩:ByteArray).data.toList=l:=rfl
theorem toldText_pos (n:Nat) (h:n<10 ^ 600):toldText n=Lib.decDigits n:=by
 unfold toldText;rw[if_pos h]
def tb (n:Nat):ByteArray:=⟨(toldText n).toArray⟩
theorem tb_list (n:Nat) (h:n<10 ^ 600):(tb n).data.toList=Lib.decDigits n:=by
 exact(mk_list (toldText n)).trans (toldText_pos n h)
theorem zEk (n:Nat) (h:n<10 ^ 600):Cub.rightB (tb n).data.toList=true∧Cub.dval (tb n).data.toList=n:=by
 rw[tb_list n h];refine⟨(Cub.rightB_iff _).2 ⟨Cub.isNat_dec n,?_⟩,Cub.dval_dec n⟩;rw[Lib.decDigits_length];exact(len600 n).2 h
theorem tb_of {s:ByteArray} (h:Cub.rightB s.data.toList=true):∃n,n<10 ^ 600∧s=tb n:=by
 obtain⟨h1,h2⟩:=(Cub.rightB_iff _).1 h;have h3:=Nat.lt_of_lt_of_le (Cub.dval_lt h1.1) (Nat.pow_le_pow_right (n:=10) (by decide) h2);refine⟨Cub.dval s.data.toList,h3,?_⟩;have e:s.data.toList=(tb (Cub.dval s.data.toList)).data.toList:=by rw[tb_list _ h3];exact(Cub.dec_dval _ _ rfl h1).symm
 apply ByteArray.ext
 exact Array.ext' e
theorem tb_size (n:Nat) (h:n<10 ^ 600):(tb n).size≤maxLen:=by
 have h1:=((Cub.rightB_iff _).1 (zEk n h).1).2;rw[zBq]at h1;unfold maxLen;omega
def val (s:ByteArray):Nat:=Cub.dval s.data.toList
theorem pow_nine (c k:Nat) (h:c≤9*k):(10:Nat) ^ c≤1000000000 ^ k:=by
 have e:(1000000000:Nat) ^ k=10 ^ (9*k):=by rw[Nat.pow_mul]
 rw[e];exact Nat.pow_le_pow_right (by decide) h
theorem dec_zero:Lib.decDigits 0=[48]:=by rw[Lib.decDigits];simp
theorem zero_val {s:ByteArray} (h:s.data.toList=[48]):val s=0:=by
 unfold val;rw[h];decide
end Go.Proofs.YtliadckofhblnaaGreatDoor
namespace Go.Proofs
open Go.Shelf
def Tryz.lays103_ren:Go.Shelf.Ren:=⟨fun|103=>237|210=>271|206=>302|n=>n,fun|9=>9|4=>4|24=>250|3=>3|n=>n,fun|n=>n⟩
theorem Tryz.lays103:Go.Proofs.Lays.n103 Tryz.prog Tryz.lays103_ren:={
 mixed:=by kernel_rfl
 f103:=Tryz.func237.trans (congrArg some (by kernel_rfl))
 f206:=Tryz.func302.trans (congrArg some (by kernel_rfl))
 f210:=Tryz.func271.trans (congrArg some (by kernel_rfl))
 t3:=Tryz.underlying3
 a3:=Tryz.isAgg3
 z3:=Tryz.sizeOf3
 v3:=Tryz.zeroValue3
 t4:=Tryz.underlying4
 a4:=Tryz.isAgg4
 z4:=Tryz.sizeOf4
 v4:=Tryz.zeroValue4
 t9:=Tryz.underlying9
 a9:=Tryz.isAgg9
 z9:=Tryz.sizeOf9
 v9:=Tryz.zeroValue9
 t24:=Tryz.underlying250
 a24:=Tryz.isAgg250
 z24:=Tryz.sizeOf250
 v24:=Tryz.zeroValue250 }
open Go.RowKit in
theorem Tryz.strings_CutPrefix (s p:ByteArray) (w:World) :
  Calls Tryz.prog 237 #[.string s,.string p] w fun e w'=>e=.returned (.tuple #[.string ⟨(Lib.trimPrefix s.data.toList p.data.toList).toArray⟩,.bool (Lib.hasPrefix s.data.toList p.data.toList)])∧w'=w:=Any.strings_CutPrefix Tryz.lays103 s p w
def Tryz.lays283_ren:Go.Shelf.Ren:=⟨fun|283=>272|n=>n,fun|3=>3|9=>9|4=>4|n=>n,fun|n=>n⟩
theorem Tryz.lays283:Go.Proofs.Lays.n283 Tryz.prog Tryz.lays283_ren:={
 mixed:=by kernel_rfl
 f283:=Tryz.func272.trans (congrArg some (by kernel_rfl))
 t3:=Tryz.underlying3
 a3:=Tryz.isAgg3
 z3:=Tryz.sizeOf3
 v3:=Tryz.zeroValue3
 t4:=Tryz.underlying4
 a4:=Tryz.isAgg4
 z4:=Tryz.sizeOf4
 v4:=Tryz.zeroValue4
 t9:=Tryz.underlying9
 a9:=Tryz.isAgg9
 z9:=Tryz.sizeOf9
 v9:=Tryz.zeroValue9 }
open Go.Lib in
theorem Tryz.internal_strconv_small (i:Nat) (h:i<100) (w:World) :
  Calls Tryz.prog 272 #[.int .i64 i] w fun e w'=>e=.returned (.string ⟨(Lib.decDigits i).toArray⟩)∧w'=w:=Any.internal_strconv_small Tryz.lays283 i h w
def Tryz.laysM284_ren:Go.Shelf.Ren:=⟨fun|284=>273|129=>304|317=>303|318=>305|n=>n,fun|53=>168|3=>3|212=>333|0=>0|4=>4|46=>335|5=>5|9=>9|n=>n,fun|17=>2|n=>n⟩
theorem Tryz.laysM284:Go.Proofs.LaysM.n284 Tryz.prog Tryz.laysM284_ren:={
 mixed:=by kernel_rfl
 f129:=Tryz.func304.trans (congrArg some (by kernel_rfl))
 f284:=Tryz.func273.trans (congrArg some (by kernel_rfl))
 f317:=Tryz.func303.trans (congrArg some (by kernel_rfl))
 f318:=Tryz.func305.trans (congrArg some (by kernel_rfl))
 t0:=Tryz.underlying0
 a0:=Tryz.isAgg0
 z0:=Tryz.sizeOf0
 v0:=Tryz.zeroValue0
 t3:=Tryz.underlying3
 a3:=Tryz.isAgg3
 z3:=Tryz.sizeOf3
 v3:=Tryz.zeroValue3
 t4:=Tryz.underlying4
 a4:=Tryz.isAgg4
 z4:=Tryz.sizeOf4
 v4:=Tryz.zeroValue4
 t5:=Tryz.underlying5
 a5:=Tryz.isAgg5
 z5:=Tryz.sizeOf5
 v5:=Tryz.zeroValue5
 t9:=Tryz.underlying9
 a9:=Tryz.isAgg9
 z9:=Tryz.sizeOf9
 v9:=Tryz.zeroValue9
 t46:=Tryz.underlying335
 a46:=Tryz.isAgg335
 z46:=Tryz.sizeOf335
 v46:=Tryz.zeroValue335
 t53:=Tryz.underlying168
 a53:=Tryz.isAgg168
 z53:=Tryz.sizeOf168
 v53:=Tryz.zeroValue168
 t212:=Tryz.underlying333
 a212:=Tryz.isAgg333
 z212:=Tryz.sizeOf333
 v212:=Tryz.zeroValue333
 g17:=by kernel_rfl
 i0:=by kernel_rfl
 i3:=by kernel_rfl
 i4:=by kernel_rfl
 i5:=by kernel_rfl
 i9:=by kernel_rfl
 i46:=by kernel_rfl
 i53:=by kernel_rfl
 i212:=by kernel_rfl
 m17:=by kernel_rfl }
open Go.Lib in
theorem Tryz.internal_strconv_numDigits (u:Nat) (h1:1≤u) (h2:u<18446744073709551616) (w:World) (htab:Lib.TabIs Tryz.prog w "internal/strconv.uint64pow10" .u64 Lib.pow10Tab) :
  Calls Tryz.prog 273 #[.int .u64 u] w fun e w'=>e=.returned (.int .i64 (Lib.nDigits u))∧w'=w:=Any.internal_strconv_numDigits Tryz.laysM284 u h1 h2 w htab
def Tryz.lays285_ren:Go.Shelf.Ren:=⟨fun|285=>274|n=>n,fun|37=>208|53=>168|3=>3|4=>4|51=>309|9=>9|5=>5|0=>0|n=>n,fun|n=>n⟩
theorem Tryz.lays285:Go.Proofs.Lays.n285 Tryz.prog Tryz.lays285_ren:={
 mixed:=by kernel_rfl
 f285:=Tryz.func274.trans (congrArg some (by kernel_rfl))
 t0:=Tryz.underlying0
 a0:=Tryz.isAgg0
 z0:=Tryz.sizeOf0
 v0:=Tryz.zeroValue0
 t3:=Tryz.underlying3
 a3:=Tryz.isAgg3
 z3:=Tryz.sizeOf3
 v3:=Tryz.zeroValue3
 t4:=Tryz.underlying4
 a4:=Tryz.isAgg4
 z4:=Tryz.sizeOf4
 v4:=Tryz.zeroValue4
 t5:=Tryz.underlying5
 a5:=Tryz.isAgg5
 z5:=Tryz.sizeOf5
 v5:=Tryz.zeroValue5
 t9:=Tryz.underlying9
 a9:=Tryz.isAgg9
 z9:=Tryz.sizeOf9
 v9:=Tryz.zeroValue9
 t37:=Tryz.underlying208
 a37:=Tryz.isAgg208
 z37:=Tryz.sizeOf208
 v37:=Tryz.zeroValue208
 t51:=Tryz.underlying309
 a51:=Tryz.isAgg309
 z51:=Tryz.sizeOf309
 v51:=Tryz.zeroValue309
 t53:=Tryz.underlying168
 a53:=Tryz.isAgg168
 z53:=Tryz.sizeOf168
 v53:=Tryz.zeroValue168 }
open Go.RowKit Go.Sort Go.Lib in
theorem Tryz.internal_strconv_formatBase10 (blk off cap:Nat) (u:Nat) (d:Array UInt8) (w:World) (hH:Holds (fun (b:UInt8)=>Value.int .u8 (b.toNat:Int)) w blk off d) (hu:u<10 ^ d.size) (hu64:u<18446744073709551616) (hsz:d.size<4611686018427387904) :
  Calls Tryz.prog 274 #[.slice (some ⟨blk,off,none⟩) d.size cap,.int .u64 u] w fun e w'=>
   e=.returned (.tuple #[])∧∃(n v':Nat) (dk:Array UInt8),w'=(putRow (fun (b:UInt8)=>Value.int .u8 (b.toNat:Int)) w blk off dk).drewN n∧FmtInv d.size u 0 v' dk:=Any.internal_strconv_formatBase10 Tryz.lays285 blk off cap u d w hH hu hu64 hsz
def Tryz.laysM288_ren:Go.Shelf.Ren:=⟨fun|288=>238|283=>272|284=>273|285=>274|286=>275|129=>304|317=>303|318=>305|319=>306|320=>307|337=>365|338=>366|n=>n,fun|37=>208|53=>168|3=>3|4=>4|9=>9|171=>298|0=>0|173=>301|212=>333|51=>309|5=>5|20=>20|213=>334|46=>335|232=>367|233=>368|n=>n,fun|17=>2|18=>4|19=>5|n=>n⟩
theorem Tryz.laysM288:Go.Proofs.LaysM.n288 Tryz.prog Tryz.laysM288_ren:={
 mixed:=by kernel_rfl
 f129:=Tryz.func304.trans (congrArg some (by kernel_rfl))
 f283:=Tryz.func272.trans (congrArg some (by kernel_rfl))
 f284:=Tryz.func273.trans (congrArg some (by kernel_rfl))
 f285:=Tryz.func274.trans (congrArg some (by kernel_rfl))
 f286:=Tryz.func275.trans (congrArg some (by kernel_rfl))
 f288:=Tryz.func238.trans (congrArg some (by kernel_rfl))
 f317:=Tryz.func303.trans (congrArg some (by kernel_rfl))
 f318:=Tryz.func305.trans (congrArg some (by kernel_rfl))
 f319:=Tryz.func306.trans (congrArg some (by kernel_rfl))
 f320:=Tryz.func307.trans (congrArg some (by kernel_rfl))
 f337:=Tryz.func365.trans (congrArg some (by kernel_rfl))
 f338:=Tryz.func366.trans (congrArg some (by kernel_rfl))
 t0:=Tryz.underlying0
 a0:=Tryz.isAgg0
 z0:=Tryz.sizeOf0
 v0:=Tryz.zeroValue0
 t3:=Tryz.underlying3
 a3:=Tryz.isAgg3
 z3:=Tryz.sizeOf3
 v3:=Tryz.zeroValue3
 t4:=Tryz.underlying4
 a4:=Tryz.isAgg4
 z4:=Tryz.sizeOf4
 v4:=Tryz.zeroValue4
 t5:=Tryz.underlying5
 a5:=Tryz.isAgg5
 z5:=Tryz.sizeOf5
 v5:=Tryz.zeroValue5
 t9:=Tryz.underlying9
 a9:=Tryz.isAgg9
 z9:=Tryz.sizeOf9
 v9:=Tryz.zeroValue9
 t20:=Tryz.underlying20
 a20:=Tryz.isAgg20
 z20:=Tryz.sizeOf20
 v20:=Tryz.zeroValue20
 t37:=Tryz.underlying208
 a37:=Tryz.isAgg208
 z37:=Tryz.sizeOf208
 v37:=Tryz.zeroValue208
 t46:=Tryz.underlying335
 a46:=Tryz.isAgg335
 z46:=Tryz.sizeOf335
 v46:=Tryz.zeroValue335
 t51:=Tryz.underlying309
 a51:=Tryz.isAgg309
 z51:=Tryz.sizeOf309
 v51:=Tryz.zeroValue309
 t53:=Tryz.underlying168
 a53:=Tryz.isAgg168
 z53:=Tryz.sizeOf168
 v53:=Tryz.zeroValue168
 t171:=Tryz.underlying298
 a171:=Tryz.isAgg298
 z171:=Tryz.sizeOf298
 v171:=Tryz.zeroValue298
 t173:=Tryz.underlying301
 a173:=Tryz.isAgg301
 z173:=Tryz.sizeOf301
 v173:=Tryz.zeroValue301
 t212:=Tryz.underlying333
 a212:=Tryz.isAgg333
 z212:=Tryz.sizeOf333
 v212:=Tryz.zeroValue333
 t213:=Tryz.underlying334
 a213:=Tryz.isAgg334
 z213:=Tryz.sizeOf334
 t232:=Tryz.underlying367
 a232:=Tryz.isAgg367
 z232:=Tryz.sizeOf367
 v232:=Tryz.zeroValue367
 t233:=Tryz.underlying368
 a233:=Tryz.isAgg368
 z233:=Tryz.sizeOf368
 v233:=Tryz.zeroValue368
 g17:=by kernel_rfl
 g18:=by kernel_rfl
 g19:=by kernel_rfl
 i0:=by kernel_rfl
 i3:=by kernel_rfl
 i4:=by kernel_rfl
 i5:=by kernel_rfl
 i9:=by kernel_rfl
 i20:=by kernel_rfl
 i37:=by kernel_rfl
 i46:=by kernel_rfl
 i51:=by kernel_rfl
 i53:=by kernel_rfl
 i171:=by kernel_rfl
 i173:=by kernel_rfl
 i212:=by kernel_rfl
 i232:=by kernel_rfl
 i233:=by kernel_rfl
 m17:=by kernel_rfl
 m18:=by kernel_rfl
 m19:=by kernel_rfl }
open Go.RowKit Go.Sort Go.Lib in
theorem Tryz.internal_strconv_AppendUint_10 (B n u:Nat) (hu64:u<18446744073709551616) (sv:Value) (xs:List Value) (w:World) (hown:w.ownsRow B 5 1 sv n xs) (hBw:B≤w.heap.size) (hlim:n+20≤140737488355328) (htab:Lib.TabIs Tryz.prog w "internal/strconv.uint64pow10" .u64 Lib.pow10Tab) :
  Calls Tryz.prog 238 #[sv,.int .u64 u,.int .i64 10] w fun e w'=>∃v',e=.returned v'∧w'.ownsRow B 5 1 v' (n+(Lib.decDigits u).length) (xs ++ Lib.byteCells (Lib.decDigits u))∧Below B w w'∧Lib.OthersKept 5 none w w':=Any.internal_strconv_AppendUint_10 Tryz.laysM288 B n u hu64 sv xs w hown hBw hlim htab
end Go.Proofs
namespace Go.Proofs.YtliadckofhblnaaGreatDoor
open Go.RowKit
def Tab (w:World):Prop:=Lib.TabIs Tryz.prog w "internal/strconv.uint64pow10" .u64 Lib.pow10Tab
theorem Tab.later {w w':World} (h:Tab w) (hb:Below w.heap.size w w'):Tab w':=Lib.tabBelow_of_tabIs h w' hb
theorem appendUint_any (B n u:Nat) (hu:u<18446744073709551616) (sv:Value) (xs:List Value) (w:World) (hown:w.ownsRow B 5 1 sv n xs) (hBw:B≤w.heap.size) (hlim:n+20≤140737488355328) (htab:Tab w) :
 Calls Tryz.prog 189 #[sv,.int .u64 u,I 10] w fun e w'=>∃v',e=.returned v'∧w'.ownsRow B 5 1 v' (n+(Lib.decDigits u).length) (xs ++ Lib.byteCells (Lib.decDigits u))∧Below B w w':=by
 have HO:=zAb hown;have HT:=zAb htab;clear hown htab;go_enter Tryz.func189,Tryz.ntmps189
 go_wp2_with (go_at_call 238;refine(Tryz.internal_strconv_AppendUint_10 B n u hu sv xs _ (un HO) hBw hlim (un HT)).mono ?_;rintro e w2 ⟨v',rfl,h1,h2,_⟩)
 go_ret
 exact⟨v',rfl,h1,h2⟩
theorem text_any (v:Value) (n k:Nat) (w:World) (h:zAf w v n) (hk:k≤1000000) (hn:n<1000000000 ^ k) (htab:Tab w) :
 Calls Tryz.prog 121 #[v] w fun e w'=>e=.returned (.string ⟨(Lib.decDigits n).toArray⟩)∧Bw w w':=by
 have H:=zAb h;have HT:=zAb htab;obtain⟨a,l,cap,rfl,hl,hr,hnm,rfl⟩:=h.form;have hlk:=Cub.len_le hnm hn;clear hn hl h htab
 by_cases h0:l=[]
 ·subst h0
  have e1:Lib.decDigits (Cub.lval 1000000000 [])=[48]:=by decide +kernel
  rw[e1];clear e1;go_enter Tryz.func121,Tryz.ntmps121
  go_wp2_with (go_at_call 153;refine(zCk _ _ _ ((un H).later bA)).mono ?_;rintro e w2 ⟨rfl,hb2⟩)
  go_ret
  exact⟨rfl,bA.trans (hb2.mono (by simp))⟩
 ·have hlp:0<l.length:=by cases l with|nil=>exact absurd rfl h0|cons a t=>simp
  obtain⟨len,hlen⟩:∃len,len=l.length:=⟨_,rfl⟩;rw[←hlen]at H hr hlk hlp ⊢
  have hz:(Cub.lval 1000000000 l == 0)=false:=by
   rw[beq_eq_false_iff_ne];intro e;exact h0 ((Cub.normal_zero hnm (by decide)).1 e)
  obtain⟨a',cap',ev,hc,hm,hcells⟩:=hr;simp only[Value.slice.injEq]at ev;obtain⟨rfl,hdum,rfl⟩:=ev;clear hdum;obtain⟨b,o,rfl,hbw,hcell⟩:=hcells h0;have HC:Hid (∀W,Below w.heap.size w W→∀i (hi:i<l.length),W.cell? ⟨b,o+i,none⟩=some (.int .u64 (l[i]:Int))):=fun W hW i hi=>(hW.cell (p:=⟨b,o+i,none⟩) hbw).trans (hcell i hi)
  have HZ:=zAb hz;have HN:=zAb hnm;have HLen:=zAb hlen;clear hcell hcells hz h0 hnm hlen hc hm;obtain⟨m,rfl⟩:∃m,len=m+1:=⟨len - 1,by omega⟩;have hml:m<l.length:=by have:=un HLen;omega
  obtain⟨x,hx⟩:∃x,x=l[m]:=⟨_,rfl⟩;have hxB:x<1000000000:=by rw[hx];exact(un HN).1 _ (List.getElem_mem hml)
  have HX:Hid (∀W,Below w.heap.size w W→W.cell? ⟨b,o+m,none⟩=some (.int .u64 (x:Int))):=fun W hW=>by rw[hx];exact un HC W hW m hml
  have HXl:=zAb hx;clear hx hlp;obtain⟨i5,hi5,hz50,hz51,hz52⟩:=info_parts Tryz.info5;go_enter Tryz.func121,Tryz.ntmps121
  go_wp2_with (first
   | (go_at_call 153;refine(zCk _ _ _ ((un H).later bA)).mono ?_;rintro e w2 ⟨rfl,hb2⟩;rw[un HZ];obtain⟨hcb,_⟩:=zBt hb2 (g:=w.heap.size) (x:=.slice (some ⟨b,o,none⟩) (m+1) cap) (by simp) (by simp) (by simp);have hb3:=((Below.refl w.heap.size w).alloc (Nat.le_refl _) (.cells #[.slice (some ⟨b,o,none⟩) (m+1) cap] 80)).trans (hb2.mono (by simp));have hs2:w.heap.size+1≤w2.heap.size:=(by have:=hb2.size;simpa using this);clear hb2)
   | (at_make;refine wpList_make_own _ rfl _ _ 208 rfl (w.heap.size+1) 5 i5 (.int .u8 0) 1 Tryz.underlying208 hi5 hz50 hz51 .i64 .i64 _ ((m+1)*9) rfl rfl (by omega) (by rw[hz52];omega) (by unfold maxLen;omega) hs2 ?_;intro w3 hown3 hgrow3;have hb4:Below (w.heap.size+1) w2 w3:=(Below.refl _ _).grown hgrow3 hs2 (fun k hk=>by cases hk);have hcb3:=(hb4.cell (p:=⟨w.heap.size,0,none⟩) (Nat.lt_succ_self _)).trans hcb;have hb5:=hb3.trans (hb4.mono (Nat.le_succ _));have hx3:=un HX w3 hb5;have hs3:w.heap.size+1≤w3.heap.size:=(by have:=hb4.size;omega);have HO3:=zAb hown3;clear hown3 hgrow3 hb4 hcb)
   | (go_at_call 189;refine(appendUint_any (w.heap.size+1) 0 x (by omega) _ [] _ (un HO3) hs3 (by omega) ((un HT).later hb5)).mono ?_;rintro e w4 ⟨v4,rfl,hown4,hb6⟩;have hcb4:=(hb6.cell (p:=⟨w.heap.size,0,none⟩) (Nat.lt_succ_self _)).trans hcb3;have hb7:=hb5.trans (hb6.mono (Nat.le_succ _));have hs4:w.heap.size+1≤w4.heap.size:=(by have:=hb6.size;omega);have HO4:=zAb hown4;clear hown4 hb6 hcb3))
  have hT0:(Lib.decDigits x).length≤9:=by rw[Lib.decDigits_length];exact Cub.nDigits_le9 x hxB
  have hst:w4.ownsRow (w.heap.size+1) 5 1 v4 (Lib.decDigits x).length (Lib.byteCells (Lib.decDigits x)):=by simpa using un HO4
  have HT0:Hid (Lib.decDigits x=Lib.decDigits (Cub.lval 1000000000 (l.drop m))):=by
   have e:l.drop m=[x]:=by
    rw[List.drop_eq_getElem_cons hml,←un HXl,List.drop_of_length_le (by have:=un HLen;omega)]
   rw[e];exact(by simp[Cub.lval]:Lib.decDigits x=Lib.decDigits (Cub.lval 1000000000 [x]))
  clear HO4 hx3
  go_loopw [4,5] (fun v i wr=>∃(j:Nat) (T:List UInt8),j≤m∧i=I ((j:Int) - 1)∧T.length≤9*(m+1 - j)∧Hid (T=Lib.decDigits (Cub.lval 1000000000 (l.drop j)))∧
   wr.ownsRow (w.heap.size+1) 5 1 v T.length (Lib.byteCells T)∧wr.cell? ⟨w.heap.size,0,none⟩=some (.slice (some ⟨b,o,none⟩) (m+1) cap)∧Bw w wr∧w.heap.size+1≤wr.heap.size)
   (fun _ i _=>(intOf i+1).toNat)
  case atStart=>exact⟨m,Lib.decDigits x,Nat.le_refl _,rfl,by omega,HT0,hst,hcb4,hb7,hs4⟩
  case round=>
   obtain⟨j,T,hjm,rfl,hTl,HTd,hown,hbox,hbl,hsz⟩:=hrel;clear hst hcb4 hb7 hs4 hT0 HT0
   by_cases hj0:j=0
   ·subst hj0
    have hTpos:0<T.length:=by
     rw[un HTd]
     cases e:Lib.decDigits (Cub.lval 1000000000 (l.drop 0))with
     | nil=>exact absurd e (Cub.dec_ne_nil _)
     | cons a t=>simp
    obtain⟨g,cg,rfl⟩:=Joins.ownsRow_form hown hTpos
    have hcv:=run_convert_bytes_back (P:=Tryz.prog) wr 208 9 5 ⟨g,0,none⟩ cg T Tryz.underlying208 Tryz.underlying5 Tryz.underlying9 (fun q hq=>by
     have:=hown.cellAt q (by simpa using hq);rw[Lib.add_plain,Nat.zero_add,this];simp[Lib.byteCells,hq])
    have HTd':Hid (T=Lib.decDigits (Cub.lval 1000000000 l)):=by have:=un HTd;rwa [List.drop_zero]at this
    clear hown HTd
    go_wp2
    go_ret
    exact⟨by rw[←un HTd'];rfl,hbl⟩
   ·obtain⟨i,rfl⟩:∃i,j=i+1:=⟨j - 1,by omega⟩
    have hil:i<l.length:=by have:=un HLen;omega
    obtain⟨d,hd⟩:∃d,d=l[i]:=⟨_,rfl⟩;have hdB:d<1000000000:=by rw[hd];exact(un HN).1 _ (List.getElem_mem hil)
    have HXd:Hid (∀W,Below w.heap.size w W→W.cell? ⟨b,o+i,none⟩=some (.int .u64 (d:Int))):=fun W hW=>by rw[hd];exact un HC W hW i hil
    have HDd:=zAb hd;clear hd hj0;rw[show(((i+1:Nat):Int) - 1)=(i:Int)from by omega]
    go_wp2
    go_loopw [4,6] (fun v u wq=>∃(q y:Nat) (T':List UInt8),q≤9∧u=.int .u64 (y:Int)∧y≤100000000∧Hid (y=Cub.unitOf q)∧T'.length+q≤T.length+9∧Hid (T'=T ++ Cub.padn (9 - q) (d / 10 ^ q))∧
     wq.ownsRow (w.heap.size+1) 5 1 v T'.length (Lib.byteCells T')∧wq.cell? ⟨w.heap.size,0,none⟩=some (.slice (some ⟨b,o,none⟩) (m+1) cap)∧Bw w wq∧w.heap.size+1≤wq.heap.size)
     (fun _ u _=>(intOf u).toNat)
    case atStart=>exact⟨9,100000000,T,Nat.le_refl _,rfl,Nat.le_refl _,rfl,Nat.le_refl _,(List.append_nil T).symm,hown,hbox,hbl,hsz⟩
    case round=>
     obtain⟨q,y,T',hq9,rfl,hy,HY,hTl',HT',hown',hbox',hbl',hsz'⟩:=hrel;clear hown hbox hbl hsz
     by_cases hq0:q=0
     ·subst hq0
      have hy0:y=0:=un HY;subst hy0
      have HTn:Hid (T'=Lib.decDigits (Cub.lval 1000000000 (l.drop i))):=by
       rw[Cub.dec_limb l i hil (un HN).1 (Cub.drop_pos (un HN) (i+1) (by have:=un HLen;omega)),←un HDd,←un HTd,un HT',Cub.pad_all];exact rfl
      go_wp2
      go_roundw
      case rel=>exact⟨i,T',by omega,rfl,by omega,HTn,hown',hbox',hbl',hsz'⟩
      case measure=>simp[intOf]
     ·obtain⟨p,rfl⟩:∃p,q=p+1:=⟨q - 1,by omega⟩
      have hyp:0<y:=by rw[un HY];exact(Cub.unit_pos _).2 (by omega)
      have hyz:((y:Int) == 0)=false:=by rw[beq_eq_false_iff_ne];omega
      have hxd:=un HXd wr hbl';clear hq0;obtain⟨z,hz⟩:∃z,z=d / y:=⟨_,rfl⟩;have hzd:z<1000000000:=by rw[hz];exact Nat.lt_of_le_of_lt (Nat.div_le_self _ _) hdB
      have hq:(d:Int) / (y:Int)=(z:Int):=by rw[hz];simp
      have HZd:Hid (z=d / 10 ^ p):=by rw[hz,un HY,Cub.unit_at];exact rfl
      clear hz
      go_wp2_with (at_builtin;refine wpList_append_own _ rfl _ _ 208 rfl (w.heap.size+1) 5 i5 (.int .u8 0) 1 1 Tryz.underlying208 hi5 hz50 hz51 hz52 rfl (by decide) _ _ _ rfl (hown'.alloc _) ⟨wr.heap.size,0,none⟩ 1 1 [.int .u8 (48+(z:Int) % 10)] rfl rfl (cell_one_new _ _ _) (fun x hx=>by simp at hx;subst hx;rfl) (by unfold maxLen;omega) (by omega) (by simp;omega) ?_;intro v' w1 hownN hgrow _)
      have hsN:w.heap.size+1≤w1.heap.size:=by have:=hgrow.size;simp at this;omega
      have hbN:Below (w.heap.size+1) wr w1:=((Below.refl _ _).alloc (by omega) _).grown hgrow (by simp;omega) (fun k hk=>(hown'.lt k hk).1);have hboxN:=(hbN.cell (p:=⟨w.heap.size,0,none⟩) (Nat.lt_succ_self _)).trans hbox';have hblN:=hbl'.trans (hbN.mono (Nat.le_succ _))
      have hown2:w1.ownsRow (w.heap.size+1) 5 1 v' (T' ++ [UInt8.ofNat (48+z % 10)]).length (Lib.byteCells (T' ++ [UInt8.ofNat (48+z % 10)])):=by
       rw[←byteCells_snoc _ _ (Nat.mod_lt _ (by decide))]
       simpa using hownN
      have HTn:Hid (T' ++ [UInt8.ofNat (48+z % 10)]=T ++ Cub.padn (9 - p) (d / 10 ^ p)):=by
       rw[un HT',List.append_assoc,un HZd,Cub.pad_step d p (by omega)];exact rfl
      have HYn:Hid (y / 10=Cub.unitOf p):=by rw[un HY,Cub.unit_div];exact rfl
      clear hownN hgrow hown' hbox' hbl' hbN hxd hq
      go_wp2
      go_roundw
      case rel=>exact⟨p,y / 10,T' ++ [UInt8.ofNat (48+z % 10)],by omega,by go_num,by omega,HYn,by simp;omega,HTn,hown2,hboxN,hblN,hsN⟩
      case measure=>simp[intOf];omega
end Go.Proofs.YtliadckofhblnaaGreatDoor
namespace Go.Proofs.YtliadckofhblnaaGreatDoor
open Go.ChangeShapes Go.WideShapes Go.ChangeAt Go.RowKit
theorem own:ownKnob Tryz.prog.godebug=none:=by kernel_rfl
theorem gPow:Tryz.prog.globalNamed "internal/strconv.uint64pow10"=some 2:=by kernel_rfl
theorem gPowType:(Tryz.prog.globals[2]?).map (·.type)=some 333:=by kernel_rfl
theorem cells333:Tryz.prog.cellsOf 333=20:=by kernel_rfl
theorem cells168:Tryz.prog.cellsOf 168=1:=by kernel_rfl
theorem tab_of {W:World} {l:List (String×DataW Unit)} (h:laidMet Tryz.prog l W) (e:l.filter (fun x=>x.1 == "internal/strconv.uint64pow10")=[("internal/strconv.uint64pow10",Rows.laid_internal_strconv_uint64pow10)]):Tab W:=by
 have h1:=laidMet.filter (fun x=>x.1 == "internal/strconv.uint64pow10") h
 rw[e]at h1;exact Lib.tabIs_of_head (rest:=[]) gPow gPowType Tryz.underlying333 Tryz.underlying168 cells168 cells333 h1
def cellsOf1:DataW Unit→List Value
 | .lit (.int k n)=>[Value.int k n]
 | .agg l=>l.map fun | .lit (.int k n)=>Value.int k n|_=>.nilIface
 | _=>[]
def zDd:DataW Unit→Array Value
 | .agg l=>(l.flatMap cellsOf1).toArray
 | _=>#[]
def putObj (h:Array Obj) (g:Nat) (c:Array Value):Array Obj:=h.modify g fun
 | .cells _ t frozen=>.cells c t frozen
 | o=>o
end Go.Proofs.YtliadckofhblnaaGreatDoor
namespace Go.Proofs.YtliadckofhblnaaGreatDoor
open Go.RowKit
theorem one_list {l:List Nat} (hn:Cub.normal 1000000000 l):Cub.lval 1000000000 l=1↔l=[1]:=by
  constructor
  · intro h
    match l,hn,h with
    | [],_,h=>simp[Cub.lval]at h
    | [x],_,h=>simp[Cub.lval]at h;rw[h]
    | x :: y :: t,hn,h=>
      have:=Cub.normal_ge hn (by simp);have h2:(1000000000:Nat) ^ 1≤1000000000 ^ ((x :: y :: t).length - 1):=Nat.pow_le_pow_right (by decide) (by simp)
      omega
  · rintro rfl;rfl
theorem zCu (v:Value) (n:Nat) (w:World) (h:zAf w v n) :
    Calls Tryz.prog 188 #[v] w fun e w'=>e=.returned (.bool (n == 1))∧Bw w w':=by
  obtain⟨a,l,cap,rfl,hl,hr,hn,rfl⟩:=h.form;have h1:=one_list hn
  by_cases hlen:l.length=1
  · match l,hlen with
    | [x],_=>
      obtain⟨a',cap',e,_,_,hc⟩:=hr;simp only[Value.slice.injEq]at e;obtain⟨rfl,_,rfl⟩:=e;obtain⟨b,o,rfl,hb,hcell⟩:=hc (by simp);have c0:=hcell 0 (by simp);simp only[List.getElem_cons_zero,Nat.add_zero]at c0
      have ex:(Cub.lval 1000000000 [x] == 1)=((x:Int) == 1):=by
        simp[Cub.lval];rw[Bool.eq_iff_iff];simp;omega
      have hx:x<18446744073709551616:=by have:=hn.1 x (by simp);omega
      rw[ex];simp only[List.length_cons,List.length_nil,Nat.zero_add]at *;clear ex h1 hn h hcell hc;go_enter Tryz.func188,Tryz.ntmps188
      go_wp2
      go_ret
      exact⟨rfl,(Below.refl _ _).alloc (Nat.le_refl _) _⟩
  · have ex:(Cub.lval 1000000000 l == 1)=false:=by
      rw[beq_eq_false_iff_ne];intro e;exact hlen (by rw[h1.1 e];rfl)
    have el:((l.length:Int) == 1)=false:=by rw[beq_eq_false_iff_ne];omega
    rw[ex];clear ex h1 hn h hr;generalize l.length=len at *
    go_enter Tryz.func188,Tryz.ntmps188
    go_wp2
    go_ret
    exact⟨rfl,(Below.refl _ _).alloc (Nat.le_refl _) _⟩
structure Box (W:World) (g:Nat) (u:Value):Prop where
  c:W.cell? ⟨g,0,none⟩=some u
  f:W.frozen? ⟨g,0,none⟩=false
theorem Box.lt {W:World} {g:Nat} {u:Value} (h:Box W g u):g<W.heap.size:=World.block_lt_of_cell? _ _ h.c
theorem Box.later {W V:World} {g:Nat} {u:Value} (h:Box W g u) (hb:Below W.heap.size W V):Box V g u :=
  ⟨(hb.cell (p:=⟨g,0,none⟩) h.lt).trans h.c,(hb.frozen (p:=⟨g,0,none⟩) h.lt).trans h.f⟩
theorem Box.set {W:World} {g:Nat} {u:Value} (h:Box W g u) (x:Value):Box (W.setCell ⟨g,0,none⟩ x) g x :=
  ⟨World.cell?_setCell_same _ _ _ h.c,by rw[World.frozen?_setCell];exact h.f⟩
theorem Box.other {W:World} {g k:Nat} {u:Value} (h:Box W g u) (hk:g≠k) (x:Value):Box (W.setCell ⟨k,0,none⟩ x) g u :=
  ⟨by rw[World.cell?_setCell_other _ _ _ _ (by intro e;cases e;exact hk rfl)];exact h.c,by rw[World.frozen?_setCell];exact h.f⟩
end Go.Proofs.YtliadckofhblnaaGreatDoor

/- The two tables more that nature's rows list, and one world that meets them. -/
import Derived.Test.YtliadckofhblnaaGreatDoorLimb3
import Derived.Test.YtliadckofhblnaaGreatDoorNt8
import Derived.Shelf.Strings.Builder1
import Derived.Shelf.Strings.Builder2
import Derived.Shelf.Strings.OnBuilder
import Derived.Shelf.Small.Bits
import Derived.Shelf.Small.Wraps
import Derived.Shelf.Strings.BuilderF
import Derived.Shelf.Strings.BuilderK
import Derived.Shelf.Strings.BuilderRune
import Derived.Shelf.Utf8.AppendRune
import Derived.Shelf.Utf8.AppendRunePlain
import Derived.Shelf.Strings.Builder2Cap
import Derived.Shelf.Strconv.Itoa0
import Derived.Shelf.Strconv.Itoa1
import Derived.Shelf.LaysM
import Derived.Shelf.Strconv.Itoa2
import Derived.Shelf.Strconv.Itoa3
import Derived.Shelf.Strconv.AppendUint10
import Derived.Shelf.Strconv.AppendInt10
import Derived.Shelf.Strings.Prefix
import Derived.Shelf.Strings.Fields
import Derived.Shelf.Strings.SplitShaped
import Derived.Shelf.Unicode.Latin
import Derived.Shelf.Unicode.Is16White
import Derived.Shelf.Unicode.IsSpaceAny
import Derived.Shelf.Unicode.Is16Any
import Derived.Shelf.Unicode.Is32Any
import Derived.Shelf.Unicode.ExclAny
import Derived.Shelf.Slices.Turned
import Derived.Ground.Names2Prog
import Derived.Shelf.Slices.SearchI
import Derived.Test.YtliadckofhblnaaGreatDoorProg
import Derived.Lib.AppendIntMem
import Derived.Test.YtliadckofhblnaaGreatDoorOne
set_option maxHeartbeats 4000000
set_option maxRecDepth 100000
namespace Go.Proofs.YtliadckofhblnaaGreatDoor.Nt
open Go.RowKit
theorem a8_at (D:Nat→Int):∀k,k<8→(#[I (D 0),I (D 1),I (D 2),I (D 3),I (D 4),I (D 5),I (D 6),I (D 7)]:Array Value)[k]?=some (I (D k))
 | 0,_=>rfl
 | 1,_=>rfl
 | 2,_=>rfl
 | 3,_=>rfl
 | 4,_=>rfl
 | 5,_=>rfl
 | 6,_=>rfl
 | 7,_=>rfl
 | _+8,h=>absurd h (by omega)
theorem powersN (us ut:ByteArray) (n:Nat) (p it:Nat→ByteArray) (pt:Nat→Nat) (D:Nat→Int) (row:Nat→Array Value) (w:World) (hn:n≤6)
 (hp:∀i,i<n→pt i<8∧(p i).size≤21∧(it i).size≤21)
 (hcur:∀k,k<n→(row k)[k]?=some (.string (p k)))
 (hsame:∀k,k<n→D (pt k)=1→row (k+1)=row k)
 (hset:∀k,k<n→D (pt k)≠1→row (k+1)=(row k).setIfInBounds k (.string (p k ++ ⟨#[94]⟩ ++ it k)))
 (hfi:∀W,Below w.heap.size w W→Calls Tryz.prog 202 #[.string us] W fun r w'=>r=.returned (.slice (some ⟨W.heap.size,0,none⟩) n n)∧w'=W.alloc (.cells (row 0) 9))
 (hpa:∀i,i<n→∀W,Calls Tryz.prog 203 #[.string (p i)] W fun r w'=>r=.returned (I (pt i:Int))∧Bw W w')
 (hit:∀i,i<n→∀W,Below w.heap.size w W→Calls Tryz.prog 204 #[I (D (pt i))] W fun r w'=>r=.returned (.string (it i))∧Bw W w')
 (hjo:∀W g,Below w.heap.size w W→zAc W g 9 (row n)→Calls Tryz.prog 205 #[.slice (some ⟨g,0,none⟩) n n,G #[32]] W fun r w'=>r=.returned (.string ut)∧Bw W w') :
 Calls Tryz.prog 141 #[.string us,.agg #[I (D 0),I (D 1),I (D 2),I (D 3),I (D 4),I (D 5),I (D 6),I (D 7)]] w fun r w'=>r=.returned (.string ut)∧Bw w w':=by
 obtain⟨V,hV⟩:∃V,V=w.alloc (.cells #[I (D 0),I (D 1),I (D 2),I (D 3),I (D 4),I (D 5),I (D 6),I (D 7)] 26):=⟨_,rfl⟩;have HD:Hid (zAc V w.heap.size 26 #[I (D 0),I (D 1),I (D 2),I (D 3),I (D 4),I (D 5),I (D 6),I (D 7)]):=by rw[hV];exact zAc.new _ _ _
 have HB:Hid (Bw w V):=by rw[hV];exact bA
 have HP:=zAb hp;have HCU:=zAb hcur;have HSA:=zAb hsame;have HSE:=zAb hset;have HFI:=zAb hfi;have HPA:=zAb hpa;have HIT:=zAb hit;have HJO:=zAb hjo;have HV:=zAb hV;clear hV hp hcur hsame hset hfi hpa hit hjo;go_enter Tryz.func141,Tryz.ntmps141
 go_upto_region 1 with fail
 rw[←un HV];clear HV
 go_upto_region 3 with (go_at_call 202;go_must(refine(un HFI _ (un HB)).mono ?_;rintro e W0 ⟨rfl,rfl⟩))
 obtain⟨W1,hW1⟩:∃W1,W1=V.alloc (.cells (row 0) 9):=⟨_,rfl⟩;have hb1:Below V.heap.size V W1:=by rw[hW1];exact zBx _ _
 have HO1:Hid (zAc W1 V.heap.size 9 (row 0)):=by rw[hW1];exact zAc.new _ _ _
 have HD1:=zAb ((un HD).later hb1);have HB1:Hid (Bw w W1):=bt HB hb1;have HNE:Hid (w.heap.size<V.heap.size):=(un HD).lt;rw[←hW1];clear hW1 hb1 HD HB HFI;generalize V.heap.size=gP at *
 go_loopw [13] (fun s13 wr=>∃(k:Nat),k≤n∧s13=I (k:Int)∧Hid (zAc wr gP 9 (row k))∧Hid (zAc wr w.heap.size 26 #[I (D 0),I (D 1),I (D 2),I (D 3),I (D 4),I (D 5),I (D 6),I (D 7)])∧Hid (Bw w wr)) (fun s13 _=>n - (intOf s13).toNat)
 case atStart=>exact⟨0,by omega,rfl,HO1,HD1,HB1⟩
 case round=>
  clear HO1 HD1 HB1;obtain⟨k,hk,rfl,HO,HDD,HB⟩:=hrel
  by_cases hlt:k<n
  ·have hkI:(k:Int)<(n:Int):=by omega
   have hk0:(0:Int)≤(k:Int):=by omega
   have c0:wr.cell? ⟨gP,k,none⟩=some (.string (p k)):=(un HO).ub.c k _ (un HCU k hlt);obtain⟨hq8,hs1,hs2⟩:=un HP k hlt;have HPK:=zAb (un HPA k hlt);have HIK:=zAb (un HIT k hlt);have HSK:=zAb (un HSA k hlt);have HEK:=zAb (un HSE k hlt);have HAT:=zAb (a8_at D (pt k) hq8);have hq8I:((pt k:Nat):Int)<8:=by omega
   have hq0I:(0:Int)≤((pt k:Nat):Int):=by omega
   clear HPA HIT HSA HSE HP;generalize p k=pk at *
   generalize it k=ik at *
   by_cases h1:D (pt k)=1
   ·have HRK:=zAb (un HSK h1)
    rw[h1]at HAT;clear HSK HEK HIK h1;generalize pt k=q at *
    go_upto_region 6 with (go_at_call 203;go_must(refine(un HPK _).mono ?_;rintro e w2 ⟨rfl,hb⟩;have HO2:=zAb ((un HO).later hb);have HD2:=zAb ((un HDD).later hb);have HB2:Hid (Bw w w2):=bt HB hb;clear hb c0;have d0:=(un HD2).ub.c q _ (un HAT)))
    go_wp2_with fail
    go_roundw
    case rel=>exact⟨k+1,by omega,by go_num,(by rw[un HRK];exact HO2),HD2,HB2⟩
    case measure=>simp[intOf];omega
   ·have HRK:=zAb (un HEK h1)
    have hne1:(D (pt k) == 1)=false:=by simp[h1]
    clear HSK HEK;generalize D (pt k)=ev at *
    generalize pt k=q at *
    go_upto_region 6 with (go_at_call 203;go_must(refine(un HPK _).mono ?_;rintro e w2 ⟨rfl,hb⟩;have HO2:=zAb ((un HO).later hb);have HD2:=zAb ((un HDD).later hb);have HB2:Hid (Bw w w2):=bt HB hb;clear hb c0;have d0:=(un HD2).ub.c q _ (un HAT)))
    clear d0
    go_wp2_with (go_at_call 204;go_must(refine(un HIK _ (un HB2)).mono ?_;rintro e w3 ⟨rfl,hb⟩;have HO3:=zAb ((un HO2).later hb);have HD3:=zAb ((un HD2).later hb);have HB3:Hid (Bw w w3):=bt HB2 hb;clear hb;have c1:=(un HO3).ub.c k _ (un HCU k hlt);have f1:=(un HO3).ub.f k _ (un HCU k hlt)))
    go_roundw
    case rel=>exact⟨k+1,by omega,by go_num,(by rw[un HRK];exact(un HO3).set k _),(un HD3).otherSet (by have:=un HNE;omega) _ _,(un HB3).setCell (p:=⟨gP,k,none⟩) (by have:=un HNE;show w.heap.size≤gP;omega) _⟩
    case measure=>simp[intOf];omega
  ·have hkI:¬(k:Int)<(n:Int):=by omega
   have HK:Hid (k=n):=by show k=n;omega
   have HJ:=zAb (un HJO wr gP (un HB) (by have h:=un HO;rw[un HK]at h;exact h))
   go_wp2_with (go_at_call 205;go_must(refine(un HJ).mono ?_;rintro e w3 ⟨rfl,hb⟩;have HB3:Hid (Bw w w3):=bt HB hb;clear hb))
   go_ret
   exact⟨rfl,un HB3⟩
end Go.Proofs.YtliadckofhblnaaGreatDoor.Nt
namespace Go.Proofs
open Go.Shelf
def Tryz.lays156_ren:Go.Shelf.Ren:=⟨fun|156=>205|165=>250|166=>251|169=>252|240=>281|241=>282|276=>310|277=>311|n=>n,fun|31=>76|9=>9|3=>3|4=>4|0=>0|20=>20|72=>265|76=>269|70=>263|37=>208|75=>268|127=>313|164=>348|5=>5|80=>148|n=>n,fun|n=>n⟩
theorem Tryz.lays156:Go.Proofs.Lays.n156 Tryz.prog Tryz.lays156_ren:={
 mixed:=by kernel_rfl
 f156:=Tryz.func205.trans (congrArg some (by kernel_rfl))
 f165:=Tryz.func250.trans (congrArg some (by kernel_rfl))
 f166:=Tryz.func251.trans (congrArg some (by kernel_rfl))
 f169:=Tryz.func252.trans (congrArg some (by kernel_rfl))
 f240:=Tryz.func281.trans (congrArg some (by kernel_rfl))
 f241:=Tryz.func282.trans (congrArg some (by kernel_rfl))
 f276:=Tryz.func310.trans (congrArg some (by kernel_rfl))
 f277:=Tryz.func311.trans (congrArg some (by kernel_rfl))
 t0:=Tryz.underlying0
 a0:=Tryz.isAgg0
 z0:=Tryz.sizeOf0
 v0:=Tryz.zeroValue0
 t3:=Tryz.underlying3
 a3:=Tryz.isAgg3
 z3:=Tryz.sizeOf3
 v3:=Tryz.zeroValue3
 t4:=Tryz.underlying4
 a4:=Tryz.isAgg4
 z4:=Tryz.sizeOf4
 v4:=Tryz.zeroValue4
 t9:=Tryz.underlying9
 a9:=Tryz.isAgg9
 z9:=Tryz.sizeOf9
 v9:=Tryz.zeroValue9
 t20:=Tryz.underlying20
 a20:=Tryz.isAgg20
 z20:=Tryz.sizeOf20
 v20:=Tryz.zeroValue20
 t31:=Tryz.underlying76
 a31:=Tryz.isAgg76
 z31:=Tryz.sizeOf76
 v31:=Tryz.zeroValue76
 t37:=Tryz.underlying208
 a37:=Tryz.isAgg208
 z37:=Tryz.sizeOf208
 v37:=Tryz.zeroValue208
 t70:=Tryz.underlying263
 a70:=Tryz.isAgg263
 z70:=Tryz.sizeOf263
 v70:=Tryz.zeroValue263
 t72:=Tryz.underlying265
 a72:=Tryz.isAgg265
 z72:=Tryz.sizeOf265
 v72:=Tryz.zeroValue265
 t75:=Tryz.underlying268
 a75:=Tryz.isAgg268
 z75:=Tryz.sizeOf268
 v75:=Tryz.zeroValue268
 t76:=Tryz.underlying269
 a76:=Tryz.isAgg269
 z76:=Tryz.sizeOf269
 v76:=Tryz.zeroValue269
 t127:=Tryz.underlying313
 a127:=Tryz.isAgg313
 z127:=Tryz.sizeOf313
 v127:=Tryz.zeroValue313
 t164:=Tryz.underlying348
 a164:=Tryz.isAgg348
 z164:=Tryz.sizeOf348
 v164:=Tryz.zeroValue348 }
theorem Tryz.Builder_Extra_156:Builder.Extra Tryz.prog Tryz.lays156_ren:={
 sizeBuilder:=by kernel_rfl
 liesBuilder:=by kernel_rfl
 t5:=Tryz.underlying5
 a5:=Tryz.isAgg5
 z5:=Tryz.sizeOf5
 v5:=Tryz.zeroValue5
 infoByte:=by kernel_rfl
 cellsByte:=by kernel_rfl
 sizeByte:=by kernel_rfl
 neB5:=by decide }
open Go.RowKit in
theorem Tryz.strings_Join (bk o c:Nat) (xs:List ByteArray) (sep:ByteArray) (w:World) (hcells:∀(j:Nat) x,xs[j]?=some x→w.cell? ⟨bk,o+j,none⟩=some (.string x)) (hbk:bk<w.heap.size) (hN:xs.length≤140737488355328) (hcap:xs.length≤c) (hlen:(Lib.join (xs.map (·.data.toList)) sep.data.toList).length≤140737488355328) :
  Calls Tryz.prog 205 #[.slice (some ⟨bk,o,none⟩) xs.length c,.string sep] w fun e w'=>e=.returned (.string ⟨(Lib.join (xs.map (·.data.toList)) sep.data.toList).toArray⟩)∧Below w.heap.size w w':=Any.strings_Join Tryz.lays156 Tryz.Builder_Extra_156 bk o c xs sep w hcells hbk hN hcap hlen
def Tryz.laysM171_ren:Go.Shelf.Ren:=⟨fun|171=>204|243=>249|246=>280|283=>272|284=>273|285=>274|286=>275|129=>304|317=>303|318=>305|319=>306|320=>307|337=>365|338=>366|n=>n,fun|3=>3|9=>9|2=>2|4=>4|171=>298|0=>0|53=>168|37=>208|5=>5|173=>301|212=>333|51=>309|20=>20|213=>334|46=>335|232=>367|233=>368|n=>n,fun|17=>2|18=>4|19=>5|n=>n⟩
theorem Tryz.laysM171:Go.Proofs.LaysM.n171 Tryz.prog Tryz.laysM171_ren:={
 mixed:=by kernel_rfl
 f129:=Tryz.func304.trans (congrArg some (by kernel_rfl))
 f171:=Tryz.func204.trans (congrArg some (by kernel_rfl))
 f243:=Tryz.func249.trans (congrArg some (by kernel_rfl))
 f246:=Tryz.func280.trans (congrArg some (by kernel_rfl))
 f283:=Tryz.func272.trans (congrArg some (by kernel_rfl))
 f284:=Tryz.func273.trans (congrArg some (by kernel_rfl))
 f285:=Tryz.func274.trans (congrArg some (by kernel_rfl))
 f286:=Tryz.func275.trans (congrArg some (by kernel_rfl))
 f317:=Tryz.func303.trans (congrArg some (by kernel_rfl))
 f318:=Tryz.func305.trans (congrArg some (by kernel_rfl))
 f319:=Tryz.func306.trans (congrArg some (by kernel_rfl))
 f320:=Tryz.func307.trans (congrArg some (by kernel_rfl))
 f337:=Tryz.func365.trans (congrArg some (by kernel_rfl))
 f338:=Tryz.func366.trans (congrArg some (by kernel_rfl))
 t0:=Tryz.underlying0
 a0:=Tryz.isAgg0
 z0:=Tryz.sizeOf0
 v0:=Tryz.zeroValue0
 t2:=Tryz.underlying2
 a2:=Tryz.isAgg2
 z2:=Tryz.sizeOf2
 v2:=Tryz.zeroValue2
 t3:=Tryz.underlying3
 a3:=Tryz.isAgg3
 z3:=Tryz.sizeOf3
 v3:=Tryz.zeroValue3
 t4:=Tryz.underlying4
 a4:=Tryz.isAgg4
 z4:=Tryz.sizeOf4
 v4:=Tryz.zeroValue4
 t5:=Tryz.underlying5
 a5:=Tryz.isAgg5
 z5:=Tryz.sizeOf5
 v5:=Tryz.zeroValue5
 t9:=Tryz.underlying9
 a9:=Tryz.isAgg9
 z9:=Tryz.sizeOf9
 v9:=Tryz.zeroValue9
 t20:=Tryz.underlying20
 a20:=Tryz.isAgg20
 z20:=Tryz.sizeOf20
 v20:=Tryz.zeroValue20
 t37:=Tryz.underlying208
 a37:=Tryz.isAgg208
 z37:=Tryz.sizeOf208
 v37:=Tryz.zeroValue208
 t46:=Tryz.underlying335
 a46:=Tryz.isAgg335
 z46:=Tryz.sizeOf335
 v46:=Tryz.zeroValue335
 t51:=Tryz.underlying309
 a51:=Tryz.isAgg309
 z51:=Tryz.sizeOf309
 v51:=Tryz.zeroValue309
 t53:=Tryz.underlying168
 a53:=Tryz.isAgg168
 z53:=Tryz.sizeOf168
 v53:=Tryz.zeroValue168
 t171:=Tryz.underlying298
 a171:=Tryz.isAgg298
 z171:=Tryz.sizeOf298
 v171:=Tryz.zeroValue298
 t173:=Tryz.underlying301
 a173:=Tryz.isAgg301
 z173:=Tryz.sizeOf301
 v173:=Tryz.zeroValue301
 t212:=Tryz.underlying333
 a212:=Tryz.isAgg333
 z212:=Tryz.sizeOf333
 v212:=Tryz.zeroValue333
 t213:=Tryz.underlying334
 a213:=Tryz.isAgg334
 z213:=Tryz.sizeOf334
 t232:=Tryz.underlying367
 a232:=Tryz.isAgg367
 z232:=Tryz.sizeOf367
 v232:=Tryz.zeroValue367
 t233:=Tryz.underlying368
 a233:=Tryz.isAgg368
 z233:=Tryz.sizeOf368
 v233:=Tryz.zeroValue368
 g17:=by kernel_rfl
 g18:=by kernel_rfl
 g19:=by kernel_rfl
 i0:=by kernel_rfl
 i2:=by kernel_rfl
 i3:=by kernel_rfl
 i4:=by kernel_rfl
 i5:=by kernel_rfl
 i9:=by kernel_rfl
 i20:=by kernel_rfl
 i37:=by kernel_rfl
 i46:=by kernel_rfl
 i51:=by kernel_rfl
 i53:=by kernel_rfl
 i171:=by kernel_rfl
 i173:=by kernel_rfl
 i212:=by kernel_rfl
 i232:=by kernel_rfl
 i233:=by kernel_rfl
 m17:=by kernel_rfl
 m18:=by kernel_rfl
 m19:=by kernel_rfl }
open Go.RowKit Go.Sort Go.Lib in
theorem Tryz.strconv_Itoa (n:Int) (h0:-9223372036854775808≤n) (h1:n≤9223372036854775807) (w:World) (htab:Lib.TabIs Tryz.prog w "internal/strconv.uint64pow10" .u64 Lib.pow10Tab) :
  Calls Tryz.prog 204 #[.int .i64 n] w fun e w'=>e=.returned (.string ⟨(Lib.itoa n).toArray⟩)∧∃k os,w'=grow (w.drewN k) os:=Any.strconv_Itoa Tryz.laysM171 n h0 h1 w htab
def Tryz.lays157_ren:Go.Shelf.Ren:=⟨fun|157=>202|229=>247|199=>248|261=>279|311=>308|312=>309|n=>n,fun|9=>9|31=>76|3=>3|5=>5|4=>4|119=>260|0=>0|40=>262|152=>306|21=>21|154=>308|51=>309|141=>311|196=>340|193=>337|198=>343|49=>341|194=>338|201=>346|226=>362|46=>335|227=>363|n=>n,fun|0=>0|6=>1|n=>n⟩
theorem Tryz.lays157:Go.Proofs.Lays.n157 Tryz.prog Tryz.lays157_ren:={
 mixed:=by kernel_rfl
 f157:=Tryz.func202.trans (congrArg some (by kernel_rfl))
 f199:=Tryz.func248.trans (congrArg some (by kernel_rfl))
 f229:=Tryz.func247.trans (congrArg some (by kernel_rfl))
 f261:=Tryz.func279.trans (congrArg some (by kernel_rfl))
 f311:=Tryz.func308.trans (congrArg some (by kernel_rfl))
 f312:=Tryz.func309.trans (congrArg some (by kernel_rfl))
 t0:=Tryz.underlying0
 a0:=Tryz.isAgg0
 z0:=Tryz.sizeOf0
 v0:=Tryz.zeroValue0
 t3:=Tryz.underlying3
 a3:=Tryz.isAgg3
 z3:=Tryz.sizeOf3
 v3:=Tryz.zeroValue3
 t4:=Tryz.underlying4
 a4:=Tryz.isAgg4
 z4:=Tryz.sizeOf4
 v4:=Tryz.zeroValue4
 t5:=Tryz.underlying5
 a5:=Tryz.isAgg5
 z5:=Tryz.sizeOf5
 v5:=Tryz.zeroValue5
 t9:=Tryz.underlying9
 a9:=Tryz.isAgg9
 z9:=Tryz.sizeOf9
 v9:=Tryz.zeroValue9
 t21:=Tryz.underlying21
 a21:=Tryz.isAgg21
 z21:=Tryz.sizeOf21
 v21:=Tryz.zeroValue21
 t31:=Tryz.underlying76
 a31:=Tryz.isAgg76
 z31:=Tryz.sizeOf76
 v31:=Tryz.zeroValue76
 t40:=Tryz.underlying262
 a40:=Tryz.isAgg262
 z40:=Tryz.sizeOf262
 v40:=Tryz.zeroValue262
 t46:=Tryz.underlying335
 a46:=Tryz.isAgg335
 z46:=Tryz.sizeOf335
 v46:=Tryz.zeroValue335
 t49:=Tryz.underlying341
 a49:=Tryz.isAgg341
 z49:=Tryz.sizeOf341
 v49:=Tryz.zeroValue341
 t51:=Tryz.underlying309
 a51:=Tryz.isAgg309
 z51:=Tryz.sizeOf309
 v51:=Tryz.zeroValue309
 t119:=Tryz.underlying260
 a119:=Tryz.isAgg260
 z119:=Tryz.sizeOf260
 t141:=Tryz.underlying311
 a141:=Tryz.isAgg311
 z141:=Tryz.sizeOf311
 v141:=Tryz.zeroValue311
 t152:=Tryz.underlying306
 a152:=Tryz.isAgg306
 z152:=Tryz.sizeOf306
 v152:=Tryz.zeroValue306
 t154:=Tryz.underlying308
 a154:=Tryz.isAgg308
 z154:=Tryz.sizeOf308
 v154:=Tryz.zeroValue308
 t193:=Tryz.underlying337
 a193:=Tryz.isAgg337
 z193:=Tryz.sizeOf337
 v193:=Tryz.zeroValue337
 t194:=Tryz.underlying338
 a194:=Tryz.isAgg338
 z194:=Tryz.sizeOf338
 v194:=Tryz.zeroValue338
 t196:=Tryz.underlying340
 a196:=Tryz.isAgg340
 z196:=Tryz.sizeOf340
 v196:=Tryz.zeroValue340
 t198:=Tryz.underlying343
 a198:=Tryz.isAgg343
 z198:=Tryz.sizeOf343
 v198:=Tryz.zeroValue343
 t201:=Tryz.underlying346
 a201:=Tryz.isAgg346
 z201:=Tryz.sizeOf346
 v201:=Tryz.zeroValue346
 t226:=Tryz.underlying362
 a226:=Tryz.isAgg362
 z226:=Tryz.sizeOf362
 v226:=Tryz.zeroValue362
 t227:=Tryz.underlying363
 a227:=Tryz.isAgg363
 z227:=Tryz.sizeOf363
 v227:=Tryz.zeroValue363
 g0:=by kernel_rfl
 g6:=by kernel_rfl }
open Go.RowKit Go.Lib in
theorem Tryz.strings_Fields (s:ByteArray) (w:World) (hs:s.size<4294967281) (hascii:∀(j:Nat) b,s.data.toList[j]?=some b→b.toNat<128) (htab:Lib.TabIs Tryz.prog w "strings.asciiSpace" .u8 Lib.asciiSpaceTab) :
  Calls Tryz.prog 202 #[.string s] w fun e w'=>
   e=.returned (.slice (some ⟨w.heap.size,0,none⟩) (Lib.fields s.data.toList).length (Lib.fields s.data.toList).length)∧w'=w.alloc (.cells ((Lib.fields s.data.toList).map fun l=>Value.string ⟨l.toArray⟩).toArray 9):=Any.strings_Fields Tryz.lays157 (by kernel_rfl) (by kernel_rfl) s w hs hascii htab
end Go.Proofs
namespace Go.Proofs.YtliadckofhblnaaGreatDoor.Nt
open Go.RowKit
def Spc (w:World):Prop:=Lib.TabIs Tryz.prog w "strings.asciiSpace" .u8 Lib.asciiSpaceTab
theorem Spc.later {w w':World} (h:Spc w) (hb:Below w.heap.size w w'):Spc w':=Lib.tabBelow_of_tabIs h w' hb
theorem itoa_call (n:Int) (w:World) (h0:-99≤n) (h1:n≤99) (ht:Tab w):Calls Tryz.prog 204 #[I n] w fun e w'=>e=.returned (.string ⟨(Lib.itoa n).toArray⟩)∧Bw w w' :=
 (Tryz.strconv_Itoa n (by omega) (by omega) w ht).mono fun _ _ ⟨he,k,os,hw⟩=>⟨he,by subst hw;exact Lib.below_grow _ w (Nat.le_refl _) k os⟩
theorem ascii_all (l:List UInt8) (h:l.all (fun b=>decide (b.toNat<128))=true):∀(j:Nat) b,l[j]?=some b→b.toNat<128:=fun _ b e=>
 of_decide_eq_true (List.all_eq_true.mp h b (List.mem_of_getElem? e))
def itB (n:Int):ByteArray:=⟨(Lib.itoa n).toArray⟩
theorem powT (us ut:ByteArray) (n:Nat) (pt:Nat→Nat) (D:Nat→Int) (row:Nat→Array Value) (xs:List ByteArray) (w:World) (hn:n≤6)
  (hpt:∀i,i<n→pt i<6∧(s6 (pt i)).size≤21∧(itB (D (pt i))).size≤21∧-99≤D (pt i)∧D (pt i)≤99)
  (hcur:∀k,k<n→(row k)[k]?=some (.string (s6 (pt k))))
  (hsame:∀k,k<n→D (pt k)=1→row (k+1)=row k)
  (hset:∀k,k<n→D (pt k)≠1→row (k+1)=(row k).setIfInBounds k (.string (s6 (pt k) ++ ⟨#[94]⟩ ++ itB (D (pt k)))))
  (hf:(Lib.fields us.data.toList).length=n) (hr:((Lib.fields us.data.toList).map fun l=>Value.string ⟨l.toArray⟩).toArray=row 0)
  (ha:us.data.toList.all (fun b=>decide (b.toNat<128))=true) (hz:us.size<100)
  (hx:row n=(xs.map Value.string).toArray) (hl:xs.length=n)
  (hj:(⟨(Lib.join (xs.map (·.data.toList)) [32]).toArray⟩:ByteArray)=ut) (hjl:(Lib.join (xs.map (·.data.toList)) [32]).length<1000) (hsp:Spc w) (htb:Tab w) :
  Calls Tryz.prog 141 #[.string us,.agg #[I (D 0),I (D 1),I (D 2),I (D 3),I (D 4),I (D 5),I (D 6),I (D 7)]] w fun r w'=>r=.returned (.string ut)∧Bw w w':=by
 refine powersN us ut n (fun i=>s6 (pt i)) (fun i=>itB (D (pt i))) pt D row w hn (fun i hi=>⟨by have:=(hpt i hi).1;omega,(hpt i hi).2.1,(hpt i hi).2.2.1⟩) hcur hsame hset ?_ (fun i hi W=>part6 (pt i) (hpt i hi).1 W) (fun i hi W hb=>itoa_call _ W (hpt i hi).2.2.2.1 (hpt i hi).2.2.2.2 (htb.later hb)) ?_
 ·intro W hb
  refine(Tryz.strings_Fields us W (by omega) (ascii_all _ ha) (hsp.later hb)).mono ?_;rintro r w' ⟨rfl,rfl⟩;rw[hf,hr];exact⟨rfl,rfl⟩
 ·intro W g hb ho
  have hc:∀(j:Nat) x,xs[j]?=some x→W.cell? ⟨g,0+j,none⟩=some (.string x):=fun j x e=>by
   rw[Nat.zero_add];refine ho.ub.c j _ ?_;rw[hx];simp[e]
  have h:=Tryz.strings_Join g 0 n xs ⟨#[32]⟩ W hc ho.ub.lt (by omega) (by omega) (by show(Lib.join (xs.map (·.data.toList)) [32]).length≤_;omega);rw[hl]at h;refine h.mono ?_;rintro r w' ⟨rfl,hb2⟩;exact⟨by rw[←hj],hb2⟩
def pt_avogadro:Nat→Nat
 | _=>5
def dd_avogadro:Nat→Int
 | 0=>0
 | 1=>0
 | 2=>0
 | 3=>0
 | 4=>0
 | 5=>-1
 | 6=>0
 | _=>0
def row_avogadro:Nat→Array Value
 | 0=>#[G #[109,111,108]]
 | _=>#[G #[109,111,108,94,45,49]]
theorem pow_avogadro (w:World) (hsp:Spc w) (htb:Tab w):Calls Tryz.prog 141 #[G #[109,111,108],.agg #[I (0),I (0),I (0),I (0),I (0),I (-1),I (0),I (0)]] w fun r w'=>r=.returned (G #[109,111,108,94,45,49])∧Bw w w' :=
 powT ⟨#[109,111,108]⟩ ⟨#[109,111,108,94,45,49]⟩ 1 pt_avogadro dd_avogadro row_avogadro [⟨#[109,111,108,94,45,49]⟩] w (by omega)
  (by decide +kernel)
  (fun|0,_=>rfl|_+1,h=>absurd h (by omega))
  (fun|0,_,e=>absurd e (by decide)|_+1,h,_=>absurd h (by omega))
  (fun|0,_,e=>by kernel_rfl|_+1,h,_=>absurd h (by omega))
  (by kernel_rfl) (by kernel_rfl) (by decide +kernel) (by decide +kernel) (by kernel_rfl) rfl (by kernel_rfl) (by decide +kernel) hsp htb
def pt_boltzmann:Nat→Nat
 | 0=>0
 | 1=>1
 | 2=>2
 | _=>4
def dd_boltzmann:Nat→Int
 | 0=>2
 | 1=>1
 | 2=>-2
 | 3=>0
 | 4=>-1
 | 5=>0
 | 6=>0
 | _=>0
def row_boltzmann:Nat→Array Value
 | 0=>#[G #[109],G #[107,103],G #[115],G #[75]]
 | 1=>#[G #[109,94,50],G #[107,103],G #[115],G #[75]]
 | 2=>#[G #[109,94,50],G #[107,103],G #[115],G #[75]]
 | 3=>#[G #[109,94,50],G #[107,103],G #[115,94,45,50],G #[75]]
 | _=>#[G #[109,94,50],G #[107,103],G #[115,94,45,50],G #[75,94,45,49]]
theorem pow_boltzmann (w:World) (hsp:Spc w) (htb:Tab w):Calls Tryz.prog 141 #[G #[109,32,107,103,32,115,32,75],.agg #[I (2),I (1),I (-2),I (0),I (-1),I (0),I (0),I (0)]] w fun r w'=>r=.returned (G #[109,94,50,32,107,103,32,115,94,45,50,32,75,94,45,49])∧Bw w w' :=
 powT ⟨#[109,32,107,103,32,115,32,75]⟩ ⟨#[109,94,50,32,107,103,32,115,94,45,50,32,75,94,45,49]⟩ 4 pt_boltzmann dd_boltzmann row_boltzmann [⟨#[109,94,50]⟩,⟨#[107,103]⟩,⟨#[115,94,45,50]⟩,⟨#[75,94,45,49]⟩] w (by omega)
  (by decide +kernel)
  (fun|0,_=>rfl|1,_=>rfl|2,_=>rfl|3,_=>rfl|_+4,h=>absurd h (by omega))
  (fun|0,_,e=>absurd e (by decide)|1,_,e=>rfl|2,_,e=>absurd e (by decide)|3,_,e=>absurd e (by decide)|_+4,h,_=>absurd h (by omega))
  (fun|0,_,e=>by kernel_rfl|1,_,e=>absurd rfl e|2,_,e=>by kernel_rfl|3,_,e=>by kernel_rfl|_+4,h,_=>absurd h (by omega))
  (by kernel_rfl) (by kernel_rfl) (by decide +kernel) (by decide +kernel) (by kernel_rfl) rfl (by kernel_rfl) (by decide +kernel) hsp htb
def pt_gas:Nat→Nat
 | 0=>0
 | 1=>1
 | 2=>2
 | 3=>4
 | _=>5
def dd_gas:Nat→Int
 | 0=>2
 | 1=>1
 | 2=>-2
 | 3=>0
 | 4=>-1
 | 5=>-1
 | 6=>0
 | _=>0
def row_gas:Nat→Array Value
 | 0=>#[G #[109],G #[107,103],G #[115],G #[75],G #[109,111,108]]
 | 1=>#[G #[109,94,50],G #[107,103],G #[115],G #[75],G #[109,111,108]]
 | 2=>#[G #[109,94,50],G #[107,103],G #[115],G #[75],G #[109,111,108]]
 | 3=>#[G #[109,94,50],G #[107,103],G #[115,94,45,50],G #[75],G #[109,111,108]]
 | 4=>#[G #[109,94,50],G #[107,103],G #[115,94,45,50],G #[75,94,45,49],G #[109,111,108]]
 | _=>#[G #[109,94,50],G #[107,103],G #[115,94,45,50],G #[75,94,45,49],G #[109,111,108,94,45,49]]
theorem pow_gas (w:World) (hsp:Spc w) (htb:Tab w):Calls Tryz.prog 141 #[G #[109,32,107,103,32,115,32,75,32,109,111,108],.agg #[I (2),I (1),I (-2),I (0),I (-1),I (-1),I (0),I (0)]] w fun r w'=>r=.returned (G #[109,94,50,32,107,103,32,115,94,45,50,32,75,94,45,49,32,109,111,108,94,45,49])∧Bw w w' :=
 powT ⟨#[109,32,107,103,32,115,32,75,32,109,111,108]⟩ ⟨#[109,94,50,32,107,103,32,115,94,45,50,32,75,94,45,49,32,109,111,108,94,45,49]⟩ 5 pt_gas dd_gas row_gas [⟨#[109,94,50]⟩,⟨#[107,103]⟩,⟨#[115,94,45,50]⟩,⟨#[75,94,45,49]⟩,⟨#[109,111,108,94,45,49]⟩] w (by omega)
  (by decide +kernel)
  (fun|0,_=>rfl|1,_=>rfl|2,_=>rfl|3,_=>rfl|4,_=>rfl|_+5,h=>absurd h (by omega))
  (fun|0,_,e=>absurd e (by decide)|1,_,e=>rfl|2,_,e=>absurd e (by decide)|3,_,e=>absurd e (by decide)|4,_,e=>absurd e (by decide)|_+5,h,_=>absurd h (by omega))
  (fun|0,_,e=>by kernel_rfl|1,_,e=>absurd rfl e|2,_,e=>by kernel_rfl|3,_,e=>by kernel_rfl|4,_,e=>by kernel_rfl|_+5,h,_=>absurd h (by omega))
  (by kernel_rfl) (by kernel_rfl) (by decide +kernel) (by decide +kernel) (by kernel_rfl) rfl (by kernel_rfl) (by decide +kernel) hsp htb
def pt_charge:Nat→Nat
 | 0=>3
 | _=>2
def dd_charge:Nat→Int
 | 0=>0
 | 1=>0
 | 2=>1
 | 3=>1
 | 4=>0
 | 5=>0
 | 6=>0
 | _=>0
def row_charge:Nat→Array Value
 | 0=>#[G #[65],G #[115]]
 | 1=>#[G #[65],G #[115]]
 | _=>#[G #[65],G #[115]]
theorem pow_charge (w:World) (hsp:Spc w) (htb:Tab w):Calls Tryz.prog 141 #[G #[65,32,115],.agg #[I (0),I (0),I (1),I (1),I (0),I (0),I (0),I (0)]] w fun r w'=>r=.returned (G #[65,32,115])∧Bw w w' :=
 powT ⟨#[65,32,115]⟩ ⟨#[65,32,115]⟩ 2 pt_charge dd_charge row_charge [⟨#[65]⟩,⟨#[115]⟩] w (by omega)
  (by decide +kernel)
  (fun|0,_=>rfl|1,_=>rfl|_+2,h=>absurd h (by omega))
  (fun|0,_,e=>rfl|1,_,e=>rfl|_+2,h,_=>absurd h (by omega))
  (fun|0,_,e=>absurd rfl e|1,_,e=>absurd rfl e|_+2,h,_=>absurd h (by omega))
  (by kernel_rfl) (by kernel_rfl) (by decide +kernel) (by decide +kernel) (by kernel_rfl) rfl (by kernel_rfl) (by decide +kernel) hsp htb
def pt_faraday:Nat→Nat
 | 0=>3
 | 1=>2
 | _=>5
def dd_faraday:Nat→Int
 | 0=>0
 | 1=>0
 | 2=>1
 | 3=>1
 | 4=>0
 | 5=>-1
 | 6=>0
 | _=>0
def row_faraday:Nat→Array Value
 | 0=>#[G #[65],G #[115],G #[109,111,108]]
 | 1=>#[G #[65],G #[115],G #[109,111,108]]
 | 2=>#[G #[65],G #[115],G #[109,111,108]]
 | _=>#[G #[65],G #[115],G #[109,111,108,94,45,49]]
theorem pow_faraday (w:World) (hsp:Spc w) (htb:Tab w):Calls Tryz.prog 141 #[G #[65,32,115,32,109,111,108],.agg #[I (0),I (0),I (1),I (1),I (0),I (-1),I (0),I (0)]] w fun r w'=>r=.returned (G #[65,32,115,32,109,111,108,94,45,49])∧Bw w w' :=
 powT ⟨#[65,32,115,32,109,111,108]⟩ ⟨#[65,32,115,32,109,111,108,94,45,49]⟩ 3 pt_faraday dd_faraday row_faraday [⟨#[65]⟩,⟨#[115]⟩,⟨#[109,111,108,94,45,49]⟩] w (by omega)
  (by decide +kernel)
  (fun|0,_=>rfl|1,_=>rfl|2,_=>rfl|_+3,h=>absurd h (by omega))
  (fun|0,_,e=>rfl|1,_,e=>rfl|2,_,e=>absurd e (by decide)|_+3,h,_=>absurd h (by omega))
  (fun|0,_,e=>absurd rfl e|1,_,e=>absurd rfl e|2,_,e=>by kernel_rfl|_+3,h,_=>absurd h (by omega))
  (by kernel_rfl) (by kernel_rfl) (by decide +kernel) (by decide +kernel) (by kernel_rfl) rfl (by kernel_rfl) (by decide +kernel) hsp htb
def pt_electron:Nat→Nat
 | _=>1
def dd_electron:Nat→Int
 | 0=>0
 | 1=>1
 | 2=>0
 | 3=>0
 | 4=>0
 | 5=>0
 | 6=>0
 | _=>0
def row_electron:Nat→Array Value
 | 0=>#[G #[107,103]]
 | _=>#[G #[107,103]]
theorem pow_electron (w:World) (hsp:Spc w) (htb:Tab w):Calls Tryz.prog 141 #[G #[107,103],.agg #[I (0),I (1),I (0),I (0),I (0),I (0),I (0),I (0)]] w fun r w'=>r=.returned (G #[107,103])∧Bw w w' :=
 powT ⟨#[107,103]⟩ ⟨#[107,103]⟩ 1 pt_electron dd_electron row_electron [⟨#[107,103]⟩] w (by omega)
  (by decide +kernel)
  (fun|0,_=>rfl|_+1,h=>absurd h (by omega))
  (fun|0,_,e=>rfl|_+1,h,_=>absurd h (by omega))
  (fun|0,_,e=>absurd rfl e|_+1,h,_=>absurd h (by omega))
  (by kernel_rfl) (by kernel_rfl) (by decide +kernel) (by decide +kernel) (by kernel_rfl) rfl (by kernel_rfl) (by decide +kernel) hsp htb
def pt_gravitation:Nat→Nat
 | 0=>0
 | 1=>1
 | _=>2
def zGm:Nat→Int
 | 0=>3
 | 1=>-1
 | 2=>-2
 | 3=>0
 | 4=>0
 | 5=>0
 | 6=>0
 | _=>0
def row_gravitation:Nat→Array Value
 | 0=>#[G #[109],G #[107,103],G #[115]]
 | 1=>#[G #[109,94,51],G #[107,103],G #[115]]
 | 2=>#[G #[109,94,51],G #[107,103,94,45,49],G #[115]]
 | _=>#[G #[109,94,51],G #[107,103,94,45,49],G #[115,94,45,50]]
theorem pow_gravitation (w:World) (hsp:Spc w) (htb:Tab w):Calls Tryz.prog 141 #[G #[109,32,107,103,32,115],.agg #[I (3),I (-1),I (-2),I (0),I (0),I (0),I (0),I (0)]] w fun r w'=>r=.returned (G #[109,94,51,32,107,103,94,45,49,32,115,94,45,50])∧Bw w w' :=
 powT ⟨#[109,32,107,103,32,115]⟩ ⟨#[109,94,51,32,107,103,94,45,49,32,115,94,45,50]⟩ 3 pt_gravitation zGm row_gravitation [⟨#[109,94,51]⟩,⟨#[107,103,94,45,49]⟩,⟨#[115,94,45,50]⟩] w (by omega)
  (by decide +kernel)
  (fun|0,_=>rfl|1,_=>rfl|2,_=>rfl|_+3,h=>absurd h (by omega))
  (fun|0,_,e=>absurd e (by decide)|1,_,e=>absurd e (by decide)|2,_,e=>absurd e (by decide)|_+3,h,_=>absurd h (by omega))
  (fun|0,_,e=>by kernel_rfl|1,_,e=>by kernel_rfl|2,_,e=>by kernel_rfl|_+3,h,_=>absurd h (by omega))
  (by kernel_rfl) (by kernel_rfl) (by decide +kernel) (by decide +kernel) (by kernel_rfl) rfl (by kernel_rfl) (by decide +kernel) hsp htb
def pt_gravity:Nat→Nat
 | 0=>0
 | _=>2
def dd_gravity:Nat→Int
 | 0=>1
 | 1=>0
 | 2=>-2
 | 3=>0
 | 4=>0
 | 5=>0
 | 6=>0
 | _=>0
def row_gravity:Nat→Array Value
 | 0=>#[G #[109],G #[115]]
 | 1=>#[G #[109],G #[115]]
 | _=>#[G #[109],G #[115,94,45,50]]
theorem pow_gravity (w:World) (hsp:Spc w) (htb:Tab w):Calls Tryz.prog 141 #[G #[109,32,115],.agg #[I (1),I (0),I (-2),I (0),I (0),I (0),I (0),I (0)]] w fun r w'=>r=.returned (G #[109,32,115,94,45,50])∧Bw w w' :=
 powT ⟨#[109,32,115]⟩ ⟨#[109,32,115,94,45,50]⟩ 2 pt_gravity dd_gravity row_gravity [⟨#[109]⟩,⟨#[115,94,45,50]⟩] w (by omega)
  (by decide +kernel)
  (fun|0,_=>rfl|1,_=>rfl|_+2,h=>absurd h (by omega))
  (fun|0,_,e=>rfl|1,_,e=>absurd e (by decide)|_+2,h,_=>absurd h (by omega))
  (fun|0,_,e=>absurd rfl e|1,_,e=>by kernel_rfl|_+2,h,_=>absurd h (by omega))
  (by kernel_rfl) (by kernel_rfl) (by decide +kernel) (by decide +kernel) (by kernel_rfl) rfl (by kernel_rfl) (by decide +kernel) hsp htb
def pt_light:Nat→Nat
 | 0=>0
 | _=>2
def dd_light:Nat→Int
 | 0=>1
 | 1=>0
 | 2=>-1
 | 3=>0
 | 4=>0
 | 5=>0
 | 6=>0
 | _=>0
def row_light:Nat→Array Value
 | 0=>#[G #[109],G #[115]]
 | 1=>#[G #[109],G #[115]]
 | _=>#[G #[109],G #[115,94,45,49]]
theorem pow_light (w:World) (hsp:Spc w) (htb:Tab w):Calls Tryz.prog 141 #[G #[109,32,115],.agg #[I (1),I (0),I (-1),I (0),I (0),I (0),I (0),I (0)]] w fun r w'=>r=.returned (G #[109,32,115,94,45,49])∧Bw w w' :=
 powT ⟨#[109,32,115]⟩ ⟨#[109,32,115,94,45,49]⟩ 2 pt_light dd_light row_light [⟨#[109]⟩,⟨#[115,94,45,49]⟩] w (by omega)
  (by decide +kernel)
  (fun|0,_=>rfl|1,_=>rfl|_+2,h=>absurd h (by omega))
  (fun|0,_,e=>rfl|1,_,e=>absurd e (by decide)|_+2,h,_=>absurd h (by omega))
  (fun|0,_,e=>absurd rfl e|1,_,e=>by kernel_rfl|_+2,h,_=>absurd h (by omega))
  (by kernel_rfl) (by kernel_rfl) (by decide +kernel) (by decide +kernel) (by kernel_rfl) rfl (by kernel_rfl) (by decide +kernel) hsp htb
def pt_planck:Nat→Nat
 | 0=>0
 | 1=>1
 | _=>2
def dd_planck:Nat→Int
 | 0=>2
 | 1=>1
 | 2=>-1
 | 3=>0
 | 4=>0
 | 5=>0
 | 6=>0
 | _=>0
def row_planck:Nat→Array Value
 | 0=>#[G #[109],G #[107,103],G #[115]]
 | 1=>#[G #[109,94,50],G #[107,103],G #[115]]
 | 2=>#[G #[109,94,50],G #[107,103],G #[115]]
 | _=>#[G #[109,94,50],G #[107,103],G #[115,94,45,49]]
theorem pow_planck (w:World) (hsp:Spc w) (htb:Tab w):Calls Tryz.prog 141 #[G #[109,32,107,103,32,115],.agg #[I (2),I (1),I (-1),I (0),I (0),I (0),I (0),I (0)]] w fun r w'=>r=.returned (G #[109,94,50,32,107,103,32,115,94,45,49])∧Bw w w' :=
 powT ⟨#[109,32,107,103,32,115]⟩ ⟨#[109,94,50,32,107,103,32,115,94,45,49]⟩ 3 pt_planck dd_planck row_planck [⟨#[109,94,50]⟩,⟨#[107,103]⟩,⟨#[115,94,45,49]⟩] w (by omega)
  (by decide +kernel)
  (fun|0,_=>rfl|1,_=>rfl|2,_=>rfl|_+3,h=>absurd h (by omega))
  (fun|0,_,e=>absurd e (by decide)|1,_,e=>rfl|2,_,e=>absurd e (by decide)|_+3,h,_=>absurd h (by omega))
  (fun|0,_,e=>by kernel_rfl|1,_,e=>absurd rfl e|2,_,e=>by kernel_rfl|_+3,h,_=>absurd h (by omega))
  (by kernel_rfl) (by kernel_rfl) (by decide +kernel) (by decide +kernel) (by kernel_rfl) rfl (by kernel_rfl) (by decide +kernel) hsp htb
def pt_josephson:Nat→Nat
 | 0=>0
 | 1=>1
 | 2=>2
 | _=>3
def dd_josephson:Nat→Int
 | 0=>-2
 | 1=>-1
 | 2=>2
 | 3=>1
 | 4=>0
 | 5=>0
 | 6=>0
 | _=>0
def row_josephson:Nat→Array Value
 | 0=>#[G #[109],G #[107,103],G #[115],G #[65]]
 | 1=>#[G #[109,94,45,50],G #[107,103],G #[115],G #[65]]
 | 2=>#[G #[109,94,45,50],G #[107,103,94,45,49],G #[115],G #[65]]
 | 3=>#[G #[109,94,45,50],G #[107,103,94,45,49],G #[115,94,50],G #[65]]
 | _=>#[G #[109,94,45,50],G #[107,103,94,45,49],G #[115,94,50],G #[65]]
theorem pow_josephson (w:World) (hsp:Spc w) (htb:Tab w):Calls Tryz.prog 141 #[G #[109,32,107,103,32,115,32,65],.agg #[I (-2),I (-1),I (2),I (1),I (0),I (0),I (0),I (0)]] w fun r w'=>r=.returned (G #[109,94,45,50,32,107,103,94,45,49,32,115,94,50,32,65])∧Bw w w' :=
 powT ⟨#[109,32,107,103,32,115,32,65]⟩ ⟨#[109,94,45,50,32,107,103,94,45,49,32,115,94,50,32,65]⟩ 4 pt_josephson dd_josephson row_josephson [⟨#[109,94,45,50]⟩,⟨#[107,103,94,45,49]⟩,⟨#[115,94,50]⟩,⟨#[65]⟩] w (by omega)
  (by decide +kernel)
  (fun|0,_=>rfl|1,_=>rfl|2,_=>rfl|3,_=>rfl|_+4,h=>absurd h (by omega))
  (fun|0,_,e=>absurd e (by decide)|1,_,e=>absurd e (by decide)|2,_,e=>absurd e (by decide)|3,_,e=>rfl|_+4,h,_=>absurd h (by omega))
  (fun|0,_,e=>by kernel_rfl|1,_,e=>by kernel_rfl|2,_,e=>by kernel_rfl|3,_,e=>absurd rfl e|_+4,h,_=>absurd h (by omega))
  (by kernel_rfl) (by kernel_rfl) (by decide +kernel) (by decide +kernel) (by kernel_rfl) rfl (by kernel_rfl) (by decide +kernel) hsp htb
def pt_klitzing:Nat→Nat
 | 0=>0
 | 1=>1
 | 2=>2
 | _=>3
def dd_klitzing:Nat→Int
 | 0=>2
 | 1=>1
 | 2=>-3
 | 3=>-2
 | 4=>0
 | 5=>0
 | 6=>0
 | _=>0
def row_klitzing:Nat→Array Value
 | 0=>#[G #[109],G #[107,103],G #[115],G #[65]]
 | 1=>#[G #[109,94,50],G #[107,103],G #[115],G #[65]]
 | 2=>#[G #[109,94,50],G #[107,103],G #[115],G #[65]]
 | 3=>#[G #[109,94,50],G #[107,103],G #[115,94,45,51],G #[65]]
 | _=>#[G #[109,94,50],G #[107,103],G #[115,94,45,51],G #[65,94,45,50]]
theorem pow_klitzing (w:World) (hsp:Spc w) (htb:Tab w):Calls Tryz.prog 141 #[G #[109,32,107,103,32,115,32,65],.agg #[I (2),I (1),I (-3),I (-2),I (0),I (0),I (0),I (0)]] w fun r w'=>r=.returned (G #[109,94,50,32,107,103,32,115,94,45,51,32,65,94,45,50])∧Bw w w' :=
 powT ⟨#[109,32,107,103,32,115,32,65]⟩ ⟨#[109,94,50,32,107,103,32,115,94,45,51,32,65,94,45,50]⟩ 4 pt_klitzing dd_klitzing row_klitzing [⟨#[109,94,50]⟩,⟨#[107,103]⟩,⟨#[115,94,45,51]⟩,⟨#[65,94,45,50]⟩] w (by omega)
  (by decide +kernel)
  (fun|0,_=>rfl|1,_=>rfl|2,_=>rfl|3,_=>rfl|_+4,h=>absurd h (by omega))
  (fun|0,_,e=>absurd e (by decide)|1,_,e=>rfl|2,_,e=>absurd e (by decide)|3,_,e=>absurd e (by decide)|_+4,h,_=>absurd h (by omega))
  (fun|0,_,e=>by kernel_rfl|1,_,e=>absurd rfl e|2,_,e=>by kernel_rfl|3,_,e=>by kernel_rfl|_+4,h,_=>absurd h (by omega))
  (by kernel_rfl) (by kernel_rfl) (by decide +kernel) (by decide +kernel) (by kernel_rfl) rfl (by kernel_rfl) (by decide +kernel) hsp htb
def pt_proton:Nat→Nat
 | _=>1
def dd_proton:Nat→Int
 | 0=>0
 | 1=>1
 | 2=>0
 | 3=>0
 | 4=>0
 | 5=>0
 | 6=>0
 | _=>0
def row_proton:Nat→Array Value
 | 0=>#[G #[107,103]]
 | _=>#[G #[107,103]]
theorem pow_proton (w:World) (hsp:Spc w) (htb:Tab w):Calls Tryz.prog 141 #[G #[107,103],.agg #[I (0),I (1),I (0),I (0),I (0),I (0),I (0),I (0)]] w fun r w'=>r=.returned (G #[107,103])∧Bw w w' :=
 powT ⟨#[107,103]⟩ ⟨#[107,103]⟩ 1 pt_proton dd_proton row_proton [⟨#[107,103]⟩] w (by omega)
  (by decide +kernel)
  (fun|0,_=>rfl|_+1,h=>absurd h (by omega))
  (fun|0,_,e=>rfl|_+1,h,_=>absurd h (by omega))
  (fun|0,_,e=>absurd rfl e|_+1,h,_=>absurd h (by omega))
  (by kernel_rfl) (by kernel_rfl) (by decide +kernel) (by decide +kernel) (by kernel_rfl) rfl (by kernel_rfl) (by decide +kernel) hsp htb
end Go.Proofs.YtliadckofhblnaaGreatDoor.Nt
namespace Go.Proofs.YtliadckofhblnaaGreatDoor
open Go.ChangeShapes Go.WideShapes Go.ChangeAt Go.RowKit
theorem gSpc:Tryz.prog.globalNamed "strings.asciiSpace"=some 0:=by kernel_rfl
theorem gSpcType:(Tryz.prog.globals[0]?).map (·.type)=some 260:=by kernel_rfl
theorem cells260:Tryz.prog.cellsOf 260=256:=by kernel_rfl
theorem cells5s:Tryz.prog.cellsOf 5=1:=by kernel_rfl
theorem spc_of {W:World} {l:List (String×DataW Unit)} (h:laidMet Tryz.prog l W) (e:l.filter (fun x=>x.1 == "strings.asciiSpace")=[("strings.asciiSpace",Rows.laid_strings_asciiSpace)]):Nt.Spc W:=by
 have h1:=laidMet.filter (fun x=>x.1 == "strings.asciiSpace") h
 rw[e]at h1;exact Lib.tabIs_of_head (rest:=[]) gSpc gSpcType Tryz.underlying260 Tryz.underlying5 cells5s cells260 h1
noncomputable def lowN:Nat:=(World.holding Tryz.prog default ⟨#[],#[],[]⟩).heap.size
def rangesN:Array Value:=#[.int .u16 9,.int .u16 13,.int .u16 1,.int .u16 32,.int .u16 133,.int .u16 101,.int .u16 160,.int .u16 5760,.int .u16 5600,.int .u16 8192,.int .u16 8202,.int .u16 1,.int .u16 8232,.int .u16 8233,.int .u16 1,.int .u16 8239,.int .u16 8287,.int .u16 48,.int .u16 12288,.int .u16 12288,.int .u16 1]
noncomputable def zEa (os:Os):World :=
 let w0:=World.holding Tryz.prog os ⟨#[.cells #[.slice (some ⟨lowN+1,0,none⟩) 7 7,.slice none 0 0,I 2] 340,.cells rangesN 343],#[],[]⟩
 { w0 with heap:=putObj (putObj (putObj (putObj (putObj w0.heap 2 (zDd Rows.laid_internal_strconv_uint64pow10)) 4 (zDd Rows.laid_math_bits_deBruijn32tab)) 5 (zDd Rows.laid_math_bits_deBruijn64tab)) 0 (zDd Rows.laid_strings_asciiSpace)) 1 #[.pointer (some ⟨lowN,0,none⟩)] }
end Go.Proofs.YtliadckofhblnaaGreatDoor

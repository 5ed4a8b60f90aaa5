/- rat.power (167): a natural number to a power, where it is not too large. -/
import Derived.Test.YtliadckofhblnaaGreatDoorLimb3
import Derived.Test.YtliadckofhblnaaGreatDoorTx
import Derived.Test.YtliadckofhblnaaGreatDoorOfTwo
import Derived.Test.YtliadckofhblnaaGreatDoorGcdFirst
import Derived.Shelf.Small.Bits
import Derived.Shelf.Small.Wraps
import Derived.Shelf.Strconv.Itoa0
import Derived.Shelf.Strconv.Itoa1
import Derived.Shelf.LaysM
import Derived.Shelf.Strconv.Itoa2
import Derived.Shelf.Strconv.AppendUint10
import Derived.Shelf.Strconv.AppendInt10
import Derived.Shelf.Strings.Prefix
import Derived.Ground.Names2Prog
import Derived.Shelf.Slices.SearchI
import Derived.Test.YtliadckofhblnaaGreatDoorProg
import Derived.Test.YtliadckofhblnaaGreatDoorLehmer
import Derived.Test.YtliadckofhblnaaGreatDoorOne
import Derived.Laws.Bits128
import Derived.OrdersHeld
import Derived.Deep.RegionHeld3
import Derived.Test.YtliadckofhblnaaGreatDoorCopy
set_option maxHeartbeats 2000000
set_option maxRecDepth 100000
namespace Go.Proofs.YtliadckofhblnaaGreatDoor
open Go.RowKit
theorem qmul (x y:Value) (p q:Rat) (k:Nat) (w:World) (hx:QOf w x p k) (hy:QOf w y q k) (hk:k+k≤100000) :
  Calls Tryz.prog 65 #[x,y] w fun r w'=>∃v,r=.returned v∧QOf w' v (p*q) (k+k)∧Bw w w':=by
 obtain⟨b,a1,l1,c1,a2,l2,c2,rfl⟩:=hx.form;obtain⟨c,a3,l3,c3,a4,l4,c4,rfl⟩:=hy.form;obtain⟨V,hV⟩:∃V,V=(((w.alloc (.cells #[.bool b,.slice a1 l1 c1,.slice a2 l2 c2] 82)).alloc (.cells #[.bool c,.slice a3 l3 c3,.slice a4 l4 c4] 82)).alloc (.cells #[.bool false,.slice none 0 0,.slice none 0 0] 82)):=⟨_,rfl⟩;have HS:Hid (AS w V (.bool b) (.slice a1 l1 c1) (.slice a2 l2 c2) (.bool c) (.slice a3 l3 c3) (.slice a4 l4 c4) []):=by rw[hV];exact AS.first _ _ _ _ _ _ _
 have HX:=zAb (hx.later (un HS).below);have HY:=zAb (hy.later (un HS).below);have HV:=zAb hV;have HK:=zAb hk
 have HT:Hid (Calls Tryz.prog 147 #[.slice (some ⟨V.heap.size,0,none⟩) 2 2] (V.alloc (.cells #[.bool b,.slice a1 l1 c1,.slice a2 l2 c2,.bool c,.slice a3 l3 c3,.slice a4 l4 c4] 82)) fun r w'=>∃v,r=.returned v∧QOf w' v (p*q) (k+k)∧Bw V w'):=by
  have hb:Below V.heap.size V (V.alloc (.cells #[.bool b,.slice a1 l1 c1,.slice a2 l2 c2,.bool c,.slice a3 l3 c3,.slice a4 l4 c4] 82)):=bA;refine(qtimes V.heap.size b c a1 a2 a3 a4 l1 c1 l2 c2 l3 c3 l4 c4 p q k _ (by simp[go_sem]) (by simp[go_sem]) (by simp[go_sem]) (by simp[go_sem]) (by simp[go_sem]) (by simp[go_sem]) ((un HX).later hb) ((un HY).later hb) hk).mono ?_;rintro r w' ⟨v,rfl,hv,hb'⟩;exact⟨v,rfl,hv,hb.trans (hb'.mono hb.size)⟩
 clear hx hy hk hV;go_enter Tryz.func65,Tryz.ntmps65
 go_upto_region 1 with fail
 rw[←un HV];clear HV;have t0:=(un HS).x.c0;have t1:=(un HS).x.c1;have t2:=(un HS).x.c2;have t3:=(un HS).y.c0;have t4:=(un HS).y.c1;have t5:=(un HS).y.c2
 go_wp2_with (go_at_call 147;go_must(refine(un HT).mono ?_;rintro e w1 ⟨v1,rfl,hv1,hb1⟩;obtain⟨b1,i1,i2,i3,i4,i5,i6,rfl⟩:=hv1.form;have HS1:=zAb ((un HS).later hb1);have HV1:=zAb hv1;clear hv1 hb1 t0 t1 t2 t3 t4 t5;have r0:=(un HS1).r.c0;have r1:=(un HS1).r.c1;have r2:=(un HS1).r.c2;have rf0:=(un HS1).r.f0;have rf1:=(un HS1).r.f1;have rf2:=(un HS1).r.f2))
 have hS:=(un HS1).r.store (.bool b1) (.slice i1 i2 i3) (.slice i4 i5 i6);have hb:Below w.heap.size w (zAs w1 (w.heap.size+1+1) (.bool b1) (.slice i1 i2 i3) (.slice i4 i5 i6)):=zAq (un HS1).below (by omega) _ _ _;have u0:=hS.c0;have u1:=hS.c1;have u2:=hS.c2;exact bodyPost_ret (v:=.agg #[.bool b1,.slice i1 i2 i3,.slice i4 i5 i6]) (w:=zAs w1 (w.heap.size+1+1) (.bool b1) (.slice i1 i2 i3) (.slice i4 i5 i6)) (by simp[results,Tryz.results65,go_sem,u0,u1,u2]) rfl ⟨_,rfl,(un HV1).stored (un HS1).r,hb⟩
theorem ofTwo95_ok (n1 d1 n2 d2:ByteArray) (x y:Rat) (w:World) (h1:IsR n1 d1 x) (h2:IsR n2 d2 y) (htab:Tab w):Ans 64 #[.agg #[.string n1,.string d1],.agg #[.string n2,.string d2],.func (Fn.func 65) #[] #[]] w (zEp (x*y)) (zEr (x*y)) (zHa (x*y)):=by
 unfold Ans;obtain⟨V,hV⟩:∃V,V=((w.alloc (.cells #[.string n1,.string d1] 28)).alloc (.cells #[.string n2,.string d2] 28)).alloc (.cells #[G #[],G #[]] 28):=⟨_,rfl⟩;have HS:Hid (O3 w V (.string n1) (.string d1) (.string n2) (.string d2)):=by rw[hV];exact O3.first _ _ _ _ _
 have HV:=zAb hV;have HR:=zAb (readTwo_ok n1 d1 n2 d2 x y V h1 h2);have HT:=zAb (htab.later (un HS).below);clear h1 h2 htab;go_enter Tryz.func64,Tryz.ntmps64
 go_upto_region 1 with fail
 rw[←un HV];clear hV HV;have t0:=(un HS).a.c0;have t1:=(un HS).a.c1;have t2:=(un HS).b.c0;have t3:=(un HS).b.c1
 go_upto_region 2 with (go_at_call 67;go_must(refine(un HR).mono ?_;rintro e w1 ⟨v1,v2,rfl,hv1,hv2,hb1⟩;obtain⟨b1,i1,i2,i3,i4,i5,i6,rfl⟩:=hv1.form;obtain⟨b2,j1,j2,j3,j4,j5,j6,rfl⟩:=hv2.form;have HS1:=zAb ((un HS).later hb1);have HV1:=zAb hv1;have HV2:=zAb hv2;have HT1:=zAb ((un HT).later hb1);clear hv1 hv2 hb1 t0 t1 t2 t3))
 obtain⟨V2,hV2⟩:∃V2,V2=(w1.alloc (.cells #[.bool b1,.slice i1 i2 i3,.slice i4 i5 i6] 82)).alloc (.cells #[.bool b2,.slice j1 j2 j3,.slice j4 j5 j6] 82):=⟨_,rfl⟩;have hb:Below w1.heap.size w1 V2:=by rw[hV2];exact bA.alloc (by simp) _
 have HS2:=zAb ((un HS1).later hb);have HX:=zAb ((un HV1).later hb);have HY:=zAb ((un HV2).later hb);have HT2:=zAb ((un HT1).later hb);have HP:Hid (FBox V2 w1.heap.size (.bool b1) (.slice i1 i2 i3) (.slice i4 i5 i6)):=by rw[hV2];exact(FBox.new _ _ _ _).later bA
 have HQ:Hid (FBox V2 (w1.heap.size+1) (.bool b2) (.slice j1 j2 j3) (.slice j4 j5 j6)):=by
  rw[hV2];have:=FBox.new (w1.alloc (.cells #[.bool b1,.slice i1 i2 i3,.slice i4 i5 i6] 82)) (.bool b2) (.slice j1 j2 j3) (.slice j4 j5 j6)
  rwa [show(w1.alloc (.cells #[.bool b1,.slice i1 i2 i3,.slice i4 i5 i6] 82)).heap.size=w1.heap.size+1 by simp]at this
 rw[←hV2];clear hV2 hb HS HS1 HV1 HV2 HT HT1 HR;generalize w1.heap.size=g8 at *
 have t0:=(un HP).c0;have t1:=(un HP).c1;have t2:=(un HP).c2;have t3:=(un HQ).c0;have t4:=(un HQ).c1;have t5:=(un HQ).c2
 go_wp2_with (first
  | (go_at_call 65;go_must(refine(qmul _ _ x y 67 _ (un HX) (un HY) (by decide)).mono ?_;rintro e w3 ⟨v3,rfl,hv3,hb3⟩;have HV3:=zAb hv3;have HS3:=zAb ((un HS2).later hb3);have HT3:=zAb ((un HT2).later hb3);clear hv3 hb3 t0 t1 t2 t3 t4 t5))
  | (go_at_call 55;go_must(refine(qtell _ _ (67+67) _ (un HV3) (by decide) (un HT3)).mono ?_;rintro e w4 ⟨rfl,hb4⟩;have HS4:=zAb ((un HS3).later hb4);clear hb4;have r0:=(un HS4).r.c0;have r1:=(un HS4).r.c1;have rf0:=(un HS4).r.f0;have rf1:=(un HS4).r.f1)))
 have hS:=(un HS4).r.store (.string (zEp (x*y))) (.string (zEr (x*y)));have hb:Below w.heap.size w (zBh w4 (w.heap.size+1+1) (.string (zEp (x*y))) (.string (zEr (x*y)))):=zAk (un HS4).below (by omega) _ _;have u0:=hS.c0;have u1:=hS.c1;exact bodyPost_ret (v:=.tuple #[.agg #[.string (zEp (x*y)),.string (zEr (x*y))],I (zHa (x*y))]) (w:=zBh w4 (w.heap.size+1+1) (.string (zEp (x*y))) (.string (zEr (x*y)))) (by simp[results,Tryz.results64,go_sem,u0,u1]) rfl ⟨rfl,hb⟩
theorem rmul_of (n1 d1 n2 d2 s t:ByteArray) (e:Int) (w:World) (h:∀W,Below w.heap.size w W→Ans 64 #[.agg #[.string n1,.string d1],.agg #[.string n2,.string d2],.func (Fn.func 65) #[] #[]] W s t e):Ans 28 #[.agg #[.string n1,.string d1],.agg #[.string n2,.string d2]] w s t e:=by
 unfold Ans at *
 obtain⟨V,hV⟩:∃V,V=((w.alloc (.cells #[.string n1,.string d1] 28)).alloc (.cells #[.string n2,.string d2] 28)).alloc (.cells #[G #[],G #[]] 28):=⟨_,rfl⟩;have HS:Hid (O3 w V (.string n1) (.string d1) (.string n2) (.string d2)):=by rw[hV];exact O3.first _ _ _ _ _
 have HV:=zAb hV;have HR:=zAb (h V (un HS).below);clear h;go_enter Tryz.func28,Tryz.ntmps28
 go_upto_region 1 with fail
 rw[←un HV];clear hV HV;have t0:=(un HS).a.c0;have t1:=(un HS).a.c1;have t2:=(un HS).b.c0;have t3:=(un HS).b.c1
 go_wp2_with (go_at_call 64;go_must(refine(un HR).mono ?_;rintro e w4 ⟨rfl,hb4⟩;have HS4:=zAb ((un HS).later hb4);clear hb4 t0 t1 t2 t3;have r0:=(un HS4).r.c0;have r1:=(un HS4).r.c1;have rf0:=(un HS4).r.f0;have rf1:=(un HS4).r.f1))
 have hS:=(un HS4).r.store (.string s) (.string t);have hb:Below w.heap.size w (zBh w4 (w.heap.size+1+1) (.string s) (.string t)):=zAk (un HS4).below (by omega) _ _;have u0:=hS.c0;have u1:=hS.c1;exact bodyPost_ret (v:=.tuple #[.agg #[.string s,.string t],I e]) (w:=zBh w4 (w.heap.size+1+1) (.string s) (.string t)) (by simp[results,Tryz.results28,go_sem,u0,u1]) rfl ⟨rfl,hb⟩
theorem rmul_ok (n1 d1 n2 d2:ByteArray) (x y:Rat) (w:World) (h1:IsR n1 d1 x) (h2:IsR n2 d2 y) (htab:Tab w):Ans 28 #[.agg #[.string n1,.string d1],.agg #[.string n2,.string d2]] w (zEp (x*y)) (zEr (x*y)) (zHa (x*y)) :=
 rmul_of n1 d1 n2 d2 _ _ _ w (fun W hb=>ofTwo95_ok n1 d1 n2 d2 x y W h1 h2 (htab.later hb))
end Go.Proofs.YtliadckofhblnaaGreatDoor
namespace Go.Proofs
open Go.Shelf
def Tryz.lays125_ren:Go.Shelf.Ren:=⟨fun|125=>364|128=>372|129=>304|n=>n,fun|46=>335|3=>3|51=>309|53=>168|4=>4|5=>5|9=>9|n=>n,fun|n=>n⟩
theorem Tryz.lays125:Go.Proofs.Lays.n125 Tryz.prog Tryz.lays125_ren:={
 mixed:=by kernel_rfl
 f125:=Tryz.func364.trans (congrArg some (by kernel_rfl))
 f128:=Tryz.func372.trans (congrArg some (by kernel_rfl))
 f129:=Tryz.func304.trans (congrArg some (by kernel_rfl))
 t3:=Tryz.underlying3
 a3:=Tryz.isAgg3
 z3:=Tryz.sizeOf3
 v3:=Tryz.zeroValue3
 t4:=Tryz.underlying4
 a4:=Tryz.isAgg4
 z4:=Tryz.sizeOf4
 v4:=Tryz.zeroValue4
 t5:=Tryz.underlying5
 a5:=Tryz.isAgg5
 z5:=Tryz.sizeOf5
 v5:=Tryz.zeroValue5
 t9:=Tryz.underlying9
 a9:=Tryz.isAgg9
 z9:=Tryz.sizeOf9
 v9:=Tryz.zeroValue9
 t46:=Tryz.underlying335
 a46:=Tryz.isAgg335
 z46:=Tryz.sizeOf335
 v46:=Tryz.zeroValue335
 t51:=Tryz.underlying309
 a51:=Tryz.isAgg309
 z51:=Tryz.sizeOf309
 v51:=Tryz.zeroValue309
 t53:=Tryz.underlying168
 a53:=Tryz.isAgg168
 z53:=Tryz.sizeOf168
 v53:=Tryz.zeroValue168 }
theorem Tryz.bits_Len (x:Int) (w:World) (h0:0≤x) (h1:x≤18446744073709551615) :
  Calls Tryz.prog 364 #[.int .u64 x] w fun e w'=>e=.returned (.int .i64 (Lib.bitLen x.toNat))∧w'=w:=Any.bits_Len Tryz.lays125 x w h0 h1
end Go.Proofs
namespace Go.Proofs.YtliadckofhblnaaGreatDoor
open Go.RowKit
theorem mulB (x y:Value) (m n r k:Nat) (w:World) (hx:zAf w x m) (hy:zAf w y n) (hk:k≤1000000) (hm:m<1000000000 ^ k) (hn:n<1000000000 ^ k) (hr:r=m*n) :
    Calls Tryz.prog 151 #[x,y] w fun e w'=>∃a l c,e=.returned (.agg #[.slice a l c])∧zAf w' (.agg #[.slice a l c]) r∧Bw w w':=by
  subst hr;refine(mul_any x y m n k w hx hy hk hm hn).mono ?_;rintro e w' ⟨v,rfl,hv,hb⟩;obtain⟨a,n,c,rfl⟩:=hv.shape;exact⟨a,n,c,rfl,hv,hb⟩
theorem powLt (m n q M:Nat) (h:q≤n) (hM:m ^ n<M) (h1:1<M):m ^ q<M:=by
  by_cases h0:m=0
  · subst h0
    cases q with
    | zero=>simpa using h1
    | succ q=>rw[Nat.zero_pow (by omega)];omega
  · exact Nat.lt_of_le_of_lt (Nat.pow_le_pow_right (by omega) h) hM
theorem half_step (n i:Nat):n / 2 ^ i=2*(n / 2 ^ (i+1))+(n / 2 ^ i) % 2:=by
  rw[Nat.pow_succ,←Nat.div_div_eq_div_mul];omega
theorem pow_even (m n i:Nat) (h:(n / 2 ^ i) % 2=0):m ^ (n / 2 ^ i)=m ^ (n / 2 ^ (i+1))*m ^ (n / 2 ^ (i+1)):=by
  rw[←Nat.pow_add];congr 1;have:=half_step n i;omega
theorem pow_odd (m n i:Nat) (h:(n / 2 ^ i) % 2=1):m ^ (n / 2 ^ i)=m ^ (n / 2 ^ (i+1))*m ^ (n / 2 ^ (i+1))*m:=by
  rw[←Nat.pow_add,←Nat.pow_succ];congr 1;have:=half_step n i;omega
theorem bitLen_ok (n:Nat) (hn:n≤9223372036854775807):Lib.bitLen n≤64∧n / 2 ^ Lib.bitLen n=0:=by
  by_cases h0:n=0
  · subst h0
    exact⟨by decide,by simp⟩
  · obtain⟨h1,h2,h3⟩:=Lib.bitLenAux_bounds 64 n (by omega) h0
    have e:Lib.bitLen n=Lib.bitLenAux 64 n:=rfl;rw[e];refine⟨?_,Nat.div_eq_of_lt (by simpa using h3)⟩
    apply Decidable.byContradiction
    intro hc;have h4:2 ^ 64≤2 ^ (Lib.bitLenAux 64 n - 1):=Nat.pow_le_pow_right (by decide) (by omega)
    omega
theorem and_one' (x:Int):bits .and .i64 x 1=x % 2:=by
  have h1:(BitVec.ofInt 64 1).toNat=2 ^ 1 - 1:=by decide
  have key:(BitVec.ofInt 64 x &&& BitVec.ofInt 64 1).toNat=(x % ((2 ^ 64:Nat):Int)).toNat % 2 ^ 1:=by
    rw[BitVec.toNat_and,BitVec.toNat_ofInt,h1,Nat.and_two_pow_sub_one_eq_mod]
  show IntKind.i64.wrap ((BitVec.ofInt 64 x &&& BitVec.ofInt 64 1).toNat:Nat)=x % 2;rw[key,IntKind.wrap_i64]
  omega
theorem and_one (n j:Nat):bits BinOp.and IntKind.i64 ((n:Int) / 2 ^ j) 1=(((n / 2 ^ j) % 2:Nat):Int):=by
  rw[and_one']
  push_cast
  rfl
theorem bigPow_any (x:Value) (m n k:Nat) (w:World) (hx:zAf w x m) (hn:n≤9223372036854775807) (hk1:1≤k) (hk:k≤1000000) (hP:m ^ n<1000000000 ^ k) (hm:m<1000000000 ^ k) :
    Calls Tryz.prog 301 #[x,I (n:Int)] w fun e w'=>∃a l c,e=.returned (.agg #[.slice a l c])∧zAf w' (.agg #[.slice a l c]) (m ^ n)∧Bw w w':=by
  obtain⟨xa,xn,xc,rfl⟩:=hx.shape;have HX:=zAb hx;have HP:=zAb hP;have HM:=zAb hm;have H92:=zAb (fun W=>Tryz.bits_Len (n:Int) W (by omega) (by omega));clear hx hP hm;obtain⟨hL,hL0⟩:=bitLen_ok n hn;have e9:((n:Int)).toNat=n:=by simp
  rw[e9]at H92;clear e9;generalize Lib.bitLen n=L at *
  have HL0:=zAb hL0;clear hL0;go_enter Tryz.func301,Tryz.ntmps301
  go_wp2_with (first
    | (go_at_call 210;refine(zFa 1 _ (by decide)).mono ?_;rintro e w2 ⟨ba,bn,bc,rfl,hbig,hb2⟩;have HBIG:=zAb hbig;clear hbig)
    | (go_at_call 364;refine(un H92 _).mono ?_;rintro e w' ⟨rfl,rfl⟩))
  have hs2:w.heap.size+2≤w2.heap.size:=by have:=hb2.size;simpa using this
  have hc0:w2.cell? ⟨w.heap.size,0,none⟩=some (.slice xa xn xc):=by rw[hb2.cell (p:=⟨w.heap.size,0,none⟩) (by simp;omega)];simp
  have hc1:w2.cell? ⟨w.heap.size+1,0,none⟩=some (.slice none 0 0):=by rw[hb2.cell (p:=⟨w.heap.size+1,0,none⟩) (by simp)];simp
  have hf1:w2.frozen? ⟨w.heap.size+1,0,none⟩=false:=by rw[hb2.frozen (p:=⟨w.heap.size+1,0,none⟩) (by simp)];simp
  have hbw:Below w.heap.size w w2:=(bA.alloc (by simp) _).trans (hb2.mono (by simp;omega));have HX2:=zAb ((un HX).later hbw)
  go_loopw [6] (fun t wr=>∃(i:Nat) (pa:Option Addr) (pn pc:Nat),i≤64∧t=I ((i:Int) - 1)∧wr.cell? ⟨w2.heap.size,0,none⟩=some (.slice pa pn pc)∧wr.frozen? ⟨w2.heap.size,0,none⟩=false∧Hid (zAf wr (.agg #[.slice pa pn pc]) (m ^ (n / 2 ^ i)))∧Bw w2 wr) (fun t _=>(intOf t+1).toNat)
  case atStart=>exact⟨L,ba,bn,bc,hL,by go_num,World.cell?_alloc_at _ _ _ _ rfl,World.frozen?_alloc_at _ _ _ _ rfl,by rw[un HL0];exact(un HBIG).later bA,bA⟩
  case round =>
    obtain⟨i,pa,pn,pc,hi,rfl,hcell,hfr,HB,hbl⟩:=hrel
    by_cases h0:0<i
    · obtain ⟨j,rfl⟩:∃j,i=j+1:=⟨i - 1,by omega⟩
      have e6:((j+1:Nat):Int) - 1=(j:Int):=by omega
      rw[e6];clear e6;have h1:1<1000000000 ^ k:=Nat.one_lt_pow (by omega) (by decide);have hst:=half_step n j;have hdl:n / 2 ^ j≤n:=Nat.div_le_self _ _;have B1:=powLt m n (n / 2 ^ (j+1)) _ (by omega) (un HP) h1;have B2:m ^ (n / 2 ^ (j+1))*m ^ (n / 2 ^ (j+1))<1000000000 ^ k:=by rw[←Nat.pow_add];exact powLt m n _ _ (by omega) (un HP) h1
      have HE:=zAb (pow_even m n j);have HO:=zAb (pow_odd m n j);generalize m ^ (n / 2 ^ (j+1))=Q at *
      have H1:=zAb (fun W v (hv:zAf W v Q)=>mulB v v Q Q (Q*Q) k W hv hv hk B1 B1 rfl);have H2:=zAb (fun W v x (hv:zAf W v (Q*Q)) (hx:zAf W x m)=>mulB v x (Q*Q) m (Q*Q*m) k W hv hx hk B2 (un HM) rfl);clear B1 B2 h1 hst hdl;have hg:w2.heap.size<wr.heap.size:=World.block_lt_of_cell? _ _ hcell;have hc0r:=(hbl.cell (p:=⟨w.heap.size,0,none⟩) (by simp;omega)).trans hc0;have hand:=and_one n j
      by_cases hbit:(n / 2 ^ j) % 2=1
      · rw[hbit]at hand
        rw[←un HO hbit]at H2
        go_wp2_with (first
          | (go_at_call_of 151 (Value.agg #[Value.slice pa pn pc]);refine(un H1 _ _ (un HB)).mono ?_;rintro e w3 ⟨ya,yn,yc,rfl,hy,hb3⟩;have HY:=zAb (hy.box (.slice ya yn yc) (zBt hb3 hg hcell hfr).1 (zBi _ _ _));clear hy;obtain⟨hcell3,hfr3⟩:=zBt hb3 hg hcell hfr;have hcell4:=World.cell?_setCell_same w3 ⟨w2.heap.size,0,none⟩ (.slice ya yn yc) hcell3;have hfr4:(w3.setCell ⟨w2.heap.size,0,none⟩ (.slice ya yn yc)).frozen? ⟨w2.heap.size,0,none⟩=false:=by rw[World.frozen?_setCell];exact hfr3
             have hb4:Below w2.heap.size w2 (w3.setCell ⟨w2.heap.size,0,none⟩ (.slice ya yn yc)):=(hbl.trans (hb3.mono hbl.size)).setCell (Nat.le_refl _) _;have hc04:=(hb4.cell (p:=⟨w.heap.size,0,none⟩) (by simp;omega)).trans hc0)
          | (go_at_call_of 151 (Value.agg #[Value.slice xa xn xc]);refine(un H2 _ _ _ (un HY) ((un HX2).later hb4)).mono ?_;rintro e w5 ⟨za,zn,zc,rfl,hz,hb5⟩;obtain⟨hcell5,hfr5⟩:=zBt hb5 (World.block_lt_of_cell? _ _ hcell4) hcell4 hfr4;have HZ:=zAb (hz.box (.slice za zn zc) hcell5 (zBi _ _ _));clear hz))
        go_roundw
        case rel=>exact⟨j,za,zn,zc,by omega,by go_num,World.cell?_setCell_same _ _ _ hcell5,by rw[World.frozen?_setCell];exact hfr5,HZ,(hb4.trans (hb5.mono hb4.size)).setCell (Nat.le_refl _) _⟩
        case measure=>simp[intOf]
      · have hbit0:(n / 2 ^ j) % 2=0:=by omega
        rw[hbit0]at hand;rw[←un HE hbit0]at H1
        go_wp2_with (first
          | (go_at_call_of 151 (Value.agg #[Value.slice pa pn pc]);refine(un H1 _ _ (un HB)).mono ?_;rintro e w3 ⟨ya,yn,yc,rfl,hy,hb3⟩;have HY:=zAb (hy.box (.slice ya yn yc) (zBt hb3 hg hcell hfr).1 (zBi _ _ _));clear hy;obtain⟨hcell3,hfr3⟩:=zBt hb3 hg hcell hfr))
        go_roundw
        case rel=>exact⟨j,ya,yn,yc,by omega,by go_num,World.cell?_setCell_same _ _ _ hcell3,by rw[World.frozen?_setCell];exact hfr3,HY,(hbl.trans (hb3.mono hbl.size)).setCell (Nat.le_refl _) _⟩
        case measure=>simp[intOf]
    · have hi0:i=0:=by omega
      subst hi0;have HB':Hid (zAf wr (.agg #[.slice pa pn pc]) (m ^ n)):=by have:=un HB;rw[Nat.pow_zero,Nat.div_one]at this;exact this
      have hc1r:=(hbl.cell (p:=⟨w.heap.size+1,0,none⟩) (by simp;omega)).trans hc1;have hf1r:=(hbl.frozen (p:=⟨w.heap.size+1,0,none⟩) (by simp;omega)).trans hf1
      go_wp2
      refine bodyPost_ret (v:=.agg #[.slice pa pn pc]) (by simp[results,Tryz.results301,go_sem,hc1r]) rfl ⟨_,_,_,rfl,?_,?_⟩
      · exact(un HB').box _ hc1r (zBi _ _ _)
      · exact(hbw.trans (hbl.mono (by omega))).setCell (by simp) _
end Go.Proofs.YtliadckofhblnaaGreatDoor
namespace Go.Proofs.YtliadckofhblnaaGreatDoor
section
variable {P:Program} {ops:Array Oper} {Q:Exit→Act→World→Prop} {md:Region.Mode} {S S7:World→Prop} {k:Nat}
def Inv (k:Nat) (S S7:World→Prop) (l:Array Bool) (w:World):Prop:=(l.getD k false=false→S w)∧S7 w
def wpR (P:Program) (md:Region.Mode) (ops:Array Oper) (Q:Exit→Act→World→Prop) (k:Nat) (S S7:World→Prop):Nat→Array Bool→Act→World→Prop
 | 0,l,a,w=>Region.ready md ops l=[]∧Q .normal a w
 | n+1,l,a,w=>(Region.ready md ops l=[]→Q .normal a w)∧∀j∈Region.ready md ops l,wpOp P ops Q j (fun a' w'=>Inv k S S7 (l.setIfInBounds j true) w'∧wpR P md ops Q k S S7 n (l.setIfInBounds j true) a' w') a w
theorem wpR_any:∀(n:Nat) (l:Array Bool) (a:Act) (w:World),wpR P md ops Q k S S7 n l a w→wpAny P md ops Q n l a w
 | 0,_,_,_,h=>h
 | n+1,_,_,_,h=>⟨h.1,fun j hj=>wpOp_mono (fun a' w' h'=>wpR_any n _ a' w' h'.2) (h.2 j hj)⟩
def Closed (md:Region.Mode) (ops:Array Oper) (l:Array Bool):Prop:=∀(j:Nat) (o:Oper),ops[j]?=some o→l.getD j false=true→∀e∈o.after,Region.binds md e=true→l.getD e.on false=true
theorem Closed.step {l:Array Bool} {j:Nat} (h:Closed md ops l) (hj:j∈Region.ready md ops l):Closed md ops (l.setIfInBounds j true):=by
 obtain⟨_,o,ho,hall⟩:=mem_ready.1 hj;intro q oq hq hl e he hb;rcases Decidable.em (j=q)with rfl|hne
 ·obtain rfl:o=oq:=Option.some.inj (ho.symm.trans hq)
  exact getD_set_true (hall e he hb)
 ·rw[getD_set_ne false hne]at hl
  exact getD_set_true (h q oq hq hl e he hb)
def closedB (md:Region.Mode) (ops:Array Oper) (l:Array Bool):Bool :=
 (List.range ops.size).all fun j=>!l.getD j false || match ops[j]? with
  | some o=>o.after.all fun e=>!Region.binds md e || l.getD e.on false
  | none=>true
theorem closed_of {l:Array Bool} (h:closedB md ops l=true):Closed md ops l:=by
 intro j o ho hl e he hb;unfold closedB at h
 have h1:=List.all_eq_true.1 h j (List.mem_range.2 (Array.getElem?_eq_some_iff.1 ho).1);simp only[ho,hl,Bool.not_true,Bool.false_or]at h1;have h2:=Array.all_eq_true_iff_forall_mem.1 h1 e he
 simpa [hb] using h2
def waits (md:Region.Mode) (ops:Array Oper) (k i:Nat):Bool:=match ops[k]? with
 | some o=>o.after.any fun e=>Region.binds md e && e.on == i
 | none=>true
theorem unlisted {l:Array Bool} {i:Nat} {b:Bool} (h:l.getD i true=false) (h1:l.getD i b=true):False:=by
 rcases Nat.lt_or_ge i l.size with h2|h2
 ·simp[h2]at h h1;rw[h]at h1;cases h1
 ·simp[Array.getElem?_eq_none h2]at h
theorem not_yet {i:Nat} {l:Array Bool} (hc:Closed md ops l) (hz:l.size=ops.size) (hw:waits md ops k i=true) (hi:l.getD i true=false):l.getD k false=false:=by
 cases hl:l.getD k false with
 | false=>rfl
 | true=>
  exfalso
  unfold waits at hw
  cases ho:ops[k]? with
  | none=>
   have:ops.size≤k:=Array.getElem?_eq_none_iff.1 ho;have h2:l[k]?=none:=Array.getElem?_eq_none (by omega);simp[h2]at hl
  | some o=>
   simp only[ho]at hw;obtain⟨e,he,h2⟩:=Array.any_eq_true'.1 hw;simp only[Bool.and_eq_true,beq_iff_eq]at h2;have h3:=hc k o ho hl e he h2.1;rw[h2.2]at h3;exact unlisted hi h3
theorem Inv.set {l:Array Bool} {w:World} {i:Nat} (h:Inv k S S7 l w) (hne:i≠k):Inv k S S7 (l.setIfInBounds i true) w:=⟨fun h0=>h.1 (by rwa [getD_set_ne false hne]at h0),h.2⟩
theorem wpR_first {i:Nat} {oi:Oper} {v:Value} {T:World→Prop} (hi:ops[i]?=some oi) (hs:Region.noSelect ops=true) (hik:i≠k)
 (hT:∀(l:Array Bool) (w:World),Closed md ops l→l.size=ops.size→l.getD i true=false→Inv k S S7 l w→T w)
 (hQ:∀c a w,Q (.panic c) (a.put oi.dst v) w→Q (.panic c) a w) (n:Nat) :
 ∀(l:Array Bool) (a:Act) (w:World),Closed md ops l→l.size=ops.size→(∀j oj,ops[j]?=some oj→j≠i→l.getD j true=false→(∀e∈oj.after,Region.binds md e=true→e.on≠i)→oi.apart ops oj=true)→
  i∈Region.ready md ops l→YieldsIf P ops T oi v a→Inv k S S7 l w→wpR P md ops Q k S S7 n (l.setIfInBounds i true) (a.put oi.dst v) w→wpR P md ops Q k S S7 (n+1) l a w:=by
 have hsel:=Region.noSelect_spec hs
 induction n with
 | zero=>
  intro l a w hc hz _ hr hy hS H;refine⟨fun h=>absurd hr (by rw[h];simp),fun j hj=>?_⟩;rcases Decidable.em (j=i)with rfl|hne
  ·exact hy.wpOp hi (hT l w hc hz (mem_ready.1 hr).1 hS) ⟨hS.set hik,H⟩
  ·have:=ready_mono hj hne
   rw[H.1]at this;exact absurd this (by simp)
 | succ n ih=>
  intro l a w hc hz hfree hr hy hS H;refine⟨fun h=>absurd hr (by rw[h];simp),fun j hj=>?_⟩;have hiu:=(mem_ready.1 hr).1;rcases Decidable.em (j=i)with rfl|hne
  ·exact hy.wpOp hi (hT l w hc hz hiu hS) ⟨hS.set hik,H⟩
  ·obtain⟨hju,oj,hoj,hall⟩:=mem_ready.1 hj
   have hno:∀e∈oj.after,Region.binds md e=true→e.on≠i:=fun e he hb heq=>by
    have h1:=hall e he hb;rw[heq]at h1;exact unlisted hiu h1
   have h2:=wpOp_putIf hoj (hfree j oj hoj hne hju hno) (fun cs b=>hsel i oi cs b hi) (fun cs b=>hsel j oj cs b hoj) hQ hy (H.2 j (ready_mono hj hne));refine wpOp_mono (fun a' w' q=>?_) h2;obtain⟨q1,q2,q3⟩:=q;rw[Array.setIfInBounds_comm _ _ (Ne.symm hne)]at q2 q3;have hI:Inv k S S7 (l.setIfInBounds j true) w':=⟨fun h0=>q2.1 (by rwa [getD_set_ne false hik]),q2.2⟩;refine⟨hI,ih (l.setIfInBounds j true) a' w' (hc.step hj) (by rw[Array.size_setIfInBounds];exact hz) (fun q oq hq hqi hun hn=>hfree q oq hq hqi ?_ hn) (ready_mono hr (Ne.symm hne)) q1 hI q3⟩;rcases Decidable.em (j=q)with rfl|hjq
   ·exact hju
   ·rwa [getD_set_ne true hjq]at hun
theorem zAd {i:Nat} {oi:Oper} {v:Value} {n:Nat} {l:Array Bool} {a:Act} {w:World} (hi:ops[i]?=some oi)
 (hs:Region.noSelect ops=true) (hw:(waits md ops k i && closedB md ops l && (l.size == ops.size) && (i != k))=true) (hf:Region.free md ops l i=true) (hr:(Region.ready md ops l).contains i=true)
 (hQ:∀c a w,Q (.panic c) (a.put oi.dst v) w→Q (.panic c) a w) (hy:YieldsIf P ops S oi v a) (hS:S w∧S7 w)
 (h:wpR P md ops Q k S S7 n (l.setIfInBounds i true) (a.put oi.dst v) w):wpR P md ops Q k S S7 (n+1) l a w:=by
 simp only[Bool.and_eq_true,beq_iff_eq,bne_iff_ne,ne_eq]at hw;obtain⟨⟨⟨w1,w2⟩,w3⟩,w4⟩:=hw;exact wpR_first hi hs w4 (fun l' w' hc hz hu hI=>hI.1 (not_yet hc hz w1 hu)) hQ n l a w (closed_of w2) w3 (Region.free_spec hi hf) (by simpa using hr) hy ⟨fun _=>hS.1,hS.2⟩ h
theorem zAe {i:Nat} {oi:Oper} {v:Value} {n:Nat} {l:Array Bool} {a:Act} {w:World} (hi:ops[i]?=some oi)
 (hs:Region.noSelect ops=true) (hw:(closedB md ops l && (l.size == ops.size) && (i != k))=true) (hf:Region.free md ops l i=true) (hr:(Region.ready md ops l).contains i=true)
 (hQ:∀c a w,Q (.panic c) (a.put oi.dst v) w→Q (.panic c) a w) (hy:YieldsIf P ops S7 oi v a) (hS:S w∧S7 w)
 (h:wpR P md ops Q k S S7 n (l.setIfInBounds i true) (a.put oi.dst v) w):wpR P md ops Q k S S7 (n+1) l a w:=by
 simp only[Bool.and_eq_true,beq_iff_eq,bne_iff_ne,ne_eq]at hw;obtain⟨⟨w2,w3⟩,w4⟩:=hw;exact wpR_first hi hs w4 (fun l' w' hc hz hu hI=>hI.2) hQ n l a w (closed_of w2) w3 (Region.free_spec hi hf) (by simpa using hr) hy ⟨fun _=>hS.1,hS.2⟩ h
theorem zAg {i:Nat} {o:Oper} {n:Nat} {l:Array Bool} {a:Act} {w:World} (hr:Region.ready md ops l=[i]) (ho:ops[i]?=some o) (hg:o.guard=none)
 (h:∀K:Act→World→Prop,(∀a' w',S w'∧S7 w'→wpR P md ops Q k S S7 n (l.setIfInBounds i true) a' w'→K a' w')→Oper.wp P o a w K Q):wpR P md ops Q k S S7 (n+1) l a w:=by
 refine⟨fun h0=>absurd h0 (by rw[hr];simp),fun j hj=>?_⟩;rw[hr]at hj;obtain rfl:=List.mem_singleton.1 hj;unfold wpOp;simp only[ho];have hw:Region.wanted o (yielded ops a.tmps)=true:=by simp[Region.wanted,hg]
 rw[if_pos hw];exact Or.inl (h _ fun a' w' h1 h2=>⟨⟨fun _=>h1.1,h1.2⟩,h2⟩)
theorem zAj {i:Nat} {o:Oper} {n:Nat} {l:Array Bool} {a:Act} {w:World} (hr:Region.ready md ops l=[i]) (ho:ops[i]?=some o) (hg:o.guard=none) (hl:(l.setIfInBounds i true).getD k false=true)
 (h:∀K:Act→World→Prop,(∀a' w',S7 w'→wpR P md ops Q k S S7 n (l.setIfInBounds i true) a' w'→K a' w')→Oper.wp P o a w K Q):wpR P md ops Q k S S7 (n+1) l a w:=by
 refine⟨fun h0=>absurd h0 (by rw[hr];simp),fun j hj=>?_⟩;rw[hr]at hj;obtain rfl:=List.mem_singleton.1 hj;unfold wpOp;simp only[ho];have hw:Region.wanted o (yielded ops a.tmps)=true:=by simp[Region.wanted,hg]
 rw[if_pos hw];exact Or.inl (h _ fun a' w' h1 h2=>⟨⟨fun h0=>(by rw[hl]at h0;cases h0),h1⟩,h2⟩)
theorem zAm {n:Nat} {l:Array Bool} {a:Act} {w:World} (hr:Region.ready md ops l=[]) (h:Q .normal a w):wpR P md ops Q k S S7 n l a w:=by
 cases n with
 | zero=>exact⟨hr,h⟩
 | succ n=>exact⟨fun _=>h,by rw[hr];simp⟩
theorem wT (i:Nat) {oi:Oper} (v:Value) {n:Nat} {l:Array Bool} {a:Act} {w:World} (hi:ops[i]?=some oi) (hy:YieldsIf P ops S oi v a) (hS:S w∧S7 w)
 (h:wpR P md ops Q k S S7 n (l.setIfInBounds i true) (a.put oi.dst v) w) (hs:Region.noSelect ops=true:=by kernel_rfl) (hw:(waits md ops k i && closedB md ops l && (l.size == ops.size) && (i != k))=true:=by kernel_rfl) (hf:Region.free md ops l i=true:=by kernel_rfl) (hr:(Region.ready md ops l).contains i=true:=by kernel_rfl) (hQ:∀c a w,Q (.panic c) (a.put oi.dst v) w→Q (.panic c) a w:=by exact fun _ _ _ h=>h):wpR P md ops Q k S S7 (n+1) l a w:=zAd hi hs hw hf hr hQ hy hS h
theorem wT7 (i:Nat) {oi:Oper} (v:Value) {n:Nat} {l:Array Bool} {a:Act} {w:World} (hi:ops[i]?=some oi) (hy:YieldsIf P ops S7 oi v a) (hS:S w∧S7 w)
 (h:wpR P md ops Q k S S7 n (l.setIfInBounds i true) (a.put oi.dst v) w) (hs:Region.noSelect ops=true:=by kernel_rfl) (hw:(closedB md ops l && (l.size == ops.size) && (i != k))=true:=by kernel_rfl) (hf:Region.free md ops l i=true:=by kernel_rfl) (hr:(Region.ready md ops l).contains i=true:=by kernel_rfl) (hQ:∀c a w,Q (.panic c) (a.put oi.dst v) w→Q (.panic c) a w:=by exact fun _ _ _ h=>h):wpR P md ops Q k S S7 (n+1) l a w:=zAe hi hs hw hf hr hQ hy hS h
theorem wO (i:Nat) {o:Oper} {n:Nat} {l:Array Bool} {a:Act} {w:World} (ho:ops[i]?=some o) (hg:o.guard=none)
 (h:∀K:Act→World→Prop,(∀a' w',S w'∧S7 w'→wpR P md ops Q k S S7 n (l.setIfInBounds i true) a' w'→K a' w')→Oper.wp P o a w K Q) (hr:Region.ready md ops l=[i]:=by kernel_rfl):wpR P md ops Q k S S7 (n+1) l a w:=zAg hr ho hg h
theorem wL (i:Nat) {o:Oper} {n:Nat} {l:Array Bool} {a:Act} {w:World} (ho:ops[i]?=some o) (hg:o.guard=none)
 (h:∀K:Act→World→Prop,(∀a' w',S7 w'→wpR P md ops Q k S S7 n (l.setIfInBounds i true) a' w'→K a' w')→Oper.wp P o a w K Q) (hr:Region.ready md ops l=[i]:=by kernel_rfl) (hl:(l.setIfInBounds i true).getD k false=true:=by kernel_rfl):wpR P md ops Q k S S7 (n+1) l a w:=zAj hr ho hg hl h
theorem wDn {n:Nat} {l:Array Bool} {a:Act} {w:World} (h:Q .normal a w) (hr:Region.ready md ops l=[]:=by kernel_rfl):wpR P md ops Q k S S7 n l a w:=zAm hr h
theorem zAi {id:Nat} {a:Act} {w:World} (k:Nat) (S S7:World→Prop) (n:Nat) (hn:ops.size=n) (hm:P.follows .mixedOrders=true)
 (h:wpR P .any ops Q k S S7 n (Array.replicate n false) a w.drew):(Code.region id ops true).wp P Q a w:=by
 subst hn;exact wp_region_any hm (wpR_any _ _ _ _ h)
end
end Go.Proofs.YtliadckofhblnaaGreatDoor
namespace Go.Proofs.YtliadckofhblnaaGreatDoor
open Go.RowKit
theorem power_of (x:Value) (m n M L1 L2:Nat) (w:World) (hx:zAf w x m) (hn:n≤4096) (hM:m ^ n=M) (h67:m<1000000000 ^ 67) (hP67:m ^ n<1000000000 ^ 67) (hL1:Lib.nDigits m=L1) (hL2:Lib.nDigits M=L2) (hl1:L1≤600) (hl2:L2≤600) (hq:((L1:Int) - 1)*(n:Int)<600) (hq0:-5000≤((L1:Int) - 1)*(n:Int)) :
  Calls Tryz.prog 269 #[x,I (n:Int)] w fun e w'=>∃a l c,e=.returned (.tuple #[.agg #[.slice a l c],.bool true])∧zAf w' (.agg #[.slice a l c]) M∧Bw w w':=by
 obtain⟨xa,xn,xc,rfl⟩:=hx.shape;have HLN:Hid (∀W,zAf W (.agg #[.slice xa xn xc]) m→Calls Tryz.prog 119 #[.agg #[.slice xa xn xc]] W fun e w'=>e=.returned (I (L1:Int))∧Bw W w'):=fun W h=>by have:=zGu _ m 67 W h (by decide) h67;rw[hL1]at this;exact this
 have HLM:Hid (∀W v,zAf W v M→Calls Tryz.prog 119 #[v] W fun e w'=>e=.returned (I (L2:Int))∧Bw W w'):=fun W v h=>by have:=zGu v M 67 W h (by decide) (by rw[←hM];exact hP67);rw[hL2]at this;exact this
 have HPW:Hid (∀W,zAf W (.agg #[.slice xa xn xc]) m→Calls Tryz.prog 301 #[.agg #[.slice xa xn xc],I (n:Int)] W fun e w'=>∃a l c,e=.returned (.agg #[.slice a l c])∧zAf w' (.agg #[.slice a l c]) M∧Bw W w'):=fun W h=>by have:=bigPow_any _ m n 67 W h (by omega) (by decide) (by decide) hP67 h67;rw[hM]at this;exact this
 obtain⟨V,hV⟩:∃V,V=(w.alloc (.cells #[.slice xa xn xc] 80)).alloc (.cells #[.slice none 0 0] 80):=⟨_,rfl⟩;have HW:Hid (Bw w V):=by rw[hV];exact bA.alloc (by simp) _
 have HA:Hid (Box V w.heap.size (.slice xa xn xc)):=by rw[hV];exact⟨by simp[go_sem],by simp[go_sem]⟩
 have HR:Hid (Box V (w.heap.size+1) (.slice none 0 0)):=by rw[hV];exact⟨by simp[go_sem],by simp[go_sem]⟩
 have HX:=zAb (hx.later (un HW));have HV:=zAb hV;clear hV hx hM h67 hP67 hL1 hL2;go_enter Tryz.func269,Tryz.ntmps269
 go_upto_region 1 with fail
 rw[←un HV];clear HV;have a0:=(un HA).c
 go_upto_region 3 with (go_at_call 119;go_must(refine(un HLN _ (un HX)).mono ?_;rintro e w1 ⟨rfl,hb⟩;have HX1:=zAb ((un HX).later hb);have HA1:=zAb ((un HA).later hb);have HR1:=zAb ((un HR).later hb);have HW1:Hid (Bw w w1):=bt HW hb;clear hb a0))
 clear HX HA HR HW HLN hq hq0;have a0:=(un HA1).c
 go_upto_region 4 with (go_at_call 301;go_must(refine(un HPW _ (un HX1)).mono ?_;rintro e w2 ⟨pa,pn,pc,rfl,hp,hb⟩;have HP2:=zAb hp;have HR2:=zAb ((un HR1).later hb);have HW2:Hid (Bw w w2):=bt HW1 hb;clear hb hp a0))
 obtain⟨V3,hV3⟩:∃V3,V3=w2.alloc (.cells #[.slice pa pn pc] 80):=⟨_,rfl⟩;have hb3:Below w2.heap.size w2 V3:=by rw[hV3];exact bA
 have HB3:Hid (Box V3 w2.heap.size (.slice pa pn pc)):=by rw[hV3];exact⟨by simp[go_sem],by simp[go_sem]⟩
 have HP3:=zAb ((un HP2).later hb3);have HR3:=zAb ((un HR2).later hb3);have HW3:Hid (Bw w V3):=bt HW2 hb3;have HNE:Hid (¬w.heap.size+1=w2.heap.size):=(by have:=(un HR2).lt;show ¬_;omega);rw[←hV3];clear hV3 hb3 HP2 HR2 HW2 HX1 HA1 HR1 HW1;generalize w2.heap.size=g6 at *
 have HS0:Hid (V3.drew.cell? ⟨g6,0,none⟩=some (.slice pa pn pc)):=(un HB3).c;refine zAi 4 (fun _=>True) (fun W'=>W'.cell? ⟨g6,0,none⟩=some (.slice pa pn pc)) 6 rfl (by kernel_rfl) ?_;refine wT7 0 (.agg #[.slice pa pn pc]) rfl (Or.inl ⟨by rfl,?_⟩) ⟨trivial,un HS0⟩ ?_
 ·intro W' hW
  go_simp
 refine wT7 1 (.agg #[.slice pa pn pc]) rfl (Or.inl ⟨by rfl,?_⟩) ⟨trivial,un HS0⟩ ?_
 ·intro W' hW
  go_simp
 have HP4:Hid (zAf V3.drew (.agg #[.slice pa pn pc]) M):=(un HP3).later ((Below.refl _ _).drew);have HR4:Hid (Box V3.drew (w.heap.size+1) (.slice none 0 0)):=(un HR3).later ((Below.refl _ _).drew);have HB4:Hid (Box V3.drew g6 (.slice pa pn pc)):=(un HB3).later ((Below.refl _ _).drew);have HW4:Hid (Bw w V3.drew):=(un HW3).drew;clear HP3 HR3 HB3 HW3 HS0;generalize V3.drew=U at *
 refine wO 2 rfl rfl (fun K hK=>?_)
 go_simp
 refine(un HLM _ _ (un HP4)).mono ?_;rintro e U2 ⟨rfl,hb⟩;have HP5:=zAb ((un HP4).later hb);have HR5:=zAb ((un HR4).later hb);have HB5:=zAb ((un HB4).later hb);have HW5:Hid (Bw w U2):=bt HW4 hb;clear hb HP4 HR4 HB4 HW4;refine hK _ _ ⟨trivial,(un HB5).c⟩ ?_;clear hK K;have hl2I:(L2:Int)≤600:=by omega
 refine wT7 3 (.bool true) rfl (Or.inl ⟨by rfl,?_⟩) ⟨trivial,(un HB5).c⟩ ?_
 ·intro W' hW
  go_simp
 have r0:=(un HR5).c;have r1:=(un HR5).f;refine wL 4 rfl rfl (fun K hK=>?_)
 go_simp
 have hne:¬w.heap.size+1=g6:=un HNE;have HB6:=zAb ((un HB5).other (fun h=>hne h.symm) (.slice pa pn pc));refine hK _ _ (un HB6).c ?_;clear hK K;refine wL 5 rfl rfl (fun K hK=>?_)
 go_simp
 refine hK _ _ (un HB6).c ?_;clear hK K;refine wDn ?_
 go_wp2_with fail
 have hs:=(un HR5).set (.slice pa pn pc);have u0:=hs.c;refine bodyPost_ret (v:=.tuple #[.agg #[.slice pa pn pc],.bool true]) (by simp[results,Tryz.results269,go_sem,u0]) rfl ⟨_,_,_,rfl,?_,?_⟩
 ·exact(un HP5).box _ (un HR5).c (zBi _ _ _)
 ·exact(un HW5).setCell (by simp) _
end Go.Proofs.YtliadckofhblnaaGreatDoor

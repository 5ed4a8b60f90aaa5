/- The classes of runes: names.folded, isLetter, lowered, isRaised, isSign, Class; the document's own fold and Class. -/
import Derived.Test.YtliadckofhblnaaGreatDoorLimb3
import Derived.Test.YtliadckofhblnaaGreatDoorNt14
import Derived.Maps.RangeWalk
import Derived.Great.BuildSlice
import Derived.Test.YtliadckofhblnaaGreatDoorReads2
import Derived.Test.YtliadckofhblnaaGreatDoorProg
import Derived.WalkKit
import Derived.WalkSpells
import Derived.WalkLawsBesides
import Derived.Handy
import Derived.WalkSmall
import Derived.Deep.Cut
set_option maxHeartbeats 4000000
set_option maxRecDepth 100000
namespace Go.Proofs.YtliadckofhblnaaGreatDoor.Nt
open Go.RowKit Go.Maps Go.ChangeMaps Go.WideMaps
theorem res45b {fn:Func} {p u:Tmp} (h:fn.results=#[.cell p 45,.tmp u]) (tmps:Array Value) (w:World) (g:Nat) (vs:Array Value) (hl:vs.size=7) (hp:tmps.getD p undef=.pointer (some ⟨g,0,none⟩)) (ho:zAc w g 45 vs) :
  (results fn tmps).run Tryz.prog w=.ok (.tuple #[.agg vs,tmps.getD u undef]) w:=by
 rw[results_cell_tmp h,hp]
 simp only[asAddr,Sem.run_pure,Result.andThen_ok]
 rw[run_loadVar_row w g 45 45 vs (0,0) _ ho Tryz.underlying45 rfl (by rw[zHn,hl])]
 rfl
theorem zDs:∀k,k<13→∃a0 a1 a2 a3 a4 a5 a6,cT k=#[.string a0,.string a1,.string a2,.string a3,.string a4,.string a5,.string a6]
 | 0,_=>⟨_,_,_,_,_,_,_,rfl⟩
 | 1,_=>⟨_,_,_,_,_,_,_,rfl⟩
 | 2,_=>⟨_,_,_,_,_,_,_,rfl⟩
 | 3,_=>⟨_,_,_,_,_,_,_,rfl⟩
 | 4,_=>⟨_,_,_,_,_,_,_,rfl⟩
 | 5,_=>⟨_,_,_,_,_,_,_,rfl⟩
 | 6,_=>⟨_,_,_,_,_,_,_,rfl⟩
 | 7,_=>⟨_,_,_,_,_,_,_,rfl⟩
 | 8,_=>⟨_,_,_,_,_,_,_,rfl⟩
 | 9,_=>⟨_,_,_,_,_,_,_,rfl⟩
 | 10,_=>⟨_,_,_,_,_,_,_,rfl⟩
 | 11,_=>⟨_,_,_,_,_,_,_,rfl⟩
 | 12,_=>⟨_,_,_,_,_,_,_,rfl⟩
 | _+13,h=>absurd h (by omega)
theorem zDi (s:ByteArray) (hz:s.size≤maxLen) (k:Nat) (hk:k<13) (hs:s=fNm k) (w:World) (hsp:Spc w) (htb:Tab w):Calls Tryz.prog 26 #[.string s] w fun r w'=>r=.returned (.tuple #[.agg (cT k),.bool true])∧Below w.heap.size w w':=by
 have HK:Hid (keyOf Tryz.prog 9 (.string s)=some (.string s.data.toList)):=keyOf_string_mk Tryz.underlying9 hz
 obtain⟨V,hV⟩:∃V,V=w.alloc (.cells zC 45):=⟨_,rfl⟩
 have HR:Hid (zAc V w.heap.size 45 zC):=by rw[hV];exact zAc.new _ _ _
 have HV:Hid (Below w.heap.size w V):=by rw[hV];exact(Below.refl _ _).alloc (Nat.le_refl _) _
 have HH:Hid (Maps.has (fcD 13) (.string s.data.toList)=true):=by rw[hs];exact(at_name k hk (.lit (.int .i64 0))).2
 have HA:Hid (∀v ps,fcR v=some ((fcD 13).atKey (.string s.data.toList) (.lit (.int .i64 (-1))),ps)→v=fcV k):=fun v ps hv=>by
  rw[hs,(at_name k hk _).1]at hv
  have h:=(fcR_inv hv (by omega)).2
  rw[h];rfl
 have HT:Hid (∀W,Below w.heap.size w W→Calls Tryz.prog 61 #[fcV k,.string s] W fun r w'=>r=.returned (.agg (cT k))∧Below W.heap.size W w'):=fun W hb=>by rw[hs];exact told_at k hk W (hsp.later hb) (htb.later hb)
 have HF:Hid (Calls Tryz.prog 60 #[] V fun r w'=>r=.returned (.map (some V.heap.size))∧w'.ownsMap Tryz.prog 9 fcR V.heap.size 13 (fcD 13)∧Below V.heap.size V w'):=facts_any V
 have HVV:=zAb hV
 unfold fcV at HA HT
 generalize fSy k=sy at *
 generalize fUs k=us at *
 generalize fFn k=f at *
 obtain⟨a0,a1,a2,a3,a4,a5,a6,hct⟩:=zDs k hk
 rw[hct]at HT ⊢
 clear hct
 clear hV hs hsp htb
 go_enter Tryz.func26,Tryz.ntmps26
 go_wp2_with (first
  | (go_at_call 60;go_must(rw[←un HVV];refine(un HF).mono ?_;rintro e w1 ⟨rfl,hown,hb⟩;have HO:=zAb hown;have HB:=zAb hb;clear hown hb))
  | (at_lookup;refine wpList_lookup_own_ok _ rfl _ _ 99 rfl 9 103 (string_keyed Tryz.underlying9) zDm fcR (Tryz.zeroValue103 _) _ _ fcR_zero V.heap.size 13 (fcD 13) rfl (un HO) _ _ rfl (un HK) ?_;intro v ps hv;obtain rfl:=un HA v ps hv;rw[un HH];clear hv;have HB1:Hid (Below w.heap.size w w1):=(un HV).trans ((un HB).mono (un HV).size);have HR1:=zAb ((un HR).later (un HB)))
  | (go_at_call 61;go_must(refine(un HT _ ((un HB1).alloc (un HB1).size _)).mono ?_;rintro e w2 ⟨rfl,hb⟩;have HB2:=zAb (((un HB1).alloc (un HB1).size _).trans (hb.mono ((un HB1).alloc (un HB1).size _).size));have HR2:=zAb (((un HR1).alloc _).later hb);clear hb))
  | (refine zAn 45 7 zHn rfl (.tmp 2) (.tmp 19) rfl w.heap.size zC #[.string a0,.string a1,.string a2,.string a3,.string a4,.string a5,.string a6] rfl rfl rfl rfl (un HR2) (by kernel_rfl) ?_))
 exact bodyPost_ret (v:=.tuple #[.agg #[.string a0,.string a1,.string a2,.string a3,.string a4,.string a5,.string a6],.bool true]) (res45b Tryz.results26 _ _ w.heap.size _ rfl rfl ((un HR2).setRow _)) rfl ⟨rfl,below_setRow (un HB2) (Nat.le_refl _) _⟩
theorem zHi {a b:ByteArray} (h:(a.toList == b.toList)=true):a=b:=by
  have e:a.toList=b.toList:=by simpa using h
  have h1:a.data.toList=b.data.toList:=by rw[←Lib.toList_data a,←Lib.toList_data b,e]
  exact ByteArray.ext (Array.ext' h1)
theorem zFt {P:Program} {k:TypeId} (hk:P.underlying k=some .string) {key:Value} {kl:Lit} (h:keyOf P k key=some kl):∃s,key=.string s:=by
  cases key<;>simp[keyOf,hk,mapKey]at h
  exact⟨_,rfl⟩
theorem key_inv {x y:ByteArray} (h:keyOf Tryz.prog 9 (.string x)=some (.string y.data.toList)):x=y:=by
  simp[keyOf,Tryz.underlying9,mapKey]at h
  exact ByteArray.ext h.2
theorem fNm_other:∀j,j<13→∀k,k<13→j≠k→(Lit.string (fNm j).data.toList).sameKey (.string (fNm k).data.toList)=false:=by decide +kernel
end Go.Proofs.YtliadckofhblnaaGreatDoor.Nt
namespace Go.Proofs.YtliadckofhblnaaGreatDoor.Nt
open Go.RowKit
def cAll:Array Value:=((List.range 13).flatMap fun k=>(cT k).toList).toArray
theorem cAll_ex:∀k,k<13→cAll.extract (k*7) (k*7+7)=cT k
 | 0,_=>by kernel_rfl
 | 1,_=>by kernel_rfl
 | 2,_=>by kernel_rfl
 | 3,_=>by kernel_rfl
 | 4,_=>by kernel_rfl
 | 5,_=>by kernel_rfl
 | 6,_=>by kernel_rfl
 | 7,_=>by kernel_rfl
 | 8,_=>by kernel_rfl
 | 9,_=>by kernel_rfl
 | 10,_=>by kernel_rfl
 | 11,_=>by kernel_rfl
 | 12,_=>by kernel_rfl
 | _+13,h=>absurd h (by omega)
theorem cAll_size:cAll.size=91:=by kernel_rfl
theorem cT_size:∀k,k<13→(cT k).size=7:=by decide +kernel
theorem cAll_row (k:Nat) (hk:k<13) (i:Nat) (v:Value) (h:(cT k)[i]?=some v):cAll[k*7+i]?=some v:=by
 have hi:i<7:=by have:=(Array.getElem?_eq_some_iff.1 h).1;rw[cT_size k hk]at this;exact this
 rw[←cAll_ex k hk,Array.getElem?_extract,if_pos (by rw[cAll_size];omega)]at h;exact h
def CR (W:World) (g k:Nat):Prop:=∀i v,(cT k)[i]?=some v→W.cell? ⟨g,k*7+i,none⟩=some v
theorem CR.later {W V:World} {B g k:Nat} (h:CR W g k) (hb:Below B W V) (hg:g<B):CR V g k:=fun i v e=>(hb.cell (p:=⟨g,k*7+i,none⟩) hg).trans (h i v e)
theorem cT_words:∀k,k<13→∃a2 a3 a4 a5 a6,cT k=#[.string (fNm k),.string (fSy k),.string a2,.string a3,.string a4,.string a5,.string a6]
 | 0,_=>⟨_,_,_,_,_,rfl⟩
 | 1,_=>⟨_,_,_,_,_,rfl⟩
 | 2,_=>⟨_,_,_,_,_,rfl⟩
 | 3,_=>⟨_,_,_,_,_,rfl⟩
 | 4,_=>⟨_,_,_,_,_,rfl⟩
 | 5,_=>⟨_,_,_,_,_,rfl⟩
 | 6,_=>⟨_,_,_,_,_,rfl⟩
 | 7,_=>⟨_,_,_,_,_,rfl⟩
 | 8,_=>⟨_,_,_,_,_,rfl⟩
 | 9,_=>⟨_,_,_,_,_,rfl⟩
 | 10,_=>⟨_,_,_,_,_,rfl⟩
 | 11,_=>⟨_,_,_,_,_,rfl⟩
 | 12,_=>⟨_,_,_,_,_,rfl⟩
 | _+13,h=>absurd h (by omega)
end Go.Proofs.YtliadckofhblnaaGreatDoor.Nt
namespace Go.Proofs.YtliadckofhblnaaGreatDoor
open Go.RowKit
theorem zBj (n d:ByteArray) (x:Rat) (sg:Int) (hsg:Cub.cmpQ x 0=sg) (w:World) (hx:IsR n d x):Calls Tryz.prog 206 #[.agg #[.string n,.string d]] w fun r w'=>r=.returned (.tuple #[I sg,I 0])∧Bw w w':=by
 obtain⟨V,hV⟩:∃V,V=w.alloc (.cells #[.string n,.string d] 28):=⟨_,rfl⟩;have HN:Hid (T2 V w.heap.size (.string n) (.string d)):=by rw[hV];exact⟨by simp[go_sem],by simp[go_sem],by simp[go_sem],by simp[go_sem]⟩
 have HB:Hid (Bw w V):=by rw[hV];exact bA
 have HV:=zAb hV;have HRD:=zAb (fun W=>qread n d x W hx);have HSG:=zAb hsg;clear hV hx hsg;go_enter Tryz.func206,Tryz.ntmps206
 go_upto_region 1 with fail
 rw[←un HV];clear HV;have t0:=(un HN).c0;have t1:=(un HN).c1
 go_upto_region 2 with (go_at_call 118;go_must(refine(un HRD _).mono ?_;rintro e w1 ⟨v1,rfl,hv1,hb1⟩;obtain⟨bz,az,lz,cz,dz,mz,ez,rfl⟩:=hv1.form;have HZ1:=zAb hv1;have HB1:=zAb (bt HB hb1);clear hv1 hb1 t0 t1))
 have hal:Below w1.heap.size w1 (w1.alloc (.cells #[.bool bz,.slice az lz cz,.slice dz mz ez] 82)):=bA;have HX:Hid (zAc (w1.alloc (.cells #[.bool bz,.slice az lz cz,.slice dz mz ez] 82)) w1.heap.size 82 #[.bool bz,.slice az lz cz,.slice dz mz ez]):=zAc.new _ _ _;have HZ2:=zAb ((un HZ1).later hal);have HB2:=zAb (bt HB1 hal);clear hal HZ1 HB1;generalize w1.alloc (.cells #[.bool bz,.slice az lz cz,.slice dz mz ez] 82)=V2 at *
 generalize w1.heap.size=g4 at *
 have z0:V2.cell? ⟨g4,0,none⟩=some (.bool bz):=(un HX).ub.c 0 _ rfl;have z1:V2.cell? ⟨g4,1,none⟩=some (.slice az lz cz):=(un HX).ub.c 1 _ rfl;have z2:V2.cell? ⟨g4,2,none⟩=some (.slice dz mz ez):=(un HX).ub.c 2 _ rfl;have HSI:=zAb (qsign _ _ _ V2 (un HZ2));rw[un HSG]at HSI
 go_wp2_with (go_at_call 68;go_must(refine(un HSI).mono ?_;rintro e w3 ⟨rfl,hb3⟩;have HB3:=zAb (bt HB2 hb3);clear hb3))
 go_ret2
 exact⟨rfl,un HB3⟩
theorem zBd (n d:ByteArray) (x:Rat) (w:World) (hx:IsR n d x):Calls Tryz.prog 172 #[.agg #[.string n,.string d]] w fun r w'=>r=.returned (.bool true)∧Bw w w':=by
 obtain⟨V,hV⟩:∃V,V=w.alloc (.cells #[.string n,.string d] 28):=⟨_,rfl⟩;have HN:Hid (T2 V w.heap.size (.string n) (.string d)):=by rw[hV];exact⟨by simp[go_sem],by simp[go_sem],by simp[go_sem],by simp[go_sem]⟩
 have HB:Hid (Bw w V):=by rw[hV];exact bA
 have HV:=zAb hV;have HRD:=zAb (fun W=>qread n d x W hx)
 skip
 clear hV hx;go_enter Tryz.func172,Tryz.ntmps172
 go_upto_region 1 with fail
 rw[←un HV];clear HV;have t0:=(un HN).c0;have t1:=(un HN).c1
 go_upto_region 2 with (go_at_call 118;go_must(refine(un HRD _).mono ?_;rintro e w1 ⟨v1,rfl,hv1,hb1⟩;obtain⟨bz,az,lz,cz,dz,mz,ez,rfl⟩:=hv1.form;have HZ1:=zAb hv1;have HB1:=zAb (bt HB hb1);clear hv1 hb1 t0 t1))
 go_wp2_with fail
 go_ret
 exact⟨rfl,(un HB1).alloc (un HB1).size _⟩
theorem closed_any (g:Nat) (w:World) (h:w.cell? ⟨g,3,none⟩=some (.bool false)):Calls Tryz.prog 168 #[.pointer (some ⟨g,0,none⟩)] w fun r w'=>r=.returned (I 0)∧w'=w:=by
 go_enter Tryz.func168,Tryz.ntmps168
 go_wp2_with fail
 go_ret
 exact⟨rfl,rfl⟩
theorem room_any (n:Int) (w:World) (h:n<512):Calls Tryz.prog 98 #[I n,I 512] w fun r w'=>r=.returned (I 0)∧w'=w:=by
 have h1:¬(512:Int)≤n:=by omega
 go_enter Tryz.func98,Tryz.ntmps98
 go_wp2_with fail
 go_ret
 exact⟨rfl,rfl⟩
end Go.Proofs.YtliadckofhblnaaGreatDoor
namespace Go.Proofs.YtliadckofhblnaaGreatDoor.Nm
open Go.RowKit
theorem zAb {p:Prop} (h:p):Hid p:=h
def foldR (r:Int):Int:=if r=181 then 956 else if r=8486 then 937 else if r=8491 then 197 else if r=8490 then 75 else if r=8242 then 39 else if r=8217 then 39 else if r=8243 then 34 else r
def zBk (r:Int):Prop:=r=95∨r=197∨r=198∨r=216∨r=229∨r=230∨r=248∨(r≠930∧((65≤r∧r≤90)∨(97≤r∧r≤122)∨(913≤r∧r≤937)∨(945≤r∧r≤969)))
def zFf (r:Int):Prop:=r=8304∨r=185∨r=178∨r=179∨r=8308∨r=8309∨r=8310∨r=8311∨r=8312∨r=8313∨r=8314∨r=8315
def signP (r:Int):Prop:=r=37∨r=39∨r=34∨r=176∨r=8240∨r=8451∨r=8457
instance (r:Int):Decidable (zBk r):=by unfold zBk;infer_instance
instance (r:Int):Decidable (zFf r):=by unfold zFf;infer_instance
instance (r:Int):Decidable (signP r):=by unfold signP;infer_instance
def classF (r:Int):Int:=if zBk r then 1 else if 48≤r∧r≤57 then 2 else if zFf r then 3 else if signP r then 4 else 0
def zCj (r:Int):Int:=classF (foldR r)
theorem folded_any (r:Int) (w:World):Calls Tryz.prog 363 #[.int .i32 r] w fun e w'=>e=.returned (.int .i32 (foldR r))∧w'=w:=by
 by_cases h181:r=181
 ·subst h181
  go_enter Tryz.func363,Tryz.ntmps363
  go_wp2
  go_ret
  exact⟨rfl,rfl⟩
 by_cases h8486:r=8486
 ·subst h8486
  go_enter Tryz.func363,Tryz.ntmps363
  go_wp2
  go_ret
  exact⟨rfl,rfl⟩
 by_cases h8491:r=8491
 ·subst h8491
  go_enter Tryz.func363,Tryz.ntmps363
  go_wp2
  go_ret
  exact⟨rfl,rfl⟩
 by_cases h8490:r=8490
 ·subst h8490
  go_enter Tryz.func363,Tryz.ntmps363
  go_wp2
  go_ret
  exact⟨rfl,rfl⟩
 by_cases h8242:r=8242
 ·subst h8242
  go_enter Tryz.func363,Tryz.ntmps363
  go_wp2
  go_ret
  exact⟨rfl,rfl⟩
 by_cases h8217:r=8217
 ·subst h8217
  go_enter Tryz.func363,Tryz.ntmps363
  go_wp2
  go_ret
  exact⟨rfl,rfl⟩
 by_cases h8243:r=8243
 ·subst h8243
  go_enter Tryz.func363,Tryz.ntmps363
  go_wp2
  go_ret
  exact⟨rfl,rfl⟩
 have hf:foldR r=r:=by unfold foldR;rw[if_neg h181,if_neg h8486,if_neg h8491,if_neg h8490,if_neg h8242,if_neg h8217,if_neg h8243]
 rw[hf];clear hf;have e181:(r == 181)=false:=by rw[beq_eq_false_iff_ne];exact h181
 have e8486:(r == 8486)=false:=by rw[beq_eq_false_iff_ne];exact h8486
 have e8491:(r == 8491)=false:=by rw[beq_eq_false_iff_ne];exact h8491
 have e8490:(r == 8490)=false:=by rw[beq_eq_false_iff_ne];exact h8490
 have e8242:(r == 8242)=false:=by rw[beq_eq_false_iff_ne];exact h8242
 have e8217:(r == 8217)=false:=by rw[beq_eq_false_iff_ne];exact h8217
 have e8243:(r == 8243)=false:=by rw[beq_eq_false_iff_ne];exact h8243
 clear h181 h8486 h8491 h8490 h8242 h8217 h8243;go_enter Tryz.func363,Tryz.ntmps363
 go_wp2
 go_ret
 exact⟨rfl,rfl⟩
theorem isLetter_any (r:Int) (w:World):Calls Tryz.prog 373 #[.int .i32 r] w fun e w'=>e=.returned (.bool (decide (zBk r)))∧w'=w:=by
 by_cases h95:r=95
 ·subst h95
  go_enter Tryz.func373,Tryz.ntmps373
  go_wp2
  go_ret
  exact⟨by rfl,rfl⟩
 by_cases h197:r=197
 ·subst h197
  go_enter Tryz.func373,Tryz.ntmps373
  go_wp2
  go_ret
  exact⟨by rfl,rfl⟩
 by_cases h198:r=198
 ·subst h198
  go_enter Tryz.func373,Tryz.ntmps373
  go_wp2
  go_ret
  exact⟨by rfl,rfl⟩
 by_cases h216:r=216
 ·subst h216
  go_enter Tryz.func373,Tryz.ntmps373
  go_wp2
  go_ret
  exact⟨by rfl,rfl⟩
 by_cases h229:r=229
 ·subst h229
  go_enter Tryz.func373,Tryz.ntmps373
  go_wp2
  go_ret
  exact⟨by rfl,rfl⟩
 by_cases h230:r=230
 ·subst h230
  go_enter Tryz.func373,Tryz.ntmps373
  go_wp2
  go_ret
  exact⟨by rfl,rfl⟩
 by_cases h248:r=248
 ·subst h248
  go_enter Tryz.func373,Tryz.ntmps373
  go_wp2
  go_ret
  exact⟨by rfl,rfl⟩
 by_cases h930:r=930
 ·subst h930
  go_enter Tryz.func373,Tryz.ntmps373
  go_wp2
  go_ret
  exact⟨by rfl,rfl⟩
 have e95:(r == 95)=false:=by rw[beq_eq_false_iff_ne];exact h95
 have e197:(r == 197)=false:=by rw[beq_eq_false_iff_ne];exact h197
 have e198:(r == 198)=false:=by rw[beq_eq_false_iff_ne];exact h198
 have e216:(r == 216)=false:=by rw[beq_eq_false_iff_ne];exact h216
 have e229:(r == 229)=false:=by rw[beq_eq_false_iff_ne];exact h229
 have e230:(r == 230)=false:=by rw[beq_eq_false_iff_ne];exact h230
 have e248:(r == 248)=false:=by rw[beq_eq_false_iff_ne];exact h248
 have e930:(r == 930)=false:=by rw[beq_eq_false_iff_ne];exact h930
 rcases(by omega:r≤64∨(65≤r∧r≤90)∨(91≤r∧r≤96)∨(97≤r∧r≤122)∨(123≤r∧r≤912)∨(913≤r∧r≤937)∨(938≤r∧r≤944)∨(945≤r∧r≤969)∨970≤r)with hi|⟨hi,hj⟩|⟨hi,hj⟩|⟨hi,hj⟩|⟨hi,hj⟩|⟨hi,hj⟩|⟨hi,hj⟩|⟨hi,hj⟩|hi
 ·have hv:decide (zBk r)=false:=by rw[decide_eq_false_iff_not];unfold zBk;omega
  rw[hv];clear hv h95 h197 h198 h216 h229 h230 h248 h930;go_enter Tryz.func373,Tryz.ntmps373
  go_wp2
  go_ret
  exact⟨rfl,rfl⟩
 ·have hv:decide (zBk r)=true:=by rw[decide_eq_true_iff];unfold zBk;omega
  rw[hv];clear hv h95 h197 h198 h216 h229 h230 h248 h930;go_enter Tryz.func373,Tryz.ntmps373
  go_wp2
  go_ret
  exact⟨rfl,rfl⟩
 ·have hv:decide (zBk r)=false:=by rw[decide_eq_false_iff_not];unfold zBk;omega
  rw[hv];have d90:decide (r≤90)=false:=by rw[decide_eq_false_iff_not];omega
  clear hv h95 h197 h198 h216 h229 h230 h248 h930;go_enter Tryz.func373,Tryz.ntmps373
  go_wp2
  go_ret
  exact⟨rfl,rfl⟩
 ·have hv:decide (zBk r)=true:=by rw[decide_eq_true_iff];unfold zBk;omega
  rw[hv];have d90:decide (r≤90)=false:=by rw[decide_eq_false_iff_not];omega
  clear hv h95 h197 h198 h216 h229 h230 h248 h930;go_enter Tryz.func373,Tryz.ntmps373
  go_wp2
  go_ret
  exact⟨rfl,rfl⟩
 ·have hv:decide (zBk r)=false:=by rw[decide_eq_false_iff_not];unfold zBk;omega
  rw[hv];have d90:decide (r≤90)=false:=by rw[decide_eq_false_iff_not];omega
  have d122:decide (r≤122)=false:=by rw[decide_eq_false_iff_not];omega
  clear hv h95 h197 h198 h216 h229 h230 h248 h930;go_enter Tryz.func373,Tryz.ntmps373
  go_wp2
  go_ret
  exact⟨rfl,rfl⟩
 ·have hv:decide (zBk r)=true:=by rw[decide_eq_true_iff];unfold zBk;omega
  rw[hv];have d90:decide (r≤90)=false:=by rw[decide_eq_false_iff_not];omega
  have d122:decide (r≤122)=false:=by rw[decide_eq_false_iff_not];omega
  clear hv h95 h197 h198 h216 h229 h230 h248 h930;go_enter Tryz.func373,Tryz.ntmps373
  go_wp2
  go_ret
  exact⟨rfl,rfl⟩
 ·have hv:decide (zBk r)=false:=by rw[decide_eq_false_iff_not];unfold zBk;omega
  rw[hv];have d90:decide (r≤90)=false:=by rw[decide_eq_false_iff_not];omega
  have d122:decide (r≤122)=false:=by rw[decide_eq_false_iff_not];omega
  have d937:decide (r≤937)=false:=by rw[decide_eq_false_iff_not];omega
  clear hv h95 h197 h198 h216 h229 h230 h248 h930;go_enter Tryz.func373,Tryz.ntmps373
  go_wp2
  go_ret
  exact⟨rfl,rfl⟩
 ·have hv:decide (zBk r)=true:=by rw[decide_eq_true_iff];unfold zBk;omega
  rw[hv];have d90:decide (r≤90)=false:=by rw[decide_eq_false_iff_not];omega
  have d122:decide (r≤122)=false:=by rw[decide_eq_false_iff_not];omega
  have d937:decide (r≤937)=false:=by rw[decide_eq_false_iff_not];omega
  clear hv h95 h197 h198 h216 h229 h230 h248 h930;go_enter Tryz.func373,Tryz.ntmps373
  go_wp2
  go_ret
  exact⟨rfl,rfl⟩
 ·have hv:decide (zBk r)=false:=by rw[decide_eq_false_iff_not];unfold zBk;omega
  rw[hv];have d90:decide (r≤90)=false:=by rw[decide_eq_false_iff_not];omega
  have d122:decide (r≤122)=false:=by rw[decide_eq_false_iff_not];omega
  have d937:decide (r≤937)=false:=by rw[decide_eq_false_iff_not];omega
  have d969:decide (r≤969)=false:=by rw[decide_eq_false_iff_not];omega
  clear hv h95 h197 h198 h216 h229 h230 h248 h930;go_enter Tryz.func373,Tryz.ntmps373
  go_wp2
  go_ret
  exact⟨rfl,rfl⟩
theorem isSign_any (r:Int) (w:World):Calls Tryz.prog 375 #[.int .i32 r] w fun e w'=>e=.returned (.bool (decide (signP r)))∧w'=w:=by
 by_cases h37:r=37
 ·subst h37
  go_enter Tryz.func375,Tryz.ntmps375
  go_wp2
  go_ret
  exact⟨by rfl,rfl⟩
 by_cases h39:r=39
 ·subst h39
  go_enter Tryz.func375,Tryz.ntmps375
  go_wp2
  go_ret
  exact⟨by rfl,rfl⟩
 by_cases h34:r=34
 ·subst h34
  go_enter Tryz.func375,Tryz.ntmps375
  go_wp2
  go_ret
  exact⟨by rfl,rfl⟩
 by_cases h176:r=176
 ·subst h176
  go_enter Tryz.func375,Tryz.ntmps375
  go_wp2
  go_ret
  exact⟨by rfl,rfl⟩
 by_cases h8240:r=8240
 ·subst h8240
  go_enter Tryz.func375,Tryz.ntmps375
  go_wp2
  go_ret
  exact⟨by rfl,rfl⟩
 by_cases h8451:r=8451
 ·subst h8451
  go_enter Tryz.func375,Tryz.ntmps375
  go_wp2
  go_ret
  exact⟨by rfl,rfl⟩
 by_cases h8457:r=8457
 ·subst h8457
  go_enter Tryz.func375,Tryz.ntmps375
  go_wp2
  go_ret
  exact⟨by rfl,rfl⟩
 have hv:decide (signP r)=false:=by rw[decide_eq_false_iff_not];unfold signP;omega
 rw[hv];have e37:(r == 37)=false:=by rw[beq_eq_false_iff_ne];exact h37
 have e39:(r == 39)=false:=by rw[beq_eq_false_iff_ne];exact h39
 have e34:(r == 34)=false:=by rw[beq_eq_false_iff_ne];exact h34
 have e176:(r == 176)=false:=by rw[beq_eq_false_iff_ne];exact h176
 have e8240:(r == 8240)=false:=by rw[beq_eq_false_iff_ne];exact h8240
 have e8451:(r == 8451)=false:=by rw[beq_eq_false_iff_ne];exact h8451
 have e8457:(r == 8457)=false:=by rw[beq_eq_false_iff_ne];exact h8457
 clear hv h37 h39 h34 h176 h8240 h8451 h8457;go_enter Tryz.func375,Tryz.ntmps375
 go_wp2
 go_ret
 exact⟨rfl,rfl⟩
end Go.Proofs.YtliadckofhblnaaGreatDoor.Nm

/- The joule. -/
import Derived.Test.YtliadckofhblnaaGreatDoorAdd
import Derived.Test.YtliadckofhblnaaGreatDoorPfTold
import Derived.Maps.OwnSet
import Derived.Laws.EntriesVeiled
import Derived.Test.YtliadckofhblnaaGreatDoorTmUnit
import Derived.Deep.MidRow
import Derived.Test.YtliadckofhblnaaGreatDoorReads
import Derived.Deep.Cut
set_option maxHeartbeats 16000000
set_option maxRecDepth 100000
namespace Go.Proofs.YtliadckofhblnaaGreatDoor.Pf
open Go.RowKit
theorem kilo_told:Tells 328 10 3 false:=by
 intro nm sy fn fd w hf;obtain⟨N,hN⟩:∃N:Nat,N=10:=⟨_,rfl⟩;obtain⟨J,hJ⟩:∃J:Int,J=3:=⟨_,rfl⟩;have HM:Hid (∀W,Calls Tryz.prog 328 #[] W fun r w'=>r=.returned (.agg #[I (N:Int),I J])∧Bw W w'):=fun W=>by rw[hN,hJ];exact kilo_made W
 have HBI:=zAb (fun W=>binary_any N J false W (by rw[hN];rfl));rw[←hN,←hJ]at hf;have HF:=zAb hf;obtain⟨V,hV⟩:∃V,V=(w.alloc (.cells #[.string nm,.string sy,.func (.func 328) #[] #[]] 324)).alloc (.cells #[G #[],G #[],G #[],G #[],.bool false] 291):=⟨_,rfl⟩;have HP:Hid (FBox V w.heap.size (.string nm) (.string sy) (.func (.func 328) #[] #[])):=by rw[hV];exact⟨by simp[go_sem],by simp[go_sem],by simp[go_sem],by simp[go_sem],by simp[go_sem],by simp[go_sem]⟩
 have HR:Hid (T5 V (w.heap.size+1) (G #[]) (G #[]) (G #[]) (G #[]) (.bool false)):=by rw[hV];exact⟨by simp[go_sem],by simp[go_sem],by simp[go_sem],by simp[go_sem],by simp[go_sem],by simp[go_sem],by simp[go_sem],by simp[go_sem],by simp[go_sem],by simp[go_sem]⟩
 have HB:Hid (Bw w V):=by rw[hV];exact bA.alloc (by simp) _
 have HV:=zAb hV;clear hf hN hJ;unfold RowV;go_enter Tryz.func299,Tryz.ntmps299
 go_upto_region 1 with fail
 rw[←un HV];clear hV HV;have t2:=(un HP).c2
 go_upto_region 2 with (go_at_call 328;go_must(refine(un HM _).mono ?_;rintro e w1 ⟨rfl,hb1⟩;have HP1:=zAb ((un HP).later hb1);have HR1:=zAb ((un HR).later hb1);have HB1:=zAb (bt HB hb1);clear hb1 t2))
 obtain⟨V2,hV2⟩:∃V2,V2=w1.alloc (.cells #[I (N:Int),I J] 357):=⟨_,rfl⟩;have hb2:Below w1.heap.size w1 V2:=by rw[hV2];exact bA
 have HP2:=zAb ((un HP1).later hb2);have HR2:=zAb ((un HR1).later hb2);have HB2:=zAb (bt HB1 hb2);have HQ2:Hid (T2 V2 w1.heap.size (I (N:Int)) (I J)):=by rw[hV2];exact⟨by simp[go_sem],by simp[go_sem],by simp[go_sem],by simp[go_sem]⟩
 rw[←hV2];clear hV2 hb2 HP HR HB HP1 HR1 HB1 HM;generalize w1.heap.size=g3 at *
 have q0:∀xz:zBy V2,xz.world.cell? ⟨w.heap.size,0,none⟩=some (.string nm):=fun xz=>((un HP2).later xz.below).c0
 have q1:∀xz:zBy V2,xz.world.cell? ⟨w.heap.size,1,none⟩=some (.string sy):=fun xz=>((un HP2).later xz.below).c1
 have q2:∀xz:zBy V2,xz.world.cell? ⟨g3,0,none⟩=some (I (N:Int)):=fun xz=>((un HQ2).later xz.below).c0
 have q3:∀xz:zBy V2,xz.world.cell? ⟨g3,1,none⟩=some (I J):=fun xz=>((un HQ2).later xz.below).c1
 refine quiet_end (by kernel_rfl) (by kernel_rfl) ?_;simp only[List.dropLast,lastOf]
 repeat (go_big_quiet_step (first
  | (go_at_call 358;rename_i xx;refine(un HF xx.world ((un HB2).trans (xx.below.mono (un HB2).size))).mono ?_;rintro e w9 ⟨rfl,hb9⟩;have hz:=xx.below.trans (hb9.mono xx.below.size);first|exact⟨rfl,⟨w9,hz⟩,rfl⟩|exact⟨rfl,hz⟩|exact⟨rfl,w9,hz,rfl⟩)
  | (go_at_call 359;rename_i xx;refine(un HBI xx.world).mono ?_;rintro e w9 ⟨rfl,hb9⟩;have hz:=xx.below.trans (hb9.mono xx.below.size);first|exact⟨rfl,⟨w9,hz⟩,rfl⟩|exact⟨rfl,hz⟩|exact⟨rfl,w9,hz,rfl⟩)))
 refine wpQuiet_nil ?_;intro _ hw';obtain⟨xz,hw''⟩:=hw';subst hw'';obtain⟨U,hU⟩:∃U,U=xz.world:=⟨_,rfl⟩;have HBU:Hid (Bw w U):=by rw[hU];exact(un HB2).trans (xz.below.mono (un HB2).size)
 have HRU:=zAb ((un HR2).later xz.below);rw[←hU]at HRU ⊢;clear hU q0 q1 q2 q3 HB2 HR2 HP2 HQ2;have r0:=(un HRU).c0;have r1:=(un HRU).c1;have r2:=(un HRU).c2;have r3:=(un HRU).c3;have r4:=(un HRU).c4;have rf0:=(un HRU).f0;have rf1:=(un HRU).f1;have rf2:=(un HRU).f2;have rf3:=(un HRU).f3;have rf4:=(un HRU).f4
 go_simp
 go_wp2_with fail
 have hS:=(un HRU).store (.string nm) (.string sy) (.string fn) (.string fd) (.bool false);have hb:=below_store5 (un HBU) (by omega) (.string nm) (.string sy) (.string fn) (.string fd) (.bool false) (g:=w.heap.size+1);have v0:=hS.c0;have v1:=hS.c1;have v2:=hS.c2;have v3:=hS.c3;have v4:=hS.c4;exact bodyPost_ret (v:=.agg #[.string nm,.string sy,.string fn,.string fd,.bool false]) (w:=store5 U (w.heap.size+1) (.string nm) (.string sy) (.string fn) (.string fd) (.bool false)) (by simp[results,Tryz.results299,go_sem,v0,v1,v2,v3,v4]) rfl ⟨rfl,hb⟩
structure Pre where
 nm:ByteArray
 sy:ByteArray
 f:Nat
 fn:ByteArray
 fd:ByteArray
 bi:Bool
 ex:Int
def tbl:Nat→Pre
 | 0=>⟨⟨#[100,101,99,97]⟩,⟨#[100,97]⟩,326,⟨#[49,48]⟩,⟨#[49]⟩,false,1⟩
 | 1=>⟨⟨#[104,101,99,116,111]⟩,⟨#[104]⟩,327,⟨#[49,48,48]⟩,⟨#[49]⟩,false,2⟩
 | 2=>⟨⟨#[107,105,108,111]⟩,⟨#[107]⟩,328,⟨#[49,48,48,48]⟩,⟨#[49]⟩,false,3⟩
 | 3=>⟨⟨#[109,101,103,97]⟩,⟨#[77]⟩,329,⟨#[49,48,48,48,48,48,48]⟩,⟨#[49]⟩,false,6⟩
 | 4=>⟨⟨#[103,105,103,97]⟩,⟨#[71]⟩,330,⟨#[49,48,48,48,48,48,48,48,48,48]⟩,⟨#[49]⟩,false,9⟩
 | 5=>⟨⟨#[116,101,114,97]⟩,⟨#[84]⟩,331,⟨#[49,48,48,48,48,48,48,48,48,48,48,48,48]⟩,⟨#[49]⟩,false,12⟩
 | 6=>⟨⟨#[112,101,116,97]⟩,⟨#[80]⟩,332,⟨#[49,48,48,48,48,48,48,48,48,48,48,48,48,48,48,48]⟩,⟨#[49]⟩,false,15⟩
 | 7=>⟨⟨#[101,120,97]⟩,⟨#[69]⟩,333,⟨#[49,48,48,48,48,48,48,48,48,48,48,48,48,48,48,48,48,48,48]⟩,⟨#[49]⟩,false,18⟩
 | 8=>⟨⟨#[122,101,116,116,97]⟩,⟨#[90]⟩,334,⟨#[49,48,48,48,48,48,48,48,48,48,48,48,48,48,48,48,48,48,48,48,48,48]⟩,⟨#[49]⟩,false,21⟩
 | 9=>⟨⟨#[121,111,116,116,97]⟩,⟨#[89]⟩,335,⟨#[49,48,48,48,48,48,48,48,48,48,48,48,48,48,48,48,48,48,48,48,48,48,48,48,48]⟩,⟨#[49]⟩,false,24⟩
 | 10=>⟨⟨#[114,111,110,110,97]⟩,⟨#[82]⟩,336,⟨#[49,48,48,48,48,48,48,48,48,48,48,48,48,48,48,48,48,48,48,48,48,48,48,48,48,48,48,48]⟩,⟨#[49]⟩,false,27⟩
 | 11=>⟨⟨#[113,117,101,116,116,97]⟩,⟨#[81]⟩,337,⟨#[49,48,48,48,48,48,48,48,48,48,48,48,48,48,48,48,48,48,48,48,48,48,48,48,48,48,48,48,48,48,48]⟩,⟨#[49]⟩,false,30⟩
 | 12=>⟨⟨#[100,101,99,105]⟩,⟨#[100]⟩,338,⟨#[49]⟩,⟨#[49,48]⟩,false,(-1)⟩
 | 13=>⟨⟨#[99,101,110,116,105]⟩,⟨#[99]⟩,339,⟨#[49]⟩,⟨#[49,48,48]⟩,false,(-2)⟩
 | 14=>⟨⟨#[109,105,108,108,105]⟩,⟨#[109]⟩,340,⟨#[49]⟩,⟨#[49,48,48,48]⟩,false,(-3)⟩
 | 15=>⟨⟨#[109,105,99,114,111]⟩,⟨#[206,188]⟩,341,⟨#[49]⟩,⟨#[49,48,48,48,48,48,48]⟩,false,(-6)⟩
 | 16=>⟨⟨#[110,97,110,111]⟩,⟨#[110]⟩,342,⟨#[49]⟩,⟨#[49,48,48,48,48,48,48,48,48,48]⟩,false,(-9)⟩
 | 17=>⟨⟨#[112,105,99,111]⟩,⟨#[112]⟩,343,⟨#[49]⟩,⟨#[49,48,48,48,48,48,48,48,48,48,48,48,48]⟩,false,(-12)⟩
 | 18=>⟨⟨#[102,101,109,116,111]⟩,⟨#[102]⟩,344,⟨#[49]⟩,⟨#[49,48,48,48,48,48,48,48,48,48,48,48,48,48,48,48]⟩,false,(-15)⟩
 | 19=>⟨⟨#[97,116,116,111]⟩,⟨#[97]⟩,345,⟨#[49]⟩,⟨#[49,48,48,48,48,48,48,48,48,48,48,48,48,48,48,48,48,48,48]⟩,false,(-18)⟩
 | 20=>⟨⟨#[122,101,112,116,111]⟩,⟨#[122]⟩,346,⟨#[49]⟩,⟨#[49,48,48,48,48,48,48,48,48,48,48,48,48,48,48,48,48,48,48,48,48,48]⟩,false,(-21)⟩
 | 21=>⟨⟨#[121,111,99,116,111]⟩,⟨#[121]⟩,347,⟨#[49]⟩,⟨#[49,48,48,48,48,48,48,48,48,48,48,48,48,48,48,48,48,48,48,48,48,48,48,48,48]⟩,false,(-24)⟩
 | 22=>⟨⟨#[114,111,110,116,111]⟩,⟨#[114]⟩,348,⟨#[49]⟩,⟨#[49,48,48,48,48,48,48,48,48,48,48,48,48,48,48,48,48,48,48,48,48,48,48,48,48,48,48,48]⟩,false,(-27)⟩
 | 23=>⟨⟨#[113,117,101,99,116,111]⟩,⟨#[113]⟩,349,⟨#[49]⟩,⟨#[49,48,48,48,48,48,48,48,48,48,48,48,48,48,48,48,48,48,48,48,48,48,48,48,48,48,48,48,48,48,48]⟩,false,(-30)⟩
 | 24=>⟨⟨#[107,105,98,105]⟩,⟨#[75,105]⟩,350,⟨#[49,48,50,52]⟩,⟨#[49]⟩,true,1⟩
 | 25=>⟨⟨#[109,101,98,105]⟩,⟨#[77,105]⟩,351,⟨#[49,48,52,56,53,55,54]⟩,⟨#[49]⟩,true,2⟩
 | 26=>⟨⟨#[103,105,98,105]⟩,⟨#[71,105]⟩,352,⟨#[49,48,55,51,55,52,49,56,50,52]⟩,⟨#[49]⟩,true,3⟩
 | 27=>⟨⟨#[116,101,98,105]⟩,⟨#[84,105]⟩,353,⟨#[49,48,57,57,53,49,49,54,50,55,55,55,54]⟩,⟨#[49]⟩,true,4⟩
 | 28=>⟨⟨#[112,101,98,105]⟩,⟨#[80,105]⟩,354,⟨#[49,49,50,53,56,57,57,57,48,54,56,52,50,54,50,52]⟩,⟨#[49]⟩,true,5⟩
 | 29=>⟨⟨#[101,120,98,105]⟩,⟨#[69,105]⟩,355,⟨#[49,49,53,50,57,50,49,53,48,52,54,48,54,56,52,54,57,55,54]⟩,⟨#[49]⟩,true,6⟩
 | 30=>⟨⟨#[122,101,98,105]⟩,⟨#[90,105]⟩,356,⟨#[49,49,56,48,53,57,49,54,50,48,55,49,55,52,49,49,51,48,51,52,50,52]⟩,⟨#[49]⟩,true,7⟩
 | 31=>⟨⟨#[121,111,98,105]⟩,⟨#[89,105]⟩,357,⟨#[49,50,48,56,57,50,53,56,49,57,54,49,52,54,50,57,49,55,52,55,48,54,49,55,54]⟩,⟨#[49]⟩,true,8⟩
 | _=>⟨⟨#[]⟩,⟨#[]⟩,0,⟨#[]⟩,⟨#[]⟩,false,0⟩
def rowV (k:Nat):Value:=RowV (tbl k).nm (tbl k).sy (tbl k).f
def preV (k:Nat):Value:=.agg #[.string (tbl k).nm,.string (tbl k).sy,.string (tbl k).fn,.string (tbl k).fd,.bool (tbl k).bi]
theorem le600 (e:Nat) (h:e=600):10 ^ 40≤10 ^ e:=Nat.pow_le_pow_right (by decide) (by omega)
theorem kilo_row (w:World) (ht:Tab w):Calls Tryz.prog 299 #[rowV 2] w fun r w'=>r=.returned (preV 2)∧Bw w w':=by
 have h:=fac_pos 10 3 3 rfl (Nat.lt_of_lt_of_le (by decide:10 ^ 3<10 ^ 40) (le600 600 rfl));exact kilo_told _ _ ⟨#[49,48,48,48]⟩ ⟨#[49]⟩ w (fun W hb=>zCa 10 3 ⟨#[49,48,48,48]⟩ ⟨#[49]⟩ W (ht.later hb) (by decide) (by decide) (by decide) (by decide) ⟨h.1.trans (by decide +kernel),h.2.1.trans (by decide +kernel),h.2.2⟩)
def zFe:Array Value:=#[G #[100,101,99,97],G #[100,97],.func (.func 326) #[] #[],G #[104,101,99,116,111],G #[104],.func (.func 327) #[] #[],G #[107,105,108,111],G #[107],.func (.func 328) #[] #[],G #[109,101,103,97],G #[77],.func (.func 329) #[] #[],G #[103,105,103,97],G #[71],.func (.func 330) #[] #[],G #[116,101,114,97],G #[84],.func (.func 331) #[] #[],G #[112,101,116,97],G #[80],.func (.func 332) #[] #[],G #[101,120,97],G #[69],.func (.func 333) #[] #[],G #[122,101,116,116,97],G #[90],.func (.func 334) #[] #[],G #[121,111,116,116,97],G #[89],.func (.func 335) #[] #[],G #[114,111,110,110,97],G #[82],.func (.func 336) #[] #[],G #[113,117,101,116,116,97],G #[81],.func (.func 337) #[] #[],G #[100,101,99,105],G #[100],.func (.func 338) #[] #[],G #[99,101,110,116,105],G #[99],.func (.func 339) #[] #[],G #[109,105,108,108,105],G #[109],.func (.func 340) #[] #[],G #[109,105,99,114,111],G #[206,188],.func (.func 341) #[] #[],G #[110,97,110,111],G #[110],.func (.func 342) #[] #[],G #[112,105,99,111],G #[112],.func (.func 343) #[] #[],G #[102,101,109,116,111],G #[102],.func (.func 344) #[] #[],G #[97,116,116,111],G #[97],.func (.func 345) #[] #[],G #[122,101,112,116,111],G #[122],.func (.func 346) #[] #[],G #[121,111,99,116,111],G #[121],.func (.func 347) #[] #[],G #[114,111,110,116,111],G #[114],.func (.func 348) #[] #[],G #[113,117,101,99,116,111],G #[113],.func (.func 349) #[] #[],G #[107,105,98,105],G #[75,105],.func (.func 350) #[] #[],G #[109,101,98,105],G #[77,105],.func (.func 351) #[] #[],G #[103,105,98,105],G #[71,105],.func (.func 352) #[] #[],G #[116,101,98,105],G #[84,105],.func (.func 353) #[] #[],G #[112,101,98,105],G #[80,105],.func (.func 354) #[] #[],G #[101,120,98,105],G #[69,105],.func (.func 355) #[] #[],G #[122,101,98,105],G #[90,105],.func (.func 356) #[] #[],G #[121,111,98,105],G #[89,105],.func (.func 357) #[] #[]]
theorem zEm (w:World):Calls Tryz.prog 297 #[] w fun r w'=>r=.returned (.slice (some ⟨w.heap.size,0,none⟩) 32 32)∧w'=w.alloc (.cells zFe 324):=by
 go_enter Tryz.func297,Tryz.ntmps297
 go_wp2
 go_ret
 exact⟨rfl,rfl⟩
theorem rows_cell:∀k,k<32→zFe[3*k]?=some (.string (tbl k).nm)∧zFe[3*k+1]?=some (.string (tbl k).sy)∧zFe[3*k+2]?=some (.func (.func (tbl k).f) #[] #[])
 | 0,_=>⟨rfl,rfl,rfl⟩
 | 1,_=>⟨rfl,rfl,rfl⟩
 | 2,_=>⟨rfl,rfl,rfl⟩
 | 3,_=>⟨rfl,rfl,rfl⟩
 | 4,_=>⟨rfl,rfl,rfl⟩
 | 5,_=>⟨rfl,rfl,rfl⟩
 | 6,_=>⟨rfl,rfl,rfl⟩
 | 7,_=>⟨rfl,rfl,rfl⟩
 | 8,_=>⟨rfl,rfl,rfl⟩
 | 9,_=>⟨rfl,rfl,rfl⟩
 | 10,_=>⟨rfl,rfl,rfl⟩
 | 11,_=>⟨rfl,rfl,rfl⟩
 | 12,_=>⟨rfl,rfl,rfl⟩
 | 13,_=>⟨rfl,rfl,rfl⟩
 | 14,_=>⟨rfl,rfl,rfl⟩
 | 15,_=>⟨rfl,rfl,rfl⟩
 | 16,_=>⟨rfl,rfl,rfl⟩
 | 17,_=>⟨rfl,rfl,rfl⟩
 | 18,_=>⟨rfl,rfl,rfl⟩
 | 19,_=>⟨rfl,rfl,rfl⟩
 | 20,_=>⟨rfl,rfl,rfl⟩
 | 21,_=>⟨rfl,rfl,rfl⟩
 | 22,_=>⟨rfl,rfl,rfl⟩
 | 23,_=>⟨rfl,rfl,rfl⟩
 | 24,_=>⟨rfl,rfl,rfl⟩
 | 25,_=>⟨rfl,rfl,rfl⟩
 | 26,_=>⟨rfl,rfl,rfl⟩
 | 27,_=>⟨rfl,rfl,rfl⟩
 | 28,_=>⟨rfl,rfl,rfl⟩
 | 29,_=>⟨rfl,rfl,rfl⟩
 | 30,_=>⟨rfl,rfl,rfl⟩
 | 31,_=>⟨rfl,rfl,rfl⟩
 | n+32,h=>absurd h (by omega)
theorem zEe (nm sy:ByteArray) (fv:Value) (s:ByteArray) (b:Nat) (w:World) (hb:w.cell? ⟨b,0,none⟩=some (.string s)) (hlt:b<w.heap.size):Calls Tryz.prog 298 #[.agg #[.string nm,.string sy,fv],.pointer (some ⟨b,0,none⟩)] w fun r w'=>r=.returned (.bool (nm.toList == s.toList))∧Bw w w':=by
 go_enter Tryz.func298,Tryz.ntmps298
 go_wp2_with fail
 go_ret
 exact⟨rfl,bA⟩
structure Row3 (W:World) (g k:Nat) (a b c:Value):Prop where
 c0:W.cell? ⟨g,k*3,none⟩=some a
 c1:W.cell? ⟨g,k*3+1,none⟩=some b
 c2:W.cell? ⟨g,k*3+2,none⟩=some c
theorem Row3.later {W V:World} {B g k:Nat} {a b c:Value} (h:Row3 W g k a b c) (hb:Below B W V) (hg:g<B):Row3 V g k a b c :=
 ⟨(hb.cell (p:=⟨g,k*3,none⟩) hg).trans h.c0,(hb.cell (p:=⟨g,k*3+1,none⟩) hg).trans h.c1,(hb.cell (p:=⟨g,k*3+2,none⟩) hg).trans h.c2⟩
def zBc (p:Nat→Bool) (j:Int):Prop:=(∃k:Nat,k<32∧j=(k:Int)∧p k=true∧∀i,i<k→p i=false)∨(j=-1∧∀i,i<32→p i=false)
theorem zEw {p:Nat→Bool} {k:Nat} (h:∀i,i<k→p i=false) (hk:p k=false):∀i,i<k+1→p i=false:=fun i hi=>by
 by_cases e:i=k
 ·rw[e];exact hk
 ·exact h i (by omega)
def zHj (s:ByteArray) (k:Nat):Bool:=(tbl k).nm.toList == s.toList
theorem zFz (s:ByteArray) (g b:Nat) (w:World) (hr:∀k,k<32→Row3 w g k (.string (tbl k).nm) (.string (tbl k).sy) (.func (.func (tbl k).f) #[] #[])) (hg:g<w.heap.size) (hb:w.cell? ⟨b,0,none⟩=some (.string s)) (hlt:b<w.heap.size) :
 Calls Tryz.prog 296 #[.slice (some ⟨g,0,none⟩) 32 32,.func (.func 298) #[] #[.pointer (some ⟨b,0,none⟩)]] w fun r w'=>∃j:Int,r=.returned (I j)∧zBc (zHj s) j∧Bw w w':=by
 have HR:=zAb hr;have HBC:=zAb hb;clear hr hb;go_enter Tryz.func296,Tryz.ntmps296
 go_wp2_with fail
 go_loopw [8] (fun s8 wr=>∃(k:Nat),k≤32∧s8=I (k:Int)∧Hid (∀i,i<k→zHj s i=false)∧Hid (Bw w wr)) (fun s8 _=>32 - (intOf s8).toNat)
 case atStart=>exact⟨0,by omega,rfl,fun i hi=>absurd hi (by omega),Below.refl _ _⟩
 case round=>
  obtain⟨k,hk,rfl,HN,HB⟩:=hrel
  by_cases hk32:k<32
  ·have hkI:(k:Int)<32:=by omega
   have hk0:(0:Int)≤(k:Int):=by omega
   have hrow:=(un HR k hk32).later (un HB) hg;have c0:=hrow.c0;have c1:=hrow.c1;have c2:=hrow.c2;clear hrow
   have HC:Hid (∀W,Below wr.heap.size wr W→Calls Tryz.prog 298 #[.agg #[.string (tbl k).nm,.string (tbl k).sy,.func (.func (tbl k).f) #[] #[]],.pointer (some ⟨b,0,none⟩)] W fun r w'=>r=.returned (.bool (zHj s k))∧Bw W w'):=fun W hW=>
    zEe _ _ _ s b W ((bt HB hW).cell (p:=⟨b,0,none⟩) hlt |>.trans (un HBC)) (Nat.lt_of_lt_of_le hlt ((bt HB hW).size))
   have HNK:=zAb (fun (e:zHj s k=false)=>zEw (un HN) e);have HYK:=zAb (fun (e:zHj s k=true)=>(Or.inl ⟨k,hk32,rfl,e,un HN⟩:zBc (zHj s) (k:Int)));generalize (tbl k).nm=nm at *
   generalize (tbl k).sy=sy at *
   generalize (tbl k).f=f at *
   by_cases hB:zHj s k=true
   ·have HJ:=zAb (un HYK hB)
    rw[hB]at HC;clear HNK HYK hB
    go_wp2_with (go_at_call 298;go_must(refine(un HC _ (Below.refl _ _)).mono ?_;rintro e wt ⟨rfl,hbt⟩;have HBT:=zAb hbt;clear hbt))
    go_ret
    exact⟨_,rfl,un HJ,(un HB).trans ((un HBT).mono (un HB).size)⟩
   ·have hB':zHj s k=false:=by simpa using hB
    have HJ:=zAb (un HNK hB');rw[hB']at HC;clear HNK HYK hB hB'
    go_wp2_with (go_at_call 298;go_must(refine(un HC _ (Below.refl _ _)).mono ?_;rintro e wt ⟨rfl,hbt⟩;have HBT:=zAb hbt;clear hbt))
    go_roundw
    case rel=>exact⟨k+1,by omega,by go_num,HJ,(un HB).trans ((un HBT).mono (un HB).size)⟩
    case measure=>simp[intOf];omega
  ·have hkI:¬(k:Int)<32:=by omega
   go_wp2_with fail
   go_ret
   exact⟨-1,rfl,Or.inr ⟨rfl,fun i hi=>un HN i (by omega)⟩,un HB⟩
end Go.Proofs.YtliadckofhblnaaGreatDoor.Pf
namespace Go.Proofs.YtliadckofhblnaaGreatDoor.Pf
open Go.RowKit Go.Maps Go.ChangeMaps Go.WideMaps
def rangeB (a n:Nat) (p:Nat→Bool):Bool:=(List.range n).all (fun i=>p (a+i))
theorem rangeB_spec {a n:Nat} {p:Nat→Bool} (h:rangeB a n p=true) (k:Nat) (h1:a≤k) (h2:k<a+n):p k=true:=by
  have:=List.all_eq_true.1 h (k - a) (by simp;omega)
  simpa [show a+(k - a)=k from by omega] using this
theorem rows_at (W W':World) (hb:Below (W.heap.size+1) (W.alloc (.cells zFe 324)) W') (k:Nat) (hk:k<32):W'.cell? ⟨W.heap.size,k*3,none⟩=some (.string (tbl k).nm)∧W'.cell? ⟨W.heap.size,k*3+1,none⟩=some (.string (tbl k).sy)∧W'.cell? ⟨W.heap.size,k*3+2,none⟩=some (.func (.func (tbl k).f) #[] #[]):=by
  obtain⟨h0,h1,h2⟩:=rows_cell k hk
  rw[Nat.mul_comm]at h0 h1 h2
  have e:∀i u,zFe[i]?=some u→W'.cell? ⟨W.heap.size,i,none⟩=some u:=fun i u hu=>by
    rw[hb.cell (p:=⟨W.heap.size,i,none⟩) (by show W.heap.size<W.heap.size+1;omega)]
    simp only[World.cell?,heap_alloc_new]
    simpa using hu
  exact⟨e _ _ h0,e _ _ h1,e _ _ h2⟩
theorem zero3 (W:World):(zeroValue 3).run Tryz.prog W=.ok (.int .i64 0) W:=Tryz.zeroValue3 W
theorem under49:Tryz.prog.underlying 318=some (.map 9 3):=by kernel_rfl
def symD:Nat→DataW Unit
  | 0=>.map []
  | k+1=>(symD k).put (.string (tbl k).sy.data.toList) (.lit (.int .i64 (k:Int)))
def symE:DataW Unit:=(symD 32).put (.string [194,181]) (.lit (.int .i64 15))
def symAll:DataW Unit:=symE.put (.string [117]) (.lit (.int .i64 15))
theorem at_micro:(symD 32).atKey (.string [206,188]) (.lit (.int .i64 0))=.lit (.int .i64 15):=by kernel_rfl
theorem at_micro2:symE.atKey (.string [206,188]) (.lit (.int .i64 0))=.lit (.int .i64 15):=by kernel_rfl
theorem sy_small (k:Nat) (h:k<32):(tbl k).sy.size≤maxLen:=by
  have:=rangeB_spec (a:=0) (n:=32) (p:=fun k=>decide ((tbl k).sy.size≤10)) (by decide +kernel) k (by omega) (by omega)
  have h2:(tbl k).sy.size≤10:=of_decide_eq_true this
  unfold maxLen;omega
theorem k_wf (k:Nat) (h:k<32):(Lit.int .i64 (k:Int)).wf=true :=
  rangeB_spec (a:=0) (n:=32) (p:=fun k=>(Lit.int .i64 (k:Int)).wf) (by decide +kernel) k (by omega) (by omega)
theorem Row3.grown {W V:World} {g k b:Nat} {x y z:Value} (h:Row3 W g k x y z) (hg:W.grownBy V (some b)) (hne:g≠b):Row3 V g k x y z :=
  ⟨hg.cell h.c0 (by simpa using hne),hg.cell h.c1 (by simpa using hne),hg.cell h.c2 (by simpa using hne)⟩
def zGc (W:World) (g:Nat):Prop:=∀k,k<32→Row3 W g k (.string (tbl k).nm) (.string (tbl k).sy) (.func (.func (tbl k).f) #[] #[])
theorem rowsIn_made (W:World):zGc (W.alloc (.cells zFe 324)) W.heap.size:=fun k hk=>by
  obtain⟨c0,c1,c2⟩:=rows_at W _ (Below.refl _ _) k hk
  exact⟨c0,c1,c2⟩
theorem zGc.later {W V:World} {g:Nat} (h:zGc W g) (hb:Below W.heap.size W V) (hg:g<W.heap.size):zGc V g:=fun k hk=>(h k hk).later hb hg
theorem zGc.grown {W V:World} {g b:Nat} (h:zGc W g) (hg:W.grownBy V (some b)) (hne:g≠b):zGc V g:=fun k hk=>(h k hk).grown hg hne
theorem symbols_any (w:World):Calls Tryz.prog 295 #[] w fun r w'=>r=.returned (.map (some w.heap.size))∧w'.ownsMap Tryz.prog 9 (plainElem Tryz.prog 3) w.heap.size 34 symAll∧Below w.heap.size w w':=by
  obtain⟨W1,hW1⟩:∃W1,W1=(w.alloc (.map #[] 0)).alloc (.cells zFe 324):=⟨_,rfl⟩
  have HRO:Hid (Calls Tryz.prog 297 #[] (w.alloc (.map #[] 0)) fun r w'=>r=.returned (.slice (some ⟨w.heap.size+1,0,none⟩) 32 32)∧w'=W1):=by
    rw[hW1]
    have h:=zEm (w.alloc (.map #[] 0))
    rw[show(w.alloc (.map #[] 0)).heap.size=w.heap.size+1 from by simp]at h
    exact h
  have HRI:Hid (zGc W1 (w.heap.size+1)):=by
    rw[hW1]
    have h:=rowsIn_made (w.alloc (.map #[] 0))
    rw[show(w.alloc (.map #[] 0)).heap.size=w.heap.size+1 from by simp]at h
    exact h
  have HZ:Hid (W1.heap.size=w.heap.size+2):=by rw[hW1];show _=_;simp
  have HB1:Hid (Below w.heap.size w W1):=by rw[hW1];exact((Below.refl _ _).alloc (Nat.le_refl _) _).alloc (by simp) _
  have HOW:Hid (W1.ownsMap Tryz.prog 9 (plainElem Tryz.prog 3) w.heap.size 0 (symD 0)):=by rw[hW1];exact(World.ownsMap_made w Tryz.prog 9 (plainElem Tryz.prog 3)).alloc _
  clear hW1
  have hmm:=@run_makeMap Tryz.prog
  go_enter Tryz.func295,Tryz.ntmps295
  go_wp2_with (go_at_call 297;go_must(refine(un HRO).mono ?_;rintro e w1 ⟨rfl,rfl⟩))
  go_loopw [7] (fun s7 wr=>∃(k:Nat),k≤32∧s7=.int .i64 (k:Int)∧Hid (wr.ownsMap Tryz.prog 9 (plainElem Tryz.prog 3) w.heap.size k (symD k))∧Hid (zGc wr (w.heap.size+1))∧Hid (Below w.heap.size w wr∧w.heap.size+2≤wr.heap.size)) (fun s7 _=>32 - (intOf s7).toNat)
  case atStart=>exact⟨0,by omega,rfl,HOW,HRI,⟨un HB1,Nat.le_of_eq (un HZ).symm⟩⟩
  case round=>
    obtain⟨k,hk,rfl,HO,HR,HB⟩:=hrel
    by_cases hk32:k<32
    · have hkI:(k:Int)<32:=by omega
      have hk0:(0:Int)≤(k:Int):=by omega
      have c0:=(un HR k hk32).c0;have c1:=(un HR k hk32).c1;have c2:=(un HR k hk32).c2
      have HKY:Hid (keyOf Tryz.prog 9 (.string (tbl k).sy)=some (.string (tbl k).sy.data.toList)):=keyOf_string_mk Tryz.underlying9 (sy_small k hk32)
      have HKV:Hid (plainElem (H:=Unit) Tryz.prog 3 (.int .i64 (k:Int))=some (.lit (.int .i64 (k:Int)),[])):=plainElem_int Tryz.underlying3 (k_wf k hk32)
      have HSD:Hid ((symD k).put (.string (tbl k).sy.data.toList) (.lit (.int .i64 (k:Int)))=symD (k+1)):=rfl
      have HLM:Hid (k<maxLen):=by show k<_;unfold maxLen;omega
      generalize (tbl k).nm=nm at *
      generalize (tbl k).sy=sy at *
      generalize (tbl k).f=f at *
      go_upto_region 5 with fail
      obtain⟨V2,hV2⟩:∃V2,V2=wr.alloc (.cells #[.string nm,.string sy,.func (.func f) #[] #[]] 324):=⟨_,rfl⟩
      have hb2:Below wr.heap.size wr V2:=by rw[hV2];exact(Below.refl _ _).alloc (Nat.le_refl _) _
      have HP2:Hid (FBox V2 wr.heap.size (.string nm) (.string sy) (.func (.func f) #[] #[])):=by rw[hV2];exact⟨by simp[go_sem],by simp[go_sem],by simp[go_sem],by simp[go_sem],by simp[go_sem],by simp[go_sem]⟩
      have HO2:Hid (V2.ownsMap Tryz.prog 9 (plainElem Tryz.prog 3) w.heap.size k (symD k)):=by rw[hV2];exact(un HO).alloc _
      have HR2:Hid (zGc V2 (w.heap.size+1)):=(un HR).later hb2 (by have h:=(un HB).2;omega)
      have HB2:Hid (Below w.heap.size w V2∧w.heap.size+2≤V2.heap.size):=⟨(un HB).1.trans (hb2.mono (un HB).1.size),Nat.le_trans (un HB).2 hb2.size⟩
      rw[←hV2]
      clear hV2 hb2 c0 c1 c2 HO HB HR
      generalize wr.heap.size=g3 at *
      have t0:=(un HP2).c0;have t1:=(un HP2).c1;have t2:=(un HP2).c2
      go_wp2_with (at_mapUpdate;refine wpList_mapUpdate_own _ rfl _ _ _ 318 rfl 9 3 (string_keyed Tryz.underlying9) under49 (plainElem Tryz.prog 3) w.heap.size k (symD k) rfl (un HO2) (un HLM) _ _ _ rfl rfl (un HKY) _ [] (un HKV) ?_;intro wu hown hgrow;have HOU:=zAb hown;have HGU:=zAb hgrow;clear hown hgrow)
      have HRU:Hid (zGc wu (w.heap.size+1)):=(un HR2).grown (un HGU) (by omega)
      have HBU:Hid (Below w.heap.size w wu∧w.heap.size+2≤wu.heap.size):=⟨(un HB2).1.grown (un HGU) (by have h:=(un HB2).2;omega) (fun j hj=>by cases hj;exact Nat.le_refl _),Nat.le_trans (un HB2).2 (un HGU).size⟩
      go_roundw
      case rel=>
        refine⟨k+1,by omega,by go_num,?_,HRU,HBU⟩
        have h:=un HOU
        rw[un HSD]at h
        exact h
      case measure=>simp[intOf];omega
    · have hkI:¬(k:Int)<32:=by omega
      have HK:Hid (k=32):=by show k=32;omega
      have HO32:Hid (wr.ownsMap Tryz.prog 9 (plainElem Tryz.prog 3) w.heap.size 32 (symD 32)):=by have h:=un HO;rw[un HK]at h;exact h
      have HM:Hid (∀s:ByteArray,s.size≤10→keyOf Tryz.prog 9 (.string s)=some (.string s.data.toList)):=fun s hs=>keyOf_string_mk Tryz.underlying9 (by unfold maxLen;omega)
      have HV15:Hid (plainElem (H:=Unit) Tryz.prog 3 (.int .i64 15)=some (.lit (.int .i64 15),[])):=plainElem_int Tryz.underlying3 (by decide)
      go_wp2_with (first
        | (at_lookup;refine wpList_lookup_own_int _ rfl _ _ 318 rfl 9 3 .i64 (string_keyed Tryz.underlying9) under49 Tryz.underlying3 (zero3 _) w.heap.size 33 symE rfl (un HO33) _ _ rfl (un HM ⟨#[206,188]⟩ (by decide)) ?_;intro c hat hwc;obtain rfl:c=15:=(by have h:=hat.symm.trans at_micro2;cases h;rfl);clear hat hwc)
        | (at_lookup;refine wpList_lookup_own_int _ rfl _ _ 318 rfl 9 3 .i64 (string_keyed Tryz.underlying9) under49 Tryz.underlying3 (zero3 _) w.heap.size 32 (symD 32) rfl (un HO32) _ _ rfl (un HM ⟨#[206,188]⟩ (by decide)) ?_;intro c hat hwc;obtain rfl:c=15:=(by have h:=hat.symm.trans at_micro;cases h;rfl);clear hat hwc)
        | (at_mapUpdate;refine wpList_mapUpdate_own _ rfl _ _ _ 318 rfl 9 3 (string_keyed Tryz.underlying9) under49 (plainElem Tryz.prog 3) w.heap.size 33 symE rfl (un HO33) (by unfold maxLen;decide) _ _ _ rfl rfl (un HM ⟨#[117]⟩ (by decide)) _ [] (un HV15) ?_;intro wv hown hgrow;have HO34:=zAb hown;have HGV:=zAb hgrow;clear hown hgrow)
        | (at_mapUpdate;refine wpList_mapUpdate_own _ rfl _ _ _ 318 rfl 9 3 (string_keyed Tryz.underlying9) under49 (plainElem Tryz.prog 3) w.heap.size 32 (symD 32) rfl (un HO32) (by unfold maxLen;decide) _ _ _ rfl rfl (un HM ⟨#[194,181]⟩ (by decide)) _ [] (un HV15) ?_;intro wu hown hgrow;have HO33:Hid (wu.ownsMap Tryz.prog 9 (plainElem Tryz.prog 3) w.heap.size 33 symE):=hown;have HGU:=zAb hgrow;clear hown hgrow))
      go_ret
      have hb1:Below w.heap.size w wu:=(un HB).1.grown (un HGU) (by have h:=(un HB).2;omega) (fun j hj=>by cases hj;exact Nat.le_refl _)
      exact⟨rfl,un HO34,hb1.grown (un HGV) hb1.size (fun j hj=>by cases hj;exact Nat.le_refl _)⟩
def symH (s:ByteArray):Bool:=has symAll (.string s.data.toList)
def symC (s:ByteArray):Int:=match symAll.atKey (.string s.data.toList) (.lit (.int .i64 0))with | .lit (.int _ c)=>c|_=>0
theorem symbols_look (s:ByteArray) (hs:s.size≤maxLen) (w:World):Calls Tryz.prog 295 #[] w fun r w'=>r=.returned (.map (some w.heap.size))∧(Instr.lookup 318 (.map (some w.heap.size)) (.string s) true).run Tryz.prog w'=.ok (.tuple #[.int .i64 (symC s),.bool (symH s)]) w'∧Below w.heap.size w w':=by
 refine(symbols_any w).mono fun r w' ⟨h1,h2,h3⟩=>⟨h1,?_,h3⟩
 obtain⟨v,ps,hrun,hv⟩:=h2.look_ok (string_keyed Tryz.underlying9) under49 (zero3 w') (plainElem_int Tryz.underlying3 (by decide)) (keyOf_string_mk Tryz.underlying9 hs)
 obtain⟨c,rfl,hc,_⟩:=plainElem_int_inv Tryz.underlying3 hv
 have hc1:=congrArg Prod.fst hc
 have e:symC s=c:=by unfold symC;rw[show symAll.atKey (.string s.data.toList) (.lit (.int .i64 0))=.lit (.int .i64 c)from hc1]
 rw[hrun,e]
 rfl
theorem zCi {p:Nat→Bool} {i j:Int} (h1:zBc p i) (h2:zBc p j):i=j:=by
 rcases h1 with ⟨a,ha,rfl,pa,na⟩|⟨rfl,na⟩<;>rcases h2 with ⟨b,hb,rfl,pb,nb⟩|⟨rfl,nb⟩
 ·have h3:¬a<b:=fun h=>by rw[nb a h]at pa;cases pa
  have h4:¬b<a:=fun h=>by rw[na b h]at pb;cases pb
  omega
 ·rw[nb a ha]at pa;cases pa
 ·rw[na b hb]at pb;cases pb
 ·rfl
theorem kilo_first {j:Int} (h:zBc (zHj ⟨#[107,105,108,111]⟩) j):j=2:=by
 have h0:zHj ⟨#[107,105,108,111]⟩ 0=false:=by decide +kernel
 have h1:zHj ⟨#[107,105,108,111]⟩ 1=false:=by decide +kernel
 have h2:zHj ⟨#[107,105,108,111]⟩ 2=true:=by decide +kernel
 rcases h with ⟨k,hk,rfl,hp,hn⟩|⟨_,hn⟩
 ·by_cases e0:k=0
  ·rw[e0,h0]at hp;cases hp
  ·by_cases e1:k=1
   ·rw[e1,h1]at hp;cases hp
   ·by_cases e2:k=2
    ·rw[e2];rfl
    ·have:=hn 2 (by omega);rw[h2]at this;cases this
 ·have:=hn 2 (by decide);rw[h2]at this;cases this
theorem find_kilo (w:World) (htab:Tab w):Calls Tryz.prog 267 #[.string ⟨#[107,105,108,111]⟩] w fun r w'=>r=.returned (.tuple #[preV 2,.bool true])∧Bw w w':=by
 have HTW:=zAb htab
 obtain⟨s,hs⟩:∃s:ByteArray,s=⟨#[107,105,108,111]⟩:=⟨_,rfl⟩
 have HSY:=zAb (fun W=>symbols_look s (by rw[hs];decide) W)
 have hH:symH s=false:=by rw[hs];decide +kernel
 have HKF:Hid (∀j,zBc (zHj s) j→j=2):=by rw[hs];exact fun j h=>kilo_first h
 rw[←hs]
 clear htab hs
 obtain⟨V,hV⟩:∃V,V=(w.alloc (.cells #[.string s] 9)).alloc (.cells #[.string ⟨#[]⟩,.string ⟨#[]⟩,.string ⟨#[]⟩,.string ⟨#[]⟩,.bool false] 291):=⟨_,rfl⟩
 have HBX:Hid (V.cell? ⟨w.heap.size,0,none⟩=some (.string s)∧w.heap.size<V.heap.size):=by rw[hV];exact⟨by simp[go_sem],by simp;omega⟩
 have HZV:Hid (T5 V (w.heap.size+1) (.string ⟨#[]⟩) (.string ⟨#[]⟩) (.string ⟨#[]⟩) (.string ⟨#[]⟩) (.bool false)):=by rw[hV];exact⟨by simp[go_sem],by simp[go_sem],by simp[go_sem],by simp[go_sem],by simp[go_sem],by simp[go_sem],by simp[go_sem],by simp[go_sem],by simp[go_sem],by simp[go_sem]⟩
 have HBV:Hid (Bw w V):=by rw[hV];exact((Below.refl _ _).alloc (Nat.le_refl _) _).alloc (by simp) _
 have HV:=zAb hV
 clear hV
 go_enter Tryz.func267,Tryz.ntmps267
 go_upto_region 1 with fail
 rw[←un HV]
 clear HV
 have t0:=(un HBX).1
 rw[hH]at HSY
 generalize symC s=c at *
 clear hH
 go_region_held3 (fun w'=>w'.cell? ⟨w.heap.size,0,none⟩=some (.string s)) (first|assumption|(simp[go_sem, *];done)) ((first
 | (go_at_call 295;go_must(refine(un HSY _).mono ?_;rintro e w1 ⟨rfl,hlk,hb1⟩;have HW1:Hid (Bw V w1):=(Below.refl _ _).drew.trans (hb1.mono (Below.refl V.heap.size V).drew.size);have hlk2:(Instr.lookup 318 (.map (some V.heap.size)) (.string s) true).run Tryz.prog w1=.ok (.tuple #[I c,.bool false]) w1:=hlk;clear hlk hb1 t0;have t0:w1.cell? ⟨w.heap.size,0,none⟩=some (.string s):=((un HW1).cell (p:=⟨w.heap.size,0,none⟩) (un HBX).2).trans (un HBX).1))))
 have HBW1:Hid (Bw w w1):=(un HBV).trans ((un HW1).mono (un HBV).size)
 have HZ1:=zAb ((un HZV).later (un HW1))
 have HIX:Hid (∀W,W=w1.alloc (.cells zFe 324)→Calls Tryz.prog 296 #[.slice (some ⟨w1.heap.size,0,none⟩) 32 32,.func (.func 298) #[] #[.pointer (some ⟨w.heap.size,0,none⟩)]] W fun r w'=>∃j:Int,r=.returned (I j)∧zBc (zHj s) j∧Bw w1 w'):=by
  intro W hW
  have hb:Below w1.heap.size w1 W:=by rw[hW];exact(Below.refl _ _).alloc (Nat.le_refl _) _
  have hl:w.heap.size<w1.heap.size:=Nat.lt_of_lt_of_le (un HBX).2 (un HW1).size
  refine(zFz s w1.heap.size w.heap.size W (by rw[hW];exact rowsIn_made w1) (by rw[hW];simp) ((hb.cell (p:=⟨w.heap.size,0,none⟩) hl).trans t0) (Nat.lt_of_lt_of_le hl hb.size)).mono ?_
  rintro e w' ⟨j,h1,h2,h3⟩
  exact⟨j,h1,h2,hb.trans (h3.mono hb.size)⟩
 go_upto_region 4 with (first
  | (go_at_call 297;go_must(refine(zEm _).mono ?_;rintro e w2 ⟨rfl,hw2⟩;have HW2:=zAb hw2;clear hw2))
  | (go_at_call 296;go_must(refine(un HIX _ (un HW2)).mono ?_;rintro e w4 ⟨j,rfl,hj,hb4⟩;have HJ4:=zAb hj;have HB4:=zAb hb4;clear hj hb4)))
 have HBW:Hid (Bw w w4):=(un HBW1).trans ((un HB4).mono (un HBW1).size)
 have HTX:Hid (Tab w4):=(un HTW).later (un HBW)
 have HZX:=zAb ((un HZ1).later (un HB4))
 clear HW2 HIX HB4 HZ1 t0 hlk2
 have hj2:=un HKF j (un HJ4)
 obtain⟨k,hkj,hk2⟩:∃k:Nat,j=(k:Int)∧k=2:=⟨2,hj2,rfl⟩
 have hn32:k<32:=by omega
 have HT:Hid (∀W,Tab W→Calls Tryz.prog 299 #[rowV k] W fun r w'=>r=.returned (preV k)∧Bw W w'):=by rw[hk2];exact kilo_row
 have HPV:Hid (Ending.returned (.tuple #[preV 2,.bool true])=.returned (.tuple #[.agg #[.string (tbl k).nm,.string (tbl k).sy,.string (tbl k).fn,.string (tbl k).fd,.bool (tbl k).bi],.bool true])):=by rw[hk2];rfl
 clear hk2 hj2
 subst hkj
 have hn0:(0:Int)≤(k:Int):=by omega
 have hnI:(k:Int)<32:=by omega
 clear HJ4
 unfold rowV RowV preV at HT
 have HRA:=zAb (fun (W W':World) hb=>rows_at W W' hb k hn32)
 generalize (tbl k).nm=nm at *
 generalize (tbl k).sy=sy at *
 generalize (tbl k).f=f at *
 generalize (tbl k).fn=fn at *
 generalize (tbl k).fd=fd at *
 generalize (tbl k).bi=bi at *
 have HGX:Hid (w.heap.size+1<w4.heap.size):=(un HZX).lt
 go_wp2_with (first
  | (go_at_call 297;go_must(refine(zEm _).mono ?_;rintro e w2 ⟨rfl,hw2⟩;obtain⟨c0,c1,c2⟩:=un HRA w4 w2 (by rw[hw2];exact Below.refl _ _);have HB2:Hid (Bw w4 w2):=(by rw[hw2];exact(Below.refl _ _).alloc (Nat.le_refl _) _);clear hw2))
  | (go_at_call 299;go_must(refine(un HT _ ((un HTX).later (un HB2))).mono ?_;rintro e w3 ⟨rfl,hb3⟩;have HB3:Hid (Bw w4 w3):=(un HB2).trans (hb3.mono (un HB2).size);have HZ3:=zAb ((un HZX).later (un HB3));clear hb3;have z0:=(un HZ3).c0;have z1:=(un HZ3).c1;have z2:=(un HZ3).c2;have z3:=(un HZ3).c3;have z4:=(un HZ3).c4;have f0:=(un HZ3).f0;have f1:=(un HZ3).f1;have f2:=(un HZ3).f2;have f3:=(un HZ3).f3;have f4:=(un HZ3).f4)))
 have hS:=(un HZ3).store (.string nm) (.string sy) (.string fn) (.string fd) (.bool bi)
 have v0:=hS.c0;have v1:=hS.c1;have v2:=hS.c2;have v3:=hS.c3;have v4:=hS.c4
 exact bodyPost_ret (v:=.tuple #[.agg #[.string nm,.string sy,.string fn,.string fd,.bool bi],.bool true]) (w:=store5 w3 (w.heap.size+1) (.string nm) (.string sy) (.string fn) (.string fd) (.bool bi)) (by simp[results,Tryz.results267,go_sem,v0,v1,v2,v3,v4]) rfl ⟨(un HPV).symm,below_store5 ((un HBW).trans ((un HB3).mono (un HBW).size)) (Nat.le_succ _) (.string nm) (.string sy) (.string fn) (.string fd) (.bool bi)⟩
end Go.Proofs.YtliadckofhblnaaGreatDoor.Pf
namespace Go.Proofs.YtliadckofhblnaaGreatDoor
open Go.RowKit
def zDg (vs:Array Value):Nat→List Value→Array Value
 | _,[]=>vs
 | o,v :: l=>zDg (vs.setIfInBounds o v) (o+1) l
theorem size_putAt:∀(l:List Value) (vs:Array Value) (o:Nat),(zDg vs o l).size=vs.size
 | [],_,_=>rfl
 | v :: l,vs,o=>by rw[zDg,size_putAt l];simp
theorem zAc.mid {W:World} {g ty:Nat} {vs:Array Value} (h:zAc W g ty vs) (o:Nat) (cs:List Value) (hc:∀j v,cs[j]?=some v→vs[o+j]?=some v):W.rangeAt g o cs:=fun j v e=>h.ub.c (o+j) v (hc j v e)
theorem zAc.there {W:World} {g ty:Nat} {vs:Array Value} (h:zAc W g ty vs) (o n:Nat) (hn:o+n≤vs.size):W.there g o n:=fun j hj=>by
 have e:=Array.getElem?_eq_getElem (xs:=vs) (i:=o+j) (by omega);exact⟨by rw[h.ub.c _ _ e];rfl,h.ub.f _ _ e⟩
theorem zAc.setCells {g ty:Nat}:∀(l:List Value) (vs:Array Value) (W:World) (o:Nat),zAc W g ty vs→zAc (W.setCells g o l) g ty (zDg vs o l)
 | [],_,_,_,h=>h
 | v :: l,_,_,o,h=>zAc.setCells l _ _ (o+1) (h.set o v)
theorem zAc.otherCells {g ty k:Nat} {vs:Array Value} (hk:¬g=k):∀(l:List Value) (W:World) (o:Nat),zAc W g ty vs→zAc (W.setCells k o l) g ty vs
 | [],_,_,h=>h
 | v :: l,_,o,h=>zAc.otherCells hk l _ (o+1) (h.otherSet hk o v)
theorem zCb {B g:Nat} {w0:World} (hB:B≤g):∀(l:List Value) (W:World) (o:Nat),Below B w0 W→Below B w0 (W.setCells g o l)
 | [],_,_,h=>h
 | v :: l,_,o,h=>zCb hB l _ (o+1) (h.setCell (p:=⟨g,o,none⟩) hB v)
theorem one_lt (E:Nat) (h:E=600):(1:Nat)<10 ^ E:=Nat.one_lt_pow (by omega) (by decide)
theorem zFx (E:Nat) (h:E=600):10 ^ 20≤10 ^ E:=Nat.pow_le_pow_right (by decide) (by omega)
theorem zDt {x:Rat} (h1:x.num.natAbs<10 ^ 20) (h2:x.den<10 ^ 20):Small x:=⟨Nat.lt_of_lt_of_le h1 (zFx 600 rfl),Nat.lt_of_lt_of_le h2 (zFx 600 rfl)⟩
theorem zCh (N:Nat) (hN:N<9223372036854775808):IsR (sT false N) ⟨#[49]⟩ (Cub.valQ false N 1):=by
 have hs:N<10 ^ 600:=u64_600 N (by omega);have hl:Cub.Low false N 1:=⟨by decide,Nat.gcd_one_right _,fun h=>by cases h⟩;obtain⟨e1,e2,e3⟩:=Cub.low_is hl;have hsm:Small (Cub.valQ false N 1):=⟨by rw[←e2];exact hs,by rw[←e3];exact one_lt 600 rfl⟩;refine⟨hsm,?_,?_⟩
 ·unfold zEp;rw[if_pos hsm,←e1,←e2]
 ·unfold zEr;rw[if_pos hsm,←e3];exact(zHk ⟨#[49]⟩ 1 (by decide) (by decide)).1
theorem zBf (s t:ByteArray) (N D:Nat) (x:Rat) (hN:x.num.natAbs=N) (hD:x.den=D) (hx:decide (x<0)=false) (bN:N<10 ^ 20) (bD:D<10 ^ 20)
  (h1:Cub.rightB s.data.toList=true) (v1:Cub.dval s.data.toList=N) (h2:Cub.rightB t.data.toList=true) (v2:Cub.dval t.data.toList=D):IsR s t x:=by
 have hsm:Small x:=zDt (by rw[hN];exact bN) (by rw[hD];exact bD);refine⟨hsm,?_,?_⟩
 ·unfold zEp;rw[if_pos hsm,hx,hN];unfold sT;rw[if_neg (by decide)];exact(zHk s N h1 v1).1
 ·unfold zEr;rw[if_pos hsm,hD];exact(zHk t D h2 v2).1
theorem zCa (a0 a1 a2 a3 a4 a5 a6 a7:Int) (N D:Nat) (q:Rat) (s t:ByteArray) (w:World) (hN:N<9223372036854775808) (hD:D<9223372036854775808) (hD0:Cub.valQ false D 1≠0) (hq:Cub.valQ false N 1*(Cub.valQ false D 1)⁻¹=q) (hs:IsR s t q) (htab:Tab w) :
  Calls Tryz.prog 226 #[.agg (J a0 a1 a2 a3 a4 a5 a6 a7 (N:Int) (D:Int))] w fun r w'=>r=.returned (.agg #[.string s,.string t])∧Bw w w':=by
 refine zGz a0 a1 a2 a3 a4 a5 a6 a7 (N:Int) (D:Int) (sT false N) ⟨#[49]⟩ (sT false D) ⟨#[49]⟩ s t w (fun W hb=>zCg N W hN (htab.later hb)) (fun W hb=>zCg D W hD (htab.later hb)) (fun W hb=>?_);have h:=zGq (sT false N) ⟨#[49]⟩ (sT false D) ⟨#[49]⟩ _ _ W (zCh N hN) (zCh D hD) hD0 (htab.later hb);unfold Ans at h
 rw[hq,show zHa q=0 from by unfold zHa;rw[if_pos hs.1],←hs.2.1,←hs.2.2]at h;exact h
theorem zAz:IsR ⟨#[49]⟩ ⟨#[49]⟩ 1:=zBf _ _ 1 1 _ (by decide +kernel) (by decide +kernel) (by decide +kernel) (by decide) (by decide) (by decide) (by decide) (by decide) (by decide)
theorem isR_milli:IsR ⟨#[49]⟩ ⟨#[49,48,48,48]⟩ (1 / 1000):=zBf _ _ 1 1000 _ (by decide +kernel) (by decide +kernel) (by decide +kernel) (by decide) (by decide) (by decide) (by decide) (by decide) (by decide)
theorem zFc (w:World) (htab:Tab w):Calls Tryz.prog 103 #[I 0] w fun r w'=>r=.returned (.agg #[G #[48],G #[49]])∧Bw w w':=by
 have h:=zCg 0 w (by decide) htab;rw[show sT false 0=⟨#[48]⟩from by unfold sT;rw[if_neg (by decide)];exact(zHk ⟨#[48]⟩ 0 (by decide) (by decide)).1.symm]at h;exact h
theorem zEd:(Tryz.prog.info? 30).map (·.size)=some 15:=by kernel_rfl
theorem res27 {fn:Func} {p:Tmp} (h:fn.results=#[.cell p 30]) (tmps:Array Value) (w:World) (g:Nat) (vs:Array Value) (hl:vs.size=15) (hp:tmps.getD p undef=.pointer (some ⟨g,0,none⟩)) (ho:zAc w g 30 vs) :
  (results fn tmps).run Tryz.prog w=.ok (.agg vs) w:=by
 rw[zBb h,hp];simp only[asAddr,Sem.run_pure,Result.andThen_ok];rw[run_loadVar_row w g 30 30 vs (0,0) _ ho Tryz.underlying30 rfl (by rw[zEd,hl])]
theorem zJn {fn:Func} {p u:Tmp} (h:fn.results=#[.cell p 30,.tmp u]) (tmps:Array Value) (w:World) (g:Nat) (vs:Array Value) (hl:vs.size=15) (hp:tmps.getD p undef=.pointer (some ⟨g,0,none⟩)) (ho:zAc w g 30 vs) :
  (results fn tmps).run Tryz.prog w=.ok (.tuple #[.agg vs,tmps.getD u undef]) w:=by
 rw[results_cell_tmp h,hp];simp only[asAddr,Sem.run_pure,Result.andThen_ok];rw[run_loadVar_row w g 30 30 vs (0,0) _ ho Tryz.underlying30 rfl (by rw[zEd,hl])]
 rfl
structure BL (w W:World) (row am:Array Value) (g:Nat):Prop where
 a:zAc W w.heap.size 171 row
 r:zAc W (w.heap.size+1) 30 #[G #[],G #[],I 0,I 0,I 0,I 0,I 0,I 0,I 0,I 0,G #[],G #[],G #[],G #[],I 0]
 x:zAc W g 235 am
 b:Below w.heap.size w W
 n:w.heap.size+1<g
theorem BL.later {w W V:World} {row am:Array Value} {g:Nat} (h:BL w W row am g) (hb:Below W.heap.size W V):BL w V row am g:=⟨h.a.later hb,h.r.later hb,h.x.later hb,h.b.trans (hb.mono h.b.size),h.n⟩
theorem toldB (dv:Nat→Int) (n d tk:Int) (f:Nat) (nm sy fn fd:ByteArray) (w:World)
  (hcf:∀W,(callFunc f #[]).run Tryz.prog W=.ok (.enter f #[]) W)
  (hma:∀W,Calls Tryz.prog f #[] W fun r w'=>r=.returned (.agg (J (dv 0) (dv 1) (dv 2) (dv 3) (dv 4) (dv 5) (dv 6) (dv 7) n d))∧Bw W w')
  (hfa:∀W,Below w.heap.size w W→Calls Tryz.prog 226 #[.agg (J (dv 0) (dv 1) (dv 2) (dv 3) (dv 4) (dv 5) (dv 6) (dv 7) n d)] W fun r w'=>r=.returned (.agg #[.string fn,.string fd])∧Bw W w')
  (hze:∀W,Below w.heap.size w W→Calls Tryz.prog 103 #[I 0] W fun r w'=>r=.returned (.agg #[G #[48],G #[49]])∧Bw W w') :
  Calls Tryz.prog 159 #[.agg #[.string nm,.string sy,I tk,.func (.func f) #[] #[]]] w fun r w'=>r=.returned (.agg #[.string nm,.string sy,I (dv 0),I (dv 1),I (dv 2),I (dv 3),I (dv 4),I (dv 5),I (dv 6),I (dv 7),.string fn,.string fd,G #[48],G #[49],I tk])∧Bw w w':=by
 obtain⟨V,hV⟩:∃V,V=(w.alloc (.cells #[.string nm,.string sy,I tk,.func (.func f) #[] #[]] 171)).alloc (.cells #[G #[],G #[],I 0,I 0,I 0,I 0,I 0,I 0,I 0,I 0,G #[],G #[],G #[],G #[],I 0] 30):=⟨_,rfl⟩;have HA:Hid (zAc V w.heap.size 171 #[.string nm,.string sy,I tk,.func (.func f) #[] #[]]):=by rw[hV];exact(zAc.new _ _ _).alloc _
 have HR:Hid (zAc V (w.heap.size+1) 30 #[G #[],G #[],I 0,I 0,I 0,I 0,I 0,I 0,I 0,I 0,G #[],G #[],G #[],G #[],I 0]):=by rw[hV];have h:=zAc.new (w.alloc (.cells #[.string nm,.string sy,I tk,.func (.func f) #[] #[]] 171)) #[G #[],G #[],I 0,I 0,I 0,I 0,I 0,I 0,I 0,I 0,G #[],G #[],G #[],G #[],I 0] 30;rw[Dm.size_alloc]at h;exact h
 have HB:Hid (Bw w V):=by rw[hV];exact bA.alloc (by simp) _
 have HMA:=zAb hma;have HFA:=zAb hfa;have HZE:=zAb hze;have HV:=zAb hV;clear hV hma hfa hze;go_enter Tryz.func159,Tryz.ntmps159
 go_upto_region 1 with fail
 rw[←un HV];clear HV;have c3:V.cell? ⟨w.heap.size,3,none⟩=some (.func (.func f) #[] #[]):=(un HA).ub.c 3 _ rfl
 go_wp2_with fail
 refine(un HMA _).mono ?_;rintro e w1 ⟨rfl,hb⟩;have HA1:=zAb ((un HA).later hb);have HR1:=zAb ((un HR).later hb);have HB1:Hid (Bw w w1):=bt HB hb;clear hb c3 HA HR HB hcf HMA
 go_upto_region 2 with (refine zAn 235 10 zCv rfl (.tmp 3) (.tmp 6) rfl w1.heap.size (J 0 0 0 0 0 0 0 0 0 0) (J (dv 0) (dv 1) (dv 2) (dv 3) (dv 4) (dv 5) (dv 6) (dv 7) n d) rfl rfl rfl rfl (zAc.new _ _ _) (by kernel_rfl) ?_)
 have hb2:Below w1.heap.size w1 ((w1.alloc (.cells (J 0 0 0 0 0 0 0 0 0 0) 235)).setRow w1.heap.size (J (dv 0) (dv 1) (dv 2) (dv 3) (dv 4) (dv 5) (dv 6) (dv 7) n d)):=below_setRow bA (Nat.le_refl _) _;have HT0:Hid (BL w ((w1.alloc (.cells (J 0 0 0 0 0 0 0 0 0 0) 235)).setRow w1.heap.size (J (dv 0) (dv 1) (dv 2) (dv 3) (dv 4) (dv 5) (dv 6) (dv 7) n d)) #[.string nm,.string sy,I tk,.func (.func f) #[] #[]] (J (dv 0) (dv 1) (dv 2) (dv 3) (dv 4) (dv 5) (dv 6) (dv 7) n d) w1.heap.size):=⟨(un HA1).later hb2,(un HR1).later hb2,(zAc.new _ _ _).setRow _,bt HB1 hb2,(un HR1).lt⟩;clear hb2 HA1 HR1 HB1;generalize (w1.alloc (.cells (J 0 0 0 0 0 0 0 0 0 0) 235)).setRow w1.heap.size (J (dv 0) (dv 1) (dv 2) (dv 3) (dv 4) (dv 5) (dv 6) (dv 7) n d)=w2 at *
 generalize w1.heap.size=g3 at *
 have HT1:Hid (BL w w2.drew #[.string nm,.string sy,I tk,.func (.func f) #[] #[]] (J (dv 0) (dv 1) (dv 2) (dv 3) (dv 4) (dv 5) (dv 6) (dv 7) n d) g3):=(un HT0).later (Below.refl _ _).drew;have HSS:Hid (∀W':World,BL w W' #[.string nm,.string sy,I tk,.func (.func f) #[] #[]] (J (dv 0) (dv 1) (dv 2) (dv 3) (dv 4) (dv 5) (dv 6) (dv 7) n d) g3→W'.cell? ⟨w.heap.size,0,none⟩=some (.string nm)∧W'.cell? ⟨w.heap.size,1,none⟩=some (.string sy)∧W'.cell? ⟨w.heap.size,2,none⟩=some (I tk)∧W'.cell? ⟨g3,0,none⟩=some (I (dv 0))∧W'.cell? ⟨g3,1,none⟩=some (I (dv 1))∧W'.cell? ⟨g3,2,none⟩=some (I (dv 2))∧W'.cell? ⟨g3,3,none⟩=some (I (dv 3))∧W'.cell? ⟨g3,4,none⟩=some (I (dv 4))∧W'.cell? ⟨g3,5,none⟩=some (I (dv 5))∧W'.cell? ⟨g3,6,none⟩=some (I (dv 6))∧W'.cell? ⟨g3,7,none⟩=some (I (dv 7))∧W'.cell? ⟨g3,8,none⟩=some (I n)∧W'.cell? ⟨g3,9,none⟩=some (I d)):=fun W' h=>⟨h.a.ub.c 0 _ rfl,h.a.ub.c 1 _ rfl,h.a.ub.c 2 _ rfl,h.x.ub.c 0 _ rfl,h.x.ub.c 1 _ rfl,h.x.ub.c 2 _ rfl,h.x.ub.c 3 _ rfl,h.x.ub.c 4 _ rfl,h.x.ub.c 5 _ rfl,h.x.ub.c 6 _ rfl,h.x.ub.c 7 _ rfl,h.x.ub.c 8 _ rfl,h.x.ub.c 9 _ rfl⟩
 have HS0:=zAb (un HSS _ (un HT1));clear HT0;refine zAi 12 (fun W'=>W'.cell? ⟨w.heap.size,0,none⟩=some (.string nm)∧W'.cell? ⟨w.heap.size,1,none⟩=some (.string sy)∧W'.cell? ⟨w.heap.size,2,none⟩=some (I tk)∧W'.cell? ⟨g3,0,none⟩=some (I (dv 0))∧W'.cell? ⟨g3,1,none⟩=some (I (dv 1))∧W'.cell? ⟨g3,2,none⟩=some (I (dv 2))∧W'.cell? ⟨g3,3,none⟩=some (I (dv 3))∧W'.cell? ⟨g3,4,none⟩=some (I (dv 4))∧W'.cell? ⟨g3,5,none⟩=some (I (dv 5))∧W'.cell? ⟨g3,6,none⟩=some (I (dv 6))∧W'.cell? ⟨g3,7,none⟩=some (I (dv 7))∧W'.cell? ⟨g3,8,none⟩=some (I n)∧W'.cell? ⟨g3,9,none⟩=some (I d)) (fun _=>True) 13 rfl (by kernel_rfl) ?_;generalize w2.drew=U1 at *
 refine wT 0 (.pointer (some ⟨w.heap.size,0,none⟩)) rfl (Or.inl ⟨by rfl,?_⟩) ⟨un HS0,trivial⟩ ?_
 ·intro W' hW
  go_split_ands
  go_simp
 refine wT 1 (.string nm) rfl (Or.inl ⟨by rfl,?_⟩) ⟨un HS0,trivial⟩ ?_
 ·intro W' hW
  go_split_ands
  go_simp
 refine wT 2 (.pointer (some ⟨w.heap.size,1,none⟩)) rfl (Or.inl ⟨by rfl,?_⟩) ⟨un HS0,trivial⟩ ?_
 ·intro W' hW
  go_split_ands
  go_simp
 refine wT 3 (.string sy) rfl (Or.inl ⟨by rfl,?_⟩) ⟨un HS0,trivial⟩ ?_
 ·intro W' hW
  go_split_ands
  go_simp
 refine wT 4 (.pointer (some ⟨g3,0,none⟩)) rfl (Or.inl ⟨by rfl,?_⟩) ⟨un HS0,trivial⟩ ?_
 ·intro W' hW
  go_split_ands
  go_simp
 refine wT 5 (.agg #[I (dv 0),I (dv 1),I (dv 2),I (dv 3),I (dv 4),I (dv 5),I (dv 6),I (dv 7)]) rfl (Or.inl ⟨by rfl,?_⟩) ⟨un HS0,trivial⟩ ?_
 ·intro W' hW
  go_split_ands
  go_simp
 refine wT 6 (.agg (J (dv 0) (dv 1) (dv 2) (dv 3) (dv 4) (dv 5) (dv 6) (dv 7) n d)) rfl (Or.inl ⟨by rfl,?_⟩) ⟨un HS0,trivial⟩ ?_
 ·intro W' hW
  go_split_ands
  go_simp
 refine wT 9 (.pointer (some ⟨w.heap.size,2,none⟩)) rfl (Or.inl ⟨by rfl,?_⟩) ⟨un HS0,trivial⟩ ?_
 ·intro W' hW
  go_split_ands
  go_simp
 refine wT 10 (I tk) rfl (Or.inl ⟨by rfl,?_⟩) ⟨un HS0,trivial⟩ ?_
 ·intro W' hW
  go_split_ands
  go_simp
 refine wO 7 rfl rfl (fun K hK=>?_)
 go_simp
 refine(un HFA _ (un HT1).b).mono ?_;rintro e U2 ⟨rfl,hb⟩;have HT2:=zAb ((un HT1).later hb);clear hb HT1;refine hK _ _ ⟨un HSS _ (un HT2),trivial⟩ ?_;clear hK K;refine wO 8 rfl rfl (fun K hK=>?_)
 go_simp
 refine(un HZE _ (un HT2).b).mono ?_;rintro e U3 ⟨rfl,hb⟩;have HT3:=zAb ((un HT2).later hb);clear hb HT2;refine hK _ _ ⟨un HSS _ (un HT3),trivial⟩ ?_;clear hK K;refine wO 11 rfl rfl (fun K hK=>?_)
 go_simp
 refine hK _ _ ⟨un HSS _ (un HT3),trivial⟩ ?_;clear hK K;refine wL 12 rfl rfl (fun K hK=>?_);refine wp_store_row 30 (.tmp 2) (.tmp 18) rfl (w.heap.size+1) #[.string nm,.string sy,I (dv 0),I (dv 1),I (dv 2),I (dv 3),I (dv 4),I (dv 5),I (dv 6),I (dv 7),.string fn,.string fd,G #[48],G #[49],I tk] (by kernel_rfl) (by kernel_rfl) 30 _ (un HT3).r (by rw[zEd];rfl) rfl (by kernel_rfl) (hK _ _ trivial ?_);clear hK K;refine wDn ?_
 go_wp2_with fail
 exact bodyPost_ret (v:=.agg #[.string nm,.string sy,I (dv 0),I (dv 1),I (dv 2),I (dv 3),I (dv 4),I (dv 5),I (dv 6),I (dv 7),.string fn,.string fd,G #[48],G #[49],I tk]) (res27 Tryz.results159 _ _ (w.heap.size+1) _ rfl rfl ((un HT3).r.setRow _)) rfl ⟨rfl,below_setRow (un HT3).b (by omega) _⟩
end Go.Proofs.YtliadckofhblnaaGreatDoor
namespace Go.Proofs.YtliadckofhblnaaGreatDoor
section
variable {P:Program} {ops:Array Oper} {Q:Exit→Act→World→Prop} {md:Region.Mode} {S S7:World→Prop} {k:Nat}
theorem wpR_some {n:Nat} {l:Array Bool} {a:Act} {w:World} (rs:List Nat) (hr:Region.ready md ops l=rs) (hne:rs≠[])
  (h:∀i∈rs,∃o,ops[i]?=some o∧o.guard=none∧∀K:Act→World→Prop,(∀a' w',S w'∧S7 w'→wpR P md ops Q k S S7 n (l.setIfInBounds i true) a' w'→K a' w')→Oper.wp P o a w K Q):wpR P md ops Q k S S7 (n+1) l a w:=by
 refine⟨fun h0=>absurd (hr.symm.trans h0) hne,fun j hj=>?_⟩;rw[hr]at hj;obtain⟨o,ho,hg,hs⟩:=h j hj;unfold wpOp;simp only[ho];have hw:Region.wanted o (yielded ops a.tmps)=true:=by simp[Region.wanted,hg]
 rw[if_pos hw];exact Or.inl (hs _ fun a' w' h1 h2=>⟨⟨fun _=>h1.1,h1.2⟩,h2⟩)
theorem zBn {i j n:Nat} {oi oj:Oper} {l:Array Bool} {a:Act} {w:World} (hr:Region.ready md ops l=[i,j]) (hi:ops[i]?=some oi) (gi:oi.guard=none) (hj:ops[j]?=some oj) (gj:oj.guard=none)
  (si:∀K:Act→World→Prop,(∀a' w',S w'∧S7 w'→wpR P md ops Q k S S7 n (l.setIfInBounds i true) a' w'→K a' w')→Oper.wp P oi a w K Q)
  (sj:∀K:Act→World→Prop,(∀a' w',S w'∧S7 w'→wpR P md ops Q k S S7 n (l.setIfInBounds j true) a' w'→K a' w')→Oper.wp P oj a w K Q):wpR P md ops Q k S S7 (n+1) l a w:=by
 refine wpR_some [i,j] hr (by simp) fun q hq=>?_
 rcases List.mem_cons.1 hq with rfl|hq
 ·exact⟨oi,hi,gi,si⟩
 ·obtain rfl:=List.mem_singleton.1 hq
  exact⟨oj,hj,gj,sj⟩
end
end Go.Proofs.YtliadckofhblnaaGreatDoor
namespace Go.Proofs.YtliadckofhblnaaGreatDoor
open Go.RowKit
theorem zBx (W:World) (O:Obj):Below W.heap.size W (W.alloc O):=(Below.refl _ _).alloc (Nat.le_refl _) O
structure JS (w W:World):Prop where
  m:zAc W w.heap.size 235 (J 1 0 0 0 0 0 0 0 1 1)
  g:zAc W (w.heap.size+1) 235 (J 0 1 0 0 0 0 0 0 1 1000)
  s:zAc W (w.heap.size+2) 235 (J 0 0 1 0 0 0 0 0 1 1)
  r:zAc W (w.heap.size+3) 235 (J 0 0 0 0 0 0 0 0 0 0)
  below:Below w.heap.size w W
theorem JS.later {w W V:World} (h:JS w W) (hb:Below W.heap.size W V):JS w V:=⟨h.m.later hb,h.g.later hb,h.s.later hb,h.r.later hb,h.below.trans (hb.mono h.below.size)⟩
theorem zAc.otherRow {W:World} {g k ty:Nat} {vs us:Array Value} (h:zAc W g ty vs) (hk:¬k=g):zAc (W.setRow k us) g ty vs:=by
  unfold zAc World.setRow at *
  simp only[Array.getElem?_modify,if_neg hk,h]
theorem JS.row {w W:World} {g:Nat} (h:JS w W) (hg:w.heap.size+3<g) (us:Array Value):JS w (W.setRow g us) :=
  ⟨h.m.otherRow (by omega),h.g.otherRow (by omega),h.s.otherRow (by omega),h.r.otherRow (by omega),below_setRow h.below (by omega) _⟩
theorem JS.first (w:World):JS w ((((w.alloc (.cells (J 1 0 0 0 0 0 0 0 1 1) 235)).alloc (.cells (J 0 1 0 0 0 0 0 0 1 1000) 235)).alloc (.cells (J 0 0 1 0 0 0 0 0 1 1) 235)).alloc (.cells (J 0 0 0 0 0 0 0 0 0 0) 235)) :=
  ⟨(((zAc.new w _ 235).alloc _).alloc _).alloc _,
   by have h:=((zAc.new (w.alloc (.cells (J 1 0 0 0 0 0 0 0 1 1) 235)) (J 0 1 0 0 0 0 0 0 1 1000) 235).alloc (.cells (J 0 0 1 0 0 0 0 0 1 1) 235)).alloc (.cells (J 0 0 0 0 0 0 0 0 0 0) 235);rw[Dm.size_alloc]at h;exact h,
   by have h:=(zAc.new ((w.alloc (.cells (J 1 0 0 0 0 0 0 0 1 1) 235)).alloc (.cells (J 0 1 0 0 0 0 0 0 1 1000) 235)) (J 0 0 1 0 0 0 0 0 1 1) 235).alloc (.cells (J 0 0 0 0 0 0 0 0 0 0) 235);rw[Dm.size_alloc,Dm.size_alloc]at h;exact h,
   by have h:=zAc.new (((w.alloc (.cells (J 1 0 0 0 0 0 0 0 1 1) 235)).alloc (.cells (J 0 1 0 0 0 0 0 0 1 1000) 235)).alloc (.cells (J 0 0 1 0 0 0 0 0 1 1) 235)) (J 0 0 0 0 0 0 0 0 0 0) 235;rw[Dm.size_alloc,Dm.size_alloc,Dm.size_alloc]at h;exact h,
   ((bA.alloc (by simp) _).alloc (by simp;omega) _).alloc (by simp;omega) _⟩
theorem joule_made (w:World):Calls Tryz.prog 264 #[.agg (J 1 0 0 0 0 0 0 0 1 1),.agg (J 0 1 0 0 0 0 0 0 1 1000),.agg (J 0 0 1 0 0 0 0 0 1 1)] w fun r w'=>r=.returned (.agg (J 2 1 (-2) 0 0 0 0 0 1000 1000))∧Bw w w':=by
  obtain⟨V,hV⟩:∃V,V=((((w.alloc (.cells (J 1 0 0 0 0 0 0 0 1 1) 235)).alloc (.cells (J 0 1 0 0 0 0 0 0 1 1000) 235)).alloc (.cells (J 0 0 1 0 0 0 0 0 1 1) 235)).alloc (.cells (J 0 0 0 0 0 0 0 0 0 0) 235)):=⟨_,rfl⟩;have HJ:Hid (JS w V):=by rw[hV];exact JS.first w
  have HV:=zAb hV;clear hV;have HSS:Hid (∀W',JS w W'→W'.cell? ⟨w.heap.size,0,none⟩=some (I 1)∧W'.cell? ⟨w.heap.size,1,none⟩=some (I 0)∧W'.cell? ⟨w.heap.size,2,none⟩=some (I 0)∧W'.cell? ⟨w.heap.size,3,none⟩=some (I 0)∧W'.cell? ⟨w.heap.size,4,none⟩=some (I 0)∧W'.cell? ⟨w.heap.size,5,none⟩=some (I 0)∧W'.cell? ⟨w.heap.size,6,none⟩=some (I 0)∧W'.cell? ⟨w.heap.size,7,none⟩=some (I 0)∧W'.cell? ⟨w.heap.size,8,none⟩=some (I 1)∧W'.cell? ⟨w.heap.size,9,none⟩=some (I 1)∧W'.cell? ⟨w.heap.size+1,0,none⟩=some (I 0)∧W'.cell? ⟨w.heap.size+1,1,none⟩=some (I 1)∧W'.cell? ⟨w.heap.size+1,2,none⟩=some (I 0)∧W'.cell? ⟨w.heap.size+1,3,none⟩=some (I 0)∧W'.cell? ⟨w.heap.size+1,4,none⟩=some (I 0)∧W'.cell? ⟨w.heap.size+1,5,none⟩=some (I 0)∧W'.cell? ⟨w.heap.size+1,6,none⟩=some (I 0)∧W'.cell? ⟨w.heap.size+1,7,none⟩=some (I 0)∧W'.cell? ⟨w.heap.size+1,8,none⟩=some (I 1)∧W'.cell? ⟨w.heap.size+1,9,none⟩=some (I 1000)∧W'.cell? ⟨w.heap.size+2,0,none⟩=some (I 0)∧W'.cell? ⟨w.heap.size+2,1,none⟩=some (I 0)∧W'.cell? ⟨w.heap.size+2,2,none⟩=some (I 1)∧W'.cell? ⟨w.heap.size+2,3,none⟩=some (I 0)∧W'.cell? ⟨w.heap.size+2,4,none⟩=some (I 0)∧W'.cell? ⟨w.heap.size+2,5,none⟩=some (I 0)∧W'.cell? ⟨w.heap.size+2,6,none⟩=some (I 0)∧W'.cell? ⟨w.heap.size+2,7,none⟩=some (I 0)∧W'.cell? ⟨w.heap.size+2,8,none⟩=some (I 1)∧W'.cell? ⟨w.heap.size+2,9,none⟩=some (I 1)):=fun W' h=>⟨h.m.ub.c 0 _ rfl,h.m.ub.c 1 _ rfl,h.m.ub.c 2 _ rfl,h.m.ub.c 3 _ rfl,h.m.ub.c 4 _ rfl,h.m.ub.c 5 _ rfl,h.m.ub.c 6 _ rfl,h.m.ub.c 7 _ rfl,h.m.ub.c 8 _ rfl,h.m.ub.c 9 _ rfl,h.g.ub.c 0 _ rfl,h.g.ub.c 1 _ rfl,h.g.ub.c 2 _ rfl,h.g.ub.c 3 _ rfl,h.g.ub.c 4 _ rfl,h.g.ub.c 5 _ rfl,h.g.ub.c 6 _ rfl,h.g.ub.c 7 _ rfl,h.g.ub.c 8 _ rfl,h.g.ub.c 9 _ rfl,h.s.ub.c 0 _ rfl,h.s.ub.c 1 _ rfl,h.s.ub.c 2 _ rfl,h.s.ub.c 3 _ rfl,h.s.ub.c 4 _ rfl,h.s.ub.c 5 _ rfl,h.s.ub.c 6 _ rfl,h.s.ub.c 7 _ rfl,h.s.ub.c 8 _ rfl,h.s.ub.c 9 _ rfl⟩
  go_enter Tryz.func264,Tryz.ntmps264
  go_upto_region 1 with fail
  rw[←un HV];clear HV;go_cut [7]from 8 (fun s9 wx=>∃g,s9=.pointer (some ⟨g,0,none⟩)∧Hid (zAc wx g 235 (J 1 1 (-2) 0 0 0 0 0 1000 1000))∧Hid (JS w wx))
  case first=>
    have HJ0:=zAb ((un HJ).later ((Below.refl _ _).drew));have HS0:=zAb (un HSS _ (un HJ0));refine zAi 10 (fun W'=>W'.cell? ⟨w.heap.size,0,none⟩=some (I 1)∧W'.cell? ⟨w.heap.size,1,none⟩=some (I 0)∧W'.cell? ⟨w.heap.size,2,none⟩=some (I 0)∧W'.cell? ⟨w.heap.size,3,none⟩=some (I 0)∧W'.cell? ⟨w.heap.size,4,none⟩=some (I 0)∧W'.cell? ⟨w.heap.size,5,none⟩=some (I 0)∧W'.cell? ⟨w.heap.size,6,none⟩=some (I 0)∧W'.cell? ⟨w.heap.size,7,none⟩=some (I 0)∧W'.cell? ⟨w.heap.size,8,none⟩=some (I 1)∧W'.cell? ⟨w.heap.size,9,none⟩=some (I 1)∧W'.cell? ⟨w.heap.size+1,0,none⟩=some (I 0)∧W'.cell? ⟨w.heap.size+1,1,none⟩=some (I 1)∧W'.cell? ⟨w.heap.size+1,2,none⟩=some (I 0)∧W'.cell? ⟨w.heap.size+1,3,none⟩=some (I 0)∧W'.cell? ⟨w.heap.size+1,4,none⟩=some (I 0)∧W'.cell? ⟨w.heap.size+1,5,none⟩=some (I 0)∧W'.cell? ⟨w.heap.size+1,6,none⟩=some (I 0)∧W'.cell? ⟨w.heap.size+1,7,none⟩=some (I 0)∧W'.cell? ⟨w.heap.size+1,8,none⟩=some (I 1)∧W'.cell? ⟨w.heap.size+1,9,none⟩=some (I 1000)∧W'.cell? ⟨w.heap.size+2,0,none⟩=some (I 0)∧W'.cell? ⟨w.heap.size+2,1,none⟩=some (I 0)∧W'.cell? ⟨w.heap.size+2,2,none⟩=some (I 1)∧W'.cell? ⟨w.heap.size+2,3,none⟩=some (I 0)∧W'.cell? ⟨w.heap.size+2,4,none⟩=some (I 0)∧W'.cell? ⟨w.heap.size+2,5,none⟩=some (I 0)∧W'.cell? ⟨w.heap.size+2,6,none⟩=some (I 0)∧W'.cell? ⟨w.heap.size+2,7,none⟩=some (I 0)∧W'.cell? ⟨w.heap.size+2,8,none⟩=some (I 1)∧W'.cell? ⟨w.heap.size+2,9,none⟩=some (I 1)) (fun _=>True) 11 rfl (by kernel_rfl) ?_;refine wT 1 (.agg (J 0 1 0 0 0 0 0 0 1 1000)) rfl (Or.inl ⟨by rfl,?_⟩) ⟨un HS0,trivial⟩ ?_
    · intro W' hW
      go_split_ands
      go_simp
    refine wT 3 (.agg (J 1 0 0 0 0 0 0 0 1 1)) rfl (Or.inl ⟨by rfl,?_⟩) ⟨un HS0,trivial⟩ ?_
    · intro W' hW
      go_split_ands
      go_simp
    refine wT 5 (.agg (J 0 0 1 0 0 0 0 0 1 1)) rfl (Or.inl ⟨by rfl,?_⟩) ⟨un HS0,trivial⟩ ?_
    · intro W' hW
      go_split_ands
      go_simp
    refine wT 7 (.agg (J 0 0 1 0 0 0 0 0 1 1)) rfl (Or.inl ⟨by rfl,?_⟩) ⟨un HS0,trivial⟩ ?_
    · intro W' hW
      go_split_ands
      go_simp
    clear HS0 HJ;generalize V.drew=W0 at *
    refine zBn (i:=0) (j:=9) (by kernel_rfl) rfl rfl rfl rfl (fun K hK=>?_) (fun K hK=>?_)
    · skip
      go_simp
      refine(zEv 1000 _).mono ?_;rintro e W1 ⟨rfl,hb⟩;have HJ1:=zAb ((un HJ0).later hb);clear hb;refine hK _ _ ⟨un HSS _ (un HJ1),trivial⟩ ?_;clear hK K;refine zBn (i:=2) (j:=9) (by kernel_rfl) rfl rfl rfl rfl (fun K hK=>?_) (fun K hK=>?_)
      · skip
        go_simp
        refine(zDf 0 0 0 0 0 0 0 0 1000 1 0 1 0 0 0 0 0 0 1 1000 0 1 0 0 0 0 0 0 1000 1000 _ (by decide +kernel) (by decide +kernel) (by decide +kernel)).mono ?_;rintro e W2 ⟨rfl,hb⟩;have HJ2:=zAb ((un HJ1).later hb);clear hb;refine hK _ _ ⟨un HSS _ (un HJ2),trivial⟩ ?_;clear hK K;refine zBn (i:=4) (j:=9) (by kernel_rfl) rfl rfl rfl rfl (fun K hK=>?_) (fun K hK=>?_)
        · skip
          go_simp
          refine(zDf 0 1 0 0 0 0 0 0 1000 1000 1 0 0 0 0 0 0 0 1 1 1 1 0 0 0 0 0 0 1000 1000 _ (by decide +kernel) (by decide +kernel) (by decide +kernel)).mono ?_;rintro e W3 ⟨rfl,hb⟩;have HJ3:=zAb ((un HJ2).later hb);clear hb;refine hK _ _ ⟨un HSS _ (un HJ3),trivial⟩ ?_;clear hK K;refine zBn (i:=6) (j:=9) (by kernel_rfl) rfl rfl rfl rfl (fun K hK=>?_) (fun K hK=>?_)
          · skip
            go_simp
            refine(zFm 1 1 0 0 0 0 0 0 1000 1000 0 0 1 0 0 0 0 0 1 1 1 1 (-1) 0 0 0 0 0 1000 1000 _ (by decide +kernel) (by decide +kernel) (by decide +kernel)).mono ?_;rintro e W4 ⟨rfl,hb⟩;have HJ4:=zAb ((un HJ3).later hb);clear hb;refine hK _ _ ⟨un HSS _ (un HJ4),trivial⟩ ?_;clear hK K;refine zBn (i:=8) (j:=9) (by kernel_rfl) rfl rfl rfl rfl (fun K hK=>?_) (fun K hK=>?_)
            · skip
              go_simp
              refine(zFm 1 1 (-1) 0 0 0 0 0 1000 1000 0 0 1 0 0 0 0 0 1 1 1 1 (-2) 0 0 0 0 0 1000 1000 _ (by decide +kernel) (by decide +kernel) (by decide +kernel)).mono ?_;rintro e W5 ⟨rfl,hb⟩;have HJ5:=zAb ((un HJ4).later hb);clear hb;refine hK _ _ ⟨un HSS _ (un HJ5),trivial⟩ ?_;clear hK K;refine wO 9 rfl rfl (fun K hK=>?_)
              go_simp
              have hb:=zBx W5 (.cells (J 0 0 0 0 0 0 0 0 0 0) 235);have HJ6:=zAb ((un HJ5).later hb);refine hK _ _ ⟨un HSS _ (un HJ6),trivial⟩ ?_;clear hK K hb;have HZ6:Hid (zAc (W5.alloc (.cells (J 0 0 0 0 0 0 0 0 0 0) 235)) W5.heap.size 235 (J 0 0 0 0 0 0 0 0 0 0)):=zAc.new _ _ _;have HL:Hid (w.heap.size+3<W5.heap.size):=(un HJ5).r.lt;obtain⟨W6,hW6⟩:∃W6,W6=W5.alloc (.cells (J 0 0 0 0 0 0 0 0 0 0) 235):=⟨_,rfl⟩;obtain⟨g7,hg7⟩:∃g7,g7=W5.heap.size:=⟨_,rfl⟩;rw[←hW6]at HJ6 HZ6 ⊢;rw[←hg7]at HZ6 HL ⊢;clear hW6 hg7;refine wL 10 rfl rfl (fun K hK=>?_);refine wp_store_row 235 (.tmp 7) (.tmp 16) rfl g7 (J 1 1 (-2) 0 0 0 0 0 1000 1000) rfl rfl 235 _ (un HZ6) (by rw[zCv];rfl) rfl (by kernel_rfl) (hK _ _ trivial ?_);clear hK K;refine wDn ?_;have HN:=zAb ((un HZ6).setRow (J 1 1 (-2) 0 0 0 0 0 1000 1000));have HJN:Hid (JS w (W6.setRow g7 (J 1 1 (-2) 0 0 0 0 0 1000 1000))):=(un HJ6).row (un HL) _;generalize W6.setRow g7 (J 1 1 (-2) 0 0 0 0 0 1000 1000)=U at HN HJN ⊢
              go_wp2_with fail
              go_meet
              exact⟨g7,rfl,un HN,un HJN⟩
            · skip
              go_simp
              have hb:=zBx W4 (.cells (J 0 0 0 0 0 0 0 0 0 0) 235);have HJ5:=zAb ((un HJ4).later hb);refine hK _ _ ⟨un HSS _ (un HJ5),trivial⟩ ?_;clear hK K hb;have HZ5:Hid (zAc (W4.alloc (.cells (J 0 0 0 0 0 0 0 0 0 0) 235)) W4.heap.size 235 (J 0 0 0 0 0 0 0 0 0 0)):=zAc.new _ _ _;have HL:Hid (w.heap.size+3<W4.heap.size):=(un HJ4).r.lt;obtain⟨W5,hW5⟩:∃W5,W5=W4.alloc (.cells (J 0 0 0 0 0 0 0 0 0 0) 235):=⟨_,rfl⟩;obtain⟨g7,hg7⟩:∃g7,g7=W4.heap.size:=⟨_,rfl⟩;rw[←hW5]at HJ5 HZ5 ⊢;rw[←hg7]at HZ5 HL ⊢;clear hW5 hg7;refine wO 8 rfl rfl (fun K hK=>?_)
              go_simp
              refine(zFm 1 1 (-1) 0 0 0 0 0 1000 1000 0 0 1 0 0 0 0 0 1 1 1 1 (-2) 0 0 0 0 0 1000 1000 _ (by decide +kernel) (by decide +kernel) (by decide +kernel)).mono ?_;rintro e W6 ⟨rfl,hb⟩;have HJ6:=zAb ((un HJ5).later hb);have HZ6:=zAb ((un HZ5).later hb);clear hb;refine hK _ _ ⟨un HSS _ (un HJ6),trivial⟩ ?_;clear hK K;refine wL 10 rfl rfl (fun K hK=>?_);refine wp_store_row 235 (.tmp 7) (.tmp 16) rfl g7 (J 1 1 (-2) 0 0 0 0 0 1000 1000) rfl rfl 235 _ (un HZ6) (by rw[zCv];rfl) rfl (by kernel_rfl) (hK _ _ trivial ?_);clear hK K;refine wDn ?_;have HN:=zAb ((un HZ6).setRow (J 1 1 (-2) 0 0 0 0 0 1000 1000));have HJN:Hid (JS w (W6.setRow g7 (J 1 1 (-2) 0 0 0 0 0 1000 1000))):=(un HJ6).row (un HL) _;generalize W6.setRow g7 (J 1 1 (-2) 0 0 0 0 0 1000 1000)=U at HN HJN ⊢
              go_wp2_with fail
              go_meet
              exact⟨g7,rfl,un HN,un HJN⟩
          · skip
            go_simp
            have hb:=zBx W3 (.cells (J 0 0 0 0 0 0 0 0 0 0) 235);have HJ4:=zAb ((un HJ3).later hb);refine hK _ _ ⟨un HSS _ (un HJ4),trivial⟩ ?_;clear hK K hb;have HZ4:Hid (zAc (W3.alloc (.cells (J 0 0 0 0 0 0 0 0 0 0) 235)) W3.heap.size 235 (J 0 0 0 0 0 0 0 0 0 0)):=zAc.new _ _ _;have HL:Hid (w.heap.size+3<W3.heap.size):=(un HJ3).r.lt;obtain⟨W4,hW4⟩:∃W4,W4=W3.alloc (.cells (J 0 0 0 0 0 0 0 0 0 0) 235):=⟨_,rfl⟩;obtain⟨g7,hg7⟩:∃g7,g7=W3.heap.size:=⟨_,rfl⟩;rw[←hW4]at HJ4 HZ4 ⊢;rw[←hg7]at HZ4 HL ⊢;clear hW4 hg7;refine wO 6 rfl rfl (fun K hK=>?_)
            go_simp
            refine(zFm 1 1 0 0 0 0 0 0 1000 1000 0 0 1 0 0 0 0 0 1 1 1 1 (-1) 0 0 0 0 0 1000 1000 _ (by decide +kernel) (by decide +kernel) (by decide +kernel)).mono ?_;rintro e W5 ⟨rfl,hb⟩;have HJ5:=zAb ((un HJ4).later hb);have HZ5:=zAb ((un HZ4).later hb);clear hb;refine hK _ _ ⟨un HSS _ (un HJ5),trivial⟩ ?_;clear hK K;refine wO 8 rfl rfl (fun K hK=>?_)
            go_simp
            refine(zFm 1 1 (-1) 0 0 0 0 0 1000 1000 0 0 1 0 0 0 0 0 1 1 1 1 (-2) 0 0 0 0 0 1000 1000 _ (by decide +kernel) (by decide +kernel) (by decide +kernel)).mono ?_;rintro e W6 ⟨rfl,hb⟩;have HJ6:=zAb ((un HJ5).later hb);have HZ6:=zAb ((un HZ5).later hb);clear hb;refine hK _ _ ⟨un HSS _ (un HJ6),trivial⟩ ?_;clear hK K;refine wL 10 rfl rfl (fun K hK=>?_);refine wp_store_row 235 (.tmp 7) (.tmp 16) rfl g7 (J 1 1 (-2) 0 0 0 0 0 1000 1000) rfl rfl 235 _ (un HZ6) (by rw[zCv];rfl) rfl (by kernel_rfl) (hK _ _ trivial ?_);clear hK K;refine wDn ?_;have HN:=zAb ((un HZ6).setRow (J 1 1 (-2) 0 0 0 0 0 1000 1000));have HJN:Hid (JS w (W6.setRow g7 (J 1 1 (-2) 0 0 0 0 0 1000 1000))):=(un HJ6).row (un HL) _;generalize W6.setRow g7 (J 1 1 (-2) 0 0 0 0 0 1000 1000)=U at HN HJN ⊢
            go_wp2_with fail
            go_meet
            exact⟨g7,rfl,un HN,un HJN⟩
        · skip
          go_simp
          have hb:=zBx W2 (.cells (J 0 0 0 0 0 0 0 0 0 0) 235);have HJ3:=zAb ((un HJ2).later hb);refine hK _ _ ⟨un HSS _ (un HJ3),trivial⟩ ?_;clear hK K hb;have HZ3:Hid (zAc (W2.alloc (.cells (J 0 0 0 0 0 0 0 0 0 0) 235)) W2.heap.size 235 (J 0 0 0 0 0 0 0 0 0 0)):=zAc.new _ _ _;have HL:Hid (w.heap.size+3<W2.heap.size):=(un HJ2).r.lt;obtain⟨W3,hW3⟩:∃W3,W3=W2.alloc (.cells (J 0 0 0 0 0 0 0 0 0 0) 235):=⟨_,rfl⟩;obtain⟨g7,hg7⟩:∃g7,g7=W2.heap.size:=⟨_,rfl⟩;rw[←hW3]at HJ3 HZ3 ⊢;rw[←hg7]at HZ3 HL ⊢;clear hW3 hg7;refine wO 4 rfl rfl (fun K hK=>?_)
          go_simp
          refine(zDf 0 1 0 0 0 0 0 0 1000 1000 1 0 0 0 0 0 0 0 1 1 1 1 0 0 0 0 0 0 1000 1000 _ (by decide +kernel) (by decide +kernel) (by decide +kernel)).mono ?_;rintro e W4 ⟨rfl,hb⟩;have HJ4:=zAb ((un HJ3).later hb);have HZ4:=zAb ((un HZ3).later hb);clear hb;refine hK _ _ ⟨un HSS _ (un HJ4),trivial⟩ ?_;clear hK K;refine wO 6 rfl rfl (fun K hK=>?_)
          go_simp
          refine(zFm 1 1 0 0 0 0 0 0 1000 1000 0 0 1 0 0 0 0 0 1 1 1 1 (-1) 0 0 0 0 0 1000 1000 _ (by decide +kernel) (by decide +kernel) (by decide +kernel)).mono ?_;rintro e W5 ⟨rfl,hb⟩;have HJ5:=zAb ((un HJ4).later hb);have HZ5:=zAb ((un HZ4).later hb);clear hb;refine hK _ _ ⟨un HSS _ (un HJ5),trivial⟩ ?_;clear hK K;refine wO 8 rfl rfl (fun K hK=>?_)
          go_simp
          refine(zFm 1 1 (-1) 0 0 0 0 0 1000 1000 0 0 1 0 0 0 0 0 1 1 1 1 (-2) 0 0 0 0 0 1000 1000 _ (by decide +kernel) (by decide +kernel) (by decide +kernel)).mono ?_;rintro e W6 ⟨rfl,hb⟩;have HJ6:=zAb ((un HJ5).later hb);have HZ6:=zAb ((un HZ5).later hb);clear hb;refine hK _ _ ⟨un HSS _ (un HJ6),trivial⟩ ?_;clear hK K;refine wL 10 rfl rfl (fun K hK=>?_);refine wp_store_row 235 (.tmp 7) (.tmp 16) rfl g7 (J 1 1 (-2) 0 0 0 0 0 1000 1000) rfl rfl 235 _ (un HZ6) (by rw[zCv];rfl) rfl (by kernel_rfl) (hK _ _ trivial ?_);clear hK K;refine wDn ?_;have HN:=zAb ((un HZ6).setRow (J 1 1 (-2) 0 0 0 0 0 1000 1000));have HJN:Hid (JS w (W6.setRow g7 (J 1 1 (-2) 0 0 0 0 0 1000 1000))):=(un HJ6).row (un HL) _;generalize W6.setRow g7 (J 1 1 (-2) 0 0 0 0 0 1000 1000)=U at HN HJN ⊢
          go_wp2_with fail
          go_meet
          exact⟨g7,rfl,un HN,un HJN⟩
      · skip
        go_simp
        have hb:=zBx W1 (.cells (J 0 0 0 0 0 0 0 0 0 0) 235);have HJ2:=zAb ((un HJ1).later hb);refine hK _ _ ⟨un HSS _ (un HJ2),trivial⟩ ?_;clear hK K hb;have HZ2:Hid (zAc (W1.alloc (.cells (J 0 0 0 0 0 0 0 0 0 0) 235)) W1.heap.size 235 (J 0 0 0 0 0 0 0 0 0 0)):=zAc.new _ _ _;have HL:Hid (w.heap.size+3<W1.heap.size):=(un HJ1).r.lt;obtain⟨W2,hW2⟩:∃W2,W2=W1.alloc (.cells (J 0 0 0 0 0 0 0 0 0 0) 235):=⟨_,rfl⟩;obtain⟨g7,hg7⟩:∃g7,g7=W1.heap.size:=⟨_,rfl⟩;rw[←hW2]at HJ2 HZ2 ⊢;rw[←hg7]at HZ2 HL ⊢;clear hW2 hg7;refine wO 2 rfl rfl (fun K hK=>?_)
        go_simp
        refine(zDf 0 0 0 0 0 0 0 0 1000 1 0 1 0 0 0 0 0 0 1 1000 0 1 0 0 0 0 0 0 1000 1000 _ (by decide +kernel) (by decide +kernel) (by decide +kernel)).mono ?_;rintro e W3 ⟨rfl,hb⟩;have HJ3:=zAb ((un HJ2).later hb);have HZ3:=zAb ((un HZ2).later hb);clear hb;refine hK _ _ ⟨un HSS _ (un HJ3),trivial⟩ ?_;clear hK K;refine wO 4 rfl rfl (fun K hK=>?_)
        go_simp
        refine(zDf 0 1 0 0 0 0 0 0 1000 1000 1 0 0 0 0 0 0 0 1 1 1 1 0 0 0 0 0 0 1000 1000 _ (by decide +kernel) (by decide +kernel) (by decide +kernel)).mono ?_;rintro e W4 ⟨rfl,hb⟩;have HJ4:=zAb ((un HJ3).later hb);have HZ4:=zAb ((un HZ3).later hb);clear hb;refine hK _ _ ⟨un HSS _ (un HJ4),trivial⟩ ?_;clear hK K;refine wO 6 rfl rfl (fun K hK=>?_)
        go_simp
        refine(zFm 1 1 0 0 0 0 0 0 1000 1000 0 0 1 0 0 0 0 0 1 1 1 1 (-1) 0 0 0 0 0 1000 1000 _ (by decide +kernel) (by decide +kernel) (by decide +kernel)).mono ?_;rintro e W5 ⟨rfl,hb⟩;have HJ5:=zAb ((un HJ4).later hb);have HZ5:=zAb ((un HZ4).later hb);clear hb;refine hK _ _ ⟨un HSS _ (un HJ5),trivial⟩ ?_;clear hK K;refine wO 8 rfl rfl (fun K hK=>?_)
        go_simp
        refine(zFm 1 1 (-1) 0 0 0 0 0 1000 1000 0 0 1 0 0 0 0 0 1 1 1 1 (-2) 0 0 0 0 0 1000 1000 _ (by decide +kernel) (by decide +kernel) (by decide +kernel)).mono ?_;rintro e W6 ⟨rfl,hb⟩;have HJ6:=zAb ((un HJ5).later hb);have HZ6:=zAb ((un HZ5).later hb);clear hb;refine hK _ _ ⟨un HSS _ (un HJ6),trivial⟩ ?_;clear hK K;refine wL 10 rfl rfl (fun K hK=>?_);refine wp_store_row 235 (.tmp 7) (.tmp 16) rfl g7 (J 1 1 (-2) 0 0 0 0 0 1000 1000) rfl rfl 235 _ (un HZ6) (by rw[zCv];rfl) rfl (by kernel_rfl) (hK _ _ trivial ?_);clear hK K;refine wDn ?_;have HN:=zAb ((un HZ6).setRow (J 1 1 (-2) 0 0 0 0 0 1000 1000));have HJN:Hid (JS w (W6.setRow g7 (J 1 1 (-2) 0 0 0 0 0 1000 1000))):=(un HJ6).row (un HL) _;generalize W6.setRow g7 (J 1 1 (-2) 0 0 0 0 0 1000 1000)=U at HN HJN ⊢
        go_wp2_with fail
        go_meet
        exact⟨g7,rfl,un HN,un HJN⟩
    · skip
      go_simp
      have hb:=zBx W0 (.cells (J 0 0 0 0 0 0 0 0 0 0) 235);have HJ1:=zAb ((un HJ0).later hb);refine hK _ _ ⟨un HSS _ (un HJ1),trivial⟩ ?_;clear hK K hb;have HZ1:Hid (zAc (W0.alloc (.cells (J 0 0 0 0 0 0 0 0 0 0) 235)) W0.heap.size 235 (J 0 0 0 0 0 0 0 0 0 0)):=zAc.new _ _ _;have HL:Hid (w.heap.size+3<W0.heap.size):=(un HJ0).r.lt;obtain⟨W1,hW1⟩:∃W1,W1=W0.alloc (.cells (J 0 0 0 0 0 0 0 0 0 0) 235):=⟨_,rfl⟩;obtain⟨g7,hg7⟩:∃g7,g7=W0.heap.size:=⟨_,rfl⟩;rw[←hW1]at HJ1 HZ1 ⊢;rw[←hg7]at HZ1 HL ⊢;clear hW1 hg7;refine wO 0 rfl rfl (fun K hK=>?_)
      go_simp
      refine(zEv 1000 _).mono ?_;rintro e W2 ⟨rfl,hb⟩;have HJ2:=zAb ((un HJ1).later hb);have HZ2:=zAb ((un HZ1).later hb);clear hb;refine hK _ _ ⟨un HSS _ (un HJ2),trivial⟩ ?_;clear hK K;refine wO 2 rfl rfl (fun K hK=>?_)
      go_simp
      refine(zDf 0 0 0 0 0 0 0 0 1000 1 0 1 0 0 0 0 0 0 1 1000 0 1 0 0 0 0 0 0 1000 1000 _ (by decide +kernel) (by decide +kernel) (by decide +kernel)).mono ?_;rintro e W3 ⟨rfl,hb⟩;have HJ3:=zAb ((un HJ2).later hb);have HZ3:=zAb ((un HZ2).later hb);clear hb;refine hK _ _ ⟨un HSS _ (un HJ3),trivial⟩ ?_;clear hK K;refine wO 4 rfl rfl (fun K hK=>?_)
      go_simp
      refine(zDf 0 1 0 0 0 0 0 0 1000 1000 1 0 0 0 0 0 0 0 1 1 1 1 0 0 0 0 0 0 1000 1000 _ (by decide +kernel) (by decide +kernel) (by decide +kernel)).mono ?_;rintro e W4 ⟨rfl,hb⟩;have HJ4:=zAb ((un HJ3).later hb);have HZ4:=zAb ((un HZ3).later hb);clear hb;refine hK _ _ ⟨un HSS _ (un HJ4),trivial⟩ ?_;clear hK K;refine wO 6 rfl rfl (fun K hK=>?_)
      go_simp
      refine(zFm 1 1 0 0 0 0 0 0 1000 1000 0 0 1 0 0 0 0 0 1 1 1 1 (-1) 0 0 0 0 0 1000 1000 _ (by decide +kernel) (by decide +kernel) (by decide +kernel)).mono ?_;rintro e W5 ⟨rfl,hb⟩;have HJ5:=zAb ((un HJ4).later hb);have HZ5:=zAb ((un HZ4).later hb);clear hb;refine hK _ _ ⟨un HSS _ (un HJ5),trivial⟩ ?_;clear hK K;refine wO 8 rfl rfl (fun K hK=>?_)
      go_simp
      refine(zFm 1 1 (-1) 0 0 0 0 0 1000 1000 0 0 1 0 0 0 0 0 1 1 1 1 (-2) 0 0 0 0 0 1000 1000 _ (by decide +kernel) (by decide +kernel) (by decide +kernel)).mono ?_;rintro e W6 ⟨rfl,hb⟩;have HJ6:=zAb ((un HJ5).later hb);have HZ6:=zAb ((un HZ5).later hb);clear hb;refine hK _ _ ⟨un HSS _ (un HJ6),trivial⟩ ?_;clear hK K;refine wL 10 rfl rfl (fun K hK=>?_);refine wp_store_row 235 (.tmp 7) (.tmp 16) rfl g7 (J 1 1 (-2) 0 0 0 0 0 1000 1000) rfl rfl 235 _ (un HZ6) (by rw[zCv];rfl) rfl (by kernel_rfl) (hK _ _ trivial ?_);clear hK K;refine wDn ?_;have HN:=zAb ((un HZ6).setRow (J 1 1 (-2) 0 0 0 0 0 1000 1000));have HJN:Hid (JS w (W6.setRow g7 (J 1 1 (-2) 0 0 0 0 0 1000 1000))):=(un HJ6).row (un HL) _;generalize W6.setRow g7 (J 1 1 (-2) 0 0 0 0 0 1000 1000)=U at HN HJN ⊢
      go_wp2_with fail
      go_meet
      exact⟨g7,rfl,un HN,un HJN⟩
  case rest=>
    obtain⟨g7,rfl,HN,HJ1⟩:=hcut;generalize wc=U at HN HJ1 ⊢
    clear HJ HSS;have m0:U.cell? ⟨w.heap.size,0,none⟩=some (I 1):=(un HJ1).m.ub.c 0 _ rfl;have m1:U.cell? ⟨w.heap.size,1,none⟩=some (I 0):=(un HJ1).m.ub.c 1 _ rfl;have m2:U.cell? ⟨w.heap.size,2,none⟩=some (I 0):=(un HJ1).m.ub.c 2 _ rfl;have m3:U.cell? ⟨w.heap.size,3,none⟩=some (I 0):=(un HJ1).m.ub.c 3 _ rfl;have m4:U.cell? ⟨w.heap.size,4,none⟩=some (I 0):=(un HJ1).m.ub.c 4 _ rfl;have m5:U.cell? ⟨w.heap.size,5,none⟩=some (I 0):=(un HJ1).m.ub.c 5 _ rfl;have m6:U.cell? ⟨w.heap.size,6,none⟩=some (I 0):=(un HJ1).m.ub.c 6 _ rfl;have m7:U.cell? ⟨w.heap.size,7,none⟩=some (I 0):=(un HJ1).m.ub.c 7 _ rfl;have m8:U.cell? ⟨w.heap.size,8,none⟩=some (I 1):=(un HJ1).m.ub.c 8 _ rfl;have m9:U.cell? ⟨w.heap.size,9,none⟩=some (I 1):=(un HJ1).m.ub.c 9 _ rfl;have n0:U.cell? ⟨g7,0,none⟩=some (I 1):=(un HN).ub.c 0 _ rfl;have n1:U.cell? ⟨g7,1,none⟩=some (I 1):=(un HN).ub.c 1 _ rfl;have n2:U.cell? ⟨g7,2,none⟩=some (I (-2)):=(un HN).ub.c 2 _ rfl;have n3:U.cell? ⟨g7,3,none⟩=some (I 0):=(un HN).ub.c 3 _ rfl;have n4:U.cell? ⟨g7,4,none⟩=some (I 0):=(un HN).ub.c 4 _ rfl;have n5:U.cell? ⟨g7,5,none⟩=some (I 0):=(un HN).ub.c 5 _ rfl;have n6:U.cell? ⟨g7,6,none⟩=some (I 0):=(un HN).ub.c 6 _ rfl;have n7:U.cell? ⟨g7,7,none⟩=some (I 0):=(un HN).ub.c 7 _ rfl;have n8:U.cell? ⟨g7,8,none⟩=some (I 1000):=(un HN).ub.c 8 _ rfl;have n9:U.cell? ⟨g7,9,none⟩=some (I 1000):=(un HN).ub.c 9 _ rfl
    go_wp2_with fail
    refine(zDf 1 1 (-2) 0 0 0 0 0 1000 1000 1 0 0 0 0 0 0 0 1 1 2 1 (-2) 0 0 0 0 0 1000 1000 _ (by decide +kernel) (by decide +kernel) (by decide +kernel)).mono ?_;rintro e W ⟨rfl,hb⟩;have HJ2:=zAb ((un HJ1).later hb);clear hb HJ1
    go_wp2_with (refine zAn 235 10 zCv rfl (.tmp 6) (.tmp 19) rfl (w.heap.size+3) (J 0 0 0 0 0 0 0 0 0 0) (J 2 1 (-2) 0 0 0 0 0 1000 1000) rfl rfl rfl rfl (un HJ2).r (by kernel_rfl) ?_)
    exact bodyPost_ret (v:=.agg (J 2 1 (-2) 0 0 0 0 0 1000 1000)) (res43 Tryz.results264 _ _ (w.heap.size+3) _ rfl rfl ((un HJ2).r.setRow _)) rfl ⟨rfl,below_setRow (un HJ2).below (by omega) _⟩
end Go.Proofs.YtliadckofhblnaaGreatDoor

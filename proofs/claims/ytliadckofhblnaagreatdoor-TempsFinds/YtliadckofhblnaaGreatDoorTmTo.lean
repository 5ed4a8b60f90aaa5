/- temps.To where its number and its words are right. -/
import Derived.Test.YtliadckofhblnaaGreatDoorAdd
import Derived.Test.YtliadckofhblnaaGreatDoorDimMul
import Derived.Test.YtliadckofhblnaaGreatDoorTmUnit
import Derived.OwnWalk
import Derived.Laws.AppendOwn
import Derived.Laws.EntriesVeiled
import Derived.Test.YtliadckofhblnaaGreatDoorReads
set_option maxHeartbeats 8000000
set_option maxRecDepth 100000
namespace Go.Proofs.YtliadckofhblnaaGreatDoor.Tm
open Go.RowKit
structure Sc where
 nm:ByteArray
 sy:ByteArray
 f:Nat
 a:Nat
 b:Nat
 c:Nat
 d:Nat
def sct:Nat→Sc
 | 0=>⟨⟨#[114,97,110,107,105,110,101]⟩,⟨#[194,176,82]⟩,106,5,9,0,1⟩
 | 1=>⟨⟨#[99,101,108,115,105,117,115]⟩,⟨#[194,176,67]⟩,107,1,1,27315,100⟩
 | 2=>⟨⟨#[102,97,104,114,101,110,104,101,105,116]⟩,⟨#[194,176,70]⟩,108,5,9,229835,900⟩
 | _=>⟨⟨#[107,101,108,118,105,110]⟩,⟨#[75]⟩,114,1,1,0,1⟩
theorem made_sc:∀k,k<4→MadeS (sct k).f (sct k).a (sct k).b (sct k).c (sct k).d
 | 0,_=>rankine_made
 | 1,_=>zJi
 | 2,_=>fahrenheit_made
 | 3,_=>zGv
 | n+4,h=>absurd h (by omega)
theorem enter_sc:∀k,k<4→∀W,(callFunc (sct k).f #[]).run Tryz.prog W=.ok (.enter (sct k).f #[]) W
 | 0,_,W=>by kernel_rfl
 | 1,_,W=>by kernel_rfl
 | 2,_,W=>by kernel_rfl
 | 3,_,W=>by kernel_rfl
 | n+4,h,_=>absurd h (by omega)
structure R3 (W:World) (g k:Nat):Prop where
 c0:W.cell? ⟨g,k*3,none⟩=some (.string (sct k).nm)
 c1:W.cell? ⟨g,k*3+1,none⟩=some (.string (sct k).sy)
 c2:W.cell? ⟨g,k*3+2,none⟩=some (.func (.func (sct k).f) #[] #[])
theorem R3.later {W V:World} {B g k:Nat} (h:R3 W g k) (hb:Below B W V) (hg:g<B):R3 V g k :=
 ⟨(hb.cell (p:=⟨g,k*3,none⟩) hg).trans h.c0,(hb.cell (p:=⟨g,k*3+1,none⟩) hg).trans h.c1,(hb.cell (p:=⟨g,k*3+2,none⟩) hg).trans h.c2⟩
def rows3:Array Value:=#[G #[114,97,110,107,105,110,101],G #[194,176,82],.func (.func 106) #[] #[],G #[99,101,108,115,105,117,115],G #[194,176,67],.func (.func 107) #[] #[],G #[102,97,104,114,101,110,104,101,105,116],G #[194,176,70],.func (.func 108) #[] #[]]
theorem zEm (w:World):Calls Tryz.prog 43 #[] w fun r w'=>r=.returned (.slice (some ⟨w.heap.size,0,none⟩) 3 3)∧w'=w.alloc (.cells rows3 69):=by
 go_enter Tryz.func43,Tryz.ntmps43
 go_wp2
 go_ret
 exact⟨rfl,rfl⟩
def zGj (s nm sy:ByteArray):Bool:=nm.toList == s.toList || sy.toList == s.toList
theorem zEe (nm sy:ByteArray) (fv:Value) (s:ByteArray) (b:Nat) (w:World) (hb:w.cell? ⟨b,0,none⟩=some (.string s)) (hlt:b<w.heap.size):Calls Tryz.prog 113 #[.agg #[.string nm,.string sy,fv],.pointer (some ⟨b,0,none⟩)] w fun r w'=>r=.returned (.bool (zGj s nm sy))∧Bw w w':=by
 unfold zGj;go_enter Tryz.func113,Tryz.ntmps113
 go_wp2_with fail
 all_goals
  go_ret
  refine⟨?_,bA⟩
  first|rfl|(simp[*];done)|(simp_all;done)
def scB (s:ByteArray) (k:Nat):Bool:=zGj s (sct k).nm (sct k).sy
def zBc (p:Nat→Bool) (j:Int):Prop:=(∃k:Nat,k<4∧j=(k:Int)∧p k=true∧∀i,i<k→p i=false)∨(j=-1∧∀i,i<4→p i=false)
theorem zEw {p:Nat→Bool} {k:Nat} (h:∀i,i<k→p i=false) (hk:p k=false):∀i,i<k+1→p i=false:=fun i hi=>by
 by_cases e:i=k
 ·rw[e];exact hk
 ·exact h i (by omega)
theorem zFz (s:ByteArray) (g cap b:Nat) (w:World) (hr:∀k,k<4→R3 w g k) (hg:g<w.heap.size) (hb:w.cell? ⟨b,0,none⟩=some (.string s)) (hlt:b<w.heap.size) :
 Calls Tryz.prog 112 #[.slice (some ⟨g,0,none⟩) 4 cap,.func (.func 113) #[] #[.pointer (some ⟨b,0,none⟩)]] w fun r w'=>∃j:Int,r=.returned (I j)∧zBc (scB s) j∧Bw w w':=by
 have HR:=zAb hr;have HBC:=zAb hb;clear hr hb;go_enter Tryz.func112,Tryz.ntmps112
 go_wp2_with fail
 go_loopw [8] (fun s8 wr=>∃(k:Nat),k≤4∧s8=I (k:Int)∧Hid (∀i,i<k→scB s i=false)∧Hid (Bw w wr)) (fun s8 _=>4 - (intOf s8).toNat)
 case atStart=>exact⟨0,by omega,rfl,fun i hi=>absurd hi (by omega),Below.refl _ _⟩
 case round=>
  obtain⟨k,hk,rfl,HN,HB⟩:=hrel
  by_cases hk4:k<4
  ·have hkI:(k:Int)<4:=by omega
   have hk0:(0:Int)≤(k:Int):=by omega
   have hrow:=(un HR k hk4).later (un HB) hg;have c0:=hrow.c0;have c1:=hrow.c1;have c2:=hrow.c2;clear hrow
   have HC:Hid (∀W,Below wr.heap.size wr W→Calls Tryz.prog 113 #[.agg #[.string (sct k).nm,.string (sct k).sy,.func (.func (sct k).f) #[] #[]],.pointer (some ⟨b,0,none⟩)] W fun r w'=>r=.returned (.bool (scB s k))∧Bw W w'):=fun W hW=>
    zEe _ _ _ s b W ((bt HB hW).cell (p:=⟨b,0,none⟩) hlt |>.trans (un HBC)) (Nat.lt_of_lt_of_le hlt ((bt HB hW).size))
   have HNK:=zAb (fun (e:scB s k=false)=>zEw (un HN) e);have HYK:=zAb (fun (e:scB s k=true)=>(Or.inl ⟨k,hk4,rfl,e,un HN⟩:zBc (scB s) (k:Int)));generalize (sct k).nm=nm at *
   generalize (sct k).sy=sy at *
   generalize (sct k).f=f at *
   by_cases hB:scB s k=true
   ·have HJ:=zAb (un HYK hB)
    rw[hB]at HC;clear HNK HYK hB
    go_wp2_with (go_at_call 113;go_must(refine(un HC _ (Below.refl _ _)).mono ?_;rintro e wt ⟨rfl,hbt⟩;have HBT:=zAb hbt;clear hbt))
    go_ret
    exact⟨_,rfl,un HJ,(un HB).trans ((un HBT).mono (un HB).size)⟩
   ·have hB':scB s k=false:=by simpa using hB
    have HJ:=zAb (un HNK hB');rw[hB']at HC;clear HNK HYK hB hB'
    go_wp2_with (go_at_call 113;go_must(refine(un HC _ (Below.refl _ _)).mono ?_;rintro e wt ⟨rfl,hbt⟩;have HBT:=zAb hbt;clear hbt))
    go_roundw
    case rel=>exact⟨k+1,by omega,by go_num,HJ,(un HB).trans ((un HBT).mono (un HB).size)⟩
    case measure=>simp[intOf];omega
  ·have hkI:¬(k:Int)<4:=by omega
   go_wp2_with fail
   go_ret
   exact⟨-1,rfl,Or.inr ⟨rfl,fun i hi=>un HN i (by omega)⟩,un HB⟩
theorem find_any (s:ByteArray) (g cap:Nat) (w:World) (hr:∀k,k<4→R3 w g k) (hg:g<w.heap.size) :
 Calls Tryz.prog 48 #[.string s,.slice (some ⟨g,0,none⟩) 4 cap] w fun r w'=>((∃k:Nat,k<4∧r=.returned (.tuple #[.agg #[.string (sct k).nm,.string (sct k).sy,.func (.func (sct k).f) #[] #[]],.bool true])∧zBc (scB s) (k:Int))∨(r=.returned (.tuple #[.agg #[G #[],G #[],.nilFunc],.bool false])∧zBc (scB s) (-1)))∧Bw w w':=by
 obtain⟨V,hV⟩:∃V,V=(w.alloc (.cells #[.string s] 9)).alloc (.cells #[G #[],G #[],.nilFunc] 69):=⟨_,rfl⟩;have HBX:Hid (V.cell? ⟨w.heap.size,0,none⟩=some (.string s)∧w.heap.size<V.heap.size):=by rw[hV];exact⟨by simp[go_sem],by simp;omega⟩
 have HZ:Hid (FBox V (w.heap.size+1) (G #[]) (G #[]) (.nilFunc)):=by rw[hV];exact⟨by simp[go_sem],by simp[go_sem],by simp[go_sem],by simp[go_sem],by simp[go_sem],by simp[go_sem]⟩
 have HB:Hid (Bw w V):=by rw[hV];exact bA.alloc (by simp) _
 have HR:=zAb (fun k hk=>(hr k hk).later (un HB) hg);have HG:Hid (g<V.heap.size):=Nat.lt_of_lt_of_le hg (un HB).size;have HV:=zAb hV;have HIX:=zAb (zFz s g cap w.heap.size V (un HR) (un HG) (un HBX).1 (un HBX).2);clear hV hr;go_enter Tryz.func48,Tryz.ntmps48
 go_upto_region 1 with fail
 rw[←un HV];clear HV;have t0:=(un HBX).1
 go_upto_region 2 with (go_at_call 112;go_must(refine(un HIX).mono ?_;rintro e w1 ⟨j,rfl,hj,hb1⟩;have HJ:=zAb hj;have HB1:=zAb hb1;clear hj hb1 t0))
 have HZ1:=zAb ((un HZ).later (un HB1));have HBW:Hid (Bw w w1):=(un HB).trans ((un HB1).mono (un HB).size);have z0:=(un HZ1).c0;have z1:=(un HZ1).c1;have z2:=(un HZ1).c2;have f0:=(un HZ1).f0;have f1:=(un HZ1).f1;have f2:=(un HZ1).f2;rcases un HJ with ⟨k,hk,rfl,hk1,hk2⟩|⟨rfl,hn⟩
 ·have hk0:(0:Int)≤(k:Int):=by omega
  have hkI:(k:Int)<4:=by omega
  have hrow:=(un HR k hk).later (un HB1) (un HG);have c0:=hrow.c0;have c1:=hrow.c1;have c2:=hrow.c2;have HOUT:Hid (∀w',Below w.heap.size w w'→(((∃k':Nat,k'<4∧Ending.returned (.tuple #[.agg #[.string (sct k).nm,.string (sct k).sy,.func (.func (sct k).f) #[] #[]],.bool true])=.returned (.tuple #[.agg #[.string (sct k').nm,.string (sct k').sy,.func (.func (sct k').f) #[] #[]],.bool true])∧zBc (scB s) (k':Int))∨(Ending.returned (.tuple #[.agg #[.string (sct k).nm,.string (sct k).sy,.func (.func (sct k).f) #[] #[]],.bool true])=.returned (.tuple #[.agg #[G #[],G #[],.nilFunc],.bool false])∧zBc (scB s) (-1)))∧Bw w w')):=fun w' hb=>⟨Or.inl ⟨k,hk,rfl,Or.inl ⟨k,hk,rfl,hk1,hk2⟩⟩,hb⟩
  clear hrow hk1 hk2;generalize (sct k).nm=nm at c0 c1 c2 HOUT
  generalize (sct k).sy=sy at c0 c1 c2 HOUT
  generalize (sct k).f=f at c0 c1 c2 HOUT
  go_wp2_with fail
  have hS:=(un HZ1).store (.string nm) (.string sy) (.func (.func f) #[] #[]);have v0:=hS.c0;have v1:=hS.c1;have v2:=hS.c2;exact bodyPost_ret (v:=.tuple #[.agg #[.string nm,.string sy,.func (.func f) #[] #[]],.bool true]) (w:=zAs w1 (w.heap.size+1) (.string nm) (.string sy) (.func (.func f) #[] #[])) (by simp[results,Tryz.results48,go_sem,v0,v1,v2]) rfl (un HOUT _ (zAq (un HBW) (Nat.le_succ _) _ _ _))
 ·go_wp2_with fail
  have hS:=(un HZ1).store (G #[]) (G #[]) (.nilFunc);have v0:=hS.c0;have v1:=hS.c1;have v2:=hS.c2;exact bodyPost_ret (v:=.tuple #[.agg #[G #[],G #[],.nilFunc],.bool false]) (w:=zAs w1 (w.heap.size+1) (G #[]) (G #[]) (.nilFunc)) (by simp[results,Tryz.results48,go_sem,v0,v1,v2]) rfl ⟨Or.inr ⟨rfl,Or.inr ⟨rfl,hn⟩⟩,zAq (un HBW) (Nat.le_succ _) _ _ _⟩
theorem times_t (w:World):Calls Tryz.prog 183 #[.agg #[I 1,I 1],.agg #[I 1,I 100]] w fun r w'=>r=.returned (.agg #[I 1,I 100])∧Bw w w':=by
 go_enter Tryz.func183,Tryz.ntmps183
 go_wp2
 exact bodyPost_ret (v:=.agg #[I 1,I 100]) (by simp[results,Tryz.results183,go_sem]) rfl ⟨rfl,(bA.alloc (by simp) _).alloc (by simp;omega) _⟩
theorem plus_t (w:World):Calls Tryz.prog 184 #[.agg #[I 1,I 100],.agg #[I 27315,I 100]] w fun r w'=>r=.returned (.agg #[I 2731600,I 10000])∧Bw w w':=by
 go_enter Tryz.func184,Tryz.ntmps184
 go_wp2
 exact bodyPost_ret (v:=.agg #[I 2731600,I 10000]) (by simp[results,Tryz.results184,go_sem]) rfl ⟨rfl,(bA.alloc (by simp) _).alloc (by simp;omega) _⟩
theorem kelvins_t (w:World):Calls Tryz.prog 117 #[.agg #[I 1,I 1,I 27315,I 100],.agg #[I 1,I 100]] w fun r w'=>r=.returned (.agg #[I 2731600,I 10000])∧Bw w w':=by
 obtain⟨V,hV⟩:∃V,V=((w.alloc (.cells #[I 1,I 1,I 27315,I 100] 138)).alloc (.cells #[I 1,I 100] 89)).alloc (.cells #[I 0,I 0] 89):=⟨_,rfl⟩;have HA:Hid (T4 V w.heap.size (I 1) (I 1) (I 27315) (I 100)):=by rw[hV];exact⟨by simp[go_sem],by simp[go_sem],by simp[go_sem],by simp[go_sem],by simp[go_sem],by simp[go_sem],by simp[go_sem],by simp[go_sem]⟩
 have HC:Hid (T2 V (w.heap.size+1) (I 1) (I 100)):=by rw[hV];exact⟨by simp[go_sem],by simp[go_sem],by simp[go_sem],by simp[go_sem]⟩
 have HR:Hid (T2 V (w.heap.size+2) (I 0) (I 0)):=by rw[hV];exact⟨by simp[go_sem],by simp[go_sem],by simp[go_sem],by simp[go_sem]⟩
 have HB:Hid (Bw w V):=by rw[hV];exact(bA.alloc (by simp) _).alloc (by simp;omega) _
 have HV:=zAb hV;clear hV;go_enter Tryz.func117,Tryz.ntmps117
 go_upto_region 1 with fail
 rw[←un HV];clear HV
 have HS:Hid (∀W,Below V.heap.size V W→W.cell? ⟨w.heap.size,0,none⟩=some (I 1)∧W.cell? ⟨w.heap.size,1,none⟩=some (I 1)∧W.cell? ⟨w.heap.size,2,none⟩=some (I 27315)∧W.cell? ⟨w.heap.size,3,none⟩=some (I 100)∧W.cell? ⟨w.heap.size+1,0,none⟩=some (I 1)∧W.cell? ⟨w.heap.size+1,1,none⟩=some (I 100)):=fun W hb=>by
  have h1:=(un HA).later hb;have h2:=(un HC).later hb;exact⟨h1.c0,h1.c1,h1.c2,h1.c3,h2.c0,h2.c1⟩
 have HS0:=zAb (un HS V.drew ((Below.refl _ _).drew));refine zAi 7 (fun W=>W.cell? ⟨w.heap.size,0,none⟩=some (I 1)∧W.cell? ⟨w.heap.size,1,none⟩=some (I 1)∧W.cell? ⟨w.heap.size,2,none⟩=some (I 27315)∧W.cell? ⟨w.heap.size,3,none⟩=some (I 100)∧W.cell? ⟨w.heap.size+1,0,none⟩=some (I 1)∧W.cell? ⟨w.heap.size+1,1,none⟩=some (I 100)) (fun _=>True) 8 rfl (by kernel_rfl) ?_;refine wT 0 (.pointer (some ⟨w.heap.size,0,none⟩)) rfl (Or.inl ⟨by rfl,?_⟩) ⟨un HS0,trivial⟩ ?_
 ·intro W hW
  go_split_ands
  go_simp
 refine wT 1 (.agg #[I 1,I 1]) rfl (Or.inl ⟨by rfl,?_⟩) ⟨un HS0,trivial⟩ ?_
 ·intro W hW
  go_split_ands
  go_simp
 refine wT 2 (.agg #[I 1,I 100]) rfl (Or.inl ⟨by rfl,?_⟩) ⟨un HS0,trivial⟩ ?_
 ·intro W hW
  go_split_ands
  go_simp
 refine wT 4 (.pointer (some ⟨w.heap.size,2,none⟩)) rfl (Or.inl ⟨by rfl,?_⟩) ⟨un HS0,trivial⟩ ?_
 ·intro W hW
  go_split_ands
  go_simp
 refine wT 5 (.agg #[I 27315,I 100]) rfl (Or.inl ⟨by rfl,?_⟩) ⟨un HS0,trivial⟩ ?_
 ·intro W hW
  go_split_ands
  go_simp
 refine wO 3 rfl rfl (fun K hK=>?_)
 go_simp
 refine(times_t _).mono ?_;rintro e wa ⟨rfl,hba⟩;have HBA:Hid (Bw V wa):=(Below.refl _ _).drew.trans (hba.mono (Below.refl V.heap.size V).drew.size);have HSA:=zAb (un HS wa (un HBA));clear hba;refine hK _ _ ⟨un HSA,trivial⟩ ?_;clear hK K;refine wO 6 rfl rfl (fun K hK=>?_)
 go_simp
 refine(plus_t _).mono ?_;rintro e wt ⟨rfl,hbt⟩;have HBT:Hid (Bw V wt):=bt HBA hbt;have HST:=zAb (un HS wt (un HBT));have HT:=zAb ((un HR).later (un HBT));clear hbt;have r0:=(un HT).c0;have r1:=(un HT).c1;have f0:=(un HT).f0;have f1:=(un HT).f1;refine hK _ _ ⟨un HST,trivial⟩ ?_;clear hK K;refine wL 7 rfl rfl (fun K hK=>?_)
 go_simp
 refine hK _ _ trivial ?_;clear hK K;refine wDn ?_
 go_wp2_with fail
 have hS:=(un HT).store (I 2731600) (I 10000);have v0:=hS.c0;have v1:=hS.c1;exact bodyPost_ret (v:=.agg #[I 2731600,I 10000]) (w:=zBh wt (w.heap.size+2) (I 2731600) (I 10000)) (by simp[results,Tryz.results117,go_sem,v0,v1]) rfl ⟨rfl,zAk ((un HB).trans ((un HBT).mono (un HB).size)) (by omega) _ _⟩
theorem times_b (w:World):Calls Tryz.prog 183 #[.agg #[I 1,I 1],.agg #[I 100,I 1]] w fun r w'=>r=.returned (.agg #[I 100,I 1])∧Bw w w':=by
 go_enter Tryz.func183,Tryz.ntmps183
 go_wp2
 exact bodyPost_ret (v:=.agg #[I 100,I 1]) (by simp[results,Tryz.results183,go_sem]) rfl ⟨rfl,(bA.alloc (by simp) _).alloc (by simp;omega) _⟩
theorem plus_b (w:World):Calls Tryz.prog 184 #[.agg #[I 100,I 1],.agg #[I 27315,I 100]] w fun r w'=>r=.returned (.agg #[I 37315,I 100])∧Bw w w':=by
 go_enter Tryz.func184,Tryz.ntmps184
 go_wp2
 exact bodyPost_ret (v:=.agg #[I 37315,I 100]) (by simp[results,Tryz.results184,go_sem]) rfl ⟨rfl,(bA.alloc (by simp) _).alloc (by simp;omega) _⟩
theorem kelvins_b (w:World):Calls Tryz.prog 117 #[.agg #[I 1,I 1,I 27315,I 100],.agg #[I 100,I 1]] w fun r w'=>r=.returned (.agg #[I 37315,I 100])∧Bw w w':=by
 obtain⟨V,hV⟩:∃V,V=((w.alloc (.cells #[I 1,I 1,I 27315,I 100] 138)).alloc (.cells #[I 100,I 1] 89)).alloc (.cells #[I 0,I 0] 89):=⟨_,rfl⟩;have HA:Hid (T4 V w.heap.size (I 1) (I 1) (I 27315) (I 100)):=by rw[hV];exact⟨by simp[go_sem],by simp[go_sem],by simp[go_sem],by simp[go_sem],by simp[go_sem],by simp[go_sem],by simp[go_sem],by simp[go_sem]⟩
 have HC:Hid (T2 V (w.heap.size+1) (I 100) (I 1)):=by rw[hV];exact⟨by simp[go_sem],by simp[go_sem],by simp[go_sem],by simp[go_sem]⟩
 have HR:Hid (T2 V (w.heap.size+2) (I 0) (I 0)):=by rw[hV];exact⟨by simp[go_sem],by simp[go_sem],by simp[go_sem],by simp[go_sem]⟩
 have HB:Hid (Bw w V):=by rw[hV];exact(bA.alloc (by simp) _).alloc (by simp;omega) _
 have HV:=zAb hV;clear hV;go_enter Tryz.func117,Tryz.ntmps117
 go_upto_region 1 with fail
 rw[←un HV];clear HV
 have HS:Hid (∀W,Below V.heap.size V W→W.cell? ⟨w.heap.size,0,none⟩=some (I 1)∧W.cell? ⟨w.heap.size,1,none⟩=some (I 1)∧W.cell? ⟨w.heap.size,2,none⟩=some (I 27315)∧W.cell? ⟨w.heap.size,3,none⟩=some (I 100)∧W.cell? ⟨w.heap.size+1,0,none⟩=some (I 100)∧W.cell? ⟨w.heap.size+1,1,none⟩=some (I 1)):=fun W hb=>by
  have h1:=(un HA).later hb;have h2:=(un HC).later hb;exact⟨h1.c0,h1.c1,h1.c2,h1.c3,h2.c0,h2.c1⟩
 have HS0:=zAb (un HS V.drew ((Below.refl _ _).drew));refine zAi 7 (fun W=>W.cell? ⟨w.heap.size,0,none⟩=some (I 1)∧W.cell? ⟨w.heap.size,1,none⟩=some (I 1)∧W.cell? ⟨w.heap.size,2,none⟩=some (I 27315)∧W.cell? ⟨w.heap.size,3,none⟩=some (I 100)∧W.cell? ⟨w.heap.size+1,0,none⟩=some (I 100)∧W.cell? ⟨w.heap.size+1,1,none⟩=some (I 1)) (fun _=>True) 8 rfl (by kernel_rfl) ?_;refine wT 0 (.pointer (some ⟨w.heap.size,0,none⟩)) rfl (Or.inl ⟨by rfl,?_⟩) ⟨un HS0,trivial⟩ ?_
 ·intro W hW
  go_split_ands
  go_simp
 refine wT 1 (.agg #[I 1,I 1]) rfl (Or.inl ⟨by rfl,?_⟩) ⟨un HS0,trivial⟩ ?_
 ·intro W hW
  go_split_ands
  go_simp
 refine wT 2 (.agg #[I 100,I 1]) rfl (Or.inl ⟨by rfl,?_⟩) ⟨un HS0,trivial⟩ ?_
 ·intro W hW
  go_split_ands
  go_simp
 refine wT 4 (.pointer (some ⟨w.heap.size,2,none⟩)) rfl (Or.inl ⟨by rfl,?_⟩) ⟨un HS0,trivial⟩ ?_
 ·intro W hW
  go_split_ands
  go_simp
 refine wT 5 (.agg #[I 27315,I 100]) rfl (Or.inl ⟨by rfl,?_⟩) ⟨un HS0,trivial⟩ ?_
 ·intro W hW
  go_split_ands
  go_simp
 refine wO 3 rfl rfl (fun K hK=>?_)
 go_simp
 refine(times_b _).mono ?_;rintro e wa ⟨rfl,hba⟩;have HBA:Hid (Bw V wa):=(Below.refl _ _).drew.trans (hba.mono (Below.refl V.heap.size V).drew.size);have HSA:=zAb (un HS wa (un HBA));clear hba;refine hK _ _ ⟨un HSA,trivial⟩ ?_;clear hK K;refine wO 6 rfl rfl (fun K hK=>?_)
 go_simp
 refine(plus_b _).mono ?_;rintro e wt ⟨rfl,hbt⟩;have HBT:Hid (Bw V wt):=bt HBA hbt;have HST:=zAb (un HS wt (un HBT));have HT:=zAb ((un HR).later (un HBT));clear hbt;have r0:=(un HT).c0;have r1:=(un HT).c1;have f0:=(un HT).f0;have f1:=(un HT).f1;refine hK _ _ ⟨un HST,trivial⟩ ?_;clear hK K;refine wL 7 rfl rfl (fun K hK=>?_)
 go_simp
 refine hK _ _ trivial ?_;clear hK K;refine wDn ?_
 go_wp2_with fail
 have hS:=(un HT).store (I 37315) (I 100);have v0:=hS.c0;have v1:=hS.c1;exact bodyPost_ret (v:=.agg #[I 37315,I 100]) (w:=zBh wt (w.heap.size+2) (I 37315) (I 100)) (by simp[results,Tryz.results117,go_sem,v0,v1]) rfl ⟨rfl,zAk ((un HB).trans ((un HBT).mono (un HB).size)) (by omega) _ _⟩
def ptn:Nat→ByteArray
 | 0=>⟨#[97,98,115,111,108,117,116,101]⟩
 | 1=>⟨#[105,99,101]⟩
 | 2=>⟨#[116,114,105,112,108,101]⟩
 | _=>⟨#[98,111,105,108,105,110,103]⟩
def ptB (p:ByteArray) (k:Nat):Bool:=p.toList == (ptn k).toList
theorem index4 (s:ByteArray) (g cap:Nat) (w:World) (hr:∀k,k<4→w.cell? ⟨g,k,none⟩=some (.string (ptn k))) (hg:g<w.heap.size) :
 Calls Tryz.prog 49 #[.slice (some ⟨g,0,none⟩) 4 cap,.string s] w fun r w'=>∃j:Int,r=.returned (I j)∧zBc (ptB s) j∧Bw w w':=by
 have HR:=zAb hr;clear hr;go_enter Tryz.func49,Tryz.ntmps49
 go_wp2_with fail
 go_loopw [8] (fun s8 wr=>∃(k:Nat),k≤4∧s8=I (k:Int)∧Hid (∀i,i<k→ptB s i=false)∧Hid (Bw w wr)) (fun s8 _=>4 - (intOf s8).toNat)
 case atStart=>exact⟨0,by omega,rfl,fun i hi=>absurd hi (by omega),Below.refl _ _⟩
 case round=>
  obtain⟨k,hk,rfl,HN,HB⟩:=hrel
  by_cases hk4:k<4
  ·have hkI:(k:Int)<4:=by omega
   have hk0:(0:Int)≤(k:Int):=by omega
   have c0:wr.cell? ⟨g,k,none⟩=some (.string (ptn k)):=((un HB).cell (p:=⟨g,k,none⟩) hg).trans (un HR k hk4);have HNK:=zAb (fun (e:ptB s k=false)=>zEw (un HN) e);have HYK:=zAb (fun (e:ptB s k=true)=>(Or.inl ⟨k,hk4,rfl,e,un HN⟩:zBc (ptB s) (k:Int)));have HSB:Hid (ptB s k=(s.toList == (ptn k).toList)):=rfl;generalize ptn k=nm at *
   by_cases hB:ptB s k=true
   ·have HJ:=zAb (un HYK hB)
    have heq:(s.toList == nm.toList)=true:=(un HSB).symm.trans hB;clear HNK HYK hB HSB HN
    go_wp2_with fail
    go_ret
    exact⟨_,rfl,un HJ,un HB⟩
   ·have hB':ptB s k=false:=by simpa using hB
    have HJ:=zAb (un HNK hB');have heq:(s.toList == nm.toList)=false:=(un HSB).symm.trans hB';clear HNK HYK hB hB' HSB HN
    go_wp2_with fail
    go_roundw
    case rel=>exact⟨k+1,by omega,by go_num,HJ,HB⟩
    case measure=>simp[intOf];omega
  ·have hkI:¬(k:Int)<4:=by omega
   go_wp2_with fail
   go_ret
   exact⟨-1,rfl,Or.inr ⟨rfl,fun i hi=>un HN i (by omega)⟩,un HB⟩
def names4:Array Value:=#[G #[97,98,115,111,108,117,116,101],G #[105,99,101],G #[116,114,105,112,108,101],G #[98,111,105,108,105,110,103]]
theorem names4_at (W:World):∀k,k<4→(W.alloc (.cells names4 9)).cell? ⟨W.heap.size,k,none⟩=some (.string (ptn k))
 | 0,_=>(zAc.new W names4 9).ub.c 0 _ rfl
 | 1,_=>(zAc.new W names4 9).ub.c 1 _ rfl
 | 2,_=>(zAc.new W names4 9).ub.c 2 _ rfl
 | 3,_=>(zAc.new W names4 9).ub.c 3 _ rfl
 | _+4,h=>absurd h (by omega)
theorem pointNames_any (w:World):Calls Tryz.prog 50 #[] w fun r w'=>r=.returned (.slice (some ⟨w.heap.size,0,none⟩) 4 4)∧w'=w.alloc (.cells names4 9):=by
 go_enter Tryz.func50,Tryz.ntmps50
 go_wp2
 go_ret
 exact⟨rfl,rfl⟩
def pts:Array Value:=#[I 0,I 1,I 27315,I 100,I 2731600,I 10000,I 37315,I 100]
abbrev zp8:Array Value:=#[I 0,I 0,I 0,I 0,I 0,I 0,I 0,I 0]
theorem info90p:(Tryz.prog.info? 90).map (·.size)=some 8:=by kernel_rfl
theorem res90 {fn:Func} {p:Tmp} (h:fn.results=#[.cell p 90]) (tmps:Array Value) (w:World) (g:Nat) (vs:Array Value) (hl:vs.size=8) (hp:tmps.getD p undef=.pointer (some ⟨g,0,none⟩)) (ho:zAc w g 90 vs) :
 (results fn tmps).run Tryz.prog w=.ok (.agg vs) w:=by
 rw[zBb h,hp];simp only[asAddr,Sem.run_pure,Result.andThen_ok];rw[run_loadVar_row w g 90 90 vs (0,0) _ ho Tryz.underlying90 rfl (by rw[info90p,hl])]
theorem zHx (w:World):Calls Tryz.prog 53 #[] w fun r w'=>r=.returned (.agg pts)∧Bw w w':=by
 obtain⟨V,hV⟩:∃V,V=w.alloc (.cells zp8 90):=⟨_,rfl⟩;have HR:Hid (zAc V w.heap.size 90 zp8):=by rw[hV];exact zAc.new _ _ _
 have HB:Hid (Bw w V):=by rw[hV];exact bA
 have HM:=zAb zJi;unfold MadeS at HM
 have HV:=zAb hV;clear hV;go_enter Tryz.func53,Tryz.ntmps53
 go_upto_region 1 with fail
 rw[←un HV];clear HV
 go_wp2_with (first
  | (go_at_call 107;go_must(refine(un HM _).mono ?_;rintro e W1 ⟨rfl,hb⟩;have HR1:=zAb ((un HR).later hb);have HB1:Hid (Bw w W1):=bt HB hb;clear hb HR HB))
  | ((with_reducible refine(kelvins_b _).mono ?_);rintro e W4 ⟨rfl,hb⟩;have HR4:=zAb ((un HR3).later hb);have HB4:Hid (Bw w W4):=bt HB3 hb;clear hb HR3 HB3)
  | ((with_reducible refine(kelvins_t _).mono ?_);rintro e W3 ⟨rfl,hb⟩;have HR3:=zAb ((un HR2).later hb);have HB3:Hid (Bw w W3):=bt HB2 hb;clear hb HR2 HB2)
  | ((with_reducible refine(kelvins_c _).mono ?_);rintro e W2 ⟨rfl,hb⟩;have HR2:=zAb ((un HR1).later hb);have HB2:Hid (Bw w W2):=bt HB1 hb;clear hb HR1 HB1)
  | (refine zAn 90 8 info90p rfl (.tmp 0) (.tmp 14) rfl w.heap.size zp8 pts rfl rfl rfl rfl (un HR4) (by kernel_rfl) ?_))
 exact bodyPost_ret (v:=.agg pts) (res90 Tryz.results53 _ _ w.heap.size _ rfl rfl ((un HR4).setRow _)) rfl ⟨rfl,below_setRow (un HB4) (Nat.le_refl _) _⟩
def fq:Nat→Rat
 | 0=>5 / 9
 | 1=>1
 | 2=>5 / 9
 | _=>1
def oq:Nat→Rat
 | 0=>0
 | 1=>5463 / 20
 | 2=>45967 / 180
 | _=>0
theorem frac_f:∀k,k<4→∀w,Tab w→Calls Tryz.prog 54 #[.agg #[I ((sct k).a:Int),I ((sct k).b:Int)]] w fun r w'=>∃v,r=.returned v∧QOf w' v (fq k) 67∧Bw w w'
 | 0,_,w,ht=>zEq 5 9 (5 / 9) w (by decide) (by decide) (by decide +kernel) (by decide +kernel) (zDt (by decide +kernel) (by decide +kernel)) ht
 | 1,_,w,ht=>zEq 1 1 1 w (by decide) (by decide) (by decide +kernel) (by decide +kernel) (zDt (by decide +kernel) (by decide +kernel)) ht
 | 2,_,w,ht=>zEq 5 9 (5 / 9) w (by decide) (by decide) (by decide +kernel) (by decide +kernel) (zDt (by decide +kernel) (by decide +kernel)) ht
 | 3,_,w,ht=>zEq 1 1 1 w (by decide) (by decide) (by decide +kernel) (by decide +kernel) (zDt (by decide +kernel) (by decide +kernel)) ht
 | n+4,h,_,_=>absurd h (by omega)
theorem frac_o:∀k,k<4→∀w,Tab w→Calls Tryz.prog 54 #[.agg #[I ((sct k).c:Int),I ((sct k).d:Int)]] w fun r w'=>∃v,r=.returned v∧QOf w' v (oq k) 67∧Bw w w'
 | 0,_,w,ht=>zEq 0 1 0 w (by decide) (by decide) (by decide +kernel) (by decide +kernel) (zDt (by decide +kernel) (by decide +kernel)) ht
 | 1,_,w,ht=>zEq 27315 100 (5463 / 20) w (by decide) (by decide) (by decide +kernel) (by decide +kernel) (zDt (by decide +kernel) (by decide +kernel)) ht
 | 2,_,w,ht=>zEq 229835 900 (45967 / 180) w (by decide) (by decide) (by decide +kernel) (by decide +kernel) (zDt (by decide +kernel) (by decide +kernel)) ht
 | 3,_,w,ht=>zEq 0 1 0 w (by decide) (by decide) (by decide +kernel) (by decide +kernel) (zDt (by decide +kernel) (by decide +kernel)) ht
 | n+4,h,_,_=>absurd h (by omega)
def zBg (W:World) (g:Nat) (a b c d e f:Value):World:=(((((W.setCell ⟨g,0,none⟩ a).setCell ⟨g,1,none⟩ b).setCell ⟨g,2,none⟩ c).setCell ⟨g,3,none⟩ d).setCell ⟨g,4,none⟩ e).setCell ⟨g,5,none⟩ f
theorem T6.store {W:World} {g:Nat} {a b c d e f:Value} (h:T6 W g a b c d e f) (x y z t u v:Value):T6 (zBg W g x y z t u v) g x y z t u v:=by
 have c0:=h.c0;have c1:=h.c1;have c2:=h.c2;have c3:=h.c3;have c4:=h.c4;have c5:=h.c5;have f0:=h.f0;have f1:=h.f1;have f2:=h.f2;have f3:=h.f3;have f4:=h.f4;have f5:=h.f5;unfold zBg;exact⟨by simp[go_sem, *],by simp[go_sem, *],by simp[go_sem, *],by simp[go_sem, *],by simp[go_sem, *],by simp[go_sem, *],by simp[go_sem, *],by simp[go_sem, *],by simp[go_sem, *],by simp[go_sem, *],by simp[go_sem, *],by simp[go_sem, *]⟩
theorem zEs {B g:Nat} {w W:World} (h:Below B w W) (hg:B≤g) (a b c d e f:Value):Below B w (zBg W g a b c d e f) :=
 (((((h.setCell (p:=⟨g,0,none⟩) hg a).setCell (p:=⟨g,1,none⟩) hg b).setCell (p:=⟨g,2,none⟩) hg c).setCell (p:=⟨g,3,none⟩) hg d).setCell (p:=⟨g,4,none⟩) hg e).setCell (p:=⟨g,5,none⟩) hg f
theorem _root_.Go.Proofs.YtliadckofhblnaaGreatDoor.QOf.box {W:World} {vv:Value} {q:Rat} {k:Nat} (hq:QOf W vv q k) {p:Addr} {x:Value} (u:Value) (hp:W.cell? p=some x) (hx:∀k n,x≠.int k n):QOf (W.setCell p u) vv q k:=by
 obtain⟨b0,n,d,⟨s,t,e,h1,h1'⟩,h2⟩:=hq;exact⟨b0,n,d,⟨s,t,e,h1.box u hp hx,h1'.box u hp hx⟩,h2⟩
theorem _root_.Go.Proofs.YtliadckofhblnaaGreatDoor.QOf.six {W:World} {g:Nat} {b0 b1:Bool} {a1 a2 a3 a4:Option Addr} {l1 c1 l2 c2 l3 c3 l4 c4:Nat} (h:T6 W g (.bool b0) (.slice a1 l1 c1) (.slice a2 l2 c2) (.bool b1) (.slice a3 l3 c3) (.slice a4 l4 c4)) (x y z t u v:Value) {vv:Value} {q:Rat} {k:Nat} (hq:QOf W vv q k):QOf (zBg W g x y z t u v) vv q k:=by
 unfold zBg;refine QOf.box (QOf.box (QOf.box (QOf.box (QOf.box (QOf.box hq _ h.c0 (fun _ _ e=>by cases e)) _ (x:=.slice a1 l1 c1) ?_ (zAp _ _ _)) _ (x:=.slice a2 l2 c2) ?_ (zAp _ _ _)) _ (x:=.bool b1) ?_ (fun _ _ e=>by cases e)) _ (x:=.slice a3 l3 c3) ?_ (zAp _ _ _)) _ (x:=.slice a4 l4 c4) ?_ (zAp _ _ _)
 ·rw[World.cell?_setCell_other _ _ _ _ (by simp)];exact h.c1
 ·rw[World.cell?_setCell_other _ _ _ _ (by simp),World.cell?_setCell_other _ _ _ _ (by simp)];exact h.c2
 ·rw[World.cell?_setCell_other _ _ _ _ (by simp),World.cell?_setCell_other _ _ _ _ (by simp),World.cell?_setCell_other _ _ _ _ (by simp)];exact h.c3
 ·rw[World.cell?_setCell_other _ _ _ _ (by simp),World.cell?_setCell_other _ _ _ _ (by simp),World.cell?_setCell_other _ _ _ _ (by simp),World.cell?_setCell_other _ _ _ _ (by simp)];exact h.c4
 ·rw[World.cell?_setCell_other _ _ _ _ (by simp),World.cell?_setCell_other _ _ _ _ (by simp),World.cell?_setCell_other _ _ _ _ (by simp),World.cell?_setCell_other _ _ _ _ (by simp),World.cell?_setCell_other _ _ _ _ (by simp)];exact h.c5
theorem own_later {w w':World} {base e s n:Nat} {v:Value} {xs:List Value} (h:w.ownsRow base e s v n xs) (hb:Below w.heap.size w w'):w'.ownsRow base e s v n xs:=by
 obtain⟨hx,h2⟩:=h;refine⟨hx,?_⟩;rcases h2 with h2|⟨g,cap,cur,ee,hbs,hg,r⟩
 ·exact Or.inl h2
 ·exact Or.inr ⟨g,cap,cur,ee,hbs,(hb.block g (Array.getElem?_eq_some_iff.1 hg).1).trans hg,r⟩
theorem info90:(Tryz.prog.info? 69).map (fun i=>(i.zero,i.size,i.bytes))=some (some (.agg #[G #[],G #[],.nilFunc]),3,40):=by kernel_rfl
theorem under93:Tryz.prog.underlying 65=some (.slice 69):=by kernel_rfl
def kelL:List Value:=[G #[107,101,108,118,105,110],G #[75],.func (.func 114) #[] #[]]
theorem kel_new (W:World):∀j u,kelL[j]?=some u→(W.alloc (.cells #[G #[107,101,108,118,105,110],G #[75],.func (.func 114) #[] #[]] 69)).cell? ((⟨W.heap.size,0,none⟩:Addr).add j)=some u:=by
 intro j u hu;unfold kelL at hu
 rcases j with _|_|_|j<;>simp at hu
 all_goals (subst hu;simp[Addr.add,go_sem])
theorem kel_one:∀u∈kelL,u.oneCell'=true:=by
 intro u hu;unfold kelL at hu
 simp only[List.mem_cons,List.not_mem_nil,or_false]at hu;rcases hu with rfl|rfl|rfl<;>rfl
theorem rows3_own (w:World):(w.alloc (.cells rows3 69)).ownsRow w.heap.size 69 3 (.slice (some ⟨w.heap.size,0,none⟩) 3 3) 3 rows3.toList :=
 ⟨rfl,Or.inr ⟨w.heap.size,3,rows3,rfl,Nat.le_refl _,heap_alloc_new w _,Nat.le_refl _,by unfold maxLen;omega,rfl,rfl⟩⟩
theorem rows4_at {W:World} {base:Nat} {v:Value} (h:W.ownsRow base 69 3 v 4 (rows3.toList ++ kelL)):∃g cap,v=.slice (some ⟨g,0,none⟩) 4 cap∧g<W.heap.size∧∀k,k<4→R3 W g k:=by
 obtain⟨g,cap,rfl⟩:=Joins.ownsRow_form h (by decide);refine⟨g,cap,rfl,(h.lt g rfl).2,fun k hk=>?_⟩
 have e:∀q u,(rows3.toList ++ kelL)[q]?=some u→q<12→W.cell? ⟨g,q,none⟩=some u:=fun q u hu hq=>by
  rw[h.cellAt q (by omega),hu]
 match k,hk with
 | 0,_=>exact⟨e 0 _ rfl (by omega),e 1 _ rfl (by omega),e 2 _ rfl (by omega)⟩
 | 1,_=>exact⟨e 3 _ rfl (by omega),e 4 _ rfl (by omega),e 5 _ rfl (by omega)⟩
 | 2,_=>exact⟨e 6 _ rfl (by omega),e 7 _ rfl (by omega),e 8 _ rfl (by omega)⟩
 | 3,_=>exact⟨e 9 _ rfl (by omega),e 10 _ rfl (by omega),e 11 _ rfl (by omega)⟩
def KnownR (s:ByteArray) (v:Value) (w:World):Prop :=
 (∃(k:Nat) (b c:Bool) (a1 a2 a3 a4:Option Addr) (l1 c1 l2 c2 l3 c3 l4 c4:Nat),k<4∧zBc (scB s) (k:Int)∧v=.tuple #[.agg #[.bool b,.slice a1 l1 c1,.slice a2 l2 c2,.bool c,.slice a3 l3 c3,.slice a4 l4 c4],.bool true]∧QOf w (.agg #[.bool b,.slice a1 l1 c1,.slice a2 l2 c2]) (fq k) 67∧QOf w (.agg #[.bool c,.slice a3 l3 c3,.slice a4 l4 c4]) (oq k) 67)
 ∨ (zBc (scB s) (-1)∧v=.tuple #[.agg #[.bool false,.slice none 0 0,.slice none 0 0,.bool false,.slice none 0 0,.slice none 0 0],.bool false])
theorem known_any (s:ByteArray) (w:World) (htab:Tab w):Calls Tryz.prog 51 #[.string s] w fun r w'=>∃v,r=.returned v∧KnownR s v w'∧Bw w w':=by
 obtain⟨i0,hi,hz0,hz1,hz2⟩:=info_parts info90;obtain⟨V,hV⟩:∃V,V=w.alloc (.cells #[.bool false,.slice none 0 0,.slice none 0 0,.bool false,.slice none 0 0,.slice none 0 0] 84):=⟨_,rfl⟩;have HZ:Hid (T6 V w.heap.size (.bool false) (.slice none 0 0) (.slice none 0 0) (.bool false) (.slice none 0 0) (.slice none 0 0)):=by rw[hV];exact⟨by simp[go_sem],by simp[go_sem],by simp[go_sem],by simp[go_sem],by simp[go_sem],by simp[go_sem],by simp[go_sem],by simp[go_sem],by simp[go_sem],by simp[go_sem],by simp[go_sem],by simp[go_sem]⟩
 have HB:Hid (Bw w V):=by rw[hV];exact bA
 have HV:=zAb hV;have HTW:=zAb htab;clear hV htab;have HRO:=zAb (zEm V);go_enter Tryz.func51,Tryz.ntmps51
 go_upto_region 1 with fail
 rw[←un HV];clear HV
 go_upto_region 2 with (first
  | (go_at_call 43;go_must(refine(un HRO).mono ?_;rintro e w1 ⟨rfl,hw1⟩;have HO1:Hid (w1.ownsRow V.heap.size 69 3 (.slice (some ⟨V.heap.size,0,none⟩) 3 3) 3 rows3.toList):=(by rw[hw1];exact rows3_own V);have HB1:Hid (Bw V w1):=(by rw[hw1];exact bA);clear hw1))
  | (at_builtin;refine wpList_append_own _ rfl _ _ 65 rfl V.heap.size 69 i0 (.agg #[G #[],G #[],.nilFunc]) 3 40 under93 hi hz0 hz1 hz2 rfl (by decide) _ 3 rows3.toList rfl (own_later (un HO1) bA) ⟨w1.heap.size,0,none⟩ 1 1 kelL rfl rfl (kel_new _) kel_one (by unfold maxLen;omega) (by omega) (by have h1:=(un HB1).size;simp;omega) ?_;intro v2 w2 hown hgrow hnil;obtain⟨g,cap,rfl,hg,hr4⟩:=rows4_at hown;have HR4:=zAb hr4;have HG:=zAb hg;have HB2:Hid (Bw V w2):=((un HB1).alloc (un HB1).size _).grown hgrow (by have h1:=(un HB1).size;simp;omega) (fun j hj=>((un HO1).lt j hj).1);clear hown hgrow hnil hr4 hg)
  | (go_at_call 48;go_must(refine(find_any s g cap _ (un HR4) (un HG)).mono ?_;rintro e w3 ⟨hf,hb3⟩;have HB3:Hid (Bw V w3):=bt HB2 hb3;have HFD:=zAb hf;clear hf hb3;rcases un HFD with ⟨k,hk,rfl,hfk⟩|⟨rfl,hfn⟩)))
 ·have HFK:=zAb hfk
  clear hfk HFD;obtain⟨Y,hY⟩:∃Y,Y=w3.alloc (.cells #[.string (sct k).nm,.string (sct k).sy,.func (.func (sct k).f) #[] #[]] 69):=⟨_,rfl⟩;have HXY:Hid (FBox Y w3.heap.size (.string (sct k).nm) (.string (sct k).sy) (.func (.func (sct k).f) #[] #[])):=by rw[hY];exact⟨by simp[go_sem],by simp[go_sem],by simp[go_sem],by simp[go_sem],by simp[go_sem],by simp[go_sem]⟩
  have HBY:Hid (Bw V Y):=by rw[hY];exact(un HB3).alloc (un HB3).size _
  rw[←hY];clear hY;generalize w3.heap.size=g3 at *
  have HM:=zAb (made_sc k hk);unfold MadeS at HM
  have hen:=enter_sc k hk;have HFF:=zAb (fun W (ht:Tab W)=>frac_f k hk W ht);have HFO:=zAb (fun W (ht:Tab W)=>frac_o k hk W ht);have HOUT:Hid (∀(b c:Bool) (a1 a2 a3 a4:Option Addr) (l1 c1 l2 c2 l3 c3 l4 c4:Nat) (W:World),QOf W (.agg #[.bool b,.slice a1 l1 c1,.slice a2 l2 c2]) (fq k) 67→QOf W (.agg #[.bool c,.slice a3 l3 c3,.slice a4 l4 c4]) (oq k) 67→KnownR s (.tuple #[.agg #[.bool b,.slice a1 l1 c1,.slice a2 l2 c2,.bool c,.slice a3 l3 c3,.slice a4 l4 c4],.bool true]) W):=fun b c a1 a2 a3 a4 l1 c1 l2 c2 l3 c3 l4 c4 W h1 h2=>Or.inl ⟨k,b,c,a1,a2,a3,a4,l1,c1,l2,c2,l3,c3,l4,c4,hk,un HFK,rfl,h1,h2⟩
  generalize (sct k).nm=nm at *
  generalize (sct k).sy=sy at *
  generalize (sct k).f=f at *
  generalize (sct k).a=na at *
  generalize (sct k).b=nb at *
  generalize (sct k).c=nc at *
  generalize (sct k).d=nd at *
  have x2:=(un HXY).c2
  go_upto_region 5 with (refine(un HM _).mono ?_;rintro e w5 ⟨rfl,hb5⟩;have HB5:Hid (Bw V w5):=bt HBY hb5;clear hb5 x2)
  obtain⟨U,hU⟩:∃U,U=w5.alloc (.cells #[I (na:Int),I (nb:Int),I (nc:Int),I (nd:Int)] 138):=⟨_,rfl⟩;have HU4:Hid (T4 U w5.heap.size (I (na:Int)) (I (nb:Int)) (I (nc:Int)) (I (nd:Int))):=by rw[hU];exact⟨by simp[go_sem],by simp[go_sem],by simp[go_sem],by simp[go_sem],by simp[go_sem],by simp[go_sem],by simp[go_sem],by simp[go_sem]⟩
  have HBU:Hid (Bw V U):=by rw[hU];exact(un HB5).alloc (un HB5).size _
  rw[←hU];clear hU;generalize w5.heap.size=g6 at *
  have HZU:=zAb ((un HZ).later (un HBU));have HBW:Hid (Bw w U):=(un HB).trans ((un HBU).mono (un HB).size);have HTD:Hid (∀W,Below U.heap.size U W→Tab W):=fun W hb=>(un HTW).later (bt HBW hb)
  have HSS:Hid (∀W,Below U.heap.size U W→W.cell? ⟨g6,0,none⟩=some (I (na:Int))∧W.cell? ⟨g6,1,none⟩=some (I (nb:Int))∧W.cell? ⟨g6,2,none⟩=some (I (nc:Int))∧W.cell? ⟨g6,3,none⟩=some (I (nd:Int))):=fun W hb=>by
   have h1:=(un HU4).later hb;exact⟨h1.c0,h1.c1,h1.c2,h1.c3⟩
  have HS0:=zAb (un HSS U.drew ((Below.refl _ _).drew));refine zAi 7 (fun W=>W.cell? ⟨g6,0,none⟩=some (I (na:Int))∧W.cell? ⟨g6,1,none⟩=some (I (nb:Int))∧W.cell? ⟨g6,2,none⟩=some (I (nc:Int))∧W.cell? ⟨g6,3,none⟩=some (I (nd:Int))) (fun _=>True) 9 rfl (by kernel_rfl) ?_;refine wT 0 (.pointer (some ⟨g6,0,none⟩)) rfl (Or.inl ⟨by rfl,?_⟩) ⟨un HS0,trivial⟩ ?_
  ·intro W hW
   go_split_ands
   go_simp
  refine wT 1 (.agg #[I (na:Int),I (nb:Int)]) rfl (Or.inl ⟨by rfl,?_⟩) ⟨un HS0,trivial⟩ ?_
  ·intro W hW
   go_split_ands
   go_simp
  refine wT 3 (.pointer (some ⟨g6,2,none⟩)) rfl (Or.inl ⟨by rfl,?_⟩) ⟨un HS0,trivial⟩ ?_
  ·intro W hW
   go_split_ands
   go_simp
  refine wT 4 (.agg #[I (nc:Int),I (nd:Int)]) rfl (Or.inl ⟨by rfl,?_⟩) ⟨un HS0,trivial⟩ ?_
  ·intro W hW
   go_split_ands
   go_simp
  refine wO 2 rfl rfl (fun K hK=>?_)
  go_simp
  refine(un HFF _ (un HTD _ ((Below.refl _ _).drew))).mono ?_;rintro e wa ⟨va,rfl,hva,hba⟩;obtain⟨b,a1,l1,c1,a2,l2,c2,rfl⟩:=hva.form;have HBA:Hid (Bw U wa):=(Below.refl _ _).drew.trans (hba.mono (Below.refl U.heap.size U).drew.size);have HSA:=zAb (un HSS wa (un HBA));have HVA:=zAb hva;clear hba hva;refine hK _ _ ⟨un HSA,trivial⟩ ?_;clear hK K;refine wO 5 rfl rfl (fun K hK=>?_)
  go_simp
  refine(un HFO _ (un HTD _ (un HBA))).mono ?_;rintro e wc ⟨vc,rfl,hvc,hbc⟩;obtain⟨c,a3,l3,c3,a4,l4,c4,rfl⟩:=hvc.form;have HBC:Hid (Bw U wc):=bt HBA hbc;have HSC:=zAb (un HSS wc (un HBC));have HVC:=zAb hvc;have HVA2:=zAb ((un HVA).later hbc);have HZC:=zAb ((un HZU).later (un HBC));clear hbc hvc;have z0:=(un HZC).c0;have z1:=(un HZC).c1;have z2:=(un HZC).c2;have z3:=(un HZC).c3;have z4:=(un HZC).c4;have z5:=(un HZC).c5;have f0:=(un HZC).f0;have f1:=(un HZC).f1;have f2:=(un HZC).f2;have f3:=(un HZC).f3;have f4:=(un HZC).f4;have f5:=(un HZC).f5;refine hK _ _ ⟨un HSC,trivial⟩ ?_;clear hK K;refine wO 6 rfl rfl (fun K hK=>?_)
  go_simp
  refine hK _ _ ⟨un HSC,trivial⟩ ?_;clear hK K;refine wL 7 rfl rfl (fun K hK=>?_)
  go_simp
  refine hK _ _ trivial ?_;clear hK K;refine wL 8 rfl rfl (fun K hK=>?_)
  go_simp
  refine hK _ _ trivial ?_;clear hK K;refine wDn ?_
  go_wp2_with fail
  have hS:=(un HZC).store (.bool b) (.slice a1 l1 c1) (.slice a2 l2 c2) (.bool c) (.slice a3 l3 c3) (.slice a4 l4 c4);have v0:=hS.c0;have v1:=hS.c1;have v2:=hS.c2;have v3:=hS.c3;have v4:=hS.c4;have v5:=hS.c5;exact bodyPost_ret (v:=.tuple #[.agg #[.bool b,.slice a1 l1 c1,.slice a2 l2 c2,.bool c,.slice a3 l3 c3,.slice a4 l4 c4],.bool true]) (w:=zBg wc w.heap.size (.bool b) (.slice a1 l1 c1) (.slice a2 l2 c2) (.bool c) (.slice a3 l3 c3) (.slice a4 l4 c4)) (by simp[results,Tryz.results51,go_sem,v0,v1,v2,v3,v4,v5]) rfl ⟨_,rfl,un HOUT b c a1 a2 a3 a4 l1 c1 l2 c2 l3 c3 l4 c4 _ ((un HVA2).six (un HZC) _ _ _ _ _ _) ((un HVC).six (un HZC) _ _ _ _ _ _),zEs ((un HBW).trans ((un HBC).mono (un HBW).size)) (Nat.le_refl _) _ _ _ _ _ _⟩
 ·have HFN:=zAb hfn
  clear hfn HFD;obtain⟨Y,hY⟩:∃Y,Y=w3.alloc (.cells #[G #[],G #[],.nilFunc] 69):=⟨_,rfl⟩;have HBY:Hid (Bw V Y):=by rw[hY];exact(un HB3).alloc (un HB3).size _
  rw[←hY];clear hY;generalize w3.heap.size=g3 at *
  have HZY:=zAb ((un HZ).later (un HBY));have z0:=(un HZY).c0;have z1:=(un HZY).c1;have z2:=(un HZY).c2;have z3:=(un HZY).c3;have z4:=(un HZY).c4;have z5:=(un HZY).c5;have f0:=(un HZY).f0;have f1:=(un HZY).f1;have f2:=(un HZY).f2;have f3:=(un HZY).f3;have f4:=(un HZY).f4;have f5:=(un HZY).f5
  go_wp2_with fail
  have hS:=(un HZY).store (.bool false) (.slice none 0 0) (.slice none 0 0) (.bool false) (.slice none 0 0) (.slice none 0 0);have v0:=hS.c0;have v1:=hS.c1;have v2:=hS.c2;have v3:=hS.c3;have v4:=hS.c4;have v5:=hS.c5;exact bodyPost_ret (v:=.tuple #[.agg #[.bool false,.slice none 0 0,.slice none 0 0,.bool false,.slice none 0 0,.slice none 0 0],.bool false]) (w:=zBg Y w.heap.size (.bool false) (.slice none 0 0) (.slice none 0 0) (.bool false) (.slice none 0 0) (.slice none 0 0)) (by simp[results,Tryz.results51,go_sem,v0,v1,v2,v3,v4,v5]) rfl ⟨_,rfl,Or.inr ⟨un HFN,rfl⟩,zEs ((un HB).trans ((un HBY).mono (un HB).size)) (Nat.le_refl _) _ _ _ _ _ _⟩
theorem zCi {p:Nat→Bool} {i j:Int} (h1:zBc p i) (h2:zBc p j):i=j:=by
 rcases h1 with ⟨a,ha,rfl,pa,na⟩|⟨rfl,na⟩<;>rcases h2 with ⟨b,hb,rfl,pb,nb⟩|⟨rfl,nb⟩
 ·have h3:¬a<b:=fun h=>by rw[nb a h]at pa;cases pa
  have h4:¬b<a:=fun h=>by rw[na b h]at pb;cases pb
  omega
 ·rw[nb a ha]at pa;cases pa
 ·rw[na b hb]at pb;cases pb
 ·rfl
theorem known_at (s:ByteArray) (i:Nat) (hi:zBc (scB s) (i:Int)) (w:World) (htab:Tab w):Calls Tryz.prog 51 #[.string s] w fun r w'=>∃(bp bq:Bool) (ap dp aq dq:Option Addr) (lp cp mp ep lq cq mq eq:Nat),r=.returned (.tuple #[.agg #[.bool bp,.slice ap lp cp,.slice dp mp ep,.bool bq,.slice aq lq cq,.slice dq mq eq],.bool true])∧QOf w' (.agg #[.bool bp,.slice ap lp cp,.slice dp mp ep]) (fq i) 67∧QOf w' (.agg #[.bool bq,.slice aq lq cq,.slice dq mq eq]) (oq i) 67∧Bw w w':=by
 refine(known_any s w htab).mono ?_;rintro r w' ⟨v,rfl,hv,hb⟩;rcases hv with ⟨k,b,c,a1,a2,a3,a4,l1,c1,l2,c2,l3,c3,l4,c4,hk,hf,rfl,h1,h2⟩|⟨hf,_⟩
 ·have e:=zCi hf hi
  have e':k=i:=by omega
  subst e';exact⟨b,c,a1,a2,a3,a4,l1,c1,l2,c2,l3,c3,l4,c4,rfl,h1,h2,hb⟩
 ·have e:=zCi hf hi
  omega
theorem T6.setOther {W:World} {g k o:Nat} {a b c d e f:Value} (h:T6 W g a b c d e f) (hk:g≠k) (u:Value):T6 (W.setCell ⟨k,o,none⟩ u) g a b c d e f:=by
 have e1:∀q v,W.cell? ⟨g,q,none⟩=some v→(W.setCell ⟨k,o,none⟩ u).cell? ⟨g,q,none⟩=some v:=fun q v hv=>by
  rw[World.cell?_setCell_other _ _ _ _ (by intro e;exact hk (congrArg Addr.block e).symm)];exact hv
 exact⟨e1 _ _ h.c0,e1 _ _ h.c1,e1 _ _ h.c2,e1 _ _ h.c3,e1 _ _ h.c4,e1 _ _ h.c5,by rw[World.frozen?_setCell];exact h.f0,by rw[World.frozen?_setCell];exact h.f1,by rw[World.frozen?_setCell];exact h.f2,by rw[World.frozen?_setCell];exact h.f3,by rw[World.frozen?_setCell];exact h.f4,by rw[World.frozen?_setCell];exact h.f5⟩
theorem T6.other3 {W:World} {g k:Nat} {a b c d e f:Value} (h:T6 W g a b c d e f) (hk:g≠k) (x y z:Value):T6 (zAs W k x y z) g a b c d e f:=((h.setOther hk x).setOther hk y).setOther hk z
theorem T6.other6 {W:World} {g k:Nat} {a b c d e f:Value} (h:T6 W g a b c d e f) (hk:g≠k) (x y z t u v:Value):T6 (zBg W k x y z t u v) g a b c d e f:=(((((h.setOther hk x).setOther hk y).setOther hk z).setOther hk t).setOther hk u).setOther hk v
theorem _root_.Go.Proofs.YtliadckofhblnaaGreatDoor.FBox.other6 {W:World} {g k:Nat} {a b c:Value} (h:FBox W g a b c) (hk:g≠k) (x y z t u v:Value):FBox (zBg W k x y z t u v) g a b c:=(((((h.otherAt hk x).otherAt hk y).otherAt hk z).otherAt hk t).otherAt hk u).otherAt hk v
theorem readU_ok (n d s t:ByteArray) (x:Rat) (i j:Nat) (w:World) (hx:IsR n d x) (hi:zBc (scB s) (i:Int)) (hj:zBc (scB t) (j:Int)) (htab:Tab w) :
  Calls Tryz.prog 110 #[.agg #[.string n,.string d],.string s,.string t] w fun r w'=>∃(bz bp bq br bv:Bool) (az dz ap dp aq dq ar dr av dv:Option Addr) (lz cz mz ez lp cp mp ep lq cq mq eq lr cr mr er lv cv mv ev:Nat),r=.returned (.tuple #[.agg #[.bool bz,.slice az lz cz,.slice dz mz ez],.agg #[.bool bp,.slice ap lp cp,.slice dp mp ep,.bool bq,.slice aq lq cq,.slice dq mq eq],.agg #[.bool br,.slice ar lr cr,.slice dr mr er,.bool bv,.slice av lv cv,.slice dv mv ev],I 0])∧(QOf w' (.agg #[.bool bz,.slice az lz cz,.slice dz mz ez]) x 67∧QOf w' (.agg #[.bool bp,.slice ap lp cp,.slice dp mp ep]) (fq i) 67∧QOf w' (.agg #[.bool bq,.slice aq lq cq,.slice dq mq eq]) (oq i) 67∧QOf w' (.agg #[.bool br,.slice ar lr cr,.slice dr mr er]) (fq j) 67∧QOf w' (.agg #[.bool bv,.slice av lv cv,.slice dv mv ev]) (oq j) 67)∧Bw w w':=by
 obtain⟨V,hV⟩:∃V,V=(((w.alloc (.cells #[.string n,.string d] 28)).alloc (.cells #[.bool false,.slice none 0 0,.slice none 0 0] 82)).alloc (.cells #[.bool false,.slice none 0 0,.slice none 0 0,.bool false,.slice none 0 0,.slice none 0 0] 84)).alloc (.cells #[.bool false,.slice none 0 0,.slice none 0 0,.bool false,.slice none 0 0,.slice none 0 0] 84):=⟨_,rfl⟩;have HN:Hid (T2 V w.heap.size (.string n) (.string d)):=by rw[hV];exact⟨by simp[go_sem],by simp[go_sem],by simp[go_sem],by simp[go_sem]⟩
 have H1:Hid (FBox V (w.heap.size+1) (.bool false) (.slice none 0 0) (.slice none 0 0)):=by rw[hV];exact⟨by simp[go_sem],by simp[go_sem],by simp[go_sem],by simp[go_sem],by simp[go_sem],by simp[go_sem]⟩
 have H2:Hid (T6 V (w.heap.size+2) (.bool false) (.slice none 0 0) (.slice none 0 0) (.bool false) (.slice none 0 0) (.slice none 0 0)):=by rw[hV];exact⟨by simp[go_sem],by simp[go_sem],by simp[go_sem],by simp[go_sem],by simp[go_sem],by simp[go_sem],by simp[go_sem],by simp[go_sem],by simp[go_sem],by simp[go_sem],by simp[go_sem],by simp[go_sem]⟩
 have H3:Hid (T6 V (w.heap.size+3) (.bool false) (.slice none 0 0) (.slice none 0 0) (.bool false) (.slice none 0 0) (.slice none 0 0)):=by rw[hV];exact⟨by simp[go_sem],by simp[go_sem],by simp[go_sem],by simp[go_sem],by simp[go_sem],by simp[go_sem],by simp[go_sem],by simp[go_sem],by simp[go_sem],by simp[go_sem],by simp[go_sem],by simp[go_sem]⟩
 have HB:Hid (Bw w V):=by rw[hV];exact((bA.alloc (by simp) _).alloc (by simp;omega) _).alloc (by simp;omega) _
 have HSZ:Hid (w.heap.size+4≤V.heap.size):=by rw[hV];show _≤_;simp
 have HV:=zAb hV;have HTW:=zAb htab;have HRD:=zAb (fun W=>qread n d x W hx);have HK1:=zAb (fun W hb=>known_at s i hi W (htab.later hb));have HK2:=zAb (fun W hb=>known_at t j hj W (htab.later hb));clear hV htab hx hi hj;go_enter Tryz.func110,Tryz.ntmps110
 go_upto_region 1 with fail
 rw[←un HV];clear HV;have t0:=(un HN).c0;have t1:=(un HN).c1
 go_upto_region 2 with (go_at_call 118;go_must(refine(un HRD _).mono ?_;rintro e w1 ⟨v1,rfl,hv1,hb1⟩;obtain⟨bz,az,lz,cz,dz,mz,ez,rfl⟩:=hv1.form;have HZ1:=zAb hv1;have HB1:=zAb hb1;clear hv1 hb1 t0 t1))
 obtain⟨A,hA⟩:∃A,A=w1.alloc (.cells #[.bool bz,.slice az lz cz,.slice dz mz ez] 82):=⟨_,rfl⟩;have HAX:Hid (FBox A w1.heap.size (.bool bz) (.slice az lz cz) (.slice dz mz ez)):=by rw[hA];exact⟨by simp[go_sem],by simp[go_sem],by simp[go_sem],by simp[go_sem],by simp[go_sem],by simp[go_sem]⟩
 have HBA1:Hid (Bw w1 A):=by rw[hA];exact bA
 rw[←hA];clear hA;have HBA:Hid (Bw V A):=(un HB1).trans ((un HBA1).mono (un HB1).size);have HZA:=zAb ((un HZ1).later (un HBA1));have HG10:Hid (w.heap.size+4≤w1.heap.size):=Nat.le_trans (un HSZ) (un HB1).size;have HBWA:Hid (Bw w A):=(un HB).trans ((un HBA).mono (un HB).size);clear HZ1 HB1 HBA1;generalize w1.heap.size=g10 at *
 go_upto_region 5 with (go_at_call 51;go_must(refine(un HK1 _ (un HBWA)).mono ?_;rintro e w2 ⟨bp,bq,ap,dp,aq,dq,lp,cp,mp,ep,lq,cq,mq,eq,rfl,hp2,hq2,hb2⟩;have HP2:=zAb hp2;have HQ2:=zAb hq2;have HB2:=zAb hb2;clear hp2 hq2 hb2))
 obtain⟨B,hB⟩:∃B,B=w2.alloc (.cells #[.bool bp,.slice ap lp cp,.slice dp mp ep,.bool bq,.slice aq lq cq,.slice dq mq eq] 84):=⟨_,rfl⟩;have HBX:Hid (T6 B w2.heap.size (.bool bp) (.slice ap lp cp) (.slice dp mp ep) (.bool bq) (.slice aq lq cq) (.slice dq mq eq)):=by rw[hB];exact⟨by simp[go_sem],by simp[go_sem],by simp[go_sem],by simp[go_sem],by simp[go_sem],by simp[go_sem],by simp[go_sem],by simp[go_sem],by simp[go_sem],by simp[go_sem],by simp[go_sem],by simp[go_sem]⟩
 have HBB1:Hid (Bw w2 B):=by rw[hB];exact bA
 rw[←hB];clear hB;have HBB:Hid (Bw A B):=(un HB2).trans ((un HBB1).mono (un HB2).size);have HPB:=zAb ((un HP2).later (un HBB1));have HQB:=zAb ((un HQ2).later (un HBB1));have HZB:=zAb ((un HZA).later (un HBB));have HG12:Hid (w.heap.size+4≤w2.heap.size):=Nat.le_trans (Nat.le_of_lt (Nat.lt_of_le_of_lt (un HG10) (un HAX).lt)) (un HB2).size;have HBWB:Hid (Bw w B):=(un HBWA).trans ((un HBB).mono (un HBWA).size);have HAX2:=zAb ((un HAX).later (un HBB));clear HP2 HQ2 HB2 HBB1 HZA HAX;generalize w2.heap.size=g12 at *
 go_upto_region 6 with (go_at_call 51;go_must(refine(un HK2 _ (un HBWB)).mono ?_;rintro e w3 ⟨br,bv,ar,dr,av,dv,lr,cr,mr,er,lv,cv,mv,ev,rfl,hr3,ht3,hb3⟩;have HR3:=zAb hr3;have HT3:=zAb ht3;have HB3:=zAb hb3;clear hr3 ht3 hb3))
 obtain⟨Y,hY⟩:∃Y,Y=w3.alloc (.cells #[.bool br,.slice ar lr cr,.slice dr mr er,.bool bv,.slice av lv cv,.slice dv mv ev] 84):=⟨_,rfl⟩;have HYX:Hid (T6 Y w3.heap.size (.bool br) (.slice ar lr cr) (.slice dr mr er) (.bool bv) (.slice av lv cv) (.slice dv mv ev)):=by rw[hY];exact⟨by simp[go_sem],by simp[go_sem],by simp[go_sem],by simp[go_sem],by simp[go_sem],by simp[go_sem],by simp[go_sem],by simp[go_sem],by simp[go_sem],by simp[go_sem],by simp[go_sem],by simp[go_sem]⟩
 have HBY1:Hid (Bw w3 Y):=by rw[hY];exact bA
 rw[←hY];clear hY;have HBY:Hid (Bw B Y):=(un HB3).trans ((un HBY1).mono (un HB3).size);have HRY:=zAb ((un HR3).later (un HBY1));have HTY:=zAb ((un HT3).later (un HBY1));have HPY:=zAb ((un HPB).later (un HBY));have HQY:=zAb ((un HQB).later (un HBY));have HZY:=zAb ((un HZB).later (un HBY));have HG14:Hid (w.heap.size+4≤w3.heap.size):=Nat.le_trans (Nat.le_of_lt (Nat.lt_of_le_of_lt (un HG12) (un HBX).lt)) (un HB3).size;have HBWY:Hid (Bw w Y):=(un HBWB).trans ((un HBY).mono (un HBWB).size);have HAX3:=zAb ((un HAX2).later (un HBY));have HBX3:=zAb ((un HBX).later (un HBY));have HVY:Hid (Bw V Y):=(un HBA).trans (((un HBB).trans ((un HBY).mono (un HBB).size)).mono (un HBA).size);have H1Y:=zAb ((un H1).later (un HVY));have H2Y:=zAb ((un H2).later (un HVY));have H3Y:=zAb ((un H3).later (un HVY));clear HR3 HT3 HB3 HBY1 HPB HQB HZB HAX2 HBX HBA HBB HBY H1 H2 H3 HN HVY HBWA HBWB;generalize w3.heap.size=g14 at *
 go_upto_region 8 with fail
 have HS0:Hid (Y.drew.cell? ⟨g10,0,none⟩=some (.bool bz)∧Y.drew.cell? ⟨g10,1,none⟩=some (.slice az lz cz)∧Y.drew.cell? ⟨g10,2,none⟩=some (.slice dz mz ez)):=⟨(un HAX3).c0,(un HAX3).c1,(un HAX3).c2⟩;have HSS:Hid (∀W,T6 W g12 (.bool bp) (.slice ap lp cp) (.slice dp mp ep) (.bool bq) (.slice aq lq cq) (.slice dq mq eq)→T6 W g14 (.bool br) (.slice ar lr cr) (.slice dr mr er) (.bool bv) (.slice av lv cv) (.slice dv mv ev)→W.cell? ⟨g12,0,none⟩=some (.bool bp)∧W.cell? ⟨g12,1,none⟩=some (.slice ap lp cp)∧W.cell? ⟨g12,2,none⟩=some (.slice dp mp ep)∧W.cell? ⟨g12,3,none⟩=some (.bool bq)∧W.cell? ⟨g12,4,none⟩=some (.slice aq lq cq)∧W.cell? ⟨g12,5,none⟩=some (.slice dq mq eq)∧W.cell? ⟨g14,0,none⟩=some (.bool br)∧W.cell? ⟨g14,1,none⟩=some (.slice ar lr cr)∧W.cell? ⟨g14,2,none⟩=some (.slice dr mr er)∧W.cell? ⟨g14,3,none⟩=some (.bool bv)∧W.cell? ⟨g14,4,none⟩=some (.slice av lv cv)∧W.cell? ⟨g14,5,none⟩=some (.slice dv mv ev)):=fun W h1 h2=>⟨h1.c0,h1.c1,h1.c2,h1.c3,h1.c4,h1.c5,h2.c0,h2.c1,h2.c2,h2.c3,h2.c4,h2.c5⟩
 have HS70:=zAb (un HSS Y.drew ((un HBX3).later ((Below.refl _ _).drew)) ((un HYX).later ((Below.refl _ _).drew)));have HE1:Hid (g12≠w.heap.size+1∧g14≠w.heap.size+1∧g12≠w.heap.size+2∧g14≠w.heap.size+2∧g12≠w.heap.size+3∧g14≠w.heap.size+3):=by have h1:=un HG12;have h2:=un HG14;show _∧_;omega
 obtain⟨D,hD⟩:∃D,D=Y.drew:=⟨_,rfl⟩;have HBYD:Hid (Bw Y D):=by rw[hD];exact(Below.refl _ _).drew
 have HXD:=zAb ((un HBX3).later (un HBYD));have HYD:=zAb ((un HYX).later (un HBYD));have H1D:=zAb ((un H1Y).later (un HBYD));have H2D:=zAb ((un H2Y).later (un HBYD));have H3D:=zAb ((un H3Y).later (un HBYD));have HS7a:=zAb (un HSS (zAs D (w.heap.size+1) (.bool bz) (.slice az lz cz) (.slice dz mz ez)) ((un HXD).other3 (un HE1).1 _ _ _) ((un HYD).other3 (un HE1).2.1 _ _ _));have HS7b:=zAb (un HSS (zBg (zAs D (w.heap.size+1) (.bool bz) (.slice az lz cz) (.slice dz mz ez)) (w.heap.size+2) (.bool bp) (.slice ap lp cp) (.slice dp mp ep) (.bool bq) (.slice aq lq cq) (.slice dq mq eq)) (((un HXD).other3 (un HE1).1 _ _ _).other6 (un HE1).2.2.1 _ _ _ _ _ _) (((un HYD).other3 (un HE1).2.1 _ _ _).other6 (un HE1).2.2.2.1 _ _ _ _ _ _));have HS7c:=zAb (un HSS (zBg (zBg (zAs D (w.heap.size+1) (.bool bz) (.slice az lz cz) (.slice dz mz ez)) (w.heap.size+2) (.bool bp) (.slice ap lp cp) (.slice dp mp ep) (.bool bq) (.slice aq lq cq) (.slice dq mq eq)) (w.heap.size+3) (.bool br) (.slice ar lr cr) (.slice dr mr er) (.bool bv) (.slice av lv cv) (.slice dv mv ev)) ((((un HXD).other3 (un HE1).1 _ _ _).other6 (un HE1).2.2.1 _ _ _ _ _ _).other6 (un HE1).2.2.2.2.1 _ _ _ _ _ _) ((((un HYD).other3 (un HE1).2.1 _ _ _).other6 (un HE1).2.2.2.1 _ _ _ _ _ _).other6 (un HE1).2.2.2.2.2 _ _ _ _ _ _));have HF1:Hid (FBox D (w.heap.size+1) (.bool false) (.slice none 0 0) (.slice none 0 0)):=H1D;have HF2:Hid (T6 (zAs D (w.heap.size+1) (.bool bz) (.slice az lz cz) (.slice dz mz ez)) (w.heap.size+2) (.bool false) (.slice none 0 0) (.slice none 0 0) (.bool false) (.slice none 0 0) (.slice none 0 0)):=(un H2D).other3 (by omega) _ _ _;have HF3:Hid (T6 (zBg (zAs D (w.heap.size+1) (.bool bz) (.slice az lz cz) (.slice dz mz ez)) (w.heap.size+2) (.bool bp) (.slice ap lp cp) (.slice dp mp ep) (.bool bq) (.slice aq lq cq) (.slice dq mq eq)) (w.heap.size+3) (.bool false) (.slice none 0 0) (.slice none 0 0) (.bool false) (.slice none 0 0) (.slice none 0 0)):=((un H3D).other3 (by omega) _ _ _).other6 (by omega) _ _ _ _ _ _;subst hD;have HQ:=zAb (And.intro (un HZY) (And.intro (un HPY) (And.intro (un HQY) (And.intro (un HRY) (un HTY)))));have p0:=(un H1Y).c0;have p1:=(un H1Y).c1;have p2:=(un H1Y).c2;have pf0:=(un H1Y).f0;have pf1:=(un H1Y).f1;have pf2:=(un H1Y).f2;have HQQ:∀(v:Value) (q:Rat),QOf Y v q 67→QOf (zBg (zBg (zAs Y.drew (w.heap.size+1) (.bool bz) (.slice az lz cz) (.slice dz mz ez)) (w.heap.size+2) (.bool bp) (.slice ap lp cp) (.slice dp mp ep) (.bool bq) (.slice aq lq cq) (.slice dq mq eq)) (w.heap.size+3) (.bool br) (.slice ar lr cr) (.slice dr mr er) (.bool bv) (.slice av lv cv) (.slice dv mv ev)) v q 67:=fun v q h=>QOf.six (un HF3) _ _ _ _ _ _ (QOf.six (un HF2) _ _ _ _ _ _ (QOf.over (un HF1) _ _ _ (h.later ((Below.refl _ _).drew))))
 have HE:Hid ((FBox (zBg (zBg (zAs Y.drew (w.heap.size+1) (.bool bz) (.slice az lz cz) (.slice dz mz ez)) (w.heap.size+2) (.bool bp) (.slice ap lp cp) (.slice dp mp ep) (.bool bq) (.slice aq lq cq) (.slice dq mq eq)) (w.heap.size+3) (.bool br) (.slice ar lr cr) (.slice dr mr er) (.bool bv) (.slice av lv cv) (.slice dv mv ev)) (w.heap.size+1) (.bool bz) (.slice az lz cz) (.slice dz mz ez)∧T6 (zBg (zBg (zAs Y.drew (w.heap.size+1) (.bool bz) (.slice az lz cz) (.slice dz mz ez)) (w.heap.size+2) (.bool bp) (.slice ap lp cp) (.slice dp mp ep) (.bool bq) (.slice aq lq cq) (.slice dq mq eq)) (w.heap.size+3) (.bool br) (.slice ar lr cr) (.slice dr mr er) (.bool bv) (.slice av lv cv) (.slice dv mv ev)) (w.heap.size+2) (.bool bp) (.slice ap lp cp) (.slice dp mp ep) (.bool bq) (.slice aq lq cq) (.slice dq mq eq)∧T6 (zBg (zBg (zAs Y.drew (w.heap.size+1) (.bool bz) (.slice az lz cz) (.slice dz mz ez)) (w.heap.size+2) (.bool bp) (.slice ap lp cp) (.slice dp mp ep) (.bool bq) (.slice aq lq cq) (.slice dq mq eq)) (w.heap.size+3) (.bool br) (.slice ar lr cr) (.slice dr mr er) (.bool bv) (.slice av lv cv) (.slice dv mv ev)) (w.heap.size+3) (.bool br) (.slice ar lr cr) (.slice dr mr er) (.bool bv) (.slice av lv cv) (.slice dv mv ev))∧(QOf (zBg (zBg (zAs Y.drew (w.heap.size+1) (.bool bz) (.slice az lz cz) (.slice dz mz ez)) (w.heap.size+2) (.bool bp) (.slice ap lp cp) (.slice dp mp ep) (.bool bq) (.slice aq lq cq) (.slice dq mq eq)) (w.heap.size+3) (.bool br) (.slice ar lr cr) (.slice dr mr er) (.bool bv) (.slice av lv cv) (.slice dv mv ev)) (.agg #[.bool bz,.slice az lz cz,.slice dz mz ez]) x 67∧QOf (zBg (zBg (zAs Y.drew (w.heap.size+1) (.bool bz) (.slice az lz cz) (.slice dz mz ez)) (w.heap.size+2) (.bool bp) (.slice ap lp cp) (.slice dp mp ep) (.bool bq) (.slice aq lq cq) (.slice dq mq eq)) (w.heap.size+3) (.bool br) (.slice ar lr cr) (.slice dr mr er) (.bool bv) (.slice av lv cv) (.slice dv mv ev)) (.agg #[.bool bp,.slice ap lp cp,.slice dp mp ep]) (fq i) 67∧QOf (zBg (zBg (zAs Y.drew (w.heap.size+1) (.bool bz) (.slice az lz cz) (.slice dz mz ez)) (w.heap.size+2) (.bool bp) (.slice ap lp cp) (.slice dp mp ep) (.bool bq) (.slice aq lq cq) (.slice dq mq eq)) (w.heap.size+3) (.bool br) (.slice ar lr cr) (.slice dr mr er) (.bool bv) (.slice av lv cv) (.slice dv mv ev)) (.agg #[.bool bq,.slice aq lq cq,.slice dq mq eq]) (oq i) 67∧QOf (zBg (zBg (zAs Y.drew (w.heap.size+1) (.bool bz) (.slice az lz cz) (.slice dz mz ez)) (w.heap.size+2) (.bool bp) (.slice ap lp cp) (.slice dp mp ep) (.bool bq) (.slice aq lq cq) (.slice dq mq eq)) (w.heap.size+3) (.bool br) (.slice ar lr cr) (.slice dr mr er) (.bool bv) (.slice av lv cv) (.slice dv mv ev)) (.agg #[.bool br,.slice ar lr cr,.slice dr mr er]) (fq j) 67∧QOf (zBg (zBg (zAs Y.drew (w.heap.size+1) (.bool bz) (.slice az lz cz) (.slice dz mz ez)) (w.heap.size+2) (.bool bp) (.slice ap lp cp) (.slice dp mp ep) (.bool bq) (.slice aq lq cq) (.slice dq mq eq)) (w.heap.size+3) (.bool br) (.slice ar lr cr) (.slice dr mr er) (.bool bv) (.slice av lv cv) (.slice dv mv ev)) (.agg #[.bool bv,.slice av lv cv,.slice dv mv ev]) (oq j) 67)∧Bw w (zBg (zBg (zAs Y.drew (w.heap.size+1) (.bool bz) (.slice az lz cz) (.slice dz mz ez)) (w.heap.size+2) (.bool bp) (.slice ap lp cp) (.slice dp mp ep) (.bool bq) (.slice aq lq cq) (.slice dq mq eq)) (w.heap.size+3) (.bool br) (.slice ar lr cr) (.slice dr mr er) (.bool bv) (.slice av lv cv) (.slice dv mv ev))):=⟨⟨(((un HF1).store (.bool bz) (.slice az lz cz) (.slice dz mz ez)).other6 (k:=w.heap.size+2) (by omega) (.bool bp) (.slice ap lp cp) (.slice dp mp ep) (.bool bq) (.slice aq lq cq) (.slice dq mq eq)).other6 (k:=w.heap.size+3) (by omega) (.bool br) (.slice ar lr cr) (.slice dr mr er) (.bool bv) (.slice av lv cv) (.slice dv mv ev),((un HF2).store (.bool bp) (.slice ap lp cp) (.slice dp mp ep) (.bool bq) (.slice aq lq cq) (.slice dq mq eq)).other6 (k:=w.heap.size+3) (by omega) (.bool br) (.slice ar lr cr) (.slice dr mr er) (.bool bv) (.slice av lv cv) (.slice dv mv ev),(un HF3).store (.bool br) (.slice ar lr cr) (.slice dr mr er) (.bool bv) (.slice av lv cv) (.slice dv mv ev)⟩,⟨HQQ _ _ (un HQ).1,HQQ _ _ (un HQ).2.1,HQQ _ _ (un HQ).2.2.1,HQQ _ _ (un HQ).2.2.2.1,HQQ _ _ (un HQ).2.2.2.2⟩,zEs (zEs (zAq (un HBWY).drew (by omega) _ _ _) (by omega) _ _ _ _ _ _) (by omega) _ _ _ _ _ _⟩
 clear HQQ HQ HZY HPY HQY HRY HTY HXD HYD H1D H2D H3D H2Y H3Y HBYD HSS;refine zAi 3 (fun W=>W.cell? ⟨g10,0,none⟩=some (.bool bz)∧W.cell? ⟨g10,1,none⟩=some (.slice az lz cz)∧W.cell? ⟨g10,2,none⟩=some (.slice dz mz ez)) (fun W=>W.cell? ⟨g12,0,none⟩=some (.bool bp)∧W.cell? ⟨g12,1,none⟩=some (.slice ap lp cp)∧W.cell? ⟨g12,2,none⟩=some (.slice dp mp ep)∧W.cell? ⟨g12,3,none⟩=some (.bool bq)∧W.cell? ⟨g12,4,none⟩=some (.slice aq lq cq)∧W.cell? ⟨g12,5,none⟩=some (.slice dq mq eq)∧W.cell? ⟨g14,0,none⟩=some (.bool br)∧W.cell? ⟨g14,1,none⟩=some (.slice ar lr cr)∧W.cell? ⟨g14,2,none⟩=some (.slice dr mr er)∧W.cell? ⟨g14,3,none⟩=some (.bool bv)∧W.cell? ⟨g14,4,none⟩=some (.slice av lv cv)∧W.cell? ⟨g14,5,none⟩=some (.slice dv mv ev)) 7 rfl (by kernel_rfl) ?_;refine wT 0 (.agg #[.bool bz,.slice az lz cz,.slice dz mz ez]) rfl (Or.inl ⟨by rfl,?_⟩) ⟨un HS0,un HS70⟩ ?_
 ·intro W hW
  go_split_ands
  go_simp
 refine wT7 1 (.agg #[.bool bp,.slice ap lp cp,.slice dp mp ep,.bool bq,.slice aq lq cq,.slice dq mq eq]) rfl (Or.inl ⟨by rfl,?_⟩) ⟨un HS0,un HS70⟩ ?_
 ·intro W hW
  go_split_ands
  go_simp
 refine wT7 2 (.agg #[.bool br,.slice ar lr cr,.slice dr mr er,.bool bv,.slice av lv cv,.slice dv mv ev]) rfl (Or.inl ⟨by rfl,?_⟩) ⟨un HS0,un HS70⟩ ?_
 ·intro W hW
  go_split_ands
  go_simp
 refine wL 3 rfl rfl (fun K hK=>?_)
 go_simp
 refine hK _ (zAs Y.drew (w.heap.size+1) (.bool bz) (.slice az lz cz) (.slice dz mz ez)) (un HS7a) ?_;clear hK K;generalize zAs Y.drew (w.heap.size+1) (.bool bz) (.slice az lz cz) (.slice dz mz ez)=A3 at *
 have q0:=(un HF2).c0;have q1:=(un HF2).c1;have q2:=(un HF2).c2;have q3:=(un HF2).c3;have q4:=(un HF2).c4;have q5:=(un HF2).c5;have qf0:=(un HF2).f0;have qf1:=(un HF2).f1;have qf2:=(un HF2).f2;have qf3:=(un HF2).f3;have qf4:=(un HF2).f4;have qf5:=(un HF2).f5;refine wL 4 rfl rfl (fun K hK=>?_)
 go_simp
 refine hK _ (zBg A3 (w.heap.size+2) (.bool bp) (.slice ap lp cp) (.slice dp mp ep) (.bool bq) (.slice aq lq cq) (.slice dq mq eq)) (un HS7b) ?_;clear hK K;generalize zBg A3 (w.heap.size+2) (.bool bp) (.slice ap lp cp) (.slice dp mp ep) (.bool bq) (.slice aq lq cq) (.slice dq mq eq)=A4 at *
 have r0:=(un HF3).c0;have r1:=(un HF3).c1;have r2:=(un HF3).c2;have r3:=(un HF3).c3;have r4:=(un HF3).c4;have r5:=(un HF3).c5;have rf0:=(un HF3).f0;have rf1:=(un HF3).f1;have rf2:=(un HF3).f2;have rf3:=(un HF3).f3;have rf4:=(un HF3).f4;have rf5:=(un HF3).f5;refine wL 5 rfl rfl (fun K hK=>?_)
 go_simp
 refine hK _ (zBg A4 (w.heap.size+3) (.bool br) (.slice ar lr cr) (.slice dr mr er) (.bool bv) (.slice av lv cv) (.slice dv mv ev)) (un HS7c) ?_;clear hK K;generalize zBg A4 (w.heap.size+3) (.bool br) (.slice ar lr cr) (.slice dr mr er) (.bool bv) (.slice av lv cv) (.slice dv mv ev)=A5 at *
 skip
 refine wL 6 rfl rfl (fun K hK=>?_)
 go_simp
 refine hK _ _ (un HS7c) ?_;clear hK K;refine wDn ?_
 go_wp2_with fail
 have hS1:=(un HE).1.1;have hS2:=(un HE).1.2.1;have hS3:=(un HE).1.2.2;have u0:=hS1.c0;have u1:=hS1.c1;have u2:=hS1.c2;have v0:=hS2.c0;have v1:=hS2.c1;have v2:=hS2.c2;have v3:=hS2.c3;have v4:=hS2.c4;have v5:=hS2.c5;have y0:=hS3.c0;have y1:=hS3.c1;have y2:=hS3.c2;have y3:=hS3.c3;have y4:=hS3.c4;have y5:=hS3.c5;exact bodyPost_ret (v:=.tuple #[.agg #[.bool bz,.slice az lz cz,.slice dz mz ez],.agg #[.bool bp,.slice ap lp cp,.slice dp mp ep,.bool bq,.slice aq lq cq,.slice dq mq eq],.agg #[.bool br,.slice ar lr cr,.slice dr mr er,.bool bv,.slice av lv cv,.slice dv mv ev],I 0]) (w:=A5) (by simp[results,Tryz.results110,go_sem,u0,u1,u2,v0,v1,v2,v3,v4,v5,y0,y1,y2,y3,y4,y5]) rfl ⟨bz,bp,bq,br,bv,az,dz,ap,dp,aq,dq,ar,dr,av,dv,lz,cz,mz,ez,lp,cp,mp,ep,lq,cq,mq,eq,lr,cr,mr,er,lv,cv,mv,ev,rfl,(un HE).2.1,(un HE).2.2⟩
theorem fq_ne:∀j,fq j≠0
 | 0=>by decide +kernel
 | 1=>by decide +kernel
 | 2=>by decide +kernel
 | n+3=>by show(1:Rat)≠0;decide +kernel
theorem cmp_neg {p:Rat} (h:p<0):Cub.cmpQ p 0<0:=by unfold Cub.cmpQ;rw[if_pos h];decide
theorem cmp_neg_inv {p:Rat} (h:Cub.cmpQ p 0<0):p<0:=by
 unfold Cub.cmpQ at h
 split at h
 ·assumption
 ·split at h<;>omega
theorem to_below (n d s t:ByteArray) (x:Rat) (i j:Nat) (w:World) (hx:IsR n d x) (hi:zBc (scB s) (i:Int)) (hj:zBc (scB t) (j:Int)) (hk:x*fq i+oq i<0) (htab:Tab w) :
  Calls Tryz.prog 46 #[.agg #[.string n,.string d],.string s,.string t] w fun r w'=>r=.returned (.tuple #[.agg #[G #[],G #[]],I 9])∧Bw w w':=by
 obtain⟨V,hV⟩:∃V,V=(w.alloc (.cells #[.string n,.string d] 28)).alloc (.cells #[G #[],G #[]] 28):=⟨_,rfl⟩;have HN:Hid (T2 V w.heap.size (.string n) (.string d)):=by rw[hV];exact⟨by simp[go_sem],by simp[go_sem],by simp[go_sem],by simp[go_sem]⟩
 have HR:Hid (T2 V (w.heap.size+1) (G #[]) (G #[])):=by rw[hV];exact⟨by simp[go_sem],by simp[go_sem],by simp[go_sem],by simp[go_sem]⟩
 have HB:Hid (Bw w V):=by rw[hV];exact bA.alloc (by simp) _
 have HV:=zAb hV;have HTW:=zAb htab;have HRU:=zAb (fun W hb=>readU_ok n d s t x i j W hx hi hj (htab.later hb));have HSG:Hid (Cub.cmpQ (x*fq i+oq i) 0<0):=cmp_neg hk;have HF0:=zAb (fq_ne j);clear hV htab hx hi hj hk;go_enter Tryz.func46,Tryz.ntmps46
 go_upto_region 1 with fail
 rw[←un HV];clear HV;have t0:=(un HN).c0;have t1:=(un HN).c1
 go_upto_region 2 with (go_at_call 110;go_must(refine(un HRU _ (un HB)).mono ?_;rintro e w1 ⟨bz,bp,bq,br,bv,az,dz,ap,dp,aq,dq,ar,dr,av,dv,lz,cz,mz,ez,lp,cp,mp,ep,lq,cq,mq,eq,lr,cr,mr,er,lv,cv,mv,ev,rfl,hq1,hb1⟩;have HQ1:=zAb hq1;have HB1:=zAb hb1;clear hq1 hb1 t0 t1))
 obtain⟨A,hA⟩:∃A,A=((w1.alloc (.cells #[.bool bz,.slice az lz cz,.slice dz mz ez] 82)).alloc (.cells #[.bool bp,.slice ap lp cp,.slice dp mp ep,.bool bq,.slice aq lq cq,.slice dq mq eq] 84)).alloc (.cells #[.bool br,.slice ar lr cr,.slice dr mr er,.bool bv,.slice av lv cv,.slice dv mv ev] 84):=⟨_,rfl⟩;have HZA:Hid (FBox A w1.heap.size (.bool bz) (.slice az lz cz) (.slice dz mz ez)):=by rw[hA];exact⟨by simp[go_sem],by simp[go_sem],by simp[go_sem],by simp[go_sem],by simp[go_sem],by simp[go_sem]⟩
 have HPA:Hid (T6 A (w1.heap.size+1) (.bool bp) (.slice ap lp cp) (.slice dp mp ep) (.bool bq) (.slice aq lq cq) (.slice dq mq eq)):=by rw[hA];exact⟨by simp[go_sem],by simp[go_sem],by simp[go_sem],by simp[go_sem],by simp[go_sem],by simp[go_sem],by simp[go_sem],by simp[go_sem],by simp[go_sem],by simp[go_sem],by simp[go_sem],by simp[go_sem]⟩
 have HTA:Hid (T6 A (w1.heap.size+2) (.bool br) (.slice ar lr cr) (.slice dr mr er) (.bool bv) (.slice av lv cv) (.slice dv mv ev)):=by rw[hA];exact⟨by simp[go_sem],by simp[go_sem],by simp[go_sem],by simp[go_sem],by simp[go_sem],by simp[go_sem],by simp[go_sem],by simp[go_sem],by simp[go_sem],by simp[go_sem],by simp[go_sem],by simp[go_sem]⟩
 have HBA1:Hid (Bw w1 A):=by rw[hA];exact(bA.alloc (by simp) _).alloc (by simp;omega) _
 rw[←hA];clear hA;have HBA:Hid (Bw V A):=(un HB1).trans ((un HBA1).mono (un HB1).size);have HQA:=zAb (And.intro ((un HQ1).1.later (un HBA1)) (And.intro ((un HQ1).2.1.later (un HBA1)) (And.intro ((un HQ1).2.2.1.later (un HBA1)) (And.intro ((un HQ1).2.2.2.1.later (un HBA1)) ((un HQ1).2.2.2.2.later (un HBA1))))));have HRA:=zAb ((un HR).later (un HBA));have HBW:Hid (Bw w A):=(un HB).trans ((un HBA).mono (un HB).size);clear HQ1 HB1 HBA1 HBA;generalize w1.heap.size=g8 at *
 have p0:=(un HPA).c0;have p1:=(un HPA).c1;have p2:=(un HPA).c2;have p3:=(un HPA).c3;have p4:=(un HPA).c4;have p5:=(un HPA).c5;have r0:=(un HTA).c0;have r1:=(un HTA).c1;have r2:=(un HTA).c2;have r3:=(un HTA).c3;have r4:=(un HTA).c4;have r5:=(un HTA).c5
 go_upto_region 4 with fail
 go_region_held3 (fun w'=>w'.cell? ⟨g8+1,0,none⟩=some (.bool bp)∧w'.cell? ⟨g8+1,1,none⟩=some (.slice ap lp cp)∧w'.cell? ⟨g8+1,2,none⟩=some (.slice dp mp ep)∧w'.cell? ⟨g8+1,3,none⟩=some (.bool bq)∧w'.cell? ⟨g8+1,4,none⟩=some (.slice aq lq cq)∧w'.cell? ⟨g8+1,5,none⟩=some (.slice dq mq eq)∧w'.cell? ⟨g8+2,0,none⟩=some (.bool br)∧w'.cell? ⟨g8+2,1,none⟩=some (.slice ar lr cr)∧w'.cell? ⟨g8+2,2,none⟩=some (.slice dr mr er)∧w'.cell? ⟨g8+2,3,none⟩=some (.bool bv)∧w'.cell? ⟨g8+2,4,none⟩=some (.slice av lv cv)∧w'.cell? ⟨g8+2,5,none⟩=some (.slice dv mv ev)) (first|assumption|(simp[go_sem, *];done)) (fail)
 all_goals
  clear p0 p1 p2 p3 p4 p5 r0 r1 r2 r3 r4 r5;have z0:=(un HZA).c0;have z1:=(un HZA).c1;have z2:=(un HZA).c2;have HAD:Hid (Bw A A.drew):=(Below.refl _ _).drew;have HKE:=zAb (kelvins_any (.agg #[.bool bp,.slice ap lp cp,.slice dp mp ep]) (.agg #[.bool bq,.slice aq lq cq,.slice dq mq eq]) (.agg #[.bool bz,.slice az lz cz,.slice dz mz ez]) (fq i) (oq i) x 67 A.drew bp bq bz ap dp aq dq az dz lp cp mp ep lq cq mq eq lz cz mz ez rfl rfl rfl ((un HQA).2.1.later (un HAD)) ((un HQA).2.2.1.later (un HAD)) ((un HQA).1.later (un HAD)) (by omega))
  go_upto_region 6 with (go_at_call 111;go_must(refine(un HKE).mono ?_;rintro e w2 ⟨v2,rfl,hv2,hb2⟩;obtain⟨bk,ak,lk,ck,dk,mk,ek,rfl⟩:=hv2.form;have HV2:=zAb hv2;have HB2:Hid (Bw A w2):=bt HAD hb2;clear hv2 hb2 z0 z1 z2))
  obtain⟨B,hB⟩:∃B,B=w2.alloc (.cells #[.bool bk,.slice ak lk ck,.slice dk mk ek] 82):=⟨_,rfl⟩;have HMB:Hid (FBox B w2.heap.size (.bool bk) (.slice ak lk ck) (.slice dk mk ek)):=by rw[hB];exact⟨by simp[go_sem],by simp[go_sem],by simp[go_sem],by simp[go_sem],by simp[go_sem],by simp[go_sem]⟩
  have HBB2:Hid (Bw w2 B):=by rw[hB];exact bA
  rw[←hB];clear hB;have HBB:Hid (Bw A B):=(un HB2).trans ((un HBB2).mono (un HB2).size);have HVB:=zAb ((un HV2).later (un HBB2));have HRB:=zAb ((un HRA).later (un HBB));have HBWB:Hid (Bw w B):=(un HBW).trans ((un HBB).mono (un HBW).size);have HSI:=zAb (qsign (.agg #[.bool bk,.slice ak lk ck,.slice dk mk ek]) _ _ B (un HVB));clear HB2 HBB2 HV2;generalize w2.heap.size=g14 at *
  generalize Cub.cmpQ (x*fq i+oq i) 0=sg at HSI HSG
  have m0:=(un HMB).c0;have m1:=(un HMB).c1;have m2:=(un HMB).c2;have hsg:=un HSG
  go_wp2_with (go_at_call 68;go_must(refine(un HSI).mono ?_;rintro e w3 ⟨rfl,hb3⟩;have HR3:=zAb ((un HRB).later hb3);have HBW3:Hid (Bw w w3):=bt HBWB hb3;clear hb3 m0 m1 m2;have q0:=(un HR3).c0;have q1:=(un HR3).c1;have f0:=(un HR3).f0;have f1:=(un HR3).f1))
  have hS:=(un HR3).store (G #[]) (G #[]);have v0:=hS.c0;have v1:=hS.c1;exact bodyPost_ret (v:=.tuple #[.agg #[G #[],G #[]],I 9]) (w:=zBh w3 (w.heap.size+1) (G #[]) (G #[])) (by simp[results,Tryz.results46,go_sem,v0,v1]) rfl ⟨rfl,zAk (un HBW3) (by omega) _ _⟩
theorem to_tell (n d s t:ByteArray) (x:Rat) (i j:Nat) (w:World) (hx:IsR n d x) (hi:zBc (scB s) (i:Int)) (hj:zBc (scB t) (j:Int)) (hk:¬x*fq i+oq i<0) (htab:Tab w) :
  Calls Tryz.prog 46 #[.agg #[.string n,.string d],.string s,.string t] w fun r w'=>r=.returned (.tuple #[.agg #[.string (zEp ((x*fq i+oq i + -oq j)*(fq j)⁻¹)),.string (zEr ((x*fq i+oq i + -oq j)*(fq j)⁻¹))],I (zHa ((x*fq i+oq i + -oq j)*(fq j)⁻¹))])∧Bw w w':=by
 obtain⟨V,hV⟩:∃V,V=(w.alloc (.cells #[.string n,.string d] 28)).alloc (.cells #[G #[],G #[]] 28):=⟨_,rfl⟩;have HN:Hid (T2 V w.heap.size (.string n) (.string d)):=by rw[hV];exact⟨by simp[go_sem],by simp[go_sem],by simp[go_sem],by simp[go_sem]⟩
 have HR:Hid (T2 V (w.heap.size+1) (G #[]) (G #[])):=by rw[hV];exact⟨by simp[go_sem],by simp[go_sem],by simp[go_sem],by simp[go_sem]⟩
 have HB:Hid (Bw w V):=by rw[hV];exact bA.alloc (by simp) _
 have HV:=zAb hV;have HTW:=zAb htab;have HRU:=zAb (fun W hb=>readU_ok n d s t x i j W hx hi hj (htab.later hb));have HSG:Hid (Cub.cmpQ (x*fq i+oq i) 0<0→False):=fun h=>hk (cmp_neg_inv h)
 have HF0:=zAb (fq_ne j);clear hV htab hx hi hj hk;generalize hyy:(x*fq i+oq i + -oq j)*(fq j)⁻¹=yy;have HYY:=zAb hyy;clear hyy;go_enter Tryz.func46,Tryz.ntmps46
 go_upto_region 1 with fail
 rw[←un HV];clear HV;have t0:=(un HN).c0;have t1:=(un HN).c1
 go_upto_region 2 with (go_at_call 110;go_must(refine(un HRU _ (un HB)).mono ?_;rintro e w1 ⟨bz,bp,bq,br,bv,az,dz,ap,dp,aq,dq,ar,dr,av,dv,lz,cz,mz,ez,lp,cp,mp,ep,lq,cq,mq,eq,lr,cr,mr,er,lv,cv,mv,ev,rfl,hq1,hb1⟩;have HQ1:=zAb hq1;have HB1:=zAb hb1;clear hq1 hb1 t0 t1))
 obtain⟨A,hA⟩:∃A,A=((w1.alloc (.cells #[.bool bz,.slice az lz cz,.slice dz mz ez] 82)).alloc (.cells #[.bool bp,.slice ap lp cp,.slice dp mp ep,.bool bq,.slice aq lq cq,.slice dq mq eq] 84)).alloc (.cells #[.bool br,.slice ar lr cr,.slice dr mr er,.bool bv,.slice av lv cv,.slice dv mv ev] 84):=⟨_,rfl⟩;have HZA:Hid (FBox A w1.heap.size (.bool bz) (.slice az lz cz) (.slice dz mz ez)):=by rw[hA];exact⟨by simp[go_sem],by simp[go_sem],by simp[go_sem],by simp[go_sem],by simp[go_sem],by simp[go_sem]⟩
 have HPA:Hid (T6 A (w1.heap.size+1) (.bool bp) (.slice ap lp cp) (.slice dp mp ep) (.bool bq) (.slice aq lq cq) (.slice dq mq eq)):=by rw[hA];exact⟨by simp[go_sem],by simp[go_sem],by simp[go_sem],by simp[go_sem],by simp[go_sem],by simp[go_sem],by simp[go_sem],by simp[go_sem],by simp[go_sem],by simp[go_sem],by simp[go_sem],by simp[go_sem]⟩
 have HTA:Hid (T6 A (w1.heap.size+2) (.bool br) (.slice ar lr cr) (.slice dr mr er) (.bool bv) (.slice av lv cv) (.slice dv mv ev)):=by rw[hA];exact⟨by simp[go_sem],by simp[go_sem],by simp[go_sem],by simp[go_sem],by simp[go_sem],by simp[go_sem],by simp[go_sem],by simp[go_sem],by simp[go_sem],by simp[go_sem],by simp[go_sem],by simp[go_sem]⟩
 have HBA1:Hid (Bw w1 A):=by rw[hA];exact(bA.alloc (by simp) _).alloc (by simp;omega) _
 rw[←hA];clear hA;have HBA:Hid (Bw V A):=(un HB1).trans ((un HBA1).mono (un HB1).size);have HQA:=zAb (And.intro ((un HQ1).1.later (un HBA1)) (And.intro ((un HQ1).2.1.later (un HBA1)) (And.intro ((un HQ1).2.2.1.later (un HBA1)) (And.intro ((un HQ1).2.2.2.1.later (un HBA1)) ((un HQ1).2.2.2.2.later (un HBA1))))));have HRA:=zAb ((un HR).later (un HBA));have HBW:Hid (Bw w A):=(un HB).trans ((un HBA).mono (un HB).size);clear HQ1 HB1 HBA1 HBA;generalize w1.heap.size=g8 at *
 have p0:=(un HPA).c0;have p1:=(un HPA).c1;have p2:=(un HPA).c2;have p3:=(un HPA).c3;have p4:=(un HPA).c4;have p5:=(un HPA).c5;have r0:=(un HTA).c0;have r1:=(un HTA).c1;have r2:=(un HTA).c2;have r3:=(un HTA).c3;have r4:=(un HTA).c4;have r5:=(un HTA).c5
 go_upto_region 4 with fail
 go_region_held3 (fun w'=>w'.cell? ⟨g8+1,0,none⟩=some (.bool bp)∧w'.cell? ⟨g8+1,1,none⟩=some (.slice ap lp cp)∧w'.cell? ⟨g8+1,2,none⟩=some (.slice dp mp ep)∧w'.cell? ⟨g8+1,3,none⟩=some (.bool bq)∧w'.cell? ⟨g8+1,4,none⟩=some (.slice aq lq cq)∧w'.cell? ⟨g8+1,5,none⟩=some (.slice dq mq eq)∧w'.cell? ⟨g8+2,0,none⟩=some (.bool br)∧w'.cell? ⟨g8+2,1,none⟩=some (.slice ar lr cr)∧w'.cell? ⟨g8+2,2,none⟩=some (.slice dr mr er)∧w'.cell? ⟨g8+2,3,none⟩=some (.bool bv)∧w'.cell? ⟨g8+2,4,none⟩=some (.slice av lv cv)∧w'.cell? ⟨g8+2,5,none⟩=some (.slice dv mv ev)) (first|assumption|(simp[go_sem, *];done)) (fail)
 all_goals
  clear p0 p1 p2 p3 p4 p5 r0 r1 r2 r3 r4 r5;have z0:=(un HZA).c0;have z1:=(un HZA).c1;have z2:=(un HZA).c2;have HAD:Hid (Bw A A.drew):=(Below.refl _ _).drew;have HKE:=zAb (kelvins_any (.agg #[.bool bp,.slice ap lp cp,.slice dp mp ep]) (.agg #[.bool bq,.slice aq lq cq,.slice dq mq eq]) (.agg #[.bool bz,.slice az lz cz,.slice dz mz ez]) (fq i) (oq i) x 67 A.drew bp bq bz ap dp aq dq az dz lp cp mp ep lq cq mq eq lz cz mz ez rfl rfl rfl ((un HQA).2.1.later (un HAD)) ((un HQA).2.2.1.later (un HAD)) ((un HQA).1.later (un HAD)) (by omega))
  go_upto_region 6 with (go_at_call 111;go_must(refine(un HKE).mono ?_;rintro e w2 ⟨v2,rfl,hv2,hb2⟩;obtain⟨bk,ak,lk,ck,dk,mk,ek,rfl⟩:=hv2.form;have HV2:=zAb hv2;have HB2:Hid (Bw A w2):=bt HAD hb2;clear hv2 hb2 z0 z1 z2))
  obtain⟨B,hB⟩:∃B,B=w2.alloc (.cells #[.bool bk,.slice ak lk ck,.slice dk mk ek] 82):=⟨_,rfl⟩;have HMB:Hid (FBox B w2.heap.size (.bool bk) (.slice ak lk ck) (.slice dk mk ek)):=by rw[hB];exact⟨by simp[go_sem],by simp[go_sem],by simp[go_sem],by simp[go_sem],by simp[go_sem],by simp[go_sem]⟩
  have HBB2:Hid (Bw w2 B):=by rw[hB];exact bA
  rw[←hB];clear hB;have HBB:Hid (Bw A B):=(un HB2).trans ((un HBB2).mono (un HB2).size);have HVB:=zAb ((un HV2).later (un HBB2));have HRB:=zAb ((un HRA).later (un HBB));have HBWB:Hid (Bw w B):=(un HBW).trans ((un HBB).mono (un HBW).size);have HSI:=zAb (qsign (.agg #[.bool bk,.slice ak lk ck,.slice dk mk ek]) _ _ B (un HVB));clear HB2 HBB2 HV2;generalize w2.heap.size=g14 at *
  generalize Cub.cmpQ (x*fq i+oq i) 0=sg at HSI HSG
  have m0:=(un HMB).c0;have m1:=(un HMB).c1;have m2:=(un HMB).c2;have hsg:¬sg<0:=fun h=>un HSG h
  go_upto_region 8 with (go_at_call 68;go_must(refine(un HSI).mono ?_;rintro e w3 ⟨rfl,hb3⟩;have HB3:=zAb hb3;have HMB3:=zAb ((un HMB).later hb3);have HVB3:=zAb ((un HVB).later hb3);have HR3:=zAb ((un HRB).later hb3);have HBA3:Hid (Bw A w3):=bt HBB hb3;clear hb3 m0 m1 m2))
  have m0:=(un HMB3).c0;have m1:=(un HMB3).c1;have m2:=(un HMB3).c2;have HBW3:Hid (Bw w w3):=(un HBW).trans ((un HBA3).mono (un HBW).size);have HMK:=zAb (zJq (.agg #[.bool br,.slice ar lr cr,.slice dr mr er]) (.agg #[.bool bv,.slice av lv cv,.slice dv mv ev]) (.agg #[.bool bk,.slice ak lk ck,.slice dk mk ek]) (fq j) (oq j) (x*fq i+oq i) (67+67+(67+67)+(67+67)) w3 br bv bk ar dr av dv ak dk lr cr mr er lv cv mv ev lk ck mk ek rfl rfl rfl (((un HQA).2.2.2.1.later (un HBA3)).mono (by omega)) (((un HQA).2.2.2.2.later (un HBA3)).mono (by omega)) (un HVB3) (by omega) (un HF0));rw[un HYY]at HMK
  go_wp2_with (first
   | (go_at_call 52;go_must(refine(un HMK).mono ?_;rintro e w4 ⟨v4,rfl,hv4,hb4⟩;have HV4:=zAb hv4;have HB4:=zAb hb4;clear hv4 hb4 m0 m1 m2))
   | (go_at_call 55;go_must(refine(qtell _ _ _ _ (un HV4) (by omega) ((un HTW).later ((un HBW3).trans ((un HB4).mono (un HBW3).size)))).mono ?_;rintro e w5 ⟨rfl,hb5⟩;have HB5:Hid (Bw w3 w5):=bt HB4 hb5;have HR5:=zAb ((un HR3).later (un HB5));clear hb5;have q0:=(un HR5).c0;have q1:=(un HR5).c1;have f0:=(un HR5).f0;have f1:=(un HR5).f1)))
  have hS:=(un HR5).store (.string (zEp yy)) (.string (zEr yy));have v0:=hS.c0;have v1:=hS.c1;exact bodyPost_ret (v:=.tuple #[.agg #[.string (zEp yy),.string (zEr yy)],I (zHa yy)]) (w:=zBh w5 (w.heap.size+1) (.string (zEp yy)) (.string (zEr yy))) (by simp[results,Tryz.results46,go_sem,v0,v1]) rfl ⟨rfl,zAk ((un HBW3).trans ((un HB5).mono (un HBW3).size)) (by omega) _ _⟩
end Go.Proofs.YtliadckofhblnaaGreatDoor.Tm

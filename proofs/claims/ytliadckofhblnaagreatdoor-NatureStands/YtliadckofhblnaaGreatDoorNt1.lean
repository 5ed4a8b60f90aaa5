/- Constants of nature: numbers and amounts. -/
import Derived.Test.YtliadckofhblnaaGreatDoorLimb3
import Derived.Test.YtliadckofhblnaaGreatDoorDimEq
import Derived.Test.YtliadckofhblnaaGreatDoorFindB
import Derived.Test.YtliadckofhblnaaGreatDoorAmtF
set_option maxHeartbeats 4000000
set_option maxRecDepth 100000
namespace Go.Proofs.YtliadckofhblnaaGreatDoor
open Go.RowKit
abbrev z13:Array Value:=#[G #[],G #[],I 0,I 0,I 0,I 0,I 0,I 0,I 0,I 0,I 0,I 0,I 0]
def suA (s:Su):Array Value:=#[.string s.nm,.string s.sy,I s.tk,I s.e0,I s.e1,I s.e2,I s.e3,I s.e4,I s.e5,I s.e6,I s.e7,I s.n,I s.d]
theorem zHp:∀n,(flatS n).length=n*13
 | 0=>rfl
 | n+1=>by rw[flatS_succ,List.length_append,zHp n];simp only[suL,List.length_cons,List.length_nil];omega
theorem zCc:∀n k i,k<n→i<13→(flatS n)[k*13+i]?=(suL (sut k))[i]?
 | 0,_,_,h,_=>absurd h (by omega)
 | n+1,k,i,h,hi=>by
  rw[flatS_succ]
  by_cases hk:k<n
  ·rw[List.getElem?_append_left (by rw[zHp];omega)]
   exact zCc n k i hk hi
  ·have e:k=n:=by omega
   subst e;rw[List.getElem?_append_right (by rw[zHp];omega),zHp]
   congr 1
   omega
structure R13 (W:World) (g k:Nat):Prop where
 c0:W.cell? ⟨g,k*13,none⟩=some (.string (sut k).nm)
 c1:W.cell? ⟨g,k*13+1,none⟩=some (.string (sut k).sy)
 c2:W.cell? ⟨g,k*13+2,none⟩=some (I (sut k).tk)
 c3:W.cell? ⟨g,k*13+3,none⟩=some (I (sut k).e0)
 c4:W.cell? ⟨g,k*13+4,none⟩=some (I (sut k).e1)
 c5:W.cell? ⟨g,k*13+5,none⟩=some (I (sut k).e2)
 c6:W.cell? ⟨g,k*13+6,none⟩=some (I (sut k).e3)
 c7:W.cell? ⟨g,k*13+7,none⟩=some (I (sut k).e4)
 c8:W.cell? ⟨g,k*13+8,none⟩=some (I (sut k).e5)
 c9:W.cell? ⟨g,k*13+9,none⟩=some (I (sut k).e6)
 c10:W.cell? ⟨g,k*13+10,none⟩=some (I (sut k).e7)
 c11:W.cell? ⟨g,k*13+11,none⟩=some (I (sut k).n)
 c12:W.cell? ⟨g,k*13+12,none⟩=some (I (sut k).d)
theorem R13.later {W V:World} {B g k:Nat} (h:R13 W g k) (hb:Below B W V) (hg:g<B):R13 V g k :=
 ⟨(hb.cell (p:=⟨g,k*13,none⟩) hg).trans h.c0,(hb.cell (p:=⟨g,k*13+1,none⟩) hg).trans h.c1,(hb.cell (p:=⟨g,k*13+2,none⟩) hg).trans h.c2,(hb.cell (p:=⟨g,k*13+3,none⟩) hg).trans h.c3,(hb.cell (p:=⟨g,k*13+4,none⟩) hg).trans h.c4,(hb.cell (p:=⟨g,k*13+5,none⟩) hg).trans h.c5,(hb.cell (p:=⟨g,k*13+6,none⟩) hg).trans h.c6,(hb.cell (p:=⟨g,k*13+7,none⟩) hg).trans h.c7,(hb.cell (p:=⟨g,k*13+8,none⟩) hg).trans h.c8,(hb.cell (p:=⟨g,k*13+9,none⟩) hg).trans h.c9,(hb.cell (p:=⟨g,k*13+10,none⟩) hg).trans h.c10,(hb.cell (p:=⟨g,k*13+11,none⟩) hg).trans h.c11,(hb.cell (p:=⟨g,k*13+12,none⟩) hg).trans h.c12⟩
theorem rows13_at {W:World} {B g cap:Nat} (h:W.ownsRow B 182 13 (.slice (some ⟨g,0,none⟩) 29 cap) 29 (flatS 29)) (k:Nat) (hk:k<29):R13 W g k :=
 ⟨(h.cellAt (k*13) (by omega)).trans (zCc 29 k 0 hk (by decide)),(h.cellAt (k*13+1) (by omega)).trans (zCc 29 k 1 hk (by decide)),(h.cellAt (k*13+2) (by omega)).trans (zCc 29 k 2 hk (by decide)),(h.cellAt (k*13+3) (by omega)).trans (zCc 29 k 3 hk (by decide)),(h.cellAt (k*13+4) (by omega)).trans (zCc 29 k 4 hk (by decide)),(h.cellAt (k*13+5) (by omega)).trans (zCc 29 k 5 hk (by decide)),(h.cellAt (k*13+6) (by omega)).trans (zCc 29 k 6 hk (by decide)),(h.cellAt (k*13+7) (by omega)).trans (zCc 29 k 7 hk (by decide)),(h.cellAt (k*13+8) (by omega)).trans (zCc 29 k 8 hk (by decide)),(h.cellAt (k*13+9) (by omega)).trans (zCc 29 k 9 hk (by decide)),(h.cellAt (k*13+10) (by omega)).trans (zCc 29 k 10 hk (by decide)),(h.cellAt (k*13+11) (by omega)).trans (zCc 29 k 11 hk (by decide)),(h.cellAt (k*13+12) (by omega)).trans (zCc 29 k 12 hk (by decide))⟩
theorem closureS (nm sy:ByteArray) (tk x0 x1 x2 x3 x4 x5 x6 x7 x8 x9:Int) (s:ByteArray) (b:Nat) (w:World) (hb:w.cell? ⟨b,0,none⟩=some (.string s)) (hlt:b<w.heap.size):Calls Tryz.prog 229 #[.agg #[.string nm,.string sy,I tk,I x0,I x1,I x2,I x3,I x4,I x5,I x6,I x7,I x8,I x9],.pointer (some ⟨b,0,none⟩)] w fun r w'=>r=.returned (.bool (zGj s nm sy))∧Bw w w':=by
 unfold zGj;go_enter Tryz.func229,Tryz.ntmps229
 go_wp2_with fail
 all_goals
  go_ret
  refine⟨?_,bA⟩
  first|rfl|(simp[*];done)|(simp_all;done)
def suB (s:ByteArray) (k:Nat):Bool:=zGj s (sut k).nm (sut k).sy
def IsF29 (p:Nat→Bool) (j:Int):Prop:=(∃k:Nat,k<29∧j=(k:Int)∧p k=true∧∀i,i<k→p i=false)∨(j=-1∧∀i,i<29→p i=false)
theorem indexS (s:ByteArray) (g cap b:Nat) (w:World) (hr:∀k,k<29→R13 w g k) (hg:g<w.heap.size) (hb:w.cell? ⟨b,0,none⟩=some (.string s)) (hlt:b<w.heap.size) :
 Calls Tryz.prog 228 #[.slice (some ⟨g,0,none⟩) 29 cap,.func (.func 229) #[] #[.pointer (some ⟨b,0,none⟩)]] w fun r w'=>∃j:Int,r=.returned (I j)∧IsF29 (suB s) j∧Bw w w':=by
 have HR:=zAb hr;have HBC:=zAb hb;clear hr hb;go_enter Tryz.func228,Tryz.ntmps228
 go_wp2_with fail
 go_loopw [8] (fun s8 wr=>∃(k:Nat),k≤29∧s8=I (k:Int)∧Hid (∀i,i<k→suB s i=false)∧Hid (Bw w wr)) (fun s8 _=>29 - (intOf s8).toNat)
 case atStart=>exact⟨0,by omega,rfl,fun i hi=>absurd hi (by omega),Below.refl _ _⟩
 case round=>
  obtain⟨k,hk,rfl,HN,HB⟩:=hrel
  by_cases hk4:k<29
  ·have hkI:(k:Int)<29:=by omega
   have hk0:(0:Int)≤(k:Int):=by omega
   have hrow:=(un HR k hk4).later (un HB) hg;have c0:=hrow.c0;have c1:=hrow.c1;have c2:=hrow.c2;have c3:=hrow.c3;have c4:=hrow.c4;have c5:=hrow.c5;have c6:=hrow.c6;have c7:=hrow.c7;have c8:=hrow.c8;have c9:=hrow.c9;have c10:=hrow.c10;have c11:=hrow.c11;have c12:=hrow.c12;clear hrow
   have HC:Hid (∀W,Below wr.heap.size wr W→Calls Tryz.prog 229 #[.agg #[.string (sut k).nm,.string (sut k).sy,I (sut k).tk,I (sut k).e0,I (sut k).e1,I (sut k).e2,I (sut k).e3,I (sut k).e4,I (sut k).e5,I (sut k).e6,I (sut k).e7,I (sut k).n,I (sut k).d],.pointer (some ⟨b,0,none⟩)] W fun r w'=>r=.returned (.bool (suB s k))∧Bw W w'):=fun W hW=>
    closureS _ _ _ _ _ _ _ _ _ _ _ _ _ s b W ((bt HB hW).cell (p:=⟨b,0,none⟩) hlt |>.trans (un HBC)) (Nat.lt_of_lt_of_le hlt ((bt HB hW).size))
   have HNK:=zAb (fun (e:suB s k=false)=>zEw (un HN) e);have HYK:=zAb (fun (e:suB s k=true)=>(Or.inl ⟨k,hk4,rfl,e,un HN⟩:IsF29 (suB s) (k:Int)));generalize (sut k).nm=nm at *
   generalize (sut k).sy=sy at *
   generalize (sut k).tk=tk at *
   generalize (sut k).e0=x0 at *
   generalize (sut k).e1=x1 at *
   generalize (sut k).e2=x2 at *
   generalize (sut k).e3=x3 at *
   generalize (sut k).e4=x4 at *
   generalize (sut k).e5=x5 at *
   generalize (sut k).e6=x6 at *
   generalize (sut k).e7=x7 at *
   generalize (sut k).n=x8 at *
   generalize (sut k).d=x9 at *
   by_cases hB:suB s k=true
   ·have HJ:=zAb (un HYK hB)
    rw[hB]at HC;clear HNK HYK hB
    go_wp2_with (go_at_call 229;go_must(refine(un HC _ (Below.refl _ _)).mono ?_;rintro e wt ⟨rfl,hbt⟩;have HBT:=zAb hbt;clear hbt))
    go_ret
    exact⟨_,rfl,un HJ,(un HB).trans ((un HBT).mono (un HB).size)⟩
   ·have hB':suB s k=false:=by simpa using hB
    have HJ:=zAb (un HNK hB');rw[hB']at HC;clear HNK HYK hB hB'
    go_wp2_with (go_at_call 229;go_must(refine(un HC _ (Below.refl _ _)).mono ?_;rintro e wt ⟨rfl,hbt⟩;have HBT:=zAb hbt;clear hbt))
    go_roundw
    case rel=>exact⟨k+1,by omega,by go_num,HJ,(un HB).trans ((un HBT).mono (un HB).size)⟩
    case measure=>simp[intOf];omega
  ·have hkI:¬(k:Int)<29:=by omega
   go_wp2_with fail
   go_ret
   exact⟨-1,rfl,Or.inr ⟨rfl,fun i hi=>un HN i (by omega)⟩,un HB⟩
theorem first29 {p:Nat→Bool} {i j:Int} (h1:IsF29 p i) (h2:IsF29 p j):i=j:=by
 rcases h1 with ⟨a,ha,rfl,pa,qa⟩|⟨rfl,na⟩<;>rcases h2 with ⟨c,hc,rfl,pc,qc⟩|⟨rfl,nc⟩
 ·rcases Nat.lt_trichotomy a c with h|h|h
  ·rw[qc a h]at pa;cases pa
  ·rw[h]
  ·rw[qa c h]at pc;cases pc
 ·rw[nc a ha]at pa;cases pa
 ·rw[na c hc]at pc;cases pc
 ·rfl
def FindS (p:Nat→Bool) (v:Value):Prop:=(∃k:Nat,k<29∧IsF29 p (k:Int)∧v=.tuple #[.agg (suA (sut k)),.bool true])∨(IsF29 p (-1)∧v=.tuple #[.agg z13,.bool false])
theorem info57s:(Tryz.prog.info? 182).map (·.size)=some 13:=by kernel_rfl
theorem res57b {fn:Func} {p u:Tmp} (h:fn.results=#[.cell p 182,.tmp u]) (tmps:Array Value) (w:World) (g:Nat) (vs:Array Value) (hl:vs.size=13) (hp:tmps.getD p undef=.pointer (some ⟨g,0,none⟩)) (ho:zAc w g 182 vs) :
 (results fn tmps).run Tryz.prog w=.ok (.tuple #[.agg vs,tmps.getD u undef]) w:=by
 rw[results_cell_tmp h,hp];simp only[asAddr,Sem.run_pure,Result.andThen_ok];rw[run_loadVar_row w g 182 182 vs (0,0) _ ho Tryz.underlying182 rfl (by rw[info57s,hl])]
 rfl
theorem findS_any (s:ByteArray) (w:World):Calls Tryz.prog 160 #[.string s] w fun r w'=>∃v,r=.returned v∧FindS (suB s) v∧Bw w w':=by
 obtain⟨V,hV⟩:∃V,V=(w.alloc (.cells #[.string s] 9)).alloc (.cells z13 182):=⟨_,rfl⟩;have HBX:Hid (V.cell? ⟨w.heap.size,0,none⟩=some (.string s)∧w.heap.size<V.heap.size):=by rw[hV];exact⟨by simp[go_sem],by simp;omega⟩
 have HR:Hid (zAc V (w.heap.size+1) 182 z13):=by rw[hV];have h:=zAc.new (w.alloc (.cells #[.string s] 9)) z13 182;rw[Dm.size_alloc]at h;exact h
 have HB:Hid (Bw w V):=by rw[hV];exact bA.alloc (by simp) _
 have HV:=zAb hV;clear hV;go_enter Tryz.func160,Tryz.ntmps160
 go_upto_region 1 with fail
 rw[←un HV];clear HV
 go_upto_region 2 with (go_at_call 227;go_must(refine(units_si _).mono ?_;rintro e W1 ⟨v,rfl,ho,hb⟩;have HOW:=zAb ho;have HW:=zAb hb;clear ho hb))
 obtain⟨gR,cap,rfl⟩:=Joins.ownsRow_form (un HOW) (by decide);have HG:Hid (gR<W1.heap.size):=((un HOW).lt gR rfl).2;have HRW:Hid (∀k,k<29→R13 W1 gR k):=fun k hk=>rows13_at (un HOW) k hk
 have HBX1:Hid (W1.cell? ⟨w.heap.size,0,none⟩=some (.string s)∧w.heap.size<W1.heap.size):=⟨((un HW).cell (p:=⟨w.heap.size,0,none⟩) (un HBX).2).trans (un HBX).1,Nat.lt_of_lt_of_le (un HBX).2 (un HW).size⟩;have HIX:=zAb (indexS s gR cap w.heap.size W1 (un HRW) (un HG) (un HBX1).1 (un HBX1).2);have HR1:=zAb ((un HR).later (un HW));have HB1:=zAb ((un HB).trans ((un HW).mono (un HB).size));clear HW HBX HBX1 HR HB HOW
 go_upto_region 3 with (go_at_call 228;go_must(refine(un HIX).mono ?_;rintro e W2 ⟨j,rfl,hj,hb⟩;have HJ:=zAb hj;have HB2:=zAb (bt HB1 hb);have HR2:=zAb ((un HR1).later hb);have HRW2:=zAb (fun k hk=>(un HRW k hk).later hb (un HG));clear hj hb))
 clear HIX HRW HG HR1 HB1;rcases un HJ with ⟨k,hk,rfl,hk1,hk2⟩|⟨rfl,hn⟩
 ·have hk0:(0:Int)≤(k:Int):=by omega
  have hkI:(k:Int)<29:=by omega
  have hkn:¬(k:Int)<0:=by omega
  have hrow:=un HRW2 k hk;have c0:=hrow.c0;have c1:=hrow.c1;have c2:=hrow.c2;have c3:=hrow.c3;have c4:=hrow.c4;have c5:=hrow.c5;have c6:=hrow.c6;have c7:=hrow.c7;have c8:=hrow.c8;have c9:=hrow.c9;have c10:=hrow.c10;have c11:=hrow.c11;have c12:=hrow.c12;have HOUT:Hid (FindS (suB s) (.tuple #[.agg (suA (sut k)),.bool true])):=Or.inl ⟨k,hk,Or.inl ⟨k,hk,rfl,hk1,hk2⟩,rfl⟩;unfold suA at HOUT
  clear hrow hk1 hk2 HRW2 HJ;generalize (sut k).nm=nm at *
  generalize (sut k).sy=sy at *
  generalize (sut k).tk=tk at *
  generalize (sut k).e0=x0 at *
  generalize (sut k).e1=x1 at *
  generalize (sut k).e2=x2 at *
  generalize (sut k).e3=x3 at *
  generalize (sut k).e4=x4 at *
  generalize (sut k).e5=x5 at *
  generalize (sut k).e6=x6 at *
  generalize (sut k).e7=x7 at *
  generalize (sut k).n=x8 at *
  generalize (sut k).d=x9 at *
  go_wp2_with (refine zAn 182 13 info57s rfl (.tmp 2) (.tmp 16) rfl (w.heap.size+1) z13 #[.string nm,.string sy,I tk,I x0,I x1,I x2,I x3,I x4,I x5,I x6,I x7,I x8,I x9] rfl rfl rfl rfl (un HR2) (by kernel_rfl) ?_)
  exact bodyPost_ret (v:=.tuple #[.agg #[.string nm,.string sy,I tk,I x0,I x1,I x2,I x3,I x4,I x5,I x6,I x7,I x8,I x9],.bool true]) (res57b Tryz.results160 _ _ (w.heap.size+1) _ rfl rfl ((un HR2).setRow _)) rfl ⟨_,rfl,un HOUT,below_setRow (un HB2) (by omega) _⟩
 ·have hn1:((-1:Int)<0):=by decide
  go_wp2_with (refine zAn 182 13 info57s rfl (.tmp 2) (.tmp 12) rfl (w.heap.size+1) z13 z13 rfl rfl rfl rfl (un HR2) (by kernel_rfl) ?_)
  exact bodyPost_ret (v:=.tuple #[.agg z13,.bool false]) (res57b Tryz.results160 _ _ (w.heap.size+1) _ rfl rfl ((un HR2).setRow _)) rfl ⟨_,rfl,Or.inr ⟨Or.inr ⟨rfl,hn⟩,rfl⟩,below_setRow (un HB2) (by omega) _⟩
theorem told_walk (ev:Nat→Int) (n d tk:Int) (nm sy fn fd:ByteArray) (w:World)
  (hdi:∀W,Below w.heap.size w W→Calls Tryz.prog 230 #[.agg (J (ev 0) (ev 1) (ev 2) (ev 3) (ev 4) (ev 5) (ev 6) (ev 7) n d),.agg zCr] W fun r w'=>r=.returned (.agg #[I (ev 0),I (ev 1),I (ev 2),I (ev 3),I (ev 4),I (ev 5),I (ev 6),I (ev 7)])∧Bw W w')
  (hfa:∀W,Below w.heap.size w W→Calls Tryz.prog 231 #[.agg (J (ev 0) (ev 1) (ev 2) (ev 3) (ev 4) (ev 5) (ev 6) (ev 7) n d),.agg zCr] W fun r w'=>r=.returned (.agg #[.string fn,.string fd])∧Bw W w')
  (hze:∀W,Below w.heap.size w W→Calls Tryz.prog 103 #[I 0] W fun r w'=>r=.returned (.agg #[G #[48],G #[49]])∧Bw W w') :
  Calls Tryz.prog 161 #[.agg #[.string nm,.string sy,I tk,I (ev 0),I (ev 1),I (ev 2),I (ev 3),I (ev 4),I (ev 5),I (ev 6),I (ev 7),I n,I d],.agg zCr] w fun r w'=>r=.returned (.agg #[.string nm,.string sy,I (ev 0),I (ev 1),I (ev 2),I (ev 3),I (ev 4),I (ev 5),I (ev 6),I (ev 7),.string fn,.string fd,G #[48],G #[49],I tk])∧Bw w w':=by
 obtain⟨pL,hpL,HLN⟩:∃pL:List Value,pL.toArray=zCr∧Hid (pL.length=120):=⟨zCr.toList,by simp,by show _=_;rw[Array.length_toList];exact partsA_size⟩;rw[←hpL]at hdi hfa ⊢;clear hpL;obtain⟨V,hV⟩:∃V,V=((w.alloc (.cells #[.string nm,.string sy,I tk,I (ev 0),I (ev 1),I (ev 2),I (ev 3),I (ev 4),I (ev 5),I (ev 6),I (ev 7),I n,I d] 182)).alloc (.cells pL.toArray 186)).alloc (.cells z15 30):=⟨_,rfl⟩;have HB0:Hid (Bw w V):=by rw[hV];exact(bA.alloc (by simp) _).alloc (by simp;omega) _
 have HA0:Hid (zAc V w.heap.size 182 #[.string nm,.string sy,I tk,I (ev 0),I (ev 1),I (ev 2),I (ev 3),I (ev 4),I (ev 5),I (ev 6),I (ev 7),I n,I d]):=by rw[hV];exact((zAc.new _ _ _).alloc _).alloc _
 have HO0:Hid (zAc V (w.heap.size+1) 186 pL.toArray):=by rw[hV];have h:=zAc.new (w.alloc (.cells #[.string nm,.string sy,I tk,I (ev 0),I (ev 1),I (ev 2),I (ev 3),I (ev 4),I (ev 5),I (ev 6),I (ev 7),I n,I d] 182)) pL.toArray 186;rw[Dm.size_alloc]at h;exact h.alloc _
 have HR0:Hid (zAc V (w.heap.size+1+1) 30 z15):=by rw[hV];have h:=zAc.new ((w.alloc (.cells #[.string nm,.string sy,I tk,I (ev 0),I (ev 1),I (ev 2),I (ev 3),I (ev 4),I (ev 5),I (ev 6),I (ev 7),I n,I d] 182)).alloc (.cells pL.toArray 186)) z15 30;rw[Dm.size_alloc,Dm.size_alloc]at h;exact h
 have HDI:=zAb hdi;have HFA:=zAb hfa;have HZE:=zAb hze;have HSS:Hid (∀W':World,zAc W' w.heap.size 182 #[.string nm,.string sy,I tk,I (ev 0),I (ev 1),I (ev 2),I (ev 3),I (ev 4),I (ev 5),I (ev 6),I (ev 7),I n,I d]→zAc W' (w.heap.size+1) 186 pL.toArray→W'.cell? ⟨w.heap.size,0,none⟩=some (.string nm)∧W'.cell? ⟨w.heap.size,1,none⟩=some (.string sy)∧W'.cell? ⟨w.heap.size,2,none⟩=some (I tk)∧W'.cell? ⟨w.heap.size,3,none⟩=some (I (ev 0))∧W'.cell? ⟨w.heap.size,4,none⟩=some (I (ev 1))∧W'.cell? ⟨w.heap.size,5,none⟩=some (I (ev 2))∧W'.cell? ⟨w.heap.size,6,none⟩=some (I (ev 3))∧W'.cell? ⟨w.heap.size,7,none⟩=some (I (ev 4))∧W'.cell? ⟨w.heap.size,8,none⟩=some (I (ev 5))∧W'.cell? ⟨w.heap.size,9,none⟩=some (I (ev 6))∧W'.cell? ⟨w.heap.size,10,none⟩=some (I (ev 7))∧W'.cell? ⟨w.heap.size,11,none⟩=some (I n)∧W'.cell? ⟨w.heap.size,12,none⟩=some (I d)∧W'.rangeAt (w.heap.size+1) 0 pL):=fun W' h1 h2=>⟨h1.ub.c 0 _ rfl,h1.ub.c 1 _ rfl,h1.ub.c 2 _ rfl,h1.ub.c 3 _ rfl,h1.ub.c 4 _ rfl,h1.ub.c 5 _ rfl,h1.ub.c 6 _ rfl,h1.ub.c 7 _ rfl,h1.ub.c 8 _ rfl,h1.ub.c 9 _ rfl,h1.ub.c 10 _ rfl,h1.ub.c 11 _ rfl,h1.ub.c 12 _ rfl,h2.mid 0 pL (fun j v h=>by simpa using h)⟩
 have HV:=zAb hV;clear hV hdi hfa hze;go_enter Tryz.func161,Tryz.ntmps161
 go_upto_region 1 with fail
 rw[←un HV];clear HV;have HA1:Hid (zAc V.drew w.heap.size 182 #[.string nm,.string sy,I tk,I (ev 0),I (ev 1),I (ev 2),I (ev 3),I (ev 4),I (ev 5),I (ev 6),I (ev 7),I n,I d]):=un HA0;have HO1:Hid (zAc V.drew (w.heap.size+1) 186 pL.toArray):=un HO0;have HR1:Hid (zAc V.drew (w.heap.size+1+1) 30 z15):=un HR0;have HB1:Hid (Bw w V.drew):=(un HB0).drew;clear HA0 HO0 HR0 HB0;have HS0:=zAb (un HSS _ (un HA1) (un HO1));refine zAi 19 (fun _=>True) (fun W'=>W'.cell? ⟨w.heap.size,0,none⟩=some (.string nm)∧W'.cell? ⟨w.heap.size,1,none⟩=some (.string sy)∧W'.cell? ⟨w.heap.size,2,none⟩=some (I tk)∧W'.cell? ⟨w.heap.size,3,none⟩=some (I (ev 0))∧W'.cell? ⟨w.heap.size,4,none⟩=some (I (ev 1))∧W'.cell? ⟨w.heap.size,5,none⟩=some (I (ev 2))∧W'.cell? ⟨w.heap.size,6,none⟩=some (I (ev 3))∧W'.cell? ⟨w.heap.size,7,none⟩=some (I (ev 4))∧W'.cell? ⟨w.heap.size,8,none⟩=some (I (ev 5))∧W'.cell? ⟨w.heap.size,9,none⟩=some (I (ev 6))∧W'.cell? ⟨w.heap.size,10,none⟩=some (I (ev 7))∧W'.cell? ⟨w.heap.size,11,none⟩=some (I n)∧W'.cell? ⟨w.heap.size,12,none⟩=some (I d)∧W'.rangeAt (w.heap.size+1) 0 pL) 20 rfl (by kernel_rfl) ?_;generalize V.drew=U1 at *
 refine wT7 0 (.pointer (some ⟨w.heap.size,0,none⟩)) rfl (Or.inl ⟨by rfl,?_⟩) ⟨trivial,un HS0⟩ ?_
 ·intro W' hW
  go_split_ands
  go_simp
 refine wT7 1 (.pointer (some ⟨w.heap.size,0,none⟩)) rfl (Or.inl ⟨by rfl,?_⟩) ⟨trivial,un HS0⟩ ?_
 ·intro W' hW
  go_split_ands
  go_simp
 refine wT7 2 (.string nm) rfl (Or.inl ⟨by rfl,?_⟩) ⟨trivial,un HS0⟩ ?_
 ·intro W' hW
  go_split_ands
  go_simp
 refine wT7 3 (.pointer (some ⟨w.heap.size,0,none⟩)) rfl (Or.inl ⟨by rfl,?_⟩) ⟨trivial,un HS0⟩ ?_
 ·intro W' hW
  go_split_ands
  go_simp
 refine wT7 4 (.pointer (some ⟨w.heap.size,1,none⟩)) rfl (Or.inl ⟨by rfl,?_⟩) ⟨trivial,un HS0⟩ ?_
 ·intro W' hW
  go_split_ands
  go_simp
 refine wT7 5 (.string sy) rfl (Or.inl ⟨by rfl,?_⟩) ⟨trivial,un HS0⟩ ?_
 ·intro W' hW
  go_split_ands
  go_simp
 refine wT7 6 (.pointer (some ⟨w.heap.size,3,none⟩)) rfl (Or.inl ⟨by rfl,?_⟩) ⟨trivial,un HS0⟩ ?_
 ·intro W' hW
  go_split_ands
  go_simp
 refine wT7 7 (.agg (J (ev 0) (ev 1) (ev 2) (ev 3) (ev 4) (ev 5) (ev 6) (ev 7) n d)) rfl (Or.inl ⟨by rfl,?_⟩) ⟨trivial,un HS0⟩ ?_
 ·intro W' hW
  go_split_ands
  go_simp
 refine wT7 8 (.agg pL.toArray) rfl ?_ ⟨trivial,un HS0⟩ ?_
 ·refine yieldsIf_load_mid (by kernel_rfl) 186 (.tmp 3) (by kernel_rfl) (w.heap.size+1) 0 (by kernel_rfl) pL _ (fun W' hW=>hW.2.2.2.2.2.2.2.2.2.2.2.2.2) Tryz.underlying186 rfl (by rw[info48,un HLN])
 refine wT7 10 (.pointer (some ⟨w.heap.size,3,none⟩)) rfl (Or.inl ⟨by rfl,?_⟩) ⟨trivial,un HS0⟩ ?_
 ·intro W' hW
  go_split_ands
  go_simp
 refine wT7 11 (.agg (J (ev 0) (ev 1) (ev 2) (ev 3) (ev 4) (ev 5) (ev 6) (ev 7) n d)) rfl (Or.inl ⟨by rfl,?_⟩) ⟨trivial,un HS0⟩ ?_
 ·intro W' hW
  go_split_ands
  go_simp
 refine wT7 12 (.agg pL.toArray) rfl ?_ ⟨trivial,un HS0⟩ ?_
 ·refine yieldsIf_load_mid (by kernel_rfl) 186 (.tmp 3) (by kernel_rfl) (w.heap.size+1) 0 (by kernel_rfl) pL _ (fun W' hW=>hW.2.2.2.2.2.2.2.2.2.2.2.2.2) Tryz.underlying186 rfl (by rw[info48,un HLN])
 refine wT7 15 (.pointer (some ⟨w.heap.size,0,none⟩)) rfl (Or.inl ⟨by rfl,?_⟩) ⟨trivial,un HS0⟩ ?_
 ·intro W' hW
  go_split_ands
  go_simp
 refine wT7 16 (.pointer (some ⟨w.heap.size,2,none⟩)) rfl (Or.inl ⟨by rfl,?_⟩) ⟨trivial,un HS0⟩ ?_
 ·intro W' hW
  go_split_ands
  go_simp
 refine wT7 17 (I tk) rfl (Or.inl ⟨by rfl,?_⟩) ⟨trivial,un HS0⟩ ?_
 ·intro W' hW
  go_split_ands
  go_simp
 refine wO 9 rfl rfl (fun K hK=>?_)
 go_simp
 refine(un HDI _ (un HB1)).mono ?_;rintro e U2 ⟨rfl,hb⟩;have HA2:=zAb ((un HA1).later hb);have HO2:=zAb ((un HO1).later hb);have HR2:=zAb ((un HR1).later hb);have HB2:Hid (Bw w U2):=bt HB1 hb;clear hb HA1 HO1 HR1 HB1;refine hK _ _ ⟨trivial,un HSS _ (un HA2) (un HO2)⟩ ?_;clear hK K;refine wO 13 rfl rfl (fun K hK=>?_)
 go_simp
 refine(un HFA _ (un HB2)).mono ?_;rintro e U3 ⟨rfl,hb⟩;have HA3:=zAb ((un HA2).later hb);have HO3:=zAb ((un HO2).later hb);have HR3:=zAb ((un HR2).later hb);have HB3:Hid (Bw w U3):=bt HB2 hb;clear hb HA2 HO2 HR2 HB2;refine hK _ _ ⟨trivial,un HSS _ (un HA3) (un HO3)⟩ ?_;clear hK K;refine wO 14 rfl rfl (fun K hK=>?_)
 go_simp
 refine(un HZE _ (un HB3)).mono ?_;rintro e U4 ⟨rfl,hb⟩;have HA4:=zAb ((un HA3).later hb);have HO4:=zAb ((un HO3).later hb);have HR4:=zAb ((un HR3).later hb);have HB4:Hid (Bw w U4):=bt HB3 hb;clear hb HA3 HO3 HR3 HB3;refine hK _ _ ⟨trivial,un HSS _ (un HA4) (un HO4)⟩ ?_;clear hK K;refine wO 18 rfl rfl (fun K hK=>?_)
 go_simp
 refine hK _ _ ⟨trivial,un HSS _ (un HA4) (un HO4)⟩ ?_;clear hK K;refine wL 19 rfl rfl (fun K hK=>?_);refine wp_store_row 30 (.tmp 4) (.tmp 23) rfl (w.heap.size+1+1) #[.string nm,.string sy,I (ev 0),I (ev 1),I (ev 2),I (ev 3),I (ev 4),I (ev 5),I (ev 6),I (ev 7),.string fn,.string fd,G #[48],G #[49],I tk] (by kernel_rfl) (by kernel_rfl) 30 _ (un HR4) (by rw[zEd];rfl) rfl (by kernel_rfl) (hK _ _ (un HSS _ ((un HA4).otherRow (by omega)) ((un HO4).otherRow (by omega))) ?_);clear hK K;refine wDn ?_
 go_wp2_with fail
 exact bodyPost_ret (v:=.agg #[.string nm,.string sy,I (ev 0),I (ev 1),I (ev 2),I (ev 3),I (ev 4),I (ev 5),I (ev 6),I (ev 7),.string fn,.string fd,G #[48],G #[49],I tk]) (res30 Tryz.results161 _ _ (w.heap.size+1+1) _ rfl rfl ((un HR4).setRow _)) rfl ⟨rfl,below_setRow (un HB4) (by omega) _⟩
def evF (s:Su):Nat→Int
 | 0=>s.e0
 | 1=>s.e1
 | 2=>s.e2
 | 3=>s.e3
 | 4=>s.e4
 | 5=>s.e5
 | 6=>s.e6
 | _=>s.e7
def okE (s:Su):Bool:=[s.e0,s.e1,s.e2,s.e3,s.e4,s.e5,s.e6,s.e7].all fun x=>decide (-99≤x∧x≤99)
theorem evF_le (s:Su) (h:okE s=true):∀j,-99≤evF s j∧evF s j≤99:=by
 simp only[okE,List.all_cons,List.all_nil,Bool.and_true,Bool.and_eq_true,decide_eq_true_eq]at h;obtain⟨h0,h1,h2,h3,h4,h5,h6,h7⟩:=h;intro j
 match j with
 | 0=>exact h0
 | 1=>exact h1
 | 2=>exact h2
 | 3=>exact h3
 | 4=>exact h4
 | 5=>exact h5
 | 6=>exact h6
 | _+7=>exact h7
def ruA (s:Su) (fn fd:ByteArray):Array Value:=#[.string s.nm,.string s.sy,I s.e0,I s.e1,I s.e2,I s.e3,I s.e4,I s.e5,I s.e6,I s.e7,.string fn,.string fd,G #[48],G #[49],I s.tk]
theorem zAy (s:Su) (N D:Nat) (q:Rat) (fn fd:ByteArray) (w:World) (hn:s.n=(N:Int)) (hd:s.d=(D:Int)) (hE:okE s=true) (hN:N<9223372036854775808) (hD:D<9223372036854775808) (hD0:Cub.valQ false D 1≠0) (hq:Cub.valQ false N 1*(Cub.valQ false D 1)⁻¹=q) (hs:IsR fn fd q) (hq1:q*1=q) (htab:Tab w) :
  Calls Tryz.prog 161 #[.agg (suA s),.agg zCr] w fun r w'=>r=.returned (.agg (ruA s fn fd))∧Bw w w':=by
 unfold suA;rw[hn,hd];refine told_walk (evF s) (N:Int) (D:Int) s.tk s.nm s.sy fn fd w (fun W _=>amtDim (evF s) _ _ W (evF_le s hE)) (fun W hb=>?_) (fun W hb=>zFc W (htab.later hb));refine amtFac (evF s) (N:Int) (D:Int) (sT false N) ⟨#[49]⟩ (sT false D) ⟨#[49]⟩ fn fd W (htab.later hb) (evF_le s hE) (fun X hx=>zCg N X hN (htab.later (hb.trans (hx.mono hb.size)))) (fun X hx=>zCg D X hD (htab.later (hb.trans (hx.mono hb.size)))) (fun X hx=>?_) (fun X hx=>?_)
 ·exact zFb (zGq (sT false N) ⟨#[49]⟩ (sT false D) ⟨#[49]⟩ _ _ X (zCh N hN) (zCh D hD) hD0 (htab.later (hb.trans (hx.mono hb.size)))) hq hs
 ·exact zFb (rmul_ok fn fd ⟨#[49]⟩ ⟨#[49]⟩ q 1 X hs zAz (htab.later (hb.trans (hx.mono hb.size)))) hq1 hs
def sfn:Nat→ByteArray
 | 21=>⟨#[54,48]⟩
 | 22=>⟨#[51,54,48,48]⟩
 | 23=>⟨#[56,54,52,48,48]⟩
 | 24=>⟨#[49]⟩
 | 25=>⟨#[49,48,48,48]⟩
 | 26=>⟨#[49,48,48,48,48,48]⟩
 | 27=>⟨#[49,48,48,48,48]⟩
 | 28=>⟨#[56]⟩
 | _=>⟨#[49]⟩
def sfd:Nat→ByteArray
 | 24=>⟨#[49,48,48,48]⟩
 | _=>⟨#[49]⟩
def ruT (k:Nat):Array Value:=ruA (sut k) (sfn k) (sfd k)
theorem told_su:∀k,k<29→∀W,Tab W→Calls Tryz.prog 161 #[.agg (suA (sut k)),.agg zCr] W fun r w'=>r=.returned (.agg (ruT k))∧Bw W w'
 | 0,_=>fun W ht=>zAy (sut 0) 1 1 1 _ _ W rfl rfl (by decide) (by decide) (by decide) (by decide +kernel) (by decide +kernel) zAz (by decide +kernel) ht
 | 1,_=>fun W ht=>zAy (sut 1) 1 1 1 _ _ W rfl rfl (by decide) (by decide) (by decide) (by decide +kernel) (by decide +kernel) zAz (by decide +kernel) ht
 | 2,_=>fun W ht=>zAy (sut 2) 1 1 1 _ _ W rfl rfl (by decide) (by decide) (by decide) (by decide +kernel) (by decide +kernel) zAz (by decide +kernel) ht
 | 3,_=>fun W ht=>zAy (sut 3) 1 1 1 _ _ W rfl rfl (by decide) (by decide) (by decide) (by decide +kernel) (by decide +kernel) zAz (by decide +kernel) ht
 | 4,_=>fun W ht=>zAy (sut 4) 1 1 1 _ _ W rfl rfl (by decide) (by decide) (by decide) (by decide +kernel) (by decide +kernel) zAz (by decide +kernel) ht
 | 5,_=>fun W ht=>zAy (sut 5) 1 1 1 _ _ W rfl rfl (by decide) (by decide) (by decide) (by decide +kernel) (by decide +kernel) zAz (by decide +kernel) ht
 | 6,_=>fun W ht=>zAy (sut 6) 1 1 1 _ _ W rfl rfl (by decide) (by decide) (by decide) (by decide +kernel) (by decide +kernel) zAz (by decide +kernel) ht
 | 7,_=>fun W ht=>zAy (sut 7) 1 1 1 _ _ W rfl rfl (by decide) (by decide) (by decide) (by decide +kernel) (by decide +kernel) zAz (by decide +kernel) ht
 | 8,_=>fun W ht=>zAy (sut 8) 1 1 1 _ _ W rfl rfl (by decide) (by decide) (by decide) (by decide +kernel) (by decide +kernel) zAz (by decide +kernel) ht
 | 9,_=>fun W ht=>zAy (sut 9) 1 1 1 _ _ W rfl rfl (by decide) (by decide) (by decide) (by decide +kernel) (by decide +kernel) zAz (by decide +kernel) ht
 | 10,_=>fun W ht=>zAy (sut 10) 1 1 1 _ _ W rfl rfl (by decide) (by decide) (by decide) (by decide +kernel) (by decide +kernel) zAz (by decide +kernel) ht
 | 11,_=>fun W ht=>zAy (sut 11) 1 1 1 _ _ W rfl rfl (by decide) (by decide) (by decide) (by decide +kernel) (by decide +kernel) zAz (by decide +kernel) ht
 | 12,_=>fun W ht=>zAy (sut 12) 1 1 1 _ _ W rfl rfl (by decide) (by decide) (by decide) (by decide +kernel) (by decide +kernel) zAz (by decide +kernel) ht
 | 13,_=>fun W ht=>zAy (sut 13) 1 1 1 _ _ W rfl rfl (by decide) (by decide) (by decide) (by decide +kernel) (by decide +kernel) zAz (by decide +kernel) ht
 | 14,_=>fun W ht=>zAy (sut 14) 1 1 1 _ _ W rfl rfl (by decide) (by decide) (by decide) (by decide +kernel) (by decide +kernel) zAz (by decide +kernel) ht
 | 15,_=>fun W ht=>zAy (sut 15) 1 1 1 _ _ W rfl rfl (by decide) (by decide) (by decide) (by decide +kernel) (by decide +kernel) zAz (by decide +kernel) ht
 | 16,_=>fun W ht=>zAy (sut 16) 1 1 1 _ _ W rfl rfl (by decide) (by decide) (by decide) (by decide +kernel) (by decide +kernel) zAz (by decide +kernel) ht
 | 17,_=>fun W ht=>zAy (sut 17) 1 1 1 _ _ W rfl rfl (by decide) (by decide) (by decide) (by decide +kernel) (by decide +kernel) zAz (by decide +kernel) ht
 | 18,_=>fun W ht=>zAy (sut 18) 1 1 1 _ _ W rfl rfl (by decide) (by decide) (by decide) (by decide +kernel) (by decide +kernel) zAz (by decide +kernel) ht
 | 19,_=>fun W ht=>zAy (sut 19) 1 1 1 _ _ W rfl rfl (by decide) (by decide) (by decide) (by decide +kernel) (by decide +kernel) zAz (by decide +kernel) ht
 | 20,_=>fun W ht=>zAy (sut 20) 1 1 1 _ _ W rfl rfl (by decide) (by decide) (by decide) (by decide +kernel) (by decide +kernel) zAz (by decide +kernel) ht
 | 21,_=>fun W ht=>zAy (sut 21) 60 1 60 _ _ W rfl rfl (by decide) (by decide) (by decide) (by decide +kernel) (by decide +kernel) (zBf _ _ 60 1 _ (by decide +kernel) (by decide +kernel) (by decide +kernel) (by decide) (by decide) (by decide) (by decide) (by decide) (by decide)) (by decide +kernel) ht
 | 22,_=>fun W ht=>zAy (sut 22) 3600 1 3600 _ _ W rfl rfl (by decide) (by decide) (by decide) (by decide +kernel) (by decide +kernel) (zBf _ _ 3600 1 _ (by decide +kernel) (by decide +kernel) (by decide +kernel) (by decide) (by decide) (by decide) (by decide) (by decide) (by decide)) (by decide +kernel) ht
 | 23,_=>fun W ht=>zAy (sut 23) 86400 1 86400 _ _ W rfl rfl (by decide) (by decide) (by decide) (by decide +kernel) (by decide +kernel) (zBf _ _ 86400 1 _ (by decide +kernel) (by decide +kernel) (by decide +kernel) (by decide) (by decide) (by decide) (by decide) (by decide) (by decide)) (by decide +kernel) ht
 | 24,_=>fun W ht=>zAy (sut 24) 1 1000 (1 / 1000) _ _ W rfl rfl (by decide) (by decide) (by decide) (by decide +kernel) (by decide +kernel) isR_milli (by decide +kernel) ht
 | 25,_=>fun W ht=>zAy (sut 25) 1000 1 1000 _ _ W rfl rfl (by decide) (by decide) (by decide) (by decide +kernel) (by decide +kernel) (zBf _ _ 1000 1 _ (by decide +kernel) (by decide +kernel) (by decide +kernel) (by decide) (by decide) (by decide) (by decide) (by decide) (by decide)) (by decide +kernel) ht
 | 26,_=>fun W ht=>zAy (sut 26) 100000 1 100000 _ _ W rfl rfl (by decide) (by decide) (by decide) (by decide +kernel) (by decide +kernel) (zBf _ _ 100000 1 _ (by decide +kernel) (by decide +kernel) (by decide +kernel) (by decide) (by decide) (by decide) (by decide) (by decide) (by decide)) (by decide +kernel) ht
 | 27,_=>fun W ht=>zAy (sut 27) 10000 1 10000 _ _ W rfl rfl (by decide) (by decide) (by decide) (by decide +kernel) (by decide +kernel) (zBf _ _ 10000 1 _ (by decide +kernel) (by decide +kernel) (by decide +kernel) (by decide) (by decide) (by decide) (by decide) (by decide) (by decide)) (by decide +kernel) ht
 | 28,_=>fun W ht=>zAy (sut 28) 8 1 8 _ _ W rfl rfl (by decide) (by decide) (by decide) (by decide +kernel) (by decide +kernel) (zBf _ _ 8 1 _ (by decide +kernel) (by decide +kernel) (by decide +kernel) (by decide) (by decide) (by decide) (by decide) (by decide) (by decide)) (by decide +kernel) ht
 | _+29,h=>absurd h (by omega)
theorem zHe (k:Nat):(ruT k).size=15:=rfl
theorem zHf (k:Nat):(ruT k).all (·.oneCell')=true:=by kernel_rfl
theorem FindS.yes {p:Nat→Bool} {v:Value} {k:Nat} (h:FindS p v) (hf:IsF29 p (k:Int)):v=.tuple #[.agg (suA (sut k)),.bool true]:=by
 rcases h with ⟨a,ha,fa,rfl⟩|⟨fa,rfl⟩
 ·have:=first29 fa hf
  have e:a=k:=by omega
  rw[e]
 ·have:=first29 fa hf;omega
theorem findS_yes (s:ByteArray) (k:Nat) (hf:IsF29 (suB s) (k:Int)) (w:World):Calls Tryz.prog 160 #[.string s] w fun r w'=>r=.returned (.tuple #[.agg (suA (sut k)),.bool true])∧Bw w w' :=
 (findS_any s w).mono (by rintro r w' ⟨v,rfl,hv,hb⟩;exact⟨by rw[hv.yes hf],hb⟩)
theorem siFind_walk (s:ByteArray) (w:World) (fv:Value) (nm sy:ByteArray) (tk x0 x1 x2 x3 x4 x5 x6 x7 x8 x9:Int) (out:Array Value) (pa:Array Value) (hoz:out.size=15) (ho1:out.all (·.oneCell')=true)
  (hfi:∀W:World,Calls Tryz.prog 160 #[.string s] W fun r w'=>r=.returned (.tuple #[.agg #[.string nm,.string sy,I tk,I x0,I x1,I x2,I x3,I x4,I x5,I x6,I x7,I x8,I x9],.bool true])∧Bw W w')
  (hpa:∀W,Below w.heap.size w W→Calls Tryz.prog 162 #[] W fun r w'=>r=.returned (.agg pa)∧Bw W w')
  (hto:∀W,Below w.heap.size w W→Calls Tryz.prog 161 #[.agg #[.string nm,.string sy,I tk,I x0,I x1,I x2,I x3,I x4,I x5,I x6,I x7,I x8,I x9],.agg pa] W fun r w'=>r=.returned (.agg out)∧Bw W w') (hfv:fv=.tuple #[.agg out,.bool true]) :
  Calls Tryz.prog 71 #[.string s] w fun r w'=>r=.returned fv∧Bw w w':=by
 subst hfv;obtain⟨V,hV⟩:∃V,V=w.alloc (.cells z15 30):=⟨_,rfl⟩;have HB:Hid (Bw w V):=by rw[hV];exact bA
 have HR:Hid (zAc V w.heap.size 30 z15):=by rw[hV];exact zAc.new _ _ _
 have HFI:=zAb hfi;have HPA:=zAb hpa;have HTO:=zAb hto;have HOZ:=zAb hoz;have HO1:=zAb ho1;have HV:=zAb hV;clear hV hfi hpa hto hoz ho1;go_enter Tryz.func71,Tryz.ntmps71
 go_upto_region 1 with fail
 rw[←un HV];clear HV
 go_upto_region 2 with (first
  | (go_at_call 160;go_must(refine(un HFI _).mono ?_;rintro e w1 ⟨rfl,hb⟩;have HR1:=zAb ((un HR).later hb);have HB1:Hid (Bw w w1):=bt HB hb;clear hb))
  | (refine zAn 182 13 info57s rfl (.tmp 4) (.tmp 9) rfl w1.heap.size z13 #[.string nm,.string sy,I tk,I x0,I x1,I x2,I x3,I x4,I x5,I x6,I x7,I x8,I x9] rfl rfl rfl rfl (zAc.new _ _ _) (by kernel_rfl) ?_))
 have hb2:Below w1.heap.size w1 ((w1.alloc (.cells z13 182)).setRow w1.heap.size #[.string nm,.string sy,I tk,I x0,I x1,I x2,I x3,I x4,I x5,I x6,I x7,I x8,I x9]):=below_setRow (zBx _ _) (Nat.le_refl _) _;have HX2:Hid (zAc ((w1.alloc (.cells z13 182)).setRow w1.heap.size #[.string nm,.string sy,I tk,I x0,I x1,I x2,I x3,I x4,I x5,I x6,I x7,I x8,I x9]) w1.heap.size 182 #[.string nm,.string sy,I tk,I x0,I x1,I x2,I x3,I x4,I x5,I x6,I x7,I x8,I x9]):=(zAc.new _ _ _).setRow _;have HR2:=zAb ((un HR1).later hb2);have HB2:Hid (Bw w _):=bt HB1 hb2;have HNE:Hid (¬w.heap.size=w1.heap.size):=(by have:=(un HR1).lt;show ¬_;omega);clear hb2 HR1 HB1 HR HB HFI;generalize (w1.alloc (.cells z13 182)).setRow w1.heap.size #[.string nm,.string sy,I tk,I x0,I x1,I x2,I x3,I x4,I x5,I x6,I x7,I x8,I x9]=w2 at *
 generalize w1.heap.size=g4 at *
 go_upto_region 4 with fail
 have HX3:Hid (zAc w2.drew g4 182 #[.string nm,.string sy,I tk,I x0,I x1,I x2,I x3,I x4,I x5,I x6,I x7,I x8,I x9]):=un HX2;have HR3:Hid (zAc w2.drew w.heap.size 30 z15):=un HR2;have HB3:Hid (Bw w w2.drew):=(un HB2).drew;have HSS:Hid (∀W':World,zAc W' g4 182 #[.string nm,.string sy,I tk,I x0,I x1,I x2,I x3,I x4,I x5,I x6,I x7,I x8,I x9]→W'.cell? ⟨g4,0,none⟩=some (.string nm)∧W'.cell? ⟨g4,1,none⟩=some (.string sy)∧W'.cell? ⟨g4,2,none⟩=some (I tk)∧W'.cell? ⟨g4,3,none⟩=some (I x0)∧W'.cell? ⟨g4,4,none⟩=some (I x1)∧W'.cell? ⟨g4,5,none⟩=some (I x2)∧W'.cell? ⟨g4,6,none⟩=some (I x3)∧W'.cell? ⟨g4,7,none⟩=some (I x4)∧W'.cell? ⟨g4,8,none⟩=some (I x5)∧W'.cell? ⟨g4,9,none⟩=some (I x6)∧W'.cell? ⟨g4,10,none⟩=some (I x7)∧W'.cell? ⟨g4,11,none⟩=some (I x8)∧W'.cell? ⟨g4,12,none⟩=some (I x9)):=fun W' h1=>⟨h1.ub.c 0 _ rfl,h1.ub.c 1 _ rfl,h1.ub.c 2 _ rfl,h1.ub.c 3 _ rfl,h1.ub.c 4 _ rfl,h1.ub.c 5 _ rfl,h1.ub.c 6 _ rfl,h1.ub.c 7 _ rfl,h1.ub.c 8 _ rfl,h1.ub.c 9 _ rfl,h1.ub.c 10 _ rfl,h1.ub.c 11 _ rfl,h1.ub.c 12 _ rfl⟩
 have HS0:=zAb (un HSS _ (un HX3));clear HX2 HR2 HB2;refine zAi 3 (fun _=>True) (fun W'=>W'.cell? ⟨g4,0,none⟩=some (.string nm)∧W'.cell? ⟨g4,1,none⟩=some (.string sy)∧W'.cell? ⟨g4,2,none⟩=some (I tk)∧W'.cell? ⟨g4,3,none⟩=some (I x0)∧W'.cell? ⟨g4,4,none⟩=some (I x1)∧W'.cell? ⟨g4,5,none⟩=some (I x2)∧W'.cell? ⟨g4,6,none⟩=some (I x3)∧W'.cell? ⟨g4,7,none⟩=some (I x4)∧W'.cell? ⟨g4,8,none⟩=some (I x5)∧W'.cell? ⟨g4,9,none⟩=some (I x6)∧W'.cell? ⟨g4,10,none⟩=some (I x7)∧W'.cell? ⟨g4,11,none⟩=some (I x8)∧W'.cell? ⟨g4,12,none⟩=some (I x9)) 5 rfl (by kernel_rfl) ?_;generalize w2.drew=U1 at *
 refine wT7 0 (.agg #[.string nm,.string sy,I tk,I x0,I x1,I x2,I x3,I x4,I x5,I x6,I x7,I x8,I x9]) rfl (Or.inl ⟨by rfl,?_⟩) ⟨trivial,un HS0⟩ ?_
 ·intro W' hW
  go_split_ands
  go_simp
 refine wO 1 rfl rfl (fun K hK=>?_)
 go_simp
 refine(un HPA _ (un HB3)).mono ?_;rintro e U4 ⟨rfl,hb⟩;have HX4:=zAb ((un HX3).later hb);have HR4:=zAb ((un HR3).later hb);have HB4:Hid (Bw w U4):=bt HB3 hb;clear hb HX3 HR3 HB3;refine hK _ _ ⟨trivial,un HSS _ (un HX4)⟩ ?_;clear hK K;refine wO 2 rfl rfl (fun K hK=>?_)
 go_simp
 refine(un HTO _ (un HB4)).mono ?_;rintro e U5 ⟨rfl,hb⟩;have HX5:=zAb ((un HX4).later hb);have HR5:=zAb ((un HR4).later hb);have HB5:Hid (Bw w U5):=bt HB4 hb;clear hb HX4 HR4 HB4;refine hK _ _ ⟨trivial,un HSS _ (un HX5)⟩ ?_;clear hK K;have HX6:=zAb ((un HX5).otherRow (us:=out) (un HNE));refine wL 3 rfl rfl (fun K hK=>?_);refine wp_store_row 30 (.tmp 2) (.tmp 16) rfl w.heap.size out (by kernel_rfl) (by kernel_rfl) 30 _ (un HR5) (by rw[zEd,un HOZ]) (by rw[un HOZ];rfl) (un HO1) (hK _ _ (un HSS _ (un HX6)) ?_);clear hK K;refine wL 4 rfl rfl (fun K hK=>?_)
 go_simp
 refine hK _ _ (un HSS _ (un HX6)) ?_;clear hK K;refine wDn ?_
 go_wp2_with fail
 exact bodyPost_ret (v:=.tuple #[.agg out,.bool true]) (res27b Tryz.results71 _ _ w.heap.size _ (un HOZ) rfl ((un HR5).setRow _)) rfl ⟨rfl,below_setRow (un HB5) (Nat.le_refl _) _⟩
theorem zGg (s:ByteArray) (k:Nat) (hk:k<29) (hf:IsF29 (suB s) (k:Int)) (w:World) (htab:Tab w):Calls Tryz.prog 71 #[.string s] w fun r w'=>r=.returned (.tuple #[.agg (ruT k),.bool true])∧Bw w w' :=
 siFind_walk s w _ _ _ _ _ _ _ _ _ _ _ _ _ _ (ruT k) zCr (zHe k) (zHf k) (fun W=>findS_yes s k hf W) (fun W hb=>parts_si W (htab.later hb)) (fun W hb=>told_su k hk W (htab.later hb)) rfl
end Go.Proofs.YtliadckofhblnaaGreatDoor
namespace Go.Proofs.YtliadckofhblnaaGreatDoor.Nt
open Go.RowKit
abbrev n3 (a b c:Int):Array Value:=#[I a,I b,I c]
theorem info153:(Tryz.prog.info? 153).map (·.size)=some 3:=by kernel_rfl
theorem zBa:(Tryz.prog.info? 155).map (·.size)=some 14:=by kernel_rfl
theorem res153 {fn:Func} {p:Tmp} (h:fn.results=#[.cell p 153]) (tmps:Array Value) (w:World) (g:Nat) (vs:Array Value) (hl:vs.size=3) (hp:tmps.getD p undef=.pointer (some ⟨g,0,none⟩)) (ho:zAc w g 153 vs) :
  (results fn tmps).run Tryz.prog w=.ok (.agg vs) w:=by
 rw[zBb h,hp];simp only[asAddr,Sem.run_pure,Result.andThen_ok];rw[run_loadVar_row w g 153 153 vs (0,0) _ ho Tryz.underlying153 rfl (by rw[info153,hl])]
theorem zCf {fn:Func} {p:Tmp} (h:fn.results=#[.cell p 155]) (tmps:Array Value) (w:World) (g:Nat) (vs:Array Value) (hl:vs.size=14) (hp:tmps.getD p undef=.pointer (some ⟨g,0,none⟩)) (ho:zAc w g 155 vs) :
  (results fn tmps).run Tryz.prog w=.ok (.agg vs) w:=by
 rw[zBb h,hp];simp only[asAddr,Sem.run_pure,Result.andThen_ok];rw[run_loadVar_row w g 155 155 vs (0,0) _ ho Tryz.underlying155 rfl (by rw[zBa,hl])]
theorem numTimes (a0 a1 a2 b0 b1 b2 c0 c1 c2:Int) (w:World) (h0:wrap64 (a0*b0)=c0) (h1:wrap64 (a1*b1)=c1) (h2:wrap64 (a2+b2)=c2) :
  Calls Tryz.prog 246 #[.agg (n3 a0 a1 a2),.agg (n3 b0 b1 b2)] w fun r w'=>r=.returned (.agg (n3 c0 c1 c2))∧Bw w w':=by
 have HR:Hid (zAc (((w.alloc (.cells (n3 a0 a1 a2) 153)).alloc (.cells (n3 b0 b1 b2) 153)).alloc (.cells (n3 0 0 0) 153)) (w.heap.size+1+1) 153 (n3 0 0 0)):=by have h:=zAc.new ((w.alloc (.cells (n3 a0 a1 a2) 153)).alloc (.cells (n3 b0 b1 b2) 153)) (n3 0 0 0) 153;rw[Dm.size_alloc,Dm.size_alloc]at h;exact h
 have HB:Hid (Bw w (((w.alloc (.cells (n3 a0 a1 a2) 153)).alloc (.cells (n3 b0 b1 b2) 153)).alloc (.cells (n3 0 0 0) 153))):=(bA.alloc (by simp) _).alloc (by simp;omega) _;go_enter Tryz.func246,Tryz.ntmps246
 go_wp2_with (refine zAn 153 3 info153 rfl (.tmp 4) (.tmp 20) rfl (w.heap.size+1+1) (n3 0 0 0) (n3 c0 c1 c2) rfl rfl rfl rfl (un HR) (by kernel_rfl) ?_)
 exact bodyPost_ret (v:=.agg (n3 c0 c1 c2)) (res153 Tryz.results246 _ _ (w.heap.size+1+1) _ rfl rfl ((un HR).setRow _)) rfl ⟨rfl,below_setRow (un HB) (by omega) _⟩
theorem numBy (a0 a1 a2 b0 b1 b2 c0 c1 c2:Int) (w:World) (h0:wrap64 (a0*b1)=c0) (h1:wrap64 (a1*b0)=c1) (h2:wrap64 (a2 - b2)=c2) :
  Calls Tryz.prog 245 #[.agg (n3 a0 a1 a2),.agg (n3 b0 b1 b2)] w fun r w'=>r=.returned (.agg (n3 c0 c1 c2))∧Bw w w':=by
 have HR:Hid (zAc (((w.alloc (.cells (n3 a0 a1 a2) 153)).alloc (.cells (n3 b0 b1 b2) 153)).alloc (.cells (n3 0 0 0) 153)) (w.heap.size+1+1) 153 (n3 0 0 0)):=by have h:=zAc.new ((w.alloc (.cells (n3 a0 a1 a2) 153)).alloc (.cells (n3 b0 b1 b2) 153)) (n3 0 0 0) 153;rw[Dm.size_alloc,Dm.size_alloc]at h;exact h
 have HB:Hid (Bw w (((w.alloc (.cells (n3 a0 a1 a2) 153)).alloc (.cells (n3 b0 b1 b2) 153)).alloc (.cells (n3 0 0 0) 153))):=(bA.alloc (by simp) _).alloc (by simp;omega) _;go_enter Tryz.func245,Tryz.ntmps245
 go_wp2_with (refine zAn 153 3 info153 rfl (.tmp 4) (.tmp 20) rfl (w.heap.size+1+1) (n3 0 0 0) (n3 c0 c1 c2) rfl rfl rfl rfl (un HR) (by kernel_rfl) ?_)
 exact bodyPost_ret (v:=.agg (n3 c0 c1 c2)) (res153 Tryz.results245 _ _ (w.heap.size+1+1) _ rfl rfl ((un HR).setRow _)) rfl ⟨rfl,below_setRow (un HB) (by omega) _⟩
end Go.Proofs.YtliadckofhblnaaGreatDoor.Nt

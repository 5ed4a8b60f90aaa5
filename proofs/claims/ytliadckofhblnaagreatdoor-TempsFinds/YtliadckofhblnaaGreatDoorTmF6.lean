/- TempsFinds: what temps.Find and Fixed answer is what the document says, whatever the texts. -/
import Derived.Test.YtliadckofhblnaaGreatDoorTmRefLarge
import Derived.Test.YtliadckofhblnaaGreatDoorTmF2
import Derived.Laws.StructEq
set_option maxHeartbeats 8000000
set_option maxRecDepth 100000
namespace Go.Proofs.YtliadckofhblnaaGreatDoor.Tm
open Go.RowKit
structure MS (w W:World) (uf ug uo up:ByteArray) (bx:Bool) (xn xd:ByteArray):Prop where
 c0:W.cell? ⟨w.heap.size,10,none⟩=some (.string uf)
 c1:W.cell? ⟨w.heap.size,11,none⟩=some (.string ug)
 c2:W.cell? ⟨w.heap.size,12,none⟩=some (.string uo)
 c3:W.cell? ⟨w.heap.size,13,none⟩=some (.string up)
 c4:W.cell? ⟨w.heap.size+1,0,none⟩=some (.bool bx)
 c5:W.cell? ⟨w.heap.size+1,1,none⟩=some (.string xn)
 c6:W.cell? ⟨w.heap.size+1,2,none⟩=some (.string xd)
 r:FBox W (w.heap.size+2) (.bool false) (G #[]) (G #[])
 lt:w.heap.size+2<W.heap.size
theorem MS.later {w W U:World} {uf ug uo up:ByteArray} {bx:Bool} {xn xd:ByteArray} (h:MS w W uf ug uo up bx xn xd) (hb:Below W.heap.size W U):MS w U uf ug uo up bx xn xd :=
 have h0:=h.lt
 ⟨(hb.cell (p:=⟨w.heap.size,10,none⟩) (by show w.heap.size<_;omega)).trans h.c0,(hb.cell (p:=⟨w.heap.size,11,none⟩) (by show w.heap.size<_;omega)).trans h.c1,(hb.cell (p:=⟨w.heap.size,12,none⟩) (by show w.heap.size<_;omega)).trans h.c2,(hb.cell (p:=⟨w.heap.size,13,none⟩) (by show w.heap.size<_;omega)).trans h.c3,(hb.cell (p:=⟨w.heap.size+1,0,none⟩) (by show w.heap.size+1<_;omega)).trans h.c4,(hb.cell (p:=⟨w.heap.size+1,1,none⟩) (by show w.heap.size+1<_;omega)).trans h.c5,(hb.cell (p:=⟨w.heap.size+1,2,none⟩) (by show w.heap.size+1<_;omega)).trans h.c6,h.r.later hb,Nat.lt_of_lt_of_le h.lt hb.size⟩
theorem refIn_walk (uy us uf ug uo up:ByteArray) (ud0 ud1 ud2 ud3 ud4 ud5 ud6 ud7 ut:Int) (bx br:Bool) (xn xd rn rd:ByteArray) (fO fM fS fF fI:Value) (w:World)
  (h1:∀W,Below w.heap.size w W→Calls Tryz.prog 59 #[.agg #[.string uo,.string up]] W fun r w'=>r=.returned (fO)∧Bw W w')
  (h2:∀W,Below w.heap.size w W→Calls Tryz.prog 124 #[fO] W fun r w'=>r=.returned (fM)∧Bw W w')
  (h3:∀W,Below w.heap.size w W→Calls Tryz.prog 123 #[.agg #[.bool bx,.string xn,.string xd],fM] W fun r w'=>r=.returned (fS)∧Bw W w')
  (h4:∀W,Below w.heap.size w W→Calls Tryz.prog 59 #[.agg #[.string uf,.string ug]] W fun r w'=>r=.returned (fF)∧Bw W w')
  (h5:∀W,Below w.heap.size w W→Calls Tryz.prog 125 #[fF] W fun r w'=>r=.returned (fI)∧Bw W w')
  (h6:∀W,Below w.heap.size w W→Calls Tryz.prog 122 #[fS,fI] W fun r w'=>r=.returned (.agg #[.bool br,.string rn,.string rd])∧Bw W w') :
  Calls Tryz.prog 58 #[.agg #[.string uy,.string us,I ud0,I ud1,I ud2,I ud3,I ud4,I ud5,I ud6,I ud7,.string uf,.string ug,.string uo,.string up,I ut],.agg #[.bool bx,.string xn,.string xd]] w fun r w'=>r=.returned (.agg #[.bool br,.string rn,.string rd])∧Bw w w':=by
 obtain⟨V,hV⟩:∃V,V=((w.alloc (.cells #[.string uy,.string us,I ud0,I ud1,I ud2,I ud3,I ud4,I ud5,I ud6,I ud7,.string uf,.string ug,.string uo,.string up,I ut] 30)).alloc (.cells #[.bool bx,.string xn,.string xd] 96)).alloc (.cells #[.bool false,G #[],G #[]] 96):=⟨_,rfl⟩;have HS:Hid (MS w V uf ug uo up bx xn xd):=by rw[hV];exact⟨by simp[go_sem],by simp[go_sem],by simp[go_sem],by simp[go_sem],by simp[go_sem],by simp[go_sem],by simp[go_sem],⟨by simp[go_sem],by simp[go_sem],by simp[go_sem],by simp[go_sem],by simp[go_sem],by simp[go_sem]⟩,by simp⟩
 have HB:Hid (Bw w V):=by rw[hV];exact(bA.alloc (by simp) _).alloc (by simp;omega) _
 have HV:=zAb hV;have H1:=zAb h1;have H2:=zAb h2;have H3:=zAb h3;have H4:=zAb h4;have H5:=zAb h5;have H6:=zAb h6;clear hV h1 h2 h3 h4 h5 h6;go_enter Tryz.func58,Tryz.ntmps58
 go_upto_region 1 with fail
 rw[←un HV];clear HV;have t0:V.cell? ⟨w.heap.size,10,none⟩=some (.string uf):=(un HS).c0;have t1:V.cell? ⟨w.heap.size,11,none⟩=some (.string ug):=(un HS).c1;have t2:V.cell? ⟨w.heap.size,12,none⟩=some (.string uo):=(un HS).c2;have t3:V.cell? ⟨w.heap.size,13,none⟩=some (.string up):=(un HS).c3;have t4:V.cell? ⟨w.heap.size+1,0,none⟩=some (.bool bx):=(un HS).c4;have t5:V.cell? ⟨w.heap.size+1,1,none⟩=some (.string xn):=(un HS).c5;have t6:V.cell? ⟨w.heap.size+1,2,none⟩=some (.string xd):=(un HS).c6;have HC0:Hid (Bw V V.drew):=(Below.refl _ _).drew;have HUP:Hid (∀W,Below V.heap.size V W→Below w.heap.size w W):=fun W h=>bt HB h
 go_region_held3 (fun w'=>w'.cell? ⟨w.heap.size,10,none⟩=some (.string uf)∧w'.cell? ⟨w.heap.size,11,none⟩=some (.string ug)∧w'.cell? ⟨w.heap.size,12,none⟩=some (.string uo)∧w'.cell? ⟨w.heap.size,13,none⟩=some (.string up)∧w'.cell? ⟨w.heap.size+1,0,none⟩=some (.bool bx)∧w'.cell? ⟨w.heap.size+1,1,none⟩=some (.string xn)∧w'.cell? ⟨w.heap.size+1,2,none⟩=some (.string xd)) (first|assumption|(simp[go_sem, *];done)) ((first
  | (go_at_call 122;refine(un H6 _ (un HUP _ (un HCwg))).mono ?_;rintro e wh ⟨rfl,hb⟩;have HCwh:Hid (Bw V wh):=bt HCwg hb;clear hb t0 t1 t2 t3 t4 t5 t6;have t0:wh.cell? ⟨w.heap.size,10,none⟩=some (.string uf):=((un HS).later (un HCwh)).c0;have t1:wh.cell? ⟨w.heap.size,11,none⟩=some (.string ug):=((un HS).later (un HCwh)).c1;have t2:wh.cell? ⟨w.heap.size,12,none⟩=some (.string uo):=((un HS).later (un HCwh)).c2;have t3:wh.cell? ⟨w.heap.size,13,none⟩=some (.string up):=((un HS).later (un HCwh)).c3;have t4:wh.cell? ⟨w.heap.size+1,0,none⟩=some (.bool bx):=((un HS).later (un HCwh)).c4;have t5:wh.cell? ⟨w.heap.size+1,1,none⟩=some (.string xn):=((un HS).later (un HCwh)).c5;have t6:wh.cell? ⟨w.heap.size+1,2,none⟩=some (.string xd):=((un HS).later (un HCwh)).c6;have HRR:=zAb ((un HS).later (un HCwh)).r;have r0:=(un HRR).c0;have r1:=(un HRR).c1;have r2:=(un HRR).c2;have rf0:=(un HRR).f0;have rf1:=(un HRR).f1;have rf2:=(un HRR).f2)
  | (go_at_call 125;refine(un H5 _ (un HUP _ (un HCwf))).mono ?_;rintro e wg ⟨rfl,hb⟩;have HCwg:Hid (Bw V wg):=bt HCwf hb;clear hb t0 t1 t2 t3 t4 t5 t6;have t0:wg.cell? ⟨w.heap.size,10,none⟩=some (.string uf):=((un HS).later (un HCwg)).c0;have t1:wg.cell? ⟨w.heap.size,11,none⟩=some (.string ug):=((un HS).later (un HCwg)).c1;have t2:wg.cell? ⟨w.heap.size,12,none⟩=some (.string uo):=((un HS).later (un HCwg)).c2;have t3:wg.cell? ⟨w.heap.size,13,none⟩=some (.string up):=((un HS).later (un HCwg)).c3;have t4:wg.cell? ⟨w.heap.size+1,0,none⟩=some (.bool bx):=((un HS).later (un HCwg)).c4;have t5:wg.cell? ⟨w.heap.size+1,1,none⟩=some (.string xn):=((un HS).later (un HCwg)).c5;have t6:wg.cell? ⟨w.heap.size+1,2,none⟩=some (.string xd):=((un HS).later (un HCwg)).c6)
  | (go_at_call_of 59 uf;refine(un H4 _ (un HUP _ (un HCwd))).mono ?_;rintro e wf ⟨rfl,hb⟩;have HCwf:Hid (Bw V wf):=bt HCwd hb;clear hb t0 t1 t2 t3 t4 t5 t6;have t0:wf.cell? ⟨w.heap.size,10,none⟩=some (.string uf):=((un HS).later (un HCwf)).c0;have t1:wf.cell? ⟨w.heap.size,11,none⟩=some (.string ug):=((un HS).later (un HCwf)).c1;have t2:wf.cell? ⟨w.heap.size,12,none⟩=some (.string uo):=((un HS).later (un HCwf)).c2;have t3:wf.cell? ⟨w.heap.size,13,none⟩=some (.string up):=((un HS).later (un HCwf)).c3;have t4:wf.cell? ⟨w.heap.size+1,0,none⟩=some (.bool bx):=((un HS).later (un HCwf)).c4;have t5:wf.cell? ⟨w.heap.size+1,1,none⟩=some (.string xn):=((un HS).later (un HCwf)).c5;have t6:wf.cell? ⟨w.heap.size+1,2,none⟩=some (.string xd):=((un HS).later (un HCwf)).c6)
  | (go_at_call 123;refine(un H3 _ (un HUP _ (un HCwb))).mono ?_;rintro e wd ⟨rfl,hb⟩;have HCwd:Hid (Bw V wd):=bt HCwb hb;clear hb t0 t1 t2 t3 t4 t5 t6;have t0:wd.cell? ⟨w.heap.size,10,none⟩=some (.string uf):=((un HS).later (un HCwd)).c0;have t1:wd.cell? ⟨w.heap.size,11,none⟩=some (.string ug):=((un HS).later (un HCwd)).c1;have t2:wd.cell? ⟨w.heap.size,12,none⟩=some (.string uo):=((un HS).later (un HCwd)).c2;have t3:wd.cell? ⟨w.heap.size,13,none⟩=some (.string up):=((un HS).later (un HCwd)).c3;have t4:wd.cell? ⟨w.heap.size+1,0,none⟩=some (.bool bx):=((un HS).later (un HCwd)).c4;have t5:wd.cell? ⟨w.heap.size+1,1,none⟩=some (.string xn):=((un HS).later (un HCwd)).c5;have t6:wd.cell? ⟨w.heap.size+1,2,none⟩=some (.string xd):=((un HS).later (un HCwd)).c6)
  | (go_at_call 124;refine(un H2 _ (un HUP _ (un HCwa))).mono ?_;rintro e wb ⟨rfl,hb⟩;have HCwb:Hid (Bw V wb):=bt HCwa hb;clear hb t0 t1 t2 t3 t4 t5 t6;have t0:wb.cell? ⟨w.heap.size,10,none⟩=some (.string uf):=((un HS).later (un HCwb)).c0;have t1:wb.cell? ⟨w.heap.size,11,none⟩=some (.string ug):=((un HS).later (un HCwb)).c1;have t2:wb.cell? ⟨w.heap.size,12,none⟩=some (.string uo):=((un HS).later (un HCwb)).c2;have t3:wb.cell? ⟨w.heap.size,13,none⟩=some (.string up):=((un HS).later (un HCwb)).c3;have t4:wb.cell? ⟨w.heap.size+1,0,none⟩=some (.bool bx):=((un HS).later (un HCwb)).c4;have t5:wb.cell? ⟨w.heap.size+1,1,none⟩=some (.string xn):=((un HS).later (un HCwb)).c5;have t6:wb.cell? ⟨w.heap.size+1,2,none⟩=some (.string xd):=((un HS).later (un HCwb)).c6)
  | (go_at_call_of 59 uo;refine(un H1 _ (un HUP _ (un HC0))).mono ?_;rintro e wa ⟨rfl,hb⟩;have HCwa:Hid (Bw V wa):=bt HC0 hb;clear hb t0 t1 t2 t3 t4 t5 t6;have t0:wa.cell? ⟨w.heap.size,10,none⟩=some (.string uf):=((un HS).later (un HCwa)).c0;have t1:wa.cell? ⟨w.heap.size,11,none⟩=some (.string ug):=((un HS).later (un HCwa)).c1;have t2:wa.cell? ⟨w.heap.size,12,none⟩=some (.string uo):=((un HS).later (un HCwa)).c2;have t3:wa.cell? ⟨w.heap.size,13,none⟩=some (.string up):=((un HS).later (un HCwa)).c3;have t4:wa.cell? ⟨w.heap.size+1,0,none⟩=some (.bool bx):=((un HS).later (un HCwa)).c4;have t5:wa.cell? ⟨w.heap.size+1,1,none⟩=some (.string xn):=((un HS).later (un HCwa)).c5;have t6:wa.cell? ⟨w.heap.size+1,2,none⟩=some (.string xd):=((un HS).later (un HCwa)).c6) ))
 all_goals
  go_wp2_with fail
  have hS:=(un HRR).store (.bool br) (.string rn) (.string rd);have v0:=hS.c0;have v1:=hS.c1;have v2:=hS.c2;exact bodyPost_ret (v:=.agg #[.bool br,.string rn,.string rd]) (w:=zAs wh (w.heap.size+2) (.bool br) (.string rn) (.string rd)) (by simp[results,Tryz.results58,go_sem,v0,v1,v2]) rfl ⟨rfl,zAq (un HUP _ (un HCwh)) (by omega) _ _ _⟩
theorem byte_45 (c:UInt8):((c.toNat:Int)=45)↔c=45:=by
 constructor
 ·intro h
  have:c.toNat=45:=by omega
  rw[←Cub.ofNat_toNat c,this];rfl
 ·intro h;subst h;rfl
theorem ext1 (s:ByteArray):(s.extract 1 s.size).data.toList=s.data.toList.tail:=by
 rw[ByteArray.data_extract,Array.toList_extract,List.extract_eq_take_drop];have h1:s.size=s.data.toList.length:=(zBq s).symm;rw[h1]
 cases s.data.toList with
 | nil=>rfl
 | cons a t=>simp
theorem neg_form (num:ByteArray):(zJd num=true∧0<num.size∧num.toList.isEmpty=false∧(∀h:0<num.size,(num[0].toNat:Int)=45)∧num.extract 1 num.size=digT num)∨(zJd num=false∧digT num=num∧(num.toList.isEmpty=true∨(0<num.size∧num.toList.isEmpty=false∧∀h:0<num.size,((num[0].toNat:Int) == 45)=false))):=by
 rcases Nat.eq_zero_or_pos num.size with hz|hp
 ·right
  have hl:num.data.toList=[]:=by rw[←List.length_eq_zero_iff,zBq];exact hz
  have hn:zJd num=false:=by unfold zJd;rw[hl];rfl
  exact⟨hn,by unfold digT;rw[if_neg (by rw[hn];decide)],Or.inl (empty_of num hz)⟩
 ·have hh:=list_head num hp
  by_cases hn:zJd num=true
  ·left
   have h45:num[0]=45:=by unfold zJd at hn;rw[hh]at hn;simpa using hn
   refine⟨hn,hp,zJh num hp,fun _=>(byte_45 _).2 h45,?_⟩
   apply zGb
   rw[ext1,digT_list,if_pos hn]
  ·right
   have hn':zJd num=false:=by simpa using hn
   refine⟨hn',by unfold digT;rw[if_neg hn],Or.inr ⟨hp,zJh num hp,fun _=>?_⟩⟩;rw[beq_eq_false_iff_ne];intro e
   apply hn
   unfold zJd;rw[hh,(byte_45 _).1 e];rfl
theorem refRead_walk (num den ds:ByteArray) (b:Bool) (w:World) (hm:num.size≤9223372036854775807) (hd:den.toList.isEmpty=false)
  (hneg:(b=true∧0<num.size∧num.toList.isEmpty=false∧(∀h:0<num.size,(num[0].toNat:Int)=45)∧num.extract 1 num.size=ds)∨(b=false∧ds=num∧(0<num.size∧num.toList.isEmpty=false∧∀h:0<num.size,((num[0].toNat:Int) == 45)=false))) :
  Calls Tryz.prog 59 #[.agg #[.string num,.string den]] w fun r w'=>r=.returned (.agg #[.bool b,.string ds,.string den])∧Bw w w':=by
 obtain⟨V,hV⟩:∃V,V=(w.alloc (.cells #[.string num,.string den] 28)).alloc (.cells #[.bool false,G #[],G #[]] 96):=⟨_,rfl⟩;have HB:Hid (Bw w V):=by rw[hV];exact bA.alloc (by simp) _
 have HR:Hid (FBox V (w.heap.size+1) (.bool false) (G #[]) (G #[])):=by rw[hV];exact⟨by simp[go_sem],by simp[go_sem],by simp[go_sem],by simp[go_sem],by simp[go_sem],by simp[go_sem]⟩
 have HC:Hid (V.cell? ⟨w.heap.size,0,none⟩=some (.string num)∧V.cell? ⟨w.heap.size,1,none⟩=some (.string den)):=by rw[hV];exact⟨by simp[go_sem],by simp[go_sem]⟩
 have HV:=zAb hV;have hS:=(un HR).store (.bool b) (.string ds) (.string den);have HB9:Hid (Bw w (zAs V (w.heap.size+1) (.bool b) (.string ds) (.string den))):=zAq (un HB) (by omega) _ _ _;have u0:=hS.c0;have u1:=hS.c1;have u2:=hS.c2;obtain⟨t0,t1⟩:=un HC;have r0:=(un HR).c0;have r1:=(un HR).c1;have r2:=(un HR).c2;have rf0:=(un HR).f0;have rf1:=(un HR).f1;have rf2:=(un HR).f2;rcases hneg with ⟨rfl,hp,he,h45,hds⟩|⟨rfl,rfl,hp,he,h45⟩
 ·have h45':=h45 hp
  have hs':(0:Int)<(num.size:Int):=by omega
  have hs1:(1:Int)≤(num.size:Int):=by omega
  have HDS:=zAb hds;clear hds h45 hS;go_enter Tryz.func59,Tryz.ntmps59
  go_upto_region 1 with fail
  rw[←un HV];clear hV HV
  go_upto_region 4 with fail
  go_region
  rw[un HDS];obtain⟨U,hU⟩:∃U,U=(((V.setCell ⟨w.heap.size+1,0,none⟩ (.bool true)).setCell ⟨w.heap.size+1,1,none⟩ (.string ds)).setCell ⟨w.heap.size+1,2,none⟩ (.string den)).drew:=⟨_,rfl⟩;have HBU:Hid (Bw w U):=by rw[hU];exact(un HB9).trans (((Below.refl _ _).drew).mono (un HB9).size)
  have q0:U.cell? ⟨w.heap.size+1,0,none⟩=some (.bool true):=by rw[hU];exact u0
  have q1:U.cell? ⟨w.heap.size+1,1,none⟩=some (.string ds):=by rw[hU];exact u1
  have q2:U.cell? ⟨w.heap.size+1,2,none⟩=some (.string den):=by rw[hU];exact u2
  rw[←hU];clear hU u0 u1 u2 r0 r1 r2 rf0 rf1 rf2 t0 t1 HB9
  go_wp2_with fail
  exact bodyPost_ret (v:=.agg #[.bool true,.string ds,.string den]) (by simp[results,Tryz.results59,go_sem,q0,q1,q2]) rfl ⟨rfl,un HBU⟩
 ·have h45':=h45 hp
  have hs':(0:Int)<(ds.size:Int):=by omega
  clear h45 hS;go_enter Tryz.func59,Tryz.ntmps59
  go_upto_region 1 with fail
  rw[←un HV];clear hV HV
  go_wp2_with fail
  exact bodyPost_ret (v:=.agg #[.bool false,.string ds,.string den]) (w:=zAs V (w.heap.size+1) (.bool false) (.string ds) (.string den)) (by simp[results,Tryz.results59,go_sem,u0,u1,u2]) rfl ⟨rfl,un HB9⟩
theorem refRead (num den:ByteArray) (x:Rat) (w:World) (h:IsR num den x) :
  Calls Tryz.prog 59 #[.agg #[.string num,.string den]] w fun r w'=>r=.returned (fx x)∧Bw w w':=by
 have hr:=h.rt;obtain⟨hsm,en,ed⟩:=h;have e1:num=sT (decide (x<0)) x.num.natAbs:=by rw[en];unfold zEp;rw[if_pos hsm]
 have e2:den=tb x.den:=by rw[ed];unfold zEr;rw[if_pos hsm]
 have hz:=sT_size (decide (x<0)) x.num.natAbs hsm.1;have g1:zJd num=decide (x<0):=by rw[e1];exact neg_sT _ _ hsm.1
 have g2:digT num=tx x.num.natAbs:=by rw[e1,dig_sT _ _ hsm.1,tx_tb _ hsm.1]
 have hde:den.toList.isEmpty=false:=by rw[e2];exact tb_full _ hsm.2
 have hnp:0<num.size:=by
  have q:=tb_full x.num.natAbs hsm.1;rcases Nat.eq_zero_or_pos num.size with hz0|hp
  ·exfalso
   have hl:num.data.toList=[]:=by rw[←List.length_eq_zero_iff,zBq];exact hz0
   rw[e1,sT_list]at hl;rw[Lib.toList_data]at q
   split at hl
   ·cases hl
   ·rw[hl]at q;cases q
  ·exact hp
 have hf:=neg_form num;rw[g1,g2]at hf;unfold fx;rw[←tx_tb _ hsm.2,←e2];refine refRead_walk num den _ _ w (by rw[e1];omega) hde ?_;rcases hf with hf|⟨a,b,c⟩
 ·exact Or.inl hf
 ·rcases c with c|c
  ·rw[zJh num hnp]at c;cases c
  ·exact Or.inr ⟨a,b,c⟩
theorem refFOver_walk (b:Bool) (s t:ByteArray) (w:World) :
  Calls Tryz.prog 125 #[.agg #[.bool b,.string s,.string t]] w fun r w'=>r=.returned (.agg #[.bool b,.string t,.string s])∧Bw w w':=by
 obtain⟨V,hV⟩:∃V,V=(w.alloc (.cells #[.bool b,.string s,.string t] 96)).alloc (.cells #[.bool false,G #[],G #[]] 96):=⟨_,rfl⟩;have HB:Hid (Bw w V):=by rw[hV];exact bA.alloc (by simp) _
 have HR:Hid (FBox V (w.heap.size+1) (.bool false) (G #[]) (G #[])):=by rw[hV];exact⟨by simp[go_sem],by simp[go_sem],by simp[go_sem],by simp[go_sem],by simp[go_sem],by simp[go_sem]⟩
 have HF:Hid (FBox V w.heap.size (.bool b) (.string s) (.string t)):=by rw[hV];exact⟨by simp[go_sem],by simp[go_sem],by simp[go_sem],by simp[go_sem],by simp[go_sem],by simp[go_sem]⟩
 have HV:=zAb hV;have hS:=(un HR).store (.bool b) (.string t) (.string s);have HB9:Hid (Bw w (zAs V (w.heap.size+1) (.bool b) (.string t) (.string s))):=zAq (un HB) (by omega) _ _ _;have u0:=hS.c0;have u1:=hS.c1;have u2:=hS.c2;have t0:=(un HF).c0;have t1:=(un HF).c1;have t2:=(un HF).c2;have r0:=(un HR).c0;have r1:=(un HR).c1;have r2:=(un HR).c2;have rf0:=(un HR).f0;have rf1:=(un HR).f1;have rf2:=(un HR).f2;clear hS;go_enter Tryz.func125,Tryz.ntmps125
 go_upto_region 1 with fail
 rw[←un HV];clear hV HV
 go_wp2_with fail
 exact bodyPost_ret (v:=.agg #[.bool b,.string t,.string s]) (w:=zAs V (w.heap.size+1) (.bool b) (.string t) (.string s)) (by simp[results,Tryz.results125,go_sem,u0,u1,u2]) rfl ⟨rfl,un HB9⟩
theorem refFOver (x:Rat) (hx:x≠0) (w:World):Calls Tryz.prog 125 #[fx x] w fun r w'=>r=.returned (fx x⁻¹)∧Bw w w':=by
 have lx:=Cub.low_of x;have hn:x.num.natAbs≠0:=fun e=>hx (Rat.num_eq_zero.1 (Int.natAbs_eq_zero.1 e))
 obtain⟨h1,h2⟩:=Cub.inv_low lx.1 hn;rw[lx.2]at h2;rw[←h2,←fx_of h1];exact refFOver_walk _ _ _ w
theorem refFMinus_walk (b z:Bool) (s t:ByteArray) (w:World) (hz:(s.toList == [48])=z) :
  Calls Tryz.prog 124 #[.agg #[.bool b,.string s,.string t]] w fun r w'=>r=.returned (.agg #[.bool (!b && !z),.string s,.string t])∧Bw w w':=by
 obtain⟨V,hV⟩:∃V,V=(w.alloc (.cells #[.bool b,.string s,.string t] 96)).alloc (.cells #[.bool false,G #[],G #[]] 96):=⟨_,rfl⟩;have HB:Hid (Bw w V):=by rw[hV];exact bA.alloc (by simp) _
 have HR:Hid (FBox V (w.heap.size+1) (.bool false) (G #[]) (G #[])):=by rw[hV];exact⟨by simp[go_sem],by simp[go_sem],by simp[go_sem],by simp[go_sem],by simp[go_sem],by simp[go_sem]⟩
 have HF:Hid (FBox V w.heap.size (.bool b) (.string s) (.string t)):=by rw[hV];exact⟨by simp[go_sem],by simp[go_sem],by simp[go_sem],by simp[go_sem],by simp[go_sem],by simp[go_sem]⟩
 have HV:=zAb hV;obtain⟨U,hU⟩:∃U,U=V.setCell ⟨w.heap.size,0,none⟩ (.bool (!b && !z)):=⟨_,rfl⟩;have HU:=zAb hU;have HBU:Hid (Bw w U):=by rw[hU];exact(un HB).setCell (Nat.le_refl _) _
 have HRU:Hid (FBox U (w.heap.size+1) (.bool false) (G #[]) (G #[])):=by rw[hU];exact(un HR).otherAt (by omega) _
 have v0:U.cell? ⟨w.heap.size,0,none⟩=some (.bool (!b && !z)):=by rw[hU];exact World.cell?_setCell_same _ _ _ (un HF).c0
 have v1:U.cell? ⟨w.heap.size,1,none⟩=some (.string s):=by rw[hU,World.cell?_setCell_other _ _ _ _ (by simp)];exact(un HF).c1
 have v2:U.cell? ⟨w.heap.size,2,none⟩=some (.string t):=by rw[hU,World.cell?_setCell_other _ _ _ _ (by simp)];exact(un HF).c2
 have hS:=(un HRU).store (.bool (!b && !z)) (.string s) (.string t);have HB9:Hid (Bw w (zAs U (w.heap.size+1) (.bool (!b && !z)) (.string s) (.string t))):=zAq (un HBU) (by omega) _ _ _;have u0:=hS.c0;have u1:=hS.c1;have u2:=hS.c2;have t0:=(un HF).c0;have t1:=(un HF).c1;have f0:=(un HF).f0;clear hS hU;obtain⟨q,hq⟩:∃q,q=(!b && !z):=⟨_,rfl⟩;rw[←hq]at v0 u0 u1 u2 HB9 HU ⊢;have HQ:=zAb hq;clear hq;go_enter Tryz.func124,Tryz.ntmps124
 go_upto_region 1 with fail
 rw[←un HV];clear hV HV
 cases b<;>cases z<;>(
  go_upto_region 2 with fail
  have hu:=un HU;have hq:=un HQ;simp at hq
  rw[hq]at hu;rw[←hu];clear hu HU t0 t1 f0 hq HQ;have r0:=(un HRU).c0;have r1:=(un HRU).c1;have r2:=(un HRU).c2;have rf0:=(un HRU).f0;have rf1:=(un HRU).f1;have rf2:=(un HRU).f2
  go_wp2_with fail
  exact bodyPost_ret (v:=.agg #[.bool q,.string s,.string t]) (w:=zAs U (w.heap.size+1) (.bool q) (.string s) (.string t)) (by simp[results,Tryz.results124,go_sem,u0,u1,u2]) rfl ⟨rfl,un HB9⟩)
theorem refFMinus (x:Rat) (w:World):Calls Tryz.prog 124 #[fx x] w fun r w'=>r=.returned (fx (-x))∧Bw w w':=by
 have lx:=Cub.low_of x;obtain⟨h1,h2⟩:=Cub.neg_low lx.1;rw[lx.2]at h2;rw[←h2,←fx_of h1]
 have h:=refFMinus_walk (decide (x<0)) (decide (x.num.natAbs=0)) (tx x.num.natAbs) (tx x.den) w (by
  by_cases h0:x.num.natAbs=0
  ·rw[h0,tx_zero];rfl
  ·rw[tx_pos _ (by omega),decide_eq_false h0])
 rw[show(decide (x.num.natAbs≠0))=!decide (x.num.natAbs=0)from by simp];exact h
theorem bd_up {d e:Nat} {x:Rat} (h:Bd d x) (he:d≤e):Bd e x:=⟨pow_up h.1 he,pow_up h.2 he⟩
theorem four4 {p:Nat→Prop} (h:∀k:Fin 4,p k.1) (k:Nat) (hk:k<4):p k:=h ⟨k,hk⟩
theorem bd_fi (k:Nat) (hk:k<4):Bd 1 (fq k)⁻¹:=four4 (p:=fun k=>Bd 1 (fq k)⁻¹) (by unfold Bd;decide +kernel) k hk
theorem bd_on (k:Nat) (hk:k<4):Bd 5 (-oq k):=four4 (p:=fun k=>Bd 5 (-oq k)) (by unfold Bd;decide +kernel) k hk
theorem bd_kq (k:Nat) (hk:k<4):Bd 5 (kq k):=four4 (p:=fun k=>Bd 5 (kq k)) (by unfold Bd;decide +kernel) k hk
theorem bd_less (n k:Nat) (hn:n<4) (hk:k<4):Bd 9 (kq n + -oq k):=four4 (p:=fun n=>Bd 9 (kq n + -oq k)) (fun n=>four4 (p:=fun k=>Bd 9 (kq n.1 + -oq k)) (fun k=>(by unfold Bd;decide +kernel:∀(n k:Fin 4),Bd 9 (kq n.1 + -oq k.1)) n k) k hk) n hn
theorem bd_mark (n k:Nat) (hn:n<4) (hk:k<4):Bd 10 ((kq n + -oq k)*(fq k)⁻¹):=four4 (p:=fun n=>Bd 10 ((kq n + -oq k)*(fq k)⁻¹)) (fun n=>four4 (p:=fun k=>Bd 10 ((kq n.1 + -oq k)*(fq k)⁻¹)) (fun k=>(by unfold Bd;decide +kernel:∀(n k:Fin 4),Bd 10 ((kq n.1 + -oq k.1)*(fq k.1)⁻¹)) n k) k hk) n hn
theorem refIn_ok (uy us uf ug uo up:ByteArray) (ud0 ud1 ud2 ud3 ud4 ud5 ud6 ud7 ut:Int) (n k:Nat) (w:World) (hn:n<4) (hk:k<4) (h1:IsR uf ug (fq k)) (h2:IsR uo up (oq k)) :
    Calls Tryz.prog 58 #[.agg #[.string uy,.string us,I ud0,I ud1,I ud2,I ud3,I ud4,I ud5,I ud6,I ud7,.string uf,.string ug,.string uo,.string up,I ut],fx (kq n)] w fun r w'=>r=.returned (fx ((kq n + -oq k)*(fq k)⁻¹))∧Bw w w' :=
  refIn_walk uy us uf ug uo up ud0 ud1 ud2 ud3 ud4 ud5 ud6 ud7 ut _ _ _ _ _ _ (fx (oq k)) (fx (-oq k)) (fx (kq n + -oq k)) (fx (fq k)) (fx (fq k)⁻¹) w (fun W _=>refRead _ _ _ W h2) (fun W _=>refFMinus _ W) (fun W _=>refFPlus 9 _ _ W (by omega) (by omega) (bd_up (bd_kq n hn) (by omega)) (bd_up (bd_on k hk) (by omega)))
    (fun W _=>refRead _ _ _ W h1) (fun W _=>refFOver _ (fq_ne k) W) (fun W _=>refFTimes 10 _ _ W (by omega) (by omega) (bd_up (bd_less n k hn hk) (by omega)) (bd_up (bd_fi k hk) (by omega)))
theorem isR_f (k:Nat) (hk:k<4):∃fn fd on od tk,rtK k=#[.string (sct k).nm,.string (sct k).sy,I 0,I 0,I 0,I 0,I 1,I 0,I 0,I 0,.string fn,.string fd,.string on,.string od,I tk]∧IsR fn fd (fq k)∧IsR on od (oq k):=by
  rcases(by omega:k=0∨k=1∨k=2∨k=3)with rfl|rfl|rfl|rfl
  · exact⟨_,_,_,_,_,rfl,zBf _ _ 5 9 _ (by decide +kernel) (by decide +kernel) (by decide +kernel) (by decide) (by decide) (by decide +kernel) (by decide +kernel) (by decide +kernel) (by decide +kernel),zBf _ _ 0 1 _ (by decide +kernel) (by decide +kernel) (by decide +kernel) (by decide) (by decide) (by decide +kernel) (by decide +kernel) (by decide +kernel) (by decide +kernel)⟩
  · exact⟨_,_,_,_,_,rfl,zBf _ _ 1 1 _ (by decide +kernel) (by decide +kernel) (by decide +kernel) (by decide) (by decide) (by decide +kernel) (by decide +kernel) (by decide +kernel) (by decide +kernel),zBf _ _ 5463 20 _ (by decide +kernel) (by decide +kernel) (by decide +kernel) (by decide) (by decide) (by decide +kernel) (by decide +kernel) (by decide +kernel) (by decide +kernel)⟩
  · exact⟨_,_,_,_,_,rfl,zBf _ _ 5 9 _ (by decide +kernel) (by decide +kernel) (by decide +kernel) (by decide) (by decide) (by decide +kernel) (by decide +kernel) (by decide +kernel) (by decide +kernel),zBf _ _ 45967 180 _ (by decide +kernel) (by decide +kernel) (by decide +kernel) (by decide) (by decide) (by decide +kernel) (by decide +kernel) (by decide +kernel) (by decide +kernel)⟩
  · exact⟨_,_,_,_,_,rfl,zBf _ _ 1 1 _ (by decide +kernel) (by decide +kernel) (by decide +kernel) (by decide) (by decide) (by decide +kernel) (by decide +kernel) (by decide +kernel) (by decide +kernel),zBf _ _ 0 1 _ (by decide +kernel) (by decide +kernel) (by decide +kernel) (by decide) (by decide) (by decide +kernel) (by decide +kernel) (by decide +kernel) (by decide +kernel)⟩
theorem isR_k0:IsR ⟨#[48]⟩ ⟨#[49]⟩ (kq 0):=zBf _ _ 0 1 _ (by decide +kernel) (by decide +kernel) (by decide +kernel) (by decide) (by decide) (by decide +kernel) (by decide +kernel) (by decide +kernel) (by decide +kernel)
theorem isR_k1:IsR ⟨#[53,52,54,51]⟩ ⟨#[50,48]⟩ (kq 1):=zBf _ _ 5463 20 _ (by decide +kernel) (by decide +kernel) (by decide +kernel) (by decide) (by decide) (by decide +kernel) (by decide +kernel) (by decide +kernel) (by decide +kernel)
theorem isR_k2:IsR ⟨#[54,56,50,57]⟩ ⟨#[50,53]⟩ (kq 2):=zBf _ _ 6829 25 _ (by decide +kernel) (by decide +kernel) (by decide +kernel) (by decide) (by decide) (by decide +kernel) (by decide +kernel) (by decide +kernel) (by decide +kernel)
theorem isR_k3:IsR ⟨#[55,52,54,51]⟩ ⟨#[50,48]⟩ (kq 3):=zBf _ _ 7463 20 _ (by decide +kernel) (by decide +kernel) (by decide +kernel) (by decide) (by decide) (by decide +kernel) (by decide +kernel) (by decide +kernel) (by decide +kernel)
theorem T2.apart {W:World} {g k:Nat} {a b:Value} (h:T2 W g a b) (hk:g≠k) (x y:Value):T2 (zBh W k x y) g a b:=by
  have h0:∀(V:World) (o o':Nat) (u:Value),(V.setCell ⟨k,o',none⟩ u).cell? ⟨g,o,none⟩=V.cell? ⟨g,o,none⟩:=fun V o o' u=>World.cell?_setCell_other _ _ _ _ (by intro e;simp only[Addr.mk.injEq]at e;omega)
  unfold zBh;exact⟨by rw[h0,h0];exact h.c0,by rw[h0,h0];exact h.c1,by rw[World.frozen?_setCell,World.frozen?_setCell];exact h.f0,by rw[World.frozen?_setCell,World.frozen?_setCell];exact h.f1⟩
theorem ptB_0 (p:ByteArray):ptB p 0=(p.toList == [97,98,115,111,108,117,116,101]):=by
  have h:(ptn 0).toList=[97,98,115,111,108,117,116,101]:=by decide +kernel
  unfold ptB;rw[h]
theorem ptB_1 (p:ByteArray):ptB p 1=(p.toList == [105,99,101]):=by
  have h:(ptn 1).toList=[105,99,101]:=by decide +kernel
  unfold ptB;rw[h]
theorem ptB_2 (p:ByteArray):ptB p 2=(p.toList == [116,114,105,112,108,101]):=by
  have h:(ptn 2).toList=[116,114,105,112,108,101]:=by decide +kernel
  unfold ptB;rw[h]
theorem ptB_3 (p:ByteArray):ptB p 3=(p.toList == [98,111,105,108,105,110,103]):=by
  have h:(ptn 3).toList=[98,111,105,108,105,110,103]:=by decide +kernel
  unfold ptB;rw[h]
theorem ptB_first {p:ByteArray} {n:Nat} (h:zBc (ptB p) (n:Int)):n<4∧ptB p n=true∧∀i,i<n→ptB p i=false:=by
  rcases h with ⟨k,hk,e,h1,h2⟩|⟨e,_⟩
  · have:n=k:=by omega
    subst this;exact⟨hk,h1,h2⟩
  · omega
theorem first_or (p:Nat→Bool):(∃n:Nat,n<4∧zBc p (n:Int))∨zBc p (-1):=by
  by_cases h0:p 0=true
  · exact Or.inl ⟨0,by decide,Or.inl ⟨0,by decide,rfl,h0,fun i hi=>by omega⟩⟩
  by_cases h1:p 1=true
  · exact Or.inl ⟨1,by decide,Or.inl ⟨1,by decide,rfl,h1,fun i hi=>by rw[(by omega:i=0)];exact Bool.eq_false_iff.2 h0⟩⟩
  by_cases h2:p 2=true
  · exact Or.inl ⟨2,by decide,Or.inl ⟨2,by decide,rfl,h2,fun i hi=>by rcases(by omega:i=0∨i=1)with rfl|rfl<;>first|exact Bool.eq_false_iff.2 h0|exact Bool.eq_false_iff.2 h1⟩⟩
  by_cases h3:p 3=true
  · exact Or.inl ⟨3,by decide,Or.inl ⟨3,by decide,rfl,h3,fun i hi=>by rcases(by omega:i=0∨i=1∨i=2)with rfl|rfl|rfl<;>first|exact Bool.eq_false_iff.2 h0|exact Bool.eq_false_iff.2 h1|exact Bool.eq_false_iff.2 h2⟩⟩
  · exact Or.inr (Or.inr ⟨rfl,fun i hi=>by rcases(by omega:i=0∨i=1∨i=2∨i=3)with rfl|rfl|rfl|rfl<;>first|exact Bool.eq_false_iff.2 h0|exact Bool.eq_false_iff.2 h1|exact Bool.eq_false_iff.2 h2|exact Bool.eq_false_iff.2 h3⟩)
theorem refFixed_any (p s:ByteArray) (w:World):Calls Tryz.prog 22 #[.string p,.string s] w fun r w'=>∃v,r=.returned v∧FixV p s v∧Bw w w':=by
  obtain⟨V,hV⟩:∃V,V=w.alloc (.cells #[.string ⟨#[]⟩,.string ⟨#[]⟩] 28):=⟨_,rfl⟩;have HR:Hid (T2 V w.heap.size (.string ⟨#[]⟩) (.string ⟨#[]⟩)):=by rw[hV];exact⟨by simp[go_sem],by simp[go_sem],by simp[go_sem],by simp[go_sem]⟩
  have HB:Hid (Bw w V):=by rw[hV];exact(Below.refl _ _).alloc (Nat.le_refl _) _
  have HV:=zAb hV;clear hV;go_enter Tryz.func22,Tryz.ntmps22
  go_upto_region 1 with fail
  rw[←un HV];clear HV
  go_upto_region 2 with (go_at_call 45;go_must(refine(rat45 _ _ _).mono ?_;rintro e W1 ⟨rfl,hb1⟩;have HB1:Hid (Bw w W1):=(un HB).trans (hb1.mono (un HB).size);have HR1:=zAb ((un HR).later hb1);clear hb1 HR HB))
  obtain⟨A,hA⟩:∃A,A=W1.alloc (.cells #[.string ⟨#[48]⟩,.string ⟨#[49]⟩] 28):=⟨_,rfl⟩;have HK:Hid (T2 A W1.heap.size (.string ⟨#[48]⟩) (.string ⟨#[49]⟩)):=by rw[hA];exact⟨by simp[go_sem],by simp[go_sem],by simp[go_sem],by simp[go_sem]⟩
  have hba:Below W1.heap.size W1 A:=by rw[hA];exact(Below.refl _ _).alloc (Nat.le_refl _) _
  have HRA:=zAb ((un HR1).later hba);have HBA:Hid (Bw w A):=(un HB1).trans (hba.mono (un HB1).size);have HGL:Hid (w.heap.size≤W1.heap.size):=(un HB1).size;have HGK:Hid (w.heap.size≠W1.heap.size):=by have h:=(un HR1).lt;unfold Hid;omega
  rw[←hA];clear hA hba HR1 HB1;generalize W1.heap.size=gk at *
  rcases first_or (ptB p)with ⟨n,hn,hpn⟩|hnone
  · have HPN:=zAb hpn
    obtain⟨_,hy,hno⟩:=ptB_first hpn;clear hpn;rcases(by omega:n=0∨n=1∨n=2∨n=3)with rfl|rfl|rfl|rfl
    focus
      have HKQ:Hid (∀W:World,Calls Tryz.prog 59 #[.agg #[.string ⟨#[48]⟩,.string ⟨#[49]⟩]] W fun r w'=>r=.returned (fx (kq 0))∧Bw W w'):=fun W=>refRead _ _ _ W isR_k0
      have HOUT:Hid (∀k:Nat,k<4→zBc (scB s) (k:Int)→FixV p s (.tuple #[.agg #[.string (zEp ((kq 0 + -oq k)*(fq k)⁻¹)),.string (zEr ((kq 0 + -oq k)*(fq k)⁻¹))],I (zHa ((kq 0 + -oq k)*(fq k)⁻¹))])):=fun k hk hf=>Or.inr (Or.inr ⟨0,k,by decide,hk,un HPN,hf,rfl⟩)
      have HOUN:Hid (zBc (scB s) (-1)→FixV p s (.tuple #[.agg #[.string ⟨#[]⟩,.string ⟨#[]⟩],I 200])):=fun hf=>Or.inr (Or.inl ⟨0,by decide,un HPN,hf,rfl⟩)
      have HIN:Hid (∀(k:Nat),k<4→∀(uy us uf ug uo up:ByteArray) (ud0 ud1 ud2 ud3 ud4 ud5 ud6 ud7 ut:Int) (W:World),IsR uf ug (fq k)→IsR uo up (oq k)→Calls Tryz.prog 58 #[.agg #[.string uy,.string us,I ud0,I ud1,I ud2,I ud3,I ud4,I ud5,I ud6,I ud7,.string uf,.string ug,.string uo,.string up,I ut],fx (kq 0)] W fun r w'=>r=.returned (fx ((kq 0 + -oq k)*(fq k)⁻¹))∧Bw W w'):=fun k hk uy us uf ug uo up ud0 ud1 ud2 ud3 ud4 ud5 ud6 ud7 ut W h1 h2=>refIn_ok uy us uf ug uo up ud0 ud1 ud2 ud3 ud4 ud5 ud6 ud7 ut 0 k W (by decide) hk h1 h2
      have HTL:Hid (∀(k:Nat),k<4→∀W,Calls Tryz.prog 57 #[fx ((kq 0 + -oq k)*(fq k)⁻¹)] W fun r w'=>r=.returned (.tuple #[.agg #[.string (zEp ((kq 0 + -oq k)*(fq k)⁻¹)),.string (zEr ((kq 0 + -oq k)*(fq k)⁻¹))],I (zHa ((kq 0 + -oq k)*(fq k)⁻¹))])∧Bw W w'):=fun k hk W=>refToldQ 10 _ W (by omega) (by omega) (bd_mark 0 k (by decide) hk)
      clear HPN;generalize kq 0=qn at *
      have c0:(p.toList == [97,98,115,111,108,117,116,101])=true:=(ptB_0 p).symm.trans hy
      go_upto_region 11 with fail
      obtain⟨B,hB⟩:∃B,B=A:=⟨_,rfl⟩;have HKB:Hid (T2 B gk (.string ⟨#[48]⟩) (.string ⟨#[49]⟩)):=by rw[hB];exact un HK
      have HRB:Hid (T2 B w.heap.size (.string ⟨#[]⟩) (.string ⟨#[]⟩)):=by rw[hB];exact un HRA
      have HBB:Hid (Bw w B):=by rw[hB];exact un HBA
      rw[←hB];clear hB c0 HK HRA HBA;generalize (⟨#[48]⟩:ByteArray)=kn at *
      generalize (⟨#[49]⟩:ByteArray)=kd at *
    rotate_left
    focus
      have HKQ:Hid (∀W:World,Calls Tryz.prog 59 #[.agg #[.string ⟨#[53,52,54,51]⟩,.string ⟨#[50,48]⟩]] W fun r w'=>r=.returned (fx (kq 1))∧Bw W w'):=fun W=>refRead _ _ _ W isR_k1
      have HOUT:Hid (∀k:Nat,k<4→zBc (scB s) (k:Int)→FixV p s (.tuple #[.agg #[.string (zEp ((kq 1 + -oq k)*(fq k)⁻¹)),.string (zEr ((kq 1 + -oq k)*(fq k)⁻¹))],I (zHa ((kq 1 + -oq k)*(fq k)⁻¹))])):=fun k hk hf=>Or.inr (Or.inr ⟨1,k,by decide,hk,un HPN,hf,rfl⟩)
      have HOUN:Hid (zBc (scB s) (-1)→FixV p s (.tuple #[.agg #[.string ⟨#[]⟩,.string ⟨#[]⟩],I 200])):=fun hf=>Or.inr (Or.inl ⟨1,by decide,un HPN,hf,rfl⟩)
      have HIN:Hid (∀(k:Nat),k<4→∀(uy us uf ug uo up:ByteArray) (ud0 ud1 ud2 ud3 ud4 ud5 ud6 ud7 ut:Int) (W:World),IsR uf ug (fq k)→IsR uo up (oq k)→Calls Tryz.prog 58 #[.agg #[.string uy,.string us,I ud0,I ud1,I ud2,I ud3,I ud4,I ud5,I ud6,I ud7,.string uf,.string ug,.string uo,.string up,I ut],fx (kq 1)] W fun r w'=>r=.returned (fx ((kq 1 + -oq k)*(fq k)⁻¹))∧Bw W w'):=fun k hk uy us uf ug uo up ud0 ud1 ud2 ud3 ud4 ud5 ud6 ud7 ut W h1 h2=>refIn_ok uy us uf ug uo up ud0 ud1 ud2 ud3 ud4 ud5 ud6 ud7 ut 1 k W (by decide) hk h1 h2
      have HTL:Hid (∀(k:Nat),k<4→∀W,Calls Tryz.prog 57 #[fx ((kq 1 + -oq k)*(fq k)⁻¹)] W fun r w'=>r=.returned (.tuple #[.agg #[.string (zEp ((kq 1 + -oq k)*(fq k)⁻¹)),.string (zEr ((kq 1 + -oq k)*(fq k)⁻¹))],I (zHa ((kq 1 + -oq k)*(fq k)⁻¹))])∧Bw W w'):=fun k hk W=>refToldQ 10 _ W (by omega) (by omega) (bd_mark 1 k (by decide) hk)
      clear HPN;generalize kq 1=qn at *
      have c0:(p.toList == [97,98,115,111,108,117,116,101])=false:=(ptB_0 p).symm.trans (hno 0 (by omega));have c1:(p.toList == [105,99,101])=true:=(ptB_1 p).symm.trans hy;have k0:=(un HK).c0;have k1:=(un HK).c1;have kf0:=(un HK).f0;have kf1:=(un HK).f1
      go_upto_region 11 with (go_at_call 45;go_must(refine(rat45 _ _ _).mono ?_;rintro e W3 ⟨rfl,hb3⟩;have HB3:Hid (Bw w W3):=(un HBA).trans (hb3.mono (un HBA).size);have HK3:=zAb ((un HK).later hb3);have HR3:=zAb ((un HRA).later hb3);clear hb3 k0 k1 kf0 kf1;have k0:=(un HK3).c0;have k1:=(un HK3).c1;have kf0:=(un HK3).f0;have kf1:=(un HK3).f1))
      obtain⟨B,hB⟩:∃B,B=zBh W3 gk (.string ⟨#[53,52,54,51]⟩) (.string ⟨#[50,48]⟩):=⟨_,rfl⟩;have HKB:Hid (T2 B gk (.string ⟨#[53,52,54,51]⟩) (.string ⟨#[50,48]⟩)):=by rw[hB];exact(un HK3).store _ _
      have HRB:Hid (T2 B w.heap.size (.string ⟨#[]⟩) (.string ⟨#[]⟩)):=by rw[hB];exact T2.apart (un HR3) (un HGK) _ _
      have HBB:Hid (Bw w B):=by rw[hB];exact zAk (un HB3) (un HGL) _ _
      unfold zBh at hB
      rw[←hB];clear hB c0 c1 HK HRA HBA HK3 HR3 HB3 k0 k1 kf0 kf1;generalize (⟨#[53,52,54,51]⟩:ByteArray)=kn at *
      generalize (⟨#[50,48]⟩:ByteArray)=kd at *
    rotate_left
    focus
      have HKQ:Hid (∀W:World,Calls Tryz.prog 59 #[.agg #[.string ⟨#[54,56,50,57]⟩,.string ⟨#[50,53]⟩]] W fun r w'=>r=.returned (fx (kq 2))∧Bw W w'):=fun W=>refRead _ _ _ W isR_k2
      have HOUT:Hid (∀k:Nat,k<4→zBc (scB s) (k:Int)→FixV p s (.tuple #[.agg #[.string (zEp ((kq 2 + -oq k)*(fq k)⁻¹)),.string (zEr ((kq 2 + -oq k)*(fq k)⁻¹))],I (zHa ((kq 2 + -oq k)*(fq k)⁻¹))])):=fun k hk hf=>Or.inr (Or.inr ⟨2,k,by decide,hk,un HPN,hf,rfl⟩)
      have HOUN:Hid (zBc (scB s) (-1)→FixV p s (.tuple #[.agg #[.string ⟨#[]⟩,.string ⟨#[]⟩],I 200])):=fun hf=>Or.inr (Or.inl ⟨2,by decide,un HPN,hf,rfl⟩)
      have HIN:Hid (∀(k:Nat),k<4→∀(uy us uf ug uo up:ByteArray) (ud0 ud1 ud2 ud3 ud4 ud5 ud6 ud7 ut:Int) (W:World),IsR uf ug (fq k)→IsR uo up (oq k)→Calls Tryz.prog 58 #[.agg #[.string uy,.string us,I ud0,I ud1,I ud2,I ud3,I ud4,I ud5,I ud6,I ud7,.string uf,.string ug,.string uo,.string up,I ut],fx (kq 2)] W fun r w'=>r=.returned (fx ((kq 2 + -oq k)*(fq k)⁻¹))∧Bw W w'):=fun k hk uy us uf ug uo up ud0 ud1 ud2 ud3 ud4 ud5 ud6 ud7 ut W h1 h2=>refIn_ok uy us uf ug uo up ud0 ud1 ud2 ud3 ud4 ud5 ud6 ud7 ut 2 k W (by decide) hk h1 h2
      have HTL:Hid (∀(k:Nat),k<4→∀W,Calls Tryz.prog 57 #[fx ((kq 2 + -oq k)*(fq k)⁻¹)] W fun r w'=>r=.returned (.tuple #[.agg #[.string (zEp ((kq 2 + -oq k)*(fq k)⁻¹)),.string (zEr ((kq 2 + -oq k)*(fq k)⁻¹))],I (zHa ((kq 2 + -oq k)*(fq k)⁻¹))])∧Bw W w'):=fun k hk W=>refToldQ 10 _ W (by omega) (by omega) (bd_mark 2 k (by decide) hk)
      clear HPN;generalize kq 2=qn at *
      have c0:(p.toList == [97,98,115,111,108,117,116,101])=false:=(ptB_0 p).symm.trans (hno 0 (by omega));have c1:(p.toList == [105,99,101])=false:=(ptB_1 p).symm.trans (hno 1 (by omega));have c2:(p.toList == [116,114,105,112,108,101])=true:=(ptB_2 p).symm.trans hy;have k0:=(un HK).c0;have k1:=(un HK).c1;have kf0:=(un HK).f0;have kf1:=(un HK).f1
      go_upto_region 11 with (go_at_call 45;go_must(refine(rat45 _ _ _).mono ?_;rintro e W3 ⟨rfl,hb3⟩;have HB3:Hid (Bw w W3):=(un HBA).trans (hb3.mono (un HBA).size);have HK3:=zAb ((un HK).later hb3);have HR3:=zAb ((un HRA).later hb3);clear hb3 k0 k1 kf0 kf1;have k0:=(un HK3).c0;have k1:=(un HK3).c1;have kf0:=(un HK3).f0;have kf1:=(un HK3).f1))
      obtain⟨B,hB⟩:∃B,B=zBh W3 gk (.string ⟨#[54,56,50,57]⟩) (.string ⟨#[50,53]⟩):=⟨_,rfl⟩;have HKB:Hid (T2 B gk (.string ⟨#[54,56,50,57]⟩) (.string ⟨#[50,53]⟩)):=by rw[hB];exact(un HK3).store _ _
      have HRB:Hid (T2 B w.heap.size (.string ⟨#[]⟩) (.string ⟨#[]⟩)):=by rw[hB];exact T2.apart (un HR3) (un HGK) _ _
      have HBB:Hid (Bw w B):=by rw[hB];exact zAk (un HB3) (un HGL) _ _
      unfold zBh at hB
      rw[←hB];clear hB c0 c1 c2 HK HRA HBA HK3 HR3 HB3 k0 k1 kf0 kf1;generalize (⟨#[54,56,50,57]⟩:ByteArray)=kn at *
      generalize (⟨#[50,53]⟩:ByteArray)=kd at *
    rotate_left
    focus
      have HKQ:Hid (∀W:World,Calls Tryz.prog 59 #[.agg #[.string ⟨#[55,52,54,51]⟩,.string ⟨#[50,48]⟩]] W fun r w'=>r=.returned (fx (kq 3))∧Bw W w'):=fun W=>refRead _ _ _ W isR_k3
      have HOUT:Hid (∀k:Nat,k<4→zBc (scB s) (k:Int)→FixV p s (.tuple #[.agg #[.string (zEp ((kq 3 + -oq k)*(fq k)⁻¹)),.string (zEr ((kq 3 + -oq k)*(fq k)⁻¹))],I (zHa ((kq 3 + -oq k)*(fq k)⁻¹))])):=fun k hk hf=>Or.inr (Or.inr ⟨3,k,by decide,hk,un HPN,hf,rfl⟩)
      have HOUN:Hid (zBc (scB s) (-1)→FixV p s (.tuple #[.agg #[.string ⟨#[]⟩,.string ⟨#[]⟩],I 200])):=fun hf=>Or.inr (Or.inl ⟨3,by decide,un HPN,hf,rfl⟩)
      have HIN:Hid (∀(k:Nat),k<4→∀(uy us uf ug uo up:ByteArray) (ud0 ud1 ud2 ud3 ud4 ud5 ud6 ud7 ut:Int) (W:World),IsR uf ug (fq k)→IsR uo up (oq k)→Calls Tryz.prog 58 #[.agg #[.string uy,.string us,I ud0,I ud1,I ud2,I ud3,I ud4,I ud5,I ud6,I ud7,.string uf,.string ug,.string uo,.string up,I ut],fx (kq 3)] W fun r w'=>r=.returned (fx ((kq 3 + -oq k)*(fq k)⁻¹))∧Bw W w'):=fun k hk uy us uf ug uo up ud0 ud1 ud2 ud3 ud4 ud5 ud6 ud7 ut W h1 h2=>refIn_ok uy us uf ug uo up ud0 ud1 ud2 ud3 ud4 ud5 ud6 ud7 ut 3 k W (by decide) hk h1 h2
      have HTL:Hid (∀(k:Nat),k<4→∀W,Calls Tryz.prog 57 #[fx ((kq 3 + -oq k)*(fq k)⁻¹)] W fun r w'=>r=.returned (.tuple #[.agg #[.string (zEp ((kq 3 + -oq k)*(fq k)⁻¹)),.string (zEr ((kq 3 + -oq k)*(fq k)⁻¹))],I (zHa ((kq 3 + -oq k)*(fq k)⁻¹))])∧Bw W w'):=fun k hk W=>refToldQ 10 _ W (by omega) (by omega) (bd_mark 3 k (by decide) hk)
      clear HPN;generalize kq 3=qn at *
      have c0:(p.toList == [97,98,115,111,108,117,116,101])=false:=(ptB_0 p).symm.trans (hno 0 (by omega));have c1:(p.toList == [105,99,101])=false:=(ptB_1 p).symm.trans (hno 1 (by omega));have c2:(p.toList == [116,114,105,112,108,101])=false:=(ptB_2 p).symm.trans (hno 2 (by omega));have c3:(p.toList == [98,111,105,108,105,110,103])=true:=(ptB_3 p).symm.trans hy;have k0:=(un HK).c0;have k1:=(un HK).c1;have kf0:=(un HK).f0;have kf1:=(un HK).f1
      go_upto_region 11 with (go_at_call 45;go_must(refine(rat45 _ _ _).mono ?_;rintro e W3 ⟨rfl,hb3⟩;have HB3:Hid (Bw w W3):=(un HBA).trans (hb3.mono (un HBA).size);have HK3:=zAb ((un HK).later hb3);have HR3:=zAb ((un HRA).later hb3);clear hb3 k0 k1 kf0 kf1;have k0:=(un HK3).c0;have k1:=(un HK3).c1;have kf0:=(un HK3).f0;have kf1:=(un HK3).f1))
      obtain⟨B,hB⟩:∃B,B=zBh W3 gk (.string ⟨#[55,52,54,51]⟩) (.string ⟨#[50,48]⟩):=⟨_,rfl⟩;have HKB:Hid (T2 B gk (.string ⟨#[55,52,54,51]⟩) (.string ⟨#[50,48]⟩)):=by rw[hB];exact(un HK3).store _ _
      have HRB:Hid (T2 B w.heap.size (.string ⟨#[]⟩) (.string ⟨#[]⟩)):=by rw[hB];exact T2.apart (un HR3) (un HGK) _ _
      have HBB:Hid (Bw w B):=by rw[hB];exact zAk (un HB3) (un HGL) _ _
      unfold zBh at hB
      rw[←hB];clear hB c0 c1 c2 c3 HK HRA HBA HK3 HR3 HB3 k0 k1 kf0 kf1;generalize (⟨#[55,52,54,51]⟩:ByteArray)=kn at *
      generalize (⟨#[50,48]⟩:ByteArray)=kd at *
    rotate_left
    all_goals
      as_aux_lemma=>
        clear hy hno
        go_upto_region 12 with (go_at_call 56;go_must(refine(refFindK s _).mono ?_;rintro e W4 ⟨v4,rfl,hf,hb4⟩;have HFK:=zAb hf;have HK4:=zAb ((un HKB).later hb4);have HR4:=zAb ((un HRB).later hb4);have HB4:Hid (Bw w W4):=(un HBB).trans (hb4.mono (un HBB).size);clear hf hb4 HKB HRB HBB;rcases un HFK with ⟨k,hk,hfk,rfl⟩|⟨hfn,rfl⟩;(obtain⟨uf,ug,uo,up,ut,hrt,hi1,hi2⟩:=isR_f k hk;rw[hrt];clear hrt)))
        · have HO1:=zAb (un HOUT k hk hfk)
          have HI1:=zAb (fun W=>un HIN k hk (sct k).nm (sct k).sy uf ug uo up 0 0 0 0 1 0 0 0 ut W hi1 hi2);have HT1:=zAb (un HTL k hk);clear HOUT HOUN HIN HTL HFK hfk hi1 hi2;generalize (sct k).nm=uy at *
          generalize (sct k).sy=us at *
          generalize (qn + -oq k)*(fq k)⁻¹=yy at *
          have hbx:Below W4.heap.size W4 (W4.alloc (.cells #[.string uy,.string us,I 0,I 0,I 0,I 0,I 1,I 0,I 0,I 0,.string uf,.string ug,.string uo,.string up,I ut] 30)):=zBx _ _;have HU5:Hid (zAc (W4.alloc (.cells #[.string uy,.string us,I 0,I 0,I 0,I 0,I 1,I 0,I 0,I 0,.string uf,.string ug,.string uo,.string up,I ut] 30)) W4.heap.size 30 #[.string uy,.string us,I 0,I 0,I 0,I 0,I 1,I 0,I 0,I 0,.string uf,.string ug,.string uo,.string up,I ut]):=zAc.new _ _ _;have HK5:=zAb ((un HK4).later hbx);have HR5:=zAb ((un HR4).later hbx);have HB5:Hid (Bw w (W4.alloc (.cells #[.string uy,.string us,I 0,I 0,I 0,I 0,I 1,I 0,I 0,I 0,.string uf,.string ug,.string uo,.string up,I ut] 30))):=(un HB4).trans (hbx.mono (un HB4).size);clear hbx HK4 HR4 HB4;generalize W4.alloc (.cells #[.string uy,.string us,I 0,I 0,I 0,I 0,I 1,I 0,I 0,I 0,.string uf,.string ug,.string uo,.string up,I ut] 30)=W5 at *
          generalize W4.heap.size=gu at *
          go_upto_region 14 with fail
          have HDD:Hid (Bw W5 W5.drew):=(Below.refl _ _).drew
          have HSS:Hid (∀W':World,Below W5.heap.size W5 W'→W'.cell? ⟨gu,0,none⟩=some (.string uy)∧W'.cell? ⟨gu,1,none⟩=some (.string us)∧W'.cell? ⟨gu,2,none⟩=some (I 0)∧W'.cell? ⟨gu,3,none⟩=some (I 0)∧W'.cell? ⟨gu,4,none⟩=some (I 0)∧W'.cell? ⟨gu,5,none⟩=some (I 0)∧W'.cell? ⟨gu,6,none⟩=some (I 1)∧W'.cell? ⟨gu,7,none⟩=some (I 0)∧W'.cell? ⟨gu,8,none⟩=some (I 0)∧W'.cell? ⟨gu,9,none⟩=some (I 0)∧W'.cell? ⟨gu,10,none⟩=some (.string uf)∧W'.cell? ⟨gu,11,none⟩=some (.string ug)∧W'.cell? ⟨gu,12,none⟩=some (.string uo)∧W'.cell? ⟨gu,13,none⟩=some (.string up)∧W'.cell? ⟨gu,14,none⟩=some (I ut)∧W'.cell? ⟨gk,0,none⟩=some (.string kn)∧W'.cell? ⟨gk,1,none⟩=some (.string kd)):=fun W' hb=>by
            have h1:=(un HU5).later hb;have h2:=(un HK5).later hb;exact⟨h1.ub.c 0 _ rfl,h1.ub.c 1 _ rfl,h1.ub.c 2 _ rfl,h1.ub.c 3 _ rfl,h1.ub.c 4 _ rfl,h1.ub.c 5 _ rfl,h1.ub.c 6 _ rfl,h1.ub.c 7 _ rfl,h1.ub.c 8 _ rfl,h1.ub.c 9 _ rfl,h1.ub.c 10 _ rfl,h1.ub.c 11 _ rfl,h1.ub.c 12 _ rfl,h1.ub.c 13 _ rfl,h1.ub.c 14 _ rfl,h2.c0,h2.c1⟩
          have HS0:=zAb (un HSS _ (un HDD));refine zAi 7 (fun W'=>W'.cell? ⟨gu,0,none⟩=some (.string uy)∧W'.cell? ⟨gu,1,none⟩=some (.string us)∧W'.cell? ⟨gu,2,none⟩=some (I 0)∧W'.cell? ⟨gu,3,none⟩=some (I 0)∧W'.cell? ⟨gu,4,none⟩=some (I 0)∧W'.cell? ⟨gu,5,none⟩=some (I 0)∧W'.cell? ⟨gu,6,none⟩=some (I 1)∧W'.cell? ⟨gu,7,none⟩=some (I 0)∧W'.cell? ⟨gu,8,none⟩=some (I 0)∧W'.cell? ⟨gu,9,none⟩=some (I 0)∧W'.cell? ⟨gu,10,none⟩=some (.string uf)∧W'.cell? ⟨gu,11,none⟩=some (.string ug)∧W'.cell? ⟨gu,12,none⟩=some (.string uo)∧W'.cell? ⟨gu,13,none⟩=some (.string up)∧W'.cell? ⟨gu,14,none⟩=some (I ut)∧W'.cell? ⟨gk,0,none⟩=some (.string kn)∧W'.cell? ⟨gk,1,none⟩=some (.string kd)) (fun _=>True) 9 rfl (by kernel_rfl) ?_;refine wT 0 (.agg #[.string uy,.string us,I 0,I 0,I 0,I 0,I 1,I 0,I 0,I 0,.string uf,.string ug,.string uo,.string up,I ut]) rfl (Or.inl ⟨by rfl,?_⟩) ⟨un HS0,trivial⟩ ?_
          · intro W' hW
            go_split_ands
            go_simp
          refine wT 1 (.agg #[.string kn,.string kd]) rfl (Or.inl ⟨by rfl,?_⟩) ⟨un HS0,trivial⟩ ?_
          · intro W' hW
            go_split_ands
            go_simp
          refine wO 2 rfl rfl (fun K hK=>?_)
          go_simp
          refine(un HKQ _).mono ?_;rintro e W6 ⟨rfl,hb⟩;have HB6:Hid (Bw W5 W6):=(un HDD).trans (hb.mono (un HDD).size);clear hb;refine hK _ _ ⟨un HSS _ (un HB6),trivial⟩ ?_;clear hK K;refine wO 3 rfl rfl (fun K hK=>?_)
          go_simp
          refine(un HI1 _).mono ?_;rintro e W7 ⟨rfl,hb⟩;have HB7:Hid (Bw W5 W7):=(un HB6).trans (hb.mono (un HB6).size);clear hb;refine hK _ _ ⟨un HSS _ (un HB7),trivial⟩ ?_;clear hK K;refine wO 4 rfl rfl (fun K hK=>?_)
          go_simp
          refine(un HT1 _).mono ?_;rintro e W8 ⟨rfl,hb⟩;have HB8:Hid (Bw W5 W8):=(un HB7).trans (hb.mono (un HB7).size);have HR8:=zAb ((un HR5).later (un HB8));clear hb;have q0:=(un HR8).c0;have q1:=(un HR8).c1;have f0:=(un HR8).f0;have f1:=(un HR8).f1;refine hK _ _ ⟨un HSS _ (un HB8),trivial⟩ ?_;clear hK K;refine wT 5 (.agg #[.string (zEp yy),.string (zEr yy)]) rfl (Or.inl ⟨by rfl,?_⟩) ⟨un HSS _ (un HB8),trivial⟩ ?_
          · intro W' hW
            go_split_ands
            go_simp
          refine wT 6 (I (zHa yy)) rfl (Or.inl ⟨by rfl,?_⟩) ⟨un HSS _ (un HB8),trivial⟩ ?_
          · intro W' hW
            go_split_ands
            go_simp
          refine wL 7 rfl rfl (fun K hK=>?_)
          go_simp
          refine hK _ _ trivial ?_;clear hK K;refine wL 8 rfl rfl (fun K hK=>?_)
          go_simp
          refine hK _ _ trivial ?_;clear hK K;refine wDn ?_
          go_wp2_with fail
          have hS:=(un HR8).store (.string (zEp yy)) (.string (zEr yy));have v0:=hS.c0;have v1:=hS.c1;exact bodyPost_ret (v:=.tuple #[.agg #[.string (zEp yy),.string (zEr yy)],I (zHa yy)]) (w:=zBh W8 w.heap.size (.string (zEp yy)) (.string (zEr yy))) (by simp[results,Tryz.results22,go_sem,v0,v1]) rfl ⟨_,rfl,un HO1,zAk ((un HB5).trans ((un HB8).mono (un HB5).size)) (Nat.le_refl _) _ _⟩
        · have HO1:=zAb (un HOUN hfn)
          clear HOUT HOUN HIN HTL HFK hfn;have hby:Below W4.heap.size W4 (W4.alloc (.cells z15 30)):=zBx _ _;have HR5:=zAb ((un HR4).later hby);have HB5:Hid (Bw w (W4.alloc (.cells z15 30))):=(un HB4).trans (hby.mono (un HB4).size);clear hby HK4 HR4 HB4;generalize W4.alloc (.cells z15 30)=W5 at *
          have q0:=(un HR5).c0;have q1:=(un HR5).c1;have f0:=(un HR5).f0;have f1:=(un HR5).f1
          go_wp2_with fail
          have hS:=(un HR5).store (.string ⟨#[]⟩) (.string ⟨#[]⟩);have v0:=hS.c0;have v1:=hS.c1;exact bodyPost_ret (v:=.tuple #[.agg #[.string ⟨#[]⟩,.string ⟨#[]⟩],I 200]) (w:=zBh W5 w.heap.size (.string ⟨#[]⟩) (.string ⟨#[]⟩)) (by simp[results,Tryz.results22,go_sem,v0,v1]) rfl ⟨_,rfl,un HO1,zAk (un HB5) (Nat.le_refl _) _ _⟩
  · have hno:∀i,i<4→ptB p i=false:=by
      rcases hnone with ⟨k,_,e,_⟩|⟨_,h⟩
      · omega
      · exact h
    have c0:(p.toList == [97,98,115,111,108,117,116,101])=false:=(ptB_0 p).symm.trans (hno 0 (by omega));have c1:(p.toList == [105,99,101])=false:=(ptB_1 p).symm.trans (hno 1 (by omega));have c2:(p.toList == [116,114,105,112,108,101])=false:=(ptB_2 p).symm.trans (hno 2 (by omega));have c3:(p.toList == [98,111,105,108,105,110,103])=false:=(ptB_3 p).symm.trans (hno 3 (by omega));have HNN:=zAb hnone;clear hno hnone HK;have q0:=(un HRA).c0;have q1:=(un HRA).c1;have f0:=(un HRA).f0;have f1:=(un HRA).f1
    go_wp2_with fail
    have hS:=(un HRA).store (.string ⟨#[]⟩) (.string ⟨#[]⟩);have v0:=hS.c0;have v1:=hS.c1;exact bodyPost_ret (v:=.tuple #[.agg #[.string ⟨#[]⟩,.string ⟨#[]⟩],I 201]) (w:=zBh A w.heap.size (.string ⟨#[]⟩) (.string ⟨#[]⟩)) (by simp[results,Tryz.results22,go_sem,v0,v1]) rfl ⟨_,rfl,Or.inl ⟨un HNN,rfl⟩,zAk (un HBA) (Nat.le_refl _) _ _⟩
theorem isR_lit (s:ByteArray) (N:Nat) (hN:N<9223372036854775808) (h:Cub.rightB s.data.toList=true) (hv:Cub.dval s.data.toList=N):IsR s ⟨#[49]⟩ (Cub.valQ false N 1):=by
 have e:=(zHk s N h hv).1;have:=zCh N hN;rw[show sT false N=s from by unfold sT;rw[if_neg (by decide)];exact e.symm]at this;exact this
theorem boils_q:((Cub.valQ false 100 1)*fq 1+oq 1 + -oq 2)*(fq 2)⁻¹=Cub.valQ false 212 1:=by decide +kernel
theorem boils_k:¬(Cub.valQ false 100 1)*fq 1+oq 1<0:=by decide +kernel
theorem boils (w:World) (htab:Tab w):Calls Tryz.prog 46 #[.agg #[G #[49,48,48],G #[49]],G #[99,101,108,115,105,117,115],G #[102,97,104,114,101,110,104,101,105,116]] w fun r w'=>r=.returned (.tuple #[.agg #[G #[50,49,50],G #[49]],I 0])∧Bw w w':=by
 have hr:=isR_lit ⟨#[50,49,50]⟩ 212 (by decide) (by decide) (by decide)
 have h:=to_tell ⟨#[49,48,48]⟩ ⟨#[49]⟩ ⟨#[99,101,108,115,105,117,115]⟩ ⟨#[102,97,104,114,101,110,104,101,105,116]⟩ (Cub.valQ false 100 1) 1 2 w (isR_lit ⟨#[49,48,48]⟩ 100 (by decide) (by decide) (by decide))
  (Or.inl ⟨1,by decide,rfl,by decide +kernel,fun i hi=>by rcases(by omega:i=0)with rfl;decide +kernel⟩)
  (Or.inl ⟨2,by decide,rfl,by decide +kernel,fun i hi=>by rcases(by omega:i=0∨i=1)with rfl|rfl<;>decide +kernel⟩) boils_k htab
 rw[boils_q,←hr.2.1,←hr.2.2,show zHa (Cub.valQ false 212 1)=0 from by unfold zHa;rw[if_pos hr.1]]at h;exact h
theorem awake_any (w:World) (htab:Tab w):Calls Tryz.prog 19 #[] w fun r w'=>r=.returned (.bool true)∧Bw w w':=by
 have HTO:=zAb (fun W (hb:Below w.heap.size w W)=>boils W (htab.later hb));clear htab;go_enter Tryz.func19,Tryz.ntmps19
 go_upto_region 2 with (first
  | (go_at_call 47;go_must(refine(rat31 _ _ _).mono ?_;rintro e w1 ⟨rfl,hb1⟩;have HB1:=zAb hb1;clear hb1))
  | (go_at_call 46;go_must(refine(un HTO _ (un HB1)).mono ?_;rintro e w2 ⟨rfl,hb2⟩;have HB2:=zAb (bt HB1 hb2);clear hb2)))
 obtain⟨V2,hV2⟩:∃V2,V2=w2.alloc (.cells #[G #[50,49,50],G #[49]] 28):=⟨_,rfl⟩;have hb2:Below w2.heap.size w2 V2:=by rw[hV2];exact bA
 have HB3:=zAb (bt HB2 hb2);have HX:Hid (T2 V2 w2.heap.size (G #[50,49,50]) (G #[49])):=by rw[hV2];exact⟨by simp[go_sem],by simp[go_sem],by simp[go_sem],by simp[go_sem]⟩
 rw[←hV2];clear hV2 hb2 HB2;generalize w2.heap.size=g1 at *
 have c0:∀z:zBy V2,z.world.cell? ⟨g1,0,none⟩=some (G #[50,49,50]):=fun z=>((un HX).later z.below).c0
 have c1:∀z:zBy V2,z.world.cell? ⟨g1,1,none⟩=some (G #[49]):=fun z=>((un HX).later z.below).c1
 refine zCz (by kernel_rfl) (by kernel_rfl) ?_
 repeat (go_big_quiet_step ((go_at_call 47;rename_i xx;refine(rat31 _ _ xx.world).mono ?_;rintro e w9 ⟨rfl,hb9⟩;have hz:=xx.below.trans (hb9.mono xx.below.size);first|exact⟨rfl,⟨w9,hz⟩,rfl⟩|exact⟨rfl,hz⟩|exact⟨rfl,w9,hz,rfl⟩)))
 refine wpQuiet_nil ?_;intro _ hw';obtain⟨xz,hw''⟩:=hw';subst hw'';have HE:=zAb ((un HB3).trans (xz.below.mono (un HB3).size))
 go_wp2_with fail
 go_ret
 exact⟨rfl,un HE⟩
end Go.Proofs.YtliadckofhblnaaGreatDoor.Tm
namespace Go.Proofs.YtliadckofhblnaaGreatDoor
open Go.RowKit
theorem info3U:∃i,Tryz.prog.info? 3=some i:=Option.isSome_iff_exists.1 (by kernel_rfl)
theorem cells3U:Tryz.prog.cellsOf 3=1:=by kernel_rfl
section
variable (nm sy:ByteArray) (d0 d1 d2 d3 d4 d5 d6 d7:Int) (fn fd on od:ByteArray) (tk:Int)
theorem eqD (d:Nat) (w:World):(Op.equalIn (d+2) 26 (.agg #[I d0,I d1,I d2,I d3,I d4,I d5,I d6,I d7]) (.agg #[I d0,I d1,I d2,I d3,I d4,I d5,I d6,I d7])).run Tryz.prog w=.ok true w:=by
 obtain⟨inf,hinf⟩:=info3U;rw[show d+2=(d+1)+1 from rfl,run_equalIn_array w (d+1) _ _ Tryz.underlying26 hinf,cells3U,show List.range 8=[0,1,2,3,4,5,6,7]from rfl];have p0:∀w:World,(part 3 #[I d0,I d1,I d2,I d3,I d4,I d5,I d6,I d7] (0*1)).run Tryz.prog w=.ok (I d0) w:=fun _=>by kernel_rfl
 have p1:∀w:World,(part 3 #[I d0,I d1,I d2,I d3,I d4,I d5,I d6,I d7] (1*1)).run Tryz.prog w=.ok (I d1) w:=fun _=>by kernel_rfl
 have p2:∀w:World,(part 3 #[I d0,I d1,I d2,I d3,I d4,I d5,I d6,I d7] (2*1)).run Tryz.prog w=.ok (I d2) w:=fun _=>by kernel_rfl
 have p3:∀w:World,(part 3 #[I d0,I d1,I d2,I d3,I d4,I d5,I d6,I d7] (3*1)).run Tryz.prog w=.ok (I d3) w:=fun _=>by kernel_rfl
 have p4:∀w:World,(part 3 #[I d0,I d1,I d2,I d3,I d4,I d5,I d6,I d7] (4*1)).run Tryz.prog w=.ok (I d4) w:=fun _=>by kernel_rfl
 have p5:∀w:World,(part 3 #[I d0,I d1,I d2,I d3,I d4,I d5,I d6,I d7] (5*1)).run Tryz.prog w=.ok (I d5) w:=fun _=>by kernel_rfl
 have p6:∀w:World,(part 3 #[I d0,I d1,I d2,I d3,I d4,I d5,I d6,I d7] (6*1)).run Tryz.prog w=.ok (I d6) w:=fun _=>by kernel_rfl
 have p7:∀w:World,(part 3 #[I d0,I d1,I d2,I d3,I d4,I d5,I d6,I d7] (7*1)).run Tryz.prog w=.ok (I d7) w:=fun _=>by kernel_rfl
 have e:=fun w a b=>run_equalIn_int (P:=Tryz.prog) w d 3 .i64 .i64 a b Tryz.underlying3
 simp only[Op.eqItems,Sem.run_bind,p0,p1,p2,p3,p4,p5,p6,p7,Result.andThen_ok,e,Sem.run_ite,Sem.run_pure];simp
theorem fieldsQ:∃f0 f1,(Tryz.prog.fieldsOf 28).toList=[f0,f1]∧f0.type=9∧f0.offset=0∧f0.name≠"_"∧f1.type=9∧f1.offset=1∧f1.name≠"_":=by
 unfold Program.fieldsOf;rw[Tryz.underlying28];exact⟨_,_,rfl,rfl,rfl,by decide +kernel,rfl,rfl,by decide +kernel⟩
theorem eqQ (d:Nat) (w:World):(Op.equalIn (d+2) 28 (.agg #[.string fn,.string fd]) (.agg #[.string fn,.string fd])).run Tryz.prog w=.ok true w:=by
 rw[show d+2=(d+1)+1 from rfl,run_equalIn_struct w (d+1) 28 _ _ (by kernel_rfl) (by kernel_rfl)];obtain⟨f0,f1,hf,t0,o0,n0,t1,o1,n1⟩:=fieldsQ;rw[hf];have p0:∀w:World,(part 9 #[.string fn,.string fd] 0).run Tryz.prog w=.ok (.string fn) w:=fun _=>by kernel_rfl
 have p1:∀w:World,(part 9 #[.string fn,.string fd] 1).run Tryz.prog w=.ok (.string fd) w:=fun _=>by kernel_rfl
 have e:=fun w a b=>run_equalIn_string (P:=Tryz.prog) w d 9 a b Tryz.underlying9
 simp only[Op.eqFields,n0,n1,t0,t1,o0,o1,Sem.run_bind,p0,p1,Result.andThen_ok,e,Sem.run_ite,Sem.run_pure,ne_eq,not_false_eq_true,if_true];simp
theorem fieldsU:∃f0 f1 f2 f3 f4 f5,(Tryz.prog.fieldsOf 30).toList=[f0,f1,f2,f3,f4,f5]∧(f0.type=9∧f0.offset=0∧f0.name≠"_")∧(f1.type=9∧f1.offset=1∧f1.name≠"_")∧(f2.type=26∧f2.offset=2∧f2.name≠"_")∧(f3.type=28∧f3.offset=10∧f3.name≠"_")∧(f4.type=28∧f4.offset=12∧f4.name≠"_")∧(f5.type=3∧f5.offset=14∧f5.name≠"_"):=by
 unfold Program.fieldsOf;rw[Tryz.underlying30];exact⟨_,_,_,_,_,_,rfl,⟨rfl,rfl,by decide +kernel⟩,⟨rfl,rfl,by decide +kernel⟩,⟨rfl,rfl,by decide +kernel⟩,⟨rfl,rfl,by decide +kernel⟩,⟨rfl,rfl,by decide +kernel⟩,⟨rfl,rfl,by decide +kernel⟩⟩
theorem eqU (w:World):(Op.equalIn 10000 30 (.agg #[.string nm,.string sy,I d0,I d1,I d2,I d3,I d4,I d5,I d6,I d7,.string fn,.string fd,.string on,.string od,I tk]) (.agg #[.string nm,.string sy,I d0,I d1,I d2,I d3,I d4,I d5,I d6,I d7,.string fn,.string fd,.string on,.string od,I tk])).run Tryz.prog w=.ok true w:=by
 rw[show(10000:Nat)=9999+1 from rfl,run_equalIn_struct w 9999 30 _ _ (by kernel_rfl) (by kernel_rfl)];obtain⟨f0,f1,f2,f3,f4,f5,hf,⟨t0,o0,n0⟩,⟨t1,o1,n1⟩,⟨t2,o2,n2⟩,⟨t3,o3,n3⟩,⟨t4,o4,n4⟩,⟨t5,o5,n5⟩⟩:=fieldsU;rw[hf];have p0:∀w:World,(part 9 #[.string nm,.string sy,I d0,I d1,I d2,I d3,I d4,I d5,I d6,I d7,.string fn,.string fd,.string on,.string od,I tk] 0).run Tryz.prog w=.ok (.string nm) w:=fun _=>by kernel_rfl
 have p1:∀w:World,(part 9 #[.string nm,.string sy,I d0,I d1,I d2,I d3,I d4,I d5,I d6,I d7,.string fn,.string fd,.string on,.string od,I tk] 1).run Tryz.prog w=.ok (.string sy) w:=fun _=>by kernel_rfl
 have p2:∀w:World,(part 26 #[.string nm,.string sy,I d0,I d1,I d2,I d3,I d4,I d5,I d6,I d7,.string fn,.string fd,.string on,.string od,I tk] 2).run Tryz.prog w=.ok (.agg #[I d0,I d1,I d2,I d3,I d4,I d5,I d6,I d7]) w:=fun _=>by kernel_rfl
 have p3:∀w:World,(part 28 #[.string nm,.string sy,I d0,I d1,I d2,I d3,I d4,I d5,I d6,I d7,.string fn,.string fd,.string on,.string od,I tk] 10).run Tryz.prog w=.ok (.agg #[.string fn,.string fd]) w:=fun _=>by kernel_rfl
 have p4:∀w:World,(part 28 #[.string nm,.string sy,I d0,I d1,I d2,I d3,I d4,I d5,I d6,I d7,.string fn,.string fd,.string on,.string od,I tk] 12).run Tryz.prog w=.ok (.agg #[.string on,.string od]) w:=fun _=>by kernel_rfl
 have p5:∀w:World,(part 3 #[.string nm,.string sy,I d0,I d1,I d2,I d3,I d4,I d5,I d6,I d7,.string fn,.string fd,.string on,.string od,I tk] 14).run Tryz.prog w=.ok (I tk) w:=fun _=>by kernel_rfl
 have e:=fun w a b=>run_equalIn_string (P:=Tryz.prog) w 9998 9 a b Tryz.underlying9
 have e3:=fun w a b=>run_equalIn_int (P:=Tryz.prog) w 9998 3 .i64 .i64 a b Tryz.underlying3
 have ed:=eqD d0 d1 d2 d3 d4 d5 d6 d7 9997;have eq1:=eqQ fn fd 9997;have eq2:=eqQ on od 9997;simp only[Op.eqFields,n0,n1,n2,n3,n4,n5,t0,t1,t2,t3,t4,t5,o0,o1,o2,o3,o4,o5,Sem.run_bind,p0,p1,p2,p3,p4,p5,Result.andThen_ok,e,e3,ed,eq1,eq2,Sem.run_ite,Sem.run_pure,ne_eq,not_false_eq_true,if_true];simp
theorem eqlU (w:World):(binOp .eql 30 (.agg #[.string nm,.string sy,I d0,I d1,I d2,I d3,I d4,I d5,I d6,I d7,.string fn,.string fd,.string on,.string od,I tk]) (.agg #[.string nm,.string sy,I d0,I d1,I d2,I d3,I d4,I d5,I d6,I d7,.string fn,.string fd,.string on,.string od,I tk])).run Tryz.prog w=.ok (.bool true) w:=by
 rw[run_eql_struct,eqU]
 rfl
end
end Go.Proofs.YtliadckofhblnaaGreatDoor
namespace Go.Proofs.YtliadckofhblnaaGreatDoor.Tm
open Go.RowKit
theorem FindM.shape {s:ByteArray} {v:Value} (h:FindM s v):∃(nm sy fn fd on od:ByteArray) (d0 d1 d2 d3 d4 d5 d6 d7 tk:Int) (ok:Bool),v=.tuple #[.agg #[.string nm,.string sy,I d0,I d1,I d2,I d3,I d4,I d5,I d6,I d7,.string fn,.string fd,.string on,.string od,I tk],.bool ok]:=by
 rcases h with ⟨k,hk,_,rfl⟩|⟨_,rfl⟩
 ·exact⟨_,_,_,_,_,_,_,_,_,_,_,_,_,_,_,_,rfl⟩
 ·exact⟨_,_,_,_,_,_,_,_,_,_,_,_,_,_,_,_,rfl⟩
theorem FixV.shape {p s:ByteArray} {v:Value} (h:FixV p s v):∃(a b:ByteArray) (e:Int),v=.tuple #[.agg #[.string a,.string b],I e]:=by
 rcases h with ⟨_,rfl⟩|⟨_,_,_,_,rfl⟩|⟨_,_,_,_,_,_,rfl⟩<;>exact⟨_,_,_,rfl⟩
theorem FixV.det {p s:ByteArray} {u v:Value} (h1:FixV p s u) (h2:FixV p s v):u=v:=by
 rcases h1 with ⟨p1,rfl⟩|⟨n,hn,p1,s1,rfl⟩|⟨n,k,hn,hk,p1,s1,rfl⟩<;>rcases h2 with ⟨p2,rfl⟩|⟨m,hm,p2,s2,rfl⟩|⟨m,j,hm,hj,p2,s2,rfl⟩
 ·rfl
 ·have:=zCi p1 p2;omega
 ·have:=zCi p1 p2;omega
 ·have:=zCi p1 p2;omega
 ·rfl
 ·have:=zCi s1 s2;omega
 ·have:=zCi p1 p2;omega
 ·have:=zCi s1 s2;omega
 ·have e1:=zCi p1 p2;have e2:=zCi s1 s2
  have e3:n=m:=by omega
  have e4:k=j:=by omega
  rw[e3,e4]
theorem finds_walk (s p:ByteArray) (w:World) (htab:Tab w):Calls Tryz.prog 7 #[.string s,.string p] w fun r w'=>r=.returned (.bool true)∧Bw w w':=by
 have HTA:Hid (∀W,Below w.heap.size w W→Tab W):=fun W h=>htab.later h
 clear htab;go_enter Tryz.func7,Tryz.ntmps7
 go_upto_region 2 with (go_at_call 20;go_must(refine(findU s _ (un HTA _ (Below.refl _ _))).mono ?_;rintro e W1 ⟨v,rfl,hv,hb⟩;obtain⟨nm,sy,fn,fd,on,od,d0,d1,d2,d3,d4,d5,d6,d7,tk,ok,rfl⟩:=hv.shape;have HFV:=zAb hv;have HB1:=zAb hb;clear hv hb))
 obtain⟨V2,hV2⟩:∃V2,V2=W1.alloc (.cells #[.string nm,.string sy,I d0,I d1,I d2,I d3,I d4,I d5,I d6,I d7,.string fn,.string fd,.string on,.string od,I tk] 30):=⟨_,rfl⟩;have HA2:Hid (zAc V2 W1.heap.size 30 #[.string nm,.string sy,I d0,I d1,I d2,I d3,I d4,I d5,I d6,I d7,.string fn,.string fd,.string on,.string od,I tk]):=by rw[hV2];exact zAc.new _ _ _
 have HB2:Hid (Bw w V2):=by rw[hV2];exact(un HB1).alloc (un HB1).size _
 rw[←hV2];clear hV2 HB1;generalize W1.heap.size=g3 at *
 go_upto_region 3 with (first
  | (go_at_call 18;go_must(refine(refUnitsM _).mono ?_;rintro e W0 ⟨W,rfl,rfl,hb⟩;have HUW:=zAb (fun k hk=>uAllM_at W k hk);have HGW:Hid (W.heap.size<(W.alloc (.cells uAllM 30)).heap.size):=(by show _<_;simp);have HBW:Hid (Bw V2 (W.alloc (.cells uAllM 30))):=hb.alloc hb.size _;clear hb;obtain⟨gU,hgU⟩:∃gU,gU=W.heap.size:=⟨_,rfl⟩;obtain⟨V3,hV3⟩:∃V3,V3=W.alloc (.cells uAllM 30):=⟨_,rfl⟩;rw[←hV3,←hgU]at HUW HGW;rw[←hV3]at HBW;rw[←hV3,←hgU];clear hgU hV3))
  | (go_at_call 15;go_must(refine(refFindM s gU 3 V3 (un HUW) (un HGW)).mono ?_;rintro e W4 ⟨v',rfl,hv',hb⟩;obtain rfl:=(un HFV).det hv';have HB4:=zAb (((un HB2).trans ((un HBW).mono (un HB2).size)).trans (hb.mono ((un HB2).trans ((un HBW).mono (un HB2).size)).size));have HA4:=zAb (((un HA2).later (un HBW)).later hb);clear hb hv')))
 obtain⟨V5,hV5⟩:∃V5,V5=W4.alloc (.cells #[.string nm,.string sy,I d0,I d1,I d2,I d3,I d4,I d5,I d6,I d7,.string fn,.string fd,.string on,.string od,I tk] 30):=⟨_,rfl⟩;have HC5:Hid (zAc V5 W4.heap.size 30 #[.string nm,.string sy,I d0,I d1,I d2,I d3,I d4,I d5,I d6,I d7,.string fn,.string fd,.string on,.string od,I tk]):=by rw[hV5];exact zAc.new _ _ _
 have hb5:Below W4.heap.size W4 V5:=by rw[hV5];exact bA
 have HB5:Hid (Bw w V5):=bt HB4 hb5;have HA5:=zAb ((un HA4).later hb5);rw[←hV5];clear hV5 hb5 HB4 HA4 HA2 HB2 HFV HUW HGW HBW;generalize W4.heap.size=g5 at *
 go_upto_region 4 with (go_at_call 21;go_must(refine(zDx p s _ (un HTA _ (un HB5))).mono ?_;rintro e W6 ⟨v,rfl,hv,hb⟩;obtain⟨fa,fb,fe,rfl⟩:=hv.shape;have HFX:=zAb hv;have HB6:Hid (Bw w W6):=bt HB5 hb;have HA6:=zAb ((un HA5).later hb);have HC6:=zAb ((un HC5).later hb);clear hv hb HA5 HC5 HB5))
 obtain⟨V7,hV7⟩:∃V7,V7=W6.alloc (.cells #[.string fa,.string fb] 28):=⟨_,rfl⟩;have HP7:Hid (T2 V7 W6.heap.size (.string fa) (.string fb)):=by rw[hV7];exact⟨by simp[go_sem],by simp[go_sem],by simp[go_sem],by simp[go_sem]⟩
 have hb7:Below W6.heap.size W6 V7:=by rw[hV7];exact bA
 have HB7:Hid (Bw w V7):=bt HB6 hb7;have HA7:=zAb ((un HA6).later hb7);have HC7:=zAb ((un HC6).later hb7);rw[←hV7];clear hV7 hb7 HB6 HA6 HC6;generalize W6.heap.size=g7 at *
 go_upto_region 5 with (go_at_call 22;go_must(refine(refFixed_any p s _).mono ?_;rintro e W8 ⟨v',rfl,hv',hb⟩;obtain rfl:=(un HFX).det hv';have HB8:Hid (Bw w W8):=bt HB7 hb;have HA8:=zAb ((un HA7).later hb);have HC8:=zAb ((un HC7).later hb);have HP8:=zAb ((un HP7).later hb);clear hv' hb HA7 HC7 HB7 HP7))
 obtain⟨V9,hV9⟩:∃V9,V9=W8.alloc (.cells #[.string fa,.string fb] 28):=⟨_,rfl⟩;have HQ9:Hid (T2 V9 W8.heap.size (.string fa) (.string fb)):=by rw[hV9];exact⟨by simp[go_sem],by simp[go_sem],by simp[go_sem],by simp[go_sem]⟩
 have hb9:Below W8.heap.size W8 V9:=by rw[hV9];exact bA
 have HB9:Hid (Bw w V9):=bt HB8 hb9;have HA9:=zAb ((un HA8).later hb9);have HC9:=zAb ((un HC8).later hb9);have HP9:=zAb ((un HP8).later hb9);rw[←hV9];clear hV9 hb9 HB8 HA8 HC8 HP8 HFX;generalize W8.heap.size=g9 at *
 have g3a:V9.cell? ⟨g3,0,none⟩=some (.string nm):=(un HA9).ub.c 0 _ rfl;have g3b:V9.cell? ⟨g3,1,none⟩=some (.string sy):=(un HA9).ub.c 1 _ rfl;have g3c:V9.cell? ⟨g3,2,none⟩=some (I d0):=(un HA9).ub.c 2 _ rfl;have g3d:V9.cell? ⟨g3,3,none⟩=some (I d1):=(un HA9).ub.c 3 _ rfl;have g3e:V9.cell? ⟨g3,4,none⟩=some (I d2):=(un HA9).ub.c 4 _ rfl;have g3f:V9.cell? ⟨g3,5,none⟩=some (I d3):=(un HA9).ub.c 5 _ rfl;have g3g:V9.cell? ⟨g3,6,none⟩=some (I d4):=(un HA9).ub.c 6 _ rfl;have g3h:V9.cell? ⟨g3,7,none⟩=some (I d5):=(un HA9).ub.c 7 _ rfl;have g3i:V9.cell? ⟨g3,8,none⟩=some (I d6):=(un HA9).ub.c 8 _ rfl;have g3j:V9.cell? ⟨g3,9,none⟩=some (I d7):=(un HA9).ub.c 9 _ rfl;have g3k:V9.cell? ⟨g3,10,none⟩=some (.string fn):=(un HA9).ub.c 10 _ rfl;have g3l:V9.cell? ⟨g3,11,none⟩=some (.string fd):=(un HA9).ub.c 11 _ rfl;have g3m:V9.cell? ⟨g3,12,none⟩=some (.string on):=(un HA9).ub.c 12 _ rfl;have g3n:V9.cell? ⟨g3,13,none⟩=some (.string od):=(un HA9).ub.c 13 _ rfl;have g3o:V9.cell? ⟨g3,14,none⟩=some (I tk):=(un HA9).ub.c 14 _ rfl;have g5a:V9.cell? ⟨g5,0,none⟩=some (.string nm):=(un HC9).ub.c 0 _ rfl;have g5b:V9.cell? ⟨g5,1,none⟩=some (.string sy):=(un HC9).ub.c 1 _ rfl;have g5c:V9.cell? ⟨g5,2,none⟩=some (I d0):=(un HC9).ub.c 2 _ rfl;have g5d:V9.cell? ⟨g5,3,none⟩=some (I d1):=(un HC9).ub.c 3 _ rfl;have g5e:V9.cell? ⟨g5,4,none⟩=some (I d2):=(un HC9).ub.c 4 _ rfl;have g5f:V9.cell? ⟨g5,5,none⟩=some (I d3):=(un HC9).ub.c 5 _ rfl;have g5g:V9.cell? ⟨g5,6,none⟩=some (I d4):=(un HC9).ub.c 6 _ rfl;have g5h:V9.cell? ⟨g5,7,none⟩=some (I d5):=(un HC9).ub.c 7 _ rfl;have g5i:V9.cell? ⟨g5,8,none⟩=some (I d6):=(un HC9).ub.c 8 _ rfl;have g5j:V9.cell? ⟨g5,9,none⟩=some (I d7):=(un HC9).ub.c 9 _ rfl;have g5k:V9.cell? ⟨g5,10,none⟩=some (.string fn):=(un HC9).ub.c 10 _ rfl;have g5l:V9.cell? ⟨g5,11,none⟩=some (.string fd):=(un HC9).ub.c 11 _ rfl;have g5m:V9.cell? ⟨g5,12,none⟩=some (.string on):=(un HC9).ub.c 12 _ rfl;have g5n:V9.cell? ⟨g5,13,none⟩=some (.string od):=(un HC9).ub.c 13 _ rfl;have g5o:V9.cell? ⟨g5,14,none⟩=some (I tk):=(un HC9).ub.c 14 _ rfl;have p0:=(un HP9).c0;have p1:=(un HP9).c1;have q0:=(un HQ9).c0;have q1:=(un HQ9).c1;have heq:=eqlU nm sy d0 d1 d2 d3 d4 d5 d6 d7 fn fd on od tk;have HAW:=zAb (awake_any V9 (un HTA _ (un HB9)))
 cases ok
 all_goals
  go_wp2_with (go_at_call 19;go_must(refine(un HAW).mono ?_;rintro e WA ⟨rfl,hba⟩;have HBA:=zAb hba;clear hba))
  go_ret
  exact⟨rfl,(un HB9).trans ((un HBA).mono (un HB9).size)⟩
end Go.Proofs.YtliadckofhblnaaGreatDoor.Tm

/- The document's Same (12) over the units of temperature; TempsStands (6). -/
import Derived.Test.YtliadckofhblnaaGreatDoorLimb3
import Derived.Test.YtliadckofhblnaaGreatDoorTmRef
import Derived.Test.YtliadckofhblnaaGreatDoorFindB
import Derived.ChangeKeysEq
import Derived.Laws.StructEq
import Derived.BigQuiet
set_option maxHeartbeats 4000000
set_option maxRecDepth 100000
namespace Go.Proofs.YtliadckofhblnaaGreatDoor.Tm
open Go.RowKit
theorem isR_lit (s:ByteArray) (N:Nat) (hN:N<9223372036854775808) (h:Cub.rightB s.data.toList=true) (hv:Cub.dval s.data.toList=N):IsR s ⟨#[49]⟩ (Cub.valQ false N 1):=by
 have e:=(zHk s N h hv).1;have:=zCh N hN;rw[show sT false N=s from by unfold sT;rw[if_neg (by decide)];exact e.symm]at this;exact this
theorem boils_q:((Cub.valQ false 100 1)*fq 1+oq 1 + -oq 2)*(fq 2)⁻¹=Cub.valQ false 212 1:=by decide +kernel
theorem boils_k:¬(Cub.valQ false 100 1)*fq 1+oq 1<0:=by decide +kernel
theorem boils (w:World) (htab:Tab w):Calls Tryz.prog 46 #[.agg #[G #[49,48,48],G #[49]],G #[99,101,108,115,105,117,115],G #[102,97,104,114,101,110,104,101,105,116]] w fun r w'=>r=.returned (.tuple #[.agg #[G #[50,49,50],G #[49]],I 0])∧Bw w w':=by
 have hr:=isR_lit ⟨#[50,49,50]⟩ 212 (by decide) (by decide) (by decide)
 have h:=to_tell ⟨#[49,48,48]⟩ ⟨#[49]⟩ ⟨#[99,101,108,115,105,117,115]⟩ ⟨#[102,97,104,114,101,110,104,101,105,116]⟩ (Cub.valQ false 100 1) 1 2 w (isR_lit ⟨#[49,48,48]⟩ 100 (by decide) (by decide) (by decide))
  (Or.inl ⟨1,by decide,rfl,by decide +kernel,fun i hi=>by rcases(by omega:i=0)with rfl;decide +kernel⟩)
  (Or.inl ⟨2,by decide,rfl,by decide +kernel,fun i hi=>by rcases(by omega:i=0∨i=1)with rfl|rfl<;>decide +kernel⟩) boils_k htab
 rw[boils_q,←hr.2.1,←hr.2.2,show zHa (Cub.valQ false 212 1)=0 from by unfold zHa;rw[if_pos hr.1]]at h;exact h
theorem awake_any (w:World) (htab:Tab w):Calls Tryz.prog 19 #[] w fun r w'=>r=.returned (.bool true)∧Bw w w':=by
 have HTO:=zAb (fun W (hb:Below w.heap.size w W)=>boils W (htab.later hb));clear htab;go_enter Tryz.func19,Tryz.ntmps19
 go_upto_region 2 with (first
  | (go_at_call 47;go_must(refine(rat31 _ _ _).mono ?_;rintro e w1 ⟨rfl,hb1⟩;have HB1:=zAb hb1;clear hb1))
  | (go_at_call 46;go_must(refine(un HTO _ (un HB1)).mono ?_;rintro e w2 ⟨rfl,hb2⟩;have HB2:=zAb (bt HB1 hb2);clear hb2)))
 obtain⟨V2,hV2⟩:∃V2,V2=w2.alloc (.cells #[G #[50,49,50],G #[49]] 28):=⟨_,rfl⟩;have hb2:Below w2.heap.size w2 V2:=by rw[hV2];exact bA
 have HB3:=zAb (bt HB2 hb2);have HX:Hid (T2 V2 w2.heap.size (G #[50,49,50]) (G #[49])):=by rw[hV2];exact⟨by simp[go_sem],by simp[go_sem],by simp[go_sem],by simp[go_sem]⟩
 rw[←hV2];clear hV2 hb2 HB2;generalize w2.heap.size=g1 at *
 have c0:∀z:zBy V2,z.world.cell? ⟨g1,0,none⟩=some (G #[50,49,50]):=fun z=>((un HX).later z.below).c0
 have c1:∀z:zBy V2,z.world.cell? ⟨g1,1,none⟩=some (G #[49]):=fun z=>((un HX).later z.below).c1
 refine zCz (by kernel_rfl) (by kernel_rfl) ?_
 repeat (go_big_quiet_step ((go_at_call 47;rename_i xx;refine(rat31 _ _ xx.world).mono ?_;rintro e w9 ⟨rfl,hb9⟩;have hz:=xx.below.trans (hb9.mono xx.below.size);first|exact⟨rfl,⟨w9,hz⟩,rfl⟩|exact⟨rfl,hz⟩|exact⟨rfl,w9,hz,rfl⟩)))
 refine wpQuiet_nil ?_;intro _ hw';obtain⟨xz,hw''⟩:=hw';subst hw'';have HE:=zAb ((un HB3).trans (xz.below.mono (un HB3).size))
 go_wp2_with fail
 go_ret
 exact⟨rfl,un HE⟩
end Go.Proofs.YtliadckofhblnaaGreatDoor.Tm
namespace Go.Proofs.YtliadckofhblnaaGreatDoor
open Go.RowKit
theorem info3U:∃i,Tryz.prog.info? 3=some i:=Option.isSome_iff_exists.1 (by kernel_rfl)
theorem cells3U:Tryz.prog.cellsOf 3=1:=by kernel_rfl
section
variable (nm sy:ByteArray) (d0 d1 d2 d3 d4 d5 d6 d7:Int) (fn fd on od:ByteArray) (tk:Int)
theorem eqD (d:Nat) (w:World):(Op.equalIn (d+2) 26 (.agg #[I d0,I d1,I d2,I d3,I d4,I d5,I d6,I d7]) (.agg #[I d0,I d1,I d2,I d3,I d4,I d5,I d6,I d7])).run Tryz.prog w=.ok true w:=by
 obtain⟨inf,hinf⟩:=info3U;rw[show d+2=(d+1)+1 from rfl,run_equalIn_array w (d+1) _ _ Tryz.underlying26 hinf,cells3U,show List.range 8=[0,1,2,3,4,5,6,7]from rfl];have p0:∀w:World,(part 3 #[I d0,I d1,I d2,I d3,I d4,I d5,I d6,I d7] (0*1)).run Tryz.prog w=.ok (I d0) w:=fun _=>by kernel_rfl
 have p1:∀w:World,(part 3 #[I d0,I d1,I d2,I d3,I d4,I d5,I d6,I d7] (1*1)).run Tryz.prog w=.ok (I d1) w:=fun _=>by kernel_rfl
 have p2:∀w:World,(part 3 #[I d0,I d1,I d2,I d3,I d4,I d5,I d6,I d7] (2*1)).run Tryz.prog w=.ok (I d2) w:=fun _=>by kernel_rfl
 have p3:∀w:World,(part 3 #[I d0,I d1,I d2,I d3,I d4,I d5,I d6,I d7] (3*1)).run Tryz.prog w=.ok (I d3) w:=fun _=>by kernel_rfl
 have p4:∀w:World,(part 3 #[I d0,I d1,I d2,I d3,I d4,I d5,I d6,I d7] (4*1)).run Tryz.prog w=.ok (I d4) w:=fun _=>by kernel_rfl
 have p5:∀w:World,(part 3 #[I d0,I d1,I d2,I d3,I d4,I d5,I d6,I d7] (5*1)).run Tryz.prog w=.ok (I d5) w:=fun _=>by kernel_rfl
 have p6:∀w:World,(part 3 #[I d0,I d1,I d2,I d3,I d4,I d5,I d6,I d7] (6*1)).run Tryz.prog w=.ok (I d6) w:=fun _=>by kernel_rfl
 have p7:∀w:World,(part 3 #[I d0,I d1,I d2,I d3,I d4,I d5,I d6,I d7] (7*1)).run Tryz.prog w=.ok (I d7) w:=fun _=>by kernel_rfl
 have e:=fun w a b=>run_equalIn_int (P:=Tryz.prog) w d 3 .i64 .i64 a b Tryz.underlying3
 simp only[Op.eqItems,Sem.run_bind,p0,p1,p2,p3,p4,p5,p6,p7,Result.andThen_ok,e,Sem.run_ite,Sem.run_pure];simp
theorem fieldsQ:∃f0 f1,(Tryz.prog.fieldsOf 28).toList=[f0,f1]∧f0.type=9∧f0.offset=0∧f0.name≠"_"∧f1.type=9∧f1.offset=1∧f1.name≠"_":=by
 unfold Program.fieldsOf;rw[Tryz.underlying28];exact⟨_,_,rfl,rfl,rfl,by decide +kernel,rfl,rfl,by decide +kernel⟩
theorem eqQ (d:Nat) (w:World):(Op.equalIn (d+2) 28 (.agg #[.string fn,.string fd]) (.agg #[.string fn,.string fd])).run Tryz.prog w=.ok true w:=by
 rw[show d+2=(d+1)+1 from rfl,run_equalIn_struct w (d+1) 28 _ _ (by kernel_rfl) (by kernel_rfl)];obtain⟨f0,f1,hf,t0,o0,n0,t1,o1,n1⟩:=fieldsQ;rw[hf];have p0:∀w:World,(part 9 #[.string fn,.string fd] 0).run Tryz.prog w=.ok (.string fn) w:=fun _=>by kernel_rfl
 have p1:∀w:World,(part 9 #[.string fn,.string fd] 1).run Tryz.prog w=.ok (.string fd) w:=fun _=>by kernel_rfl
 have e:=fun w a b=>run_equalIn_string (P:=Tryz.prog) w d 9 a b Tryz.underlying9
 simp only[Op.eqFields,n0,n1,t0,t1,o0,o1,Sem.run_bind,p0,p1,Result.andThen_ok,e,Sem.run_ite,Sem.run_pure,ne_eq,not_false_eq_true,if_true];simp
theorem fieldsU:∃f0 f1 f2 f3 f4 f5,(Tryz.prog.fieldsOf 30).toList=[f0,f1,f2,f3,f4,f5]∧(f0.type=9∧f0.offset=0∧f0.name≠"_")∧(f1.type=9∧f1.offset=1∧f1.name≠"_")∧(f2.type=26∧f2.offset=2∧f2.name≠"_")∧(f3.type=28∧f3.offset=10∧f3.name≠"_")∧(f4.type=28∧f4.offset=12∧f4.name≠"_")∧(f5.type=3∧f5.offset=14∧f5.name≠"_"):=by
 unfold Program.fieldsOf;rw[Tryz.underlying30];exact⟨_,_,_,_,_,_,rfl,⟨rfl,rfl,by decide +kernel⟩,⟨rfl,rfl,by decide +kernel⟩,⟨rfl,rfl,by decide +kernel⟩,⟨rfl,rfl,by decide +kernel⟩,⟨rfl,rfl,by decide +kernel⟩,⟨rfl,rfl,by decide +kernel⟩⟩
theorem eqU (w:World):(Op.equalIn 10000 30 (.agg #[.string nm,.string sy,I d0,I d1,I d2,I d3,I d4,I d5,I d6,I d7,.string fn,.string fd,.string on,.string od,I tk]) (.agg #[.string nm,.string sy,I d0,I d1,I d2,I d3,I d4,I d5,I d6,I d7,.string fn,.string fd,.string on,.string od,I tk])).run Tryz.prog w=.ok true w:=by
 rw[show(10000:Nat)=9999+1 from rfl,run_equalIn_struct w 9999 30 _ _ (by kernel_rfl) (by kernel_rfl)];obtain⟨f0,f1,f2,f3,f4,f5,hf,⟨t0,o0,n0⟩,⟨t1,o1,n1⟩,⟨t2,o2,n2⟩,⟨t3,o3,n3⟩,⟨t4,o4,n4⟩,⟨t5,o5,n5⟩⟩:=fieldsU;rw[hf];have p0:∀w:World,(part 9 #[.string nm,.string sy,I d0,I d1,I d2,I d3,I d4,I d5,I d6,I d7,.string fn,.string fd,.string on,.string od,I tk] 0).run Tryz.prog w=.ok (.string nm) w:=fun _=>by kernel_rfl
 have p1:∀w:World,(part 9 #[.string nm,.string sy,I d0,I d1,I d2,I d3,I d4,I d5,I d6,I d7,.string fn,.string fd,.string on,.string od,I tk] 1).run Tryz.prog w=.ok (.string sy) w:=fun _=>by kernel_rfl
 have p2:∀w:World,(part 26 #[.string nm,.string sy,I d0,I d1,I d2,I d3,I d4,I d5,I d6,I d7,.string fn,.string fd,.string on,.string od,I tk] 2).run Tryz.prog w=.ok (.agg #[I d0,I d1,I d2,I d3,I d4,I d5,I d6,I d7]) w:=fun _=>by kernel_rfl
 have p3:∀w:World,(part 28 #[.string nm,.string sy,I d0,I d1,I d2,I d3,I d4,I d5,I d6,I d7,.string fn,.string fd,.string on,.string od,I tk] 10).run Tryz.prog w=.ok (.agg #[.string fn,.string fd]) w:=fun _=>by kernel_rfl
 have p4:∀w:World,(part 28 #[.string nm,.string sy,I d0,I d1,I d2,I d3,I d4,I d5,I d6,I d7,.string fn,.string fd,.string on,.string od,I tk] 12).run Tryz.prog w=.ok (.agg #[.string on,.string od]) w:=fun _=>by kernel_rfl
 have p5:∀w:World,(part 3 #[.string nm,.string sy,I d0,I d1,I d2,I d3,I d4,I d5,I d6,I d7,.string fn,.string fd,.string on,.string od,I tk] 14).run Tryz.prog w=.ok (I tk) w:=fun _=>by kernel_rfl
 have e:=fun w a b=>run_equalIn_string (P:=Tryz.prog) w 9998 9 a b Tryz.underlying9
 have e3:=fun w a b=>run_equalIn_int (P:=Tryz.prog) w 9998 3 .i64 .i64 a b Tryz.underlying3
 have ed:=eqD d0 d1 d2 d3 d4 d5 d6 d7 9997;have eq1:=eqQ fn fd 9997;have eq2:=eqQ on od 9997;simp only[Op.eqFields,n0,n1,n2,n3,n4,n5,t0,t1,t2,t3,t4,t5,o0,o1,o2,o3,o4,o5,Sem.run_bind,p0,p1,p2,p3,p4,p5,Result.andThen_ok,e,e3,ed,eq1,eq2,Sem.run_ite,Sem.run_pure,ne_eq,not_false_eq_true,if_true];simp
end
end Go.Proofs.YtliadckofhblnaaGreatDoor
namespace Go.Proofs.YtliadckofhblnaaGreatDoor.Tm
open Go.RowKit
theorem flat_all:flatU (usM 3) 3=uAllM.toList:=by kernel_rfl
theorem flat_at {W:World} {base g cap:Nat} (h:W.ownsRow base 30 15 (.slice (some ⟨g,0,none⟩) 3 cap) 3 (flatU (usM 3) 3)) (k:Nat) (hk:k<3):UR W g k:=fun i v e=>by
 have hi:i<15:=(Array.getElem?_eq_some_iff.1 e).1;rw[h.cellAt (k*15+i) (by omega),flat_all]
 simpa using uAllM_row k hk i v e
theorem neqU (nm sy fn fd on od:ByteArray) (d0 d1 d2 d3 d4 d5 d6 d7 tk:Int) (w:World):(binOp .neq 30 (.agg #[.string nm,.string sy,I d0,I d1,I d2,I d3,I d4,I d5,I d6,I d7,.string fn,.string fd,.string on,.string od,I tk]) (.agg #[.string nm,.string sy,I d0,I d1,I d2,I d3,I d4,I d5,I d6,I d7,.string fn,.string fd,.string on,.string od,I tk])).run Tryz.prog w=.ok (.bool false) w:=by
 rw[run_neq_struct,eqU]
 rfl
theorem zHd (w:World) (g1 c1 g2 c2:Nat) (hg1:g1<w.heap.size) (hg2:g2<w.heap.size) (h1:∀k,k<3→UR w g1 k) (h2:∀k,k<3→UR w g2 k) :
  Calls Tryz.prog 12 #[.slice (some ⟨g1,0,none⟩) 3 c1,.slice (some ⟨g2,0,none⟩) 3 c2] w fun r w'=>r=.returned (.bool true)∧Bw w w':=by
 have H1:=zAb h1;have H2:=zAb h2;clear h1 h2;go_enter Tryz.func12,Tryz.ntmps12
 go_wp2_with fail
 go_loopw [5] (fun s3 wr=>∃(k:Nat),k≤3∧s3=I (k:Int)∧Hid (Bw w wr)) (fun s3 _=>3 - (intOf s3).toNat)
 case atStart=>exact⟨0,by omega,rfl,Below.refl _ _⟩
 case round=>
  obtain⟨k,hk,rfl,HB⟩:=hrel
  by_cases hk8:k<3
  ·have hkI:(k:Int)<3:=by omega
   have hk0:(0:Int)≤(k:Int):=by omega
   have F1:=(un H1 k hk8).later (un HB) hg1;have F2:=(un H2 k hk8).later (un HB) hg2;have a0:wr.cell? ⟨g1,k*15,none⟩=some (.string (sct k).nm):=F1 0 _ rfl;have a1:wr.cell? ⟨g1,k*15+1,none⟩=some (.string (sct k).sy):=F1 1 _ rfl;have a2:wr.cell? ⟨g1,k*15+2,none⟩=some (I 0):=F1 2 _ rfl;have a3:wr.cell? ⟨g1,k*15+3,none⟩=some (I 0):=F1 3 _ rfl;have a4:wr.cell? ⟨g1,k*15+4,none⟩=some (I 0):=F1 4 _ rfl;have a5:wr.cell? ⟨g1,k*15+5,none⟩=some (I 0):=F1 5 _ rfl;have a6:wr.cell? ⟨g1,k*15+6,none⟩=some (I 1):=F1 6 _ rfl;have a7:wr.cell? ⟨g1,k*15+7,none⟩=some (I 0):=F1 7 _ rfl;have a8:wr.cell? ⟨g1,k*15+8,none⟩=some (I 0):=F1 8 _ rfl;have a9:wr.cell? ⟨g1,k*15+9,none⟩=some (I 0):=F1 9 _ rfl;have a10:wr.cell? ⟨g1,k*15+10,none⟩=some (.string (mfn k)):=F1 10 _ rfl;have a11:wr.cell? ⟨g1,k*15+11,none⟩=some (.string (mfd k)):=F1 11 _ rfl;have a12:wr.cell? ⟨g1,k*15+12,none⟩=some (.string (mon k)):=F1 12 _ rfl;have a13:wr.cell? ⟨g1,k*15+13,none⟩=some (.string (mod k)):=F1 13 _ rfl;have a14:wr.cell? ⟨g1,k*15+14,none⟩=some (I 0):=F1 14 _ rfl;have b0:wr.cell? ⟨g2,k*15,none⟩=some (.string (sct k).nm):=F2 0 _ rfl;have b1:wr.cell? ⟨g2,k*15+1,none⟩=some (.string (sct k).sy):=F2 1 _ rfl;have b2:wr.cell? ⟨g2,k*15+2,none⟩=some (I 0):=F2 2 _ rfl;have b3:wr.cell? ⟨g2,k*15+3,none⟩=some (I 0):=F2 3 _ rfl;have b4:wr.cell? ⟨g2,k*15+4,none⟩=some (I 0):=F2 4 _ rfl;have b5:wr.cell? ⟨g2,k*15+5,none⟩=some (I 0):=F2 5 _ rfl;have b6:wr.cell? ⟨g2,k*15+6,none⟩=some (I 1):=F2 6 _ rfl;have b7:wr.cell? ⟨g2,k*15+7,none⟩=some (I 0):=F2 7 _ rfl;have b8:wr.cell? ⟨g2,k*15+8,none⟩=some (I 0):=F2 8 _ rfl;have b9:wr.cell? ⟨g2,k*15+9,none⟩=some (I 0):=F2 9 _ rfl;have b10:wr.cell? ⟨g2,k*15+10,none⟩=some (.string (mfn k)):=F2 10 _ rfl;have b11:wr.cell? ⟨g2,k*15+11,none⟩=some (.string (mfd k)):=F2 11 _ rfl;have b12:wr.cell? ⟨g2,k*15+12,none⟩=some (.string (mon k)):=F2 12 _ rfl;have b13:wr.cell? ⟨g2,k*15+13,none⟩=some (.string (mod k)):=F2 13 _ rfl;have b14:wr.cell? ⟨g2,k*15+14,none⟩=some (I 0):=F2 14 _ rfl;clear F1 F2;have hne:=neqU (sct k).nm (sct k).sy (mfn k) (mfd k) (mon k) (mod k) 0 0 0 0 1 0 0 0 0;generalize (sct k).nm=nm at *
   generalize (sct k).sy=sy at *
   generalize (mfn k)=fn at *
   generalize (mfd k)=fd at *
   generalize (mon k)=on at *
   generalize (mod k)=od at *
   go_wp2_with fail
   go_quiet (fail)
   go_wp2_with fail
   go_roundw
   case rel=>exact⟨k+1,by omega,by go_num,below_drewN (un HB) _⟩
   case measure=>simp[intOf];omega
  ·have hkI:¬(k:Int)<3:=by omega
   go_wp2_with fail
   go_ret
   exact⟨rfl,un HB⟩
theorem own_units {W:World} {base:Nat} {v:Value} (h:W.ownsRow base 30 15 v 3 (flatU (usM 3) 3)):∃g cap,v=.slice (some ⟨g,0,none⟩) 3 cap∧base≤g∧g<W.heap.size∧(∀k,k<3→UR W g k)∧(∀o,W.frozen? ⟨g,o,none⟩=false):=by
 obtain⟨g,cap,rfl⟩:=Joins.ownsRow_form h (by decide);have hl:=h.lt g rfl;refine⟨g,cap,rfl,hl.1,hl.2,fun k hk=>flat_at h k hk,?_⟩;intro o;obtain⟨_,h2⟩:=h;rcases h2 with ⟨h2,_⟩|⟨g',cap',cur,e,_,hg,_⟩
 ·cases h2
 ·cases e
  simp[World.frozen?,hg]
structure zDj (W:World) (g:Nat):Prop where
 c:∀k,k<3→∃u,W.cell? ⟨g,k*15,none⟩=some u
 f:∀o,W.frozen? ⟨g,o,none⟩=false
theorem zDj.set {W:World} {g:Nat} (h:zDj W g) (k:Nat) (hk:k<3) (u:Value):zDj (W.setCell ⟨g,k*15,none⟩ u) g:=by
 refine⟨fun j hj=>?_,fun o=>by rw[World.frozen?_setCell];exact h.f o⟩
 by_cases e:j=k
 ·subst e
  obtain⟨x,hx⟩:=h.c j hj;exact⟨u,World.cell?_setCell_same _ _ _ hx⟩
 ·obtain⟨x,hx⟩:=h.c j hj
  exact⟨x,by rw[World.cell?_setCell_other _ _ _ _ (by intro e2;simp only[Addr.mk.injEq]at e2;omega)];exact hx⟩
theorem zDj.later {W V:World} {g:Nat} (h:zDj W g) (hg:g<W.heap.size) (hb:Below W.heap.size W V):zDj V g :=
 ⟨fun k hk=>by obtain⟨u,hu⟩:=h.c k hk;exact⟨u,(hb.cell (p:=⟨g,k*15,none⟩) hg).trans hu⟩,fun o=>(hb.frozen (p:=⟨g,o,none⟩) hg).trans (h.f o)⟩
theorem stands_any (w:World) (htab:Tab w):Calls Tryz.prog 6 #[] w fun r w'=>r=.returned (.bool true)∧Bw w w':=by
 have HTW:=zAb htab;clear htab;go_enter Tryz.func6,Tryz.ntmps6
 go_wp2_with (first
  | (go_at_call 17;go_must(refine(tmUnits _ (un HTW)).mono ?_;rintro e wa ⟨va,rfl,hoa,hba⟩;obtain⟨gwa,cwa,rfl,hga0,hga1,hfa,hza⟩:=own_units hoa;have HBA:=zAb hba;have HFA:=zAb hfa;have HZA:=zAb hza;have HGA:=zAb (And.intro hga0 hga1);clear hba hfa hza hga0 hga1 hoa))
  | (go_at_call 18;go_must(refine(refUnitsM _).mono ?_;rintro e wb ⟨wz,rfl,hob,hbz⟩;have HBB:Hid (Bw wa wb):=(by rw[hob];exact hbz.alloc hbz.size _);have HFB:Hid (∀k,k<3→UR wb wz.heap.size k):=(fun k hk=>by rw[hob];exact uAllM_at wz k hk);have HGB:Hid (wz.heap.size<wb.heap.size):=(by show _<_;rw[hob];simp);clear hob hbz;generalize wz.heap.size=gwb at *))
  | (go_at_call 12;go_must(refine(zHd _ gwa cwa gwb 3 (Nat.lt_of_lt_of_le (un HGA).2 (un HBB).size) (un HGB) (fun k hk=>(un HFA k hk).later (un HBB) (un HGA).2) (un HFB)).mono ?_;rintro e wc ⟨rfl,hbc⟩;have HBC:=zAb hbc;clear hbc)))
 have HW:Hid (Bw wa wc):=(un HBB).trans ((un HBC).mono (un HBB).size);have HWC:Hid (Bw w wc):=(un HBA).trans ((un HW).mono (un HBA).size);have HS:Hid (zDj wc gwa):=(zDj.mk (fun k hk=>⟨_,un HFA k hk 0 _ rfl⟩) (un HZA)).later (un HGA).2 (un HW);have HGG:Hid (w.heap.size≤gwa):=(un HGA).1;clear HFA HFB HGB HBB HBC HZA HGA HBA HW
 go_loopw [10] (fun s2 wr=>∃(k:Nat),k≤3∧s2=I (k:Int)∧Hid (zDj wr gwa)∧Hid (Bw w wr)) (fun s2 _=>3 - (intOf s2).toNat)
 case atStart=>exact⟨0,by omega,rfl,HS,HWC⟩
 case round=>
  obtain⟨k,hk,rfl,HSP,HB⟩:=hrel
  by_cases hk8:k<3
  ·have hkI:(k:Int)<3:=by omega
   have hk0:(0:Int)≤(k:Int):=by omega
   obtain⟨u,hu⟩:=(un HSP).c k hk8;have hf:=(un HSP).f (k*15)
   go_wp2_with fail
   go_roundw
   case rel=>exact⟨k+1,by omega,by go_num,(un HSP).set k hk8 _,(un HB).setCell (p:=⟨gwa,k*15,none⟩) (un HGG) _⟩
   case measure=>simp[intOf];omega
  ·have hkI:¬(k:Int)<3:=by omega
   go_wp2_with (first
  | (go_at_call 17;go_must(refine(tmUnits _ ((un HTW).later (un HB))).mono ?_;rintro e wd ⟨va,rfl,hoa,hba⟩;obtain⟨gwd,cwd,rfl,hga0,hga1,hfa,hza⟩:=own_units hoa;have HBA:=zAb hba;have HFA:=zAb hfa;have HZA:=zAb hza;have HGA:=zAb (And.intro hga0 hga1);clear hba hfa hza hga0 hga1 hoa))
  | (go_at_call 18;go_must(refine(refUnitsM _).mono ?_;rintro e we ⟨wz,rfl,hob,hbz⟩;have HBB:Hid (Bw wd we):=(by rw[hob];exact hbz.alloc hbz.size _);have HFB:Hid (∀k,k<3→UR we wz.heap.size k):=(fun k hk=>by rw[hob];exact uAllM_at wz k hk);have HGB:Hid (wz.heap.size<we.heap.size):=(by show _<_;rw[hob];simp);clear hob hbz;generalize wz.heap.size=gwe at *))
  | (go_at_call 12;go_must(refine(zHd _ gwd cwd gwe 3 (Nat.lt_of_lt_of_le (un HGA).2 (un HBB).size) (un HGB) (fun k hk=>(un HFA k hk).later (un HBB) (un HGA).2) (un HFB)).mono ?_;rintro e wf ⟨rfl,hbc⟩;have HBC:=zAb hbc;clear hbc;have HWF:Hid (Bw w wf):=(un HB).trans (((un HBA).trans (((un HBB).trans ((un HBC).mono (un HBB).size)).mono (un HBA).size)).mono (un HB).size)))
  | (go_at_call 19;go_must(refine(awake_any _ ((un HTW).later (un HWF))).mono ?_;rintro e wg ⟨rfl,hbg⟩;have HBG:=zAb hbg;clear hbg)))
   go_ret
   exact⟨rfl,(un HWF).trans ((un HBG).mono (un HWF).size)⟩
end Go.Proofs.YtliadckofhblnaaGreatDoor.Tm

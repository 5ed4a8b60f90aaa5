/- The law's same (24); NatureStands (8): what stands when main begins. -/
import Derived.Test.YtliadckofhblnaaGreatDoorLimb3
import Derived.Test.YtliadckofhblnaaGreatDoorNt17
import Derived.Test.YtliadckofhblnaaGreatDoorEqU
import Derived.Test.YtliadckofhblnaaGreatDoorNtA2
import Derived.BigQuiet
set_option maxHeartbeats 4000000
set_option maxRecDepth 100000
namespace Go.Proofs.YtliadckofhblnaaGreatDoor.Nt
open Go.RowKit
theorem fieldsC:∃f0 f1 f2 f3 f4,(Tryz.prog.fieldsOf 45).toList=[f0,f1,f2,f3,f4]∧(f0.type=9∧f0.offset=0∧f0.name≠"_")∧(f1.type=9∧f1.offset=1∧f1.name≠"_")∧(f2.type=28∧f2.offset=2∧f2.name≠"_")∧(f3.type=28∧f3.offset=4∧f3.name≠"_")∧(f4.type=9∧f4.offset=6∧f4.name≠"_"):=by
 unfold Program.fieldsOf;rw[Tryz.underlying45];exact⟨_,_,_,_,_,rfl,⟨rfl,rfl,by decide +kernel⟩,⟨rfl,rfl,by decide +kernel⟩,⟨rfl,rfl,by decide +kernel⟩,⟨rfl,rfl,by decide +kernel⟩,⟨rfl,rfl,by decide +kernel⟩⟩
section
variable (a0 a1 a2 a3 a4 a5 a6:ByteArray)
theorem eqC (w:World):(Op.equalIn 10000 45 (.agg #[.string a0,.string a1,.string a2,.string a3,.string a4,.string a5,.string a6]) (.agg #[.string a0,.string a1,.string a2,.string a3,.string a4,.string a5,.string a6])).run Tryz.prog w=.ok true w:=by
 rw[show(10000:Nat)=9999+1 from rfl,run_equalIn_struct w 9999 45 _ _ (by kernel_rfl) (by kernel_rfl)];obtain⟨f0,f1,f2,f3,f4,hf,⟨t0,o0,n0⟩,⟨t1,o1,n1⟩,⟨t2,o2,n2⟩,⟨t3,o3,n3⟩,⟨t4,o4,n4⟩⟩:=fieldsC;rw[hf];have p0:∀w:World,(part 9 #[.string a0,.string a1,.string a2,.string a3,.string a4,.string a5,.string a6] 0).run Tryz.prog w=.ok (.string a0) w:=fun _=>by kernel_rfl
 have p1:∀w:World,(part 9 #[.string a0,.string a1,.string a2,.string a3,.string a4,.string a5,.string a6] 1).run Tryz.prog w=.ok (.string a1) w:=fun _=>by kernel_rfl
 have p2:∀w:World,(part 28 #[.string a0,.string a1,.string a2,.string a3,.string a4,.string a5,.string a6] 2).run Tryz.prog w=.ok (.agg #[.string a2,.string a3]) w:=fun _=>by kernel_rfl
 have p3:∀w:World,(part 28 #[.string a0,.string a1,.string a2,.string a3,.string a4,.string a5,.string a6] 4).run Tryz.prog w=.ok (.agg #[.string a4,.string a5]) w:=fun _=>by kernel_rfl
 have p4:∀w:World,(part 9 #[.string a0,.string a1,.string a2,.string a3,.string a4,.string a5,.string a6] 6).run Tryz.prog w=.ok (.string a6) w:=fun _=>by kernel_rfl
 have e:=fun w a b=>run_equalIn_string (P:=Tryz.prog) w 9998 9 a b Tryz.underlying9
 have eq1:=eqQ a2 a3 9997;have eq2:=eqQ a4 a5 9997;simp only[Op.eqFields,n0,n1,n2,n3,n4,t0,t1,t2,t3,t4,o0,o1,o2,o3,o4,Sem.run_bind,p0,p1,p2,p3,p4,Result.andThen_ok,e,eq1,eq2,Sem.run_ite,Sem.run_pure,ne_eq,not_false_eq_true,if_true];simp
end
theorem FindC.shape {s:ByteArray} {v:Value} (h:FindC s v):∃(a0 a1 a2 a3 a4 a5 a6:ByteArray) (ok:Bool),v=.tuple #[.agg #[.string a0,.string a1,.string a2,.string a3,.string a4,.string a5,.string a6],.bool ok]:=by
 rcases h with ⟨k,hk,_,rfl⟩|⟨_,rfl⟩
 ·obtain⟨_,_,_,_,_,_,_,e⟩:=zDs k hk
  exact⟨_,_,_,_,_,_,_,_,by rw[e]⟩
 ·exact⟨_,_,_,_,_,_,_,_,rfl⟩
theorem flat_all:zHq (usC 13) 13=cAll.toList:=by kernel_rfl
theorem flat_at {W:World} {base g cap:Nat} (h:W.ownsRow base 45 7 (.slice (some ⟨g,0,none⟩) 13 cap) 13 (zHq (usC 13) 13)) (k:Nat) (hk:k<13):CR W g k:=fun i v e=>by
 have hi:i<7:=by have:=(Array.getElem?_eq_some_iff.1 e).1;rw[cT_size k hk]at this;exact this
 rw[h.cellAt (k*7+i) (by omega),flat_all]
 simpa using cAll_row k hk i v e
theorem drewN_b {B:Nat} {a w:World} (h:Below B a w) (q:Nat):Below B a (w.drewN q):=⟨h.os,h.tape,h.output,h.size,h.block⟩
theorem neqC (x0 x1 x2 x3 x4 x5 x6:ByteArray) (w:World):(binOp .neq 45 (.agg #[.string x0,.string x1,.string x2,.string x3,.string x4,.string x5,.string x6]) (.agg #[.string x0,.string x1,.string x2,.string x3,.string x4,.string x5,.string x6])).run Tryz.prog w=.ok (.bool false) w:=by
 rw[run_neq_struct,eqC]
 rfl
theorem zHd (w:World) (g1 c1 g2 c2:Nat) (hg1:g1<w.heap.size) (hg2:g2<w.heap.size) (h1:∀k,k<13→CR w g1 k) (h2:∀k,k<13→CR w g2 k) :
  Calls Tryz.prog 24 #[.slice (some ⟨g1,0,none⟩) 13 c1,.slice (some ⟨g2,0,none⟩) 13 c2] w fun r w'=>r=.returned (.bool true)∧Bw w w':=by
 have H1:=zAb h1;have H2:=zAb h2;clear h1 h2;go_enter Tryz.func24,Tryz.ntmps24
 go_wp2_with fail
 go_loopw [5] (fun s3 wr=>∃(k:Nat),k≤13∧s3=I (k:Int)∧Hid (Bw w wr)) (fun s3 _=>13 - (intOf s3).toNat)
 case atStart=>exact⟨0,by omega,rfl,Below.refl _ _⟩
 case round=>
  obtain⟨k,hk,rfl,HB⟩:=hrel
  by_cases hk8:k<13
  ·have hkI:(k:Int)<13:=by omega
   have hk0:(0:Int)≤(k:Int):=by omega
   obtain⟨x0,x1,x2,x3,x4,x5,x6,hct⟩:=zDs k hk8;have F1:=(un H1 k hk8).later (un HB) hg1;have F2:=(un H2 k hk8).later (un HB) hg2;unfold CR at F1 F2
   rw[hct]at F1 F2;clear hct;have a0:wr.cell? ⟨g1,k*7,none⟩=some (.string x0):=F1 0 _ rfl;have a1:wr.cell? ⟨g1,k*7+1,none⟩=some (.string x1):=F1 1 _ rfl;have a2:wr.cell? ⟨g1,k*7+2,none⟩=some (.string x2):=F1 2 _ rfl;have a3:wr.cell? ⟨g1,k*7+3,none⟩=some (.string x3):=F1 3 _ rfl;have a4:wr.cell? ⟨g1,k*7+4,none⟩=some (.string x4):=F1 4 _ rfl;have a5:wr.cell? ⟨g1,k*7+5,none⟩=some (.string x5):=F1 5 _ rfl;have a6:wr.cell? ⟨g1,k*7+6,none⟩=some (.string x6):=F1 6 _ rfl;have b0:wr.cell? ⟨g2,k*7,none⟩=some (.string x0):=F2 0 _ rfl;have b1:wr.cell? ⟨g2,k*7+1,none⟩=some (.string x1):=F2 1 _ rfl;have b2:wr.cell? ⟨g2,k*7+2,none⟩=some (.string x2):=F2 2 _ rfl;have b3:wr.cell? ⟨g2,k*7+3,none⟩=some (.string x3):=F2 3 _ rfl;have b4:wr.cell? ⟨g2,k*7+4,none⟩=some (.string x4):=F2 4 _ rfl;have b5:wr.cell? ⟨g2,k*7+5,none⟩=some (.string x5):=F2 5 _ rfl;have b6:wr.cell? ⟨g2,k*7+6,none⟩=some (.string x6):=F2 6 _ rfl;clear F1 F2;have hne:=neqC x0 x1 x2 x3 x4 x5 x6
   go_wp2_with fail
   go_quiet (fail)
   go_wp2_with fail
   go_roundw
   case rel=>exact⟨k+1,by omega,by go_num,drewN_b (un HB) _⟩
   case measure=>simp[intOf];omega
  ·have hkI:¬(k:Int)<13:=by omega
   go_wp2_with fail
   go_ret
   exact⟨rfl,un HB⟩
theorem first_of {W:World} {g k:Nat} (h:CR W g k) (hk:k<13):∃u,W.cell? ⟨g,k*7,none⟩=some u:=by
 obtain⟨x0,x1,x2,x3,x4,x5,x6,hct⟩:=zDs k hk;exact⟨_,h 0 (.string x0) (by rw[hct];rfl)⟩
theorem own_consts {W:World} {base:Nat} {v:Value} (h:W.ownsRow base 45 7 v 13 (zHq (usC 13) 13)):∃g cap,v=.slice (some ⟨g,0,none⟩) 13 cap∧base≤g∧g<W.heap.size∧(∀k,k<13→CR W g k)∧(∀o,W.frozen? ⟨g,o,none⟩=false):=by
 obtain⟨g,cap,rfl⟩:=Joins.ownsRow_form h (by decide);have hl:=h.lt g rfl;refine⟨g,cap,rfl,hl.1,hl.2,fun k hk=>flat_at h k hk,?_⟩;intro o;obtain⟨_,h2⟩:=h;rcases h2 with ⟨h2,_⟩|⟨g',cap',cur,e,_,hg,_⟩
 ·cases h2
 ·cases e
  simp[World.frozen?,hg]
structure zDj (W:World) (g:Nat):Prop where
 c:∀k,k<13→∃u,W.cell? ⟨g,k*7,none⟩=some u
 f:∀o,W.frozen? ⟨g,o,none⟩=false
theorem zDj.set {W:World} {g:Nat} (h:zDj W g) (k:Nat) (hk:k<13) (u:Value):zDj (W.setCell ⟨g,k*7,none⟩ u) g:=by
 refine⟨fun j hj=>?_,fun o=>by rw[World.frozen?_setCell];exact h.f o⟩
 by_cases e:j=k
 ·subst e
  obtain⟨x,hx⟩:=h.c j hj;exact⟨u,World.cell?_setCell_same _ _ _ hx⟩
 ·obtain⟨x,hx⟩:=h.c j hj
  exact⟨x,by rw[World.cell?_setCell_other _ _ _ _ (by intro e2;simp only[Addr.mk.injEq]at e2;omega)];exact hx⟩
theorem zDj.later {W V:World} {g:Nat} (h:zDj W g) (hg:g<W.heap.size) (hb:Below W.heap.size W V):zDj V g :=
 ⟨fun k hk=>by obtain⟨u,hu⟩:=h.c k hk;exact⟨u,(hb.cell (p:=⟨g,k*7,none⟩) hg).trans hu⟩,fun o=>(hb.frozen (p:=⟨g,o,none⟩) hg).trans (h.f o)⟩
theorem stands_any (w:World) (hsp:Spc w) (htab:Tab w):Calls Tryz.prog 8 #[] w fun r w'=>r=.returned (.bool true)∧Bw w w':=by
 have HTW:=zAb htab;have HSW:=zAb hsp;clear htab hsp;go_enter Tryz.func8,Tryz.ntmps8
 go_wp2_with (first
  | (go_at_call 23;go_must(refine(natAll _ (un HSW) (un HTW)).mono ?_;rintro e wa ⟨va,rfl,hoa,hba⟩;obtain⟨gwa,cwa,rfl,hga0,hga1,hfa,hza⟩:=own_consts hoa;have HBA:=zAb hba;have HFA:=zAb hfa;have HZA:=zAb hza;have HGA:=zAb (And.intro hga0 hga1);clear hba hfa hza hga0 hga1 hoa))
  | (go_at_call 25;go_must(refine(refAll _).mono ?_;rintro e wb ⟨wz,rfl,hob,hbz⟩;have HBB:Hid (Bw wa wb):=(by rw[hob];exact hbz.alloc hbz.size _);have HFB:Hid (∀k,k<13→CR wb wz.heap.size k):=(fun k hk=>by rw[hob];exact cAll_at wz k hk);have HGB:Hid (wz.heap.size<wb.heap.size):=(by show _<_;rw[hob];simp);clear hob hbz;generalize wz.heap.size=gwb at *))
  | (go_at_call 24;go_must(refine(zHd _ gwa cwa gwb 13 (Nat.lt_of_lt_of_le (un HGA).2 (un HBB).size) (un HGB) (fun k hk=>(un HFA k hk).later (un HBB) (un HGA).2) (un HFB)).mono ?_;rintro e wc ⟨rfl,hbc⟩;have HBC:=zAb hbc;clear hbc)))
 have HW:Hid (Bw wa wc):=(un HBB).trans ((un HBC).mono (un HBB).size);have HWC:Hid (Bw w wc):=(un HBA).trans ((un HW).mono (un HBA).size);have HS:Hid (zDj wc gwa):=(zDj.mk (fun k hk=>first_of (un HFA k hk) hk) (un HZA)).later (un HGA).2 (un HW);have HGG:Hid (w.heap.size≤gwa):=(un HGA).1;clear HFA HFB HGB HBB HBC HZA HGA HBA HW
 go_loopw [2] (fun s2 wr=>∃(k:Nat),k≤13∧s2=I (k:Int)∧Hid (zDj wr gwa)∧Hid (Bw w wr)) (fun s2 _=>13 - (intOf s2).toNat)
 case atStart=>exact⟨0,by omega,rfl,HS,HWC⟩
 case round=>
  obtain⟨k,hk,rfl,HSP,HB⟩:=hrel
  by_cases hk8:k<13
  ·have hkI:(k:Int)<13:=by omega
   have hk0:(0:Int)≤(k:Int):=by omega
   obtain⟨u,hu⟩:=(un HSP).c k hk8;have hf:=(un HSP).f (k*7)
   go_wp2_with fail
   go_roundw
   case rel=>exact⟨k+1,by omega,by go_num,(un HSP).set k hk8 _,(un HB).setCell (p:=⟨gwa,k*7,none⟩) (un HGG) _⟩
   case measure=>simp[intOf];omega
  ·have hkI:¬(k:Int)<13:=by omega
   go_wp2_with (first
  | (go_at_call 23;go_must(refine(natAll _ ((un HSW).later (un HB)) ((un HTW).later (un HB))).mono ?_;rintro e wd ⟨va,rfl,hoa,hba⟩;obtain⟨gwd,cwd,rfl,hga0,hga1,hfa,hza⟩:=own_consts hoa;have HBA:=zAb hba;have HFA:=zAb hfa;have HZA:=zAb hza;have HGA:=zAb (And.intro hga0 hga1);clear hba hfa hza hga0 hga1 hoa))
  | (go_at_call 25;go_must(refine(refAll _).mono ?_;rintro e we ⟨wz,rfl,hob,hbz⟩;have HBB:Hid (Bw wd we):=(by rw[hob];exact hbz.alloc hbz.size _);have HFB:Hid (∀k,k<13→CR we wz.heap.size k):=(fun k hk=>by rw[hob];exact cAll_at wz k hk);have HGB:Hid (wz.heap.size<we.heap.size):=(by show _<_;rw[hob];simp);clear hob hbz;generalize wz.heap.size=gwe at *))
  | (go_at_call 24;go_must(refine(zHd _ gwd cwd gwe 13 (Nat.lt_of_lt_of_le (un HGA).2 (un HBB).size) (un HGB) (fun k hk=>(un HFA k hk).later (un HBB) (un HGA).2) (un HFB)).mono ?_;rintro e wf ⟨rfl,hbc⟩;have HBC:=zAb hbc;clear hbc)))
   go_ret
   have h1:Below wr.heap.size wr wf:=(un HBA).trans (((un HBB).trans ((un HBC).mono (un HBB).size)).mono (un HBA).size);exact⟨rfl,bt HB h1⟩
end Go.Proofs.YtliadckofhblnaaGreatDoor.Nt

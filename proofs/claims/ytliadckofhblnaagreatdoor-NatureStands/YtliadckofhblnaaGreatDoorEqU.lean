/- A unit held against itself. -/
import Derived.Test.YtliadckofhblnaaGreatDoorLimb3
import Derived.Test.YtliadckofhblnaaGreatDoorUnit2
import Derived.ChangeKeysEq
import Derived.Laws.StructEq
namespace Go.Proofs.YtliadckofhblnaaGreatDoor
open Go.RowKit
theorem info3U:∃i,Tryz.prog.info? 3=some i:=Option.isSome_iff_exists.1 (by kernel_rfl)
theorem cells3U:Tryz.prog.cellsOf 3=1:=by kernel_rfl
section
variable (nm sy:ByteArray) (d0 d1 d2 d3 d4 d5 d6 d7:Int) (fn fd on od:ByteArray) (tk:Int)
theorem eqD (d:Nat) (w:World):(Op.equalIn (d+2) 26 (.agg #[I d0,I d1,I d2,I d3,I d4,I d5,I d6,I d7]) (.agg #[I d0,I d1,I d2,I d3,I d4,I d5,I d6,I d7])).run Tryz.prog w=.ok true w:=by
 obtain⟨inf,hinf⟩:=info3U;rw[show d+2=(d+1)+1 from rfl,run_equalIn_array w (d+1) _ _ Tryz.underlying26 hinf,cells3U,show List.range 8=[0,1,2,3,4,5,6,7]from rfl];have p0:∀w:World,(part 3 #[I d0,I d1,I d2,I d3,I d4,I d5,I d6,I d7] (0*1)).run Tryz.prog w=.ok (I d0) w:=fun _=>by kernel_rfl
 have p1:∀w:World,(part 3 #[I d0,I d1,I d2,I d3,I d4,I d5,I d6,I d7] (1*1)).run Tryz.prog w=.ok (I d1) w:=fun _=>by kernel_rfl
 have p2:∀w:World,(part 3 #[I d0,I d1,I d2,I d3,I d4,I d5,I d6,I d7] (2*1)).run Tryz.prog w=.ok (I d2) w:=fun _=>by kernel_rfl
 have p3:∀w:World,(part 3 #[I d0,I d1,I d2,I d3,I d4,I d5,I d6,I d7] (3*1)).run Tryz.prog w=.ok (I d3) w:=fun _=>by kernel_rfl
 have p4:∀w:World,(part 3 #[I d0,I d1,I d2,I d3,I d4,I d5,I d6,I d7] (4*1)).run Tryz.prog w=.ok (I d4) w:=fun _=>by kernel_rfl
 have p5:∀w:World,(part 3 #[I d0,I d1,I d2,I d3,I d4,I d5,I d6,I d7] (5*1)).run Tryz.prog w=.ok (I d5) w:=fun _=>by kernel_rfl
 have p6:∀w:World,(part 3 #[I d0,I d1,I d2,I d3,I d4,I d5,I d6,I d7] (6*1)).run Tryz.prog w=.ok (I d6) w:=fun _=>by kernel_rfl
 have p7:∀w:World,(part 3 #[I d0,I d1,I d2,I d3,I d4,I d5,I d6,I d7] (7*1)).run Tryz.prog w=.ok (I d7) w:=fun _=>by kernel_rfl
 have e:=fun w a b=>run_equalIn_int (P:=Tryz.prog) w d 3 .i64 .i64 a b Tryz.underlying3
 simp only[Op.eqItems,Sem.run_bind,p0,p1,p2,p3,p4,p5,p6,p7,Result.andThen_ok,e,Sem.run_ite,Sem.run_pure];simp
theorem fieldsQ:∃f0 f1,(Tryz.prog.fieldsOf 28).toList=[f0,f1]∧f0.type=9∧f0.offset=0∧f0.name≠"_"∧f1.type=9∧f1.offset=1∧f1.name≠"_":=by
 unfold Program.fieldsOf;rw[Tryz.underlying28];exact⟨_,_,rfl,rfl,rfl,by decide +kernel,rfl,rfl,by decide +kernel⟩
theorem eqQ (d:Nat) (w:World):(Op.equalIn (d+2) 28 (.agg #[.string fn,.string fd]) (.agg #[.string fn,.string fd])).run Tryz.prog w=.ok true w:=by
 rw[show d+2=(d+1)+1 from rfl,run_equalIn_struct w (d+1) 28 _ _ (by kernel_rfl) (by kernel_rfl)];obtain⟨f0,f1,hf,t0,o0,n0,t1,o1,n1⟩:=fieldsQ;rw[hf];have p0:∀w:World,(part 9 #[.string fn,.string fd] 0).run Tryz.prog w=.ok (.string fn) w:=fun _=>by kernel_rfl
 have p1:∀w:World,(part 9 #[.string fn,.string fd] 1).run Tryz.prog w=.ok (.string fd) w:=fun _=>by kernel_rfl
 have e:=fun w a b=>run_equalIn_string (P:=Tryz.prog) w d 9 a b Tryz.underlying9
 simp only[Op.eqFields,n0,n1,t0,t1,o0,o1,Sem.run_bind,p0,p1,Result.andThen_ok,e,Sem.run_ite,Sem.run_pure,ne_eq,not_false_eq_true,if_true];simp
theorem fieldsU:∃f0 f1 f2 f3 f4 f5,(Tryz.prog.fieldsOf 30).toList=[f0,f1,f2,f3,f4,f5]∧(f0.type=9∧f0.offset=0∧f0.name≠"_")∧(f1.type=9∧f1.offset=1∧f1.name≠"_")∧(f2.type=26∧f2.offset=2∧f2.name≠"_")∧(f3.type=28∧f3.offset=10∧f3.name≠"_")∧(f4.type=28∧f4.offset=12∧f4.name≠"_")∧(f5.type=3∧f5.offset=14∧f5.name≠"_"):=by
 unfold Program.fieldsOf;rw[Tryz.underlying30];exact⟨_,_,_,_,_,_,rfl,⟨rfl,rfl,by decide +kernel⟩,⟨rfl,rfl,by decide +kernel⟩,⟨rfl,rfl,by decide +kernel⟩,⟨rfl,rfl,by decide +kernel⟩,⟨rfl,rfl,by decide +kernel⟩,⟨rfl,rfl,by decide +kernel⟩⟩
theorem eqU (w:World):(Op.equalIn 10000 30 (.agg #[.string nm,.string sy,I d0,I d1,I d2,I d3,I d4,I d5,I d6,I d7,.string fn,.string fd,.string on,.string od,I tk]) (.agg #[.string nm,.string sy,I d0,I d1,I d2,I d3,I d4,I d5,I d6,I d7,.string fn,.string fd,.string on,.string od,I tk])).run Tryz.prog w=.ok true w:=by
 rw[show(10000:Nat)=9999+1 from rfl,run_equalIn_struct w 9999 30 _ _ (by kernel_rfl) (by kernel_rfl)];obtain⟨f0,f1,f2,f3,f4,f5,hf,⟨t0,o0,n0⟩,⟨t1,o1,n1⟩,⟨t2,o2,n2⟩,⟨t3,o3,n3⟩,⟨t4,o4,n4⟩,⟨t5,o5,n5⟩⟩:=fieldsU;rw[hf];have p0:∀w:World,(part 9 #[.string nm,.string sy,I d0,I d1,I d2,I d3,I d4,I d5,I d6,I d7,.string fn,.string fd,.string on,.string od,I tk] 0).run Tryz.prog w=.ok (.string nm) w:=fun _=>by kernel_rfl
 have p1:∀w:World,(part 9 #[.string nm,.string sy,I d0,I d1,I d2,I d3,I d4,I d5,I d6,I d7,.string fn,.string fd,.string on,.string od,I tk] 1).run Tryz.prog w=.ok (.string sy) w:=fun _=>by kernel_rfl
 have p2:∀w:World,(part 26 #[.string nm,.string sy,I d0,I d1,I d2,I d3,I d4,I d5,I d6,I d7,.string fn,.string fd,.string on,.string od,I tk] 2).run Tryz.prog w=.ok (.agg #[I d0,I d1,I d2,I d3,I d4,I d5,I d6,I d7]) w:=fun _=>by kernel_rfl
 have p3:∀w:World,(part 28 #[.string nm,.string sy,I d0,I d1,I d2,I d3,I d4,I d5,I d6,I d7,.string fn,.string fd,.string on,.string od,I tk] 10).run Tryz.prog w=.ok (.agg #[.string fn,.string fd]) w:=fun _=>by kernel_rfl
 have p4:∀w:World,(part 28 #[.string nm,.string sy,I d0,I d1,I d2,I d3,I d4,I d5,I d6,I d7,.string fn,.string fd,.string on,.string od,I tk] 12).run Tryz.prog w=.ok (.agg #[.string on,.string od]) w:=fun _=>by kernel_rfl
 have p5:∀w:World,(part 3 #[.string nm,.string sy,I d0,I d1,I d2,I d3,I d4,I d5,I d6,I d7,.string fn,.string fd,.string on,.string od,I tk] 14).run Tryz.prog w=.ok (I tk) w:=fun _=>by kernel_rfl
 have e:=fun w a b=>run_equalIn_string (P:=Tryz.prog) w 9998 9 a b Tryz.underlying9
 have e3:=fun w a b=>run_equalIn_int (P:=Tryz.prog) w 9998 3 .i64 .i64 a b Tryz.underlying3
 have ed:=eqD d0 d1 d2 d3 d4 d5 d6 d7 9997;have eq1:=eqQ fn fd 9997;have eq2:=eqQ on od 9997;simp only[Op.eqFields,n0,n1,n2,n3,n4,n5,t0,t1,t2,t3,t4,t5,o0,o1,o2,o3,o4,o5,Sem.run_bind,p0,p1,p2,p3,p4,p5,Result.andThen_ok,e,e3,ed,eq1,eq2,Sem.run_ite,Sem.run_pure,ne_eq,not_false_eq_true,if_true];simp
end
end Go.Proofs.YtliadckofhblnaaGreatDoor

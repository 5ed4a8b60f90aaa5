/- A constant held against itself; NatureFinds: what nature.Find answers is what the document says, whatever the text. -/
import Derived.Test.YtliadckofhblnaaGreatDoorUnit2
import Derived.ChangeKeysEq
import Derived.Laws.StructEq
import Derived.Test.YtliadckofhblnaaGreatDoorNt17
namespace Go.Proofs.YtliadckofhblnaaGreatDoor
open Go.RowKit
section
variable (nm sy:ByteArray) (d0 d1 d2 d3 d4 d5 d6 d7:Int) (fn fd on od:ByteArray) (tk:Int)
theorem fieldsQ:∃f0 f1,(Tryz.prog.fieldsOf 28).toList=[f0,f1]∧f0.type=9∧f0.offset=0∧f0.name≠"_"∧f1.type=9∧f1.offset=1∧f1.name≠"_":=by
 unfold Program.fieldsOf
 rw[Tryz.underlying28]
 exact⟨_,_,rfl,rfl,rfl,by decide +kernel,rfl,rfl,by decide +kernel⟩
theorem eqQ (d:Nat) (w:World):(Op.equalIn (d+2) 28 (.agg #[.string fn,.string fd]) (.agg #[.string fn,.string fd])).run Tryz.prog w=.ok true w:=by
 rw[show d+2=(d+1)+1 from rfl,run_equalIn_struct w (d+1) 28 _ _ (by kernel_rfl) (by kernel_rfl)]
 obtain⟨f0,f1,hf,t0,o0,n0,t1,o1,n1⟩:=fieldsQ
 rw[hf]
 have p0:∀w:World,(part 9 #[.string fn,.string fd] 0).run Tryz.prog w=.ok (.string fn) w:=fun _=>by kernel_rfl
 have p1:∀w:World,(part 9 #[.string fn,.string fd] 1).run Tryz.prog w=.ok (.string fd) w:=fun _=>by kernel_rfl
 have e:=fun w a b=>run_equalIn_string (P:=Tryz.prog) w d 9 a b Tryz.underlying9
 simp only[Op.eqFields,n0,n1,t0,t1,o0,o1,Sem.run_bind,p0,p1,Result.andThen_ok,e,Sem.run_ite,Sem.run_pure,ne_eq,not_false_eq_true,if_true]
 simp
end
end Go.Proofs.YtliadckofhblnaaGreatDoor

namespace Go.Proofs.YtliadckofhblnaaGreatDoor.Nt
open Go.RowKit
theorem fieldsC:∃f0 f1 f2 f3 f4,(Tryz.prog.fieldsOf 45).toList=[f0,f1,f2,f3,f4]∧(f0.type=9∧f0.offset=0∧f0.name≠"_")∧(f1.type=9∧f1.offset=1∧f1.name≠"_")∧(f2.type=28∧f2.offset=2∧f2.name≠"_")∧(f3.type=28∧f3.offset=4∧f3.name≠"_")∧(f4.type=9∧f4.offset=6∧f4.name≠"_"):=by
 unfold Program.fieldsOf
 rw[Tryz.underlying45]
 exact⟨_,_,_,_,_,rfl,⟨rfl,rfl,by decide +kernel⟩,⟨rfl,rfl,by decide +kernel⟩,⟨rfl,rfl,by decide +kernel⟩,⟨rfl,rfl,by decide +kernel⟩,⟨rfl,rfl,by decide +kernel⟩⟩
section
variable (a0 a1 a2 a3 a4 a5 a6:ByteArray)
theorem eqC (w:World):(Op.equalIn 10000 45 (.agg #[.string a0,.string a1,.string a2,.string a3,.string a4,.string a5,.string a6]) (.agg #[.string a0,.string a1,.string a2,.string a3,.string a4,.string a5,.string a6])).run Tryz.prog w=.ok true w:=by
 rw[show(10000:Nat)=9999+1 from rfl,run_equalIn_struct w 9999 45 _ _ (by kernel_rfl) (by kernel_rfl)]
 obtain⟨f0,f1,f2,f3,f4,hf,⟨t0,o0,n0⟩,⟨t1,o1,n1⟩,⟨t2,o2,n2⟩,⟨t3,o3,n3⟩,⟨t4,o4,n4⟩⟩:=fieldsC
 rw[hf]
 have p0:∀w:World,(part 9 #[.string a0,.string a1,.string a2,.string a3,.string a4,.string a5,.string a6] 0).run Tryz.prog w=.ok (.string a0) w:=fun _=>by kernel_rfl
 have p1:∀w:World,(part 9 #[.string a0,.string a1,.string a2,.string a3,.string a4,.string a5,.string a6] 1).run Tryz.prog w=.ok (.string a1) w:=fun _=>by kernel_rfl
 have p2:∀w:World,(part 28 #[.string a0,.string a1,.string a2,.string a3,.string a4,.string a5,.string a6] 2).run Tryz.prog w=.ok (.agg #[.string a2,.string a3]) w:=fun _=>by kernel_rfl
 have p3:∀w:World,(part 28 #[.string a0,.string a1,.string a2,.string a3,.string a4,.string a5,.string a6] 4).run Tryz.prog w=.ok (.agg #[.string a4,.string a5]) w:=fun _=>by kernel_rfl
 have p4:∀w:World,(part 9 #[.string a0,.string a1,.string a2,.string a3,.string a4,.string a5,.string a6] 6).run Tryz.prog w=.ok (.string a6) w:=fun _=>by kernel_rfl
 have e:=fun w a b=>run_equalIn_string (P:=Tryz.prog) w 9998 9 a b Tryz.underlying9
 have eq1:=eqQ a2 a3 9997
 have eq2:=eqQ a4 a5 9997
 simp only[Op.eqFields,n0,n1,n2,n3,n4,t0,t1,t2,t3,t4,o0,o1,o2,o3,o4,Sem.run_bind,p0,p1,p2,p3,p4,Result.andThen_ok,e,eq1,eq2,Sem.run_ite,Sem.run_pure,ne_eq,not_false_eq_true,if_true]
 simp
theorem eqlC (w:World):(binOp .eql 45 (.agg #[.string a0,.string a1,.string a2,.string a3,.string a4,.string a5,.string a6]) (.agg #[.string a0,.string a1,.string a2,.string a3,.string a4,.string a5,.string a6])).run Tryz.prog w=.ok (.bool true) w:=by
 rw[run_eql_struct,eqC]
 rfl
end
theorem FindC.shape {s:ByteArray} {v:Value} (h:FindC s v):∃(a0 a1 a2 a3 a4 a5 a6:ByteArray) (ok:Bool),v=.tuple #[.agg #[.string a0,.string a1,.string a2,.string a3,.string a4,.string a5,.string a6],.bool ok]:=by
 rcases h with ⟨k,hk,_,rfl⟩|⟨_,rfl⟩
 ·obtain⟨_,_,_,_,_,_,_,e⟩:=cT_strings k hk
  exact⟨_,_,_,_,_,_,_,_,by rw[e]⟩
 ·exact⟨_,_,_,_,_,_,_,_,rfl⟩
theorem planck_found (w:World) (hsp:Spc w) (htab:Tab w):Calls Tryz.prog 26 #[.string ⟨#[112,108,97,110,99,107]⟩] w fun r w'=>r=.returned (.tuple #[.agg (cT 9),.bool true])∧Below w.heap.size w w':=find_name _ (by unfold maxLen;decide) 9 (by decide) rfl w hsp htab
set_option maxRecDepth 100000 in
set_option maxHeartbeats 8000000 in
theorem law_finds (s:ByteArray) (hz:s.size≤maxLen) (w:World) (hsp:Spc w) (htab:Tab w):Calls Tryz.prog 9 #[.string s] w fun r w'=>r=.returned (.bool true)∧Below w.heap.size w w':=by
 have HTA:Hid (∀W,Below w.heap.size w W→Tab W):=fun W h=>htab.later h
 have HSP:Hid (∀W,Below w.heap.size w W→Spc W):=fun W h=>hsp.later h
 have HZ:=hide hz
 obtain⟨b0,b1,b2,b3,b4,b5,b6,hp⟩:=cT_strings 9 (by decide)
 have HPL:Hid (∀W,Below w.heap.size w W→Calls Tryz.prog 26 #[.string ⟨#[112,108,97,110,99,107]⟩] W fun r w'=>r=.returned (.tuple #[.agg #[.string b0,.string b1,.string b2,.string b3,.string b4,.string b5,.string b6],.bool true])∧Below W.heap.size W w'):=fun W hb=>by rw[←hp];exact planck_found W (hsp.later hb) (htab.later hb)
 clear htab hsp hz hp
 go_enter Tryz.func9,Tryz.ntmps9
 go_upto_region 2 with (go_at_call 26;go_must(refine(find_any s (un HZ) _ (un HSP _ (Below.refl _ _)) (un HTA _ (Below.refl _ _))).mono ?_;rintro e W1 ⟨v,rfl,hv,hb⟩;obtain⟨a0,a1,a2,a3,a4,a5,a6,ok,rfl⟩:=hv.shape;have HFV:=hide hv;have HB1:=hide hb;clear hv hb))
 have HX:Hid (OwnU (W1.alloc (.cells #[.string a0,.string a1,.string a2,.string a3,.string a4,.string a5,.string a6] 45)) W1.heap.size 45 #[.string a0,.string a1,.string a2,.string a3,.string a4,.string a5,.string a6]∧Below W1.heap.size W1 (W1.alloc (.cells #[.string a0,.string a1,.string a2,.string a3,.string a4,.string a5,.string a6] 45))):=⟨OwnU.new _ _ _,(Below.refl _ _).alloc (Nat.le_refl _) _⟩
 obtain⟨g3,hg3⟩:∃g3,g3=W1.heap.size:=⟨_,rfl⟩
 obtain⟨V2,hV2⟩:∃V2,V2=W1.alloc (.cells #[.string a0,.string a1,.string a2,.string a3,.string a4,.string a5,.string a6] 45):=⟨_,rfl⟩
 rw[←hV2]at HX ⊢
 have HB2:=hide ((un HB1).trans ((un HX).2.mono (un HB1).size))
 have HA2:=hide (un HX).1
 rw[←hg3]at HA2 ⊢
 clear HX hg3 hV2 HB1
 go_upto_region 3 with (go_at_call 27;go_must(refine(refFindC s V2).mono ?_;rintro e W4 ⟨v',rfl,hv',hb⟩;obtain rfl:=(un HFV).det hv';have HB4:=hide ((un HB2).trans (hb.mono (un HB2).size));have HA4:=hide ((un HA2).later hb);clear hb hv'))
 have HX:Hid (OwnU (W4.alloc (.cells #[.string a0,.string a1,.string a2,.string a3,.string a4,.string a5,.string a6] 45)) W4.heap.size 45 #[.string a0,.string a1,.string a2,.string a3,.string a4,.string a5,.string a6]∧Below W4.heap.size W4 (W4.alloc (.cells #[.string a0,.string a1,.string a2,.string a3,.string a4,.string a5,.string a6] 45))):=⟨OwnU.new _ _ _,(Below.refl _ _).alloc (Nat.le_refl _) _⟩
 obtain⟨g5,hg5⟩:∃g5,g5=W4.heap.size:=⟨_,rfl⟩
 obtain⟨V5,hV5⟩:∃V5,V5=W4.alloc (.cells #[.string a0,.string a1,.string a2,.string a3,.string a4,.string a5,.string a6] 45):=⟨_,rfl⟩
 rw[←hV5]at HX ⊢
 have HB5:=hide ((un HB4).trans ((un HX).2.mono (un HB4).size));have HA5:=hide ((un HA4).later (un HX).2)
 have HC5:=hide (un HX).1
 rw[←hg5]at HC5 ⊢
 clear HX hg5 hV5 HB4 HA4 HA2 HB2 HFV
 go_upto_region 4 with (go_at_call 26;go_must(refine(un HPL _ (un HB5)).mono ?_;rintro e W6 ⟨rfl,hb⟩;have HB6:=hide ((un HB5).trans (hb.mono (un HB5).size));have HA6:=hide ((un HA5).later hb);have HC6:=hide ((un HC5).later hb);clear hb HA5 HC5 HB5))
 have HX:Hid (Below W6.heap.size W6 (W6.alloc (.cells #[.string b0,.string b1,.string b2,.string b3,.string b4,.string b5,.string b6] 45))):=(Below.refl _ _).alloc (Nat.le_refl _) _
 have HB7:=hide ((un HB6).trans ((un HX).mono (un HB6).size));have HA7:=hide ((un HA6).later (un HX));have HC7:=hide ((un HC6).later (un HX))
 clear HX HB6 HA6 HC6
 generalize W6.alloc (.cells #[.string b0,.string b1,.string b2,.string b3,.string b4,.string b5,.string b6] 45)=V7 at *
 generalize W6.heap.size=g7 at *
 have g3x0:V7.cell? ⟨g3,0,none⟩=some (.string a0):=(un HA7).ub.c 0 _ rfl
 have g3x1:V7.cell? ⟨g3,1,none⟩=some (.string a1):=(un HA7).ub.c 1 _ rfl
 have g3x2:V7.cell? ⟨g3,2,none⟩=some (.string a2):=(un HA7).ub.c 2 _ rfl
 have g3x3:V7.cell? ⟨g3,3,none⟩=some (.string a3):=(un HA7).ub.c 3 _ rfl
 have g3x4:V7.cell? ⟨g3,4,none⟩=some (.string a4):=(un HA7).ub.c 4 _ rfl
 have g3x5:V7.cell? ⟨g3,5,none⟩=some (.string a5):=(un HA7).ub.c 5 _ rfl
 have g3x6:V7.cell? ⟨g3,6,none⟩=some (.string a6):=(un HA7).ub.c 6 _ rfl
 have g5x0:V7.cell? ⟨g5,0,none⟩=some (.string a0):=(un HC7).ub.c 0 _ rfl
 have g5x1:V7.cell? ⟨g5,1,none⟩=some (.string a1):=(un HC7).ub.c 1 _ rfl
 have g5x2:V7.cell? ⟨g5,2,none⟩=some (.string a2):=(un HC7).ub.c 2 _ rfl
 have g5x3:V7.cell? ⟨g5,3,none⟩=some (.string a3):=(un HC7).ub.c 3 _ rfl
 have g5x4:V7.cell? ⟨g5,4,none⟩=some (.string a4):=(un HC7).ub.c 4 _ rfl
 have g5x5:V7.cell? ⟨g5,5,none⟩=some (.string a5):=(un HC7).ub.c 5 _ rfl
 have g5x6:V7.cell? ⟨g5,6,none⟩=some (.string a6):=(un HC7).ub.c 6 _ rfl
 have heq:=eqlC a0 a1 a2 a3 a4 a5 a6
 cases ok
 all_goals
  go_wp2_with fail
  go_ret
  exact⟨rfl,un HB7⟩
end Go.Proofs.YtliadckofhblnaaGreatDoor.Nt

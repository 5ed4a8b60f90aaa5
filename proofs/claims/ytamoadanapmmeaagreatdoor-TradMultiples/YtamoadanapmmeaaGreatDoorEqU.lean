/- A unit held against itself. -/
import Derived.Test.YtamoadanapmmeaaGreatDoorLimb3
import Derived.Test.YtamoadanapmmeaaGreatDoorTr10
import Derived.Great.BuildSlice
import Derived.Test.YtamoadanapmmeaaGreatDoorUnit2
import Derived.ChangeKeysEq
import Derived.Laws.StructEq
namespace Go.Proofs.YtamoadanapmmeaaGreatDoor.Tr
open Go.RowKit
set_option maxRecDepth 100000 in
set_option maxHeartbeats 2000000 in
theorem refUnit (nm sy fn fd:ByteArray) (d0 d1 d2 d3 d4 d5 d6 d7:Int) (w:World):Calls Tryz.prog 38 #[.string nm,.string sy,.agg #[I d0,I d1,I d2,I d3,I d4,I d5,I d6,I d7],.string fn,.string fd] w fun r w'=>r=.returned (.agg #[.string nm,.string sy,I d0,I d1,I d2,I d3,I d4,I d5,I d6,I d7,.string fn,.string fd,.string ⟨#[48]⟩,.string ⟨#[49]⟩,I 0])∧Below w.heap.size w w':=by
  obtain⟨V,hV⟩:∃V,V=(w.alloc (.cells #[I d0,I d1,I d2,I d3,I d4,I d5,I d6,I d7] 26)).alloc (.cells z15 30):=⟨_,rfl⟩
  have HB:Hid (Below w.heap.size w V):=by rw[hV];exact((Below.refl _ _).alloc (Nat.le_refl _) _).alloc (by simp) _
  have HA:Hid (OwnU V w.heap.size 26 #[I d0,I d1,I d2,I d3,I d4,I d5,I d6,I d7]):=by rw[hV];exact(OwnU.new _ _ _).alloc _
  have HR:Hid (OwnU V (w.heap.size+1) 30 z15):=by rw[hV];have h:=OwnU.new (w.alloc (.cells #[I d0,I d1,I d2,I d3,I d4,I d5,I d6,I d7] 26)) z15 30;rw[Dm.size_alloc]at h;exact h
  have HV:=hide hV
  clear hV
  go_enter Tryz.func38,Tryz.ntmps38
  go_upto_region 1 with fail
  rw[←un HV]
  clear HV
  go_wp2_with (first
    | (refine wpList_load_row rfl 26 (.tmp 7) rfl w.heap.size rfl 26 #[I d0,I d1,I d2,I d3,I d4,I d5,I d6,I d7] (0,0) _ (un HA) Tryz.underlying26 rfl (by kernel_rfl) ?_)
    | (refine storeT 30 15 info27 rfl (.tmp 10) (.tmp 18) rfl (w.heap.size+1) z15 #[.string nm,.string sy,I d0,I d1,I d2,I d3,I d4,I d5,I d6,I d7,.string fn,.string fd,.string ⟨#[48]⟩,.string ⟨#[49]⟩,I 0] rfl rfl rfl rfl (un HR) (by kernel_rfl) ?_))
  exact bodyPost_ret (v:=.agg #[.string nm,.string sy,I d0,I d1,I d2,I d3,I d4,I d5,I d6,I d7,.string fn,.string fd,.string ⟨#[48]⟩,.string ⟨#[49]⟩,I 0]) (res30 Tryz.results38 _ _ (w.heap.size+1) _ rfl rfl ((un HR).setRow _)) rfl ⟨rfl,below_setRow (un HB) (by omega) _⟩
def uAllT:Array Value:=((List.range 22).flatMap fun k=>(rtT (trt k)).toList).toArray
theorem info30r:(Tryz.prog.info? 30).map (fun i=>(i.zero,i.size,i.bytes))=some (some (.agg z15),15,168):=by kernel_rfl
theorem under22r:Tryz.prog.underlying 22=some (.slice 30):=by kernel_rfl
set_option maxRecDepth 100000 in
set_option maxHeartbeats 8000000 in
theorem refUnitsT (w:World):Calls Tryz.prog 13 #[] w fun r w'=>∃W,r=.returned (.slice (some ⟨W.heap.size,0,none⟩) 22 22)∧w'=W.alloc (.cells uAllT 30)∧Below w.heap.size w W:=by
  obtain⟨i0,hi,hz0,hz1,hz2⟩:=info_parts info30r
  have HI0:=hide hi;have HZ0:=hide hz0;have HZ1:=hide hz1
  have HB:Hid (Below w.heap.size w w):=Below.refl _ _
  clear hi hz0 hz1 hz2
  go_enter Tryz.func13,Tryz.ntmps13
  go_wp2_with (first
    | (go_at_call 38;go_must(refine(refUnit _ _ _ _ _ _ _ _ _ _ _ _ _).mono ?_;rintro e W1 ⟨rfl,hb⟩;have HBn:Hid (Below w.heap.size w W1):=(un HB).trans (hb.mono (un HB).size);clear hb HB;have HB:=HBn;clear HBn))
    | (refine wpList_buildSlice rfl 22 30 22 _ rfl uAllT i0 (.agg z15) under22r (un HI0) (un HZ0) (by rw[un HZ1];decide) (by rw[un HZ1];decide) (by rw[un HZ1];kernel_rfl) ?_))
  go_ret
  exact⟨W1,rfl,rfl,un HB⟩
theorem uAllT_ex:∀k,k<22→uAllT.extract (k*15) (k*15+15)=rtT (trt k)
  | 0,_=>by kernel_rfl
  | 1,_=>by kernel_rfl
  | 2,_=>by kernel_rfl
  | 3,_=>by kernel_rfl
  | 4,_=>by kernel_rfl
  | 5,_=>by kernel_rfl
  | 6,_=>by kernel_rfl
  | 7,_=>by kernel_rfl
  | 8,_=>by kernel_rfl
  | 9,_=>by kernel_rfl
  | 10,_=>by kernel_rfl
  | 11,_=>by kernel_rfl
  | 12,_=>by kernel_rfl
  | 13,_=>by kernel_rfl
  | 14,_=>by kernel_rfl
  | 15,_=>by kernel_rfl
  | 16,_=>by kernel_rfl
  | 17,_=>by kernel_rfl
  | 18,_=>by kernel_rfl
  | 19,_=>by kernel_rfl
  | 20,_=>by kernel_rfl
  | 21,_=>by kernel_rfl
  | _+22,h=>absurd h (by omega)
theorem uAllT_size:uAllT.size=330:=by kernel_rfl
theorem uAllT_row (k:Nat) (hk:k<22) (i:Nat) (v:Value) (h:(rtT (trt k))[i]?=some v):uAllT[k*15+i]?=some v:=by
  have hi:i<15:=by have:=(Array.getElem?_eq_some_iff.1 h).1;rw[rtT_size]at this;exact this
  rw[←uAllT_ex k hk,Array.getElem?_extract,if_pos (by rw[uAllT_size];omega)]at h
  exact h
def UR (W:World) (g k:Nat):Prop:=∀i v,(rtT (trt k))[i]?=some v→W.cell? ⟨g,k*15+i,none⟩=some v
theorem UR.later {W V:World} {B g k:Nat} (h:UR W g k) (hb:Below B W V) (hg:g<B):UR V g k:=fun i v e=>(hb.cell (p:=⟨g,k*15+i,none⟩) hg).trans (h i v e)
theorem uAllT_at (W:World) (k:Nat) (hk:k<22):UR (W.alloc (.cells uAllT 30)) W.heap.size k:=fun i v e=>(OwnU.new W uAllT 30).ub.c _ _ (uAllT_row k hk i v e)
set_option maxRecDepth 100000 in
set_option maxHeartbeats 8000000 in
theorem refFindT (s:ByteArray) (g cap:Nat) (w:World) (hr:∀k,k<22→UR w g k) (hg:g<w.heap.size) :
    Calls Tryz.prog 15 #[.slice (some ⟨g,0,none⟩) 22 cap,.string s] w fun r w'=>∃v,r=.returned v∧FindT (trB s) v∧Below w.heap.size w w':=by
  have HR:=hide hr
  have HRB0:Hid (OwnU (w.alloc (.cells z15 30)) w.heap.size 30 z15):=OwnU.new _ _ _
  clear hr
  go_enter Tryz.func15,Tryz.ntmps15
  go_wp2_with fail
  go_loopw [6] (fun s6 wr=>∃(k:Nat),k≤22∧s6=I (k:Int)∧Hid (∀i,i<k→trB s i=false)∧Hid (OwnU wr w.heap.size 30 z15)∧Hid (Below w.heap.size w wr)) (fun s6 _=>22 - (intOf s6).toNat)
  case atStart=>exact⟨0,by omega,rfl,fun i hi=>absurd hi (by omega),HRB0,(Below.refl _ _).alloc (Nat.le_refl _) _⟩
  case round=>
    obtain⟨k,hk,rfl,HN,HO,HB⟩:=hrel
    by_cases hk8:k<22
    · have hkI:(k:Int)<22:=by omega
      have hk0:(0:Int)≤(k:Int):=by omega
      have hrow:=(un HR k hk8).later (un HB) hg
      have HNK:=hide (fun (e:trB s k=false)=>none_succ (un HN) e)
      have HYK:=hide (fun (e:trB s k=true)=>(Or.inl ⟨k,hk8,Or.inl ⟨k,hk8,rfl,e,un HN⟩,rfl⟩:FindT (trB s) (.tuple #[.agg (rtT (trt k)),.bool true])))
      have HON:=hide (rtT_ones k)
      have HSB:Hid (trB s k=((trt k).nm.toList == s.toList || (trt k).sy.toList == s.toList)):=rfl
      unfold rtT at HYK HON
      unfold UR rtT at hrow
      generalize (trt k).nm=nm at *
      generalize (trt k).sy=sy at *
      generalize dvT (trt k) 0=x0 at *
      generalize dvT (trt k) 1=x1 at *
      generalize dvT (trt k) 2=x2 at *
      generalize dvT (trt k) 3=x3 at *
      generalize dvT (trt k) 4=x4 at *
      generalize dvT (trt k) 5=x5 at *
      generalize dvT (trt k) 6=x6 at *
      generalize dvT (trt k) 7=x7 at *
      generalize (trt k).fn=fn at *
      generalize (trt k).fd=fd at *
      have c0:wr.cell? ⟨g,k*15,none⟩=some (.string nm):=hrow 0 _ rfl
      have c1:wr.cell? ⟨g,k*15+1,none⟩=some (.string sy):=hrow 1 _ rfl
      have c2:wr.cell? ⟨g,k*15+2,none⟩=some (I x0):=hrow 2 _ rfl
      have c3:wr.cell? ⟨g,k*15+3,none⟩=some (I x1):=hrow 3 _ rfl
      have c4:wr.cell? ⟨g,k*15+4,none⟩=some (I x2):=hrow 4 _ rfl
      have c5:wr.cell? ⟨g,k*15+5,none⟩=some (I x3):=hrow 5 _ rfl
      have c6:wr.cell? ⟨g,k*15+6,none⟩=some (I x4):=hrow 6 _ rfl
      have c7:wr.cell? ⟨g,k*15+7,none⟩=some (I x5):=hrow 7 _ rfl
      have c8:wr.cell? ⟨g,k*15+8,none⟩=some (I x6):=hrow 8 _ rfl
      have c9:wr.cell? ⟨g,k*15+9,none⟩=some (I x7):=hrow 9 _ rfl
      have c10:wr.cell? ⟨g,k*15+10,none⟩=some (.string fn):=hrow 10 _ rfl
      have c11:wr.cell? ⟨g,k*15+11,none⟩=some (.string fd):=hrow 11 _ rfl
      have c12:wr.cell? ⟨g,k*15+12,none⟩=some (.string ⟨#[48]⟩):=hrow 12 _ rfl
      have c13:wr.cell? ⟨g,k*15+13,none⟩=some (.string ⟨#[49]⟩):=hrow 13 _ rfl
      have c14:wr.cell? ⟨g,k*15+14,none⟩=some (I 0):=hrow 14 _ rfl
      clear hrow
      by_cases hB:trB s k=true
      · have HJ:=hide (un HYK hB)
        have hor:(nm.toList == s.toList)=true∨((nm.toList == s.toList)=false∧(sy.toList == s.toList)=true):=by
          have h:=(un HSB).symm.trans hB
          cases h1:(nm.toList == s.toList)with
          | true=>exact Or.inl rfl
          | false=>rw[h1]at h;exact Or.inr ⟨rfl,by simpa using h⟩
        clear HNK HYK hB HSB HN
        rcases hor with hn1|⟨hn1,hn2⟩
        all_goals
          go_wp2_with (refine storeT 30 15 info27 rfl (.tmp 4) (.tmp 32) rfl w.heap.size z15 #[.string nm,.string sy,I x0,I x1,I x2,I x3,I x4,I x5,I x6,I x7,.string fn,.string fd,.string ⟨#[48]⟩,.string ⟨#[49]⟩,I 0] rfl rfl rfl rfl (un HO) (un HON) ?_)
          exact bodyPost_ret (v:=.tuple #[.agg #[.string nm,.string sy,I x0,I x1,I x2,I x3,I x4,I x5,I x6,I x7,.string fn,.string fd,.string ⟨#[48]⟩,.string ⟨#[49]⟩,I 0],.bool true]) (res27b Tryz.results15 _ _ w.heap.size _ rfl rfl ((un HO).setRow _)) rfl ⟨_,rfl,un HJ,below_setRow (un HB) (Nat.le_refl _) _⟩
      · have hB':trB s k=false:=by simpa using hB
        have HJ:=hide (un HNK hB')
        obtain⟨hn1,hn2⟩:(nm.toList == s.toList)=false∧(sy.toList == s.toList)=false:=by
          have h:=(un HSB).symm.trans hB'
          simpa using h
        clear HNK HYK hB hB' HSB HN
        go_wp2_with fail
        go_roundw
        case rel=>exact⟨k+1,by omega,by go_num,HJ,HO,HB⟩
        case measure=>simp[intOf];omega
    · have hkI:¬(k:Int)<22:=by omega
      go_wp2_with (refine storeT 30 15 info27 rfl (.tmp 4) (.tmp 33) rfl w.heap.size z15 z15 rfl rfl rfl rfl (un HO) (by kernel_rfl) ?_)
      exact bodyPost_ret (v:=.tuple #[.agg z15,.bool false]) (res27b Tryz.results15 _ _ w.heap.size _ rfl rfl ((un HO).setRow _)) rfl ⟨_,rfl,Or.inr ⟨Or.inr ⟨rfl,fun i hi=>un HN i (by omega)⟩,rfl⟩,below_setRow (un HB) (Nat.le_refl _) _⟩
end Go.Proofs.YtamoadanapmmeaaGreatDoor.Tr

namespace Go.Proofs.YtamoadanapmmeaaGreatDoor
open Go.RowKit
theorem info3U:∃ i,Tryz.prog.info? 3=some i:=Option.isSome_iff_exists.1 (by kernel_rfl)
theorem cells3U:Tryz.prog.cellsOf 3=1:=by kernel_rfl
section
variable (nm sy:ByteArray) (d0 d1 d2 d3 d4 d5 d6 d7:Int) (fn fd on od:ByteArray) (tk:Int)
theorem eqD (d:Nat) (w:World):(Op.equalIn (d+2) 26 (.agg #[I d0,I d1,I d2,I d3,I d4,I d5,I d6,I d7]) (.agg #[I d0,I d1,I d2,I d3,I d4,I d5,I d6,I d7])).run Tryz.prog w=.ok true w:=by
  obtain ⟨inf,hinf⟩:=info3U
  rw[show d+2=(d+1)+1 from rfl,run_equalIn_array w (d+1) _ _ Tryz.underlying26 hinf,cells3U,show List.range 8=[0,1,2,3,4,5,6,7] from rfl]
  have p0:∀ w:World,(part 3 #[I d0,I d1,I d2,I d3,I d4,I d5,I d6,I d7] (0*1)).run Tryz.prog w=.ok (I d0) w:=fun _=>by kernel_rfl
  have p1:∀ w:World,(part 3 #[I d0,I d1,I d2,I d3,I d4,I d5,I d6,I d7] (1*1)).run Tryz.prog w=.ok (I d1) w:=fun _=>by kernel_rfl
  have p2:∀ w:World,(part 3 #[I d0,I d1,I d2,I d3,I d4,I d5,I d6,I d7] (2*1)).run Tryz.prog w=.ok (I d2) w:=fun _=>by kernel_rfl
  have p3:∀ w:World,(part 3 #[I d0,I d1,I d2,I d3,I d4,I d5,I d6,I d7] (3*1)).run Tryz.prog w=.ok (I d3) w:=fun _=>by kernel_rfl
  have p4:∀ w:World,(part 3 #[I d0,I d1,I d2,I d3,I d4,I d5,I d6,I d7] (4*1)).run Tryz.prog w=.ok (I d4) w:=fun _=>by kernel_rfl
  have p5:∀ w:World,(part 3 #[I d0,I d1,I d2,I d3,I d4,I d5,I d6,I d7] (5*1)).run Tryz.prog w=.ok (I d5) w:=fun _=>by kernel_rfl
  have p6:∀ w:World,(part 3 #[I d0,I d1,I d2,I d3,I d4,I d5,I d6,I d7] (6*1)).run Tryz.prog w=.ok (I d6) w:=fun _=>by kernel_rfl
  have p7:∀ w:World,(part 3 #[I d0,I d1,I d2,I d3,I d4,I d5,I d6,I d7] (7*1)).run Tryz.prog w=.ok (I d7) w:=fun _=>by kernel_rfl
  have e:=fun w a b=>run_equalIn_int (P:=Tryz.prog) w d 3 .i64 .i64 a b Tryz.underlying3
  simp only[Op.eqItems,Sem.run_bind,p0,p1,p2,p3,p4,p5,p6,p7,Result.andThen_ok,e,Sem.run_ite,Sem.run_pure]
  simp
theorem fieldsQ:∃ f0 f1,(Tryz.prog.fieldsOf 28).toList=[f0,f1]∧f0.type=9∧f0.offset=0∧f0.name≠"_"∧f1.type=9∧f1.offset=1∧f1.name≠"_":=by
  unfold Program.fieldsOf
  rw[Tryz.underlying28]
  exact ⟨_,_,rfl,rfl,rfl,by decide +kernel,rfl,rfl,by decide +kernel⟩
theorem eqQ (d:Nat) (w:World):(Op.equalIn (d+2) 28 (.agg #[.string fn,.string fd]) (.agg #[.string fn,.string fd])).run Tryz.prog w=.ok true w:=by
  rw[show d+2=(d+1)+1 from rfl,run_equalIn_struct w (d+1) 28 _ _ (by kernel_rfl) (by kernel_rfl)]
  obtain ⟨f0,f1,hf,t0,o0,n0,t1,o1,n1⟩:=fieldsQ
  rw[hf]
  have p0:∀ w:World,(part 9 #[.string fn,.string fd] 0).run Tryz.prog w=.ok (.string fn) w:=fun _=>by kernel_rfl
  have p1:∀ w:World,(part 9 #[.string fn,.string fd] 1).run Tryz.prog w=.ok (.string fd) w:=fun _=>by kernel_rfl
  have e:=fun w a b=>run_equalIn_string (P:=Tryz.prog) w d 9 a b Tryz.underlying9
  simp only[Op.eqFields,n0,n1,t0,t1,o0,o1,Sem.run_bind,p0,p1,Result.andThen_ok,e,Sem.run_ite,Sem.run_pure,ne_eq,not_false_eq_true,if_true]
  simp
theorem fieldsU:∃ f0 f1 f2 f3 f4 f5,(Tryz.prog.fieldsOf 30).toList=[f0,f1,f2,f3,f4,f5]∧(f0.type=9∧f0.offset=0∧f0.name≠"_")∧(f1.type=9∧f1.offset=1∧f1.name≠"_")∧(f2.type=26∧f2.offset=2∧f2.name≠"_")∧(f3.type=28∧f3.offset=10∧f3.name≠"_")∧(f4.type=28∧f4.offset=12∧f4.name≠"_")∧(f5.type=3∧f5.offset=14∧f5.name≠"_"):=by
  unfold Program.fieldsOf
  rw[Tryz.underlying30]
  exact ⟨_,_,_,_,_,_,rfl,⟨rfl,rfl,by decide +kernel⟩,⟨rfl,rfl,by decide +kernel⟩,⟨rfl,rfl,by decide +kernel⟩,⟨rfl,rfl,by decide +kernel⟩,⟨rfl,rfl,by decide +kernel⟩,⟨rfl,rfl,by decide +kernel⟩⟩
theorem eqU (w:World):(Op.equalIn 10000 30 (.agg #[.string nm,.string sy,I d0,I d1,I d2,I d3,I d4,I d5,I d6,I d7,.string fn,.string fd,.string on,.string od,I tk]) (.agg #[.string nm,.string sy,I d0,I d1,I d2,I d3,I d4,I d5,I d6,I d7,.string fn,.string fd,.string on,.string od,I tk])).run Tryz.prog w=.ok true w:=by
  rw[show (10000:Nat)=9999+1 from rfl,run_equalIn_struct w 9999 30 _ _ (by kernel_rfl) (by kernel_rfl)]
  obtain ⟨f0,f1,f2,f3,f4,f5,hf,⟨t0,o0,n0⟩,⟨t1,o1,n1⟩,⟨t2,o2,n2⟩,⟨t3,o3,n3⟩,⟨t4,o4,n4⟩,⟨t5,o5,n5⟩⟩:=fieldsU
  rw[hf]
  have p0:∀ w:World,(part 9 #[.string nm,.string sy,I d0,I d1,I d2,I d3,I d4,I d5,I d6,I d7,.string fn,.string fd,.string on,.string od,I tk] 0).run Tryz.prog w=.ok (.string nm) w:=fun _=>by kernel_rfl
  have p1:∀ w:World,(part 9 #[.string nm,.string sy,I d0,I d1,I d2,I d3,I d4,I d5,I d6,I d7,.string fn,.string fd,.string on,.string od,I tk] 1).run Tryz.prog w=.ok (.string sy) w:=fun _=>by kernel_rfl
  have p2:∀ w:World,(part 26 #[.string nm,.string sy,I d0,I d1,I d2,I d3,I d4,I d5,I d6,I d7,.string fn,.string fd,.string on,.string od,I tk] 2).run Tryz.prog w=.ok (.agg #[I d0,I d1,I d2,I d3,I d4,I d5,I d6,I d7]) w:=fun _=>by kernel_rfl
  have p3:∀ w:World,(part 28 #[.string nm,.string sy,I d0,I d1,I d2,I d3,I d4,I d5,I d6,I d7,.string fn,.string fd,.string on,.string od,I tk] 10).run Tryz.prog w=.ok (.agg #[.string fn,.string fd]) w:=fun _=>by kernel_rfl
  have p4:∀ w:World,(part 28 #[.string nm,.string sy,I d0,I d1,I d2,I d3,I d4,I d5,I d6,I d7,.string fn,.string fd,.string on,.string od,I tk] 12).run Tryz.prog w=.ok (.agg #[.string on,.string od]) w:=fun _=>by kernel_rfl
  have p5:∀ w:World,(part 3 #[.string nm,.string sy,I d0,I d1,I d2,I d3,I d4,I d5,I d6,I d7,.string fn,.string fd,.string on,.string od,I tk] 14).run Tryz.prog w=.ok (I tk) w:=fun _=>by kernel_rfl
  have e:=fun w a b=>run_equalIn_string (P:=Tryz.prog) w 9998 9 a b Tryz.underlying9
  have e3:=fun w a b=>run_equalIn_int (P:=Tryz.prog) w 9998 3 .i64 .i64 a b Tryz.underlying3
  have ed:=eqD d0 d1 d2 d3 d4 d5 d6 d7 9997
  have eq1:=eqQ fn fd 9997
  have eq2:=eqQ on od 9997
  simp only[Op.eqFields,n0,n1,n2,n3,n4,n5,t0,t1,t2,t3,t4,t5,o0,o1,o2,o3,o4,o5,Sem.run_bind,p0,p1,p2,p3,p4,p5,Result.andThen_ok,e,e3,ed,eq1,eq2,Sem.run_ite,Sem.run_pure,ne_eq,not_false_eq_true,if_true]
  simp
theorem eqlU (w:World):(binOp .eql 30 (.agg #[.string nm,.string sy,I d0,I d1,I d2,I d3,I d4,I d5,I d6,I d7,.string fn,.string fd,.string on,.string od,I tk]) (.agg #[.string nm,.string sy,I d0,I d1,I d2,I d3,I d4,I d5,I d6,I d7,.string fn,.string fd,.string on,.string od,I tk])).run Tryz.prog w=.ok (.bool true) w:=by
  rw[run_eql_struct,eqU]
  rfl
end
end Go.Proofs.YtamoadanapmmeaaGreatDoor

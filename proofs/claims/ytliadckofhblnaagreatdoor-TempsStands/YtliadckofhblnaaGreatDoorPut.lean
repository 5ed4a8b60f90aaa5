/- A registry in memory; putUnit. -/
import Derived.Test.YtliadckofhblnaaGreatDoorLimb3
import Derived.Test.YtliadckofhblnaaGreatDoorNmWrite
import Derived.Laws.RangeAny
import Derived.Lib.RuneCount
import Derived.Lib.OthersKept
import Derived.Test.YtliadckofhblnaaGreatDoorNmClass
import Derived.Deep.Quiet
import Derived.BigQuiet
import Derived.Test.YtliadckofhblnaaGreatDoorFindB
import Derived.Maps.OwnSet
import Derived.OwnWalk
import Derived.Laws.AppendOwn
set_option maxHeartbeats 4000000
set_option maxRecDepth 100000
namespace Go.Proofs.YtliadckofhblnaaGreatDoor.Nm
open Go.RowKit
def contB (p:Nat) (f r:Int):Bool:=if p=0 then(zCj r == 1 || zCj r == 4)else goesB f r
def firstOf (p:Nat) (f r:Int):Int:=if p=0 then r else f
inductive Lg (s:ByteArray):Nat→Int→List UInt8→List UInt8→Nat→Prop
 | stop (p:Nat) (f:Int) (acc:List UInt8):p<s.size→contB p f (Utf8.decode s p).1=false→Lg s p f acc acc p
 | done (p:Nat) (f:Int) (acc:List UInt8):¬p<s.size→Lg s p f acc acc s.size
 | step (p:Nat) (f:Int) (acc out:List UInt8) (q:Nat):p<s.size→contB p f (Utf8.decode s p).1=true→Lg s (p+(Utf8.decode s p).2) (firstOf p f (Utf8.decode s p).1) (acc ++ Lib.encodeRune (foldR (Utf8.decode s p).1)) out q→Lg s p f acc out q
theorem foldR_range (r:Int) (h0:0≤r) (h1:r≤2147483647):-2147483648≤foldR r∧foldR r≤2147483647:=by
 unfold foldR
 repeat' split
 all_goals omega
theorem zHs (a b:List UInt8):Lib.byteCells (a ++ b)=Lib.byteCells a ++ Lib.byteCells b:=by simp[Lib.byteCells]
theorem byteCells_len (a:List UInt8):(Lib.byteCells a).length=a.length:=by simp[Lib.byteCells]
theorem longest_any (s:ByteArray) (w:World) (hs:s.size≤1000000000000) :
 Calls Tryz.prog 300 #[.string s] w fun e w'=>(∃out q,e=.returned (.tuple #[.string ⟨out.toArray⟩,I (q:Nat)])∧Lg s 0 0 [] out q)∧Bw w w':=by
 go_enter Tryz.func300,Tryz.ntmps300
 go_upto_region 4 with fail
 go_loopw [5] (fun f wr=>∃(p:Nat) (fr:Int) (acc:List UInt8),f=.int .i32 fr∧acc.length≤4*p∧Hid (wr.heap[w.heap.size+1]?=some (.stringIter s p))∧Hid (Lib.IsBuilderF 265 5 w.heap.size w.heap.size (Lib.byteCells acc) wr)∧Hid (Bw w wr)∧Hid (∀out q,Lg s p fr acc out q→Lg s 0 0 [] out q)) (fun _ wr=>s.size - wr.iterPos (w.heap.size+1))
 case atStart=>
  refine⟨0,0,[],rfl,by simp,?_,?_,bA.alloc (by simp) _,fun _ _ h=>h⟩
  ·show _=_
   rw[show w.heap.size+1=(w.alloc (.cells #[.pointer none,.slice none 0 0] 265)).heap.size by simp];exact World.iter_heap _ _ _
  ·refine .inl ⟨Nat.le_refl _,.slice none 0 0,?_,World.ownsRowF_nil _ _ _ _,by simp[Value.ownBlock]⟩
   exact(Below.heap_alloc _ _ _ (by simp)).trans (heap_alloc_new w _)
 case round=>
  obtain⟨p,fr,acc,rfl,hacc,HI,HBU,HB,HL⟩:=hrel;have hB0:w.heap.size≤wr.heap.size:=(un HB).size
  by_cases hlt:p<s.size
  ·obtain⟨r,p2,hr,hp2⟩:∃(r:Int) (p2:Nat),((Utf8.decode s p).1:Int)=r∧p+(Utf8.decode s p).2=p2:=⟨_,_,rfl,rfl⟩
   have hw:=Lib.decode_width_pos s p hlt;have hpp:p<p2:=by omega
   have hr01:0≤r∧r≤2147483647:=by have:=decode_le s p;omega
   obtain⟨W2,hW2⟩:∃W2,W2=wr.iterAt (w.heap.size+1) s p2:=⟨_,rfl⟩
   have hnx:∀ty,(Instr.next (.pointer (some ⟨w.heap.size+1,0,none⟩)) true ty).run Tryz.prog wr=.ok (.tuple #[.bool true,I p,.int .i32 r]) W2:=fun ty=>by
    rw[hW2,←hp2,←hr];exact Lib.run_next_any_at wr _ s p ty (un HI) hlt
   have HI2:Hid (W2.heap[w.heap.size+1]?=some (.stringIter s p2)):=by show W2.heap[_]?=_;rw[hW2];exact Lib.iterAt_heap _ _ _ _ _ (un HI)
   have HBU2:Hid (Lib.IsBuilderF 265 5 w.heap.size w.heap.size (Lib.byteCells acc) W2):=by show Lib.IsBuilderF _ _ _ _ _ W2;rw[hW2];exact(un HBU).iterAt (un HI) _
   have HB2:Hid (Bw w W2):=by show Below _ _ W2;rw[hW2];exact Lib.below_iterAt (un HB) (by omega) _ _
   have HM:Hid (wr.iterPos (w.heap.size+1)=p):=iterPos_of (un HI);have HBG:=zAb (begins_any r W2);have HGO:=zAb (fun f=>goesOn_any f r W2);have HFO:=zAb (folded_any r W2);have hfr:=foldR_range r hr01.1 hr01.2;have HWR:=zAb (writeRune_any w.heap.size w.heap.size (Lib.byteCells acc) (foldR r) hfr.1 hfr.2 W2 (un HBU2) (by rw[byteCells_len];omega) (un HB2).size);have HSG:=zAb (Tryz.Builder_String_any_k w.heap.size w.heap.size acc W2 (un HBU2) (un HB2).size)
   have hacc2:(acc ++ Lib.encodeRune (foldR r)).length≤4*p2:=by
    have h1:=(Lib.runeCells_le (foldR r)).2;rw[Lib.runeCells_length]at h1;rw[List.length_append];omega
   cases hc:contB p fr r with
   | false=>
    have HST:Hid (Lg s 0 0 [] acc p):=un HL acc p (.stop p fr acc hlt (by rw[hr];exact hc));clear hW2 HI HBU HB HL hr hp2 hw
    by_cases hp0:p=0
    ·subst hp0
     have hcc:(zCj r == 1 || zCj r == 4)=false:=hc;rw[hcc]at HBG;clear hc hcc
     go_wp2_with (first
      | (go_at_call 360;refine(un HBG).mono ?_;rintro e w3 ⟨rfl,rfl⟩)
      | (go_at_call 252;refine(un HSG).mono ?_;rintro e w3 ⟨rfl,_,hb3,_⟩))
     go_ret2
     exact⟨⟨acc,0,rfl,un HST⟩,(un HB2).trans hb3⟩
    ·have hcc:goesB fr r=false:=by unfold contB at hc;rw[if_neg hp0]at hc;exact hc
     have HG2:=zAb (un HGO fr);rw[hcc]at HG2;have hpz:((p:Int) == 0)=false:=by rw[beq_eq_false_iff_ne];omega
     have hpp0:0<p:=by omega
     clear hc hcc hp0
     go_wp2_with (first
      | (go_at_call 361;refine(un HG2).mono ?_;rintro e w3 ⟨rfl,rfl⟩)
      | (go_at_call 252;refine(un HSG).mono ?_;rintro e w3 ⟨rfl,_,hb3,_⟩))
     go_ret2
     exact⟨⟨acc,p,rfl,un HST⟩,(un HB2).trans hb3⟩
   | true=>
    obtain⟨FR,hFR⟩:∃FR,FR=firstOf p fr r:=⟨_,rfl⟩;have HST:Hid (∀out q,Lg s p2 FR (acc ++ Lib.encodeRune (foldR r)) out q→Lg s 0 0 [] out q):=fun out q h=>un HL out q (.step p fr acc out q hlt (by rw[hr];exact hc) (by rw[hr,hp2,←hFR];exact h))
    clear hW2 HI HBU HB HL hr hp2 hw
    by_cases hp0:p=0
    ·subst hp0
     have hcc:(zCj r == 1 || zCj r == 4)=true:=hc;rw[hcc]at HBG;obtain rfl:FR=r:=hFR;clear hc hcc
     go_wp2_with (first
      | (go_at_call 360;refine(un HBG).mono ?_;rintro e w3 ⟨rfl,rfl⟩)
      | (go_at_call 363;refine(un HFO).mono ?_;rintro e w3 ⟨rfl,rfl⟩)
      | (go_at_call 362;refine(un HWR).mono ?_;rintro e w4 ⟨⟨n4,rfl⟩,hbu4,hb4,hk4⟩))
     have HI4:Hid (w4.heap[w.heap.size+1]?=some (.stringIter s p2)):=hk4.iter (un HI2) (by omega);have HBU4:Hid (Lib.IsBuilderF 265 5 w.heap.size w.heap.size (Lib.byteCells (acc ++ Lib.encodeRune (foldR FR))) w4):=.inr (by rw[zHs,Lib.byteCells_encodeRune];exact hbu4);have HB4:Hid (Bw w w4):=(un HB2).trans hb4;clear hbu4 hb4 hk4
     go_roundw
     case rel=>exact⟨p2,FR,acc ++ Lib.encodeRune (foldR FR),rfl,hacc2,HI4,HBU4,HB4,HST⟩
     case measure=>rw[un HM,iterPos_of (un HI4)];omega
    ·have hcc:goesB fr r=true:=by unfold contB at hc;rw[if_neg hp0]at hc;exact hc
     have HG2:=zAb (un HGO fr);rw[hcc]at HG2;obtain rfl:FR=fr:=by rw[hFR];unfold firstOf;rw[if_neg hp0]
     have hpz:((p:Int) == 0)=false:=by rw[beq_eq_false_iff_ne];omega
     have hpp0:0<p:=by omega
     clear hc hcc hp0 hFR
     go_wp2_with (first
      | (go_at_call 361;refine(un HG2).mono ?_;rintro e w3 ⟨rfl,rfl⟩)
      | (go_at_call 363;refine(un HFO).mono ?_;rintro e w3 ⟨rfl,rfl⟩)
      | (go_at_call 362;refine(un HWR).mono ?_;rintro e w4 ⟨⟨n4,rfl⟩,hbu4,hb4,hk4⟩))
     have HI4:Hid (w4.heap[w.heap.size+1]?=some (.stringIter s p2)):=hk4.iter (un HI2) (by omega);have HBU4:Hid (Lib.IsBuilderF 265 5 w.heap.size w.heap.size (Lib.byteCells (acc ++ Lib.encodeRune (foldR r))) w4):=.inr (by rw[zHs,Lib.byteCells_encodeRune];exact hbu4);have HB4:Hid (Bw w w4):=(un HB2).trans hb4;clear hbu4 hb4 hk4
     go_roundw
     case rel=>exact⟨p2,FR,acc ++ Lib.encodeRune (foldR r),rfl,hacc2,HI4,HBU4,HB4,HST⟩
     case measure=>rw[un HM,iterPos_of (un HI4)];omega
  ·have hnx:∀ty,(Instr.next (.pointer (some ⟨w.heap.size+1,0,none⟩)) true ty).run Tryz.prog wr=.ok (.tuple #[.bool false]) wr:=fun ty=>Lib.run_next_end_at wr _ s _ ty (un HI) hlt
   have HST:Hid (Lg s 0 0 [] acc s.size):=un HL acc s.size (.done p fr acc hlt);have HSG:=zAb (Tryz.Builder_String_any_k w.heap.size w.heap.size acc wr (un HBU) hB0);clear HI HBU HL
   go_wp2_with (go_at_call 252;refine(un HSG).mono ?_;rintro e w3 ⟨rfl,_,hb3,_⟩)
   go_ret2
   exact⟨⟨acc,s.size,rfl,un HST⟩,(un HB).trans hb3⟩
theorem res3t {fn:Func} {a b c:Tmp} (h:fn.results=#[.tmp a,.tmp b,.tmp c]) (tmps:Array Value) (w:World):(results fn tmps).run Tryz.prog w=.ok (.tuple #[tmps.getD a undef,tmps.getD b undef,tmps.getD c undef]) w:=by
 simp[results,h]
def foldV (s:ByteArray) (out:List UInt8) (q:Nat):Value :=
 if s.size=0∨q<s.size then .tuple #[G #[],I 60,I (q:Nat)]
 else if 40<out.length then .tuple #[G #[],I 4,I 0]
 else if out=[105,110]then .tuple #[G #[],I 201,I 0]
 else .tuple #[.string ⟨out.toArray⟩,I 0,I 0]
theorem empty_size (s:ByteArray):s.toList.isEmpty=decide (s.size=0):=by
 rw[ByteArray.toList_eq];have hl:s.data.toList.length=s.size:=by simp
 rw[←hl]
 cases s.data.toList<;>simp
theorem fold_any (s:ByteArray) (w:World) (hs:s.size≤1000000000000) :
 Calls Tryz.prog 268 #[.string s] w fun e w'=>(∃out q,e=.returned (foldV s out q)∧Lg s 0 0 [] out q)∧Bw w w':=by
 have HL:=zAb (longest_any s w hs);have hse:=empty_size s;go_enter Tryz.func268,Tryz.ntmps268
 go_upto_region 2 with (go_at_call 300;refine(un HL).mono ?_;rintro e w1 ⟨⟨out,q,rfl,hlg⟩,hb1⟩)
 have HG:=zAb hlg;have HB:=zAb hb1;have hos:(⟨out.toArray⟩:ByteArray).size=out.length:=by simp[ByteArray.size]
 have hot:(out == [105,110])=decide (out=[105,110]):=by rw[Bool.eq_iff_iff,beq_iff_eq,decide_eq_true_iff]
 clear hlg hb1 HL
 by_cases h0:s.size=0
 ·have HV:Hid (foldV s out q=.tuple #[G #[],I 60,I (q:Nat)]):=if_pos (.inl h0)
  rw[show decide (s.size=0)=true by simp[h0]]at hse;clear h0 hot
  go_wp2
  exact bodyPost_ret (res3t Tryz.results268 _ _) rfl ⟨⟨out,q,by rw[un HV];rfl,un HG⟩,un HB⟩
 ·rw [show decide (s.size=0)=false by simp[h0]]at hse
  by_cases h1:q<s.size
  ·have HV:Hid (foldV s out q=.tuple #[G #[],I 60,I (q:Nat)]):=if_pos (.inr h1)
   clear h0 hot
   go_wp2
   exact bodyPost_ret (res3t Tryz.results268 _ _) rfl ⟨⟨out,q,by rw[un HV];rfl,un HG⟩,un HB⟩
  ·have hn:¬(s.size=0∨q<s.size):=by omega
   by_cases h2:40<out.length
   ·have HV:Hid (foldV s out q=.tuple #[G #[],I 4,I 0]):=(if_neg hn).trans (if_pos h2)
    clear h0 hot hn
    go_wp2
    exact bodyPost_ret (res3t Tryz.results268 _ _) rfl ⟨⟨out,q,by rw[un HV];rfl,un HG⟩,un HB⟩
   ·by_cases h3:out=[105,110]
    ·have HV:Hid (foldV s out q=.tuple #[G #[],I 201,I 0]):=((if_neg hn).trans (if_neg h2)).trans (if_pos h3)
     rw[show decide (out=[105,110])=true by simp[h3]]at hot;clear h0 hn h3
     go_wp2
     exact bodyPost_ret (res3t Tryz.results268 _ _) rfl ⟨⟨out,q,by rw[un HV];rfl,un HG⟩,un HB⟩
    ·have HV:Hid (foldV s out q=.tuple #[.string ⟨out.toArray⟩,I 0,I 0]):=((if_neg hn).trans (if_neg h2)).trans (if_neg h3)
     rw[show decide (out=[105,110])=false by simp[h3]]at hot;clear h0 hn h3
     go_wp2
     exact bodyPost_ret (res3t Tryz.results268 _ _) rfl ⟨⟨out,q,by rw[un HV];rfl,un HG⟩,un HB⟩
end Go.Proofs.YtliadckofhblnaaGreatDoor.Nm
namespace Go.Proofs.YtliadckofhblnaaGreatDoor
open Go.RowKit
theorem lg_det {s:ByteArray} {p:Nat} {f:Int} {acc o1 o2:List UInt8} {q1 q2:Nat} (h1:Nm.Lg s p f acc o1 q1) (h2:Nm.Lg s p f acc o2 q2):o1=o2∧q1=q2:=by
  induction h1 with
  | stop p f acc hl hc=>
    cases h2 with
    | stop=>exact⟨rfl,rfl⟩
    | done _ _ _ hn=>exact absurd hl hn
    | step _ _ _ _ _ _ hc' _=>rw[hc]at hc';cases hc'
  | done p f acc hn=>
    cases h2 with
    | stop _ _ _ hl=>exact absurd hl hn
    | done=>exact⟨rfl,rfl⟩
    | step _ _ _ _ _ hl _ _=>exact absurd hl hn
  | step p f acc out q hl hc _ ih=>
    cases h2 with
    | stop _ _ _ _ hc'=>rw[hc]at hc';cases hc'
    | done _ _ _ hn=>exact absurd hl hn
    | step _ _ _ _ _ _ _ h'=>exact ih h'
theorem nameRight (s:ByteArray) (w:World) (h:Nm.Lg s 0 0 [] s.data.toList s.size) (h0:s.size≠0) (h40:s.size≤40) (hin:s.data.toList≠[105,110]) :
    Calls Tryz.prog 234 #[.string s] w fun r w'=>r=.returned (.bool true)∧Bw w w':=by
  have HF : Hid (∀ W, Calls Tryz.prog 268 #[.string s] W fun e w'=>e=.returned (.tuple #[.string s,I 0,I 0])∧Bw W w'):=fun W=>by
    refine(Nm.fold_any s W (by omega)).mono ?_;rintro e w' ⟨⟨out,q,rfl,hl⟩,hb⟩;obtain⟨rfl,rfl⟩:=lg_det h hl;refine⟨?_,hb⟩;unfold Nm.foldV
    rw [if_neg (by omega), if_neg (by have:s.data.toList.length=s.size:=by simp
                                      omega),if_neg hin]
  clear h h0 h40 hin;go_enter Tryz.func234,Tryz.ntmps234
  go_wp2_with (go_at_call 268;go_must(refine(un HF _).mono ?_;rintro e w1 ⟨rfl,hb⟩;have HB:=zAb hb;clear hb))
  go_ret
  exact⟨rfl,un HB⟩
theorem lg_step {s:ByteArray} {p:Nat} {f:Int} {acc out:List UInt8} {q:Nat} (p':Nat) (f':Int) (acc':List UInt8) (h1:p<s.size) (h2:Nm.contB p f (Utf8.decode s p).1=true) (h3:p+(Utf8.decode s p).2=p') (h4:Nm.firstOf p f (Utf8.decode s p).1=f') (h5:acc ++ Lib.encodeRune (Nm.foldR (Utf8.decode s p).1)=acc') (h:Nm.Lg s p' f' acc' out q):Nm.Lg s p f acc out q:=by
  subst h3 h4 h5;exact Nm.Lg.step _ _ _ _ _ h1 h2 h
theorem zAv (a c:ByteArray) (w:World) (h1:∀W,Calls Tryz.prog 234 #[.string a] W fun r w'=>r=.returned (.bool true)∧Bw W w') (h2:∀W,Calls Tryz.prog 234 #[.string c] W fun r w'=>r=.returned (.bool true)∧Bw W w') :
    Calls Tryz.prog 169 #[.string a,.string c] w fun r w'=>r=.returned (.bool true)∧Bw w w':=by
  have H1:=zAb h1;have H2:=zAb h2;clear h1 h2;go_enter Tryz.func169,Tryz.ntmps169
  go_wp2_with (first
    | (go_at_call_of 234 a;go_must(refine(un H1 _).mono ?_;rintro e w1 ⟨rfl,hb⟩;have HB1:=zAb hb;clear hb))
    | (go_at_call_of 234 c;go_must(refine(un H2 _).mono ?_;rintro e w2 ⟨rfl,hb⟩;have HB2:=zAb (bt HB1 hb);clear hb)))
  go_ret
  exact⟨rfl,un HB2⟩
theorem rightUnit_any (nm sy fn fd on od:ByteArray) (d0 d1 d2 d3 d4 d5 d6 d7 tk:Int) (w:World)
  (h36:∀W,Below w.heap.size w W→Calls Tryz.prog 169 #[.string nm,.string sy] W fun r w'=>r=.returned (.bool true)∧Bw W w')
  (h37:∀W,Below w.heap.size w W→Calls Tryz.prog 170 #[.agg #[I d0,I d1,I d2,I d3,I d4,I d5,I d6,I d7]] W fun r w'=>r=.returned (.bool true)∧Bw W w')
  (h38:∀W,Below w.heap.size w W→Calls Tryz.prog 171 #[.agg #[.string fn,.string fd]] W fun r w'=>r=.returned (.bool true)∧Bw W w')
  (h39:∀W,Below w.heap.size w W→Calls Tryz.prog 172 #[.agg #[.string on,.string od]] W fun r w'=>r=.returned (.bool true)∧Bw W w')
  (h40:∀W,Below w.heap.size w W→Calls Tryz.prog 173 #[.agg #[.string nm,.string sy,I d0,I d1,I d2,I d3,I d4,I d5,I d6,I d7,.string fn,.string fd,.string on,.string od,I tk]] W fun r w'=>r=.returned (.bool true)∧Bw W w') :
  Calls Tryz.prog 96 #[.agg #[.string nm,.string sy,I d0,I d1,I d2,I d3,I d4,I d5,I d6,I d7,.string fn,.string fd,.string on,.string od,I tk]] w fun r w'=>r=.returned (.bool true)∧Bw w w':=by
 obtain⟨V,hV⟩:∃V,V=w.alloc (.cells #[.string nm,.string sy,I d0,I d1,I d2,I d3,I d4,I d5,I d6,I d7,.string fn,.string fd,.string on,.string od,I tk] 30):=⟨_,rfl⟩;have HU0:Hid (zAc V w.heap.size 30 #[.string nm,.string sy,I d0,I d1,I d2,I d3,I d4,I d5,I d6,I d7,.string fn,.string fd,.string on,.string od,I tk]):=by rw[hV];exact zAc.new _ _ _
 have HB0:Hid (Bw w V):=by rw[hV];exact bA
 have HV:=zAb hV;have H36:=zAb h36;have H37:=zAb h37;have H38:=zAb h38;have H39:=zAb h39;have H40:=zAb h40;clear hV h36 h37 h38 h39 h40;go_enter Tryz.func96,Tryz.ntmps96
 go_upto_region 1 with fail
 rw[←un HV];clear HV;have u0:V.cell? ⟨w.heap.size,0,none⟩=some (.string nm):=(un HU0).ub.c 0 _ rfl;have u1:V.cell? ⟨w.heap.size,1,none⟩=some (.string sy):=(un HU0).ub.c 1 _ rfl;have u2:V.cell? ⟨w.heap.size,2,none⟩=some (I d0):=(un HU0).ub.c 2 _ rfl;have u3:V.cell? ⟨w.heap.size,3,none⟩=some (I d1):=(un HU0).ub.c 3 _ rfl;have u4:V.cell? ⟨w.heap.size,4,none⟩=some (I d2):=(un HU0).ub.c 4 _ rfl;have u5:V.cell? ⟨w.heap.size,5,none⟩=some (I d3):=(un HU0).ub.c 5 _ rfl;have u6:V.cell? ⟨w.heap.size,6,none⟩=some (I d4):=(un HU0).ub.c 6 _ rfl;have u7:V.cell? ⟨w.heap.size,7,none⟩=some (I d5):=(un HU0).ub.c 7 _ rfl;have u8:V.cell? ⟨w.heap.size,8,none⟩=some (I d6):=(un HU0).ub.c 8 _ rfl;have u9:V.cell? ⟨w.heap.size,9,none⟩=some (I d7):=(un HU0).ub.c 9 _ rfl;have u10:V.cell? ⟨w.heap.size,10,none⟩=some (.string fn):=(un HU0).ub.c 10 _ rfl;have u11:V.cell? ⟨w.heap.size,11,none⟩=some (.string fd):=(un HU0).ub.c 11 _ rfl;have u12:V.cell? ⟨w.heap.size,12,none⟩=some (.string on):=(un HU0).ub.c 12 _ rfl;have u13:V.cell? ⟨w.heap.size,13,none⟩=some (.string od):=(un HU0).ub.c 13 _ rfl;have u14:V.cell? ⟨w.heap.size,14,none⟩=some (I tk):=(un HU0).ub.c 14 _ rfl
 go_wp2_with (first
  | (go_at_call 169;go_must(refine(un H36 _ (un HB0)).mono ?_;rintro e W1 ⟨rfl,hb⟩;have HU1:=zAb ((un HU0).later hb);have HB1:=zAb (bt HB0 hb);clear hb u0 u1 u2 u3 u4 u5 u6 u7 u8 u9 u10 u11 u12 u13 u14;have u0:W1.cell? ⟨w.heap.size,0,none⟩=some (.string nm):=(un HU1).ub.c 0 _ rfl;have u1:W1.cell? ⟨w.heap.size,1,none⟩=some (.string sy):=(un HU1).ub.c 1 _ rfl;have u2:W1.cell? ⟨w.heap.size,2,none⟩=some (I d0):=(un HU1).ub.c 2 _ rfl;have u3:W1.cell? ⟨w.heap.size,3,none⟩=some (I d1):=(un HU1).ub.c 3 _ rfl;have u4:W1.cell? ⟨w.heap.size,4,none⟩=some (I d2):=(un HU1).ub.c 4 _ rfl;have u5:W1.cell? ⟨w.heap.size,5,none⟩=some (I d3):=(un HU1).ub.c 5 _ rfl;have u6:W1.cell? ⟨w.heap.size,6,none⟩=some (I d4):=(un HU1).ub.c 6 _ rfl;have u7:W1.cell? ⟨w.heap.size,7,none⟩=some (I d5):=(un HU1).ub.c 7 _ rfl;have u8:W1.cell? ⟨w.heap.size,8,none⟩=some (I d6):=(un HU1).ub.c 8 _ rfl;have u9:W1.cell? ⟨w.heap.size,9,none⟩=some (I d7):=(un HU1).ub.c 9 _ rfl;have u10:W1.cell? ⟨w.heap.size,10,none⟩=some (.string fn):=(un HU1).ub.c 10 _ rfl;have u11:W1.cell? ⟨w.heap.size,11,none⟩=some (.string fd):=(un HU1).ub.c 11 _ rfl;have u12:W1.cell? ⟨w.heap.size,12,none⟩=some (.string on):=(un HU1).ub.c 12 _ rfl;have u13:W1.cell? ⟨w.heap.size,13,none⟩=some (.string od):=(un HU1).ub.c 13 _ rfl;have u14:W1.cell? ⟨w.heap.size,14,none⟩=some (I tk):=(un HU1).ub.c 14 _ rfl))
  | (go_at_call 170;go_must(refine(un H37 _ (un HB1)).mono ?_;rintro e W2 ⟨rfl,hb⟩;have HU2:=zAb ((un HU1).later hb);have HB2:=zAb (bt HB1 hb);clear hb u0 u1 u2 u3 u4 u5 u6 u7 u8 u9 u10 u11 u12 u13 u14;have u0:W2.cell? ⟨w.heap.size,0,none⟩=some (.string nm):=(un HU2).ub.c 0 _ rfl;have u1:W2.cell? ⟨w.heap.size,1,none⟩=some (.string sy):=(un HU2).ub.c 1 _ rfl;have u2:W2.cell? ⟨w.heap.size,2,none⟩=some (I d0):=(un HU2).ub.c 2 _ rfl;have u3:W2.cell? ⟨w.heap.size,3,none⟩=some (I d1):=(un HU2).ub.c 3 _ rfl;have u4:W2.cell? ⟨w.heap.size,4,none⟩=some (I d2):=(un HU2).ub.c 4 _ rfl;have u5:W2.cell? ⟨w.heap.size,5,none⟩=some (I d3):=(un HU2).ub.c 5 _ rfl;have u6:W2.cell? ⟨w.heap.size,6,none⟩=some (I d4):=(un HU2).ub.c 6 _ rfl;have u7:W2.cell? ⟨w.heap.size,7,none⟩=some (I d5):=(un HU2).ub.c 7 _ rfl;have u8:W2.cell? ⟨w.heap.size,8,none⟩=some (I d6):=(un HU2).ub.c 8 _ rfl;have u9:W2.cell? ⟨w.heap.size,9,none⟩=some (I d7):=(un HU2).ub.c 9 _ rfl;have u10:W2.cell? ⟨w.heap.size,10,none⟩=some (.string fn):=(un HU2).ub.c 10 _ rfl;have u11:W2.cell? ⟨w.heap.size,11,none⟩=some (.string fd):=(un HU2).ub.c 11 _ rfl;have u12:W2.cell? ⟨w.heap.size,12,none⟩=some (.string on):=(un HU2).ub.c 12 _ rfl;have u13:W2.cell? ⟨w.heap.size,13,none⟩=some (.string od):=(un HU2).ub.c 13 _ rfl;have u14:W2.cell? ⟨w.heap.size,14,none⟩=some (I tk):=(un HU2).ub.c 14 _ rfl))
  | (go_at_call 171;go_must(refine(un H38 _ (un HB2)).mono ?_;rintro e W3 ⟨rfl,hb⟩;have HU3:=zAb ((un HU2).later hb);have HB3:=zAb (bt HB2 hb);clear hb u0 u1 u2 u3 u4 u5 u6 u7 u8 u9 u10 u11 u12 u13 u14;have u0:W3.cell? ⟨w.heap.size,0,none⟩=some (.string nm):=(un HU3).ub.c 0 _ rfl;have u1:W3.cell? ⟨w.heap.size,1,none⟩=some (.string sy):=(un HU3).ub.c 1 _ rfl;have u2:W3.cell? ⟨w.heap.size,2,none⟩=some (I d0):=(un HU3).ub.c 2 _ rfl;have u3:W3.cell? ⟨w.heap.size,3,none⟩=some (I d1):=(un HU3).ub.c 3 _ rfl;have u4:W3.cell? ⟨w.heap.size,4,none⟩=some (I d2):=(un HU3).ub.c 4 _ rfl;have u5:W3.cell? ⟨w.heap.size,5,none⟩=some (I d3):=(un HU3).ub.c 5 _ rfl;have u6:W3.cell? ⟨w.heap.size,6,none⟩=some (I d4):=(un HU3).ub.c 6 _ rfl;have u7:W3.cell? ⟨w.heap.size,7,none⟩=some (I d5):=(un HU3).ub.c 7 _ rfl;have u8:W3.cell? ⟨w.heap.size,8,none⟩=some (I d6):=(un HU3).ub.c 8 _ rfl;have u9:W3.cell? ⟨w.heap.size,9,none⟩=some (I d7):=(un HU3).ub.c 9 _ rfl;have u10:W3.cell? ⟨w.heap.size,10,none⟩=some (.string fn):=(un HU3).ub.c 10 _ rfl;have u11:W3.cell? ⟨w.heap.size,11,none⟩=some (.string fd):=(un HU3).ub.c 11 _ rfl;have u12:W3.cell? ⟨w.heap.size,12,none⟩=some (.string on):=(un HU3).ub.c 12 _ rfl;have u13:W3.cell? ⟨w.heap.size,13,none⟩=some (.string od):=(un HU3).ub.c 13 _ rfl;have u14:W3.cell? ⟨w.heap.size,14,none⟩=some (I tk):=(un HU3).ub.c 14 _ rfl))
  | (go_at_call 172;go_must(refine(un H39 _ (un HB3)).mono ?_;rintro e W4 ⟨rfl,hb⟩;have HU4:=zAb ((un HU3).later hb);have HB4:=zAb (bt HB3 hb);clear hb u0 u1 u2 u3 u4 u5 u6 u7 u8 u9 u10 u11 u12 u13 u14;have u0:W4.cell? ⟨w.heap.size,0,none⟩=some (.string nm):=(un HU4).ub.c 0 _ rfl;have u1:W4.cell? ⟨w.heap.size,1,none⟩=some (.string sy):=(un HU4).ub.c 1 _ rfl;have u2:W4.cell? ⟨w.heap.size,2,none⟩=some (I d0):=(un HU4).ub.c 2 _ rfl;have u3:W4.cell? ⟨w.heap.size,3,none⟩=some (I d1):=(un HU4).ub.c 3 _ rfl;have u4:W4.cell? ⟨w.heap.size,4,none⟩=some (I d2):=(un HU4).ub.c 4 _ rfl;have u5:W4.cell? ⟨w.heap.size,5,none⟩=some (I d3):=(un HU4).ub.c 5 _ rfl;have u6:W4.cell? ⟨w.heap.size,6,none⟩=some (I d4):=(un HU4).ub.c 6 _ rfl;have u7:W4.cell? ⟨w.heap.size,7,none⟩=some (I d5):=(un HU4).ub.c 7 _ rfl;have u8:W4.cell? ⟨w.heap.size,8,none⟩=some (I d6):=(un HU4).ub.c 8 _ rfl;have u9:W4.cell? ⟨w.heap.size,9,none⟩=some (I d7):=(un HU4).ub.c 9 _ rfl;have u10:W4.cell? ⟨w.heap.size,10,none⟩=some (.string fn):=(un HU4).ub.c 10 _ rfl;have u11:W4.cell? ⟨w.heap.size,11,none⟩=some (.string fd):=(un HU4).ub.c 11 _ rfl;have u12:W4.cell? ⟨w.heap.size,12,none⟩=some (.string on):=(un HU4).ub.c 12 _ rfl;have u13:W4.cell? ⟨w.heap.size,13,none⟩=some (.string od):=(un HU4).ub.c 13 _ rfl;have u14:W4.cell? ⟨w.heap.size,14,none⟩=some (I tk):=(un HU4).ub.c 14 _ rfl))
  | (go_at_call 173;go_must(refine(un H40 _ (un HB4)).mono ?_;rintro e W5 ⟨rfl,hb⟩;have HU5:=zAb ((un HU4).later hb);have HB5:=zAb (bt HB4 hb);clear hb u0 u1 u2 u3 u4 u5 u6 u7 u8 u9 u10 u11 u12 u13 u14;have u0:W5.cell? ⟨w.heap.size,0,none⟩=some (.string nm):=(un HU5).ub.c 0 _ rfl;have u1:W5.cell? ⟨w.heap.size,1,none⟩=some (.string sy):=(un HU5).ub.c 1 _ rfl;have u2:W5.cell? ⟨w.heap.size,2,none⟩=some (I d0):=(un HU5).ub.c 2 _ rfl;have u3:W5.cell? ⟨w.heap.size,3,none⟩=some (I d1):=(un HU5).ub.c 3 _ rfl;have u4:W5.cell? ⟨w.heap.size,4,none⟩=some (I d2):=(un HU5).ub.c 4 _ rfl;have u5:W5.cell? ⟨w.heap.size,5,none⟩=some (I d3):=(un HU5).ub.c 5 _ rfl;have u6:W5.cell? ⟨w.heap.size,6,none⟩=some (I d4):=(un HU5).ub.c 6 _ rfl;have u7:W5.cell? ⟨w.heap.size,7,none⟩=some (I d5):=(un HU5).ub.c 7 _ rfl;have u8:W5.cell? ⟨w.heap.size,8,none⟩=some (I d6):=(un HU5).ub.c 8 _ rfl;have u9:W5.cell? ⟨w.heap.size,9,none⟩=some (I d7):=(un HU5).ub.c 9 _ rfl;have u10:W5.cell? ⟨w.heap.size,10,none⟩=some (.string fn):=(un HU5).ub.c 10 _ rfl;have u11:W5.cell? ⟨w.heap.size,11,none⟩=some (.string fd):=(un HU5).ub.c 11 _ rfl;have u12:W5.cell? ⟨w.heap.size,12,none⟩=some (.string on):=(un HU5).ub.c 12 _ rfl;have u13:W5.cell? ⟨w.heap.size,13,none⟩=some (.string od):=(un HU5).ub.c 13 _ rfl;have u14:W5.cell? ⟨w.heap.size,14,none⟩=some (I tk):=(un HU5).ub.c 14 _ rfl)))
 go_ret
 exact⟨rfl,un HB5⟩
end Go.Proofs.YtliadckofhblnaaGreatDoor
namespace Go.Proofs.YtliadckofhblnaaGreatDoor
open Go.RowKit Go.Maps Go.ChangeMaps Go.WideMaps
variable {K:Nat→Nat→Array Value→Prop}
def Rm (_:Value):Option (DataW Unit×List MemPlace):=some (.lit (.bool true),[])
theorem under42:Tryz.prog.underlying 112=some (.map 9 192):=by kernel_rfl
theorem under43:Tryz.prog.underlying 113=some (.slice 121):=by kernel_rfl
theorem info52:(Tryz.prog.info? 121).map (fun i=>(i.zero,i.size,i.bytes))=some (some (.pointer none),1,8):=by kernel_rfl
theorem zero68 (W:World):(zeroValue 192).run Tryz.prog W=.ok (.agg #[.pointer none,.pointer none]) W:=by kernel_rfl
theorem row_later {w w':World} {base e s n:Nat} {v:Value} {xs:List Value} (h:w.ownsRow base e s v n xs) (hb:Below w.heap.size w w'):w'.ownsRow base e s v n xs:=by
  obtain⟨hl,h⟩:=h;refine⟨hl,?_⟩;rcases h with h|⟨g,cap,cur,hv,hbg,hg,h1,h2,h3,h4⟩
  · exact Or.inl h
  · exact Or.inr ⟨g,cap,cur,hv,hbg,(hb.block g (Array.getElem?_eq_some_iff.1 hg).1).trans hg,h1,h2,h3,h4⟩
theorem map_later {w w':World} {b n:Nat} {D:DataW Unit} (h:w.ownsMap Tryz.prog 9 Rm b n D) (hb:Below w.heap.size w w'):w'.ownsMap Tryz.prog 9 Rm b n D:=by
  have hlt:=h.lt;obtain⟨es,clock,hh,F,hs,hD⟩:=h;exact⟨es,clock,(hb.block b hlt).trans hh,F,hs,hD⟩
theorem zAc.grown {W V:World} {g ty:Nat} {vs:Array Value} {row:Option Nat} (h:zAc W g ty vs) (hg:W.grownBy V row) (hne:some g≠row):zAc V g ty vs:=(hg.block g h.lt hne).trans h
theorem zEn {W:World} {base e s n g ty:Nat} {v:Value} {xs:List Value} {us:Array Value} (h:W.ownsRow base e s v n xs) (ho:zAc W g ty us) (hne:ty≠e):some g≠v.ownBlock:=by
  rcases h.2 with ⟨rfl,_⟩|⟨g',cap,cur,rfl,_,hg,_⟩
  · intro e;cases e
  · intro e
    have e':g=g':=by simpa [Value.ownBlock] using e
    subst e';unfold zAc at ho
    rw[ho]at hg;simp at hg
    exact hne hg.2
theorem row_ne_map {W:World} {base e s n b k:Nat} {v:Value} {xs:List Value} {D:DataW Unit} (h:W.ownsRow base e s v n xs) (ho:W.ownsMap Tryz.prog 9 Rm b k D):some b≠v.ownBlock:=by
  rcases h.2 with ⟨rfl,_⟩|⟨g',cap,cur,rfl,_,hg,_⟩
  · intro e;cases e
  · intro e
    have e':b=g':=by simpa [Value.ownBlock] using e
    subst e';obtain⟨es,clock,hb,_⟩:=ho;rw[hb]at hg
    cases hg
theorem zFs {W:World} {b k g ty:Nat} {D:DataW Unit} {us:Array Value} (ho:W.ownsMap Tryz.prog 9 Rm b k D) (h:zAc W g ty us):g≠b:=by
  intro e;subst e;obtain⟨es,clock,hb,_⟩:=ho;unfold zAc at h
  rw[hb]at h
  cases h
theorem wp_mapUpdate_own {H:Type} {P:Program} (w:World) {o:Oper} {a:Act} {K':Act→World→Prop} {Q:Exit→Act→World→Prop} (m x v:Operand) (t:TypeId) (hop:o.op=Op.mapUpdate t m x v)
    (k e:TypeId) (K:Keyed P k) (ht:P.underlying t=some (.map k e)) (R:Value→Option (DataW H×List MemPlace)) (b n:Nat) (D:DataW H)
    (hm:a.eval m=.map (some b)) (hown:w.ownsMap P k R b n D) (hn:n<maxLen) (key val:Value) (kl:Lit) (hx:a.eval x=key) (hv:a.eval v=val) (hkey:keyOf P k key=some kl)
    (d:DataW H) (ps:List MemPlace) (hval:R val=some (d,ps))
    (hK:∀w',w'.ownsMap P k R b (n+1) (D.put kl d)→w.grownBy w' (some b)→K' (a.put o.dst undef) w'):o.wp P a w K' Q:=by
  obtain⟨w',hrun,r1,r2⟩:=hown.update K ht hn hkey hval;unfold Oper.wp;simp[execOp,hop,hm,hx,hv,hrun,Result.andThen];exact hK w' r1 r2
theorem one_new (W:World) (x:Value):∀j u,[x][j]?=some u→(W.alloc (.cells #[x] 121)).cell? ((⟨W.heap.size,0,none⟩:Addr).add j)=some u:=by
  intro j u hj
  cases j with
  | zero=>
    obtain rfl:x=u:=by simpa using hj
    exact(zAc.new W #[x] 121).ub.c 0 _ rfl
  | succ j=>simp at hj
theorem one_one (p:Nat):∀u∈[Value.pointer (some ⟨p,0,none⟩)],u.oneCell'=true:=by
  intro u hu;obtain rfl:=List.mem_singleton.1 hu
  rfl
theorem ty_ne {W:World} {g k ty sy:Nat} {vs us:Array Value} (h:zAc W g ty vs) (h':zAc W k sy us) (hne:ty≠sy):¬g=k:=by
  intro e;subst e;unfold zAc at h h'
  rw[h]at h';simp at h'
  exact hne h'.2
theorem wpR_map {H:Type} {P:Program} {ops:Array Oper} {Q:Exit→Act→World→Prop} {md:Region.Mode} {S S7:World→Prop} {k0:Nat} {i:Nat} {o:Oper} {nn:Nat} {l:Array Bool} {a:Act} {w:World} (hr:Region.ready md ops l=[i]) (ho:ops[i]?=some o) (hg:o.guard=none) (hl:(l.setIfInBounds i true).getD k0 false=true)
    (m x v:Operand) (t:TypeId) (hop:o.op=Op.mapUpdate t m x v)
    (k e:TypeId) (K:Keyed P k) (ht:P.underlying t=some (.map k e)) (R:Value→Option (DataW H×List MemPlace)) (b n:Nat) (D:DataW H)
    (hm:a.eval m=.map (some b)) (hown:w.ownsMap P k R b n D) (hn:n<maxLen) (key val:Value) (kl:Lit) (hx:a.eval x=key) (hv:a.eval v=val) (hkey:keyOf P k key=some kl)
    (d:DataW H) (ps:List MemPlace) (hval:R val=some (d,ps))
    (h:∀w',w'.ownsMap P k R b (n+1) (D.put kl d)→w.grownBy w' (some b)→S7 w'∧wpR P md ops Q k0 S S7 nn (l.setIfInBounds i true) (a.put o.dst undef) w'):wpR P md ops Q k0 S S7 (nn+1) l a w :=
  zAj hr ho hg hl (fun _ hK=>wp_mapUpdate_own w m x v t hop k e K ht R b n D hm hown hn key val kl hx hv hkey d ps hval (fun w' h1 h2=>hK _ _ (h w' h1 h2).1 (h w' h1 h2).2))
structure RG (W:World) (K:Nat→Nat→Array Value→Prop) (base r m:Nat) (vs:Value) (ps:List Nat) (us:List (Array Value)) (n:Nat) (D:DataW Unit):Prop where
  k0:zAc W r 116 #[vs,.slice none 0 0,.map (some m),.bool false]
  row:W.ownsRow base 121 1 vs ps.length (ps.map fun p=>Value.pointer (some ⟨p,0,none⟩))
  mp:W.ownsMap Tryz.prog 9 Rm m n D
  un:∀(i p:Nat) (u:Array Value),ps[i]?=some p→us[i]?=some u→zAc W p 132 (u.push (.slice none 0 0))
  bs:base≤W.heap.size
  ex:∀(g ty:Nat) (us:Array Value),K g ty us→ty≠116∧ty≠121∧zAc W g ty us
theorem RG.later {W V:World} {base r m n:Nat} {vs:Value} {ps:List Nat} {us:List (Array Value)} {D:DataW Unit} (h:RG W K base r m vs ps us n D) (hb:Below W.heap.size W V):RG V K base r m vs ps us n D :=
  ⟨h.k0.later hb,row_later h.row hb,map_later h.mp hb,fun i p u h1 h2=>(h.un i p u h1 h2).later hb,Nat.le_trans h.bs hb.size,fun g ty us hk=>⟨(h.ex g ty us hk).1,(h.ex g ty us hk).2.1,(h.ex g ty us hk).2.2.later hb⟩⟩
theorem RG.grown {W V:World} {base r m n:Nat} {vs:Value} {ps:List Nat} {us:List (Array Value)} {D:DataW Unit} (h:RG W K base r m vs ps us n D) (hg:W.grownBy V (some m)) {n':Nat} {D':DataW Unit} (hm:V.ownsMap Tryz.prog 9 Rm m n' D'):RG V K base r m vs ps us n' D':=by
  refine⟨h.k0.grown hg (fun e=>zFs h.mp h.k0 (by simpa using e)),?_,hm,fun i p u h1 h2=>(h.un i p u h1 h2).grown hg (fun e=>zFs h.mp (h.un i p u h1 h2) (by simpa using e)),?_,fun g ty us hk=>⟨(h.ex g ty us hk).1,(h.ex g ty us hk).2.1,(h.ex g ty us hk).2.2.grown hg (fun e=>zFs h.mp (h.ex g ty us hk).2.2 (by simpa using e))⟩⟩
  · obtain⟨hl,h1⟩:=h.row
    refine⟨hl,?_⟩;rcases h1 with h1|⟨g,cap,cur,hv,hbg,hgg,h2,h3,h4,h5⟩
    · exact Or.inl h1
    · refine Or.inr ⟨g,cap,cur,hv,hbg,(hg.block g (Array.getElem?_eq_some_iff.1 hgg).1 (fun e=>?_)).trans hgg,h2,h3,h4,h5⟩
      have e':g=m:=by simpa using e
      subst e';obtain⟨es,clock,hb,_⟩:=h.mp;rw[hb]at hgg
      cases hgg
  · exact Nat.le_trans h.bs hg.size
theorem RG.more {W A V:World} {base r m n p:Nat} {vs v':Value} {ps:List Nat} {us:List (Array Value)} {u:Array Value} {D:DataW Unit} (h:RG W K base r m vs ps us n D) (hlen:us.length=ps.length)
    (hb:Below W.heap.size W A) (hg:A.grownBy V vs.ownBlock) (hp:zAc A p 132 (u.push (.slice none 0 0))) (hr:V.ownsRow base 121 1 v' (ps.length+1) ((ps.map fun p=>Value.pointer (some ⟨p,0,none⟩)) ++ [.pointer (some ⟨p,0,none⟩)])) :
    RG (V.setCell ⟨r,0,none⟩ v') K base r m v' (ps ++ [p]) (us ++ [u]) n D:=by
  have hA:=h.later hb;have k1:zAc V r 116 #[vs,.slice none 0 0,.map (some m),.bool false]:=hA.k0.grown hg (zEn hA.row hA.k0 (by decide));have m1:V.ownsMap Tryz.prog 9 Rm m n D:=hA.mp.kept hg (row_ne_map hA.row hA.mp);refine⟨k1.set 0 v',?_,m1.setCell (Ne.symm (zFs m1 k1)) _,?_,?_,fun g ty us hk=>⟨(h.ex g ty us hk).1,(h.ex g ty us hk).2.1,((hA.ex g ty us hk).2.2.grown hg (zEn hA.row (hA.ex g ty us hk).2.2 (h.ex g ty us hk).2.1)).otherSet (ty_ne ((hA.ex g ty us hk).2.2.grown hg (zEn hA.row (hA.ex g ty us hk).2.2 (h.ex g ty us hk).2.1)) k1 (h.ex g ty us hk).1) _ _⟩⟩
  · obtain⟨_,h1⟩:=hr
    refine⟨by simp,?_⟩;rcases h1 with ⟨_,h1⟩|⟨g,cap,cur,hv,hbg,hgg,h2,h3,h4,h5⟩
    · omega
    · refine Or.inr ⟨g,cap,cur,by simpa using hv,hbg,(Below.heap_setCell V ⟨r,0,none⟩ v' g (fun e=>?_)).trans hgg,by simpa using h2,h3,h4,by simpa using h5⟩
      have e':g=r:=e;subst e';unfold zAc at k1
      rw[k1]at hgg;simp at hgg
  · intro i q w' h1 h2
    have base':∀(i q:Nat) (w':Array Value),ps[i]?=some q→us[i]?=some w'→zAc (V.setCell ⟨r,0,none⟩ v') q 132 (w'.push (.slice none 0 0)):=fun i q w' h1 h2=>by
      have o1:=hA.un i q w' h1 h2;have o2:=o1.grown hg (zEn hA.row o1 (by decide));refine o2.otherSet (fun e=>?_) _ _;subst e;unfold zAc at o2 k1
      rw[k1]at o2;simp at o2
    by_cases hi:i<ps.length
    · exact base' i q w' (by rw[List.getElem?_append_left hi]at h1;exact h1) (by rw[List.getElem?_append_left (by omega)]at h2;exact h2)
    · have hi2:i=ps.length:=by
        have:=(List.getElem?_eq_some_iff.1 h1).1;simp at this
        omega
      subst hi2;have e1:p=q:=by simpa using h1
      have e2:u=w':=by rw[←hlen]at h2;simpa using h2
      subst e1 e2;have o2:=hp.grown hg (zEn hA.row hp (by decide));refine o2.otherSet (fun e=>?_) _ _;subst e;unfold zAc at o2 k1
      rw[k1]at o2;simp at o2
  · have:=hg.size
    have:=h.bs;have:=hb.size;simp
    omega
theorem zFn {B m:Nat} {w W V:World} (h:Below B w W) (hg:W.grownBy V (some m)) (hm:B≤m) (hl:m<W.heap.size):Below B w V:=by
  refine⟨hg.os.trans h.os,hg.tape.trans h.tape,hg.output.trans h.output,Nat.le_trans h.size hg.size,fun k hk=>(hg.block k (by omega) (fun e=>?_)).trans (h.block k hk)⟩;have e':k=m:=by simpa using e
  omega
theorem zHg {W:World} {base e s n:Nat} {v:Value} {xs:List Value} (h:W.ownsRow base e s v n xs):∃a l c,v=.slice a l c:=by
  rcases h.2 with ⟨rfl,_⟩|⟨g,cap,cur,rfl,_⟩
  · exact⟨_,_,_,rfl⟩
  · exact⟨_,_,_,rfl⟩
theorem row_base {W:World} {base e s n:Nat} {v:Value} {xs:List Value} (h:W.ownsRow base e s v n xs):∀j,some j=v.ownBlock→base≤j:=by
  intro j hj;rcases h.2 with ⟨rfl,_⟩|⟨g,cap,cur,rfl,hb,_⟩
  · cases hj
  · have:j=g:=by simpa [Value.ownBlock] using hj
    omega
end Go.Proofs.YtliadckofhblnaaGreatDoor

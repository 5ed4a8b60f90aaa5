/- Add: its three closures, take, Add: a unit that is right and new is put in. -/
import Derived.Test.YtliadckofhblnaaGreatDoorLimb3
import Derived.Test.YtliadckofhblnaaGreatDoorNmWrite
import Derived.Laws.RangeAny
import Derived.Lib.RuneCount
import Derived.Lib.OthersKept
import Derived.Test.YtliadckofhblnaaGreatDoorNmClass
import Derived.Deep.Quiet
import Derived.BigQuiet
import Derived.Test.YtliadckofhblnaaGreatDoorFindB
import Derived.Maps.OwnSet
import Derived.OwnWalk
import Derived.Laws.AppendOwn
import Derived.Laws.EntriesVeiled
set_option maxHeartbeats 8000000
set_option maxRecDepth 100000
namespace Go.Proofs.YtliadckofhblnaaGreatDoor.Nm
open Go.RowKit
def contB (p:Nat) (f r:Int):Bool:=if p=0 then(zCj r == 1 || zCj r == 4)else goesB f r
def firstOf (p:Nat) (f r:Int):Int:=if p=0 then r else f
inductive Lg (s:ByteArray):Nat→Int→List UInt8→List UInt8→Nat→Prop
 | stop (p:Nat) (f:Int) (acc:List UInt8):p<s.size→contB p f (Utf8.decode s p).1=false→Lg s p f acc acc p
 | done (p:Nat) (f:Int) (acc:List UInt8):¬p<s.size→Lg s p f acc acc s.size
 | step (p:Nat) (f:Int) (acc out:List UInt8) (q:Nat):p<s.size→contB p f (Utf8.decode s p).1=true→Lg s (p+(Utf8.decode s p).2) (firstOf p f (Utf8.decode s p).1) (acc ++ Lib.encodeRune (foldR (Utf8.decode s p).1)) out q→Lg s p f acc out q
theorem foldR_range (r:Int) (h0:0≤r) (h1:r≤2147483647):-2147483648≤foldR r∧foldR r≤2147483647:=by
 unfold foldR
 repeat' split
 all_goals omega
theorem zHs (a b:List UInt8):Lib.byteCells (a ++ b)=Lib.byteCells a ++ Lib.byteCells b:=by simp[Lib.byteCells]
theorem byteCells_len (a:List UInt8):(Lib.byteCells a).length=a.length:=by simp[Lib.byteCells]
theorem longest_any (s:ByteArray) (w:World) (hs:s.size≤1000000000000) :
 Calls Tryz.prog 300 #[.string s] w fun e w'=>(∃out q,e=.returned (.tuple #[.string ⟨out.toArray⟩,I (q:Nat)])∧Lg s 0 0 [] out q)∧Bw w w':=by
 go_enter Tryz.func300,Tryz.ntmps300
 go_upto_region 4 with fail
 go_loopw [5] (fun f wr=>∃(p:Nat) (fr:Int) (acc:List UInt8),f=.int .i32 fr∧acc.length≤4*p∧Hid (wr.heap[w.heap.size+1]?=some (.stringIter s p))∧Hid (Lib.IsBuilderF 265 5 w.heap.size w.heap.size (Lib.byteCells acc) wr)∧Hid (Bw w wr)∧Hid (∀out q,Lg s p fr acc out q→Lg s 0 0 [] out q)) (fun _ wr=>s.size - wr.iterPos (w.heap.size+1))
 case atStart=>
  refine⟨0,0,[],rfl,by simp,?_,?_,bA.alloc (by simp) _,fun _ _ h=>h⟩
  ·show _=_
   rw[show w.heap.size+1=(w.alloc (.cells #[.pointer none,.slice none 0 0] 265)).heap.size by simp];exact World.iter_heap _ _ _
  ·refine .inl ⟨Nat.le_refl _,.slice none 0 0,?_,World.ownsRowF_nil _ _ _ _,by simp[Value.ownBlock]⟩
   exact(Below.heap_alloc _ _ _ (by simp)).trans (heap_alloc_new w _)
 case round=>
  obtain⟨p,fr,acc,rfl,hacc,HI,HBU,HB,HL⟩:=hrel;have hB0:w.heap.size≤wr.heap.size:=(un HB).size
  by_cases hlt:p<s.size
  ·obtain⟨r,p2,hr,hp2⟩:∃(r:Int) (p2:Nat),((Utf8.decode s p).1:Int)=r∧p+(Utf8.decode s p).2=p2:=⟨_,_,rfl,rfl⟩
   have hw:=Lib.decode_width_pos s p hlt;have hpp:p<p2:=by omega
   have hr01:0≤r∧r≤2147483647:=by have:=decode_le s p;omega
   obtain⟨W2,hW2⟩:∃W2,W2=wr.iterAt (w.heap.size+1) s p2:=⟨_,rfl⟩
   have hnx:∀ty,(Instr.next (.pointer (some ⟨w.heap.size+1,0,none⟩)) true ty).run Tryz.prog wr=.ok (.tuple #[.bool true,I p,.int .i32 r]) W2:=fun ty=>by
    rw[hW2,←hp2,←hr];exact Lib.run_next_any_at wr _ s p ty (un HI) hlt
   have HI2:Hid (W2.heap[w.heap.size+1]?=some (.stringIter s p2)):=by show W2.heap[_]?=_;rw[hW2];exact Lib.iterAt_heap _ _ _ _ _ (un HI)
   have HBU2:Hid (Lib.IsBuilderF 265 5 w.heap.size w.heap.size (Lib.byteCells acc) W2):=by show Lib.IsBuilderF _ _ _ _ _ W2;rw[hW2];exact(un HBU).iterAt (un HI) _
   have HB2:Hid (Bw w W2):=by show Below _ _ W2;rw[hW2];exact Lib.below_iterAt (un HB) (by omega) _ _
   have HM:Hid (wr.iterPos (w.heap.size+1)=p):=iterPos_of (un HI);have HBG:=zAb (begins_any r W2);have HGO:=zAb (fun f=>goesOn_any f r W2);have HFO:=zAb (folded_any r W2);have hfr:=foldR_range r hr01.1 hr01.2;have HWR:=zAb (writeRune_any w.heap.size w.heap.size (Lib.byteCells acc) (foldR r) hfr.1 hfr.2 W2 (un HBU2) (by rw[byteCells_len];omega) (un HB2).size);have HSG:=zAb (Tryz.Builder_String_any_k w.heap.size w.heap.size acc W2 (un HBU2) (un HB2).size)
   have hacc2:(acc ++ Lib.encodeRune (foldR r)).length≤4*p2:=by
    have h1:=(Lib.runeCells_le (foldR r)).2;rw[Lib.runeCells_length]at h1;rw[List.length_append];omega
   cases hc:contB p fr r with
   | false=>
    have HST:Hid (Lg s 0 0 [] acc p):=un HL acc p (.stop p fr acc hlt (by rw[hr];exact hc));clear hW2 HI HBU HB HL hr hp2 hw
    by_cases hp0:p=0
    ·subst hp0
     have hcc:(zCj r == 1 || zCj r == 4)=false:=hc;rw[hcc]at HBG;clear hc hcc
     go_wp2_with (first
      | (go_at_call 360;refine(un HBG).mono ?_;rintro e w3 ⟨rfl,rfl⟩)
      | (go_at_call 252;refine(un HSG).mono ?_;rintro e w3 ⟨rfl,_,hb3,_⟩))
     go_ret2
     exact⟨⟨acc,0,rfl,un HST⟩,(un HB2).trans hb3⟩
    ·have hcc:goesB fr r=false:=by unfold contB at hc;rw[if_neg hp0]at hc;exact hc
     have HG2:=zAb (un HGO fr);rw[hcc]at HG2;have hpz:((p:Int) == 0)=false:=by rw[beq_eq_false_iff_ne];omega
     have hpp0:0<p:=by omega
     clear hc hcc hp0
     go_wp2_with (first
      | (go_at_call 361;refine(un HG2).mono ?_;rintro e w3 ⟨rfl,rfl⟩)
      | (go_at_call 252;refine(un HSG).mono ?_;rintro e w3 ⟨rfl,_,hb3,_⟩))
     go_ret2
     exact⟨⟨acc,p,rfl,un HST⟩,(un HB2).trans hb3⟩
   | true=>
    obtain⟨FR,hFR⟩:∃FR,FR=firstOf p fr r:=⟨_,rfl⟩;have HST:Hid (∀out q,Lg s p2 FR (acc ++ Lib.encodeRune (foldR r)) out q→Lg s 0 0 [] out q):=fun out q h=>un HL out q (.step p fr acc out q hlt (by rw[hr];exact hc) (by rw[hr,hp2,←hFR];exact h))
    clear hW2 HI HBU HB HL hr hp2 hw
    by_cases hp0:p=0
    ·subst hp0
     have hcc:(zCj r == 1 || zCj r == 4)=true:=hc;rw[hcc]at HBG;obtain rfl:FR=r:=hFR;clear hc hcc
     go_wp2_with (first
      | (go_at_call 360;refine(un HBG).mono ?_;rintro e w3 ⟨rfl,rfl⟩)
      | (go_at_call 363;refine(un HFO).mono ?_;rintro e w3 ⟨rfl,rfl⟩)
      | (go_at_call 362;refine(un HWR).mono ?_;rintro e w4 ⟨⟨n4,rfl⟩,hbu4,hb4,hk4⟩))
     have HI4:Hid (w4.heap[w.heap.size+1]?=some (.stringIter s p2)):=hk4.iter (un HI2) (by omega);have HBU4:Hid (Lib.IsBuilderF 265 5 w.heap.size w.heap.size (Lib.byteCells (acc ++ Lib.encodeRune (foldR FR))) w4):=.inr (by rw[zHs,Lib.byteCells_encodeRune];exact hbu4);have HB4:Hid (Bw w w4):=(un HB2).trans hb4;clear hbu4 hb4 hk4
     go_roundw
     case rel=>exact⟨p2,FR,acc ++ Lib.encodeRune (foldR FR),rfl,hacc2,HI4,HBU4,HB4,HST⟩
     case measure=>rw[un HM,iterPos_of (un HI4)];omega
    ·have hcc:goesB fr r=true:=by unfold contB at hc;rw[if_neg hp0]at hc;exact hc
     have HG2:=zAb (un HGO fr);rw[hcc]at HG2;obtain rfl:FR=fr:=by rw[hFR];unfold firstOf;rw[if_neg hp0]
     have hpz:((p:Int) == 0)=false:=by rw[beq_eq_false_iff_ne];omega
     have hpp0:0<p:=by omega
     clear hc hcc hp0 hFR
     go_wp2_with (first
      | (go_at_call 361;refine(un HG2).mono ?_;rintro e w3 ⟨rfl,rfl⟩)
      | (go_at_call 363;refine(un HFO).mono ?_;rintro e w3 ⟨rfl,rfl⟩)
      | (go_at_call 362;refine(un HWR).mono ?_;rintro e w4 ⟨⟨n4,rfl⟩,hbu4,hb4,hk4⟩))
     have HI4:Hid (w4.heap[w.heap.size+1]?=some (.stringIter s p2)):=hk4.iter (un HI2) (by omega);have HBU4:Hid (Lib.IsBuilderF 265 5 w.heap.size w.heap.size (Lib.byteCells (acc ++ Lib.encodeRune (foldR r))) w4):=.inr (by rw[zHs,Lib.byteCells_encodeRune];exact hbu4);have HB4:Hid (Bw w w4):=(un HB2).trans hb4;clear hbu4 hb4 hk4
     go_roundw
     case rel=>exact⟨p2,FR,acc ++ Lib.encodeRune (foldR r),rfl,hacc2,HI4,HBU4,HB4,HST⟩
     case measure=>rw[un HM,iterPos_of (un HI4)];omega
  ·have hnx:∀ty,(Instr.next (.pointer (some ⟨w.heap.size+1,0,none⟩)) true ty).run Tryz.prog wr=.ok (.tuple #[.bool false]) wr:=fun ty=>Lib.run_next_end_at wr _ s _ ty (un HI) hlt
   have HST:Hid (Lg s 0 0 [] acc s.size):=un HL acc s.size (.done p fr acc hlt);have HSG:=zAb (Tryz.Builder_String_any_k w.heap.size w.heap.size acc wr (un HBU) hB0);clear HI HBU HL
   go_wp2_with (go_at_call 252;refine(un HSG).mono ?_;rintro e w3 ⟨rfl,_,hb3,_⟩)
   go_ret2
   exact⟨⟨acc,s.size,rfl,un HST⟩,(un HB).trans hb3⟩
theorem res3t {fn:Func} {a b c:Tmp} (h:fn.results=#[.tmp a,.tmp b,.tmp c]) (tmps:Array Value) (w:World):(results fn tmps).run Tryz.prog w=.ok (.tuple #[tmps.getD a undef,tmps.getD b undef,tmps.getD c undef]) w:=by
 simp[results,h]
def foldV (s:ByteArray) (out:List UInt8) (q:Nat):Value :=
 if s.size=0∨q<s.size then .tuple #[G #[],I 60,I (q:Nat)]
 else if 40<out.length then .tuple #[G #[],I 4,I 0]
 else if out=[105,110]then .tuple #[G #[],I 201,I 0]
 else .tuple #[.string ⟨out.toArray⟩,I 0,I 0]
theorem empty_size (s:ByteArray):s.toList.isEmpty=decide (s.size=0):=by
 rw[ByteArray.toList_eq];have hl:s.data.toList.length=s.size:=by simp
 rw[←hl]
 cases s.data.toList<;>simp
theorem fold_any (s:ByteArray) (w:World) (hs:s.size≤1000000000000) :
 Calls Tryz.prog 268 #[.string s] w fun e w'=>(∃out q,e=.returned (foldV s out q)∧Lg s 0 0 [] out q)∧Bw w w':=by
 have HL:=zAb (longest_any s w hs);have hse:=empty_size s;go_enter Tryz.func268,Tryz.ntmps268
 go_upto_region 2 with (go_at_call 300;refine(un HL).mono ?_;rintro e w1 ⟨⟨out,q,rfl,hlg⟩,hb1⟩)
 have HG:=zAb hlg;have HB:=zAb hb1;have hos:(⟨out.toArray⟩:ByteArray).size=out.length:=by simp[ByteArray.size]
 have hot:(out == [105,110])=decide (out=[105,110]):=by rw[Bool.eq_iff_iff,beq_iff_eq,decide_eq_true_iff]
 clear hlg hb1 HL
 by_cases h0:s.size=0
 ·have HV:Hid (foldV s out q=.tuple #[G #[],I 60,I (q:Nat)]):=if_pos (.inl h0)
  rw[show decide (s.size=0)=true by simp[h0]]at hse;clear h0 hot
  go_wp2
  exact bodyPost_ret (res3t Tryz.results268 _ _) rfl ⟨⟨out,q,by rw[un HV];rfl,un HG⟩,un HB⟩
 ·rw [show decide (s.size=0)=false by simp[h0]]at hse
  by_cases h1:q<s.size
  ·have HV:Hid (foldV s out q=.tuple #[G #[],I 60,I (q:Nat)]):=if_pos (.inr h1)
   clear h0 hot
   go_wp2
   exact bodyPost_ret (res3t Tryz.results268 _ _) rfl ⟨⟨out,q,by rw[un HV];rfl,un HG⟩,un HB⟩
  ·have hn:¬(s.size=0∨q<s.size):=by omega
   by_cases h2:40<out.length
   ·have HV:Hid (foldV s out q=.tuple #[G #[],I 4,I 0]):=(if_neg hn).trans (if_pos h2)
    clear h0 hot hn
    go_wp2
    exact bodyPost_ret (res3t Tryz.results268 _ _) rfl ⟨⟨out,q,by rw[un HV];rfl,un HG⟩,un HB⟩
   ·by_cases h3:out=[105,110]
    ·have HV:Hid (foldV s out q=.tuple #[G #[],I 201,I 0]):=((if_neg hn).trans (if_neg h2)).trans (if_pos h3)
     rw[show decide (out=[105,110])=true by simp[h3]]at hot;clear h0 hn h3
     go_wp2
     exact bodyPost_ret (res3t Tryz.results268 _ _) rfl ⟨⟨out,q,by rw[un HV];rfl,un HG⟩,un HB⟩
    ·have HV:Hid (foldV s out q=.tuple #[.string ⟨out.toArray⟩,I 0,I 0]):=((if_neg hn).trans (if_neg h2)).trans (if_neg h3)
     rw[show decide (out=[105,110])=false by simp[h3]]at hot;clear h0 hn h3
     go_wp2
     exact bodyPost_ret (res3t Tryz.results268 _ _) rfl ⟨⟨out,q,by rw[un HV];rfl,un HG⟩,un HB⟩
end Go.Proofs.YtliadckofhblnaaGreatDoor.Nm
namespace Go.Proofs.YtliadckofhblnaaGreatDoor
open Go.RowKit
theorem lg_det {s:ByteArray} {p:Nat} {f:Int} {acc o1 o2:List UInt8} {q1 q2:Nat} (h1:Nm.Lg s p f acc o1 q1) (h2:Nm.Lg s p f acc o2 q2):o1=o2∧q1=q2:=by
  induction h1 with
  | stop p f acc hl hc=>
    cases h2 with
    | stop=>exact⟨rfl,rfl⟩
    | done _ _ _ hn=>exact absurd hl hn
    | step _ _ _ _ _ _ hc' _=>rw[hc]at hc';cases hc'
  | done p f acc hn=>
    cases h2 with
    | stop _ _ _ hl=>exact absurd hl hn
    | done=>exact⟨rfl,rfl⟩
    | step _ _ _ _ _ hl _ _=>exact absurd hl hn
  | step p f acc out q hl hc _ ih=>
    cases h2 with
    | stop _ _ _ _ hc'=>rw[hc]at hc';cases hc'
    | done _ _ _ hn=>exact absurd hl hn
    | step _ _ _ _ _ _ _ h'=>exact ih h'
theorem nameRight (s:ByteArray) (w:World) (h:Nm.Lg s 0 0 [] s.data.toList s.size) (h0:s.size≠0) (h40:s.size≤40) (hin:s.data.toList≠[105,110]) :
    Calls Tryz.prog 234 #[.string s] w fun r w'=>r=.returned (.bool true)∧Bw w w':=by
  have HF : Hid (∀ W, Calls Tryz.prog 268 #[.string s] W fun e w'=>e=.returned (.tuple #[.string s,I 0,I 0])∧Bw W w'):=fun W=>by
    refine(Nm.fold_any s W (by omega)).mono ?_;rintro e w' ⟨⟨out,q,rfl,hl⟩,hb⟩;obtain⟨rfl,rfl⟩:=lg_det h hl;refine⟨?_,hb⟩;unfold Nm.foldV
    rw [if_neg (by omega), if_neg (by have:s.data.toList.length=s.size:=by simp
                                      omega),if_neg hin]
  clear h h0 h40 hin;go_enter Tryz.func234,Tryz.ntmps234
  go_wp2_with (go_at_call 268;go_must(refine(un HF _).mono ?_;rintro e w1 ⟨rfl,hb⟩;have HB:=zAb hb;clear hb))
  go_ret
  exact⟨rfl,un HB⟩
theorem lg_step {s:ByteArray} {p:Nat} {f:Int} {acc out:List UInt8} {q:Nat} (p':Nat) (f':Int) (acc':List UInt8) (h1:p<s.size) (h2:Nm.contB p f (Utf8.decode s p).1=true) (h3:p+(Utf8.decode s p).2=p') (h4:Nm.firstOf p f (Utf8.decode s p).1=f') (h5:acc ++ Lib.encodeRune (Nm.foldR (Utf8.decode s p).1)=acc') (h:Nm.Lg s p' f' acc' out q):Nm.Lg s p f acc out q:=by
  subst h3 h4 h5;exact Nm.Lg.step _ _ _ _ _ h1 h2 h
theorem zAv (a c:ByteArray) (w:World) (h1:∀W,Calls Tryz.prog 234 #[.string a] W fun r w'=>r=.returned (.bool true)∧Bw W w') (h2:∀W,Calls Tryz.prog 234 #[.string c] W fun r w'=>r=.returned (.bool true)∧Bw W w') :
    Calls Tryz.prog 169 #[.string a,.string c] w fun r w'=>r=.returned (.bool true)∧Bw w w':=by
  have H1:=zAb h1;have H2:=zAb h2;clear h1 h2;go_enter Tryz.func169,Tryz.ntmps169
  go_wp2_with (first
    | (go_at_call_of 234 a;go_must(refine(un H1 _).mono ?_;rintro e w1 ⟨rfl,hb⟩;have HB1:=zAb hb;clear hb))
    | (go_at_call_of 234 c;go_must(refine(un H2 _).mono ?_;rintro e w2 ⟨rfl,hb⟩;have HB2:=zAb (bt HB1 hb);clear hb)))
  go_ret
  exact⟨rfl,un HB2⟩
end Go.Proofs.YtliadckofhblnaaGreatDoor
namespace Go.Proofs.YtliadckofhblnaaGreatDoor
open Go.RowKit Go.Maps Go.ChangeMaps Go.WideMaps
variable {K:Nat→Nat→Array Value→Prop}
def Rm (_:Value):Option (DataW Unit×List MemPlace):=some (.lit (.bool true),[])
theorem under42:Tryz.prog.underlying 112=some (.map 9 192):=by kernel_rfl
theorem zero68 (W:World):(zeroValue 192).run Tryz.prog W=.ok (.agg #[.pointer none,.pointer none]) W:=by kernel_rfl
theorem row_later {w w':World} {base e s n:Nat} {v:Value} {xs:List Value} (h:w.ownsRow base e s v n xs) (hb:Below w.heap.size w w'):w'.ownsRow base e s v n xs:=by
  obtain⟨hl,h⟩:=h;refine⟨hl,?_⟩;rcases h with h|⟨g,cap,cur,hv,hbg,hg,h1,h2,h3,h4⟩
  · exact Or.inl h
  · exact Or.inr ⟨g,cap,cur,hv,hbg,(hb.block g (Array.getElem?_eq_some_iff.1 hg).1).trans hg,h1,h2,h3,h4⟩
theorem map_later {w w':World} {b n:Nat} {D:DataW Unit} (h:w.ownsMap Tryz.prog 9 Rm b n D) (hb:Below w.heap.size w w'):w'.ownsMap Tryz.prog 9 Rm b n D:=by
  have hlt:=h.lt;obtain⟨es,clock,hh,F,hs,hD⟩:=h;exact⟨es,clock,(hb.block b hlt).trans hh,F,hs,hD⟩
theorem zAc.grown {W V:World} {g ty:Nat} {vs:Array Value} {row:Option Nat} (h:zAc W g ty vs) (hg:W.grownBy V row) (hne:some g≠row):zAc V g ty vs:=(hg.block g h.lt hne).trans h
theorem zEn {W:World} {base e s n g ty:Nat} {v:Value} {xs:List Value} {us:Array Value} (h:W.ownsRow base e s v n xs) (ho:zAc W g ty us) (hne:ty≠e):some g≠v.ownBlock:=by
  rcases h.2 with ⟨rfl,_⟩|⟨g',cap,cur,rfl,_,hg,_⟩
  · intro e;cases e
  · intro e
    have e':g=g':=by simpa [Value.ownBlock] using e
    subst e';unfold zAc at ho
    rw[ho]at hg;simp at hg
    exact hne hg.2
theorem row_ne_map {W:World} {base e s n b k:Nat} {v:Value} {xs:List Value} {D:DataW Unit} (h:W.ownsRow base e s v n xs) (ho:W.ownsMap Tryz.prog 9 Rm b k D):some b≠v.ownBlock:=by
  rcases h.2 with ⟨rfl,_⟩|⟨g',cap,cur,rfl,_,hg,_⟩
  · intro e;cases e
  · intro e
    have e':b=g':=by simpa [Value.ownBlock] using e
    subst e';obtain⟨es,clock,hb,_⟩:=ho;rw[hb]at hg
    cases hg
theorem zFs {W:World} {b k g ty:Nat} {D:DataW Unit} {us:Array Value} (ho:W.ownsMap Tryz.prog 9 Rm b k D) (h:zAc W g ty us):g≠b:=by
  intro e;subst e;obtain⟨es,clock,hb,_⟩:=ho;unfold zAc at h
  rw[hb]at h
  cases h
theorem wp_mapUpdate_own {H:Type} {P:Program} (w:World) {o:Oper} {a:Act} {K':Act→World→Prop} {Q:Exit→Act→World→Prop} (m x v:Operand) (t:TypeId) (hop:o.op=Op.mapUpdate t m x v)
    (k e:TypeId) (K:Keyed P k) (ht:P.underlying t=some (.map k e)) (R:Value→Option (DataW H×List MemPlace)) (b n:Nat) (D:DataW H)
    (hm:a.eval m=.map (some b)) (hown:w.ownsMap P k R b n D) (hn:n<maxLen) (key val:Value) (kl:Lit) (hx:a.eval x=key) (hv:a.eval v=val) (hkey:keyOf P k key=some kl)
    (d:DataW H) (ps:List MemPlace) (hval:R val=some (d,ps))
    (hK:∀w',w'.ownsMap P k R b (n+1) (D.put kl d)→w.grownBy w' (some b)→K' (a.put o.dst undef) w'):o.wp P a w K' Q:=by
  obtain⟨w',hrun,r1,r2⟩:=hown.update K ht hn hkey hval;unfold Oper.wp;simp[execOp,hop,hm,hx,hv,hrun,Result.andThen];exact hK w' r1 r2
theorem one_one (p:Nat):∀u∈[Value.pointer (some ⟨p,0,none⟩)],u.oneCell'=true:=by
  intro u hu;obtain rfl:=List.mem_singleton.1 hu
  rfl
theorem ty_ne {W:World} {g k ty sy:Nat} {vs us:Array Value} (h:zAc W g ty vs) (h':zAc W k sy us) (hne:ty≠sy):¬g=k:=by
  intro e;subst e;unfold zAc at h h'
  rw[h]at h';simp at h'
  exact hne h'.2
theorem wpR_map {H:Type} {P:Program} {ops:Array Oper} {Q:Exit→Act→World→Prop} {md:Region.Mode} {S S7:World→Prop} {k0:Nat} {i:Nat} {o:Oper} {nn:Nat} {l:Array Bool} {a:Act} {w:World} (hr:Region.ready md ops l=[i]) (ho:ops[i]?=some o) (hg:o.guard=none) (hl:(l.setIfInBounds i true).getD k0 false=true)
    (m x v:Operand) (t:TypeId) (hop:o.op=Op.mapUpdate t m x v)
    (k e:TypeId) (K:Keyed P k) (ht:P.underlying t=some (.map k e)) (R:Value→Option (DataW H×List MemPlace)) (b n:Nat) (D:DataW H)
    (hm:a.eval m=.map (some b)) (hown:w.ownsMap P k R b n D) (hn:n<maxLen) (key val:Value) (kl:Lit) (hx:a.eval x=key) (hv:a.eval v=val) (hkey:keyOf P k key=some kl)
    (d:DataW H) (ps:List MemPlace) (hval:R val=some (d,ps))
    (h:∀w',w'.ownsMap P k R b (n+1) (D.put kl d)→w.grownBy w' (some b)→S7 w'∧wpR P md ops Q k0 S S7 nn (l.setIfInBounds i true) (a.put o.dst undef) w'):wpR P md ops Q k0 S S7 (nn+1) l a w :=
  zAj hr ho hg hl (fun _ hK=>wp_mapUpdate_own w m x v t hop k e K ht R b n D hm hown hn key val kl hx hv hkey d ps hval (fun w' h1 h2=>hK _ _ (h w' h1 h2).1 (h w' h1 h2).2))
theorem zFn {B m:Nat} {w W V:World} (h:Below B w W) (hg:W.grownBy V (some m)) (hm:B≤m) (hl:m<W.heap.size):Below B w V:=by
  refine⟨hg.os.trans h.os,hg.tape.trans h.tape,hg.output.trans h.output,Nat.le_trans h.size hg.size,fun k hk=>(hg.block k (by omega) (fun e=>?_)).trans (h.block k hk)⟩;have e':k=m:=by simpa using e
  omega
theorem zHg {W:World} {base e s n:Nat} {v:Value} {xs:List Value} (h:W.ownsRow base e s v n xs):∃a l c,v=.slice a l c:=by
  rcases h.2 with ⟨rfl,_⟩|⟨g,cap,cur,rfl,_⟩
  · exact⟨_,_,_,rfl⟩
  · exact⟨_,_,_,rfl⟩
theorem row_base {W:World} {base e s n:Nat} {v:Value} {xs:List Value} (h:W.ownsRow base e s v n xs):∀j,some j=v.ownBlock→base≤j:=by
  intro j hj;rcases h.2 with ⟨rfl,_⟩|⟨g,cap,cur,rfl,hb,_⟩
  · cases hj
  · have:j=g:=by simpa [Value.ownBlock] using hj
    omega
end Go.Proofs.YtliadckofhblnaaGreatDoor
namespace Go.Proofs.YtliadckofhblnaaGreatDoor.Nt
open Go.RowKit Go.Maps Go.ChangeMaps Go.WideMaps
variable {K:Nat→Nat→Array Value→Prop}
theorem under114:Tryz.prog.underlying 114=some (.slice 159):=by kernel_rfl
theorem info159:(Tryz.prog.info? 159).map (fun i=>(i.zero,i.size,i.bytes))=some (some (.pointer none),1,8):=by kernel_rfl
theorem one_newC (W:World) (x:Value):∀j u,[x][j]?=some u→(W.alloc (.cells #[x] 159)).cell? ((⟨W.heap.size,0,none⟩:Addr).add j)=some u:=by
  intro j u hj
  cases j with
  | zero=>
    obtain rfl:x=u:=by simpa using hj
    exact(zAc.new W #[x] 159).ub.c 0 _ rfl
  | succ j=>simp at hj
structure RC (W:World) (K:Nat→Nat→Array Value→Prop) (base r m:Nat) (vs:Value) (ps:List Nat) (us:List (Array Value)) (n:Nat) (D:DataW Unit):Prop where
  k0:zAc W r 116 #[.slice none 0 0,vs,.map (some m),.bool false]
  row:W.ownsRow base 159 1 vs ps.length (ps.map fun p=>Value.pointer (some ⟨p,0,none⟩))
  mp:W.ownsMap Tryz.prog 9 Rm m n D
  un:∀(i p:Nat) (u:Array Value),ps[i]?=some p→us[i]?=some u→zAc W p 45 u
  bs:base≤W.heap.size
  ex:∀(g ty:Nat) (us:Array Value),K g ty us→ty≠116∧ty≠159∧zAc W g ty us
theorem RC.later {W V:World} {base r m n:Nat} {vs:Value} {ps:List Nat} {us:List (Array Value)} {D:DataW Unit} (h:RC W K base r m vs ps us n D) (hb:Below W.heap.size W V):RC V K base r m vs ps us n D :=
  ⟨h.k0.later hb,row_later h.row hb,map_later h.mp hb,fun i p u h1 h2=>(h.un i p u h1 h2).later hb,Nat.le_trans h.bs hb.size,fun g ty us hk=>⟨(h.ex g ty us hk).1,(h.ex g ty us hk).2.1,(h.ex g ty us hk).2.2.later hb⟩⟩
theorem RC.grown {W V:World} {base r m n:Nat} {vs:Value} {ps:List Nat} {us:List (Array Value)} {D:DataW Unit} (h:RC W K base r m vs ps us n D) (hg:W.grownBy V (some m)) {n':Nat} {D':DataW Unit} (hm:V.ownsMap Tryz.prog 9 Rm m n' D'):RC V K base r m vs ps us n' D':=by
  refine⟨h.k0.grown hg (fun e=>zFs h.mp h.k0 (by simpa using e)),?_,hm,fun i p u h1 h2=>(h.un i p u h1 h2).grown hg (fun e=>zFs h.mp (h.un i p u h1 h2) (by simpa using e)),?_,fun g ty us hk=>⟨(h.ex g ty us hk).1,(h.ex g ty us hk).2.1,(h.ex g ty us hk).2.2.grown hg (fun e=>zFs h.mp (h.ex g ty us hk).2.2 (by simpa using e))⟩⟩
  · obtain⟨hl,h1⟩:=h.row
    refine⟨hl,?_⟩;rcases h1 with h1|⟨g,cap,cur,hv,hbg,hgg,h2,h3,h4,h5⟩
    · exact Or.inl h1
    · refine Or.inr ⟨g,cap,cur,hv,hbg,(hg.block g (Array.getElem?_eq_some_iff.1 hgg).1 (fun e=>?_)).trans hgg,h2,h3,h4,h5⟩
      have e':g=m:=by simpa using e
      subst e';obtain⟨es,clock,hb,_⟩:=h.mp;rw[hb]at hgg
      cases hgg
  · exact Nat.le_trans h.bs hg.size
theorem RC.more {W A V:World} {base r m n p:Nat} {vs v':Value} {ps:List Nat} {us:List (Array Value)} {u:Array Value} {D:DataW Unit} (h:RC W K base r m vs ps us n D) (hlen:us.length=ps.length)
    (hb:Below W.heap.size W A) (hg:A.grownBy V vs.ownBlock) (hp:zAc A p 45 u) (hr:V.ownsRow base 159 1 v' (ps.length+1) ((ps.map fun p=>Value.pointer (some ⟨p,0,none⟩)) ++ [.pointer (some ⟨p,0,none⟩)])) :
    RC (V.setCell ⟨r,1,none⟩ v') K base r m v' (ps ++ [p]) (us ++ [u]) n D:=by
  have hA:=h.later hb;have k1:zAc V r 116 #[.slice none 0 0,vs,.map (some m),.bool false]:=hA.k0.grown hg (zEn hA.row hA.k0 (by decide));have m1:V.ownsMap Tryz.prog 9 Rm m n D:=hA.mp.kept hg (row_ne_map hA.row hA.mp);refine⟨k1.set 1 v',?_,m1.setCell (Ne.symm (zFs m1 k1)) _,?_,?_,fun g ty us hk=>⟨(h.ex g ty us hk).1,(h.ex g ty us hk).2.1,((hA.ex g ty us hk).2.2.grown hg (zEn hA.row (hA.ex g ty us hk).2.2 (h.ex g ty us hk).2.1)).otherSet (ty_ne ((hA.ex g ty us hk).2.2.grown hg (zEn hA.row (hA.ex g ty us hk).2.2 (h.ex g ty us hk).2.1)) k1 (h.ex g ty us hk).1) _ _⟩⟩
  · obtain⟨_,h1⟩:=hr
    refine⟨by simp,?_⟩;rcases h1 with ⟨_,h1⟩|⟨g,cap,cur,hv,hbg,hgg,h2,h3,h4,h5⟩
    · omega
    · refine Or.inr ⟨g,cap,cur,by simpa using hv,hbg,(Below.heap_setCell V ⟨r,1,none⟩ v' g (fun e=>?_)).trans hgg,by simpa using h2,h3,h4,by simpa using h5⟩
      have e':g=r:=e;subst e';unfold zAc at k1
      rw[k1]at hgg;simp at hgg
  · intro i q w' h1 h2
    have base':∀(i q:Nat) (w':Array Value),ps[i]?=some q→us[i]?=some w'→zAc (V.setCell ⟨r,1,none⟩ v') q 45 w':=fun i q w' h1 h2=>by
      have o1:=hA.un i q w' h1 h2;have o2:=o1.grown hg (zEn hA.row o1 (by decide));refine o2.otherSet (fun e=>?_) _ _;subst e;unfold zAc at o2 k1
      rw[k1]at o2;simp at o2
    by_cases hi:i<ps.length
    · exact base' i q w' (by rw[List.getElem?_append_left hi]at h1;exact h1) (by rw[List.getElem?_append_left (by omega)]at h2;exact h2)
    · have hi2:i=ps.length:=by
        have:=(List.getElem?_eq_some_iff.1 h1).1;simp at this
        omega
      subst hi2;have e1:p=q:=by simpa using h1
      have e2:u=w':=by rw[←hlen]at h2;simpa using h2
      subst e1 e2;have o2:=hp.grown hg (zEn hA.row hp (by decide));refine o2.otherSet (fun e=>?_) _ _;subst e;unfold zAc at o2 k1
      rw[k1]at o2;simp at o2
  · have:=hg.size
    have:=h.bs;have:=hb.size;simp
    omega
end Go.Proofs.YtliadckofhblnaaGreatDoor.Nt
namespace Go.Proofs.YtliadckofhblnaaGreatDoor.Nt
open Go.RowKit Go.Maps Go.ChangeMaps Go.WideMaps
variable {K:Nat→Nat→Array Value→Prop}
theorem putConst_any (nm sy vn vd sn sd ut:ByteArray) (base r m n:Nat) (vs:Value) (ps:List Nat) (us:List (Array Value)) (D:DataW Unit) (w0 w:World) (h:RC w K base r m vs ps us n D) (hlen:us.length=ps.length) (hb0:Below base w0 w) (hmb:base≤m) (hrb:base≤r) (hn:n+2<1000000) (hps:ps.length<1000)
  (hs1:nm.size≤maxLen) (hs2:sy.size≤maxLen) :
  Calls Tryz.prog 146 #[.pointer (some ⟨r,0,none⟩),.agg #[.string nm,.string sy,.string vn,.string vd,.string sn,.string sd,.string ut]] w fun e w'=>(∃p v',e=.returned (.tuple #[])∧RC w' K base r m v' (ps ++ [p]) (us ++ [#[.string nm,.string sy,.string vn,.string vd,.string sn,.string sd,.string ut]]) (n+2) ((D.put (.string nm.data.toList) (.lit (.bool true))).put (.string sy.data.toList) (.lit (.bool true))))∧Below base w0 w':=by
 obtain⟨i0,hi,hz0,hz1,hz2⟩:=info_parts info159;obtain⟨av,lv,cv,rfl⟩:=zHg h.row;obtain⟨V,hV⟩:∃V,V=w.alloc (.cells #[.string nm,.string sy,.string vn,.string vd,.string sn,.string sd,.string ut] 45):=⟨_,rfl⟩;have hbV:Below w.heap.size w V:=by rw[hV];exact bA
 have HU0:Hid (zAc V w.heap.size 45 #[.string nm,.string sy,.string vn,.string vd,.string sn,.string sd,.string ut]):=by rw[hV];exact zAc.new _ _ _
 have HR0:=zAb (h.later hbV);have HB0:Hid (Below base w0 V):=hb0.trans (hbV.mono h.bs);have HLN:=zAb hlen;have HV:=zAb hV;have hsz:w.heap.size<V.heap.size:=(un HU0).lt;have hbs:=(un HR0).bs;have HPL:Hid (ps.length+1≤maxLen∧(ps.length+1)*8≤140737488355328):=⟨by unfold maxLen;omega,by omega⟩;have HNM:Hid (n<maxLen∧n+1<maxLen):=by show n<maxLen∧n+1<maxLen;unfold maxLen;omega
 clear h hbV hb0 hV hlen;go_enter Tryz.func146,Tryz.ntmps146
 go_upto_region 1 with fail
 rw[←un HV];clear HV;obtain⟨g3,hg3⟩:∃g3,g3=w.heap.size:=⟨_,rfl⟩;rw[←hg3]at HU0;rw[←hg3];clear hg3;have c0:V.cell? ⟨r,1,none⟩=some (.slice av lv cv):=(un HR0).k0.ub.c 1 _ rfl;have hal:Below V.heap.size V (V.alloc (.cells #[.pointer (some ⟨g3,0,none⟩)] 159)):=bA;have HAL:=zAb hal;have HRA:=zAb ((un HR0).later hal);clear hal
 go_upto_region 2 with (at_builtin;go_must(refine wpList_append_own _ rfl _ _ 114 rfl base 159 i0 (.pointer none) 1 8 under114 hi hz0 hz1 hz2 rfl (by decide) _ ps.length (ps.map fun p=>Value.pointer (some ⟨p,0,none⟩)) rfl (un HRA).row ⟨V.heap.size,0,none⟩ 1 1 [.pointer (some ⟨g3,0,none⟩)] rfl rfl (one_newC _ _) (one_one _) (un HPL).1 (un HPL).2 (by simp;omega) ?_;intro vn w4 hown hgrow hnil;obtain⟨an,ln,cn,rfl⟩:=zHg hown;have HMO:=zAb ((un HR0).more (u:=#[.string nm,.string sy,.string vn,.string vd,.string sn,.string sd,.string ut]) (un HLN) (un HAL) hgrow ((un HU0).later (un HAL)) hown);have HU4:=zAb (((un HU0).later (un HAL)).grown hgrow (zEn (un HRA).row ((un HU0).later (un HAL)) (by decide)));have HB4:=zAb (Below.grown ((un HB0).trans ((un HAL).mono hbs)) hgrow (by simp;omega) (fun j hj=>row_base (un HRA).row j hj.symm));have k4:=zAb ((un HRA).k0.grown hgrow (zEn (un HRA).row (un HRA).k0 (by decide)));have e0:w4.cell? ⟨r,1,none⟩=some (.slice av lv cv):=(un k4).ub.c 1 _ rfl;have ef0:w4.frozen? ⟨r,1,none⟩=false:=(un k4).ub.f 1 (.slice av lv cv) rfl;clear hown hgrow hnil c0))
 have HR3:=zAb (un HMO);have HU3:Hid (zAc (w4.setCell ⟨r,1,none⟩ (.slice an ln cn)) g3 45 #[.string nm,.string sy,.string vn,.string vd,.string sn,.string sd,.string ut]):=(un HU4).otherSet (ty_ne (un HU4) (un k4) (by decide)) _ _;have HB3:Hid (Below base w0 (w4.setCell ⟨r,1,none⟩ (.slice an ln cn))):=(un HB4).setCell hrb _;clear HMO HU4 HB4 k4 e0 ef0 HR0 HRA HU0 HB0 HAL;generalize w4.setCell ⟨r,1,none⟩ (.slice an ln cn)=A at *
 go_upto_region 2 with fail
 have HS3:Hid (∀W',RC W' K base r m (.slice an ln cn) (ps ++ [g3]) (us ++ [#[.string nm,.string sy,.string vn,.string vd,.string sn,.string sd,.string ut]]) n D→zAc W' g3 45 #[.string nm,.string sy,.string vn,.string vd,.string sn,.string sd,.string ut]→W'.cell? ⟨r,2,none⟩=some (.map (some m))∧W'.cell? ⟨g3,0,none⟩=some (.string nm)):=fun W' h h'=>⟨h.k0.ub.c 2 _ rfl,h'.ub.c 0 _ rfl⟩
 have HG3:=zAb ((un HR3).later (Below.refl _ _).drew);have HA3:=zAb ((un HU3).later (Below.refl _ _).drew);have HBD3:=zAb ((un HB3).drew);have HS0:=zAb (un HS3 _ (un HG3) (un HA3));refine zAi 7 (fun W'=>W'.cell? ⟨r,2,none⟩=some (.map (some m))∧W'.cell? ⟨g3,0,none⟩=some (.string nm)) (fun _=>True) 8 rfl (by kernel_rfl) ?_;refine wT 0 (.pointer (some ⟨r,0,none⟩)) rfl (Or.inl ⟨by rfl,?_⟩) ⟨un HS0,trivial⟩ ?_
 ·intro W' hW
  go_split_ands
  go_simp
 refine wT 1 (.pointer (some ⟨r,0,none⟩)) rfl (Or.inl ⟨by rfl,?_⟩) ⟨un HS0,trivial⟩ ?_
 ·intro W' hW
  go_split_ands
  go_simp
 refine wT 2 (.pointer (some ⟨r,2,none⟩)) rfl (Or.inl ⟨by rfl,?_⟩) ⟨un HS0,trivial⟩ ?_
 ·intro W' hW
  go_split_ands
  go_simp
 refine wT 3 (.map (some m)) rfl (Or.inl ⟨by rfl,?_⟩) ⟨un HS0,trivial⟩ ?_
 ·intro W' hW
  go_split_ands
  go_simp
 refine wT 4 (.pointer (some ⟨g3,0,none⟩)) rfl (Or.inl ⟨by rfl,?_⟩) ⟨un HS0,trivial⟩ ?_
 ·intro W' hW
  go_split_ands
  go_simp
 refine wT 5 (.string nm) rfl (Or.inl ⟨by rfl,?_⟩) ⟨un HS0,trivial⟩ ?_
 ·intro W' hW
  go_split_ands
  go_simp
 refine wT 6 (.agg #[.pointer none,.pointer (some ⟨g3,0,none⟩)]) rfl (Or.inl ⟨by rfl,?_⟩) ⟨un HS0,trivial⟩ ?_
 ·intro W' hW
  go_split_ands
  go_simp
 clear HS0;refine wpR_map (H:=Unit) (i:=7) (o:=_) (by kernel_rfl) rfl rfl (by kernel_rfl) (.tmp 16) (.tmp 18) (.tmp 19) 112 rfl 9 192 (string_keyed Tryz.underlying9) under42 Rm m n D (by kernel_rfl) (un HG3).mp (un HNM).1 (.string nm) (.agg #[.pointer none,.pointer (some ⟨g3,0,none⟩)]) (.string nm.data.toList) (by kernel_rfl) (by kernel_rfl) (keyOf_string_mk Tryz.underlying9 hs1) (.lit (.bool true)) [] rfl ?_;intro wu hown hgrow;refine⟨trivial,?_⟩;have HR4:=zAb ((un HG3).grown hgrow hown);have HU4:=zAb ((un HA3).grown hgrow (fun e=>zFs (un HG3).mp (un HA3) (by simpa using e)));have HB4:=zAb (zFn (un HBD3) hgrow hmb (un HG3).mp.lt);clear hown hgrow HG3 HA3 HBD3 HR3 HU3 HB3 HS3;refine wDn ?_
 go_upto_region 3 with fail
 have HS4:Hid (∀W',RC W' K base r m (.slice an ln cn) (ps ++ [g3]) (us ++ [#[.string nm,.string sy,.string vn,.string vd,.string sn,.string sd,.string ut]]) (n+1) (D.put (.string nm.data.toList) (.lit (.bool true)))→zAc W' g3 45 #[.string nm,.string sy,.string vn,.string vd,.string sn,.string sd,.string ut]→W'.cell? ⟨r,2,none⟩=some (.map (some m))∧W'.cell? ⟨g3,1,none⟩=some (.string sy)):=fun W' h h'=>⟨h.k0.ub.c 2 _ rfl,h'.ub.c 1 _ rfl⟩
 have HG4:=zAb ((un HR4).later (Below.refl _ _).drew);have HA4:=zAb ((un HU4).later (Below.refl _ _).drew);have HBD4:=zAb ((un HB4).drew);have HS0:=zAb (un HS4 _ (un HG4) (un HA4));refine zAi 7 (fun W'=>W'.cell? ⟨r,2,none⟩=some (.map (some m))∧W'.cell? ⟨g3,1,none⟩=some (.string sy)) (fun _=>True) 8 rfl (by kernel_rfl) ?_;refine wT 0 (.pointer (some ⟨r,0,none⟩)) rfl (Or.inl ⟨by rfl,?_⟩) ⟨un HS0,trivial⟩ ?_
 ·intro W' hW
  go_split_ands
  go_simp
 refine wT 1 (.pointer (some ⟨r,0,none⟩)) rfl (Or.inl ⟨by rfl,?_⟩) ⟨un HS0,trivial⟩ ?_
 ·intro W' hW
  go_split_ands
  go_simp
 refine wT 2 (.pointer (some ⟨r,2,none⟩)) rfl (Or.inl ⟨by rfl,?_⟩) ⟨un HS0,trivial⟩ ?_
 ·intro W' hW
  go_split_ands
  go_simp
 refine wT 3 (.map (some m)) rfl (Or.inl ⟨by rfl,?_⟩) ⟨un HS0,trivial⟩ ?_
 ·intro W' hW
  go_split_ands
  go_simp
 refine wT 4 (.pointer (some ⟨g3,1,none⟩)) rfl (Or.inl ⟨by rfl,?_⟩) ⟨un HS0,trivial⟩ ?_
 ·intro W' hW
  go_split_ands
  go_simp
 refine wT 5 (.string sy) rfl (Or.inl ⟨by rfl,?_⟩) ⟨un HS0,trivial⟩ ?_
 ·intro W' hW
  go_split_ands
  go_simp
 refine wT 6 (.agg #[.pointer none,.pointer (some ⟨g3,0,none⟩)]) rfl (Or.inl ⟨by rfl,?_⟩) ⟨un HS0,trivial⟩ ?_
 ·intro W' hW
  go_split_ands
  go_simp
 clear HS0;refine wpR_map (H:=Unit) (i:=7) (o:=_) (by kernel_rfl) rfl rfl (by kernel_rfl) (.tmp 23) (.tmp 25) (.tmp 26) 112 rfl 9 192 (string_keyed Tryz.underlying9) under42 Rm m (n+1) (D.put (.string nm.data.toList) (.lit (.bool true))) (by kernel_rfl) (un HG4).mp (un HNM).2 (.string sy) (.agg #[.pointer none,.pointer (some ⟨g3,0,none⟩)]) (.string sy.data.toList) (by kernel_rfl) (by kernel_rfl) (keyOf_string_mk Tryz.underlying9 hs2) (.lit (.bool true)) [] rfl ?_;intro wu hown hgrow;refine⟨trivial,?_⟩;have HR5:=zAb ((un HG4).grown hgrow hown);have HU5:=zAb ((un HA4).grown hgrow (fun e=>zFs (un HG4).mp (un HA4) (by simpa using e)));have HB5:=zAb (zFn (un HBD4) hgrow hmb (un HG4).mp.lt);clear hown hgrow HG4 HA4 HBD4 HR4 HU4 HB4 HS4;refine wDn ?_
 go_wp2_with fail
 go_end0
 exact⟨⟨g3,_,rfl,un HR5⟩,un HB5⟩
end Go.Proofs.YtliadckofhblnaaGreatDoor.Nt
namespace Go.Proofs.YtliadckofhblnaaGreatDoor
open Go.RowKit Go.Maps Go.ChangeMaps Go.WideMaps
theorem row_len {W:World} {base e s n:Nat} {v:Value} {xs:List Value} (h:W.ownsRow base e s v n xs):∃a c,v=.slice a n c:=by
 rcases h.2 with ⟨rfl,h0⟩|⟨g,cap,cur,rfl,_⟩
 ·exact⟨_,_,by rw[h0]⟩
 ·exact⟨_,_,rfl⟩
theorem zFg {W:World} {m n:Nat} {D:DataW Unit} (h:W.ownsMap Tryz.prog 9 Rm m n D) (s:ByteArray) (hs:s.size≤maxLen) (hh:Maps.has D (.string s.data.toList)=false) :
  (Instr.lookup 112 (.map (some m)) (.string s) true).run Tryz.prog W=.ok (.tuple #[.agg #[.pointer none,.pointer none],.bool false]) W:=by
 obtain⟨es,clock,hb,F,_,rfl⟩:=h;rcases Maps.fit_look true (string_keyed Tryz.underlying9) under42 (zero68 W) hb F (keyOf_string_mk Tryz.underlying9 hs)with ⟨hrun,_,hat⟩|⟨e0,y,_,_,hrun,hRv,hat,_⟩
 ·exact hrun
 ·rw[Maps.has_true_of_atKey hat]at hh;cases hh
end Go.Proofs.YtliadckofhblnaaGreatDoor

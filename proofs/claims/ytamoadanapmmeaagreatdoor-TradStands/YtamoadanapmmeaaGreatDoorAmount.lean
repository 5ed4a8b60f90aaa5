/- Amounts of the base units: fixed, number, times, by. -/
import Derived.Test.YtamoadanapmmeaaGreatDoorLimb3
import Derived.Test.YtamoadanapmmeaaGreatDoorDimOps
import Derived.Laws.Tables
import Derived.Laws.CopyOwn
import Derived.Laws.ResultCell
import Derived.Deep.RegionHeld3
namespace Go.Proofs.YtamoadanapmmeaaGreatDoor.Dm
open Go.RowKit
def cells8 (l:List Int):Array Value:=(l.map fun x=>I x).toArray
def Own8 (w:World) (g:Nat) (l:List Int):Prop:=w.heap[g]?=some (.cells (cells8 l) 26 (0,0))
theorem Own8.lt {w:World} {g:Nat} {l:List Int} (h:Own8 w g l):g<w.heap.size:=(Array.getElem?_eq_some_iff.1 h).1
theorem Own8.cell {w:World} {g:Nat} {l:List Int} (h:Own8 w g l) (i:Nat) (x:Int) (hi:l[i]?=some x):w.cell? ⟨g,i,none⟩=some (I x):=by
  unfold Own8 cells8 at h
  simp[World.cell?,h,hi]
theorem Own8.frozen {w:World} {g:Nat} {l:List Int} (h:Own8 w g l) (i:Nat):w.frozen? ⟨g,i,none⟩=false:=by
  unfold Own8 at h
  simp[World.frozen?,h]
theorem Own8.set {w:World} {g:Nat} {l:List Int} (h:Own8 w g l) (i:Nat) (x:Int):Own8 (w.setCell ⟨g,i,none⟩ (I x)) g (l.set i x):=by
  unfold Own8 cells8 at h ⊢
  simp only[World.setCell,Array.getElem?_modify,h,Option.map_some]
  simp[List.map_set]
theorem Own8.other {w:World} {g:Nat} {l:List Int} (h:Own8 w g l) {a:Addr} (ha:g≠a.block) (x:Value):Own8 (w.setCell a x) g l :=
  (Below.heap_setCell w a x g ha).trans h
theorem Own8.alloc {w:World} {g:Nat} {l:List Int} (h:Own8 w g l) (o:Obj):Own8 (w.alloc o) g l:=(Below.heap_alloc w o g h.lt).trans h
theorem Own8.later {w w':World} {g B:Nat} {l:List Int} (h:Own8 w g l) (hb:Below B w w') (hg:g<B):Own8 w' g l:=(hb.block g hg).trans h
theorem Own8.setRow {w:World} {g:Nat} {l:List Int} (h:Own8 w g l) (m:List Int):Own8 (w.setRow g (cells8 m)) g m:=setRow_heap w g _ _ 26 (0,0) h
theorem size_alloc (w:World) (o:Obj):(w.alloc o).heap.size=w.heap.size+1:=by simp
theorem Own8.new (w:World) (l:List Int):Own8 (w.alloc (.cells (cells8 l) 26)) w.heap.size l:=heap_alloc_new w _
theorem info24:(Tryz.prog.info? 26).map (·.size)=some 8:=by kernel_rfl
theorem ones8 (l:List Int):(cells8 l).all (·.oneCell')=true:=by
  unfold cells8
  rw[Array.all_eq_true_iff_forall_mem]
  intro v hv
  simp at hv
  obtain ⟨x,_,rfl⟩:=hv
  rfl
theorem size8 (l:List Int):(cells8 l).size=l.length:=by simp[cells8]
theorem res2 {fn:Func} {p u:Tmp} (h:fn.results=#[.cell p 26,.tmp u]) (tmps:Array Value) (w:World) (g:Nat) (l:List Int) (hl:l.length=8)
    (hp:tmps.getD p undef=.pointer (some ⟨g,0,none⟩)) (ho:Own8 w g l):(results fn tmps).run Tryz.prog w=.ok (.tuple #[.agg (cells8 l),tmps.getD u undef]) w:=by
  rw[results_cell_tmp h,hp]
  simp only[asAddr,Sem.run_pure,Result.andThen_ok]
  rw[run_loadVar_row w g 26 26 (cells8 l) (0,0) _ ho Tryz.underlying26 rfl (by rw[info24,size8,hl])]
  rfl
theorem store8 {ops:Array Oper} {rest:List Oper} {o:Oper} {a:Act} {w:World} {Q:Exit→Act→World→Prop} (hgd:o.guard=none) (x y:Operand) (ho:o.op=.store 26 x y)
    (g:Nat) (l m:List Int) (hl:l.length=8) (hm:m.length=8) (hx:a.eval x=.pointer (some ⟨g,0,none⟩)) (hy:a.eval y=.agg (cells8 m)) (hg:Own8 w g l)
    (h:wpList Tryz.prog ops Q rest (a.put o.dst undef) (w.setRow g (cells8 m))):wpList Tryz.prog ops Q (o :: rest) a w :=
  wpList_store_row hgd 26 x y ho g (cells8 m) hx hy 26 _ hg (by rw[info24,size8,hm]) (by rw[size8,size8,hl,hm]) (ones8 m) h
def Dims (w:World) (b o n:Nat) (X:Nat→Nat→Int):Prop:=b<w.heap.size∧∀ i,i<n→∀ j,j<8→w.cell? ⟨b,o+i*8+j,none⟩=some (I (X i j))
theorem Dims.later {w w':World} {b o n:Nat} {X:Nat→Nat→Int} (h:Dims w b o n X) (hb:Below w.heap.size w w'):Dims w' b o n X:=by
  have:=hb.size
  exact ⟨by have:=h.1;omega,fun i hi j hj=>(hb.cell (p:=⟨b,o+i*8+j,none⟩) h.1).trans (h.2 i hi j hj)⟩
def dimAt (X:Nat→Nat→Int) (i:Nat):List Int:=[X i 0,X i 1,X i 2,X i 3,X i 4,X i 5,X i 6,X i 7]
def allB (X:Nat→Nat→Int):Nat→Bool
  | 0=>true
  | k+1=>allB X k && rightB (dimAt X k)
def sumD (X:Nat→Nat→Int):Nat→Nat→Int
  | 0,_=>0
  | k+1,j=>wrap64 (sumD X k j+X k j)
def sumL (X:Nat→Nat→Int) (k:Nat):List Int:=[sumD X k 0,sumD X k 1,sumD X k 2,sumD X k 3,sumD X k 4,sumD X k 5,sumD X k 6,sumD X k 7]
theorem allB_false (X:Nat→Nat→Int) (k n:Nat) (h:k<n) (hf:rightB (dimAt X k)=false):allB X n=false:=by
  induction n with
  | zero=>omega
  | succ n ih=>
    unfold allB
    by_cases e:k=n
    · subst e;rw[hf,Bool.and_false]
    · rw[ih (by omega),Bool.false_and]
def mulErr (X:Nat→Nat→Int) (n:Nat):Int:=if allB X n=true then errOf (rightB (sumL X n)) 51 else 1
def mixL (X:Nat→Nat→Int) (k j:Nat):List Int:=(sumL X (k+1)).take j ++ (sumL X k).drop j
theorem mixL_get (X:Nat→Nat→Int) (k j:Nat) (h:j<8):(mixL X k j)[j]?=some (sumD X k j):=by
  rcases eight (Nat.le_of_lt h) with rfl|rfl|rfl|rfl|rfl|rfl|rfl|rfl|rfl<;>first|rfl|omega
theorem mixL_set (X:Nat→Nat→Int) (k j:Nat) (h:j<8):(mixL X k j).set j (wrap64 (sumD X k j+X k j))=mixL X k (j+1):=by
  rcases eight (Nat.le_of_lt h) with rfl|rfl|rfl|rfl|rfl|rfl|rfl|rfl|rfl<;>first|rfl|omega
theorem dimAt_get (X:Nat→Nat→Int) (k j:Nat) (h:j<8):(dimAt X k)[j]?=some (X k j):=by
  rcases eight (Nat.le_of_lt h) with rfl|rfl|rfl|rfl|rfl|rfl|rfl|rfl|rfl<;>first|rfl|omega
theorem idxN (x0 x1 x2 x3 x4 x5 x6 x7:Int) (j:Nat) (y:Int) (h:[x0,x1,x2,x3,x4,x5,x6,x7][j]?=some y) (w:World):(Instr.index 26 (.agg #[I x0,I x1,I x2,I x3,I x4,I x5,I x6,I x7]) (I j)).run Tryz.prog w=.ok (I y) w:=by
  have hj:j<8:=(List.getElem?_eq_some_iff.1 h).1
  rcases eight (Nat.le_of_lt hj) with rfl|rfl|rfl|rfl|rfl|rfl|rfl|rfl|rfl
  · cases h;exact idx0 x0 x1 x2 x3 x4 x5 x6 x7 w
  · cases h;exact idx1 x0 x1 x2 x3 x4 x5 x6 x7 w
  · cases h;exact idx2 x0 x1 x2 x3 x4 x5 x6 x7 w
  · cases h;exact idx3 x0 x1 x2 x3 x4 x5 x6 x7 w
  · cases h;exact idx4 x0 x1 x2 x3 x4 x5 x6 x7 w
  · cases h;exact idx5 x0 x1 x2 x3 x4 x5 x6 x7 w
  · cases h;exact idx6 x0 x1 x2 x3 x4 x5 x6 x7 w
  · cases h;exact idx7 x0 x1 x2 x3 x4 x5 x6 x7 w
  · omega
end Go.Proofs.YtamoadanapmmeaaGreatDoor.Dm

namespace Go.Proofs.YtamoadanapmmeaaGreatDoor.Dm
open Go.RowKit
set_option maxRecDepth 100000 in
set_option maxHeartbeats 1000000 in
theorem mul_any (b o n c:Nat) (X:Nat→Nat→Int) (w:World) (hn:n≤9223372036854775807) (hd:Dims w b o n X):Calls Tryz.prog 175 #[.slice (some ⟨b,o,none⟩) n c] w fun e w'=>e=.returned (.tuple #[.agg #[I (sel (allB X n && rightB (sumL X n)) (sumD X n 0)),I (sel (allB X n && rightB (sumL X n)) (sumD X n 1)),I (sel (allB X n && rightB (sumL X n)) (sumD X n 2)),I (sel (allB X n && rightB (sumL X n)) (sumD X n 3)),I (sel (allB X n && rightB (sumL X n)) (sumD X n 4)),I (sel (allB X n && rightB (sumL X n)) (sumD X n 5)),I (sel (allB X n && rightB (sumL X n)) (sumD X n 6)),I (sel (allB X n && rightB (sumL X n)) (sumD X n 7))],I (mulErr X n)])∧Below w.heap.size w w':=by
  have HD:=hide hd
  have hbw:=hd.1
  clear hd
  go_enter Tryz.func175,Tryz.ntmps175
  go_wp2_with fail
  go_loopw [12] (fun i wr=>∃ k:Nat,i=I k∧k≤n∧Hid (allB X k=true)∧Hid (Own8 wr w.heap.size [0,0,0,0,0,0,0,0])∧Hid (Own8 wr (w.heap.size+1) (sumL X k))∧Hid (Below w.heap.size w wr)) (fun i _=>n - (intOf i).toNat)
  case atStart=>exact ⟨0,rfl,Nat.zero_le _,rfl,(Own8.new w [0,0,0,0,0,0,0,0]).alloc _,(by have h:=Own8.new (w.alloc (.cells #[I 0,I 0,I 0,I 0,I 0,I 0,I 0,I 0] 26)) [0,0,0,0,0,0,0,0];rw[size_alloc] at h;exact h),((Below.refl _ _).alloc (Nat.le_refl _) _).alloc (by simp) _⟩
  case round=>
    obtain ⟨k,rfl,hk,HA,HR,HP,HB⟩:=hrel
    by_cases hlt:k<n
    · obtain ⟨c0,c1,c2,c3,c4,c5,c6,c7⟩:wr.cell? ⟨b,o+k*8,none⟩=some (I (X k 0))∧wr.cell? ⟨b,o+k*8+1,none⟩=some (I (X k 1))∧wr.cell? ⟨b,o+k*8+2,none⟩=some (I (X k 2))∧wr.cell? ⟨b,o+k*8+3,none⟩=some (I (X k 3))∧wr.cell? ⟨b,o+k*8+4,none⟩=some (I (X k 4))∧wr.cell? ⟨b,o+k*8+5,none⟩=some (I (X k 5))∧wr.cell? ⟨b,o+k*8+6,none⟩=some (I (X k 6))∧wr.cell? ⟨b,o+k*8+7,none⟩=some (I (X k 7)):=by
        have h:=((un HD).later (un HB)).2 k hlt
        exact ⟨h 0 (by omega),h 1 (by omega),h 2 (by omega),h 3 (by omega),h 4 (by omega),h 5 (by omega),h 6 (by omega),h 7 (by omega)⟩
      have HC:=hide (right_any (X k 0) (X k 1) (X k 2) (X k 3) (X k 4) (X k 5) (X k 6) (X k 7))
      have hsz:=(un HP).lt
      have hsz0:w.heap.size<wr.heap.size:=by omega
      cases hr:rightB [X k 0,X k 1,X k 2,X k 3,X k 4,X k 5,X k 6,X k 7] with
      | false=>
        rw[hr] at HC
        have HF:=hide (allB_false X k n hlt hr)
        clear hr
        go_wp2_with (first
          | (go_at_call 170;refine (un HC _).mono ?_;rintro e w' ⟨rfl,rfl⟩)
          | (refine store8 rfl (.tmp 2) (.tmp 19) rfl w.heap.size _ [0,0,0,0,0,0,0,0] rfl rfl rfl rfl (((un HR).alloc _).alloc _) ?_))
        refine bodyPost_ret (v:=.tuple #[.agg (cells8 [0,0,0,0,0,0,0,0]),I 1]) (res2 Tryz.results175 _ _ w.heap.size _ rfl rfl ((((un HR).alloc _).alloc _).setRow _)) rfl ⟨?_,?_⟩
        · unfold mulErr;rw[un HF];rfl
        · exact below_setRow (((un HB).alloc (by omega) _).alloc (by simp;omega) _) (Nat.le_refl _) _
      | true=>
        rw[hr] at HC
        have HA':Hid (allB X (k+1)=true):=by show allB X (k+1)=true;unfold allB;rw[un HA];exact hr
        clear hr
        go_wp2_with (go_at_call 170;refine (un HC _).mono ?_;rintro e w' ⟨rfl,rfl⟩)
        go_loopw [21] (fun i w2=>∃ j:Nat,i=I j∧j≤8∧Hid (Own8 w2 (w.heap.size+1) (mixL X k j))∧Hid (Own8 w2 w.heap.size [0,0,0,0,0,0,0,0])∧Hid (Below w.heap.size w w2)) (fun i _=>8 - (intOf i).toNat)
        case atStart=>exact ⟨0,rfl,Nat.zero_le _,((un HP).alloc _).alloc _,((un HR).alloc _).alloc _,((un HB).alloc (by omega) _).alloc (by simp;omega) _⟩
        case round=>
          obtain ⟨j,rfl,hj,HP2,HR2,HB2⟩:=hrel
          clear c0 c1 c2 c3 c4 c5 c6 c7 HC
          by_cases hj8:j<8
          · have hix:=fun w=>idxN (X k 0) (X k 1) (X k 2) (X k 3) (X k 4) (X k 5) (X k 6) (X k 7) j (X k j) (dimAt_get X k j hj8) w
            have hcj:=(un HP2).cell j _ (mixL_get X k j hj8)
            have hff:=(un HP2).frozen j
            have HP3:Hid (Own8 (wr.setCell ⟨w.heap.size+1,j,none⟩ (I (wrap64 (sumD X k j+X k j)))) (w.heap.size+1) (mixL X k (j+1))):=by
              have h:=(un HP2).set j (wrap64 (sumD X k j+X k j))
              rw[mixL_set X k j hj8] at h
              exact h
            have HR3:Hid (Own8 (wr.setCell ⟨w.heap.size+1,j,none⟩ (I (wrap64 (sumD X k j+X k j)))) w.heap.size [0,0,0,0,0,0,0,0]):=(un HR2).other (by simp) _
            have HB3:Hid (Below w.heap.size w (wr.setCell ⟨w.heap.size+1,j,none⟩ (I (wrap64 (sumD X k j+X k j))))):=(un HB2).setCell (by simp) _
            go_wp2
            go_roundw
            case rel=>exact ⟨j+1,by go_num,by omega,HP3,HR3,HB3⟩
            case measure=>simp[intOf];omega
          · obtain rfl:j=8:=by omega
            have HP3:Hid (Own8 wr (w.heap.size+1) (sumL X (k+1))):=un HP2
            go_wp2
            go_roundw
            case rel=>exact ⟨k+1,by go_num,by omega,HA',HR2,HP3,HB2⟩
            case measure=>simp[intOf];omega
    · obtain rfl:k=n:=by omega
      obtain ⟨p0,p1,p2,p3,p4,p5,p6,p7⟩:wr.cell? ⟨w.heap.size+1,0,none⟩=some (I (sumD X k 0))∧wr.cell? ⟨w.heap.size+1,1,none⟩=some (I (sumD X k 1))∧wr.cell? ⟨w.heap.size+1,2,none⟩=some (I (sumD X k 2))∧wr.cell? ⟨w.heap.size+1,3,none⟩=some (I (sumD X k 3))∧wr.cell? ⟨w.heap.size+1,4,none⟩=some (I (sumD X k 4))∧wr.cell? ⟨w.heap.size+1,5,none⟩=some (I (sumD X k 5))∧wr.cell? ⟨w.heap.size+1,6,none⟩=some (I (sumD X k 6))∧wr.cell? ⟨w.heap.size+1,7,none⟩=some (I (sumD X k 7)):=by
        have h:=(un HP).cell
        exact ⟨h 0 _ rfl,h 1 _ rfl,h 2 _ rfl,h 3 _ rfl,h 4 _ rfl,h 5 _ rfl,h 6 _ rfl,h 7 _ rfl⟩
      have hsz:=(un HP).lt
      have HT:=hide (told_any (sumD X k 0) (sumD X k 1) (sumD X k 2) (sumD X k 3) (sumD X k 4) (sumD X k 5) (sumD X k 6) (sumD X k 7))
      have HM:Hid (mulErr X k=errOf (rightB [sumD X k 0,sumD X k 1,sumD X k 2,sumD X k 3,sumD X k 4,sumD X k 5,sumD X k 6,sumD X k 7]) 51):=by show mulErr X k=_;unfold mulErr;rw[un HA];rfl
      have HS:Hid ((allB X k && rightB (sumL X k))=rightB [sumD X k 0,sumD X k 1,sumD X k 2,sumD X k 3,sumD X k 4,sumD X k 5,sumD X k 6,sumD X k 7]):=by show (allB X k && _)=_;rw[un HA];rfl
      generalize rightB [sumD X k 0,sumD X k 1,sumD X k 2,sumD X k 3,sumD X k 4,sumD X k 5,sumD X k 6,sumD X k 7]=rq at HT HM HS
      go_wp2_with (first
          | (go_at_call 179;refine (un HT _).mono ?_;rintro e w' ⟨rfl,rfl⟩)
          | (refine store8 rfl (.tmp 2) (.tmp 35) rfl w.heap.size _ [sel rq (sumD X k 0),sel rq (sumD X k 1),sel rq (sumD X k 2),sel rq (sumD X k 3),sel rq (sumD X k 4),sel rq (sumD X k 5),sel rq (sumD X k 6),sel rq (sumD X k 7)] rfl rfl rfl rfl ((((un HR).alloc _).alloc _).alloc _) ?_))
      refine bodyPost_ret (v:=.tuple #[.agg (cells8 [sel rq (sumD X k 0),sel rq (sumD X k 1),sel rq (sumD X k 2),sel rq (sumD X k 3),sel rq (sumD X k 4),sel rq (sumD X k 5),sel rq (sumD X k 6),sel rq (sumD X k 7)]),I (errOf rq 51)]) (res2 Tryz.results175 _ _ w.heap.size _ rfl rfl (((((un HR).alloc _).alloc _).alloc _).setRow _)) rfl ⟨?_,?_⟩
      · rw[un HM,un HS];rfl
      · exact below_setRow ((((un HB).alloc (by omega) _).alloc (by simp;omega) _).alloc (by simp;omega) _) (Nat.le_refl _) _
end Go.Proofs.YtamoadanapmmeaaGreatDoor.Dm

namespace Go.Proofs.YtamoadanapmmeaaGreatDoor
open Go.RowKit
structure UB (W:World) (g:Nat) (vs:Array Value):Prop where
  lt:g<W.heap.size
  c:∀ i v,vs[i]?=some v→W.cell? ⟨g,i,none⟩=some v
  f:∀ i v,vs[i]?=some v→W.frozen? ⟨g,i,none⟩=false
theorem UB.later {W V:World} {g:Nat} {vs:Array Value} (h:UB W g vs) (hb:Below W.heap.size W V):UB V g vs :=
  ⟨Nat.lt_of_lt_of_le h.lt hb.size,fun i v e=>(hb.cell (p:=⟨g,i,none⟩) h.lt).trans (h.c i v e),fun i v e=>(hb.frozen (p:=⟨g,i,none⟩) h.lt).trans (h.f i v e)⟩
theorem UB.new (W:World) (vs:Array Value) (ty:Nat):UB (W.alloc (.cells vs ty)) W.heap.size vs :=
  ⟨by simp,fun i v e=>by simp[go_sem,e],fun i v e=>by simp[go_sem]⟩
def OwnU (W:World) (g ty:Nat) (vs:Array Value):Prop:=W.heap[g]?=some (.cells vs ty (0,0))
theorem OwnU.lt {W:World} {g ty:Nat} {vs:Array Value} (h:OwnU W g ty vs):g<W.heap.size:=(Array.getElem?_eq_some_iff.1 h).1
theorem OwnU.ub {W:World} {g ty:Nat} {vs:Array Value} (h:OwnU W g ty vs):UB W g vs:=by
  have hl:=h.lt
  unfold OwnU at h
  exact ⟨hl,fun i v e=>by simp[World.cell?,h,e],fun i v e=>by simp[World.frozen?,h]⟩
theorem OwnU.alloc {W:World} {g ty:Nat} {vs:Array Value} (h:OwnU W g ty vs) (o:Obj):OwnU (W.alloc o) g ty vs:=(Below.heap_alloc W o g h.lt).trans h
theorem OwnU.later {W V:World} {g ty:Nat} {vs:Array Value} (h:OwnU W g ty vs) (hb:Below W.heap.size W V):OwnU V g ty vs:=(hb.block g h.lt).trans h
theorem OwnU.new (W:World) (vs:Array Value) (ty:Nat):OwnU (W.alloc (.cells vs ty)) W.heap.size ty vs:=heap_alloc_new W _
theorem OwnU.setRow {W:World} {g ty:Nat} {vs:Array Value} (h:OwnU W g ty vs) (us:Array Value):OwnU (W.setRow g us) g ty us:=setRow_heap W g _ _ ty (0,0) h
theorem storeT {ops:Array Oper} {rest:List Oper} {o:Oper} {a:Act} {w:World} {Q:Exit→Act→World→Prop} (ty sz:Nat) (hinfo:(Tryz.prog.info? ty).map (·.size)=some sz) (hgd:o.guard=none) (x y:Operand) (ho:o.op=.store ty x y)
    (g:Nat) (vs us:Array Value) (hv:vs.size=sz) (hu:us.size=sz) (hx:a.eval x=.pointer (some ⟨g,0,none⟩)) (hy:a.eval y=.agg us) (hg:OwnU w g ty vs) (h1:us.all (·.oneCell')=true)
    (h:wpList Tryz.prog ops Q rest (a.put o.dst undef) (w.setRow g us)):wpList Tryz.prog ops Q (o :: rest) a w :=
  wpList_store_row hgd ty x y ho g us hx hy ty _ hg (by rw[hinfo,hu]) (by rw[hv,hu]) h1 h
theorem results_cell1 {fn:Func} {p:Tmp} {ty:TypeId} (h:fn.results=#[.cell p ty]) (tmps:Array Value) (P:Program) (w:World) :
    (results fn tmps).run P w=((asAddr (tmps.getD p undef)).run P w).andThen fun a w'=>(loadVar ty a).run P w':=by
  simp[results,h,go_sem]
end Go.Proofs.YtamoadanapmmeaaGreatDoor

namespace Go.Proofs.YtamoadanapmmeaaGreatDoor
open Go.RowKit
theorem info43:(Tryz.prog.info? 235).map (·.size)=some 10:=by kernel_rfl
theorem res43 {fn:Func} {p:Tmp} (h:fn.results=#[.cell p 235]) (tmps:Array Value) (w:World) (g:Nat) (vs:Array Value) (hl:vs.size=10) (hp:tmps.getD p undef=.pointer (some ⟨g,0,none⟩)) (ho:OwnU w g 235 vs) :
    (results fn tmps).run Tryz.prog w=.ok (.agg vs) w:=by
  rw[results_cell1 h,hp]
  simp only[asAddr,Sem.run_pure,Result.andThen_ok]
  rw[run_loadVar_row w g 235 235 vs (0,0) _ ho Tryz.underlying235 rfl (by rw[info43,hl])]
set_option maxRecDepth 100000 in
set_option maxHeartbeats 2000000 in
theorem fixed_any (a0 a1 a2 a3 a4 a5 a6 a7:Int) (w:World):Calls Tryz.prog 260 #[.agg #[I a0,I a1,I a2,I a3,I a4,I a5,I a6,I a7]] w fun r w'=>r=.returned (.agg #[I a0,I a1,I a2,I a3,I a4,I a5,I a6,I a7,I 1,I 1])∧Below w.heap.size w w':=by
  go_enter Tryz.func260,Tryz.ntmps260
  have HR:Hid (OwnU ((w.alloc (.cells #[I a0,I a1,I a2,I a3,I a4,I a5,I a6,I a7] 26)).alloc (.cells #[I 0,I 0,I 0,I 0,I 0,I 0,I 0,I 0,I 0,I 0] 235)) (w.heap.size+1) 235 #[I 0,I 0,I 0,I 0,I 0,I 0,I 0,I 0,I 0,I 0]):=by have h:=OwnU.new (w.alloc (.cells #[I a0,I a1,I a2,I a3,I a4,I a5,I a6,I a7] 26)) #[I 0,I 0,I 0,I 0,I 0,I 0,I 0,I 0,I 0,I 0] 235;rw[Dm.size_alloc] at h;exact h
  go_wp2_with (refine storeT 235 10 info43 rfl (.tmp 2) (.tmp 4) rfl (w.heap.size+1) #[I 0,I 0,I 0,I 0,I 0,I 0,I 0,I 0,I 0,I 0] #[I a0,I a1,I a2,I a3,I a4,I a5,I a6,I a7,I 1,I 1] rfl rfl rfl rfl (un HR) (by kernel_rfl) ?_)
  refine bodyPost_ret (v:=.agg #[I a0,I a1,I a2,I a3,I a4,I a5,I a6,I a7,I 1,I 1]) (res43 Tryz.results260 _ _ (w.heap.size+1) _ rfl rfl ((un HR).setRow _)) rfl ⟨rfl,below_setRow (((Below.refl _ _).alloc (Nat.le_refl _) _).alloc (by simp) _) (by omega) _⟩
set_option maxRecDepth 100000 in
set_option maxHeartbeats 2000000 in
theorem number_any (n:Int) (w:World):Calls Tryz.prog 261 #[I n] w fun r w'=>r=.returned (.agg #[I 0,I 0,I 0,I 0,I 0,I 0,I 0,I 0,I n,I 1])∧Below w.heap.size w w':=by
  go_enter Tryz.func261,Tryz.ntmps261
  have HR:Hid (OwnU (w.alloc (.cells #[I 0,I 0,I 0,I 0,I 0,I 0,I 0,I 0,I 0,I 0] 235)) w.heap.size 235 #[I 0,I 0,I 0,I 0,I 0,I 0,I 0,I 0,I 0,I 0]):=OwnU.new _ _ _
  go_wp2_with (refine storeT 235 10 info43 rfl (.tmp 2) (.tmp 4) rfl w.heap.size #[I 0,I 0,I 0,I 0,I 0,I 0,I 0,I 0,I 0,I 0] #[I 0,I 0,I 0,I 0,I 0,I 0,I 0,I 0,I n,I 1] rfl rfl rfl rfl (un HR) (by kernel_rfl) ?_)
  refine bodyPost_ret (v:=.agg #[I 0,I 0,I 0,I 0,I 0,I 0,I 0,I 0,I n,I 1]) (res43 Tryz.results261 _ _ w.heap.size _ rfl rfl ((un HR).setRow _)) rfl ⟨rfl,below_setRow ((Below.refl _ _).alloc (Nat.le_refl _) _) (Nat.le_refl _) _⟩
set_option maxRecDepth 100000 in
set_option maxHeartbeats 4000000 in
theorem amTimes_any (a0 a1 a2 a3 a4 a5 a6 a7 an ad b0 b1 b2 b3 b4 b5 b6 b7 bn bd c0 c1 c2 c3 c4 c5 c6 c7 e:Int) (w:World)
    (hm:∀ W:World,Calls Tryz.prog 175 #[.slice (some ⟨W.heap.size,0,none⟩) 2 2] (W.alloc (.cells #[I a0,I a1,I a2,I a3,I a4,I a5,I a6,I a7,I b0,I b1,I b2,I b3,I b4,I b5,I b6,I b7] 26)) fun r w'=>r=.returned (.tuple #[.agg #[I c0,I c1,I c2,I c3,I c4,I c5,I c6,I c7],I e])∧Below (W.alloc (.cells #[I a0,I a1,I a2,I a3,I a4,I a5,I a6,I a7,I b0,I b1,I b2,I b3,I b4,I b5,I b6,I b7] 26)).heap.size (W.alloc (.cells #[I a0,I a1,I a2,I a3,I a4,I a5,I a6,I a7,I b0,I b1,I b2,I b3,I b4,I b5,I b6,I b7] 26)) w') :
    Calls Tryz.prog 263 #[.agg #[I a0,I a1,I a2,I a3,I a4,I a5,I a6,I a7,I an,I ad],.agg #[I b0,I b1,I b2,I b3,I b4,I b5,I b6,I b7,I bn,I bd]] w fun r w'=>r=.returned (.agg #[I c0,I c1,I c2,I c3,I c4,I c5,I c6,I c7,I (wrap64 (an*bn)),I (wrap64 (ad*bd))])∧Below w.heap.size w w':=by
  obtain ⟨V,hV⟩:∃ V,V=(((w.alloc (.cells #[I a0,I a1,I a2,I a3,I a4,I a5,I a6,I a7,I an,I ad] 235)).alloc (.cells #[I b0,I b1,I b2,I b3,I b4,I b5,I b6,I b7,I bn,I bd] 235)).alloc (.cells #[I 0,I 0,I 0,I 0,I 0,I 0,I 0,I 0,I 0,I 0] 235)):=⟨_,rfl⟩
  have HA:Hid (OwnU V w.heap.size 235 #[I a0,I a1,I a2,I a3,I a4,I a5,I a6,I a7,I an,I ad]):=by rw[hV];exact ((OwnU.new w #[I a0,I a1,I a2,I a3,I a4,I a5,I a6,I a7,I an,I ad] 235).alloc _).alloc _
  have HB:Hid (OwnU V (w.heap.size+1) 235 #[I b0,I b1,I b2,I b3,I b4,I b5,I b6,I b7,I bn,I bd]):=by rw[hV];have h:=(OwnU.new (w.alloc (.cells #[I a0,I a1,I a2,I a3,I a4,I a5,I a6,I a7,I an,I ad] 235)) #[I b0,I b1,I b2,I b3,I b4,I b5,I b6,I b7,I bn,I bd] 235).alloc (.cells #[I 0,I 0,I 0,I 0,I 0,I 0,I 0,I 0,I 0,I 0] 235);rw[Dm.size_alloc] at h;exact h
  have HR:Hid (OwnU V (w.heap.size+2) 235 #[I 0,I 0,I 0,I 0,I 0,I 0,I 0,I 0,I 0,I 0]):=by rw[hV];have h:=OwnU.new ((w.alloc (.cells #[I a0,I a1,I a2,I a3,I a4,I a5,I a6,I a7,I an,I ad] 235)).alloc (.cells #[I b0,I b1,I b2,I b3,I b4,I b5,I b6,I b7,I bn,I bd] 235)) #[I 0,I 0,I 0,I 0,I 0,I 0,I 0,I 0,I 0,I 0] 235;rw[Dm.size_alloc,Dm.size_alloc] at h;exact h
  have HW:Hid (Below w.heap.size w V):=by rw[hV];exact (((Below.refl _ _).alloc (Nat.le_refl _) _).alloc (by simp) _).alloc (by simp;omega) _
  have HV:=hide hV
  have HM:=hide hm
  clear hV hm
  go_enter Tryz.func263,Tryz.ntmps263
  go_upto_region 1 with fail
  rw[← un HV]
  clear HV
  have x0:V.cell? ⟨w.heap.size,0,none⟩=some (I a0):=(un HA).ub.c 0 _ rfl;have x1:V.cell? ⟨w.heap.size,1,none⟩=some (I a1):=(un HA).ub.c 1 _ rfl;have x2:V.cell? ⟨w.heap.size,2,none⟩=some (I a2):=(un HA).ub.c 2 _ rfl;have x3:V.cell? ⟨w.heap.size,3,none⟩=some (I a3):=(un HA).ub.c 3 _ rfl;have x4:V.cell? ⟨w.heap.size,4,none⟩=some (I a4):=(un HA).ub.c 4 _ rfl;have x5:V.cell? ⟨w.heap.size,5,none⟩=some (I a5):=(un HA).ub.c 5 _ rfl;have x6:V.cell? ⟨w.heap.size,6,none⟩=some (I a6):=(un HA).ub.c 6 _ rfl;have x7:V.cell? ⟨w.heap.size,7,none⟩=some (I a7):=(un HA).ub.c 7 _ rfl
  have y0:V.cell? ⟨w.heap.size+1,0,none⟩=some (I b0):=(un HB).ub.c 0 _ rfl;have y1:V.cell? ⟨w.heap.size+1,1,none⟩=some (I b1):=(un HB).ub.c 1 _ rfl;have y2:V.cell? ⟨w.heap.size+1,2,none⟩=some (I b2):=(un HB).ub.c 2 _ rfl;have y3:V.cell? ⟨w.heap.size+1,3,none⟩=some (I b3):=(un HB).ub.c 3 _ rfl;have y4:V.cell? ⟨w.heap.size+1,4,none⟩=some (I b4):=(un HB).ub.c 4 _ rfl;have y5:V.cell? ⟨w.heap.size+1,5,none⟩=some (I b5):=(un HB).ub.c 5 _ rfl;have y6:V.cell? ⟨w.heap.size+1,6,none⟩=some (I b6):=(un HB).ub.c 6 _ rfl;have y7:V.cell? ⟨w.heap.size+1,7,none⟩=some (I b7):=(un HB).ub.c 7 _ rfl
  go_upto_region 2 with (go_at_call 175;go_must (refine (un HM _).mono ?_;rintro e1 w1 ⟨rfl,hb1⟩;have HB1:Hid (Below V.heap.size V w1):=((Below.refl V.heap.size V).alloc (Nat.le_refl _) _).trans (hb1.mono (by simp));clear hb1 x0 y0 x1 y1 x2 y2 x3 y3 x4 y4 x5 y5 x6 y6 x7 y7))
  have HA1:=hide ((un HA).later (un HB1));have HBB1:=hide ((un HB).later (un HB1));have HR1:=hide ((un HR).later (un HB1));have HW1:=hide ((un HW).trans ((un HB1).mono (un HW).size))
  clear HA HB HR HW HB1
  have HD:Hid (OwnU (w1.alloc (.cells #[I c0,I c1,I c2,I c3,I c4,I c5,I c6,I c7] 26)) w1.heap.size 26 #[I c0,I c1,I c2,I c3,I c4,I c5,I c6,I c7]):=OwnU.new _ _ _
  have hal:Below w1.heap.size w1 (w1.alloc (.cells #[I c0,I c1,I c2,I c3,I c4,I c5,I c6,I c7] 26)):=(Below.refl _ _).alloc (Nat.le_refl _) _
  have HA2:=hide ((un HA1).later hal);have HB2:=hide ((un HBB1).later hal);have HR2:=hide ((un HR1).later hal);have HW2:=hide ((un HW1).trans (hal.mono (un HW1).size))
  obtain ⟨g5,hg5⟩:∃ g5,g5=w1.heap.size:=⟨_,rfl⟩
  rw[← hg5] at HD ⊢
  clear hal hg5 HA1 HBB1 HR1 HW1
  generalize w1.alloc (.cells #[I c0,I c1,I c2,I c3,I c4,I c5,I c6,I c7] 26)=U at *
  have z0:U.cell? ⟨g5,0,none⟩=some (I c0):=(un HD).ub.c 0 _ rfl;have z1:U.cell? ⟨g5,1,none⟩=some (I c1):=(un HD).ub.c 1 _ rfl;have z2:U.cell? ⟨g5,2,none⟩=some (I c2):=(un HD).ub.c 2 _ rfl;have z3:U.cell? ⟨g5,3,none⟩=some (I c3):=(un HD).ub.c 3 _ rfl;have z4:U.cell? ⟨g5,4,none⟩=some (I c4):=(un HD).ub.c 4 _ rfl;have z5:U.cell? ⟨g5,5,none⟩=some (I c5):=(un HD).ub.c 5 _ rfl;have z6:U.cell? ⟨g5,6,none⟩=some (I c6):=(un HD).ub.c 6 _ rfl;have z7:U.cell? ⟨g5,7,none⟩=some (I c7):=(un HD).ub.c 7 _ rfl
  have x8:U.cell? ⟨w.heap.size,8,none⟩=some (I an):=(un HA2).ub.c 8 _ rfl
  have x9:U.cell? ⟨w.heap.size,9,none⟩=some (I ad):=(un HA2).ub.c 9 _ rfl
  have y8:U.cell? ⟨w.heap.size+1,8,none⟩=some (I bn):=(un HB2).ub.c 8 _ rfl
  have y9:U.cell? ⟨w.heap.size+1,9,none⟩=some (I bd):=(un HB2).ub.c 9 _ rfl
  go_wp2_with (refine storeT 235 10 info43 rfl (.tmp 4) (.tmp 27) rfl (w.heap.size+2) #[I 0,I 0,I 0,I 0,I 0,I 0,I 0,I 0,I 0,I 0] #[I c0,I c1,I c2,I c3,I c4,I c5,I c6,I c7,I (wrap64 (an*bn)),I (wrap64 (ad*bd))] rfl rfl rfl rfl (un HR2) (by kernel_rfl) ?_)
  refine bodyPost_ret (v:=.agg #[I c0,I c1,I c2,I c3,I c4,I c5,I c6,I c7,I (wrap64 (an*bn)),I (wrap64 (ad*bd))]) (res43 Tryz.results263 _ _ (w.heap.size+2) _ rfl rfl ((un HR2).setRow _)) rfl ⟨rfl,below_setRow (un HW2) (by omega) _⟩
set_option maxRecDepth 100000 in
set_option maxHeartbeats 4000000 in
theorem amBy_any (a0 a1 a2 a3 a4 a5 a6 a7 an ad b0 b1 b2 b3 b4 b5 b6 b7 bn bd c0 c1 c2 c3 c4 c5 c6 c7 e:Int) (w:World)
    (hm:∀ W,Calls Tryz.prog 105 #[.agg #[I a0,I a1,I a2,I a3,I a4,I a5,I a6,I a7],.agg #[I b0,I b1,I b2,I b3,I b4,I b5,I b6,I b7]] W fun r w'=>r=.returned (.tuple #[.agg #[I c0,I c1,I c2,I c3,I c4,I c5,I c6,I c7],I e])∧Below W.heap.size W w') :
    Calls Tryz.prog 262 #[.agg #[I a0,I a1,I a2,I a3,I a4,I a5,I a6,I a7,I an,I ad],.agg #[I b0,I b1,I b2,I b3,I b4,I b5,I b6,I b7,I bn,I bd]] w fun r w'=>r=.returned (.agg #[I c0,I c1,I c2,I c3,I c4,I c5,I c6,I c7,I (wrap64 (an*bd)),I (wrap64 (ad*bn))])∧Below w.heap.size w w':=by
  obtain ⟨V,hV⟩:∃ V,V=(((w.alloc (.cells #[I a0,I a1,I a2,I a3,I a4,I a5,I a6,I a7,I an,I ad] 235)).alloc (.cells #[I b0,I b1,I b2,I b3,I b4,I b5,I b6,I b7,I bn,I bd] 235)).alloc (.cells #[I 0,I 0,I 0,I 0,I 0,I 0,I 0,I 0,I 0,I 0] 235)):=⟨_,rfl⟩
  have HA:Hid (OwnU V w.heap.size 235 #[I a0,I a1,I a2,I a3,I a4,I a5,I a6,I a7,I an,I ad]):=by rw[hV];exact ((OwnU.new w #[I a0,I a1,I a2,I a3,I a4,I a5,I a6,I a7,I an,I ad] 235).alloc _).alloc _
  have HB:Hid (OwnU V (w.heap.size+1) 235 #[I b0,I b1,I b2,I b3,I b4,I b5,I b6,I b7,I bn,I bd]):=by rw[hV];have h:=(OwnU.new (w.alloc (.cells #[I a0,I a1,I a2,I a3,I a4,I a5,I a6,I a7,I an,I ad] 235)) #[I b0,I b1,I b2,I b3,I b4,I b5,I b6,I b7,I bn,I bd] 235).alloc (.cells #[I 0,I 0,I 0,I 0,I 0,I 0,I 0,I 0,I 0,I 0] 235);rw[Dm.size_alloc] at h;exact h
  have HR:Hid (OwnU V (w.heap.size+2) 235 #[I 0,I 0,I 0,I 0,I 0,I 0,I 0,I 0,I 0,I 0]):=by rw[hV];have h:=OwnU.new ((w.alloc (.cells #[I a0,I a1,I a2,I a3,I a4,I a5,I a6,I a7,I an,I ad] 235)).alloc (.cells #[I b0,I b1,I b2,I b3,I b4,I b5,I b6,I b7,I bn,I bd] 235)) #[I 0,I 0,I 0,I 0,I 0,I 0,I 0,I 0,I 0,I 0] 235;rw[Dm.size_alloc,Dm.size_alloc] at h;exact h
  have HW:Hid (Below w.heap.size w V):=by rw[hV];exact (((Below.refl _ _).alloc (Nat.le_refl _) _).alloc (by simp) _).alloc (by simp;omega) _
  have HV:=hide hV
  have HM:=hide hm
  clear hV hm
  go_enter Tryz.func262,Tryz.ntmps262
  go_upto_region 1 with fail
  rw[← un HV]
  clear HV
  have x0:V.cell? ⟨w.heap.size,0,none⟩=some (I a0):=(un HA).ub.c 0 _ rfl;have x1:V.cell? ⟨w.heap.size,1,none⟩=some (I a1):=(un HA).ub.c 1 _ rfl;have x2:V.cell? ⟨w.heap.size,2,none⟩=some (I a2):=(un HA).ub.c 2 _ rfl;have x3:V.cell? ⟨w.heap.size,3,none⟩=some (I a3):=(un HA).ub.c 3 _ rfl;have x4:V.cell? ⟨w.heap.size,4,none⟩=some (I a4):=(un HA).ub.c 4 _ rfl;have x5:V.cell? ⟨w.heap.size,5,none⟩=some (I a5):=(un HA).ub.c 5 _ rfl;have x6:V.cell? ⟨w.heap.size,6,none⟩=some (I a6):=(un HA).ub.c 6 _ rfl;have x7:V.cell? ⟨w.heap.size,7,none⟩=some (I a7):=(un HA).ub.c 7 _ rfl
  have y0:V.cell? ⟨w.heap.size+1,0,none⟩=some (I b0):=(un HB).ub.c 0 _ rfl;have y1:V.cell? ⟨w.heap.size+1,1,none⟩=some (I b1):=(un HB).ub.c 1 _ rfl;have y2:V.cell? ⟨w.heap.size+1,2,none⟩=some (I b2):=(un HB).ub.c 2 _ rfl;have y3:V.cell? ⟨w.heap.size+1,3,none⟩=some (I b3):=(un HB).ub.c 3 _ rfl;have y4:V.cell? ⟨w.heap.size+1,4,none⟩=some (I b4):=(un HB).ub.c 4 _ rfl;have y5:V.cell? ⟨w.heap.size+1,5,none⟩=some (I b5):=(un HB).ub.c 5 _ rfl;have y6:V.cell? ⟨w.heap.size+1,6,none⟩=some (I b6):=(un HB).ub.c 6 _ rfl;have y7:V.cell? ⟨w.heap.size+1,7,none⟩=some (I b7):=(un HB).ub.c 7 _ rfl
  go_upto_region 2 with (go_at_call 105;go_must (refine (un HM _).mono ?_;rintro e1 w1 ⟨rfl,hb1⟩;have HB1:=hide hb1;clear hb1 x0 y0 x1 y1 x2 y2 x3 y3 x4 y4 x5 y5 x6 y6 x7 y7))
  have HA1:=hide ((un HA).later (un HB1));have HBB1:=hide ((un HB).later (un HB1));have HR1:=hide ((un HR).later (un HB1));have HW1:=hide ((un HW).trans ((un HB1).mono (un HW).size))
  clear HA HB HR HW HB1
  have HD:Hid (OwnU (w1.alloc (.cells #[I c0,I c1,I c2,I c3,I c4,I c5,I c6,I c7] 26)) w1.heap.size 26 #[I c0,I c1,I c2,I c3,I c4,I c5,I c6,I c7]):=OwnU.new _ _ _
  have hal:Below w1.heap.size w1 (w1.alloc (.cells #[I c0,I c1,I c2,I c3,I c4,I c5,I c6,I c7] 26)):=(Below.refl _ _).alloc (Nat.le_refl _) _
  have HA2:=hide ((un HA1).later hal);have HB2:=hide ((un HBB1).later hal);have HR2:=hide ((un HR1).later hal);have HW2:=hide ((un HW1).trans (hal.mono (un HW1).size))
  obtain ⟨g5,hg5⟩:∃ g5,g5=w1.heap.size:=⟨_,rfl⟩
  rw[← hg5] at HD ⊢
  clear hal hg5 HA1 HBB1 HR1 HW1
  generalize w1.alloc (.cells #[I c0,I c1,I c2,I c3,I c4,I c5,I c6,I c7] 26)=U at *
  have z0:U.cell? ⟨g5,0,none⟩=some (I c0):=(un HD).ub.c 0 _ rfl;have z1:U.cell? ⟨g5,1,none⟩=some (I c1):=(un HD).ub.c 1 _ rfl;have z2:U.cell? ⟨g5,2,none⟩=some (I c2):=(un HD).ub.c 2 _ rfl;have z3:U.cell? ⟨g5,3,none⟩=some (I c3):=(un HD).ub.c 3 _ rfl;have z4:U.cell? ⟨g5,4,none⟩=some (I c4):=(un HD).ub.c 4 _ rfl;have z5:U.cell? ⟨g5,5,none⟩=some (I c5):=(un HD).ub.c 5 _ rfl;have z6:U.cell? ⟨g5,6,none⟩=some (I c6):=(un HD).ub.c 6 _ rfl;have z7:U.cell? ⟨g5,7,none⟩=some (I c7):=(un HD).ub.c 7 _ rfl
  have x8:U.cell? ⟨w.heap.size,8,none⟩=some (I an):=(un HA2).ub.c 8 _ rfl
  have x9:U.cell? ⟨w.heap.size,9,none⟩=some (I ad):=(un HA2).ub.c 9 _ rfl
  have y8:U.cell? ⟨w.heap.size+1,8,none⟩=some (I bn):=(un HB2).ub.c 8 _ rfl
  have y9:U.cell? ⟨w.heap.size+1,9,none⟩=some (I bd):=(un HB2).ub.c 9 _ rfl
  go_wp2_with (refine storeT 235 10 info43 rfl (.tmp 4) (.tmp 26) rfl (w.heap.size+2) #[I 0,I 0,I 0,I 0,I 0,I 0,I 0,I 0,I 0,I 0] #[I c0,I c1,I c2,I c3,I c4,I c5,I c6,I c7,I (wrap64 (an*bd)),I (wrap64 (ad*bn))] rfl rfl rfl rfl (un HR2) (by kernel_rfl) ?_)
  refine bodyPost_ret (v:=.agg #[I c0,I c1,I c2,I c3,I c4,I c5,I c6,I c7,I (wrap64 (an*bd)),I (wrap64 (ad*bn))]) (res43 Tryz.results262 _ _ (w.heap.size+2) _ rfl rfl ((un HR2).setRow _)) rfl ⟨rfl,below_setRow (un HW2) (by omega) _⟩
end Go.Proofs.YtamoadanapmmeaaGreatDoor

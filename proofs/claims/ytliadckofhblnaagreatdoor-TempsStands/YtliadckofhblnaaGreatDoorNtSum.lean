/- Big.Add, Big.Sub. -/
import Derived.Test.YtliadckofhblnaaGreatDoorLimb3
import Derived.Test.YtliadckofhblnaaGreatDoorOwn
import Derived.Great.BuildSlice
import Derived.Deep.MidRow
import Derived.Test.YtliadckofhblnaaGreatDoorFindS
import Derived.Test.YtliadckofhblnaaGreatDoorCmpMath
import Derived.Test.YtliadckofhblnaaGreatDoorMulMath
set_option maxHeartbeats 4000000
set_option maxRecDepth 100000
namespace Go.Proofs.YtliadckofhblnaaGreatDoor.Dm
open Go.RowKit
def zDh:List (List UInt8×List Int):=[
 ([110,117,109,98,101,114],[0,0,0,0,0,0,0,0]),
 ([108,101,110,103,116,104],[1,0,0,0,0,0,0,0]),
 ([109,97,115,115],[0,1,0,0,0,0,0,0]),
 ([116,105,109,101],[0,0,1,0,0,0,0,0]),
 ([99,117,114,114,101,110,116],[0,0,0,1,0,0,0,0]),
 ([116,101,109,112,101,114,97,116,117,114,101],[0,0,0,0,1,0,0,0]),
 ([97,109,111,117,110,116],[0,0,0,0,0,1,0,0]),
 ([108,105,103,104,116],[0,0,0,0,0,0,1,0]),
 ([105,110,102,111,114,109,97,116,105,111,110],[0,0,0,0,0,0,0,1]),
 ([118,111,108,117,109,101],[3,0,0,0,0,0,0,0]),
 ([115,112,101,101,100],[1,0,(-1),0,0,0,0,0]),
 ([102,111,114,99,101],[1,1,(-2),0,0,0,0,0]),
 ([101,110,101,114,103,121],[2,1,(-2),0,0,0,0,0]),
 ([100,101,110,115,105,116,121],[(-3),1,0,0,0,0,0,0]),
 ([97,99,116,105,111,110],[2,1,(-1),0,0,0,0,0]),
 ([99,104,97,114,103,101],[0,0,1,1,0,0,0,0]),
 ([118,111,108,116,97,103,101],[2,1,(-3),(-1),0,0,0,0]),
 ([114,101,115,105,115,116,97,110,99,101],[2,1,(-3),(-2),0,0,0,0]),
 ([99,111,110,100,117,99,116,97,110,99,101],[(-2),(-1),3,2,0,0,0,0]),
 ([99,97,112,97,99,105,116,97,110,99,101],[(-2),(-1),4,2,0,0,0,0]),
 ([105,110,100,117,99,116,97,110,99,101],[2,1,(-2),(-2),0,0,0,0]),
 ([102,108,117,120],[2,1,(-2),(-1),0,0,0,0]),
 ([102,105,101,108,100],[0,1,(-2),(-1),0,0,0,0]),
 ([97,114,101,97],[2,0,0,0,0,0,0,0]),
 ([102,114,101,113,117,101,110,99,121],[0,0,(-1),0,0,0,0,0]),
 ([97,99,99,101,108,101,114,97,116,105,111,110],[1,0,(-2),0,0,0,0,0]),
 ([112,114,101,115,115,117,114,101],[(-1),1,(-2),0,0,0,0,0]),
 ([112,111,119,101,114],[2,1,(-3),0,0,0,0,0]),
 ([109,111,109,101,110,116,117,109],[1,1,(-1),0,0,0,0,0]),
 ([101,110,116,114,111,112,121],[2,1,(-2),0,(-1),0,0,0])]
def kcells:Array Value:=(zDh.flatMap fun x=>Value.string ⟨x.1.toArray⟩ :: x.2.map fun z=>I z).toArray
theorem buildRows {ops:Array Oper} {rest:List Oper} {o:Oper} {a:Act} {w:World} {Q:Exit→Act→World→Prop} (hg:o.guard=none) (t e:TypeId) (parts:Array (Nat×Operand)) (ho:o.op=.buildSlice t 30 parts)
  (z:Value) (cells:Array Value) (d:Option Tmp) (hd:o.dst=d)
  (hu:Tryz.prog.underlying t=some (.slice e)) (hsz:(Tryz.prog.info? e).map (·.size)=some 9) (hz:(Tryz.prog.info? e).bind (·.zero)=some z)
  (hf:Instr.fill (fun i=>some (i*9,9)) ((Array.range (30*9)).map (z.cells[· % z.cells.size]!)) (parts.map fun (i,x)=>(i,a.eval x)).toList=some cells)
  (h:wpList Tryz.prog ops Q rest (a.put d (.slice (some ⟨w.heap.size,0,none⟩) 30 30)) (w.alloc (.cells cells e))):wpList Tryz.prog ops Q (o :: rest) a w:=by
 subst hd
 cases hie:Tryz.prog.info? e with
 | none=>simp[hie]at hsz
 | some ie=>
  simp only[hie,Option.map_some,Option.some.injEq,Option.bind_some]at hsz hz;refine wpList_buildSlice hg t e 30 parts ho cells ie z hu hie hz (by rw[hsz];decide) (by rw[hsz];decide) ?_ h;rw[hsz];exact hf
def zeroKind:Value:=.agg #[G #[],I 0,I 0,I 0,I 0,I 0,I 0,I 0,I 0]
theorem kinds_any (w:World):Calls Tryz.prog 178 #[] w fun e w'=>e=.returned (.slice (some ⟨w.heap.size,0,none⟩) 30 30)∧w'=w.alloc (.cells kcells 203):=by
 go_enter Tryz.func178,Tryz.ntmps178
 go_wp2_with (first
  | (refine wpList_buildTo rfl 26 _ rfl (some 1) rfl #[I 0,I 0,I 0,I 0,I 0,I 0,I 0,I 0] (by kernel_rfl) ?_)
  | (refine wpList_buildTo rfl 203 _ rfl (some 2) rfl #[G #[110,117,109,98,101,114],I 0,I 0,I 0,I 0,I 0,I 0,I 0,I 0] (by kernel_rfl) ?_)
  | (refine wpList_buildTo rfl 26 _ rfl (some 3) rfl #[I 1,I 0,I 0,I 0,I 0,I 0,I 0,I 0] (by kernel_rfl) ?_)
  | (refine wpList_buildTo rfl 203 _ rfl (some 4) rfl #[G #[108,101,110,103,116,104],I 1,I 0,I 0,I 0,I 0,I 0,I 0,I 0] (by kernel_rfl) ?_)
  | (refine wpList_buildTo rfl 26 _ rfl (some 5) rfl #[I 0,I 1,I 0,I 0,I 0,I 0,I 0,I 0] (by kernel_rfl) ?_)
  | (refine wpList_buildTo rfl 203 _ rfl (some 6) rfl #[G #[109,97,115,115],I 0,I 1,I 0,I 0,I 0,I 0,I 0,I 0] (by kernel_rfl) ?_)
  | (refine wpList_buildTo rfl 26 _ rfl (some 7) rfl #[I 0,I 0,I 1,I 0,I 0,I 0,I 0,I 0] (by kernel_rfl) ?_)
  | (refine wpList_buildTo rfl 203 _ rfl (some 8) rfl #[G #[116,105,109,101],I 0,I 0,I 1,I 0,I 0,I 0,I 0,I 0] (by kernel_rfl) ?_)
  | (refine wpList_buildTo rfl 26 _ rfl (some 9) rfl #[I 0,I 0,I 0,I 1,I 0,I 0,I 0,I 0] (by kernel_rfl) ?_)
  | (refine wpList_buildTo rfl 203 _ rfl (some 10) rfl #[G #[99,117,114,114,101,110,116],I 0,I 0,I 0,I 1,I 0,I 0,I 0,I 0] (by kernel_rfl) ?_)
  | (refine wpList_buildTo rfl 26 _ rfl (some 11) rfl #[I 0,I 0,I 0,I 0,I 1,I 0,I 0,I 0] (by kernel_rfl) ?_)
  | (refine wpList_buildTo rfl 203 _ rfl (some 12) rfl #[G #[116,101,109,112,101,114,97,116,117,114,101],I 0,I 0,I 0,I 0,I 1,I 0,I 0,I 0] (by kernel_rfl) ?_)
  | (refine wpList_buildTo rfl 26 _ rfl (some 13) rfl #[I 0,I 0,I 0,I 0,I 0,I 1,I 0,I 0] (by kernel_rfl) ?_)
  | (refine wpList_buildTo rfl 203 _ rfl (some 14) rfl #[G #[97,109,111,117,110,116],I 0,I 0,I 0,I 0,I 0,I 1,I 0,I 0] (by kernel_rfl) ?_)
  | (refine wpList_buildTo rfl 26 _ rfl (some 15) rfl #[I 0,I 0,I 0,I 0,I 0,I 0,I 1,I 0] (by kernel_rfl) ?_)
  | (refine wpList_buildTo rfl 203 _ rfl (some 16) rfl #[G #[108,105,103,104,116],I 0,I 0,I 0,I 0,I 0,I 0,I 1,I 0] (by kernel_rfl) ?_)
  | (refine wpList_buildTo rfl 26 _ rfl (some 17) rfl #[I 0,I 0,I 0,I 0,I 0,I 0,I 0,I 1] (by kernel_rfl) ?_)
  | (refine wpList_buildTo rfl 203 _ rfl (some 18) rfl #[G #[105,110,102,111,114,109,97,116,105,111,110],I 0,I 0,I 0,I 0,I 0,I 0,I 0,I 1] (by kernel_rfl) ?_)
  | (refine wpList_buildTo rfl 26 _ rfl (some 19) rfl #[I 3,I 0,I 0,I 0,I 0,I 0,I 0,I 0] (by kernel_rfl) ?_)
  | (refine wpList_buildTo rfl 203 _ rfl (some 20) rfl #[G #[118,111,108,117,109,101],I 3,I 0,I 0,I 0,I 0,I 0,I 0,I 0] (by kernel_rfl) ?_)
  | (refine wpList_buildTo rfl 26 _ rfl (some 21) rfl #[I 1,I 0,I (-1),I 0,I 0,I 0,I 0,I 0] (by kernel_rfl) ?_)
  | (refine wpList_buildTo rfl 203 _ rfl (some 22) rfl #[G #[115,112,101,101,100],I 1,I 0,I (-1),I 0,I 0,I 0,I 0,I 0] (by kernel_rfl) ?_)
  | (refine wpList_buildTo rfl 26 _ rfl (some 23) rfl #[I 1,I 1,I (-2),I 0,I 0,I 0,I 0,I 0] (by kernel_rfl) ?_)
  | (refine wpList_buildTo rfl 203 _ rfl (some 24) rfl #[G #[102,111,114,99,101],I 1,I 1,I (-2),I 0,I 0,I 0,I 0,I 0] (by kernel_rfl) ?_)
  | (refine wpList_buildTo rfl 26 _ rfl (some 25) rfl #[I 2,I 1,I (-2),I 0,I 0,I 0,I 0,I 0] (by kernel_rfl) ?_)
  | (refine wpList_buildTo rfl 203 _ rfl (some 26) rfl #[G #[101,110,101,114,103,121],I 2,I 1,I (-2),I 0,I 0,I 0,I 0,I 0] (by kernel_rfl) ?_)
  | (refine wpList_buildTo rfl 26 _ rfl (some 27) rfl #[I (-3),I 1,I 0,I 0,I 0,I 0,I 0,I 0] (by kernel_rfl) ?_)
  | (refine wpList_buildTo rfl 203 _ rfl (some 28) rfl #[G #[100,101,110,115,105,116,121],I (-3),I 1,I 0,I 0,I 0,I 0,I 0,I 0] (by kernel_rfl) ?_)
  | (refine wpList_buildTo rfl 26 _ rfl (some 29) rfl #[I 2,I 1,I (-1),I 0,I 0,I 0,I 0,I 0] (by kernel_rfl) ?_)
  | (refine wpList_buildTo rfl 203 _ rfl (some 30) rfl #[G #[97,99,116,105,111,110],I 2,I 1,I (-1),I 0,I 0,I 0,I 0,I 0] (by kernel_rfl) ?_)
  | (refine wpList_buildTo rfl 26 _ rfl (some 31) rfl #[I 0,I 0,I 1,I 1,I 0,I 0,I 0,I 0] (by kernel_rfl) ?_)
  | (refine wpList_buildTo rfl 203 _ rfl (some 32) rfl #[G #[99,104,97,114,103,101],I 0,I 0,I 1,I 1,I 0,I 0,I 0,I 0] (by kernel_rfl) ?_)
  | (refine wpList_buildTo rfl 26 _ rfl (some 33) rfl #[I 2,I 1,I (-3),I (-1),I 0,I 0,I 0,I 0] (by kernel_rfl) ?_)
  | (refine wpList_buildTo rfl 203 _ rfl (some 34) rfl #[G #[118,111,108,116,97,103,101],I 2,I 1,I (-3),I (-1),I 0,I 0,I 0,I 0] (by kernel_rfl) ?_)
  | (refine wpList_buildTo rfl 26 _ rfl (some 35) rfl #[I 2,I 1,I (-3),I (-2),I 0,I 0,I 0,I 0] (by kernel_rfl) ?_)
  | (refine wpList_buildTo rfl 203 _ rfl (some 36) rfl #[G #[114,101,115,105,115,116,97,110,99,101],I 2,I 1,I (-3),I (-2),I 0,I 0,I 0,I 0] (by kernel_rfl) ?_)
  | (refine wpList_buildTo rfl 26 _ rfl (some 37) rfl #[I (-2),I (-1),I 3,I 2,I 0,I 0,I 0,I 0] (by kernel_rfl) ?_)
  | (refine wpList_buildTo rfl 203 _ rfl (some 38) rfl #[G #[99,111,110,100,117,99,116,97,110,99,101],I (-2),I (-1),I 3,I 2,I 0,I 0,I 0,I 0] (by kernel_rfl) ?_)
  | (refine wpList_buildTo rfl 26 _ rfl (some 39) rfl #[I (-2),I (-1),I 4,I 2,I 0,I 0,I 0,I 0] (by kernel_rfl) ?_)
  | (refine wpList_buildTo rfl 203 _ rfl (some 40) rfl #[G #[99,97,112,97,99,105,116,97,110,99,101],I (-2),I (-1),I 4,I 2,I 0,I 0,I 0,I 0] (by kernel_rfl) ?_)
  | (refine wpList_buildTo rfl 26 _ rfl (some 41) rfl #[I 2,I 1,I (-2),I (-2),I 0,I 0,I 0,I 0] (by kernel_rfl) ?_)
  | (refine wpList_buildTo rfl 203 _ rfl (some 42) rfl #[G #[105,110,100,117,99,116,97,110,99,101],I 2,I 1,I (-2),I (-2),I 0,I 0,I 0,I 0] (by kernel_rfl) ?_)
  | (refine wpList_buildTo rfl 26 _ rfl (some 43) rfl #[I 2,I 1,I (-2),I (-1),I 0,I 0,I 0,I 0] (by kernel_rfl) ?_)
  | (refine wpList_buildTo rfl 203 _ rfl (some 44) rfl #[G #[102,108,117,120],I 2,I 1,I (-2),I (-1),I 0,I 0,I 0,I 0] (by kernel_rfl) ?_)
  | (refine wpList_buildTo rfl 26 _ rfl (some 45) rfl #[I 0,I 1,I (-2),I (-1),I 0,I 0,I 0,I 0] (by kernel_rfl) ?_)
  | (refine wpList_buildTo rfl 203 _ rfl (some 46) rfl #[G #[102,105,101,108,100],I 0,I 1,I (-2),I (-1),I 0,I 0,I 0,I 0] (by kernel_rfl) ?_)
  | (refine wpList_buildTo rfl 26 _ rfl (some 47) rfl #[I 2,I 0,I 0,I 0,I 0,I 0,I 0,I 0] (by kernel_rfl) ?_)
  | (refine wpList_buildTo rfl 203 _ rfl (some 48) rfl #[G #[97,114,101,97],I 2,I 0,I 0,I 0,I 0,I 0,I 0,I 0] (by kernel_rfl) ?_)
  | (refine wpList_buildTo rfl 26 _ rfl (some 49) rfl #[I 0,I 0,I (-1),I 0,I 0,I 0,I 0,I 0] (by kernel_rfl) ?_)
  | (refine wpList_buildTo rfl 203 _ rfl (some 50) rfl #[G #[102,114,101,113,117,101,110,99,121],I 0,I 0,I (-1),I 0,I 0,I 0,I 0,I 0] (by kernel_rfl) ?_)
  | (refine wpList_buildTo rfl 26 _ rfl (some 51) rfl #[I 1,I 0,I (-2),I 0,I 0,I 0,I 0,I 0] (by kernel_rfl) ?_)
  | (refine wpList_buildTo rfl 203 _ rfl (some 52) rfl #[G #[97,99,99,101,108,101,114,97,116,105,111,110],I 1,I 0,I (-2),I 0,I 0,I 0,I 0,I 0] (by kernel_rfl) ?_)
  | (refine wpList_buildTo rfl 26 _ rfl (some 53) rfl #[I (-1),I 1,I (-2),I 0,I 0,I 0,I 0,I 0] (by kernel_rfl) ?_)
  | (refine wpList_buildTo rfl 203 _ rfl (some 54) rfl #[G #[112,114,101,115,115,117,114,101],I (-1),I 1,I (-2),I 0,I 0,I 0,I 0,I 0] (by kernel_rfl) ?_)
  | (refine wpList_buildTo rfl 26 _ rfl (some 55) rfl #[I 2,I 1,I (-3),I 0,I 0,I 0,I 0,I 0] (by kernel_rfl) ?_)
  | (refine wpList_buildTo rfl 203 _ rfl (some 56) rfl #[G #[112,111,119,101,114],I 2,I 1,I (-3),I 0,I 0,I 0,I 0,I 0] (by kernel_rfl) ?_)
  | (refine wpList_buildTo rfl 26 _ rfl (some 57) rfl #[I 1,I 1,I (-1),I 0,I 0,I 0,I 0,I 0] (by kernel_rfl) ?_)
  | (refine wpList_buildTo rfl 203 _ rfl (some 58) rfl #[G #[109,111,109,101,110,116,117,109],I 1,I 1,I (-1),I 0,I 0,I 0,I 0,I 0] (by kernel_rfl) ?_)
  | (refine wpList_buildTo rfl 26 _ rfl (some 59) rfl #[I 2,I 1,I (-2),I 0,I (-1),I 0,I 0,I 0] (by kernel_rfl) ?_)
  | (refine wpList_buildTo rfl 203 _ rfl (some 60) rfl #[G #[101,110,116,114,111,112,121],I 2,I 1,I (-2),I 0,I (-1),I 0,I 0,I 0] (by kernel_rfl) ?_)
  | (refine buildRows rfl 200 203 _ rfl zeroKind kcells (some 61) rfl Tryz.underlying200 (by kernel_rfl) (by kernel_rfl) (by kernel_rfl) ?_))
 go_ret
 exact⟨rfl,rfl⟩
theorem flat_get {α β:Type} (f:α→List β) (m:Nat):∀(L:List α),(∀x∈L,(f x).length=m)→∀(k j:Nat) (x:α),L[k]?=some x→j<m→(L.flatMap f)[k*m+j]?=(f x)[j]?
 | [],_,k,_,_,h,_=>by simp at h
 | a :: L,hl,0,j,x,h,hj=>by
  simp at h
  subst h;rw[List.flatMap_cons,Nat.zero_mul,Nat.zero_add,List.getElem?_append_left (by rw[hl a (by simp)];exact hj)]
 | a :: L,hl,k+1,j,x,h,hj=>by
  have ha:=hl a (by simp);rw[List.flatMap_cons,List.getElem?_append_right (by rw[ha,Nat.succ_mul];omega),ha,show(k+1)*m+j - m=k*m+j by rw[Nat.succ_mul];omega];exact flat_get f m L (fun y hy=>hl y (by simp[hy])) k j x (by simpa using h) hj
def zEb (x:List UInt8×List Int):List Value:=Value.string ⟨x.1.toArray⟩ :: x.2.map fun z=>I z
theorem tab_eight:∀x∈zDh,x.2.length=8:=by decide
theorem kcells_get (k j:Nat) (x:List UInt8×List Int) (h:zDh[k]?=some x) (hj:j<9):kcells[k*9+j]?=(zEb x)[j]?:=by
 unfold kcells;rw[List.getElem?_toArray];exact flat_get zEb 9 zDh (fun y hy=>by simp[zEb,tab_eight y hy]) k j x h hj
theorem kind_shape (k:Nat) (h:k<30):∃(s:ByteArray) (e0 e1 e2 e3 e4 e5 e6 e7:Int),zDh[k]?=some (s.data.toList,[e0,e1,e2,e3,e4,e5,e6,e7])∧zEb (s.data.toList,[e0,e1,e2,e3,e4,e5,e6,e7])=[.string s,I e0,I e1,I e2,I e3,I e4,I e5,I e6,I e7]:=by
 have hk:k<zDh.length:=h;have hm:=tab_eight _ (List.getElem_mem hk);obtain⟨nm,l,hx⟩:∃nm l,zDh[k]=(nm,l):=⟨_,_,rfl⟩;rw[hx]at hm
 match l,hm with
 | [e0,e1,e2,e3,e4,e5,e6,e7],_=>exact⟨⟨nm.toArray⟩,e0,e1,e2,e3,e4,e5,e6,e7,by rw[List.getElem?_eq_getElem hk,hx],by simp[zEb]⟩
def zFq (w:World) (g t:Nat):Prop:=w.heap[g]?=some (.cells kcells t (0,0))
theorem zFq.alloc {w:World} {g t:Nat} (h:zFq w g t) (o:Obj):zFq (w.alloc o) g t:=(Below.heap_alloc w o g (Array.getElem?_eq_some_iff.1 h).1).trans h
theorem zFq.new (w:World) (t:Nat):zFq (w.alloc (.cells kcells t)) w.heap.size t:=heap_alloc_new w _
theorem zFq.lt {w:World} {g t:Nat} (h:zFq w g t):g<w.heap.size:=(Array.getElem?_eq_some_iff.1 h).1
theorem zFq.cell {w:World} {g t:Nat} (h:zFq w g t) (k j:Nat) (x:List UInt8×List Int) (hk:zDh[k]?=some x) (hj:j<9):w.cell? ⟨g,k*9+j,none⟩=(zEb x)[j]?:=by
 unfold zFq at h
 rw[←kcells_get k j x hk hj];simp[World.cell?,h]
theorem find_take {α:Type} (p:α→Bool) (L:List α) (k:Nat) (x:α) (h:(L.take k).find? p=none) (hk:L[k]?=some x) (hp:p x=true):L.find? p=some x:=by
 obtain⟨hlt,hx⟩:=List.getElem?_eq_some_iff.1 hk;rw[←List.take_append_drop k L,List.find?_append,h,Option.none_or,List.drop_eq_getElem_cons hlt,hx,List.find?_cons_of_pos hp]
theorem find_step {α:Type} (p:α→Bool) (L:List α) (k:Nat) (x:α) (h:(L.take k).find? p=none) (hk:L[k]?=some x) (hp:p x=false):(L.take (k+1)).find? p=none:=by
 rw[List.take_add_one,hk,List.find?_append,h,Option.none_or];simp[hp]
def kindNamed (s:List UInt8):Option (List UInt8×List Int):=zDh.find? fun x=>x.1 == s
def kindDim (o:Option (List UInt8×List Int)):List Int:=match o with|some x=>x.2|none=>[0,0,0,0,0,0,0,0]
theorem zFq.cells {w:World} {g t:Nat} (h:zFq w g t) (k:Nat) (s:ByteArray) (e0 e1 e2 e3 e4 e5 e6 e7:Int) (hk:zDh[k]?=some (s.data.toList,[e0,e1,e2,e3,e4,e5,e6,e7])) (hv:zEb (s.data.toList,[e0,e1,e2,e3,e4,e5,e6,e7])=[.string s,I e0,I e1,I e2,I e3,I e4,I e5,I e6,I e7]) :
 w.cell? ⟨g,k*9,none⟩=some (.string s)∧w.cell? ⟨g,k*9+1,none⟩=some (I e0)∧w.cell? ⟨g,k*9+2,none⟩=some (I e1)∧w.cell? ⟨g,k*9+3,none⟩=some (I e2)∧w.cell? ⟨g,k*9+4,none⟩=some (I e3)∧w.cell? ⟨g,k*9+5,none⟩=some (I e4)∧w.cell? ⟨g,k*9+6,none⟩=some (I e5)∧w.cell? ⟨g,k*9+7,none⟩=some (I e6)∧w.cell? ⟨g,k*9+8,none⟩=some (I e7):=by
 have h1:=fun j hj=>h.cell k j _ hk hj
 rw[hv]at h1;exact⟨h1 0 (by omega),h1 1 (by omega),h1 2 (by omega),h1 3 (by omega),h1 4 (by omega),h1 5 (by omega),h1 6 (by omega),h1 7 (by omega),h1 8 (by omega)⟩
theorem of_any (t:ByteArray) (w:World):Calls Tryz.prog 104 #[.string t] w fun e w'=>e=.returned (.tuple #[.agg (cells8 (kindDim (kindNamed t.data.toList))),.bool (kindNamed t.data.toList).isSome])∧Bw w w':=by
 go_enter Tryz.func104,Tryz.ntmps104
 go_wp2_with (go_at_call 178;refine(kinds_any _).mono ?_;rintro e w' ⟨rfl,rfl⟩)
 go_loopw [8] (fun i wr=>∃k:Nat,i=I k∧k≤30∧Hid ((zDh.take k).find? (fun x=>x.1 == t.data.toList)=none)∧Hid (zFr wr w.heap.size [0,0,0,0,0,0,0,0])∧Hid (zFq wr (w.heap.size+1) 203)∧Hid (Bw w wr)) (fun i _=>30 - (intOf i).toNat)
 case atStart=>exact⟨0,rfl,Nat.zero_le _,rfl,(zFr.new w [0,0,0,0,0,0,0,0]).alloc _,(by have h:=zFq.new (w.alloc (.cells #[I 0,I 0,I 0,I 0,I 0,I 0,I 0,I 0] 26)) 203;rw[size_alloc]at h;exact h),bA.alloc (by simp) _⟩
 case round=>
  obtain⟨k,rfl,hk,HN,HO,HK,HB⟩:=hrel;have hsz:=(un HK).lt;have hsz0:w.heap.size<wr.heap.size:=by omega
  by_cases hlt:k<30
  ·obtain⟨s,e0,e1,e2,e3,e4,e5,e6,e7,hrow,hval⟩:=kind_shape k hlt
   obtain⟨t0,t1,t2,t3,t4,t5,t6,t7,t8⟩:=(un HK).cells k s e0 e1 e2 e3 e4 e5 e6 e7 hrow hval;have HROW:=zAb hrow;clear hval hrow;have HO2:=fun a=>zAb ((un HO).alloc a)
   have HK2:=fun a=>zAb ((un HK).alloc a)
   have HB2:=fun a=>zAb ((un HB).alloc (Nat.le_of_lt hsz0) a)
   cases hq:(s.data.toList == t.data.toList)with
   | true=>
    have HF:Hid (kindNamed t.data.toList=some (s.data.toList,[e0,e1,e2,e3,e4,e5,e6,e7])):=find_take (fun x:List UInt8×List Int=>x.1 == t.data.toList) zDh k _ (un HN) (un HROW) hq;have hq':(s.toList == t.toList)=true:=by rw[ByteArray.toList_eq,ByteArray.toList_eq];exact hq
    clear hq
    go_wp2_with (refine store8 rfl (.tmp 2) (.tmp 17) rfl w.heap.size _ [e0,e1,e2,e3,e4,e5,e6,e7] rfl rfl rfl rfl (un (HO2 _)) ?_)
    refine bodyPost_ret (v:=.tuple #[.agg (cells8 [e0,e1,e2,e3,e4,e5,e6,e7]),.bool true]) (res2 Tryz.results104 _ _ w.heap.size _ rfl rfl ((un (HO2 _)).setRow _)) rfl ⟨?_,?_⟩
    ·rw[un HF];rfl
    ·exact below_setRow (un (HB2 _)) (Nat.le_refl _) _
   | false=>
    have HN2:=zAb (find_step (fun x:List UInt8×List Int=>x.1 == t.data.toList) zDh k _ (un HN) (un HROW) hq);have hq':(s.toList == t.toList)=false:=by rw[ByteArray.toList_eq,ByteArray.toList_eq];exact hq
    clear hq
    go_wp2
    go_roundw
    case rel=>exact⟨k+1,by go_num,by omega,HN2,HO2 _,HK2 _,HB2 _⟩
    case measure=>simp[intOf];omega
  ·obtain rfl:k=30:=by omega
   have HF:Hid (kindNamed t.data.toList=none):=un HN
   go_wp2_with (refine store8 rfl (.tmp 2) (.tmp 19) rfl w.heap.size _ [0,0,0,0,0,0,0,0] rfl rfl rfl rfl (un HO) ?_)
   refine bodyPost_ret (v:=.tuple #[.agg (cells8 [0,0,0,0,0,0,0,0]),.bool false]) (res2 Tryz.results104 _ _ w.heap.size _ rfl rfl ((un HO).setRow _)) rfl ⟨?_,?_⟩
   ·rw[un HF];rfl
   ·exact below_setRow (un HB) (Nat.le_refl _) _
end Go.Proofs.YtliadckofhblnaaGreatDoor.Dm
namespace Go.Proofs.YtliadckofhblnaaGreatDoor.Tm
open Go.RowKit
abbrev z8:Array Value:=#[I 0,I 0,I 0,I 0,I 0,I 0,I 0,I 0]
def perK:Array Value:=#[I 2,I 1,I (-2),I 0,I (-1),I 0,I 0,I 0]
def dimK:Array Value:=#[I 0,I 0,I 0,I 0,I 1,I 0,I 0,I 0]
def jouL:List Value:=[I 2,I 1,I (-2),I 0,I 0,I 0,I 0,I 0]
theorem of_entropy (w:World):Calls Tryz.prog 104 #[G #[101,110,116,114,111,112,121]] w fun r w'=>r=.returned (.tuple #[.agg perK,.bool true])∧Bw w w':=by
 have h:=Dm.of_any ⟨#[101,110,116,114,111,112,121]⟩ w;rw[show Dm.cells8 (Dm.kindDim (Dm.kindNamed (⟨#[101,110,116,114,111,112,121]⟩:ByteArray).data.toList))=perK by kernel_rfl,show(Dm.kindNamed (⟨#[101,110,116,114,111,112,121]⟩:ByteArray).data.toList).isSome=true by kernel_rfl]at h;exact h
theorem quo_k (w:World):Calls Tryz.prog 105 #[.agg jouL.toArray,.agg perK] w fun r w'=>r=.returned (.tuple #[.agg dimK,I 0])∧Bw w w':=by
 refine(Dm.quo_any 2 1 (-2) 0 0 0 0 0 2 1 (-2) 0 (-1) 0 0 0 w).mono ?_;rintro r w' ⟨rfl,hb⟩;exact⟨by kernel_rfl,hb⟩
theorem joule_mid:∀j v,jouL[j]?=some v→(ruT 2)[2+j]?=some v:=fun j v h=>by
 have key:∀j:Nat,j<8→(ruT 2)[2+j]?=jouL[j]?:=fun j hj=>by rcases Dm.eight (Nat.le_of_lt hj)with rfl|rfl|rfl|rfl|rfl|rfl|rfl|rfl|rfl<;>first|omega|kernel_rfl
 rw[key j (List.getElem?_eq_some_iff.1 h).1];exact h
structure R8 (w W:World):Prop where
 o:zAc W w.heap.size 26 z8
 b:Below w.heap.size w W
theorem R8.later {w W V:World} (h:R8 w W) (hb:Below W.heap.size W V):R8 w V:=⟨h.o.later hb,h.b.trans (hb.mono h.b.size)⟩
theorem R8.new (w:World):R8 w (w.alloc (.cells z8 26)):=⟨zAc.new _ _ _,bA⟩
theorem temperature_any (w:World) (htab:Tab w):Calls Tryz.prog 42 #[] w fun r w'=>r=.returned (.agg dimK)∧Bw w w':=by
 obtain⟨V,hV⟩:∃V,V=w.alloc (.cells #[I 0,I 0,I 0,I 0,I 0,I 0,I 0,I 0] 26):=⟨_,rfl⟩;have H:Hid (R8 w V):=by rw[hV];exact R8.new w
 have HF:Hid (∀W,Below w.heap.size w W→Calls Tryz.prog 71 #[G #[106,111,117,108,101]] W fun r w'=>r=.returned (.tuple #[.agg (ruT 2),.bool true])∧Bw W w'):=fun W hb=>zGg _ 2 (by decide) (Or.inl ⟨2,by decide,rfl,by decide +kernel,by decide +kernel⟩) W (htab.later hb)
 have HZ:Hid ((ruT 2).size=15):=zHe 2;have H1:Hid ((ruT 2).all (·.oneCell')=true):=zHf 2;have HM:=zAb joule_mid;have HV:=zAb hV;obtain⟨u,hu⟩:∃u,u=ruT 2:=⟨_,rfl⟩;rw[←hu]at HF HZ H1 HM;clear hV htab hu;go_enter Tryz.func42,Tryz.ntmps42
 go_upto_region 1 with fail
 rw[←un HV];clear HV
 go_upto_region 2 with (first
  | (go_at_call 71;go_must(refine(un HF _ (un H).b).mono ?_;rintro e W ⟨rfl,hb⟩;have H2:=zAb ((un H).later hb);clear hb H))
  | (refine zAn 30 15 zEd rfl (.tmp 1) (.tmp 9) rfl W.heap.size z15 u rfl (un HZ) rfl rfl (zAc.new _ _ _) (un H1) ?_))
 have hb1:Below W.heap.size W ((W.alloc (.cells z15 30)).setRow W.heap.size u):=below_setRow (zBx _ _) (Nat.le_refl _) _;have HX:Hid (zAc ((W.alloc (.cells z15 30)).setRow W.heap.size u) W.heap.size 30 u):=(zAc.new _ _ _).setRow _;have H3:=zAb ((un H2).later hb1);clear hb1 H2 HF;generalize (W.alloc (.cells z15 30)).setRow W.heap.size u=U at *
 generalize W.heap.size=g3 at *
 go_upto_region 3 with (first
  | (go_at_call 104;go_must(refine(of_entropy _).mono ?_;rintro e W2 ⟨rfl,hb⟩;have H4:=zAb ((un H3).later hb);have HX4:=zAb ((un HX).later hb);clear hb H3 HX))
  | (refine zAn 26 8 zCw rfl (.tmp 3) (.tmp 13) rfl W2.heap.size z8 perK rfl rfl rfl rfl (zAc.new _ _ _) (by kernel_rfl) ?_))
 have hb1:Below W2.heap.size W2 ((W2.alloc (.cells z8 26)).setRow W2.heap.size perK):=below_setRow (zBx _ _) (Nat.le_refl _) _;have HY:Hid (zAc ((W2.alloc (.cells z8 26)).setRow W2.heap.size perK) W2.heap.size 26 perK):=(zAc.new _ _ _).setRow _;have H5:=zAb ((un H4).later hb1);have HX5:=zAb ((un HX4).later hb1);clear H4 HX4 hb1;generalize (W2.alloc (.cells z8 26)).setRow W2.heap.size perK=U5 at *
 generalize W2.heap.size=g5 at *
 have HMD:Hid (U5.rangeAt g3 2 jouL):=(un HX5).mid _ _ (un HM)
 go_upto_region 4 with (first
  | (refine wpList_load_mid rfl 26 (.tmp 16) rfl g3 2 rfl jouL _ (un HMD) Tryz.underlying26 rfl zCw ?_)
  | (refine wpList_load_row rfl 26 (.tmp 3) rfl g5 rfl 26 perK (0,0) _ (un HY) Tryz.underlying26 rfl (by kernel_rfl) ?_)
  | (go_at_call 105;go_must(refine(quo_k _).mono ?_;rintro e W6 ⟨rfl,hb⟩;have H6:=zAb ((un H5).later hb);clear hb H5 HX5 HY HMD))
  | (refine zAn 26 8 zCw rfl (.tmp 5) (.tmp 20) rfl W6.heap.size z8 dimK rfl rfl rfl rfl (zAc.new _ _ _) (by kernel_rfl) ?_))
 have hb1:Below W6.heap.size W6 ((W6.alloc (.cells z8 26)).setRow W6.heap.size dimK):=below_setRow (zBx _ _) (Nat.le_refl _) _;have HY:Hid (zAc ((W6.alloc (.cells z8 26)).setRow W6.heap.size dimK) W6.heap.size 26 dimK):=(zAc.new _ _ _).setRow _;have H7:=zAb ((un H6).later hb1);clear H6 hb1;generalize (W6.alloc (.cells z8 26)).setRow W6.heap.size dimK=U7 at *
 generalize W6.heap.size=g7 at *
 go_wp2_with (first
  | (refine wpList_load_row rfl 26 (.tmp 5) rfl g7 rfl 26 dimK (0,0) _ (un HY) Tryz.underlying26 rfl (by kernel_rfl) ?_)
  | (refine zAn 26 8 zCw rfl (.tmp 0) (.tmp 22) rfl w.heap.size z8 dimK rfl rfl rfl rfl (un H7).o (by kernel_rfl) ?_))
 exact bodyPost_ret (v:=.agg dimK) (res26 Tryz.results42 _ _ w.heap.size _ rfl rfl ((un H7).o.setRow _)) rfl ⟨rfl,below_setRow (un H7).b (Nat.le_refl _) _⟩
end Go.Proofs.YtliadckofhblnaaGreatDoor.Tm
namespace Go.Proofs.YtliadckofhblnaaGreatDoor
open Go.RowKit
theorem add_core (X:Array Value) (ap aq:Option Addr) (np nq cp cq:Nat) (lp lq:List Nat) (w:World) (hX:(X=#[.agg #[.slice ap np cp],.agg #[.slice aq nq cq]]∧¬np<nq)∨(X=#[.agg #[.slice aq nq cq],.agg #[.slice ap np cp]]∧nq<np)) (hp1:np≤2000000) (hq1:nq≤np)
 (HP:Hid (np=lp.length∧Cub.limbs 1000000000 lp∧Cells w ap lp)) (HQ:Hid (nq=lq.length∧Cub.limbs 1000000000 lq∧Cells w aq lq)) :
 Calls Tryz.prog 215 X w fun e w'=>∃v,e=.returned v∧zAf w' v (Cub.lval 1000000000 lp+Cub.lval 1000000000 lq)∧Bw w w':=by
 obtain⟨i0,hi,hz0,hz1,hz2⟩:=info_parts Tryz.info168;rcases hX with ⟨rfl,hlt⟩|⟨rfl,hlt⟩
 all_goals
  go_enter Tryz.func215,Tryz.ntmps215
  go_wp2_with (first
   | (at_make;go_must(refine wpList_make_full _ rfl _ _ 78 rfl (w.heap.size+3) 168 i0 (.int .u64 0) 1 Tryz.underlying78 hi hz0 hz1 .i64 .i64 _ _ (np+1) rfl rfl (by omega) (by omega) (by rw[hz2];omega) (by unfold maxLen;omega) (by simp) ?_;intro w4 hown4 hgrow4;rw[zDw]at hown4;have hO4:Own w4 (w.heap.size+1+1+1) (List.replicate (np+1) 0):=(by have:=Own.of_row hown4;simpa using this);have hB4:=boxes3 ((Below.refl (w.heap.size+3) _).grown hgrow4 (by simp) (fun k hk=>by cases hk));have bp4:=hB4.c1;have HO4:=zAb hO4;have HB4:=zAb hB4;clear hown4 hgrow4 hO4 hB4))
   | (refine wpList_copy_splice rfl _ _ 78 78 rfl 168 Tryz.underlying78 Tryz.size168 _ _ _ _ _ _ rfl rfl (w.heap.size+1+1+1) 0 (zCx (List.replicate (np+1) 0)) 168 (un HO4) (zCx lp) (by rw[u64s_length,←(un HP).1];exact(Nat.min_eq_left (Nat.le_succ np)).symm) (fun h0=>⟨by simp,(un HP).2.2.src (un HB4).below (by rw[u64s_length]at h0;exact h0)⟩) (by rw[u64s_length,u64s_length,List.length_replicate,←(un HP).1];omega) (zGd lp) (w.heap.size+3) w4 (Below.refl _ _) (Nat.le_refl _) ?_;intro w5 hO5 hb5;rw[splice_sum lp np (un HP).1]at hO5;have HB5:=zAb ((un HB4).on hb5);have bp5:=(un HB5).c1;have bq5:=(un HB5).c2;clear hb5 HO4 HB4 bp4))
  have HO5:=hO5;clear hO5
  go_loopw [6,7] (fun c i wr=>∃(k j:Nat) (S:List Nat),c=.int .u64 (k:Int)∧i=I (j:Int)∧k≤1∧j≤np+1∧Hid (Cub.AddInv lp lq S k j)∧Hid (Own wr (w.heap.size+1+1+1) S)∧Hid (Boxes3 w wr (.slice ap np cp) (.slice aq nq cq) (.slice none 0 0))) (fun _ i _=>np+1 - (intOf i).toNat)
  case atStart=>exact⟨0,0,lp ++ [0],rfl,rfl,by omega,by omega,Cub.AddInv.start (un HP).2.1,HO5,HB5⟩
  case round=>
   obtain⟨k,j,S,rfl,rfl,hk,hj,HI,HO,HB⟩:=hrel;clear bp5 bq5 HO5 HB5;have bq:=(un HB).c2;have hSl:S.length=np+1:=by rw[(un HI).len,←(un HP).1]
   by_cases hjq:j<nq
   ·have hjS:j<S.length:=by omega
    obtain⟨x,hx⟩:∃x,x=S[j]:=⟨_,rfl⟩;have hxB:x<1000000000:=by rw[hx];exact(un HI).lim _ (List.getElem_mem hjS)
    have hcx:wr.cell? ⟨w.heap.size+1+1+1,j,none⟩=some (.int .u64 (x:Int)):=by rw[hx];exact(un HO).cell j hjS
    have hfx:=(un HO).frozen j;have hjl:j<lq.length:=by have:=(un HQ).1;omega
    obtain⟨y,hy⟩:∃y,y=lq[j]:=⟨_,rfl⟩;have hyB:y<1000000000:=by rw[hy];exact(un HQ).2.1 _ (List.getElem_mem hjl)
    obtain⟨b,o,rfl,hcy⟩:=(un HQ).2.2 wr (un HB).below j hjl;rw[←hy]at hcy
    have HI':Hid (Cub.AddInv lp lq (S.set j ((k+x+y) % 1000000000)) ((k+x+y) / 1000000000) (j+1)):=by
     have:=(un HI).step hjS hyB (by rw[hy];exact Cub.take_val lq j hjl);rw[←hx]at this;exact this
    have HO':Hid (Own (wr.setCell ⟨w.heap.size+1+1+1,j,none⟩ (.int .u64 (((k:Int)+(x:Int)+(y:Int)) % 1000000000))) (w.heap.size+1+1+1) (S.set j ((k+x+y) % 1000000000))):=by
     have:=(un HO).set j ((k+x+y) % 1000000000);rw[show(((k+x+y) % 1000000000:Nat):Int)=((k:Int)+(x:Int)+(y:Int)) % 1000000000 by omega]at this;exact this
    have HB':Hid (Boxes3 w (wr.setCell ⟨w.heap.size+1+1+1,j,none⟩ (.int .u64 (((k:Int)+(x:Int)+(y:Int)) % 1000000000))) (.slice ap np cp) (.slice (some ⟨b,o,none⟩) nq cq) (.slice none 0 0)) :=
     (un HB).on ((Below.refl (w.heap.size+3) wr).setCell (p:=⟨w.heap.size+1+1+1,j,none⟩) (show w.heap.size+3≤w.heap.size+1+1+1 by omega) _)
    clear hx hy hSl HI
    go_wp2
    go_roundw
    case rel=>exact⟨(k+x+y) / 1000000000,j+1,_,by go_num,by go_num,(un HI').carry,by omega,HI',HO',HB'⟩
    case measure=>simp[intOf];omega
   ·by_cases hk0:k=0
    ·subst hk0
     have hsum:=(un HI).sum (by have:=(un HQ).1;omega);obtain⟨t1,t2,_⟩:=Cub.lval_trim 1000000000 _ S rfl;have HF:Hid (Cub.lval 1000000000 (Cub.trimN S)=Cub.lval 1000000000 lp+Cub.lval 1000000000 lq∧Cub.normal 1000000000 (Cub.trimN S)):=⟨t1.trans hsum,t2 (un HI).lim⟩;have hsz:=(un HB).size;have br:=(un HB).c3;have fr:=(un HB).f3;clear hsum t1 t2
     go_wp2_with (go_at_call 217;refine(zEi _ S _ ((un HO).row (np+1) (np+1) hSl.symm (Nat.le_refl _) (by unfold maxLen;omega))).mono ?_;rintro e w6 ⟨v',rfl,hrow6,hb6⟩;obtain⟨a6,cap6,rfl,hcap6⟩:=hrow6.form;obtain⟨hc6,hf6⟩:=zBt hb6 (g:=w.heap.size+1+1) (by omega) br fr)
     refine bodyPost_ret (v:=.agg #[.slice a6 (Cub.trimN S).length cap6]) (by simp[results,Tryz.results215,go_sem,hc6]) rfl ⟨_,rfl,?_,?_⟩
     ·exact⟨_,_,rfl,hrow6.box _ hc6 (zBi _ _ _),(un HF).2,(un HF).1⟩
     ·exact((un HB).below.trans (hb6.mono (by omega))).setCell (p:=⟨w.heap.size+1+1,0,none⟩) (show w.heap.size≤w.heap.size+1+1 by omega) _
    ·have hjn:j≠np+1:=fun e=>hk0 ((un HI).last (un HP).2.1 (un HQ).2.1 (by have:=(un HP).1;have:=(un HQ).1;omega) (by have:=(un HP).1;omega))
     have hjS:j<S.length:=by omega
     obtain⟨x,hx⟩:∃x,x=S[j]:=⟨_,rfl⟩;have hxB:x<1000000000:=by rw[hx];exact(un HI).lim _ (List.getElem_mem hjS)
     have hcx:wr.cell? ⟨w.heap.size+1+1+1,j,none⟩=some (.int .u64 (x:Int)):=by rw[hx];exact(un HO).cell j hjS
     have hfx:=(un HO).frozen j
     have HI':Hid (Cub.AddInv lp lq (S.set j ((k+x) % 1000000000)) ((k+x) / 1000000000) (j+1)):=by
      have:=(un HI).step (c:=0) hjS (by decide) (by rw[Cub.take_val' lq j (by have:=(un HQ).1;omega)];simp);rw[←hx,Nat.add_zero]at this;exact this
     have HO':Hid (Own (wr.setCell ⟨w.heap.size+1+1+1,j,none⟩ (.int .u64 (((k:Int)+(x:Int)) % 1000000000))) (w.heap.size+1+1+1) (S.set j ((k+x) % 1000000000))):=by
      have:=(un HO).set j ((k+x) % 1000000000);rw[show(((k+x) % 1000000000:Nat):Int)=((k:Int)+(x:Int)) % 1000000000 by omega]at this;exact this
     have HB':Hid (Boxes3 w (wr.setCell ⟨w.heap.size+1+1+1,j,none⟩ (.int .u64 (((k:Int)+(x:Int)) % 1000000000))) (.slice ap np cp) (.slice aq nq cq) (.slice none 0 0)) :=
      (un HB).on ((Below.refl (w.heap.size+3) wr).setCell (p:=⟨w.heap.size+1+1+1,j,none⟩) (show w.heap.size+3≤w.heap.size+1+1+1 by omega) _)
     clear hx hSl HI
     go_wp2
     go_roundw
     case rel=>exact⟨(k+x) / 1000000000,j+1,_,by go_num,by go_num,(un HI').carry,by omega,HI',HO',HB'⟩
     case measure=>simp[intOf];omega
theorem bigadd_any (x y:Value) (m n k:Nat) (w:World) (hx:zAf w x m) (hy:zAf w y n) (hk:k≤1000000) (hm:m<1000000000 ^ k) (hn:n<1000000000 ^ k) :
 Calls Tryz.prog 215 #[x,y] w fun e w'=>∃v,e=.returned v∧zAf w' v (m+n)∧Bw w w':=by
 obtain⟨ax,lx,cx,rfl,hlx,hrx,hnx,rfl⟩:=hx.form;obtain⟨ay,ly,cy,rfl,hly,hry,hny,rfl⟩:=hy.form;have h1:=Cub.len_le hnx hm;have h2:=Cub.len_le hny hn
 by_cases hlt:lx.length<ly.length
 ·have:=add_core _ ay ax ly.length lx.length cy cx ly lx w (Or.inr ⟨rfl,hlt⟩) (by omega) (by omega) ⟨rfl,hny.1,hry.cells.2.2.2⟩ ⟨rfl,hnx.1,hrx.cells.2.2.2⟩
  rw[Nat.add_comm]at this;exact this
 ·exact add_core _ ax ay lx.length ly.length cx cy lx ly w (Or.inl ⟨rfl,hlt⟩) (by omega) (by omega) ⟨rfl,hnx.1,hrx.cells.2.2.2⟩ ⟨rfl,hny.1,hry.cells.2.2.2⟩
theorem sub_any (x y:Value) (m n k:Nat) (w:World) (hx:zAf w x m) (hy:zAf w y n) (hk:k≤1000000) (hm:m<1000000000 ^ k) (hle:n≤m) :
 Calls Tryz.prog 216 #[x,y] w fun e w'=>∃v,e=.returned v∧zAf w' v (m - n)∧Bw w w':=by
 obtain⟨ap,lp,cp,rfl,hlp,hrp,hnp,rfl⟩:=hx.form;obtain⟨aq,lq,cq,rfl,hlq,hrq,hnq,rfl⟩:=hy.form;have h1:=Cub.len_le hnp hm;have h2:=norm9_len_le hnp.1 hnq hle;have HP:Hid (lp.length=lp.length∧Cub.limbs 1000000000 lp∧Cells w ap lp):=⟨rfl,hnp.1,hrp.cells.2.2.2⟩;have HQ:Hid (Cub.limbs 1000000000 lq∧Cells w aq lq):=⟨hnq.1,hrq.cells.2.2.2⟩;have HLE:=zAb hle;obtain⟨np,hnp'⟩:∃np,np=lp.length:=⟨_,rfl⟩;obtain⟨nq,hnq'⟩:∃nq,nq=lq.length:=⟨_,rfl⟩;rw[←hnp']at h1 h2 ⊢;rw[←hnq']at h2 ⊢;have HNP:=zAb hnp';have HNQ:=zAb hnq';clear hx hy hm hle hlp hlq hrp hrq hnp hnq hnp' hnq';obtain⟨i0,hi,hz0,hz1,hz2⟩:=info_parts Tryz.info168;go_enter Tryz.func216,Tryz.ntmps216
 go_wp2_with (first
  | (at_make;go_must(refine wpList_make_full _ rfl _ _ 78 rfl (w.heap.size+3) 168 i0 (.int .u64 0) 1 Tryz.underlying78 hi hz0 hz1 .i64 .i64 _ _ np rfl rfl (by omega) (by omega) (by rw[hz2];omega) (by unfold maxLen;omega) (by simp) ?_;intro w4 hown4 hgrow4;rw[zDw]at hown4;have hO4:Own w4 (w.heap.size+1+1+1) (List.replicate np 0):=(by have:=Own.of_row hown4;simpa using this);have hB4:=boxes3 ((Below.refl (w.heap.size+3) _).grown hgrow4 (by simp) (fun k hk=>by cases hk));have bp4:=hB4.c1;have HO4:=zAb hO4;have HB4:=zAb hB4;clear hown4 hgrow4 hO4 hB4))
  | (go_at_call 259;go_must(refine(takeAway_any (w.heap.size+1+1+1) np np lp lq aq nq cq 1 _ (un HO5) (un HNP) (by omega) (un HP).2.1 (un HNQ) h2 (un HQ).1 (Nat.le_refl _) (by decide) (fun W hW i hi=>(un HQ).2 W ((un HB5).below.trans (hW.mono (by omega))) i hi)).mono ?_;rintro e w6 ⟨mi,F,rfl,hO6,hF6,hlF6,hv6,hmi6,hb6⟩;have HB6:=zAb ((un HB5).on (hb6.mono (show w.heap.size+3≤w.heap.size+1+1+1 by omega)));have HO6:=zAb (And.intro hO6 (And.intro hF6 hlF6));have HV6:=zAb hv6;clear hO6 hF6 hlF6 hv6 hb6 bp5 bq5))
  | (go_at_call 217;go_must(refine(zEi _ F _ ((un HO6).1.row np np (un HO6).2.1.symm (Nat.le_refl _) (by unfold maxLen;omega))).mono ?_;rintro e w7 ⟨v',rfl,hrow7,hb7⟩;obtain⟨a7,cap7,rfl,hcap7⟩:=hrow7.form;obtain⟨hc7,hf7⟩:=zBt hb7 (g:=w.heap.size+1+1) (by have:=(un HB6).size;omega) (un HB6).c3 (un HB6).f3))
  | (refine wpList_copy_splice rfl _ _ 78 78 rfl 168 Tryz.underlying78 Tryz.size168 _ _ _ _ _ _ rfl rfl (w.heap.size+1+1+1) 0 (zCx (List.replicate np 0)) 168 (un HO4) (zCx lp) (by rw[u64s_length,←un HNP];exact(Nat.min_self np).symm) (fun h0=>⟨by simp,(un HP).2.2.src (un HB4).below (by rw[u64s_length]at h0;exact h0)⟩) (by rw[u64s_length,u64s_length,List.length_replicate,←un HNP];omega) (zGd lp) (w.heap.size+3) w4 (Below.refl _ _) (Nat.le_refl _) ?_;intro w5 hO5 hb5;rw[splice_all lp np (un HNP)]at hO5;have HO5:=hO5;have HB5:=zAb ((un HB4).on hb5);have bp5:=(un HB5).c1;have bq5:=(un HB5).c2;clear hb5 HO4 HB4 bp4 hO5))
 obtain⟨t1,t2,_⟩:=Cub.lval_trim 1000000000 _ F rfl;refine bodyPost_ret (v:=.agg #[.slice a7 (Cub.trimN F).length cap7]) (by simp[results,Tryz.results216,go_sem,hc7]) rfl ⟨_,rfl,?_,?_⟩
 ·refine⟨_,_,rfl,hrow7.box _ hc7 (zBi _ _ _),t2 (un HO6).2.2,?_⟩
  rw[t1];exact sub_last (un HO6).2.2 (un HO6).2.1 (un HV6) (un HLE)
 ·exact((un HB6).below.trans (hb7.mono (by have:=(un HB6).size;omega))).setCell (p:=⟨w.heap.size+1+1,0,none⟩) (show w.heap.size≤w.heap.size+1+1 by omega) _
end Go.Proofs.YtliadckofhblnaaGreatDoor

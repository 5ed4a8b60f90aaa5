/- The document's Find over a row of units (15); its own Find (56). -/
import Derived.Test.YtliadckofhblnaaGreatDoorFindS
import Derived.Shelf.Strings.Builder1
import Derived.Shelf.Small.Utf8
import Derived.Shelf.Small.Strs
import Derived.Shelf.Strings.BuilderF
import Derived.Shelf.Strings.BuilderK
import Derived.Shelf.Strings.BuilderRune
import Derived.Shelf.Utf8.AppendRune
import Derived.Shelf.Utf8.AppendRunePlain
import Derived.Shelf.Strconv.Itoa3
import Derived.Shelf.Unicode.Decode
import Derived.Shelf.Unicode.DecodeSlow
import Derived.Shelf.Unicode.DecodeAny
import Derived.Shelf.Slices.Clone
import Derived.Shelf.Slices.CompactS
import Derived.Laws.RangeAny
import Derived.Lib.RuneCount
import Derived.Lib.OthersKept
import Derived.Laws.Bits
set_option maxHeartbeats 8000000
set_option maxRecDepth 100000
namespace Go.Proofs.YtliadckofhblnaaGreatDoor.Dm
open Go.RowKit
def zDh:List (List UInt8×List Int):=[
 ([110,117,109,98,101,114],[0,0,0,0,0,0,0,0]),
 ([108,101,110,103,116,104],[1,0,0,0,0,0,0,0]),
 ([109,97,115,115],[0,1,0,0,0,0,0,0]),
 ([116,105,109,101],[0,0,1,0,0,0,0,0]),
 ([99,117,114,114,101,110,116],[0,0,0,1,0,0,0,0]),
 ([116,101,109,112,101,114,97,116,117,114,101],[0,0,0,0,1,0,0,0]),
 ([97,109,111,117,110,116],[0,0,0,0,0,1,0,0]),
 ([108,105,103,104,116],[0,0,0,0,0,0,1,0]),
 ([105,110,102,111,114,109,97,116,105,111,110],[0,0,0,0,0,0,0,1]),
 ([118,111,108,117,109,101],[3,0,0,0,0,0,0,0]),
 ([115,112,101,101,100],[1,0,(-1),0,0,0,0,0]),
 ([102,111,114,99,101],[1,1,(-2),0,0,0,0,0]),
 ([101,110,101,114,103,121],[2,1,(-2),0,0,0,0,0]),
 ([100,101,110,115,105,116,121],[(-3),1,0,0,0,0,0,0]),
 ([97,99,116,105,111,110],[2,1,(-1),0,0,0,0,0]),
 ([99,104,97,114,103,101],[0,0,1,1,0,0,0,0]),
 ([118,111,108,116,97,103,101],[2,1,(-3),(-1),0,0,0,0]),
 ([114,101,115,105,115,116,97,110,99,101],[2,1,(-3),(-2),0,0,0,0]),
 ([99,111,110,100,117,99,116,97,110,99,101],[(-2),(-1),3,2,0,0,0,0]),
 ([99,97,112,97,99,105,116,97,110,99,101],[(-2),(-1),4,2,0,0,0,0]),
 ([105,110,100,117,99,116,97,110,99,101],[2,1,(-2),(-2),0,0,0,0]),
 ([102,108,117,120],[2,1,(-2),(-1),0,0,0,0]),
 ([102,105,101,108,100],[0,1,(-2),(-1),0,0,0,0]),
 ([97,114,101,97],[2,0,0,0,0,0,0,0]),
 ([102,114,101,113,117,101,110,99,121],[0,0,(-1),0,0,0,0,0]),
 ([97,99,99,101,108,101,114,97,116,105,111,110],[1,0,(-2),0,0,0,0,0]),
 ([112,114,101,115,115,117,114,101],[(-1),1,(-2),0,0,0,0,0]),
 ([112,111,119,101,114],[2,1,(-3),0,0,0,0,0]),
 ([109,111,109,101,110,116,117,109],[1,1,(-1),0,0,0,0,0]),
 ([101,110,116,114,111,112,121],[2,1,(-2),0,(-1),0,0,0])]
def kcells:Array Value:=(zDh.flatMap fun x=>Value.string ⟨x.1.toArray⟩ :: x.2.map fun z=>I z).toArray
theorem buildRows {ops:Array Oper} {rest:List Oper} {o:Oper} {a:Act} {w:World} {Q:Exit→Act→World→Prop} (hg:o.guard=none) (t e:TypeId) (parts:Array (Nat×Operand)) (ho:o.op=.buildSlice t 30 parts)
  (z:Value) (cells:Array Value) (d:Option Tmp) (hd:o.dst=d)
  (hu:Tryz.prog.underlying t=some (.slice e)) (hsz:(Tryz.prog.info? e).map (·.size)=some 9) (hz:(Tryz.prog.info? e).bind (·.zero)=some z)
  (hf:Instr.fill (fun i=>some (i*9,9)) ((Array.range (30*9)).map (z.cells[· % z.cells.size]!)) (parts.map fun (i,x)=>(i,a.eval x)).toList=some cells)
  (h:wpList Tryz.prog ops Q rest (a.put d (.slice (some ⟨w.heap.size,0,none⟩) 30 30)) (w.alloc (.cells cells e))):wpList Tryz.prog ops Q (o :: rest) a w:=by
 subst hd
 cases hie:Tryz.prog.info? e with
 | none=>simp[hie]at hsz
 | some ie=>
  simp only[hie,Option.map_some,Option.some.injEq,Option.bind_some]at hsz hz;refine wpList_buildSlice hg t e 30 parts ho cells ie z hu hie hz (by rw[hsz];decide) (by rw[hsz];decide) ?_ h;rw[hsz];exact hf
def zeroKind:Value:=.agg #[G #[],I 0,I 0,I 0,I 0,I 0,I 0,I 0,I 0]
theorem kinds_any (w:World):Calls Tryz.prog 178 #[] w fun e w'=>e=.returned (.slice (some ⟨w.heap.size,0,none⟩) 30 30)∧w'=w.alloc (.cells kcells 203):=by
 go_enter Tryz.func178,Tryz.ntmps178
 go_wp2_with (first
  | (refine wpList_buildTo rfl 26 _ rfl (some 1) rfl #[I 0,I 0,I 0,I 0,I 0,I 0,I 0,I 0] (by kernel_rfl) ?_)
  | (refine wpList_buildTo rfl 203 _ rfl (some 2) rfl #[G #[110,117,109,98,101,114],I 0,I 0,I 0,I 0,I 0,I 0,I 0,I 0] (by kernel_rfl) ?_)
  | (refine wpList_buildTo rfl 26 _ rfl (some 3) rfl #[I 1,I 0,I 0,I 0,I 0,I 0,I 0,I 0] (by kernel_rfl) ?_)
  | (refine wpList_buildTo rfl 203 _ rfl (some 4) rfl #[G #[108,101,110,103,116,104],I 1,I 0,I 0,I 0,I 0,I 0,I 0,I 0] (by kernel_rfl) ?_)
  | (refine wpList_buildTo rfl 26 _ rfl (some 5) rfl #[I 0,I 1,I 0,I 0,I 0,I 0,I 0,I 0] (by kernel_rfl) ?_)
  | (refine wpList_buildTo rfl 203 _ rfl (some 6) rfl #[G #[109,97,115,115],I 0,I 1,I 0,I 0,I 0,I 0,I 0,I 0] (by kernel_rfl) ?_)
  | (refine wpList_buildTo rfl 26 _ rfl (some 7) rfl #[I 0,I 0,I 1,I 0,I 0,I 0,I 0,I 0] (by kernel_rfl) ?_)
  | (refine wpList_buildTo rfl 203 _ rfl (some 8) rfl #[G #[116,105,109,101],I 0,I 0,I 1,I 0,I 0,I 0,I 0,I 0] (by kernel_rfl) ?_)
  | (refine wpList_buildTo rfl 26 _ rfl (some 9) rfl #[I 0,I 0,I 0,I 1,I 0,I 0,I 0,I 0] (by kernel_rfl) ?_)
  | (refine wpList_buildTo rfl 203 _ rfl (some 10) rfl #[G #[99,117,114,114,101,110,116],I 0,I 0,I 0,I 1,I 0,I 0,I 0,I 0] (by kernel_rfl) ?_)
  | (refine wpList_buildTo rfl 26 _ rfl (some 11) rfl #[I 0,I 0,I 0,I 0,I 1,I 0,I 0,I 0] (by kernel_rfl) ?_)
  | (refine wpList_buildTo rfl 203 _ rfl (some 12) rfl #[G #[116,101,109,112,101,114,97,116,117,114,101],I 0,I 0,I 0,I 0,I 1,I 0,I 0,I 0] (by kernel_rfl) ?_)
  | (refine wpList_buildTo rfl 26 _ rfl (some 13) rfl #[I 0,I 0,I 0,I 0,I 0,I 1,I 0,I 0] (by kernel_rfl) ?_)
  | (refine wpList_buildTo rfl 203 _ rfl (some 14) rfl #[G #[97,109,111,117,110,116],I 0,I 0,I 0,I 0,I 0,I 1,I 0,I 0] (by kernel_rfl) ?_)
  | (refine wpList_buildTo rfl 26 _ rfl (some 15) rfl #[I 0,I 0,I 0,I 0,I 0,I 0,I 1,I 0] (by kernel_rfl) ?_)
  | (refine wpList_buildTo rfl 203 _ rfl (some 16) rfl #[G #[108,105,103,104,116],I 0,I 0,I 0,I 0,I 0,I 0,I 1,I 0] (by kernel_rfl) ?_)
  | (refine wpList_buildTo rfl 26 _ rfl (some 17) rfl #[I 0,I 0,I 0,I 0,I 0,I 0,I 0,I 1] (by kernel_rfl) ?_)
  | (refine wpList_buildTo rfl 203 _ rfl (some 18) rfl #[G #[105,110,102,111,114,109,97,116,105,111,110],I 0,I 0,I 0,I 0,I 0,I 0,I 0,I 1] (by kernel_rfl) ?_)
  | (refine wpList_buildTo rfl 26 _ rfl (some 19) rfl #[I 3,I 0,I 0,I 0,I 0,I 0,I 0,I 0] (by kernel_rfl) ?_)
  | (refine wpList_buildTo rfl 203 _ rfl (some 20) rfl #[G #[118,111,108,117,109,101],I 3,I 0,I 0,I 0,I 0,I 0,I 0,I 0] (by kernel_rfl) ?_)
  | (refine wpList_buildTo rfl 26 _ rfl (some 21) rfl #[I 1,I 0,I (-1),I 0,I 0,I 0,I 0,I 0] (by kernel_rfl) ?_)
  | (refine wpList_buildTo rfl 203 _ rfl (some 22) rfl #[G #[115,112,101,101,100],I 1,I 0,I (-1),I 0,I 0,I 0,I 0,I 0] (by kernel_rfl) ?_)
  | (refine wpList_buildTo rfl 26 _ rfl (some 23) rfl #[I 1,I 1,I (-2),I 0,I 0,I 0,I 0,I 0] (by kernel_rfl) ?_)
  | (refine wpList_buildTo rfl 203 _ rfl (some 24) rfl #[G #[102,111,114,99,101],I 1,I 1,I (-2),I 0,I 0,I 0,I 0,I 0] (by kernel_rfl) ?_)
  | (refine wpList_buildTo rfl 26 _ rfl (some 25) rfl #[I 2,I 1,I (-2),I 0,I 0,I 0,I 0,I 0] (by kernel_rfl) ?_)
  | (refine wpList_buildTo rfl 203 _ rfl (some 26) rfl #[G #[101,110,101,114,103,121],I 2,I 1,I (-2),I 0,I 0,I 0,I 0,I 0] (by kernel_rfl) ?_)
  | (refine wpList_buildTo rfl 26 _ rfl (some 27) rfl #[I (-3),I 1,I 0,I 0,I 0,I 0,I 0,I 0] (by kernel_rfl) ?_)
  | (refine wpList_buildTo rfl 203 _ rfl (some 28) rfl #[G #[100,101,110,115,105,116,121],I (-3),I 1,I 0,I 0,I 0,I 0,I 0,I 0] (by kernel_rfl) ?_)
  | (refine wpList_buildTo rfl 26 _ rfl (some 29) rfl #[I 2,I 1,I (-1),I 0,I 0,I 0,I 0,I 0] (by kernel_rfl) ?_)
  | (refine wpList_buildTo rfl 203 _ rfl (some 30) rfl #[G #[97,99,116,105,111,110],I 2,I 1,I (-1),I 0,I 0,I 0,I 0,I 0] (by kernel_rfl) ?_)
  | (refine wpList_buildTo rfl 26 _ rfl (some 31) rfl #[I 0,I 0,I 1,I 1,I 0,I 0,I 0,I 0] (by kernel_rfl) ?_)
  | (refine wpList_buildTo rfl 203 _ rfl (some 32) rfl #[G #[99,104,97,114,103,101],I 0,I 0,I 1,I 1,I 0,I 0,I 0,I 0] (by kernel_rfl) ?_)
  | (refine wpList_buildTo rfl 26 _ rfl (some 33) rfl #[I 2,I 1,I (-3),I (-1),I 0,I 0,I 0,I 0] (by kernel_rfl) ?_)
  | (refine wpList_buildTo rfl 203 _ rfl (some 34) rfl #[G #[118,111,108,116,97,103,101],I 2,I 1,I (-3),I (-1),I 0,I 0,I 0,I 0] (by kernel_rfl) ?_)
  | (refine wpList_buildTo rfl 26 _ rfl (some 35) rfl #[I 2,I 1,I (-3),I (-2),I 0,I 0,I 0,I 0] (by kernel_rfl) ?_)
  | (refine wpList_buildTo rfl 203 _ rfl (some 36) rfl #[G #[114,101,115,105,115,116,97,110,99,101],I 2,I 1,I (-3),I (-2),I 0,I 0,I 0,I 0] (by kernel_rfl) ?_)
  | (refine wpList_buildTo rfl 26 _ rfl (some 37) rfl #[I (-2),I (-1),I 3,I 2,I 0,I 0,I 0,I 0] (by kernel_rfl) ?_)
  | (refine wpList_buildTo rfl 203 _ rfl (some 38) rfl #[G #[99,111,110,100,117,99,116,97,110,99,101],I (-2),I (-1),I 3,I 2,I 0,I 0,I 0,I 0] (by kernel_rfl) ?_)
  | (refine wpList_buildTo rfl 26 _ rfl (some 39) rfl #[I (-2),I (-1),I 4,I 2,I 0,I 0,I 0,I 0] (by kernel_rfl) ?_)
  | (refine wpList_buildTo rfl 203 _ rfl (some 40) rfl #[G #[99,97,112,97,99,105,116,97,110,99,101],I (-2),I (-1),I 4,I 2,I 0,I 0,I 0,I 0] (by kernel_rfl) ?_)
  | (refine wpList_buildTo rfl 26 _ rfl (some 41) rfl #[I 2,I 1,I (-2),I (-2),I 0,I 0,I 0,I 0] (by kernel_rfl) ?_)
  | (refine wpList_buildTo rfl 203 _ rfl (some 42) rfl #[G #[105,110,100,117,99,116,97,110,99,101],I 2,I 1,I (-2),I (-2),I 0,I 0,I 0,I 0] (by kernel_rfl) ?_)
  | (refine wpList_buildTo rfl 26 _ rfl (some 43) rfl #[I 2,I 1,I (-2),I (-1),I 0,I 0,I 0,I 0] (by kernel_rfl) ?_)
  | (refine wpList_buildTo rfl 203 _ rfl (some 44) rfl #[G #[102,108,117,120],I 2,I 1,I (-2),I (-1),I 0,I 0,I 0,I 0] (by kernel_rfl) ?_)
  | (refine wpList_buildTo rfl 26 _ rfl (some 45) rfl #[I 0,I 1,I (-2),I (-1),I 0,I 0,I 0,I 0] (by kernel_rfl) ?_)
  | (refine wpList_buildTo rfl 203 _ rfl (some 46) rfl #[G #[102,105,101,108,100],I 0,I 1,I (-2),I (-1),I 0,I 0,I 0,I 0] (by kernel_rfl) ?_)
  | (refine wpList_buildTo rfl 26 _ rfl (some 47) rfl #[I 2,I 0,I 0,I 0,I 0,I 0,I 0,I 0] (by kernel_rfl) ?_)
  | (refine wpList_buildTo rfl 203 _ rfl (some 48) rfl #[G #[97,114,101,97],I 2,I 0,I 0,I 0,I 0,I 0,I 0,I 0] (by kernel_rfl) ?_)
  | (refine wpList_buildTo rfl 26 _ rfl (some 49) rfl #[I 0,I 0,I (-1),I 0,I 0,I 0,I 0,I 0] (by kernel_rfl) ?_)
  | (refine wpList_buildTo rfl 203 _ rfl (some 50) rfl #[G #[102,114,101,113,117,101,110,99,121],I 0,I 0,I (-1),I 0,I 0,I 0,I 0,I 0] (by kernel_rfl) ?_)
  | (refine wpList_buildTo rfl 26 _ rfl (some 51) rfl #[I 1,I 0,I (-2),I 0,I 0,I 0,I 0,I 0] (by kernel_rfl) ?_)
  | (refine wpList_buildTo rfl 203 _ rfl (some 52) rfl #[G #[97,99,99,101,108,101,114,97,116,105,111,110],I 1,I 0,I (-2),I 0,I 0,I 0,I 0,I 0] (by kernel_rfl) ?_)
  | (refine wpList_buildTo rfl 26 _ rfl (some 53) rfl #[I (-1),I 1,I (-2),I 0,I 0,I 0,I 0,I 0] (by kernel_rfl) ?_)
  | (refine wpList_buildTo rfl 203 _ rfl (some 54) rfl #[G #[112,114,101,115,115,117,114,101],I (-1),I 1,I (-2),I 0,I 0,I 0,I 0,I 0] (by kernel_rfl) ?_)
  | (refine wpList_buildTo rfl 26 _ rfl (some 55) rfl #[I 2,I 1,I (-3),I 0,I 0,I 0,I 0,I 0] (by kernel_rfl) ?_)
  | (refine wpList_buildTo rfl 203 _ rfl (some 56) rfl #[G #[112,111,119,101,114],I 2,I 1,I (-3),I 0,I 0,I 0,I 0,I 0] (by kernel_rfl) ?_)
  | (refine wpList_buildTo rfl 26 _ rfl (some 57) rfl #[I 1,I 1,I (-1),I 0,I 0,I 0,I 0,I 0] (by kernel_rfl) ?_)
  | (refine wpList_buildTo rfl 203 _ rfl (some 58) rfl #[G #[109,111,109,101,110,116,117,109],I 1,I 1,I (-1),I 0,I 0,I 0,I 0,I 0] (by kernel_rfl) ?_)
  | (refine wpList_buildTo rfl 26 _ rfl (some 59) rfl #[I 2,I 1,I (-2),I 0,I (-1),I 0,I 0,I 0] (by kernel_rfl) ?_)
  | (refine wpList_buildTo rfl 203 _ rfl (some 60) rfl #[G #[101,110,116,114,111,112,121],I 2,I 1,I (-2),I 0,I (-1),I 0,I 0,I 0] (by kernel_rfl) ?_)
  | (refine buildRows rfl 200 203 _ rfl zeroKind kcells (some 61) rfl Tryz.underlying200 (by kernel_rfl) (by kernel_rfl) (by kernel_rfl) ?_))
 go_ret
 exact⟨rfl,rfl⟩
theorem flat_get {α β:Type} (f:α→List β) (m:Nat):∀(L:List α),(∀x∈L,(f x).length=m)→∀(k j:Nat) (x:α),L[k]?=some x→j<m→(L.flatMap f)[k*m+j]?=(f x)[j]?
 | [],_,k,_,_,h,_=>by simp at h
 | a :: L,hl,0,j,x,h,hj=>by
  simp at h
  subst h;rw[List.flatMap_cons,Nat.zero_mul,Nat.zero_add,List.getElem?_append_left (by rw[hl a (by simp)];exact hj)]
 | a :: L,hl,k+1,j,x,h,hj=>by
  have ha:=hl a (by simp);rw[List.flatMap_cons,List.getElem?_append_right (by rw[ha,Nat.succ_mul];omega),ha,show(k+1)*m+j - m=k*m+j by rw[Nat.succ_mul];omega];exact flat_get f m L (fun y hy=>hl y (by simp[hy])) k j x (by simpa using h) hj
def zEb (x:List UInt8×List Int):List Value:=Value.string ⟨x.1.toArray⟩ :: x.2.map fun z=>I z
theorem tab_eight:∀x∈zDh,x.2.length=8:=by decide
theorem kcells_get (k j:Nat) (x:List UInt8×List Int) (h:zDh[k]?=some x) (hj:j<9):kcells[k*9+j]?=(zEb x)[j]?:=by
 unfold kcells;rw[List.getElem?_toArray];exact flat_get zEb 9 zDh (fun y hy=>by simp[zEb,tab_eight y hy]) k j x h hj
theorem kind_shape (k:Nat) (h:k<30):∃(s:ByteArray) (e0 e1 e2 e3 e4 e5 e6 e7:Int),zDh[k]?=some (s.data.toList,[e0,e1,e2,e3,e4,e5,e6,e7])∧zEb (s.data.toList,[e0,e1,e2,e3,e4,e5,e6,e7])=[.string s,I e0,I e1,I e2,I e3,I e4,I e5,I e6,I e7]:=by
 have hk:k<zDh.length:=h;have hm:=tab_eight _ (List.getElem_mem hk);obtain⟨nm,l,hx⟩:∃nm l,zDh[k]=(nm,l):=⟨_,_,rfl⟩;rw[hx]at hm
 match l,hm with
 | [e0,e1,e2,e3,e4,e5,e6,e7],_=>exact⟨⟨nm.toArray⟩,e0,e1,e2,e3,e4,e5,e6,e7,by rw[List.getElem?_eq_getElem hk,hx],by simp[zEb]⟩
def zFq (w:World) (g t:Nat):Prop:=w.heap[g]?=some (.cells kcells t (0,0))
theorem zFq.alloc {w:World} {g t:Nat} (h:zFq w g t) (o:Obj):zFq (w.alloc o) g t:=(Below.heap_alloc w o g (Array.getElem?_eq_some_iff.1 h).1).trans h
theorem zFq.new (w:World) (t:Nat):zFq (w.alloc (.cells kcells t)) w.heap.size t:=heap_alloc_new w _
theorem zFq.lt {w:World} {g t:Nat} (h:zFq w g t):g<w.heap.size:=(Array.getElem?_eq_some_iff.1 h).1
theorem zFq.cell {w:World} {g t:Nat} (h:zFq w g t) (k j:Nat) (x:List UInt8×List Int) (hk:zDh[k]?=some x) (hj:j<9):w.cell? ⟨g,k*9+j,none⟩=(zEb x)[j]?:=by
 unfold zFq at h
 rw[←kcells_get k j x hk hj];simp[World.cell?,h]
theorem find_take {α:Type} (p:α→Bool) (L:List α) (k:Nat) (x:α) (h:(L.take k).find? p=none) (hk:L[k]?=some x) (hp:p x=true):L.find? p=some x:=by
 obtain⟨hlt,hx⟩:=List.getElem?_eq_some_iff.1 hk;rw[←List.take_append_drop k L,List.find?_append,h,Option.none_or,List.drop_eq_getElem_cons hlt,hx,List.find?_cons_of_pos hp]
theorem find_step {α:Type} (p:α→Bool) (L:List α) (k:Nat) (x:α) (h:(L.take k).find? p=none) (hk:L[k]?=some x) (hp:p x=false):(L.take (k+1)).find? p=none:=by
 rw[List.take_add_one,hk,List.find?_append,h,Option.none_or];simp[hp]
def kindNamed (s:List UInt8):Option (List UInt8×List Int):=zDh.find? fun x=>x.1 == s
def kindDim (o:Option (List UInt8×List Int)):List Int:=match o with|some x=>x.2|none=>[0,0,0,0,0,0,0,0]
theorem zFq.cells {w:World} {g t:Nat} (h:zFq w g t) (k:Nat) (s:ByteArray) (e0 e1 e2 e3 e4 e5 e6 e7:Int) (hk:zDh[k]?=some (s.data.toList,[e0,e1,e2,e3,e4,e5,e6,e7])) (hv:zEb (s.data.toList,[e0,e1,e2,e3,e4,e5,e6,e7])=[.string s,I e0,I e1,I e2,I e3,I e4,I e5,I e6,I e7]) :
 w.cell? ⟨g,k*9,none⟩=some (.string s)∧w.cell? ⟨g,k*9+1,none⟩=some (I e0)∧w.cell? ⟨g,k*9+2,none⟩=some (I e1)∧w.cell? ⟨g,k*9+3,none⟩=some (I e2)∧w.cell? ⟨g,k*9+4,none⟩=some (I e3)∧w.cell? ⟨g,k*9+5,none⟩=some (I e4)∧w.cell? ⟨g,k*9+6,none⟩=some (I e5)∧w.cell? ⟨g,k*9+7,none⟩=some (I e6)∧w.cell? ⟨g,k*9+8,none⟩=some (I e7):=by
 have h1:=fun j hj=>h.cell k j _ hk hj
 rw[hv]at h1;exact⟨h1 0 (by omega),h1 1 (by omega),h1 2 (by omega),h1 3 (by omega),h1 4 (by omega),h1 5 (by omega),h1 6 (by omega),h1 7 (by omega),h1 8 (by omega)⟩
theorem of_any (t:ByteArray) (w:World):Calls Tryz.prog 104 #[.string t] w fun e w'=>e=.returned (.tuple #[.agg (cells8 (kindDim (kindNamed t.data.toList))),.bool (kindNamed t.data.toList).isSome])∧Bw w w':=by
 go_enter Tryz.func104,Tryz.ntmps104
 go_wp2_with (go_at_call 178;refine(kinds_any _).mono ?_;rintro e w' ⟨rfl,rfl⟩)
 go_loopw [8] (fun i wr=>∃k:Nat,i=I k∧k≤30∧Hid ((zDh.take k).find? (fun x=>x.1 == t.data.toList)=none)∧Hid (zFr wr w.heap.size [0,0,0,0,0,0,0,0])∧Hid (zFq wr (w.heap.size+1) 203)∧Hid (Bw w wr)) (fun i _=>30 - (intOf i).toNat)
 case atStart=>exact⟨0,rfl,Nat.zero_le _,rfl,(zFr.new w [0,0,0,0,0,0,0,0]).alloc _,(by have h:=zFq.new (w.alloc (.cells #[I 0,I 0,I 0,I 0,I 0,I 0,I 0,I 0] 26)) 203;rw[size_alloc]at h;exact h),bA.alloc (by simp) _⟩
 case round=>
  obtain⟨k,rfl,hk,HN,HO,HK,HB⟩:=hrel;have hsz:=(un HK).lt;have hsz0:w.heap.size<wr.heap.size:=by omega
  by_cases hlt:k<30
  ·obtain⟨s,e0,e1,e2,e3,e4,e5,e6,e7,hrow,hval⟩:=kind_shape k hlt
   obtain⟨t0,t1,t2,t3,t4,t5,t6,t7,t8⟩:=(un HK).cells k s e0 e1 e2 e3 e4 e5 e6 e7 hrow hval;have HROW:=zAb hrow;clear hval hrow;have HO2:=fun a=>zAb ((un HO).alloc a)
   have HK2:=fun a=>zAb ((un HK).alloc a)
   have HB2:=fun a=>zAb ((un HB).alloc (Nat.le_of_lt hsz0) a)
   cases hq:(s.data.toList == t.data.toList)with
   | true=>
    have HF:Hid (kindNamed t.data.toList=some (s.data.toList,[e0,e1,e2,e3,e4,e5,e6,e7])):=find_take (fun x:List UInt8×List Int=>x.1 == t.data.toList) zDh k _ (un HN) (un HROW) hq;have hq':(s.toList == t.toList)=true:=by rw[ByteArray.toList_eq,ByteArray.toList_eq];exact hq
    clear hq
    go_wp2_with (refine store8 rfl (.tmp 2) (.tmp 17) rfl w.heap.size _ [e0,e1,e2,e3,e4,e5,e6,e7] rfl rfl rfl rfl (un (HO2 _)) ?_)
    refine bodyPost_ret (v:=.tuple #[.agg (cells8 [e0,e1,e2,e3,e4,e5,e6,e7]),.bool true]) (res2 Tryz.results104 _ _ w.heap.size _ rfl rfl ((un (HO2 _)).setRow _)) rfl ⟨?_,?_⟩
    ·rw[un HF];rfl
    ·exact below_setRow (un (HB2 _)) (Nat.le_refl _) _
   | false=>
    have HN2:=zAb (find_step (fun x:List UInt8×List Int=>x.1 == t.data.toList) zDh k _ (un HN) (un HROW) hq);have hq':(s.toList == t.toList)=false:=by rw[ByteArray.toList_eq,ByteArray.toList_eq];exact hq
    clear hq
    go_wp2
    go_roundw
    case rel=>exact⟨k+1,by go_num,by omega,HN2,HO2 _,HK2 _,HB2 _⟩
    case measure=>simp[intOf];omega
  ·obtain rfl:k=30:=by omega
   have HF:Hid (kindNamed t.data.toList=none):=un HN
   go_wp2_with (refine store8 rfl (.tmp 2) (.tmp 19) rfl w.heap.size _ [0,0,0,0,0,0,0,0] rfl rfl rfl rfl (un HO) ?_)
   refine bodyPost_ret (v:=.tuple #[.agg (cells8 [0,0,0,0,0,0,0,0]),.bool false]) (res2 Tryz.results104 _ _ w.heap.size _ rfl rfl ((un HO).setRow _)) rfl ⟨?_,?_⟩
   ·rw[un HF];rfl
   ·exact below_setRow (un HB) (Nat.le_refl _) _
end Go.Proofs.YtliadckofhblnaaGreatDoor.Dm
namespace Go.Proofs.YtliadckofhblnaaGreatDoor.Tm
open Go.RowKit
abbrev z8:Array Value:=#[I 0,I 0,I 0,I 0,I 0,I 0,I 0,I 0]
def perK:Array Value:=#[I 2,I 1,I (-2),I 0,I (-1),I 0,I 0,I 0]
def dimK:Array Value:=#[I 0,I 0,I 0,I 0,I 1,I 0,I 0,I 0]
def jouL:List Value:=[I 2,I 1,I (-2),I 0,I 0,I 0,I 0,I 0]
theorem of_entropy (w:World):Calls Tryz.prog 104 #[G #[101,110,116,114,111,112,121]] w fun r w'=>r=.returned (.tuple #[.agg perK,.bool true])∧Bw w w':=by
 have h:=Dm.of_any ⟨#[101,110,116,114,111,112,121]⟩ w;rw[show Dm.cells8 (Dm.kindDim (Dm.kindNamed (⟨#[101,110,116,114,111,112,121]⟩:ByteArray).data.toList))=perK by kernel_rfl,show(Dm.kindNamed (⟨#[101,110,116,114,111,112,121]⟩:ByteArray).data.toList).isSome=true by kernel_rfl]at h;exact h
theorem quo_k (w:World):Calls Tryz.prog 105 #[.agg jouL.toArray,.agg perK] w fun r w'=>r=.returned (.tuple #[.agg dimK,I 0])∧Bw w w':=by
 refine(Dm.quo_any 2 1 (-2) 0 0 0 0 0 2 1 (-2) 0 (-1) 0 0 0 w).mono ?_;rintro r w' ⟨rfl,hb⟩;exact⟨by kernel_rfl,hb⟩
theorem joule_mid:∀j v,jouL[j]?=some v→(ruT 2)[2+j]?=some v:=fun j v h=>by
 have key:∀j:Nat,j<8→(ruT 2)[2+j]?=jouL[j]?:=fun j hj=>by rcases Dm.eight (Nat.le_of_lt hj)with rfl|rfl|rfl|rfl|rfl|rfl|rfl|rfl|rfl<;>first|omega|kernel_rfl
 rw[key j (List.getElem?_eq_some_iff.1 h).1];exact h
structure R8 (w W:World):Prop where
 o:zAc W w.heap.size 26 z8
 b:Below w.heap.size w W
theorem R8.later {w W V:World} (h:R8 w W) (hb:Below W.heap.size W V):R8 w V:=⟨h.o.later hb,h.b.trans (hb.mono h.b.size)⟩
theorem R8.new (w:World):R8 w (w.alloc (.cells z8 26)):=⟨zAc.new _ _ _,bA⟩
theorem temperature_any (w:World) (htab:Tab w):Calls Tryz.prog 42 #[] w fun r w'=>r=.returned (.agg dimK)∧Bw w w':=by
 obtain⟨V,hV⟩:∃V,V=w.alloc (.cells #[I 0,I 0,I 0,I 0,I 0,I 0,I 0,I 0] 26):=⟨_,rfl⟩;have H:Hid (R8 w V):=by rw[hV];exact R8.new w
 have HF:Hid (∀W,Below w.heap.size w W→Calls Tryz.prog 71 #[G #[106,111,117,108,101]] W fun r w'=>r=.returned (.tuple #[.agg (ruT 2),.bool true])∧Bw W w'):=fun W hb=>zGg _ 2 (by decide) (Or.inl ⟨2,by decide,rfl,by decide +kernel,by decide +kernel⟩) W (htab.later hb)
 have HZ:Hid ((ruT 2).size=15):=zHe 2;have H1:Hid ((ruT 2).all (·.oneCell')=true):=zHf 2;have HM:=zAb joule_mid;have HV:=zAb hV;obtain⟨u,hu⟩:∃u,u=ruT 2:=⟨_,rfl⟩;rw[←hu]at HF HZ H1 HM;clear hV htab hu;go_enter Tryz.func42,Tryz.ntmps42
 go_upto_region 1 with fail
 rw[←un HV];clear HV
 go_upto_region 2 with (first
  | (go_at_call 71;go_must(refine(un HF _ (un H).b).mono ?_;rintro e W ⟨rfl,hb⟩;have H2:=zAb ((un H).later hb);clear hb H))
  | (refine zAn 30 15 zEd rfl (.tmp 1) (.tmp 9) rfl W.heap.size z15 u rfl (un HZ) rfl rfl (zAc.new _ _ _) (un H1) ?_))
 have hb1:Below W.heap.size W ((W.alloc (.cells z15 30)).setRow W.heap.size u):=below_setRow (zBx _ _) (Nat.le_refl _) _;have HX:Hid (zAc ((W.alloc (.cells z15 30)).setRow W.heap.size u) W.heap.size 30 u):=(zAc.new _ _ _).setRow _;have H3:=zAb ((un H2).later hb1);clear hb1 H2 HF;generalize (W.alloc (.cells z15 30)).setRow W.heap.size u=U at *
 generalize W.heap.size=g3 at *
 go_upto_region 3 with (first
  | (go_at_call 104;go_must(refine(of_entropy _).mono ?_;rintro e W2 ⟨rfl,hb⟩;have H4:=zAb ((un H3).later hb);have HX4:=zAb ((un HX).later hb);clear hb H3 HX))
  | (refine zAn 26 8 zCw rfl (.tmp 3) (.tmp 13) rfl W2.heap.size z8 perK rfl rfl rfl rfl (zAc.new _ _ _) (by kernel_rfl) ?_))
 have hb1:Below W2.heap.size W2 ((W2.alloc (.cells z8 26)).setRow W2.heap.size perK):=below_setRow (zBx _ _) (Nat.le_refl _) _;have HY:Hid (zAc ((W2.alloc (.cells z8 26)).setRow W2.heap.size perK) W2.heap.size 26 perK):=(zAc.new _ _ _).setRow _;have H5:=zAb ((un H4).later hb1);have HX5:=zAb ((un HX4).later hb1);clear H4 HX4 hb1;generalize (W2.alloc (.cells z8 26)).setRow W2.heap.size perK=U5 at *
 generalize W2.heap.size=g5 at *
 have HMD:Hid (U5.rangeAt g3 2 jouL):=(un HX5).mid _ _ (un HM)
 go_upto_region 4 with (first
  | (refine wpList_load_mid rfl 26 (.tmp 16) rfl g3 2 rfl jouL _ (un HMD) Tryz.underlying26 rfl zCw ?_)
  | (refine wpList_load_row rfl 26 (.tmp 3) rfl g5 rfl 26 perK (0,0) _ (un HY) Tryz.underlying26 rfl (by kernel_rfl) ?_)
  | (go_at_call 105;go_must(refine(quo_k _).mono ?_;rintro e W6 ⟨rfl,hb⟩;have H6:=zAb ((un H5).later hb);clear hb H5 HX5 HY HMD))
  | (refine zAn 26 8 zCw rfl (.tmp 5) (.tmp 20) rfl W6.heap.size z8 dimK rfl rfl rfl rfl (zAc.new _ _ _) (by kernel_rfl) ?_))
 have hb1:Below W6.heap.size W6 ((W6.alloc (.cells z8 26)).setRow W6.heap.size dimK):=below_setRow (zBx _ _) (Nat.le_refl _) _;have HY:Hid (zAc ((W6.alloc (.cells z8 26)).setRow W6.heap.size dimK) W6.heap.size 26 dimK):=(zAc.new _ _ _).setRow _;have H7:=zAb ((un H6).later hb1);clear H6 hb1;generalize (W6.alloc (.cells z8 26)).setRow W6.heap.size dimK=U7 at *
 generalize W6.heap.size=g7 at *
 go_wp2_with (first
  | (refine wpList_load_row rfl 26 (.tmp 5) rfl g7 rfl 26 dimK (0,0) _ (un HY) Tryz.underlying26 rfl (by kernel_rfl) ?_)
  | (refine zAn 26 8 zCw rfl (.tmp 0) (.tmp 22) rfl w.heap.size z8 dimK rfl rfl rfl rfl (un H7).o (by kernel_rfl) ?_))
 exact bodyPost_ret (v:=.agg dimK) (res26 Tryz.results42 _ _ w.heap.size _ rfl rfl ((un H7).o.setRow _)) rfl ⟨rfl,below_setRow (un H7).b (Nat.le_refl _) _⟩
structure TK (w W:World) (rw am:Array Value) (g:Nat):Prop where
 a:zAc W w.heap.size 69 rw
 o:zAc W (w.heap.size+1) 26 dimK
 r:zAc W (w.heap.size+1+1) 30 z15
 x:zAc W g 138 am
 b:Below w.heap.size w W
 n:w.heap.size+1+1<g
theorem TK.later {w W V:World} {rw am:Array Value} {g:Nat} (h:TK w W rw am g) (hb:Below W.heap.size W V):TK w V rw am g:=⟨h.a.later hb,h.o.later hb,h.r.later hb,h.x.later hb,h.b.trans (hb.mono h.b.size),h.n⟩
theorem info138:(Tryz.prog.info? 138).map (·.size)=some 4:=by kernel_rfl
abbrev z4:Array Value:=#[I 0,I 0,I 0,I 0]
theorem told44 (a b c d:Int) (f:Nat) (nm sy fn fd on od:ByteArray) (w:World)
  (hcf:∀W,(callFunc f #[]).run Tryz.prog W=.ok (.enter f #[]) W) (hma:MadeS f a b c d)
  (hfa:∀W,Below w.heap.size w W→Calls Tryz.prog 109 #[.agg #[I a,I b]] W fun r w'=>r=.returned (.agg #[.string fn,.string fd])∧Bw W w')
  (hof:∀W,Below w.heap.size w W→Calls Tryz.prog 109 #[.agg #[I c,I d]] W fun r w'=>r=.returned (.agg #[.string on,.string od])∧Bw W w') :
  Calls Tryz.prog 44 #[.agg #[.string nm,.string sy,.func (.func f) #[] #[]],.agg #[I 0,I 0,I 0,I 0,I 1,I 0,I 0,I 0]] w fun r w'=>r=.returned (.agg #[.string nm,.string sy,I 0,I 0,I 0,I 0,I 1,I 0,I 0,I 0,.string fn,.string fd,.string on,.string od,I 0])∧Bw w w':=by
 obtain⟨V,hV⟩:∃V,V=((w.alloc (.cells #[.string nm,.string sy,.func (.func f) #[] #[]] 69)).alloc (.cells #[I 0,I 0,I 0,I 0,I 1,I 0,I 0,I 0] 26)).alloc (.cells z15 30):=⟨_,rfl⟩;have HB0:Hid (Bw w V):=by rw[hV];exact(bA.alloc (by simp) _).alloc (by simp;omega) _
 have HA0:Hid (zAc V w.heap.size 69 #[.string nm,.string sy,.func (.func f) #[] #[]]):=by rw[hV];exact((zAc.new _ _ _).alloc _).alloc _
 have HO0:Hid (zAc V (w.heap.size+1) 26 dimK):=by rw[hV];have h:=zAc.new (w.alloc (.cells #[.string nm,.string sy,.func (.func f) #[] #[]] 69)) dimK 26;rw[Dm.size_alloc]at h;exact h.alloc _
 have HR0:Hid (zAc V (w.heap.size+1+1) 30 z15):=by rw[hV];have h:=zAc.new ((w.alloc (.cells #[.string nm,.string sy,.func (.func f) #[] #[]] 69)).alloc (.cells dimK 26)) z15 30;rw[Dm.size_alloc,Dm.size_alloc]at h;exact h
 have HMA:=zAb hma;have HFA:=zAb hfa;have HOF:=zAb hof;have HV:=zAb hV;clear hV hma hfa hof;go_enter Tryz.func44,Tryz.ntmps44
 go_upto_region 1 with fail
 rw[←un HV];clear HV;have c2:V.cell? ⟨w.heap.size,2,none⟩=some (.func (.func f) #[] #[]):=(un HA0).ub.c 2 _ rfl
 go_wp2_with fail
 refine(un HMA _).mono ?_;rintro e w1 ⟨rfl,hb⟩;have HA1:=zAb ((un HA0).later hb);have HO1:=zAb ((un HO0).later hb);have HR1:=zAb ((un HR0).later hb);have HB1:Hid (Bw w w1):=bt HB0 hb;clear hb c2 HA0 HO0 HR0 HB0 hcf HMA
 go_upto_region 2 with (refine zAn 138 4 info138 rfl (.tmp 5) (.tmp 8) rfl w1.heap.size z4 #[I a,I b,I c,I d] rfl rfl rfl rfl (zAc.new _ _ _) (by kernel_rfl) ?_)
 have hb2:Below w1.heap.size w1 ((w1.alloc (.cells z4 138)).setRow w1.heap.size #[I a,I b,I c,I d]):=below_setRow (zBx _ _) (Nat.le_refl _) _;have HT0:Hid (TK w ((w1.alloc (.cells z4 138)).setRow w1.heap.size #[I a,I b,I c,I d]) #[.string nm,.string sy,.func (.func f) #[] #[]] #[I a,I b,I c,I d] w1.heap.size):=⟨(un HA1).later hb2,(un HO1).later hb2,(un HR1).later hb2,(zAc.new _ _ _).setRow _,bt HB1 hb2,(un HR1).lt⟩;clear hb2 HA1 HO1 HR1 HB1;generalize (w1.alloc (.cells z4 138)).setRow w1.heap.size #[I a,I b,I c,I d]=w2 at *
 generalize w1.heap.size=g5 at *
 have HT1:Hid (TK w w2.drew #[.string nm,.string sy,.func (.func f) #[] #[]] #[I a,I b,I c,I d] g5):=(un HT0).later (Below.refl _ _).drew;have HSS:Hid (∀W':World,TK w W' #[.string nm,.string sy,.func (.func f) #[] #[]] #[I a,I b,I c,I d] g5→W'.cell? ⟨w.heap.size,0,none⟩=some (.string nm)∧W'.cell? ⟨w.heap.size,1,none⟩=some (.string sy)∧W'.cell? ⟨w.heap.size+1,0,none⟩=some (I 0)∧W'.cell? ⟨w.heap.size+1,1,none⟩=some (I 0)∧W'.cell? ⟨w.heap.size+1,2,none⟩=some (I 0)∧W'.cell? ⟨w.heap.size+1,3,none⟩=some (I 0)∧W'.cell? ⟨w.heap.size+1,4,none⟩=some (I 1)∧W'.cell? ⟨w.heap.size+1,5,none⟩=some (I 0)∧W'.cell? ⟨w.heap.size+1,6,none⟩=some (I 0)∧W'.cell? ⟨w.heap.size+1,7,none⟩=some (I 0)∧W'.cell? ⟨g5,0,none⟩=some (I a)∧W'.cell? ⟨g5,1,none⟩=some (I b)∧W'.cell? ⟨g5,2,none⟩=some (I c)∧W'.cell? ⟨g5,3,none⟩=some (I d)):=fun W' h=>⟨h.a.ub.c 0 _ rfl,h.a.ub.c 1 _ rfl,h.o.ub.c 0 _ rfl,h.o.ub.c 1 _ rfl,h.o.ub.c 2 _ rfl,h.o.ub.c 3 _ rfl,h.o.ub.c 4 _ rfl,h.o.ub.c 5 _ rfl,h.o.ub.c 6 _ rfl,h.o.ub.c 7 _ rfl,h.x.ub.c 0 _ rfl,h.x.ub.c 1 _ rfl,h.x.ub.c 2 _ rfl,h.x.ub.c 3 _ rfl⟩
 have HS0:=zAb (un HSS _ (un HT1));clear HT0;refine zAi 12 (fun _=>True) (fun W'=>W'.cell? ⟨w.heap.size,0,none⟩=some (.string nm)∧W'.cell? ⟨w.heap.size,1,none⟩=some (.string sy)∧W'.cell? ⟨w.heap.size+1,0,none⟩=some (I 0)∧W'.cell? ⟨w.heap.size+1,1,none⟩=some (I 0)∧W'.cell? ⟨w.heap.size+1,2,none⟩=some (I 0)∧W'.cell? ⟨w.heap.size+1,3,none⟩=some (I 0)∧W'.cell? ⟨w.heap.size+1,4,none⟩=some (I 1)∧W'.cell? ⟨w.heap.size+1,5,none⟩=some (I 0)∧W'.cell? ⟨w.heap.size+1,6,none⟩=some (I 0)∧W'.cell? ⟨w.heap.size+1,7,none⟩=some (I 0)∧W'.cell? ⟨g5,0,none⟩=some (I a)∧W'.cell? ⟨g5,1,none⟩=some (I b)∧W'.cell? ⟨g5,2,none⟩=some (I c)∧W'.cell? ⟨g5,3,none⟩=some (I d)) 13 rfl (by kernel_rfl) ?_;generalize w2.drew=U1 at *
 refine wT7 0 (.pointer (some ⟨w.heap.size,0,none⟩)) rfl (Or.inl ⟨by rfl,?_⟩) ⟨trivial,un HS0⟩ ?_
 ·intro W' hW
  go_split_ands
  go_simp
 refine wT7 1 (.string nm) rfl (Or.inl ⟨by rfl,?_⟩) ⟨trivial,un HS0⟩ ?_
 ·intro W' hW
  go_split_ands
  go_simp
 refine wT7 2 (.pointer (some ⟨w.heap.size,1,none⟩)) rfl (Or.inl ⟨by rfl,?_⟩) ⟨trivial,un HS0⟩ ?_
 ·intro W' hW
  go_split_ands
  go_simp
 refine wT7 3 (.string sy) rfl (Or.inl ⟨by rfl,?_⟩) ⟨trivial,un HS0⟩ ?_
 ·intro W' hW
  go_split_ands
  go_simp
 refine wT7 4 (.agg #[I 0,I 0,I 0,I 0,I 1,I 0,I 0,I 0]) rfl (Or.inl ⟨by rfl,?_⟩) ⟨trivial,un HS0⟩ ?_
 ·intro W' hW
  go_split_ands
  go_simp
 refine wT7 5 (.pointer (some ⟨g5,0,none⟩)) rfl (Or.inl ⟨by rfl,?_⟩) ⟨trivial,un HS0⟩ ?_
 ·intro W' hW
  go_split_ands
  go_simp
 refine wT7 6 (.agg #[I a,I b]) rfl (Or.inl ⟨by rfl,?_⟩) ⟨trivial,un HS0⟩ ?_
 ·intro W' hW
  go_split_ands
  go_simp
 refine wT7 8 (.pointer (some ⟨g5,2,none⟩)) rfl (Or.inl ⟨by rfl,?_⟩) ⟨trivial,un HS0⟩ ?_
 ·intro W' hW
  go_split_ands
  go_simp
 refine wT7 9 (.agg #[I c,I d]) rfl (Or.inl ⟨by rfl,?_⟩) ⟨trivial,un HS0⟩ ?_
 ·intro W' hW
  go_split_ands
  go_simp
 refine wO 7 rfl rfl (fun K hK=>?_)
 go_simp
 refine(un HFA _ (un HT1).b).mono ?_;rintro e U2 ⟨rfl,hb⟩;have HT2:=zAb ((un HT1).later hb);clear hb HT1;refine hK _ _ ⟨trivial,un HSS _ (un HT2)⟩ ?_;clear hK K;refine wO 10 rfl rfl (fun K hK=>?_)
 go_simp
 refine(un HOF _ (un HT2).b).mono ?_;rintro e U3 ⟨rfl,hb⟩;have HT3:=zAb ((un HT2).later hb);clear hb HT2;refine hK _ _ ⟨trivial,un HSS _ (un HT3)⟩ ?_;clear hK K;refine wO 11 rfl rfl (fun K hK=>?_)
 go_simp
 refine hK _ _ ⟨trivial,un HSS _ (un HT3)⟩ ?_;clear hK K
 have HT5:Hid ((U3.setRow (w.heap.size+1+1) #[.string nm,.string sy,I 0,I 0,I 0,I 0,I 1,I 0,I 0,I 0,.string fn,.string fd,.string on,.string od,I 0]).cell? ⟨w.heap.size,0,none⟩=some (.string nm)∧(U3.setRow (w.heap.size+1+1) #[.string nm,.string sy,I 0,I 0,I 0,I 0,I 1,I 0,I 0,I 0,.string fn,.string fd,.string on,.string od,I 0]).cell? ⟨w.heap.size,1,none⟩=some (.string sy)∧(U3.setRow (w.heap.size+1+1) #[.string nm,.string sy,I 0,I 0,I 0,I 0,I 1,I 0,I 0,I 0,.string fn,.string fd,.string on,.string od,I 0]).cell? ⟨w.heap.size+1,0,none⟩=some (I 0)∧(U3.setRow (w.heap.size+1+1) #[.string nm,.string sy,I 0,I 0,I 0,I 0,I 1,I 0,I 0,I 0,.string fn,.string fd,.string on,.string od,I 0]).cell? ⟨w.heap.size+1,1,none⟩=some (I 0)∧(U3.setRow (w.heap.size+1+1) #[.string nm,.string sy,I 0,I 0,I 0,I 0,I 1,I 0,I 0,I 0,.string fn,.string fd,.string on,.string od,I 0]).cell? ⟨w.heap.size+1,2,none⟩=some (I 0)∧(U3.setRow (w.heap.size+1+1) #[.string nm,.string sy,I 0,I 0,I 0,I 0,I 1,I 0,I 0,I 0,.string fn,.string fd,.string on,.string od,I 0]).cell? ⟨w.heap.size+1,3,none⟩=some (I 0)∧(U3.setRow (w.heap.size+1+1) #[.string nm,.string sy,I 0,I 0,I 0,I 0,I 1,I 0,I 0,I 0,.string fn,.string fd,.string on,.string od,I 0]).cell? ⟨w.heap.size+1,4,none⟩=some (I 1)∧(U3.setRow (w.heap.size+1+1) #[.string nm,.string sy,I 0,I 0,I 0,I 0,I 1,I 0,I 0,I 0,.string fn,.string fd,.string on,.string od,I 0]).cell? ⟨w.heap.size+1,5,none⟩=some (I 0)∧(U3.setRow (w.heap.size+1+1) #[.string nm,.string sy,I 0,I 0,I 0,I 0,I 1,I 0,I 0,I 0,.string fn,.string fd,.string on,.string od,I 0]).cell? ⟨w.heap.size+1,6,none⟩=some (I 0)∧(U3.setRow (w.heap.size+1+1) #[.string nm,.string sy,I 0,I 0,I 0,I 0,I 1,I 0,I 0,I 0,.string fn,.string fd,.string on,.string od,I 0]).cell? ⟨w.heap.size+1,7,none⟩=some (I 0)∧(U3.setRow (w.heap.size+1+1) #[.string nm,.string sy,I 0,I 0,I 0,I 0,I 1,I 0,I 0,I 0,.string fn,.string fd,.string on,.string od,I 0]).cell? ⟨g5,0,none⟩=some (I a)∧(U3.setRow (w.heap.size+1+1) #[.string nm,.string sy,I 0,I 0,I 0,I 0,I 1,I 0,I 0,I 0,.string fn,.string fd,.string on,.string od,I 0]).cell? ⟨g5,1,none⟩=some (I b)∧(U3.setRow (w.heap.size+1+1) #[.string nm,.string sy,I 0,I 0,I 0,I 0,I 1,I 0,I 0,I 0,.string fn,.string fd,.string on,.string od,I 0]).cell? ⟨g5,2,none⟩=some (I c)∧(U3.setRow (w.heap.size+1+1) #[.string nm,.string sy,I 0,I 0,I 0,I 0,I 1,I 0,I 0,I 0,.string fn,.string fd,.string on,.string od,I 0]).cell? ⟨g5,3,none⟩=some (I d)):=by
  have h:=un HT3;have hn:=h.n;have ha:=h.a.otherRow (us:=#[.string nm,.string sy,I 0,I 0,I 0,I 0,I 1,I 0,I 0,I 0,.string fn,.string fd,.string on,.string od,I 0]) (show ¬w.heap.size+1+1=w.heap.size by omega);have ho:=h.o.otherRow (us:=#[.string nm,.string sy,I 0,I 0,I 0,I 0,I 1,I 0,I 0,I 0,.string fn,.string fd,.string on,.string od,I 0]) (show ¬w.heap.size+1+1=w.heap.size+1 by omega);have hx:=h.x.otherRow (us:=#[.string nm,.string sy,I 0,I 0,I 0,I 0,I 1,I 0,I 0,I 0,.string fn,.string fd,.string on,.string od,I 0]) (show ¬w.heap.size+1+1=g5 by omega);exact⟨ha.ub.c 0 _ rfl,ha.ub.c 1 _ rfl,ho.ub.c 0 _ rfl,ho.ub.c 1 _ rfl,ho.ub.c 2 _ rfl,ho.ub.c 3 _ rfl,ho.ub.c 4 _ rfl,ho.ub.c 5 _ rfl,ho.ub.c 6 _ rfl,ho.ub.c 7 _ rfl,hx.ub.c 0 _ rfl,hx.ub.c 1 _ rfl,hx.ub.c 2 _ rfl,hx.ub.c 3 _ rfl⟩
 refine wL 12 rfl rfl (fun K hK=>?_);refine wp_store_row 30 (.tmp 4) (.tmp 20) rfl (w.heap.size+1+1) #[.string nm,.string sy,I 0,I 0,I 0,I 0,I 1,I 0,I 0,I 0,.string fn,.string fd,.string on,.string od,I 0] (by kernel_rfl) (by kernel_rfl) 30 _ (un HT3).r (by rw[zEd];rfl) rfl (by kernel_rfl) (hK _ _ (un HT5) ?_);clear hK K;refine wDn ?_
 go_wp2_with fail
 exact bodyPost_ret (v:=.agg #[.string nm,.string sy,I 0,I 0,I 0,I 0,I 1,I 0,I 0,I 0,.string fn,.string fd,.string on,.string od,I 0]) (res30 Tryz.results44 _ _ (w.heap.size+1+1) _ rfl rfl ((un HT3).r.setRow _)) rfl ⟨rfl,below_setRow (un HT3).b (by omega) _⟩
end Go.Proofs.YtliadckofhblnaaGreatDoor.Tm
namespace Go.Proofs.YtliadckofhblnaaGreatDoor.Tm
open Go.RowKit Go.Maps Go.ChangeMaps Go.WideMaps
def mfn:Nat→ByteArray
 | 0=>⟨#[53]⟩
 | 1=>⟨#[49]⟩
 | _=>⟨#[53]⟩
def mfd:Nat→ByteArray
 | 0=>⟨#[57]⟩
 | 1=>⟨#[49]⟩
 | _=>⟨#[57]⟩
def mon:Nat→ByteArray
 | 0=>⟨#[48]⟩
 | 1=>⟨#[53,52,54,51]⟩
 | _=>⟨#[52,53,57,54,55]⟩
def mod:Nat→ByteArray
 | 0=>⟨#[49]⟩
 | 1=>⟨#[50,48]⟩
 | _=>⟨#[49,56,48]⟩
def rtM (k:Nat):Array Value:=#[.string (sct k).nm,.string (sct k).sy,I 0,I 0,I 0,I 0,I 1,I 0,I 0,I 0,.string (mfn k),.string (mfd k),.string (mon k),.string (mod k),I 0]
def rowM (k:Nat):Array Value:=#[.string (sct k).nm,.string (sct k).sy,.func (.func (sct k).f) #[] #[]]
theorem zGe (n D:Nat) (q:Rat) (fn fd:ByteArray) (w:World) (hN:n<9223372036854775808) (hD:D<9223372036854775808) (hD0:Cub.valQ false D 1≠0) (hq:Cub.valQ false n 1*(Cub.valQ false D 1)⁻¹=q) (hs:IsR fn fd q) (htab:Tab w) :
  Calls Tryz.prog 109 #[.agg #[I (n:Int),I (D:Int)]] w fun r w'=>r=.returned (.agg #[.string fn,.string fd])∧Bw w w':=by
 have h:=zGf n D q w hN hD hD0 hq hs.1 htab;rw[←hs.2.1,←hs.2.2]at h;exact h
theorem told_m:∀k,k<3→∀W,Tab W→Calls Tryz.prog 44 #[.agg (rowM k),.agg dimK] W fun r w'=>r=.returned (.agg (rtM k))∧Bw W w'
 | 0,_=>fun W ht=>told44 5 9 0 1 _ _ _ _ _ _ _ W (enter_sc 0 (by decide)) (made_sc 0 (by decide)) (fun V hb=>zGe 5 9 (5 / 9) _ _ V (by decide) (by decide) (by decide +kernel) (by decide +kernel) (zBf _ _ 5 9 (5 / 9) (by decide +kernel) (by decide +kernel) (by decide +kernel) (by decide +kernel) (by decide +kernel) (by decide +kernel) (by decide +kernel) (by decide +kernel) (by decide +kernel)) (ht.later hb)) (fun V hb=>zGe 0 1 0 _ _ V (by decide) (by decide) (by decide +kernel) (by decide +kernel) (zBf _ _ 0 1 0 (by decide +kernel) (by decide +kernel) (by decide +kernel) (by decide +kernel) (by decide +kernel) (by decide +kernel) (by decide +kernel) (by decide +kernel) (by decide +kernel)) (ht.later hb))
 | 1,_=>fun W ht=>told44 1 1 27315 100 _ _ _ _ _ _ _ W (enter_sc 1 (by decide)) (made_sc 1 (by decide)) (fun V hb=>zGe 1 1 1 _ _ V (by decide) (by decide) (by decide +kernel) (by decide +kernel) (zBf _ _ 1 1 1 (by decide +kernel) (by decide +kernel) (by decide +kernel) (by decide +kernel) (by decide +kernel) (by decide +kernel) (by decide +kernel) (by decide +kernel) (by decide +kernel)) (ht.later hb)) (fun V hb=>zGe 27315 100 (5463 / 20) _ _ V (by decide) (by decide) (by decide +kernel) (by decide +kernel) (zBf _ _ 5463 20 (5463 / 20) (by decide +kernel) (by decide +kernel) (by decide +kernel) (by decide +kernel) (by decide +kernel) (by decide +kernel) (by decide +kernel) (by decide +kernel) (by decide +kernel)) (ht.later hb))
 | 2,_=>fun W ht=>told44 5 9 229835 900 _ _ _ _ _ _ _ W (enter_sc 2 (by decide)) (made_sc 2 (by decide)) (fun V hb=>zGe 5 9 (5 / 9) _ _ V (by decide) (by decide) (by decide +kernel) (by decide +kernel) (zBf _ _ 5 9 (5 / 9) (by decide +kernel) (by decide +kernel) (by decide +kernel) (by decide +kernel) (by decide +kernel) (by decide +kernel) (by decide +kernel) (by decide +kernel) (by decide +kernel)) (ht.later hb)) (fun V hb=>zGe 229835 900 (45967 / 180) _ _ V (by decide) (by decide) (by decide +kernel) (by decide +kernel) (zBf _ _ 45967 180 (45967 / 180) (by decide +kernel) (by decide +kernel) (by decide +kernel) (by decide +kernel) (by decide +kernel) (by decide +kernel) (by decide +kernel) (by decide +kernel) (by decide +kernel)) (ht.later hb))
 | _+3,h=>absurd h (by omega)
end Go.Proofs.YtliadckofhblnaaGreatDoor.Tm
namespace Go.Proofs.YtliadckofhblnaaGreatDoor.Tr
open Go.RowKit
theorem setRow_cell (w:World) (g k o:Nat) (cs:Array Value) (h:k≠g):(w.setRow g cs).cell? ⟨k,o,none⟩=w.cell? ⟨k,o,none⟩:=by
 have:=setRow_other w g k cs h;simp only[World.cell?,this]
end Go.Proofs.YtliadckofhblnaaGreatDoor.Tr
namespace Go.Proofs.YtliadckofhblnaaGreatDoor.Tm
open Go.RowKit
def zJp (p:Nat→Bool) (j:Int):Prop:=(∃k:Nat,k<3∧j=(k:Int)∧p k=true∧∀i,i<k→p i=false)∨(j=-1∧∀i,i<3→p i=false)
theorem zJc {p:Nat→Bool} {i j:Int} (h1:zJp p i) (h2:zJp p j):i=j:=by
 rcases h1 with ⟨k,hk,rfl,e1,n1⟩|⟨rfl,n1⟩<;>rcases h2 with ⟨m,hm,rfl,e2,n2⟩|⟨rfl,n2⟩
 ·by_cases h:k<m
  ·have:=n2 k h;rw[e1]at this;cases this
  ·by_cases h':m<k
   ·have:=n1 m h';rw[e2]at this;cases this
   ·have:k=m:=by omega
    rw[this]
 ·have:=n2 k hk;rw[e1]at this;cases this
 ·have:=n1 m hm;rw[e2]at this;cases this
 ·rfl
theorem index3 (s:ByteArray) (g cap b:Nat) (w:World) (hr:∀k,k<3→R3 w g k) (hg:g<w.heap.size) (hb:w.cell? ⟨b,0,none⟩=some (.string s)) (hlt:b<w.heap.size) :
 Calls Tryz.prog 112 #[.slice (some ⟨g,0,none⟩) 3 cap,.func (.func 113) #[] #[.pointer (some ⟨b,0,none⟩)]] w fun r w'=>∃j:Int,r=.returned (I j)∧zJp (scB s) j∧Bw w w':=by
 have HR:=zAb hr;have HBC:=zAb hb;clear hr hb;go_enter Tryz.func112,Tryz.ntmps112
 go_wp2_with fail
 go_loopw [8] (fun s8 wr=>∃(k:Nat),k≤3∧s8=I (k:Int)∧Hid (∀i,i<k→scB s i=false)∧Hid (Bw w wr)) (fun s8 _=>3 - (intOf s8).toNat)
 case atStart=>exact⟨0,by omega,rfl,fun i hi=>absurd hi (by omega),Below.refl _ _⟩
 case round=>
  obtain⟨k,hk,rfl,HN,HB⟩:=hrel
  by_cases hk4:k<3
  ·have hkI:(k:Int)<3:=by omega
   have hk0:(0:Int)≤(k:Int):=by omega
   have hrow:=(un HR k hk4).later (un HB) hg;have c0:=hrow.c0;have c1:=hrow.c1;have c2:=hrow.c2;clear hrow
   have HC:Hid (∀W,Below wr.heap.size wr W→Calls Tryz.prog 113 #[.agg #[.string (sct k).nm,.string (sct k).sy,.func (.func (sct k).f) #[] #[]],.pointer (some ⟨b,0,none⟩)] W fun r w'=>r=.returned (.bool (scB s k))∧Bw W w'):=fun W hW=>
    zEe _ _ _ s b W ((bt HB hW).cell (p:=⟨b,0,none⟩) hlt |>.trans (un HBC)) (Nat.lt_of_lt_of_le hlt ((bt HB hW).size))
   have HNK:=zAb (fun (e:scB s k=false)=>zEw (un HN) e);have HYK:=zAb (fun (e:scB s k=true)=>(Or.inl ⟨k,hk4,rfl,e,un HN⟩:zJp (scB s) (k:Int)));generalize (sct k).nm=nm at *
   generalize (sct k).sy=sy at *
   generalize (sct k).f=f at *
   by_cases hB:scB s k=true
   ·have HJ:=zAb (un HYK hB)
    rw[hB]at HC;clear HNK HYK hB
    go_wp2_with (go_at_call 113;go_must(refine(un HC _ (Below.refl _ _)).mono ?_;rintro e wt ⟨rfl,hbt⟩;have HBT:=zAb hbt;clear hbt))
    go_ret
    exact⟨_,rfl,un HJ,(un HB).trans ((un HBT).mono (un HB).size)⟩
   ·have hB':scB s k=false:=by simpa using hB
    have HJ:=zAb (un HNK hB');rw[hB']at HC;clear HNK HYK hB hB'
    go_wp2_with (go_at_call 113;go_must(refine(un HC _ (Below.refl _ _)).mono ?_;rintro e wt ⟨rfl,hbt⟩;have HBT:=zAb hbt;clear hbt))
    go_roundw
    case rel=>exact⟨k+1,by omega,by go_num,HJ,(un HB).trans ((un HBT).mono (un HB).size)⟩
    case measure=>simp[intOf];omega
  ·have hkI:¬(k:Int)<3:=by omega
   go_wp2_with fail
   go_ret
   exact⟨-1,rfl,Or.inr ⟨rfl,fun i hi=>un HN i (by omega)⟩,un HB⟩
theorem find3 (s:ByteArray) (g cap:Nat) (w:World) (hr:∀k,k<3→R3 w g k) (hg:g<w.heap.size) :
 Calls Tryz.prog 48 #[.string s,.slice (some ⟨g,0,none⟩) 3 cap] w fun r w'=>((∃k:Nat,k<3∧r=.returned (.tuple #[.agg #[.string (sct k).nm,.string (sct k).sy,.func (.func (sct k).f) #[] #[]],.bool true])∧zJp (scB s) (k:Int))∨(r=.returned (.tuple #[.agg #[G #[],G #[],.nilFunc],.bool false])∧zJp (scB s) (-1)))∧Bw w w':=by
 obtain⟨V,hV⟩:∃V,V=(w.alloc (.cells #[.string s] 9)).alloc (.cells #[G #[],G #[],.nilFunc] 69):=⟨_,rfl⟩;have HBX:Hid (V.cell? ⟨w.heap.size,0,none⟩=some (.string s)∧w.heap.size<V.heap.size):=by rw[hV];exact⟨by simp[go_sem],by simp;omega⟩
 have HZ:Hid (FBox V (w.heap.size+1) (G #[]) (G #[]) (.nilFunc)):=by rw[hV];exact⟨by simp[go_sem],by simp[go_sem],by simp[go_sem],by simp[go_sem],by simp[go_sem],by simp[go_sem]⟩
 have HB:Hid (Bw w V):=by rw[hV];exact bA.alloc (by simp) _
 have HR:=zAb (fun k hk=>(hr k hk).later (un HB) hg);have HG:Hid (g<V.heap.size):=Nat.lt_of_lt_of_le hg (un HB).size;have HV:=zAb hV;have HIX:=zAb (index3 s g cap w.heap.size V (un HR) (un HG) (un HBX).1 (un HBX).2);clear hV hr;go_enter Tryz.func48,Tryz.ntmps48
 go_upto_region 1 with fail
 rw[←un HV];clear HV;have t0:=(un HBX).1
 go_upto_region 2 with (go_at_call 112;go_must(refine(un HIX).mono ?_;rintro e w1 ⟨j,rfl,hj,hb1⟩;have HJ:=zAb hj;have HB1:=zAb hb1;clear hj hb1 t0))
 have HZ1:=zAb ((un HZ).later (un HB1));have HBW:Hid (Bw w w1):=(un HB).trans ((un HB1).mono (un HB).size);have z0:=(un HZ1).c0;have z1:=(un HZ1).c1;have z2:=(un HZ1).c2;have f0:=(un HZ1).f0;have f1:=(un HZ1).f1;have f2:=(un HZ1).f2;rcases un HJ with ⟨k,hk,rfl,hk1,hk2⟩|⟨rfl,hn⟩
 ·have hk0:(0:Int)≤(k:Int):=by omega
  have hkI:(k:Int)<3:=by omega
  have hrow:=(un HR k hk).later (un HB1) (un HG);have c0:=hrow.c0;have c1:=hrow.c1;have c2:=hrow.c2;have HOUT:Hid (∀w',Below w.heap.size w w'→(((∃k':Nat,k'<3∧Ending.returned (.tuple #[.agg #[.string (sct k).nm,.string (sct k).sy,.func (.func (sct k).f) #[] #[]],.bool true])=.returned (.tuple #[.agg #[.string (sct k').nm,.string (sct k').sy,.func (.func (sct k').f) #[] #[]],.bool true])∧zJp (scB s) (k':Int))∨(Ending.returned (.tuple #[.agg #[.string (sct k).nm,.string (sct k).sy,.func (.func (sct k).f) #[] #[]],.bool true])=.returned (.tuple #[.agg #[G #[],G #[],.nilFunc],.bool false])∧zJp (scB s) (-1)))∧Bw w w')):=fun w' hb=>⟨Or.inl ⟨k,hk,rfl,Or.inl ⟨k,hk,rfl,hk1,hk2⟩⟩,hb⟩
  clear hrow hk1 hk2;generalize (sct k).nm=nm at c0 c1 c2 HOUT
  generalize (sct k).sy=sy at c0 c1 c2 HOUT
  generalize (sct k).f=f at c0 c1 c2 HOUT
  go_wp2_with fail
  have hS:=(un HZ1).store (.string nm) (.string sy) (.func (.func f) #[] #[]);have v0:=hS.c0;have v1:=hS.c1;have v2:=hS.c2;exact bodyPost_ret (v:=.tuple #[.agg #[.string nm,.string sy,.func (.func f) #[] #[]],.bool true]) (w:=zAs w1 (w.heap.size+1) (.string nm) (.string sy) (.func (.func f) #[] #[])) (by simp[results,Tryz.results48,go_sem,v0,v1,v2]) rfl (un HOUT _ (zAq (un HBW) (Nat.le_succ _) _ _ _))
 ·go_wp2_with fail
  have hS:=(un HZ1).store (G #[]) (G #[]) (.nilFunc);have v0:=hS.c0;have v1:=hS.c1;have v2:=hS.c2;exact bodyPost_ret (v:=.tuple #[.agg #[G #[],G #[],.nilFunc],.bool false]) (w:=zAs w1 (w.heap.size+1) (G #[]) (G #[]) (.nilFunc)) (by simp[results,Tryz.results48,go_sem,v0,v1,v2]) rfl ⟨Or.inr ⟨rfl,Or.inr ⟨rfl,hn⟩⟩,zAq (un HBW) (Nat.le_succ _) _ _ _⟩
theorem rtM_size0 (k:Nat):(rtM k).size=15:=rfl
theorem rtM_ones (k:Nat):(rtM k).all (·.oneCell')=true:=by kernel_rfl
def FindM (s:ByteArray) (v:Value):Prop :=
 (∃k:Nat,k<3∧zJp (scB s) (k:Int)∧v=.tuple #[.agg (rtM k),.bool true])∨(zJp (scB s) (-1)∧v=.tuple #[.agg z15,.bool false])
theorem FindM.det {s:ByteArray} {u v:Value} (h1:FindM s u) (h2:FindM s v):u=v:=by
 rcases h1 with ⟨k,hk,f1,rfl⟩|⟨f1,rfl⟩<;>rcases h2 with ⟨m,hm,f2,rfl⟩|⟨f2,rfl⟩
 ·have:=zJc f1 f2;have e:k=m:=by omega
  rw[e]
 ·have:=zJc f1 f2;omega
 ·have:=zJc f1 f2;omega
 ·rfl
theorem rows_at (w:World):∀k,k<3→R3 (w.alloc (.cells rows3 69)) w.heap.size k
 | 0,_=>⟨by simp[rows3,go_sem];rfl,by simp[rows3,go_sem];rfl,by simp[rows3,go_sem];rfl⟩
 | 1,_=>⟨by simp[rows3,go_sem];rfl,by simp[rows3,go_sem];rfl,by simp[rows3,go_sem];rfl⟩
 | 2,_=>⟨by simp[rows3,go_sem];rfl,by simp[rows3,go_sem];rfl,by simp[rows3,go_sem];rfl⟩
 | _+3,h=>absurd h (by omega)
theorem findU (s:ByteArray) (w:World) (htab:Tab w):Calls Tryz.prog 20 #[.string s] w fun r w'=>∃v,r=.returned v∧FindM s v∧Bw w w':=by
 obtain⟨V,hV⟩:∃V,V=w.alloc (.cells z15 30):=⟨_,rfl⟩;have HR:Hid (zAc V w.heap.size 30 z15):=by rw[hV];exact zAc.new _ _ _
 have HB:Hid (Bw w V):=by rw[hV];exact bA
 have HTA:Hid (∀W,Below w.heap.size w W→Tab W):=fun W h=>htab.later h
 have HV:=zAb hV;clear hV htab;go_enter Tryz.func20,Tryz.ntmps20
 go_upto_region 1 with fail
 rw[←un HV];clear HV
 go_upto_region 2 with (first
  | (go_at_call 43;go_must(refine(zEm _).mono ?_;rintro e W0 ⟨rfl,hw⟩;have HRW:Hid (∀k,k<3→R3 W0 V.heap.size k):=(by rw[hw];exact rows_at V);have HG:Hid (V.heap.size<W0.heap.size):=(by rw[hw];show _<_;simp);have HB1:Hid (Bw V W0):=(by rw[hw];exact bA);clear hw))
  | (go_at_call 48;go_must(refine(find3 s V.heap.size 3 _ (un HRW) (un HG)).mono ?_;rintro e W1 ⟨hf,hb⟩;have HFD:=zAb hf;have HB2:Hid (Bw w W1):=(un HB).trans ((bt HB1 hb).mono (un HB).size);have HR2:=zAb ((un HR).later (bt HB1 hb));clear hf hb;rcases un HFD with ⟨k,hk,rfl,hfk⟩|⟨rfl,hfn⟩)))
 ·clear HFD HRW HG HB1 HR HB
  obtain⟨Y,hY⟩:∃Y,Y=W1.alloc (.cells #[.string (sct k).nm,.string (sct k).sy,.func (.func (sct k).f) #[] #[]] 69):=⟨_,rfl⟩;have HXY:Hid (FBox Y W1.heap.size (.string (sct k).nm) (.string (sct k).sy) (.func (.func (sct k).f) #[] #[])):=by rw[hY];exact⟨by simp[go_sem],by simp[go_sem],by simp[go_sem],by simp[go_sem],by simp[go_sem],by simp[go_sem]⟩
  have HBY:Hid (Bw W1 Y):=by rw[hY];exact bA
  rw[←hY];clear hY;have HRY:=zAb ((un HR2).later (un HBY));have HB3:Hid (Bw w Y):=(un HB2).trans ((un HBY).mono (un HB2).size);clear HR2 HB2 HBY;generalize W1.heap.size=g3 at *
  have HTO:=zAb (told_m k hk);unfold rowM at HTO
  have HOUT:Hid (FindM s (.tuple #[.agg (rtM k),.bool true])):=Or.inl ⟨k,hk,hfk,rfl⟩;have HSZ:=zAb (rtM_size0 k);have HON:=zAb (rtM_ones k);have HTE:=zAb (fun W ht=>temperature_any W ht);clear hfk;generalize rtM k=u at *
  generalize (sct k).nm=nm at *
  generalize (sct k).sy=sy at *
  generalize (sct k).f=f at *
  generalize dimK=pT at *
  go_upto_region 4 with fail
  have HSS:Hid (∀W':World,FBox W' g3 (.string nm) (.string sy) (.func (.func f) #[] #[])→W'.cell? ⟨g3,0,none⟩=some (.string nm)∧W'.cell? ⟨g3,1,none⟩=some (.string sy)∧W'.cell? ⟨g3,2,none⟩=some (.func (.func f) #[] #[])):=fun W' h=>⟨h.c0,h.c1,h.c2⟩
  have HXD:Hid (FBox Y.drew g3 (.string nm) (.string sy) (.func (.func f) #[] #[])):=(un HXY).later (Below.refl _ _).drew;have HRD:Hid (zAc Y.drew w.heap.size 30 z15):=un HRY;have HBD:Hid (Bw w Y.drew):=(un HB3).drew;have HS0:=zAb (un HSS _ (un HXD));clear HXY HRY HB3;refine zAi 3 (fun _=>True) (fun W'=>W'.cell? ⟨g3,0,none⟩=some (.string nm)∧W'.cell? ⟨g3,1,none⟩=some (.string sy)∧W'.cell? ⟨g3,2,none⟩=some (.func (.func f) #[] #[])) 5 rfl (by kernel_rfl) ?_;generalize Y.drew=U3 at *
  refine wT7 0 (.agg #[.string nm,.string sy,.func (.func f) #[] #[]]) rfl (Or.inl ⟨by rfl,?_⟩) ⟨trivial,un HS0⟩ ?_
  ·intro W' hW
   go_split_ands
   go_simp
  refine wO 1 rfl rfl (fun K hK=>?_)
  go_simp
  refine(un HTE _ (un HTA _ (un HBD))).mono ?_;rintro e U4 ⟨rfl,hb⟩;have HR4:=zAb ((un HRD).later hb);have HB4:Hid (Bw w U4):=bt HBD hb;have HW4:=zAb ((un HXD).later hb);clear hb HRD HBD HXD;refine hK _ _ ⟨trivial,un HSS _ (un HW4)⟩ ?_;clear hK K;refine wO 2 rfl rfl (fun K hK=>?_)
  go_simp
  refine(un HTO _ (un HTA _ (un HB4))).mono ?_;rintro e U5 ⟨rfl,hb⟩;have HR5:=zAb ((un HR4).later hb);have HB5:Hid (Bw w U5):=bt HB4 hb;have HW5:=zAb ((un HW4).later hb);clear hb HR4 HB4 HW4;refine hK _ _ ⟨trivial,un HSS _ (un HW5)⟩ ?_;clear hK K
  have hne:g3≠w.heap.size:=fun e=>by
   have h3:=(un HW5).c2;have h4:=(un HR5).ub.c 2 _ rfl;rw[e,h4]at h3;cases h3
  have HW6:Hid ((U5.setRow w.heap.size u).cell? ⟨g3,0,none⟩=some (.string nm)∧(U5.setRow w.heap.size u).cell? ⟨g3,1,none⟩=some (.string sy)∧(U5.setRow w.heap.size u).cell? ⟨g3,2,none⟩=some (.func (.func f) #[] #[])):=(by
   have h:=un HW5;exact⟨(Tr.setRow_cell _ _ _ _ _ hne).trans h.c0,(Tr.setRow_cell _ _ _ _ _ hne).trans h.c1,(Tr.setRow_cell _ _ _ _ _ hne).trans h.c2⟩)
  clear hne;refine wL 3 rfl rfl (fun K hK=>?_);refine wp_store_row 30 (.tmp 2) (.tmp 17) rfl w.heap.size u (by kernel_rfl) (by kernel_rfl) 30 _ (un HR5) (by rw[zEd,un HSZ]) (by rw[un HSZ];rfl) (un HON) (hK _ _ (un HW6) ?_);clear hK K;refine wL 4 rfl rfl (fun K hK=>?_)
  go_simp
  refine hK _ _ (un HW6) ?_;clear hK K;refine wDn ?_
  go_wp2_with fail
  exact bodyPost_ret (v:=.tuple #[.agg u,.bool true]) (zJn Tryz.results20 _ _ w.heap.size _ (un HSZ) rfl ((un HR5).setRow _)) rfl ⟨_,rfl,un HOUT,below_setRow (un HB5) (Nat.le_refl _) _⟩
 ·have HRY:=zAb ((un HR2).alloc (.cells #[G #[],G #[],.nilFunc] 69))
  have HBY:=zAb ((un HB2).alloc (un HB2).size (.cells #[G #[],G #[],.nilFunc] 69));clear HR2 HB2
  go_wp2_with (refine zAn 30 15 zEd rfl (.tmp 2) (.tmp 14) rfl w.heap.size z15 z15 rfl rfl rfl rfl (un HRY) (by kernel_rfl) ?_)
  exact bodyPost_ret (v:=.tuple #[.agg z15,.bool false]) (zJn Tryz.results20 _ _ w.heap.size _ rfl rfl ((un HRY).setRow _)) rfl ⟨_,rfl,Or.inr ⟨hfn,rfl⟩,below_setRow (un HBY) (Nat.le_refl _) _⟩
theorem rat31 (a b:ByteArray) (w:World):Calls Tryz.prog 47 #[.string a,.string b] w fun r w'=>r=.returned (.agg #[.string a,.string b])∧Bw w w':=by
 go_enter Tryz.func47,Tryz.ntmps47
 go_wp2
 exact bodyPost_ret (v:=.agg #[.string a,.string b]) (by simp[results,Tryz.results47,go_sem]) rfl ⟨rfl,bA⟩
end Go.Proofs.YtliadckofhblnaaGreatDoor.Tm
namespace Go.Proofs.YtliadckofhblnaaGreatDoor.Tr
open Go.RowKit
theorem info30r:(Tryz.prog.info? 30).map (fun i=>(i.zero,i.size,i.bytes))=some (some (.agg z15),15,168):=by kernel_rfl
theorem under22r:Tryz.prog.underlying 22=some (.slice 30):=by kernel_rfl
end Go.Proofs.YtliadckofhblnaaGreatDoor.Tr
namespace Go.Proofs.YtliadckofhblnaaGreatDoor.Tm
open Go.RowKit
def uAllM:Array Value:=((List.range 3).flatMap fun k=>(rtM k).toList).toArray
theorem rat45 (a b:ByteArray) (w:World):Calls Tryz.prog 45 #[.string a,.string b] w fun r w'=>r=.returned (.agg #[.string a,.string b])∧Bw w w':=by
 go_enter Tryz.func45,Tryz.ntmps45
 go_wp2
 exact bodyPost_ret (v:=.agg #[.string a,.string b]) (by simp[results,Tryz.results45,go_sem]) rfl ⟨rfl,bA⟩
structure D8 (w W:World):Prop where
 o:zAc W w.heap.size 26 dimK
 b:Below w.heap.size w W
theorem D8.later {w W V:World} (h:D8 w W) (hb:Below W.heap.size W V):D8 w V:=⟨h.o.later hb,h.b.trans (hb.mono h.b.size)⟩
theorem refUnitsM (w:World):Calls Tryz.prog 18 #[] w fun r w'=>∃W,r=.returned (.slice (some ⟨W.heap.size,0,none⟩) 3 3)∧w'=W.alloc (.cells uAllM 30)∧Bw w W:=by
 obtain⟨i0,hi,hz0,hz1,hz2⟩:=info_parts Tr.info30r;have HI0:=zAb hi;have HZ0:=zAb hz0;have HZ1:=zAb hz1;clear hi hz0 hz1 hz2;go_enter Tryz.func18,Tryz.ntmps18
 go_upto_region 2 with (refine zAn 26 8 zCw rfl (.tmp 1) (.tmp 2) rfl w.heap.size z8 dimK rfl rfl rfl rfl (zAc.new _ _ _) (by kernel_rfl) ?_)
 have HT0:Hid (D8 w ((w.alloc (.cells z8 26)).setRow w.heap.size dimK)):=⟨(zAc.new _ _ _).setRow _,below_setRow (zBx _ _) (Nat.le_refl _) _⟩;generalize (w.alloc (.cells z8 26)).setRow w.heap.size dimK=w2 at *
 have HT1:Hid (D8 w w2.drew):=(un HT0).later (Below.refl _ _).drew;have HSS:Hid (∀W':World,D8 w W'→W'.cell? ⟨w.heap.size,0,none⟩=some (I 0)∧W'.cell? ⟨w.heap.size,1,none⟩=some (I 0)∧W'.cell? ⟨w.heap.size,2,none⟩=some (I 0)∧W'.cell? ⟨w.heap.size,3,none⟩=some (I 0)∧W'.cell? ⟨w.heap.size,4,none⟩=some (I 1)∧W'.cell? ⟨w.heap.size,5,none⟩=some (I 0)∧W'.cell? ⟨w.heap.size,6,none⟩=some (I 0)∧W'.cell? ⟨w.heap.size,7,none⟩=some (I 0)):=fun W' h=>⟨h.o.ub.c 0 _ rfl,h.o.ub.c 1 _ rfl,h.o.ub.c 2 _ rfl,h.o.ub.c 3 _ rfl,h.o.ub.c 4 _ rfl,h.o.ub.c 5 _ rfl,h.o.ub.c 6 _ rfl,h.o.ub.c 7 _ rfl⟩
 have HS0:=zAb (un HSS _ (un HT1));clear HT0;refine zAi 12 (fun _=>True) (fun W'=>W'.cell? ⟨w.heap.size,0,none⟩=some (I 0)∧W'.cell? ⟨w.heap.size,1,none⟩=some (I 0)∧W'.cell? ⟨w.heap.size,2,none⟩=some (I 0)∧W'.cell? ⟨w.heap.size,3,none⟩=some (I 0)∧W'.cell? ⟨w.heap.size,4,none⟩=some (I 1)∧W'.cell? ⟨w.heap.size,5,none⟩=some (I 0)∧W'.cell? ⟨w.heap.size,6,none⟩=some (I 0)∧W'.cell? ⟨w.heap.size,7,none⟩=some (I 0)) 14 rfl (by kernel_rfl) ?_;generalize w2.drew=U1 at *
 refine wT7 0 (.agg #[I 0,I 0,I 0,I 0,I 1,I 0,I 0,I 0]) rfl (Or.inl ⟨by rfl,?_⟩) ⟨trivial,un HSS _ (un HT1)⟩ ?_
 ·intro W' hW
  go_split_ands
  go_simp
 refine wT7 4 (.agg #[I 0,I 0,I 0,I 0,I 1,I 0,I 0,I 0]) rfl (Or.inl ⟨by rfl,?_⟩) ⟨trivial,un HSS _ (un HT1)⟩ ?_
 ·intro W' hW
  go_split_ands
  go_simp
 refine wT7 8 (.agg #[I 0,I 0,I 0,I 0,I 1,I 0,I 0,I 0]) rfl (Or.inl ⟨by rfl,?_⟩) ⟨trivial,un HSS _ (un HT1)⟩ ?_
 ·intro W' hW
  go_split_ands
  go_simp
 refine wO 1 rfl rfl (fun K hK=>?_)
 go_simp
 refine(rat45 _ _ _).mono ?_;rintro e U2 ⟨rfl,hb⟩;have HT2:=zAb ((un HT1).later hb);clear hb HT1;refine hK _ _ ⟨trivial,un HSS _ (un HT2)⟩ ?_;clear hK K;refine wO 2 rfl rfl (fun K hK=>?_)
 go_simp
 refine(rat45 _ _ _).mono ?_;rintro e U3 ⟨rfl,hb⟩;have HT3:=zAb ((un HT2).later hb);clear hb HT2;refine hK _ _ ⟨trivial,un HSS _ (un HT3)⟩ ?_;clear hK K;refine wT7 3 (.agg #[G #[114,97,110,107,105,110,101],G #[194,176,82],I 0,I 0,I 0,I 0,I 1,I 0,I 0,I 0,G #[53],G #[57],G #[48],G #[49],I 0]) rfl (Or.inl ⟨by rfl,?_⟩) ⟨trivial,un HSS _ (un HT3)⟩ ?_
 ·intro W' hW
  go_split_ands
  go_simp
 refine wO 5 rfl rfl (fun K hK=>?_)
 go_simp
 refine(rat45 _ _ _).mono ?_;rintro e U4 ⟨rfl,hb⟩;have HT4:=zAb ((un HT3).later hb);clear hb HT3;refine hK _ _ ⟨trivial,un HSS _ (un HT4)⟩ ?_;clear hK K;refine wO 6 rfl rfl (fun K hK=>?_)
 go_simp
 refine(rat45 _ _ _).mono ?_;rintro e U5 ⟨rfl,hb⟩;have HT5:=zAb ((un HT4).later hb);clear hb HT4;refine hK _ _ ⟨trivial,un HSS _ (un HT5)⟩ ?_;clear hK K;refine wT7 7 (.agg #[G #[99,101,108,115,105,117,115],G #[194,176,67],I 0,I 0,I 0,I 0,I 1,I 0,I 0,I 0,G #[49],G #[49],G #[53,52,54,51],G #[50,48],I 0]) rfl (Or.inl ⟨by rfl,?_⟩) ⟨trivial,un HSS _ (un HT5)⟩ ?_
 ·intro W' hW
  go_split_ands
  go_simp
 refine wO 9 rfl rfl (fun K hK=>?_)
 go_simp
 refine(rat45 _ _ _).mono ?_;rintro e U6 ⟨rfl,hb⟩;have HT6:=zAb ((un HT5).later hb);clear hb HT5;refine hK _ _ ⟨trivial,un HSS _ (un HT6)⟩ ?_;clear hK K;refine wO 10 rfl rfl (fun K hK=>?_)
 go_simp
 refine(rat45 _ _ _).mono ?_;rintro e U7 ⟨rfl,hb⟩;have HT7:=zAb ((un HT6).later hb);clear hb HT6;refine hK _ _ ⟨trivial,un HSS _ (un HT7)⟩ ?_;clear hK K;refine wT7 11 (.agg #[G #[102,97,104,114,101,110,104,101,105,116],G #[194,176,70],I 0,I 0,I 0,I 0,I 1,I 0,I 0,I 0,G #[53],G #[57],G #[52,53,57,54,55],G #[49,56,48],I 0]) rfl (Or.inl ⟨by rfl,?_⟩) ⟨trivial,un HSS _ (un HT7)⟩ ?_
 ·intro W' hW
  go_split_ands
  go_simp
 refine wO 12 rfl rfl (fun K hK=>?_);refine wp_buildSlice 22 30 3 _ rfl uAllM i0 (.agg z15) Tr.under22r (un HI0) (un HZ0) (by rw[un HZ1];decide) (by rw[un HZ1];decide) (by rw[un HZ1];kernel_rfl) ?_;refine hK _ _ ⟨trivial,un HSS _ ((un HT7).later (zBx _ _))⟩ ?_;clear hK K;refine wO 13 rfl rfl (fun K hK=>?_)
 go_simp
 refine hK _ _ ⟨trivial,un HSS _ ((un HT7).later (zBx _ _))⟩ ?_;clear hK K;refine wDn ?_
 go_wp2_with fail
 go_ret
 exact⟨_,rfl,rfl,(un HT7).b⟩
theorem uAllM_ex:∀k,k<3→uAllM.extract (k*15) (k*15+15)=rtM k
 | 0,_=>by kernel_rfl
 | 1,_=>by kernel_rfl
 | 2,_=>by kernel_rfl
 | _+3,h=>absurd h (by omega)
theorem uAllM_size:uAllM.size=45:=by kernel_rfl
theorem rtM_size (k:Nat):(rtM k).size=15:=rfl
theorem uAllM_row (k:Nat) (hk:k<3) (i:Nat) (v:Value) (h:(rtM k)[i]?=some v):uAllM[k*15+i]?=some v:=by
 have hi:i<15:=by have:=(Array.getElem?_eq_some_iff.1 h).1;rw[rtM_size]at this;exact this
 rw[←uAllM_ex k hk,Array.getElem?_extract,if_pos (by rw[uAllM_size];omega)]at h;exact h
def UR (W:World) (g k:Nat):Prop:=∀i v,(rtM k)[i]?=some v→W.cell? ⟨g,k*15+i,none⟩=some v
theorem UR.later {W V:World} {B g k:Nat} (h:UR W g k) (hb:Below B W V) (hg:g<B):UR V g k:=fun i v e=>(hb.cell (p:=⟨g,k*15+i,none⟩) hg).trans (h i v e)
theorem uAllM_at (W:World) (k:Nat) (hk:k<3):UR (W.alloc (.cells uAllM 30)) W.heap.size k:=fun i v e=>(zAc.new W uAllM 30).ub.c _ _ (uAllM_row k hk i v e)
theorem refFindM (s:ByteArray) (g cap:Nat) (w:World) (hr:∀k,k<3→UR w g k) (hg:g<w.heap.size) :
    Calls Tryz.prog 15 #[.slice (some ⟨g,0,none⟩) 3 cap,.string s] w fun r w'=>∃v,r=.returned v∧FindM s v∧Bw w w':=by
  have HR:=zAb hr;have HRB0:Hid (zAc (w.alloc (.cells z15 30)) w.heap.size 30 z15):=zAc.new _ _ _;clear hr;go_enter Tryz.func15,Tryz.ntmps15
  go_wp2_with fail
  go_loopw [6] (fun s6 wr=>∃(k:Nat),k≤3∧s6=I (k:Int)∧Hid (∀i,i<k→scB s i=false)∧Hid (zAc wr w.heap.size 30 z15)∧Hid (Bw w wr)) (fun s6 _=>3 - (intOf s6).toNat)
  case atStart=>exact⟨0,by omega,rfl,fun i hi=>absurd hi (by omega),HRB0,bA⟩
  case round=>
    obtain⟨k,hk,rfl,HN,HO,HB⟩:=hrel
    by_cases hk8:k<3
    · have hkI:(k:Int)<3:=by omega
      have hk0:(0:Int)≤(k:Int):=by omega
      have hrow:=(un HR k hk8).later (un HB) hg;have HNK:=zAb (fun (e:scB s k=false)=>zEw (un HN) e);have HYK:=zAb (fun (e:scB s k=true)=>(Or.inl ⟨k,hk8,Or.inl ⟨k,hk8,rfl,e,un HN⟩,rfl⟩:FindM s (.tuple #[.agg (rtM k),.bool true])));have HON:=zAb (rtM_ones k);have HSB:Hid (scB s k=((sct k).nm.toList == s.toList || (sct k).sy.toList == s.toList)):=rfl;unfold rtM at HYK HON
      unfold UR rtM at hrow
      generalize (sct k).nm=nm at *
      generalize (sct k).sy=sy at *
      generalize mfn k=fn at *
      generalize mfd k=fd at *
      generalize mon k=on at *
      generalize mod k=od at *
      have c0:wr.cell? ⟨g,k*15,none⟩=some (.string nm):=hrow 0 _ rfl;have c1:wr.cell? ⟨g,k*15+1,none⟩=some (.string sy):=hrow 1 _ rfl;have c2:wr.cell? ⟨g,k*15+2,none⟩=some (I 0):=hrow 2 _ rfl;have c3:wr.cell? ⟨g,k*15+3,none⟩=some (I 0):=hrow 3 _ rfl;have c4:wr.cell? ⟨g,k*15+4,none⟩=some (I 0):=hrow 4 _ rfl;have c5:wr.cell? ⟨g,k*15+5,none⟩=some (I 0):=hrow 5 _ rfl;have c6:wr.cell? ⟨g,k*15+6,none⟩=some (I 1):=hrow 6 _ rfl;have c7:wr.cell? ⟨g,k*15+7,none⟩=some (I 0):=hrow 7 _ rfl;have c8:wr.cell? ⟨g,k*15+8,none⟩=some (I 0):=hrow 8 _ rfl;have c9:wr.cell? ⟨g,k*15+9,none⟩=some (I 0):=hrow 9 _ rfl;have c10:wr.cell? ⟨g,k*15+10,none⟩=some (.string fn):=hrow 10 _ rfl;have c11:wr.cell? ⟨g,k*15+11,none⟩=some (.string fd):=hrow 11 _ rfl;have c12:wr.cell? ⟨g,k*15+12,none⟩=some (.string on):=hrow 12 _ rfl;have c13:wr.cell? ⟨g,k*15+13,none⟩=some (.string od):=hrow 13 _ rfl;have c14:wr.cell? ⟨g,k*15+14,none⟩=some (I 0):=hrow 14 _ rfl;clear hrow
      by_cases hB:scB s k=true
      · have HJ:=zAb (un HYK hB)
        have hor:(nm.toList == s.toList)=true∨((nm.toList == s.toList)=false∧(sy.toList == s.toList)=true):=by
          have h:=(un HSB).symm.trans hB
          cases h1:(nm.toList == s.toList)with
          | true=>exact Or.inl rfl
          | false=>rw[h1]at h;exact Or.inr ⟨rfl,by simpa using h⟩
        clear HNK HYK hB HSB HN;rcases hor with hn1|⟨hn1,hn2⟩
        all_goals
          go_wp2_with (refine zAn 30 15 zEd rfl (.tmp 4) (.tmp 32) rfl w.heap.size z15 #[.string nm,.string sy,I 0,I 0,I 0,I 0,I 1,I 0,I 0,I 0,.string fn,.string fd,.string on,.string od,I 0] rfl rfl rfl rfl (un HO) (un HON) ?_)
          exact bodyPost_ret (v:=.tuple #[.agg #[.string nm,.string sy,I 0,I 0,I 0,I 0,I 1,I 0,I 0,I 0,.string fn,.string fd,.string on,.string od,I 0],.bool true]) (zJn Tryz.results15 _ _ w.heap.size _ rfl rfl ((un HO).setRow _)) rfl ⟨_,rfl,un HJ,below_setRow (un HB) (Nat.le_refl _) _⟩
      · have hB':scB s k=false:=by simpa using hB
        have HJ:=zAb (un HNK hB')
        obtain⟨hn1,hn2⟩:(nm.toList == s.toList)=false∧(sy.toList == s.toList)=false:=by
          have h:=(un HSB).symm.trans hB'
          simpa using h
        clear HNK HYK hB hB' HSB HN
        go_wp2_with fail
        go_roundw
        case rel=>exact⟨k+1,by omega,by go_num,HJ,HO,HB⟩
        case measure=>simp[intOf];omega
    · have hkI:¬(k:Int)<3:=by omega
      go_wp2_with (refine zAn 30 15 zEd rfl (.tmp 4) (.tmp 33) rfl w.heap.size z15 z15 rfl rfl rfl rfl (un HO) (by kernel_rfl) ?_)
      exact bodyPost_ret (v:=.tuple #[.agg z15,.bool false]) (zJn Tryz.results15 _ _ w.heap.size _ rfl rfl ((un HO).setRow _)) rfl ⟨_,rfl,Or.inr ⟨Or.inr ⟨rfl,fun i hi=>un HN i (by omega)⟩,rfl⟩,below_setRow (un HB) (Nat.le_refl _) _⟩
def kelT:Array Value:=#[G #[107,101,108,118,105,110],G #[75],I 0,I 0,I 0,I 0,I 1,I 0,I 0,I 0,G #[49],G #[49],G #[48],G #[49],I 1]
def rtK (k:Nat):Array Value:=if k<3 then rtM k else kelT
def FindK (s:ByteArray) (v:Value):Prop :=
  (∃k:Nat,k<4∧zBc (scB s) (k:Int)∧v=.tuple #[.agg (rtK k),.bool true])∨(zBc (scB s) (-1)∧v=.tuple #[.agg z15,.bool false])
theorem none4 {p:Nat→Bool} {k:Nat} (h:∀i,i<k→p i=false) (h3:p 3=false) (hk:¬k<3):∀i,i<4→p i=false:=fun i hi=>by
  by_cases e:i<3
  · exact h i (by omega)
  · have:i=3:=by omega
    rw[this];exact h3
theorem rowBoxed {w W:World} {g:Nat} {us:Array Value} (ho:zAc W g 30 us) (hb:Below w.heap.size w W) (vs:Array Value):zAc ((W.alloc (.cells z15 30)).setRow W.heap.size vs) W.heap.size 30 vs∧zAc ((W.alloc (.cells z15 30)).setRow W.heap.size vs) g 30 us∧Bw w ((W.alloc (.cells z15 30)).setRow W.heap.size vs) :=
  ⟨(zAc.new _ _ _).setRow _,ho.later (below_setRow (zBx _ _) (Nat.le_refl _) _),below_setRow (hb.alloc hb.size _) hb.size _⟩
theorem list_eq {s:ByteArray} {l:List UInt8} (h:(s.toList == l)=true):s=⟨l.toArray⟩:=by
  have h':s.toList=l:=by simpa using h
  rw[Lib.toList_data]at h';exact zGb (by rw[h'])
theorem kel_first (s:ByteArray) (h:(s.toList == [107,101,108,118,105,110])=true∨(s.toList == [75])=true):zBc (scB s) (3:Nat):=by
  rcases h with h|h
  · rw[list_eq h];exact Or.inl ⟨3,by decide,rfl,by decide +kernel,fun i hi=>by rcases(by omega:i=0∨i=1∨i=2)with rfl|rfl|rfl<;>decide +kernel⟩
  · rw[list_eq h];exact Or.inl ⟨3,by decide,rfl,by decide +kernel,fun i hi=>by rcases(by omega:i=0∨i=1∨i=2)with rfl|rfl|rfl<;>decide +kernel⟩
theorem scB_kel (s:ByteArray) (f0:(s.toList == [107,101,108,118,105,110])=false) (f1:(s.toList == [75])=false):scB s 3=false:=by
  unfold scB zGj;show(_ || _)=false;rw[Bool.or_eq_false_iff];refine⟨?_,?_⟩
  · rw[beq_eq_false_iff_ne]at f0 ⊢;exact fun e=>f0 (by rw[←e];decide +kernel)
  · rw[beq_eq_false_iff_ne]at f1 ⊢;exact fun e=>f1 (by rw[←e];decide +kernel)
theorem refFindK (s:ByteArray) (w:World):Calls Tryz.prog 56 #[.string s] w fun r w'=>∃v,r=.returned v∧FindK s v∧Bw w w':=by
  obtain⟨V,hV⟩:∃V,V=w.alloc (.cells z15 30):=⟨_,rfl⟩;have HRB0:Hid (zAc V w.heap.size 30 z15):=by rw[hV];exact zAc.new _ _ _
  have HB0:Hid (Bw w V):=by rw[hV];exact bA
  have HV:=zAb hV;clear hV
  by_cases hkel:(s.toList == [107,101,108,118,105,110])=true∨(s.toList == [75])=true
  · have HOUT:Hid (FindK s (.tuple #[.agg kelT,.bool true])):=Or.inl ⟨3,by decide,kel_first s hkel,rfl⟩
    have hor:(s.toList == [107,101,108,118,105,110])=true∨((s.toList == [107,101,108,118,105,110])=false∧(s.toList == [75])=true):=by
      cases h:(s.toList == [107,101,108,118,105,110])with
      | true=>exact Or.inl rfl
      | false => rcases hkel with h'|h'
                 · rw[h]at h';cases h'
                 · exact Or.inr ⟨rfl,h'⟩
    clear hkel;rcases hor with h0|⟨h0,h1⟩
    all_goals
      go_enter Tryz.func56,Tryz.ntmps56
      go_upto_region 1 with fail
      rw[←un HV];clear HV
      go_wp2_with (first
        | (go_at_call 45;have hchk:=HR1;clear hchk;go_must(refine(rat45 _ _ _).mono ?_;rintro e W2 ⟨rfl,hb⟩;have HR2:=zAb ((un HR1).later hb);have HB2:Hid (Bw w W2):=bt HB1 hb;clear hb HR1 HB1))
        | (go_at_call 45;have hchk:=HRB0;clear hchk;go_must(refine(rat45 _ _ _).mono ?_;rintro e W1 ⟨rfl,hb⟩;have HR1:=zAb ((un HRB0).later hb);have HB1:Hid (Bw w W1):=bt HB0 hb;clear hb HRB0 HB0))
        | (refine zAn 30 15 zEd rfl (.tmp 2) (.tmp 15) rfl w.heap.size z15 kelT rfl rfl rfl rfl (un HR2) (by kernel_rfl) ?_))
      exact bodyPost_ret (v:=.tuple #[.agg kelT,.bool true]) (zJn Tryz.results56 _ _ w.heap.size _ rfl rfl ((un HR2).setRow _)) rfl ⟨_,rfl,un HOUT,below_setRow (un HB2) (Nat.le_refl _) _⟩
  · have f0 : (s.toList == [107,101,108,118,105,110])=false:=by cases h:(s.toList == [107,101,108,118,105,110])with|true=>exact absurd (Or.inl h) hkel|false=>rfl
    have f1:(s.toList == [75])=false:=by cases h:(s.toList == [75])with|true=>exact absurd (Or.inr h) hkel|false=>rfl
    have HK3:=zAb (scB_kel s f0 f1);clear hkel;go_enter Tryz.func56,Tryz.ntmps56
    go_upto_region 1 with fail
    rw[←un HV];clear HV
    go_upto_region 4 with (go_at_call 18;go_must(refine(refUnitsM _).mono ?_;rintro e W0 ⟨W,rfl,rfl,hb⟩;have HUW:=zAb (fun k hk=>uAllM_at W k hk);have HGW:Hid (W.heap.size<(W.alloc (.cells uAllM 30)).heap.size):=(by show _<_;simp);have HBW:Hid (Bw V (W.alloc (.cells uAllM 30))):=hb.alloc hb.size _;clear hb;obtain⟨gU,hgU⟩:∃gU,gU=W.heap.size:=⟨_,rfl⟩;obtain⟨V3,hV3⟩:∃V3,V3=W.alloc (.cells uAllM 30):=⟨_,rfl⟩;rw[←hV3,←hgU]at HUW HGW;rw[←hV3]at HBW;rw[←hV3,←hgU];clear hgU hV3))
    have HR3:=zAb ((un HRB0).later (un HBW));have HB3:Hid (Bw w V3):=(un HB0).trans ((un HBW).mono (un HB0).size);clear HRB0 HB0 HBW f0 f1
    go_loopw [18] (fun s18 wr=>∃(k:Nat),k≤3∧s18=I (k:Int)∧Hid (∀i,i<k→scB s i=false)∧Hid (zAc wr w.heap.size 30 z15)∧Hid (Bw w wr)∧Hid (Bw V3 wr)) (fun s18 _=>3 - (intOf s18).toNat)
    case atStart=>exact⟨0,by omega,rfl,fun i hi=>absurd hi (by omega),HR3,HB3,Below.refl _ _⟩
    case round=>
      obtain⟨k,hk,rfl,HN,HO,HB,HB4⟩:=hrel
      by_cases hk8:k<3
      · have hkI:(k:Int)<3:=by omega
        have hk0:(0:Int)≤(k:Int):=by omega
        have hrow:=(un HUW k hk8).later (un HB4) (un HGW);have HNK:=zAb (fun (e:scB s k=false)=>zEw (un HN) e);have HYK:=zAb (fun (e:scB s k=true)=>(Or.inl ⟨k,by omega,Or.inl ⟨k,by omega,rfl,e,un HN⟩,by unfold rtK;rw[if_pos hk8]⟩:FindK s (.tuple #[.agg (rtM k),.bool true])));have HON:=zAb (rtM_ones k);have HSB:Hid (scB s k=((sct k).nm.toList == s.toList || (sct k).sy.toList == s.toList)):=rfl;unfold rtM at HYK HON
        unfold UR rtM at hrow
        generalize (sct k).nm=nm at *
        generalize (sct k).sy=sy at *
        generalize mfn k=fn at *
        generalize mfd k=fd at *
        generalize mon k=on at *
        generalize mod k=od at *
        have c0:wr.cell? ⟨gU,k*15,none⟩=some (.string nm):=hrow 0 _ rfl;have c1:wr.cell? ⟨gU,k*15+1,none⟩=some (.string sy):=hrow 1 _ rfl;have c2:wr.cell? ⟨gU,k*15+2,none⟩=some (I 0):=hrow 2 _ rfl;have c3:wr.cell? ⟨gU,k*15+3,none⟩=some (I 0):=hrow 3 _ rfl;have c4:wr.cell? ⟨gU,k*15+4,none⟩=some (I 0):=hrow 4 _ rfl;have c5:wr.cell? ⟨gU,k*15+5,none⟩=some (I 0):=hrow 5 _ rfl;have c6:wr.cell? ⟨gU,k*15+6,none⟩=some (I 1):=hrow 6 _ rfl;have c7:wr.cell? ⟨gU,k*15+7,none⟩=some (I 0):=hrow 7 _ rfl;have c8:wr.cell? ⟨gU,k*15+8,none⟩=some (I 0):=hrow 8 _ rfl;have c9:wr.cell? ⟨gU,k*15+9,none⟩=some (I 0):=hrow 9 _ rfl;have c10:wr.cell? ⟨gU,k*15+10,none⟩=some (.string fn):=hrow 10 _ rfl;have c11:wr.cell? ⟨gU,k*15+11,none⟩=some (.string fd):=hrow 11 _ rfl;have c12:wr.cell? ⟨gU,k*15+12,none⟩=some (.string on):=hrow 12 _ rfl;have c13:wr.cell? ⟨gU,k*15+13,none⟩=some (.string od):=hrow 13 _ rfl;have c14:wr.cell? ⟨gU,k*15+14,none⟩=some (I 0):=hrow 14 _ rfl;clear hrow
        by_cases hB:scB s k=true
        · have HJ:=zAb (un HYK hB)
          have hor:(nm.toList == s.toList)=true∨((nm.toList == s.toList)=false∧(sy.toList == s.toList)=true):=by
            have h:=(un HSB).symm.trans hB
            cases h1:(nm.toList == s.toList)with
            | true=>exact Or.inl rfl
            | false=>rw[h1]at h;exact Or.inr ⟨rfl,by simpa using h⟩
          clear HNK HYK hB HSB HN
          go_upto_region 6 with (refine zAn 30 15 zEd rfl (.tmp 5) (.tmp 21) rfl wr.heap.size z15 #[.string nm,.string sy,I 0,I 0,I 0,I 0,I 1,I 0,I 0,I 0,.string fn,.string fd,.string on,.string od,I 0] rfl rfl rfl rfl (zAc.new _ _ _) (by kernel_rfl) ?_)
          have HX:Hid (zAc ((wr.alloc (.cells z15 30)).setRow wr.heap.size #[.string nm,.string sy,I 0,I 0,I 0,I 0,I 1,I 0,I 0,I 0,.string fn,.string fd,.string on,.string od,I 0]) wr.heap.size 30 #[.string nm,.string sy,I 0,I 0,I 0,I 0,I 1,I 0,I 0,I 0,.string fn,.string fd,.string on,.string od,I 0]∧zAc ((wr.alloc (.cells z15 30)).setRow wr.heap.size #[.string nm,.string sy,I 0,I 0,I 0,I 0,I 1,I 0,I 0,I 0,.string fn,.string fd,.string on,.string od,I 0]) w.heap.size 30 z15∧Bw w ((wr.alloc (.cells z15 30)).setRow wr.heap.size #[.string nm,.string sy,I 0,I 0,I 0,I 0,I 1,I 0,I 0,I 0,.string fn,.string fd,.string on,.string od,I 0])):=rowBoxed (un HO) (un HB) _;generalize (wr.alloc (.cells z15 30)).setRow wr.heap.size #[.string nm,.string sy,I 0,I 0,I 0,I 0,I 1,I 0,I 0,I 0,.string fn,.string fd,.string on,.string od,I 0]=X at *
          generalize wr.heap.size=gx at *
          clear HO HB HB4 c0 c1 c2 c3 c4 c5 c6 c7 c8 c9 c10 c11 c12 c13 c14;have x0:X.cell? ⟨gx,0,none⟩=some (.string nm):=(un HX).1.ub.c 0 _ rfl;have x1:X.cell? ⟨gx,1,none⟩=some (.string sy):=(un HX).1.ub.c 1 _ rfl;rcases hor with hn1|⟨hn1,hn2⟩
          all_goals
            go_wp2_with (first
              | (refine wpList_load_row rfl 30 (.tmp 5) rfl gx rfl 30 #[.string nm,.string sy,I 0,I 0,I 0,I 0,I 1,I 0,I 0,I 0,.string fn,.string fd,.string on,.string od,I 0] (0,0) _ (un HX).1 Tryz.underlying30 rfl (by kernel_rfl) ?_)
              | (refine zAn 30 15 zEd rfl (.tmp 2) (.tmp 32) rfl w.heap.size z15 #[.string nm,.string sy,I 0,I 0,I 0,I 0,I 1,I 0,I 0,I 0,.string fn,.string fd,.string on,.string od,I 0] rfl rfl rfl rfl (un HX).2.1 (un HON) ?_))
            exact bodyPost_ret (v:=.tuple #[.agg #[.string nm,.string sy,I 0,I 0,I 0,I 0,I 1,I 0,I 0,I 0,.string fn,.string fd,.string on,.string od,I 0],.bool true]) (zJn Tryz.results56 _ _ w.heap.size _ rfl rfl ((un HX).2.1.setRow _)) rfl ⟨_,rfl,un HJ,below_setRow (un HX).2.2 (Nat.le_refl _) _⟩
        · have hB':scB s k=false:=by simpa using hB
          have HJ:=zAb (un HNK hB')
          obtain⟨hn1,hn2⟩:(nm.toList == s.toList)=false∧(sy.toList == s.toList)=false:=by
            have h:=(un HSB).symm.trans hB'
            simpa using h
          clear HNK HYK hB hB' HSB HN
          go_upto_region 6 with (refine zAn 30 15 zEd rfl (.tmp 5) (.tmp 21) rfl wr.heap.size z15 #[.string nm,.string sy,I 0,I 0,I 0,I 0,I 1,I 0,I 0,I 0,.string fn,.string fd,.string on,.string od,I 0] rfl rfl rfl rfl (zAc.new _ _ _) (by kernel_rfl) ?_)
          have HX:Hid (zAc ((wr.alloc (.cells z15 30)).setRow wr.heap.size #[.string nm,.string sy,I 0,I 0,I 0,I 0,I 1,I 0,I 0,I 0,.string fn,.string fd,.string on,.string od,I 0]) wr.heap.size 30 #[.string nm,.string sy,I 0,I 0,I 0,I 0,I 1,I 0,I 0,I 0,.string fn,.string fd,.string on,.string od,I 0]∧zAc ((wr.alloc (.cells z15 30)).setRow wr.heap.size #[.string nm,.string sy,I 0,I 0,I 0,I 0,I 1,I 0,I 0,I 0,.string fn,.string fd,.string on,.string od,I 0]) w.heap.size 30 z15∧Bw w ((wr.alloc (.cells z15 30)).setRow wr.heap.size #[.string nm,.string sy,I 0,I 0,I 0,I 0,I 1,I 0,I 0,I 0,.string fn,.string fd,.string on,.string od,I 0])):=rowBoxed (un HO) (un HB) _;have HY:Hid (Bw V3 ((wr.alloc (.cells z15 30)).setRow wr.heap.size #[.string nm,.string sy,I 0,I 0,I 0,I 0,I 1,I 0,I 0,I 0,.string fn,.string fd,.string on,.string od,I 0])):=below_setRow ((un HB4).alloc (un HB4).size _) (un HB4).size _;generalize (wr.alloc (.cells z15 30)).setRow wr.heap.size #[.string nm,.string sy,I 0,I 0,I 0,I 0,I 1,I 0,I 0,I 0,.string fn,.string fd,.string on,.string od,I 0]=X at *
          generalize wr.heap.size=gx at *
          clear HO HB HB4 c0 c1 c2 c3 c4 c5 c6 c7 c8 c9 c10 c11 c12 c13 c14;have x0:X.cell? ⟨gx,0,none⟩=some (.string nm):=(un HX).1.ub.c 0 _ rfl;have x1:X.cell? ⟨gx,1,none⟩=some (.string sy):=(un HX).1.ub.c 1 _ rfl
          go_wp2_with fail
          go_roundw
          case rel=>exact⟨k+1,by omega,by go_num,HJ,(un HX).2.1,(un HX).2.2,un HY⟩
          case measure=>simp[intOf];omega
      · have hkI:¬(k:Int)<3:=by omega
        go_wp2_with (refine zAn 30 15 zEd rfl (.tmp 2) (.tmp 34) rfl w.heap.size z15 z15 rfl rfl rfl rfl (un HO) (by kernel_rfl) ?_)
        exact bodyPost_ret (v:=.tuple #[.agg z15,.bool false]) (zJn Tryz.results56 _ _ w.heap.size _ rfl rfl ((un HO).setRow _)) rfl ⟨_,rfl,Or.inr ⟨Or.inr ⟨rfl,fun i hi=>none4 (un HN) (un HK3) hk8 i hi⟩,rfl⟩,below_setRow (un HB) (Nat.le_refl _) _⟩
end Go.Proofs.YtliadckofhblnaaGreatDoor.Tm

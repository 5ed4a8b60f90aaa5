/- The base units as they are made: their amounts. -/
import Derived.OrdersHeld
import Derived.Deep.RegionHeld3
import Derived.Test.YtamoadanapmmeaaGreatDoorProg
import Derived.Test.YtamoadanapmmeaaGreatDoorLimb3
import Derived.Test.YtamoadanapmmeaaGreatDoorAmount
namespace Go.Proofs.YtamoadanapmmeaaGreatDoor
section
variable {P:Program} {ops:Array Oper} {Q:Exit→Act→World→Prop} {md:Region.Mode} {S S7:World→Prop} {k:Nat}
def Inv (k:Nat) (S S7:World→Prop) (l:Array Bool) (w:World):Prop:=(l.getD k false=false→S w)∧S7 w
def wpR (P:Program) (md:Region.Mode) (ops:Array Oper) (Q:Exit→Act→World→Prop) (k:Nat) (S S7:World→Prop):Nat→Array Bool→Act→World→Prop
  | 0,l,a,w=>Region.ready md ops l=[]∧Q .normal a w
  | n+1,l,a,w=>(Region.ready md ops l=[]→Q .normal a w)∧∀ j∈Region.ready md ops l,wpOp P ops Q j (fun a' w'=>Inv k S S7 (l.setIfInBounds j true) w'∧wpR P md ops Q k S S7 n (l.setIfInBounds j true) a' w') a w
theorem wpR_any:∀ (n:Nat) (l:Array Bool) (a:Act) (w:World),wpR P md ops Q k S S7 n l a w→wpAny P md ops Q n l a w
  | 0,_,_,_,h=>h
  | n+1,_,_,_,h=>⟨h.1,fun j hj=>wpOp_mono (fun a' w' h'=>wpR_any n _ a' w' h'.2) (h.2 j hj)⟩
def Closed (md:Region.Mode) (ops:Array Oper) (l:Array Bool):Prop:=∀ (j:Nat) (o:Oper),ops[j]?=some o→l.getD j false=true→∀ e∈o.after,Region.binds md e=true→l.getD e.on false=true
theorem Closed.step {l:Array Bool} {j:Nat} (h:Closed md ops l) (hj:j∈Region.ready md ops l):Closed md ops (l.setIfInBounds j true):=by
  obtain ⟨_,o,ho,hall⟩:=mem_ready.1 hj
  intro q oq hq hl e he hb
  rcases Decidable.em (j=q) with rfl|hne
  · obtain rfl:o=oq:=Option.some.inj (ho.symm.trans hq)
    exact getD_set_true (hall e he hb)
  · rw[getD_set_ne false hne] at hl
    exact getD_set_true (h q oq hq hl e he hb)
def closedB (md:Region.Mode) (ops:Array Oper) (l:Array Bool):Bool :=
  (List.range ops.size).all fun j=>!l.getD j false || match ops[j]? with
    | some o=>o.after.all fun e=>!Region.binds md e || l.getD e.on false
    | none=>true
theorem closed_of {l:Array Bool} (h:closedB md ops l=true):Closed md ops l:=by
  intro j o ho hl e he hb
  unfold closedB at h
  have h1:=List.all_eq_true.1 h j (List.mem_range.2 (Array.getElem?_eq_some_iff.1 ho).1)
  simp only[ho,hl,Bool.not_true,Bool.false_or] at h1
  have h2:=Array.all_eq_true_iff_forall_mem.1 h1 e he
  simpa [hb] using h2
def waits (md:Region.Mode) (ops:Array Oper) (k i:Nat):Bool:=match ops[k]? with
  | some o=>o.after.any fun e=>Region.binds md e && e.on == i
  | none=>true
theorem unlisted {l:Array Bool} {i:Nat} {b:Bool} (h:l.getD i true=false) (h1:l.getD i b=true):False:=by
  rcases Nat.lt_or_ge i l.size with h2|h2
  · simp[h2] at h h1;rw[h] at h1;cases h1
  · simp[Array.getElem?_eq_none h2] at h
theorem not_yet {i:Nat} {l:Array Bool} (hc:Closed md ops l) (hz:l.size=ops.size) (hw:waits md ops k i=true) (hi:l.getD i true=false):l.getD k false=false:=by
  cases hl:l.getD k false with
  | false=>rfl
  | true=>
    exfalso
    unfold waits at hw
    cases ho:ops[k]? with
    | none=>
      have:ops.size≤k:=Array.getElem?_eq_none_iff.1 ho
      have h2:l[k]?=none:=Array.getElem?_eq_none (by omega)
      simp[h2] at hl
    | some o=>
      simp only[ho] at hw
      obtain ⟨e,he,h2⟩:=Array.any_eq_true'.1 hw
      simp only[Bool.and_eq_true,beq_iff_eq] at h2
      have h3:=hc k o ho hl e he h2.1
      rw[h2.2] at h3
      exact unlisted hi h3
theorem Inv.set {l:Array Bool} {w:World} {i:Nat} (h:Inv k S S7 l w) (hne:i≠k):Inv k S S7 (l.setIfInBounds i true) w:=⟨fun h0=>h.1 (by rwa [getD_set_ne false hne] at h0),h.2⟩
theorem wpR_first {i:Nat} {oi:Oper} {v:Value} {T:World→Prop} (hi:ops[i]?=some oi) (hs:Region.noSelect ops=true) (hik:i≠k)
    (hT:∀ (l:Array Bool) (w:World),Closed md ops l→l.size=ops.size→l.getD i true=false→Inv k S S7 l w→T w)
    (hQ:∀ c a w,Q (.panic c) (a.put oi.dst v) w→Q (.panic c) a w) (n:Nat) :
    ∀ (l:Array Bool) (a:Act) (w:World),Closed md ops l→l.size=ops.size→(∀ j oj,ops[j]?=some oj→j≠i→l.getD j true=false→(∀ e∈oj.after,Region.binds md e=true→e.on≠i)→oi.apart ops oj=true)→
      i∈Region.ready md ops l→YieldsIf P ops T oi v a→Inv k S S7 l w→wpR P md ops Q k S S7 n (l.setIfInBounds i true) (a.put oi.dst v) w→wpR P md ops Q k S S7 (n+1) l a w:=by
  have hsel:=Region.noSelect_spec hs
  induction n with
  | zero=>
    intro l a w hc hz _ hr hy hS H
    refine ⟨fun h=>absurd hr (by rw[h];simp),fun j hj=>?_⟩
    rcases Decidable.em (j=i) with rfl|hne
    · exact hy.wpOp hi (hT l w hc hz (mem_ready.1 hr).1 hS) ⟨hS.set hik,H⟩
    · have:=ready_mono hj hne
      rw[H.1] at this
      exact absurd this (by simp)
  | succ n ih=>
    intro l a w hc hz hfree hr hy hS H
    refine ⟨fun h=>absurd hr (by rw[h];simp),fun j hj=>?_⟩
    have hiu:=(mem_ready.1 hr).1
    rcases Decidable.em (j=i) with rfl|hne
    · exact hy.wpOp hi (hT l w hc hz hiu hS) ⟨hS.set hik,H⟩
    · obtain ⟨hju,oj,hoj,hall⟩:=mem_ready.1 hj
      have hno:∀ e∈oj.after,Region.binds md e=true→e.on≠i:=fun e he hb heq=>by
        have h1:=hall e he hb
        rw[heq] at h1
        exact unlisted hiu h1
      have h2:=wpOp_putIf hoj (hfree j oj hoj hne hju hno) (fun cs b=>hsel i oi cs b hi) (fun cs b=>hsel j oj cs b hoj) hQ hy (H.2 j (ready_mono hj hne))
      refine wpOp_mono (fun a' w' q=>?_) h2
      obtain ⟨q1,q2,q3⟩:=q
      rw[Array.setIfInBounds_comm _ _ (Ne.symm hne)] at q2 q3
      have hI:Inv k S S7 (l.setIfInBounds j true) w':=⟨fun h0=>q2.1 (by rwa [getD_set_ne false hik]),q2.2⟩
      refine ⟨hI,ih (l.setIfInBounds j true) a' w' (hc.step hj) (by rw[Array.size_setIfInBounds];exact hz) (fun q oq hq hqi hun hn=>hfree q oq hq hqi ?_ hn) (ready_mono hr (Ne.symm hne)) q1 hI q3⟩
      rcases Decidable.em (j=q) with rfl|hjq
      · exact hju
      · rwa [getD_set_ne true hjq] at hun
theorem wpR_take {i:Nat} {oi:Oper} {v:Value} {n:Nat} {l:Array Bool} {a:Act} {w:World} (hi:ops[i]?=some oi)
    (hs:Region.noSelect ops=true) (hw:(waits md ops k i && closedB md ops l && (l.size == ops.size) && (i != k))=true) (hf:Region.free md ops l i=true) (hr:(Region.ready md ops l).contains i=true)
    (hQ:∀ c a w,Q (.panic c) (a.put oi.dst v) w→Q (.panic c) a w) (hy:YieldsIf P ops S oi v a) (hS:S w∧S7 w)
    (h:wpR P md ops Q k S S7 n (l.setIfInBounds i true) (a.put oi.dst v) w):wpR P md ops Q k S S7 (n+1) l a w:=by
  simp only[Bool.and_eq_true,beq_iff_eq,bne_iff_ne,ne_eq] at hw
  obtain ⟨⟨⟨w1,w2⟩,w3⟩,w4⟩:=hw
  exact wpR_first hi hs w4 (fun l' w' hc hz hu hI=>hI.1 (not_yet hc hz w1 hu)) hQ n l a w (closed_of w2) w3 (Region.free_spec hi hf) (by simpa using hr) hy ⟨fun _=>hS.1,hS.2⟩ h
theorem wpR_take7 {i:Nat} {oi:Oper} {v:Value} {n:Nat} {l:Array Bool} {a:Act} {w:World} (hi:ops[i]?=some oi)
    (hs:Region.noSelect ops=true) (hw:(closedB md ops l && (l.size == ops.size) && (i != k))=true) (hf:Region.free md ops l i=true) (hr:(Region.ready md ops l).contains i=true)
    (hQ:∀ c a w,Q (.panic c) (a.put oi.dst v) w→Q (.panic c) a w) (hy:YieldsIf P ops S7 oi v a) (hS:S w∧S7 w)
    (h:wpR P md ops Q k S S7 n (l.setIfInBounds i true) (a.put oi.dst v) w):wpR P md ops Q k S S7 (n+1) l a w:=by
  simp only[Bool.and_eq_true,beq_iff_eq,bne_iff_ne,ne_eq] at hw
  obtain ⟨⟨w2,w3⟩,w4⟩:=hw
  exact wpR_first hi hs w4 (fun l' w' hc hz hu hI=>hI.2) hQ n l a w (closed_of w2) w3 (Region.free_spec hi hf) (by simpa using hr) hy ⟨fun _=>hS.1,hS.2⟩ h
theorem wpR_op {i:Nat} {o:Oper} {n:Nat} {l:Array Bool} {a:Act} {w:World} (hr:Region.ready md ops l=[i]) (ho:ops[i]?=some o) (hg:o.guard=none)
    (h:∀ K:Act→World→Prop,(∀ a' w',S w'∧S7 w'→wpR P md ops Q k S S7 n (l.setIfInBounds i true) a' w'→K a' w')→Oper.wp P o a w K Q):wpR P md ops Q k S S7 (n+1) l a w:=by
  refine ⟨fun h0=>absurd h0 (by rw[hr];simp),fun j hj=>?_⟩
  rw[hr] at hj
  obtain rfl:=List.mem_singleton.1 hj
  unfold wpOp
  simp only[ho]
  have hw:Region.wanted o (yielded ops a.tmps)=true:=by simp[Region.wanted,hg]
  rw[if_pos hw]
  exact Or.inl (h _ fun a' w' h1 h2=>⟨⟨fun _=>h1.1,h1.2⟩,h2⟩)
theorem wpR_late {i:Nat} {o:Oper} {n:Nat} {l:Array Bool} {a:Act} {w:World} (hr:Region.ready md ops l=[i]) (ho:ops[i]?=some o) (hg:o.guard=none) (hl:(l.setIfInBounds i true).getD k false=true)
    (h:∀ K:Act→World→Prop,(∀ a' w',S7 w'→wpR P md ops Q k S S7 n (l.setIfInBounds i true) a' w'→K a' w')→Oper.wp P o a w K Q):wpR P md ops Q k S S7 (n+1) l a w:=by
  refine ⟨fun h0=>absurd h0 (by rw[hr];simp),fun j hj=>?_⟩
  rw[hr] at hj
  obtain rfl:=List.mem_singleton.1 hj
  unfold wpOp
  simp only[ho]
  have hw:Region.wanted o (yielded ops a.tmps)=true:=by simp[Region.wanted,hg]
  rw[if_pos hw]
  exact Or.inl (h _ fun a' w' h1 h2=>⟨⟨fun h0=>(by rw[hl] at h0;cases h0),h1⟩,h2⟩)
theorem wpR_done {n:Nat} {l:Array Bool} {a:Act} {w:World} (hr:Region.ready md ops l=[]) (h:Q .normal a w):wpR P md ops Q k S S7 n l a w:=by
  cases n with
  | zero=>exact ⟨hr,h⟩
  | succ n=>exact ⟨fun _=>h,by rw[hr];simp⟩
theorem region_reads {id:Nat} {a:Act} {w:World} (k:Nat) (S S7:World→Prop) (n:Nat) (hn:ops.size=n) (hm:P.follows .mixedOrders=true)
    (h:wpR P .any ops Q k S S7 n (Array.replicate n false) a w.drew):(Code.region id ops true).wp P Q a w:=by
  subst hn
  exact wp_region_any hm (wpR_any _ _ _ _ h)
end
end Go.Proofs.YtamoadanapmmeaaGreatDoor

namespace Go.Proofs.YtamoadanapmmeaaGreatDoor
open Go.RowKit
def X2 (l:List Int) (i j:Nat):Int:=l.getD (i*8+j) 0
theorem dims_new (W:World) (a0 a1 a2 a3 a4 a5 a6 a7 b0 b1 b2 b3 b4 b5 b6 b7:Int):Dm.Dims (W.alloc (.cells #[I a0,I a1,I a2,I a3,I a4,I a5,I a6,I a7,I b0,I b1,I b2,I b3,I b4,I b5,I b6,I b7] 26)) W.heap.size 0 2 (X2 [a0,a1,a2,a3,a4,a5,a6,a7,b0,b1,b2,b3,b4,b5,b6,b7]):=by
  refine ⟨by simp,fun i hi j hj=>?_⟩
  have h:=(OwnU.new W #[I a0,I a1,I a2,I a3,I a4,I a5,I a6,I a7,I b0,I b1,I b2,I b3,I b4,I b5,I b6,I b7] 26).ub.c (0+i*8+j)
  refine h _ ?_
  rcases (by omega:i=0∨i=1) with rfl|rfl<;>rcases (by omega:j=0∨j=1∨j=2∨j=3∨j=4∨j=5∨j=6∨j=7) with rfl|rfl|rfl|rfl|rfl|rfl|rfl|rfl<;>rfl
def mulL (l:List Int):List Int:=[Dm.sel (Dm.allB (X2 l) 2 && Dm.rightB (Dm.sumL (X2 l) 2)) (Dm.sumD (X2 l) 2 0),Dm.sel (Dm.allB (X2 l) 2 && Dm.rightB (Dm.sumL (X2 l) 2)) (Dm.sumD (X2 l) 2 1),Dm.sel (Dm.allB (X2 l) 2 && Dm.rightB (Dm.sumL (X2 l) 2)) (Dm.sumD (X2 l) 2 2),Dm.sel (Dm.allB (X2 l) 2 && Dm.rightB (Dm.sumL (X2 l) 2)) (Dm.sumD (X2 l) 2 3),Dm.sel (Dm.allB (X2 l) 2 && Dm.rightB (Dm.sumL (X2 l) 2)) (Dm.sumD (X2 l) 2 4),Dm.sel (Dm.allB (X2 l) 2 && Dm.rightB (Dm.sumL (X2 l) 2)) (Dm.sumD (X2 l) 2 5),Dm.sel (Dm.allB (X2 l) 2 && Dm.rightB (Dm.sumL (X2 l) 2)) (Dm.sumD (X2 l) 2 6),Dm.sel (Dm.allB (X2 l) 2 && Dm.rightB (Dm.sumL (X2 l) 2)) (Dm.sumD (X2 l) 2 7)]
def quoL (a b q:List Int):List Int:=q.map (Dm.sel (Dm.quoOk (Dm.rightB a) (Dm.rightB b) q))
theorem times_of (a0 a1 a2 a3 a4 a5 a6 a7 an ad b0 b1 b2 b3 b4 b5 b6 b7 bn bd c0 c1 c2 c3 c4 c5 c6 c7 p q:Int) (w:World) (h:mulL [a0,a1,a2,a3,a4,a5,a6,a7,b0,b1,b2,b3,b4,b5,b6,b7]=[c0,c1,c2,c3,c4,c5,c6,c7]) (hp:wrap64 (an*bn)=p) (hq:wrap64 (ad*bd)=q) :
    Calls Tryz.prog 263 #[.agg #[I a0,I a1,I a2,I a3,I a4,I a5,I a6,I a7,I an,I ad],.agg #[I b0,I b1,I b2,I b3,I b4,I b5,I b6,I b7,I bn,I bd]] w fun r w'=>r=.returned (.agg #[I c0,I c1,I c2,I c3,I c4,I c5,I c6,I c7,I p,I q])∧Below w.heap.size w w':=by
  subst hp hq
  unfold mulL at h
  simp only[List.cons.injEq,and_true] at h
  obtain ⟨rfl,rfl,rfl,rfl,rfl,rfl,rfl,rfl⟩:=h
  exact amTimes_any a0 a1 a2 a3 a4 a5 a6 a7 an ad b0 b1 b2 b3 b4 b5 b6 b7 bn bd _ _ _ _ _ _ _ _ _ w (fun W=>Dm.mul_any W.heap.size 0 2 2 (X2 [a0,a1,a2,a3,a4,a5,a6,a7,b0,b1,b2,b3,b4,b5,b6,b7]) _ (by decide) (dims_new W a0 a1 a2 a3 a4 a5 a6 a7 b0 b1 b2 b3 b4 b5 b6 b7))
theorem by_of (a0 a1 a2 a3 a4 a5 a6 a7 an ad b0 b1 b2 b3 b4 b5 b6 b7 bn bd c0 c1 c2 c3 c4 c5 c6 c7 p q:Int) (w:World) (h:quoL [a0,a1,a2,a3,a4,a5,a6,a7] [b0,b1,b2,b3,b4,b5,b6,b7] [wrap64 (a0 - b0),wrap64 (a1 - b1),wrap64 (a2 - b2),wrap64 (a3 - b3),wrap64 (a4 - b4),wrap64 (a5 - b5),wrap64 (a6 - b6),wrap64 (a7 - b7)]=[c0,c1,c2,c3,c4,c5,c6,c7]) (hp:wrap64 (an*bd)=p) (hq:wrap64 (ad*bn)=q) :
    Calls Tryz.prog 262 #[.agg #[I a0,I a1,I a2,I a3,I a4,I a5,I a6,I a7,I an,I ad],.agg #[I b0,I b1,I b2,I b3,I b4,I b5,I b6,I b7,I bn,I bd]] w fun r w'=>r=.returned (.agg #[I c0,I c1,I c2,I c3,I c4,I c5,I c6,I c7,I p,I q])∧Below w.heap.size w w':=by
  subst hp hq
  unfold quoL at h
  simp only[List.map_cons,List.map_nil,List.cons.injEq,and_true] at h
  obtain ⟨rfl,rfl,rfl,rfl,rfl,rfl,rfl,rfl⟩:=h
  exact amBy_any a0 a1 a2 a3 a4 a5 a6 a7 an ad b0 b1 b2 b3 b4 b5 b6 b7 bn bd _ _ _ _ _ _ _ _ _ w (fun W=>Dm.quo_any a0 a1 a2 a3 a4 a5 a6 a7 b0 b1 b2 b3 b4 b5 b6 b7 W)
theorem OwnU.set {W:World} {g ty:Nat} {vs:Array Value} (h:OwnU W g ty vs) (i:Nat) (v:Value):OwnU (W.setCell ⟨g,i,none⟩ v) g ty (vs.setIfInBounds i v):=by
  unfold OwnU at h ⊢
  simp only[World.setCell,Array.getElem?_modify,h,Option.map_some]
  simp
theorem OwnU.otherSet {W:World} {g k ty:Nat} {vs:Array Value} (h:OwnU W g ty vs) (hk:¬ g=k) (o:Nat) (v:Value):OwnU (W.setCell ⟨k,o,none⟩ v) g ty vs:=(Below.heap_setCell W ⟨k,o,none⟩ v g hk).trans h
theorem OwnU.past {W V:World} {vs:Array Value} {ty:Nat} (h:Below (W.alloc (.cells vs ty)).heap.size (W.alloc (.cells vs ty)) V):OwnU V W.heap.size ty vs:=(OwnU.new W vs ty).later h
theorem OwnU.pastD {W V:World} {vs:Array Value} {ty:Nat} (h:Below (W.alloc (.cells vs ty)).drew.heap.size (W.alloc (.cells vs ty)).drew V):OwnU V W.heap.size ty vs:=((OwnU.new W vs ty).later (Below.refl _ _).drew).later h
theorem bel_al {U W V:World} {O:Obj} (h:Below U.heap.size U W) (hb:Below (W.alloc O).heap.size (W.alloc O) V):Below U.heap.size U V :=
  (h.alloc h.size O).trans (hb.mono (h.alloc h.size O).size)
theorem bel_alD {W V:World} {O:Obj} (hb:Below (W.alloc O).drew.heap.size (W.alloc O).drew V):Below W.heap.size W V :=
  have h0:=(Below.refl W.heap.size W).alloc (Nat.le_refl _) O
  have h:Below W.heap.size W (W.alloc O).drew:=h0.trans ((Below.refl _ _).drew.mono h0.size)
  h.trans (hb.mono h.size)
set_option maxRecDepth 100000 in
set_option maxHeartbeats 4000000 in
theorem bit_made (w:World):Calls Tryz.prog 218 #[] w fun r w'=>r=.returned (.agg #[I 0,I 0,I 0,I 0,I 0,I 0,I 0,I 1,I 1,I 1])∧Below w.heap.size w w':=by
  obtain ⟨V,hV⟩:∃ V,V=w.alloc (.cells #[I 0,I 0,I 0,I 0,I 0,I 0,I 0,I 0,I 0,I 0] 235):=⟨_,rfl⟩
  have HR:Hid (OwnU V w.heap.size 235 #[I 0,I 0,I 0,I 0,I 0,I 0,I 0,I 0,I 0,I 0]):=by rw[hV];exact OwnU.new _ _ _
  have HB:Hid (Below w.heap.size w V):=by rw[hV];exact (Below.refl _ _).alloc (Nat.le_refl _) _
  have HV:=hide hV
  clear hV
  go_enter Tryz.func218,Tryz.ntmps218
  go_upto_region 1 with fail
  rw[← un HV]
  clear HV
  go_wp2_with fail
  refine (fixed_any 0 0 0 0 0 0 0 1 _).mono ?_
  rintro e W ⟨rfl,hb⟩
  have HR1:=hide ((un HR).later hb);have HB1:=hide ((un HB).trans (hb.mono (un HB).size))
  clear HR HB hb
  have HR:=HR1;have HB:=HB1
  clear HR1 HB1
  go_wp2_with (refine storeT 235 10 info43 rfl (.tmp 0) (.tmp 2) rfl w.heap.size #[I 0,I 0,I 0,I 0,I 0,I 0,I 0,I 0,I 0,I 0] #[I 0,I 0,I 0,I 0,I 0,I 0,I 0,I 1,I 1,I 1] rfl rfl rfl rfl (un HR) (by kernel_rfl) ?_)
  exact bodyPost_ret (v:=.agg #[I 0,I 0,I 0,I 0,I 0,I 0,I 0,I 1,I 1,I 1]) (res43 Tryz.results218 _ _ w.heap.size _ rfl rfl ((un HR).setRow _)) rfl ⟨rfl,below_setRow (un HB) (Nat.le_refl _) _⟩
set_option maxRecDepth 100000 in
set_option maxHeartbeats 4000000 in
theorem mole_made (w:World):Calls Tryz.prog 219 #[] w fun r w'=>r=.returned (.agg #[I 0,I 0,I 0,I 0,I 0,I 1,I 0,I 0,I 1,I 1])∧Below w.heap.size w w':=by
  obtain ⟨V,hV⟩:∃ V,V=w.alloc (.cells #[I 0,I 0,I 0,I 0,I 0,I 0,I 0,I 0,I 0,I 0] 235):=⟨_,rfl⟩
  have HR:Hid (OwnU V w.heap.size 235 #[I 0,I 0,I 0,I 0,I 0,I 0,I 0,I 0,I 0,I 0]):=by rw[hV];exact OwnU.new _ _ _
  have HB:Hid (Below w.heap.size w V):=by rw[hV];exact (Below.refl _ _).alloc (Nat.le_refl _) _
  have HV:=hide hV
  clear hV
  go_enter Tryz.func219,Tryz.ntmps219
  go_upto_region 1 with fail
  rw[← un HV]
  clear HV
  go_wp2_with fail
  refine (number_any 1 _).mono ?_
  rintro e W ⟨rfl,hb⟩
  have HR1:=hide ((un HR).later hb);have HB1:=hide ((un HB).trans (hb.mono (un HB).size))
  clear HR HB hb
  have HR:=HR1;have HB:=HB1
  clear HR1 HB1
  go_wp2_with fail
  refine (fixed_any 0 0 0 0 0 (-1) 0 0 _).mono ?_
  rintro e W ⟨rfl,hb⟩
  have HR1:=hide ((un HR).later hb);have HB1:=hide ((un HB).trans (hb.mono (un HB).size))
  clear HR HB hb
  have HR:=HR1;have HB:=HB1
  clear HR1 HB1
  go_wp2_with fail
  refine (by_of 0 0 0 0 0 0 0 0 1 1 0 0 0 0 0 (-1) 0 0 1 1 0 0 0 0 0 1 0 0 1 1 _ (by decide +kernel) (by decide +kernel) (by decide +kernel)).mono ?_
  rintro e W ⟨rfl,hb⟩
  have HR1:=hide ((un HR).later hb);have HB1:=hide ((un HB).trans (hb.mono (un HB).size))
  clear HR HB hb
  have HR:=HR1;have HB:=HB1
  clear HR1 HB1
  go_wp2_with (refine storeT 235 10 info43 rfl (.tmp 0) (.tmp 4) rfl w.heap.size #[I 0,I 0,I 0,I 0,I 0,I 0,I 0,I 0,I 0,I 0] #[I 0,I 0,I 0,I 0,I 0,I 1,I 0,I 0,I 1,I 1] rfl rfl rfl rfl (un HR) (by kernel_rfl) ?_)
  exact bodyPost_ret (v:=.agg #[I 0,I 0,I 0,I 0,I 0,I 1,I 0,I 0,I 1,I 1]) (res43 Tryz.results219 _ _ w.heap.size _ rfl rfl ((un HR).setRow _)) rfl ⟨rfl,below_setRow (un HB) (Nat.le_refl _) _⟩
set_option maxRecDepth 100000 in
set_option maxHeartbeats 4000000 in
theorem second_made (w:World):Calls Tryz.prog 220 #[] w fun r w'=>r=.returned (.agg #[I 0,I 0,I 1,I 0,I 0,I 0,I 0,I 0,I 1,I 1])∧Below w.heap.size w w':=by
  obtain ⟨V,hV⟩:∃ V,V=w.alloc (.cells #[I 0,I 0,I 0,I 0,I 0,I 0,I 0,I 0,I 0,I 0] 235):=⟨_,rfl⟩
  have HR:Hid (OwnU V w.heap.size 235 #[I 0,I 0,I 0,I 0,I 0,I 0,I 0,I 0,I 0,I 0]):=by rw[hV];exact OwnU.new _ _ _
  have HB:Hid (Below w.heap.size w V):=by rw[hV];exact (Below.refl _ _).alloc (Nat.le_refl _) _
  have HV:=hide hV
  clear hV
  go_enter Tryz.func220,Tryz.ntmps220
  go_upto_region 1 with fail
  rw[← un HV]
  clear HV
  go_wp2_with fail
  refine (number_any 1 _).mono ?_
  rintro e W ⟨rfl,hb⟩
  have HR1:=hide ((un HR).later hb);have HB1:=hide ((un HB).trans (hb.mono (un HB).size))
  clear HR HB hb
  have HR:=HR1;have HB:=HB1
  clear HR1 HB1
  go_wp2_with fail
  refine (fixed_any 0 0 (-1) 0 0 0 0 0 _).mono ?_
  rintro e W ⟨rfl,hb⟩
  have HR1:=hide ((un HR).later hb);have HB1:=hide ((un HB).trans (hb.mono (un HB).size))
  clear HR HB hb
  have HR:=HR1;have HB:=HB1
  clear HR1 HB1
  go_wp2_with fail
  refine (by_of 0 0 0 0 0 0 0 0 1 1 0 0 (-1) 0 0 0 0 0 1 1 0 0 1 0 0 0 0 0 1 1 _ (by decide +kernel) (by decide +kernel) (by decide +kernel)).mono ?_
  rintro e W ⟨rfl,hb⟩
  have HR1:=hide ((un HR).later hb);have HB1:=hide ((un HB).trans (hb.mono (un HB).size))
  clear HR HB hb
  have HR:=HR1;have HB:=HB1
  clear HR1 HB1
  go_wp2_with (refine storeT 235 10 info43 rfl (.tmp 0) (.tmp 4) rfl w.heap.size #[I 0,I 0,I 0,I 0,I 0,I 0,I 0,I 0,I 0,I 0] #[I 0,I 0,I 1,I 0,I 0,I 0,I 0,I 0,I 1,I 1] rfl rfl rfl rfl (un HR) (by kernel_rfl) ?_)
  exact bodyPost_ret (v:=.agg #[I 0,I 0,I 1,I 0,I 0,I 0,I 0,I 0,I 1,I 1]) (res43 Tryz.results220 _ _ w.heap.size _ rfl rfl ((un HR).setRow _)) rfl ⟨rfl,below_setRow (un HB) (Nat.le_refl _) _⟩
set_option maxRecDepth 100000 in
set_option maxHeartbeats 4000000 in
theorem ampere_made (w:World):Calls Tryz.prog 221 #[] w fun r w'=>r=.returned (.agg #[I 0,I 0,I 0,I 1,I 0,I 0,I 0,I 0,I 1,I 1])∧Below w.heap.size w w':=by
  obtain ⟨V,hV⟩:∃ V,V=w.alloc (.cells #[I 0,I 0,I 0,I 0,I 0,I 0,I 0,I 0,I 0,I 0] 235):=⟨_,rfl⟩
  have HR:Hid (OwnU V w.heap.size 235 #[I 0,I 0,I 0,I 0,I 0,I 0,I 0,I 0,I 0,I 0]):=by rw[hV];exact OwnU.new _ _ _
  have HB:Hid (Below w.heap.size w V):=by rw[hV];exact (Below.refl _ _).alloc (Nat.le_refl _) _
  have HV:=hide hV
  clear hV
  go_enter Tryz.func221,Tryz.ntmps221
  go_upto_region 1 with fail
  rw[← un HV]
  clear HV
  go_wp2_with fail
  refine (fixed_any 0 0 1 1 0 0 0 0 _).mono ?_
  rintro e W ⟨rfl,hb⟩
  have HR1:=hide ((un HR).later hb);have HB1:=hide ((un HB).trans (hb.mono (un HB).size))
  clear HR HB hb
  have HR:=HR1;have HB:=HB1
  clear HR1 HB1
  go_wp2_with fail
  refine (second_made _).mono ?_
  rintro e W ⟨rfl,hb⟩
  have HR1:=hide ((un HR).later hb);have HB1:=hide ((un HB).trans (hb.mono (un HB).size))
  clear HR HB hb
  have HR:=HR1;have HB:=HB1
  clear HR1 HB1
  go_wp2_with fail
  refine (by_of 0 0 1 1 0 0 0 0 1 1 0 0 1 0 0 0 0 0 1 1 0 0 0 1 0 0 0 0 1 1 _ (by decide +kernel) (by decide +kernel) (by decide +kernel)).mono ?_
  rintro e W ⟨rfl,hb⟩
  have HR1:=hide ((un HR).later hb);have HB1:=hide ((un HB).trans (hb.mono (un HB).size))
  clear HR HB hb
  have HR:=HR1;have HB:=HB1
  clear HR1 HB1
  go_wp2_with (refine storeT 235 10 info43 rfl (.tmp 0) (.tmp 4) rfl w.heap.size #[I 0,I 0,I 0,I 0,I 0,I 0,I 0,I 0,I 0,I 0] #[I 0,I 0,I 0,I 1,I 0,I 0,I 0,I 0,I 1,I 1] rfl rfl rfl rfl (un HR) (by kernel_rfl) ?_)
  exact bodyPost_ret (v:=.agg #[I 0,I 0,I 0,I 1,I 0,I 0,I 0,I 0,I 1,I 1]) (res43 Tryz.results221 _ _ w.heap.size _ rfl rfl ((un HR).setRow _)) rfl ⟨rfl,below_setRow (un HB) (Nat.le_refl _) _⟩
set_option maxRecDepth 100000 in
set_option maxHeartbeats 4000000 in
theorem metre_made (w:World):Calls Tryz.prog 222 #[] w fun r w'=>r=.returned (.agg #[I 1,I 0,I 0,I 0,I 0,I 0,I 0,I 0,I 1,I 1])∧Below w.heap.size w w':=by
  obtain ⟨V,hV⟩:∃ V,V=w.alloc (.cells #[I 0,I 0,I 0,I 0,I 0,I 0,I 0,I 0,I 0,I 0] 235):=⟨_,rfl⟩
  have HR:Hid (OwnU V w.heap.size 235 #[I 0,I 0,I 0,I 0,I 0,I 0,I 0,I 0,I 0,I 0]):=by rw[hV];exact OwnU.new _ _ _
  have HB:Hid (Below w.heap.size w V):=by rw[hV];exact (Below.refl _ _).alloc (Nat.le_refl _) _
  have HV:=hide hV
  clear hV
  go_enter Tryz.func222,Tryz.ntmps222
  go_upto_region 1 with fail
  rw[← un HV]
  clear HV
  go_wp2_with fail
  refine (fixed_any 1 0 (-1) 0 0 0 0 0 _).mono ?_
  rintro e W ⟨rfl,hb⟩
  have HR1:=hide ((un HR).later hb);have HB1:=hide ((un HB).trans (hb.mono (un HB).size))
  clear HR HB hb
  have HR:=HR1;have HB:=HB1
  clear HR1 HB1
  go_wp2_with fail
  refine (second_made _).mono ?_
  rintro e W ⟨rfl,hb⟩
  have HR1:=hide ((un HR).later hb);have HB1:=hide ((un HB).trans (hb.mono (un HB).size))
  clear HR HB hb
  have HR:=HR1;have HB:=HB1
  clear HR1 HB1
  go_wp2_with fail
  refine (times_of 1 0 (-1) 0 0 0 0 0 1 1 0 0 1 0 0 0 0 0 1 1 1 0 0 0 0 0 0 0 1 1 _ (by decide +kernel) (by decide +kernel) (by decide +kernel)).mono ?_
  rintro e W ⟨rfl,hb⟩
  have HR1:=hide ((un HR).later hb);have HB1:=hide ((un HB).trans (hb.mono (un HB).size))
  clear HR HB hb
  have HR:=HR1;have HB:=HB1
  clear HR1 HB1
  go_wp2_with (refine storeT 235 10 info43 rfl (.tmp 0) (.tmp 4) rfl w.heap.size #[I 0,I 0,I 0,I 0,I 0,I 0,I 0,I 0,I 0,I 0] #[I 1,I 0,I 0,I 0,I 0,I 0,I 0,I 0,I 1,I 1] rfl rfl rfl rfl (un HR) (by kernel_rfl) ?_)
  exact bodyPost_ret (v:=.agg #[I 1,I 0,I 0,I 0,I 0,I 0,I 0,I 0,I 1,I 1]) (res43 Tryz.results222 _ _ w.heap.size _ rfl rfl ((un HR).setRow _)) rfl ⟨rfl,below_setRow (un HB) (Nat.le_refl _) _⟩
end Go.Proofs.YtamoadanapmmeaaGreatDoor

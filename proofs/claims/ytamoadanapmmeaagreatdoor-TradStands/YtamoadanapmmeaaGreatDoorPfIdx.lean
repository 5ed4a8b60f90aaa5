/- slices.IndexFunc over the rows; the document's Find. -/
import Derived.Deep.Quiet
import Derived.Test.YtamoadanapmmeaaGreatDoorDimOps
import Derived.Test.YtamoadanapmmeaaGreatDoorLimb3
import Derived.Test.YtamoadanapmmeaaGreatDoorPfFactor
namespace Go.Proofs.YtamoadanapmmeaaGreatDoor.Pf
open Go.RowKit
section
variable {P:Program} {ops:Array Oper} {md:Region.Mode} {C:World→Prop}
def waitsB (md:Region.Mode) (o:Oper) (i:Nat):Bool:=o.after.any fun e=>Region.binds md e && e.on == i
theorem waits_spec {o:Oper} {i:Nat} (h:waitsB md o i=true):∃ e∈o.after,Region.binds md e=true∧e.on=i:=by
  unfold waitsB at h
  rw[Array.any_eq_true] at h
  obtain ⟨j,hj,h2⟩:=h
  rw[Bool.and_eq_true,beq_iff_eq] at h2
  exact ⟨_,Array.getElem_mem hj,h2⟩
def wpAnyL (P:Program) (md:Region.Mode) (ops:Array Oper) (C:World→Prop) (Q:Act→Prop) (k:Nat):Nat→Array Bool→Act→Prop
  | 0,listed,a=>Region.ready md ops listed=[k]∧Region.ready md ops (listed.setIfInBounds k true)=[]∧Q a
  | fuel+1,listed,a=>Region.ready md ops listed≠[]∧
    ∀ i∈Region.ready md ops listed,qOp P ops C i (wpAnyL P md ops C Q k fuel (listed.setIfInBounds i true)) a
theorem wpAny_of_last {k:Nat} {Q:Act→Prop} {Q':Exit→Act→World→Prop} (hQ:∀ a w,C w→Q a→wpOp P ops Q' k (fun a w=>Q' .normal a w) a w):∀ (fuel:Nat) (listed:Array Bool) (a:Act) (w:World),C w→
    wpAnyL P md ops C Q k fuel listed a→wpAny P md ops Q' (fuel+1) listed a w
  | 0,_,_,_,hw,h=>⟨fun h0=>(by rw[h.1] at h0;cases h0),fun i hi=>by
      rw[h.1,List.mem_singleton] at hi
      subst hi
      exact wpOp_mono (fun a w hq=>⟨h.2.1,hq⟩) (hQ _ _ hw h.2.2)⟩
  | fuel+1,_,_,_,hw,h=>⟨fun h0=>absurd h0 h.1,fun i hi=>wpOp_of_qOp hw (fun a' w' hw'=>wpAny_of_last hQ fuel _ a' w' hw') (h.2 i hi)⟩
theorem wpAnyL_first {Q:Act→Prop} {i k:Nat} {oi ok:Oper} {v:Value} (hi:ops[i]?=some oi) (hk:ops[k]?=some ok) (hwait:∃ e∈ok.after,Region.binds md e=true∧e.on=i)
    (hsel:∀ (j:Nat) (o:Oper) cs b,ops[j]?=some o→o.op≠.select cs b) :
    ∀ (fuel:Nat) (listed:Array Bool) (a:Act),
      (∀ j oj,ops[j]?=some oj→j≠i→listed.getD j true=false→(∀ e∈oj.after,Region.binds md e=true→e.on≠i)→oi.apart ops oj=true)→
      i∈Region.ready md ops listed→YieldsIn P ops C oi v a→
      wpAnyL P md ops C Q k fuel (listed.setIfInBounds i true) (a.put oi.dst v)→wpAnyL P md ops C Q k (fuel+1) listed a:=by
  have late:∀ (listed:Array Bool),i∈Region.ready md ops listed→k ∉ Region.ready md ops listed:=fun listed hr hkr=>by
    obtain ⟨e,he,hb,hon⟩:=hwait
    obtain ⟨_,o,ho,hall⟩:=mem_ready.1 hkr
    rw[hk] at ho;cases ho
    have h1:=hall e he hb
    have h0:=(mem_ready.1 hr).1
    rw[hon] at h1
    rcases Nat.lt_or_ge i listed.size with h'|h'
    · simp[h'] at h0 h1;rw[h0] at h1;cases h1
    · simp[Array.getElem?_eq_none h'] at h1
  intro fuel
  induction fuel with
  | zero=>
    intro listed a _ hr hy H
    refine ⟨fun h=>(by rw[h] at hr;cases hr),fun j hj=>?_⟩
    by_cases hji:j=i
    · subst hji;exact hy.qOp hi H
    · have:=ready_mono hj hji
      rw[H.1,List.mem_singleton] at this
      subst this
      exact absurd hj (late listed hr)
  | succ fuel ih=>
    intro listed a hfree hr hy H
    refine ⟨fun h=>(by rw[h] at hr;cases hr),fun j hj=>?_⟩
    by_cases hji:j=i
    · subst hji;exact hy.qOp hi H
    · have h1:=H.2 j (ready_mono hj hji)
      obtain ⟨hjun,oj,hoj,hall⟩:=mem_ready.1 hj
      have hnot:∀ e∈oj.after,Region.binds md e=true→e.on≠i:=fun e he hb heq=>by
        have h1:=hall e he hb
        have h0:=(mem_ready.1 hr).1
        rw[heq] at h1
        rcases Nat.lt_or_ge i listed.size with h'|h'
        · simp[h'] at h0 h1;rw[h0] at h1;cases h1
        · simp[Array.getElem?_eq_none h'] at h1
      have h2:=qOp_put hoj (hfree j oj hoj hji hjun hnot) (fun cs b=>hsel i oi cs b hi) (fun cs b=>hsel j oj cs b hoj) hy h1
      have hfree':∀ k ok,ops[k]?=some ok→k≠i→(listed.setIfInBounds j true).getD k true=false→
          (∀ e∈ok.after,Region.binds md e=true→e.on≠i)→oi.apart ops ok=true:=fun k ok hk hki hun hno=>by
        refine hfree k ok hk hki ?_ hno
        by_cases hjk:j=k
        · subst hjk;exact hjun
        · rw[getD_set_ne true hjk] at hun;exact hun
      refine qOp_mono (fun a' h3=>ih (listed.setIfInBounds j true) a' hfree' (ready_mono hr (Ne.symm hji)) h3.1 ?_) h2
      rw[Array.setIfInBounds_comm _ _ hji]
      exact h3.2
def lexLast (md:Region.Mode) (ops:Array Oper) (o:Oper):Nat→Nat→Array Bool→Bool
  | 0,k,listed=>(Region.ready md ops listed == [k]) && (Region.ready md ops (listed.setIfInBounds k true)).isEmpty
  | fuel+1,k,listed=>(Region.ready md ops listed).contains k && Region.free md ops listed k && waitsB md o k && lexLast md ops o fuel (k+1) (listed.setIfInBounds k true)
theorem wpAnyL_lex {Q:Act→Prop} {ok:Oper} (hs:Region.noSelect ops=true):∀ (l:List Oper) (k:Nat) (listed:Array Bool) (a:Act),(∀ j,j<l.length→l[j]?=ops[k+j]?)→ops[k+l.length]?=some ok→
    lexLast md ops ok l.length k listed=true→wpQuiet P ops C Q l a→wpAnyL P md ops C Q (k+l.length) l.length listed a
  | [],k,_,_,_,_,hB,h=>by
    simp only[List.length_nil,lexLast,Bool.and_eq_true,beq_iff_eq,List.isEmpty_iff] at hB
    exact ⟨hB.1,hB.2,h⟩
  | o :: l,k,listed,a,hl,hk,hB,h=>by
    have h0:ops[k]?=some o:=by simpa using (hl 0 (by simp)).symm
    simp only[List.length_cons,lexLast,Bool.and_eq_true] at hB
    obtain ⟨⟨⟨hr,hf⟩,hwt⟩,hB'⟩:=hB
    have hst:qOp P ops C k (wpQuiet P ops C Q l) a:=by unfold qOp;simp only[h0];exact h
    obtain ⟨v,hy,hK⟩:=yieldsIn_of_qOp h0 hst
    have e:k+(o :: l).length=(k+1)+l.length:=by simp only[List.length_cons];omega
    rw[e] at hk ⊢
    exact wpAnyL_first h0 hk (waits_spec hwt) (Region.noSelect_spec hs) l.length listed a (Region.free_spec h0 hf) (by simpa using hr) hy
      (wpAnyL_lex hs l (k+1) _ _ (fun j hj=>by have:=hl (j+1) (by simp only[List.length_cons];omega);simpa [Nat.add_assoc,Nat.add_comm 1 j] using this) hk hB' hK)
def lastB (l:List Oper) (st:Oper):Bool:=Region.noSelect (l ++ [st]).toArray && lexLast .any (l ++ [st]).toArray st l.length 0 (Array.replicate (l ++ [st]).toArray.size false)
theorem quiet_last {id:Nat} {Q:Exit→Act→World→Prop} {a:Act} {w:World} {L l:List Oper} {st:Oper} (hL:L=l ++ [st]) (hm:P.follows .mixedOrders=true) (hB:lastB l st=true)
    (h:wpQuiet P L.toArray (fun w'=>∃ x:Later w,w'=x.world) (fun a'=>∀ w',(∃ x:Later w,w'=x.world)→if Region.wanted st (yielded L.toArray a'.tmps) then st.wp P a' w' (fun a w=>Q .normal a w) Q else Q .normal (a'.put st.dst undef) w') l a):(Code.region id L.toArray true).wp P Q a w:=by
  subst hL
  simp only[lastB,Bool.and_eq_true] at hB
  have hlast:(l ++ [st]).toArray[0+l.length]?=some st:=by simp
  refine wp_region_any hm ?_
  have hsz:(l ++ [st]).toArray.size=l.length+1:=by simp
  rw[hsz] at hB ⊢
  refine wpAny_of_last (k:=0+l.length) (C:=fun w'=>∃ x:Later w,w'=x.world) (Q:=fun a'=>∀ w',(∃ x:Later w,w'=x.world)→if Region.wanted st (yielded (l ++ [st]).toArray a'.tmps) then st.wp P a' w' (fun a w=>Q .normal a w) Q else Q .normal (a'.put st.dst undef) w') ?_ _ _ _ _ ⟨⟨_,(Below.refl w.heap.size w).drew⟩,rfl⟩ ?_
  · intro a' w' hw' hq
    have:=hq w' hw'
    unfold wpOp
    rw[hlast]
    dsimp only
    split
    · rename_i hwt;simp only[hwt,if_true] at this;exact .inl this
    · rename_i hwt;simp only[hwt] at this;exact this
  · exact wpAnyL_lex hB.1 l 0 _ a (fun j hj=>by simp[List.getElem?_append_left hj]) hlast hB.2 h
def lastOf (d:Oper):List Oper→Oper
  | []=>d
  | o :: l=>lastOf o l
theorem front_last (d:Oper):∀ L:List Oper,L≠[]→L=L.dropLast ++ [lastOf d L]
  | [],h=>absurd rfl h
  | [o],_=>rfl
  | o :: o' :: l,_=>by
    have h:=front_last o (o' :: l) (by simp)
    rw[List.dropLast_cons_cons,List.cons_append]
    exact congrArg (o :: ·) h
theorem quiet_end {id:Nat} {Q:Exit→Act→World→Prop} {a:Act} {w:World} {o:Oper} {L:List Oper} (hm:P.follows .mixedOrders=true) (hB:lastB (o :: L).dropLast (lastOf o L)=true)
    (h:wpQuiet P (o :: L).toArray (fun w'=>∃ x:Later w,w'=x.world) (fun a'=>∀ w',(∃ x:Later w,w'=x.world)→if Region.wanted (lastOf o L) (yielded (o :: L).toArray a'.tmps) then (lastOf o L).wp P a' w' (fun a w=>Q .normal a w) Q else Q .normal (a'.put (lastOf o L).dst undef) w') (o :: L).dropLast a):(Code.region id (o :: L).toArray true).wp P Q a w :=
  quiet_last (l:=(o :: L).dropLast) (st:=lastOf o L) (front_last o (o :: L) (by simp)) hm hB h
end
end Go.Proofs.YtamoadanapmmeaaGreatDoor.Pf

namespace Go.Proofs.YtamoadanapmmeaaGreatDoor.Pf
open Go.RowKit
structure T5 (W:World) (g:Nat) (a b c d e:Value):Prop where
  c0:W.cell? ⟨g,0,none⟩=some a
  c1:W.cell? ⟨g,1,none⟩=some b
  c2:W.cell? ⟨g,2,none⟩=some c
  c3:W.cell? ⟨g,3,none⟩=some d
  c4:W.cell? ⟨g,4,none⟩=some e
  f0:W.frozen? ⟨g,0,none⟩=false
  f1:W.frozen? ⟨g,1,none⟩=false
  f2:W.frozen? ⟨g,2,none⟩=false
  f3:W.frozen? ⟨g,3,none⟩=false
  f4:W.frozen? ⟨g,4,none⟩=false
theorem T5.lt {W:World} {g:Nat} {a b c d e:Value} (h:T5 W g a b c d e):g<W.heap.size:=World.block_lt_of_cell? _ _ h.c0
theorem T5.later {W V:World} {g:Nat} {a b c d e:Value} (h:T5 W g a b c d e) (hb:Below W.heap.size W V):T5 V g a b c d e :=
  ⟨(hb.cell (p:=⟨g,0,none⟩) h.lt).trans h.c0,(hb.cell (p:=⟨g,1,none⟩) h.lt).trans h.c1,(hb.cell (p:=⟨g,2,none⟩) h.lt).trans h.c2,(hb.cell (p:=⟨g,3,none⟩) h.lt).trans h.c3,(hb.cell (p:=⟨g,4,none⟩) h.lt).trans h.c4,(hb.frozen (p:=⟨g,0,none⟩) h.lt).trans h.f0,(hb.frozen (p:=⟨g,1,none⟩) h.lt).trans h.f1,(hb.frozen (p:=⟨g,2,none⟩) h.lt).trans h.f2,(hb.frozen (p:=⟨g,3,none⟩) h.lt).trans h.f3,(hb.frozen (p:=⟨g,4,none⟩) h.lt).trans h.f4⟩
theorem T5.set0 {W:World} {g:Nat} {a b c d e:Value} (h:T5 W g a b c d e) (u:Value):T5 (W.setCell ⟨g,0,none⟩ u) g u b c d e :=
  ⟨World.cell?_setCell_same _ _ _ h.c0,by rw[World.cell?_setCell_other _ _ _ _ (by simp)];exact h.c1,by rw[World.cell?_setCell_other _ _ _ _ (by simp)];exact h.c2,by rw[World.cell?_setCell_other _ _ _ _ (by simp)];exact h.c3,by rw[World.cell?_setCell_other _ _ _ _ (by simp)];exact h.c4,by rw[World.frozen?_setCell];exact h.f0,by rw[World.frozen?_setCell];exact h.f1,by rw[World.frozen?_setCell];exact h.f2,by rw[World.frozen?_setCell];exact h.f3,by rw[World.frozen?_setCell];exact h.f4⟩
theorem T5.set1 {W:World} {g:Nat} {a b c d e:Value} (h:T5 W g a b c d e) (u:Value):T5 (W.setCell ⟨g,1,none⟩ u) g a u c d e :=
  ⟨by rw[World.cell?_setCell_other _ _ _ _ (by simp)];exact h.c0,World.cell?_setCell_same _ _ _ h.c1,by rw[World.cell?_setCell_other _ _ _ _ (by simp)];exact h.c2,by rw[World.cell?_setCell_other _ _ _ _ (by simp)];exact h.c3,by rw[World.cell?_setCell_other _ _ _ _ (by simp)];exact h.c4,by rw[World.frozen?_setCell];exact h.f0,by rw[World.frozen?_setCell];exact h.f1,by rw[World.frozen?_setCell];exact h.f2,by rw[World.frozen?_setCell];exact h.f3,by rw[World.frozen?_setCell];exact h.f4⟩
theorem T5.set2 {W:World} {g:Nat} {a b c d e:Value} (h:T5 W g a b c d e) (u:Value):T5 (W.setCell ⟨g,2,none⟩ u) g a b u d e :=
  ⟨by rw[World.cell?_setCell_other _ _ _ _ (by simp)];exact h.c0,by rw[World.cell?_setCell_other _ _ _ _ (by simp)];exact h.c1,World.cell?_setCell_same _ _ _ h.c2,by rw[World.cell?_setCell_other _ _ _ _ (by simp)];exact h.c3,by rw[World.cell?_setCell_other _ _ _ _ (by simp)];exact h.c4,by rw[World.frozen?_setCell];exact h.f0,by rw[World.frozen?_setCell];exact h.f1,by rw[World.frozen?_setCell];exact h.f2,by rw[World.frozen?_setCell];exact h.f3,by rw[World.frozen?_setCell];exact h.f4⟩
theorem T5.set3 {W:World} {g:Nat} {a b c d e:Value} (h:T5 W g a b c d e) (u:Value):T5 (W.setCell ⟨g,3,none⟩ u) g a b c u e :=
  ⟨by rw[World.cell?_setCell_other _ _ _ _ (by simp)];exact h.c0,by rw[World.cell?_setCell_other _ _ _ _ (by simp)];exact h.c1,by rw[World.cell?_setCell_other _ _ _ _ (by simp)];exact h.c2,World.cell?_setCell_same _ _ _ h.c3,by rw[World.cell?_setCell_other _ _ _ _ (by simp)];exact h.c4,by rw[World.frozen?_setCell];exact h.f0,by rw[World.frozen?_setCell];exact h.f1,by rw[World.frozen?_setCell];exact h.f2,by rw[World.frozen?_setCell];exact h.f3,by rw[World.frozen?_setCell];exact h.f4⟩
theorem T5.set4 {W:World} {g:Nat} {a b c d e:Value} (h:T5 W g a b c d e) (u:Value):T5 (W.setCell ⟨g,4,none⟩ u) g a b c d u :=
  ⟨by rw[World.cell?_setCell_other _ _ _ _ (by simp)];exact h.c0,by rw[World.cell?_setCell_other _ _ _ _ (by simp)];exact h.c1,by rw[World.cell?_setCell_other _ _ _ _ (by simp)];exact h.c2,by rw[World.cell?_setCell_other _ _ _ _ (by simp)];exact h.c3,World.cell?_setCell_same _ _ _ h.c4,by rw[World.frozen?_setCell];exact h.f0,by rw[World.frozen?_setCell];exact h.f1,by rw[World.frozen?_setCell];exact h.f2,by rw[World.frozen?_setCell];exact h.f3,by rw[World.frozen?_setCell];exact h.f4⟩
def store5 (W:World) (g:Nat) (a b c d e:Value):World:=((((W.setCell ⟨g,0,none⟩ a).setCell ⟨g,1,none⟩ b).setCell ⟨g,2,none⟩ c).setCell ⟨g,3,none⟩ d).setCell ⟨g,4,none⟩ e
theorem T5.store {W:World} {g:Nat} {a b c d e:Value} (h:T5 W g a b c d e) (x y z u v:Value):T5 (store5 W g x y z u v) g x y z u v:=((((h.set0 x).set1 y).set2 z).set3 u).set4 v
theorem below_store5 {B g:Nat} {w W:World} (h:Below B w W) (hg:B≤g) (x y z u v:Value):Below B w (store5 W g x y z u v) :=
  ((((h.setCell (p:=⟨g,0,none⟩) hg x).setCell (p:=⟨g,1,none⟩) hg y).setCell (p:=⟨g,2,none⟩) hg z).setCell (p:=⟨g,3,none⟩) hg u).setCell (p:=⟨g,4,none⟩) hg v
set_option maxRecDepth 100000 in
set_option maxHeartbeats 2000000 in
theorem binary_any (N:Nat) (j:Int) (bi:Bool) (w:World) (h:(((N:Nat):Int) == 1024)=bi):Calls Tryz.prog 359 #[.agg #[I (N:Int),I j]] w fun r w'=>r=.returned (.bool bi)∧Below w.heap.size w w':=by
  go_enter Tryz.func359,Tryz.ntmps359
  go_wp2
  go_ret
  exact ⟨by rw[← h];rfl,(Below.refl _ _).alloc (Nat.le_refl _) _⟩
def RowV (nm sy:ByteArray) (f:Nat):Value:=.agg #[.string nm,.string sy,.func (.func f) #[] #[]]
def Tells (f:Nat) (N:Nat) (j:Int) (bi:Bool):Prop:=∀ (nm sy fn fd:ByteArray) (w:World),(∀ W,Below w.heap.size w W→Calls Tryz.prog 358 #[.agg #[I (N:Int),I j]] W fun r w'=>r=.returned (.agg #[.string fn,.string fd])∧Below W.heap.size W w')→
    Calls Tryz.prog 299 #[RowV nm sy f] w fun r w'=>r=.returned (.agg #[.string nm,.string sy,.string fn,.string fd,.bool bi])∧Below w.heap.size w w'
end Go.Proofs.YtamoadanapmmeaaGreatDoor.Pf

namespace Go.Proofs.YtamoadanapmmeaaGreatDoor.Pf
open Go.RowKit
set_option maxRecDepth 100000 in
set_option maxHeartbeats 2000000 in
theorem kilo_told:Tells 328 10 3 false:=by
  intro nm sy fn fd w hf
  obtain ⟨N,hN⟩:∃ N:Nat,N=10:=⟨_,rfl⟩
  obtain ⟨J,hJ⟩:∃ J:Int,J=3:=⟨_,rfl⟩
  have HM:Hid (∀ W,Calls Tryz.prog 328 #[] W fun r w'=>r=.returned (.agg #[I (N:Int),I J])∧Below W.heap.size W w'):=fun W=>by rw[hN,hJ];exact kilo_made W
  have HBI:=hide (fun W=>binary_any N J false W (by rw[hN];rfl))
  rw[← hN,← hJ] at hf
  have HF:=hide hf
  obtain ⟨V,hV⟩:∃ V,V=(w.alloc (.cells #[.string nm,.string sy,.func (.func 328) #[] #[]] 324)).alloc (.cells #[.string ⟨#[]⟩,.string ⟨#[]⟩,.string ⟨#[]⟩,.string ⟨#[]⟩,.bool false] 291):=⟨_,rfl⟩
  have HP:Hid (FBox V w.heap.size (.string nm) (.string sy) (.func (.func 328) #[] #[])):=by rw[hV];exact ⟨by simp[go_sem],by simp[go_sem],by simp[go_sem],by simp[go_sem],by simp[go_sem],by simp[go_sem]⟩
  have HR:Hid (T5 V (w.heap.size+1) (.string ⟨#[]⟩) (.string ⟨#[]⟩) (.string ⟨#[]⟩) (.string ⟨#[]⟩) (.bool false)):=by rw[hV];exact ⟨by simp[go_sem],by simp[go_sem],by simp[go_sem],by simp[go_sem],by simp[go_sem],by simp[go_sem],by simp[go_sem],by simp[go_sem],by simp[go_sem],by simp[go_sem]⟩
  have HB:Hid (Below w.heap.size w V):=by rw[hV];exact ((Below.refl _ _).alloc (Nat.le_refl _) _).alloc (by simp) _
  have HV:=hide hV
  clear hf hN hJ
  unfold RowV
  go_enter Tryz.func299,Tryz.ntmps299
  go_upto_region 1 with fail
  rw[← un HV]
  clear hV HV
  have t2:=(un HP).c2
  go_upto_region 2 with (go_at_call 328;go_must (refine (un HM _).mono ?_;rintro e w1 ⟨rfl,hb1⟩;have HP1:=hide ((un HP).later hb1);have HR1:=hide ((un HR).later hb1);have HB1:=hide ((un HB).trans (hb1.mono (un HB).size));clear hb1 t2))
  obtain ⟨V2,hV2⟩:∃ V2,V2=w1.alloc (.cells #[I (N:Int),I J] 357):=⟨_,rfl⟩
  have hb2:Below w1.heap.size w1 V2:=by rw[hV2];exact (Below.refl _ _).alloc (Nat.le_refl _) _
  have HP2:=hide ((un HP1).later hb2);have HR2:=hide ((un HR1).later hb2);have HB2:=hide ((un HB1).trans (hb2.mono (un HB1).size))
  have HQ2:Hid (T2 V2 w1.heap.size (I (N:Int)) (I J)):=by rw[hV2];exact ⟨by simp[go_sem],by simp[go_sem],by simp[go_sem],by simp[go_sem]⟩
  rw[← hV2]
  clear hV2 hb2 HP HR HB HP1 HR1 HB1 HM
  generalize w1.heap.size=g3 at *
  have q0:∀ xz:Later V2,xz.world.cell? ⟨w.heap.size,0,none⟩=some (.string nm):=fun xz=>((un HP2).later xz.below).c0
  have q1:∀ xz:Later V2,xz.world.cell? ⟨w.heap.size,1,none⟩=some (.string sy):=fun xz=>((un HP2).later xz.below).c1
  have q2:∀ xz:Later V2,xz.world.cell? ⟨g3,0,none⟩=some (I (N:Int)):=fun xz=>((un HQ2).later xz.below).c0
  have q3:∀ xz:Later V2,xz.world.cell? ⟨g3,1,none⟩=some (I J):=fun xz=>((un HQ2).later xz.below).c1
  refine quiet_end (by kernel_rfl) (by kernel_rfl) ?_
  simp only[List.dropLast,lastOf]
  repeat (go_big_quiet_step (first
    | (go_at_call 358;rename_i xx;refine (un HF xx.world ((un HB2).trans (xx.below.mono (un HB2).size))).mono ?_;rintro e w9 ⟨rfl,hb9⟩;have hz:=xx.below.trans (hb9.mono xx.below.size);first|exact ⟨rfl,⟨w9,hz⟩,rfl⟩|exact ⟨rfl,hz⟩|exact ⟨rfl,w9,hz,rfl⟩)
    | (go_at_call 359;rename_i xx;refine (un HBI xx.world).mono ?_;rintro e w9 ⟨rfl,hb9⟩;have hz:=xx.below.trans (hb9.mono xx.below.size);first|exact ⟨rfl,⟨w9,hz⟩,rfl⟩|exact ⟨rfl,hz⟩|exact ⟨rfl,w9,hz,rfl⟩)))
  refine wpQuiet_nil ?_
  intro _ hw'
  obtain ⟨xz,hw''⟩:=hw'
  subst hw''
  obtain ⟨U,hU⟩:∃ U,U=xz.world:=⟨_,rfl⟩
  have HBU:Hid (Below w.heap.size w U):=by rw[hU];exact (un HB2).trans (xz.below.mono (un HB2).size)
  have HRU:=hide ((un HR2).later xz.below)
  rw[← hU] at HRU ⊢
  clear hU q0 q1 q2 q3 HB2 HR2 HP2 HQ2
  have r0:=(un HRU).c0;have r1:=(un HRU).c1;have r2:=(un HRU).c2;have r3:=(un HRU).c3;have r4:=(un HRU).c4;have rf0:=(un HRU).f0;have rf1:=(un HRU).f1;have rf2:=(un HRU).f2;have rf3:=(un HRU).f3;have rf4:=(un HRU).f4
  go_simp
  go_wp2_with fail
  have hS:=(un HRU).store (.string nm) (.string sy) (.string fn) (.string fd) (.bool false)
  have hb:=below_store5 (un HBU) (by omega) (.string nm) (.string sy) (.string fn) (.string fd) (.bool false) (g:=w.heap.size+1)
  have v0:=hS.c0;have v1:=hS.c1;have v2:=hS.c2;have v3:=hS.c3;have v4:=hS.c4
  exact bodyPost_ret (v:=.agg #[.string nm,.string sy,.string fn,.string fd,.bool false]) (w:=store5 U (w.heap.size+1) (.string nm) (.string sy) (.string fn) (.string fd) (.bool false)) (by simp[results,Tryz.results299,go_sem,v0,v1,v2,v3,v4]) rfl ⟨rfl,hb⟩
end Go.Proofs.YtamoadanapmmeaaGreatDoor.Pf

namespace Go.Proofs.YtamoadanapmmeaaGreatDoor.Pf
open Go.RowKit
structure Pre where
  nm:ByteArray
  sy:ByteArray
  f:Nat
  fn:ByteArray
  fd:ByteArray
  bi:Bool
  ex:Int
def tbl:Nat→Pre
  | 0=>⟨⟨#[100,101,99,97]⟩,⟨#[100,97]⟩,326,⟨#[49,48]⟩,⟨#[49]⟩,false,1⟩
  | 1=>⟨⟨#[104,101,99,116,111]⟩,⟨#[104]⟩,327,⟨#[49,48,48]⟩,⟨#[49]⟩,false,2⟩
  | 2=>⟨⟨#[107,105,108,111]⟩,⟨#[107]⟩,328,⟨#[49,48,48,48]⟩,⟨#[49]⟩,false,3⟩
  | 3=>⟨⟨#[109,101,103,97]⟩,⟨#[77]⟩,329,⟨#[49,48,48,48,48,48,48]⟩,⟨#[49]⟩,false,6⟩
  | 4=>⟨⟨#[103,105,103,97]⟩,⟨#[71]⟩,330,⟨#[49,48,48,48,48,48,48,48,48,48]⟩,⟨#[49]⟩,false,9⟩
  | 5=>⟨⟨#[116,101,114,97]⟩,⟨#[84]⟩,331,⟨#[49,48,48,48,48,48,48,48,48,48,48,48,48]⟩,⟨#[49]⟩,false,12⟩
  | 6=>⟨⟨#[112,101,116,97]⟩,⟨#[80]⟩,332,⟨#[49,48,48,48,48,48,48,48,48,48,48,48,48,48,48,48]⟩,⟨#[49]⟩,false,15⟩
  | 7=>⟨⟨#[101,120,97]⟩,⟨#[69]⟩,333,⟨#[49,48,48,48,48,48,48,48,48,48,48,48,48,48,48,48,48,48,48]⟩,⟨#[49]⟩,false,18⟩
  | 8=>⟨⟨#[122,101,116,116,97]⟩,⟨#[90]⟩,334,⟨#[49,48,48,48,48,48,48,48,48,48,48,48,48,48,48,48,48,48,48,48,48,48]⟩,⟨#[49]⟩,false,21⟩
  | 9=>⟨⟨#[121,111,116,116,97]⟩,⟨#[89]⟩,335,⟨#[49,48,48,48,48,48,48,48,48,48,48,48,48,48,48,48,48,48,48,48,48,48,48,48,48]⟩,⟨#[49]⟩,false,24⟩
  | 10=>⟨⟨#[114,111,110,110,97]⟩,⟨#[82]⟩,336,⟨#[49,48,48,48,48,48,48,48,48,48,48,48,48,48,48,48,48,48,48,48,48,48,48,48,48,48,48,48]⟩,⟨#[49]⟩,false,27⟩
  | 11=>⟨⟨#[113,117,101,116,116,97]⟩,⟨#[81]⟩,337,⟨#[49,48,48,48,48,48,48,48,48,48,48,48,48,48,48,48,48,48,48,48,48,48,48,48,48,48,48,48,48,48,48]⟩,⟨#[49]⟩,false,30⟩
  | 12=>⟨⟨#[100,101,99,105]⟩,⟨#[100]⟩,338,⟨#[49]⟩,⟨#[49,48]⟩,false,(-1)⟩
  | 13=>⟨⟨#[99,101,110,116,105]⟩,⟨#[99]⟩,339,⟨#[49]⟩,⟨#[49,48,48]⟩,false,(-2)⟩
  | 14=>⟨⟨#[109,105,108,108,105]⟩,⟨#[109]⟩,340,⟨#[49]⟩,⟨#[49,48,48,48]⟩,false,(-3)⟩
  | 15=>⟨⟨#[109,105,99,114,111]⟩,⟨#[206,188]⟩,341,⟨#[49]⟩,⟨#[49,48,48,48,48,48,48]⟩,false,(-6)⟩
  | 16=>⟨⟨#[110,97,110,111]⟩,⟨#[110]⟩,342,⟨#[49]⟩,⟨#[49,48,48,48,48,48,48,48,48,48]⟩,false,(-9)⟩
  | 17=>⟨⟨#[112,105,99,111]⟩,⟨#[112]⟩,343,⟨#[49]⟩,⟨#[49,48,48,48,48,48,48,48,48,48,48,48,48]⟩,false,(-12)⟩
  | 18=>⟨⟨#[102,101,109,116,111]⟩,⟨#[102]⟩,344,⟨#[49]⟩,⟨#[49,48,48,48,48,48,48,48,48,48,48,48,48,48,48,48]⟩,false,(-15)⟩
  | 19=>⟨⟨#[97,116,116,111]⟩,⟨#[97]⟩,345,⟨#[49]⟩,⟨#[49,48,48,48,48,48,48,48,48,48,48,48,48,48,48,48,48,48,48]⟩,false,(-18)⟩
  | 20=>⟨⟨#[122,101,112,116,111]⟩,⟨#[122]⟩,346,⟨#[49]⟩,⟨#[49,48,48,48,48,48,48,48,48,48,48,48,48,48,48,48,48,48,48,48,48,48]⟩,false,(-21)⟩
  | 21=>⟨⟨#[121,111,99,116,111]⟩,⟨#[121]⟩,347,⟨#[49]⟩,⟨#[49,48,48,48,48,48,48,48,48,48,48,48,48,48,48,48,48,48,48,48,48,48,48,48,48]⟩,false,(-24)⟩
  | 22=>⟨⟨#[114,111,110,116,111]⟩,⟨#[114]⟩,348,⟨#[49]⟩,⟨#[49,48,48,48,48,48,48,48,48,48,48,48,48,48,48,48,48,48,48,48,48,48,48,48,48,48,48,48]⟩,false,(-27)⟩
  | 23=>⟨⟨#[113,117,101,99,116,111]⟩,⟨#[113]⟩,349,⟨#[49]⟩,⟨#[49,48,48,48,48,48,48,48,48,48,48,48,48,48,48,48,48,48,48,48,48,48,48,48,48,48,48,48,48,48,48]⟩,false,(-30)⟩
  | 24=>⟨⟨#[107,105,98,105]⟩,⟨#[75,105]⟩,350,⟨#[49,48,50,52]⟩,⟨#[49]⟩,true,1⟩
  | 25=>⟨⟨#[109,101,98,105]⟩,⟨#[77,105]⟩,351,⟨#[49,48,52,56,53,55,54]⟩,⟨#[49]⟩,true,2⟩
  | 26=>⟨⟨#[103,105,98,105]⟩,⟨#[71,105]⟩,352,⟨#[49,48,55,51,55,52,49,56,50,52]⟩,⟨#[49]⟩,true,3⟩
  | 27=>⟨⟨#[116,101,98,105]⟩,⟨#[84,105]⟩,353,⟨#[49,48,57,57,53,49,49,54,50,55,55,55,54]⟩,⟨#[49]⟩,true,4⟩
  | 28=>⟨⟨#[112,101,98,105]⟩,⟨#[80,105]⟩,354,⟨#[49,49,50,53,56,57,57,57,48,54,56,52,50,54,50,52]⟩,⟨#[49]⟩,true,5⟩
  | 29=>⟨⟨#[101,120,98,105]⟩,⟨#[69,105]⟩,355,⟨#[49,49,53,50,57,50,49,53,48,52,54,48,54,56,52,54,57,55,54]⟩,⟨#[49]⟩,true,6⟩
  | 30=>⟨⟨#[122,101,98,105]⟩,⟨#[90,105]⟩,356,⟨#[49,49,56,48,53,57,49,54,50,48,55,49,55,52,49,49,51,48,51,52,50,52]⟩,⟨#[49]⟩,true,7⟩
  | 31=>⟨⟨#[121,111,98,105]⟩,⟨#[89,105]⟩,357,⟨#[49,50,48,56,57,50,53,56,49,57,54,49,52,54,50,57,49,55,52,55,48,54,49,55,54]⟩,⟨#[49]⟩,true,8⟩
  | _=>⟨⟨#[]⟩,⟨#[]⟩,0,⟨#[]⟩,⟨#[]⟩,false,0⟩
def rowV (k:Nat):Value:=RowV (tbl k).nm (tbl k).sy (tbl k).f
def preV (k:Nat):Value:=.agg #[.string (tbl k).nm,.string (tbl k).sy,.string (tbl k).fn,.string (tbl k).fd,.bool (tbl k).bi]
theorem le600 (e:Nat) (h:e=600):10 ^ 40≤10 ^ e:=Nat.pow_le_pow_right (by decide) (by omega)
theorem kilo_row (w:World) (ht:Tab w):Calls Tryz.prog 299 #[rowV 2] w fun r w'=>r=.returned (preV 2)∧Below w.heap.size w w':=by
  have h:=fac_pos 10 3 3 rfl (Nat.lt_of_lt_of_le (by decide:10 ^ 3<10 ^ 40) (le600 600 rfl))
  exact kilo_told _ _ ⟨#[49,48,48,48]⟩ ⟨#[49]⟩ w (fun W hb=>factor_any 10 3 ⟨#[49,48,48,48]⟩ ⟨#[49]⟩ W (ht.later hb) (by decide) (by decide) (by decide) (by decide) ⟨h.1.trans (by decide +kernel),h.2.1.trans (by decide +kernel),h.2.2⟩)
end Go.Proofs.YtamoadanapmmeaaGreatDoor.Pf

namespace Go.Proofs.YtamoadanapmmeaaGreatDoor.Pf
open Go.RowKit
def rowsArr:Array Value:=#[.string ⟨#[100,101,99,97]⟩,.string ⟨#[100,97]⟩,.func (.func 326) #[] #[],.string ⟨#[104,101,99,116,111]⟩,.string ⟨#[104]⟩,.func (.func 327) #[] #[],.string ⟨#[107,105,108,111]⟩,.string ⟨#[107]⟩,.func (.func 328) #[] #[],.string ⟨#[109,101,103,97]⟩,.string ⟨#[77]⟩,.func (.func 329) #[] #[],.string ⟨#[103,105,103,97]⟩,.string ⟨#[71]⟩,.func (.func 330) #[] #[],.string ⟨#[116,101,114,97]⟩,.string ⟨#[84]⟩,.func (.func 331) #[] #[],.string ⟨#[112,101,116,97]⟩,.string ⟨#[80]⟩,.func (.func 332) #[] #[],.string ⟨#[101,120,97]⟩,.string ⟨#[69]⟩,.func (.func 333) #[] #[],.string ⟨#[122,101,116,116,97]⟩,.string ⟨#[90]⟩,.func (.func 334) #[] #[],.string ⟨#[121,111,116,116,97]⟩,.string ⟨#[89]⟩,.func (.func 335) #[] #[],.string ⟨#[114,111,110,110,97]⟩,.string ⟨#[82]⟩,.func (.func 336) #[] #[],.string ⟨#[113,117,101,116,116,97]⟩,.string ⟨#[81]⟩,.func (.func 337) #[] #[],.string ⟨#[100,101,99,105]⟩,.string ⟨#[100]⟩,.func (.func 338) #[] #[],.string ⟨#[99,101,110,116,105]⟩,.string ⟨#[99]⟩,.func (.func 339) #[] #[],.string ⟨#[109,105,108,108,105]⟩,.string ⟨#[109]⟩,.func (.func 340) #[] #[],.string ⟨#[109,105,99,114,111]⟩,.string ⟨#[206,188]⟩,.func (.func 341) #[] #[],.string ⟨#[110,97,110,111]⟩,.string ⟨#[110]⟩,.func (.func 342) #[] #[],.string ⟨#[112,105,99,111]⟩,.string ⟨#[112]⟩,.func (.func 343) #[] #[],.string ⟨#[102,101,109,116,111]⟩,.string ⟨#[102]⟩,.func (.func 344) #[] #[],.string ⟨#[97,116,116,111]⟩,.string ⟨#[97]⟩,.func (.func 345) #[] #[],.string ⟨#[122,101,112,116,111]⟩,.string ⟨#[122]⟩,.func (.func 346) #[] #[],.string ⟨#[121,111,99,116,111]⟩,.string ⟨#[121]⟩,.func (.func 347) #[] #[],.string ⟨#[114,111,110,116,111]⟩,.string ⟨#[114]⟩,.func (.func 348) #[] #[],.string ⟨#[113,117,101,99,116,111]⟩,.string ⟨#[113]⟩,.func (.func 349) #[] #[],.string ⟨#[107,105,98,105]⟩,.string ⟨#[75,105]⟩,.func (.func 350) #[] #[],.string ⟨#[109,101,98,105]⟩,.string ⟨#[77,105]⟩,.func (.func 351) #[] #[],.string ⟨#[103,105,98,105]⟩,.string ⟨#[71,105]⟩,.func (.func 352) #[] #[],.string ⟨#[116,101,98,105]⟩,.string ⟨#[84,105]⟩,.func (.func 353) #[] #[],.string ⟨#[112,101,98,105]⟩,.string ⟨#[80,105]⟩,.func (.func 354) #[] #[],.string ⟨#[101,120,98,105]⟩,.string ⟨#[69,105]⟩,.func (.func 355) #[] #[],.string ⟨#[122,101,98,105]⟩,.string ⟨#[90,105]⟩,.func (.func 356) #[] #[],.string ⟨#[121,111,98,105]⟩,.string ⟨#[89,105]⟩,.func (.func 357) #[] #[]]
set_option maxRecDepth 100000 in
set_option maxHeartbeats 4000000 in
theorem rows_any (w:World):Calls Tryz.prog 297 #[] w fun r w'=>r=.returned (.slice (some ⟨w.heap.size,0,none⟩) 32 32)∧w'=w.alloc (.cells rowsArr 324):=by
  go_enter Tryz.func297,Tryz.ntmps297
  go_wp2
  go_ret
  exact ⟨rfl,rfl⟩
theorem rows_cell:∀ k,k<32→rowsArr[3*k]?=some (.string (tbl k).nm)∧rowsArr[3*k+1]?=some (.string (tbl k).sy)∧rowsArr[3*k+2]?=some (.func (.func (tbl k).f) #[] #[])
  | 0,_=>⟨rfl,rfl,rfl⟩
  | 1,_=>⟨rfl,rfl,rfl⟩
  | 2,_=>⟨rfl,rfl,rfl⟩
  | 3,_=>⟨rfl,rfl,rfl⟩
  | 4,_=>⟨rfl,rfl,rfl⟩
  | 5,_=>⟨rfl,rfl,rfl⟩
  | 6,_=>⟨rfl,rfl,rfl⟩
  | 7,_=>⟨rfl,rfl,rfl⟩
  | 8,_=>⟨rfl,rfl,rfl⟩
  | 9,_=>⟨rfl,rfl,rfl⟩
  | 10,_=>⟨rfl,rfl,rfl⟩
  | 11,_=>⟨rfl,rfl,rfl⟩
  | 12,_=>⟨rfl,rfl,rfl⟩
  | 13,_=>⟨rfl,rfl,rfl⟩
  | 14,_=>⟨rfl,rfl,rfl⟩
  | 15,_=>⟨rfl,rfl,rfl⟩
  | 16,_=>⟨rfl,rfl,rfl⟩
  | 17,_=>⟨rfl,rfl,rfl⟩
  | 18,_=>⟨rfl,rfl,rfl⟩
  | 19,_=>⟨rfl,rfl,rfl⟩
  | 20,_=>⟨rfl,rfl,rfl⟩
  | 21,_=>⟨rfl,rfl,rfl⟩
  | 22,_=>⟨rfl,rfl,rfl⟩
  | 23,_=>⟨rfl,rfl,rfl⟩
  | 24,_=>⟨rfl,rfl,rfl⟩
  | 25,_=>⟨rfl,rfl,rfl⟩
  | 26,_=>⟨rfl,rfl,rfl⟩
  | 27,_=>⟨rfl,rfl,rfl⟩
  | 28,_=>⟨rfl,rfl,rfl⟩
  | 29,_=>⟨rfl,rfl,rfl⟩
  | 30,_=>⟨rfl,rfl,rfl⟩
  | 31,_=>⟨rfl,rfl,rfl⟩
  | n+32,h=>absurd h (by omega)
end Go.Proofs.YtamoadanapmmeaaGreatDoor.Pf

namespace Go.Proofs.YtamoadanapmmeaaGreatDoor.Pf
open Go.RowKit
set_option maxRecDepth 100000 in
set_option maxHeartbeats 2000000 in
theorem closure_any (nm sy:ByteArray) (fv:Value) (s:ByteArray) (b:Nat) (w:World) (hb:w.cell? ⟨b,0,none⟩=some (.string s)) (hlt:b<w.heap.size):Calls Tryz.prog 298 #[.agg #[.string nm,.string sy,fv],.pointer (some ⟨b,0,none⟩)] w fun r w'=>r=.returned (.bool (nm.toList == s.toList))∧Below w.heap.size w w':=by
  go_enter Tryz.func298,Tryz.ntmps298
  go_wp2_with fail
  go_ret
  exact ⟨rfl,(Below.refl _ _).alloc (Nat.le_refl _) _⟩
end Go.Proofs.YtamoadanapmmeaaGreatDoor.Pf

namespace Go.Proofs.YtamoadanapmmeaaGreatDoor.Pf
open Go.RowKit
structure Row3 (W:World) (g k:Nat) (a b c:Value):Prop where
  c0:W.cell? ⟨g,k*3,none⟩=some a
  c1:W.cell? ⟨g,k*3+1,none⟩=some b
  c2:W.cell? ⟨g,k*3+2,none⟩=some c
theorem Row3.later {W V:World} {B g k:Nat} {a b c:Value} (h:Row3 W g k a b c) (hb:Below B W V) (hg:g<B):Row3 V g k a b c :=
  ⟨(hb.cell (p:=⟨g,k*3,none⟩) hg).trans h.c0,(hb.cell (p:=⟨g,k*3+1,none⟩) hg).trans h.c1,(hb.cell (p:=⟨g,k*3+2,none⟩) hg).trans h.c2⟩
def IsFirst (p:Nat→Bool) (j:Int):Prop:=(∃ k:Nat,k<32∧j=(k:Int)∧p k=true∧∀ i,i<k→p i=false)∨(j=-1∧∀ i,i<32→p i=false)
theorem none_succ {p:Nat→Bool} {k:Nat} (h:∀ i,i<k→p i=false) (hk:p k=false):∀ i,i<k+1→p i=false:=fun i hi=>by
  by_cases e:i=k
  · rw[e];exact hk
  · exact h i (by omega)
def nameB (s:ByteArray) (k:Nat):Bool:=(tbl k).nm.toList == s.toList
set_option maxRecDepth 100000 in
set_option maxHeartbeats 2000000 in
theorem index_any (s:ByteArray) (g b:Nat) (w:World) (hr:∀ k,k<32→Row3 w g k (.string (tbl k).nm) (.string (tbl k).sy) (.func (.func (tbl k).f) #[] #[])) (hg:g<w.heap.size) (hb:w.cell? ⟨b,0,none⟩=some (.string s)) (hlt:b<w.heap.size) :
    Calls Tryz.prog 296 #[.slice (some ⟨g,0,none⟩) 32 32,.func (.func 298) #[] #[.pointer (some ⟨b,0,none⟩)]] w fun r w'=>∃ j:Int,r=.returned (I j)∧IsFirst (nameB s) j∧Below w.heap.size w w':=by
  have HR:=hide hr;have HBC:=hide hb
  clear hr hb
  go_enter Tryz.func296,Tryz.ntmps296
  go_wp2_with fail
  go_loopw [8] (fun s8 wr=>∃ (k:Nat),k≤32∧s8=I (k:Int)∧Hid (∀ i,i<k→nameB s i=false)∧Hid (Below w.heap.size w wr)) (fun s8 _=>32 - (intOf s8).toNat)
  case atStart=>exact ⟨0,by omega,rfl,fun i hi=>absurd hi (by omega),Below.refl _ _⟩
  case round=>
    obtain ⟨k,hk,rfl,HN,HB⟩:=hrel
    by_cases hk32:k<32
    · have hkI:(k:Int)<32:=by omega
      have hk0:(0:Int)≤(k:Int):=by omega
      have hrow:=(un HR k hk32).later (un HB) hg
      have c0:=hrow.c0;have c1:=hrow.c1;have c2:=hrow.c2
      clear hrow
      have HC:Hid (∀ W,Below wr.heap.size wr W→Calls Tryz.prog 298 #[.agg #[.string (tbl k).nm,.string (tbl k).sy,.func (.func (tbl k).f) #[] #[]],.pointer (some ⟨b,0,none⟩)] W fun r w'=>r=.returned (.bool (nameB s k))∧Below W.heap.size W w'):=fun W hW=>
        closure_any _ _ _ s b W (((un HB).trans (hW.mono (un HB).size)).cell (p:=⟨b,0,none⟩) hlt |>.trans (un HBC)) (Nat.lt_of_lt_of_le hlt (((un HB).trans (hW.mono (un HB).size)).size))
      have HNK:=hide (fun (e:nameB s k=false)=>none_succ (un HN) e)
      have HYK:=hide (fun (e:nameB s k=true)=>(Or.inl ⟨k,hk32,rfl,e,un HN⟩:IsFirst (nameB s) (k:Int)))
      generalize (tbl k).nm=nm at *
      generalize (tbl k).sy=sy at *
      generalize (tbl k).f=f at *
      by_cases hB:nameB s k=true
      · have HJ:=hide (un HYK hB)
        rw[hB] at HC
        clear HNK HYK hB
        go_wp2_with (go_at_call 298;go_must (refine (un HC _ (Below.refl _ _)).mono ?_;rintro e wt ⟨rfl,hbt⟩;have HBT:=hide hbt;clear hbt))
        go_ret
        exact ⟨_,rfl,un HJ,(un HB).trans ((un HBT).mono (un HB).size)⟩
      · have hB':nameB s k=false:=by simpa using hB
        have HJ:=hide (un HNK hB')
        rw[hB'] at HC
        clear HNK HYK hB hB'
        go_wp2_with (go_at_call 298;go_must (refine (un HC _ (Below.refl _ _)).mono ?_;rintro e wt ⟨rfl,hbt⟩;have HBT:=hide hbt;clear hbt))
        go_roundw
        case rel=>exact ⟨k+1,by omega,by go_num,HJ,(un HB).trans ((un HBT).mono (un HB).size)⟩
        case measure=>simp[intOf];omega
    · have hkI:¬ (k:Int)<32:=by omega
      go_wp2_with fail
      go_ret
      exact ⟨-1,rfl,Or.inr ⟨rfl,fun i hi=>un HN i (by omega)⟩,un HB⟩
structure F5 (W:World) (g k:Nat) (a b c d e:Value):Prop where
  c0:W.cell? ⟨g,k*5,none⟩=some a
  c1:W.cell? ⟨g,k*5+1,none⟩=some b
  c2:W.cell? ⟨g,k*5+2,none⟩=some c
  c3:W.cell? ⟨g,k*5+3,none⟩=some d
  c4:W.cell? ⟨g,k*5+4,none⟩=some e
theorem F5.later {W V:World} {B g k:Nat} {a b c d e:Value} (h:F5 W g k a b c d e) (hb:Below B W V) (hg:g<B):F5 V g k a b c d e :=
  ⟨(hb.cell (p:=⟨g,k*5,none⟩) hg).trans h.c0,(hb.cell (p:=⟨g,k*5+1,none⟩) hg).trans h.c1,(hb.cell (p:=⟨g,k*5+2,none⟩) hg).trans h.c2,(hb.cell (p:=⟨g,k*5+3,none⟩) hg).trans h.c3,(hb.cell (p:=⟨g,k*5+4,none⟩) hg).trans h.c4⟩
end Go.Proofs.YtamoadanapmmeaaGreatDoor.Pf

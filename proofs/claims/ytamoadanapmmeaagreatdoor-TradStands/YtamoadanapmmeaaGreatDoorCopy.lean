/- A copy of elements of several cells. -/
import Derived.Test.YtamoadanapmmeaaGreatDoorFrMath2
import Derived.Test.YtamoadanapmmeaaGreatDoorTakeB
import Derived.Test.YtamoadanapmmeaaGreatDoorLimb3
import Derived.Deep.RegionHeld3
import Derived.Test.YtamoadanapmmeaaGreatDoorDimOps
import Derived.Laws.IdiomCopy
namespace Go.Proofs.YtamoadanapmmeaaGreatDoor
open Go.RowKit
structure A3St (w W:World) (u v p:Value):Prop where
  b1:Box W w.heap.size u
  b2:Box W (w.heap.size+1) v
  b3:Box W (w.heap.size+1+1) p
  below:Below w.heap.size w W
theorem A3St.later {w W V:World} {u v p:Value} (s:A3St w W u v p) (hb:Below W.heap.size W V):A3St w V u v p :=
  ⟨s.b1.later hb,s.b2.later hb,s.b3.later hb,s.below.trans (hb.mono s.below.size)⟩
theorem A3St.first (w:World) (u v p:Value):A3St w (((w.alloc (.cells #[u] 80)).alloc (.cells #[v] 80)).alloc (.cells #[p] 80)) u v p :=
  ⟨⟨by simp[go_sem],by simp[go_sem]⟩,⟨by simp[go_sem],by simp[go_sem]⟩,⟨by simp[go_sem],by simp[go_sem]⟩,
    (((Below.refl _ _).alloc (Nat.le_refl _) _).alloc (by simp) _).alloc (by simp;omega) _⟩
theorem A3St.set3 {w W:World} {u v p:Value} (s:A3St w W u v p) (x:Value):A3St w (W.setCell ⟨w.heap.size+1+1,0,none⟩ x) u v x :=
  ⟨s.b1.other (by omega) x,s.b2.other (by omega) x,s.b3.set x,s.below.setCell (by simp;omega) _⟩
end Go.Proofs.YtamoadanapmmeaaGreatDoor

namespace Go.Proofs.YtamoadanapmmeaaGreatDoor
open Go.RowKit
def IsFrac (w:World) (v:Value) (b:Bool) (n d:Nat):Prop:=∃ s t,v=.agg #[.bool b,s,t]∧IsBig w (.agg #[s]) n∧IsBig w (.agg #[t]) d
theorem IsFrac.later {w w':World} {v:Value} {b:Bool} {n d:Nat} (h:IsFrac w v b n d) (hb:Below w.heap.size w w'):IsFrac w' v b n d:=by
  obtain ⟨s,t,rfl,h1,h2⟩:=h
  exact ⟨s,t,rfl,h1.later hb,h2.later hb⟩
theorem IsFrac.form {w:World} {v:Value} {b:Bool} {n d:Nat} (h:IsFrac w v b n d):∃ a1 l1 c1 a2 l2 c2,v=.agg #[.bool b,.slice a1 l1 c1,.slice a2 l2 c2]∧IsBig w (.agg #[.slice a1 l1 c1]) n∧IsBig w (.agg #[.slice a2 l2 c2]) d:=by
  obtain ⟨s,t,rfl,h1,h2⟩:=h
  obtain ⟨a1,l1,c1,e1⟩:=h1.shape
  obtain ⟨a2,l2,c2,e2⟩:=h2.shape
  simp only[Value.agg.injEq,Array.mk.injEq,List.cons.injEq,and_true] at e1 e2
  subst e1 e2
  exact ⟨a1,l1,c1,a2,l2,c2,rfl,h1,h2⟩
theorem inv_any (v:Value) (b:Bool) (n d:Nat) (w:World) (h:IsFrac w v b n d) :
    Calls Tryz.prog 155 #[v] w fun e w'=>∃ v',e=.returned v'∧IsFrac w' v' b d n∧Below w.heap.size w w':=by
  obtain ⟨a1,l1,c1,a2,l2,c2,rfl,h1,h2⟩:=h.form
  have H1:=hide h1
  have H2:=hide h2
  clear h h1 h2
  go_enter Tryz.func155,Tryz.ntmps155
  go_wp2
  have hb:Below w.heap.size w ((w.alloc (.cells #[.bool b,.slice a1 l1 c1,.slice a2 l2 c2] 82)).alloc (.cells #[.bool b,.slice a2 l2 c2,.slice a1 l1 c1] 82)):=((Below.refl _ _).alloc (Nat.le_refl _) _).alloc (by simp) _
  exact bodyPost_ret (v:=.agg #[.bool b,.slice a2 l2 c2,.slice a1 l1 c1]) (by simp[results,Tryz.results155,go_sem]) rfl ⟨_,rfl,⟨_,_,rfl,(un H2).later hb,(un H1).later hb⟩,hb⟩
def signI (b:Bool) (n:Nat):Int:=if b then -1 else if n=0 then 0 else 1
theorem sign_any (v:Value) (b:Bool) (n d:Nat) (w:World) (h:IsFrac w v b n d) :
    Calls Tryz.prog 68 #[v] w fun e w'=>e=.returned (I (signI b n))∧Below w.heap.size w w':=by
  obtain ⟨a1,l1,c1,a2,l2,c2,rfl,h1,h2⟩:=h.form
  have hb:Below w.heap.size w (w.alloc (.cells #[.bool b,.slice a1 l1 c1,.slice a2 l2 c2] 82)):=(Below.refl _ _).alloc (Nat.le_refl _) _
  have H37:=hide (isZero_any _ n _ (h1.later hb))
  have HB:=hide hb
  clear h h1 h2 hb
  cases b with
  | true=>
    go_enter Tryz.func68,Tryz.ntmps68
    go_wp2
    go_ret
    exact ⟨rfl,un HB⟩
  | false=>
    by_cases hn:n=0
    · subst hn
      go_enter Tryz.func68,Tryz.ntmps68
      go_wp2_with (go_at_call 153;go_must (refine (un H37).mono ?_;rintro e w1 ⟨rfl,hb1⟩;have HB1:=hide ((un HB).trans (hb1.mono (un HB).size));clear hb1))
      go_ret
      exact ⟨rfl,un HB1⟩
    · have e:(n == 0)=false:=by rw[beq_eq_false_iff_ne];exact hn
      have HE:Hid (signI false n=1):=by show _=_;simp[signI,hn]
      rw[e] at H37
      rw[un HE]
      clear e hn HE
      go_enter Tryz.func68,Tryz.ntmps68
      go_wp2_with (go_at_call 153;go_must (refine (un H37).mono ?_;rintro e w1 ⟨rfl,hb1⟩;have HB1:=hide ((un HB).trans (hb1.mono (un HB).size));clear hb1))
      go_ret
      exact ⟨rfl,un HB1⟩
end Go.Proofs.YtamoadanapmmeaaGreatDoor

namespace Go.Proofs.YtamoadanapmmeaaGreatDoor
open Go.RowKit
def OfInv (u:Nat) (L:List Nat) (q:Nat):Prop:=Cub.limbs 1000000000 L∧Cub.lval 1000000000 L+1000000000 ^ L.length*q=u∧(q=0→Cub.normal 1000000000 L)
theorem OfInv.start (u:Nat):OfInv u [] u:=⟨fun _ h=>(by cases h),by simp[Cub.lval],fun _=>Cub.normal_nil _⟩
theorem OfInv.step {u:Nat} {L:List Nat} {q:Nat} (h:OfInv u L q) (hq:0<q):OfInv u (L ++ [q % 1000000000]) (q / 1000000000):=by
  obtain ⟨h1,h2,h3⟩:=h
  have hl:Cub.limbs 1000000000 (L ++ [q % 1000000000]):=Cub.limbs_append.2 ⟨h1,fun x hx=>by simp at hx;subst hx;exact Nat.mod_lt _ (by decide)⟩
  refine ⟨hl,?_,fun h0=>⟨hl,?_⟩⟩
  · rw[Cub.lval_snoc,List.length_append,List.length_singleton,Nat.pow_succ,Nat.mul_assoc,Nat.add_assoc,← Nat.mul_add]
    rw[Nat.mod_add_div];exact h2
  · rw[List.getLast?_append]
    simp
    omega
theorem OfInv.short {u:Nat} {L:List Nat} {q:Nat} (h:OfInv u L q) (hq:0<q) (hu:u<18446744073709551616):L.length≤2:=by
  have h2:=h.2.1
  have h3:1000000000 ^ L.length≤1000000000 ^ L.length*q:=Nat.le_mul_of_pos_right _ hq
  apply Decidable.byContradiction
  intro hc
  have h4:1000000000 ^ 3≤1000000000 ^ L.length:=Nat.pow_le_pow_right (by decide) (by omega)
  omega
set_option maxRecDepth 100000 in
set_option maxHeartbeats 800000 in
theorem bigOf_any (u:Nat) (w:World) (hu:u<18446744073709551616) :
    Calls Tryz.prog 210 #[.int .u64 (u:Int)] w fun e w'=>∃ a n c,e=.returned (.agg #[.slice a n c])∧IsBig w' (.agg #[.slice a n c]) u∧Below w.heap.size w w':=by
  obtain ⟨i0,hi,hz0,hz1,hz2⟩:=info_parts Tryz.info168
  go_enter Tryz.func210,Tryz.ntmps210
  go_wp2
  go_loopw [0,3] (fun t v wr=>∃ (q:Nat) (L:List Nat),t=.int .u64 (q:Int)∧q<18446744073709551616∧L.length≤3∧Hid (OfInv u L q)∧wr.ownsRow (w.heap.size+1) 168 1 v L.length (u64s L)∧Below (w.heap.size+1) (w.alloc (.cells #[.slice none 0 0] 80)) wr) (fun t _ _=>(intOf t).toNat)
  case atStart=>exact ⟨u,[],rfl,hu,by simp,OfInv.start u,⟨rfl,Or.inl ⟨rfl,rfl⟩⟩,Below.refl _ _⟩
  case round=>
    obtain ⟨q,L,rfl,hq,hL,HI,hown,hb⟩:=hrel
    by_cases h0:0<q
    · have hL2:=(un HI).short h0 hu
      have HI':=hide ((un HI).step h0)
      have hr:q % 1000000000<1000000000:=Nat.mod_lt _ (by decide)
      go_wp2_with (at_builtin;refine wpList_append_own _ rfl _ _ 78 rfl (w.heap.size+1) 168 i0 (.int .u64 0) 1 8 Tryz.underlying78 hi hz0 hz1 hz2 rfl (by decide) _ _ _ rfl (hown.alloc _) ⟨wr.heap.size,0,none⟩ 1 1 [.int .u64 ((q % 1000000000:Nat):Int)] rfl rfl (cell_one_new _ _ _) (fun x hx=>by simp at hx;subst hx;rfl) (by unfold maxLen;omega) (by omega) (by have:=hb.size;simp at this ⊢;omega) ?_;intro v' w1 hown' hgrow _)
      have hsz:=hb.size
      have hb':Below (w.heap.size+1) (w.alloc (.cells #[.slice none 0 0] 80)) w1:=(hb.alloc (by simp at hsz;omega) _).grown hgrow (by simp at hsz ⊢;omega) (fun j hj=>(hown.lt j hj).1)
      have hown2:w1.ownsRow (w.heap.size+1) 168 1 v' (L ++ [q % 1000000000]).length (u64s (L ++ [q % 1000000000])):=by simpa [u64s] using hown'
      clear hgrow hown' hown hsz
      go_wp2
      go_roundw
      case rel=>exact ⟨q / 1000000000,L ++ [q % 1000000000],by go_num,by omega,by simp;omega,HI',hown2,hb'⟩
      case measure=>simp[intOf];omega
    · have hq0:q=0:=by omega
      subst hq0
      have hrow:=Row.of_own hown
      have HF:Hid (Cub.lval 1000000000 L=u∧Cub.normal 1000000000 L):=⟨by have:=(un HI).2.1;simpa using this,(un HI).2.2 rfl⟩
      have hsz:w.heap.size+1≤wr.heap.size:=by have:=hb.size;simpa using this
      have hc0:wr.cell? ⟨w.heap.size,0,none⟩=some (.slice none 0 0):=by rw[hb.cell (p:=⟨w.heap.size,0,none⟩) (by simp)];simp
      have hf0:wr.frozen? ⟨w.heap.size,0,none⟩=false:=by rw[hb.frozen (p:=⟨w.heap.size,0,none⟩) (by simp)];simp
      obtain ⟨a2,cap2,rfl,hcap2⟩:=hrow.form
      have HRow:=hide hrow
      clear hrow hown
      go_wp2
      refine bodyPost_ret (v:=.agg #[.slice a2 L.length cap2]) (by simp[results,Tryz.results210,go_sem,hc0]) rfl ⟨_,_,_,rfl,?_,?_⟩
      · exact ⟨_,_,rfl,(un HRow).box _ hc0 (fun _ _ h=>by cases h),(un HF).2,(un HF).1⟩
      · exact (((Below.refl _ _).alloc (Nat.le_refl _) _).trans (hb.mono (Nat.le_succ _))).setCell (Nat.le_refl _) _
end Go.Proofs.YtamoadanapmmeaaGreatDoor

namespace Go.Proofs.YtamoadanapmmeaaGreatDoor
open Go.RowKit
structure FBox (W:World) (g:Nat) (x y z:Value):Prop where
  c0:W.cell? ⟨g,0,none⟩=some x
  c1:W.cell? ⟨g,1,none⟩=some y
  c2:W.cell? ⟨g,2,none⟩=some z
  f0:W.frozen? ⟨g,0,none⟩=false
  f1:W.frozen? ⟨g,1,none⟩=false
  f2:W.frozen? ⟨g,2,none⟩=false
theorem FBox.lt {W:World} {g:Nat} {x y z:Value} (h:FBox W g x y z):g<W.heap.size:=World.block_lt_of_cell? _ _ h.c0
theorem FBox.later {W V:World} {g:Nat} {x y z:Value} (h:FBox W g x y z) (hb:Below W.heap.size W V):FBox V g x y z :=
  ⟨(hb.cell (p:=⟨g,0,none⟩) h.lt).trans h.c0,(hb.cell (p:=⟨g,1,none⟩) h.lt).trans h.c1,(hb.cell (p:=⟨g,2,none⟩) h.lt).trans h.c2,
    (hb.frozen (p:=⟨g,0,none⟩) h.lt).trans h.f0,(hb.frozen (p:=⟨g,1,none⟩) h.lt).trans h.f1,(hb.frozen (p:=⟨g,2,none⟩) h.lt).trans h.f2⟩
def store3 (W:World) (g:Nat) (x y z:Value):World:=((W.setCell ⟨g,0,none⟩ x).setCell ⟨g,1,none⟩ y).setCell ⟨g,2,none⟩ z
theorem FBox.store {W:World} {g:Nat} {x y z:Value} (h:FBox W g x y z) (x' y' z':Value):FBox (store3 W g x' y' z') g x' y' z':=by
  have a1:(W.setCell ⟨g,0,none⟩ x').cell? ⟨g,1,none⟩=some y:=by rw[World.cell?_setCell_other _ _ _ _ (by simp)];exact h.c1
  have a2:((W.setCell ⟨g,0,none⟩ x').setCell ⟨g,1,none⟩ y').cell? ⟨g,2,none⟩=some z:=by rw[World.cell?_setCell_other _ _ _ _ (by simp),World.cell?_setCell_other _ _ _ _ (by simp)];exact h.c2
  unfold store3
  refine ⟨?_,?_,World.cell?_setCell_same _ _ _ a2,?_,?_,?_⟩
  · rw[World.cell?_setCell_other _ _ _ _ (by simp),World.cell?_setCell_other _ _ _ _ (by simp)];exact World.cell?_setCell_same _ _ _ h.c0
  · rw[World.cell?_setCell_other _ _ _ _ (by simp)];exact World.cell?_setCell_same _ _ _ a1
  · rw[World.frozen?_setCell,World.frozen?_setCell,World.frozen?_setCell];exact h.f0
  · rw[World.frozen?_setCell,World.frozen?_setCell,World.frozen?_setCell];exact h.f1
  · rw[World.frozen?_setCell,World.frozen?_setCell,World.frozen?_setCell];exact h.f2
theorem FBox.big {W:World} {g:Nat} {b:Bool} {a1 a2:Option Addr} {l1 c1 l2 c2:Nat} (h:FBox W g (.bool b) (.slice a1 l1 c1) (.slice a2 l2 c2)) (x' y' z':Value) {v:Value} {n:Nat} (hv:IsBig W v n):IsBig (store3 W g x' y' z') v n:=by
  have e1:(W.setCell ⟨g,0,none⟩ x').cell? ⟨g,1,none⟩=some (.slice a1 l1 c1):=by rw[World.cell?_setCell_other _ _ _ _ (by simp)];exact h.c1
  have e2:((W.setCell ⟨g,0,none⟩ x').setCell ⟨g,1,none⟩ y').cell? ⟨g,2,none⟩=some (.slice a2 l2 c2):=by rw[World.cell?_setCell_other _ _ _ _ (by simp),World.cell?_setCell_other _ _ _ _ (by simp)];exact h.c2
  exact ((hv.box _ h.c0 (fun _ _ e=>by cases e)).box _ e1 (not_int _ _ _)).box _ e2 (not_int _ _ _)
theorem below_store3 {B g:Nat} {w W:World} (h:Below B w W) (hg:B≤g) (x y z:Value):Below B w (store3 W g x y z) :=
  ((h.setCell (p:=⟨g,0,none⟩) hg x).setCell (p:=⟨g,1,none⟩) hg y).setCell (p:=⟨g,2,none⟩) hg z
set_option maxRecDepth 100000 in
theorem whole_any (u:Nat) (w:World) (hu:u<18446744073709551616) :
    Calls Tryz.prog 154 #[.int .u64 (u:Int)] w fun e w'=>∃ v',e=.returned v'∧IsFrac w' v' false u 1∧Below w.heap.size w w':=by
  have HB0:Hid (Below w.heap.size w (w.alloc (.cells #[.bool false,.slice none 0 0,.slice none 0 0] 82))):=(Below.refl _ _).alloc (Nat.le_refl _) _
  have H1:=hide (bigOf_any u (w.alloc (.cells #[.bool false,.slice none 0 0,.slice none 0 0] 82)) hu)
  have H2:=hide (fun W=>bigOf_any 1 W (by omega))
  have HC:Hid (∀ W,Below (w.heap.size+1) (w.alloc (.cells #[.bool false,.slice none 0 0,.slice none 0 0] 82)) W→W.cell? ⟨w.heap.size,0,none⟩=some (.bool false)∧W.cell? ⟨w.heap.size,1,none⟩=some (.slice none 0 0)∧W.cell? ⟨w.heap.size,2,none⟩=some (.slice none 0 0)∧W.frozen? ⟨w.heap.size,0,none⟩=false∧W.frozen? ⟨w.heap.size,1,none⟩=false∧W.frozen? ⟨w.heap.size,2,none⟩=false):=fun W hb=>by
    refine ⟨?_,?_,?_,?_,?_,?_⟩
    · rw[hb.cell (p:=⟨w.heap.size,0,none⟩) (show w.heap.size<w.heap.size+1 by omega)];simp[go_sem]
    · rw[hb.cell (p:=⟨w.heap.size,1,none⟩) (show w.heap.size<w.heap.size+1 by omega)];simp[go_sem]
    · rw[hb.cell (p:=⟨w.heap.size,2,none⟩) (show w.heap.size<w.heap.size+1 by omega)];simp[go_sem]
    · rw[hb.frozen (p:=⟨w.heap.size,0,none⟩) (show w.heap.size<w.heap.size+1 by omega)];simp[go_sem]
    · rw[hb.frozen (p:=⟨w.heap.size,1,none⟩) (show w.heap.size<w.heap.size+1 by omega)];simp[go_sem]
    · rw[hb.frozen (p:=⟨w.heap.size,2,none⟩) (show w.heap.size<w.heap.size+1 by omega)];simp[go_sem]
  clear hu
  go_enter Tryz.func154,Tryz.ntmps154
  go_wp2_with (first
    | (go_at_call_of 210 (Value.int .u64 (u:Int));go_must (refine (un H1).mono ?_;rintro e w1 ⟨a1,l1,c1,rfl,hv1,hb1⟩;have HV1:=hide hv1;have HB1:=hide hb1;have hs1:=hb1.size;clear hv1 hb1))
    | (go_at_call 210;go_must (refine (un H2 w1).mono ?_;rintro e w2 ⟨a2,l2,c2,rfl,hv2,hb2⟩;have HV2:=hide hv2;have HV1':=hide ((un HV1).later hb2);have HB2:=hide ((un HB1).trans (hb2.mono hs1));have h1:w.heap.size+1≤(w.alloc (.cells #[.bool false,.slice none 0 0,.slice none 0 0] 82)).heap.size:=(by simp);obtain ⟨q0,q1,q2,g0,g1,g2⟩:=un HC w2 ((un HB2).mono h1);clear hv2 hb2)))
  have hF:FBox w2 w.heap.size (.bool false) (.slice none 0 0) (.slice none 0 0):=⟨q0,q1,q2,g0,g1,g2⟩
  have hS:=hF.store (.bool false) (.slice a1 l1 c1) (.slice a2 l2 c2)
  have hb:Below w.heap.size w (store3 w2 w.heap.size (.bool false) (.slice a1 l1 c1) (.slice a2 l2 c2)):=below_store3 ((un HB0).trans ((un HB2).mono (by simp))) (Nat.le_refl _) _ _ _
  have r0:=hS.c0;have r1:=hS.c1;have r2:=hS.c2
  exact bodyPost_ret (v:=.agg #[.bool false,.slice a1 l1 c1,.slice a2 l2 c2]) (w:=store3 w2 w.heap.size (.bool false) (.slice a1 l1 c1) (.slice a2 l2 c2)) (by simp[results,Tryz.results154,go_sem,r0,r1,r2]) rfl ⟨_,rfl,⟨_,_,rfl,hF.big _ _ _ (un HV1'),hF.big _ _ _ (un HV2)⟩,hb⟩
end Go.Proofs.YtamoadanapmmeaaGreatDoor

namespace Go.Proofs.YtamoadanapmmeaaGreatDoor
open Go.RowKit
theorem FBox.other {W:World} {g k:Nat} {x y z:Value} (h:FBox W g x y z) (hk:g≠k) (u:Value):FBox (W.setCell ⟨k,0,none⟩ u) g x y z :=
  ⟨by rw[World.cell?_setCell_other _ _ _ _ (by intro e;cases e;exact hk rfl)];exact h.c0,by rw[World.cell?_setCell_other _ _ _ _ (by intro e;cases e)];exact h.c1,by rw[World.cell?_setCell_other _ _ _ _ (by intro e;cases e)];exact h.c2,
    by rw[World.frozen?_setCell];exact h.f0,by rw[World.frozen?_setCell];exact h.f1,by rw[World.frozen?_setCell];exact h.f2⟩
structure RSt (w W:World) (u v:Value):Prop where
  b1:Box W w.heap.size u
  b2:Box W (w.heap.size+1) v
  b3:FBox W (w.heap.size+1+1) (.bool false) (.slice none 0 0) (.slice none 0 0)
  below:Below w.heap.size w W
theorem RSt.later {w W V:World} {u v:Value} (s:RSt w W u v) (hb:Below W.heap.size W V):RSt w V u v :=
  ⟨s.b1.later hb,s.b2.later hb,s.b3.later hb,s.below.trans (hb.mono s.below.size)⟩
theorem RSt.first (w:World) (u v:Value):RSt w (((w.alloc (.cells #[u] 80)).alloc (.cells #[v] 80)).alloc (.cells #[.bool false,.slice none 0 0,.slice none 0 0] 82)) u v :=
  ⟨⟨by simp[go_sem],by simp[go_sem]⟩,⟨by simp[go_sem],by simp[go_sem]⟩,⟨by simp[go_sem],by simp[go_sem],by simp[go_sem],by simp[go_sem],by simp[go_sem],by simp[go_sem]⟩,
    (((Below.refl _ _).alloc (Nat.le_refl _) _).alloc (by simp) _).alloc (by simp;omega) _⟩
theorem RSt.both {w W:World} {u v:Value} (s:RSt w W u v) (x y:Value):RSt w ((W.setCell ⟨w.heap.size,0,none⟩ x).setCell ⟨w.heap.size+1,0,none⟩ y) x y :=
  ⟨(s.b1.set x).other (by omega) y,(s.b2.other (by omega) x).set y,(s.b3.other (by omega) x).other (by omega) y,(s.below.setCell (by simp) _).setCell (by simp) _⟩
end Go.Proofs.YtamoadanapmmeaaGreatDoor

namespace Go.Proofs.YtamoadanapmmeaaGreatDoor
open Go.RowKit
structure F2 (w W:World) (x0 x1 x2 y0 y1 y2:Value):Prop where
  x:FBox W w.heap.size x0 x1 x2
  y:FBox W (w.heap.size+1) y0 y1 y2
  below:Below w.heap.size w W
theorem F2.later {w W V:World} {x0 x1 x2 y0 y1 y2:Value} (s:F2 w W x0 x1 x2 y0 y1 y2) (hb:Below W.heap.size W V):F2 w V x0 x1 x2 y0 y1 y2 :=
  ⟨s.x.later hb,s.y.later hb,s.below.trans (hb.mono s.below.size)⟩
theorem F2.first (w:World) (x0 x1 x2 y0 y1 y2:Value):F2 w ((w.alloc (.cells #[x0,x1,x2] 82)).alloc (.cells #[y0,y1,y2] 82)) x0 x1 x2 y0 y1 y2 :=
  ⟨⟨by simp[go_sem],by simp[go_sem],by simp[go_sem],by simp[go_sem],by simp[go_sem],by simp[go_sem]⟩,⟨by simp[go_sem],by simp[go_sem],by simp[go_sem],by simp[go_sem],by simp[go_sem],by simp[go_sem]⟩,
    ((Below.refl _ _).alloc (Nat.le_refl _) _).alloc (by simp) _⟩
theorem signI_val {b:Bool} {n d:Nat} (h:Cub.Low b n d):signI b n=Cub.cmpQ (Cub.valQ b n d) 0:=Cub.sign_val h
end Go.Proofs.YtamoadanapmmeaaGreatDoor

namespace Go.Proofs.YtamoadanapmmeaaGreatDoor
open Go.RowKit
theorem Box.new (W:World) (v:Value):Box (W.alloc (.cells #[v] 80)) W.heap.size v:=⟨by simp[go_sem],by simp[go_sem]⟩
structure AS (w W:World) (x0 x1 x2 y0 y1 y2:Value) (L:List (Nat×Value)):Prop where
  x:FBox W w.heap.size x0 x1 x2
  y:FBox W (w.heap.size+1) y0 y1 y2
  r:FBox W (w.heap.size+1+1) (.bool false) (.slice none 0 0) (.slice none 0 0)
  bx:∀ p∈L,Box W p.1 p.2
  gt:∀ p∈L,w.heap.size+1+1<p.1
  below:Below w.heap.size w W
theorem AS.later {w W V:World} {x0 x1 x2 y0 y1 y2:Value} {L:List (Nat×Value)} (s:AS w W x0 x1 x2 y0 y1 y2 L) (hb:Below W.heap.size W V):AS w V x0 x1 x2 y0 y1 y2 L :=
  ⟨s.x.later hb,s.y.later hb,s.r.later hb,fun p hp=>(s.bx p hp).later hb,s.gt,s.below.trans (hb.mono s.below.size)⟩
theorem AS.first (w:World) (x0 x1 x2 y0 y1 y2:Value):AS w (((w.alloc (.cells #[x0,x1,x2] 82)).alloc (.cells #[y0,y1,y2] 82)).alloc (.cells #[.bool false,.slice none 0 0,.slice none 0 0] 82)) x0 x1 x2 y0 y1 y2 [] :=
  ⟨⟨by simp[go_sem],by simp[go_sem],by simp[go_sem],by simp[go_sem],by simp[go_sem],by simp[go_sem]⟩,⟨by simp[go_sem],by simp[go_sem],by simp[go_sem],by simp[go_sem],by simp[go_sem],by simp[go_sem]⟩,
    ⟨by simp[go_sem],by simp[go_sem],by simp[go_sem],by simp[go_sem],by simp[go_sem],by simp[go_sem]⟩,(fun _ h=>by cases h),(fun _ h=>by cases h),
    (((Below.refl _ _).alloc (Nat.le_refl _) _).alloc (by simp) _).alloc (by simp;omega) _⟩
theorem AS.push {w W:World} {x0 x1 x2 y0 y1 y2:Value} {L:List (Nat×Value)} (s:AS w W x0 x1 x2 y0 y1 y2 L) (v:Value):AS w (W.alloc (.cells #[v] 80)) x0 x1 x2 y0 y1 y2 ((W.heap.size,v) :: L):=by
  have t:=s.later ((Below.refl W.heap.size W).alloc (Nat.le_refl _) (.cells #[v] 80))
  refine ⟨t.x,t.y,t.r,?_,?_,t.below⟩
  · intro p hp
    rcases List.mem_cons.1 hp with rfl|hp
    · exact ⟨by simp[go_sem],by simp[go_sem]⟩
    · exact t.bx p hp
  · intro p hp
    rcases List.mem_cons.1 hp with rfl|hp
    · exact s.r.lt
    · exact t.gt p hp
theorem AS.add {w W:World} {x0 x1 x2 y0 y1 y2 v:Value} {g:Nat} {L:List (Nat×Value)} (s:AS w W x0 x1 x2 y0 y1 y2 L) (hb:Box W g v) (hg:w.heap.size+1+1<g):AS w W x0 x1 x2 y0 y1 y2 ((g,v) :: L):=by
  refine ⟨s.x,s.y,s.r,?_,?_,s.below⟩
  · intro p hp
    rcases List.mem_cons.1 hp with rfl|hp
    · exact hb
    · exact s.bx p hp
  · intro p hp
    rcases List.mem_cons.1 hp with rfl|hp
    · exact hg
    · exact s.gt p hp
theorem AS.set {w W:World} {x0 x1 x2 y0 y1 y2 v:Value} {g:Nat} {L:List (Nat×Value)} (s:AS w W x0 x1 x2 y0 y1 y2 ((g,v) :: L)) (h:∀ p∈L,p.1≠g) (u:Value):AS w (W.setCell ⟨g,0,none⟩ u) x0 x1 x2 y0 y1 y2 ((g,u) :: L):=by
  have hg:w.heap.size+1+1<g:=s.gt (g,v) (by simp)
  refine ⟨s.x.other (by omega) u,s.y.other (by omega) u,s.r.other (by omega) u,?_,?_,s.below.setCell (by show w.heap.size≤g;omega) _⟩
  · intro p hp
    rcases List.mem_cons.1 hp with rfl|hp
    · exact (s.bx (g,v) (by simp)).set u
    · exact (s.bx p (by simp[hp])).other (h p hp) u
  · intro p hp
    rcases List.mem_cons.1 hp with rfl|hp
    · exact hg
    · exact s.gt p (by simp[hp])
end Go.Proofs.YtamoadanapmmeaaGreatDoor

namespace Go.Proofs.YtamoadanapmmeaaGreatDoor
open Go.RowKit
theorem run_copy_size {P:Program} (w:World) (dT sT ty elem:TypeId) (b o dLen dCap:Nat) (a:Addr) (sLen sCap S:Nat) (cs:List Value)
    (hu:P.underlying dT=some (.slice elem)) (hs:(P.info? elem).map (·.size)=some S) (hn:cs.length=Nat.min sLen dLen*S)
    (hsrc:∀ j v,cs[j]?=some v→w.cell? (a.add j)=some v) (hc:∀ j,j<cs.length→(w.cell? ⟨b,o+j,none⟩).isSome=true) (hf:∀ j,j<cs.length→w.frozen? ⟨b,o+j,none⟩=false) (h1:∀ v∈cs,v.oneCell'=true) :
    (Builtin.copy_ #[dT,sT] ty #[.slice (some ⟨b,o,none⟩) dLen dCap,.slice (some a) sLen sCap]).run P w=.ok (goInt (Nat.min sLen dLen)) (w.setCells b o cs):=by
  have hl:=run_loadCells_list (P:=P) w a cs hsrc
  have hst:=run_storeCells_cells (P:=P) b o cs 0 w (by simpa using hc) (by simpa using hf) h1
  cases hq:P.info? elem with
  | none=>simp[hq] at hs
  | some i=>
    have hi:i.size=S:=by simpa [hq] using hs
    simp[Builtin.copy_,run_underlying hu,Builtin.lenOf,Builtin.firstCells,sizeOf,typeInfo,hq,hi,← hn,hl,hst]
theorem Tryz.elem111:Tryz.prog.underlying 224=some (.slice 82):=by kernel_rfl
theorem Tryz.size82:(Tryz.prog.info? 82).map (·.size)=some 3:=by kernel_rfl
theorem copy_two (B:Nat) (b c:Bool) (a1 a2 a3 a4:Option Addr) (l1 d1 l2 d2 l3 d3 l4 d4:Nat) (w:World)
    (c0:w.cell? ⟨B,0,none⟩=some (.bool b)) (c1:w.cell? ⟨B,1,none⟩=some (.slice a1 l1 d1)) (c2:w.cell? ⟨B,2,none⟩=some (.slice a2 l2 d2)) (c3:w.cell? ⟨B,3,none⟩=some (.bool c)) (c4:w.cell? ⟨B,4,none⟩=some (.slice a3 l3 d3)) (c5:w.cell? ⟨B,5,none⟩=some (.slice a4 l4 d4)) :
    (Builtin.copy_ #[224,224] 3 #[.slice (some ⟨w.heap.size,0,none⟩) 2 2,.slice (some ⟨B,0,none⟩) 2 2]).run Tryz.prog (w.alloc (.cells #[.bool false,.slice none 0 0,.slice none 0 0,.bool false,.slice none 0 0,.slice none 0 0] 82)) =
      .ok (I 2) (w.alloc (.cells #[.bool b,.slice a1 l1 d1,.slice a2 l2 d2,.bool c,.slice a3 l3 d3,.slice a4 l4 d4] 82)):=by
  have hB:B<w.heap.size:=World.block_lt_of_cell? _ _ c0
  have hne:∀ k,(w.alloc (.cells #[.bool false,.slice none 0 0,.slice none 0 0,.bool false,.slice none 0 0,.slice none 0 0] 82)).cell? ⟨B,k,none⟩=w.cell? ⟨B,k,none⟩:=fun k=>
    ((Below.refl w.heap.size w).alloc (Nat.le_refl _) _).cell (p:=⟨B,k,none⟩) hB
  have:=run_copy_size (P:=Tryz.prog) (w.alloc (.cells #[.bool false,.slice none 0 0,.slice none 0 0,.bool false,.slice none 0 0,.slice none 0 0] 82)) 224 224 3 82 w.heap.size 0 2 2 ⟨B,0,none⟩ 2 2 3 [.bool b,.slice a1 l1 d1,.slice a2 l2 d2,.bool c,.slice a3 l3 d3,.slice a4 l4 d4] Tryz.elem111 Tryz.size82 rfl
    (by
      intro j v hv
      have hj:j<6:=by have:=(List.getElem?_eq_some_iff.1 hv).1;simpa using this
      have e:(⟨B,0,none⟩:Addr).add j=⟨B,j,none⟩:=by unfold Addr.add;split<;>simp_all
      rw[e,hne]
      match j,hj with
      | 0,_=>rw[c0];exact hv
      | 1,_=>rw[c1];exact hv
      | 2,_=>rw[c2];exact hv
      | 3,_=>rw[c3];exact hv
      | 4,_=>rw[c4];exact hv
      | 5,_=>rw[c5];exact hv)
    (by
      intro j hj
      have hj:j<6:=by simpa using hj
      match j,hj with
      | 0,_=>simp[go_sem]
      | 1,_=>simp[go_sem]
      | 2,_=>simp[go_sem]
      | 3,_=>simp[go_sem]
      | 4,_=>simp[go_sem]
      | 5,_=>simp[go_sem])
    (by intro j hj;simp[go_sem])
    (by intro v hv;simp at hv;rcases hv with rfl|rfl|rfl|rfl|rfl|rfl<;>rfl)
  rw[this]
  simp[World.setCells,go_sem,goInt]
end Go.Proofs.YtamoadanapmmeaaGreatDoor

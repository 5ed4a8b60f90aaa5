/- (Big).first: the first digits. -/
import Derived.Test.YtliadckofhblnaaGreatDoorTakeB
import Derived.Test.YtliadckofhblnaaGreatDoorAdd
import Derived.Deep.QuietTactic
import Derived.BigQuiet
import Derived.WalkSmall
import Derived.Deep.Cut
import Derived.Deep.CutRange
import Derived.Deep.RegionWith
import Derived.Laws.IdiomCopy
import Derived.OwnWalk
import Derived.WalkMore
import Derived.LoopN
set_option maxHeartbeats 8000000
set_option maxRecDepth 100000
namespace Cub
structure Acc (B:Nat) (O:List Nat) (c p V:Nat):Prop where
 lim:limbs B O
 val:lval B O+B ^ p*c=V
theorem Acc.step {B:Nat} {O:List Nat} {c p V:Nat} (h:Acc B O c p V) (hB:0<B) (hp:p<O.length) (t:Nat) :
  Acc B (O.set p ((c+O[p]+t) % B)) ((c+O[p]+t) / B) (p+1) (V+B ^ p*t):=by
 refine⟨limbs_set h.lim p _ (Nat.mod_lt _ hB),?_⟩
 have e1:=lval_set B O p ((c+O[p]+t) % B) hp
 have e2:=h.val
 have e3:c+O[p]+t=B*((c+O[p]+t) / B)+(c+O[p]+t) % B:=(Nat.div_add_mod _ _).symm
 generalize (c+O[p]+t) / B=q at *
 generalize (c+O[p]+t) % B=r at *
 have e4:=congrArg (B ^ p*·) e3
 simp only[Nat.mul_add]at e4
 rw[Nat.pow_succ]
 have m1:B ^ p*B*q=B ^ p*(B*q):=Nat.mul_assoc _ _ _
 omega
theorem Acc.none {B:Nat} {O:List Nat} {c p V:Nat} (h:Acc B O c p V) (hV:V<B ^ p):c=0:=by
 rcases Nat.eq_zero_or_pos c with h0|h0
 ·exact h0
 ·have:B ^ p*1≤B ^ p*c:=Nat.mul_le_mul_left _ h0
  have:=h.val
  omega
theorem carry_lt (B c o x y:Nat) (hc:c<B) (ho:o<B) (hx:x<B) (hy:y<B):(c+o+x*y) / B<B:=by
 apply Nat.div_lt_of_lt_mul
 obtain⟨b,rfl⟩:∃b,B=b+1:=⟨B - 1,by omega⟩
 have h1:x*y≤b*b:=Nat.mul_le_mul (by omega) (by omega)
 have h2:(b+1)*(b+1)=b*b+b+b+1:=by rw[Nat.add_mul,Nat.mul_add];omega
 omega
theorem carry_lt' (B c o:Nat) (hc:c<B) (ho:o<B) (hB:2≤B):(c+o) / B<B:=by
 apply Nat.div_lt_of_lt_mul
 have:B*2≤B*B:=Nat.mul_le_mul_left _ hB
 omega
theorem get_zero {B:Nat} {O:List Nat} {p:Nat} (h:lval B O<B ^ p) (hp:p<O.length):O[p]=0:=by
 rcases Nat.eq_zero_or_pos O[p]with h0|h0
 ·exact h0
 ·have e:=lval_set B O p 0 hp
  have:B ^ p*1≤B ^ p*O[p]:=Nat.mul_le_mul_left _ h0
  omega
theorem mul_lt (B:Nat) (x y:List Nat) (hx:limbs B x) (hy:limbs B y) (i:Nat):lval B (x.take i)*lval B y<B ^ (i+y.length)∨B=0:=by
 rcases Nat.eq_zero_or_pos B with h0|h0
 ·exact Or.inr h0
 ·left
  have h1:=lval_lt (B:=B) (l:=x.take i) (fun z hz=>hx z (List.mem_of_mem_take hz))
  have h2:=lval_lt hy
  have h3:B ^ (x.take i).length≤B ^ i:=Nat.pow_le_pow_right h0 (List.length_take_le _ _)
  rw[Nat.pow_add]
  exact Nat.mul_lt_mul'' (by omega) h2
theorem lval_zeros (B n:Nat):lval B (List.replicate n 0)=0:=by
 induction n with
 | zero=>rfl
 | succ n ih=>simp[List.replicate_succ,lval,ih]
theorem limbs_zeros (B n:Nat) (hB:0<B):limbs B (List.replicate n 0):=fun x hx=>by
 rw[List.mem_replicate]at hx;omega
theorem val_inner (B a i k:Nat) (y:List Nat) (V:Nat):V+B ^ i*(a*lval B (y.take k))+B ^ (i+k)*(a*y.getD k 0)=V+B ^ i*(a*lval B (y.take (k+1))):=by
 rw[takeB,Nat.mul_add,Nat.mul_add,Nat.pow_add]
 have:B ^ i*(a*(B ^ k*y.getD k 0))=B ^ i*B ^ k*(a*y.getD k 0):=by
  rw[Nat.mul_left_comm a,←Nat.mul_assoc]
 omega
theorem val_outer (B i:Nat) (x y:List Nat):lval B (x.take i)*lval B y+B ^ i*(x.getD i 0*lval B y)=lval B (x.take (i+1))*lval B y:=by
 rw[takeB,Nat.add_mul,Nat.mul_assoc]
end Cub
namespace Go.Proofs.YtliadckofhblnaaGreatDoor
open Go.RowKit
structure OutU (w wr:World) (a b:Value) (N:Nat) (O:List Nat):Prop where
 own:Own wr (w.heap.size+1+1+1) O
 len:O.length=N
 box:Boxes3 w wr a b (.slice none 0 0)
theorem OutU.set {w wr:World} {a b:Value} {N:Nat} {O:List Nat} (h:OutU w wr a b N O) (p x:Nat) (z:Int) (hz:z=(x:Int)):OutU w (wr.setCell ⟨w.heap.size+1+1+1,p,none⟩ (.int .u64 z)) a b N (O.set p x):=by
 subst hz;exact⟨h.own.set p x,by rw[List.length_set];exact h.len,h.box.on ((Below.refl (w.heap.size+3) wr).setCell (p:=⟨w.heap.size+1+1+1,p,none⟩) (show w.heap.size+3≤w.heap.size+1+1+1 by omega) _)⟩
theorem mul_any (x y:Value) (m n k:Nat) (w:World) (hx:zAf w x m) (hy:zAf w y n) (hk:k≤1000000) (hm:m<1000000000 ^ k) (hn:n<1000000000 ^ k) :
 Calls Tryz.prog 151 #[x,y] w fun e w'=>∃v,e=.returned v∧zAf w' v (m*n)∧Bw w w':=by
 obtain⟨ap,lp,cp,rfl,hlp,hrp,hnp,rfl⟩:=hx.form;obtain⟨aq,lq,cq,rfl,hlq,hrq,hnq,rfl⟩:=hy.form;have h1:=Cub.len_le hnp hm;have h2:=Cub.len_le hnq hn;have HP:Hid (Cub.limbs 1000000000 lp∧Cells w ap lp):=⟨hnp.1,hrp.cells.2.2.2⟩;have HQ:Hid (Cub.limbs 1000000000 lq∧Cells w aq lq):=⟨hnq.1,hrq.cells.2.2.2⟩;obtain⟨np,hnp'⟩:∃np,np=lp.length:=⟨_,rfl⟩;obtain⟨nq,hnq'⟩:∃nq,nq=lq.length:=⟨_,rfl⟩;rw[←hnp']at h1 ⊢;rw[←hnq']at h2 ⊢;have HNP:=zAb hnp';have HNQ:=zAb hnq';clear hx hy hm hn hlp hlq hrp hrq hnp hnq hnp' hnq';obtain⟨i0,hi,hz0,hz1,hz2⟩:=info_parts Tryz.info168;go_enter Tryz.func151,Tryz.ntmps151
 go_wp2_with (first
  | (at_make;go_must(refine wpList_make_full _ rfl _ _ 78 rfl (w.heap.size+3) 168 i0 (.int .u64 0) 1 Tryz.underlying78 hi hz0 hz1 .i64 .i64 _ _ (np+nq) rfl rfl (by omega) (by omega) (by rw[hz2];omega) (by unfold maxLen;omega) (by simp) ?_;intro w4 hown4 hgrow4;rw[zDw]at hown4;have hO4:Own w4 (w.heap.size+1+1+1) (List.replicate (np+nq) 0):=(by have:=Own.of_row hown4;simpa using this);have hB4:=boxes3 ((Below.refl (w.heap.size+3) _).grown hgrow4 (by simp) (fun k hk=>by cases hk));have bp4:=hB4.c1;have HO4:Hid (OutU w w4 (.slice ap np cp) (.slice aq nq cq) (np+nq) (List.replicate (np+nq) 0)):=⟨hO4,List.length_replicate ..,hB4⟩;clear hown4 hgrow4 hO4 hB4)))
 go_loopw [22] (fun t wr=>∃(i:Nat) (O:List Nat),t=I (i:Int)∧i≤np∧Hid (OutU w wr (.slice ap np cp) (.slice aq nq cq) (np+nq) O)∧Hid (Cub.limbs 1000000000 O∧Cub.lval 1000000000 O=Cub.lval 1000000000 (lp.take i)*Cub.lval 1000000000 lq)) (fun t _=>np - (intOf t).toNat)
 case atStart=>exact⟨0,_,rfl,by omega,HO4,⟨Cub.limbs_zeros _ _ (by decide),by rw[Cub.lval_zeros];simp[Cub.lval]⟩⟩
 case round=>
  obtain⟨i,O,rfl,hi',HO,HV⟩:=hrel;clear bp4;have bq:=(un HO).box.c2
  by_cases hin:i<np
  ·have hil:i<lp.length:=by have:=un HNP;omega
   obtain⟨xv,hxv⟩:∃xv,xv=lp[i]:=⟨_,rfl⟩;have hxB:xv<1000000000:=by rw[hxv];exact(un HP).1 _ (List.getElem_mem hil)
   have HXV:Hid (lp.getD i 0=xv):=by rw[hxv,List.getD_eq_getElem?_getD,List.getElem?_eq_getElem hil];exact rfl
   obtain⟨b1,o1,rfl,hcx⟩:=(un HP).2 wr (un HO).box.below i hil;rw[←hxv]at hcx;clear hxv
   by_cases hx0:xv=0
   ·subst hx0
    have HVn:Hid (Cub.limbs 1000000000 O∧Cub.lval 1000000000 O=Cub.lval 1000000000 (lp.take (i+1))*Cub.lval 1000000000 lq):=by
     refine⟨(un HV).1,?_⟩;rw[←Cub.val_outer,un HXV,(un HV).2];simp
    go_wp2
    go_roundw
    case rel=>exact⟨i+1,O,by go_num,by omega,HO,HVn⟩
    case measure=>simp[intOf];omega
   ·have hxz:((xv:Int) == 0)=false:=by rw[beq_eq_false_iff_ne];omega
    have HA0:Hid (Cub.Acc 1000000000 O 0 (i+0) (Cub.lval 1000000000 (lp.take i)*Cub.lval 1000000000 lq+1000000000 ^ i*(xv*Cub.lval 1000000000 (lq.take 0)))):=by
     refine⟨(un HV).1,?_⟩;rw[(un HV).2];simp[Cub.lval]
    have HZ0:Hid (∀p (hp:p<O.length),i+nq≤p→O[p]=0):=fun p hp hip=>by
     apply Cub.get_zero (B:=1000000000) (p:=p) _ hp
     rw[(un HV).2];rcases Cub.mul_lt 1000000000 lp lq (un HP).1 (un HQ).1 i with h|h
     ·refine Nat.lt_of_lt_of_le h (Nat.pow_le_pow_right (by decide) ?_)
      have:=un HNQ;omega
     ·omega
    generalize hV0:Cub.lval 1000000000 (lp.take i)*Cub.lval 1000000000 lq=V0 at *
    have HV0:=zAb hV0;clear hV0 hx0
    go_wp2
    go_loopw [8,32] (fun c t wq=>∃(k j:Nat) (P:List Nat),c=.int .u64 (k:Int)∧t=I (j:Int)∧j≤nq∧k<1000000000∧Hid (OutU w wq (.slice (some ⟨b1,o1,none⟩) np cp) (.slice aq nq cq) (np+nq) P)∧Hid (∀p (hp:p<P.length),i+nq≤p→P[p]=0)∧Hid (Cub.Acc 1000000000 P k (i+j) (V0+1000000000 ^ i*(xv*Cub.lval 1000000000 (lq.take j))))) (fun _ t _=>nq - (intOf t).toNat)
    case atStart=>exact⟨0,0,O,rfl,rfl,by omega,by omega,HO,HZ0,HA0⟩
    case round=>
     clear bq hcx;obtain⟨k,j,P,rfl,rfl,hj,hk,HP',HZ,HA⟩:=hrel;have bq:=(un HP').box.c2
     by_cases hjn:j<nq
     ·have hpl:i+j<P.length:=by rw[(un HP').len];omega
      have hjl:j<lq.length:=by have:=un HNQ;omega
      obtain⟨ov,hov⟩:∃ov,ov=P[i+j]:=⟨_,rfl⟩;have hoB:ov<1000000000:=by rw[hov];exact(un HA).lim _ (List.getElem_mem hpl)
      have hco:=(un HP').own.cell (i+j) hpl;rw[←hov]at hco;have hfo:=(un HP').own.frozen (i+j);obtain⟨yv,hyv⟩:∃yv,yv=lq[j]:=⟨_,rfl⟩;have hyB:yv<1000000000:=by rw[hyv];exact(un HQ).1 _ (List.getElem_mem hjl)
      obtain⟨b2,o2,rfl,hcy⟩:=(un HQ).2 wr (un HP').box.below j hjl;rw[←hyv]at hcy;have HYV:Hid (lq.getD j 0=yv):=by rw[hyv,List.getD_eq_getElem?_getD,List.getElem?_eq_getElem hjl];exact rfl
      obtain⟨m,hm⟩:∃m,m=xv*yv:=⟨_,rfl⟩;have hmB:m≤999999998000000001:=by rw[hm];exact Nat.mul_le_mul (show xv≤999999999 by omega) (show yv≤999999999 by omega)
      have hmul:(xv:Int)*(yv:Int)=(m:Int):=by rw[hm];simp
      have HA':Hid (Cub.Acc 1000000000 (P.set (i+j) ((k+ov+m) % 1000000000)) ((k+ov+m) / 1000000000) (i+(j+1)) (V0+1000000000 ^ i*(xv*Cub.lval 1000000000 (lq.take (j+1))))):=by
       have h:=(un HA).step (by decide) hpl (xv*lq.getD j 0);rw[Cub.val_inner,un HYV,←hm,←hov]at h;exact h
      have hk':(k+ov+m) / 1000000000<1000000000:=by rw[hm];exact Cub.carry_lt 1000000000 k ov xv yv hk hoB hxB hyB
      have HZ':Hid (∀p (hp:p<(P.set (i+j) ((k+ov+m) % 1000000000)).length),i+nq≤p→(P.set (i+j) ((k+ov+m) % 1000000000))[p]=0):=fun p hp hip=>by
       rw[List.getElem_set_ne (by omega)];exact un HZ p (by rw[List.length_set]at hp;exact hp) hip
      have HPn:Hid (OutU w (wr.setCell ⟨w.heap.size+1+1+1,i+j,none⟩ (.int .u64 (((k:Int)+((ov:Int)+(m:Int))) % 1000000000))) (.slice (some ⟨b1,o1,none⟩) np cp) (.slice (some ⟨b2,o2,none⟩) nq cq) (np+nq) (P.set (i+j) ((k+ov+m) % 1000000000))):=(un HP').set (i+j) ((k+ov+m) % 1000000000) _ (by omega);clear hov hyv hjl hm hpl HA HZ
      go_wp2
      go_roundw
      case rel=>exact⟨(k+ov+m) / 1000000000,j+1,P.set (i+j) ((k+ov+m) % 1000000000),by go_num,by go_num,by omega,hk',HPn,HZ',HA'⟩
      case measure=>simp[intOf];omega
     ·have hje:j=nq:=by omega
      subst hje;have hpl:i+j<P.length:=by rw[(un HP').len];omega
      have hz:=un HZ (i+j) hpl (Nat.le_refl _);have hco:=(un HP').own.cell (i+j) hpl;rw[hz]at hco;have hfo:=(un HP').own.frozen (i+j)
      have HVn:Hid (Cub.limbs 1000000000 (P.set (i+j) k)∧Cub.lval 1000000000 (P.set (i+j) k)=Cub.lval 1000000000 (lp.take (i+1))*Cub.lval 1000000000 lq):=by
       have h:=(un HA).val;rw[List.take_of_length_le (by have:=un HNQ;omega),←un HV0,←un HXV,Cub.val_outer]at h;refine⟨Cub.limbs_set (un HA).lim _ _ hk,?_⟩;have e:=Cub.lval_set 1000000000 P (i+j) k hpl;rw[hz]at e
       omega
      have HPn:Hid (OutU w (wr.setCell ⟨w.heap.size+1+1+1,i+j,none⟩ (.int .u64 (k:Int))) (.slice (some ⟨b1,o1,none⟩) np cp) (.slice aq j cq) (np+j) (P.set (i+j) k)):=(un HP').set (i+j) k _ rfl;clear hpl hz HA HZ
      go_wp2
      go_roundw
      case rel=>exact⟨i+1,P.set (i+j) k,by go_num,by omega,HPn,HVn⟩
      case measure=>simp[intOf];omega
  ·obtain⟨t1,t2,_⟩:=Cub.lval_trim 1000000000 _ O rfl
   have HF:Hid (Cub.normal 1000000000 (Cub.trimN O)∧Cub.lval 1000000000 (Cub.trimN O)=Cub.lval 1000000000 lp*Cub.lval 1000000000 lq):=by
    refine⟨t2 (un HV).1,?_⟩;rw[t1,(un HV).2,List.take_of_length_le (by have:=un HNP;omega)]
   have hsz:=(un HO).box.size;have br:=(un HO).box.c3;have fr:=(un HO).box.f3;clear t1 t2
   go_wp2_with (go_at_call 217;refine(zEi _ O _ ((un HO).own.row (np+nq) (np+nq) (un HO).len.symm (Nat.le_refl _) (by unfold maxLen;omega))).mono ?_;rintro e w6 ⟨v',rfl,hrow6,hb6⟩;obtain⟨a6,cap6,rfl,hcap6⟩:=hrow6.form;obtain⟨hc6,hf6⟩:=zBt hb6 (g:=w.heap.size+1+1) (by omega) br fr)
   refine bodyPost_ret (v:=.agg #[.slice a6 (Cub.trimN O).length cap6]) (by simp[results,Tryz.results151,go_sem,hc6]) rfl ⟨_,rfl,?_,?_⟩
   ·exact⟨_,_,rfl,hrow6.box _ hc6 (zBi _ _ _),(un HF).1,(un HF).2⟩
   ·exact((un HO).box.below.trans (hb6.mono (by omega))).setCell (p:=⟨w.heap.size+1+1,0,none⟩) (show w.heap.size≤w.heap.size+1+1 by omega) _
end Go.Proofs.YtliadckofhblnaaGreatDoor
namespace Cub
structure Ev (x0 y0 x y A B C D:Int):Prop where
 ex:x=A*x0+B*y0
 ey:y=C*x0+D*y0
 sA:0≤A
 sB:B≤0
 sC:C≤0
 sD:0≤D
 det:A*D - B*C=1
 p1:0≤x+A
 p2:0≤x+B
 r1:0≤y+C
 r2:0≤y+D
 bA:A≤1000000000
 bB:-1000000000≤B
 bC:-1000000000≤C
 bD:D≤1000000000
theorem Ev.start (x0 y0:Int) (hx:0≤x0) (hy:0≤y0):Ev x0 y0 x0 y0 1 0 0 1:=by
 constructor<;>omega
theorem sq_bound {C y:Int} (h0:0≤C) (h1:C≤y) (h2:C*y<1000000000000000000):C≤1000000000:=by
 apply Decidable.byContradiction
 intro hc
 have h3:1000000000≤y:=by omega
 have h4:1000000000*1000000000≤C*y:=Int.mul_le_mul (by omega) h3 (by omega) (by omega)
 omega
theorem Ev.step {x0 y0 x y A B C D q:Int} (h:Ev x0 y0 x y A B C D) (hq:0≤q) (a1:q*(y+C)≤x+A) (a2:x+A<q*(y+C)+(y+C)) (b1:q*(y+D)≤x+B)
  (hx:x0<1000000000000000000) (hy:y0<1000000000000000000):Ev y0 x0 y (x - q*y) D C (B - q*D) (A - q*C):=by
 have qD:0≤q*D:=Int.mul_nonneg hq h.sD
 have qC:q*C≤0:=Int.mul_nonpos_of_nonneg_of_nonpos hq h.sC
 have e1:q*(y+C)=q*y+q*C:=Int.mul_add ..
 have e2:q*(y+D)=q*y+q*D:=Int.mul_add ..
 have sA:=h.sA;have sB:=h.sB;have sC:=h.sC;have sD:=h.sD
 have ex:=h.ex;have ey:=h.ey;have det:=h.det
 have r1:=h.r1;have r2:=h.r2
 have hy1:0≤x - q*y:=by omega
 have k1:(A - q*C)*y - C*(x - q*y)=y0:=by
  have:(A - q*C)*y - C*(x - q*y)=A*y - C*x:=by grind
  rw[this,ex,ey]
  have:A*(C*x0+D*y0) - C*(A*x0+B*y0)=(A*D - B*C)*y0:=by grind
  rw[this,det,Int.one_mul]
 have k2:(q*D - B)*y+D*(x - q*y)=x0:=by
  have:(q*D - B)*y+D*(x - q*y)=D*x - B*y:=by grind
  rw[this,ex,ey]
  have:D*(A*x0+B*y0) - B*(C*x0+D*y0)=(A*D - B*C)*x0:=by grind
  rw[this,det,Int.one_mul]
 have m1:0≤-(C*(x - q*y)):=by
  have:=Int.mul_nonpos_of_nonpos_of_nonneg sC hy1
  omega
 have m2:0≤D*(x - q*y):=Int.mul_nonneg sD hy1
 have c1:A - q*C≤1000000000:=sq_bound (y:=y) (by omega) (by omega) (by omega)
 have c2:q*D - B≤1000000000:=sq_bound (y:=y) (by omega) (by omega) (by omega)
 refine⟨?_,?_,sD,sC,by omega,by omega,?_,r2,r1,by omega,by omega,h.bD,h.bC,by omega,c1⟩
 ·rw[ey];omega
 ·rw[ex,ey];grind
 ·have:D*(A - q*C) - C*(B - q*D)=A*D - B*C:=by grind
  rw[this,det]
theorem Ev.rest {x0 y0 x y A B C D q b c U P u v:Int} (h:Ev x0 y0 x y A B C D) (hq:0≤q) (a2:x+A<q*(y+C)+(y+C)) (b1:q*(y+D)≤x+B)
  (hb:b*U=x0*P+u) (hc:c*U=y0*P+v) (hu:0≤u) (hu2:u≤P) (hv:0≤v) (hv2:v≤P) (hP:0<P) (hU:0<U) :
  0≤(A*b+B*c) - q*(C*b+D*c)∧(A*b+B*c) - q*(C*b+D*c)<C*b+D*c:=by
 have qD:0≤q*D:=Int.mul_nonneg hq h.sD
 have qC:q*C≤0:=Int.mul_nonpos_of_nonneg_of_nonpos hq h.sC
 have sA:=h.sA;have sB:=h.sB;have sC:=h.sC;have sD:=h.sD
 have ex:=h.ex;have ey:=h.ey
 have e1:U*((A*b+B*c) - q*(C*b+D*c))=(x - q*y)*P+(A - q*C)*u+(B - q*D)*v:=by
  have:U*((A*b+B*c) - q*(C*b+D*c))=A*(b*U)+B*(c*U) - q*(C*(b*U)+D*(c*U)):=by grind
  rw[this,hb,hc,ex,ey];grind
 have e2:U*(C*b+D*c)=y*P+C*u+D*v:=by
  have:U*(C*b+D*c)=C*(b*U)+D*(c*U):=by grind
  rw[this,hb,hc,ey];grind
 have m1:0≤(A - q*C)*u:=Int.mul_nonneg (by omega) hu
 have m2:(B - q*D)*P≤(B - q*D)*v:=Int.mul_le_mul_of_nonpos_left (by omega) hv2
 have m3:0≤((x+B) - q*(y+D))*P:=Int.mul_nonneg (by omega) (by omega)
 have m4:(x - q*y)*P+(B - q*D)*P=((x+B) - q*(y+D))*P:=by grind
 have n1:(A - q*C - C)*u≤(A - q*C - C)*P:=Int.mul_le_mul_of_nonneg_left hu2 (by omega)
 have n2:(B - q*D - D)*v≤0:=Int.mul_nonpos_of_nonpos_of_nonneg (by omega) hv
 have n3:((x+A) - q*(y+C) - (y+C))*P<0:=Int.mul_neg_of_neg_of_pos (by omega) hP
 have n4:(x - q*y)*P - y*P+(A - q*C - C)*P=((x+A) - q*(y+C) - (y+C))*P:=by grind
 have n5:(A - q*C - C)*u=(A - q*C)*u - C*u:=by grind
 have n6:(B - q*D - D)*v=(B - q*D)*v - D*v:=by grind
 refine⟨?_,?_⟩
 ·apply Decidable.byContradiction
  intro hn
  have:U*((A*b+B*c) - q*(C*b+D*c))<0:=Int.mul_neg_of_pos_of_neg hU (by omega)
  omega
 ·apply Decidable.byContradiction
  intro hn
  have h1:U*(C*b+D*c)≤U*((A*b+B*c) - q*(C*b+D*c)):=Int.mul_le_mul_of_nonneg_left (by omega) (by omega)
  omega
theorem gcd_step (b c q:Int):Int.gcd c (b - q*c)=Int.gcd b c:=by
 rw[Int.gcd_comm,Int.sub_eq_add_neg,←Int.neg_mul,Int.gcd_add_mul_right_left]
structure LS (b0 c0 x0 y0 x y A B C D:Int):Prop where
  ev:Ev x0 y0 x y A B C D∨Ev y0 x0 x y B A D C
  gcd:Int.gcd (A*b0+B*c0) (C*b0+D*c0)=Int.gcd b0 c0
  lo:0≤C*b0+D*c0
  le:C*b0+D*c0≤A*b0+B*c0
  now:(A=1∧B=0∧C=0∧D=1)∨(A*b0+B*c0≤c0∧C*b0+D*c0<c0)
  hx:x≤1000000000000000000
  hy:y≤1000000000000000000
theorem LS.start {b0 c0 x0 y0:Int} (h1:0≤c0) (h2:c0≤b0) (hx:0≤x0) (hy:0≤y0) (hx2:x0<1000000000000000000) (hy2:y0<1000000000000000000):LS b0 c0 x0 y0 x0 y0 1 0 0 1:=by
  refine⟨.inl (Ev.start x0 y0 hx hy),?_,by omega,by omega,.inl ⟨rfl,rfl,rfl,rfl⟩,by omega,by omega⟩
  simp
theorem LS.bounds {b0 c0 x0 y0 x y A B C D:Int} (h:LS b0 c0 x0 y0 x y A B C D) :
    0≤x+A∧0≤x+B∧0≤y+C∧0≤y+D∧(-1000000000≤A∧A≤1000000000)∧(-1000000000≤B∧B≤1000000000)∧(-1000000000≤C∧C≤1000000000)∧(-1000000000≤D∧D≤1000000000)∧0≤x∧0≤y∧((0≤A∧B≤0)∨(A≤0∧0≤B))∧((0≤C∧D≤0)∨(C≤0∧0≤D)):=by
  rcases h.ev with h|h
  all_goals (
    have p1:=h.p1;have p2:=h.p2;have r1:=h.r1;have r2:=h.r2;have sA:=h.sA;have sB:=h.sB;have sC:=h.sC;have sD:=h.sD
    have bA:=h.bA;have bB:=h.bB;have bC:=h.bC;have bD:=h.bD
    omega)
theorem quo_facts {a b q:Int} (ha:0≤a) (hb:0≤b) (h0:b≠0) (hq:q=a / b):0≤q∧q*b≤a∧a<q*b+b:=by
  subst hq
  have h1:0<b:=by omega
  refine⟨Int.ediv_nonneg ha hb,Int.ediv_mul_le a h0,?_⟩
  have:=Int.lt_ediv_add_one_mul_self a h1
  rw[Int.add_mul,Int.one_mul]at this
  exact this
theorem LS.step {b0 c0 x0 y0 x y A B C D q U P u v:Int} (h:LS b0 c0 x0 y0 x y A B C D) (e1:y+C≠0) (e2:y+D≠0) (hq1:q=(x+A) / (y+C)) (hq2:q=(x+B) / (y+D))
    (hx0:x0<1000000000000000000) (hy0:y0<1000000000000000000)
    (hb:b0*U=x0*P+u) (hc:c0*U=y0*P+v) (hu:0≤u) (hu2:u≤P) (hv:0≤v) (hv2:v≤P) (hP:0<P) (hU:0<U) :
    LS b0 c0 x0 y0 y (x - q*y) C D (A - q*C) (B - q*D)∧x - q*y<y∧0≤q:=by
  obtain⟨k1,k2,k3,k4,-,-,-,-,k5,k6,-,-⟩:=h.bounds
  obtain⟨q0,f1,f2⟩:=quo_facts k1 k3 e1 hq1
  obtain⟨-,g1,g2⟩:=quo_facts k2 k4 e2 hq2
  clear hq1 hq2
  have hN:(A - q*C)*b0+(B - q*D)*c0=(A*b0+B*c0) - q*(C*b0+D*c0):=by grind
  have E1:q*(y+C)=q*y+q*C:=Int.mul_add ..
  have E2:q*(y+D)=q*y+q*D:=Int.mul_add ..
  have hmain:(Ev x0 y0 y (x - q*y) C D (A - q*C) (B - q*D)∨Ev y0 x0 y (x - q*y) D C (B - q*D) (A - q*C))∧(0≤(A*b0+B*c0) - q*(C*b0+D*c0)∧(A*b0+B*c0) - q*(C*b0+D*c0)<C*b0+D*c0)∧x - q*y<y:=by
    rcases h.ev with h|h
    · refine⟨.inr (h.step q0 f1 f2 g1 hx0 hy0),h.rest q0 f2 g1 hb hc hu hu2 hv hv2 hP hU,?_⟩
      have sA:=h.sA;have sC:=h.sC
      have:=Int.mul_nonpos_of_nonneg_of_nonpos q0 sC
      omega
    · refine⟨.inl (h.step q0 g1 g2 f1 hy0 hx0),?_,?_⟩
      · have:=h.rest q0 g2 f1 hc hb hv hv2 hu hu2 hP hU
        rw[Int.add_comm (B*c0),Int.add_comm (D*c0)]at this
        exact this
      · have sB:=h.sA;have sD:=h.sC
        have:=Int.mul_nonpos_of_nonneg_of_nonpos q0 sD
        omega
  obtain⟨m1,⟨m2,m3⟩,m4⟩:=hmain
  refine⟨⟨m1,?_,by omega,by omega,.inr ?_,h.hy,by have:=h.hy;omega⟩,m4,q0⟩
  · rw[hN,gcd_step];exact h.gcd
  · rw[hN]
    rcases h.now with ⟨rfl,rfl,rfl,rfl⟩|⟨n1,n2⟩
    · omega
    · omega
theorem LS.products {b0 c0 x0 y0 x y A B C D q:Int} (h:LS b0 c0 x0 y0 x y A B C D) (h':LS b0 c0 x0 y0 y (x - q*y) C D (A - q*C) (B - q*D)) (q0:0≤q) :
    (-2000000000≤q*C∧q*C≤2000000000)∧(-2000000000≤q*D∧q*D≤2000000000)∧0≤q*y∧q*y≤1000000000000000000:=by
  obtain⟨-,-,-,-,a1,a2,a3,a4,k5,k6,-,-⟩:=h.bounds
  obtain⟨-,-,-,-,b1,b2,b3,b4,l5,l6,-,-⟩:=h'.bounds
  have:=Int.mul_nonneg q0 k6
  have:=h.hx
  omega
structure TG (lb lc S:List Nat) (t m k:Int) (i:Nat):Prop where
  len:S.length=lb.length
  limbs:limbs 1000000000 S
  eq:(lval 1000000000 (S.take i):Int)+k*(1000000000 ^ i:Nat)=t*(lval 1000000000 (lb.take i):Nat)+m*(lval 1000000000 (lc.take i):Nat)
  k1:-1000000000≤k
  k2:k≤999999999
theorem TG.start (lb lc:List Nat) (t m:Int):TG lb lc (List.replicate lb.length 0) t m 0 0:=by
  refine⟨by simp,?_,by simp[lval],by omega,by omega⟩
  intro x hx
  have:=List.eq_of_mem_replicate hx
  omega
theorem opp_bound {t m x z:Int} (ht:-1000000000≤t∧t≤1000000000) (hm:-1000000000≤m∧m≤1000000000) (hs:(0≤t∧m≤0)∨(t≤0∧0≤m)) (hx:0≤x∧x≤999999999) (hz:0≤z∧z≤999999999) :
    -999999999000000000≤t*x+m*z∧t*x+m*z≤999999999000000000∧(-999999999000000000≤t*x∧t*x≤999999999000000000)∧(-999999999000000000≤m*z∧m*z≤999999999000000000):=by
  have pos:∀ {a b:Int},0≤a→a≤1000000000→0≤b→b≤999999999→0≤a*b∧a*b≤999999999000000000:=by
    intro a b h1 h2 h3 h4
    have:=Int.mul_le_mul h2 h4 h3 (by omega)
    exact⟨Int.mul_nonneg h1 h3,by omega⟩
  rcases hs with ⟨s1,s2⟩|⟨s1,s2⟩
  · have p:=pos s1 ht.2 hx.1 hx.2
    have n:=pos (a:=-m) (b:=z) (by omega) (by omega) hz.1 hz.2
    rw[Int.neg_mul]at n
    omega
  · have p:=pos s2 hm.2 hz.1 hz.2
    have n:=pos (a:=-t) (b:=x) (by omega) (by omega) hx.1 hx.2
    rw[Int.neg_mul]at n
    omega
theorem take_getD (l:List Nat) (i:Nat):lval 1000000000 (l.take (i+1))=lval 1000000000 (l.take i)+1000000000 ^ i*l.getD i 0:=by
  by_cases h:i<l.length
  · rw[take_val l i h];simp[List.getD,h]
  · rw[take_val' l i (by omega)];simp[List.getD,List.getElem?_eq_none (Nat.le_of_not_lt h)]
theorem TG.step {lb lc S:List Nat} {t m k s:Int} {i:Nat} (h:TG lb lc S t m k i) (hi:i<lb.length) (hs:s=k+1000000000000000000+t*(lb.getD i 0:Nat)+m*(lc.getD i 0:Nat))
    (s0:0≤s) (s1:s≤1999999999999999999):TG lb lc (S.set i (s % 1000000000).toNat) t m (s / 1000000000 - 1000000000) (i+1):=by
  have hlen:=h.len
  have hm0:0≤s % 1000000000:=Int.emod_nonneg _ (by decide)
  have hm1:s % 1000000000<1000000000:=Int.emod_lt_of_pos _ (by decide)
  refine⟨by rw[List.length_set];exact h.len,limbs_set h.limbs _ _ (by omega),?_,by omega,by omega⟩
  have e1:lval 1000000000 ((S.set i (s % 1000000000).toNat).take (i+1))=lval 1000000000 (S.take i)+1000000000 ^ i*(s % 1000000000).toNat:=by
    rw[take_val _ i (by rw[List.length_set];omega)]
    rw[List.getElem_set_self,List.take_set_of_le (Nat.le_refl _)]
  rw[e1,take_getD lb i,take_getD lc i]
  have e:=h.eq
  have ed:s=1000000000*(s / 1000000000)+s % 1000000000:=(Int.mul_ediv_add_emod s 1000000000).symm
  have e2:(((s % 1000000000).toNat:Nat):Int)=s % 1000000000:=Int.toNat_of_nonneg hm0
  generalize lb.getD i 0=xb at *
  generalize lc.getD i 0=xc at *
  generalize lval 1000000000 (S.take i)=vs at *
  generalize lval 1000000000 (lb.take i)=vb at *
  generalize lval 1000000000 (lc.take i)=vc at *
  rw[Nat.pow_succ]
  generalize (1000000000:Nat) ^ i=p at *
  simp only[Int.natCast_add,Int.natCast_mul,e2,show((1000000000:Nat):Int)=1000000000 from rfl]
  generalize s / 1000000000=d at *
  generalize s % 1000000000=r at *
  have:(vs:Int)+p*r+(d - 1000000000)*(p*1000000000)=(vs+k*p)+p*((1000000000*d+r) - k - 1000000000000000000):=by grind
  rw[this,←ed,e,hs]
  grind
theorem TG.done {lb lc S:List Nat} {t m k:Int} {i:Nat} (h:TG lb lc S t m k i) (hi:i=lb.length) (hl:lc.length≤lb.length) (N:Nat)
    (hN:(N:Int)=t*(lval 1000000000 lb:Nat)+m*(lval 1000000000 lc:Nat)) (hle:N<1000000000 ^ lb.length):lval 1000000000 S=N:=by
  subst hi
  have e:=h.eq
  rw[List.take_of_length_le (by rw[h.len];exact Nat.le_refl _),List.take_of_length_le (Nat.le_refl _),List.take_of_length_le hl,←hN]at e
  have hS:=lval_lt h.limbs
  rw[h.len]at hS
  generalize lval 1000000000 S=vs at *
  generalize (1000000000:Nat) ^ lb.length=p at *
  have k0:k=0:=by
    rcases Int.lt_trichotomy k 0 with hk|hk|hk
    · have:k*(p:Int)≤-1*(p:Int):=Int.mul_le_mul_of_nonneg_right (by omega) (by omega)
      omega
    · exact hk
    · have:1*(p:Int)≤k*(p:Int):=Int.mul_le_mul_of_nonneg_right (by omega) (by omega)
      omega
  rw[k0,Int.zero_mul]at e
  omega
theorem first_digits (low:List Nat) (p q r up e:Nat) (hl:limbs 1000000000 low) (hue:up*e=1000000000) :
    ∃u,lval 1000000000 (low ++ [p,q,r])*up=((r*1000000000+q)*up+p / e)*1000000000 ^ (low.length+1)+u∧u<1000000000 ^ (low.length+1):=by
  have hv:=lval_lt hl
  have he : 0 < e := by rcases Nat.eq_zero_or_pos e with h|h;· rw[h]at hue;omega
                        · exact h
  have hu : 0 < up := by rcases Nat.eq_zero_or_pos up with h|h;· rw[h]at hue;omega
                         · exact h
  refine⟨up*(lval 1000000000 low+1000000000 ^ low.length*(p % e)),?_,?_⟩
  · rw[lval_append]
    have e3:lval 1000000000 [p,q,r]=p+1000000000*(q+1000000000*r):=by simp[lval]
    rw[e3,Nat.pow_succ]
    generalize lval 1000000000 low=v at *
    generalize (1000000000:Nat) ^ low.length=b at *
    have hp:=Nat.div_add_mod p e
    generalize p / e=d at *
    generalize p % e=m at *
    rw[←hp]
    have:(v+b*(e*d+m+1000000000*(q+1000000000*r)))*up=(r*1000000000+q)*up*(b*1000000000)+(up*e)*(b*d)+up*(v+b*m):=by grind
    rw[this,hue]
    grind
  · have hm:p % e<e:=Nat.mod_lt _ he
    rw[Nat.pow_succ]
    generalize lval 1000000000 low=v at *
    generalize (1000000000:Nat) ^ low.length=b at *
    generalize p % e=m at *
    have h1:v+b*m<b*e:=by
      have:b*m+b≤b*e:=by rw[←Nat.mul_succ];exact Nat.mul_le_mul_left _ hm
      omega
    have h2:up*(v+b*m)<up*(b*e):=Nat.mul_lt_mul_of_pos_left h1 hu
    have h3:up*(b*e)=b*(up*e):=by grind
    rw[hue]at h3
    omega
end Cub
namespace Go.Proofs.YtliadckofhblnaaGreatDoor
open Go.RowKit
structure zBy (w:World) where
 world:World
 below:Below w.heap.size w world
instance (w:World):Nonempty (zBy w):=⟨⟨w,Below.refl _ _⟩⟩
theorem zCz {P:Program} {id:Nat} {Q:Exit→Act→World→Prop} {a:Act} {w:World} {l:List Oper} (hm:P.follows .mixedOrders=true) (hB:Region.lexB .any l.toArray=true)
 (h:wpQuiet P l.toArray (fun w'=>∃x:zBy w,w'=x.world) (fun a'=>∀w',(∃x:zBy w,w'=x.world)→Q .normal a' w') l a):(Code.region id l.toArray true).wp P Q a w :=
 wp_region_quiet (C:=fun w'=>∃x:zBy w,w'=x.world) hm hB ⟨⟨_,(Below.refl w.heap.size w).drew⟩,rfl⟩ (by simpa using h)
theorem gcdSmall_any (a b:Nat) (w:World) (ha:a<18446744073709551616) (hb:b<18446744073709551616) :
 Calls Tryz.prog 211 #[.int .u64 (a:Int),.int .u64 (b:Int)] w fun e w'=>e=.returned (.int .u64 ((Nat.gcd a b:Nat):Int))∧Bw w w':=by
 go_enter Tryz.func211,Tryz.ntmps211
 go_wp2
 go_loopw [0,1] (fun u v wr=>∃x y:Nat,u=.int .u64 (x:Int)∧v=.int .u64 (y:Int)∧x<18446744073709551616∧y<18446744073709551616∧Hid (Nat.gcd x y=Nat.gcd a b)∧Hid (Bw w wr)) (fun _ v _=>(intOf v).toNat)
 case atStart=>exact⟨a,b,rfl,rfl,ha,hb,rfl,Below.refl _ _⟩
 case round=>
  obtain⟨x,y,rfl,rfl,hx,hy,HG,HB⟩:=hrel
  by_cases h0:0<y
  ·have hy0:¬y=0:=by omega
   have h0':(0:Int)<(y:Int):=by omega
   have hlt:x % y<y:=Nat.mod_lt _ h0
   have HG':Hid (Nat.gcd y (x % y)=Nat.gcd a b):=by
    show _=_;rw[←un HG,Nat.gcd_comm x y,Nat.gcd_rec y x,Nat.gcd_comm (x % y) y]
   go_upto_region 2 with fail
   go_quiet (fail)
   go_wp2
   go_roundw
   case rel=>exact⟨y,x % y,rfl,by go_num,hy,by omega,HG',below_drewN (un HB) _⟩
   case measure=>simp[intOf];omega
  ·have hy0:y=0:=by omega
   subst hy0;have HV:Hid (x=Nat.gcd a b):=by show _=_;rw[←un HG,Nat.gcd_zero_right]
   clear HG
   go_wp2
   go_ret
   exact⟨by rw[←un HV];rfl,un HB⟩
theorem bigSmall_any (x:Value) (m:Nat) (w:World) (hx:zAf w x m) (hm:m<1000000000000000000) :
 Calls Tryz.prog 212 #[x] w fun e w'=>e=.returned (.int .u64 (m:Int))∧Bw w w':=by
 obtain⟨ap,lp,cp,rfl,hlp,hrp,hnp,hv⟩:=hx.form;have h2:lp.length≤2:=Cub.len_le hnp (by rw[hv];omega);have HP:Hid (Cells w ap lp):=hrp.cells.2.2.2
 have hcs:lp=[]∨(∃a,lp=[a])∨∃a b,lp=[a,b]:=by
  match lp,h2 with
  | [],_=>exact .inl rfl
  | [a],_=>exact .inr (.inl ⟨a,rfl⟩)
  | [a,b],_=>exact .inr (.inr ⟨a,b,rfl⟩)
 rcases hcs with rfl|⟨a,rfl⟩|⟨a,b,rfl⟩
 ·have HV:Hid (m=0):=hv.symm
  clear hv hx hrp hnp HP hm;simp only[List.length_nil];go_enter Tryz.func212,Tryz.ntmps212
  go_wp2
  refine wp_loop_rounds 1 ?_;rw[rounds_succ]
  go_wp2
  go_ret
  exact⟨by rw[un HV];rfl,bA⟩
 ·have HV:Hid (m=a):=by show _=_;rw[←hv];simp[Cub.lval]
  have ha:a<1000000000:=hnp.1 a (by simp);obtain⟨b0,o0,rfl,hc0⟩:=un HP (w.alloc (.cells #[.slice ap 1 cp] 80)) bA 0 (by simp);simp only[List.length_singleton,List.getElem_cons_zero,Nat.add_zero]at hc0 ⊢;clear hv hx hrp hnp HP hm;go_enter Tryz.func212,Tryz.ntmps212
  go_wp2
  refine wp_loop_rounds 2 ?_;rw[rounds_succ]
  go_wp2
  rw[rounds_succ]
  go_wp2
  go_ret
  exact⟨by rw[un HV];first|rfl|(simp;done)|go_num,bA⟩
 ·have HV:Hid (m=b*1000000000+a):=by show _=_;rw[←hv];simp[Cub.lval];omega
  have ha:a<1000000000:=hnp.1 a (by simp);have hb:b<1000000000:=hnp.1 b (by simp);have hW:Below w.heap.size w (w.alloc (.cells #[.slice ap 2 cp] 80)):=bA;obtain⟨b0,o0,rfl,hc0⟩:=un HP _ hW 0 (by simp);obtain⟨b1,o1,e1,hc1⟩:=un HP _ hW 1 (by simp);simp only[Option.some.injEq,Addr.mk.injEq]at e1;obtain⟨rfl,rfl,_⟩:=e1;simp only[List.length_cons,List.length_nil,List.getElem_cons_zero,List.getElem_cons_succ,Nat.add_zero,Nat.zero_add,Nat.reduceAdd]at hc0 hc1 ⊢;clear hv hx hrp hnp HP hm hW;go_enter Tryz.func212,Tryz.ntmps212
  go_wp2
  refine wp_loop_rounds 3 ?_;rw[rounds_succ]
  go_wp2
  rw[rounds_succ]
  go_wp2
  rw[rounds_succ]
  go_wp2
  go_ret
  exact⟨by rw[un HV];first|rfl|(simp;done)|go_num,bA⟩
theorem limb_any (ap:Option Addr) (l:List Nat) (cap i:Nat) (w:World) (hr:Row w (.slice ap l.length cap) l) :
 Calls Tryz.prog 285 #[.agg #[.slice ap l.length cap],I (i:Int)] w fun e w'=>e=.returned (.int .u64 ((l.getD i 0:Nat):Int))∧Bw w w':=by
 have HP:Hid (Cells w ap l):=hr.cells.2.2.2;have hl:l.length≤9223372036854775807:=by have:=hr.cells.2;omega
 have hW:Below w.heap.size w (w.alloc (.cells #[.slice ap l.length cap] 80)):=bA
 by_cases h:i<l.length
 ·obtain⟨b,o,rfl,hc⟩:=un HP _ hW i h
  have HV:Hid (l.getD i 0=l[i]):=by show _=_;simp[List.getD,h]
  generalize l[i]=x at *
  generalize l.getD i 0=y at *
  generalize l.length=n at *
  clear HP hr hW;go_enter Tryz.func285,Tryz.ntmps285
  go_wp2
  go_ret
  exact⟨by rw[un HV];rfl,bA⟩
 ·have HV:Hid (l.getD i 0=0):=by show _=_;simp[List.getD,List.getElem?_eq_none (Nat.le_of_not_lt h)]
  generalize l.getD i 0=y at *
  generalize l.length=n at *
  clear HP hr hW;go_enter Tryz.func285,Tryz.ntmps285
  go_wp2
  go_ret
  exact⟨by rw[un HV];rfl,bA⟩
theorem signI_val {b:Bool} {n d:Nat} (h:Cub.Low b n d):signI b n=Cub.cmpQ (Cub.valQ b n d) 0:=Cub.sign_val h
theorem Box.new (W:World) (v:Value):Box (W.alloc (.cells #[v] 80)) W.heap.size v:=⟨by simp[go_sem],by simp[go_sem]⟩
structure AS (w W:World) (x0 x1 x2 y0 y1 y2:Value) (L:List (Nat×Value)):Prop where
 x:FBox W w.heap.size x0 x1 x2
 y:FBox W (w.heap.size+1) y0 y1 y2
 r:FBox W (w.heap.size+1+1) (.bool false) (.slice none 0 0) (.slice none 0 0)
 bx:∀p∈L,Box W p.1 p.2
 gt:∀p∈L,w.heap.size+1+1<p.1
 below:Below w.heap.size w W
theorem AS.later {w W V:World} {x0 x1 x2 y0 y1 y2:Value} {L:List (Nat×Value)} (s:AS w W x0 x1 x2 y0 y1 y2 L) (hb:Below W.heap.size W V):AS w V x0 x1 x2 y0 y1 y2 L :=
 ⟨s.x.later hb,s.y.later hb,s.r.later hb,fun p hp=>(s.bx p hp).later hb,s.gt,s.below.trans (hb.mono s.below.size)⟩
theorem AS.first (w:World) (x0 x1 x2 y0 y1 y2:Value):AS w (((w.alloc (.cells #[x0,x1,x2] 82)).alloc (.cells #[y0,y1,y2] 82)).alloc (.cells #[.bool false,.slice none 0 0,.slice none 0 0] 82)) x0 x1 x2 y0 y1 y2 [] :=
 ⟨⟨by simp[go_sem],by simp[go_sem],by simp[go_sem],by simp[go_sem],by simp[go_sem],by simp[go_sem]⟩,⟨by simp[go_sem],by simp[go_sem],by simp[go_sem],by simp[go_sem],by simp[go_sem],by simp[go_sem]⟩,
  ⟨by simp[go_sem],by simp[go_sem],by simp[go_sem],by simp[go_sem],by simp[go_sem],by simp[go_sem]⟩,(fun _ h=>by cases h),(fun _ h=>by cases h),
  (bA.alloc (by simp) _).alloc (by simp;omega) _⟩
theorem AS.push {w W:World} {x0 x1 x2 y0 y1 y2:Value} {L:List (Nat×Value)} (s:AS w W x0 x1 x2 y0 y1 y2 L) (v:Value):AS w (W.alloc (.cells #[v] 80)) x0 x1 x2 y0 y1 y2 ((W.heap.size,v) :: L):=by
 have t:=s.later ((Below.refl W.heap.size W).alloc (Nat.le_refl _) (.cells #[v] 80));refine⟨t.x,t.y,t.r,?_,?_,t.below⟩
 ·intro p hp
  rcases List.mem_cons.1 hp with rfl|hp
  ·exact⟨by simp[go_sem],by simp[go_sem]⟩
  ·exact t.bx p hp
 ·intro p hp
  rcases List.mem_cons.1 hp with rfl|hp
  ·exact s.r.lt
  ·exact t.gt p hp
theorem AS.sub {w W:World} {x0 x1 x2 y0 y1 y2:Value} {L M:List (Nat×Value)} (s:AS w W x0 x1 x2 y0 y1 y2 L) (h:∀p∈M,p∈L):AS w W x0 x1 x2 y0 y1 y2 M :=
 ⟨s.x,s.y,s.r,fun p hp=>s.bx p (h p hp),fun p hp=>s.gt p (h p hp),s.below⟩
theorem AS.add {w W:World} {x0 x1 x2 y0 y1 y2 v:Value} {g:Nat} {L:List (Nat×Value)} (s:AS w W x0 x1 x2 y0 y1 y2 L) (hb:Box W g v) (hg:w.heap.size+1+1<g):AS w W x0 x1 x2 y0 y1 y2 ((g,v) :: L):=by
 refine⟨s.x,s.y,s.r,?_,?_,s.below⟩
 ·intro p hp
  rcases List.mem_cons.1 hp with rfl|hp
  ·exact hb
  ·exact s.bx p hp
 ·intro p hp
  rcases List.mem_cons.1 hp with rfl|hp
  ·exact hg
  ·exact s.gt p hp
theorem AS.set {w W:World} {x0 x1 x2 y0 y1 y2 v:Value} {g:Nat} {L:List (Nat×Value)} (s:AS w W x0 x1 x2 y0 y1 y2 ((g,v) :: L)) (h:∀p∈L,p.1≠g) (u:Value):AS w (W.setCell ⟨g,0,none⟩ u) x0 x1 x2 y0 y1 y2 ((g,u) :: L):=by
 have hg:w.heap.size+1+1<g:=s.gt (g,v) (by simp);refine⟨s.x.other (by omega) u,s.y.other (by omega) u,s.r.other (by omega) u,?_,?_,s.below.setCell (by show w.heap.size≤g;omega) _⟩
 ·intro p hp
  rcases List.mem_cons.1 hp with rfl|hp
  ·exact(s.bx (g,v) (by simp)).set u
  ·exact(s.bx p (by simp[hp])).other (h p hp) u
 ·intro p hp
  rcases List.mem_cons.1 hp with rfl|hp
  ·exact hg
  ·exact s.gt p (by simp[hp])
theorem run_copy_size {P:Program} (w:World) (dT sT ty elem:TypeId) (b o dLen dCap:Nat) (a:Addr) (sLen sCap S:Nat) (cs:List Value)
  (hu:P.underlying dT=some (.slice elem)) (hs:(P.info? elem).map (·.size)=some S) (hn:cs.length=Nat.min sLen dLen*S)
  (hsrc:∀j v,cs[j]?=some v→w.cell? (a.add j)=some v) (hc:∀j,j<cs.length→(w.cell? ⟨b,o+j,none⟩).isSome=true) (hf:∀j,j<cs.length→w.frozen? ⟨b,o+j,none⟩=false) (h1:∀v∈cs,v.oneCell'=true) :
  (Builtin.copy_ #[dT,sT] ty #[.slice (some ⟨b,o,none⟩) dLen dCap,.slice (some a) sLen sCap]).run P w=.ok (goInt (Nat.min sLen dLen)) (w.setCells b o cs):=by
 have hl:=run_loadCells_list (P:=P) w a cs hsrc;have hst:=run_storeCells_cells (P:=P) b o cs 0 w (by simpa using hc) (by simpa using hf) h1
 cases hq:P.info? elem with
 | none=>simp[hq]at hs
 | some i=>
  have hi:i.size=S:=by simpa [hq] using hs
  simp[Builtin.copy_,run_underlying hu,Builtin.lenOf,Builtin.firstCells,sizeOf,typeInfo,hq,hi,←hn,hl,hst]
theorem Tryz.elem111:Tryz.prog.underlying 224=some (.slice 82):=by kernel_rfl
theorem Tryz.size82:(Tryz.prog.info? 82).map (·.size)=some 3:=by kernel_rfl
theorem copy_two (B:Nat) (b c:Bool) (a1 a2 a3 a4:Option Addr) (l1 d1 l2 d2 l3 d3 l4 d4:Nat) (w:World)
  (c0:w.cell? ⟨B,0,none⟩=some (.bool b)) (c1:w.cell? ⟨B,1,none⟩=some (.slice a1 l1 d1)) (c2:w.cell? ⟨B,2,none⟩=some (.slice a2 l2 d2)) (c3:w.cell? ⟨B,3,none⟩=some (.bool c)) (c4:w.cell? ⟨B,4,none⟩=some (.slice a3 l3 d3)) (c5:w.cell? ⟨B,5,none⟩=some (.slice a4 l4 d4)) :
  (Builtin.copy_ #[224,224] 3 #[.slice (some ⟨w.heap.size,0,none⟩) 2 2,.slice (some ⟨B,0,none⟩) 2 2]).run Tryz.prog (w.alloc (.cells #[.bool false,.slice none 0 0,.slice none 0 0,.bool false,.slice none 0 0,.slice none 0 0] 82)) =
   .ok (I 2) (w.alloc (.cells #[.bool b,.slice a1 l1 d1,.slice a2 l2 d2,.bool c,.slice a3 l3 d3,.slice a4 l4 d4] 82)):=by
 have hB:B<w.heap.size:=World.block_lt_of_cell? _ _ c0
 have hne:∀k,(w.alloc (.cells #[.bool false,.slice none 0 0,.slice none 0 0,.bool false,.slice none 0 0,.slice none 0 0] 82)).cell? ⟨B,k,none⟩=w.cell? ⟨B,k,none⟩:=fun k=>
  ((Below.refl w.heap.size w).alloc (Nat.le_refl _) _).cell (p:=⟨B,k,none⟩) hB
 have:=run_copy_size (P:=Tryz.prog) (w.alloc (.cells #[.bool false,.slice none 0 0,.slice none 0 0,.bool false,.slice none 0 0,.slice none 0 0] 82)) 224 224 3 82 w.heap.size 0 2 2 ⟨B,0,none⟩ 2 2 3 [.bool b,.slice a1 l1 d1,.slice a2 l2 d2,.bool c,.slice a3 l3 d3,.slice a4 l4 d4] Tryz.elem111 Tryz.size82 rfl
  (by
   intro j v hv;have hj:j<6:=by have:=(List.getElem?_eq_some_iff.1 hv).1;simpa using this
   have e:(⟨B,0,none⟩:Addr).add j=⟨B,j,none⟩:=by unfold Addr.add;split<;>simp_all
   rw[e,hne]
   match j,hj with
   | 0,_=>rw[c0];exact hv
   | 1,_=>rw[c1];exact hv
   | 2,_=>rw[c2];exact hv
   | 3,_=>rw[c3];exact hv
   | 4,_=>rw[c4];exact hv
   | 5,_=>rw[c5];exact hv)
  (by
   intro j hj;have hj:j<6:=by simpa using hj
   match j,hj with
   | 0,_=>simp[go_sem]
   | 1,_=>simp[go_sem]
   | 2,_=>simp[go_sem]
   | 3,_=>simp[go_sem]
   | 4,_=>simp[go_sem]
   | 5,_=>simp[go_sem])
  (by intro j hj;simp[go_sem])
  (by intro v hv;simp at hv;rcases hv with rfl|rfl|rfl|rfl|rfl|rfl<;>rfl)
 rw[this];simp[World.setCells,go_sem,goInt]
structure Six (W:World) (g:Nat) (x0 x1 x2 x3 x4 x5:Value):Prop where
  c0:W.cell? ⟨g,0,none⟩=some x0
  c1:W.cell? ⟨g,1,none⟩=some x1
  c2:W.cell? ⟨g,2,none⟩=some x2
  c3:W.cell? ⟨g,3,none⟩=some x3
  c4:W.cell? ⟨g,4,none⟩=some x4
  c5:W.cell? ⟨g,5,none⟩=some x5
  f:∀k,W.frozen? ⟨g,k,none⟩=false
theorem Six.lt {W:World} {g:Nat} {x0 x1 x2 x3 x4 x5:Value} (h:Six W g x0 x1 x2 x3 x4 x5):g<W.heap.size:=World.block_lt_of_cell? _ _ h.c0
theorem Six.later {W V:World} {g:Nat} {x0 x1 x2 x3 x4 x5:Value} (h:Six W g x0 x1 x2 x3 x4 x5) (hb:Below W.heap.size W V):Six V g x0 x1 x2 x3 x4 x5 :=
  ⟨(hb.cell (p:=⟨g,0,none⟩) h.lt).trans h.c0,(hb.cell (p:=⟨g,1,none⟩) h.lt).trans h.c1,(hb.cell (p:=⟨g,2,none⟩) h.lt).trans h.c2,(hb.cell (p:=⟨g,3,none⟩) h.lt).trans h.c3,
    (hb.cell (p:=⟨g,4,none⟩) h.lt).trans h.c4,(hb.cell (p:=⟨g,5,none⟩) h.lt).trans h.c5,fun k=>(hb.frozen (p:=⟨g,k,none⟩) h.lt).trans (h.f k)⟩
theorem Six.set15 {W:World} {g:Nat} {x0 x1 x2 x3 x4 x5:Value} (h:Six W g x0 x1 x2 x3 x4 x5) (u v:Value):Six ((W.setCell ⟨g,1,none⟩ u).setCell ⟨g,5,none⟩ v) g x0 u x2 x3 x4 v:=by
  have a5:(W.setCell ⟨g,1,none⟩ u).cell? ⟨g,5,none⟩=some x5:=by rw[World.cell?_setCell_other _ _ _ _ (by simp)];exact h.c5
  refine⟨?_,?_,?_,?_,?_,World.cell?_setCell_same _ _ _ a5,fun k=>by rw[World.frozen?_setCell,World.frozen?_setCell];exact h.f k⟩
  · rw[World.cell?_setCell_other _ _ _ _ (by simp),World.cell?_setCell_other _ _ _ _ (by simp)];exact h.c0
  · rw[World.cell?_setCell_other _ _ _ _ (by simp)];exact World.cell?_setCell_same _ _ _ h.c1
  · rw[World.cell?_setCell_other _ _ _ _ (by simp),World.cell?_setCell_other _ _ _ _ (by simp)];exact h.c2
  · rw[World.cell?_setCell_other _ _ _ _ (by simp),World.cell?_setCell_other _ _ _ _ (by simp)];exact h.c3
  · rw[World.cell?_setCell_other _ _ _ _ (by simp),World.cell?_setCell_other _ _ _ _ (by simp)];exact h.c4
theorem Six.set42 {W:World} {g:Nat} {x0 x1 x2 x3 x4 x5:Value} (h:Six W g x0 x1 x2 x3 x4 x5) (u v:Value):Six ((W.setCell ⟨g,4,none⟩ u).setCell ⟨g,2,none⟩ v) g x0 x1 v x3 u x5:=by
  have a2:(W.setCell ⟨g,4,none⟩ u).cell? ⟨g,2,none⟩=some x2:=by rw[World.cell?_setCell_other _ _ _ _ (by simp)];exact h.c2
  refine⟨?_,?_,World.cell?_setCell_same _ _ _ a2,?_,?_,?_,fun k=>by rw[World.frozen?_setCell,World.frozen?_setCell];exact h.f k⟩
  · rw[World.cell?_setCell_other _ _ _ _ (by simp),World.cell?_setCell_other _ _ _ _ (by simp)];exact h.c0
  · rw[World.cell?_setCell_other _ _ _ _ (by simp),World.cell?_setCell_other _ _ _ _ (by simp)];exact h.c1
  · rw[World.cell?_setCell_other _ _ _ _ (by simp),World.cell?_setCell_other _ _ _ _ (by simp)];exact h.c3
  · rw[World.cell?_setCell_other _ _ _ _ (by simp)];exact World.cell?_setCell_same _ _ _ h.c4
  · rw[World.cell?_setCell_other _ _ _ _ (by simp),World.cell?_setCell_other _ _ _ _ (by simp)];exact h.c5
structure TM (w W:World) (b c:Bool) (s1 s2 s3 s4:Value):Prop where
  six:Six W (w.heap.size+1) (.bool b) s1 s2 (.bool c) s3 s4
  r:FBox W w.heap.size (.bool false) (.slice none 0 0) (.slice none 0 0)
  below:Below w.heap.size w W
theorem TM.later {w W V:World} {b c:Bool} {s1 s2 s3 s4:Value} (s:TM w W b c s1 s2 s3 s4) (hb:Below W.heap.size W V):TM w V b c s1 s2 s3 s4 :=
  ⟨s.six.later hb,s.r.later hb,s.below.trans (hb.mono s.below.size)⟩
theorem FBox.otherAt {W:World} {g k o:Nat} {x y z:Value} (h:FBox W g x y z) (hk:g≠k) (u:Value):FBox (W.setCell ⟨k,o,none⟩ u) g x y z :=
  ⟨by rw[World.cell?_setCell_other _ _ _ _ (by intro e;exact hk (congrArg Addr.block e).symm)];exact h.c0,by rw[World.cell?_setCell_other _ _ _ _ (by intro e;exact hk (congrArg Addr.block e).symm)];exact h.c1,by rw[World.cell?_setCell_other _ _ _ _ (by intro e;exact hk (congrArg Addr.block e).symm)];exact h.c2,
    by rw[World.frozen?_setCell];exact h.f0,by rw[World.frozen?_setCell];exact h.f1,by rw[World.frozen?_setCell];exact h.f2⟩
theorem TM.set15 {w W:World} {b c:Bool} {s1 s2 s3 s4:Value} (s:TM w W b c s1 s2 s3 s4) (u v:Value):TM w ((W.setCell ⟨w.heap.size+1,1,none⟩ u).setCell ⟨w.heap.size+1,5,none⟩ v) b c u s2 s3 v :=
  ⟨s.six.set15 u v,(s.r.otherAt (by omega) u).otherAt (by omega) v,(s.below.setCell (p:=⟨w.heap.size+1,1,none⟩) (by simp) _).setCell (p:=⟨w.heap.size+1,5,none⟩) (by simp) _⟩
theorem TM.set42 {w W:World} {b c:Bool} {s1 s2 s3 s4:Value} (s:TM w W b c s1 s2 s3 s4) (u v:Value):TM w ((W.setCell ⟨w.heap.size+1,4,none⟩ u).setCell ⟨w.heap.size+1,2,none⟩ v) b c s1 v u s4 :=
  ⟨s.six.set42 u v,(s.r.otherAt (by omega) u).otherAt (by omega) v,(s.below.setCell (p:=⟨w.heap.size+1,4,none⟩) (by simp) _).setCell (p:=⟨w.heap.size+1,2,none⟩) (by simp) _⟩
theorem TM.first (w:World) (b c:Bool) (s1 s2 s3 s4:Value):TM w ((w.alloc (.cells #[.bool false,.slice none 0 0,.slice none 0 0] 82)).alloc (.cells #[.bool b,s1,s2,.bool c,s3,s4] 82)) b c s1 s2 s3 s4 :=
  ⟨⟨by simp[go_sem],by simp[go_sem],by simp[go_sem],by simp[go_sem],by simp[go_sem],by simp[go_sem],fun k=>by simp[go_sem]⟩,⟨by simp[go_sem],by simp[go_sem],by simp[go_sem],by simp[go_sem],by simp[go_sem],by simp[go_sem]⟩,
    ((Below.refl _ _).alloc (Nat.le_refl _) _).alloc (by simp) _⟩
theorem FBox.set0 {W:World} {g:Nat} {x y z:Value} (h:FBox W g x y z) (u:Value):FBox (W.setCell ⟨g,0,none⟩ u) g u y z :=
  ⟨World.cell?_setCell_same _ _ _ h.c0,by rw[World.cell?_setCell_other _ _ _ _ (by simp)];exact h.c1,by rw[World.cell?_setCell_other _ _ _ _ (by simp)];exact h.c2,
    by rw[World.frozen?_setCell];exact h.f0,by rw[World.frozen?_setCell];exact h.f1,by rw[World.frozen?_setCell];exact h.f2⟩
theorem FBox.set1 {W:World} {g:Nat} {x y z:Value} (h:FBox W g x y z) (u:Value):FBox (W.setCell ⟨g,1,none⟩ u) g x u z :=
  ⟨by rw[World.cell?_setCell_other _ _ _ _ (by simp)];exact h.c0,World.cell?_setCell_same _ _ _ h.c1,by rw[World.cell?_setCell_other _ _ _ _ (by simp)];exact h.c2,
    by rw[World.frozen?_setCell];exact h.f0,by rw[World.frozen?_setCell];exact h.f1,by rw[World.frozen?_setCell];exact h.f2⟩
theorem FBox.set2 {W:World} {g:Nat} {x y z:Value} (h:FBox W g x y z) (u:Value):FBox (W.setCell ⟨g,2,none⟩ u) g x y u :=
  ⟨by rw[World.cell?_setCell_other _ _ _ _ (by simp)];exact h.c0,by rw[World.cell?_setCell_other _ _ _ _ (by simp)];exact h.c1,World.cell?_setCell_same _ _ _ h.c2,
    by rw[World.frozen?_setCell];exact h.f0,by rw[World.frozen?_setCell];exact h.f1,by rw[World.frozen?_setCell];exact h.f2⟩
theorem FBox.new (W:World) (x y z:Value):FBox (W.alloc (.cells #[x,y,z] 82)) W.heap.size x y z :=
  ⟨by simp[go_sem],by simp[go_sem],by simp[go_sem],by simp[go_sem],by simp[go_sem],by simp[go_sem]⟩
theorem TM.other {w W:World} {b c:Bool} {s1 s2 s3 s4:Value} (s:TM w W b c s1 s2 s3 s4) (g o:Nat) (hg:w.heap.size+1<g) (u:Value):TM w (W.setCell ⟨g,o,none⟩ u) b c s1 s2 s3 s4:=by
  have k:∀i,(W.setCell ⟨g,o,none⟩ u).cell? ⟨w.heap.size+1,i,none⟩=W.cell? ⟨w.heap.size+1,i,none⟩:=fun i=>World.cell?_setCell_other _ _ _ _ (by intro e;have:=congrArg Addr.block e;simp at this;omega)
  exact⟨⟨(k 0).trans s.six.c0,(k 1).trans s.six.c1,(k 2).trans s.six.c2,(k 3).trans s.six.c3,(k 4).trans s.six.c4,(k 5).trans s.six.c5,fun i=>by rw[World.frozen?_setCell];exact s.six.f i⟩,s.r.otherAt (by omega) u,s.below.setCell (p:=⟨g,o,none⟩) (by show w.heap.size≤g;omega) _⟩
theorem no_bool (b:Bool):∀k n,(Value.bool b)≠.int k n:=fun _ _ e=>by cases e
structure QS (w W:World) (g:Nat) (b c:Bool) (s1 s2 s3 s4:Value) (bb:Bool) (p q:Value) (N D M E P Q:Nat):Prop where
  tm:TM w W b c s1 s2 s3 s4
  gt:w.heap.size+1<g
  fb:FBox W g (.bool bb) p q
  i1:zAf W (.agg #[s1]) N
  i2:zAf W (.agg #[s2]) D
  i3:zAf W (.agg #[s3]) M
  i4:zAf W (.agg #[s4]) E
  ip:zAf W (.agg #[p]) P
  iq:zAf W (.agg #[q]) Q
theorem QS.later {w W V:World} {g:Nat} {b c:Bool} {s1 s2 s3 s4:Value} {bb:Bool} {p q:Value} {N D M E P Q:Nat} (s:QS w W g b c s1 s2 s3 s4 bb p q N D M E P Q) (hb:Below W.heap.size W V):QS w V g b c s1 s2 s3 s4 bb p q N D M E P Q :=
  ⟨s.tm.later hb,s.gt,s.fb.later hb,s.i1.later hb,s.i2.later hb,s.i3.later hb,s.i4.later hb,s.ip.later hb,s.iq.later hb⟩
theorem QS.set0 {w W:World} {g:Nat} {b c:Bool} {s1 s2 s3 s4:Value} {bb:Bool} {p q:Value} {N D M E P Q:Nat} (s:QS w W g b c s1 s2 s3 s4 bb p q N D M E P Q) (u:Bool):QS w (W.setCell ⟨g,0,none⟩ (.bool u)) g b c s1 s2 s3 s4 u p q N D M E P Q :=
  ⟨s.tm.other g 0 s.gt _,s.gt,s.fb.set0 _,s.i1.box _ s.fb.c0 (no_bool _),s.i2.box _ s.fb.c0 (no_bool _),s.i3.box _ s.fb.c0 (no_bool _),s.i4.box _ s.fb.c0 (no_bool _),s.ip.box _ s.fb.c0 (no_bool _),s.iq.box _ s.fb.c0 (no_bool _)⟩
theorem QS.set1 {w W:World} {g:Nat} {b c:Bool} {s1 s2 s3 s4:Value} {bb:Bool} {a:Option Addr} {l k:Nat} {q:Value} {N D M E P Q:Nat} (s:QS w W g b c s1 s2 s3 s4 bb (.slice a l k) q N D M E P Q) {u:Value} {P':Nat} (hu:zAf W (.agg #[u]) P'):QS w (W.setCell ⟨g,1,none⟩ u) g b c s1 s2 s3 s4 bb u q N D M E P' Q :=
  ⟨s.tm.other g 1 s.gt _,s.gt,s.fb.set1 _,s.i1.box _ s.fb.c1 (zAp _ _ _),s.i2.box _ s.fb.c1 (zAp _ _ _),s.i3.box _ s.fb.c1 (zAp _ _ _),s.i4.box _ s.fb.c1 (zAp _ _ _),hu.box _ s.fb.c1 (zAp _ _ _),s.iq.box _ s.fb.c1 (zAp _ _ _)⟩
theorem QS.set2 {w W:World} {g:Nat} {b c:Bool} {s1 s2 s3 s4:Value} {bb:Bool} {a:Option Addr} {l k:Nat} {p:Value} {N D M E P Q:Nat} (s:QS w W g b c s1 s2 s3 s4 bb p (.slice a l k) N D M E P Q) {u:Value} {Q':Nat} (hu:zAf W (.agg #[u]) Q'):QS w (W.setCell ⟨g,2,none⟩ u) g b c s1 s2 s3 s4 bb p u N D M E P Q' :=
  ⟨s.tm.other g 2 s.gt _,s.gt,s.fb.set2 _,s.i1.box _ s.fb.c2 (zAp _ _ _),s.i2.box _ s.fb.c2 (zAp _ _ _),s.i3.box _ s.fb.c2 (zAp _ _ _),s.i4.box _ s.fb.c2 (zAp _ _ _),s.ip.box _ s.fb.c2 (zAp _ _ _),hu.box _ s.fb.c2 (zAp _ _ _)⟩
def PS (w W:World) (b c:Bool) (N D M E:Nat):Prop:=∃a1 l1 k1 a2 l2 k2 a3 l3 k3 a4 l4 k4,TM w W b c (.slice a1 l1 k1) (.slice a2 l2 k2) (.slice a3 l3 k3) (.slice a4 l4 k4)∧
  zAf W (.agg #[.slice a1 l1 k1]) N∧zAf W (.agg #[.slice a2 l2 k2]) D∧zAf W (.agg #[.slice a3 l3 k3]) M∧zAf W (.agg #[.slice a4 l4 k4]) E
def pN (n e:Nat) (i:Int):Nat:=if i=0 then n else n / Nat.gcd n e
def pM (m d:Nat) (i:Int):Nat:=if i=2 then m / Nat.gcd m d else m
def pD (m d:Nat) (i:Int):Nat:=if i=2 then d / Nat.gcd m d else d
def pE (n e:Nat) (i:Int):Nat:=if i=0 then e else e / Nat.gcd n e
theorem times_any (B:Nat) (b c:Bool) (a1 a2 a3 a4:Option Addr) (l1 d1 l2 d2 l3 d3 l4 d4:Nat) (n d m e k:Nat) (w:World)
    (c0:w.cell? ⟨B,0,none⟩=some (.bool b)) (c1:w.cell? ⟨B,1,none⟩=some (.slice a1 l1 d1)) (c2:w.cell? ⟨B,2,none⟩=some (.slice a2 l2 d2)) (c3:w.cell? ⟨B,3,none⟩=some (.bool c)) (c4:w.cell? ⟨B,4,none⟩=some (.slice a3 l3 d3)) (c5:w.cell? ⟨B,5,none⟩=some (.slice a4 l4 d4))
    (h1:zAf w (.agg #[.slice a1 l1 d1]) n) (h2:zAf w (.agg #[.slice a2 l2 d2]) d) (h3:zAf w (.agg #[.slice a3 l3 d3]) m) (h4:zAf w (.agg #[.slice a4 l4 d4]) e) (hk:k+k≤100000) (hn:n<1000000000 ^ k) (hd:d<1000000000 ^ k) (hm:m<1000000000 ^ k) (he:e<1000000000 ^ k) (hd0:0<d) (he0:0<e) (hDA:DivAns k) (hGA:GcdAns k) :
    Calls Tryz.prog 147 #[.slice (some ⟨B,0,none⟩) 2 2] w fun r w'=>∃v,r=.returned v∧zCd w' v ((!(b == c)) && !(n / Nat.gcd n e*(m / Nat.gcd m d) == 0)) (n / Nat.gcd n e*(m / Nat.gcd m d)) (d / Nat.gcd m d*(e / Nat.gcd n e))∧Bw w w':=by
  have hmk:∀W:World,(Instr.makeSlice 224 (I 2) (I 2)).run Tryz.prog W=.ok (.slice (some ⟨W.heap.size,0,none⟩) 2 2) (W.alloc (.cells #[.bool false,.slice none 0 0,.slice none 0 0,.bool false,.slice none 0 0,.slice none 0 0] 82)):=fun _=>by kernel_rfl
  have hB:B<w.heap.size:=World.block_lt_of_cell? _ _ c0;have hb0:Below w.heap.size w (w.alloc (.cells #[.bool false,.slice none 0 0,.slice none 0 0] 82)):=(Below.refl _ _).alloc (Nat.le_refl _) _;have hcp:=copy_two B b c a1 a2 a3 a4 l1 d1 l2 d2 l3 d3 l4 d4 (w.alloc (.cells #[.bool false,.slice none 0 0,.slice none 0 0] 82)) ((hb0.cell (p:=⟨B,0,none⟩) hB).trans c0) ((hb0.cell (p:=⟨B,1,none⟩) hB).trans c1) ((hb0.cell (p:=⟨B,2,none⟩) hB).trans c2) ((hb0.cell (p:=⟨B,3,none⟩) hB).trans c3) ((hb0.cell (p:=⟨B,4,none⟩) hB).trans c4) ((hb0.cell (p:=⟨B,5,none⟩) hB).trans c5);have he:(w.alloc (.cells #[.bool false,.slice none 0 0,.slice none 0 0] 82)).heap.size=w.heap.size+1:=by simp
  rw[he]at hcp;obtain⟨V,hV⟩:∃V,V=(w.alloc (.cells #[.bool false,.slice none 0 0,.slice none 0 0] 82)).alloc (.cells #[.bool b,.slice a1 l1 d1,.slice a2 l2 d2,.bool c,.slice a3 l3 d3,.slice a4 l4 d4] 82):=⟨_,rfl⟩;have HS:Hid (TM w V b c (.slice a1 l1 d1) (.slice a2 l2 d2) (.slice a3 l3 d3) (.slice a4 l4 d4)):=by rw[hV];exact TM.first _ _ _ _ _ _ _
  have HN:=zAb (h1.later (un HS).below);have HD:=zAb (h2.later (un HS).below);have HM:=zAb (h3.later (un HS).below);have HE:=zAb (h4.later (un HS).below);have HV:=zAb hV;clear c0 c1 c2 c3 c4 c5 h1 h2 h3 h4 hB hb0 he;go_enter Tryz.func147,Tryz.ntmps147
  go_wp2
  go_step3
  go_upto_region 3 with fail
  rw[←un HV];clear hcp hmk hV HV;have HL1:Hid (∀W x y,zAf W x n→zAf W y e→Calls Tryz.prog 152 #[x,y] W fun r w'=>∃a1 l1 c1 a2 l2 c2,r=.returned (.tuple #[.agg #[.slice a1 l1 c1],.agg #[.slice a2 l2 c2]])∧zAf w' (.agg #[.slice a1 l1 c1]) (n / Nat.gcd n e)∧zAf w' (.agg #[.slice a2 l2 c2]) (e / Nat.gcd n e)∧Bw W w'):=fun W x y i1 i2=>zEy x y n e k W i1 i2 hn he he0 hDA hGA
  have HL2:Hid (∀W x y,zAf W x m→zAf W y d→Calls Tryz.prog 152 #[x,y] W fun r w'=>∃a1 l1 c1 a2 l2 c2,r=.returned (.tuple #[.agg #[.slice a1 l1 c1],.agg #[.slice a2 l2 c2]])∧zAf w' (.agg #[.slice a1 l1 c1]) (m / Nat.gcd m d)∧zAf w' (.agg #[.slice a2 l2 c2]) (d / Nat.gcd m d)∧Bw W w'):=fun W x y i1 i2=>zEy x y m d k W i1 i2 hm hd hd0 hDA hGA
  have hone1:1<1000000000 ^ k:=by
    rcases Nat.eq_zero_or_pos k with h0|h0
    · subst h0;simp at he;omega
    · have:(1000000000:Nat) ^ 1≤1000000000 ^ k:=Nat.pow_le_pow_right (by decide) h0
      omega
  have HBD:Hid (k+k≤100000∧n / Nat.gcd n e<1000000000 ^ k∧m / Nat.gcd m d<1000000000 ^ k∧d / Nat.gcd m d<1000000000 ^ k∧e / Nat.gcd n e<1000000000 ^ k∧1<1000000000 ^ k):=⟨hk,Nat.lt_of_le_of_lt (Nat.div_le_self _ _) hn,Nat.lt_of_le_of_lt (Nat.div_le_self _ _) hm,Nat.lt_of_le_of_lt (Nat.div_le_self _ _) hd,Nat.lt_of_le_of_lt (Nat.div_le_self _ _) he,hone1⟩;have HP0:Hid (PS w V b c (pN n e 0) (pD m d 0) (pM m d 0) (pE n e 0)):=⟨_,_,_,_,_,_,_,_,_,_,_,_,un HS,un HN,un HD,un HM,un HE⟩;clear HS HN HD HM HE hone1 hk hn hd hm he hd0 he0 hDA hGA
  go_step3
  go_wp2
  go_loopw [17] (fun t wr=>∃(i:Int),t=I i∧0≤i∧i≤2∧Hid (PS w wr b c (pN n e i) (pD m d i) (pM m d i) (pE n e i))) (fun t _=>(2 - intOf t).toNat)
  case atStart=>exact⟨0,rfl,by omega,by omega,HP0⟩
  case round=>
    clear HP0;obtain⟨i,rfl,hi0,hi2,HP⟩:=hrel;rcases(by omega:i=0∨i=1∨i=2)with rfl|rfl|rfl
    · have HP':Hid (PS w wr b c n d m e):=un HP
      clear HP hi0 hi2;obtain⟨a1,l1,k1,a2,l2,k2,a3,l3,k3,a4,l4,k4,hT,g1,g2,g3,g4⟩:=un HP';have HT:=zAb hT;have HG1:=zAb g1;have HG2:=zAb g2;have HG3:=zAb g3;have HG4:=zAb g4;clear hT g1 g2 g3 g4 HP';have q1:=(un HT).six.c1
      by_cases hone:n=1
      · have HN1:Hid (∀W,Below wr.heap.size wr W→PS w W b c (pN n e 1) (pD m d 1) (pM m d 1) (pE n e 1)):=fun W hb=>
          ⟨_,_,_,_,_,_,_,_,_,_,_,_,(un HT).later hb,by show zAf _ _ (n / Nat.gcd n e);rw[hone];simp;have:=(un HG1).later hb;rwa [hone]at this,(un HG2).later hb,(un HG3).later hb,by show zAf _ _ (e / Nat.gcd n e);rw[hone];simp;exact(un HG4).later hb⟩
        have H131:=zAb (zCu _ n wr (un HG1));rw[show(n == 1)=true by rw[hone];rfl]at H131;clear hone
        go_upto_region 6 with fail
        go_wp2
        refine wp_loop_rounds 1 ?_;rw[rounds_succ]
        go_wp2_with (go_at_call 188;go_must(refine(un H131).mono ?_;rintro r w1 ⟨rfl,hb1⟩;have HN2:=zAb (un HN1 w1 hb1);clear hb1))
        exact⟨⟨1,rfl,by omega,by omega,HN2⟩,by decide⟩
      · have H131:Hid (∀W,Below wr.heap.size wr W→Calls Tryz.prog 188 #[.agg #[.slice a1 l1 k1]] W fun r w'=>r=.returned (.bool false)∧Bw W w'):=fun W hb=>by
          have:=zCu _ n W ((un HG1).later hb)
          rwa [show(n == 1)=false by rw[beq_eq_false_iff_ne];exact hone]at this
        clear hone
        go_upto_region 6 with fail
        go_wp2
        refine wp_loop_rounds 3 ?_;rw[rounds_succ]
        go_wp2_with (go_at_call 188;go_must(refine(un H131 _ (Below.refl _ _)).mono ?_;rintro r w1 ⟨rfl,hb1⟩;have HB1:=zAb hb1;have HT1:=zAb ((un HT).later hb1);clear hb1 q1;have q1:=(un HT1).six.c1))
        rw[rounds_succ]
        go_upto_region 11 with (go_at_call 188;go_must(refine(un H131 _ (un HB1)).mono ?_;rintro r w2 ⟨rfl,hb2⟩;have HB2:=zAb ((un HB1).trans (hb2.mono (un HB1).size));have HT2:=zAb ((un HT).later (un HB2));clear hb2 q1;have q1:=(un HT2).six.c1;have q5:=(un HT2).six.c5))
        have HC:Hid (∀U,Below w2.heap.size w2 U→(U.cell? ⟨w.heap.size+1,1,none⟩=some (.slice a1 l1 k1)∧U.cell? ⟨w.heap.size+1,5,none⟩=some (.slice a4 l4 k4))∧U.frozen? ⟨w.heap.size+1,1,none⟩=false∧U.frozen? ⟨w.heap.size+1,5,none⟩=false):=fun U hb=>by
          have s:=(un HT2).later hb;exact⟨⟨s.six.c1,s.six.c5⟩,s.six.f 1,s.six.f 5⟩
        have HG1':=zAb ((un HG1).later (un HB2));have HG4':=zAb ((un HG4).later (un HB2))
        go_region_with (go_at_call 152;go_must(refine(un HL1 _ _ _ ((un HG1').later ((Below.refl _ _).drew)) ((un HG4').later ((Below.refl _ _).drew))).mono ?_;rintro r w3 ⟨ai,li,ci,aj,lj,cj,rfl,hi3,hj3,hb3⟩;have HI3:=zAb hi3;have HJ3:=zAb hj3;have HB3:=zAb (((Below.refl w2.heap.size w2).drew).trans hb3);clear hi3 hj3 hb3 q1 q5;obtain⟨⟨q1,q5⟩,f1,f5⟩:=un HC w3 (un HB3)))
        all_goals
          have HT3:=zAb ((un HT2).later (un HB3));have hc5:(w3.setCell ⟨w.heap.size+1,1,none⟩ (.slice ai li ci)).cell? ⟨w.heap.size+1,5,none⟩=some (.slice a4 l4 k4):=by rw[World.cell?_setCell_other _ _ _ _ (by simp)];exact q5
          obtain⟨V3,hV3⟩:∃V3,V3=(w3.setCell ⟨w.heap.size+1,1,none⟩ (.slice ai li ci)).setCell ⟨w.heap.size+1,5,none⟩ (.slice aj lj cj):=⟨_,rfl⟩
          have HN2:Hid (PS w V3 b c (pN n e 1) (pD m d 1) (pM m d 1) (pE n e 1)):=by
            rw[hV3];exact⟨_,_,_,_,_,_,_,_,_,_,_,_,(un HT3).set15 _ _,((un HI3).box _ q1 (zAp _ _ _)).box _ hc5 (zAp _ _ _),((((un HG2).later (un HB2)).later (un HB3)).box _ q1 (zAp _ _ _)).box _ hc5 (zAp _ _ _),((((un HG3).later (un HB2)).later (un HB3)).box _ q1 (zAp _ _ _)).box _ hc5 (zAp _ _ _),((un HJ3).box _ q1 (zAp _ _ _)).box _ hc5 (zAp _ _ _)⟩
          rw[←hV3];clear hV3 hc5 q1 q5 f1 f5 HC HT HT1 HT2 HT3 HG1 HG2 HG3 HG4 HG1' HG4' HI3 HJ3 HB1 HB2 HB3 H131
          go_wp2
          rw[rounds_succ]
          go_wp2
          exact⟨⟨1,rfl,by omega,by omega,HN2⟩,by decide⟩
    · have HP':Hid (PS w wr b c (pN n e 1) d m (pE n e 1)):=un HP
      clear HP hi0 hi2;obtain⟨a1,l1,k1,a2,l2,k2,a3,l3,k3,a4,l4,k4,hT,g1,g2,g3,g4⟩:=un HP';have HT:=zAb hT;have HG1:=zAb g1;have HG2:=zAb g2;have HG3:=zAb g3;have HG4:=zAb g4;clear hT g1 g2 g3 g4 HP';have q4:=(un HT).six.c4
      by_cases hone:m=1
      · have HN1:Hid (∀W,Below wr.heap.size wr W→PS w W b c (pN n e 2) (pD m d 2) (pM m d 2) (pE n e 2)):=fun W hb=>
          ⟨_,_,_,_,_,_,_,_,_,_,_,_,(un HT).later hb,(un HG1).later hb,by show zAf _ _ (d / Nat.gcd m d);rw[hone];simp;exact(un HG2).later hb,by show zAf _ _ (m / Nat.gcd m d);rw[hone];simp;have:=(un HG3).later hb;rwa [hone]at this,(un HG4).later hb⟩
        have H131:=zAb (zCu _ m wr (un HG3));rw[show(m == 1)=true by rw[hone];rfl]at H131;clear hone
        go_upto_region 6 with fail
        go_wp2
        refine wp_loop_rounds 1 ?_;rw[rounds_succ]
        go_wp2_with (go_at_call 188;go_must(refine(un H131).mono ?_;rintro r w1 ⟨rfl,hb1⟩;have HN2:=zAb (un HN1 w1 hb1);clear hb1))
        exact⟨⟨2,rfl,by omega,by omega,HN2⟩,by decide⟩
      · have H131:=zAb (zCu _ m wr (un HG3))
        rw[show(m == 1)=false by rw[beq_eq_false_iff_ne];exact hone]at H131;clear hone
        go_upto_region 6 with fail
        go_wp2
        refine wp_loop_rounds 3 ?_;rw[rounds_succ]
        go_upto_region 11 with (go_at_call 188;go_must(refine(un H131).mono ?_;rintro r w2 ⟨rfl,hb2⟩;have HB2:=zAb hb2;have HT2:=zAb ((un HT).later hb2);clear hb2 q4;have q4:=(un HT2).six.c4;have q2:=(un HT2).six.c2))
        have HC:Hid (∀U,Below w2.heap.size w2 U→(U.cell? ⟨w.heap.size+1,4,none⟩=some (.slice a3 l3 k3)∧U.cell? ⟨w.heap.size+1,2,none⟩=some (.slice a2 l2 k2))∧U.frozen? ⟨w.heap.size+1,4,none⟩=false∧U.frozen? ⟨w.heap.size+1,2,none⟩=false):=fun U hb=>by
          have s:=(un HT2).later hb;exact⟨⟨s.six.c4,s.six.c2⟩,s.six.f 4,s.six.f 2⟩
        have HG3':=zAb ((un HG3).later (un HB2));have HG2':=zAb ((un HG2).later (un HB2))
        go_region_with (go_at_call 152;go_must(refine(un HL2 _ _ _ ((un HG3').later ((Below.refl _ _).drew)) ((un HG2').later ((Below.refl _ _).drew))).mono ?_;rintro r w3 ⟨ai,li,ci,aj,lj,cj,rfl,hi3,hj3,hb3⟩;have HI3:=zAb hi3;have HJ3:=zAb hj3;have HB3:=zAb (((Below.refl w2.heap.size w2).drew).trans hb3);clear hi3 hj3 hb3 q4 q2;obtain⟨⟨q4,q2⟩,f1,f5⟩:=un HC w3 (un HB3)))
        all_goals
          have HT3:=zAb ((un HT2).later (un HB3));have hc5:(w3.setCell ⟨w.heap.size+1,4,none⟩ (.slice ai li ci)).cell? ⟨w.heap.size+1,2,none⟩=some (.slice a2 l2 k2):=by rw[World.cell?_setCell_other _ _ _ _ (by simp)];exact q2
          obtain⟨V3,hV3⟩:∃V3,V3=(w3.setCell ⟨w.heap.size+1,4,none⟩ (.slice ai li ci)).setCell ⟨w.heap.size+1,2,none⟩ (.slice aj lj cj):=⟨_,rfl⟩;have HT4:Hid (TM w V3 b c (.slice a1 l1 k1) (.slice aj lj cj) (.slice ai li ci) (.slice a4 l4 k4)):=by rw[hV3];exact(un HT3).set42 _ _
          have HM4:Hid (zAf V3 (.agg #[.slice ai li ci]) (m / Nat.gcd m d)):=by rw[hV3];exact((un HI3).box _ q4 (zAp _ _ _)).box _ hc5 (zAp _ _ _)
          have HN2:Hid (∀W,Below V3.heap.size V3 W→PS w W b c (pN n e 2) (pD m d 2) (pM m d 2) (pE n e 2)):=fun W hb=>by
            rw[hV3]at hb;exact⟨_,_,_,_,_,_,_,_,_,_,_,_,((un HT3).set42 _ _).later hb,(((((un HG1).later (un HB2)).later (un HB3)).box _ q4 (zAp _ _ _)).box _ hc5 (zAp _ _ _)).later hb,(((un HJ3).box _ q4 (zAp _ _ _)).box _ hc5 (zAp _ _ _)).later hb,(((un HI3).box _ q4 (zAp _ _ _)).box _ hc5 (zAp _ _ _)).later hb,(((((un HG4).later (un HB2)).later (un HB3)).box _ q4 (zAp _ _ _)).box _ hc5 (zAp _ _ _)).later hb⟩
          rw[←hV3];clear hV3 hc5 q4 q2 f1 f5 HC HT HT2 HT3 HG1 HG2 HG3 HG4 HG3' HG2' HI3 HJ3 HB2 HB3 H131;have q4:=(un HT4).six.c4
          go_wp2
          rw[rounds_succ]
          by_cases hone:m / Nat.gcd m d=1
          · have H131:=zAb (zCu _ _ V3 (un HM4))
            rw[show(m / Nat.gcd m d == 1)=true by rw[hone];rfl]at H131;clear hone
            go_wp2_with (go_at_call 188;go_must(refine(un H131).mono ?_;rintro r w5 ⟨rfl,hb5⟩;have HN3:=zAb (un HN2 w5 hb5);clear hb5))
            exact⟨⟨2,rfl,by omega,by omega,HN3⟩,by decide⟩
          · have H131:=zAb (zCu _ _ V3 (un HM4))
            rw[show(m / Nat.gcd m d == 1)=false by rw[beq_eq_false_iff_ne];exact hone]at H131;clear hone
            go_wp2_with (go_at_call 188;go_must(refine(un H131).mono ?_;rintro r w5 ⟨rfl,hb5⟩;have HN3:=zAb (un HN2 w5 hb5);clear hb5))
            rw[rounds_succ]
            go_wp2
            exact⟨⟨2,rfl,by omega,by omega,HN3⟩,by decide⟩
    · have HP':Hid (PS w wr b c (n / Nat.gcd n e) (d / Nat.gcd m d) (m / Nat.gcd m d) (e / Nat.gcd n e)):=un HP
      clear HP hi0 hi2 HL1 HL2;obtain⟨a1,l1,k1,a2,l2,k2,a3,l3,k3,a4,l4,k4,hT,g1,g2,g3,g4⟩:=un HP';have HT:=zAb hT;have HG1:=zAb g1;have HG2:=zAb g2;have HG3:=zAb g3;have HG4:=zAb g4;clear hT g1 g2 g3 g4 HP';obtain⟨N,hN⟩:∃N,N=n / Nat.gcd n e:=⟨_,rfl⟩;obtain⟨D,hD⟩:∃D,D=d / Nat.gcd m d:=⟨_,rfl⟩;obtain⟨M,hM⟩:∃M,M=m / Nat.gcd m d:=⟨_,rfl⟩;obtain⟨E,hE⟩:∃E,E=e / Nat.gcd n e:=⟨_,rfl⟩;have HEQ:=zAb (And.intro hN (And.intro hD (And.intro hM hE)));rw[←hN]at HG1;rw[←hD]at HG2;rw[←hM]at HG3;rw[←hE]at HG4;rw[←hN,←hD,←hM,←hE]at HBD;clear hN hD hM hE;have HW1:=zAb (fun W=>whole_any 1 W (by omega))
      go_upto_region 15 with (go_at_call 154;go_must(refine(un HW1 _).mono ?_;rintro r w1 ⟨v1,rfl,hv1,hb1⟩;obtain⟨p1,p2,p3,p4,p5,p6,rfl,hu1,hu2⟩:=hv1.form;have HT1:=zAb ((un HT).later hb1);have HU1:=zAb hu1;have HU2:=zAb hu2;have HB1:=zAb hb1;clear hv1 hb1 hu1 hu2))
      obtain⟨V1,hV1⟩:∃V1,V1=w1.alloc (.cells #[.bool false,.slice p1 p2 p3,.slice p4 p5 p6] 82):=⟨_,rfl⟩
      have HQ:Hid (QS w V1 w1.heap.size b c (.slice a1 l1 k1) (.slice a2 l2 k2) (.slice a3 l3 k3) (.slice a4 l4 k4) false (.slice p1 p2 p3) (.slice p4 p5 p6) N D M E 1 1):=by
        have hb:Below w1.heap.size w1 V1:=by rw[hV1];exact(Below.refl _ _).alloc (Nat.le_refl _) _
        have hb2:=(un HB1).trans (hb.mono (un HB1).size);exact⟨(un HT1).later hb,(un HT1).six.lt,by rw[hV1];exact FBox.new _ _ _ _,(un HG1).later hb2,(un HG2).later hb2,(un HG3).later hb2,(un HG4).later hb2,(un HU1).later hb,(un HU2).later hb⟩
      rw[←hV1];clear hV1 HT HT1 HG1 HG2 HG3 HG4 HU1 HU2 HB1 HW1;generalize w1.heap.size=g6 at *
      go_wp2
      refine wp_loop_rounds 3 ?_;rw[rounds_succ];have u0:=(un HQ).tm.six.c0;have u1:=(un HQ).tm.six.c1;have u2:=(un HQ).tm.six.c2
      go_upto_region 18 with fail
      obtain⟨V2,hV2⟩:∃V2,V2=V1.alloc (.cells #[.bool b,.slice a1 l1 k1,.slice a2 l2 k2] 82):=⟨_,rfl⟩;have HX:Hid (FBox V2 V1.heap.size (.bool b) (.slice a1 l1 k1) (.slice a2 l2 k2)∧g6<V1.heap.size):=⟨by rw[hV2];exact FBox.new _ _ _ _,(un HQ).fb.lt⟩;have HQ2:=zAb ((un HQ).later (show Below V1.heap.size V1 V2 by rw[hV2];exact(Below.refl _ _).alloc (Nat.le_refl _) _));rw[←hV2];clear hV2 HQ u0 u1 u2;generalize V1.heap.size=g8 at *
      have u0:=(un HQ2).fb.c0;have u1:=(un HQ2).fb.f0;have u2:=(un HX).1.c0
      go_upto_region 19 with fail
      obtain⟨V3,hV3⟩:∃V3,V3=V2.setCell ⟨g6,0,none⟩ (.bool b):=⟨_,rfl⟩;have hne:g8≠g6:=by have:=(un HX).2;omega
      have HX3:Hid (FBox V3 g8 (.bool b) (.slice a1 l1 k1) (.slice a2 l2 k2)):=by rw[hV3];exact(un HX).1.otherAt hne _
      have HQ3:Hid (QS w V3 g6 b c (.slice a1 l1 k1) (.slice a2 l2 k2) (.slice a3 l3 k3) (.slice a4 l4 k4) b (.slice p1 p2 p3) (.slice p4 p5 p6) N D M E 1 1):=by rw[hV3];exact(un HQ2).set0 b
      rw[←hV3];clear hV3 HQ2 HX u0 u1 u2;have HMUL:=zAb (mul_any _ _ 1 N k V3 (un HQ3).ip (un HQ3).i1 (by have:=(un HBD).1;omega) (un HBD).2.2.2.2.2 (un HBD).2.1);have u0:=(un HQ3).fb.c1;have u2:=(un HX3).c1
      go_upto_region 20 with (go_at_call 151;go_must(refine(un HMUL).mono ?_;rintro r w4 ⟨v',rfl,hv',hb'⟩;obtain⟨o1,o2,o3,rfl⟩:=hv'.shape;have HQ4:=zAb ((un HQ3).later hb');have HX4:=zAb ((un HX3).later hb');have HO:=zAb hv';clear hv' hb' u0 u2;have u0:=(un HQ4).fb.c1;have u1:=(un HQ4).fb.f1))
      obtain⟨V4,hV4⟩:∃V4,V4=w4.setCell ⟨g6,1,none⟩ (.slice o1 o2 o3):=⟨_,rfl⟩;have HX5:Hid (FBox V4 g8 (.bool b) (.slice a1 l1 k1) (.slice a2 l2 k2)):=by rw[hV4];exact(un HX4).otherAt hne _
      have HQ5:Hid (QS w V4 g6 b c (.slice a1 l1 k1) (.slice a2 l2 k2) (.slice a3 l3 k3) (.slice a4 l4 k4) b (.slice o1 o2 o3) (.slice p4 p5 p6) N D M E (1*N) 1):=by rw[hV4];exact(un HQ4).set1 (un HO)
      rw[←hV4];clear hV4 HQ3 HX3 HQ4 HX4 HO HMUL u0 u1;have HMUL:=zAb (mul_any _ _ 1 D k V4 (un HQ5).iq (un HQ5).i2 (by have:=(un HBD).1;omega) (un HBD).2.2.2.2.2 (un HBD).2.2.2.1);have u0:=(un HQ5).fb.c2;have u2:=(un HX5).c2
      go_wp2_with (go_at_call 151;go_must(refine(un HMUL).mono ?_;rintro r w5 ⟨v',rfl,hv',hb'⟩;obtain⟨o4,o5,o6,rfl⟩:=hv'.shape;have HQ6:=zAb ((un HQ5).later hb');have HO:=zAb hv';clear hv' hb' u0 u2;have u0:=(un HQ6).fb.c2;have u1:=(un HQ6).fb.f2))
      obtain⟨V5,hV5⟩:∃V5,V5=w5.setCell ⟨g6,2,none⟩ (.slice o4 o5 o6):=⟨_,rfl⟩;have HQ7:Hid (QS w V5 g6 b c (.slice a1 l1 k1) (.slice a2 l2 k2) (.slice a3 l3 k3) (.slice a4 l4 k4) b (.slice o1 o2 o3) (.slice o4 o5 o6) N D M E (1*N) (1*D)):=by rw[hV5];exact(un HQ6).set2 (un HO)
      rw[←hV5];clear hV5 HQ5 HX5 HQ6 HO HMUL u0 u1 hne;rw[rounds_succ];have u0:=(un HQ7).tm.six.c3;have u1:=(un HQ7).tm.six.c4;have u2:=(un HQ7).tm.six.c5
      go_upto_region 18 with fail
      obtain⟨V6,hV6⟩:∃V6,V6=V5.alloc (.cells #[.bool c,.slice a3 l3 k3,.slice a4 l4 k4] 82):=⟨_,rfl⟩;have HX:Hid (FBox V6 V5.heap.size (.bool c) (.slice a3 l3 k3) (.slice a4 l4 k4)∧g6<V5.heap.size):=⟨by rw[hV6];exact FBox.new _ _ _ _,(un HQ7).fb.lt⟩;have HQ8:=zAb ((un HQ7).later (show Below V5.heap.size V5 V6 by rw[hV6];exact(Below.refl _ _).alloc (Nat.le_refl _) _));rw[←hV6];clear hV6 HQ7 u0 u1 u2;generalize V5.heap.size=g9 at *
      have u0:=(un HQ8).fb.c0;have u1:=(un HQ8).fb.f0;have u2:=(un HX).1.c0
      go_upto_region 19 with fail
      obtain⟨V7,hV7⟩:∃V7,V7=V6.setCell ⟨g6,0,none⟩ (.bool (!(b == c))):=⟨_,rfl⟩;have hne:g9≠g6:=by have:=(un HX).2;omega
      have HX3:Hid (FBox V7 g9 (.bool c) (.slice a3 l3 k3) (.slice a4 l4 k4)):=by rw[hV7];exact(un HX).1.otherAt hne _
      have HQ9:Hid (QS w V7 g6 b c (.slice a1 l1 k1) (.slice a2 l2 k2) (.slice a3 l3 k3) (.slice a4 l4 k4) (!(b == c)) (.slice o1 o2 o3) (.slice o4 o5 o6) N D M E (1*N) (1*D)):=by rw[hV7];exact(un HQ8).set0 _
      rw[←hV7];clear hV7 HQ8 HX u0 u1 u2;have HMUL:=zAb (mul_any _ _ (1*N) M k V7 (un HQ9).ip (un HQ9).i3 (by have:=(un HBD).1;omega) (by rw[Nat.one_mul];exact(un HBD).2.1) (un HBD).2.2.1);have u0:=(un HQ9).fb.c1;have u2:=(un HX3).c1
      go_upto_region 20 with (go_at_call 151;go_must(refine(un HMUL).mono ?_;rintro r w8 ⟨v',rfl,hv',hb'⟩;obtain⟨i1,i2,i3,rfl⟩:=hv'.shape;have HQ4:=zAb ((un HQ9).later hb');have HX4:=zAb ((un HX3).later hb');have HO:=zAb hv';clear hv' hb' u0 u2;have u0:=(un HQ4).fb.c1;have u1:=(un HQ4).fb.f1))
      obtain⟨V8,hV8⟩:∃V8,V8=w8.setCell ⟨g6,1,none⟩ (.slice i1 i2 i3):=⟨_,rfl⟩;have HX5:Hid (FBox V8 g9 (.bool c) (.slice a3 l3 k3) (.slice a4 l4 k4)):=by rw[hV8];exact(un HX4).otherAt hne _
      have HQ5:Hid (QS w V8 g6 b c (.slice a1 l1 k1) (.slice a2 l2 k2) (.slice a3 l3 k3) (.slice a4 l4 k4) (!(b == c)) (.slice i1 i2 i3) (.slice o4 o5 o6) N D M E (1*N*M) (1*D)):=by rw[hV8];exact(un HQ4).set1 (un HO)
      rw[←hV8];clear hV8 HQ9 HX3 HQ4 HX4 HO HMUL u0 u1;have HMUL:=zAb (mul_any _ _ (1*D) E k V8 (un HQ5).iq (un HQ5).i4 (by have:=(un HBD).1;omega) (by rw[Nat.one_mul];exact(un HBD).2.2.2.1) (un HBD).2.2.2.2.1);have u0:=(un HQ5).fb.c2;have u2:=(un HX5).c2
      go_wp2_with (go_at_call 151;go_must(refine(un HMUL).mono ?_;rintro r w9 ⟨v',rfl,hv',hb'⟩;obtain⟨i4,i5,i6,rfl⟩:=hv'.shape;have HQ6:=zAb ((un HQ5).later hb');have HO:=zAb hv';clear hv' hb' u0 u2;have u0:=(un HQ6).fb.c2;have u1:=(un HQ6).fb.f2))
      obtain⟨V9,hV9⟩:∃V9,V9=w9.setCell ⟨g6,2,none⟩ (.slice i4 i5 i6):=⟨_,rfl⟩;have HQ7:Hid (QS w V9 g6 b c (.slice a1 l1 k1) (.slice a2 l2 k2) (.slice a3 l3 k3) (.slice a4 l4 k4) (!(b == c)) (.slice i1 i2 i3) (.slice i4 i5 i6) N D M E (1*N*M) (1*D*E)):=by rw[hV9];exact(un HQ6).set2 (un HO)
      rw[←hV9];clear hV9 HQ5 HX5 HQ6 HO HMUL u0 u1 hne;rw[rounds_succ];rw[Nat.one_mul,Nat.one_mul]at HQ7;obtain⟨PN,hPN⟩:∃PN,PN=N*M:=⟨_,rfl⟩;obtain⟨PD,hPD⟩:∃PD,PD=D*E:=⟨_,rfl⟩;obtain⟨bb,hbb⟩:∃bb,bb=(!(b == c)):=⟨_,rfl⟩;have HEQ2:=zAb (And.intro hPN (And.intro hPD hbb));rw[←hPN,←hPD,←hbb]at HQ7;rw[←hbb];clear hPN hPD hbb;have u0:=(un HQ7).fb.c0;have u1:=(un HQ7).fb.c1;have u2:=(un HQ7).fb.f0
      cases bb with
      | false=>
        go_upto_region 23 with fail
        obtain⟨V10,hV10⟩:∃V10,V10=V9.setCell ⟨g6,0,none⟩ (.bool false):=⟨_,rfl⟩;have HQ8:Hid (QS w V10 g6 b c (.slice a1 l1 k1) (.slice a2 l2 k2) (.slice a3 l3 k3) (.slice a4 l4 k4) false (.slice i1 i2 i3) (.slice i4 i5 i6) N D M E PN PD):=by rw[hV10];exact(un HQ7).set0 _
        rw[←hV10];clear hV10 HQ7 u0 u1 u2;have u0:=(un HQ8).fb.c0;have u1:=(un HQ8).fb.c1;have u2:=(un HQ8).fb.c2;have r0:=(un HQ8).tm.r.c0;have r1:=(un HQ8).tm.r.c1;have r2:=(un HQ8).tm.r.c2;have rf0:=(un HQ8).tm.r.f0;have rf1:=(un HQ8).tm.r.f1;have rf2:=(un HQ8).tm.r.f2
        go_wp2
        try rw[Exit.noGoto_ret]
        have hS:=(un HQ8).tm.r.store (.bool false) (.slice i1 i2 i3) (.slice i4 i5 i6);have hb:Below w.heap.size w (zAs V10 w.heap.size (.bool false) (.slice i1 i2 i3) (.slice i4 i5 i6)):=zAq (un HQ8).tm.below (Nat.le_refl _) _ _ _;have t0:=hS.c0;have t1:=hS.c1;have t2:=hS.c2;exact bodyPost_ret (v:=.agg #[.bool false,.slice i1 i2 i3,.slice i4 i5 i6]) (w:=zAs V10 w.heap.size (.bool false) (.slice i1 i2 i3) (.slice i4 i5 i6)) (by simp[results,Tryz.results147,go_sem,t0,t1,t2]) rfl ⟨_,rfl,(by rw[←(un HEQ).1,←(un HEQ).2.1,←(un HEQ).2.2.1,←(un HEQ).2.2.2,←(un HEQ2).1,←(un HEQ2).2.1,←(un HEQ2).2.2];exact⟨_,_,rfl,(un HQ8).tm.r.big _ _ _ (un HQ8).ip,(un HQ8).tm.r.big _ _ _ (un HQ8).iq⟩),hb⟩
      | true=>
        have HZ:=zAb (zCk _ PN V9 (un HQ7).ip)
        go_upto_region 23 with (go_at_call 153;go_must(refine(un HZ).mono ?_;rintro r wz ⟨rfl,hbz⟩;have HQ8:=zAb ((un HQ7).later hbz);clear hbz u0 u1 u2;have u0:=(un HQ8).fb.c0;have u2:=(un HQ8).fb.f0))
        obtain⟨V10,hV10⟩:∃V10,V10=wz.setCell ⟨g6,0,none⟩ (.bool (!(PN == 0))):=⟨_,rfl⟩;have HQ9:Hid (QS w V10 g6 b c (.slice a1 l1 k1) (.slice a2 l2 k2) (.slice a3 l3 k3) (.slice a4 l4 k4) (!(PN == 0)) (.slice i1 i2 i3) (.slice i4 i5 i6) N D M E PN PD):=by rw[hV10];exact(un HQ8).set0 _
        rw[←hV10];clear hV10 HQ7 HQ8 HZ u0 u2;have u0:=(un HQ9).fb.c0;have u1:=(un HQ9).fb.c1;have u2:=(un HQ9).fb.c2;have r0:=(un HQ9).tm.r.c0;have r1:=(un HQ9).tm.r.c1;have r2:=(un HQ9).tm.r.c2;have rf0:=(un HQ9).tm.r.f0;have rf1:=(un HQ9).tm.r.f1;have rf2:=(un HQ9).tm.r.f2
        go_wp2
        try rw[Exit.noGoto_ret]
        have hS:=(un HQ9).tm.r.store (.bool (!(PN == 0))) (.slice i1 i2 i3) (.slice i4 i5 i6);have hb:Below w.heap.size w (zAs V10 w.heap.size (.bool (!(PN == 0))) (.slice i1 i2 i3) (.slice i4 i5 i6)):=zAq (un HQ9).tm.below (Nat.le_refl _) _ _ _;have t0:=hS.c0;have t1:=hS.c1;have t2:=hS.c2;exact bodyPost_ret (v:=.agg #[.bool (!(PN == 0)),.slice i1 i2 i3,.slice i4 i5 i6]) (w:=zAs V10 w.heap.size (.bool (!(PN == 0))) (.slice i1 i2 i3) (.slice i4 i5 i6)) (by simp[results,Tryz.results147,go_sem,t0,t1,t2]) rfl ⟨_,rfl,(by rw[←(un HEQ).1,←(un HEQ).2.1,←(un HEQ).2.2.1,←(un HEQ).2.2.2,←(un HEQ2).1,←(un HEQ2).2.1,←(un HEQ2).2.2];exact⟨_,_,rfl,(un HQ9).tm.r.big _ _ _ (un HQ9).ip,(un HQ9).tm.r.big _ _ _ (un HQ9).iq⟩),hb⟩
theorem first_any (ap:Option Addr) (l:List Nat) (cap t up x2 x1 x0 h e f:Nat) (w:World) (hr:Row w (.slice ap l.length cap) l) (e2:l.getD (t+2) 0=x2) (e1:l.getD (t+1) 0=x1) (e0:l.getD t 0=x0) (ht:t≤1000000)
  (b2:x2<1000000000) (b1:x1<1000000000) (b0:x0<1000000000) (hh:h=x2*1000000000+x1) (hu:1≤up) (hu2:up≤1000000000) (he:e=1000000000 / up) (hf:f=h*up+x0 / e) (hb:h*up<1000000000000000000) :
  Calls Tryz.prog 256 #[.agg #[.slice ap l.length cap],I ((t+2:Nat):Int),.int .u64 (up:Int)] w fun e w'=>e=.returned (.int .u64 (f:Int))∧Bw w w':=by
 have HX2:Hid (∀W:World,Below w.heap.size w W→Calls Tryz.prog 285 #[.agg #[.slice ap l.length cap],I ((t+2:Nat):Int)] W fun e w'=>e=.returned (.int .u64 (x2:Int))∧Bw W w'):=fun W hW=>by
  have:=limb_any ap l cap (t+2) W (hr.later hW);rw[e2]at this;exact this
 have HX1:Hid (∀W:World,Below w.heap.size w W→Calls Tryz.prog 285 #[.agg #[.slice ap l.length cap],I ((t:Int)+2 - 1)] W fun e w'=>e=.returned (.int .u64 (x1:Int))∧Bw W w'):=fun W hW=>by
  have:=limb_any ap l cap (t+1) W (hr.later hW);rw[e1,show((t+1:Nat):Int)=(t:Int)+2 - 1 by omega]at this;exact this
 have HX0:Hid (∀W:World,Below w.heap.size w W→Calls Tryz.prog 285 #[.agg #[.slice ap l.length cap],I (t:Int)] W fun e w'=>e=.returned (.int .u64 (x0:Int))∧Bw W w'):=fun W hW=>by
  have:=limb_any ap l cap t W (hr.later hW);rw[e0]at this;exact this
 generalize l.length=n at *
 clear e2 e1 e0 hr;have HHI:Hid ((x2:Int)*1000000000+(x1:Int)=(h:Int)):=by show _=_;omega
 have hB:h<1000000000000000000:=by omega
 have hup0:¬up=0:=by omega
 have he1:1≤e:=by rw[he];exact(Nat.le_div_iff_mul_le (by omega)).2 (by omega)
 have he2:e≤1000000000:=by rw[he];exact Nat.div_le_self _ _
 have he0:¬e=0:=by omega
 have hE:(1000000000:Int) / (up:Int)=(e:Int):=by rw[he];exact(Int.natCast_ediv 1000000000 up).symm
 have hxe:x0 / e≤x0:=Nat.div_le_self _ _
 have HF:Hid (IntKind.u64.wrap ((h:Int)*(up:Int)+IntKind.u64.wrap ((x0:Int) / (e:Int)))=(f:Int)):=by
  show _=_;rw[←Int.natCast_ediv,←Int.natCast_mul,IntKind.wrap_u64,IntKind.wrap_u64];generalize x0 / e=q at *
  generalize h*up=g at *
  omega
 clear he hf;go_enter Tryz.func256,Tryz.ntmps256
 go_upto_region 1 with fail
 obtain⟨W,hW⟩:∃W,W=w.alloc (.cells #[.slice ap n cap] 80):=⟨_,rfl⟩;have HW:Hid (Bw w W):=by rw[hW];exact bA
 have hsz:W.heap.size=w.heap.size+1:=by rw[hW];simp
 have hc:∀x:zBy W,x.world.cell? ⟨w.heap.size,0,none⟩=some (.slice ap n cap):=fun x=>by
  rw[x.below.cell (p:=⟨w.heap.size,0,none⟩) (by rw[hsz];exact Nat.lt_succ_self _),hW];simp[go_sem]
 rw[←hW];clear hW hh;refine zCz (by kernel_rfl) (by kernel_rfl) ?_
 iterate 4 (go_big_quiet_step ((rename_i xx;refine(un HX2 _ ((un HW).trans (xx.below.mono (un HW).size))).mono ?_;rintro e w9 ⟨rfl,hb9⟩;have hz:=xx.below.trans (hb9.mono xx.below.size);first|exact⟨rfl,⟨w9,hz⟩,rfl⟩|exact⟨rfl,hz⟩|exact⟨rfl,w9,hz,rfl⟩)))
 repeat (go_big_quiet_step ((rename_i xx;refine(un HX1 _ ((un HW).trans (xx.below.mono (un HW).size))).mono ?_;rintro e w9 ⟨rfl,hb9⟩;have hz:=xx.below.trans (hb9.mono xx.below.size);first|exact⟨rfl,⟨w9,hz⟩,rfl⟩|exact⟨rfl,hz⟩|exact⟨rfl,w9,hz,rfl⟩)))
 refine wpQuiet_nil ?_;intro _ hw';obtain⟨xz,hw''⟩:=hw';subst hw'';rw[un HHI];obtain⟨W2,hW2⟩:∃W2,W2=xz.world:=⟨_,rfl⟩;have HW2:Hid (Bw W W2):=by rw[hW2];exact xz.below
 have hc2:∀x:zBy W2,x.world.cell? ⟨w.heap.size,0,none⟩=some (.slice ap n cap):=fun x=>
  hc ⟨x.world,(un HW2).trans (x.below.mono (un HW2).size)⟩
 rw[←hW2];clear hW2 hc
 go_upto_region 2 with fail
 refine zCz (by kernel_rfl) (by kernel_rfl) ?_
 repeat (go_big_quiet_step ((rename_i xx;refine(un HX0 _ ((un HW).trans (((un HW2).trans (xx.below.mono (un HW2).size)).mono (un HW).size))).mono ?_;rintro e w9 ⟨rfl,hb9⟩;have hz:=xx.below.trans (hb9.mono xx.below.size);first|exact⟨rfl,⟨w9,hz⟩,rfl⟩|exact⟨rfl,hz⟩|exact⟨rfl,w9,hz,rfl⟩)))
 refine wpQuiet_nil ?_;intro _ hw';obtain⟨xy,hw''⟩:=hw';subst hw'';rw[un HF]
 go_wp2_with fail
 go_ret
 exact⟨rfl,(un HW).trans (((un HW2).trans (xy.below.mono (un HW2).size)).mono (un HW).size)⟩
end Go.Proofs.YtliadckofhblnaaGreatDoor

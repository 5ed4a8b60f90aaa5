/- dim.Quo, Pow, Root; the law's small. -/
import Derived.Test.YtamoadanapmmeaaGreatDoorTakeB
import Derived.Test.YtamoadanapmmeaaGreatDoorLimb3
import Derived.Deep.QuietTactic
import Derived.BigQuiet
import Derived.WalkSmall
import Derived.Deep.Cut
import Derived.Deep.CutRange
import Derived.Deep.RegionWith
import Derived.Test.YtamoadanapmmeaaGreatDoorProg
import Derived.WalkKit
import Derived.WalkSpells
import Derived.WalkLawsBesides
import Derived.Handy
namespace Cub
structure Acc (B:Nat) (O:List Nat) (c p V:Nat):Prop where
  lim:limbs B O
  val:lval B O+B ^ p*c=V
theorem Acc.step {B:Nat} {O:List Nat} {c p V:Nat} (h:Acc B O c p V) (hB:0<B) (hp:p<O.length) (t:Nat) :
    Acc B (O.set p ((c+O[p]+t) % B)) ((c+O[p]+t) / B) (p+1) (V+B ^ p*t):=by
  refine ⟨limbs_set h.lim p _ (Nat.mod_lt _ hB),?_⟩
  have e1:=lval_set B O p ((c+O[p]+t) % B) hp
  have e2:=h.val
  have e3:c+O[p]+t=B*((c+O[p]+t) / B)+(c+O[p]+t) % B:=(Nat.div_add_mod _ _).symm
  generalize (c+O[p]+t) / B=q at *
  generalize (c+O[p]+t) % B=r at *
  have e4:=congrArg (B ^ p*·) e3
  simp only[Nat.mul_add] at e4
  rw[Nat.pow_succ]
  have m1:B ^ p*B*q=B ^ p*(B*q):=Nat.mul_assoc _ _ _
  omega
theorem Acc.none {B:Nat} {O:List Nat} {c p V:Nat} (h:Acc B O c p V) (hV:V<B ^ p):c=0:=by
  rcases Nat.eq_zero_or_pos c with h0|h0
  · exact h0
  · have:B ^ p*1≤B ^ p*c:=Nat.mul_le_mul_left _ h0
    have:=h.val
    omega
theorem carry_lt (B c o x y:Nat) (hc:c<B) (ho:o<B) (hx:x<B) (hy:y<B):(c+o+x*y) / B<B:=by
  apply Nat.div_lt_of_lt_mul
  obtain ⟨b,rfl⟩:∃ b,B=b+1:=⟨B - 1,by omega⟩
  have h1:x*y≤b*b:=Nat.mul_le_mul (by omega) (by omega)
  have h2:(b+1)*(b+1)=b*b+b+b+1:=by rw[Nat.add_mul,Nat.mul_add];omega
  omega
theorem get_zero {B:Nat} {O:List Nat} {p:Nat} (h:lval B O<B ^ p) (hp:p<O.length):O[p]=0:=by
  rcases Nat.eq_zero_or_pos O[p] with h0|h0
  · exact h0
  · have e:=lval_set B O p 0 hp
    have:B ^ p*1≤B ^ p*O[p]:=Nat.mul_le_mul_left _ h0
    omega
theorem mul_lt (B:Nat) (x y:List Nat) (hx:limbs B x) (hy:limbs B y) (i:Nat):lval B (x.take i)*lval B y<B ^ (i+y.length)∨B=0:=by
  rcases Nat.eq_zero_or_pos B with h0|h0
  · exact Or.inr h0
  · left
    have h1:=lval_lt (B:=B) (l:=x.take i) (fun z hz=>hx z (List.mem_of_mem_take hz))
    have h2:=lval_lt hy
    have h3:B ^ (x.take i).length≤B ^ i:=Nat.pow_le_pow_right h0 (List.length_take_le _ _)
    rw[Nat.pow_add]
    exact Nat.mul_lt_mul'' (by omega) h2
theorem lval_zeros (B n:Nat):lval B (List.replicate n 0)=0:=by
  induction n with
  | zero=>rfl
  | succ n ih=>simp[List.replicate_succ,lval,ih]
theorem limbs_zeros (B n:Nat) (hB:0<B):limbs B (List.replicate n 0):=fun x hx=>by
  rw[List.mem_replicate] at hx;omega
theorem val_inner (B a i k:Nat) (y:List Nat) (V:Nat):V+B ^ i*(a*lval B (y.take k))+B ^ (i+k)*(a*y.getD k 0)=V+B ^ i*(a*lval B (y.take (k+1))):=by
  rw[takeB,Nat.mul_add,Nat.mul_add,Nat.pow_add]
  have:B ^ i*(a*(B ^ k*y.getD k 0))=B ^ i*B ^ k*(a*y.getD k 0):=by
    rw[Nat.mul_left_comm a,← Nat.mul_assoc]
  omega
theorem val_outer (B i:Nat) (x y:List Nat):lval B (x.take i)*lval B y+B ^ i*(x.getD i 0*lval B y)=lval B (x.take (i+1))*lval B y:=by
  rw[takeB,Nat.add_mul,Nat.mul_assoc]
end Cub

namespace Go.Proofs.YtamoadanapmmeaaGreatDoor
open Go.RowKit
structure OutU (w wr:World) (a b:Value) (N:Nat) (O:List Nat):Prop where
  own:Own wr (w.heap.size+1+1+1) O
  len:O.length=N
  box:Boxes3 w wr a b (.slice none 0 0)
theorem OutU.set {w wr:World} {a b:Value} {N:Nat} {O:List Nat} (h:OutU w wr a b N O) (p x:Nat) (z:Int) (hz:z=(x:Int)):OutU w (wr.setCell ⟨w.heap.size+1+1+1,p,none⟩ (.int .u64 z)) a b N (O.set p x):=by
  subst hz
  exact ⟨h.own.set p x,by rw[List.length_set];exact h.len,h.box.on ((Below.refl (w.heap.size+3) wr).setCell (p:=⟨w.heap.size+1+1+1,p,none⟩) (show w.heap.size+3≤w.heap.size+1+1+1 by omega) _)⟩
theorem OutU.drew {w wr:World} {a b:Value} {N:Nat} {O:List Nat} (h:OutU w wr a b N O) (k:Nat):OutU w (wr.drewN k) a b N O :=
  ⟨h.own,h.len,h.box.on (below_drewN (Below.refl _ _) k)⟩
set_option maxRecDepth 100000 in
set_option maxHeartbeats 2000000 in
theorem mul_any (x y:Value) (m n k:Nat) (w:World) (hx:IsBig w x m) (hy:IsBig w y n) (hk:k≤1000000) (hm:m<1000000000 ^ k) (hn:n<1000000000 ^ k) :
    Calls Tryz.prog 151 #[x,y] w fun e w'=>∃ v,e=.returned v∧IsBig w' v (m*n)∧Below w.heap.size w w':=by
  obtain ⟨ap,lp,cp,rfl,hlp,hrp,hnp,rfl⟩:=hx.form
  obtain ⟨aq,lq,cq,rfl,hlq,hrq,hnq,rfl⟩:=hy.form
  have h1:=Cub.len_le hnp hm
  have h2:=Cub.len_le hnq hn
  have HP:Hid (Cub.limbs 1000000000 lp∧Cells w ap lp):=⟨hnp.1,hrp.cells.2.2.2⟩
  have HQ:Hid (Cub.limbs 1000000000 lq∧Cells w aq lq):=⟨hnq.1,hrq.cells.2.2.2⟩
  obtain ⟨np,hnp'⟩:∃ np,np=lp.length:=⟨_,rfl⟩
  obtain ⟨nq,hnq'⟩:∃ nq,nq=lq.length:=⟨_,rfl⟩
  rw[← hnp'] at h1 ⊢
  rw[← hnq'] at h2 ⊢
  have HNP:=hide hnp'
  have HNQ:=hide hnq'
  clear hx hy hm hn hlp hlq hrp hrq hnp hnq hnp' hnq'
  obtain ⟨i0,hi,hz0,hz1,hz2⟩:=info_parts Tryz.info168
  go_enter Tryz.func151,Tryz.ntmps151
  go_wp2_with (first
    | (at_make;go_must (refine wpList_make_full _ rfl _ _ 78 rfl (w.heap.size+3) 168 i0 (.int .u64 0) 1 Tryz.underlying78 hi hz0 hz1 .i64 .i64 _ _ (np+nq) rfl rfl (by omega) (by omega) (by rw[hz2];omega) (by unfold maxLen;omega) (by simp) ?_;intro w4 hown4 hgrow4;rw[u64s_made] at hown4;have hO4:Own w4 (w.heap.size+1+1+1) (List.replicate (np+nq) 0):=(by have:=Own.of_row hown4;simpa using this);have hB4:=boxes3 ((Below.refl (w.heap.size+3) _).grown hgrow4 (by simp) (fun k hk=>by cases hk));have bp4:=hB4.c1;have HO4:Hid (OutU w w4 (.slice ap np cp) (.slice aq nq cq) (np+nq) (List.replicate (np+nq) 0)):=⟨hO4,List.length_replicate ..,hB4⟩;clear hown4 hgrow4 hO4 hB4)))
  go_loopw [22] (fun t wr=>∃ (i:Nat) (O:List Nat),t=I (i:Int)∧i≤np∧Hid (OutU w wr (.slice ap np cp) (.slice aq nq cq) (np+nq) O)∧Hid (Cub.limbs 1000000000 O∧Cub.lval 1000000000 O=Cub.lval 1000000000 (lp.take i)*Cub.lval 1000000000 lq)) (fun t _=>np - (intOf t).toNat)
  case atStart=>exact ⟨0,_,rfl,by omega,HO4,⟨Cub.limbs_zeros _ _ (by decide),by rw[Cub.lval_zeros];simp[Cub.lval]⟩⟩
  case round=>
    obtain ⟨i,O,rfl,hi',HO,HV⟩:=hrel
    clear bp4
    have bq:=(un HO).box.c2
    by_cases hin:i<np
    · have hil:i<lp.length:=by have:=un HNP;omega
      obtain ⟨xv,hxv⟩:∃ xv,xv=lp[i]:=⟨_,rfl⟩
      have hxB:xv<1000000000:=by rw[hxv];exact (un HP).1 _ (List.getElem_mem hil)
      have HXV:Hid (lp.getD i 0=xv):=by rw[hxv,List.getD_eq_getElem?_getD,List.getElem?_eq_getElem hil];exact rfl
      obtain ⟨b1,o1,rfl,hcx⟩:=(un HP).2 wr (un HO).box.below i hil
      rw[← hxv] at hcx
      clear hxv
      by_cases hx0:xv=0
      · subst hx0
        have HVn:Hid (Cub.limbs 1000000000 O∧Cub.lval 1000000000 O=Cub.lval 1000000000 (lp.take (i+1))*Cub.lval 1000000000 lq):=by
          refine ⟨(un HV).1,?_⟩
          rw[← Cub.val_outer,un HXV,(un HV).2];simp
        go_wp2
        go_roundw
        case rel=>exact ⟨i+1,O,by go_num,by omega,HO,HVn⟩
        case measure=>simp[intOf];omega
      · have hxz:((xv:Int) == 0)=false:=by rw[beq_eq_false_iff_ne];omega
        have HA0:Hid (Cub.Acc 1000000000 O 0 (i+0) (Cub.lval 1000000000 (lp.take i)*Cub.lval 1000000000 lq+1000000000 ^ i*(xv*Cub.lval 1000000000 (lq.take 0)))):=by
          refine ⟨(un HV).1,?_⟩
          rw[(un HV).2];simp[Cub.lval]
        have HZ0:Hid (∀ p (hp:p<O.length),i+nq≤p→O[p]=0):=fun p hp hip=>by
          apply Cub.get_zero (B:=1000000000) (p:=p) _ hp
          rw[(un HV).2]
          rcases Cub.mul_lt 1000000000 lp lq (un HP).1 (un HQ).1 i with h|h
          · refine Nat.lt_of_lt_of_le h (Nat.pow_le_pow_right (by decide) ?_)
            have:=un HNQ;omega
          · omega
        generalize hV0:Cub.lval 1000000000 (lp.take i)*Cub.lval 1000000000 lq=V0 at *
        have HV0:=hide hV0
        clear hV0 hx0
        go_wp2
        go_loopw [8,32] (fun c t wq=>∃ (k j:Nat) (P:List Nat),c=.int .u64 (k:Int)∧t=I (j:Int)∧j≤nq∧k<1000000000∧Hid (OutU w wq (.slice (some ⟨b1,o1,none⟩) np cp) (.slice aq nq cq) (np+nq) P)∧Hid (∀ p (hp:p<P.length),i+nq≤p→P[p]=0)∧Hid (Cub.Acc 1000000000 P k (i+j) (V0+1000000000 ^ i*(xv*Cub.lval 1000000000 (lq.take j))))) (fun _ t _=>nq - (intOf t).toNat)
        case atStart=>exact ⟨0,0,O,rfl,rfl,by omega,by omega,HO,HZ0,HA0⟩
        case round=>
          clear bq hcx
          obtain ⟨k,j,P,rfl,rfl,hj,hk,HP',HZ,HA⟩:=hrel
          have bq:=(un HP').box.c2
          by_cases hjn:j<nq
          · have hpl:i+j<P.length:=by rw[(un HP').len];omega
            have hjl:j<lq.length:=by have:=un HNQ;omega
            obtain ⟨ov,hov⟩:∃ ov,ov=P[i+j]:=⟨_,rfl⟩
            have hoB:ov<1000000000:=by rw[hov];exact (un HA).lim _ (List.getElem_mem hpl)
            have hco:=(un HP').own.cell (i+j) hpl
            rw[← hov] at hco
            have hfo:=(un HP').own.frozen (i+j)
            obtain ⟨yv,hyv⟩:∃ yv,yv=lq[j]:=⟨_,rfl⟩
            have hyB:yv<1000000000:=by rw[hyv];exact (un HQ).1 _ (List.getElem_mem hjl)
            obtain ⟨b2,o2,rfl,hcy⟩:=(un HQ).2 wr (un HP').box.below j hjl
            rw[← hyv] at hcy
            have HYV:Hid (lq.getD j 0=yv):=by rw[hyv,List.getD_eq_getElem?_getD,List.getElem?_eq_getElem hjl];exact rfl
            obtain ⟨m,hm⟩:∃ m,m=xv*yv:=⟨_,rfl⟩
            have hmB:m≤999999998000000001:=by rw[hm];exact Nat.mul_le_mul (show xv≤999999999 by omega) (show yv≤999999999 by omega)
            have hmul:(xv:Int)*(yv:Int)=(m:Int):=by rw[hm];simp
            have HA':Hid (Cub.Acc 1000000000 (P.set (i+j) ((k+ov+m) % 1000000000)) ((k+ov+m) / 1000000000) (i+(j+1)) (V0+1000000000 ^ i*(xv*Cub.lval 1000000000 (lq.take (j+1))))):=by
              have h:=(un HA).step (by decide) hpl (xv*lq.getD j 0)
              rw[Cub.val_inner,un HYV,← hm,← hov] at h
              exact h
            have hk':(k+ov+m) / 1000000000<1000000000:=by rw[hm];exact Cub.carry_lt 1000000000 k ov xv yv hk hoB hxB hyB
            have HZ':Hid (∀ p (hp:p<(P.set (i+j) ((k+ov+m) % 1000000000)).length),i+nq≤p→(P.set (i+j) ((k+ov+m) % 1000000000))[p]=0):=fun p hp hip=>by
              rw[List.getElem_set_ne (by omega)];exact un HZ p (by rw[List.length_set] at hp;exact hp) hip
            have HPn:Hid (OutU w (wr.setCell ⟨w.heap.size+1+1+1,i+j,none⟩ (.int .u64 (((k:Int)+((ov:Int)+(m:Int))) % 1000000000))) (.slice (some ⟨b1,o1,none⟩) np cp) (.slice (some ⟨b2,o2,none⟩) nq cq) (np+nq) (P.set (i+j) ((k+ov+m) % 1000000000))):=(un HP').set (i+j) ((k+ov+m) % 1000000000) _ (by omega)
            clear hov hyv hjl hm hpl HA HZ
            go_wp2
            go_roundw
            case rel=>exact ⟨(k+ov+m) / 1000000000,j+1,P.set (i+j) ((k+ov+m) % 1000000000),by go_num,by go_num,by omega,hk',HPn,HZ',HA'⟩
            case measure=>simp[intOf];omega
          · have hje:j=nq:=by omega
            subst hje
            have hpl:i+j<P.length:=by rw[(un HP').len];omega
            have hz:=un HZ (i+j) hpl (Nat.le_refl _)
            have hco:=(un HP').own.cell (i+j) hpl
            rw[hz] at hco
            have hfo:=(un HP').own.frozen (i+j)
            have HVn:Hid (Cub.limbs 1000000000 (P.set (i+j) k)∧Cub.lval 1000000000 (P.set (i+j) k)=Cub.lval 1000000000 (lp.take (i+1))*Cub.lval 1000000000 lq):=by
              have h:=(un HA).val
              rw[List.take_of_length_le (by have:=un HNQ;omega),← un HV0,← un HXV,Cub.val_outer] at h
              refine ⟨Cub.limbs_set (un HA).lim _ _ hk,?_⟩
              have e:=Cub.lval_set 1000000000 P (i+j) k hpl
              rw[hz] at e
              omega
            have HPn:Hid (OutU w (wr.setCell ⟨w.heap.size+1+1+1,i+j,none⟩ (.int .u64 (k:Int))) (.slice (some ⟨b1,o1,none⟩) np cp) (.slice aq j cq) (np+j) (P.set (i+j) k)):=(un HP').set (i+j) k _ rfl
            clear hpl hz HA HZ
            go_wp2
            go_roundw
            case rel=>exact ⟨i+1,P.set (i+j) k,by go_num,by omega,HPn,HVn⟩
            case measure=>simp[intOf];omega
    · obtain ⟨t1,t2,_⟩:=Cub.lval_trim 1000000000 _ O rfl
      have HF:Hid (Cub.normal 1000000000 (Cub.trimN O)∧Cub.lval 1000000000 (Cub.trimN O)=Cub.lval 1000000000 lp*Cub.lval 1000000000 lq):=by
        refine ⟨t2 (un HV).1,?_⟩
        rw[t1,(un HV).2,List.take_of_length_le (by have:=un HNP;omega)]
      have hsz:=(un HO).box.size
      have br:=(un HO).box.c3
      have fr:=(un HO).box.f3
      clear t1 t2
      go_wp2_with (go_at_call 217;refine (trim_any _ O _ ((un HO).own.row (np+nq) (np+nq) (un HO).len.symm (Nat.le_refl _) (by unfold maxLen;omega))).mono ?_;rintro e w6 ⟨v',rfl,hrow6,hb6⟩;obtain ⟨a6,cap6,rfl,hcap6⟩:=hrow6.form;obtain ⟨hc6,hf6⟩:=box_later hb6 (g:=w.heap.size+1+1) (by omega) br fr)
      refine bodyPost_ret (v:=.agg #[.slice a6 (Cub.trimN O).length cap6]) (by simp[results,Tryz.results151,go_sem,hc6]) rfl ⟨_,rfl,?_,?_⟩
      · exact ⟨_,_,rfl,hrow6.box _ hc6 (no_int _ _ _),(un HF).1,(un HF).2⟩
      · exact ((un HO).box.below.trans (hb6.mono (by omega))).setCell (p:=⟨w.heap.size+1+1,0,none⟩) (show w.heap.size≤w.heap.size+1+1 by omega) _
end Go.Proofs.YtamoadanapmmeaaGreatDoor

namespace Go.Proofs.YtamoadanapmmeaaGreatDoor
open Go.RowKit
structure Later (w:World) where
  world:World
  below:Below w.heap.size w world
instance (w:World):Nonempty (Later w):=⟨⟨w,Below.refl _ _⟩⟩
theorem quiet_later {P:Program} {id:Nat} {Q:Exit→Act→World→Prop} {a:Act} {w:World} {l:List Oper} (hm:P.follows .mixedOrders=true) (hB:Region.lexB .any l.toArray=true)
    (h:wpQuiet P l.toArray (fun w'=>∃ x:Later w,w'=x.world) (fun a'=>∀ w',(∃ x:Later w,w'=x.world)→Q .normal a' w') l a):(Code.region id l.toArray true).wp P Q a w :=
  wp_region_quiet (C:=fun w'=>∃ x:Later w,w'=x.world) hm hB ⟨⟨_,(Below.refl w.heap.size w).drew⟩,rfl⟩ (by simpa using h)
theorem gcdSmall_any (a b:Nat) (w:World) (ha:a<18446744073709551616) (hb:b<18446744073709551616) :
    Calls Tryz.prog 211 #[.int .u64 (a:Int),.int .u64 (b:Int)] w fun e w'=>e=.returned (.int .u64 ((Nat.gcd a b:Nat):Int))∧Below w.heap.size w w':=by
  go_enter Tryz.func211,Tryz.ntmps211
  go_wp2
  go_loopw [0,1] (fun u v wr=>∃ x y:Nat,u=.int .u64 (x:Int)∧v=.int .u64 (y:Int)∧x<18446744073709551616∧y<18446744073709551616∧Hid (Nat.gcd x y=Nat.gcd a b)∧Hid (Below w.heap.size w wr)) (fun _ v _=>(intOf v).toNat)
  case atStart=>exact ⟨a,b,rfl,rfl,ha,hb,rfl,Below.refl _ _⟩
  case round=>
    obtain ⟨x,y,rfl,rfl,hx,hy,HG,HB⟩:=hrel
    by_cases h0:0<y
    · have hy0:¬ y=0:=by omega
      have h0':(0:Int)<(y:Int):=by omega
      have hlt:x % y<y:=Nat.mod_lt _ h0
      have HG':Hid (Nat.gcd y (x % y)=Nat.gcd a b):=by
        show _=_
        rw[← un HG,Nat.gcd_comm x y,Nat.gcd_rec y x,Nat.gcd_comm (x % y) y]
      go_upto_region 2 with fail
      go_quiet (fail)
      go_wp2
      go_roundw
      case rel=>exact ⟨y,x % y,rfl,by go_num,hy,by omega,HG',below_drewN (un HB) _⟩
      case measure=>simp[intOf];omega
    · have hy0:y=0:=by omega
      subst hy0
      have HV:Hid (x=Nat.gcd a b):=by show _=_;rw[← un HG,Nat.gcd_zero_right]
      clear HG
      go_wp2
      go_ret
      exact ⟨by rw[← un HV];rfl,un HB⟩
set_option maxRecDepth 100000 in
theorem bigSmall_any (x:Value) (m:Nat) (w:World) (hx:IsBig w x m) (hm:m<1000000000000000000) :
    Calls Tryz.prog 212 #[x] w fun e w'=>e=.returned (.int .u64 (m:Int))∧Below w.heap.size w w':=by
  obtain ⟨ap,lp,cp,rfl,hlp,hrp,hnp,hv⟩:=hx.form
  have h2:lp.length≤2:=Cub.len_le hnp (by rw[hv];omega)
  have HP:Hid (Cells w ap lp):=hrp.cells.2.2.2
  have hcs:lp=[]∨(∃ a,lp=[a])∨∃ a b,lp=[a,b]:=by
    match lp,h2 with
    | [],_=>exact .inl rfl
    | [a],_=>exact .inr (.inl ⟨a,rfl⟩)
    | [a,b],_=>exact .inr (.inr ⟨a,b,rfl⟩)
  rcases hcs with rfl|⟨a,rfl⟩|⟨a,b,rfl⟩
  · have HV:Hid (m=0):=hv.symm
    clear hv hx hrp hnp HP hm
    simp only[List.length_nil]
    go_enter Tryz.func212,Tryz.ntmps212
    go_wp2
    refine wp_loop_rounds 1 ?_
    rw[rounds_succ]
    go_wp2
    go_ret
    exact ⟨by rw[un HV];rfl,(Below.refl _ _).alloc (Nat.le_refl _) _⟩
  · have HV:Hid (m=a):=by show _=_;rw[← hv];simp[Cub.lval]
    have ha:a<1000000000:=hnp.1 a (by simp)
    obtain ⟨b0,o0,rfl,hc0⟩:=un HP (w.alloc (.cells #[.slice ap 1 cp] 80)) ((Below.refl _ _).alloc (Nat.le_refl _) _) 0 (by simp)
    simp only[List.length_singleton,List.getElem_cons_zero,Nat.add_zero] at hc0 ⊢
    clear hv hx hrp hnp HP hm
    go_enter Tryz.func212,Tryz.ntmps212
    go_wp2
    refine wp_loop_rounds 2 ?_
    rw[rounds_succ]
    go_wp2
    rw[rounds_succ]
    go_wp2
    go_ret
    exact ⟨by rw[un HV];first|rfl|(simp;done)|go_num,(Below.refl _ _).alloc (Nat.le_refl _) _⟩
  · have HV:Hid (m=b*1000000000+a):=by show _=_;rw[← hv];simp[Cub.lval];omega
    have ha:a<1000000000:=hnp.1 a (by simp)
    have hb:b<1000000000:=hnp.1 b (by simp)
    have hW:Below w.heap.size w (w.alloc (.cells #[.slice ap 2 cp] 80)):=(Below.refl _ _).alloc (Nat.le_refl _) _
    obtain ⟨b0,o0,rfl,hc0⟩:=un HP _ hW 0 (by simp)
    obtain ⟨b1,o1,e1,hc1⟩:=un HP _ hW 1 (by simp)
    simp only[Option.some.injEq,Addr.mk.injEq] at e1
    obtain ⟨rfl,rfl,_⟩:=e1
    simp only[List.length_cons,List.length_nil,List.getElem_cons_zero,List.getElem_cons_succ,Nat.add_zero,Nat.zero_add,Nat.reduceAdd] at hc0 hc1 ⊢
    clear hv hx hrp hnp HP hm hW
    go_enter Tryz.func212,Tryz.ntmps212
    go_wp2
    refine wp_loop_rounds 3 ?_
    rw[rounds_succ]
    go_wp2
    rw[rounds_succ]
    go_wp2
    rw[rounds_succ]
    go_wp2
    go_ret
    exact ⟨by rw[un HV];first|rfl|(simp;done)|go_num,(Below.refl _ _).alloc (Nat.le_refl _) _⟩
theorem limb_any (ap:Option Addr) (l:List Nat) (cap i:Nat) (w:World) (hr:Row w (.slice ap l.length cap) l) :
    Calls Tryz.prog 285 #[.agg #[.slice ap l.length cap],I (i:Int)] w fun e w'=>e=.returned (.int .u64 ((l.getD i 0:Nat):Int))∧Below w.heap.size w w':=by
  have HP:Hid (Cells w ap l):=hr.cells.2.2.2
  have hl:l.length≤9223372036854775807:=by have:=hr.cells.2;omega
  have hW:Below w.heap.size w (w.alloc (.cells #[.slice ap l.length cap] 80)):=(Below.refl _ _).alloc (Nat.le_refl _) _
  by_cases h:i<l.length
  · obtain ⟨b,o,rfl,hc⟩:=un HP _ hW i h
    have HV:Hid (l.getD i 0=l[i]):=by show _=_;simp[List.getD,h]
    generalize l[i]=x at *
    generalize l.getD i 0=y at *
    generalize l.length=n at *
    clear HP hr hW
    go_enter Tryz.func285,Tryz.ntmps285
    go_wp2
    go_ret
    exact ⟨by rw[un HV];rfl,(Below.refl _ _).alloc (Nat.le_refl _) _⟩
  · have HV:Hid (l.getD i 0=0):=by show _=_;simp[List.getD,List.getElem?_eq_none (Nat.le_of_not_lt h)]
    generalize l.getD i 0=y at *
    generalize l.length=n at *
    clear HP hr hW
    go_enter Tryz.func285,Tryz.ntmps285
    go_wp2
    go_ret
    exact ⟨by rw[un HV];rfl,(Below.refl _ _).alloc (Nat.le_refl _) _⟩
end Go.Proofs.YtamoadanapmmeaaGreatDoor

namespace Go.Proofs.YtamoadanapmmeaaGreatDoor.Dm
open Go.RowKit
theorem hide {p:Prop} (h:p):Hid p:=h
theorem un {p:Prop} (h:Hid p):p:=h
def okB (x:Int):Bool:=!(decide (x < -99) || decide (99<x))
def rightB (l:List Int):Bool:=l.all okB
theorem okB_lo {x:Int} (h:x < -99):okB x=false:=by simp[okB,h]
theorem okB_hi {x:Int} (h:x < -99∨99<x):okB x=false:=by rcases h with h|h<;>simp[okB,h]
theorem okB_yes {x:Int} (h1:-99≤x) (h2:x≤99):okB x=true:=by simp[okB];omega
theorem okB_out {x:Int} (h:okB x=true):-99≤x∧x≤99:=by simp[okB] at h;omega
theorem rightB_false {l:List Int} (k:Nat) (x:Int) (hk:l[k]?=some x) (h:okB x=false):rightB l=false:=by
  unfold rightB
  rw[List.all_eq_false]
  exact ⟨x,List.mem_of_getElem? hk,by simp[h]⟩
theorem rightB_true {l:List Int} (h:∀ (j:Nat) (x:Int),l[j]?=some x→okB x=true):rightB l=true:=by
  unfold rightB
  rw[List.all_eq_true]
  intro x hx
  obtain ⟨j,hj⟩:=List.getElem?_of_mem hx
  exact h j x hj
theorem rightB_get {l:List Int} (h:rightB l=true) (j:Nat) (x:Int) (hj:l[j]?=some x):-99≤x∧x≤99:=by
  unfold rightB at h
  rw[List.all_eq_true] at h
  exact okB_out (h x (List.mem_of_getElem? hj))
def OkTo (l:List Int) (k:Nat):Prop:=∀ j,j<k→∀ x,l[j]?=some x→okB x=true
theorem OkTo.zero (l:List Int):OkTo l 0:=fun j h=>absurd h (Nat.not_lt_zero j)
theorem OkTo.step {l:List Int} {k:Nat} (h:OkTo l k) {x:Int} (hk:l[k]?=some x) (hx:okB x=true):OkTo l (k+1):=by
  intro j hj y hy
  by_cases e:j=k
  · subst e;rw[hk] at hy;cases hy;exact hx
  · exact h j (by omega) y hy
theorem OkTo.all {l:List Int} {k:Nat} (h:OkTo l k) (hl:l.length≤k):rightB l=true :=
  rightB_true fun j x hj=>h j (by have:=(List.getElem?_eq_some_iff.1 hj).1;omega) x hj
theorem ret_bool {a b:Bool} (h:a=b):Ending.returned (.bool a)=.returned (.bool b):=by rw[h]
def sel (b:Bool) (x:Int):Int:=if b=true then x else 0
def errOf (b:Bool) (n:Int):Int:=if b=true then 0 else n
theorem sel_true (x:Int):sel true x=x:=rfl
theorem sel_false (x:Int):sel false x=0:=rfl
theorem errOf_true (x:Int):errOf true x=0:=rfl
theorem errOf_false (x:Int):errOf false x=x:=rfl
section
variable (x0 x1 x2 x3 x4 x5 x6 x7:Int)
theorem idx0 (w:World):(Instr.index 26 (.agg #[I x0,I x1,I x2,I x3,I x4,I x5,I x6,I x7]) (I 0)).run Tryz.prog w=.ok (I x0) w:=by kernel_rfl
theorem idx1 (w:World):(Instr.index 26 (.agg #[I x0,I x1,I x2,I x3,I x4,I x5,I x6,I x7]) (I 1)).run Tryz.prog w=.ok (I x1) w:=by kernel_rfl
theorem idx2 (w:World):(Instr.index 26 (.agg #[I x0,I x1,I x2,I x3,I x4,I x5,I x6,I x7]) (I 2)).run Tryz.prog w=.ok (I x2) w:=by kernel_rfl
theorem idx3 (w:World):(Instr.index 26 (.agg #[I x0,I x1,I x2,I x3,I x4,I x5,I x6,I x7]) (I 3)).run Tryz.prog w=.ok (I x3) w:=by kernel_rfl
theorem idx4 (w:World):(Instr.index 26 (.agg #[I x0,I x1,I x2,I x3,I x4,I x5,I x6,I x7]) (I 4)).run Tryz.prog w=.ok (I x4) w:=by kernel_rfl
theorem idx5 (w:World):(Instr.index 26 (.agg #[I x0,I x1,I x2,I x3,I x4,I x5,I x6,I x7]) (I 5)).run Tryz.prog w=.ok (I x5) w:=by kernel_rfl
theorem idx6 (w:World):(Instr.index 26 (.agg #[I x0,I x1,I x2,I x3,I x4,I x5,I x6,I x7]) (I 6)).run Tryz.prog w=.ok (I x6) w:=by kernel_rfl
theorem idx7 (w:World):(Instr.index 26 (.agg #[I x0,I x1,I x2,I x3,I x4,I x5,I x6,I x7]) (I 7)).run Tryz.prog w=.ok (I x7) w:=by kernel_rfl
theorem eight {k:Nat} (h:k≤8):k=0∨k=1∨k=2∨k=3∨k=4∨k=5∨k=6∨k=7∨k=8:=by omega
set_option maxRecDepth 100000 in
set_option maxHeartbeats 1000000 in
theorem right_any (w:World):Calls Tryz.prog 170 #[.agg #[I x0,I x1,I x2,I x3,I x4,I x5,I x6,I x7]] w fun e w'=>e=.returned (.bool (rightB [x0,x1,x2,x3,x4,x5,x6,x7]))∧w'=w.alloc (.cells #[I x0,I x1,I x2,I x3,I x4,I x5,I x6,I x7] 26):=by
  have i0:=idx0 x0 x1 x2 x3 x4 x5 x6 x7
  have i1:=idx1 x0 x1 x2 x3 x4 x5 x6 x7
  have i2:=idx2 x0 x1 x2 x3 x4 x5 x6 x7
  have i3:=idx3 x0 x1 x2 x3 x4 x5 x6 x7
  have i4:=idx4 x0 x1 x2 x3 x4 x5 x6 x7
  have i5:=idx5 x0 x1 x2 x3 x4 x5 x6 x7
  have i6:=idx6 x0 x1 x2 x3 x4 x5 x6 x7
  have i7:=idx7 x0 x1 x2 x3 x4 x5 x6 x7
  generalize hl:[x0,x1,x2,x3,x4,x5,x6,x7]=l
  have HL:=hide hl
  clear hl
  go_enter Tryz.func170,Tryz.ntmps170
  go_wp2
  go_loop [6] (fun i=>∃ k:Nat,k≤8∧i=I k∧OkTo l k) (fun i=>8 - (intOf i).toNat)
  case atStart=>exact ⟨0,Nat.zero_le _,rfl,OkTo.zero _⟩
  case round=>
    obtain ⟨k,hk,rfl,hto⟩:=hrel
    have HO:=hide hto
    clear hto
    rcases eight hk with rfl|rfl|rfl|rfl|rfl|rfl|rfl|rfl|rfl
    · go_wp2
      · go_ret
        exact ⟨ret_bool (rightB_false 0 x0 (by rw[← un HL];rfl) (okB_hi (by omega))).symm,rfl⟩
      · exact ⟨⟨1,by omega,rfl,(un HO).step (by rw[← un HL];rfl) (okB_yes (x:=x0) (by omega) (by omega))⟩,by simp[intOf]⟩
      · go_ret
        exact ⟨ret_bool (rightB_false 0 x0 (by rw[← un HL];rfl) (okB_lo (by omega))).symm,rfl⟩
    · go_wp2
      · go_ret
        exact ⟨ret_bool (rightB_false 1 x1 (by rw[← un HL];rfl) (okB_hi (by omega))).symm,rfl⟩
      · exact ⟨⟨2,by omega,rfl,(un HO).step (by rw[← un HL];rfl) (okB_yes (x:=x1) (by omega) (by omega))⟩,by simp[intOf]⟩
      · go_ret
        exact ⟨ret_bool (rightB_false 1 x1 (by rw[← un HL];rfl) (okB_lo (by omega))).symm,rfl⟩
    · go_wp2
      · go_ret
        exact ⟨ret_bool (rightB_false 2 x2 (by rw[← un HL];rfl) (okB_hi (by omega))).symm,rfl⟩
      · exact ⟨⟨3,by omega,rfl,(un HO).step (by rw[← un HL];rfl) (okB_yes (x:=x2) (by omega) (by omega))⟩,by simp[intOf]⟩
      · go_ret
        exact ⟨ret_bool (rightB_false 2 x2 (by rw[← un HL];rfl) (okB_lo (by omega))).symm,rfl⟩
    · go_wp2
      · go_ret
        exact ⟨ret_bool (rightB_false 3 x3 (by rw[← un HL];rfl) (okB_hi (by omega))).symm,rfl⟩
      · exact ⟨⟨4,by omega,rfl,(un HO).step (by rw[← un HL];rfl) (okB_yes (x:=x3) (by omega) (by omega))⟩,by simp[intOf]⟩
      · go_ret
        exact ⟨ret_bool (rightB_false 3 x3 (by rw[← un HL];rfl) (okB_lo (by omega))).symm,rfl⟩
    · go_wp2
      · go_ret
        exact ⟨ret_bool (rightB_false 4 x4 (by rw[← un HL];rfl) (okB_hi (by omega))).symm,rfl⟩
      · exact ⟨⟨5,by omega,rfl,(un HO).step (by rw[← un HL];rfl) (okB_yes (x:=x4) (by omega) (by omega))⟩,by simp[intOf]⟩
      · go_ret
        exact ⟨ret_bool (rightB_false 4 x4 (by rw[← un HL];rfl) (okB_lo (by omega))).symm,rfl⟩
    · go_wp2
      · go_ret
        exact ⟨ret_bool (rightB_false 5 x5 (by rw[← un HL];rfl) (okB_hi (by omega))).symm,rfl⟩
      · exact ⟨⟨6,by omega,rfl,(un HO).step (by rw[← un HL];rfl) (okB_yes (x:=x5) (by omega) (by omega))⟩,by simp[intOf]⟩
      · go_ret
        exact ⟨ret_bool (rightB_false 5 x5 (by rw[← un HL];rfl) (okB_lo (by omega))).symm,rfl⟩
    · go_wp2
      · go_ret
        exact ⟨ret_bool (rightB_false 6 x6 (by rw[← un HL];rfl) (okB_hi (by omega))).symm,rfl⟩
      · exact ⟨⟨7,by omega,rfl,(un HO).step (by rw[← un HL];rfl) (okB_yes (x:=x6) (by omega) (by omega))⟩,by simp[intOf]⟩
      · go_ret
        exact ⟨ret_bool (rightB_false 6 x6 (by rw[← un HL];rfl) (okB_lo (by omega))).symm,rfl⟩
    · go_wp2
      · go_ret
        exact ⟨ret_bool (rightB_false 7 x7 (by rw[← un HL];rfl) (okB_hi (by omega))).symm,rfl⟩
      · exact ⟨⟨8,by omega,rfl,(un HO).step (by rw[← un HL];rfl) (okB_yes (x:=x7) (by omega) (by omega))⟩,by simp[intOf]⟩
      · go_ret
        exact ⟨ret_bool (rightB_false 7 x7 (by rw[← un HL];rfl) (okB_lo (by omega))).symm,rfl⟩
    · go_wp2
      go_ret
      exact ⟨ret_bool ((un HO).all (by rw[← un HL];exact Nat.le_refl 8)).symm,rfl⟩
set_option maxRecDepth 100000 in
set_option maxHeartbeats 400000 in
theorem told_any (w:World):Calls Tryz.prog 179 #[.agg #[I x0,I x1,I x2,I x3,I x4,I x5,I x6,I x7]] w fun e w'=>e=.returned (.tuple #[.agg #[I (sel (rightB [x0,x1,x2,x3,x4,x5,x6,x7]) x0),I (sel (rightB [x0,x1,x2,x3,x4,x5,x6,x7]) x1),I (sel (rightB [x0,x1,x2,x3,x4,x5,x6,x7]) x2),I (sel (rightB [x0,x1,x2,x3,x4,x5,x6,x7]) x3),I (sel (rightB [x0,x1,x2,x3,x4,x5,x6,x7]) x4),I (sel (rightB [x0,x1,x2,x3,x4,x5,x6,x7]) x5),I (sel (rightB [x0,x1,x2,x3,x4,x5,x6,x7]) x6),I (sel (rightB [x0,x1,x2,x3,x4,x5,x6,x7]) x7)],I (errOf (rightB [x0,x1,x2,x3,x4,x5,x6,x7]) 51)])∧w'=((w.alloc (.cells #[I x0,I x1,I x2,I x3,I x4,I x5,I x6,I x7] 26)).alloc (.cells #[I (sel (rightB [x0,x1,x2,x3,x4,x5,x6,x7]) x0),I (sel (rightB [x0,x1,x2,x3,x4,x5,x6,x7]) x1),I (sel (rightB [x0,x1,x2,x3,x4,x5,x6,x7]) x2),I (sel (rightB [x0,x1,x2,x3,x4,x5,x6,x7]) x3),I (sel (rightB [x0,x1,x2,x3,x4,x5,x6,x7]) x4),I (sel (rightB [x0,x1,x2,x3,x4,x5,x6,x7]) x5),I (sel (rightB [x0,x1,x2,x3,x4,x5,x6,x7]) x6),I (sel (rightB [x0,x1,x2,x3,x4,x5,x6,x7]) x7)] 26)).alloc (.cells #[I x0,I x1,I x2,I x3,I x4,I x5,I x6,I x7] 26):=by
  have HC:=hide (right_any x0 x1 x2 x3 x4 x5 x6 x7)
  generalize rightB [x0,x1,x2,x3,x4,x5,x6,x7]=r at *
  cases r with
  | true=>
    simp only[sel_true,errOf_true]
    go_enter Tryz.func179,Tryz.ntmps179
    go_wp2_with (go_at_call 170;refine (un HC _).mono ?_;rintro e w' ⟨rfl,rfl⟩)
    exact bodyPost_ret (v:=.tuple #[.agg #[I x0,I x1,I x2,I x3,I x4,I x5,I x6,I x7],I 0]) (by simp[results,Tryz.results179,go_sem]) rfl ⟨rfl,rfl⟩
  | false=>
    simp only[sel_false,errOf_false]
    go_enter Tryz.func179,Tryz.ntmps179
    go_wp2_with (go_at_call 170;refine (un HC _).mono ?_;rintro e w' ⟨rfl,rfl⟩)
    exact bodyPost_ret (v:=.tuple #[.agg #[I 0,I 0,I 0,I 0,I 0,I 0,I 0,I 0],I 51]) (by simp[results,Tryz.results179,go_sem]) rfl ⟨rfl,rfl⟩
end
end Go.Proofs.YtamoadanapmmeaaGreatDoor.Dm

namespace Go.Proofs.YtamoadanapmmeaaGreatDoor.Dm
open Go.RowKit
section
variable (a0 a1 a2 a3 a4 a5 a6 a7 b0 b1 b2 b3 b4 b5 b6 b7:Int)
def quoOk (ra rb:Bool) (l:List Int):Bool:=ra && rb && rightB l
def quoErr (ra rb:Bool) (l:List Int):Int:=if (ra && rb)=true then errOf (rightB l) 51 else 1
set_option maxRecDepth 100000 in
set_option maxHeartbeats 2000000 in
theorem quo_any (w:World):Calls Tryz.prog 105 #[.agg #[.int .i64 a0,.int .i64 a1,.int .i64 a2,.int .i64 a3,.int .i64 a4,.int .i64 a5,.int .i64 a6,.int .i64 a7],.agg #[.int .i64 b0,.int .i64 b1,.int .i64 b2,.int .i64 b3,.int .i64 b4,.int .i64 b5,.int .i64 b6,.int .i64 b7]] w fun e w'=>e=.returned (.tuple #[.agg #[.int .i64 (sel (quoOk (rightB [a0,a1,a2,a3,a4,a5,a6,a7]) (rightB [b0,b1,b2,b3,b4,b5,b6,b7]) [wrap64 (a0 - b0),wrap64 (a1 - b1),wrap64 (a2 - b2),wrap64 (a3 - b3),wrap64 (a4 - b4),wrap64 (a5 - b5),wrap64 (a6 - b6),wrap64 (a7 - b7)]) (wrap64 (a0 - b0))),.int .i64 (sel (quoOk (rightB [a0,a1,a2,a3,a4,a5,a6,a7]) (rightB [b0,b1,b2,b3,b4,b5,b6,b7]) [wrap64 (a0 - b0),wrap64 (a1 - b1),wrap64 (a2 - b2),wrap64 (a3 - b3),wrap64 (a4 - b4),wrap64 (a5 - b5),wrap64 (a6 - b6),wrap64 (a7 - b7)]) (wrap64 (a1 - b1))),.int .i64 (sel (quoOk (rightB [a0,a1,a2,a3,a4,a5,a6,a7]) (rightB [b0,b1,b2,b3,b4,b5,b6,b7]) [wrap64 (a0 - b0),wrap64 (a1 - b1),wrap64 (a2 - b2),wrap64 (a3 - b3),wrap64 (a4 - b4),wrap64 (a5 - b5),wrap64 (a6 - b6),wrap64 (a7 - b7)]) (wrap64 (a2 - b2))),.int .i64 (sel (quoOk (rightB [a0,a1,a2,a3,a4,a5,a6,a7]) (rightB [b0,b1,b2,b3,b4,b5,b6,b7]) [wrap64 (a0 - b0),wrap64 (a1 - b1),wrap64 (a2 - b2),wrap64 (a3 - b3),wrap64 (a4 - b4),wrap64 (a5 - b5),wrap64 (a6 - b6),wrap64 (a7 - b7)]) (wrap64 (a3 - b3))),.int .i64 (sel (quoOk (rightB [a0,a1,a2,a3,a4,a5,a6,a7]) (rightB [b0,b1,b2,b3,b4,b5,b6,b7]) [wrap64 (a0 - b0),wrap64 (a1 - b1),wrap64 (a2 - b2),wrap64 (a3 - b3),wrap64 (a4 - b4),wrap64 (a5 - b5),wrap64 (a6 - b6),wrap64 (a7 - b7)]) (wrap64 (a4 - b4))),.int .i64 (sel (quoOk (rightB [a0,a1,a2,a3,a4,a5,a6,a7]) (rightB [b0,b1,b2,b3,b4,b5,b6,b7]) [wrap64 (a0 - b0),wrap64 (a1 - b1),wrap64 (a2 - b2),wrap64 (a3 - b3),wrap64 (a4 - b4),wrap64 (a5 - b5),wrap64 (a6 - b6),wrap64 (a7 - b7)]) (wrap64 (a5 - b5))),.int .i64 (sel (quoOk (rightB [a0,a1,a2,a3,a4,a5,a6,a7]) (rightB [b0,b1,b2,b3,b4,b5,b6,b7]) [wrap64 (a0 - b0),wrap64 (a1 - b1),wrap64 (a2 - b2),wrap64 (a3 - b3),wrap64 (a4 - b4),wrap64 (a5 - b5),wrap64 (a6 - b6),wrap64 (a7 - b7)]) (wrap64 (a6 - b6))),.int .i64 (sel (quoOk (rightB [a0,a1,a2,a3,a4,a5,a6,a7]) (rightB [b0,b1,b2,b3,b4,b5,b6,b7]) [wrap64 (a0 - b0),wrap64 (a1 - b1),wrap64 (a2 - b2),wrap64 (a3 - b3),wrap64 (a4 - b4),wrap64 (a5 - b5),wrap64 (a6 - b6),wrap64 (a7 - b7)]) (wrap64 (a7 - b7)))],.int .i64 (quoErr (rightB [a0,a1,a2,a3,a4,a5,a6,a7]) (rightB [b0,b1,b2,b3,b4,b5,b6,b7]) [wrap64 (a0 - b0),wrap64 (a1 - b1),wrap64 (a2 - b2),wrap64 (a3 - b3),wrap64 (a4 - b4),wrap64 (a5 - b5),wrap64 (a6 - b6),wrap64 (a7 - b7)])])∧Below w.heap.size w w':=by
  have HA:=hide (right_any a0 a1 a2 a3 a4 a5 a6 a7)
  have HB:=hide (right_any b0 b1 b2 b3 b4 b5 b6 b7)
  have HT:=hide (told_any (wrap64 (a0 - b0)) (wrap64 (a1 - b1)) (wrap64 (a2 - b2)) (wrap64 (a3 - b3)) (wrap64 (a4 - b4)) (wrap64 (a5 - b5)) (wrap64 (a6 - b6)) (wrap64 (a7 - b7)))
  unfold quoOk quoErr
  generalize rightB [a0,a1,a2,a3,a4,a5,a6,a7]=ra at *
  generalize rightB [b0,b1,b2,b3,b4,b5,b6,b7]=rb at *
  generalize rightB [wrap64 (a0 - b0),wrap64 (a1 - b1),wrap64 (a2 - b2),wrap64 (a3 - b3),wrap64 (a4 - b4),wrap64 (a5 - b5),wrap64 (a6 - b6),wrap64 (a7 - b7)]=rq at *
  cases ra with
  | false=>
    simp only[Bool.false_and,sel_false,Bool.false_eq_true,if_false]
    go_enter Tryz.func105,Tryz.ntmps105
    go_wp2_with (first
      | (go_at_call_of 170 (Value.agg #[Value.int IntKind.i64 a0,Value.int IntKind.i64 a1,Value.int IntKind.i64 a2,Value.int IntKind.i64 a3,Value.int IntKind.i64 a4,Value.int IntKind.i64 a5,Value.int IntKind.i64 a6,Value.int IntKind.i64 a7]);refine (un HA _).mono ?_;rintro e w' ⟨rfl,rfl⟩))
    exact bodyPost_ret (v:=.tuple #[.agg #[.int .i64 0,.int .i64 0,.int .i64 0,.int .i64 0,.int .i64 0,.int .i64 0,.int .i64 0,.int .i64 0],.int .i64 1]) (by simp[results,Tryz.results105,go_sem]) rfl ⟨rfl,((((Below.refl _ _).alloc (Nat.le_refl _) _).alloc (by simp) _).alloc (by simp;omega) _).alloc (by simp;omega) _⟩
  | true=>
    cases rb with
    | false=>
      simp only[Bool.and_false,Bool.false_and,sel_false,Bool.false_eq_true,if_false]
      go_enter Tryz.func105,Tryz.ntmps105
      go_wp2_with (first
        | (go_at_call_of 170 (Value.agg #[Value.int IntKind.i64 a0,Value.int IntKind.i64 a1,Value.int IntKind.i64 a2,Value.int IntKind.i64 a3,Value.int IntKind.i64 a4,Value.int IntKind.i64 a5,Value.int IntKind.i64 a6,Value.int IntKind.i64 a7]);refine (un HA _).mono ?_;rintro e w' ⟨rfl,rfl⟩)
        | (go_at_call_of 170 (Value.agg #[Value.int IntKind.i64 b0,Value.int IntKind.i64 b1,Value.int IntKind.i64 b2,Value.int IntKind.i64 b3,Value.int IntKind.i64 b4,Value.int IntKind.i64 b5,Value.int IntKind.i64 b6,Value.int IntKind.i64 b7]);refine (un HB _).mono ?_;rintro e w' ⟨rfl,rfl⟩))
      exact bodyPost_ret (v:=.tuple #[.agg #[.int .i64 0,.int .i64 0,.int .i64 0,.int .i64 0,.int .i64 0,.int .i64 0,.int .i64 0,.int .i64 0],.int .i64 1]) (by simp[results,Tryz.results105,go_sem]) rfl ⟨rfl,(((((Below.refl _ _).alloc (Nat.le_refl _) _).alloc (by simp) _).alloc (by simp;omega) _).alloc (by simp;omega) _).alloc (by simp;omega) _⟩
    | true=>
      simp only[Bool.and_self,Bool.true_and,if_true]
      have i0:=idx0 b0 b1 b2 b3 b4 b5 b6 b7
      have i1:=idx1 b0 b1 b2 b3 b4 b5 b6 b7
      have i2:=idx2 b0 b1 b2 b3 b4 b5 b6 b7
      have i3:=idx3 b0 b1 b2 b3 b4 b5 b6 b7
      have i4:=idx4 b0 b1 b2 b3 b4 b5 b6 b7
      have i5:=idx5 b0 b1 b2 b3 b4 b5 b6 b7
      have i6:=idx6 b0 b1 b2 b3 b4 b5 b6 b7
      have i7:=idx7 b0 b1 b2 b3 b4 b5 b6 b7
      go_enter Tryz.func105,Tryz.ntmps105
      go_wp2_with (first
        | (go_at_call_of 170 (Value.agg #[Value.int IntKind.i64 a0,Value.int IntKind.i64 a1,Value.int IntKind.i64 a2,Value.int IntKind.i64 a3,Value.int IntKind.i64 a4,Value.int IntKind.i64 a5,Value.int IntKind.i64 a6,Value.int IntKind.i64 a7]);refine (un HA _).mono ?_;rintro e w' ⟨rfl,rfl⟩)
        | (go_at_call_of 170 (Value.agg #[Value.int IntKind.i64 b0,Value.int IntKind.i64 b1,Value.int IntKind.i64 b2,Value.int IntKind.i64 b3,Value.int IntKind.i64 b4,Value.int IntKind.i64 b5,Value.int IntKind.i64 b6,Value.int IntKind.i64 b7]);refine (un HB _).mono ?_;rintro e w' ⟨rfl,rfl⟩))
      refine wp_loop_rounds 9 ?_
      repeat any_goals (rw[rounds_succ];go_wp2_with (go_at_call 179;refine (un HT _).mono ?_;rintro e w' ⟨rfl,rfl⟩))
      exact bodyPost_ret (v:=.tuple #[.agg #[.int .i64 (sel rq (wrap64 (a0 - b0))),.int .i64 (sel rq (wrap64 (a1 - b1))),.int .i64 (sel rq (wrap64 (a2 - b2))),.int .i64 (sel rq (wrap64 (a3 - b3))),.int .i64 (sel rq (wrap64 (a4 - b4))),.int .i64 (sel rq (wrap64 (a5 - b5))),.int .i64 (sel rq (wrap64 (a6 - b6))),.int .i64 (sel rq (wrap64 (a7 - b7)))],.int .i64 (errOf rq 51)]) (by simp[results,Tryz.results105,go_sem]) rfl ⟨rfl,by repeat (first|exact Below.refl _ _|(refine Below.alloc ?_ (by simp<;>omega) _))⟩
end
end Go.Proofs.YtamoadanapmmeaaGreatDoor.Dm

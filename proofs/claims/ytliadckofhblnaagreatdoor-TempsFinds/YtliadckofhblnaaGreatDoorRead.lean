/- rat.Read. -/
import Derived.Test.YtliadckofhblnaaGreatDoorGcdFirst
import Derived.Test.YtliadckofhblnaaGreatDoorAdd
import Derived.Test.YtliadckofhblnaaGreatDoorGuess
import Derived.Test.YtliadckofhblnaaGreatDoorTakeB
import Derived.Deep.RegionHeld3
import Derived.WalkMore
set_option maxHeartbeats 4000000
set_option maxRecDepth 100000
namespace Cub
theorem lval_cut (B:Nat) (l:List Nat) (k:Nat) (hk:k≤l.length):lval B l=lval B (l.take k)+B ^ k*lval B (l.drop k):=by
 have e:=lval_append B (l.take k) (l.drop k)
 rw[List.take_append_drop,List.length_take,Nat.min_eq_left hk]at e
 exact e
theorem drop_none {B:Nat} {l:List Nat} {k:Nat} (hk:k≤l.length) (h:lval B l<B ^ k):lval B (l.drop k)=0∧lval B (l.take k)=lval B l:=by
 have e:=lval_cut B l k hk
 have h0:lval B (l.drop k)=0:=by
  rcases Nat.eq_zero_or_pos (lval B (l.drop k))with h1|h1
  ·exact h1
  ·have:B ^ k*1≤B ^ k*lval B (l.drop k):=Nat.mul_le_mul_left _ h1
   omega
 rw[h0,Nat.mul_zero]at e
 exact⟨h0,by omega⟩
theorem limbs_take {B:Nat} {l:List Nat} (h:limbs B l) (k:Nat):limbs B (l.take k):=fun x hx=>h x (List.mem_of_mem_take hx)
theorem limbs_drop {B:Nat} {l:List Nat} (h:limbs B l) (k:Nat):limbs B (l.drop k):=fun x hx=>h x (List.mem_of_mem_drop hx)
structure LongInv (M Y nr nd:Nat) (R D:List Nat) (j:Nat):Prop where
 lenR:R.length=nr
 lenD:D.length=nd
 limR:limbs 1000000000 R
 limD:limbs 1000000000 D
 low:∀k,k<j→D.getD k 0=0
 sum:lval 1000000000 R+Y*lval 1000000000 D=M
 lt:lval 1000000000 R<Y*1000000000 ^ j
theorem LongInv.window {M Y nr nd nc:Nat} {R D:List Nat} {t:Nat} (h:LongInv M Y nr nd R D (t+1)) (hY:Y<1000000000 ^ nc) (hy:0<Y) (ht:t+nc+1≤nr) :
  lval 1000000000 ((R.drop t).take (nc+1))=lval 1000000000 (R.drop t)∧lval 1000000000 ((R.drop t).take (nc+1)) / Y<1000000000∧lval 1000000000 (R.drop (t+nc+1))=0:=by
 have hl:R.length=nr:=h.lenR
 have e:=lval_cut 1000000000 R t (by omega)
 have h1:=h.lt
 have hW:lval 1000000000 (R.drop t)<Y*1000000000:=by
  apply Decidable.byContradiction
  intro hc
  have h2:1000000000 ^ t*(Y*1000000000)≤1000000000 ^ t*lval 1000000000 (R.drop t):=Nat.mul_le_mul_left _ (by omega)
  have h3:1000000000 ^ t*(Y*1000000000)=Y*1000000000 ^ (t+1):=by rw[Nat.pow_succ,Nat.mul_left_comm]
  omega
 have hW2:lval 1000000000 (R.drop t)<1000000000 ^ (nc+1):=by
  rw[Nat.pow_succ]
  exact Nat.lt_of_lt_of_le hW (Nat.mul_le_mul_right _ (Nat.le_of_lt hY))
 obtain⟨d1,d2⟩:=drop_none (by rw[List.length_drop];omega) hW2
 refine⟨d2,?_,?_⟩
 ·rw[d2,Nat.div_lt_iff_lt_mul hy,Nat.mul_comm];exact hW
 ·rw[List.drop_drop]at d1;rw[Nat.add_assoc];exact d1
theorem LongInv.step {M Y nr nd nc:Nat} {R D F:List Nat} {t q:Nat} (h:LongInv M Y nr nd R D (t+1)) (hY:Y<1000000000 ^ nc) (hy:0<Y) (ht:t+nc+1≤nr) (htd:t<nd)
  (hF:F.length=nc+1) (hlF:limbs 1000000000 F) (hv:lval 1000000000 F+q*Y=lval 1000000000 ((R.drop t).take (nc+1))) (hq:q=lval 1000000000 ((R.drop t).take (nc+1)) / Y) :
  LongInv M Y nr nd (R.take t ++ (F ++ R.drop (t+nc+1))) (D.set t q) t:=by
 obtain⟨w1,w2,w3⟩:=h.window hY hy ht
 have hl:R.length=nr:=h.lenR
 have hqB:q<1000000000:=by rw[hq];exact w2
 have hFY:lval 1000000000 F<Y:=by
  have h1:=Nat.div_add_mod (lval 1000000000 ((R.drop t).take (nc+1))) Y
  have h2:=Nat.mod_lt (lval 1000000000 ((R.drop t).take (nc+1))) hy
  rw[←hq,Nat.mul_comm]at h1
  omega
 have eR:=lval_cut 1000000000 R t (by omega)
 have eN:lval 1000000000 (R.take t ++ (F ++ R.drop (t+nc+1)))=lval 1000000000 (R.take t)+1000000000 ^ t*lval 1000000000 F:=by
  rw[lval_append,lval_append,w3,Nat.mul_zero,Nat.add_zero,List.length_take,Nat.min_eq_left (by omega)]
 have eD:=lval_set 1000000000 D t q (by rw[h.lenD];exact htd)
 have hD0:D[t]'(by rw[h.lenD];exact htd)=0:=by
  have:=h.low t (by omega)
  rw[List.getD_eq_getElem?_getD,List.getElem?_eq_getElem (by rw[h.lenD];exact htd)]at this
  simpa using this
 rw[hD0,Nat.mul_zero,Nat.add_zero]at eD
 refine⟨?_,by rw[List.length_set];exact h.lenD,limbs_append.2 ⟨limbs_take h.limR _,limbs_append.2 ⟨hlF,limbs_drop h.limR _⟩⟩,limbs_set h.limD _ _ hqB,fun k hk=>?_,?_,?_⟩
 ·simp[List.length_take,List.length_drop];omega
 ·have:=h.low k (by omega)
  rw[List.getD_eq_getElem?_getD]at this ⊢
  rw[List.getElem?_set_ne (by omega)];exact this
 ·have hs:=h.sum
  rw[eN,eD,←hs,eR,←w1,←hv,Nat.mul_add,Nat.mul_add]
  have m1:Y*(1000000000 ^ t*q)=1000000000 ^ t*(q*Y):=by rw[Nat.mul_left_comm,Nat.mul_comm Y q]
  omega
 ·rw[eN]
  have h1:lval 1000000000 (R.take t)<1000000000 ^ t:=by
   have:=lval_lt (limbs_take h.limR t)
   rwa [List.length_take,Nat.min_eq_left (by omega)]at this
  have h2:1000000000 ^ t*(lval 1000000000 F+1)≤1000000000 ^ t*Y:=Nat.mul_le_mul_left _ hFY
  rw[Nat.mul_add,Nat.mul_one]at h2
  rw[Nat.mul_comm Y]
  omega
theorem LongInv.last {M Y nr nd:Nat} {R D:List Nat} (h:LongInv M Y nr nd R D 0) (_hy:0<Y):lval 1000000000 D=M / Y∧lval 1000000000 R=M % Y:=by
 have h1:=h.sum
 have h2:=h.lt
 rw[Nat.pow_zero,Nat.mul_one]at h2
 rw[←h1]
 refine⟨?_,?_⟩
 ·rw[Nat.add_mul_div_left _ _ (by omega),Nat.div_eq_of_lt h2,Nat.zero_add]
 ·rw[Nat.add_mul_mod_self_left,Nat.mod_eq_of_lt h2]
theorem guess_bound {nc:Nat} {W Y:List Nat} {q:Nat} (hn:2≤nc) (hW:W.length=nc+1) (hY:Y.length=nc) (hlW:limbs 1000000000 W) (_hlY:limbs 1000000000 Y) (hq:q*lval 1000000000 Y≤lval 1000000000 W) :
  q*Y.getD (nc - 1) 0≤W.getD nc 0*1000000000+W.getD (nc - 1) 0∧
  q*(Y.getD (nc - 1) 0*1000000000+Y.getD (nc - 2) 0)≤(W.getD nc 0*1000000000+W.getD (nc - 1) 0)*1000000000+W.getD (nc - 2) 0:=by
 obtain⟨p,rfl⟩:∃p,nc=p+2:=⟨nc - 2,by omega⟩
 rw[show p+2 - 1=p+1 by omega,show p+2 - 2=p by omega]
 have cut2 (l:List Nat) (k:Nat) (hk:l.length=p+k):lval 1000000000 l=lval 1000000000 (l.take p)+1000000000 ^ p*lval 1000000000 (l.drop p):=lval_cut 1000000000 l p (by omega)
 have dW:lval 1000000000 (W.drop p)=W.getD p 0+1000000000*(W.getD (p+1) 0+1000000000*W.getD (p+2) 0):=by
  rw[List.drop_eq_getElem_cons (show p<W.length by omega),List.drop_eq_getElem_cons (show p+1<W.length by omega),List.drop_eq_getElem_cons (show p+1+1<W.length by omega),List.drop_of_length_le (by omega)]
  simp[lval,List.getD,show p<W.length by omega,show p+1<W.length by omega,show p+2<W.length by omega]
 have dY:lval 1000000000 (Y.drop p)=Y.getD p 0+1000000000*Y.getD (p+1) 0:=by
  rw[List.drop_eq_getElem_cons (show p<Y.length by omega),List.drop_eq_getElem_cons (show p+1<Y.length by omega),List.drop_of_length_le (by omega)]
  simp[lval,List.getD,show p<Y.length by omega,show p+1<Y.length by omega]
 have cW:=cut2 W 3 hW
 have cY:=cut2 Y 2 hY
 have tW:lval 1000000000 (W.take p)<1000000000 ^ p:=by
  have:=lval_lt (limbs_take hlW p)
  rwa [List.length_take,Nat.min_eq_left (by omega)]at this
 have ha0:W.getD p 0<1000000000:=by
  rw[List.getD_eq_getElem?_getD,List.getElem?_eq_getElem (show p<W.length by omega)]
  exact hlW _ (List.getElem_mem _)
 generalize W.getD p 0=a0 at *
 generalize W.getD (p+1) 0=a1 at *
 generalize W.getD (p+2) 0=a2 at *
 generalize Y.getD p 0=b0 at *
 generalize Y.getD (p+1) 0=b1 at *
 have key:q*(b0+1000000000*b1)≤a0+1000000000*(a1+1000000000*a2):=by
  apply Decidable.byContradiction
  intro hc
  have h1:1000000000 ^ p*(a0+1000000000*(a1+1000000000*a2)+1)≤1000000000 ^ p*(q*(b0+1000000000*b1)):=Nat.mul_le_mul_left _ (by omega)
  have h2:1000000000 ^ p*(q*(b0+1000000000*b1))≤q*lval 1000000000 Y:=by
   rw[cY,dY,Nat.mul_left_comm]
   exact Nat.mul_le_mul_left _ (Nat.le_add_left _ _)
  rw[dW]at cW
  rw[Nat.mul_add (1000000000 ^ p) _ 1]at h1
  omega
 have e1:q*(b0+1000000000*b1)=q*b0+1000000000*(q*b1):=by rw[Nat.mul_add,Nat.mul_left_comm]
 have e2:q*(b1*1000000000+b0)=q*b0+1000000000*(q*b1):=by rw[←e1];congr 1;omega
 rw[e2]
 rw[e1]at key
 generalize q*b1=u at *
 generalize q*b0=v at *
 exact⟨by omega,by omega⟩
end Cub
namespace Go
open Go.RowKit in
theorem wpList_copy_far {P:Program} {w:World} {ops:Array Oper} {rest:List Oper} {o:Oper} {a:Act} {Q:Exit→Act→World→Prop} (hgd:o.guard=none) (d s:Operand) (dT sT:TypeId)
  (ho:o.op=.call { callee:=.builtin .copy,args:=#[d,s],argTypes:=#[dT,sT] }) (elem:TypeId) (hu:P.underlying dT=some (.slice elem)) (hsz:(P.info? elem).map (·.size)=some 1)
  (dp sp:Option Addr) (dLen dCap sLen sCap:Nat) (hd:a.eval d=.slice dp dLen dCap) (hs:a.eval s=.slice sp sLen sCap)
  (g off:Nat) (cur:List Value) (t:TypeId) (hg:w.heap[g]?=some (.cells cur.toArray t (0,0))) (cs:List Value) (hn:cs.length=Nat.min sLen dLen)
  (hpos:0<cs.length→dp=some ⟨g,off,none⟩∧∃ad,sp=some ad∧∀j v,cs[j]?=some v→w.cell? (ad.add j)=some v)
  (hfit:off+cs.length≤cur.length) (h1:∀v∈cs,v.oneCell'=true)
  (h:∀w',Hid (w'.heap[g]?=some (.cells (splice cur off cs).toArray t (0,0)))→Hid (Below g w w'∧∀k,k≠g→w'.heap[k]?=w.heap[k]?)→wpList P ops Q rest (a.put o.dst (goInt cs.length)) w') :
  wpList P ops Q (o :: rest) a w:=by
 by_cases h0:cs.length=0
 ·obtain rfl:cs=[]:=List.eq_nil_of_length_eq_zero h0
  refine wpList_copy_nothing hgd d s dT sT ho elem hu hsz dp sp dLen dCap sLen sCap hd hs (by simpa using hn.symm) ?_;exact h w (show _=_ by simpa [splice] using hg) ⟨Below.refl _ _,fun _ _=>rfl⟩
 ·obtain⟨rfl,ad,rfl,hsrc⟩:=hpos (by omega)
  refine wpList_copy_own hgd d s dT sT ho elem hu hsz g off dLen dCap ad sLen sCap hd hs cur.toArray t hg cs hn hsrc (by simpa using hfit) h1 ?_;exact h _ (show _=_ by simpa [splice] using setRow_heap w g _ _ t _ hg) ⟨below_setRow (Below.refl _ _) (Nat.le_refl _) _,fun k hk=>setRow_other w g k _ hk⟩
end Go
namespace Go.Proofs.YtliadckofhblnaaGreatDoor
open Go.RowKit
theorem Own.setOther {w:World} {g:Nat} {l:List Nat} {p:Addr} {v:Value} (h:Own w g l) (hne:p.block≠g):Own (w.setCell p v) g l:=by
 unfold Own at h ⊢
 simp only[World.setCell,Array.getElem?_modify,h];simp[hne]
structure zEf (w2 wr:World) (gd gn:Nat) (R D N:List Nat):Prop where
 old:Below w2.heap.size w2 wr
 rest:Own wr w2.heap.size R
 digs:Own wr gd D
 win:Own wr gn N
theorem zEf.later {w2 wr wr':World} {gd gn:Nat} {R D N:List Nat} (h:zEf w2 wr gd gn R D N) (hb:Below wr.heap.size wr wr'):zEf w2 wr' gd gn R D N :=
 ⟨h.old.trans (hb.mono h.old.size),h.rest.later hb h.rest.lt,h.digs.later hb h.digs.lt,h.win.later hb h.win.lt⟩
theorem zEf.window {w2 wr wr':World} {gd gn:Nat} {R D N N':List Nat} (h:zEf w2 wr gd gn R D N) (h1:w2.heap.size<gn) (h2:gd<gn) (hb:Below gn wr wr') (hN:Own wr' gn N'):zEf w2 wr' gd gn R D N' :=
 ⟨h.old.trans (hb.mono (by omega)),h.rest.below hb h1,h.digs.below hb h2,hN⟩
theorem zEf.fill {w2 wr wr':World} {gd gn:Nat} {R R' D N:List Nat} (h:zEf w2 wr gd gn R D N) (h1:w2.heap.size≠gn) (h2:gd≠w2.heap.size) (hb:Below w2.heap.size wr wr'∧∀k,k≠w2.heap.size→wr'.heap[k]?=wr.heap[k]?) (hR:Own wr' w2.heap.size R'):zEf w2 wr' gd gn R' D N :=
 ⟨h.old.trans hb.1,hR,(hb.2 gd h2).trans h.digs,(hb.2 gn (fun e=>h1 e.symm)).trans h.win⟩
theorem zEf.digit {w2 wr:World} {gd gn:Nat} {R D N:List Nat} (h:zEf w2 wr gd gn R D N) (h1:w2.heap.size<gd) (h2:gd≠gn) (t q:Nat) (z:Int) (hz:z=(q:Int)):zEf w2 (wr.setCell ⟨gd,t,none⟩ (.int .u64 z)) gd gn R (D.set t q) N:=by
 subst hz;exact⟨h.old.setCell (by simp;omega) _,h.rest.setOther (by simp;omega),h.digs.set t q,h.win.setOther (by simp;omega)⟩
theorem long_scale (n top nq:Nat) (l:List Nat) (hl:Cub.normal 1000000000 l) (hv:Cub.lval 1000000000 l=n) (hq:l.length=nq+1) (ht:top=l.getD nq 0) :
  0<top∧top<1000000000∧0<1000000000 / (top+1)∧1000000000 / (top+1)<1000000000∧n*(1000000000 / (top+1))<1000000000 ^ (nq+1)∧1000000000 ^ nq≤n*(1000000000 / (top+1)):=by
 obtain⟨t,x,rfl⟩:=Cub.split_last (show l≠[] by intro e;rw[e]at hq;simp at hq);obtain⟨h1,h2,h3⟩:=Cub.normal_last hl;have hlen:t.length=nq:=by simpa using hq
 have hx:top=x:=by rw[ht,←hlen];simp[List.getD]
 subst hx;have hs:0<1000000000 / (top+1):=Nat.div_pos (by omega) (by omega);have hs2:1000000000 / (top+1)*(top+1)≤1000000000:=Nat.div_mul_le_self _ _;have hs3:1000000000 / (top+1)<1000000000:=Nat.div_lt_self (by decide) (by omega);have hn:n=Cub.lval 1000000000 t+1000000000 ^ nq*top:=by rw[←hv,Cub.lval_snoc,hlen]
 have htl:=Cub.lval_lt h1;rw[hlen]at htl;generalize 1000000000 / (top+1)=s at *
 refine⟨h2,h3,hs,hs3,?_,?_⟩
 ·have h4:n+1≤1000000000 ^ nq*(top+1):=by rw[Nat.mul_add,Nat.mul_one];omega
  have h5:(n+1)*s≤1000000000 ^ nq*(top+1)*s:=Nat.mul_le_mul_right _ h4
  have h6:1000000000 ^ nq*(top+1)*s≤1000000000 ^ nq*1000000000:=by
   rw[Nat.mul_assoc,Nat.mul_comm (top+1)];exact Nat.mul_le_mul_left _ hs2
  rw[Nat.add_mul,Nat.one_mul]at h5;rw[Nat.pow_succ]
  omega
 ·have h4:1000000000 ^ nq*1≤1000000000 ^ nq*top:=Nat.mul_le_mul_left _ h2
  have h5:n*1≤n*s:=Nat.mul_le_mul_left _ hs
  omega
theorem len_between {l:List Nat} {n k:Nat} (h:Cub.normal 1000000000 l) (hv:Cub.lval 1000000000 l=n) (h1:1000000000 ^ k≤n) (h2:n<1000000000 ^ (k+1)):l.length=k+1:=by
 have a:=Cub.len_le h (by rw[hv];exact h2)
 apply Decidable.byContradiction
 intro hc;have b:=Cub.lval_lt h.1;have c:1000000000 ^ l.length≤1000000000 ^ k:=Nat.pow_le_pow_right (by decide) (by omega)
 omega
theorem zAf.at {w:World} {a:Option Addr} {n c:Nat} {v:Nat} (h:zAf w (.agg #[.slice a n c]) v):∃l,n=l.length∧l.length≤c∧c≤9223372036854775807∧Cub.normal 1000000000 l∧Cub.lval 1000000000 l=v∧Cells w a l:=by
 obtain⟨s,l,e,hr,hn,hv⟩:=h;simp only[Value.agg.injEq,Array.mk.injEq,List.cons.injEq,and_true]at e;subst e;obtain⟨h1,h2,h3,h4⟩:=hr.cells;exact⟨l,h1,by omega,h3,hn,hv,h4⟩
end Go.Proofs.YtliadckofhblnaaGreatDoor
namespace Go.Proofs.YtliadckofhblnaaGreatDoor
open Go.RowKit
theorem splice_fit (l:List Nat) (n:Nat):splice (zCx (List.replicate n 0)) 0 (zCx l)=zCx (l ++ List.replicate (n - l.length) 0):=by
  unfold splice zCx;simp
theorem field60 (a:Option Addr) (n c:Nat) (w:World):(Instr.field 80 (.agg #[.slice a n c]) 0).run Tryz.prog w=.ok (.slice a n c) w:=by kernel_rfl
theorem lval_pad (l:List Nat) (k:Nat):Cub.lval 1000000000 (l ++ List.replicate k 0)=Cub.lval 1000000000 l:=by
  rw[Cub.lval_append,Cub.lval_zeros,Nat.mul_zero,Nat.add_zero]
theorem long_start {M Y np nd:Nat} {lm:List Nat} (hl:lm.length≤np+1) (hlim:Cub.limbs 1000000000 lm) (hv:Cub.lval 1000000000 lm=M) (h:M<Y*1000000000 ^ nd) :
    Cub.LongInv M Y (np+1) nd (lm ++ List.replicate (np+1 - lm.length) 0) (List.replicate nd 0) nd:=by
  refine⟨by simp;omega,by simp,Cub.limbs_append.2 ⟨hlim,Cub.limbs_zeros _ _ (by decide)⟩,Cub.limbs_zeros _ _ (by decide),fun k hk=>?_,?_,?_⟩
  · simp[List.getD,hk]
  · rw[lval_pad,Cub.lval_zeros,Nat.mul_zero,Nat.add_zero,hv]
  · rw[lval_pad,hv];exact h
theorem getD_at (l:List Nat) (i:Nat) (h:i<l.length):l.getD i 0=l[i]:=by
  rw[List.getD_eq_getElem?_getD,List.getElem?_eq_getElem h];rfl
theorem win_getD (R:List Nat) (t k i:Nat) (hi:i<k):((R.drop t).take k).getD i 0=R.getD (t+i) 0:=by
  rw[List.getD_eq_getElem?_getD,List.getD_eq_getElem?_getD,List.getElem?_take,if_pos hi,List.getElem?_drop]
theorem long_guess {M Y nr nd r t:Nat} {R D ly:List Nat} (h:Cub.LongInv M Y nr nd R D (t+1)) (hr:1≤r) (hl:ly.length=r+1) (hlim:Cub.limbs 1000000000 ly) (hv:Cub.lval 1000000000 ly=Y) (ht:t+(r+1)+1≤nr) :
    Cub.lval 1000000000 ((R.drop t).take (r+1+1)) / Y*ly.getD r 0≤R.getD (t+(r+1)) 0*1000000000+R.getD (t+r) 0∧
    Cub.lval 1000000000 ((R.drop t).take (r+1+1)) / Y*(ly.getD r 0*1000000000+ly.getD (r - 1) 0)≤(R.getD (t+(r+1)) 0*1000000000+R.getD (t+r) 0)*1000000000+R.getD (t+(r - 1)) 0:=by
  have hR:=h.lenR;have b:=Cub.guess_bound (nc:=r+1) (W:=(R.drop t).take (r+1+1)) (Y:=ly) (q:=Cub.lval 1000000000 ((R.drop t).take (r+1+1)) / Y) (by omega) (by rw[List.length_take,List.length_drop];omega) hl (Cub.limbs_take (Cub.limbs_drop h.limR _) _) hlim (by rw[hv];exact Nat.div_mul_le_self _ _);rw[win_getD R t (r+1+1) (r+1) (by omega),win_getD R t (r+1+1) (r+1 - 1) (by omega),win_getD R t (r+1+1) (r+1 - 2) (by omega)]at b;rw[show r+1 - 1=r by omega,show r+1 - 2=r - 1 by omega]at b;exact b
theorem take_zero {n:Nat} {F:List Nat} {T Y W m:Nat} (hlim:Cub.limbs 1000000000 F) (hl:F.length=n) (h:Cub.lval 1000000000 F+T*Y=W+1000000000 ^ n*m):m=0↔T*Y≤W:=by
  have h1:=Cub.lval_lt hlim;rw[hl]at h1
  constructor
  · intro e;subst e;omega
  · intro hle
    rcases Nat.eq_zero_or_pos m with h0|h0
    · exact h0
    · have:1000000000 ^ n*1≤1000000000 ^ n*m:=Nat.mul_le_mul_left _ h0
      omega
theorem splice_win (N W:List Nat) (h:N.length=W.length):splice (zCx N) 0 (zCx W)=zCx W:=by
  unfold splice zCx;simp[h]
theorem splice_at (R F:List Nat) (t:Nat):splice (zCx R) t (zCx F)=zCx (R.take t ++ (F ++ R.drop (t+F.length))):=by
  unfold splice zCx;simp[List.map_take,List.map_drop]
theorem Own.src {w:World} {g:Nat} {l:List Nat} (h:Own w g l):∀j v,(zCx l)[j]?=some v→w.cell? ((⟨g,0,none⟩:Addr).add j)=some v:=fun j v hv=>by
  have hj:j<l.length:=by
    have:=(List.getElem?_eq_some_iff.1 hv).1
    rwa [u64s_length]at this
  rw[u64s_get l j hj,Option.some.injEq]at hv;rw[Lib.add_plain,Nat.zero_add,h.cell j hj,hv]
theorem cell_set_box {W:World} {p q:Addr} {u:Value} {k:IntKind} {z:Int} (h:W.cell? p=some (.int k z)) (hq:W.cell? q=some (.slice none 0 0)):(W.setCell q u).cell? p=some (.int k z):=by
  rw[World.cell?_setCell_other _ _ _ _ (by intro e;rw[e,h]at hq;cases hq)];exact h
theorem cell_set_keep' {W:World} {p q:Addr} {v u:Value} (h:W.cell? p=some v) (hne:q≠p):(W.setCell q u).cell? p=some v:=by
  rw[World.cell?_setCell_other _ _ _ _ hne];exact h
theorem drew0 {W0 w':World} (hb:Below W0.drew.heap.size W0.drew w'):Below W0.heap.size W0 w':=(Below.refl _ _).drew.trans hb
theorem scale_cast (top s:Nat) (hs:s=1000000000 / (top+1)):(1000000000:Int) / ((top:Int)+1)=(s:Int):=by
  rw[hs,Int.natCast_ediv];rfl
theorem long_any (m n k:Nat) (hk:k≤500000) (hm:m<1000000000 ^ k) (hn:1000000000≤n) (hle:n≤m):LongOK m n:=by
  intro w x y hx hy;have HX:=zAb hx;have HY:=zAb hy;obtain⟨ap,np,cp,rfl⟩:=hx.shape;obtain⟨aq,nq,cq,rfl⟩:=hy.shape;obtain⟨lp,hlp,hlpc,_,hnp,hvp,hcp⟩:=hx.at
  obtain⟨lq,hlq,hlqc,_,hnq,hvq,hcq⟩:=hy.at
  have hk1:np≤k:=by rw[hlp];exact Cub.len_le hnp (by rw[hvp];exact hm)
  have hqp:nq≤np:=by rw[hlp,hlq];exact norm9_len_le hnp.1 hnq (by rw[hvp,hvq];exact hle)
  have hq2:2≤nq:=by
    apply Decidable.byContradiction
    intro hc;have h1:=Cub.lval_lt hnq.1;have h2:(1000000000:Nat) ^ lq.length≤1000000000 ^ 1:=Nat.pow_le_pow_right (by decide) (by omega)
    omega
  obtain⟨r,hr⟩:∃r,nq=r+1:=⟨nq - 1,by omega⟩;obtain⟨top,htop⟩:∃top,top=lq.getD r 0:=⟨_,rfl⟩;obtain⟨t1,t2,t3,t4,t5,t6⟩:=long_scale n top r lq hnq hvq (by omega) htop;obtain⟨s,hs⟩:∃s,s=1000000000 / (top+1):=⟨_,rfl⟩;rw[←hs]at t3 t4 t5 t6;have HSC:=zAb (scale_cast top s hs)
  have HTOP:Hid (∀W,Below w.heap.size w W→∃b o,aq=some ⟨b,o,none⟩∧W.cell? ⟨b,o+r,none⟩=some (.int .u64 (top:Int))):=fun W hW=>by
    obtain⟨b,o,e,hcell⟩:=hcq W hW r (by omega);refine⟨b,o,e,?_⟩;rw[hcell,htop,List.getD_eq_getElem?_getD,List.getElem?_eq_getElem (by omega)];rfl
  have hMp:m<1000000000 ^ np:=by rw[←hvp,hlp];exact Cub.lval_lt hnp.1
  have hM:m*s<1000000000 ^ (np+1):=by
    rw[Nat.pow_succ];exact Nat.lt_of_le_of_lt (Nat.mul_le_mul_right s (Nat.le_of_lt hMp)) (Nat.mul_lt_mul_of_pos_left t4 (Nat.pow_pos (by decide)))
  have hMY:m*s<n*s*1000000000 ^ (np - nq+1):=by
    have h1:m*s<1000000000 ^ np*s:=Nat.mul_lt_mul_of_pos_right hMp t3
    have h2:1000000000 ^ r*s*1000000000 ^ (np - nq+1)≤n*s*1000000000 ^ (np - nq+1):=by
      refine Nat.mul_le_mul_right _ (Nat.mul_le_mul_right _ ?_);have h3:=Cub.normal_ge hnq (show lq≠[] by intro e;rw[e]at hlq;simp at hlq;omega);rw[hvq,←hlq,show nq - 1=r by omega]at h3;exact h3
    have h4:1000000000 ^ r*s*1000000000 ^ (np - nq+1)=1000000000 ^ np*s:=by
      rw[Nat.mul_right_comm,←Nat.pow_add]
      congr 2
      omega
    omega
  have H68:=zAb (fun W=>zFa s W (by omega))
  have hB2:m<1000000000 ^ (k+1)∧n<1000000000 ^ (k+1)∧s<1000000000 ^ (k+1):=by
    have h1:(1000000000:Nat) ^ k≤1000000000 ^ (k+1):=Nat.pow_le_pow_right (by decide) (by omega);have h2:(1000000000:Nat) ^ 1≤1000000000 ^ (k+1):=Nat.pow_le_pow_right (by decide) (by omega);generalize (1000000000:Nat) ^ k=A at *
    generalize (1000000000:Nat) ^ (k+1)=B at *
    omega
  have H54c:=zAb (fun W x y (hx:zAf W x n) (hy:zAf W y s)=>mulS x y n s (n*s) (k+1) W hx hy (by omega) hB2.2.1 hB2.2.2 rfl);have H54b:=zAb (fun W x y (hx:zAf W x m) (hy:zAf W y s)=>mulS x y m s (m*s) (k+1) W hx hy (by omega) hB2.1 hB2.2.2 rfl);have HFACT:=zAb (And.intro t5 (And.intro t6 (And.intro hM hMY)));have HEND:Hid (m*s / (n*s)=m / n∧m*s % (n*s)=m % n*s):=⟨Nat.mul_div_mul_right _ _ t3,Nat.mul_mod_mul_right _ _ _⟩;clear hx hy hlpc hlqc hnp hvp hcp hnq hvq hcq hlp hlq hB2 hM hMY hMp t5 t6 hs htop hm hn hle;generalize n*s=Y at *
  generalize m*s=M at *
  obtain⟨i0,hi,hz0,hz1,hz2⟩:=info_parts Tryz.info168;subst hr;obtain⟨nd,rfl⟩:∃nd,np=nd+r:=⟨np - r,by omega⟩;have hnd:1≤nd:=by omega
  go_enter Tryz.func214,Tryz.ntmps214;obtain⟨bq,oq,rfl,_⟩:=un HTOP w (Below.refl _ _)
  have hct:∀W,Below w.heap.size w W→W.cell? ⟨bq,oq+r,none⟩=some (.int .u64 (top:Int)):=fun W hW=>by
    obtain⟨b,o,e,hc⟩:=un HTOP W hW;simp only[Option.some.injEq,Addr.mk.injEq]at e;obtain⟨rfl,rfl,_⟩:=e;exact hc
  have hct0:=hct _ (((((Below.refl w.heap.size w).alloc (Nat.le_refl _) (.cells #[.slice ap (nd+r) cp] 80)).alloc (by simp) (.cells #[.slice (some ⟨bq,oq,none⟩) (r+1) cq] 80)).alloc (by simp;omega) (.cells #[.slice none 0 0] 80)).alloc (by simp;omega) (.cells #[.slice none 0 0] 80));have hf60:=field60
  go_wp2
  go_step3
  go_upto_region 2 with (go_at_call 210;go_must(rw[un HSC];refine(un H68 _).mono ?_;rintro e w1 ⟨sa,sl,sc,rfl,hs1,hb1⟩;have HB1:=zAb (res4 (hb1.mono (by simp)));have HS1:=zAb hs1;have b1:=(un HB1).c1;have b0:=(un HB1).c0;have z1:=(un HB1).size;have l0:w.heap.size<w1.heap.size:=World.block_lt_of_cell? _ _ b0;have l1:w.heap.size+1<w1.heap.size:=World.block_lt_of_cell? _ _ b1;clear hs1 hb1))
  have HSA:Hid (zAf (w1.alloc (.cells #[.slice sa sl sc] 80)) (.agg #[.slice sa sl sc]) s):=(un HS1).later ((Below.refl _ _).alloc (Nat.le_refl _) _);have HBA:=zAb ((un HB1).on ((Below.refl (w.heap.size+4) w1).alloc z1 (.cells #[.slice sa sl sc] 80)))
  go_upto_region 3 with (go_at_call 151;go_must(refine(un H54c _ _ _ ((un HY).later (un HBA).below) (un HSA)).mono ?_;rintro e w2 ⟨ba,bl,bc,rfl,hy2,hb2⟩;have HB2:=zAb ((un HBA).on (hb2.mono (un HBA).size));have HS2:=zAb ((un HSA).later hb2);have HY2:=zAb hy2;have HT2:=zAb hb2;have b0':=(un HB2).c0;clear hy2 hb2))
  obtain⟨ly,hly,hlyc,hbcm,hny,hvy,hcy⟩:=(un HY2).at
  have hbl:bl=r+1:=by rw[hly];exact len_between hny hvy (un HFACT).2.1 (un HFACT).1
  subst hbl;have HLY:=zAb (And.intro hly.symm (And.intro hny.1 hvy));have HCY:=zAb hcy
  have hypos:0<ly.getD r 0:=by
    obtain⟨t,x,rfl⟩:=Cub.split_last (show ly≠[] by intro e;rw[e]at hly;simp at hly);obtain⟨_,h2,_⟩:=Cub.normal_last hny;have:t.length=r:=by simp at hly;omega
    rw[←this];simpa [List.getD] using h2
  clear hly hny hvy hcy;have z2:w1.heap.size<w2.heap.size:=by have:=(un HT2).size;simp at this;omega
  have cS2:w2.cell? ⟨w1.heap.size,0,none⟩=some (.slice sa sl sc):=by
    rw[(un HT2).cell (p:=⟨w1.heap.size,0,none⟩) (by simp)];simp
  go_upto_region 4 with (at_make;go_must(refine wpList_make_full _ rfl _ _ 78 rfl w2.heap.size 168 i0 (.int .u64 0) 1 Tryz.underlying78 hi hz0 hz1 .i64 .i64 _ _ ((nd+r)+1) rfl rfl (by omega) (by omega) (by rw[hz2];omega) (by unfold maxLen;omega) (Nat.le_refl _) ?_;intro w3 hown3 hgrow3;rw[zDw]at hown3;have HO3:Hid (Own w3 w2.heap.size (List.replicate ((nd+r)+1) 0)):=Own.of_row hown3;have HT3:Hid (Bw w2 w3):=(Below.refl _ _).grown hgrow3 (Nat.le_refl _) (fun k hk=>by cases hk);have b3:=((un HB2).on ((un HT3).mono (un HB2).size)).c0;have cS3:=((un HT3).cell (p:=⟨w1.heap.size,0,none⟩) z2).trans cS2;clear hown3 hgrow3))
  have HB3:=zAb ((un HB2).on ((un HT3).mono (un HB2).size));have HS3:=zAb ((un HS2).later (un HT3))
  go_upto_region 5 with (first
    | (go_at_call 151;go_must(refine(un H54b _ _ _ ((un HX).later (un HB3).below) (un HS3)).mono ?_;rintro e w4 ⟨da,dl,dc,rfl,hm4,hb4⟩;obtain⟨lm,hlm,hlmc,hdcm,hnm,hvm,hcm⟩:=hm4.at;have hdl:dl≤(nd+r)+1:=(by rw[hlm];exact Cub.len_le hnm (by rw[hvm];exact(un HFACT).2.2.1));have HO4:=zAb ((un HO3).later hb4 (un HO3).lt);have HT4:Hid (Bw w2 w4):=(un HT3).trans (hb4.mono (un HT3).size);have HLM:=zAb (And.intro hlm (And.intro hnm.1 hvm));have HCM:=zAb hcm;clear hm4 hb4 hlm hnm hvm hcm hlmc))
    | (refine wpList_copy_splice rfl _ _ 78 78 rfl 168 Tryz.underlying78 Tryz.size168 _ _ _ _ _ _ rfl rfl w2.heap.size 0 (zCx (List.replicate ((nd+r)+1) 0)) 168 (un HO4) (zCx lm) (by rw[u64s_length,←(un HLM).1];exact(Nat.min_eq_left hdl).symm) (fun h0=>⟨by simp,(un HCM).src (Below.refl _ _) (by rw[u64s_length]at h0;exact h0)⟩) (by rw[u64s_length,u64s_length,List.length_replicate,←(un HLM).1];omega) (zGd lm) w2.heap.size w4 (Below.refl _ _) (Nat.le_refl _) ?_;intro w5 hO5 hb5;rw[splice_fit]at hO5;have HO5:=hO5;have HT5:Hid (Bw w2 w5):=(un HT4).trans hb5;clear hO5 hb5))
  have HI0:=zAb (long_start (np:=nd+r) (by rw[←(un HLM).1];exact hdl) (un HLM).2.1 (un HLM).2.2 (show M<Y*1000000000 ^ (nd) by have:=(un HFACT).2.2.2;rwa [show nd+r - (r+1)+1=nd by omega]at this));have HO5':Hid (Own w5 w2.heap.size (lm ++ List.replicate ((nd+r)+1 - lm.length) 0)):=un HO5;generalize lm ++ List.replicate ((nd+r)+1 - lm.length) 0=R0 at *
  clear HO5 HLM HCM HO3 HO4
  go_upto_region 6 with (at_make;go_must(refine wpList_make_full _ rfl _ _ 78 rfl w5.heap.size 168 i0 (.int .u64 0) 1 Tryz.underlying78 hi hz0 hz1 .i64 .i64 _ _ (nd) rfl rfl (by omega) (by omega) (by rw[hz2];omega) (by unfold maxLen;omega) (Nat.le_refl _) ?_;intro w6 hown6 hgrow6;rw[zDw]at hown6;have HO6:Hid (Own w6 w5.heap.size (List.replicate (nd) 0)):=Own.of_row hown6;have HT6:Hid (Bw w5 w6):=(Below.refl _ _).grown hgrow6 (Nat.le_refl _) (fun k hk=>by cases hk);clear hown6 hgrow6))
  go_wp2_with (at_make;go_must(refine wpList_make_full _ rfl _ _ 78 rfl w6.heap.size 168 i0 (.int .u64 0) 1 Tryz.underlying78 hi hz0 hz1 .i64 .i64 _ _ (r+1+1) rfl rfl (by omega) (by omega) (by rw[hz2];omega) (by unfold maxLen;omega) (Nat.le_refl _) ?_;intro w7 hown7 hgrow7;rw[zDw]at hown7;have HO7:Hid (Own w7 w6.heap.size (List.replicate (r+1+1) 0)):=Own.of_row hown7;have HT7:Hid (Bw w6 w7):=(Below.refl _ _).grown hgrow7 (Nat.le_refl _) (fun k hk=>by cases hk);clear hown7 hgrow7))
  have g1:w2.heap.size<w5.heap.size:=(un HO5').lt;have g2:w5.heap.size<w6.heap.size:=(un HO6).lt
  have HST:Hid (zEf w2 w7 w5.heap.size w6.heap.size R0 (List.replicate nd 0) (List.replicate (r+1+1) 0)) :=
    ⟨(un HT5).trans (((un HT6).mono (by omega)).trans ((un HT7).mono (by omega))),((un HO5').below (un HT6) g1).below (un HT7) (by omega),(un HO6).below (un HT7) g2,un HO7⟩
  clear HO5' HO6 HO7 HT7 HT6 HT5 HT4 HT3 b3 cS3 b0 b1 b0' HB3 HS3 HSA HBA H54b H54c H68
  go_step3
  go_wp2
  obtain⟨gb,ob,rfl,_⟩:=un HCY w2 (Below.refl _ _) 0 (by have:=(un HLY).1;omega)
  have HCB:Hid (∀W,Below w2.heap.size w2 W→∀i (hi:i<ly.length),W.cell? ⟨gb,ob+i,none⟩=some (.int .u64 (ly[i]:Int))):=fun W hW i hi=>by
    obtain⟨b,o,e,hc⟩:=un HCY W hW i hi;simp only[Option.some.injEq,Addr.mk.injEq]at e;obtain⟨rfl,rfl,_⟩:=e;exact hc
  have hYpos:0<Y:=by
    have h1:=(un HFACT).2.1;have h2:0<(1000000000:Nat) ^ r:=Nat.pow_pos (by decide)
    omega
  have hly1:ly.getD r 0<1000000000:=by rw[getD_at ly r (by have:=(un HLY).1;omega)];exact(un HLY).2.1 _ (List.getElem_mem _)
  have hly2:ly.getD (r - 1) 0<1000000000:=by rw[getD_at ly (r - 1) (by have:=(un HLY).1;omega)];exact(un HLY).2.1 _ (List.getElem_mem _)
  obtain⟨ls,hls,_,_,hnls,hvls,hcls⟩:=(un HS2).at
  have hls1:ls=[s]:=by
    have h1:ls.length≤1:=Cub.len_le hnls (by rw[hvls,Nat.pow_one];exact t4)
    cases ls with
    | nil=>simp[Cub.lval]at hvls;omega
    | cons x l=>
      cases l with
      | nil=>simp[Cub.lval]at hvls;rw[hvls]
      | cons y l=>simp at h1
  subst hls1;obtain⟨gs,os,rfl,_⟩:=hcls w2 (Below.refl _ _) 0 (by simp);have hsl:sl=1:=by rw[hls];rfl
  subst hsl
  have HCS:Hid (∀W,Below w2.heap.size w2 W→W.cell? ⟨w1.heap.size,0,none⟩=some (.slice (some ⟨gs,os,none⟩) 1 sc)∧W.cell? ⟨gs,os,none⟩=some (.int .u64 (s:Int))):=fun W hW=>by
    refine⟨(hW.cell (p:=⟨w1.heap.size,0,none⟩) z2).trans cS2,?_⟩;obtain⟨b,o,e,hc⟩:=hcls W hW 0 (by simp);simp only[Option.some.injEq,Addr.mk.injEq]at e;obtain⟨rfl,rfl,_⟩:=e
    simpa using hc
  clear hls hnls hvls hcls HCY
  go_loopw [11] (fun t wr=>∃(j:Nat) (R D N:List Nat),j≤nd∧t=I ((j:Int) - 1)∧Hid (Cub.LongInv M Y (nd+r+1) nd R D j)∧Hid (N.length=r+1+1)∧Hid (zEf w2 wr w5.heap.size w6.heap.size R D N)) (fun t _=>(intOf t+1).toNat)
  case atStart=>exact⟨nd,R0,_,_,Nat.le_refl _,rfl,HI0,List.length_replicate ..,HST⟩
  case round=>
    clear HST HI0;obtain⟨j,R,D,N,hj,rfl,HI,HN,HS⟩:=hrel
    by_cases hj0:j=0
    · subst hj0
      have HLAST:Hid (Cub.lval 1000000000 (Cub.trimN D)=m / n∧Cub.normal 1000000000 (Cub.trimN D)∧Cub.lval 1000000000 (Cub.trimN R)=m % n*s∧Cub.normal 1000000000 (Cub.trimN R)):=by
        obtain⟨e1,e2⟩:=(un HI).last hYpos;obtain⟨u1,u2,_⟩:=Cub.lval_trim 1000000000 _ D rfl;obtain⟨v1,v2,_⟩:=Cub.lval_trim 1000000000 _ R rfl;exact⟨by rw[u1,e1];exact(un HEND).1,u2 (un HI).limD,by rw[v1,e2];exact(un HEND).2,v2 (un HI).limR⟩
      have HLEN:=zAb (And.intro (un HI).lenR (un HI).lenD)
      have hleft:m % n*s<1000000000 ^ (nd+r+1):=by
        rw[←(un HEND).2];exact Nat.lt_of_le_of_lt (Nat.mod_le _ _) (un HFACT).2.2.1
      have H82:=zAb (fun W x (hx:zAf W x (m % n*s))=>by
        have h:=divShort_any x (m % n*s) s (nd+r+1) W hx (by omega) hleft t3 t4;rw[Nat.mul_div_cancel _ t3]at h;exact h)
      have HB:=zAb ((un HB2).on ((un HS).old.mono (un HB2).size));obtain⟨cs1,cs2⟩:=un HCS wr (un HS).old;have s1:w.heap.size+4≤w2.heap.size:=(un HB2).size;have s2:w2.heap.size<wr.heap.size:=(un HS).rest.lt;clear hleft HI HN
      go_upto_region 16 with fail
      go_region_held3 (fun w'=>w'.cell? ⟨w1.heap.size,0,none⟩=some (.slice (some ⟨gs,os,none⟩) 1 sc)∧w'.cell? ⟨gs,os,none⟩=some (.int .u64 (s:Int))) (first|assumption|(refine⟨?_,?_⟩<;>first|assumption|(refine cell_set_box ?_ ?_<;>assumption)|(simp[go_sem, *];done))|(refine cell_set_box ?_ ?_<;>assumption)|(simp[go_sem, *];done))
        (first
          | (go_at_call 217;refine(zEi _ R _ (((un HS).rest.row (nd+r+1) (nd+r+1) (un HLEN).1.symm (Nat.le_refl _) (by unfold maxLen;omega)).later ((Below.refl _ _).drew))).mono ?_;rintro e w8 ⟨v',rfl,hrow8,hb8⟩;obtain⟨a8,cap8,rfl,hcap8⟩:=hrow8.form;have hb8':=drew0 hb8;have HR8:Hid (zAf w8 (.agg #[.slice a8 (Cub.trimN R).length cap8]) (m % n*s)):=⟨_,_,rfl,hrow8,(un HLAST).2.2.2,(un HLAST).2.2.1⟩;have HT8:=zAb hb8';obtain⟨cs8a,cs8b⟩:=un HCS w8 ((un HS).old.trans (hb8'.mono (un HS).old.size));clear hrow8 hb8 hb8')
          | (go_at_call 213;refine(un H82 _ _ (un HR8)).mono ?_;rintro e w9 ⟨a1,n1,c1,a2,n2,c2,rfl,hq9,hl9,hb9⟩;have HT9:Hid (Bw wr w9):=(un HT8).trans (hb9.mono (un HT8).size);have HL9:=zAb hq9;have HB9:=zAb ((un HB).on ((un HT9).mono (by omega)));have HS9:=zAb ((un HS).later (un HT9));obtain⟨cs9a,cs9b⟩:=un HCS w9 (un HS9).old;have b9:=(un HB9).c3;have f9:=(un HB9).f3;have lt9:w.heap.size+1+1+1<w9.heap.size:=World.block_lt_of_cell? _ _ b9;clear hq9 hl9 hb9))
      all_goals (
        have HX9:Hid (zAf (w9.setCell ⟨w.heap.size+1+1+1,0,none⟩ (.slice a1 n1 c1)) (.agg #[.slice a1 n1 c1]) (m % n)):=(un HL9).box _ b9 (zBi _ _ _);have HD9:Hid (Own (w9.setCell ⟨w.heap.size+1+1+1,0,none⟩ (.slice a1 n1 c1)) w5.heap.size D):=(un HS9).digs.setOther (by simp;omega);have e3:(w9.setCell ⟨w.heap.size+1+1+1,0,none⟩ (.slice a1 n1 c1)).cell? ⟨w.heap.size+1+1+1,0,none⟩=some (.slice a1 n1 c1):=World.cell?_setCell_same _ _ _ b9;have e3f:(w9.setCell ⟨w.heap.size+1+1+1,0,none⟩ (.slice a1 n1 c1)).frozen? ⟨w.heap.size+1+1+1,0,none⟩=false:=by rw[World.frozen?_setCell];exact f9
        have e2:(w9.setCell ⟨w.heap.size+1+1+1,0,none⟩ (.slice a1 n1 c1)).cell? ⟨w.heap.size+1+1,0,none⟩=some (.slice none 0 0):=by rw[World.cell?_setCell_other _ _ _ _ (by simp)];exact(un HB9).c2
        have e2f:(w9.setCell ⟨w.heap.size+1+1+1,0,none⟩ (.slice a1 n1 c1)).frozen? ⟨w.heap.size+1+1,0,none⟩=false:=by rw[World.frozen?_setCell];exact(un HB9).f2
        have HBB:Hid (Bw w (w9.setCell ⟨w.heap.size+1+1+1,0,none⟩ (.slice a1 n1 c1))):=(un HB9).below.setCell (by simp;omega) _;generalize w9.setCell ⟨w.heap.size+1+1+1,0,none⟩ (.slice a1 n1 c1)=wA at *
        go_upto_region 17 with fail
        go_region_held3 (fun w'=>w'.cell? ⟨w.heap.size+1+1+1,0,none⟩=some (.slice a1 n1 c1)) (first|assumption|(simp[go_sem, *];done)|(refine cell_set_keep' ?_ ?_<;>first|assumption|(simp;done)))
          (first
            | (go_at_call 217;refine(zEi _ D _ (((un HD9).row nd nd (un HLEN).2.symm (Nat.le_refl _) (by unfold maxLen;omega)).later ((Below.refl _ _).drew))).mono ?_;rintro e wB ⟨v',rfl,hrowB,hbB⟩;obtain⟨aB,capB,rfl,hcapB⟩:=hrowB.form;have hbB':=drew0 hbB;have HDB:Hid (zAf wB (.agg #[.slice aB (Cub.trimN D).length capB]) (m / n)):=⟨_,_,rfl,hrowB,(un HLAST).2.1,(un HLAST).1⟩;have HXB:=zAb ((un HX9).later hbB');have HBC:=zAb ((un HBB).trans (hbB'.mono (un HBB).size));obtain⟨eB3,eB3f⟩:=zBt hbB' (g:=w.heap.size+1+1+1) (World.block_lt_of_cell? _ _ e3) e3 e3f;obtain⟨eB2,eB2f⟩:=zBt hbB' (g:=w.heap.size+1+1) (World.block_lt_of_cell? _ _ e2) e2 e2f;clear hrowB hbB hbB'))
        all_goals (
          have hcC:(wB.setCell ⟨w.heap.size+1+1,0,none⟩ (.slice aB (Cub.trimN D).length capB)).cell? ⟨w.heap.size+1+1+1,0,none⟩=some (.slice a1 n1 c1):=by
            rw[World.cell?_setCell_other _ _ _ _ (by simp)];exact eB3
          have R1:=((un HDB).box (.slice aB (Cub.trimN D).length capB) eB2 (zBi _ _ _)).box (.slice a1 n1 c1) hcC (zBi _ _ _);have R2:=((un HXB).box (.slice aB (Cub.trimN D).length capB) eB2 (zBi _ _ _)).box (.slice a1 n1 c1) hcC (zBi _ _ _);have R3:=((un HBC).setCell (p:=⟨w.heap.size+1+1,0,none⟩) (by simp;omega) (.slice aB (Cub.trimN D).length capB)).setCell (p:=⟨w.heap.size+1+1+1,0,none⟩) (by simp;omega) (.slice a1 n1 c1)
          go_wp2
          try rw[Exit.noGoto_ret]
          exact bodyPost_ret (v:=.tuple #[.agg #[.slice aB (Cub.trimN D).length capB],.agg #[.slice a1 n1 c1]]) (by simp[results,Tryz.results214,go_sem,eB2,eB3]) rfl ⟨_,_,_,_,_,_,rfl,R1,R2,R3⟩))
    · obtain⟨t,rfl⟩:∃t,j=t+1:=⟨j - 1,by omega⟩
      have HWIN:=zAb ((un HI).window (nc:=r+1) (un HFACT).1 hYpos (by omega));have HGB:=zAb (long_guess (un HI) (by omega) (un HLY).1 (un HLY).2.1 (un HLY).2.2 (by omega));obtain⟨Wl,hWl⟩:∃Wl,Wl=(R.drop t).take (r+1+1):=⟨_,rfl⟩;rw[←hWl]at HWIN HGB
      have HWL:Hid (Wl.length=r+1+1∧Cub.limbs 1000000000 Wl):=by
        rw[hWl];exact⟨by rw[List.length_take,List.length_drop,(un HI).lenR];omega,Cub.limbs_take (Cub.limbs_drop (un HI).limR _) _⟩
      have HWC:Hid (∀W,Own W w2.heap.size R→∀i v,(zCx Wl)[i]?=some v→W.cell? ((⟨w2.heap.size,t,none⟩:Addr).add i)=some v):=fun W hW i v hv=>by
        have hil:i<Wl.length:=by
          have:=(List.getElem?_eq_some_iff.1 hv).1
          rwa [u64s_length]at this
        rw[u64s_get Wl i hil,Option.some.injEq]at hv;have hlen:=(un HWL).1;have hRl:=(un HI).lenR;rw[Lib.add_plain,hW.cell (t+i) (by omega),←hv];subst hWl;rw[List.getElem_take,List.getElem_drop]
      have HR:Hid (∀i (hi:i≤r+1),wr.cell? ⟨w2.heap.size,t+i,none⟩=some (.int .u64 (R.getD (t+i) 0:Nat))∧R.getD (t+i) 0<1000000000):=fun i hi=>by
        have hRl:=(un HI).lenR;rw[getD_at R (t+i) (by omega)];exact⟨(un HS).rest.cell (t+i) (by omega),(un HI).limR _ (List.getElem_mem _)⟩
      have HSTEP:=zAb (fun (F:List Nat) (hF:F.length=r+1+1) (hlF:Cub.limbs 1000000000 F) (hv:Cub.lval 1000000000 F+Cub.lval 1000000000 Wl / Y*Y=Cub.lval 1000000000 Wl)=>(un HI).step (nc:=r+1) (F:=F) (q:=Cub.lval 1000000000 Wl / Y) (un HFACT).1 hYpos (by omega) (by omega) hF hlF (by rw[←hWl];exact hv) (by rw[←hWl]));obtain⟨q,hq⟩:∃q,q=Cub.lval 1000000000 Wl / Y:=⟨_,rfl⟩;rw[←hq]at HWIN HGB HSTEP;have HQ:=zAb hq;have c2:=un HR (r+1) (Nat.le_refl _);have c1:=un HR r (by omega);have c0:=un HR (r - 1) (by omega);have k1:=un HCB wr (un HS).old r (by have:=(un HLY).1;omega);have k0:=un HCB wr (un HS).old (r - 1) (by have:=(un HLY).1;omega);rw[←getD_at]at k1 k0;have HG:=zAb (guess_any w2.heap.size t (r+1) (nd+r+1 - t) (some ⟨gb,ob,none⟩) bc (R.getD (t+(r - 1)) 0) (R.getD (t+r) 0) (R.getD (t+(r+1)) 0) (ly.getD r 0) (ly.getD (r - 1) 0) gb ob wr (by omega) (by omega) (by omega) rfl c2.1 (by rw[show r+1 - 1=r by omega];exact c1.1) (by rw[show r+1 - 2=r - 1 by omega];exact c0.1) (by rw[show r+1 - 1=r by omega];exact k1) (by rw[show r+1 - 2=r - 1 by omega];exact k0) c0.2 c1.2 c2.2 hly1 hly2 hypos);clear c2 c1 c0 k1 k0 HR hWl hq;rw[show(((t+1:Nat):Int) - 1)=(t:Int)from by omega];have i1:(t:Int)≤(t:Int)+((r:Int)+1)+1:=by omega
      have i2:(t:Int)+((r:Int)+1)+1≤(nd:Int)+(r:Int)+1:=by omega
      have i3:(t:Int)≤(nd:Int)+(r:Int)+1:=by omega
      have i4:¬nd+r+1=t:=by omega
      have eW:t+(r+1)+1 - t=r+1+1:=by omega
      have HEW:=zAb eW;clear eW
      have HQB:Hid (q*Y≤Cub.lval 1000000000 Wl∧Cub.lval 1000000000 Wl<q*Y+Y):=by
        rw[un HQ];refine⟨Nat.div_mul_le_self _ _,?_⟩;have h1:=Nat.div_add_mod (Cub.lval 1000000000 Wl) Y;have h2:=Nat.mod_lt (Cub.lval 1000000000 Wl) hYpos;rw[Nat.mul_comm]at h1
        omega
      go_wp2_with (go_at_call 258;go_must(rw[un HEW];refine(un HG).mono ?_;rintro e w8 ⟨d0,rfl,hd0,hfew,hb8⟩;have HD0:Hid (q≤d0):=hfew q (un HWIN).2.1 (un HGB).1 (un HGB).2;have HS8:=zAb ((un HS).later hb8);clear hfew hb8))
      clear HS HG HGB
      go_loopw [12] (fun a wv=>∃(d:Nat) (P:List Nat),a=.int .u64 (d:Int)∧d<1000000000∧Hid (q≤d)∧Hid (P.length=r+1+1)∧Hid (zEf w2 wv w5.heap.size w6.heap.size R D P)) (fun a _=>(intOf a).toNat)
      case atStart=>exact⟨d0,N,rfl,hd0,HD0,HN,HS8⟩
      case round=>
        clear HS8 HN HD0 hd0;obtain⟨d,P,rfl,hd,HQD,HP,HS⟩:=hrel;have hlw:=(un HWL).1;have hlRR:=(un HI).lenR;have hlDD:=(un HI).lenD;have HLRD:=zAb (And.intro hlw (And.intro hlRR hlDD));clear hlw hlRR hlDD;have HTA:=zAb (fun (W:World) (hO:Own W w6.heap.size Wl) (hold:Below w2.heap.size w2 W)=>takeAway_any w6.heap.size (r+1+1) (r+1+1) Wl ly (some ⟨gb,ob,none⟩) (r+1) bc d W hO (un HLRD).1.symm (by omega) (un HWL).2 (un HLY).1.symm (by omega) (un HLY).2.1 (Nat.le_refl _) hd (fun W' hW' i hi=>⟨gb,ob,rfl,un HCB W' (hold.trans (hW'.mono (by omega))) i hi⟩))
        have HN1:Hid ((zCx Wl).length=Nat.min (nd+r+1 - t) (r+1+1)):=by
          rw[u64s_length,(un HLRD).1];exact(Nat.min_eq_right (by omega)).symm
        have HN2:Hid (0+(zCx Wl).length≤(zCx P).length):=by
          rw[u64s_length,u64s_length,un HP,(un HLRD).1];exact(by omega:0+(r+1+1)≤r+1+1)
        have HSW:=zAb (splice_win P Wl (by rw[un HP,(un HLRD).1]))
        by_cases hfit:d*Y≤Cub.lval 1000000000 Wl
        · have hdq:d=q:=by
            have h1:=(un HQB).2;have h2:=un HQD
            apply Decidable.byContradiction
            intro hne;have h3:(q+1)*Y≤d*Y:=Nat.mul_le_mul_right _ (by omega);rw[Nat.add_mul,Nat.one_mul]at h3
            omega
          have HDQ:=zAb hdq;have HFIT:=zAb hfit;clear hdq hfit HQD
          go_upto_region 14 with (first
            | ((refine wpList_copy_splice rfl (.tmp 68) (.tmp 71) 78 78 rfl 168 Tryz.underlying78 Tryz.size168 (some ⟨w6.heap.size,0,none⟩) (some ⟨w2.heap.size,t,none⟩) (r+1+1) (r+1+1) (nd+r+1 - t) (nd+r+1 - t) rfl rfl w6.heap.size 0 (zCx P) 168 (un HS).win (zCx Wl) (un HN1) (fun _=>⟨rfl,⟨_,rfl,un HWC _ (un HS).rest⟩⟩) (un HN2) (zGd Wl) w6.heap.size wr (Below.refl _ _) (Nat.le_refl _) ?_;intro w9 hO9 hb9;rw[un HSW]at hO9;have HS9:=zAb ((un HS).window (Nat.lt_trans g1 g2) g2 hb9 (un hO9));clear hO9 hb9))
            | (go_at_call 259;go_must(refine(un HTA _ (un HS9).win (un HS9).old).mono ?_;rintro e w10 ⟨mi,F,rfl,hO10,hF10,hlF10,hv10,hmi10,hb10⟩;rw[(un HLY).2.2]at hv10;have hmi:mi=0:=(take_zero hlF10 hF10 hv10).2 (un HFIT);subst hmi;have HS10:=zAb ((un HS9).window (Nat.lt_trans g1 g2) g2 hb10 hO10);have HF10:=zAb (And.intro hF10 (And.intro hlF10 hv10));clear hO10 hF10 hlF10 hv10 hb10 hmi10)))
          have HI':Hid (Cub.LongInv M Y (nd+r+1) nd (R.take t ++ (F ++ R.drop (t+F.length))) (D.set t d) t):=by
            rw[(un HF10).1,un HDQ];refine un HSTEP F (un HF10).1 (un HF10).2.1 ?_;have h1:=(un HF10).2.2;rw[un HDQ,Nat.mul_zero,Nat.add_zero]at h1;exact h1
          have HN3:Hid ((zCx F).length=Nat.min (r+1+1) (nd+r+1 - t)):=by
            rw[u64s_length,(un HF10).1];exact(Nat.min_eq_left (by omega)).symm
          have HN4:Hid (t+(zCx F).length≤(zCx R).length):=by
            rw[u64s_length,u64s_length,(un HF10).1,(un HLRD).2.1];exact(by omega:t+(r+1+1)≤nd+r+1)
          go_upto_region 15 with ((refine wpList_copy_far rfl (.tmp 80) (.tmp 81) 78 78 rfl 168 Tryz.underlying78 Tryz.size168 (some ⟨w2.heap.size,t,none⟩) (some ⟨w6.heap.size,0,none⟩) (nd+r+1 - t) (nd+r+1 - t) (r+1+1) (r+1+1) rfl rfl w2.heap.size t (zCx R) 168 (un HS10).rest (zCx F) (un HN3) (fun _=>⟨rfl,⟨_,rfl,(un HS10).win.src⟩⟩) (un HN4) (zGd F) ?_;intro w11 hO11 hfar;rw[splice_at]at hO11;have HS11:=zAb ((un HS10).fill (Nat.ne_of_lt (Nat.lt_trans g1 g2)) (Nat.ne_of_gt g1) (un hfar) (un hO11));clear hO11 hfar))
          have hcd:=(un HS11).digs.cell t (by rw[(un HLRD).2.2];omega);have hfd:=(un HS11).digs.frozen t;have htn:(t:Int)<(nd:Int):=by omega
          have HS12:=zAb ((un HS11).digit g1 (Nat.ne_of_lt g2) t d (d:Int) rfl);generalize D[t]'(by rw[(un HLRD).2.2];omega)=dt at *
          go_wp2
          go_roundw
          case rel=>exact⟨t,R.take t ++ (F ++ R.drop (t+F.length)),D.set t d,F,by omega,by go_num,HI',(un HF10).1,HS12⟩
          case measure=>simp[intOf]
        · have hd1:1≤d:=by
            rcases Nat.eq_zero_or_pos d with e|e
            · subst e;omega
            · exact e
          have HQD':Hid (q≤d - 1):=by
            have h1:=(un HQB).1;have h2:=un HQD;have h3:q≠d:=by intro e;subst e;exact hfit h1
            exact(by omega:q≤d - 1)
          have HFIT:=zAb hfit;clear hfit HQD
          go_wp2_with (first
            | ((refine wpList_copy_splice rfl (.tmp 68) (.tmp 71) 78 78 rfl 168 Tryz.underlying78 Tryz.size168 (some ⟨w6.heap.size,0,none⟩) (some ⟨w2.heap.size,t,none⟩) (r+1+1) (r+1+1) (nd+r+1 - t) (nd+r+1 - t) rfl rfl w6.heap.size 0 (zCx P) 168 (un HS).win (zCx Wl) (un HN1) (fun _=>⟨rfl,⟨_,rfl,un HWC _ (un HS).rest⟩⟩) (un HN2) (zGd Wl) w6.heap.size wr (Below.refl _ _) (Nat.le_refl _) ?_;intro w9 hO9 hb9;rw[un HSW]at hO9;have HS9:=zAb ((un HS).window (Nat.lt_trans g1 g2) g2 hb9 (un hO9));clear hO9 hb9))
            | (go_at_call 259;go_must(refine(un HTA _ (un HS9).win (un HS9).old).mono ?_;rintro e w10 ⟨mi,F,rfl,hO10,hF10,hlF10,hv10,hmi10,hb10⟩;rw[(un HLY).2.2]at hv10;have hmi:((mi:Int) == 0)=false:=(by rw[beq_eq_false_iff_ne];intro e;exact un HFIT ((take_zero hlF10 hF10 hv10).1 (by omega)));have HS10:=zAb ((un HS9).window (Nat.lt_trans g1 g2) g2 hb10 hO10);have HF10:=zAb hF10;clear hO10 hF10 hlF10 hv10 hb10 hmi10)))
          go_roundw
          case rel=>exact⟨d - 1,F,by go_num,by omega,HQD',HF10,HS10⟩
          case measure=>simp[intOf];omega
theorem divAns (k:Nat) (hk:k≤100000):DivAns k:=fun W x y m n hx hy hm hn=>
 divMod_core x y m n k W hx hy (by omega) hm hn (fun h1 h2=>long_any m n k (by omega) hm h1 h2)
theorem divOK (k:Nat) (hk:k≤100000):DivOK k:=divAns k hk
theorem gcdAns (k:Nat) (hk:k≤100000):GcdAns k:=fun W x y m n hx hy hm hn=>gcd_any x y m n k W hx hy hk hm hn (divOK k hk)
def QOf (w:World) (v:Value) (x:Rat) (k:Nat):Prop:=∃b n d,zCd w v b n d∧Cub.Low b n d∧Cub.valQ b n d=x∧n<1000000000 ^ k∧d<1000000000 ^ k
theorem QOf.later {w w':World} {v:Value} {x:Rat} {k:Nat} (h:QOf w v x k) (hb:Below w.heap.size w w'):QOf w' v x k:=by
 obtain⟨b,n,d,h1,h2⟩:=h;exact⟨b,n,d,h1.later hb,h2⟩
theorem QOf.mono {w:World} {v:Value} {x:Rat} {k j:Nat} (h:QOf w v x k) (hk:k≤j):QOf w v x j:=by
 obtain⟨b,n,d,h1,h2,h3,h4,h5⟩:=h;have:(1000000000:Nat) ^ k≤1000000000 ^ j:=Nat.pow_le_pow_right (by decide) hk;exact⟨b,n,d,h1,h2,h3,by omega,by omega⟩
theorem QOf.form {w:World} {v:Value} {x:Rat} {k:Nat} (h:QOf w v x k):∃b a1 l1 c1 a2 l2 c2,v=.agg #[.bool b,.slice a1 l1 c1,.slice a2 l2 c2]:=by
 obtain⟨b,n,d,h1,_⟩:=h;obtain⟨a1,l1,c1,a2,l2,c2,rfl,_,_⟩:=h1.form;exact⟨b,a1,l1,c1,a2,l2,c2,rfl⟩
theorem qsign (x:Value) (p:Rat) (k:Nat) (w:World) (hx:QOf w x p k) :
  Calls Tryz.prog 68 #[x] w fun r w'=>r=.returned (I (Cub.cmpQ p 0))∧Bw w w':=by
 obtain⟨b,n,d,h1,h2,rfl,h4,h5⟩:=hx;rw[←signI_val h2];exact sign_any x b n d w h1
theorem qinv (x:Value) (p:Rat) (k:Nat) (w:World) (hx:QOf w x p k) (hp:p≠0) :
  Calls Tryz.prog 155 #[x] w fun r w'=>∃v,r=.returned v∧QOf w' v p⁻¹ k∧Bw w w':=by
 obtain⟨b,n,d,h1,h2,rfl,h4,h5⟩:=hx;have hn:n≠0:=by intro h;subst h;exact hp (Cub.valQ_zero _ _)
 refine(inv_any x b n d w h1).mono ?_;rintro r w' ⟨v,rfl,j1,hb⟩;exact⟨v,rfl,⟨_,_,_,j1,(Cub.inv_low h2 hn).1,(Cub.inv_low h2 hn).2,h5,h4⟩,hb⟩
theorem qtimes (B:Nat) (b c:Bool) (a1 a2 a3 a4:Option Addr) (l1 d1 l2 d2 l3 d3 l4 d4:Nat) (p q:Rat) (k:Nat) (w:World)
  (c0:w.cell? ⟨B,0,none⟩=some (.bool b)) (c1:w.cell? ⟨B,1,none⟩=some (.slice a1 l1 d1)) (c2:w.cell? ⟨B,2,none⟩=some (.slice a2 l2 d2)) (c3:w.cell? ⟨B,3,none⟩=some (.bool c)) (c4:w.cell? ⟨B,4,none⟩=some (.slice a3 l3 d3)) (c5:w.cell? ⟨B,5,none⟩=some (.slice a4 l4 d4))
  (hx:QOf w (.agg #[.bool b,.slice a1 l1 d1,.slice a2 l2 d2]) p k) (hy:QOf w (.agg #[.bool c,.slice a3 l3 d3,.slice a4 l4 d4]) q k) (hk:k+k≤100000) :
  Calls Tryz.prog 147 #[.slice (some ⟨B,0,none⟩) 2 2] w fun r w'=>∃v,r=.returned v∧QOf w' v (p*q) (k+k)∧Bw w w':=by
 obtain⟨b',n,d,⟨s,t,e1,h1,h1'⟩,h2,rfl,h4,h5⟩:=hx;obtain⟨c',m,e,⟨s',t',e2,i1,i1'⟩,i2,rfl,i4,i5⟩:=hy;simp only[Value.agg.injEq,Array.mk.injEq,List.cons.injEq,Value.bool.injEq,and_true]at e1 e2;obtain⟨rfl,rfl,rfl⟩:=e1;obtain⟨rfl,rfl,rfl⟩:=e2;refine(times_any B b c a1 a2 a3 a4 l1 d1 l2 d2 l3 d3 l4 d4 n d m e k w c0 c1 c2 c3 c4 c5 h1 h1' i1 i1' hk h4 h5 i4 i5 h2.pos i2.pos (divAns k (by omega)) (gcdAns k (by omega))).mono ?_;rintro r w' ⟨v,rfl,j1,hb⟩;obtain⟨o1,o2⟩:=Cub.mul_low h2 i2
 have eb:(b != c && decide (n / n.gcd e*(m / m.gcd d)≠0))=(!(b == c) && !(n / n.gcd e*(m / m.gcd d) == 0)):=by
  rw[show(b != c)=!(b == c)from rfl]
  by_cases h0:n / n.gcd e*(m / m.gcd d)=0
  ·simp[h0]
  ·rw[show(n / n.gcd e*(m / m.gcd d) == 0)=false from by rw[beq_eq_false_iff_ne];exact h0];simp[h0]
 rw[eb]at o1 o2;have z1:=Nat.div_le_self n (n.gcd e);have z2:=Nat.div_le_self m (m.gcd d);have z3:=Nat.div_le_self d (m.gcd d);have z4:=Nat.div_le_self e (n.gcd e);exact⟨v,rfl,⟨_,_,_,j1,o1,o2,by rw[Nat.pow_add];exact Nat.mul_lt_mul'' (by omega) (by omega),by rw[Nat.pow_add];exact Nat.mul_lt_mul'' (by omega) (by omega)⟩,hb⟩
theorem QOf.stored {W:World} {g:Nat} {b b':Bool} {a1 a2:Option Addr} {l1 c1 l2 c2:Nat} (h:FBox W g (.bool b) (.slice a1 l1 c1) (.slice a2 l2 c2)) {a3 a4:Option Addr} {l3 c3 l4 c4:Nat} {x:Rat} {k:Nat}
  (hv:QOf W (.agg #[.bool b',.slice a3 l3 c3,.slice a4 l4 c4]) x k):QOf (zAs W g (.bool b') (.slice a3 l3 c3) (.slice a4 l4 c4)) (.agg #[.bool b',.slice a3 l3 c3,.slice a4 l4 c4]) x k:=by
 obtain⟨b0,n,d,⟨s,t,e,h1,h1'⟩,h2⟩:=hv;exact⟨b0,n,d,⟨s,t,e,h.big _ _ _ h1,h.big _ _ _ h1'⟩,h2⟩
def zJd (s:ByteArray):Bool:=s.data.toList.head? == some 45
def digT (s:ByteArray):ByteArray:=if zJd s then⟨s.data.toList.tail.toArray⟩else s
def sT (b:Bool) (n:Nat):ByteArray:=if b then⟨#[45]⟩ ++ tb n else tb n
theorem hasPre (l:List UInt8):Lib.hasPrefix l [45]=(l.head? == some 45):=by
 cases l with
 | nil=>rfl
 | cons a t=>
  simp[Lib.hasPrefix,List.isPrefixOf];rw[Bool.eq_iff_iff];simp;exact eq_comm
theorem trimPre (l:List UInt8):Lib.trimPrefix l [45]=if (l.head? == some 45)=true then l.tail else l:=by
 unfold Lib.trimPrefix;rw[hasPre]
 split<;>cases l<;>simp_all
theorem digT_list (s:ByteArray):(digT s).data.toList=if zJd s=true then s.data.toList.tail else s.data.toList:=by
 unfold digT;split<;>rfl
theorem zGb {s t:ByteArray} (h:s.data.toList=t.data.toList):s=t:=by
 apply ByteArray.ext;exact Array.ext' h
theorem cut_digT (s:ByteArray):(⟨(Lib.trimPrefix s.data.toList [45]).toArray⟩:ByteArray)=digT s:=by
 apply zGb
 rw[digT_list,mk_list,trimPre]
 rfl
theorem cutSign_any (s:ByteArray) (w:World) :
  Calls Tryz.prog 185 #[.string s] w fun e w'=>e=.returned (.tuple #[.bool (zJd s),.string (digT s)])∧w'=w:=by
 have H:=zAb (Tryz.strings_CutPrefix s ⟨#[45]⟩ w);have e1:Lib.hasPrefix s.data.toList (⟨#[45]⟩:ByteArray).data.toList=zJd s:=hasPre _;have e2:(⟨(Lib.trimPrefix s.data.toList (⟨#[45]⟩:ByteArray).data.toList).toArray⟩:ByteArray)=digT s:=cut_digT s;rw[e1,e2]at H;clear e1 e2;generalize zJd s=b at *
 generalize digT s=t at *
 go_enter Tryz.func185,Tryz.ntmps185
 go_wp2_with (go_at_call 237;go_must(refine(un H).mono ?_;rintro e w1 ⟨rfl,rfl⟩))
 exact bodyPost_ret (v:=.tuple #[.bool b,.string t]) (by simp[results,Tryz.results185,go_sem]) rfl ⟨rfl,rfl⟩
theorem signed_any (b:Bool) (s:ByteArray) (w:World) (hs:s.size≤1000000) :
  Calls Tryz.prog 120 #[.bool b,.string s] w fun e w'=>e=.returned (.string (if b then⟨#[45]⟩ ++ s else s))∧w'=w:=by
 cases b with
 | true=>
  have hl:(⟨#[45]⟩:ByteArray).size=1:=rfl;go_enter Tryz.func120,Tryz.ntmps120
  go_wp2
  go_ret
  exact⟨rfl,rfl⟩
 | false=>
  go_enter Tryz.func120,Tryz.ntmps120
  go_wp2
  go_ret
  exact⟨rfl,rfl⟩
theorem zFd (n:Nat) (h:n<10 ^ 600):Cub.digs (tb n).data.toList∧(tb n).size≤600:=right_digs (zEk n h).1
theorem neg_tb (n:Nat) (h:n<10 ^ 600):zJd (tb n)=false:=by
 have hd:=(zFd n h).1;unfold zJd
 cases e:(tb n).data.toList with
 | nil=>rfl
 | cons a t=>
  rw[e]at hd;have:=hd a (by simp);simp only[List.head?_cons];rw[show(some a == some (45:UInt8))=(a == 45)from rfl];rw[beq_eq_false_iff_ne];intro e45;subst e45
  revert this
  decide
theorem sT_list (b:Bool) (n:Nat):(sT b n).data.toList=if b=true then 45 :: (tb n).data.toList else(tb n).data.toList:=by
 cases b
 ·rfl
 ·simp[sT]
theorem neg_sT (b:Bool) (n:Nat) (h:n<10 ^ 600):zJd (sT b n)=b:=by
 cases b
 ·exact neg_tb n h
 ·unfold zJd;rw[sT_list];rfl
theorem dig_sT (b:Bool) (n:Nat) (h:n<10 ^ 600):digT (sT b n)=tb n:=by
 apply zGb
 rw[digT_list,neg_sT b n h,sT_list]
 cases b<;>rfl
theorem sT_size (b:Bool) (n:Nat) (h:n<10 ^ 600):(sT b n).size≤601:=by
 have h1:=(zFd n h).2;have h2:=zBq (sT b n);have h3:=zBq (tb n);rw[sT_list]at h2
 cases b
 ·simp at h2;omega
 ·simp at h2;omega
structure RT (num den:ByteArray) (b:Bool) (n d:Nat):Prop where
 num:num=sT b n
 den:den=tb d
 hn:n<10 ^ 600
 hd:d<10 ^ 600
 low:Cub.Low b n d
theorem tb_eq48 (n:Nat) (h:n<10 ^ 600):((tb n).toList == [48])=(n == 0):=by
 by_cases h0:n=0
 ·subst h0;rw[Lib.toList_data,zJb 0 h,dec_zero];rfl
 ·rw[beq_eq_false_iff_ne.2 h0,beq_eq_false_iff_ne]
  intro e;rw[Lib.toList_data]at e;have:val (tb n)=0:=zero_val e;rw[show val (tb n)=n from(zEk n h).2]at this;exact h0 this
structure T2 (W:World) (g:Nat) (x y:Value):Prop where
  c0:W.cell? ⟨g,0,none⟩=some x
  c1:W.cell? ⟨g,1,none⟩=some y
  f0:W.frozen? ⟨g,0,none⟩=false
  f1:W.frozen? ⟨g,1,none⟩=false
theorem T2.lt {W:World} {g:Nat} {x y:Value} (h:T2 W g x y):g<W.heap.size:=World.block_lt_of_cell? _ _ h.c0
theorem T2.later {W V:World} {g:Nat} {x y:Value} (h:T2 W g x y) (hb:Below W.heap.size W V):T2 V g x y :=
  ⟨(hb.cell (p:=⟨g,0,none⟩) h.lt).trans h.c0,(hb.cell (p:=⟨g,1,none⟩) h.lt).trans h.c1,(hb.frozen (p:=⟨g,0,none⟩) h.lt).trans h.f0,(hb.frozen (p:=⟨g,1,none⟩) h.lt).trans h.f1⟩
theorem T2.otherAt {W:World} {g k o:Nat} {x y:Value} (h:T2 W g x y) (hk:g≠k) (u:Value):T2 (W.setCell ⟨k,o,none⟩ u) g x y :=
  ⟨by rw[World.cell?_setCell_other _ _ _ _ (by intro e;exact hk (congrArg Addr.block e).symm)];exact h.c0,by rw[World.cell?_setCell_other _ _ _ _ (by intro e;exact hk (congrArg Addr.block e).symm)];exact h.c1,by rw[World.frozen?_setCell];exact h.f0,by rw[World.frozen?_setCell];exact h.f1⟩
structure RS (w W:World) (x y:Value):Prop where
  a:T2 W w.heap.size x y
  r:FBox W (w.heap.size+1) (.bool false) (.slice none 0 0) (.slice none 0 0)
  below:Below w.heap.size w W
theorem RS.later {w W V:World} {x y:Value} (s:RS w W x y) (hb:Below W.heap.size W V):RS w V x y:=⟨s.a.later hb,s.r.later hb,s.below.trans (hb.mono s.below.size)⟩
theorem RS.first (w:World) (x y:Value):RS w ((w.alloc (.cells #[x,y] 28)).alloc (.cells #[.bool false,.slice none 0 0,.slice none 0 0] 82)) x y :=
  ⟨⟨by simp[go_sem],by simp[go_sem],by simp[go_sem],by simp[go_sem]⟩,⟨by simp[go_sem],by simp[go_sem],by simp[go_sem],by simp[go_sem],by simp[go_sem],by simp[go_sem]⟩,bA.alloc (by simp) _⟩
theorem pow600:10 ^ 600≤1000000000 ^ 67:=pow_nine 600 67 (by decide)
theorem read_ok (num den:ByteArray) (b:Bool) (n d:Nat) (w:World) (hnum:num=sT b n) (hden:den=tb d) (hn:n<10 ^ 600) (hd:d<10 ^ 600) (hb0:b=true→n≠0) (hd0:d≠0) (hg:Nat.gcd n d=1) :
    Calls Tryz.prog 118 #[.agg #[.string num,.string den]] w fun r w'=>∃v,r=.returned (.tuple #[v,.bool true])∧QOf w' v (Cub.valQ b n d) 67∧Bw w w':=by
  obtain⟨V,hV⟩:∃V,V=(w.alloc (.cells #[.string num,.string den] 28)).alloc (.cells #[.bool false,.slice none 0 0,.slice none 0 0] 82):=⟨_,rfl⟩;have HS:Hid (RS w V (.string num) (.string den)):=by rw[hV];exact RS.first _ _ _
  have HV:=zAb hV
  have HC68:Hid (Calls Tryz.prog 185 #[.string num] V fun e w'=>e=.returned (.tuple #[.bool b,.string (tb n)])∧w'=V):=by
    have:=cutSign_any num V;rw[hnum,neg_sT b n hn,dig_sT b n hn]at this;rw[hnum];exact this
  have HR1:Hid (Calls Tryz.prog 186 #[.string (tb n)] V fun e w'=>e=.returned (.bool true)∧w'=V):=by
    have:=zHy (tb n) V (tb_size n hn)
    rwa [(zEk n hn).1]at this
  have HR2:Hid (Calls Tryz.prog 186 #[.string den] V fun e w'=>e=.returned (.bool true)∧w'=V):=by
    have:=zHy (tb d) V (tb_size d hd);rw[(zEk d hd).1]at this;rw[hden];exact this
  have z1:b=true→((tb n).toList == [48])=false:=fun h=>by rw[tb_eq48 n hn,beq_eq_false_iff_ne];exact hb0 h
  have z2:(den.toList == [48])=false:=by rw[hden,tb_eq48 d hd,beq_eq_false_iff_ne];exact hd0
  have HB1:Hid (∀W,Calls Tryz.prog 187 #[.string (tb n)] W fun e w'=>∃v,e=.returned v∧zAf w' v n∧Bw W w'):=fun W=>by
    have:=bigText_any (tb n) W (by have:=(zFd n hn).2;omega) (zFd n hn).1
    rwa [(zEk n hn).2]at this
  have HB2:Hid (∀W,Calls Tryz.prog 187 #[.string den] W fun e w'=>∃v,e=.returned v∧zAf w' v d∧Bw W w'):=fun W=>by
    have:=bigText_any (tb d) W (by have:=(zFd d hd).2;omega) (zFd d hd).1;rw[(zEk d hd).2]at this;rw[hden];exact this
  have p6:=pow600;have HLT:Hid (n<1000000000 ^ 67∧d<1000000000 ^ 67):=⟨Nat.lt_of_lt_of_le hn p6,Nat.lt_of_lt_of_le hd p6⟩;have HG:Hid (∀W x y,zAf W x n→zAf W y d→Calls Tryz.prog 148 #[x,y] W fun e w'=>∃a l c,e=.returned (.agg #[.slice a l c])∧zAf w' (.agg #[.slice a l c]) (Nat.gcd n d)∧Bw W w'):=fun W x y h1 h2=>gcdAns 67 (by decide) W x y n d h1 h2 (un HLT).1 (un HLT).2
  have HLOW:Hid (Cub.Low b n d):=⟨by omega,hg,hb0⟩;rw[hg]at HG;have H1:Hid (∀W x,zAf W x 1→Calls Tryz.prog 188 #[x] W fun e w'=>e=.returned (.bool true)∧Bw W w'):=fun W x h=>zCu x 1 W h
  clear p6 hn hd hb0 hd0 hg hnum hden;generalize tb n=ds at *
  go_enter Tryz.func118,Tryz.ntmps118
  go_upto_region 1 with fail
  rw[←un HV];clear hV HV;have t0:=(un HS).a.c0;have t1:=(un HS).a.c1;have HGOAL:True:=trivial
  cases b with
  | true =>
    have z3:=z1 rfl
    go_upto_region 4 with (first
      | (go_at_call 185;go_must(refine(un HC68).mono ?_;rintro e w1 ⟨rfl,hw1⟩;obtain rfl:V=w1:=hw1.symm))
      | (go_at_call_of 186 (Value.string ds);go_must(refine(un HR1).mono ?_;rintro e w1 ⟨rfl,hw1⟩;obtain rfl:V=w1:=hw1.symm))
      | (go_at_call 186;go_must(refine(un HR2).mono ?_;rintro e w1 ⟨rfl,hw1⟩;obtain rfl:V=w1:=hw1.symm)))
    have HC:Hid (∀U,Below V.heap.size V U→U.cell? ⟨w.heap.size,1,none⟩=some (.string den)∧w.heap.size<U.heap.size∧w.heap.size+1<U.heap.size):=fun U hb=>by
      have s:=(un HS).later hb;exact⟨s.a.c1,s.a.lt,s.r.lt⟩
    have zv:=(un HC V (Below.refl _ _)).2;clear t0
    go_region_held3 (fun w'=>w'.cell? ⟨w.heap.size,1,none⟩=some (.string den)) (first|assumption|(simp[go_sem, *];done)|(rw[World.cell?_setCell_other _ _ _ _ (by simp;omega),World.cell?_setCell_other _ _ _ _ (by simp;omega),World.cell?_setCell_other _ _ _ _ (by simp;omega)];assumption)) ((first
      | (go_at_call_of 187 (Value.string ds);go_must(refine(un HB1 _).mono ?_;rintro e wa ⟨va,rfl,hva,hba⟩;obtain⟨aa,la,ca,rfl⟩:=hva.shape;have HVA:=zAb hva;have HCA:Hid (Bw V wa):=(by first|exact((Below.refl V.heap.size V).drew).trans hba|exact(((Below.refl V.heap.size V).drew).alloc (by simp) _).trans (hba.mono (by simp)));(first|(have HN:Hid (FBox wa V.heap.size (.bool false) (.slice none 0 0) (.slice none 0 0)):=(FBox.new V.drew _ _ _).later hba;have nc0:=(un HN).c0;have nc1:=(un HN).c1;have nc2:=(un HN).c2;have nf0:=(un HN).f0;have nf1:=(un HN).f1;have nf2:=(un HN).f2)|skip);clear hva hba t1;obtain⟨t1,za⟩:=un HC wa (un HCA)))
      | (go_at_call 187;go_must(refine(un HB2 _).mono ?_;rintro e wb ⟨vb,rfl,hvb,hbb⟩;obtain⟨ab,lb,cb,rfl⟩:=hvb.shape;have HVB:=zAb hvb;have Htrue:Hid (Bw wa wb):=(by first|exact hbb|exact bA.trans (hbb.mono (by simp)));have HVA':=zAb ((un HVA).later (un Htrue));have HCB:=zAb ((un HCA).trans ((un Htrue).mono (un HCA).size));(first|(have HN2:=zAb ((un HN).later hbb);clear HN;have HN:=HN2;clear HN2;clear nc0 nc1 nc2 nf0 nf1 nf2;have nc0:=(un HN).c0;have nc1:=(un HN).c1;have nc2:=(un HN).c2;have nf0:=(un HN).f0;have nf1:=(un HN).f1;have nf2:=(un HN).f2)|(have HN:=zAb ((FBox.new _ _ _ _).later hbb);have nc0:=(un HN).c0;have nc1:=(un HN).c1;have nc2:=(un HN).c2;have nf0:=(un HN).f0;have nf1:=(un HN).f1;have nf2:=(un HN).f2)|skip);clear hvb hbb t1;obtain⟨t1,zb⟩:=un HC wb (un HCB)))))
    all_goals
      first
      | (obtain⟨V4,hV4⟩:∃V4,V4=wb.alloc (.cells #[.bool true,.slice aa la ca,.slice ab lb cb] 82):=⟨_,rfl⟩
         rw[←hV4];have hb:Below wb.heap.size wb V4:=by rw[hV4];exact bA
         have HS4:Hid (RS w V4 (.string num) (.string den)):=((un HS).later (un HCB)).later hb;have HF4:Hid (FBox V4 wb.heap.size (.bool true) (.slice aa la ca) (.slice ab lb cb)):=by rw[hV4];exact FBox.new _ _ _ _
         have HN4:=zAb ((un HVA').later hb);have HD4:=zAb ((un HVB).later hb);have hgr:w.heap.size+1<wb.heap.size:=zb.2;clear hV4 hb zv za zb t1 HVA HVA' HVB HCA HCB Htrue HS HC;generalize wb.heap.size=g6 at *)
      | (obtain⟨V4,hV4⟩:∃V4,V4=((wb.setCell ⟨V.heap.size,0,none⟩ (.bool true)).setCell ⟨V.heap.size,1,none⟩ (.slice aa la ca)).setCell ⟨V.heap.size,2,none⟩ (.slice ab lb cb):=⟨_,rfl⟩
         rw[←hV4];have hgr:w.heap.size+1<V.heap.size:=zv.2;have HF4:Hid (FBox V4 V.heap.size (.bool true) (.slice aa la ca) (.slice ab lb cb)):=by rw[hV4];exact(un HN).store _ _ _
         have HN4:Hid (zAf V4 (.agg #[.slice aa la ca]) n):=by rw[hV4];exact(un HN).big _ _ _ (un HVA')
         have HD4:Hid (zAf V4 (.agg #[.slice ab lb cb]) d):=by rw[hV4];exact(un HN).big _ _ _ (un HVB)
         have HS4:Hid (RS w V4 (.string num) (.string den)):=by
           rw[hV4];have s:=(un HS).later (un HCB);exact⟨((s.a.otherAt (by omega) _).otherAt (by omega) _).otherAt (by omega) _,((s.r.otherAt (by omega) _).otherAt (by omega) _).otherAt (by omega) _,zAq s.below (by omega) _ _ _⟩
         clear hV4 zv za zb t1 HVA HVA' HVB HCA HCB Htrue HS HC HN nc0 nc1 nc2 nf0 nf1 nf2;generalize V.heap.size=g6 at *)
      | (obtain⟨V4,hV4⟩:∃V4,V4=((wb.setCell ⟨wa.heap.size,0,none⟩ (.bool true)).setCell ⟨wa.heap.size,1,none⟩ (.slice aa la ca)).setCell ⟨wa.heap.size,2,none⟩ (.slice ab lb cb):=⟨_,rfl⟩
         rw[←hV4];have hgr:w.heap.size+1<wa.heap.size:=za.2;have HF4:Hid (FBox V4 wa.heap.size (.bool true) (.slice aa la ca) (.slice ab lb cb)):=by rw[hV4];exact(un HN).store _ _ _
         have HN4:Hid (zAf V4 (.agg #[.slice aa la ca]) n):=by rw[hV4];exact(un HN).big _ _ _ (un HVA')
         have HD4:Hid (zAf V4 (.agg #[.slice ab lb cb]) d):=by rw[hV4];exact(un HN).big _ _ _ (un HVB)
         have HS4:Hid (RS w V4 (.string num) (.string den)):=by
           rw[hV4];have s:=(un HS).later (un HCB);exact⟨((s.a.otherAt (by omega) _).otherAt (by omega) _).otherAt (by omega) _,((s.r.otherAt (by omega) _).otherAt (by omega) _).otherAt (by omega) _,zAq s.below (by omega) _ _ _⟩
         clear hV4 zv za zb t1 HVA HVA' HVB HCA HCB Htrue HS HC HN nc0 nc1 nc2 nf0 nf1 nf2;generalize wa.heap.size=g6 at *)
      have t0:=(un HF4).c0;have t1:=(un HF4).c1;have t2:=(un HF4).c2
      go_wp2_with (first
        | (go_at_call 148;go_must(refine(un HG _ _ _ (un HN4) (un HD4)).mono ?_;rintro e w5 ⟨ag,lg,cg,rfl,hv5,hb5⟩;have HG5:=zAb hv5;have HB5:=zAb hb5;clear hv5 hb5))
        | (go_at_call 188;go_must(refine(un H1 _ _ (un HG5)).mono ?_;rintro e w6 ⟨rfl,hb6⟩;have HB6:=zAb (bt HB5 hb6);clear hb6 t0 t1 t2;have HS6:=zAb ((un HS4).later (un HB6));have HF6:=zAb ((un HF4).later (un HB6));have t0:=(un HF6).c0;have t1:=(un HF6).c1;have t2:=(un HF6).c2;have r0:=(un HS6).r.c0;have r1:=(un HS6).r.c1;have r2:=(un HS6).r.c2;have rf0:=(un HS6).r.f0;have rf1:=(un HS6).r.f1;have rf2:=(un HS6).r.f2)))
      have hS:=(un HS6).r.store (.bool true) (.slice aa la ca) (.slice ab lb cb);have hb:Below w.heap.size w (zAs w6 (w.heap.size+1) (.bool true) (.slice aa la ca) (.slice ab lb cb)):=zAq (un HS6).below (by omega) _ _ _;have u0:=hS.c0;have u1:=hS.c1;have u2:=hS.c2;exact bodyPost_ret (v:=.tuple #[.agg #[.bool true,.slice aa la ca,.slice ab lb cb],.bool true]) (w:=zAs w6 (w.heap.size+1) (.bool true) (.slice aa la ca) (.slice ab lb cb)) (by simp[results,Tryz.results118,go_sem,u0,u1,u2]) rfl ⟨_,rfl,⟨_,n,d,⟨_,_,rfl,(un HS6).r.big _ _ _ ((un HN4).later (un HB6)),(un HS6).r.big _ _ _ ((un HD4).later (un HB6))⟩,un HLOW,rfl,(un HLT).1,(un HLT).2⟩,hb⟩
  | false=>
    clear z1
    go_upto_region 4 with (first
      | (go_at_call 185;go_must(refine(un HC68).mono ?_;rintro e w1 ⟨rfl,hw1⟩;obtain rfl:V=w1:=hw1.symm))
      | (go_at_call_of 186 (Value.string ds);go_must(refine(un HR1).mono ?_;rintro e w1 ⟨rfl,hw1⟩;obtain rfl:V=w1:=hw1.symm))
      | (go_at_call 186;go_must(refine(un HR2).mono ?_;rintro e w1 ⟨rfl,hw1⟩;obtain rfl:V=w1:=hw1.symm)))
    have HC:Hid (∀U,Below V.heap.size V U→U.cell? ⟨w.heap.size,1,none⟩=some (.string den)∧w.heap.size<U.heap.size∧w.heap.size+1<U.heap.size):=fun U hb=>by
      have s:=(un HS).later hb;exact⟨s.a.c1,s.a.lt,s.r.lt⟩
    have zv:=(un HC V (Below.refl _ _)).2;clear t0
    go_region_held3 (fun w'=>w'.cell? ⟨w.heap.size,1,none⟩=some (.string den)) (first|assumption|(simp[go_sem, *];done)|(rw[World.cell?_setCell_other _ _ _ _ (by simp;omega),World.cell?_setCell_other _ _ _ _ (by simp;omega),World.cell?_setCell_other _ _ _ _ (by simp;omega)];assumption)) ((first
      | (go_at_call_of 187 (Value.string ds);go_must(refine(un HB1 _).mono ?_;rintro e wa ⟨va,rfl,hva,hba⟩;obtain⟨aa,la,ca,rfl⟩:=hva.shape;have HVA:=zAb hva;have HCA:Hid (Bw V wa):=(by first|exact((Below.refl V.heap.size V).drew).trans hba|exact(((Below.refl V.heap.size V).drew).alloc (by simp) _).trans (hba.mono (by simp)));(first|(have HN:Hid (FBox wa V.heap.size (.bool false) (.slice none 0 0) (.slice none 0 0)):=(FBox.new V.drew _ _ _).later hba;have nc0:=(un HN).c0;have nc1:=(un HN).c1;have nc2:=(un HN).c2;have nf0:=(un HN).f0;have nf1:=(un HN).f1;have nf2:=(un HN).f2)|skip);clear hva hba t1;obtain⟨t1,za⟩:=un HC wa (un HCA)))
      | (go_at_call 187;go_must(refine(un HB2 _).mono ?_;rintro e wb ⟨vb,rfl,hvb,hbb⟩;obtain⟨ab,lb,cb,rfl⟩:=hvb.shape;have HVB:=zAb hvb;have Hfalse:Hid (Bw wa wb):=(by first|exact hbb|exact bA.trans (hbb.mono (by simp)));have HVA':=zAb ((un HVA).later (un Hfalse));have HCB:=zAb ((un HCA).trans ((un Hfalse).mono (un HCA).size));(first|(have HN2:=zAb ((un HN).later hbb);clear HN;have HN:=HN2;clear HN2;clear nc0 nc1 nc2 nf0 nf1 nf2;have nc0:=(un HN).c0;have nc1:=(un HN).c1;have nc2:=(un HN).c2;have nf0:=(un HN).f0;have nf1:=(un HN).f1;have nf2:=(un HN).f2)|(have HN:=zAb ((FBox.new _ _ _ _).later hbb);have nc0:=(un HN).c0;have nc1:=(un HN).c1;have nc2:=(un HN).c2;have nf0:=(un HN).f0;have nf1:=(un HN).f1;have nf2:=(un HN).f2)|skip);clear hvb hbb t1;obtain⟨t1,zb⟩:=un HC wb (un HCB)))))
    all_goals
      first
      | (obtain⟨V4,hV4⟩:∃V4,V4=wb.alloc (.cells #[.bool false,.slice aa la ca,.slice ab lb cb] 82):=⟨_,rfl⟩
         rw[←hV4];have hb:Below wb.heap.size wb V4:=by rw[hV4];exact bA
         have HS4:Hid (RS w V4 (.string num) (.string den)):=((un HS).later (un HCB)).later hb;have HF4:Hid (FBox V4 wb.heap.size (.bool false) (.slice aa la ca) (.slice ab lb cb)):=by rw[hV4];exact FBox.new _ _ _ _
         have HN4:=zAb ((un HVA').later hb);have HD4:=zAb ((un HVB).later hb);have hgr:w.heap.size+1<wb.heap.size:=zb.2;clear hV4 hb zv za zb t1 HVA HVA' HVB HCA HCB Hfalse HS HC;generalize wb.heap.size=g6 at *)
      | (obtain⟨V4,hV4⟩:∃V4,V4=((wb.setCell ⟨V.heap.size,0,none⟩ (.bool false)).setCell ⟨V.heap.size,1,none⟩ (.slice aa la ca)).setCell ⟨V.heap.size,2,none⟩ (.slice ab lb cb):=⟨_,rfl⟩
         rw[←hV4];have hgr:w.heap.size+1<V.heap.size:=zv.2;have HF4:Hid (FBox V4 V.heap.size (.bool false) (.slice aa la ca) (.slice ab lb cb)):=by rw[hV4];exact(un HN).store _ _ _
         have HN4:Hid (zAf V4 (.agg #[.slice aa la ca]) n):=by rw[hV4];exact(un HN).big _ _ _ (un HVA')
         have HD4:Hid (zAf V4 (.agg #[.slice ab lb cb]) d):=by rw[hV4];exact(un HN).big _ _ _ (un HVB)
         have HS4:Hid (RS w V4 (.string num) (.string den)):=by
           rw[hV4];have s:=(un HS).later (un HCB);exact⟨((s.a.otherAt (by omega) _).otherAt (by omega) _).otherAt (by omega) _,((s.r.otherAt (by omega) _).otherAt (by omega) _).otherAt (by omega) _,zAq s.below (by omega) _ _ _⟩
         clear hV4 zv za zb t1 HVA HVA' HVB HCA HCB Hfalse HS HC HN nc0 nc1 nc2 nf0 nf1 nf2;generalize V.heap.size=g6 at *)
      | (obtain⟨V4,hV4⟩:∃V4,V4=((wb.setCell ⟨wa.heap.size,0,none⟩ (.bool false)).setCell ⟨wa.heap.size,1,none⟩ (.slice aa la ca)).setCell ⟨wa.heap.size,2,none⟩ (.slice ab lb cb):=⟨_,rfl⟩
         rw[←hV4];have hgr:w.heap.size+1<wa.heap.size:=za.2;have HF4:Hid (FBox V4 wa.heap.size (.bool false) (.slice aa la ca) (.slice ab lb cb)):=by rw[hV4];exact(un HN).store _ _ _
         have HN4:Hid (zAf V4 (.agg #[.slice aa la ca]) n):=by rw[hV4];exact(un HN).big _ _ _ (un HVA')
         have HD4:Hid (zAf V4 (.agg #[.slice ab lb cb]) d):=by rw[hV4];exact(un HN).big _ _ _ (un HVB)
         have HS4:Hid (RS w V4 (.string num) (.string den)):=by
           rw[hV4];have s:=(un HS).later (un HCB);exact⟨((s.a.otherAt (by omega) _).otherAt (by omega) _).otherAt (by omega) _,((s.r.otherAt (by omega) _).otherAt (by omega) _).otherAt (by omega) _,zAq s.below (by omega) _ _ _⟩
         clear hV4 zv za zb t1 HVA HVA' HVB HCA HCB Hfalse HS HC HN nc0 nc1 nc2 nf0 nf1 nf2;generalize wa.heap.size=g6 at *)
      have t0:=(un HF4).c0;have t1:=(un HF4).c1;have t2:=(un HF4).c2
      go_wp2_with (first
        | (go_at_call 148;go_must(refine(un HG _ _ _ (un HN4) (un HD4)).mono ?_;rintro e w5 ⟨ag,lg,cg,rfl,hv5,hb5⟩;have HG5:=zAb hv5;have HB5:=zAb hb5;clear hv5 hb5))
        | (go_at_call 188;go_must(refine(un H1 _ _ (un HG5)).mono ?_;rintro e w6 ⟨rfl,hb6⟩;have HB6:=zAb (bt HB5 hb6);clear hb6 t0 t1 t2;have HS6:=zAb ((un HS4).later (un HB6));have HF6:=zAb ((un HF4).later (un HB6));have t0:=(un HF6).c0;have t1:=(un HF6).c1;have t2:=(un HF6).c2;have r0:=(un HS6).r.c0;have r1:=(un HS6).r.c1;have r2:=(un HS6).r.c2;have rf0:=(un HS6).r.f0;have rf1:=(un HS6).r.f1;have rf2:=(un HS6).r.f2)))
      have hS:=(un HS6).r.store (.bool false) (.slice aa la ca) (.slice ab lb cb);have hb:Below w.heap.size w (zAs w6 (w.heap.size+1) (.bool false) (.slice aa la ca) (.slice ab lb cb)):=zAq (un HS6).below (by omega) _ _ _;have u0:=hS.c0;have u1:=hS.c1;have u2:=hS.c2;exact bodyPost_ret (v:=.tuple #[.agg #[.bool false,.slice aa la ca,.slice ab lb cb],.bool true]) (w:=zAs w6 (w.heap.size+1) (.bool false) (.slice aa la ca) (.slice ab lb cb)) (by simp[results,Tryz.results118,go_sem,u0,u1,u2]) rfl ⟨_,rfl,⟨_,n,d,⟨_,_,rfl,(un HS6).r.big _ _ _ ((un HN4).later (un HB6)),(un HS6).r.big _ _ _ ((un HD4).later (un HB6))⟩,un HLOW,rfl,(un HLT).1,(un HLT).2⟩,hb⟩
end Go.Proofs.YtliadckofhblnaaGreatDoor

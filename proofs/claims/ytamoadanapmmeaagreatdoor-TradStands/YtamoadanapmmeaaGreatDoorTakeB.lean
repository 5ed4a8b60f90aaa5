/- A row by one more limb. -/
import Derived.Test.YtamoadanapmmeaaGreatDoorLehmer
import Derived.Test.YtamoadanapmmeaaGreatDoorLimb3
import Derived.Deep.RegionWith
import Derived.Lib.ItoaMem
import Derived.Lib.ParseIntB
import GoSem.Op.String
import Derived.Deep.QuietTactic
import Derived.BigQuiet
namespace Cub
theorem lval_set (B:Nat):∀ (l:List Nat) (i:Nat) (x:Nat) (h:i<l.length),lval B (l.set i x)+B ^ i*l[i]=lval B l+B ^ i*x:=by
  intro l
  induction l with
  | nil=>intro i x h;simp at h
  | cons a l ih=>
    intro i x h
    cases i with
    | zero=>simp[lval];omega
    | succ i=>
      have hi:i<l.length:=by simpa using h
      have e:=ih i x hi
      simp only[List.set_cons_succ,lval,List.getElem_cons_succ,Nat.pow_succ]
      have e2:=congrArg (B*·) e
      simp only[Nat.mul_add] at e2
      have m1:B ^ i*B*l[i]=B*(B ^ i*l[i]):=by rw[Nat.mul_comm (B ^ i) B,Nat.mul_assoc]
      have m2:B ^ i*B*x=B*(B ^ i*x):=by rw[Nat.mul_comm (B ^ i) B,Nat.mul_assoc]
      omega
theorem limbs_set {B:Nat} {l:List Nat} (h:limbs B l) (i x:Nat) (hx:x<B):limbs B (l.set i x):=by
  intro y hy
  rcases List.mem_or_eq_of_mem_set hy with h1|h1
  · exact h y h1
  · omega
structure AddInv (lp lq:List Nat) (S:List Nat) (k i:Nat):Prop where
  len:S.length=lp.length+1
  lim:limbs 1000000000 S
  rest:∀ j (h:j<S.length),i≤j→S[j]=(lp ++ [0])[j]'(by simp;omega)
  val:lval 1000000000 S+1000000000 ^ i*k=lval 1000000000 lp+lval 1000000000 (lq.take i)
  carry:k≤1
  place:i≤lp.length+1
theorem AddInv.start {lp lq:List Nat} (hp:limbs 1000000000 lp):AddInv lp lq (lp ++ [0]) 0 0 :=
  ⟨by simp,limbs_append.2 ⟨hp,fun x hx=>by rw[List.mem_singleton] at hx;omega⟩,fun j h _=>rfl,by rw[lval_snoc];simp[lval],by omega,by omega⟩
theorem take_val (l:List Nat) (i:Nat) (h:i<l.length):lval 1000000000 (l.take (i+1))=lval 1000000000 (l.take i)+1000000000 ^ i*l[i]:=by
  rw[List.take_succ_eq_append_getElem h,lval_snoc,List.length_take,Nat.min_eq_left (by omega)]
theorem take_val' (l:List Nat) (i:Nat) (h:l.length≤i):lval 1000000000 (l.take (i+1))=lval 1000000000 (l.take i):=by
  rw[List.take_of_length_le (by omega),List.take_of_length_le h]
theorem AddInv.step {lp lq S:List Nat} {k i c:Nat} (h:AddInv lp lq S k i) (hi:i<S.length) (hc:c<1000000000)
    (hcv:lval 1000000000 (lq.take (i+1))=lval 1000000000 (lq.take i)+1000000000 ^ i*c) :
    AddInv lp lq (S.set i ((k+S[i]+c) % 1000000000)) ((k+S[i]+c) / 1000000000) (i+1):=by
  have hS:=h.lim S[i] (List.getElem_mem hi)
  have hk:=h.carry
  have hl:=h.len
  refine ⟨by simp[h.len],limbs_set h.lim i _ (Nat.mod_lt _ (by decide)),?_,?_,by omega,by omega⟩
  · intro j hj hij
    rw[List.getElem_set_ne (by omega)]
    exact h.rest j (by simpa using hj) (by omega)
  · have e1:=lval_set 1000000000 S i ((k+S[i]+c) % 1000000000) hi
    have e2:=h.val
    have e3:k+S[i]+c=1000000000*((k+S[i]+c) / 1000000000)+(k+S[i]+c) % 1000000000:=(Nat.div_add_mod _ _).symm
    generalize (k+S[i]+c) / 1000000000=q at *
    generalize (k+S[i]+c) % 1000000000=r at *
    rw[hcv,Nat.pow_succ]
    have e4:=congrArg (1000000000 ^ i*·) e3
    simp only[Nat.mul_add] at e4
    have m1:1000000000 ^ i*1000000000*q=1000000000 ^ i*(1000000000*q):=Nat.mul_assoc _ _ _
    omega
theorem AddInv.last {lp lq S:List Nat} {k i:Nat} (h:AddInv lp lq S k i) (hp:limbs 1000000000 lp) (hq:limbs 1000000000 lq) (hl:lq.length≤lp.length) (hi:i=lp.length+1):k=0:=by
  have h1:=lval_lt hp
  have h2:lval 1000000000 (lq.take i)<1000000000 ^ lp.length:=by
    have:=lval_lt (B:=1000000000) (l:=lq.take i) (fun x hx=>hq x (List.mem_of_mem_take hx))
    exact Nat.lt_of_lt_of_le this (Nat.pow_le_pow_right (by decide) (by rw[List.length_take];omega))
  have h3:=h.val
  rw[hi,Nat.pow_succ] at h3
  rcases Nat.eq_zero_or_pos k with h0|h0
  · exact h0
  · have:1000000000 ^ lp.length*1000000000*1≤1000000000 ^ lp.length*1000000000*k:=Nat.mul_le_mul_left _ h0
    rw[hi] at h2
    omega
theorem AddInv.sum {lp lq S:List Nat} {i:Nat} (h:AddInv lp lq S 0 i) (hi:lq.length≤i):lval 1000000000 S=lval 1000000000 lp+lval 1000000000 lq:=by
  have:=h.val
  rw[List.take_of_length_le hi] at this
  simpa using this
end Cub

namespace Cub
structure LS (b0 c0 x0 y0 x y A B C D:Int):Prop where
  ev:Ev x0 y0 x y A B C D∨Ev y0 x0 x y B A D C
  gcd:Int.gcd (A*b0+B*c0) (C*b0+D*c0)=Int.gcd b0 c0
  lo:0≤C*b0+D*c0
  le:C*b0+D*c0≤A*b0+B*c0
  now:(A=1∧B=0∧C=0∧D=1)∨(A*b0+B*c0≤c0∧C*b0+D*c0<c0)
  hx:x≤1000000000000000000
  hy:y≤1000000000000000000
theorem LS.start {b0 c0 x0 y0:Int} (h1:0≤c0) (h2:c0≤b0) (hx:0≤x0) (hy:0≤y0) (hx2:x0<1000000000000000000) (hy2:y0<1000000000000000000):LS b0 c0 x0 y0 x0 y0 1 0 0 1:=by
  refine ⟨.inl (Ev.start x0 y0 hx hy),?_,by omega,by omega,.inl ⟨rfl,rfl,rfl,rfl⟩,by omega,by omega⟩
  simp
theorem LS.bounds {b0 c0 x0 y0 x y A B C D:Int} (h:LS b0 c0 x0 y0 x y A B C D) :
    0≤x+A∧0≤x+B∧0≤y+C∧0≤y+D∧(-1000000000≤A∧A≤1000000000)∧(-1000000000≤B∧B≤1000000000)∧(-1000000000≤C∧C≤1000000000)∧(-1000000000≤D∧D≤1000000000)∧0≤x∧0≤y∧((0≤A∧B≤0)∨(A≤0∧0≤B))∧((0≤C∧D≤0)∨(C≤0∧0≤D)):=by
  rcases h.ev with h|h
  all_goals (
    have p1:=h.p1;have p2:=h.p2;have r1:=h.r1;have r2:=h.r2;have sA:=h.sA;have sB:=h.sB;have sC:=h.sC;have sD:=h.sD
    have bA:=h.bA;have bB:=h.bB;have bC:=h.bC;have bD:=h.bD
    omega)
theorem quo_facts {a b q:Int} (ha:0≤a) (hb:0≤b) (h0:b≠0) (hq:q=a / b):0≤q∧q*b≤a∧a<q*b+b:=by
  subst hq
  have h1:0<b:=by omega
  refine ⟨Int.ediv_nonneg ha hb,Int.ediv_mul_le a h0,?_⟩
  have:=Int.lt_ediv_add_one_mul_self a h1
  rw[Int.add_mul,Int.one_mul] at this
  exact this
theorem LS.step {b0 c0 x0 y0 x y A B C D q U P u v:Int} (h:LS b0 c0 x0 y0 x y A B C D) (e1:y+C≠0) (e2:y+D≠0) (hq1:q=(x+A) / (y+C)) (hq2:q=(x+B) / (y+D))
    (hx0:x0<1000000000000000000) (hy0:y0<1000000000000000000)
    (hb:b0*U=x0*P+u) (hc:c0*U=y0*P+v) (hu:0≤u) (hu2:u≤P) (hv:0≤v) (hv2:v≤P) (hP:0<P) (hU:0<U) :
    LS b0 c0 x0 y0 y (x - q*y) C D (A - q*C) (B - q*D)∧x - q*y<y∧0≤q:=by
  obtain ⟨k1,k2,k3,k4,-,-,-,-,k5,k6,-,-⟩:=h.bounds
  obtain ⟨q0,f1,f2⟩:=quo_facts k1 k3 e1 hq1
  obtain ⟨-,g1,g2⟩:=quo_facts k2 k4 e2 hq2
  clear hq1 hq2
  have hN:(A - q*C)*b0+(B - q*D)*c0=(A*b0+B*c0) - q*(C*b0+D*c0):=by grind
  have E1:q*(y+C)=q*y+q*C:=Int.mul_add ..
  have E2:q*(y+D)=q*y+q*D:=Int.mul_add ..
  have hmain:(Ev x0 y0 y (x - q*y) C D (A - q*C) (B - q*D)∨Ev y0 x0 y (x - q*y) D C (B - q*D) (A - q*C))∧(0≤(A*b0+B*c0) - q*(C*b0+D*c0)∧(A*b0+B*c0) - q*(C*b0+D*c0)<C*b0+D*c0)∧x - q*y<y:=by
    rcases h.ev with h|h
    · refine ⟨.inr (h.step q0 f1 f2 g1 hx0 hy0),h.rest q0 f2 g1 hb hc hu hu2 hv hv2 hP hU,?_⟩
      have sA:=h.sA;have sC:=h.sC
      have:=Int.mul_nonpos_of_nonneg_of_nonpos q0 sC
      omega
    · refine ⟨.inl (h.step q0 g1 g2 f1 hy0 hx0),?_,?_⟩
      · have:=h.rest q0 g2 f1 hc hb hv hv2 hu hu2 hP hU
        rw[Int.add_comm (B*c0),Int.add_comm (D*c0)] at this
        exact this
      · have sB:=h.sA;have sD:=h.sC
        have:=Int.mul_nonpos_of_nonneg_of_nonpos q0 sD
        omega
  obtain ⟨m1,⟨m2,m3⟩,m4⟩:=hmain
  refine ⟨⟨m1,?_,by omega,by omega,.inr ?_,h.hy,by have:=h.hy;omega⟩,m4,q0⟩
  · rw[hN,gcd_step];exact h.gcd
  · rw[hN]
    rcases h.now with ⟨rfl,rfl,rfl,rfl⟩|⟨n1,n2⟩
    · omega
    · omega
theorem LS.products {b0 c0 x0 y0 x y A B C D q:Int} (h:LS b0 c0 x0 y0 x y A B C D) (h':LS b0 c0 x0 y0 y (x - q*y) C D (A - q*C) (B - q*D)) (q0:0≤q) :
    (-2000000000≤q*C∧q*C≤2000000000)∧(-2000000000≤q*D∧q*D≤2000000000)∧0≤q*y∧q*y≤1000000000000000000:=by
  obtain ⟨-,-,-,-,a1,a2,a3,a4,k5,k6,-,-⟩:=h.bounds
  obtain ⟨-,-,-,-,b1,b2,b3,b4,l5,l6,-,-⟩:=h'.bounds
  have:=Int.mul_nonneg q0 k6
  have:=h.hx
  omega
structure TG (lb lc S:List Nat) (t m k:Int) (i:Nat):Prop where
  len:S.length=lb.length
  limbs:limbs 1000000000 S
  eq:(lval 1000000000 (S.take i):Int)+k*(1000000000 ^ i:Nat)=t*(lval 1000000000 (lb.take i):Nat)+m*(lval 1000000000 (lc.take i):Nat)
  k1:-1000000000≤k
  k2:k≤999999999
theorem TG.start (lb lc:List Nat) (t m:Int):TG lb lc (List.replicate lb.length 0) t m 0 0:=by
  refine ⟨by simp,?_,by simp[lval],by omega,by omega⟩
  intro x hx
  have:=List.eq_of_mem_replicate hx
  omega
theorem opp_bound {t m x z:Int} (ht:-1000000000≤t∧t≤1000000000) (hm:-1000000000≤m∧m≤1000000000) (hs:(0≤t∧m≤0)∨(t≤0∧0≤m)) (hx:0≤x∧x≤999999999) (hz:0≤z∧z≤999999999) :
    -999999999000000000≤t*x+m*z∧t*x+m*z≤999999999000000000∧(-999999999000000000≤t*x∧t*x≤999999999000000000)∧(-999999999000000000≤m*z∧m*z≤999999999000000000):=by
  have pos:∀ {a b:Int},0≤a→a≤1000000000→0≤b→b≤999999999→0≤a*b∧a*b≤999999999000000000:=by
    intro a b h1 h2 h3 h4
    have:=Int.mul_le_mul h2 h4 h3 (by omega)
    exact ⟨Int.mul_nonneg h1 h3,by omega⟩
  rcases hs with ⟨s1,s2⟩|⟨s1,s2⟩
  · have p:=pos s1 ht.2 hx.1 hx.2
    have n:=pos (a:=-m) (b:=z) (by omega) (by omega) hz.1 hz.2
    rw[Int.neg_mul] at n
    omega
  · have p:=pos s2 hm.2 hz.1 hz.2
    have n:=pos (a:=-t) (b:=x) (by omega) (by omega) hx.1 hx.2
    rw[Int.neg_mul] at n
    omega
theorem take_getD (l:List Nat) (i:Nat):lval 1000000000 (l.take (i+1))=lval 1000000000 (l.take i)+1000000000 ^ i*l.getD i 0:=by
  by_cases h:i<l.length
  · rw[take_val l i h];simp[List.getD,h]
  · rw[take_val' l i (by omega)];simp[List.getD,List.getElem?_eq_none (Nat.le_of_not_lt h)]
theorem TG.step {lb lc S:List Nat} {t m k s:Int} {i:Nat} (h:TG lb lc S t m k i) (hi:i<lb.length) (hs:s=k+1000000000000000000+t*(lb.getD i 0:Nat)+m*(lc.getD i 0:Nat))
    (s0:0≤s) (s1:s≤1999999999999999999):TG lb lc (S.set i (s % 1000000000).toNat) t m (s / 1000000000 - 1000000000) (i+1):=by
  have hlen:=h.len
  have hm0:0≤s % 1000000000:=Int.emod_nonneg _ (by decide)
  have hm1:s % 1000000000<1000000000:=Int.emod_lt_of_pos _ (by decide)
  refine ⟨by rw[List.length_set];exact h.len,limbs_set h.limbs _ _ (by omega),?_,by omega,by omega⟩
  have e1:lval 1000000000 ((S.set i (s % 1000000000).toNat).take (i+1))=lval 1000000000 (S.take i)+1000000000 ^ i*(s % 1000000000).toNat:=by
    rw[take_val _ i (by rw[List.length_set];omega)]
    rw[List.getElem_set_self,List.take_set_of_le (Nat.le_refl _)]
  rw[e1,take_getD lb i,take_getD lc i]
  have e:=h.eq
  have ed:s=1000000000*(s / 1000000000)+s % 1000000000:=(Int.mul_ediv_add_emod s 1000000000).symm
  have e2:(((s % 1000000000).toNat:Nat):Int)=s % 1000000000:=Int.toNat_of_nonneg hm0
  generalize lb.getD i 0=xb at *
  generalize lc.getD i 0=xc at *
  generalize lval 1000000000 (S.take i)=vs at *
  generalize lval 1000000000 (lb.take i)=vb at *
  generalize lval 1000000000 (lc.take i)=vc at *
  rw[Nat.pow_succ]
  generalize (1000000000:Nat) ^ i=p at *
  simp only[Int.natCast_add,Int.natCast_mul,e2,show ((1000000000:Nat):Int)=1000000000 from rfl]
  generalize s / 1000000000=d at *
  generalize s % 1000000000=r at *
  have:(vs:Int)+p*r+(d - 1000000000)*(p*1000000000)=(vs+k*p)+p*((1000000000*d+r) - k - 1000000000000000000):=by grind
  rw[this,← ed,e,hs]
  grind
theorem TG.done {lb lc S:List Nat} {t m k:Int} {i:Nat} (h:TG lb lc S t m k i) (hi:i=lb.length) (hl:lc.length≤lb.length) (N:Nat)
    (hN:(N:Int)=t*(lval 1000000000 lb:Nat)+m*(lval 1000000000 lc:Nat)) (hle:N<1000000000 ^ lb.length):lval 1000000000 S=N:=by
  subst hi
  have e:=h.eq
  rw[List.take_of_length_le (by rw[h.len];exact Nat.le_refl _),List.take_of_length_le (Nat.le_refl _),List.take_of_length_le hl,← hN] at e
  have hS:=lval_lt h.limbs
  rw[h.len] at hS
  generalize lval 1000000000 S=vs at *
  generalize (1000000000:Nat) ^ lb.length=p at *
  have k0:k=0:=by
    rcases Int.lt_trichotomy k 0 with hk|hk|hk
    · have:k*(p:Int)≤-1*(p:Int):=Int.mul_le_mul_of_nonneg_right (by omega) (by omega)
      omega
    · exact hk
    · have:1*(p:Int)≤k*(p:Int):=Int.mul_le_mul_of_nonneg_right (by omega) (by omega)
      omega
  rw[k0,Int.zero_mul] at e
  omega
theorem first_digits (low:List Nat) (p q r up e:Nat) (hl:limbs 1000000000 low) (hue:up*e=1000000000) :
    ∃ u,lval 1000000000 (low ++ [p,q,r])*up=((r*1000000000+q)*up+p / e)*1000000000 ^ (low.length+1)+u∧u<1000000000 ^ (low.length+1):=by
  have hv:=lval_lt hl
  have he : 0 < e := by rcases Nat.eq_zero_or_pos e with h|h;· rw[h] at hue;omega
                        · exact h
  have hu : 0 < up := by rcases Nat.eq_zero_or_pos up with h|h;· rw[h] at hue;omega
                         · exact h
  refine ⟨up*(lval 1000000000 low+1000000000 ^ low.length*(p % e)),?_,?_⟩
  · rw[lval_append]
    have e3:lval 1000000000 [p,q,r]=p+1000000000*(q+1000000000*r):=by simp[lval]
    rw[e3,Nat.pow_succ]
    generalize lval 1000000000 low=v at *
    generalize (1000000000:Nat) ^ low.length=b at *
    have hp:=Nat.div_add_mod p e
    generalize p / e=d at *
    generalize p % e=m at *
    rw[← hp]
    have:(v+b*(e*d+m+1000000000*(q+1000000000*r)))*up=(r*1000000000+q)*up*(b*1000000000)+(up*e)*(b*d)+up*(v+b*m):=by grind
    rw[this,hue]
    grind
  · have hm:p % e<e:=Nat.mod_lt _ he
    rw[Nat.pow_succ]
    generalize lval 1000000000 low=v at *
    generalize (1000000000:Nat) ^ low.length=b at *
    generalize p % e=m at *
    have h1:v+b*m<b*e:=by
      have:b*m+b≤b*e:=by rw[← Nat.mul_succ];exact Nat.mul_le_mul_left _ hm
      omega
    have h2:up*(v+b*m)<up*(b*e):=Nat.mul_lt_mul_of_pos_left h1 hu
    have h3:up*(b*e)=b*(up*e):=by grind
    rw[hue] at h3
    omega
end Cub

namespace Go.Proofs.YtamoadanapmmeaaGreatDoor
open Go.RowKit
theorem Tryz.size168:(Tryz.prog.info? 168).map (·.size)=some 1:=by kernel_rfl
def Cells (w:World) (a:Option Addr) (l:List Nat):Prop :=
  ∀ W,Below w.heap.size w W→∀ i (hi:i<l.length),∃ b o,a=some ⟨b,o,none⟩∧W.cell? ⟨b,o+i,none⟩=some (.int .u64 (l[i]:Int))
theorem Row.cells {w:World} {a:Option Addr} {n cap:Nat} {l:List Nat} (h:Row w (.slice a n cap) l):n=l.length∧n≤cap∧cap≤9223372036854775807∧Cells w a l:=by
  obtain ⟨a',cap',e,hc,hm,hr⟩:=h
  simp only[Value.slice.injEq] at e
  obtain ⟨rfl,rfl,rfl⟩:=e
  refine ⟨rfl,hc,hm,fun W hW i hi=>?_⟩
  obtain ⟨b,o,rfl,hlt,hcell⟩:=hr (fun e=>by rw[e] at hi;simp at hi)
  exact ⟨b,o,rfl,(hW.cell (p:=⟨b,o+i,none⟩) hlt).trans (hcell i hi)⟩
theorem Cells.src {w W:World} {a:Option Addr} {l:List Nat} (h:Cells w a l) (hW:Below w.heap.size w W) (h0:0<l.length) :
    ∃ ad,a=some ad∧∀ j v,(u64s l)[j]?=some v→W.cell? (ad.add j)=some v:=by
  obtain ⟨b,o,rfl,_⟩:=h W hW 0 h0
  refine ⟨⟨b,o,none⟩,rfl,fun j v hj=>?_⟩
  have hjl:j<l.length:=by
    have:=(List.getElem?_eq_some_iff.1 hj).1
    rwa [u64s_length] at this
  rw[u64s_get l j hjl,Option.some.injEq] at hj
  obtain ⟨b',o',e,hc⟩:=h W hW j hjl
  simp only[Option.some.injEq,Addr.mk.injEq] at e
  obtain ⟨rfl,rfl,_⟩:=e
  rw[Lib.add_plain,hc,hj]
theorem u64s_one (l:List Nat):∀ v∈u64s l,v.oneCell'=true:=by
  intro v hv
  simp only[u64s,List.mem_map] at hv
  obtain ⟨x,_,rfl⟩:=hv
  rfl
structure Boxes3 (w w4:World) (a b c:Value):Prop where
  c1:w4.cell? ⟨w.heap.size,0,none⟩=some a
  c2:w4.cell? ⟨w.heap.size+1,0,none⟩=some b
  c3:w4.cell? ⟨w.heap.size+1+1,0,none⟩=some c
  f3:w4.frozen? ⟨w.heap.size+1+1,0,none⟩=false
  below:Below w.heap.size w w4
  size:w.heap.size+3≤w4.heap.size
theorem boxes3 {w w4:World} {a b c:Value} (hb:Below (w.heap.size+3) (((w.alloc (.cells #[a] 80)).alloc (.cells #[b] 80)).alloc (.cells #[c] 80)) w4):Boxes3 w w4 a b c:=by
  refine ⟨?_,?_,?_,?_,?_,?_⟩
  · rw[hb.cell (p:=⟨w.heap.size,0,none⟩) (show w.heap.size<w.heap.size+3 by omega)];simp[go_sem]
  · rw[hb.cell (p:=⟨w.heap.size+1,0,none⟩) (show w.heap.size+1<w.heap.size+3 by omega)];simp[go_sem]
  · rw[hb.cell (p:=⟨w.heap.size+1+1,0,none⟩) (show w.heap.size+1+1<w.heap.size+3 by omega)];simp[go_sem]
  · rw[hb.frozen (p:=⟨w.heap.size+1+1,0,none⟩) (show w.heap.size+1+1<w.heap.size+3 by omega)];simp[go_sem]
  · exact ((((Below.refl _ _).alloc (Nat.le_refl _) _).alloc (by simp) _).alloc (by simp;omega) _).trans (hb.mono (by omega))
  · have:=hb.size;simp at this;omega
theorem Boxes3.on {w w4 w5:World} {a b c:Value} (h:Boxes3 w w4 a b c) (hb:Below (w.heap.size+3) w4 w5):Boxes3 w w5 a b c :=
  ⟨(hb.cell (p:=⟨w.heap.size,0,none⟩) (show w.heap.size<w.heap.size+3 by omega)).trans h.c1,(hb.cell (p:=⟨w.heap.size+1,0,none⟩) (show w.heap.size+1<w.heap.size+3 by omega)).trans h.c2,
    (hb.cell (p:=⟨w.heap.size+1+1,0,none⟩) (show w.heap.size+1+1<w.heap.size+3 by omega)).trans h.c3,(hb.frozen (p:=⟨w.heap.size+1+1,0,none⟩) (show w.heap.size+1+1<w.heap.size+3 by omega)).trans h.f3,
    h.below.trans (hb.mono (by omega)),by have:=hb.size;have:=h.size;omega⟩
end Go.Proofs.YtamoadanapmmeaaGreatDoor

namespace Cub
structure TakeInv (T:Nat) (F0 L F:List Nat) (m i:Nat):Prop where
  len:F.length=F0.length
  lim:limbs 1000000000 F
  val:lval 1000000000 F+T*lval 1000000000 (L.take i)=lval 1000000000 F0+1000000000 ^ i*m
  miss:m≤T
theorem TakeInv.start {T:Nat} {F0:List Nat} (L:List Nat) (h:limbs 1000000000 F0):TakeInv T F0 L F0 0 0:=⟨rfl,h,by simp[lval],Nat.zero_le _⟩
theorem take9 (l:List Nat) (i:Nat):lval 1000000000 (l.take (i+1))=lval 1000000000 (l.take i)+1000000000 ^ i*l.getD i 0:=by
  by_cases h:i<l.length
  · rw[List.take_succ_eq_append_getElem h,lval_snoc,List.length_take,Nat.min_eq_left (by omega)]
    simp[List.getD,h]
  · rw[List.take_of_length_le (by omega),List.take_of_length_le (by omega)]
    simp[List.getD,Nat.le_of_not_lt h]
theorem TakeInv.step {T:Nat} {F0 L F:List Nat} {m i q d b:Nat} (h:TakeInv T F0 L F m i) (hi:i<F.length) (hq:q=m+T*L.getD i 0) (hd:d<1000000000) (_hb:b≤1)
    (he:d+q % 1000000000=F[i]+1000000000*b) (hb0:q % 1000000000=0→b=0) (hL:L.getD i 0<1000000000):TakeInv T F0 L (F.set i d) (q / 1000000000+b) (i+1):=by
  refine ⟨by simp[h.len],limbs_set h.lim i _ hd,?_,?_⟩
  · have e1:=lval_set 1000000000 F i d hi
    have e2:=h.val
    rw[take9,Nat.mul_add,Nat.pow_succ]
    have e3:q=1000000000*(q / 1000000000)+q % 1000000000:=(Nat.div_add_mod _ _).symm
    have e4:=congrArg (1000000000 ^ i*·) he
    have e5:=congrArg (1000000000 ^ i*·) e3
    have e6:=congrArg (1000000000 ^ i*·) hq
    simp only[Nat.mul_add] at e4 e5 e6
    have m1:T*(1000000000 ^ i*L.getD i 0)=1000000000 ^ i*(T*L.getD i 0):=by rw[Nat.mul_left_comm]
    have m2:1000000000 ^ i*1000000000*(q / 1000000000+b)=1000000000 ^ i*(1000000000*(q / 1000000000))+1000000000 ^ i*(1000000000*b):=by
      rw[Nat.mul_assoc,← Nat.mul_add,← Nat.mul_add]
    omega
  · have h1:=h.miss
    have h2:T*L.getD i 0≤T*999999999:=Nat.mul_le_mul_left _ (by omega)
    have h3:q≤1000000000*T:=by omega
    by_cases h0:q % 1000000000=0
    · rw[hb0 h0];omega
    · omega
end Cub
namespace Go.Proofs.YtamoadanapmmeaaGreatDoor
open Go.RowKit
theorem Own.below {w w':World} {g g':Nat} {l:List Nat} (h:Own w g' l) (hb:Below g w w') (hg:g'<g):Own w' g' l:=(hb.block g' hg).trans h
set_option maxRecDepth 100000 in
set_option maxHeartbeats 1000000 in
theorem takeAway_any (g n cap:Nat) (F0 L:List Nat) (ab:Option Addr) (nb cb T:Nat) (w:World) (hF:Own w g F0) (hn:n=F0.length) (hn1:n≤10000000) (hlF:Cub.limbs 1000000000 F0)
    (hnb:nb=L.length) (hnbn:nb≤n) (hlL:Cub.limbs 1000000000 L) (hcap:n≤cap) (hT:T<1000000000) (hc:∀ W,Below g w W→∀ i (hi:i<L.length),∃ b o,ab=some ⟨b,o,none⟩∧W.cell? ⟨b,o+i,none⟩=some (.int .u64 (L[i]:Int))) :
    Calls Tryz.prog 259 #[.slice (some ⟨g,0,none⟩) n cap,.slice ab nb cb,.int .u64 (T:Int)] w fun e w'=>∃ (m:Nat) (F:List Nat),e=.returned (.int .u64 (m:Int))∧Own w' g F∧F.length=n∧Cub.limbs 1000000000 F∧Cub.lval 1000000000 F+T*Cub.lval 1000000000 L=Cub.lval 1000000000 F0+1000000000 ^ n*m∧m≤T∧Below g w w':=by
  have HN:=hide (And.intro hn hnb)
  have HC:=hide hc
  have HL:=hide (And.intro hlF hlL)
  have HF:=hide hF
  clear hn hnb hc hlF hlL hF
  go_enter Tryz.func259,Tryz.ntmps259
  go_wp2
  go_loopw [7,12] (fun c t wr=>∃ (m i:Nat) (F:List Nat),c=.int .u64 (m:Int)∧t=I (i:Int)∧i≤n∧m≤T∧Hid (Cub.TakeInv T F0 L F m i)∧Hid (Own wr g F)∧Hid (Below g w wr)) (fun _ t _=>n - (intOf t).toNat)
  case atStart=>exact ⟨0,0,F0,rfl,rfl,by omega,by omega,Cub.TakeInv.start L (un HL).1,HF,Below.refl _ _⟩
  case round=>
    obtain ⟨m,i,F,rfl,rfl,hi,hm,HI,HO,HB⟩:=hrel
    have hFl:Hid (F.length=n):=by rw[(un HI).len];exact (un HN).1.symm
    by_cases hin:i<n
    · by_cases hbrk:nb≤i∧m=0
      · obtain ⟨h1,rfl⟩:=hbrk
        have HV:Hid (Cub.lval 1000000000 F+T*Cub.lval 1000000000 L=Cub.lval 1000000000 F0+1000000000 ^ n*0):=by
          have h:=(un HI).val
          rw[List.take_of_length_le (by have:=(un HN).2;omega)] at h
          rw[Nat.mul_zero] at h ⊢;exact h
        go_wp2
        go_ret
        exact ⟨0,F,rfl,un HO,un hFl,(un HI).lim,un HV,by omega,un HB⟩
      · have hiF:i<F.length:=by rw[un hFl];exact hin
        obtain ⟨f,hf⟩:∃ f,f=F[i]:=⟨_,rfl⟩
        have hfB:f<1000000000:=by rw[hf];exact (un HI).lim _ (List.getElem_mem hiF)
        have hcf:=(un HO).cell i hiF
        rw[← hf] at hcf
        have hff:=(un HO).frozen i
        have HFv:=hide hf
        obtain ⟨lv,hlv⟩:∃ lv,lv=L.getD i 0:=⟨_,rfl⟩
        have hlB:lv<1000000000:=by
          rw[hlv]
          by_cases h:i<L.length
          · simp only[List.getD,List.getElem?_eq_getElem h,Option.getD_some];exact (un HL).2 _ (List.getElem_mem h)
          · simp[List.getD,Nat.le_of_not_lt h]
        have HLB:Hid (L.getD i 0<1000000000):=by rw[← hlv];exact hlB
        by_cases hib:i<nb
        · have hiL:i<L.length:=by have:=(un HN).2;omega
          obtain ⟨b,o,rfl,hcl⟩:=un HC wr (un HB) i hiL
          rw[show L[i]=lv by rw[hlv,List.getD_eq_getElem?_getD,List.getElem?_eq_getElem hiL];rfl] at hcl
          obtain ⟨pr,hpr⟩:∃ pr,pr=T*lv:=⟨_,rfl⟩
          have hprB:pr≤999999998000000001:=by rw[hpr];exact Nat.mul_le_mul (show T≤999999999 by omega) (show lv≤999999999 by omega)
          have hmul:(T:Int)*(lv:Int)=(pr:Int):=by rw[hpr];simp
          have HQ:Hid (m+pr=m+T*L.getD i 0):=by rw[hpr,← hlv];exact rfl
          clear hf hlv hpr hbrk
          by_cases hbor:f<(m+pr) % 1000000000
          · have HI':Hid (Cub.TakeInv T F0 L (F.set i (f+1000000000 - (m+pr) % 1000000000)) ((m+pr) / 1000000000+1) (i+1)) :=
              (un HI).step hiF (un HQ) (by omega) (by omega) (by rw[← un HFv];omega) (by omega) (un HLB)
            have HO':Hid (Own ((wr.setCell ⟨g,i,none⟩ (.int .u64 ((f:Int)+1000000000))).setCell ⟨g,i,none⟩ (.int .u64 ((f:Int)+1000000000 - ((m:Int)+(pr:Int)) % 1000000000))) g (F.set i (f+1000000000 - (m+pr) % 1000000000))):=by
              have h:=((un HO).set i (f+1000000000)).set i (f+1000000000 - (m+pr) % 1000000000)
              rw[List.set_set] at h
              rw[show ((f+1000000000:Nat):Int)=(f:Int)+1000000000 by omega,show ((f+1000000000 - (m+pr) % 1000000000:Nat):Int)=(f:Int)+1000000000 - ((m:Int)+(pr:Int)) % 1000000000 by omega] at h
              exact h
            have HB':Hid (Below g w ((wr.setCell ⟨g,i,none⟩ (.int .u64 ((f:Int)+1000000000))).setCell ⟨g,i,none⟩ (.int .u64 ((f:Int)+1000000000 - ((m:Int)+(pr:Int)) % 1000000000)))):=((un HB).setCell (Nat.le_refl _) _).setCell (Nat.le_refl _) _
            have hbi:(f:Int)<((m:Int)+(pr:Int)) % 1000000000:=by omega
            clear HI HO HB
            go_wp2
            go_roundw
            case rel=>exact ⟨(m+pr) / 1000000000+1,i+1,_,by go_num,by go_num,by omega,(un HI').miss,HI',HO',HB'⟩
            case measure=>simp[intOf];omega
          · have HI':Hid (Cub.TakeInv T F0 L (F.set i (f - (m+pr) % 1000000000)) ((m+pr) / 1000000000+0) (i+1)) :=
              (un HI).step hiF (un HQ) (by omega) (by omega) (by rw[← un HFv];omega) (fun _=>rfl) (un HLB)
            have HO':Hid (Own (wr.setCell ⟨g,i,none⟩ (.int .u64 ((f:Int) - ((m:Int)+(pr:Int)) % 1000000000))) g (F.set i (f - (m+pr) % 1000000000))):=by
              have h:=(un HO).set i (f - (m+pr) % 1000000000)
              rw[show ((f - (m+pr) % 1000000000:Nat):Int)=(f:Int) - ((m:Int)+(pr:Int)) % 1000000000 by omega] at h
              exact h
            have HB':Hid (Below g w (wr.setCell ⟨g,i,none⟩ (.int .u64 ((f:Int) - ((m:Int)+(pr:Int)) % 1000000000)))):=(un HB).setCell (Nat.le_refl _) _
            have hbi:¬ (f:Int)<((m:Int)+(pr:Int)) % 1000000000:=by omega
            clear HI HO HB
            go_wp2
            go_roundw
            case rel=>exact ⟨(m+pr) / 1000000000+0,i+1,_,by go_num,by go_num,by omega,(un HI').miss,HI',HO',HB'⟩
            case measure=>simp[intOf];omega
        · have hm0:0<m:=by omega
          have hl0:lv=0:=by rw[hlv,List.getD_eq_getElem?_getD,List.getElem?_eq_none (by have:=(un HN).2;omega)];rfl
          have HQ:Hid (m=m+T*L.getD i 0):=by rw[← hlv,hl0];exact rfl
          have hmz:((m:Int) == 0)=false:=by rw[beq_eq_false_iff_ne];omega
          clear hf hlv hbrk hl0
          by_cases hbor:f<m % 1000000000
          · have HI':Hid (Cub.TakeInv T F0 L (F.set i (f+1000000000 - m % 1000000000)) (m / 1000000000+1) (i+1)) :=
              (un HI).step hiF (un HQ) (by omega) (by omega) (by rw[← un HFv];omega) (by omega) (un HLB)
            have HO':Hid (Own ((wr.setCell ⟨g,i,none⟩ (.int .u64 ((f:Int)+1000000000))).setCell ⟨g,i,none⟩ (.int .u64 ((f:Int)+1000000000 - (m:Int) % 1000000000))) g (F.set i (f+1000000000 - m % 1000000000))):=by
              have h:=((un HO).set i (f+1000000000)).set i (f+1000000000 - m % 1000000000)
              rw[List.set_set] at h
              rw[show ((f+1000000000:Nat):Int)=(f:Int)+1000000000 by omega,show ((f+1000000000 - m % 1000000000:Nat):Int)=(f:Int)+1000000000 - (m:Int) % 1000000000 by omega] at h
              exact h
            have HB':Hid (Below g w ((wr.setCell ⟨g,i,none⟩ (.int .u64 ((f:Int)+1000000000))).setCell ⟨g,i,none⟩ (.int .u64 ((f:Int)+1000000000 - (m:Int) % 1000000000)))):=((un HB).setCell (Nat.le_refl _) _).setCell (Nat.le_refl _) _
            have hbi:(f:Int)<(m:Int) % 1000000000:=by omega
            clear HI HO HB
            go_wp2
            go_roundw
            case rel=>exact ⟨m / 1000000000+1,i+1,_,by go_num,by go_num,by omega,(un HI').miss,HI',HO',HB'⟩
            case measure=>simp[intOf];omega
          · have HI':Hid (Cub.TakeInv T F0 L (F.set i (f - m % 1000000000)) (m / 1000000000+0) (i+1)) :=
              (un HI).step hiF (un HQ) (by omega) (by omega) (by rw[← un HFv];omega) (fun _=>rfl) (un HLB)
            have HO':Hid (Own (wr.setCell ⟨g,i,none⟩ (.int .u64 ((f:Int) - (m:Int) % 1000000000))) g (F.set i (f - m % 1000000000))):=by
              have h:=(un HO).set i (f - m % 1000000000)
              rw[show ((f - m % 1000000000:Nat):Int)=(f:Int) - (m:Int) % 1000000000 by omega] at h
              exact h
            have HB':Hid (Below g w (wr.setCell ⟨g,i,none⟩ (.int .u64 ((f:Int) - (m:Int) % 1000000000)))):=(un HB).setCell (Nat.le_refl _) _
            have hbi:¬ (f:Int)<(m:Int) % 1000000000:=by omega
            clear HI HO HB
            go_wp2
            go_roundw
            case rel=>exact ⟨m / 1000000000+0,i+1,_,by go_num,by go_num,by omega,(un HI').miss,HI',HO',HB'⟩
            case measure=>simp[intOf];omega
    · have hie:i=n:=by omega
      subst hie
      have HV:Hid (Cub.lval 1000000000 F+T*Cub.lval 1000000000 L=Cub.lval 1000000000 F0+1000000000 ^ i*m):=by
        have h:=(un HI).val
        rw[List.take_of_length_le (by have:=(un HN).2;omega)] at h
        exact h
      go_wp2
      go_ret
      exact ⟨m,F,rfl,un HO,un hFl,(un HI).lim,un HV,hm,un HB⟩
end Go.Proofs.YtamoadanapmmeaaGreatDoor

namespace Go.Proofs.YtamoadanapmmeaaGreatDoor
open Go.RowKit
theorem norm9_len_le {x y:List Nat} (hx:Cub.limbs 1000000000 x) (hy:Cub.normal 1000000000 y) (h:Cub.lval 1000000000 y≤Cub.lval 1000000000 x):y.length≤x.length :=
  Cub.len_le hy (Nat.lt_of_le_of_lt h (Cub.lval_lt hx))
end Go.Proofs.YtamoadanapmmeaaGreatDoor

namespace Cub
def cmpN(m n:Nat):Int:=if m<n then -1 else if n<m then 1 else 0
end Cub

namespace Cub
theorem lval_split (B:Nat) (a:List Nat) (j:Nat) (h:j<a.length):lval B a=lval B (a.take j)+B ^ j*(a[j]+B*lval B (a.drop (j+1))):=by
  have e:=lval_append B (a.take j) (a.drop j)
  rw[List.take_append_drop,List.length_take,Nat.min_eq_left (by omega),List.drop_eq_getElem_cons h] at e
  exact e
theorem cmp_at {B:Nat} {a b:List Nat} (ha:limbs B a) (hl:a.length=b.length) (j:Nat) (h:j<a.length) (hd:a.drop (j+1)=b.drop (j+1)) (hlt:a[j]<b[j]):lval B a<lval B b:=by
  rw[lval_split B a j h,lval_split B b j (by omega),hd]
  have h1:lval B (a.take j)<B ^ j:=by
    have:=lval_lt (B:=B) (l:=a.take j) (fun z hz=>ha z (List.mem_of_mem_take hz))
    rwa [List.length_take,Nat.min_eq_left (by omega)] at this
  have h2:B ^ j*(a[j]+B*lval B (b.drop (j+1))+1)≤B ^ j*(b[j]+B*lval B (b.drop (j+1))):=Nat.mul_le_mul_left _ (by omega)
  rw[Nat.mul_add (B ^ j) (a[j]+B*lval B (b.drop (j+1))) 1] at h2
  omega
theorem cmp_len {a b:List Nat} (ha:limbs 1000000000 a) (hb:normal 1000000000 b) (h:a.length<b.length):lval 1000000000 a<lval 1000000000 b:=by
  have h1:=lval_lt ha
  have hne:b≠[]:=by intro e;rw[e] at h;simp at h
  have h2:=normal_ge hb hne
  have h3:1000000000 ^ a.length≤1000000000 ^ (b.length - 1):=Nat.pow_le_pow_right (by decide) (by omega)
  omega
theorem cmpN_lt {m n:Nat} (h:m<n):cmpN m n=-1:=if_pos h
theorem cmpN_gt {m n:Nat} (h:n<m):cmpN m n=1:=by unfold cmpN;rw[if_neg (by omega),if_pos h]
theorem cmpN_eq (m:Nat):cmpN m m=0:=by unfold cmpN;rw[if_neg (by omega),if_neg (by omega)]
end Cub
namespace Go.Proofs.YtamoadanapmmeaaGreatDoor
open Go.RowKit
theorem isNaN64_any (a:Int) (w:World):Calls Tryz.prog 284 #[.int .u64 a] w fun e w'=>e=.returned (.bool false)∧w'=w:=by
  go_enter Tryz.func284,Tryz.ntmps284
  go_wp2
  go_ret
  exact ⟨rfl,rfl⟩
theorem cmp64_any (a b:Nat) (w:World) :
    Calls Tryz.prog 254 #[.int .u64 (a:Int),.int .u64 (b:Int)] w fun e w'=>e=.returned (I (Cub.cmpN a b))∧w'=w:=by
  rcases Nat.lt_trichotomy a b with h|h|h
  · rw[Cub.cmpN_lt h]
    have h1:(a:Int)<(b:Int):=by omega
    go_enter Tryz.func254,Tryz.ntmps254
    go_wp2_with (go_at_call 284;refine (isNaN64_any _ _).mono ?_;rintro e w' ⟨rfl,rfl⟩)
    go_ret
    exact ⟨rfl,rfl⟩
  · subst h
    rw[Cub.cmpN_eq]
    go_enter Tryz.func254,Tryz.ntmps254
    go_wp2_with (go_at_call 284;refine (isNaN64_any _ _).mono ?_;rintro e w' ⟨rfl,rfl⟩)
    go_ret
    exact ⟨rfl,rfl⟩
  · rw[Cub.cmpN_gt h]
    have h1:(b:Int)<(a:Int):=by omega
    go_enter Tryz.func254,Tryz.ntmps254
    go_wp2_with (go_at_call 284;refine (isNaN64_any _ _).mono ?_;rintro e w' ⟨rfl,rfl⟩)
    go_ret
    exact ⟨rfl,rfl⟩
theorem isNaNi_any (a:Int) (w:World):Calls Tryz.prog 283 #[I a] w fun e w'=>e=.returned (.bool false)∧w'=w:=by
  go_enter Tryz.func283,Tryz.ntmps283
  go_wp2
  go_ret
  exact ⟨rfl,rfl⟩
theorem cmpi_any (a b:Nat) (w:World) :
    Calls Tryz.prog 253 #[I (a:Int),I (b:Int)] w fun e w'=>e=.returned (I (Cub.cmpN a b))∧w'=w:=by
  rcases Nat.lt_trichotomy a b with h|h|h
  · rw[Cub.cmpN_lt h]
    have h1:(a:Int)<(b:Int):=by omega
    go_enter Tryz.func253,Tryz.ntmps253
    go_wp2_with (go_at_call 283;refine (isNaNi_any _ _).mono ?_;rintro e w' ⟨rfl,rfl⟩)
    go_ret
    exact ⟨rfl,rfl⟩
  · subst h
    rw[Cub.cmpN_eq]
    go_enter Tryz.func253,Tryz.ntmps253
    go_wp2_with (go_at_call 283;refine (isNaNi_any _ _).mono ?_;rintro e w' ⟨rfl,rfl⟩)
    go_ret
    exact ⟨rfl,rfl⟩
  · rw[Cub.cmpN_gt h]
    have h1:(b:Int)<(a:Int):=by omega
    go_enter Tryz.func253,Tryz.ntmps253
    go_wp2_with (go_at_call 283;refine (isNaNi_any _ _).mono ?_;rintro e w' ⟨rfl,rfl⟩)
    go_ret
    exact ⟨rfl,rfl⟩
set_option maxRecDepth 100000 in
set_option maxHeartbeats 1000000 in
theorem cmp_any (x y:Value) (m n:Nat) (w:World) (hx:IsBig w x m) (hy:IsBig w y n) :
    Calls Tryz.prog 207 #[x,y] w fun e w'=>e=.returned (I (Cub.cmpN m n))∧Below w.heap.size w w':=by
  obtain ⟨ap,lp,cp,rfl,hlp,hrp,hnp,rfl⟩:=hx.form
  obtain ⟨aq,lq,cq,rfl,hlq,hrq,hnq,rfl⟩:=hy.form
  have HP:Hid (Cub.normal 1000000000 lp∧Cells w ap lp):=⟨hnp,hrp.cells.2.2.2⟩
  have HQ:Hid (Cub.normal 1000000000 lq∧Cells w aq lq):=⟨hnq,hrq.cells.2.2.2⟩
  obtain ⟨np,hnp'⟩:∃ np,np=lp.length:=⟨_,rfl⟩
  obtain ⟨nq,hnq'⟩:∃ nq,nq=lq.length:=⟨_,rfl⟩
  rw[← hnp'] at hlp ⊢
  rw[← hnq'] at hlq ⊢
  have HNP:=hide hnp'
  have HNQ:=hide hnq'
  clear hx hy hrp hrq hnp hnq hnp' hnq'
  by_cases hne:np=nq
  · subst hne
    have C78:Hid (∀ W,Calls Tryz.prog 253 #[I (np:Int),I (np:Int)] W fun e w'=>e=.returned (I 0)∧w'=W):=fun W=>by have h:=cmpi_any np np W;rw[Cub.cmpN_eq] at h;exact h
    go_enter Tryz.func207,Tryz.ntmps207
    go_wp2_with (go_at_call 253;refine (un C78 _).mono ?_;rintro e w' ⟨rfl,rfl⟩)
    go_loopw [6] (fun t wr=>∃ j:Nat,j≤np∧t=I ((j:Int) - 1)∧Hid (lp.drop j=lq.drop j)∧wr.cell? ⟨w.heap.size,0,none⟩=some (.slice ap np cp)∧wr.cell? ⟨w.heap.size+1,0,none⟩=some (.slice aq np cq)∧Below w.heap.size w wr) (fun t _=>(intOf t+1).toNat)
    case atStart=>exact ⟨np,Nat.le_refl _,rfl,by rw[List.drop_of_length_le (by have:=un HNP;omega),List.drop_of_length_le (by have:=un HNQ;omega)];exact rfl,by simp[go_sem],by simp[go_sem],((Below.refl _ _).alloc (Nat.le_refl _) _).alloc (by simp) _⟩
    case round=>
      obtain ⟨j,hj,rfl,HD,hb1,hb2,hbl⟩:=hrel
      by_cases hj0:j=0
      · subst hj0
        have HF:Hid (Cub.cmpN (Cub.lval 1000000000 lp) (Cub.lval 1000000000 lq)=0):=by
          have h:=un HD
          rw[List.drop_zero,List.drop_zero] at h
          rw[h,Cub.cmpN_eq];exact rfl
        go_wp2
        go_ret
        exact ⟨by rw[un HF];rfl,hbl⟩
      · obtain ⟨i,rfl⟩:∃ i,j=i+1:=⟨j - 1,by omega⟩
        have hip:i<lp.length:=by have:=un HNP;omega
        have hiq:i<lq.length:=by have:=un HNQ;omega
        obtain ⟨b1,o1,rfl,hc1⟩:=(un HP).2 wr hbl i hip
        obtain ⟨b2,o2,rfl,hc2⟩:=(un HQ).2 wr hbl i hiq
        obtain ⟨xv,hxv⟩:∃ xv,xv=lp[i]:=⟨_,rfl⟩
        obtain ⟨yv,hyv⟩:∃ yv,yv=lq[i]:=⟨_,rfl⟩
        rw[← hxv] at hc1
        rw[← hyv] at hc2
        obtain ⟨c,hc⟩:∃ c,c=Cub.cmpN xv yv:=⟨_,rfl⟩
        have C79:Hid (∀ W,Calls Tryz.prog 254 #[.int .u64 (xv:Int),.int .u64 (yv:Int)] W fun e w'=>e=.returned (I c)∧w'=W):=fun W=>by have h:=cmp64_any xv yv W;rw[← hc] at h;exact h
        have hin':(i:Int)<(np:Int):=by omega
        rw[show (((i+1:Nat):Int) - 1)=(i:Int) from by omega]
        by_cases hxy:xv=yv
        · have hc0:c=0:=by rw[hc,hxy,Cub.cmpN_eq]
          subst hc0
          have HD':Hid (lp.drop i=lq.drop i):=by
            rw[List.drop_eq_getElem_cons hip,List.drop_eq_getElem_cons hiq,un HD,← hxv,← hyv,hxy];exact rfl
          clear hc hxy hxv hyv hj0
          go_wp2
          go_quiet ((go_at_call 254;exact Calls.quiet_of_same (un C79 _)))
          go_wp2
          go_roundw
          case rel=>exact ⟨i,by omega,rfl,HD',hb1,hb2,below_drewN hbl _⟩
          case measure=>simp[intOf]
        · have hcz:(c != 0)=true:=by
            rw[hc,bne_iff_ne]
            rcases Nat.lt_or_ge xv yv with h|h
            · rw[Cub.cmpN_lt h];omega
            · rw[Cub.cmpN_gt (show yv<xv by omega)];omega
          have HF:Hid (Cub.cmpN (Cub.lval 1000000000 lp) (Cub.lval 1000000000 lq)=c):=by
            have hl:lp.length=lq.length:=by rw[← un HNP,← un HNQ]
            rw[hc]
            rcases Nat.lt_or_ge xv yv with h|h
            · rw[Cub.cmpN_lt h,Cub.cmpN_lt (Cub.cmp_at (un HP).1.1 hl i hip (un HD) (by rw[← hxv,← hyv];exact h))];exact rfl
            · have h':yv<xv:=by omega
              rw[Cub.cmpN_gt h',Cub.cmpN_gt (Cub.cmp_at (un HQ).1.1 hl.symm i hiq (un HD).symm (by rw[← hxv,← hyv];exact h'))];exact rfl
          clear hc hxy hxv hyv hj0
          go_wp2
          go_quiet ((go_at_call 254;exact Calls.quiet_of_same (un C79 _)))
          go_wp2
          go_ret
          exact ⟨by rw[un HF];rfl,below_drewN hbl _⟩
  · obtain ⟨c,hc⟩:∃ c,c=Cub.cmpN np nq:=⟨_,rfl⟩
    have hfin:Cub.cmpN (Cub.lval 1000000000 lp) (Cub.lval 1000000000 lq)=c:=by
      rw[hc]
      rcases Nat.lt_or_ge np nq with h|h
      · rw[Cub.cmpN_lt h,Cub.cmpN_lt (Cub.cmp_len (un HP).1.1 (un HQ).1 (by have:=un HNP;have:=un HNQ;omega))]
      · rw[Cub.cmpN_gt (show nq<np by omega),Cub.cmpN_gt (Cub.cmp_len (un HQ).1.1 (un HP).1 (by have:=un HNP;have:=un HNQ;omega))]
    have hc0:(c != 0)=true:=by
      rw[hc,bne_iff_ne]
      rcases Nat.lt_or_ge np nq with h|h
      · rw[Cub.cmpN_lt h];omega
      · rw[Cub.cmpN_gt (show nq<np by omega)];omega
    have C78:Hid (∀ W,Calls Tryz.prog 253 #[I (np:Int),I (nq:Int)] W fun e w'=>e=.returned (I c)∧w'=W):=fun W=>by have h:=cmpi_any np nq W;rw[← hc] at h;exact h
    rw[hfin]
    clear hfin hc
    go_enter Tryz.func207,Tryz.ntmps207
    go_wp2_with (go_at_call 253;refine (un C78 _).mono ?_;rintro e w' ⟨rfl,rfl⟩)
    go_ret
    exact ⟨rfl,((Below.refl _ _).alloc (Nat.le_refl _) _).alloc (by simp) _⟩
end Go.Proofs.YtamoadanapmmeaaGreatDoor

namespace Cub
theorem takeB (B:Nat) (l:List Nat) (i:Nat):lval B (l.take (i+1))=lval B (l.take i)+B ^ i*l.getD i 0:=by
  by_cases h:i<l.length
  · rw[List.take_succ_eq_append_getElem h,lval_snoc,List.length_take,Nat.min_eq_left (by omega)]
    simp[List.getD,h]
  · rw[List.take_of_length_le (by omega),List.take_of_length_le (by omega)]
    simp[List.getD,Nat.le_of_not_lt h]
end Cub

/- A copy of elements of several cells. -/
import Derived.Test.YtliadckofhblnaaGreatDoorLehmer
import Derived.Test.YtliadckofhblnaaGreatDoorCmp
import Derived.Test.YtliadckofhblnaaGreatDoorLimb3
import Derived.Deep.QuietTactic
import Derived.BigQuiet
import Derived.WalkSmall
import Derived.Deep.Cut
import Derived.Deep.CutRange
import Derived.Deep.RegionWith
import Derived.Laws.IdiomCopy
set_option maxRecDepth 100000
namespace Cub
structure LS (b0 c0 x0 y0 x y A B C D:Int):Prop where
  ev:Ev x0 y0 x y A B C D∨Ev y0 x0 x y B A D C
  gcd:Int.gcd (A*b0+B*c0) (C*b0+D*c0)=Int.gcd b0 c0
  lo:0≤C*b0+D*c0
  le:C*b0+D*c0≤A*b0+B*c0
  now:(A=1∧B=0∧C=0∧D=1)∨(A*b0+B*c0≤c0∧C*b0+D*c0<c0)
  hx:x≤1000000000000000000
  hy:y≤1000000000000000000
theorem LS.start {b0 c0 x0 y0:Int} (h1:0≤c0) (h2:c0≤b0) (hx:0≤x0) (hy:0≤y0) (hx2:x0<1000000000000000000) (hy2:y0<1000000000000000000):LS b0 c0 x0 y0 x0 y0 1 0 0 1:=by
  refine⟨.inl (Ev.start x0 y0 hx hy),?_,by omega,by omega,.inl ⟨rfl,rfl,rfl,rfl⟩,by omega,by omega⟩
  simp
theorem LS.bounds {b0 c0 x0 y0 x y A B C D:Int} (h:LS b0 c0 x0 y0 x y A B C D) :
    0≤x+A∧0≤x+B∧0≤y+C∧0≤y+D∧(-1000000000≤A∧A≤1000000000)∧(-1000000000≤B∧B≤1000000000)∧(-1000000000≤C∧C≤1000000000)∧(-1000000000≤D∧D≤1000000000)∧0≤x∧0≤y∧((0≤A∧B≤0)∨(A≤0∧0≤B))∧((0≤C∧D≤0)∨(C≤0∧0≤D)):=by
  rcases h.ev with h|h
  all_goals (
    have p1:=h.p1;have p2:=h.p2;have r1:=h.r1;have r2:=h.r2;have sA:=h.sA;have sB:=h.sB;have sC:=h.sC;have sD:=h.sD
    have bA:=h.bA;have bB:=h.bB;have bC:=h.bC;have bD:=h.bD
    omega)
theorem quo_facts {a b q:Int} (ha:0≤a) (hb:0≤b) (h0:b≠0) (hq:q=a / b):0≤q∧q*b≤a∧a<q*b+b:=by
  subst hq
  have h1:0<b:=by omega
  refine⟨Int.ediv_nonneg ha hb,Int.ediv_mul_le a h0,?_⟩
  have:=Int.lt_ediv_add_one_mul_self a h1
  rw[Int.add_mul,Int.one_mul]at this
  exact this
theorem LS.step {b0 c0 x0 y0 x y A B C D q U P u v:Int} (h:LS b0 c0 x0 y0 x y A B C D) (e1:y+C≠0) (e2:y+D≠0) (hq1:q=(x+A) / (y+C)) (hq2:q=(x+B) / (y+D))
    (hx0:x0<1000000000000000000) (hy0:y0<1000000000000000000)
    (hb:b0*U=x0*P+u) (hc:c0*U=y0*P+v) (hu:0≤u) (hu2:u≤P) (hv:0≤v) (hv2:v≤P) (hP:0<P) (hU:0<U) :
    LS b0 c0 x0 y0 y (x - q*y) C D (A - q*C) (B - q*D)∧x - q*y<y∧0≤q:=by
  obtain⟨k1,k2,k3,k4,-,-,-,-,k5,k6,-,-⟩:=h.bounds
  obtain⟨q0,f1,f2⟩:=quo_facts k1 k3 e1 hq1
  obtain⟨-,g1,g2⟩:=quo_facts k2 k4 e2 hq2
  clear hq1 hq2
  have hN:(A - q*C)*b0+(B - q*D)*c0=(A*b0+B*c0) - q*(C*b0+D*c0):=by grind
  have E1:q*(y+C)=q*y+q*C:=Int.mul_add ..
  have E2:q*(y+D)=q*y+q*D:=Int.mul_add ..
  have hmain:(Ev x0 y0 y (x - q*y) C D (A - q*C) (B - q*D)∨Ev y0 x0 y (x - q*y) D C (B - q*D) (A - q*C))∧(0≤(A*b0+B*c0) - q*(C*b0+D*c0)∧(A*b0+B*c0) - q*(C*b0+D*c0)<C*b0+D*c0)∧x - q*y<y:=by
    rcases h.ev with h|h
    · refine⟨.inr (h.step q0 f1 f2 g1 hx0 hy0),h.rest q0 f2 g1 hb hc hu hu2 hv hv2 hP hU,?_⟩
      have sA:=h.sA;have sC:=h.sC
      have:=Int.mul_nonpos_of_nonneg_of_nonpos q0 sC
      omega
    · refine⟨.inl (h.step q0 g1 g2 f1 hy0 hx0),?_,?_⟩
      · have:=h.rest q0 g2 f1 hc hb hv hv2 hu hu2 hP hU
        rw[Int.add_comm (B*c0),Int.add_comm (D*c0)]at this
        exact this
      · have sB:=h.sA;have sD:=h.sC
        have:=Int.mul_nonpos_of_nonneg_of_nonpos q0 sD
        omega
  obtain⟨m1,⟨m2,m3⟩,m4⟩:=hmain
  refine⟨⟨m1,?_,by omega,by omega,.inr ?_,h.hy,by have:=h.hy;omega⟩,m4,q0⟩
  · rw[hN,gcd_step];exact h.gcd
  · rw[hN]
    rcases h.now with ⟨rfl,rfl,rfl,rfl⟩|⟨n1,n2⟩
    · omega
    · omega
theorem LS.products {b0 c0 x0 y0 x y A B C D q:Int} (h:LS b0 c0 x0 y0 x y A B C D) (h':LS b0 c0 x0 y0 y (x - q*y) C D (A - q*C) (B - q*D)) (q0:0≤q) :
    (-2000000000≤q*C∧q*C≤2000000000)∧(-2000000000≤q*D∧q*D≤2000000000)∧0≤q*y∧q*y≤1000000000000000000:=by
  obtain⟨-,-,-,-,a1,a2,a3,a4,k5,k6,-,-⟩:=h.bounds
  obtain⟨-,-,-,-,b1,b2,b3,b4,l5,l6,-,-⟩:=h'.bounds
  have:=Int.mul_nonneg q0 k6
  have:=h.hx
  omega
structure TG (lb lc S:List Nat) (t m k:Int) (i:Nat):Prop where
  len:S.length=lb.length
  limbs:limbs 1000000000 S
  eq:(lval 1000000000 (S.take i):Int)+k*(1000000000 ^ i:Nat)=t*(lval 1000000000 (lb.take i):Nat)+m*(lval 1000000000 (lc.take i):Nat)
  k1:-1000000000≤k
  k2:k≤999999999
theorem TG.start (lb lc:List Nat) (t m:Int):TG lb lc (List.replicate lb.length 0) t m 0 0:=by
  refine⟨by simp,?_,by simp[lval],by omega,by omega⟩
  intro x hx
  have:=List.eq_of_mem_replicate hx
  omega
theorem opp_bound {t m x z:Int} (ht:-1000000000≤t∧t≤1000000000) (hm:-1000000000≤m∧m≤1000000000) (hs:(0≤t∧m≤0)∨(t≤0∧0≤m)) (hx:0≤x∧x≤999999999) (hz:0≤z∧z≤999999999) :
    -999999999000000000≤t*x+m*z∧t*x+m*z≤999999999000000000∧(-999999999000000000≤t*x∧t*x≤999999999000000000)∧(-999999999000000000≤m*z∧m*z≤999999999000000000):=by
  have pos:∀ {a b:Int},0≤a→a≤1000000000→0≤b→b≤999999999→0≤a*b∧a*b≤999999999000000000:=by
    intro a b h1 h2 h3 h4
    have:=Int.mul_le_mul h2 h4 h3 (by omega)
    exact⟨Int.mul_nonneg h1 h3,by omega⟩
  rcases hs with ⟨s1,s2⟩|⟨s1,s2⟩
  · have p:=pos s1 ht.2 hx.1 hx.2
    have n:=pos (a:=-m) (b:=z) (by omega) (by omega) hz.1 hz.2
    rw[Int.neg_mul]at n
    omega
  · have p:=pos s2 hm.2 hz.1 hz.2
    have n:=pos (a:=-t) (b:=x) (by omega) (by omega) hx.1 hx.2
    rw[Int.neg_mul]at n
    omega
theorem take_getD (l:List Nat) (i:Nat):lval 1000000000 (l.take (i+1))=lval 1000000000 (l.take i)+1000000000 ^ i*l.getD i 0:=by
  by_cases h:i<l.length
  · rw[take_val l i h];simp[List.getD,h]
  · rw[take_val' l i (by omega)];simp[List.getD,List.getElem?_eq_none (Nat.le_of_not_lt h)]
theorem TG.step {lb lc S:List Nat} {t m k s:Int} {i:Nat} (h:TG lb lc S t m k i) (hi:i<lb.length) (hs:s=k+1000000000000000000+t*(lb.getD i 0:Nat)+m*(lc.getD i 0:Nat))
    (s0:0≤s) (s1:s≤1999999999999999999):TG lb lc (S.set i (s % 1000000000).toNat) t m (s / 1000000000 - 1000000000) (i+1):=by
  have hlen:=h.len
  have hm0:0≤s % 1000000000:=Int.emod_nonneg _ (by decide)
  have hm1:s % 1000000000<1000000000:=Int.emod_lt_of_pos _ (by decide)
  refine⟨by rw[List.length_set];exact h.len,limbs_set h.limbs _ _ (by omega),?_,by omega,by omega⟩
  have e1:lval 1000000000 ((S.set i (s % 1000000000).toNat).take (i+1))=lval 1000000000 (S.take i)+1000000000 ^ i*(s % 1000000000).toNat:=by
    rw[take_val _ i (by rw[List.length_set];omega)]
    rw[List.getElem_set_self,List.take_set_of_le (Nat.le_refl _)]
  rw[e1,take_getD lb i,take_getD lc i]
  have e:=h.eq
  have ed:s=1000000000*(s / 1000000000)+s % 1000000000:=(Int.mul_ediv_add_emod s 1000000000).symm
  have e2:(((s % 1000000000).toNat:Nat):Int)=s % 1000000000:=Int.toNat_of_nonneg hm0
  generalize lb.getD i 0=xb at *
  generalize lc.getD i 0=xc at *
  generalize lval 1000000000 (S.take i)=vs at *
  generalize lval 1000000000 (lb.take i)=vb at *
  generalize lval 1000000000 (lc.take i)=vc at *
  rw[Nat.pow_succ]
  generalize (1000000000:Nat) ^ i=p at *
  simp only[Int.natCast_add,Int.natCast_mul,e2,show((1000000000:Nat):Int)=1000000000 from rfl]
  generalize s / 1000000000=d at *
  generalize s % 1000000000=r at *
  have:(vs:Int)+p*r+(d - 1000000000)*(p*1000000000)=(vs+k*p)+p*((1000000000*d+r) - k - 1000000000000000000):=by grind
  rw[this,←ed,e,hs]
  grind
theorem TG.done {lb lc S:List Nat} {t m k:Int} {i:Nat} (h:TG lb lc S t m k i) (hi:i=lb.length) (hl:lc.length≤lb.length) (N:Nat)
    (hN:(N:Int)=t*(lval 1000000000 lb:Nat)+m*(lval 1000000000 lc:Nat)) (hle:N<1000000000 ^ lb.length):lval 1000000000 S=N:=by
  subst hi
  have e:=h.eq
  rw[List.take_of_length_le (by rw[h.len];exact Nat.le_refl _),List.take_of_length_le (Nat.le_refl _),List.take_of_length_le hl,←hN]at e
  have hS:=lval_lt h.limbs
  rw[h.len]at hS
  generalize lval 1000000000 S=vs at *
  generalize (1000000000:Nat) ^ lb.length=p at *
  have k0:k=0:=by
    rcases Int.lt_trichotomy k 0 with hk|hk|hk
    · have:k*(p:Int)≤-1*(p:Int):=Int.mul_le_mul_of_nonneg_right (by omega) (by omega)
      omega
    · exact hk
    · have:1*(p:Int)≤k*(p:Int):=Int.mul_le_mul_of_nonneg_right (by omega) (by omega)
      omega
  rw[k0,Int.zero_mul]at e
  omega
theorem first_digits (low:List Nat) (p q r up e:Nat) (hl:limbs 1000000000 low) (hue:up*e=1000000000) :
    ∃u,lval 1000000000 (low ++ [p,q,r])*up=((r*1000000000+q)*up+p / e)*1000000000 ^ (low.length+1)+u∧u<1000000000 ^ (low.length+1):=by
  have hv:=lval_lt hl
  have he : 0 < e := by rcases Nat.eq_zero_or_pos e with h|h;· rw[h]at hue;omega
                        · exact h
  have hu : 0 < up := by rcases Nat.eq_zero_or_pos up with h|h;· rw[h]at hue;omega
                         · exact h
  refine⟨up*(lval 1000000000 low+1000000000 ^ low.length*(p % e)),?_,?_⟩
  · rw[lval_append]
    have e3:lval 1000000000 [p,q,r]=p+1000000000*(q+1000000000*r):=by simp[lval]
    rw[e3,Nat.pow_succ]
    generalize lval 1000000000 low=v at *
    generalize (1000000000:Nat) ^ low.length=b at *
    have hp:=Nat.div_add_mod p e
    generalize p / e=d at *
    generalize p % e=m at *
    rw[←hp]
    have:(v+b*(e*d+m+1000000000*(q+1000000000*r)))*up=(r*1000000000+q)*up*(b*1000000000)+(up*e)*(b*d)+up*(v+b*m):=by grind
    rw[this,hue]
    grind
  · have hm:p % e<e:=Nat.mod_lt _ he
    rw[Nat.pow_succ]
    generalize lval 1000000000 low=v at *
    generalize (1000000000:Nat) ^ low.length=b at *
    generalize p % e=m at *
    have h1:v+b*m<b*e:=by
      have:b*m+b≤b*e:=by rw[←Nat.mul_succ];exact Nat.mul_le_mul_left _ hm
      omega
    have h2:up*(v+b*m)<up*(b*e):=Nat.mul_lt_mul_of_pos_left h1 hu
    have h3:up*(b*e)=b*(up*e):=by grind
    rw[hue]at h3
    omega
end Cub
namespace Go.Proofs.YtliadckofhblnaaGreatDoor
open Go.RowKit
structure zBy (w:World) where
 world:World
 below:Below w.heap.size w world
instance (w:World):Nonempty (zBy w):=⟨⟨w,Below.refl _ _⟩⟩
theorem zCz {P:Program} {id:Nat} {Q:Exit→Act→World→Prop} {a:Act} {w:World} {l:List Oper} (hm:P.follows .mixedOrders=true) (hB:Region.lexB .any l.toArray=true)
 (h:wpQuiet P l.toArray (fun w'=>∃x:zBy w,w'=x.world) (fun a'=>∀w',(∃x:zBy w,w'=x.world)→Q .normal a' w') l a):(Code.region id l.toArray true).wp P Q a w :=
 wp_region_quiet (C:=fun w'=>∃x:zBy w,w'=x.world) hm hB ⟨⟨_,(Below.refl w.heap.size w).drew⟩,rfl⟩ (by simpa using h)
theorem gcdSmall_any (a b:Nat) (w:World) (ha:a<18446744073709551616) (hb:b<18446744073709551616) :
 Calls Tryz.prog 211 #[.int .u64 (a:Int),.int .u64 (b:Int)] w fun e w'=>e=.returned (.int .u64 ((Nat.gcd a b:Nat):Int))∧Bw w w':=by
 go_enter Tryz.func211,Tryz.ntmps211
 go_wp2
 go_loopw [0,1] (fun u v wr=>∃x y:Nat,u=.int .u64 (x:Int)∧v=.int .u64 (y:Int)∧x<18446744073709551616∧y<18446744073709551616∧Hid (Nat.gcd x y=Nat.gcd a b)∧Hid (Bw w wr)) (fun _ v _=>(intOf v).toNat)
 case atStart=>exact⟨a,b,rfl,rfl,ha,hb,rfl,Below.refl _ _⟩
 case round=>
  obtain⟨x,y,rfl,rfl,hx,hy,HG,HB⟩:=hrel
  by_cases h0:0<y
  ·have hy0:¬y=0:=by omega
   have h0':(0:Int)<(y:Int):=by omega
   have hlt:x % y<y:=Nat.mod_lt _ h0
   have HG':Hid (Nat.gcd y (x % y)=Nat.gcd a b):=by
    show _=_;rw[←un HG,Nat.gcd_comm x y,Nat.gcd_rec y x,Nat.gcd_comm (x % y) y]
   go_upto_region 2 with fail
   go_quiet (fail)
   go_wp2
   go_roundw
   case rel=>exact⟨y,x % y,rfl,by go_num,hy,by omega,HG',below_drewN (un HB) _⟩
   case measure=>simp[intOf];omega
  ·have hy0:y=0:=by omega
   subst hy0;have HV:Hid (x=Nat.gcd a b):=by show _=_;rw[←un HG,Nat.gcd_zero_right]
   clear HG
   go_wp2
   go_ret
   exact⟨by rw[←un HV];rfl,un HB⟩
theorem bigSmall_any (x:Value) (m:Nat) (w:World) (hx:zAf w x m) (hm:m<1000000000000000000) :
 Calls Tryz.prog 212 #[x] w fun e w'=>e=.returned (.int .u64 (m:Int))∧Bw w w':=by
 obtain⟨ap,lp,cp,rfl,hlp,hrp,hnp,hv⟩:=hx.form;have h2:lp.length≤2:=Cub.len_le hnp (by rw[hv];omega);have HP:Hid (Cells w ap lp):=hrp.cells.2.2.2
 have hcs:lp=[]∨(∃a,lp=[a])∨∃a b,lp=[a,b]:=by
  match lp,h2 with
  | [],_=>exact .inl rfl
  | [a],_=>exact .inr (.inl ⟨a,rfl⟩)
  | [a,b],_=>exact .inr (.inr ⟨a,b,rfl⟩)
 rcases hcs with rfl|⟨a,rfl⟩|⟨a,b,rfl⟩
 ·have HV:Hid (m=0):=hv.symm
  clear hv hx hrp hnp HP hm;simp only[List.length_nil];go_enter Tryz.func212,Tryz.ntmps212
  go_wp2
  refine wp_loop_rounds 1 ?_;rw[rounds_succ]
  go_wp2
  go_ret
  exact⟨by rw[un HV];rfl,bA⟩
 ·have HV:Hid (m=a):=by show _=_;rw[←hv];simp[Cub.lval]
  have ha:a<1000000000:=hnp.1 a (by simp);obtain⟨b0,o0,rfl,hc0⟩:=un HP (w.alloc (.cells #[.slice ap 1 cp] 80)) bA 0 (by simp);simp only[List.length_singleton,List.getElem_cons_zero,Nat.add_zero]at hc0 ⊢;clear hv hx hrp hnp HP hm;go_enter Tryz.func212,Tryz.ntmps212
  go_wp2
  refine wp_loop_rounds 2 ?_;rw[rounds_succ]
  go_wp2
  rw[rounds_succ]
  go_wp2
  go_ret
  exact⟨by rw[un HV];first|rfl|(simp;done)|go_num,bA⟩
 ·have HV:Hid (m=b*1000000000+a):=by show _=_;rw[←hv];simp[Cub.lval];omega
  have ha:a<1000000000:=hnp.1 a (by simp);have hb:b<1000000000:=hnp.1 b (by simp);have hW:Below w.heap.size w (w.alloc (.cells #[.slice ap 2 cp] 80)):=bA;obtain⟨b0,o0,rfl,hc0⟩:=un HP _ hW 0 (by simp);obtain⟨b1,o1,e1,hc1⟩:=un HP _ hW 1 (by simp);simp only[Option.some.injEq,Addr.mk.injEq]at e1;obtain⟨rfl,rfl,_⟩:=e1;simp only[List.length_cons,List.length_nil,List.getElem_cons_zero,List.getElem_cons_succ,Nat.add_zero,Nat.zero_add,Nat.reduceAdd]at hc0 hc1 ⊢;clear hv hx hrp hnp HP hm hW;go_enter Tryz.func212,Tryz.ntmps212
  go_wp2
  refine wp_loop_rounds 3 ?_;rw[rounds_succ]
  go_wp2
  rw[rounds_succ]
  go_wp2
  rw[rounds_succ]
  go_wp2
  go_ret
  exact⟨by rw[un HV];first|rfl|(simp;done)|go_num,bA⟩
theorem limb_any (ap:Option Addr) (l:List Nat) (cap i:Nat) (w:World) (hr:Row w (.slice ap l.length cap) l) :
 Calls Tryz.prog 285 #[.agg #[.slice ap l.length cap],I (i:Int)] w fun e w'=>e=.returned (.int .u64 ((l.getD i 0:Nat):Int))∧Bw w w':=by
 have HP:Hid (Cells w ap l):=hr.cells.2.2.2;have hl:l.length≤9223372036854775807:=by have:=hr.cells.2;omega
 have hW:Below w.heap.size w (w.alloc (.cells #[.slice ap l.length cap] 80)):=bA
 by_cases h:i<l.length
 ·obtain⟨b,o,rfl,hc⟩:=un HP _ hW i h
  have HV:Hid (l.getD i 0=l[i]):=by show _=_;simp[List.getD,h]
  generalize l[i]=x at *
  generalize l.getD i 0=y at *
  generalize l.length=n at *
  clear HP hr hW;go_enter Tryz.func285,Tryz.ntmps285
  go_wp2
  go_ret
  exact⟨by rw[un HV];rfl,bA⟩
 ·have HV:Hid (l.getD i 0=0):=by show _=_;simp[List.getD,List.getElem?_eq_none (Nat.le_of_not_lt h)]
  generalize l.getD i 0=y at *
  generalize l.length=n at *
  clear HP hr hW;go_enter Tryz.func285,Tryz.ntmps285
  go_wp2
  go_ret
  exact⟨by rw[un HV];rfl,bA⟩
structure F2 (w W:World) (x0 x1 x2 y0 y1 y2:Value):Prop where
 x:FBox W w.heap.size x0 x1 x2
 y:FBox W (w.heap.size+1) y0 y1 y2
 below:Below w.heap.size w W
theorem signI_val {b:Bool} {n d:Nat} (h:Cub.Low b n d):signI b n=Cub.cmpQ (Cub.valQ b n d) 0:=Cub.sign_val h
structure AS (w W:World) (x0 x1 x2 y0 y1 y2:Value) (L:List (Nat×Value)):Prop where
 x:FBox W w.heap.size x0 x1 x2
 y:FBox W (w.heap.size+1) y0 y1 y2
 r:FBox W (w.heap.size+1+1) (.bool false) (.slice none 0 0) (.slice none 0 0)
 bx:∀p∈L,Box W p.1 p.2
 gt:∀p∈L,w.heap.size+1+1<p.1
 below:Below w.heap.size w W
theorem AS.later {w W V:World} {x0 x1 x2 y0 y1 y2:Value} {L:List (Nat×Value)} (s:AS w W x0 x1 x2 y0 y1 y2 L) (hb:Below W.heap.size W V):AS w V x0 x1 x2 y0 y1 y2 L :=
 ⟨s.x.later hb,s.y.later hb,s.r.later hb,fun p hp=>(s.bx p hp).later hb,s.gt,s.below.trans (hb.mono s.below.size)⟩
theorem AS.first (w:World) (x0 x1 x2 y0 y1 y2:Value):AS w (((w.alloc (.cells #[x0,x1,x2] 82)).alloc (.cells #[y0,y1,y2] 82)).alloc (.cells #[.bool false,.slice none 0 0,.slice none 0 0] 82)) x0 x1 x2 y0 y1 y2 [] :=
 ⟨⟨by simp[go_sem],by simp[go_sem],by simp[go_sem],by simp[go_sem],by simp[go_sem],by simp[go_sem]⟩,⟨by simp[go_sem],by simp[go_sem],by simp[go_sem],by simp[go_sem],by simp[go_sem],by simp[go_sem]⟩,
  ⟨by simp[go_sem],by simp[go_sem],by simp[go_sem],by simp[go_sem],by simp[go_sem],by simp[go_sem]⟩,(fun _ h=>by cases h),(fun _ h=>by cases h),
  (bA.alloc (by simp) _).alloc (by simp;omega) _⟩
theorem run_copy_size {P:Program} (w:World) (dT sT ty elem:TypeId) (b o dLen dCap:Nat) (a:Addr) (sLen sCap S:Nat) (cs:List Value)
  (hu:P.underlying dT=some (.slice elem)) (hs:(P.info? elem).map (·.size)=some S) (hn:cs.length=Nat.min sLen dLen*S)
  (hsrc:∀j v,cs[j]?=some v→w.cell? (a.add j)=some v) (hc:∀j,j<cs.length→(w.cell? ⟨b,o+j,none⟩).isSome=true) (hf:∀j,j<cs.length→w.frozen? ⟨b,o+j,none⟩=false) (h1:∀v∈cs,v.oneCell'=true) :
  (Builtin.copy_ #[dT,sT] ty #[.slice (some ⟨b,o,none⟩) dLen dCap,.slice (some a) sLen sCap]).run P w=.ok (goInt (Nat.min sLen dLen)) (w.setCells b o cs):=by
 have hl:=run_loadCells_list (P:=P) w a cs hsrc;have hst:=run_storeCells_cells (P:=P) b o cs 0 w (by simpa using hc) (by simpa using hf) h1
 cases hq:P.info? elem with
 | none=>simp[hq]at hs
 | some i=>
  have hi:i.size=S:=by simpa [hq] using hs
  simp[Builtin.copy_,run_underlying hu,Builtin.lenOf,Builtin.firstCells,sizeOf,typeInfo,hq,hi,←hn,hl,hst]
theorem Tryz.elem111:Tryz.prog.underlying 224=some (.slice 82):=by kernel_rfl
theorem Tryz.size82:(Tryz.prog.info? 82).map (·.size)=some 3:=by kernel_rfl
theorem copy_two (B:Nat) (b c:Bool) (a1 a2 a3 a4:Option Addr) (l1 d1 l2 d2 l3 d3 l4 d4:Nat) (w:World)
  (c0:w.cell? ⟨B,0,none⟩=some (.bool b)) (c1:w.cell? ⟨B,1,none⟩=some (.slice a1 l1 d1)) (c2:w.cell? ⟨B,2,none⟩=some (.slice a2 l2 d2)) (c3:w.cell? ⟨B,3,none⟩=some (.bool c)) (c4:w.cell? ⟨B,4,none⟩=some (.slice a3 l3 d3)) (c5:w.cell? ⟨B,5,none⟩=some (.slice a4 l4 d4)) :
  (Builtin.copy_ #[224,224] 3 #[.slice (some ⟨w.heap.size,0,none⟩) 2 2,.slice (some ⟨B,0,none⟩) 2 2]).run Tryz.prog (w.alloc (.cells #[.bool false,.slice none 0 0,.slice none 0 0,.bool false,.slice none 0 0,.slice none 0 0] 82)) =
   .ok (I 2) (w.alloc (.cells #[.bool b,.slice a1 l1 d1,.slice a2 l2 d2,.bool c,.slice a3 l3 d3,.slice a4 l4 d4] 82)):=by
 have hB:B<w.heap.size:=World.block_lt_of_cell? _ _ c0
 have hne:∀k,(w.alloc (.cells #[.bool false,.slice none 0 0,.slice none 0 0,.bool false,.slice none 0 0,.slice none 0 0] 82)).cell? ⟨B,k,none⟩=w.cell? ⟨B,k,none⟩:=fun k=>
  ((Below.refl w.heap.size w).alloc (Nat.le_refl _) _).cell (p:=⟨B,k,none⟩) hB
 have:=run_copy_size (P:=Tryz.prog) (w.alloc (.cells #[.bool false,.slice none 0 0,.slice none 0 0,.bool false,.slice none 0 0,.slice none 0 0] 82)) 224 224 3 82 w.heap.size 0 2 2 ⟨B,0,none⟩ 2 2 3 [.bool b,.slice a1 l1 d1,.slice a2 l2 d2,.bool c,.slice a3 l3 d3,.slice a4 l4 d4] Tryz.elem111 Tryz.size82 rfl
  (by
   intro j v hv;have hj:j<6:=by have:=(List.getElem?_eq_some_iff.1 hv).1;simpa using this
   have e:(⟨B,0,none⟩:Addr).add j=⟨B,j,none⟩:=by unfold Addr.add;split<;>simp_all
   rw[e,hne]
   match j,hj with
   | 0,_=>rw[c0];exact hv
   | 1,_=>rw[c1];exact hv
   | 2,_=>rw[c2];exact hv
   | 3,_=>rw[c3];exact hv
   | 4,_=>rw[c4];exact hv
   | 5,_=>rw[c5];exact hv)
  (by
   intro j hj;have hj:j<6:=by simpa using hj
   match j,hj with
   | 0,_=>simp[go_sem]
   | 1,_=>simp[go_sem]
   | 2,_=>simp[go_sem]
   | 3,_=>simp[go_sem]
   | 4,_=>simp[go_sem]
   | 5,_=>simp[go_sem])
  (by intro j hj;simp[go_sem])
  (by intro v hv;simp at hv;rcases hv with rfl|rfl|rfl|rfl|rfl|rfl<;>rfl)
 rw[this];simp[World.setCells,go_sem,goInt]
end Go.Proofs.YtliadckofhblnaaGreatDoor

/- Lehmer's steps: quotients of Euclid's found from the first digits alone. No program is named here. -/
import Derived.Test.YtliadckofhblnaaGreatDoorLimb3
import Derived.Test.YtliadckofhblnaaGreatDoorCmp
import Derived.Deep.RegionHeld3
import Derived.Deep.QuietTactic
import Derived.BigQuiet
set_option maxHeartbeats 2000000
set_option maxRecDepth 100000
namespace Cub
structure Low (b:Bool) (n d:Nat):Prop where
 pos:0<d
 cop:Nat.gcd n d=1
 sign:b=true→n≠0
def sg (b:Bool) (n:Nat):Int:=if b then -(n:Int)else n
def valQ (b:Bool) (n d:Nat):Rat:=((sg b n:Int):Rat) / ((d:Nat):Rat)
theorem sg_abs (b:Bool) (n:Nat):(sg b n).natAbs=n:=by cases b<;>simp[sg]
theorem sg_mul (b c:Bool) (n m:Nat):sg b n*sg c m=sg (b != c) (n*m):=by
 cases b<;>cases c<;>simp[sg,Int.mul_neg,Int.neg_mul]
theorem sg_mulNat (b:Bool) (n m:Nat):sg b n*(m:Int)=sg b (n*m):=by cases b<;>simp[sg,Int.neg_mul]
theorem sg_zero (b:Bool):sg b 0=0:=by cases b<;>rfl
theorem dR {d:Nat} (h:0<d):((d:Nat):Rat)≠0:=by
 have:d≠0:=by omega
 exact_mod_cast this
theorem div_eq_iff {a b c d:Rat} (hb:b≠0) (hd:d≠0):a / b=c / d↔a*d=c*b:=by
 constructor
 ·intro h;grind
 ·intro h;grind
theorem valQ_eq {b b':Bool} {n d n' d':Nat} (hd:0<d) (hd':0<d'):valQ b n d=valQ b' n' d'↔sg b n*(d':Int)=sg b' n'*(d:Int):=by
 unfold valQ
 rw[div_eq_iff (dR hd) (dR hd')]
 constructor
 ·intro h;exact_mod_cast h
 ·intro h;exact_mod_cast h
theorem low_unique {b b':Bool} {n d n' d':Nat} (h:Low b n d) (h':Low b' n' d') (e:valQ b n d=valQ b' n' d'):b=b'∧n=n'∧d=d':=by
 have e1:=(valQ_eq h.pos h'.pos).1 e
 have e2:n*d'=n'*d:=by
  have:=congrArg Int.natAbs e1
  rw[Int.natAbs_mul,Int.natAbs_mul,sg_abs,sg_abs]at this
  simpa using this
 have d1:d ∣ d':=by
  have:d ∣ n*d':=⟨n',by rw[e2,Nat.mul_comm]⟩
  exact(Nat.Coprime.dvd_of_dvd_mul_left (Nat.Coprime.symm h.cop) this)
 have d2:d' ∣ d:=by
  have:d' ∣ n'*d:=⟨n,by rw[←e2,Nat.mul_comm]⟩
  exact(Nat.Coprime.dvd_of_dvd_mul_left (Nat.Coprime.symm h'.cop) this)
 have ed:d=d':=Nat.dvd_antisymm d1 d2
 subst ed
 have en:n=n':=Nat.eq_of_mul_eq_mul_right h.pos e2
 subst en
 refine⟨?_,rfl,rfl⟩
 have e3:sg b n=sg b' n:=Int.eq_of_mul_eq_mul_right (by have:=h.pos;omega) e1
 by_cases hn:n=0
 ·have hb:b=false:=by cases b with|false=>rfl|true=>exact absurd hn (h.sign rfl)
  have hb':b'=false:=by cases b' with|false=>rfl|true=>exact absurd hn (h'.sign rfl)
  rw[hb,hb']
 ·cases b<;>cases b'<;>first|rfl|(exfalso;simp[sg]at e3;omega)
theorem lowest_cop {n d:Nat} (hd:0<d):Nat.gcd (n / Nat.gcd n d) (d / Nat.gcd n d)=1∧0<d / Nat.gcd n d∧n / Nat.gcd n d*d=n*(d / Nat.gcd n d):=by
 have hg:0<Nat.gcd n d:=Nat.gcd_pos_of_pos_right _ hd
 obtain⟨a,ha⟩:=Nat.gcd_dvd_left n d
 obtain⟨c,hc⟩:=Nat.gcd_dvd_right n d
 have h1:n / Nat.gcd n d=a:=by rw[Nat.div_eq_of_eq_mul_right hg ha]
 have h2:d / Nat.gcd n d=c:=by rw[Nat.div_eq_of_eq_mul_right hg hc]
 refine⟨Nat.coprime_div_gcd_div_gcd hg,?_,?_⟩
 ·rw[h2]
  rcases Nat.eq_zero_or_pos c with h|h
  ·rw[h]at hc;omega
  ·exact h
 ·rw[h1,h2]
  generalize Nat.gcd n d=g at *
  rw[ha,hc]
  grind
theorem mul_low {b c:Bool} {n d m e:Nat} (h:Low b n d) (k:Low c m e) :
  Low ((b != c) && decide (n / Nat.gcd n e*(m / Nat.gcd m d)≠0)) (n / Nat.gcd n e*(m / Nat.gcd m d)) (d / Nat.gcd m d*(e / Nat.gcd n e))∧
   valQ ((b != c) && decide (n / Nat.gcd n e*(m / Nat.gcd m d)≠0)) (n / Nat.gcd n e*(m / Nat.gcd m d)) (d / Nat.gcd m d*(e / Nat.gcd n e))=valQ b n d*valQ c m e:=by
 obtain⟨p1,p2,p3⟩:=lowest_cop (n:=n) k.pos
 obtain⟨q1,q2,q3⟩:=lowest_cop (n:=m) h.pos
 have hn:n / Nat.gcd n e ∣ n:=Nat.div_dvd_of_dvd (Nat.gcd_dvd_left n e)
 have hm:m / Nat.gcd m d ∣ m:=Nat.div_dvd_of_dvd (Nat.gcd_dvd_left m d)
 have hd:d / Nat.gcd m d ∣ d:=Nat.div_dvd_of_dvd (Nat.gcd_dvd_right m d)
 have he:e / Nat.gcd n e ∣ e:=Nat.div_dvd_of_dvd (Nat.gcd_dvd_right n e)
 have hk:=k.pos
 have hh:=h.pos
 have c1:Nat.Coprime (n / Nat.gcd n e) (d / Nat.gcd m d):=Nat.Coprime.coprime_dvd_left hn (Nat.Coprime.coprime_dvd_right hd h.cop)
 have c2:Nat.Coprime (m / Nat.gcd m d) (e / Nat.gcd n e):=Nat.Coprime.coprime_dvd_left hm (Nat.Coprime.coprime_dvd_right he k.cop)
 generalize n / Nat.gcd n e=n' at *
 generalize e / Nat.gcd n e=e' at *
 generalize m / Nat.gcd m d=m' at *
 generalize d / Nat.gcd m d=d' at *
 have hpos:0<d'*e':=Nat.mul_pos q2 p2
 refine⟨⟨hpos,?_,fun hs=>by rw[Bool.and_eq_true,decide_eq_true_iff]at hs;exact hs.2⟩,?_⟩
 ·have a1:Nat.Coprime n' (d'*e'):=Nat.Coprime.mul_right c1 p1
  have a2:Nat.Coprime m' (d'*e'):=Nat.Coprime.mul_right q1 c2
  exact Nat.Coprime.mul_left a1 a2
 ·have e1:valQ b n d*valQ c m e=valQ (b != c) (n*m) (d*e):=by
   unfold valQ
   rw[←sg_mul]
   have x1:=dR hh
   have x2:=dR hk
   push_cast
   grind
  rw[e1,valQ_eq hpos (Nat.mul_pos hh hk),sg_mulNat,sg_mulNat]
  have e2:n'*m'*(d*e)=n*m*(d'*e'):=by
   have:(n'*e)*(m'*d)=(n*e')*(m*d'):=by rw[p3,q3]
   grind
  rw[e2]
  by_cases h0:n'*m'=0
  ·rw[h0,Nat.zero_mul]at e2
   rw[←e2,sg_zero,sg_zero]
  ·simp[h0]
theorem valQ_zero (b:Bool) (d:Nat):valQ b 0 d=0:=by
  unfold valQ
  rw[sg_zero,Rat.div_def]
  push_cast
  exact Rat.zero_mul _
theorem inv_low {b:Bool} {n d:Nat} (h:Low b n d) (hn:n≠0):Low b d n∧valQ b d n=(valQ b n d)⁻¹:=by
  refine⟨⟨by omega,by rw[Nat.gcd_comm];exact h.cop,fun _=>by have:=h.pos;omega⟩,?_⟩
  have x1:=dR h.pos
  have x2:((n:Nat):Rat)≠0:=dR (by omega)
  unfold valQ sg
  cases b<;>simp only[Bool.false_eq_true,if_true,if_false]<;>push_cast<;>grind
theorem num_below (x:Rat):x.num<0↔x<0:=by
  have h:=Rat.num_nonneg (q:=x)
  constructor
  · intro h1
    exact Rat.not_le.1 fun h2=>by have:=h.2 h2;omega
  · intro h1
    have:¬ 0≤x.num:=fun h2=>Rat.not_le.2 h1 (h.1 h2)
    omega
theorem low_of (x:Rat):Low (decide (x<0)) x.num.natAbs x.den∧valQ (decide (x<0)) x.num.natAbs x.den=x:=by
  have hs:sg (decide (x<0)) x.num.natAbs=x.num:=by
    unfold sg
    by_cases h:x<0
    · have:x.num<0:=(num_below x).2 h
      simp only[h,decide_true,if_true];omega
    · have:¬x.num<0:=fun h2=>h ((num_below x).1 h2)
      simp only[h,decide_false,Bool.false_eq_true,if_false];omega
  refine⟨⟨x.den_pos,x.reduced,fun h=>?_⟩,?_⟩
  · have:=(num_below x).2 (of_decide_eq_true h)
    omega
  · unfold valQ
    rw[hs,←Rat.mkRat_eq_div,Rat.mkRat_self]
theorem low_is {b:Bool} {n d:Nat} (h:Low b n d):b=decide (valQ b n d<0)∧n=(valQ b n d).num.natAbs∧d=(valQ b n d).den :=
  low_unique h (low_of _).1 (low_of _).2.symm
theorem valQ_lt {b c:Bool} {n d m e:Nat} (hd:0<d) (he:0<e):valQ b n d<valQ c m e↔sg b n*(e:Int)<sg c m*(d:Int):=by
  unfold valQ
  rw[Rat.div_lt_iff (Rat.natCast_pos.2 hd),Rat.div_def,show((sg c m:Int):Rat)*((e:Nat):Rat)⁻¹*((d:Nat):Rat)=((sg c m:Int):Rat)*((d:Nat):Rat) / ((e:Nat):Rat) by rw[Rat.div_def];grind,Rat.lt_div_iff (Rat.natCast_pos.2 he)]
  constructor
  · intro h;exact_mod_cast h
  · intro h;exact_mod_cast h
def cmpQ (x y:Rat):Int:=if x<y then -1 else if y<x then 1 else 0
theorem sign_val {b:Bool} {n d:Nat} (h:Low b n d):(if b then -1 else if n=0 then(0:Int)else 1)=cmpQ (valQ b n d) 0:=by
  have hz:(0:Rat)=valQ false 0 1:=(valQ_zero false 1).symm
  have hd:=h.pos
  have hb:=h.sign
  unfold cmpQ
  rw[hz]
  simp only[valQ_lt h.pos (show 0<1 by omega),valQ_lt (show 0<1 by omega) h.pos,sg_zero]
  cases b
  · by_cases hn:n=0
    · subst hn;simp[sg]
    · have:0<n:=by omega
      simp[sg,hn,this]
  · have:0<n:=by have:=hb rfl;omega
    simp[sg,this]
end Cub
namespace Go.Proofs.YtliadckofhblnaaGreatDoor
open Go.RowKit
def zCd (w:World) (v:Value) (b:Bool) (n d:Nat):Prop:=∃s t,v=.agg #[.bool b,s,t]∧zAf w (.agg #[s]) n∧zAf w (.agg #[t]) d
theorem zCd.later {w w':World} {v:Value} {b:Bool} {n d:Nat} (h:zCd w v b n d) (hb:Below w.heap.size w w'):zCd w' v b n d:=by
 obtain⟨s,t,rfl,h1,h2⟩:=h;exact⟨s,t,rfl,h1.later hb,h2.later hb⟩
theorem zCd.form {w:World} {v:Value} {b:Bool} {n d:Nat} (h:zCd w v b n d):∃a1 l1 c1 a2 l2 c2,v=.agg #[.bool b,.slice a1 l1 c1,.slice a2 l2 c2]∧zAf w (.agg #[.slice a1 l1 c1]) n∧zAf w (.agg #[.slice a2 l2 c2]) d:=by
 obtain⟨s,t,rfl,h1,h2⟩:=h;obtain⟨a1,l1,c1,e1⟩:=h1.shape;obtain⟨a2,l2,c2,e2⟩:=h2.shape;simp only[Value.agg.injEq,Array.mk.injEq,List.cons.injEq,and_true]at e1 e2;subst e1 e2;exact⟨a1,l1,c1,a2,l2,c2,rfl,h1,h2⟩
theorem inv_any (v:Value) (b:Bool) (n d:Nat) (w:World) (h:zCd w v b n d) :
  Calls Tryz.prog 155 #[v] w fun e w'=>∃v',e=.returned v'∧zCd w' v' b d n∧Bw w w':=by
 obtain⟨a1,l1,c1,a2,l2,c2,rfl,h1,h2⟩:=h.form;have H1:=zAb h1;have H2:=zAb h2;clear h h1 h2;go_enter Tryz.func155,Tryz.ntmps155
 go_wp2
 have hb:Below w.heap.size w ((w.alloc (.cells #[.bool b,.slice a1 l1 c1,.slice a2 l2 c2] 82)).alloc (.cells #[.bool b,.slice a2 l2 c2,.slice a1 l1 c1] 82)):=bA.alloc (by simp) _;exact bodyPost_ret (v:=.agg #[.bool b,.slice a2 l2 c2,.slice a1 l1 c1]) (by simp[results,Tryz.results155,go_sem]) rfl ⟨_,rfl,⟨_,_,rfl,(un H2).later hb,(un H1).later hb⟩,hb⟩
def signI (b:Bool) (n:Nat):Int:=if b then -1 else if n=0 then 0 else 1
theorem sign_any (v:Value) (b:Bool) (n d:Nat) (w:World) (h:zCd w v b n d) :
  Calls Tryz.prog 68 #[v] w fun e w'=>e=.returned (I (signI b n))∧Bw w w':=by
 obtain⟨a1,l1,c1,a2,l2,c2,rfl,h1,h2⟩:=h.form;have hb:Below w.heap.size w (w.alloc (.cells #[.bool b,.slice a1 l1 c1,.slice a2 l2 c2] 82)):=bA;have H37:=zAb (zCk _ n _ (h1.later hb));have HB:=zAb hb;clear h h1 h2 hb
 cases b with
 | true=>
  go_enter Tryz.func68,Tryz.ntmps68
  go_wp2
  go_ret
  exact⟨rfl,un HB⟩
 | false=>
  by_cases hn:n=0
  ·subst hn
   go_enter Tryz.func68,Tryz.ntmps68
   go_wp2_with (go_at_call 153;go_must(refine(un H37).mono ?_;rintro e w1 ⟨rfl,hb1⟩;have HB1:=zAb (bt HB hb1);clear hb1))
   go_ret
   exact⟨rfl,un HB1⟩
  ·have e:(n == 0)=false:=by rw[beq_eq_false_iff_ne];exact hn
   have HE:Hid (signI false n=1):=by show _=_;simp[signI,hn]
   rw[e]at H37;rw[un HE];clear e hn HE;go_enter Tryz.func68,Tryz.ntmps68
   go_wp2_with (go_at_call 153;go_must(refine(un H37).mono ?_;rintro e w1 ⟨rfl,hb1⟩;have HB1:=zAb (bt HB hb1);clear hb1))
   go_ret
   exact⟨rfl,un HB1⟩
def OfInv (u:Nat) (L:List Nat) (q:Nat):Prop:=Cub.limbs 1000000000 L∧Cub.lval 1000000000 L+1000000000 ^ L.length*q=u∧(q=0→Cub.normal 1000000000 L)
theorem OfInv.start (u:Nat):OfInv u [] u:=⟨fun _ h=>(by cases h),by simp[Cub.lval],fun _=>Cub.normal_nil _⟩
theorem OfInv.step {u:Nat} {L:List Nat} {q:Nat} (h:OfInv u L q) (hq:0<q):OfInv u (L ++ [q % 1000000000]) (q / 1000000000):=by
 obtain⟨h1,h2,h3⟩:=h;have hl:Cub.limbs 1000000000 (L ++ [q % 1000000000]):=Cub.limbs_append.2 ⟨h1,fun x hx=>by simp at hx;subst hx;exact Nat.mod_lt _ (by decide)⟩;refine⟨hl,?_,fun h0=>⟨hl,?_⟩⟩
 ·rw[Cub.lval_snoc,List.length_append,List.length_singleton,Nat.pow_succ,Nat.mul_assoc,Nat.add_assoc,←Nat.mul_add]
  rw[Nat.mod_add_div];exact h2
 ·rw[List.getLast?_append]
  simp
  omega
theorem OfInv.short {u:Nat} {L:List Nat} {q:Nat} (h:OfInv u L q) (hq:0<q) (hu:u<18446744073709551616):L.length≤2:=by
 have h2:=h.2.1;have h3:1000000000 ^ L.length≤1000000000 ^ L.length*q:=Nat.le_mul_of_pos_right _ hq
 apply Decidable.byContradiction
 intro hc;have h4:1000000000 ^ 3≤1000000000 ^ L.length:=Nat.pow_le_pow_right (by decide) (by omega)
 omega
theorem zFa (u:Nat) (w:World) (hu:u<18446744073709551616) :
  Calls Tryz.prog 210 #[.int .u64 (u:Int)] w fun e w'=>∃a n c,e=.returned (.agg #[.slice a n c])∧zAf w' (.agg #[.slice a n c]) u∧Bw w w':=by
 obtain⟨i0,hi,hz0,hz1,hz2⟩:=info_parts Tryz.info168;go_enter Tryz.func210,Tryz.ntmps210
 go_wp2
 go_loopw [0,3] (fun t v wr=>∃(q:Nat) (L:List Nat),t=.int .u64 (q:Int)∧q<18446744073709551616∧L.length≤3∧Hid (OfInv u L q)∧wr.ownsRow (w.heap.size+1) 168 1 v L.length (zCx L)∧Below (w.heap.size+1) (w.alloc (.cells #[.slice none 0 0] 80)) wr) (fun t _ _=>(intOf t).toNat)
 case atStart=>exact⟨u,[],rfl,hu,by simp,OfInv.start u,⟨rfl,Or.inl ⟨rfl,rfl⟩⟩,Below.refl _ _⟩
 case round=>
  obtain⟨q,L,rfl,hq,hL,HI,hown,hb⟩:=hrel
  by_cases h0:0<q
  ·have hL2:=(un HI).short h0 hu
   have HI':=zAb ((un HI).step h0);have hr:q % 1000000000<1000000000:=Nat.mod_lt _ (by decide)
   go_wp2_with (at_builtin;refine wpList_append_own _ rfl _ _ 78 rfl (w.heap.size+1) 168 i0 (.int .u64 0) 1 8 Tryz.underlying78 hi hz0 hz1 hz2 rfl (by decide) _ _ _ rfl (hown.alloc _) ⟨wr.heap.size,0,none⟩ 1 1 [.int .u64 ((q % 1000000000:Nat):Int)] rfl rfl (cell_one_new _ _ _) (fun x hx=>by simp at hx;subst hx;rfl) (by unfold maxLen;omega) (by omega) (by have:=hb.size;simp at this ⊢;omega) ?_;intro v' w1 hown' hgrow _)
   have hsz:=hb.size;have hb':Below (w.heap.size+1) (w.alloc (.cells #[.slice none 0 0] 80)) w1:=(hb.alloc (by simp at hsz;omega) _).grown hgrow (by simp at hsz ⊢;omega) (fun j hj=>(hown.lt j hj).1);have hown2:w1.ownsRow (w.heap.size+1) 168 1 v' (L ++ [q % 1000000000]).length (zCx (L ++ [q % 1000000000])):=by simpa [zCx] using hown'
   clear hgrow hown' hown hsz
   go_wp2
   go_roundw
   case rel=>exact⟨q / 1000000000,L ++ [q % 1000000000],by go_num,by omega,by simp;omega,HI',hown2,hb'⟩
   case measure=>simp[intOf];omega
  ·have hq0:q=0:=by omega
   subst hq0;have hrow:=Row.of_own hown;have HF:Hid (Cub.lval 1000000000 L=u∧Cub.normal 1000000000 L):=⟨by have:=(un HI).2.1;simpa using this,(un HI).2.2 rfl⟩;have hsz:w.heap.size+1≤wr.heap.size:=by have:=hb.size;simpa using this
   have hc0:wr.cell? ⟨w.heap.size,0,none⟩=some (.slice none 0 0):=by rw[hb.cell (p:=⟨w.heap.size,0,none⟩) (by simp)];simp
   have hf0:wr.frozen? ⟨w.heap.size,0,none⟩=false:=by rw[hb.frozen (p:=⟨w.heap.size,0,none⟩) (by simp)];simp
   obtain⟨a2,cap2,rfl,hcap2⟩:=hrow.form;have HRow:=zAb hrow;clear hrow hown
   go_wp2
   refine bodyPost_ret (v:=.agg #[.slice a2 L.length cap2]) (by simp[results,Tryz.results210,go_sem,hc0]) rfl ⟨_,_,_,rfl,?_,?_⟩
   ·exact⟨_,_,rfl,(un HRow).box _ hc0 (fun _ _ h=>by cases h),(un HF).2,(un HF).1⟩
   ·exact(bA.trans (hb.mono (Nat.le_succ _))).setCell (Nat.le_refl _) _
structure FBox (W:World) (g:Nat) (x y z:Value):Prop where
 c0:W.cell? ⟨g,0,none⟩=some x
 c1:W.cell? ⟨g,1,none⟩=some y
 c2:W.cell? ⟨g,2,none⟩=some z
 f0:W.frozen? ⟨g,0,none⟩=false
 f1:W.frozen? ⟨g,1,none⟩=false
 f2:W.frozen? ⟨g,2,none⟩=false
theorem FBox.lt {W:World} {g:Nat} {x y z:Value} (h:FBox W g x y z):g<W.heap.size:=World.block_lt_of_cell? _ _ h.c0
theorem FBox.later {W V:World} {g:Nat} {x y z:Value} (h:FBox W g x y z) (hb:Below W.heap.size W V):FBox V g x y z :=
 ⟨(hb.cell (p:=⟨g,0,none⟩) h.lt).trans h.c0,(hb.cell (p:=⟨g,1,none⟩) h.lt).trans h.c1,(hb.cell (p:=⟨g,2,none⟩) h.lt).trans h.c2,
  (hb.frozen (p:=⟨g,0,none⟩) h.lt).trans h.f0,(hb.frozen (p:=⟨g,1,none⟩) h.lt).trans h.f1,(hb.frozen (p:=⟨g,2,none⟩) h.lt).trans h.f2⟩
def zAs (W:World) (g:Nat) (x y z:Value):World:=((W.setCell ⟨g,0,none⟩ x).setCell ⟨g,1,none⟩ y).setCell ⟨g,2,none⟩ z
theorem FBox.store {W:World} {g:Nat} {x y z:Value} (h:FBox W g x y z) (x' y' z':Value):FBox (zAs W g x' y' z') g x' y' z':=by
 have a1:(W.setCell ⟨g,0,none⟩ x').cell? ⟨g,1,none⟩=some y:=by rw[World.cell?_setCell_other _ _ _ _ (by simp)];exact h.c1
 have a2:((W.setCell ⟨g,0,none⟩ x').setCell ⟨g,1,none⟩ y').cell? ⟨g,2,none⟩=some z:=by rw[World.cell?_setCell_other _ _ _ _ (by simp),World.cell?_setCell_other _ _ _ _ (by simp)];exact h.c2
 unfold zAs;refine⟨?_,?_,World.cell?_setCell_same _ _ _ a2,?_,?_,?_⟩
 ·rw[World.cell?_setCell_other _ _ _ _ (by simp),World.cell?_setCell_other _ _ _ _ (by simp)];exact World.cell?_setCell_same _ _ _ h.c0
 ·rw[World.cell?_setCell_other _ _ _ _ (by simp)];exact World.cell?_setCell_same _ _ _ a1
 ·rw[World.frozen?_setCell,World.frozen?_setCell,World.frozen?_setCell];exact h.f0
 ·rw[World.frozen?_setCell,World.frozen?_setCell,World.frozen?_setCell];exact h.f1
 ·rw[World.frozen?_setCell,World.frozen?_setCell,World.frozen?_setCell];exact h.f2
theorem FBox.big {W:World} {g:Nat} {b:Bool} {a1 a2:Option Addr} {l1 c1 l2 c2:Nat} (h:FBox W g (.bool b) (.slice a1 l1 c1) (.slice a2 l2 c2)) (x' y' z':Value) {v:Value} {n:Nat} (hv:zAf W v n):zAf (zAs W g x' y' z') v n:=by
 have e1:(W.setCell ⟨g,0,none⟩ x').cell? ⟨g,1,none⟩=some (.slice a1 l1 c1):=by rw[World.cell?_setCell_other _ _ _ _ (by simp)];exact h.c1
 have e2:((W.setCell ⟨g,0,none⟩ x').setCell ⟨g,1,none⟩ y').cell? ⟨g,2,none⟩=some (.slice a2 l2 c2):=by rw[World.cell?_setCell_other _ _ _ _ (by simp),World.cell?_setCell_other _ _ _ _ (by simp)];exact h.c2
 exact((hv.box _ h.c0 (fun _ _ e=>by cases e)).box _ e1 (zAp _ _ _)).box _ e2 (zAp _ _ _)
theorem zAq {B g:Nat} {w W:World} (h:Below B w W) (hg:B≤g) (x y z:Value):Below B w (zAs W g x y z) :=
 ((h.setCell (p:=⟨g,0,none⟩) hg x).setCell (p:=⟨g,1,none⟩) hg y).setCell (p:=⟨g,2,none⟩) hg z
theorem whole_any (u:Nat) (w:World) (hu:u<18446744073709551616) :
  Calls Tryz.prog 154 #[.int .u64 (u:Int)] w fun e w'=>∃v',e=.returned v'∧zCd w' v' false u 1∧Bw w w':=by
 have HB0:Hid (Bw w (w.alloc (.cells #[.bool false,.slice none 0 0,.slice none 0 0] 82))):=bA;have H1:=zAb (zFa u (w.alloc (.cells #[.bool false,.slice none 0 0,.slice none 0 0] 82)) hu);have H2:=zAb (fun W=>zFa 1 W (by omega))
 have HC:Hid (∀W,Below (w.heap.size+1) (w.alloc (.cells #[.bool false,.slice none 0 0,.slice none 0 0] 82)) W→W.cell? ⟨w.heap.size,0,none⟩=some (.bool false)∧W.cell? ⟨w.heap.size,1,none⟩=some (.slice none 0 0)∧W.cell? ⟨w.heap.size,2,none⟩=some (.slice none 0 0)∧W.frozen? ⟨w.heap.size,0,none⟩=false∧W.frozen? ⟨w.heap.size,1,none⟩=false∧W.frozen? ⟨w.heap.size,2,none⟩=false):=fun W hb=>by
  refine⟨?_,?_,?_,?_,?_,?_⟩
  ·rw[hb.cell (p:=⟨w.heap.size,0,none⟩) (show w.heap.size<w.heap.size+1 by omega)];simp[go_sem]
  ·rw[hb.cell (p:=⟨w.heap.size,1,none⟩) (show w.heap.size<w.heap.size+1 by omega)];simp[go_sem]
  ·rw[hb.cell (p:=⟨w.heap.size,2,none⟩) (show w.heap.size<w.heap.size+1 by omega)];simp[go_sem]
  ·rw[hb.frozen (p:=⟨w.heap.size,0,none⟩) (show w.heap.size<w.heap.size+1 by omega)];simp[go_sem]
  ·rw[hb.frozen (p:=⟨w.heap.size,1,none⟩) (show w.heap.size<w.heap.size+1 by omega)];simp[go_sem]
  ·rw[hb.frozen (p:=⟨w.heap.size,2,none⟩) (show w.heap.size<w.heap.size+1 by omega)];simp[go_sem]
 clear hu;go_enter Tryz.func154,Tryz.ntmps154
 go_wp2_with (first
  | (go_at_call_of 210 (Value.int .u64 (u:Int));go_must(refine(un H1).mono ?_;rintro e w1 ⟨a1,l1,c1,rfl,hv1,hb1⟩;have HV1:=zAb hv1;have HB1:=zAb hb1;have hs1:=hb1.size;clear hv1 hb1))
  | (go_at_call 210;go_must(refine(un H2 w1).mono ?_;rintro e w2 ⟨a2,l2,c2,rfl,hv2,hb2⟩;have HV2:=zAb hv2;have HV1':=zAb ((un HV1).later hb2);have HB2:=zAb ((un HB1).trans (hb2.mono hs1));have h1:w.heap.size+1≤(w.alloc (.cells #[.bool false,.slice none 0 0,.slice none 0 0] 82)).heap.size:=(by simp);obtain⟨q0,q1,q2,g0,g1,g2⟩:=un HC w2 ((un HB2).mono h1);clear hv2 hb2)))
 have hF:FBox w2 w.heap.size (.bool false) (.slice none 0 0) (.slice none 0 0):=⟨q0,q1,q2,g0,g1,g2⟩;have hS:=hF.store (.bool false) (.slice a1 l1 c1) (.slice a2 l2 c2);have hb:Below w.heap.size w (zAs w2 w.heap.size (.bool false) (.slice a1 l1 c1) (.slice a2 l2 c2)):=zAq ((un HB0).trans ((un HB2).mono (by simp))) (Nat.le_refl _) _ _ _;have r0:=hS.c0;have r1:=hS.c1;have r2:=hS.c2;exact bodyPost_ret (v:=.agg #[.bool false,.slice a1 l1 c1,.slice a2 l2 c2]) (w:=zAs w2 w.heap.size (.bool false) (.slice a1 l1 c1) (.slice a2 l2 c2)) (by simp[results,Tryz.results154,go_sem,r0,r1,r2]) rfl ⟨_,rfl,⟨_,_,rfl,hF.big _ _ _ (un HV1'),hF.big _ _ _ (un HV2)⟩,hb⟩
end Go.Proofs.YtliadckofhblnaaGreatDoor
namespace Cub
theorem takeB (B:Nat) (l:List Nat) (i:Nat):lval B (l.take (i+1))=lval B (l.take i)+B ^ i*l.getD i 0:=by
 by_cases h:i<l.length
 ·rw[List.take_succ_eq_append_getElem h,lval_snoc,List.length_take,Nat.min_eq_left (by omega)]
  simp[List.getD,h]
 ·rw[List.take_of_length_le (by omega),List.take_of_length_le (by omega)]
  simp[List.getD,Nat.le_of_not_lt h]
structure Acc (B:Nat) (O:List Nat) (c p V:Nat):Prop where
 lim:limbs B O
 val:lval B O+B ^ p*c=V
theorem Acc.step {B:Nat} {O:List Nat} {c p V:Nat} (h:Acc B O c p V) (hB:0<B) (hp:p<O.length) (t:Nat) :
  Acc B (O.set p ((c+O[p]+t) % B)) ((c+O[p]+t) / B) (p+1) (V+B ^ p*t):=by
 refine⟨limbs_set h.lim p _ (Nat.mod_lt _ hB),?_⟩
 have e1:=lval_set B O p ((c+O[p]+t) % B) hp
 have e2:=h.val
 have e3:c+O[p]+t=B*((c+O[p]+t) / B)+(c+O[p]+t) % B:=(Nat.div_add_mod _ _).symm
 generalize (c+O[p]+t) / B=q at *
 generalize (c+O[p]+t) % B=r at *
 have e4:=congrArg (B ^ p*·) e3
 simp only[Nat.mul_add]at e4
 rw[Nat.pow_succ]
 have m1:B ^ p*B*q=B ^ p*(B*q):=Nat.mul_assoc _ _ _
 omega
theorem carry_lt (B c o x y:Nat) (hc:c<B) (ho:o<B) (hx:x<B) (hy:y<B):(c+o+x*y) / B<B:=by
 apply Nat.div_lt_of_lt_mul
 obtain⟨b,rfl⟩:∃b,B=b+1:=⟨B - 1,by omega⟩
 have h1:x*y≤b*b:=Nat.mul_le_mul (by omega) (by omega)
 have h2:(b+1)*(b+1)=b*b+b+b+1:=by rw[Nat.add_mul,Nat.mul_add];omega
 omega
theorem get_zero {B:Nat} {O:List Nat} {p:Nat} (h:lval B O<B ^ p) (hp:p<O.length):O[p]=0:=by
 rcases Nat.eq_zero_or_pos O[p]with h0|h0
 ·exact h0
 ·have e:=lval_set B O p 0 hp
  have:B ^ p*1≤B ^ p*O[p]:=Nat.mul_le_mul_left _ h0
  omega
theorem mul_lt (B:Nat) (x y:List Nat) (hx:limbs B x) (hy:limbs B y) (i:Nat):lval B (x.take i)*lval B y<B ^ (i+y.length)∨B=0:=by
 rcases Nat.eq_zero_or_pos B with h0|h0
 ·exact Or.inr h0
 ·left
  have h1:=lval_lt (B:=B) (l:=x.take i) (fun z hz=>hx z (List.mem_of_mem_take hz))
  have h2:=lval_lt hy
  have h3:B ^ (x.take i).length≤B ^ i:=Nat.pow_le_pow_right h0 (List.length_take_le _ _)
  rw[Nat.pow_add]
  exact Nat.mul_lt_mul'' (by omega) h2
theorem lval_zeros (B n:Nat):lval B (List.replicate n 0)=0:=by
 induction n with
 | zero=>rfl
 | succ n ih=>simp[List.replicate_succ,lval,ih]
theorem limbs_zeros (B n:Nat) (hB:0<B):limbs B (List.replicate n 0):=fun x hx=>by
 rw[List.mem_replicate]at hx;omega
theorem val_inner (B a i k:Nat) (y:List Nat) (V:Nat):V+B ^ i*(a*lval B (y.take k))+B ^ (i+k)*(a*y.getD k 0)=V+B ^ i*(a*lval B (y.take (k+1))):=by
 rw[takeB,Nat.mul_add,Nat.mul_add,Nat.pow_add]
 have:B ^ i*(a*(B ^ k*y.getD k 0))=B ^ i*B ^ k*(a*y.getD k 0):=by
  rw[Nat.mul_left_comm a,←Nat.mul_assoc]
 omega
theorem val_outer (B i:Nat) (x y:List Nat):lval B (x.take i)*lval B y+B ^ i*(x.getD i 0*lval B y)=lval B (x.take (i+1))*lval B y:=by
 rw[takeB,Nat.add_mul,Nat.mul_assoc]
end Cub
namespace Go.Proofs.YtliadckofhblnaaGreatDoor
open Go.RowKit
structure OutU (w wr:World) (a b:Value) (N:Nat) (O:List Nat):Prop where
 own:Own wr (w.heap.size+1+1+1) O
 len:O.length=N
 box:Boxes3 w wr a b (.slice none 0 0)
theorem OutU.set {w wr:World} {a b:Value} {N:Nat} {O:List Nat} (h:OutU w wr a b N O) (p x:Nat) (z:Int) (hz:z=(x:Int)):OutU w (wr.setCell ⟨w.heap.size+1+1+1,p,none⟩ (.int .u64 z)) a b N (O.set p x):=by
 subst hz;exact⟨h.own.set p x,by rw[List.length_set];exact h.len,h.box.on ((Below.refl (w.heap.size+3) wr).setCell (p:=⟨w.heap.size+1+1+1,p,none⟩) (show w.heap.size+3≤w.heap.size+1+1+1 by omega) _)⟩
theorem mul_any (x y:Value) (m n k:Nat) (w:World) (hx:zAf w x m) (hy:zAf w y n) (hk:k≤1000000) (hm:m<1000000000 ^ k) (hn:n<1000000000 ^ k) :
 Calls Tryz.prog 151 #[x,y] w fun e w'=>∃v,e=.returned v∧zAf w' v (m*n)∧Bw w w':=by
 obtain⟨ap,lp,cp,rfl,hlp,hrp,hnp,rfl⟩:=hx.form;obtain⟨aq,lq,cq,rfl,hlq,hrq,hnq,rfl⟩:=hy.form;have h1:=Cub.len_le hnp hm;have h2:=Cub.len_le hnq hn;have HP:Hid (Cub.limbs 1000000000 lp∧Cells w ap lp):=⟨hnp.1,hrp.cells.2.2.2⟩;have HQ:Hid (Cub.limbs 1000000000 lq∧Cells w aq lq):=⟨hnq.1,hrq.cells.2.2.2⟩;obtain⟨np,hnp'⟩:∃np,np=lp.length:=⟨_,rfl⟩;obtain⟨nq,hnq'⟩:∃nq,nq=lq.length:=⟨_,rfl⟩;rw[←hnp']at h1 ⊢;rw[←hnq']at h2 ⊢;have HNP:=zAb hnp';have HNQ:=zAb hnq';clear hx hy hm hn hlp hlq hrp hrq hnp hnq hnp' hnq';obtain⟨i0,hi,hz0,hz1,hz2⟩:=info_parts Tryz.info168;go_enter Tryz.func151,Tryz.ntmps151
 go_wp2_with (first
  | (at_make;go_must(refine wpList_make_full _ rfl _ _ 78 rfl (w.heap.size+3) 168 i0 (.int .u64 0) 1 Tryz.underlying78 hi hz0 hz1 .i64 .i64 _ _ (np+nq) rfl rfl (by omega) (by omega) (by rw[hz2];omega) (by unfold maxLen;omega) (by simp) ?_;intro w4 hown4 hgrow4;rw[zDw]at hown4;have hO4:Own w4 (w.heap.size+1+1+1) (List.replicate (np+nq) 0):=(by have:=Own.of_row hown4;simpa using this);have hB4:=boxes3 ((Below.refl (w.heap.size+3) _).grown hgrow4 (by simp) (fun k hk=>by cases hk));have bp4:=hB4.c1;have HO4:Hid (OutU w w4 (.slice ap np cp) (.slice aq nq cq) (np+nq) (List.replicate (np+nq) 0)):=⟨hO4,List.length_replicate ..,hB4⟩;clear hown4 hgrow4 hO4 hB4)))
 go_loopw [22] (fun t wr=>∃(i:Nat) (O:List Nat),t=I (i:Int)∧i≤np∧Hid (OutU w wr (.slice ap np cp) (.slice aq nq cq) (np+nq) O)∧Hid (Cub.limbs 1000000000 O∧Cub.lval 1000000000 O=Cub.lval 1000000000 (lp.take i)*Cub.lval 1000000000 lq)) (fun t _=>np - (intOf t).toNat)
 case atStart=>exact⟨0,_,rfl,by omega,HO4,⟨Cub.limbs_zeros _ _ (by decide),by rw[Cub.lval_zeros];simp[Cub.lval]⟩⟩
 case round=>
  obtain⟨i,O,rfl,hi',HO,HV⟩:=hrel;clear bp4;have bq:=(un HO).box.c2
  by_cases hin:i<np
  ·have hil:i<lp.length:=by have:=un HNP;omega
   obtain⟨xv,hxv⟩:∃xv,xv=lp[i]:=⟨_,rfl⟩;have hxB:xv<1000000000:=by rw[hxv];exact(un HP).1 _ (List.getElem_mem hil)
   have HXV:Hid (lp.getD i 0=xv):=by rw[hxv,List.getD_eq_getElem?_getD,List.getElem?_eq_getElem hil];exact rfl
   obtain⟨b1,o1,rfl,hcx⟩:=(un HP).2 wr (un HO).box.below i hil;rw[←hxv]at hcx;clear hxv
   by_cases hx0:xv=0
   ·subst hx0
    have HVn:Hid (Cub.limbs 1000000000 O∧Cub.lval 1000000000 O=Cub.lval 1000000000 (lp.take (i+1))*Cub.lval 1000000000 lq):=by
     refine⟨(un HV).1,?_⟩;rw[←Cub.val_outer,un HXV,(un HV).2];simp
    go_wp2
    go_roundw
    case rel=>exact⟨i+1,O,by go_num,by omega,HO,HVn⟩
    case measure=>simp[intOf];omega
   ·have hxz:((xv:Int) == 0)=false:=by rw[beq_eq_false_iff_ne];omega
    have HA0:Hid (Cub.Acc 1000000000 O 0 (i+0) (Cub.lval 1000000000 (lp.take i)*Cub.lval 1000000000 lq+1000000000 ^ i*(xv*Cub.lval 1000000000 (lq.take 0)))):=by
     refine⟨(un HV).1,?_⟩;rw[(un HV).2];simp[Cub.lval]
    have HZ0:Hid (∀p (hp:p<O.length),i+nq≤p→O[p]=0):=fun p hp hip=>by
     apply Cub.get_zero (B:=1000000000) (p:=p) _ hp
     rw[(un HV).2];rcases Cub.mul_lt 1000000000 lp lq (un HP).1 (un HQ).1 i with h|h
     ·refine Nat.lt_of_lt_of_le h (Nat.pow_le_pow_right (by decide) ?_)
      have:=un HNQ;omega
     ·omega
    generalize hV0:Cub.lval 1000000000 (lp.take i)*Cub.lval 1000000000 lq=V0 at *
    have HV0:=zAb hV0;clear hV0 hx0
    go_wp2
    go_loopw [8,32] (fun c t wq=>∃(k j:Nat) (P:List Nat),c=.int .u64 (k:Int)∧t=I (j:Int)∧j≤nq∧k<1000000000∧Hid (OutU w wq (.slice (some ⟨b1,o1,none⟩) np cp) (.slice aq nq cq) (np+nq) P)∧Hid (∀p (hp:p<P.length),i+nq≤p→P[p]=0)∧Hid (Cub.Acc 1000000000 P k (i+j) (V0+1000000000 ^ i*(xv*Cub.lval 1000000000 (lq.take j))))) (fun _ t _=>nq - (intOf t).toNat)
    case atStart=>exact⟨0,0,O,rfl,rfl,by omega,by omega,HO,HZ0,HA0⟩
    case round=>
     clear bq hcx;obtain⟨k,j,P,rfl,rfl,hj,hk,HP',HZ,HA⟩:=hrel;have bq:=(un HP').box.c2
     by_cases hjn:j<nq
     ·have hpl:i+j<P.length:=by rw[(un HP').len];omega
      have hjl:j<lq.length:=by have:=un HNQ;omega
      obtain⟨ov,hov⟩:∃ov,ov=P[i+j]:=⟨_,rfl⟩;have hoB:ov<1000000000:=by rw[hov];exact(un HA).lim _ (List.getElem_mem hpl)
      have hco:=(un HP').own.cell (i+j) hpl;rw[←hov]at hco;have hfo:=(un HP').own.frozen (i+j);obtain⟨yv,hyv⟩:∃yv,yv=lq[j]:=⟨_,rfl⟩;have hyB:yv<1000000000:=by rw[hyv];exact(un HQ).1 _ (List.getElem_mem hjl)
      obtain⟨b2,o2,rfl,hcy⟩:=(un HQ).2 wr (un HP').box.below j hjl;rw[←hyv]at hcy;have HYV:Hid (lq.getD j 0=yv):=by rw[hyv,List.getD_eq_getElem?_getD,List.getElem?_eq_getElem hjl];exact rfl
      obtain⟨m,hm⟩:∃m,m=xv*yv:=⟨_,rfl⟩;have hmB:m≤999999998000000001:=by rw[hm];exact Nat.mul_le_mul (show xv≤999999999 by omega) (show yv≤999999999 by omega)
      have hmul:(xv:Int)*(yv:Int)=(m:Int):=by rw[hm];simp
      have HA':Hid (Cub.Acc 1000000000 (P.set (i+j) ((k+ov+m) % 1000000000)) ((k+ov+m) / 1000000000) (i+(j+1)) (V0+1000000000 ^ i*(xv*Cub.lval 1000000000 (lq.take (j+1))))):=by
       have h:=(un HA).step (by decide) hpl (xv*lq.getD j 0);rw[Cub.val_inner,un HYV,←hm,←hov]at h;exact h
      have hk':(k+ov+m) / 1000000000<1000000000:=by rw[hm];exact Cub.carry_lt 1000000000 k ov xv yv hk hoB hxB hyB
      have HZ':Hid (∀p (hp:p<(P.set (i+j) ((k+ov+m) % 1000000000)).length),i+nq≤p→(P.set (i+j) ((k+ov+m) % 1000000000))[p]=0):=fun p hp hip=>by
       rw[List.getElem_set_ne (by omega)];exact un HZ p (by rw[List.length_set]at hp;exact hp) hip
      have HPn:Hid (OutU w (wr.setCell ⟨w.heap.size+1+1+1,i+j,none⟩ (.int .u64 (((k:Int)+((ov:Int)+(m:Int))) % 1000000000))) (.slice (some ⟨b1,o1,none⟩) np cp) (.slice (some ⟨b2,o2,none⟩) nq cq) (np+nq) (P.set (i+j) ((k+ov+m) % 1000000000))):=(un HP').set (i+j) ((k+ov+m) % 1000000000) _ (by omega);clear hov hyv hjl hm hpl HA HZ
      go_wp2
      go_roundw
      case rel=>exact⟨(k+ov+m) / 1000000000,j+1,P.set (i+j) ((k+ov+m) % 1000000000),by go_num,by go_num,by omega,hk',HPn,HZ',HA'⟩
      case measure=>simp[intOf];omega
     ·have hje:j=nq:=by omega
      subst hje;have hpl:i+j<P.length:=by rw[(un HP').len];omega
      have hz:=un HZ (i+j) hpl (Nat.le_refl _);have hco:=(un HP').own.cell (i+j) hpl;rw[hz]at hco;have hfo:=(un HP').own.frozen (i+j)
      have HVn:Hid (Cub.limbs 1000000000 (P.set (i+j) k)∧Cub.lval 1000000000 (P.set (i+j) k)=Cub.lval 1000000000 (lp.take (i+1))*Cub.lval 1000000000 lq):=by
       have h:=(un HA).val;rw[List.take_of_length_le (by have:=un HNQ;omega),←un HV0,←un HXV,Cub.val_outer]at h;refine⟨Cub.limbs_set (un HA).lim _ _ hk,?_⟩;have e:=Cub.lval_set 1000000000 P (i+j) k hpl;rw[hz]at e
       omega
      have HPn:Hid (OutU w (wr.setCell ⟨w.heap.size+1+1+1,i+j,none⟩ (.int .u64 (k:Int))) (.slice (some ⟨b1,o1,none⟩) np cp) (.slice aq j cq) (np+j) (P.set (i+j) k)):=(un HP').set (i+j) k _ rfl;clear hpl hz HA HZ
      go_wp2
      go_roundw
      case rel=>exact⟨i+1,P.set (i+j) k,by go_num,by omega,HPn,HVn⟩
      case measure=>simp[intOf];omega
  ·obtain⟨t1,t2,_⟩:=Cub.lval_trim 1000000000 _ O rfl
   have HF:Hid (Cub.normal 1000000000 (Cub.trimN O)∧Cub.lval 1000000000 (Cub.trimN O)=Cub.lval 1000000000 lp*Cub.lval 1000000000 lq):=by
    refine⟨t2 (un HV).1,?_⟩;rw[t1,(un HV).2,List.take_of_length_le (by have:=un HNP;omega)]
   have hsz:=(un HO).box.size;have br:=(un HO).box.c3;have fr:=(un HO).box.f3;clear t1 t2
   go_wp2_with (go_at_call 217;refine(zEi _ O _ ((un HO).own.row (np+nq) (np+nq) (un HO).len.symm (Nat.le_refl _) (by unfold maxLen;omega))).mono ?_;rintro e w6 ⟨v',rfl,hrow6,hb6⟩;obtain⟨a6,cap6,rfl,hcap6⟩:=hrow6.form;obtain⟨hc6,hf6⟩:=zBt hb6 (g:=w.heap.size+1+1) (by omega) br fr)
   refine bodyPost_ret (v:=.agg #[.slice a6 (Cub.trimN O).length cap6]) (by simp[results,Tryz.results151,go_sem,hc6]) rfl ⟨_,rfl,?_,?_⟩
   ·exact⟨_,_,rfl,hrow6.box _ hc6 (zBi _ _ _),(un HF).1,(un HF).2⟩
   ·exact((un HO).box.below.trans (hb6.mono (by omega))).setCell (p:=⟨w.heap.size+1+1,0,none⟩) (show w.heap.size≤w.heap.size+1+1 by omega) _
end Go.Proofs.YtliadckofhblnaaGreatDoor
namespace Cub
structure Ev (x0 y0 x y A B C D:Int):Prop where
 ex:x=A*x0+B*y0
 ey:y=C*x0+D*y0
 sA:0≤A
 sB:B≤0
 sC:C≤0
 sD:0≤D
 det:A*D - B*C=1
 p1:0≤x+A
 p2:0≤x+B
 r1:0≤y+C
 r2:0≤y+D
 bA:A≤1000000000
 bB:-1000000000≤B
 bC:-1000000000≤C
 bD:D≤1000000000
theorem Ev.start (x0 y0:Int) (hx:0≤x0) (hy:0≤y0):Ev x0 y0 x0 y0 1 0 0 1:=by
 constructor<;>omega
theorem sq_bound {C y:Int} (h0:0≤C) (h1:C≤y) (h2:C*y<1000000000000000000):C≤1000000000:=by
 apply Decidable.byContradiction
 intro hc
 have h3:1000000000≤y:=by omega
 have h4:1000000000*1000000000≤C*y:=Int.mul_le_mul (by omega) h3 (by omega) (by omega)
 omega
theorem Ev.step {x0 y0 x y A B C D q:Int} (h:Ev x0 y0 x y A B C D) (hq:0≤q) (a1:q*(y+C)≤x+A) (a2:x+A<q*(y+C)+(y+C)) (b1:q*(y+D)≤x+B)
  (hx:x0<1000000000000000000) (hy:y0<1000000000000000000):Ev y0 x0 y (x - q*y) D C (B - q*D) (A - q*C):=by
 have qD:0≤q*D:=Int.mul_nonneg hq h.sD
 have qC:q*C≤0:=Int.mul_nonpos_of_nonneg_of_nonpos hq h.sC
 have e1:q*(y+C)=q*y+q*C:=Int.mul_add ..
 have e2:q*(y+D)=q*y+q*D:=Int.mul_add ..
 have sA:=h.sA;have sB:=h.sB;have sC:=h.sC;have sD:=h.sD
 have ex:=h.ex;have ey:=h.ey;have det:=h.det
 have r1:=h.r1;have r2:=h.r2
 have hy1:0≤x - q*y:=by omega
 have k1:(A - q*C)*y - C*(x - q*y)=y0:=by
  have:(A - q*C)*y - C*(x - q*y)=A*y - C*x:=by grind
  rw[this,ex,ey]
  have:A*(C*x0+D*y0) - C*(A*x0+B*y0)=(A*D - B*C)*y0:=by grind
  rw[this,det,Int.one_mul]
 have k2:(q*D - B)*y+D*(x - q*y)=x0:=by
  have:(q*D - B)*y+D*(x - q*y)=D*x - B*y:=by grind
  rw[this,ex,ey]
  have:D*(A*x0+B*y0) - B*(C*x0+D*y0)=(A*D - B*C)*x0:=by grind
  rw[this,det,Int.one_mul]
 have m1:0≤-(C*(x - q*y)):=by
  have:=Int.mul_nonpos_of_nonpos_of_nonneg sC hy1
  omega
 have m2:0≤D*(x - q*y):=Int.mul_nonneg sD hy1
 have c1:A - q*C≤1000000000:=sq_bound (y:=y) (by omega) (by omega) (by omega)
 have c2:q*D - B≤1000000000:=sq_bound (y:=y) (by omega) (by omega) (by omega)
 refine⟨?_,?_,sD,sC,by omega,by omega,?_,r2,r1,by omega,by omega,h.bD,h.bC,by omega,c1⟩
 ·rw[ey];omega
 ·rw[ex,ey];grind
 ·have:D*(A - q*C) - C*(B - q*D)=A*D - B*C:=by grind
  rw[this,det]
theorem Ev.rest {x0 y0 x y A B C D q b c U P u v:Int} (h:Ev x0 y0 x y A B C D) (hq:0≤q) (a2:x+A<q*(y+C)+(y+C)) (b1:q*(y+D)≤x+B)
  (hb:b*U=x0*P+u) (hc:c*U=y0*P+v) (hu:0≤u) (hu2:u≤P) (hv:0≤v) (hv2:v≤P) (hP:0<P) (hU:0<U) :
  0≤(A*b+B*c) - q*(C*b+D*c)∧(A*b+B*c) - q*(C*b+D*c)<C*b+D*c:=by
 have qD:0≤q*D:=Int.mul_nonneg hq h.sD
 have qC:q*C≤0:=Int.mul_nonpos_of_nonneg_of_nonpos hq h.sC
 have sA:=h.sA;have sB:=h.sB;have sC:=h.sC;have sD:=h.sD
 have ex:=h.ex;have ey:=h.ey
 have e1:U*((A*b+B*c) - q*(C*b+D*c))=(x - q*y)*P+(A - q*C)*u+(B - q*D)*v:=by
  have:U*((A*b+B*c) - q*(C*b+D*c))=A*(b*U)+B*(c*U) - q*(C*(b*U)+D*(c*U)):=by grind
  rw[this,hb,hc,ex,ey];grind
 have e2:U*(C*b+D*c)=y*P+C*u+D*v:=by
  have:U*(C*b+D*c)=C*(b*U)+D*(c*U):=by grind
  rw[this,hb,hc,ey];grind
 have m1:0≤(A - q*C)*u:=Int.mul_nonneg (by omega) hu
 have m2:(B - q*D)*P≤(B - q*D)*v:=Int.mul_le_mul_of_nonpos_left (by omega) hv2
 have m3:0≤((x+B) - q*(y+D))*P:=Int.mul_nonneg (by omega) (by omega)
 have m4:(x - q*y)*P+(B - q*D)*P=((x+B) - q*(y+D))*P:=by grind
 have n1:(A - q*C - C)*u≤(A - q*C - C)*P:=Int.mul_le_mul_of_nonneg_left hu2 (by omega)
 have n2:(B - q*D - D)*v≤0:=Int.mul_nonpos_of_nonpos_of_nonneg (by omega) hv
 have n3:((x+A) - q*(y+C) - (y+C))*P<0:=Int.mul_neg_of_neg_of_pos (by omega) hP
 have n4:(x - q*y)*P - y*P+(A - q*C - C)*P=((x+A) - q*(y+C) - (y+C))*P:=by grind
 have n5:(A - q*C - C)*u=(A - q*C)*u - C*u:=by grind
 have n6:(B - q*D - D)*v=(B - q*D)*v - D*v:=by grind
 refine⟨?_,?_⟩
 ·apply Decidable.byContradiction
  intro hn
  have:U*((A*b+B*c) - q*(C*b+D*c))<0:=Int.mul_neg_of_pos_of_neg hU (by omega)
  omega
 ·apply Decidable.byContradiction
  intro hn
  have h1:U*(C*b+D*c)≤U*((A*b+B*c) - q*(C*b+D*c)):=Int.mul_le_mul_of_nonneg_left (by omega) (by omega)
  omega
theorem gcd_step (b c q:Int):Int.gcd c (b - q*c)=Int.gcd b c:=by
 rw[Int.gcd_comm,Int.sub_eq_add_neg,←Int.neg_mul,Int.gcd_add_mul_right_left]
end Cub

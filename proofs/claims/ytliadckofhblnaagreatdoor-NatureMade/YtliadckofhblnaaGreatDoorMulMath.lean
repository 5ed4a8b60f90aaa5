/- Plain facts: products limb by limb. -/
import Derived.Test.YtliadckofhblnaaGreatDoorLimb3
import Derived.Test.YtliadckofhblnaaGreatDoorCmpMath
import Derived.Deep.QuietTactic
import Derived.BigQuiet
import Derived.Deep.RegionHeld3
set_option maxHeartbeats 1000000
set_option maxRecDepth 100000
namespace Cub
theorem lval_split (B:Nat) (a:List Nat) (j:Nat) (h:j<a.length):lval B a=lval B (a.take j)+B ^ j*(a[j]+B*lval B (a.drop (j+1))):=by
  have e:=lval_append B (a.take j) (a.drop j);rw[List.take_append_drop,List.length_take,Nat.min_eq_left (by omega),List.drop_eq_getElem_cons h]at e;exact e
theorem cmp_at {B:Nat} {a b:List Nat} (ha:limbs B a) (hl:a.length=b.length) (j:Nat) (h:j<a.length) (hd:a.drop (j+1)=b.drop (j+1)) (hlt:a[j]<b[j]):lval B a<lval B b:=by
  rw[lval_split B a j h,lval_split B b j (by omega),hd]
  have h1:lval B (a.take j)<B ^ j:=by
    have:=lval_lt (B:=B) (l:=a.take j) (fun z hz=>ha z (List.mem_of_mem_take hz))
    rwa [List.length_take,Nat.min_eq_left (by omega)]at this
  have h2:B ^ j*(a[j]+B*lval B (b.drop (j+1))+1)≤B ^ j*(b[j]+B*lval B (b.drop (j+1))):=Nat.mul_le_mul_left _ (by omega);rw[Nat.mul_add (B ^ j) (a[j]+B*lval B (b.drop (j+1))) 1]at h2
  omega
theorem cmp_len {a b:List Nat} (ha:limbs 1000000000 a) (hb:normal 1000000000 b) (h:a.length<b.length):lval 1000000000 a<lval 1000000000 b:=by
  have h1:=lval_lt ha;have hne:b≠[]:=by intro e;rw[e]at h;simp at h
  have h2:=normal_ge hb hne;have h3:1000000000 ^ a.length≤1000000000 ^ (b.length - 1):=Nat.pow_le_pow_right (by decide) (by omega)
  omega
theorem cmpN_lt {m n:Nat} (h:m<n):cmpN m n=-1:=if_pos h
theorem cmpN_gt {m n:Nat} (h:n<m):cmpN m n=1:=by unfold cmpN;rw[if_neg (by omega),if_pos h]
theorem cmpN_eq (m:Nat):cmpN m m=0:=by unfold cmpN;rw[if_neg (by omega),if_neg (by omega)]
end Cub
namespace Go.Proofs.YtliadckofhblnaaGreatDoor
open Go.RowKit
theorem zGw (a:Int) (w:World):Calls Tryz.prog 284 #[.int .u64 a] w fun e w'=>e=.returned (.bool false)∧w'=w:=by
  go_enter Tryz.func284,Tryz.ntmps284
  go_wp2
  go_ret
  exact⟨rfl,rfl⟩
theorem cmp64_any (a b:Nat) (w:World) :
    Calls Tryz.prog 254 #[.int .u64 (a:Int),.int .u64 (b:Int)] w fun e w'=>e=.returned (I (Cub.cmpN a b))∧w'=w:=by
  rcases Nat.lt_trichotomy a b with h|h|h
  · rw[Cub.cmpN_lt h]
    have h1:(a:Int)<(b:Int):=by omega
    go_enter Tryz.func254,Tryz.ntmps254
    go_wp2_with (go_at_call 284;refine(zGw _ _).mono ?_;rintro e w' ⟨rfl,rfl⟩)
    go_ret
    exact⟨rfl,rfl⟩
  · subst h
    rw[Cub.cmpN_eq];go_enter Tryz.func254,Tryz.ntmps254
    go_wp2_with (go_at_call 284;refine(zGw _ _).mono ?_;rintro e w' ⟨rfl,rfl⟩)
    go_ret
    exact⟨rfl,rfl⟩
  · rw[Cub.cmpN_gt h]
    have h1:(b:Int)<(a:Int):=by omega
    go_enter Tryz.func254,Tryz.ntmps254
    go_wp2_with (go_at_call 284;refine(zGw _ _).mono ?_;rintro e w' ⟨rfl,rfl⟩)
    go_ret
    exact⟨rfl,rfl⟩
theorem isNaNi_any (a:Int) (w:World):Calls Tryz.prog 283 #[I a] w fun e w'=>e=.returned (.bool false)∧w'=w:=by
  go_enter Tryz.func283,Tryz.ntmps283
  go_wp2
  go_ret
  exact⟨rfl,rfl⟩
theorem cmpi_any (a b:Nat) (w:World) :
    Calls Tryz.prog 253 #[I (a:Int),I (b:Int)] w fun e w'=>e=.returned (I (Cub.cmpN a b))∧w'=w:=by
  rcases Nat.lt_trichotomy a b with h|h|h
  · rw[Cub.cmpN_lt h]
    have h1:(a:Int)<(b:Int):=by omega
    go_enter Tryz.func253,Tryz.ntmps253
    go_wp2_with (go_at_call 283;refine(isNaNi_any _ _).mono ?_;rintro e w' ⟨rfl,rfl⟩)
    go_ret
    exact⟨rfl,rfl⟩
  · subst h
    rw[Cub.cmpN_eq];go_enter Tryz.func253,Tryz.ntmps253
    go_wp2_with (go_at_call 283;refine(isNaNi_any _ _).mono ?_;rintro e w' ⟨rfl,rfl⟩)
    go_ret
    exact⟨rfl,rfl⟩
  · rw[Cub.cmpN_gt h]
    have h1:(b:Int)<(a:Int):=by omega
    go_enter Tryz.func253,Tryz.ntmps253
    go_wp2_with (go_at_call 283;refine(isNaNi_any _ _).mono ?_;rintro e w' ⟨rfl,rfl⟩)
    go_ret
    exact⟨rfl,rfl⟩
theorem cmp_any (x y:Value) (m n:Nat) (w:World) (hx:zAf w x m) (hy:zAf w y n) :
    Calls Tryz.prog 207 #[x,y] w fun e w'=>e=.returned (I (Cub.cmpN m n))∧Bw w w':=by
  obtain⟨ap,lp,cp,rfl,hlp,hrp,hnp,rfl⟩:=hx.form;obtain⟨aq,lq,cq,rfl,hlq,hrq,hnq,rfl⟩:=hy.form;have HP:Hid (Cub.normal 1000000000 lp∧Cells w ap lp):=⟨hnp,hrp.cells.2.2.2⟩;have HQ:Hid (Cub.normal 1000000000 lq∧Cells w aq lq):=⟨hnq,hrq.cells.2.2.2⟩;obtain⟨np,hnp'⟩:∃np,np=lp.length:=⟨_,rfl⟩;obtain⟨nq,hnq'⟩:∃nq,nq=lq.length:=⟨_,rfl⟩;rw[←hnp']at hlp ⊢;rw[←hnq']at hlq ⊢;have HNP:=zAb hnp';have HNQ:=zAb hnq';clear hx hy hrp hrq hnp hnq hnp' hnq'
  by_cases hne:np=nq
  · subst hne
    have C78:Hid (∀W,Calls Tryz.prog 253 #[I (np:Int),I (np:Int)] W fun e w'=>e=.returned (I 0)∧w'=W):=fun W=>by have h:=cmpi_any np np W;rw[Cub.cmpN_eq]at h;exact h
    go_enter Tryz.func207,Tryz.ntmps207
    go_wp2_with (go_at_call 253;refine(un C78 _).mono ?_;rintro e w' ⟨rfl,rfl⟩)
    go_loopw [6] (fun t wr=>∃j:Nat,j≤np∧t=I ((j:Int) - 1)∧Hid (lp.drop j=lq.drop j)∧wr.cell? ⟨w.heap.size,0,none⟩=some (.slice ap np cp)∧wr.cell? ⟨w.heap.size+1,0,none⟩=some (.slice aq np cq)∧Bw w wr) (fun t _=>(intOf t+1).toNat)
    case atStart=>exact⟨np,Nat.le_refl _,rfl,by rw[List.drop_of_length_le (by have:=un HNP;omega),List.drop_of_length_le (by have:=un HNQ;omega)];exact rfl,by simp[go_sem],by simp[go_sem],((Below.refl _ _).alloc (Nat.le_refl _) _).alloc (by simp) _⟩
    case round=>
      obtain⟨j,hj,rfl,HD,hb1,hb2,hbl⟩:=hrel
      by_cases hj0:j=0
      · subst hj0
        have HF:Hid (Cub.cmpN (Cub.lval 1000000000 lp) (Cub.lval 1000000000 lq)=0):=by
          have h:=un HD;rw[List.drop_zero,List.drop_zero]at h;rw[h,Cub.cmpN_eq];exact rfl
        go_wp2
        go_ret
        exact⟨by rw[un HF];rfl,hbl⟩
      · obtain⟨i,rfl⟩:∃i,j=i+1:=⟨j - 1,by omega⟩
        have hip:i<lp.length:=by have:=un HNP;omega
        have hiq:i<lq.length:=by have:=un HNQ;omega
        obtain⟨b1,o1,rfl,hc1⟩:=(un HP).2 wr hbl i hip;obtain⟨b2,o2,rfl,hc2⟩:=(un HQ).2 wr hbl i hiq;obtain⟨xv,hxv⟩:∃xv,xv=lp[i]:=⟨_,rfl⟩;obtain⟨yv,hyv⟩:∃yv,yv=lq[i]:=⟨_,rfl⟩;rw[←hxv]at hc1;rw[←hyv]at hc2;obtain⟨c,hc⟩:∃c,c=Cub.cmpN xv yv:=⟨_,rfl⟩;have C79:Hid (∀W,Calls Tryz.prog 254 #[.int .u64 (xv:Int),.int .u64 (yv:Int)] W fun e w'=>e=.returned (I c)∧w'=W):=fun W=>by have h:=cmp64_any xv yv W;rw[←hc]at h;exact h
        have hin':(i:Int)<(np:Int):=by omega
        rw[show(((i+1:Nat):Int) - 1)=(i:Int)from by omega]
        by_cases hxy:xv=yv
        · have hc0:c=0:=by rw[hc,hxy,Cub.cmpN_eq]
          subst hc0
          have HD':Hid (lp.drop i=lq.drop i):=by
            rw[List.drop_eq_getElem_cons hip,List.drop_eq_getElem_cons hiq,un HD,←hxv,←hyv,hxy];exact rfl
          clear hc hxy hxv hyv hj0
          go_wp2
          go_quiet ((go_at_call 254;exact Calls.quiet_of_same (un C79 _)))
          go_wp2
          go_roundw
          case rel=>exact⟨i,by omega,rfl,HD',hb1,hb2,below_drewN hbl _⟩
          case measure=>simp[intOf]
        · have hcz:(c != 0)=true:=by
            rw[hc,bne_iff_ne];rcases Nat.lt_or_ge xv yv with h|h
            · rw[Cub.cmpN_lt h];omega
            · rw[Cub.cmpN_gt (show yv<xv by omega)];omega
          have HF:Hid (Cub.cmpN (Cub.lval 1000000000 lp) (Cub.lval 1000000000 lq)=c):=by
            have hl:lp.length=lq.length:=by rw[←un HNP,←un HNQ]
            rw[hc];rcases Nat.lt_or_ge xv yv with h|h
            · rw[Cub.cmpN_lt h,Cub.cmpN_lt (Cub.cmp_at (un HP).1.1 hl i hip (un HD) (by rw[←hxv,←hyv];exact h))];exact rfl
            · have h':yv<xv:=by omega
              rw[Cub.cmpN_gt h',Cub.cmpN_gt (Cub.cmp_at (un HQ).1.1 hl.symm i hiq (un HD).symm (by rw[←hxv,←hyv];exact h'))];exact rfl
          clear hc hxy hxv hyv hj0
          go_wp2
          go_quiet ((go_at_call 254;exact Calls.quiet_of_same (un C79 _)))
          go_wp2
          go_ret
          exact⟨by rw[un HF];rfl,below_drewN hbl _⟩
  · obtain⟨c,hc⟩:∃c,c=Cub.cmpN np nq:=⟨_,rfl⟩
    have hfin:Cub.cmpN (Cub.lval 1000000000 lp) (Cub.lval 1000000000 lq)=c:=by
      rw[hc];rcases Nat.lt_or_ge np nq with h|h
      · rw[Cub.cmpN_lt h,Cub.cmpN_lt (Cub.cmp_len (un HP).1.1 (un HQ).1 (by have:=un HNP;have:=un HNQ;omega))]
      · rw[Cub.cmpN_gt (show nq<np by omega),Cub.cmpN_gt (Cub.cmp_len (un HQ).1.1 (un HP).1 (by have:=un HNP;have:=un HNQ;omega))]
    have hc0:(c != 0)=true:=by
      rw[hc,bne_iff_ne];rcases Nat.lt_or_ge np nq with h|h
      · rw[Cub.cmpN_lt h];omega
      · rw[Cub.cmpN_gt (show nq<np by omega)];omega
    have C78:Hid (∀W,Calls Tryz.prog 253 #[I (np:Int),I (nq:Int)] W fun e w'=>e=.returned (I c)∧w'=W):=fun W=>by have h:=cmpi_any np nq W;rw[←hc]at h;exact h
    rw[hfin];clear hfin hc;go_enter Tryz.func207,Tryz.ntmps207
    go_wp2_with (go_at_call 253;refine(un C78 _).mono ?_;rintro e w' ⟨rfl,rfl⟩)
    go_ret
    exact⟨rfl,((Below.refl _ _).alloc (Nat.le_refl _) _).alloc (by simp) _⟩
end Go.Proofs.YtliadckofhblnaaGreatDoor
namespace Cub
structure Low (b:Bool) (n d:Nat):Prop where
 pos:0<d
 cop:Nat.gcd n d=1
 sign:b=true→n≠0
def sg (b:Bool) (n:Nat):Int:=if b then -(n:Int)else n
def valQ (b:Bool) (n d:Nat):Rat:=((sg b n:Int):Rat) / ((d:Nat):Rat)
theorem sg_abs (b:Bool) (n:Nat):(sg b n).natAbs=n:=by cases b<;>simp[sg]
theorem sg_mul (b c:Bool) (n m:Nat):sg b n*sg c m=sg (b != c) (n*m):=by
 cases b<;>cases c<;>simp[sg,Int.mul_neg,Int.neg_mul]
theorem sg_mulNat (b:Bool) (n m:Nat):sg b n*(m:Int)=sg b (n*m):=by cases b<;>simp[sg,Int.neg_mul]
theorem sg_zero (b:Bool):sg b 0=0:=by cases b<;>rfl
theorem dR {d:Nat} (h:0<d):((d:Nat):Rat)≠0:=by
 have:d≠0:=by omega
 exact_mod_cast this
theorem div_eq_iff {a b c d:Rat} (hb:b≠0) (hd:d≠0):a / b=c / d↔a*d=c*b:=by
 constructor
 ·intro h;grind
 ·intro h;grind
theorem valQ_eq {b b':Bool} {n d n' d':Nat} (hd:0<d) (hd':0<d'):valQ b n d=valQ b' n' d'↔sg b n*(d':Int)=sg b' n'*(d:Int):=by
 unfold valQ
 rw[div_eq_iff (dR hd) (dR hd')]
 constructor
 ·intro h;exact_mod_cast h
 ·intro h;exact_mod_cast h
theorem low_unique {b b':Bool} {n d n' d':Nat} (h:Low b n d) (h':Low b' n' d') (e:valQ b n d=valQ b' n' d'):b=b'∧n=n'∧d=d':=by
 have e1:=(valQ_eq h.pos h'.pos).1 e
 have e2:n*d'=n'*d:=by
  have:=congrArg Int.natAbs e1
  rw[Int.natAbs_mul,Int.natAbs_mul,sg_abs,sg_abs]at this
  simpa using this
 have d1:d ∣ d':=by
  have:d ∣ n*d':=⟨n',by rw[e2,Nat.mul_comm]⟩
  exact(Nat.Coprime.dvd_of_dvd_mul_left (Nat.Coprime.symm h.cop) this)
 have d2:d' ∣ d:=by
  have:d' ∣ n'*d:=⟨n,by rw[←e2,Nat.mul_comm]⟩
  exact(Nat.Coprime.dvd_of_dvd_mul_left (Nat.Coprime.symm h'.cop) this)
 have ed:d=d':=Nat.dvd_antisymm d1 d2
 subst ed
 have en:n=n':=Nat.eq_of_mul_eq_mul_right h.pos e2
 subst en
 refine⟨?_,rfl,rfl⟩
 have e3:sg b n=sg b' n:=Int.eq_of_mul_eq_mul_right (by have:=h.pos;omega) e1
 by_cases hn:n=0
 ·have hb:b=false:=by cases b with|false=>rfl|true=>exact absurd hn (h.sign rfl)
  have hb':b'=false:=by cases b' with|false=>rfl|true=>exact absurd hn (h'.sign rfl)
  rw[hb,hb']
 ·cases b<;>cases b'<;>first|rfl|(exfalso;simp[sg]at e3;omega)
theorem lowest_cop {n d:Nat} (hd:0<d):Nat.gcd (n / Nat.gcd n d) (d / Nat.gcd n d)=1∧0<d / Nat.gcd n d∧n / Nat.gcd n d*d=n*(d / Nat.gcd n d):=by
 have hg:0<Nat.gcd n d:=Nat.gcd_pos_of_pos_right _ hd
 obtain⟨a,ha⟩:=Nat.gcd_dvd_left n d
 obtain⟨c,hc⟩:=Nat.gcd_dvd_right n d
 have h1:n / Nat.gcd n d=a:=by rw[Nat.div_eq_of_eq_mul_right hg ha]
 have h2:d / Nat.gcd n d=c:=by rw[Nat.div_eq_of_eq_mul_right hg hc]
 refine⟨Nat.coprime_div_gcd_div_gcd hg,?_,?_⟩
 ·rw[h2]
  rcases Nat.eq_zero_or_pos c with h|h
  ·rw[h]at hc;omega
  ·exact h
 ·rw[h1,h2]
  generalize Nat.gcd n d=g at *
  rw[ha,hc]
  grind
theorem mul_low {b c:Bool} {n d m e:Nat} (h:Low b n d) (k:Low c m e) :
  Low ((b != c) && decide (n / Nat.gcd n e*(m / Nat.gcd m d)≠0)) (n / Nat.gcd n e*(m / Nat.gcd m d)) (d / Nat.gcd m d*(e / Nat.gcd n e))∧
   valQ ((b != c) && decide (n / Nat.gcd n e*(m / Nat.gcd m d)≠0)) (n / Nat.gcd n e*(m / Nat.gcd m d)) (d / Nat.gcd m d*(e / Nat.gcd n e))=valQ b n d*valQ c m e:=by
 obtain⟨p1,p2,p3⟩:=lowest_cop (n:=n) k.pos
 obtain⟨q1,q2,q3⟩:=lowest_cop (n:=m) h.pos
 have hn:n / Nat.gcd n e ∣ n:=Nat.div_dvd_of_dvd (Nat.gcd_dvd_left n e)
 have hm:m / Nat.gcd m d ∣ m:=Nat.div_dvd_of_dvd (Nat.gcd_dvd_left m d)
 have hd:d / Nat.gcd m d ∣ d:=Nat.div_dvd_of_dvd (Nat.gcd_dvd_right m d)
 have he:e / Nat.gcd n e ∣ e:=Nat.div_dvd_of_dvd (Nat.gcd_dvd_right n e)
 have hk:=k.pos
 have hh:=h.pos
 have c1:Nat.Coprime (n / Nat.gcd n e) (d / Nat.gcd m d):=Nat.Coprime.coprime_dvd_left hn (Nat.Coprime.coprime_dvd_right hd h.cop)
 have c2:Nat.Coprime (m / Nat.gcd m d) (e / Nat.gcd n e):=Nat.Coprime.coprime_dvd_left hm (Nat.Coprime.coprime_dvd_right he k.cop)
 generalize n / Nat.gcd n e=n' at *
 generalize e / Nat.gcd n e=e' at *
 generalize m / Nat.gcd m d=m' at *
 generalize d / Nat.gcd m d=d' at *
 have hpos:0<d'*e':=Nat.mul_pos q2 p2
 refine⟨⟨hpos,?_,fun hs=>by rw[Bool.and_eq_true,decide_eq_true_iff]at hs;exact hs.2⟩,?_⟩
 ·have a1:Nat.Coprime n' (d'*e'):=Nat.Coprime.mul_right c1 p1
  have a2:Nat.Coprime m' (d'*e'):=Nat.Coprime.mul_right q1 c2
  exact Nat.Coprime.mul_left a1 a2
 ·have e1:valQ b n d*valQ c m e=valQ (b != c) (n*m) (d*e):=by
   unfold valQ
   rw[←sg_mul]
   have x1:=dR hh
   have x2:=dR hk
   push_cast
   grind
  rw[e1,valQ_eq hpos (Nat.mul_pos hh hk),sg_mulNat,sg_mulNat]
  have e2:n'*m'*(d*e)=n*m*(d'*e'):=by
   have:(n'*e)*(m'*d)=(n*e')*(m*d'):=by rw[p3,q3]
   grind
  rw[e2]
  by_cases h0:n'*m'=0
  ·rw[h0,Nat.zero_mul]at e2
   rw[←e2,sg_zero,sg_zero]
  ·simp[h0]
def addSg (b:Bool) (x:Nat) (c:Bool) (y:Nat):Bool×Nat:=if b=c then(b,x+y)else if x<y then(c,y - x)else(b,x - y)
theorem addSg_val (b:Bool) (x:Nat) (c:Bool) (y:Nat):sg (addSg b x c y).1 (addSg b x c y).2=sg b x+sg c y:=by
  unfold addSg
  by_cases h:b=c
  · subst h
    rw[if_pos rfl]
    cases b<;>simp[sg]<;>omega
  · rw[if_neg h]
    by_cases hx:x<y
    · rw[if_pos hx]
      cases b<;>cases c<;>simp[sg]at h ⊢<;>omega
    · rw[if_neg hx]
      cases b<;>cases c<;>simp[sg]at h ⊢<;>omega
theorem valQ_add {b c bb:Bool} {n d k e m:Nat} (hd:0<d) (he:0<e) (h:sg bb m=sg b (n*e)+sg c (k*d)):valQ bb m (d*e)=valQ b n d+valQ c k e:=by
  unfold valQ
  rw[h,←sg_mulNat,←sg_mulNat]
  have x1:=dR hd
  have x2:=dR he
  push_cast
  grind
theorem valQ_zero (b:Bool) (d:Nat):valQ b 0 d=0:=by
  unfold valQ
  rw[sg_zero,Rat.div_def]
  push_cast
  exact Rat.zero_mul _
theorem low_zero:Low false 0 1:=⟨by omega,by simp,fun h=>by cases h⟩
theorem dvd_part {bb b c:Bool} {m x y k:Nat} (h:sg bb m=sg b x+sg c y) (hm:k ∣ m) (hy:k ∣ y):k ∣ x:=by
  have a1:(k:Int) ∣ sg bb m:=Int.ofNat_dvd_left.2 (by rw[sg_abs];exact hm)
  have a2:(k:Int) ∣ sg c y:=Int.ofNat_dvd_left.2 (by rw[sg_abs];exact hy)
  rw[h]at a1
  have a3:(k:Int) ∣ sg b x:=(Int.dvd_add_left a2).1 a1
  have a4:=Int.ofNat_dvd_left.1 a3
  rwa [sg_abs]at a4
theorem cop_of {x y:Nat} (h:∀k,k ∣ x→k ∣ y→k ∣ 1):Nat.gcd x y=1:=Nat.dvd_one.1 (h _ (Nat.gcd_dvd_left x y) (Nat.gcd_dvd_right x y))
theorem add_low {b c:Bool} {n d k e:Nat} (h:Low b n d) (h':Low c k e) {s f g m:Nat} {bb:Bool} (hs:s=Nat.gcd d e) (hf:f=d / s) (hg:g=e / s) (hm:(bb,m)=addSg b (n*g) c (k*f)) :
    (m / Nat.gcd m s=0→valQ b n d+valQ c k e=0)∧(m / Nat.gcd m s≠0→Low bb (m / Nat.gcd m s) (s / Nat.gcd m s*f*g)∧valQ bb (m / Nat.gcd m s) (s / Nat.gcd m s*f*g)=valQ b n d+valQ c k e):=by
  have hd:=h.pos
  have he:=h'.pos
  have spos:0<s:=by rw[hs];exact Nat.gcd_pos_of_pos_left _ hd
  have sd:s ∣ d:=by rw[hs];exact Nat.gcd_dvd_left d e
  have se:s ∣ e:=by rw[hs];exact Nat.gcd_dvd_right d e
  have ed:d=s*f:=by rw[hf];exact(Nat.mul_div_cancel' sd).symm
  have ee:e=s*g:=by rw[hg];exact(Nat.mul_div_cancel' se).symm
  have cfg:Nat.Coprime f g:=by rw[hf,hg,hs];exact Nat.coprime_div_gcd_div_gcd (by rw[←hs];exact spos)
  have hv:sg bb m=sg b (n*g)+sg c (k*f):=by
    have:=addSg_val b (n*g) c (k*f)
    rw[←hm]at this
    exact this
  have fpos : 0 < f := by rcases Nat.eq_zero_or_pos f with h0|h0;· rw[h0,Nat.mul_zero]at ed;omega
                          · exact h0
  have gpos : 0 < g := by rcases Nat.eq_zero_or_pos g with h0|h0;· rw[h0,Nat.mul_zero]at ee;omega
                          · exact h0
  -- the sum over s * f * g
  have hsum:valQ bb m (s*f*g)=valQ b n d+valQ c k e:=by
    have e1:sg bb (m*s)=sg b (n*e)+sg c (k*d):=by
      rw[←sg_mulNat,hv,ee,ed,Int.add_mul,sg_mulNat,sg_mulNat]
      congr 2<;>grind
    rw[←valQ_add hd he e1,valQ_eq (Nat.mul_pos (Nat.mul_pos spos fpos) gpos) (Nat.mul_pos hd he),sg_mulNat,sg_mulNat]
    congr 1
    rw[ed,ee]
    grind
  obtain⟨q1,q2,q3⟩:=lowest_cop (n:=m) spos
  have hgm:m / Nat.gcd m s ∣ m:=Nat.div_dvd_of_dvd (Nat.gcd_dvd_left m s)
  refine⟨fun h0=>?_,fun h0=>?_⟩
  · rw[h0]at hgm
    have:m=0:=Nat.zero_dvd.1 hgm
    rw[←hsum,this,valQ_zero]
  · generalize m / Nat.gcd m s=m' at *
    generalize s / Nat.gcd m s=s' at *
    have pos':0<s'*f*g:=Nat.mul_pos (Nat.mul_pos q2 fpos) gpos
    refine⟨⟨pos',?_,fun _=>h0⟩,?_⟩
    · have cf:Nat.Coprime m' f:=cop_of fun t ht hf'=>by
        have t1:t ∣ n*g:=dvd_part hv (Nat.dvd_trans ht hgm) (Nat.dvd_trans hf' (Nat.dvd_mul_left f k))
        have t2:Nat.Coprime t n:=Nat.Coprime.symm (Nat.Coprime.coprime_dvd_right (Nat.dvd_trans hf' ⟨s,by rw[ed,Nat.mul_comm]⟩) h.cop)
        have t3:t ∣ g:=Nat.Coprime.dvd_of_dvd_mul_left t2 t1
        have t4:=Nat.dvd_gcd hf' t3
        rw[cfg]at t4
        exact t4
      have cg:Nat.Coprime m' g:=cop_of fun t ht hg'=>by
        have t1:t ∣ k*f:=dvd_part (x:=k*f) (y:=n*g) (b:=c) (c:=b) (by rw[hv,Int.add_comm]) (Nat.dvd_trans ht hgm) (Nat.dvd_trans hg' (Nat.dvd_mul_left g n))
        have t2:Nat.Coprime t k:=Nat.Coprime.symm (Nat.Coprime.coprime_dvd_right (Nat.dvd_trans hg' ⟨s,by rw[ee,Nat.mul_comm]⟩) h'.cop)
        have t3:t ∣ f:=Nat.Coprime.dvd_of_dvd_mul_left t2 t1
        have t4:=Nat.dvd_gcd t3 hg'
        rw[cfg]at t4
        exact t4
      exact Nat.Coprime.mul_right (Nat.Coprime.mul_right q1 cf) cg
    · rw[←hsum,valQ_eq pos' (Nat.mul_pos (Nat.mul_pos spos fpos) gpos),sg_mulNat,sg_mulNat]
      congr 1
      have:m'*s*(f*g)=m*s'*(f*g):=by rw[q3]
      grind
theorem inv_low {b:Bool} {n d:Nat} (h:Low b n d) (hn:n≠0):Low b d n∧valQ b d n=(valQ b n d)⁻¹:=by
  refine⟨⟨by omega,by rw[Nat.gcd_comm];exact h.cop,fun _=>by have:=h.pos;omega⟩,?_⟩
  have x1:=dR h.pos
  have x2:((n:Nat):Rat)≠0:=dR (by omega)
  unfold valQ sg
  cases b<;>simp only[Bool.false_eq_true,if_true,if_false]<;>push_cast<;>grind
theorem num_below (x:Rat):x.num<0↔x<0:=by
  have h:=Rat.num_nonneg (q:=x)
  constructor
  · intro h1
    exact Rat.not_le.1 fun h2=>by have:=h.2 h2;omega
  · intro h1
    have:¬ 0≤x.num:=fun h2=>Rat.not_le.2 h1 (h.1 h2)
    omega
theorem low_of (x:Rat):Low (decide (x<0)) x.num.natAbs x.den∧valQ (decide (x<0)) x.num.natAbs x.den=x:=by
  have hs:sg (decide (x<0)) x.num.natAbs=x.num:=by
    unfold sg
    by_cases h:x<0
    · have:x.num<0:=(num_below x).2 h
      simp only[h,decide_true,if_true];omega
    · have:¬x.num<0:=fun h2=>h ((num_below x).1 h2)
      simp only[h,decide_false,Bool.false_eq_true,if_false];omega
  refine⟨⟨x.den_pos,x.reduced,fun h=>?_⟩,?_⟩
  · have:=(num_below x).2 (of_decide_eq_true h)
    omega
  · unfold valQ
    rw[hs,←Rat.mkRat_eq_div,Rat.mkRat_self]
theorem low_is {b:Bool} {n d:Nat} (h:Low b n d):b=decide (valQ b n d<0)∧n=(valQ b n d).num.natAbs∧d=(valQ b n d).den :=
  low_unique h (low_of _).1 (low_of _).2.symm
theorem valQ_lt {b c:Bool} {n d m e:Nat} (hd:0<d) (he:0<e):valQ b n d<valQ c m e↔sg b n*(e:Int)<sg c m*(d:Int):=by
  unfold valQ
  rw[Rat.div_lt_iff (Rat.natCast_pos.2 hd),Rat.div_def,show((sg c m:Int):Rat)*((e:Nat):Rat)⁻¹*((d:Nat):Rat)=((sg c m:Int):Rat)*((d:Nat):Rat) / ((e:Nat):Rat) by rw[Rat.div_def];grind,Rat.lt_div_iff (Rat.natCast_pos.2 he)]
  constructor
  · intro h;exact_mod_cast h
  · intro h;exact_mod_cast h
def cmpQ (x y:Rat):Int:=if x<y then -1 else if y<x then 1 else 0
theorem sign_val {b:Bool} {n d:Nat} (h:Low b n d):(if b then -1 else if n=0 then(0:Int)else 1)=cmpQ (valQ b n d) 0:=by
  have hz:(0:Rat)=valQ false 0 1:=(valQ_zero false 1).symm
  have hd:=h.pos
  have hb:=h.sign
  unfold cmpQ
  rw[hz]
  simp only[valQ_lt h.pos (show 0<1 by omega),valQ_lt (show 0<1 by omega) h.pos,sg_zero]
  cases b
  · by_cases hn:n=0
    · subst hn;simp[sg]
    · have:0<n:=by omega
      simp[sg,hn,this]
  · have:0<n:=by have:=hb rfl;omega
    simp[sg,this]
end Cub
namespace Go.Proofs.YtliadckofhblnaaGreatDoor
open Go.RowKit
structure A3St (w W:World) (u v p:Value):Prop where
 b1:Box W w.heap.size u
 b2:Box W (w.heap.size+1) v
 b3:Box W (w.heap.size+1+1) p
 below:Below w.heap.size w W
theorem A3St.later {w W V:World} {u v p:Value} (s:A3St w W u v p) (hb:Below W.heap.size W V):A3St w V u v p :=
 ⟨s.b1.later hb,s.b2.later hb,s.b3.later hb,s.below.trans (hb.mono s.below.size)⟩
theorem A3St.first (w:World) (u v p:Value):A3St w (((w.alloc (.cells #[u] 80)).alloc (.cells #[v] 80)).alloc (.cells #[p] 80)) u v p :=
 ⟨⟨by simp[go_sem],by simp[go_sem]⟩,⟨by simp[go_sem],by simp[go_sem]⟩,⟨by simp[go_sem],by simp[go_sem]⟩,
  (bA.alloc (by simp) _).alloc (by simp;omega) _⟩
theorem A3St.set3 {w W:World} {u v p:Value} (s:A3St w W u v p) (x:Value):A3St w (W.setCell ⟨w.heap.size+1+1,0,none⟩ x) u v x :=
 ⟨s.b1.other (by omega) x,s.b2.other (by omega) x,s.b3.set x,s.below.setCell (by simp;omega) _⟩
def zCd (w:World) (v:Value) (b:Bool) (n d:Nat):Prop:=∃s t,v=.agg #[.bool b,s,t]∧zAf w (.agg #[s]) n∧zAf w (.agg #[t]) d
theorem zCd.later {w w':World} {v:Value} {b:Bool} {n d:Nat} (h:zCd w v b n d) (hb:Below w.heap.size w w'):zCd w' v b n d:=by
 obtain⟨s,t,rfl,h1,h2⟩:=h;exact⟨s,t,rfl,h1.later hb,h2.later hb⟩
theorem zCd.form {w:World} {v:Value} {b:Bool} {n d:Nat} (h:zCd w v b n d):∃a1 l1 c1 a2 l2 c2,v=.agg #[.bool b,.slice a1 l1 c1,.slice a2 l2 c2]∧zAf w (.agg #[.slice a1 l1 c1]) n∧zAf w (.agg #[.slice a2 l2 c2]) d:=by
 obtain⟨s,t,rfl,h1,h2⟩:=h;obtain⟨a1,l1,c1,e1⟩:=h1.shape;obtain⟨a2,l2,c2,e2⟩:=h2.shape;simp only[Value.agg.injEq,Array.mk.injEq,List.cons.injEq,and_true]at e1 e2;subst e1 e2;exact⟨a1,l1,c1,a2,l2,c2,rfl,h1,h2⟩
theorem inv_any (v:Value) (b:Bool) (n d:Nat) (w:World) (h:zCd w v b n d) :
  Calls Tryz.prog 155 #[v] w fun e w'=>∃v',e=.returned v'∧zCd w' v' b d n∧Bw w w':=by
 obtain⟨a1,l1,c1,a2,l2,c2,rfl,h1,h2⟩:=h.form;have H1:=zAb h1;have H2:=zAb h2;clear h h1 h2;go_enter Tryz.func155,Tryz.ntmps155
 go_wp2
 have hb:Below w.heap.size w ((w.alloc (.cells #[.bool b,.slice a1 l1 c1,.slice a2 l2 c2] 82)).alloc (.cells #[.bool b,.slice a2 l2 c2,.slice a1 l1 c1] 82)):=bA.alloc (by simp) _;exact bodyPost_ret (v:=.agg #[.bool b,.slice a2 l2 c2,.slice a1 l1 c1]) (by simp[results,Tryz.results155,go_sem]) rfl ⟨_,rfl,⟨_,_,rfl,(un H2).later hb,(un H1).later hb⟩,hb⟩
def signI (b:Bool) (n:Nat):Int:=if b then -1 else if n=0 then 0 else 1
theorem sign_any (v:Value) (b:Bool) (n d:Nat) (w:World) (h:zCd w v b n d) :
  Calls Tryz.prog 68 #[v] w fun e w'=>e=.returned (I (signI b n))∧Bw w w':=by
 obtain⟨a1,l1,c1,a2,l2,c2,rfl,h1,h2⟩:=h.form;have hb:Below w.heap.size w (w.alloc (.cells #[.bool b,.slice a1 l1 c1,.slice a2 l2 c2] 82)):=bA;have H37:=zAb (zCk _ n _ (h1.later hb));have HB:=zAb hb;clear h h1 h2 hb
 cases b with
 | true=>
  go_enter Tryz.func68,Tryz.ntmps68
  go_wp2
  go_ret
  exact⟨rfl,un HB⟩
 | false=>
  by_cases hn:n=0
  ·subst hn
   go_enter Tryz.func68,Tryz.ntmps68
   go_wp2_with (go_at_call 153;go_must(refine(un H37).mono ?_;rintro e w1 ⟨rfl,hb1⟩;have HB1:=zAb (bt HB hb1);clear hb1))
   go_ret
   exact⟨rfl,un HB1⟩
  ·have e:(n == 0)=false:=by rw[beq_eq_false_iff_ne];exact hn
   have HE:Hid (signI false n=1):=by show _=_;simp[signI,hn]
   rw[e]at H37;rw[un HE];clear e hn HE;go_enter Tryz.func68,Tryz.ntmps68
   go_wp2_with (go_at_call 153;go_must(refine(un H37).mono ?_;rintro e w1 ⟨rfl,hb1⟩;have HB1:=zAb (bt HB hb1);clear hb1))
   go_ret
   exact⟨rfl,un HB1⟩
def OfInv (u:Nat) (L:List Nat) (q:Nat):Prop:=Cub.limbs 1000000000 L∧Cub.lval 1000000000 L+1000000000 ^ L.length*q=u∧(q=0→Cub.normal 1000000000 L)
theorem OfInv.start (u:Nat):OfInv u [] u:=⟨fun _ h=>(by cases h),by simp[Cub.lval],fun _=>Cub.normal_nil _⟩
theorem OfInv.step {u:Nat} {L:List Nat} {q:Nat} (h:OfInv u L q) (hq:0<q):OfInv u (L ++ [q % 1000000000]) (q / 1000000000):=by
 obtain⟨h1,h2,h3⟩:=h;have hl:Cub.limbs 1000000000 (L ++ [q % 1000000000]):=Cub.limbs_append.2 ⟨h1,fun x hx=>by simp at hx;subst hx;exact Nat.mod_lt _ (by decide)⟩;refine⟨hl,?_,fun h0=>⟨hl,?_⟩⟩
 ·rw[Cub.lval_snoc,List.length_append,List.length_singleton,Nat.pow_succ,Nat.mul_assoc,Nat.add_assoc,←Nat.mul_add]
  rw[Nat.mod_add_div];exact h2
 ·rw[List.getLast?_append]
  simp
  omega
theorem OfInv.short {u:Nat} {L:List Nat} {q:Nat} (h:OfInv u L q) (hq:0<q) (hu:u<18446744073709551616):L.length≤2:=by
 have h2:=h.2.1;have h3:1000000000 ^ L.length≤1000000000 ^ L.length*q:=Nat.le_mul_of_pos_right _ hq
 apply Decidable.byContradiction
 intro hc;have h4:1000000000 ^ 3≤1000000000 ^ L.length:=Nat.pow_le_pow_right (by decide) (by omega)
 omega
theorem zFa (u:Nat) (w:World) (hu:u<18446744073709551616) :
  Calls Tryz.prog 210 #[.int .u64 (u:Int)] w fun e w'=>∃a n c,e=.returned (.agg #[.slice a n c])∧zAf w' (.agg #[.slice a n c]) u∧Bw w w':=by
 obtain⟨i0,hi,hz0,hz1,hz2⟩:=info_parts Tryz.info168;go_enter Tryz.func210,Tryz.ntmps210
 go_wp2
 go_loopw [0,3] (fun t v wr=>∃(q:Nat) (L:List Nat),t=.int .u64 (q:Int)∧q<18446744073709551616∧L.length≤3∧Hid (OfInv u L q)∧wr.ownsRow (w.heap.size+1) 168 1 v L.length (zCx L)∧Below (w.heap.size+1) (w.alloc (.cells #[.slice none 0 0] 80)) wr) (fun t _ _=>(intOf t).toNat)
 case atStart=>exact⟨u,[],rfl,hu,by simp,OfInv.start u,⟨rfl,Or.inl ⟨rfl,rfl⟩⟩,Below.refl _ _⟩
 case round=>
  obtain⟨q,L,rfl,hq,hL,HI,hown,hb⟩:=hrel
  by_cases h0:0<q
  ·have hL2:=(un HI).short h0 hu
   have HI':=zAb ((un HI).step h0);have hr:q % 1000000000<1000000000:=Nat.mod_lt _ (by decide)
   go_wp2_with (at_builtin;refine wpList_append_own _ rfl _ _ 78 rfl (w.heap.size+1) 168 i0 (.int .u64 0) 1 8 Tryz.underlying78 hi hz0 hz1 hz2 rfl (by decide) _ _ _ rfl (hown.alloc _) ⟨wr.heap.size,0,none⟩ 1 1 [.int .u64 ((q % 1000000000:Nat):Int)] rfl rfl (cell_one_new _ _ _) (fun x hx=>by simp at hx;subst hx;rfl) (by unfold maxLen;omega) (by omega) (by have:=hb.size;simp at this ⊢;omega) ?_;intro v' w1 hown' hgrow _)
   have hsz:=hb.size;have hb':Below (w.heap.size+1) (w.alloc (.cells #[.slice none 0 0] 80)) w1:=(hb.alloc (by simp at hsz;omega) _).grown hgrow (by simp at hsz ⊢;omega) (fun j hj=>(hown.lt j hj).1);have hown2:w1.ownsRow (w.heap.size+1) 168 1 v' (L ++ [q % 1000000000]).length (zCx (L ++ [q % 1000000000])):=by simpa [zCx] using hown'
   clear hgrow hown' hown hsz
   go_wp2
   go_roundw
   case rel=>exact⟨q / 1000000000,L ++ [q % 1000000000],by go_num,by omega,by simp;omega,HI',hown2,hb'⟩
   case measure=>simp[intOf];omega
  ·have hq0:q=0:=by omega
   subst hq0;have hrow:=Row.of_own hown;have HF:Hid (Cub.lval 1000000000 L=u∧Cub.normal 1000000000 L):=⟨by have:=(un HI).2.1;simpa using this,(un HI).2.2 rfl⟩;have hsz:w.heap.size+1≤wr.heap.size:=by have:=hb.size;simpa using this
   have hc0:wr.cell? ⟨w.heap.size,0,none⟩=some (.slice none 0 0):=by rw[hb.cell (p:=⟨w.heap.size,0,none⟩) (by simp)];simp
   have hf0:wr.frozen? ⟨w.heap.size,0,none⟩=false:=by rw[hb.frozen (p:=⟨w.heap.size,0,none⟩) (by simp)];simp
   obtain⟨a2,cap2,rfl,hcap2⟩:=hrow.form;have HRow:=zAb hrow;clear hrow hown
   go_wp2
   refine bodyPost_ret (v:=.agg #[.slice a2 L.length cap2]) (by simp[results,Tryz.results210,go_sem,hc0]) rfl ⟨_,_,_,rfl,?_,?_⟩
   ·exact⟨_,_,rfl,(un HRow).box _ hc0 (fun _ _ h=>by cases h),(un HF).2,(un HF).1⟩
   ·exact(bA.trans (hb.mono (Nat.le_succ _))).setCell (Nat.le_refl _) _
structure FBox (W:World) (g:Nat) (x y z:Value):Prop where
 c0:W.cell? ⟨g,0,none⟩=some x
 c1:W.cell? ⟨g,1,none⟩=some y
 c2:W.cell? ⟨g,2,none⟩=some z
 f0:W.frozen? ⟨g,0,none⟩=false
 f1:W.frozen? ⟨g,1,none⟩=false
 f2:W.frozen? ⟨g,2,none⟩=false
theorem FBox.lt {W:World} {g:Nat} {x y z:Value} (h:FBox W g x y z):g<W.heap.size:=World.block_lt_of_cell? _ _ h.c0
theorem FBox.later {W V:World} {g:Nat} {x y z:Value} (h:FBox W g x y z) (hb:Below W.heap.size W V):FBox V g x y z :=
 ⟨(hb.cell (p:=⟨g,0,none⟩) h.lt).trans h.c0,(hb.cell (p:=⟨g,1,none⟩) h.lt).trans h.c1,(hb.cell (p:=⟨g,2,none⟩) h.lt).trans h.c2,
  (hb.frozen (p:=⟨g,0,none⟩) h.lt).trans h.f0,(hb.frozen (p:=⟨g,1,none⟩) h.lt).trans h.f1,(hb.frozen (p:=⟨g,2,none⟩) h.lt).trans h.f2⟩
def zAs (W:World) (g:Nat) (x y z:Value):World:=((W.setCell ⟨g,0,none⟩ x).setCell ⟨g,1,none⟩ y).setCell ⟨g,2,none⟩ z
theorem FBox.store {W:World} {g:Nat} {x y z:Value} (h:FBox W g x y z) (x' y' z':Value):FBox (zAs W g x' y' z') g x' y' z':=by
 have a1:(W.setCell ⟨g,0,none⟩ x').cell? ⟨g,1,none⟩=some y:=by rw[World.cell?_setCell_other _ _ _ _ (by simp)];exact h.c1
 have a2:((W.setCell ⟨g,0,none⟩ x').setCell ⟨g,1,none⟩ y').cell? ⟨g,2,none⟩=some z:=by rw[World.cell?_setCell_other _ _ _ _ (by simp),World.cell?_setCell_other _ _ _ _ (by simp)];exact h.c2
 unfold zAs;refine⟨?_,?_,World.cell?_setCell_same _ _ _ a2,?_,?_,?_⟩
 ·rw[World.cell?_setCell_other _ _ _ _ (by simp),World.cell?_setCell_other _ _ _ _ (by simp)];exact World.cell?_setCell_same _ _ _ h.c0
 ·rw[World.cell?_setCell_other _ _ _ _ (by simp)];exact World.cell?_setCell_same _ _ _ a1
 ·rw[World.frozen?_setCell,World.frozen?_setCell,World.frozen?_setCell];exact h.f0
 ·rw[World.frozen?_setCell,World.frozen?_setCell,World.frozen?_setCell];exact h.f1
 ·rw[World.frozen?_setCell,World.frozen?_setCell,World.frozen?_setCell];exact h.f2
theorem FBox.big {W:World} {g:Nat} {b:Bool} {a1 a2:Option Addr} {l1 c1 l2 c2:Nat} (h:FBox W g (.bool b) (.slice a1 l1 c1) (.slice a2 l2 c2)) (x' y' z':Value) {v:Value} {n:Nat} (hv:zAf W v n):zAf (zAs W g x' y' z') v n:=by
 have e1:(W.setCell ⟨g,0,none⟩ x').cell? ⟨g,1,none⟩=some (.slice a1 l1 c1):=by rw[World.cell?_setCell_other _ _ _ _ (by simp)];exact h.c1
 have e2:((W.setCell ⟨g,0,none⟩ x').setCell ⟨g,1,none⟩ y').cell? ⟨g,2,none⟩=some (.slice a2 l2 c2):=by rw[World.cell?_setCell_other _ _ _ _ (by simp),World.cell?_setCell_other _ _ _ _ (by simp)];exact h.c2
 exact((hv.box _ h.c0 (fun _ _ e=>by cases e)).box _ e1 (zAp _ _ _)).box _ e2 (zAp _ _ _)
theorem zAq {B g:Nat} {w W:World} (h:Below B w W) (hg:B≤g) (x y z:Value):Below B w (zAs W g x y z) :=
 ((h.setCell (p:=⟨g,0,none⟩) hg x).setCell (p:=⟨g,1,none⟩) hg y).setCell (p:=⟨g,2,none⟩) hg z
theorem whole_any (u:Nat) (w:World) (hu:u<18446744073709551616) :
  Calls Tryz.prog 154 #[.int .u64 (u:Int)] w fun e w'=>∃v',e=.returned v'∧zCd w' v' false u 1∧Bw w w':=by
 have HB0:Hid (Bw w (w.alloc (.cells #[.bool false,.slice none 0 0,.slice none 0 0] 82))):=bA;have H1:=zAb (zFa u (w.alloc (.cells #[.bool false,.slice none 0 0,.slice none 0 0] 82)) hu);have H2:=zAb (fun W=>zFa 1 W (by omega))
 have HC:Hid (∀W,Below (w.heap.size+1) (w.alloc (.cells #[.bool false,.slice none 0 0,.slice none 0 0] 82)) W→W.cell? ⟨w.heap.size,0,none⟩=some (.bool false)∧W.cell? ⟨w.heap.size,1,none⟩=some (.slice none 0 0)∧W.cell? ⟨w.heap.size,2,none⟩=some (.slice none 0 0)∧W.frozen? ⟨w.heap.size,0,none⟩=false∧W.frozen? ⟨w.heap.size,1,none⟩=false∧W.frozen? ⟨w.heap.size,2,none⟩=false):=fun W hb=>by
  refine⟨?_,?_,?_,?_,?_,?_⟩
  ·rw[hb.cell (p:=⟨w.heap.size,0,none⟩) (show w.heap.size<w.heap.size+1 by omega)];simp[go_sem]
  ·rw[hb.cell (p:=⟨w.heap.size,1,none⟩) (show w.heap.size<w.heap.size+1 by omega)];simp[go_sem]
  ·rw[hb.cell (p:=⟨w.heap.size,2,none⟩) (show w.heap.size<w.heap.size+1 by omega)];simp[go_sem]
  ·rw[hb.frozen (p:=⟨w.heap.size,0,none⟩) (show w.heap.size<w.heap.size+1 by omega)];simp[go_sem]
  ·rw[hb.frozen (p:=⟨w.heap.size,1,none⟩) (show w.heap.size<w.heap.size+1 by omega)];simp[go_sem]
  ·rw[hb.frozen (p:=⟨w.heap.size,2,none⟩) (show w.heap.size<w.heap.size+1 by omega)];simp[go_sem]
 clear hu;go_enter Tryz.func154,Tryz.ntmps154
 go_wp2_with (first
  | (go_at_call_of 210 (Value.int .u64 (u:Int));go_must(refine(un H1).mono ?_;rintro e w1 ⟨a1,l1,c1,rfl,hv1,hb1⟩;have HV1:=zAb hv1;have HB1:=zAb hb1;have hs1:=hb1.size;clear hv1 hb1))
  | (go_at_call 210;go_must(refine(un H2 w1).mono ?_;rintro e w2 ⟨a2,l2,c2,rfl,hv2,hb2⟩;have HV2:=zAb hv2;have HV1':=zAb ((un HV1).later hb2);have HB2:=zAb ((un HB1).trans (hb2.mono hs1));have h1:w.heap.size+1≤(w.alloc (.cells #[.bool false,.slice none 0 0,.slice none 0 0] 82)).heap.size:=(by simp);obtain⟨q0,q1,q2,g0,g1,g2⟩:=un HC w2 ((un HB2).mono h1);clear hv2 hb2)))
 have hF:FBox w2 w.heap.size (.bool false) (.slice none 0 0) (.slice none 0 0):=⟨q0,q1,q2,g0,g1,g2⟩;have hS:=hF.store (.bool false) (.slice a1 l1 c1) (.slice a2 l2 c2);have hb:Below w.heap.size w (zAs w2 w.heap.size (.bool false) (.slice a1 l1 c1) (.slice a2 l2 c2)):=zAq ((un HB0).trans ((un HB2).mono (by simp))) (Nat.le_refl _) _ _ _;have r0:=hS.c0;have r1:=hS.c1;have r2:=hS.c2;exact bodyPost_ret (v:=.agg #[.bool false,.slice a1 l1 c1,.slice a2 l2 c2]) (w:=zAs w2 w.heap.size (.bool false) (.slice a1 l1 c1) (.slice a2 l2 c2)) (by simp[results,Tryz.results154,go_sem,r0,r1,r2]) rfl ⟨_,rfl,⟨_,_,rfl,hF.big _ _ _ (un HV1'),hF.big _ _ _ (un HV2)⟩,hb⟩
theorem FBox.other {W:World} {g k:Nat} {x y z:Value} (h:FBox W g x y z) (hk:g≠k) (u:Value):FBox (W.setCell ⟨k,0,none⟩ u) g x y z :=
 ⟨by rw[World.cell?_setCell_other _ _ _ _ (by intro e;cases e;exact hk rfl)];exact h.c0,by rw[World.cell?_setCell_other _ _ _ _ (by intro e;cases e)];exact h.c1,by rw[World.cell?_setCell_other _ _ _ _ (by intro e;cases e)];exact h.c2,
  by rw[World.frozen?_setCell];exact h.f0,by rw[World.frozen?_setCell];exact h.f1,by rw[World.frozen?_setCell];exact h.f2⟩
end Go.Proofs.YtliadckofhblnaaGreatDoor
namespace Cub
theorem takeB (B:Nat) (l:List Nat) (i:Nat):lval B (l.take (i+1))=lval B (l.take i)+B ^ i*l.getD i 0:=by
 by_cases h:i<l.length
 ·rw[List.take_succ_eq_append_getElem h,lval_snoc,List.length_take,Nat.min_eq_left (by omega)]
  simp[List.getD,h]
 ·rw[List.take_of_length_le (by omega),List.take_of_length_le (by omega)]
  simp[List.getD,Nat.le_of_not_lt h]
structure Acc (B:Nat) (O:List Nat) (c p V:Nat):Prop where
 lim:limbs B O
 val:lval B O+B ^ p*c=V
theorem Acc.step {B:Nat} {O:List Nat} {c p V:Nat} (h:Acc B O c p V) (hB:0<B) (hp:p<O.length) (t:Nat) :
  Acc B (O.set p ((c+O[p]+t) % B)) ((c+O[p]+t) / B) (p+1) (V+B ^ p*t):=by
 refine⟨limbs_set h.lim p _ (Nat.mod_lt _ hB),?_⟩
 have e1:=lval_set B O p ((c+O[p]+t) % B) hp
 have e2:=h.val
 have e3:c+O[p]+t=B*((c+O[p]+t) / B)+(c+O[p]+t) % B:=(Nat.div_add_mod _ _).symm
 generalize (c+O[p]+t) / B=q at *
 generalize (c+O[p]+t) % B=r at *
 have e4:=congrArg (B ^ p*·) e3
 simp only[Nat.mul_add]at e4
 rw[Nat.pow_succ]
 have m1:B ^ p*B*q=B ^ p*(B*q):=Nat.mul_assoc _ _ _
 omega
theorem carry_lt (B c o x y:Nat) (hc:c<B) (ho:o<B) (hx:x<B) (hy:y<B):(c+o+x*y) / B<B:=by
 apply Nat.div_lt_of_lt_mul
 obtain⟨b,rfl⟩:∃b,B=b+1:=⟨B - 1,by omega⟩
 have h1:x*y≤b*b:=Nat.mul_le_mul (by omega) (by omega)
 have h2:(b+1)*(b+1)=b*b+b+b+1:=by rw[Nat.add_mul,Nat.mul_add];omega
 omega
theorem get_zero {B:Nat} {O:List Nat} {p:Nat} (h:lval B O<B ^ p) (hp:p<O.length):O[p]=0:=by
 rcases Nat.eq_zero_or_pos O[p]with h0|h0
 ·exact h0
 ·have e:=lval_set B O p 0 hp
  have:B ^ p*1≤B ^ p*O[p]:=Nat.mul_le_mul_left _ h0
  omega
theorem mul_lt (B:Nat) (x y:List Nat) (hx:limbs B x) (hy:limbs B y) (i:Nat):lval B (x.take i)*lval B y<B ^ (i+y.length)∨B=0:=by
 rcases Nat.eq_zero_or_pos B with h0|h0
 ·exact Or.inr h0
 ·left
  have h1:=lval_lt (B:=B) (l:=x.take i) (fun z hz=>hx z (List.mem_of_mem_take hz))
  have h2:=lval_lt hy
  have h3:B ^ (x.take i).length≤B ^ i:=Nat.pow_le_pow_right h0 (List.length_take_le _ _)
  rw[Nat.pow_add]
  exact Nat.mul_lt_mul'' (by omega) h2
theorem lval_zeros (B n:Nat):lval B (List.replicate n 0)=0:=by
 induction n with
 | zero=>rfl
 | succ n ih=>simp[List.replicate_succ,lval,ih]
theorem limbs_zeros (B n:Nat) (hB:0<B):limbs B (List.replicate n 0):=fun x hx=>by
 rw[List.mem_replicate]at hx;omega
theorem val_inner (B a i k:Nat) (y:List Nat) (V:Nat):V+B ^ i*(a*lval B (y.take k))+B ^ (i+k)*(a*y.getD k 0)=V+B ^ i*(a*lval B (y.take (k+1))):=by
 rw[takeB,Nat.mul_add,Nat.mul_add,Nat.pow_add]
 have:B ^ i*(a*(B ^ k*y.getD k 0))=B ^ i*B ^ k*(a*y.getD k 0):=by
  rw[Nat.mul_left_comm a,←Nat.mul_assoc]
 omega
theorem val_outer (B i:Nat) (x y:List Nat):lval B (x.take i)*lval B y+B ^ i*(x.getD i 0*lval B y)=lval B (x.take (i+1))*lval B y:=by
 rw[takeB,Nat.add_mul,Nat.mul_assoc]
end Cub

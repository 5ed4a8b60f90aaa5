/- The document's Told of a fraction, by its value. -/
import Derived.Test.YtliadckofhblnaaGreatDoorTmRefLess
import Derived.Test.YtliadckofhblnaaGreatDoorTmUnit
set_option maxHeartbeats 2000000
set_option maxRecDepth 100000
namespace Cub
structure FitInv (X V low high:Nat):Prop where
 le:low≤high
 top:high≤9999
 lo:V*low≤X
 hi:high<9999→X<V*(high+1)
theorem FitInv.start (X V:Nat):FitInv X V 0 9999:=⟨by omega,by omega,by simp,fun h=>by omega⟩
theorem FitInv.down {X V low high q:Nat} (h:FitInv X V low high) (h1:low<q) (h2:q≤high) (hlt:X<V*q):FitInv X V low (q - 1) :=
 ⟨by omega,by have:=h.top;omega,h.lo,fun _=>by rw[show q - 1+1=q by omega];exact hlt⟩
theorem FitInv.up {X V low high q:Nat} (h:FitInv X V low high) (h2:q≤high) (hge:¬X<V*q):FitInv X V q high :=
 ⟨h2,h.top,by omega,h.hi⟩
theorem FitInv.done {X V q:Nat} (h:FitInv X V q q) (h9:X / V≤9999) (hV:0<V):q=X / V:=by
 have h1:q≤X / V:=(Nat.le_div_iff_mul_le hV).2 (by rw[Nat.mul_comm];exact h.lo);rcases Nat.lt_or_ge q 9999 with hq|hq
 ·have h2:=h.hi hq
  have h3:X / V<q+1:=(Nat.div_lt_iff_lt_mul hV).2 (by rw[Nat.mul_comm];exact h2)
  omega
 ·omega
end Cub
namespace Go.Proofs.YtliadckofhblnaaGreatDoor.Tm
open Go.RowKit
theorem zHu.one (w:World) (q:Nat):zHu (w.alloc (.cells #[I (q:Int)] 3)) w.heap.size (.slice (some ⟨w.heap.size,0,none⟩) 1 1) [q]:=by
 refine⟨rfl,Or.inr ⟨w.heap.size,1,#[I (q:Int)],rfl,Nat.le_refl _,heap_alloc_new w _,Nat.le_refl _,by unfold maxLen;omega,rfl,rfl⟩⟩
theorem refFits_any (vx vy:Value) (bx by':Nat) (X Y:List Nat) (up Q:Nat) (w:World) (hx:zHu w bx vx X) (hy:zHu w by' vy Y) (hlx:Cub.limbs 10000 X) (hny:Cub.normal 10000 Y) (hl:X.length≤1000000) (hly:Y.length≤100000) (hup:up<X.length)
 (h9:Cub.lval 10000 (X.drop up) / Cub.lval 10000 Y≤9999) (hV:0<Cub.lval 10000 Y) (hQ:Q=Cub.lval 10000 (X.drop up) / Cub.lval 10000 Y) :
 Calls Tryz.prog 277 #[vx,vy,I (up:Int)] w fun e w'=>e=.returned (I (Q:Int))∧Bw w w':=by
 obtain⟨ax,cx,rfl,hcx,hmx,hcells⟩:=hx.open;obtain⟨gx,rfl,hc0⟩:=hcells w (Below.refl _ _) 0 (by omega);clear hcells hc0;have HR:Hid (RowI w (.slice (some ⟨gx,up,none⟩) (X.length - up) (cx - up)) (X.drop up)):=(RowI.of_own hx).drop up hup;obtain⟨t1,t2,_⟩:=Cub.lval_trim 10000 _ (X.drop up) rfl;have HT:Hid (Cub.normal 10000 (Cub.trimN (X.drop up))∧Cub.lval 10000 (Cub.trimN (X.drop up))=Cub.lval 10000 (X.drop up)):=⟨t2 (Cub.limbs_drop4 hlx up),t1⟩;have HY:=zAb hy;have HF:Hid (∀q,Cub.FitInv (Cub.lval 10000 (X.drop up)) (Cub.lval 10000 Y) q q→q=Q):=fun q h=>by rw[hQ];exact h.done h9 hV
 have H81:Hid (∀(q:Nat) (W:World),q<10000→zHu W by' vy Y→Calls Tryz.prog 242 #[vy,.slice (some ⟨W.heap.size,0,none⟩) 1 1] (W.alloc (.cells #[I (q:Int)] 3)) fun e w'=>∃v l,e=.returned v∧RowI w' v l∧Cub.normal 10000 l∧Cub.lval 10000 l=Cub.lval 10000 Y*q∧Bw W w'):=fun q W hq hW=>by
  refine(refTimes_any vy _ by' W.heap.size Y [q] _ (hW.later bA) (zHu.one W q) hny.1 (fun z hz=>by rw[List.mem_singleton]at hz;omega) (by omega) (by simp)).mono ?_;rintro e w' ⟨v,l,he,ho,hn,hv,_,hb⟩;exact⟨v,l,he,RowI.of_own ho,hn,by rw[hv];simp[Cub.lval],bA.trans (hb.mono (by simp))⟩
 generalize Cub.lval 10000 (X.drop up)=XU at *
 generalize Cub.lval 10000 Y=V at *
 generalize X.length=n at *
 clear hx hy hlx hny hly h9 hV hQ t1 t2;go_enter Tryz.func277,Tryz.ntmps277
 go_wp2
 go_loopw [7,8] (fun a b wr=>∃low high:Nat,a=I (low:Int)∧b=I (high:Int)∧low≤high∧high≤9999∧Hid (Cub.FitInv XU V low high)∧Hid (Bw w wr)) (fun a b _=>(intOf b - intOf a).toNat)
 case atStart=>exact⟨0,9999,rfl,rfl,by omega,by omega,Cub.FitInv.start XU V,Below.refl _ _⟩
 case round=>
  obtain⟨low,high,rfl,rfl,hle,htop,HI,HW⟩:=hrel
  by_cases hlt:low<high
  ·obtain⟨q,hq⟩:∃q,q=(low+high+1) / 2:=⟨_,rfl⟩
   have hq':((low:Int)+(high:Int)+1) / 2=(q:Int):=by omega
   have hq1:low<q:=by omega
   have hq2:q≤high:=by omega
   have HWW:=zAb ((un HY).later (un HW));have H81q:=zAb (un H81 q wr (by omega) (un HWW));clear hq
   by_cases hc:XU<V*q
   all_goals go_wp2_with (first
    | (go_at_call 242;go_must(refine(un H81q).mono ?_;rintro e w2 ⟨vp,lp,rfl,hrp,hnp,hvp,hb2⟩;have HP:=zAb (And.intro hrp (And.intro hnp hvp));have HW2:=zAb (bt HW hb2);clear hrp hnp hvp hb2))
    | (go_at_call 244;go_must(refine(refTrimRow_any _ (X.drop up) w2 ((un HR).later (un HW2))).mono ?_;rintro e w3 ⟨vt,rfl,hrt,hw3⟩;rw[hw3];clear hw3;have H85:=zAb (refLess_any vt vp (Cub.trimN (X.drop up)) lp w2 hrt (un HP).1 (un HT).1 (un HP).2.1);rw[(un HT).2,(un HP).2.2]at H85;clear hrt))
    | (go_at_call 276;go_must(refine(un H85).mono ?_;rintro e w4 ⟨rfl,hb4⟩;have HW4:=zAb (bt HW2 hb4);clear hb4)))
   ·go_roundw
    case rel=>exact⟨low,q - 1,rfl,by go_num,by omega,by omega,(un HI).down hq1 hq2 hc,HW4⟩
    case measure=>simp[intOf];omega
   ·go_roundw
    case rel=>exact⟨q,high,rfl,rfl,by omega,by omega,(un HI).up hq2 hc,HW4⟩
    case measure=>simp[intOf];omega
  ·have hie:low=high:=by omega
   subst hie;have HV:=zAb (un HF low (un HI));clear HF
   go_wp2
   go_ret
   exact⟨by rw[←un HV];rfl,un HW⟩
end Go.Proofs.YtliadckofhblnaaGreatDoor.Tm
namespace Go.Proofs.YtliadckofhblnaaGreatDoor.Tm
open Go.RowKit
theorem grown_refl (w:World) (r:Option Nat):w.grownBy w r:=⟨rfl,rfl,rfl,Nat.le_refl _,fun _ _ _=>rfl⟩
theorem grown_set {w wr:World} {g i:Nat} {v:Value} (h:w.grownBy wr (some g)):w.grownBy (wr.setCell ⟨g,i,none⟩ v) (some g) :=
  ⟨h.os,h.tape,h.output,by simpa [World.setCell] using h.size,fun k hk hne=>by
    rw[Below.heap_setCell _ _ _ _ (fun e=>hne (by rw[e]))];exact h.block k hk hne⟩
theorem own_grown {w wr:World} {g base:Nat} {v:Value} {l:List Nat} (h:zHu w base v l) (hg:w.grownBy wr (some g)) (hlt:g<base):zHu wr base v l:=by
  obtain⟨hx,h2⟩:=h;refine⟨hx,?_⟩;rcases h2 with h2|⟨g',cap,cur,e,hbs,hg',r⟩
  · exact Or.inl h2
  · exact Or.inr ⟨g',cap,cur,e,hbs,(hg.block g' (Array.getElem?_eq_some_iff.1 hg').1 (fun e=>by simp only[Option.some.injEq]at e;omega)).trans hg',r⟩
theorem own_set {w:World} {base g n cap i:Nat} {D:List Nat} (h:zHu w base (.slice (some ⟨g,0,none⟩) n cap) D) (hn:n=D.length) (x:Nat) (z:Int) (hz:z=(x:Int)):zHu (w.setCell ⟨g,i,none⟩ (I z)) base (.slice (some ⟨g,0,none⟩) n cap) (D.set i x):=by
  subst hz;have h':w.ownsRow base 3 1 (.slice (some ⟨g,0,none⟩) n cap) n (zJe D):=by unfold zHu at h;rw[←hn]at h;exact h
  have h2:=(World.ownsRow.stored h' i (I (x:Int))).1;rw[zJk]at h2;unfold zHu;rw[List.length_set,←hn];exact h2
theorem refTake_any (vy:Value) (bx by' g n cx:Nat) (X Y:List Nat) (up q:Nat) (w:World) (hn:n=X.length) (hx:zHu w bx (.slice (some ⟨g,0,none⟩) n cx) X) (hy:zHu w by' vy Y) (hg:g<by') (hlx:Cub.limbs 10000 X) (hly:Cub.limbs 10000 Y) (hl:n≤1000000) (hup:up+Y.length≤n) (hq:q≤9999)
    (hle:q*Cub.lval 10000 Y≤Cub.lval 10000 (X.drop up)) :
    Calls Tryz.prog 278 #[.slice (some ⟨g,0,none⟩) n cx,vy,I (up:Int),I (q:Int)] w fun e w'=>e=.returned (.tuple #[])∧(∃D,zHu w' bx (.slice (some ⟨g,0,none⟩) n cx) D∧D.length=X.length∧Cub.limbs 10000 D∧D.take up=X.take up∧Cub.lval 10000 (D.drop up)+q*Cub.lval 10000 Y=Cub.lval 10000 (X.drop up))∧w.grownBy w' (some g):=by
  obtain⟨ay,cy,rfl,hcy,hmy,hcells⟩:=hy.open;have HC:=zAb hcells;have HN:=zAb hn;have HY:=zAb hy;have HLY:=zAb hly;have HLE:=zAb hle;have HS:Hid (Cub.RefTakeInv X Y X up q 0 0):=Cub.RefTakeInv.start Y up q hlx;have HX:=zAb hx;obtain⟨ny,hny⟩:∃ny,ny=Y.length:=⟨_,rfl⟩;rw[←hny]at hcy hup HY ⊢;have HNY:=zAb hny;clear hcells hn hy hly hle hlx hx hny;go_enter Tryz.func278,Tryz.ntmps278
  go_wp2
  go_loopw [8,9] (fun a b wr=>∃(c k:Nat) (D:List Nat),a=I (c:Int)∧b=I (k:Int)∧c≤9999∧up+k≤n∧Hid (Cub.RefTakeInv X Y D up q c k)∧Hid (zHu wr bx (.slice (some ⟨g,0,none⟩) n cx) D)∧Hid (w.grownBy wr (some g))) (fun _ b _=>n - (intOf b).toNat)
  case atStart=>exact⟨0,0,X,rfl,rfl,by omega,by omega,HS,HX,grown_refl _ _⟩
  case round=>
    obtain⟨c,k,D,rfl,rfl,hc,hk,HI,HO,HG⟩:=hrel;clear HS HX;have hDn:n=D.length:=by rw[(un HI).len];exact un HN
    by_cases hend:¬k<ny∧c=0
    · obtain⟨hkn,hc0⟩:=hend
      subst hc0;have HD:=zAb ((un HI).done (by have:=un HNY;omega) (by have:=un HN;omega))
      go_wp2
      go_end0
      exact⟨rfl,⟨D,un HO,(un HI).len,(un HI).lim,(un HI).low,un HD⟩,un HG⟩
    · have hkn:up+k<n:=by
        rcases Nat.lt_or_ge (up+k) n with h|h
        · exact h
        · exfalso
          have hc0:=(un HI).owes (by have:=un HNY;omega) (by have:=un HN;omega) (un HLE);exact hend ⟨by omega,hc0⟩
      have hkD:up+k<D.length:=by omega
      obtain⟨x,hx⟩:∃x,x=D[up+k]:=⟨_,rfl⟩;have hxB:x<10000:=by rw[hx];exact(un HI).lim _ (List.getElem_mem hkD)
      obtain⟨gx',cgx,e1,_,_,hcx⟩:=(un HO).open;simp only[Value.slice.injEq]at e1;obtain⟨rfl,hn1,rfl⟩:=e1;clear hn1;obtain⟨g2,e2,hcd⟩:=hcx wr (Below.refl _ _) (up+k) hkD;simp only[Option.some.injEq,Addr.mk.injEq]at e2;obtain⟨rfl,hn2⟩:=e2;clear hn2;rw[←hx]at hcd
      have hfd:wr.frozen? ⟨g,up+k,none⟩=false:=by
        have h:=un HO;unfold zHu at h;rw[←hDn]at h
        exact h.frozenAt (up+k)
      obtain⟨y,hy⟩:∃y,Y.getD k 0=y:=⟨_,rfl⟩;have hyB:y<10000:=by rw[←hy];exact Cub.getD_lt (un HLY) (by decide) _
      obtain⟨p,hp⟩:∃p,p=q*y:=⟨_,rfl⟩;have hpB:p≤99980001:=by rw[hp];exact Nat.mul_le_mul hq (show y≤9999 by omega)
      have hpI:(q:Int)*(y:Int)=(p:Int):=by rw[hp];exact(Int.natCast_mul q y).symm
      have HST:Hid (∀d c':Nat,d<10000→c'≤9999→x+c'*10000=d+c+p→Cub.RefTakeInv X Y (D.set (up+k) d) up q c' (k+1)):=fun d c' h1 h2 h3=>(un HI).step hkD h1 h2 (by rw[←hx,hy,←hp];exact h3)
      have HSET:Hid (∀(d:Nat) (z:Int),z=(d:Int)→zHu (wr.setCell ⟨g,up+k,none⟩ (I z)) bx (.slice (some ⟨g,0,none⟩) n cx) (D.set (up+k) d)):=fun d z hz=>own_set (un HO) hDn d z hz
      have HGS:Hid (∀z:Int,w.grownBy (wr.setCell ⟨g,up+k,none⟩ (I z)) (some g)):=fun z=>grown_set (un HG)
      have HOY:=zAb (own_grown (un HY) (un HG) hg);have hkI:(up:Int)+(k:Int)<(n:Int):=by omega
      by_cases hky:k<ny
      · have hkl:k<Y.length:=by have:=un HNY;omega
        obtain⟨ay2,cy2,e3,_,_,hcy2⟩:=(un HOY).open;simp only[Value.slice.injEq]at e3;obtain⟨rfl,hn3,rfl⟩:=e3;clear hn3;obtain⟨b,rfl,hcb⟩:=hcy2 wr (Below.refl _ _) k hkl;rw[show Y[k]=y by rw[←hy,List.getD_eq_getElem?_getD,List.getElem?_eq_getElem hkl];rfl]at hcb;have hkyI:(k:Int)<(ny:Int):=by omega
        clear hx hy hp hcx hcy2 HI HO HG HOY hDn hend hkl HLE HC
        by_cases hneg:x<c+p
        · have hnI:(x:Int) - (c:Int) - (p:Int)<0:=by omega
          obtain⟨c',hc'⟩:∃c',c'=(c+p - x+9999) / 10000:=⟨_,rfl⟩;have hcI:(-((x:Int) - (c:Int) - (p:Int))+10000 - 1) / 10000=(c':Int):=by omega
          have hc9:c'≤9999:=by omega
          obtain⟨d,hd⟩:∃d,d=x+c'*10000 - (c+p):=⟨_,rfl⟩;have hdI:(x:Int) - (c:Int) - (p:Int)+(c':Int)*10000=(d:Int):=by omega
          have hd9:d<10000:=by omega
          have HST2:=zAb (un HST d c' hd9 hc9 (by omega));clear hc' hd HST
          go_wp2
          go_roundw
          case rel=>exact⟨c',k+1,D.set (up+k) d,by go_num,by go_num,hc9,by omega,HST2,un HSET d _ rfl,un HGS _⟩
          case measure=>simp[intOf];omega
        · have hnI:¬(x:Int) - (c:Int) - (p:Int)<0:=by omega
          obtain⟨d,hd⟩:∃d,d=x - (c+p):=⟨_,rfl⟩;have hdI:(x:Int) - (c:Int) - (p:Int)=(d:Int):=by omega
          have HST2:=zAb (un HST d 0 (by omega) (by omega) (by omega));have hnI2:¬(d:Int)<0:=by omega
          clear hd HST hnI
          go_wp2
          go_roundw
          case rel=>exact⟨0,k+1,D.set (up+k) d,rfl,by go_num,by omega,by omega,HST2,un HSET d _ rfl,un HGS _⟩
          case measure=>simp[intOf];omega
      · have hkyI:¬(k:Int)<(ny:Int):=by omega
        have hc0:(0:Int)<(c:Int):=by omega
        have hp0:p=0:=by
          rw[hp,←hy,List.getD_eq_getElem?_getD,List.getElem?_eq_none (by have:=un HNY;omega)];exact Nat.mul_zero q
        clear hx hy hp hcx HI HO HG HOY hDn hend HLE HC hpI hpB;subst hp0
        by_cases hneg:x<c
        · have hnI:(x:Int) - (c:Int)<0:=by omega
          obtain⟨c',hc'⟩:∃c',c'=(c - x+9999) / 10000:=⟨_,rfl⟩;have hcI:(-((x:Int) - (c:Int))+10000 - 1) / 10000=(c':Int):=by omega
          have hc9:c'≤9999:=by omega
          obtain⟨d,hd⟩:∃d,d=x+c'*10000 - c:=⟨_,rfl⟩;have hdI:(x:Int) - (c:Int)+(c':Int)*10000=(d:Int):=by omega
          have hd9:d<10000:=by omega
          have HST2:=zAb (un HST d c' hd9 hc9 (by omega));clear hc' hd HST
          go_wp2
          go_roundw
          case rel=>exact⟨c',k+1,D.set (up+k) d,by go_num,by go_num,hc9,by omega,HST2,un HSET d _ rfl,un HGS _⟩
          case measure=>simp[intOf];omega
        · have hnI:¬(x:Int) - (c:Int)<0:=by omega
          obtain⟨d,hd⟩:∃d,d=x - c:=⟨_,rfl⟩;have hdI:(x:Int) - (c:Int)=(d:Int):=by omega
          have HST2:=zAb (un HST d 0 (by omega) (by omega) (by omega));have hnI2:¬(d:Int)<0:=by omega
          clear hd HST hnI
          go_wp2
          go_roundw
          case rel=>exact⟨0,k+1,D.set (up+k) d,rfl,by go_num,by omega,by omega,HST2,un HSET d _ rfl,un HGS _⟩
          case measure=>simp[intOf];omega
theorem own_other {w:World} {base g n c g' i:Nat} {l:List Nat} {u:Value} (h:zHu w base (.slice (some ⟨g,0,none⟩) n c) l) (hne:g≠g'):zHu (w.setCell ⟨g',i,none⟩ u) base (.slice (some ⟨g,0,none⟩) n c) l:=by
 obtain⟨hx,h2⟩:=h;refine⟨hx,?_⟩;rcases h2 with ⟨e,_⟩|⟨g2,cap,cur,e,hbs,hg',r⟩
 ·cases e
 ·refine Or.inr ⟨g2,cap,cur,e,hbs,?_,r⟩
  simp only[Value.slice.injEq,Option.some.injEq,Addr.mk.injEq]at e;obtain⟨⟨rfl,_⟩,_⟩:=e;rw[Below.heap_setCell _ _ _ _ (by exact hne)];exact hg'
theorem own_block {w:World} {base:Nat} {v:Value} {l:List Nat} (h:zHu w base v l) (hne:l≠[]):∃g c,v=.slice (some ⟨g,0,none⟩) l.length c∧base≤g∧g<w.heap.size∧l.length≤c∧c≤9223372036854775807:=by
 obtain⟨a,c,rfl,hc,hm,hcells⟩:=h.open;have h0:0<l.length:=List.length_pos_iff.2 hne;obtain⟨g,rfl,_⟩:=hcells w (Below.refl _ _) 0 h0;have:=World.ownsRow.lt h g rfl;exact⟨g,c,rfl,this.1,this.2,hc,hm⟩
theorem mk_tb (m:Nat) (hm:m<10 ^ 600):(⟨(Lib.decDigits m).toArray⟩:ByteArray)=tb m:=by
 have:=zJb m hm;rw[←this]
theorem mod_lt' (m n:Nat) (d:Nat) (hm:m<10 ^ d):m % n<10 ^ d:=Nat.lt_of_le_of_lt (Nat.mod_le _ _) hm
theorem pos10 (d:Nat):0<10 ^ d:=Nat.pow_pos (by decide)
theorem refDivideG (s t:ByteArray) (w:World) (hs1:Cub.isNat s.data.toList) (ht1:Cub.isNat t.data.toList) (hsz:s.size≤5000) (htz:t.size≤5000) (h0:0<val t) :
 Calls Tryz.prog 240 #[.string s,.string t] w fun e w'=>e=.returned (.tuple #[.string ⟨(Lib.decDigits (val s / val t)).toArray⟩,.string ⟨(Lib.decDigits (val s % val t)).toArray⟩])∧Bw w w':=by
 have hs2:s.data.toList.length≤5000:=by rw[zBq];exact hsz
 have ht2:t.data.toList.length≤5000:=by rw[zBq];exact htz
 have HLS:Hid (∀W:World,Calls Tryz.prog 243 #[.string s] W fun e w'=>∃v l,e=.returned v∧zHu w' W.heap.size v l∧Cub.normal 10000 l∧Cub.lval 10000 l=val s∧l.length≤5000∧Bw W w'):=fun W=>by
  refine(zHt s W (by omega) hs1.1).mono ?_;rintro e w' ⟨v,l,he,ho,hn,hv,hb⟩;exact⟨v,l,he,ho,hn,hv,by have:=Cub.len_le4 hs1.1 hn hv;omega,hb⟩
 have HLT:Hid (∀W:World,Calls Tryz.prog 243 #[.string t] W fun e w'=>∃v l,e=.returned v∧zHu w' W.heap.size v l∧Cub.normal 10000 l∧Cub.lval 10000 l=val t∧l.length≤5000∧Bw W w'):=fun W=>by
  refine(zHt t W (by omega) ht1.1).mono ?_;rintro e w' ⟨v,l,he,ho,hn,hv,hb⟩;exact⟨v,l,he,ho,hn,hv,by have:=Cub.len_le4 ht1.1 hn hv;omega,hb⟩
 have HSS:Hid (s=⟨(Lib.decDigits (val s)).toArray⟩):=by
  show _=_;have:Lib.decDigits (val s)=s.data.toList:=Cub.dec_dval _ _ rfl hs1;rw[this]
 clear hs1 hs2 ht1 ht2 hsz htz;go_enter Tryz.func240,Tryz.ntmps240
 go_upto_region 3 with (first
  | (go_at_call_of 243 s;go_must(refine(un HLS w).mono ?_;rintro e w1 ⟨vx,X,rfl,ho1,hnX,hvX,hlX,hb1⟩;have HX:=zAb (And.intro ho1 (And.intro hnX hvX));clear ho1 hnX hvX;have hs1:=hb1.size))
  | (go_at_call_of 243 t;go_must(refine(un HLT w1).mono ?_;rintro e w2 ⟨vy,Y,rfl,ho2,hnY,hvY,hlY,hb2⟩;have HY:=zAb (And.intro ho2 (And.intro hnY hvY));clear ho2 hnY hvY)))
 have hs2:w.heap.size≤w2.heap.size:=Nat.le_trans hs1 hb2.size;have HB2:=zAb (hb1.trans (hb2.mono hs1));have H85:=zAb (refLess_any vx vy X Y w2 (RowI.of_own ((un HX).1.later hb2)) (RowI.of_own (un HY).1) (un HX).2.1 (un HY).2.1);rw[(un HX).2.2,(un HY).2.2]at H85
 by_cases hlt:val s<val t
 ·rw[decide_eq_true hlt]at H85
  have HQ:Hid (Lib.decDigits (val s / val t)=[48]∧val s % val t=val s):=⟨by rw[Nat.div_eq_of_lt hlt];exact dec_zero,Nat.mod_eq_of_lt hlt⟩;clear hlt h0 HLS HLT hb1 hb2
  go_wp2_with (go_at_call 276;go_must(refine(un H85).mono ?_;rintro e w3 ⟨rfl,hb3⟩))
  go_ret2
  exact⟨by rw[(un HQ).1,(un HQ).2,←un HSS];rfl,(un HB2).trans (hb3.mono hs2)⟩
 ·rw [decide_eq_false hlt]at H85
  have hYne:Y≠[]:=fun e=>by have:=(un HY).2.2;rw[e]at this;have h2:Cub.lval 10000 []=0:=rfl;omega
  have hyx:Y.length≤X.length:=Cub.normal_len_le (by decide) (un HX).2.1.1 (un HY).2.1 (by rw[(un HX).2.2,(un HY).2.2];omega);have hYl:0<Y.length:=List.length_pos_iff.2 hYne;have hXne:X≠[]:=fun e=>by rw[e]at hyx;simp at hyx;exact hYne hyx
  obtain⟨g,cX,rfl,hg1,hg2,hcX,hmX⟩:=own_block (un HX).1 hXne;obtain⟨gy,cY,rfl,hy1,hy2,hcY,hmY⟩:=own_block (un HY).1 hYne
  have HS0:Hid (Cub.lval 10000 (X.drop (X.length - Y.length+1))<Cub.lval 10000 Y):=by
   show _<_;have h1:=Cub.lval_lt (Cub.limbs_drop4 (un HX).2.1.1 (X.length - Y.length+1));rw[List.length_drop]at h1;have h2:=Cub.normal_ge (un HY).2.1 hYne;have h3:X.length - (X.length - Y.length+1)=Y.length - 1:=by omega
   rw[h3]at h1
   omega
  have HX2:=zAb ((un HX).1.later hb2)
  have HDV:Hid (Cub.DivInv (val s) (val t) X (List.replicate X.length 0) X.length (X.length - Y.length+1)):=by
   have:=Cub.DivInv.start (A:=val s) (V:=val t) (un HX).2.1.1 (un HX).2.2 (up:=X.length - Y.length+1) (by rw[←(un HY).2.2];exact un HS0);exact this
  have HYY:=zAb (un HY);obtain⟨nX,hnX⟩:∃nX,nX=X.length:=⟨_,rfl⟩;obtain⟨nY,hnY⟩:∃nY,nY=Y.length:=⟨_,rfl⟩;rw[←hnX]at HX2 HDV H85 hcX hyx hlX ⊢;rw[←hnY]at HYY HDV H85 hcY hyx hYl hlY ⊢;have HNX:=zAb hnX;have HNY:=zAb hnY;have HLT2:=zAb hlt;have hb2s:=hb2.size;clear hlt HSS HLS HLT hb1 hb2 HX HY HS0 hYne hXne hnX hnY;obtain⟨i0,hi,hz0,hz1,hz2⟩:=info_parts Tryz.info3
  go_wp2_with (first
   | (go_at_call 276;go_must(refine(un H85).mono ?_;rintro e w3 ⟨rfl,hb3⟩;have HX3:=zAb ((un HX2).later hb3);have HY3:=zAb ((un HYY).1.later hb3);have HB3:=zAb ((un HB2).trans (hb3.mono hs2));have hs3:=hb3.size;clear hb3))
   | (at_make;go_must(refine wpList_make_full _ rfl _ _ 255 rfl w3.heap.size 3 i0 (I 0) 1 Tryz.underlying255 hi hz0 hz1 .i64 .i64 _ _ nX rfl rfl (by omega) (by omega) (by rw[hz2];omega) (by unfold maxLen;omega) (Nat.le_refl _) ?_;intro w4 hown4 hgrow4;rw[i64s_made]at hown4;have hb4:Below w3.heap.size w3 w4:=(Below.refl _ _).grown hgrow4 (Nat.le_refl _) (fun k hk=>by cases hk);have HQ4:Hid (zHu w4 w3.heap.size (.slice (some ⟨w3.heap.size,0,none⟩) nX nX) (List.replicate nX 0)):=(by show World.ownsRow _ _ _ _ _ _ _;rw[List.length_replicate];exact hown4);have HX4:=zAb ((un HX3).later hb4);have HY4:=zAb ((un HY3).later hb4);have HB4:=zAb ((un HB3).trans (hb4.mono (Nat.le_trans hs2 hs3)));clear hown4 hgrow4 hb4)))
  have hgq:g<w3.heap.size:=by omega
  have hgyq:gy<w3.heap.size:=by omega
  have hwq:w.heap.size≤w3.heap.size:=by omega
  have hygg:g<w1.heap.size:=hg2;generalize hgw:w3.heap.size=gq at *
  clear hgw H85 HX2 HX3 HY3 HB3 HB2
  go_loopw [9] (fun v9 wr=>∃(u:Nat) (X Q:List Nat),v9=I ((u:Int) - 1)∧u≤nX - nY+1∧Hid (Cub.DivInv (val s) (val t) X Q nX u)∧Hid (zHu wr w.heap.size (.slice (some ⟨g,0,none⟩) nX cX) X)∧Hid (zHu wr w1.heap.size (.slice (some ⟨gy,0,none⟩) nY cY) Y)∧Hid (zHu wr gq (.slice (some ⟨gq,0,none⟩) nX nX) Q)∧Hid (Bw w wr)) (fun v9 _=>(intOf v9+1).toNat)
  case atStart=>exact⟨nX - nY+1,X,_,by go_num,Nat.le_refl _,HDV,HX4,HY4,HQ4,HB4⟩
  case round=>
   obtain⟨u,X',Q,rfl,hu,HI,HOX,HOY,HOQ,HB⟩:=hrel;clear HDV HX4 HY4 HQ4 HB4 HNX X;have HVY:=zAb (un HYY).2;clear HYY
   by_cases hu0:u=0
   ·subst hu0
    obtain⟨d1,d2⟩:=(un HI).done;obtain⟨q1,q2,_⟩:=Cub.lval_trim 10000 _ Q rfl;obtain⟨x1,x2,_⟩:=Cub.lval_trim 10000 _ X' rfl
    have HTQ:Hid (Cub.normal 10000 (Cub.trimN Q)∧Cub.lval 10000 (Cub.trimN Q)=val s / val t∧(Cub.trimN Q).length≤1000000):=⟨q2 (un HI).limQ,q1.trans d1,by
     have h:=Cub.len_leB (B:=10000) (by decide) (k:=nX) (q2 (un HI).limQ) (by rw[q1];have:=Cub.lval_lt (un HI).limQ;rw[(un HI).lenQ]at this;exact this)
     omega⟩
    have HTX:Hid (Cub.normal 10000 (Cub.trimN X')∧Cub.lval 10000 (Cub.trimN X')=val s % val t∧(Cub.trimN X').length≤1000000):=⟨x2 (un HI).limX,x1.trans d2,by
     have h:=Cub.len_leB (B:=10000) (by decide) (k:=nX) (x2 (un HI).limX) (by rw[x1];have:=Cub.lval_lt (un HI).limX;rw[(un HI).lenX]at this;exact this)
     omega⟩
    have H77q:=zAb (zHv _ gq Q wr (un HOQ));clear d1 d2 q1 q2 x1 x2 HI;have hbs:=(un HB).size
    go_wp2_with fail
    refine(un H77q).mono ?_;rintro e w5 ⟨vq,rfl,hoq,hw5⟩;rw[hw5];have H76q:=zAb (zJa vq gq (Cub.trimN Q) wr hoq (un HTQ).1 (un HTQ).2.2);rw[(un HTQ).2.1]at H76q;clear hoq hw5 H77q
    go_wp2_with fail
    refine(un H76q).mono ?_;rintro e w6 ⟨rfl,hb6⟩;have H77x:=zAb (zHv _ w.heap.size X' w6 ((un HOX).later hb6));clear H76q
    go_wp2_with fail
    refine(un H77x).mono ?_;rintro e w7 ⟨vt,rfl,hot,hw7⟩;rw[hw7];have H76x:=zAb (zJa vt w.heap.size (Cub.trimN X') w6 hot (un HTX).1 (un HTX).2.2);rw[(un HTX).2.1]at H76x;clear hot hw7 H77x
    go_wp2_with fail
    refine(un H76x).mono ?_;rintro e w8 ⟨rfl,hb8⟩;have hb9:=(un HB).trans ((hb6.trans (hb8.mono hb6.size)).mono hbs)
    go_wp2_with fail
    go_ret2
    exact⟨rfl,hb9⟩
   ·obtain⟨up,rfl⟩:∃up,u=up+1:=⟨u - 1,by omega⟩
    have hupn:up<nX:=by omega
    have hnYY:=un HNY;have hlX':=(un HI).lenX;obtain⟨q,hq⟩:∃q,q=Cub.lval 10000 (X'.drop up) / Cub.lval 10000 Y:=⟨_,rfl⟩;have hq9:q≤9999:=by rw[hq,(un HVY).2];exact(un HI).quo hupn
    have H86:=zAb (refFits_any (.slice (some ⟨g,0,none⟩) nX cX) (.slice (some ⟨gy,0,none⟩) nY cY) w.heap.size w1.heap.size X' Y up q wr (un HOX) (un HOY) (un HI).limX (un HVY).1 (by omega) (by omega) (by omega) (by rw[←hq];exact hq9) (by rw[(un HVY).2];exact h0) hq);have hle:q*Cub.lval 10000 Y≤Cub.lval 10000 (X'.drop up):=by rw[hq];exact Nat.div_mul_le_self _ _
    have HST:Hid (∀D:List Nat,D.length=X'.length→Cub.limbs 10000 D→D.take up=X'.take up→Cub.lval 10000 (D.drop up)+q*Cub.lval 10000 Y=Cub.lval 10000 (X'.drop up)→Cub.DivInv (val s) (val t) D (Q.set up q) nX up):=fun D h1 h2 h3 h4=>(un HI).step hupn (by rw[hq,(un HVY).2]) h1 h2 h3 (by rw[←(un HVY).2];exact h4)
    have HLQ:Hid (Q.length=nX):=(un HI).lenQ
    have H87:Hid (∀W:World,zHu W w.heap.size (.slice (some ⟨g,0,none⟩) nX cX) X'→zHu W w1.heap.size (.slice (some ⟨gy,0,none⟩) nY cY) Y→Calls Tryz.prog 278 #[.slice (some ⟨g,0,none⟩) nX cX,.slice (some ⟨gy,0,none⟩) nY cY,I (up:Int),I (q:Int)] W fun e w'=>e=.returned (.tuple #[])∧(∃D,zHu w' w.heap.size (.slice (some ⟨g,0,none⟩) nX cX) D∧D.length=X'.length∧Cub.limbs 10000 D∧D.take up=X'.take up∧Cub.lval 10000 (D.drop up)+q*Cub.lval 10000 Y=Cub.lval 10000 (X'.drop up))∧W.grownBy w' (some g)):=fun W hx hy=>
     refTake_any _ w.heap.size w1.heap.size g nX cX X' Y up q W hlX'.symm hx hy hygg (un HI).limX (un HVY).1.1 (by omega) (by omega) hq9 hle
    have HZ:Hid (q=0→Cub.DivInv (val s) (val t) X' (Q.set up q) nX up):=fun h=>un HST X' rfl (un HI).limX rfl (by rw[h];simp)
    have ej:((up+1:Nat):Int) - 1=(up:Int):=by omega
    rw[ej];have hbs:=(un HB).size;clear hq hle hnYY hlX' HI HNY HVY ej hu0;have hupI:(up:Int)<(nX:Int):=by omega
    go_upto_region 10 with (first
     | (go_at_call 277;go_must(refine(un H86).mono ?_;rintro e w5 ⟨rfl,hb5⟩;have HOX5:=zAb ((un HOX).later hb5);have HOY5:=zAb ((un HOY).later hb5);have HOQ5:=zAb ((un HOQ).later hb5);have HB5:=zAb ((un HB).trans (hb5.mono hbs));clear hb5;have hupQ:up<Q.length:=(by have:=un HLQ;omega);have HROW:Hid (w5.ownsRow gq 3 1 (.slice (some ⟨gq,0,none⟩) nX nX) nX (zJe Q)):=(by have h:=un HOQ5;unfold zHu at h;rw[un HLQ]at h;exact h);have cq:w5.cell? ⟨gq,up,none⟩=some (I (Q[up]:Int)):=(by rw[(un HROW).cellAt up (by omega),i64s_get Q up hupQ]);have fq:w5.frozen? ⟨gq,up,none⟩=false:=(un HROW).frozenAt up)))
    obtain⟨W,hW⟩:∃W,W=w5.setCell ⟨gq,up,none⟩ (I (q:Int)):=⟨_,rfl⟩;have HOX6:Hid (zHu W w.heap.size (.slice (some ⟨g,0,none⟩) nX cX) X'):=by rw[hW];exact own_other (un HOX5) (by omega)
    have HOY6:Hid (zHu W w1.heap.size (.slice (some ⟨gy,0,none⟩) nY cY) Y):=by rw[hW];exact own_other (un HOY5) (by omega)
    have HOQ6:Hid (zHu W gq (.slice (some ⟨gq,0,none⟩) nX nX) (Q.set up q)):=by rw[hW];exact own_set (un HOQ5) (un HLQ).symm q _ rfl
    have HB6:Hid (Bw w W):=by rw[hW];exact(un HB5).setCell (by exact hwq) _
    have cW:W.cell? ⟨gq,up,none⟩=some (I (q:Int)):=by rw[hW];exact World.cell?_setCell_same _ _ _ cq
    rw[←hW];clear hW cq fq HROW HOX5 HOY5 HOQ5 HB5 HOX HOY HOQ HB H86 hupQ
    by_cases hq0:0<q
    ·have H87w:=zAb (un H87 W (un HOX6) (un HOY6))
     have hqI:(0:Int)<(q:Int):=by omega
     clear H87 HZ
     go_wp2_with (go_at_call 278;go_must(refine(un H87w).mono ?_;rintro e w7 ⟨rfl,hD,hg7⟩;obtain⟨D,hoD,hl,hlim,hlow,hsum⟩:=hD;have HI7:=zAb (un HST D hl hlim hlow hsum);have HOX7:=zAb hoD;have HOY7:=zAb (own_grown (un HOY6) hg7 hygg);have HOQ7:=zAb (own_grown (un HOQ6) hg7 hgq);have HB7:=zAb ((un HB6).grown hg7 (un HB6).size (fun k hk=>by simp only[Option.some.injEq]at hk;omega));clear hoD hl hlim hlow hsum hg7))
     go_roundw
     case rel=>exact⟨up,D,Q.set up q,by go_num,by omega,HI7,HOX7,HOY7,HOQ7,HB7⟩
     case measure=>simp[intOf]
    ·have HI7:=zAb (un HZ (by omega))
     have hqI:¬(0:Int)<(q:Int):=by omega
     clear H87 HZ HST
     go_wp2_with fail
     go_roundw
     case rel=>exact⟨up,X',Q.set up q,by go_num,by omega,HI7,HOX6,HOY6,HOQ6,HB6⟩
     case measure=>simp[intOf]
def tx (n:Nat):ByteArray:=⟨(Lib.decDigits n).toArray⟩
theorem tx_list (n:Nat):(tx n).data.toList=Lib.decDigits n:=rfl
theorem zJf (n:Nat):val (tx n)=n:=Cub.dval_dec n
theorem zJm (n:Nat):Cub.isNat (tx n).data.toList:=Cub.isNat_dec n
theorem tx_tb (n:Nat) (h:n<10 ^ 600):tb n=tx n:=(mk_tb n h).symm
theorem zHz {d n:Nat} (hd:1≤d) (h:n<10 ^ d):(tx n).size≤d:=by
 have:=(Cub.dec_len_lt n d hd).2 h;rw[←tx_list,zBq]at this;exact this
theorem tx_zero:((tx 0).toList == [48])=true:=by
 rw[Lib.toList_data,tx_list,dec_zero];rfl
theorem tx_pos (n:Nat) (h0:0<n):((tx n).toList == [48])=false:=by
 rw[Lib.toList_data,tx_list,beq_eq_false_iff_ne];intro e;rw[←dec_zero]at e;have:=Cub.dec_inj e
 omega
theorem refDivideM (d m n:Nat) (w:World) (hd1:1≤d) (hd:d≤5000) (hm:m<10 ^ d) (hn:n<10 ^ d) (h0:0<n) :
  Calls Tryz.prog 240 #[.string (tx m),.string (tx n)] w fun e w'=>e=.returned (.tuple #[.string (tx (m / n)),.string (tx (m % n))])∧Bw w w':=by
 have h:=refDivideG (tx m) (tx n) w (zJm m) (zJm n) (Nat.le_trans (zHz hd1 hm) hd) (Nat.le_trans (zHz hd1 hn) hd) (by rw[zJf];exact h0);rw[zJf,zJf]at h;exact h
theorem refPlusM (d m n:Nat) (w:World) (hd1:1≤d) (hd:d≤5000) (hm:m<10 ^ d) (hn:n<10 ^ d) :
  Calls Tryz.prog 192 #[.string (tx m),.string (tx n)] w fun e w'=>e=.returned (.string (tx (m+n)))∧Bw w w':=by
 have s1:=zHz hd1 hm;have s2:=zHz hd1 hn;have h:=refPlus_any (tx m) (tx n) w (by omega) (by omega) (zJm m).1 (zJm n).1;rw[show Cub.dval (tx m).data.toList=m from zJf m,show Cub.dval (tx n).data.toList=n from zJf n]at h;exact h
theorem refMinusM (d m n:Nat) (w:World) (hd1:1≤d) (hd:d≤5000) (hm:m<10 ^ d) (hn:n<10 ^ d) (hle:n≤m) :
  Calls Tryz.prog 194 #[.string (tx m),.string (tx n)] w fun e w'=>e=.returned (.string (tx (m - n)))∧Bw w w':=by
 have s1:=zHz hd1 hm;have s2:=zHz hd1 hn;have e1:Cub.dval (tx m).data.toList=m:=zJf m;have e2:Cub.dval (tx n).data.toList=n:=zJf n;have h:=refMinus_any (tx m) (tx n) w (by omega) (by omega) (zJm m).1 (zJm n).1 (by rw[e1,e2];exact hle);rw[e1,e2]at h;exact h
theorem refTimesS_any (s t:ByteArray) (w:World) (hs:s.size≤100000) (ht:t.size≤100000) (hds:Cub.digs s.data.toList) (hdt:Cub.digs t.data.toList) :
  Calls Tryz.prog 191 #[.string s,.string t] w fun e w'=>e=.returned (.string ⟨(Lib.decDigits (Cub.dval s.data.toList*Cub.dval t.data.toList)).toArray⟩)∧Bw w w':=by
 have HDS:=zAb hds;have HDT:=zAb hdt;clear hds hdt;go_enter Tryz.func191,Tryz.ntmps191
 go_wp2_with (first
  | (go_at_call_of 243 s;refine(zHt s _ (by omega) (un HDS)).mono ?_;rintro e w1 ⟨vx,lx,rfl,hox,hnx,hvx,hb1⟩;have HX:=zAb (And.intro hnx (And.intro hvx hox));have hbx:lx.length≤100000:=(by have:=Cub.len_le4 (un HDS) hnx hvx;rw[zBq]at this;omega);clear hnx hvx hox)
  | (go_at_call_of 243 t;refine(zHt t _ (by omega) (un HDT)).mono ?_;rintro e w2 ⟨vy,ly,rfl,hoy,hny,hvy,hb2⟩;have HY:=zAb (And.intro hny (And.intro hvy hoy));have hby:ly.length≤100000:=(by have:=Cub.len_le4 (un HDT) hny hvy;rw[zBq]at this;omega);clear hny hvy hoy)
  | (go_at_call 242;refine(refTimes_any vx vy _ _ lx ly _ ((un HX).2.2.later hb2) (un HY).2.2 (un HX).1.1 (un HY).1.1 (by omega) (by omega)).mono ?_;rintro e w3 ⟨vz,lz,rfl,hoz,hnz,hvz,hlz,hb3⟩;have HZ:=zAb (And.intro hnz (And.intro hvz hoz));clear hnz hvz hoz)
  | (go_at_call 241;refine(zJa _ _ _ _ (un HZ).2.2 (un HZ).1 (by omega)).mono ?_;rintro e w4 ⟨rfl,hb4⟩))
 go_ret
 have hb12:=hb1.trans (hb2.mono hb1.size);have hb13:=hb12.trans (hb3.mono hb12.size);exact⟨by rw[←(un HX).2.1,←(un HY).2.1,←(un HZ).2.1];rfl,hb13.trans (hb4.mono hb13.size)⟩
theorem zJg (d m n:Nat) (w:World) (hd1:1≤d) (hd:d≤5000) (hm:m<10 ^ d) (hn:n<10 ^ d) :
  Calls Tryz.prog 191 #[.string (tx m),.string (tx n)] w fun e w'=>e=.returned (.string (tx (m*n)))∧Bw w w':=by
 have s1:=zHz hd1 hm;have s2:=zHz hd1 hn;have h:=refTimesS_any (tx m) (tx n) w (by omega) (by omega) (zJm m).1 (zJm n).1;rw[show Cub.dval (tx m).data.toList=m from zJf m,show Cub.dval (tx n).data.toList=n from zJf n]at h;exact h
def ComInvM (d M N m n:Nat) (a b:ByteArray):Prop:=a=tx m∧b=tx n∧m<10 ^ d∧n<10 ^ d∧Nat.gcd m n=Nat.gcd M N
theorem refCommonM (d M N:Nat) (w:World) (hd1:1≤d) (hd:d≤5000) (hM:M<10 ^ d) (hN:N<10 ^ d) :
  Calls Tryz.prog 239 #[.string (tx M),.string (tx N)] w fun e w'=>e=.returned (.string (tx (Nat.gcd M N)))∧Bw w w':=by
 have HI:Hid (ComInvM d M N M N (tx M) (tx N)):=⟨rfl,rfl,hM,hN,rfl⟩
 have HD:Hid (∀m n (a b:ByteArray),ComInvM d M N m n a b→0<n→∃c r:ByteArray,ComInvM d M N n (m % n) b r∧∀W,Calls Tryz.prog 240 #[.string a,.string b] W fun e w'=>e=.returned (.tuple #[.string c,.string r])∧Bw W w'):=fun m n a b h h0=>by
  obtain⟨rfl,rfl,hm,hn,hg⟩:=h;refine⟨tx (m / n),tx (m % n),⟨rfl,rfl,hn,mod_lt' m n d hm,?_⟩,fun W=>refDivideM d m n W hd1 hd hm hn h0⟩;rw[←hg,Nat.gcd_comm m n,Nat.gcd_rec n m,Nat.gcd_comm]
 have HZ:Hid (∀m n (a b:ByteArray),ComInvM d M N m n a b→0<n→(b.toList == [48])=false):=fun m n a b h h0=>by
  obtain⟨rfl,rfl,hm,hn,hg⟩:=h;exact tx_pos n h0
 have HE:Hid (∀m (a b:ByteArray),ComInvM d M N m 0 a b→(b.toList == [48])=true∧a=tx (Nat.gcd M N)):=fun m a b h=>by
  obtain⟨rfl,rfl,hm,hn,hg⟩:=h;rw[Nat.gcd_zero_right]at hg;exact⟨tx_zero,by rw[←hg]⟩
 generalize tx M=a0 at *
 generalize tx N=b0 at *
 clear hM hN hd1 hd;go_enter Tryz.func239,Tryz.ntmps239
 go_wp2
 go_loopg [0,1] N (fun z v0 v1 wr=>∃(m n:Nat) (a b:ByteArray),v0=.string a∧v1=.string b∧Hid (z=n)∧Hid (ComInvM d M N m n a b)∧Hid (Bw w wr))
 case atStart=>exact⟨M,N,a0,b0,rfl,rfl,rfl,HI,Below.refl _ _⟩
 case round=>
  obtain⟨m,n,a,b,rfl,rfl,HK,HC,HW⟩:=hrel;clear HI;rcases Nat.eq_zero_or_pos n with h0|h0
  ·subst h0
   obtain⟨e1,e2⟩:=un HE m a b (un HC);have HV:=zAb e2;clear e2 HE HD HZ HC
   go_wp2_with fail
   go_ret
   exact⟨by rw[←un HV];rfl,un HW⟩
  ·have e1:=un HZ m n a b (un HC) h0
   obtain⟨c,r,hc,hd⟩:=un HD m n a b (un HC) h0;have HC2:=zAb hc;have HD2:=zAb hd;have HLT:Hid (m % n<n):=Nat.mod_lt _ h0;clear hc hd HE HD HZ HC h0
   go_wp2_with (go_at_call 240;go_must(refine(un HD2 wr).mono ?_;rintro e w2 ⟨rfl,hb2⟩;have HW2:=zAb (bt HW hb2);clear hb2))
   go_roundg (m % n)
   case measure=>have:=un HK;have:=un HLT;omega
   case rel=>exact⟨n,m % n,b,r,rfl,rfl,rfl,HC2,HW2⟩
theorem refLowestM (d:Nat) (b:Bool) (m n:Nat) (w:World) (hd1:1≤d) (hd:d≤5000) (hm:m<10 ^ d) (hn:n<10 ^ d) (hn0:n≠0) :
  Calls Tryz.prog 190 #[.bool b,.string (tx m),.string (tx n)] w fun r w'=>r=.returned (.agg #[.bool (b && decide (m / Nat.gcd m n≠0)),.string (tx (m / Nat.gcd m n)),.string (tx (n / Nat.gcd m n))])∧Bw w w':=by
 obtain⟨V,hV⟩:∃V,V=w.alloc (.cells #[.bool false,G #[],G #[]] 96):=⟨_,rfl⟩;have hbV:Below w.heap.size w V:=by rw[hV];exact bA
 have HR:Hid (FBox V w.heap.size (.bool false) (G #[]) (G #[])∧Bw w V):=⟨by rw[hV];exact⟨by simp[go_sem],by simp[go_sem],by simp[go_sem],by simp[go_sem],by simp[go_sem],by simp[go_sem]⟩,hbV⟩;have HV:=zAb hV
 by_cases h0:m=0
 ·subst h0
  have z:((tx 0).toList == [48])=true:=by exact tx_zero
  have e0:(⟨#[48]⟩:ByteArray)=tx 0:=by rw[←tx_tb 0 (pos10 600)];exact(zHk ⟨#[48]⟩ 0 (by decide) (by decide)).1
  have e1:(⟨#[49]⟩:ByteArray)=tx 1:=by rw[←tx_tb 1 (zHk ⟨#[49]⟩ 1 (by decide) (by decide)).2];exact(zHk ⟨#[49]⟩ 1 (by decide) (by decide)).1
  have HE:Hid ((Value.agg #[.bool (b && decide (0 / Nat.gcd 0 n≠0)),.string (tx (0 / Nat.gcd 0 n)),.string (tx (n / Nat.gcd 0 n))])=.agg #[.bool false,G #[48],G #[49]]):=by
   show _=_;rw[Nat.gcd_zero_left,Nat.zero_div,Nat.div_self (by omega),←e0,←e1];simp
  rw[un HE];clear e0 e1 hbV hm hn hn0 HE hd1 hd;generalize tx 0=s0 at *
  generalize tx n=sn at *
  go_enter Tryz.func190,Tryz.ntmps190
  go_upto_region 1 with fail
  rw[←un HV];clear hV HV;have r0:=(un HR).1.c0;have r1:=(un HR).1.c1;have r2:=(un HR).1.c2;have rf0:=(un HR).1.f0;have rf1:=(un HR).1.f1;have rf2:=(un HR).1.f2
  go_wp2_with fail
  have hS:=(un HR).1.store (.bool false) (G #[48]) (G #[49]);have hb:Below w.heap.size w (zAs V w.heap.size (.bool false) (G #[48]) (G #[49])):=zAq (un HR).2 (Nat.le_refl _) _ _ _;have u0:=hS.c0;have u1:=hS.c1;have u2:=hS.c2;exact bodyPost_ret (v:=.agg #[.bool false,G #[48],G #[49]]) (w:=zAs V w.heap.size (.bool false) (G #[48]) (G #[49])) (by simp[results,Tryz.results190,go_sem,u0,u1,u2]) rfl ⟨rfl,hb⟩
 ·have z:((tx m).toList == [48])=false:=by exact tx_pos m (by omega)
  have hg0:0<Nat.gcd m n:=Nat.gcd_pos_of_pos_right _ (by omega);have hgl:Nat.gcd m n<10 ^ d:=Nat.lt_of_le_of_lt (Nat.gcd_le_right _ (by omega)) hn
  have hq0:m / Nat.gcd m n≠0:=by
   have:=Nat.div_pos (Nat.gcd_le_left n (by omega:0<m)) hg0
   omega
  have HCM:=zAb (fun W=>refCommonM d m n W hd1 hd hm hn);have HD1:=zAb (fun W=>refDivideM d m (Nat.gcd m n) W hd1 hd hm hgl hg0);have HD2:=zAb (fun W=>refDivideM d n (Nat.gcd m n) W hd1 hd hn hgl hg0);have HE:Hid ((b && decide (m / Nat.gcd m n≠0))=b):=by show _=_;simp[hq0]
  rw[un HE];clear hbV hm hn hn0 HE hg0 hgl hq0 h0 hd1 hd;generalize tx (m / Nat.gcd m n)=q1 at *
  generalize tx (n / Nat.gcd m n)=q2 at *
  generalize tx (m % Nat.gcd m n)=q3 at *
  generalize tx (n % Nat.gcd m n)=q4 at *
  generalize tx (Nat.gcd m n)=sg at *
  generalize tx m=sm at *
  generalize tx n=sn at *
  go_enter Tryz.func190,Tryz.ntmps190
  go_upto_region 1 with fail
  rw[←un HV];clear hV HV
  go_upto_region 4 with (go_at_call 239;go_must(refine(un HCM _).mono ?_;rintro e w1 ⟨rfl,hb1⟩;have HR1:Hid (FBox w1 w.heap.size (.bool false) (G #[]) (G #[])∧Bw w w1):=⟨(un HR).1.later hb1,(un HR).2.trans (hb1.mono (un HR).2.size)⟩;clear hb1))
  go_upto_region 5 with (go_at_call 240;go_must(refine(un HD1 _).mono ?_;rintro e w2 ⟨rfl,hb2⟩;have HR2:Hid (FBox w2 w.heap.size (.bool false) (G #[]) (G #[])∧Bw w w2):=⟨(un HR1).1.later hb2,(un HR1).2.trans (hb2.mono (un HR1).2.size)⟩;clear hb2))
  go_upto_region 6 with (go_at_call 240;go_must(refine(un HD2 _).mono ?_;rintro e w3 ⟨rfl,hb3⟩;have HR3:Hid (FBox w3 w.heap.size (.bool false) (G #[]) (G #[])∧Bw w w3):=⟨(un HR2).1.later hb3,(un HR2).2.trans (hb3.mono (un HR2).2.size)⟩;clear hb3))
  have r0:=(un HR3).1.c0;have r1:=(un HR3).1.c1;have r2:=(un HR3).1.c2;have rf0:=(un HR3).1.f0;have rf1:=(un HR3).1.f1;have rf2:=(un HR3).1.f2
  go_wp2_with fail
  have hS:=(un HR3).1.store (.bool b) (.string q1) (.string q2);have hb:Below w.heap.size w (zAs w3 w.heap.size (.bool b) (.string q1) (.string q2)):=zAq (un HR3).2 (Nat.le_refl _) _ _ _;have u0:=hS.c0;have u1:=hS.c1;have u2:=hS.c2;exact bodyPost_ret (v:=.agg #[.bool b,.string q1,.string q2]) (w:=zAs w3 w.heap.size (.bool b) (.string q1) (.string q2)) (by simp[results,Tryz.results190,go_sem,u0,u1,u2]) rfl ⟨rfl,hb⟩
theorem refTold (b:Bool) (s t:ByteArray) (w:World) (hs:s.size≤600) (ht:t.size≤600) :
  Ans 57 #[.agg #[.bool b,.string s,.string t]] w (if b then⟨#[45]⟩ ++ s else s) t 0:=by
 unfold Ans;obtain⟨V,hV⟩:∃V,V=(w.alloc (.cells #[.bool b,.string s,.string t] 96)).alloc (.cells #[G #[],G #[]] 28):=⟨_,rfl⟩;have hbV:Below w.heap.size w V:=by rw[hV];exact bA.alloc (by simp) _
 have HR:Hid (T2 V (w.heap.size+1) (G #[]) (G #[])∧Bw w V):=⟨by rw[hV];exact⟨by simp[go_sem],by simp[go_sem],by simp[go_sem],by simp[go_sem]⟩,hbV⟩;have HF:Hid (FBox V w.heap.size (.bool b) (.string s) (.string t)):=by rw[hV];exact⟨by simp[go_sem],by simp[go_sem],by simp[go_sem],by simp[go_sem],by simp[go_sem],by simp[go_sem]⟩
 have HV:=zAb hV;have hl:(⟨#[45]⟩:ByteArray).size=1:=rfl;clear hbV;have t0:=(un HF).c0;have t1:=(un HF).c1;have t2:=(un HF).c2;have r0:=(un HR).1.c0;have r1:=(un HR).1.c1;have rf0:=(un HR).1.f0;have rf1:=(un HR).1.f1
 cases b with
 | true=>
  have HE:Hid ((if true=true then(⟨#[45]⟩:ByteArray) ++ s else s)=⟨#[45]⟩ ++ s):=rfl;rw[un HE];clear HE;go_enter Tryz.func57,Tryz.ntmps57
  go_upto_region 1 with fail
  rw[←un HV];clear hV HV
  go_wp2_with fail
  have hS:=(un HR).1.store (.string (⟨#[45]⟩ ++ s)) (.string t);have hb:Below w.heap.size w (zBh V (w.heap.size+1) (.string (⟨#[45]⟩ ++ s)) (.string t)):=zAk (un HR).2 (by omega) _ _;have u0:=hS.c0;have u1:=hS.c1;exact bodyPost_ret (v:=.tuple #[.agg #[.string (⟨#[45]⟩ ++ s),.string t],I 0]) (w:=zBh V (w.heap.size+1) (.string (⟨#[45]⟩ ++ s)) (.string t)) (by simp[results,Tryz.results57,go_sem,u0,u1]) rfl ⟨rfl,hb⟩
 | false=>
  have HE:Hid ((if false=true then(⟨#[45]⟩:ByteArray) ++ s else s)=s):=rfl;rw[un HE];clear HE;go_enter Tryz.func57,Tryz.ntmps57
  go_upto_region 1 with fail
  rw[←un HV];clear hV HV
  go_wp2_with fail
  have hS:=(un HR).1.store (.string s) (.string t);have hb:Below w.heap.size w (zBh V (w.heap.size+1) (.string s) (.string t)):=zAk (un HR).2 (by omega) _ _;have u0:=hS.c0;have u1:=hS.c1;exact bodyPost_ret (v:=.tuple #[.agg #[.string s,.string t],I 0]) (w:=zBh V (w.heap.size+1) (.string s) (.string t)) (by simp[results,Tryz.results57,go_sem,u0,u1]) rfl ⟨rfl,hb⟩
theorem toList_less (s t:ByteArray) (hs:Cub.isNat s.data.toList) (ht:Cub.isNat t.data.toList) (hl:s.size=t.size):Op.bytesLess s.toList t.toList=decide (Cub.dval s.data.toList<Cub.dval t.data.toList):=by
 rw[Lib.toList_data,Lib.toList_data];exact Cub.bytesLess_dval _ _ hs.1 ht.1 (by rw[zBq,zBq];exact hl)
theorem toList_same (s t:ByteArray) (hs:Cub.isNat s.data.toList) (ht:Cub.isNat t.data.toList):(s.toList == t.toList)=decide (Cub.dval s.data.toList=Cub.dval t.data.toList):=by
 rw[Lib.toList_data,Lib.toList_data,Bool.eq_iff_iff,beq_iff_eq,decide_eq_true_eq];exact⟨fun h=>by rw[h],fun h=>Cub.dval_inj hs ht h⟩
theorem compare_any (s t:ByteArray) (w:World) (hs:Cub.isNat s.data.toList) (ht:Cub.isNat t.data.toList) :
 Calls Tryz.prog 193 #[.string s,.string t] w fun e w'=>e=.returned (I (Cub.cmpN (Cub.dval s.data.toList) (Cub.dval t.data.toList)))∧w'=w:=by
 by_cases hl:s.size=t.size
 ·have hne:((s.size:Int) != (t.size:Int))=false:=by rw[hl];simp
  have hless:=toList_less s t hs ht hl;have hsame:=toList_same s t hs ht
  by_cases hc:Cub.dval s.data.toList<Cub.dval t.data.toList
  ·have e:Cub.cmpN (Cub.dval s.data.toList) (Cub.dval t.data.toList)=-1:=if_pos hc
   rw[e];rw[decide_eq_true hc]at hless;clear hsame hs ht hl e hc;go_enter Tryz.func193,Tryz.ntmps193
   go_wp2
   go_ret
   exact⟨rfl,rfl⟩
  ·rw[decide_eq_false hc]at hless
   by_cases hc2:Cub.dval t.data.toList<Cub.dval s.data.toList
   ·have e:Cub.cmpN (Cub.dval s.data.toList) (Cub.dval t.data.toList)=1:=by unfold Cub.cmpN;rw[if_neg hc,if_pos hc2]
    rw[e];rw[decide_eq_false (by omega)]at hsame;clear hs ht hl e hc hc2;go_enter Tryz.func193,Tryz.ntmps193
    go_wp2
    go_ret
    exact⟨rfl,rfl⟩
   ·have e:Cub.cmpN (Cub.dval s.data.toList) (Cub.dval t.data.toList)=0:=by unfold Cub.cmpN;rw[if_neg hc,if_neg hc2]
    rw[e];rw[decide_eq_true (by omega)]at hsame;clear hs ht hl e hc hc2;go_enter Tryz.func193,Tryz.ntmps193
    go_wp2
    go_ret
    exact⟨rfl,rfl⟩
 ·have hne:((s.size:Int) != (t.size:Int))=true:=by rw[bne_iff_ne];omega
  by_cases hlt:s.size<t.size
  ·have e:Cub.cmpN (Cub.dval s.data.toList) (Cub.dval t.data.toList)=-1:=if_pos (Cub.len_lt_dval hs ht (by rw[zBq,zBq];exact hlt))
   rw[e];clear hs ht hl e;go_enter Tryz.func193,Tryz.ntmps193
   go_wp2
   go_ret
   exact⟨rfl,rfl⟩
  ·have e0:=Cub.len_lt_dval ht hs (by rw[zBq,zBq];omega)
   have e:Cub.cmpN (Cub.dval s.data.toList) (Cub.dval t.data.toList)=1:=by unfold Cub.cmpN;rw[if_neg (by omega),if_pos e0]
   rw[e];clear hs ht hl e e0;go_enter Tryz.func193,Tryz.ntmps193
   go_wp2
   go_ret
   exact⟨rfl,rfl⟩
theorem refCompareM (m n:Nat) (w:World):Calls Tryz.prog 193 #[.string (tx m),.string (tx n)] w fun e w'=>e=.returned (I (Cub.cmpN m n))∧w'=w:=by
 have h:=compare_any (tx m) (tx n) w (zJm m) (zJm n);rw[show Cub.dval (tx m).data.toList=m from zJf m,show Cub.dval (tx n).data.toList=n from zJf n]at h;exact h
structure F3 (w V:World) (x0 x1 x2 y0 y1 y2:Value):Prop where
 x:FBox V w.heap.size x0 x1 x2
 y:FBox V (w.heap.size+1) y0 y1 y2
 r:FBox V (w.heap.size+1+1) (.bool false) (G #[]) (G #[])
 below:Below w.heap.size w V
theorem F3.later {w V W:World} {x0 x1 x2 y0 y1 y2:Value} (h:F3 w V x0 x1 x2 y0 y1 y2) (hb:Below V.heap.size V W):F3 w W x0 x1 x2 y0 y1 y2 :=
 ⟨h.x.later hb,h.y.later hb,h.r.later hb,h.below.trans (hb.mono h.below.size)⟩
theorem F3.first (w:World) (x0 x1 x2 y0 y1 y2:Value):F3 w (((w.alloc (.cells #[x0,x1,x2] 96)).alloc (.cells #[y0,y1,y2] 96)).alloc (.cells #[.bool false,G #[],G #[]] 96)) x0 x1 x2 y0 y1 y2 :=
 ⟨⟨by simp[go_sem],by simp[go_sem],by simp[go_sem],by simp[go_sem],by simp[go_sem],by simp[go_sem]⟩,⟨by simp[go_sem],by simp[go_sem],by simp[go_sem],by simp[go_sem],by simp[go_sem],by simp[go_sem]⟩,⟨by simp[go_sem],by simp[go_sem],by simp[go_sem],by simp[go_sem],by simp[go_sem],by simp[go_sem]⟩,
  (bA.alloc (by simp) _).alloc (by simp;omega) _⟩
theorem refFTimes_walk (b c rb:Bool) (s1 t1 s2 t2 n d rn rd:ByteArray) (w:World)
  (h1:∀W,Calls Tryz.prog 191 #[.string s1,.string s2] W fun e w'=>e=.returned (.string n)∧Bw W w')
  (h2:∀W,Calls Tryz.prog 191 #[.string t1,.string t2] W fun e w'=>e=.returned (.string d)∧Bw W w')
  (h3:∀W,Calls Tryz.prog 190 #[.bool (b != c),.string n,.string d] W fun e w'=>e=.returned (.agg #[.bool rb,.string rn,.string rd])∧Bw W w') :
  Calls Tryz.prog 122 #[.agg #[.bool b,.string s1,.string t1],.agg #[.bool c,.string s2,.string t2]] w fun e w'=>e=.returned (.agg #[.bool rb,.string rn,.string rd])∧Bw w w':=by
 obtain⟨V,hV⟩:∃V,V=(((w.alloc (.cells #[.bool b,.string s1,.string t1] 96)).alloc (.cells #[.bool c,.string s2,.string t2] 96)).alloc (.cells #[.bool false,G #[],G #[]] 96)):=⟨_,rfl⟩;have HS:Hid (F3 w V (.bool b) (.string s1) (.string t1) (.bool c) (.string s2) (.string t2)):=by rw[hV];exact F3.first _ _ _ _ _ _ _
 have HV:=zAb hV;have H1:=zAb h1;have H2:=zAb h2;have H3:=zAb h3
 have HC:Hid (∀w',Below V.heap.size V w'→(w'.cell? ⟨w.heap.size,0,none⟩=some (.bool b)∧w'.cell? ⟨w.heap.size,1,none⟩=some (.string s1)∧w'.cell? ⟨w.heap.size,2,none⟩=some (.string t1)∧w'.cell? ⟨w.heap.size+1,0,none⟩=some (.bool c)∧w'.cell? ⟨w.heap.size+1,1,none⟩=some (.string s2)∧w'.cell? ⟨w.heap.size+1,2,none⟩=some (.string t2))∧(w'.cell? ⟨w.heap.size+1+1,0,none⟩=some (.bool false)∧w'.cell? ⟨w.heap.size+1+1,1,none⟩=some (G #[])∧w'.cell? ⟨w.heap.size+1+1,2,none⟩=some (G #[])∧w'.frozen? ⟨w.heap.size+1+1,0,none⟩=false∧w'.frozen? ⟨w.heap.size+1+1,1,none⟩=false∧w'.frozen? ⟨w.heap.size+1+1,2,none⟩=false)):=fun U hb=>by
  have s:=(un HS).later hb;exact⟨⟨s.x.c0,s.x.c1,s.x.c2,s.y.c0,s.y.c1,s.y.c2⟩,⟨s.r.c0,s.r.c1,s.r.c2,s.r.f0,s.r.f1,s.r.f2⟩⟩
 clear h1 h2 h3 hV;go_enter Tryz.func122,Tryz.ntmps122
 go_upto_region 1 with fail
 rw[←un HV];clear HV;obtain⟨⟨t0,t1',t2',t3,t4,t5⟩,_⟩:=un HC V (Below.refl _ _)
 go_region_held3 (fun w'=>w'.cell? ⟨w.heap.size,0,none⟩=some (.bool b)∧w'.cell? ⟨w.heap.size,1,none⟩=some (.string s1)∧w'.cell? ⟨w.heap.size,2,none⟩=some (.string t1)∧w'.cell? ⟨w.heap.size+1,0,none⟩=some (.bool c)∧w'.cell? ⟨w.heap.size+1,1,none⟩=some (.string s2)∧w'.cell? ⟨w.heap.size+1,2,none⟩=some (.string t2)) (first|assumption|(refine⟨?_,?_,?_,?_,?_,?_⟩<;>first|assumption|(simp[go_sem, *];done)|(rw[World.cell?_setCell_other _ _ _ _ (by simp),World.cell?_setCell_other _ _ _ _ (by simp),World.cell?_setCell_other _ _ _ _ (by simp)];assumption))|(simp[go_sem, *];done)) ((first
  | (go_at_call_of 191 s1;go_must(refine(un H1 _).mono ?_;rintro e wa ⟨rfl,hba⟩;have HCA:=zAb (((Below.refl V.heap.size V).drew).trans hba);clear hba t0 t1' t2' t3 t4 t5;obtain⟨⟨t0,t1',t2',t3,t4,t5⟩,_⟩:=un HC wa (un HCA)))
  | (go_at_call_of 191 t1;go_must(refine(un H2 _).mono ?_;rintro e wb ⟨rfl,hbb⟩;have HCB:=zAb (bt HCA hbb);clear hbb t0 t1' t2' t3 t4 t5;obtain⟨⟨t0,t1',t2',t3,t4,t5⟩,_⟩:=un HC wb (un HCB)))
  | (go_at_call 190;go_must(refine(un H3 _).mono ?_;rintro e wc ⟨rfl,hbc⟩;have HCC:=zAb (bt HCB hbc);clear hbc t0 t1' t2' t3 t4 t5;obtain⟨⟨t0,t1',t2',t3,t4,t5⟩,⟨r0,r1,r2,rf0,rf1,rf2⟩⟩:=un HC wc (un HCC)))))
 have HS1:=zAb ((un HS).later (un HCC));clear r0 r1 r2 rf0 rf1 rf2 t0 t1' t2' t3 t4 t5;have hS:=(un HS1).r.store (.bool rb) (.string rn) (.string rd);have hb:Below w.heap.size w (zAs wc (w.heap.size+1+1) (.bool rb) (.string rn) (.string rd)):=zAq (un HS1).below (by omega) _ _ _;obtain⟨V9,hV9⟩:∃V9,V9=zAs wc (w.heap.size+1+1) (.bool rb) (.string rn) (.string rd):=⟨_,rfl⟩;have hV9':V9=((wc.setCell ⟨w.heap.size+1+1,0,none⟩ (.bool rb)).setCell ⟨w.heap.size+1+1,1,none⟩ (.string rn)).setCell ⟨w.heap.size+1+1,2,none⟩ (.string rd):=hV9;have u0:=hS.c0;have u1:=hS.c1;have u2:=hS.c2;rw[←hV9]at u0 u1 u2 hb;rw[←hV9'];have HB9:=zAb hb;clear hV9 hV9' hS hb
 go_wp2_with fail
 exact bodyPost_ret (v:=.agg #[.bool rb,.string rn,.string rd]) (by simp[results,Tryz.results122,go_sem,u0,u1,u2]) rfl ⟨rfl,un HB9⟩
theorem refFPlusA (b c rb:Bool) (s1 t1 s2 t2 x y d n rn rd:ByteArray) (w:World) (hbc:b=c)
  (h4:∀W,Calls Tryz.prog 192 #[.string x,.string y] W fun e w'=>e=.returned (.string n)∧Bw W w')
  (h1:∀W,Calls Tryz.prog 191 #[.string s1,.string t2] W fun e w'=>e=.returned (.string x)∧Bw W w')
  (h2:∀W,Calls Tryz.prog 191 #[.string s2,.string t1] W fun e w'=>e=.returned (.string y)∧Bw W w')
  (h3:∀W,Calls Tryz.prog 191 #[.string t1,.string t2] W fun e w'=>e=.returned (.string d)∧Bw W w')
  (h5:∀W,Calls Tryz.prog 190 #[.bool b,.string n,.string d] W fun e w'=>e=.returned (.agg #[.bool rb,.string rn,.string rd])∧Bw W w') :
  Calls Tryz.prog 123 #[.agg #[.bool b,.string s1,.string t1],.agg #[.bool c,.string s2,.string t2]] w fun e w'=>e=.returned (.agg #[.bool rb,.string rn,.string rd])∧Bw w w':=by
 obtain⟨V,hV⟩:∃V,V=(((w.alloc (.cells #[.bool b,.string s1,.string t1] 96)).alloc (.cells #[.bool c,.string s2,.string t2] 96)).alloc (.cells #[.bool false,G #[],G #[]] 96)):=⟨_,rfl⟩;have HS:Hid (F3 w V (.bool b) (.string s1) (.string t1) (.bool c) (.string s2) (.string t2)):=by rw[hV];exact F3.first _ _ _ _ _ _ _
 have HV:=zAb hV;have H1:=zAb h1;have H2:=zAb h2;have H3:=zAb h3;have H4:=zAb h4;have H5:=zAb h5;have hbq:(b == c)=true:=by rw[hbc];simp
 have HC:Hid (∀w',Below V.heap.size V w'→(w'.cell? ⟨w.heap.size,0,none⟩=some (.bool b)∧w'.cell? ⟨w.heap.size,1,none⟩=some (.string s1)∧w'.cell? ⟨w.heap.size,2,none⟩=some (.string t1)∧w'.cell? ⟨w.heap.size+1,0,none⟩=some (.bool c)∧w'.cell? ⟨w.heap.size+1,1,none⟩=some (.string s2)∧w'.cell? ⟨w.heap.size+1,2,none⟩=some (.string t2))∧(w'.cell? ⟨w.heap.size+1+1,0,none⟩=some (.bool false)∧w'.cell? ⟨w.heap.size+1+1,1,none⟩=some (G #[])∧w'.cell? ⟨w.heap.size+1+1,2,none⟩=some (G #[])∧w'.frozen? ⟨w.heap.size+1+1,0,none⟩=false∧w'.frozen? ⟨w.heap.size+1+1,1,none⟩=false∧w'.frozen? ⟨w.heap.size+1+1,2,none⟩=false)):=fun U hb=>by
  have s:=(un HS).later hb;exact⟨⟨s.x.c0,s.x.c1,s.x.c2,s.y.c0,s.y.c1,s.y.c2⟩,⟨s.r.c0,s.r.c1,s.r.c2,s.r.f0,s.r.f1,s.r.f2⟩⟩
 clear h1 h2 h3 h4 h5 hV hbc;go_enter Tryz.func123,Tryz.ntmps123
 go_upto_region 1 with fail
 rw[←un HV];clear HV;obtain⟨⟨t0,t1',t2',t3,t4,t5⟩,_⟩:=un HC V (Below.refl _ _)
 go_region_held3 (fun w'=>w'.cell? ⟨w.heap.size,0,none⟩=some (.bool b)∧w'.cell? ⟨w.heap.size,1,none⟩=some (.string s1)∧w'.cell? ⟨w.heap.size,2,none⟩=some (.string t1)∧w'.cell? ⟨w.heap.size+1,0,none⟩=some (.bool c)∧w'.cell? ⟨w.heap.size+1,1,none⟩=some (.string s2)∧w'.cell? ⟨w.heap.size+1,2,none⟩=some (.string t2)) (first|assumption|(refine⟨?_,?_,?_,?_,?_,?_⟩<;>first|assumption|(simp[go_sem, *];done)|(rw[World.cell?_setCell_other _ _ _ _ (by simp),World.cell?_setCell_other _ _ _ _ (by simp),World.cell?_setCell_other _ _ _ _ (by simp)];assumption))|(simp[go_sem, *];done)) ((first
  | (go_at_call_of 191 s1;go_must(refine(un H1 _).mono ?_;rintro e wa ⟨rfl,hba⟩;have HCA:=zAb (((Below.refl V.heap.size V).drew).trans hba);clear hba t0 t1' t2' t3 t4 t5;obtain⟨⟨t0,t1',t2',t3,t4,t5⟩,_⟩:=un HC wa (un HCA)))
  | (go_at_call_of 191 s2;go_must(refine(un H2 _).mono ?_;rintro e wb ⟨rfl,hbb⟩;have HCB:=zAb (bt HCA hbb);clear hbb t0 t1' t2' t3 t4 t5;obtain⟨⟨t0,t1',t2',t3,t4,t5⟩,_⟩:=un HC wb (un HCB)))
  | (go_at_call 191;go_must(refine(un H3 _).mono ?_;rintro e wc ⟨rfl,hbc⟩;have HCC:=zAb (bt HCB hbc);clear hbc t0 t1' t2' t3 t4 t5;obtain⟨⟨t0,t1',t2',t3,t4,t5⟩,_⟩:=un HC wc (un HCC)))))
 have HD:Hid (∀w',Below wc.heap.size wc w'→Below V.heap.size V w'):=fun U hb=>bt HCC hb
 clear t1' t2' t4 t5 HCA HCB H1 H2 H3
 go_upto_region 3 with fail
 clear t3 hbq
 go_region_held3 (fun w'=>w'.cell? ⟨w.heap.size,0,none⟩=some (.bool b)) (first|assumption|(simp[go_sem, *];done)|(rw[World.cell?_setCell_other _ _ _ _ (by simp),World.cell?_setCell_other _ _ _ _ (by simp),World.cell?_setCell_other _ _ _ _ (by simp)];assumption)) ((first
  | (go_at_call 192;go_must(refine(un H4 _).mono ?_;rintro e wd ⟨rfl,hbd⟩;have HCD:=zAb (((Below.refl wc.heap.size wc).drew).trans hbd);clear hbd t0;obtain⟨⟨t0,t1',t2',t3,t4,t5⟩,_⟩:=un HC wd (un HD wd (un HCD));clear t1' t2' t3 t4 t5))
  | (go_at_call 190;go_must(refine(un H5 _).mono ?_;rintro e we ⟨rfl,hbe⟩;have HCE:=zAb (un HD we (bt HCD hbe));clear hbe t0;obtain⟨⟨t0,t1',t2',t3,t4,t5⟩,⟨r0,r1,r2,rf0,rf1,rf2⟩⟩:=un HC we (un HCE);clear t1' t2' t3 t4 t5))))
 have HS1:=zAb ((un HS).later (un HCE));clear r0 r1 r2 rf0 rf1 rf2;have hS:=(un HS1).r.store (.bool rb) (.string rn) (.string rd);have hb:Below w.heap.size w (zAs we (w.heap.size+1+1) (.bool rb) (.string rn) (.string rd)):=zAq (un HS1).below (by omega) _ _ _;obtain⟨V9,hV9⟩:∃V9,V9=zAs we (w.heap.size+1+1) (.bool rb) (.string rn) (.string rd):=⟨_,rfl⟩;have hV9':V9=((we.setCell ⟨w.heap.size+1+1,0,none⟩ (.bool rb)).setCell ⟨w.heap.size+1+1,1,none⟩ (.string rn)).setCell ⟨w.heap.size+1+1,2,none⟩ (.string rd):=hV9;have u0:=hS.c0;have u1:=hS.c1;have u2:=hS.c2;rw[←hV9]at u0 u1 u2 hb;rw[←hV9'];have HB9:=zAb hb;clear hV9 hV9' hS hb t0
 go_wp2_with fail
 exact bodyPost_ret (v:=.agg #[.bool rb,.string rn,.string rd]) (by simp[results,Tryz.results123,go_sem,u0,u1,u2]) rfl ⟨rfl,un HB9⟩
theorem refFPlusB (b c rb:Bool) (s1 t1 s2 t2 x y d n rn rd:ByteArray) (w:World) (k:Int) (hbc:b≠c) (hk:0≤k)
  (h6:∀W,Calls Tryz.prog 193 #[.string x,.string y] W fun e w'=>e=.returned (I k)∧w'=W)
  (h4:∀W,Calls Tryz.prog 194 #[.string x,.string y] W fun e w'=>e=.returned (.string n)∧Bw W w')
  (h1:∀W,Calls Tryz.prog 191 #[.string s1,.string t2] W fun e w'=>e=.returned (.string x)∧Bw W w')
  (h2:∀W,Calls Tryz.prog 191 #[.string s2,.string t1] W fun e w'=>e=.returned (.string y)∧Bw W w')
  (h3:∀W,Calls Tryz.prog 191 #[.string t1,.string t2] W fun e w'=>e=.returned (.string d)∧Bw W w')
  (h5:∀W,Calls Tryz.prog 190 #[.bool b,.string n,.string d] W fun e w'=>e=.returned (.agg #[.bool rb,.string rn,.string rd])∧Bw W w') :
  Calls Tryz.prog 123 #[.agg #[.bool b,.string s1,.string t1],.agg #[.bool c,.string s2,.string t2]] w fun e w'=>e=.returned (.agg #[.bool rb,.string rn,.string rd])∧Bw w w':=by
 obtain⟨V,hV⟩:∃V,V=(((w.alloc (.cells #[.bool b,.string s1,.string t1] 96)).alloc (.cells #[.bool c,.string s2,.string t2] 96)).alloc (.cells #[.bool false,G #[],G #[]] 96)):=⟨_,rfl⟩;have HS:Hid (F3 w V (.bool b) (.string s1) (.string t1) (.bool c) (.string s2) (.string t2)):=by rw[hV];exact F3.first _ _ _ _ _ _ _
 have HV:=zAb hV;have H1:=zAb h1;have H2:=zAb h2;have H3:=zAb h3;have H4:=zAb h4;have H5:=zAb h5;have H6:=zAb h6;have hbq:(b == c)=false:=by rw[beq_eq_false_iff_ne];exact hbc
 have HC:Hid (∀w',Below V.heap.size V w'→(w'.cell? ⟨w.heap.size,0,none⟩=some (.bool b)∧w'.cell? ⟨w.heap.size,1,none⟩=some (.string s1)∧w'.cell? ⟨w.heap.size,2,none⟩=some (.string t1)∧w'.cell? ⟨w.heap.size+1,0,none⟩=some (.bool c)∧w'.cell? ⟨w.heap.size+1,1,none⟩=some (.string s2)∧w'.cell? ⟨w.heap.size+1,2,none⟩=some (.string t2))∧(w'.cell? ⟨w.heap.size+1+1,0,none⟩=some (.bool false)∧w'.cell? ⟨w.heap.size+1+1,1,none⟩=some (G #[])∧w'.cell? ⟨w.heap.size+1+1,2,none⟩=some (G #[])∧w'.frozen? ⟨w.heap.size+1+1,0,none⟩=false∧w'.frozen? ⟨w.heap.size+1+1,1,none⟩=false∧w'.frozen? ⟨w.heap.size+1+1,2,none⟩=false)):=fun U hb=>by
  have s:=(un HS).later hb;exact⟨⟨s.x.c0,s.x.c1,s.x.c2,s.y.c0,s.y.c1,s.y.c2⟩,⟨s.r.c0,s.r.c1,s.r.c2,s.r.f0,s.r.f1,s.r.f2⟩⟩
 clear h1 h2 h3 h4 h5 hV hbc h6;go_enter Tryz.func123,Tryz.ntmps123
 go_upto_region 1 with fail
 rw[←un HV];clear HV;obtain⟨⟨t0,t1',t2',t3,t4,t5⟩,_⟩:=un HC V (Below.refl _ _)
 go_region_held3 (fun w'=>w'.cell? ⟨w.heap.size,0,none⟩=some (.bool b)∧w'.cell? ⟨w.heap.size,1,none⟩=some (.string s1)∧w'.cell? ⟨w.heap.size,2,none⟩=some (.string t1)∧w'.cell? ⟨w.heap.size+1,0,none⟩=some (.bool c)∧w'.cell? ⟨w.heap.size+1,1,none⟩=some (.string s2)∧w'.cell? ⟨w.heap.size+1,2,none⟩=some (.string t2)) (first|assumption|(refine⟨?_,?_,?_,?_,?_,?_⟩<;>first|assumption|(simp[go_sem, *];done)|(rw[World.cell?_setCell_other _ _ _ _ (by simp),World.cell?_setCell_other _ _ _ _ (by simp),World.cell?_setCell_other _ _ _ _ (by simp)];assumption))|(simp[go_sem, *];done)) ((first
  | (go_at_call_of 191 s1;go_must(refine(un H1 _).mono ?_;rintro e wa ⟨rfl,hba⟩;have HCA:=zAb (((Below.refl V.heap.size V).drew).trans hba);clear hba t0 t1' t2' t3 t4 t5;obtain⟨⟨t0,t1',t2',t3,t4,t5⟩,_⟩:=un HC wa (un HCA)))
  | (go_at_call_of 191 s2;go_must(refine(un H2 _).mono ?_;rintro e wb ⟨rfl,hbb⟩;have HCB:=zAb (bt HCA hbb);clear hbb t0 t1' t2' t3 t4 t5;obtain⟨⟨t0,t1',t2',t3,t4,t5⟩,_⟩:=un HC wb (un HCB)))
  | (go_at_call 191;go_must(refine(un H3 _).mono ?_;rintro e wc ⟨rfl,hbc⟩;have HCC:=zAb (bt HCB hbc);clear hbc t0 t1' t2' t3 t4 t5;obtain⟨⟨t0,t1',t2',t3,t4,t5⟩,_⟩:=un HC wc (un HCC)))))
 have HD:Hid (∀w',Below wc.heap.size wc w'→Below V.heap.size V w'):=fun U hb=>bt HCC hb
 clear t1' t2' t4 t5 HCA HCB H1 H2 H3
 go_upto_region 5 with (go_at_call 193;go_must(refine(un H6 _).mono ?_;rintro e wz ⟨rfl,hwz⟩;obtain rfl:wc=wz:=hwz.symm))
 clear t3 hbq
 go_region_held3 (fun w'=>w'.cell? ⟨w.heap.size,0,none⟩=some (.bool b)) (first|assumption|(simp[go_sem, *];done)|(rw[World.cell?_setCell_other _ _ _ _ (by simp),World.cell?_setCell_other _ _ _ _ (by simp),World.cell?_setCell_other _ _ _ _ (by simp)];assumption)) ((first
  | (go_at_call 194;go_must(refine(un H4 _).mono ?_;rintro e wd ⟨rfl,hbd⟩;have HCD:=zAb (((Below.refl wc.heap.size wc).drew).trans hbd);clear hbd t0;obtain⟨⟨t0,t1',t2',t3,t4,t5⟩,_⟩:=un HC wd (un HD wd (un HCD));clear t1' t2' t3 t4 t5))
  | (go_at_call 190;go_must(refine(un H5 _).mono ?_;rintro e we ⟨rfl,hbe⟩;have HCE:=zAb (un HD we (bt HCD hbe));clear hbe t0;obtain⟨⟨t0,t1',t2',t3,t4,t5⟩,⟨r0,r1,r2,rf0,rf1,rf2⟩⟩:=un HC we (un HCE);clear t1' t2' t3 t4 t5))))
 have HS1:=zAb ((un HS).later (un HCE));clear r0 r1 r2 rf0 rf1 rf2;have hS:=(un HS1).r.store (.bool rb) (.string rn) (.string rd);have hb:Below w.heap.size w (zAs we (w.heap.size+1+1) (.bool rb) (.string rn) (.string rd)):=zAq (un HS1).below (by omega) _ _ _;obtain⟨V9,hV9⟩:∃V9,V9=zAs we (w.heap.size+1+1) (.bool rb) (.string rn) (.string rd):=⟨_,rfl⟩;have hV9':V9=((we.setCell ⟨w.heap.size+1+1,0,none⟩ (.bool rb)).setCell ⟨w.heap.size+1+1,1,none⟩ (.string rn)).setCell ⟨w.heap.size+1+1,2,none⟩ (.string rd):=hV9;have u0:=hS.c0;have u1:=hS.c1;have u2:=hS.c2;rw[←hV9]at u0 u1 u2 hb;rw[←hV9'];have HB9:=zAb hb;clear hV9 hV9' hS hb t0
 go_wp2_with fail
 exact bodyPost_ret (v:=.agg #[.bool rb,.string rn,.string rd]) (by simp[results,Tryz.results123,go_sem,u0,u1,u2]) rfl ⟨rfl,un HB9⟩
theorem refFPlusC (b c rb:Bool) (s1 t1 s2 t2 x y d n rn rd:ByteArray) (w:World) (k:Int) (hbc:b≠c) (hk:¬ 0≤k)
  (h6:∀W,Calls Tryz.prog 193 #[.string x,.string y] W fun e w'=>e=.returned (I k)∧w'=W)
  (h4:∀W,Calls Tryz.prog 194 #[.string y,.string x] W fun e w'=>e=.returned (.string n)∧Bw W w')
  (h1:∀W,Calls Tryz.prog 191 #[.string s1,.string t2] W fun e w'=>e=.returned (.string x)∧Bw W w')
  (h2:∀W,Calls Tryz.prog 191 #[.string s2,.string t1] W fun e w'=>e=.returned (.string y)∧Bw W w')
  (h3:∀W,Calls Tryz.prog 191 #[.string t1,.string t2] W fun e w'=>e=.returned (.string d)∧Bw W w')
  (h5:∀W,Calls Tryz.prog 190 #[.bool c,.string n,.string d] W fun e w'=>e=.returned (.agg #[.bool rb,.string rn,.string rd])∧Bw W w') :
  Calls Tryz.prog 123 #[.agg #[.bool b,.string s1,.string t1],.agg #[.bool c,.string s2,.string t2]] w fun e w'=>e=.returned (.agg #[.bool rb,.string rn,.string rd])∧Bw w w':=by
 obtain⟨V,hV⟩:∃V,V=(((w.alloc (.cells #[.bool b,.string s1,.string t1] 96)).alloc (.cells #[.bool c,.string s2,.string t2] 96)).alloc (.cells #[.bool false,G #[],G #[]] 96)):=⟨_,rfl⟩;have HS:Hid (F3 w V (.bool b) (.string s1) (.string t1) (.bool c) (.string s2) (.string t2)):=by rw[hV];exact F3.first _ _ _ _ _ _ _
 have HV:=zAb hV;have H1:=zAb h1;have H2:=zAb h2;have H3:=zAb h3;have H4:=zAb h4;have H5:=zAb h5;have H6:=zAb h6;have hbq:(b == c)=false:=by rw[beq_eq_false_iff_ne];exact hbc
 have HC:Hid (∀w',Below V.heap.size V w'→(w'.cell? ⟨w.heap.size,0,none⟩=some (.bool b)∧w'.cell? ⟨w.heap.size,1,none⟩=some (.string s1)∧w'.cell? ⟨w.heap.size,2,none⟩=some (.string t1)∧w'.cell? ⟨w.heap.size+1,0,none⟩=some (.bool c)∧w'.cell? ⟨w.heap.size+1,1,none⟩=some (.string s2)∧w'.cell? ⟨w.heap.size+1,2,none⟩=some (.string t2))∧(w'.cell? ⟨w.heap.size+1+1,0,none⟩=some (.bool false)∧w'.cell? ⟨w.heap.size+1+1,1,none⟩=some (G #[])∧w'.cell? ⟨w.heap.size+1+1,2,none⟩=some (G #[])∧w'.frozen? ⟨w.heap.size+1+1,0,none⟩=false∧w'.frozen? ⟨w.heap.size+1+1,1,none⟩=false∧w'.frozen? ⟨w.heap.size+1+1,2,none⟩=false)):=fun U hb=>by
  have s:=(un HS).later hb;exact⟨⟨s.x.c0,s.x.c1,s.x.c2,s.y.c0,s.y.c1,s.y.c2⟩,⟨s.r.c0,s.r.c1,s.r.c2,s.r.f0,s.r.f1,s.r.f2⟩⟩
 clear h1 h2 h3 h4 h5 hV hbc h6;go_enter Tryz.func123,Tryz.ntmps123
 go_upto_region 1 with fail
 rw[←un HV];clear HV;obtain⟨⟨t0,t1',t2',t3,t4,t5⟩,_⟩:=un HC V (Below.refl _ _)
 go_region_held3 (fun w'=>w'.cell? ⟨w.heap.size,0,none⟩=some (.bool b)∧w'.cell? ⟨w.heap.size,1,none⟩=some (.string s1)∧w'.cell? ⟨w.heap.size,2,none⟩=some (.string t1)∧w'.cell? ⟨w.heap.size+1,0,none⟩=some (.bool c)∧w'.cell? ⟨w.heap.size+1,1,none⟩=some (.string s2)∧w'.cell? ⟨w.heap.size+1,2,none⟩=some (.string t2)) (first|assumption|(refine⟨?_,?_,?_,?_,?_,?_⟩<;>first|assumption|(simp[go_sem, *];done)|(rw[World.cell?_setCell_other _ _ _ _ (by simp),World.cell?_setCell_other _ _ _ _ (by simp),World.cell?_setCell_other _ _ _ _ (by simp)];assumption))|(simp[go_sem, *];done)) ((first
  | (go_at_call_of 191 s1;go_must(refine(un H1 _).mono ?_;rintro e wa ⟨rfl,hba⟩;have HCA:=zAb (((Below.refl V.heap.size V).drew).trans hba);clear hba t0 t1' t2' t3 t4 t5;obtain⟨⟨t0,t1',t2',t3,t4,t5⟩,_⟩:=un HC wa (un HCA)))
  | (go_at_call_of 191 s2;go_must(refine(un H2 _).mono ?_;rintro e wb ⟨rfl,hbb⟩;have HCB:=zAb (bt HCA hbb);clear hbb t0 t1' t2' t3 t4 t5;obtain⟨⟨t0,t1',t2',t3,t4,t5⟩,_⟩:=un HC wb (un HCB)))
  | (go_at_call 191;go_must(refine(un H3 _).mono ?_;rintro e wc ⟨rfl,hbc⟩;have HCC:=zAb (bt HCB hbc);clear hbc t0 t1' t2' t3 t4 t5;obtain⟨⟨t0,t1',t2',t3,t4,t5⟩,_⟩:=un HC wc (un HCC)))))
 have HD:Hid (∀w',Below wc.heap.size wc w'→Below V.heap.size V w'):=fun U hb=>bt HCC hb
 clear t1' t2' t4 t5 HCA HCB H1 H2 H3
 go_upto_region 6 with (go_at_call 193;go_must(refine(un H6 _).mono ?_;rintro e wz ⟨rfl,hwz⟩;obtain rfl:wc=wz:=hwz.symm))
 clear t0 hbq
 go_region_held3 (fun w'=>w'.cell? ⟨w.heap.size+1,0,none⟩=some (.bool c)) (first|assumption|(simp[go_sem, *];done)|(rw[World.cell?_setCell_other _ _ _ _ (by simp),World.cell?_setCell_other _ _ _ _ (by simp),World.cell?_setCell_other _ _ _ _ (by simp)];assumption)) ((first
  | (go_at_call 194;go_must(refine(un H4 _).mono ?_;rintro e wd ⟨rfl,hbd⟩;have HCD:=zAb (((Below.refl wc.heap.size wc).drew).trans hbd);clear hbd t3;obtain⟨⟨t0,t1',t2',t3,t4,t5⟩,_⟩:=un HC wd (un HD wd (un HCD));clear t1' t2' t0 t4 t5))
  | (go_at_call 190;go_must(refine(un H5 _).mono ?_;rintro e we ⟨rfl,hbe⟩;have HCE:=zAb (un HD we (bt HCD hbe));clear hbe t3;obtain⟨⟨t0,t1',t2',t3,t4,t5⟩,⟨r0,r1,r2,rf0,rf1,rf2⟩⟩:=un HC we (un HCE);clear t1' t2' t0 t4 t5))))
 have HS1:=zAb ((un HS).later (un HCE));clear r0 r1 r2 rf0 rf1 rf2;have hS:=(un HS1).r.store (.bool rb) (.string rn) (.string rd);have hb:Below w.heap.size w (zAs we (w.heap.size+1+1) (.bool rb) (.string rn) (.string rd)):=zAq (un HS1).below (by omega) _ _ _;obtain⟨V9,hV9⟩:∃V9,V9=zAs we (w.heap.size+1+1) (.bool rb) (.string rn) (.string rd):=⟨_,rfl⟩;have hV9':V9=((we.setCell ⟨w.heap.size+1+1,0,none⟩ (.bool rb)).setCell ⟨w.heap.size+1+1,1,none⟩ (.string rn)).setCell ⟨w.heap.size+1+1,2,none⟩ (.string rd):=hV9;have u0:=hS.c0;have u1:=hS.c1;have u2:=hS.c2;rw[←hV9]at u0 u1 u2 hb;rw[←hV9'];have HB9:=zAb hb;clear hV9 hV9' hS hb t3
 go_wp2_with fail
 exact bodyPost_ret (v:=.agg #[.bool rb,.string rn,.string rd]) (by simp[results,Tryz.results123,go_sem,u0,u1,u2]) rfl ⟨rfl,un HB9⟩
def fx (x:Rat):Value:=.agg #[.bool (decide (x<0)),.string (tx x.num.natAbs),.string (tx x.den)]
def Bd (d:Nat) (x:Rat):Prop:=x.num.natAbs<10 ^ d∧x.den<10 ^ d
theorem fx_of {b:Bool} {n d:Nat} (h:Cub.Low b n d):(Value.agg #[.bool b,.string (tx n),.string (tx d)])=fx (Cub.valQ b n d):=by
 obtain⟨e1,e2,e3⟩:=Cub.low_is h;unfold fx;rw[←e1,←e2,←e3]
theorem fx_low (b:Bool) (n d:Nat) (hd:0<d):(Value.agg #[.bool (b && decide (n / Nat.gcd n d≠0)),.string (tx (n / Nat.gcd n d)),.string (tx (d / Nat.gcd n d))])=fx (Cub.valQ b n d):=by
 obtain⟨h1,h2⟩:=Cub.ratio_low (b:=b) (n:=n) hd;rw[fx_of h1,h2]
theorem valQ_mul {b c:Bool} {n d m e:Nat} (hd:0<d) (he:0<e):Cub.valQ (b != c) (n*m) (d*e)=Cub.valQ b n d*Cub.valQ c m e:=by
 have h1:((d:Nat):Rat)≠0:=Cub.dR hd;have h2:((e:Nat):Rat)≠0:=Cub.dR he;unfold Cub.valQ;rw[←Cub.sg_mul]
 push_cast
 grind
theorem pow_two (d a b:Nat) (ha:a<10 ^ d) (hb:b<10 ^ d):a*b<10 ^ (d+d):=by
 rw[Nat.pow_add];exact Nat.mul_lt_mul'' ha hb
theorem pow_up {d e a:Nat} (ha:a<10 ^ d) (h:d≤e):a<10 ^ e:=Nat.lt_of_lt_of_le ha (Nat.pow_le_pow_right (by decide) h)
theorem pow_sum (d a b:Nat) (ha:a<10 ^ d) (hb:b<10 ^ d):a+b<10 ^ (d+1):=by
 rw[Nat.pow_succ];omega
theorem refFTimes (d:Nat) (x y:Rat) (w:World) (hd1:1≤d) (hd:d+d≤5000) (hx:Bd d x) (hy:Bd d y) :
  Calls Tryz.prog 122 #[fx x,fx y] w fun e w'=>e=.returned (fx (x*y))∧Bw w w':=by
 have px:=x.den_pos;have py:=y.den_pos;have e:=valQ_mul (b:=decide (x<0)) (c:=decide (y<0)) (n:=x.num.natAbs) (m:=y.num.natAbs) px py;rw[(Cub.low_of x).2,(Cub.low_of y).2]at e;rw[←e,←fx_low _ _ _ (Nat.mul_pos px py)]
 exact refFTimes_walk _ _ _ _ _ _ _ _ _ _ _ w (fun W=>zJg d _ _ W hd1 (by omega) hx.1 hy.1) (fun W=>zJg d _ _ W hd1 (by omega) hx.2 hy.2)
  (fun W=>refLowestM (d+d) _ _ _ W (by omega) hd (pow_two d _ _ hx.1 hy.1) (pow_two d _ _ hx.2 hy.2) (by have:=Nat.mul_pos px py;omega))
theorem refFPlus (d:Nat) (x y:Rat) (w:World) (hd1:1≤d) (hd:d+d+1≤5000) (hx:Bd d x) (hy:Bd d y) :
  Calls Tryz.prog 123 #[fx x,fx y] w fun e w'=>e=.returned (fx (x+y))∧Bw w w':=by
 have px:=x.den_pos;have py:=y.den_pos;have hD:=Nat.mul_pos px py;have hD0:x.den*y.den≠0:=by omega
 have lx:=Cub.low_of x;have ly:=Cub.low_of y;have bX:=pow_two d _ _ hx.1 hy.2;have bY:=pow_two d _ _ hy.1 hx.2;have bD:=pow_two d _ _ hx.2 hy.2;have T1:=fun W=>zJg d _ _ W hd1 (by omega) hx.1 hy.2
 have T2:=fun W=>zJg d _ _ W hd1 (by omega) hy.1 hx.2
 have T3:=fun W=>zJg d _ _ W hd1 (by omega) hx.2 hy.2
 have key:∀bb m,(bb,m)=Cub.addSg (decide (x<0)) (x.num.natAbs*y.den) (decide (y<0)) (y.num.natAbs*x.den)→fx (x+y)=.agg #[.bool (bb && decide (m / Nat.gcd m (x.den*y.den)≠0)),.string (tx (m / Nat.gcd m (x.den*y.den))),.string (tx (x.den*y.den / Nat.gcd m (x.den*y.den)))]:=fun bb m hm=>by
  have e:=Cub.refAdd_val lx.1 ly.1 hm;rw[lx.2,ly.2]at e;rw[←e,←fx_low _ _ _ hD]
 have L:=fun bb m (hm:m<10 ^ (d+d+1)) W=>refLowestM (d+d+1) bb m (x.den*y.den) W (by omega) hd hm (pow_up bD (by omega)) hD0
 unfold Cub.addSg at key
 by_cases hs:decide (x<0)=decide (y<0)
 ·rw[if_pos hs]at key
  rw[key _ _ rfl];exact refFPlusA _ _ _ _ _ _ _ _ _ _ _ _ _ w hs (fun W=>refPlusM (d+d) _ _ W (by omega) (by omega) bX bY) T1 T2 T3 (fun W=>L _ _ (pow_sum (d+d) _ _ bX bY) W)
 ·rw[if_neg hs]at key
  have C:=fun W=>refCompareM (x.num.natAbs*y.den) (y.num.natAbs*x.den) W
  by_cases hl:x.num.natAbs*y.den<y.num.natAbs*x.den
  ·rw[if_pos hl]at key
   rw[key _ _ rfl];exact refFPlusC _ _ _ _ _ _ _ _ _ _ _ _ _ w _ hs (by unfold Cub.cmpN;rw[if_pos hl];decide) C (fun W=>refMinusM (d+d) _ _ W (by omega) (by omega) bY bX (Nat.le_of_lt hl)) T1 T2 T3 (fun W=>L _ _ (pow_up (Nat.lt_of_le_of_lt (Nat.sub_le _ _) bY) (by omega)) W)
  ·rw[if_neg hl]at key
   rw[key _ _ rfl];exact refFPlusB _ _ _ _ _ _ _ _ _ _ _ _ _ w _ hs (by unfold Cub.cmpN;rw[if_neg hl];split<;>decide) C (fun W=>refMinusM (d+d) _ _ W (by omega) (by omega) bX bY (Nat.le_of_not_lt hl)) T1 T2 T3 (fun W=>L _ _ (pow_up (Nat.lt_of_le_of_lt (Nat.sub_le _ _) bX) (by omega)) W)
theorem refTold_large (b:Bool) (s t:ByteArray) (w:World) (hl:600<s.size∨600<t.size) (hs:s.size≤5000) (ht:t.size≤5000) :
  Ans 57 #[.agg #[.bool b,.string s,.string t]] w ⟨#[]⟩ ⟨#[]⟩ 7:=by
 unfold Ans;obtain⟨V,hV⟩:∃V,V=(w.alloc (.cells #[.bool b,.string s,.string t] 96)).alloc (.cells #[G #[],G #[]] 28):=⟨_,rfl⟩;have hbV:Below w.heap.size w V:=by rw[hV];exact bA.alloc (by simp) _
 have HR:Hid (T2 V (w.heap.size+1) (G #[]) (G #[])∧Bw w V):=⟨by rw[hV];exact⟨by simp[go_sem],by simp[go_sem],by simp[go_sem],by simp[go_sem]⟩,hbV⟩;have HF:Hid (FBox V w.heap.size (.bool b) (.string s) (.string t)):=by rw[hV];exact⟨by simp[go_sem],by simp[go_sem],by simp[go_sem],by simp[go_sem],by simp[go_sem],by simp[go_sem]⟩
 have HV:=zAb hV;clear hbV;have t0:=(un HF).c0;have t1:=(un HF).c1;have t2:=(un HF).c2;have r0:=(un HR).1.c0;have r1:=(un HR).1.c1;have rf0:=(un HR).1.f0;have rf1:=(un HR).1.f1;have hS:=(un HR).1.store (G #[]) (G #[]);have hb:Below w.heap.size w (zBh V (w.heap.size+1) (G #[]) (G #[])):=zAk (un HR).2 (by omega) _ _;have u0:=hS.c0;have u1:=hS.c1;have HB9:=zAb hb;clear hb hS;rcases Nat.lt_or_ge 600 s.size with h1|h1
 ·have i1:(600:Int)<(s.size:Int):=by omega
  clear hl;go_enter Tryz.func57,Tryz.ntmps57
  go_upto_region 1 with fail
  rw[←un HV];clear hV HV
  go_wp2_with fail
  exact bodyPost_ret (v:=.tuple #[.agg #[G #[],G #[]],I 7]) (w:=zBh V (w.heap.size+1) (G #[]) (G #[])) (by simp[results,Tryz.results57,go_sem,u0,u1]) rfl ⟨rfl,un HB9⟩
 ·have i1:¬(600:Int)<(s.size:Int):=by omega
  have i2:(600:Int)<(t.size:Int):=by omega
  clear hl;go_enter Tryz.func57,Tryz.ntmps57
  go_upto_region 1 with fail
  rw[←un HV];clear hV HV
  go_wp2_with fail
  exact bodyPost_ret (v:=.tuple #[.agg #[G #[],G #[]],I 7]) (w:=zBh V (w.heap.size+1) (G #[]) (G #[])) (by simp[results,Tryz.results57,go_sem,u0,u1]) rfl ⟨rfl,un HB9⟩
theorem tx_large {n:Nat} (h:¬n<10 ^ 600):600<(tx n).size:=by
 rcases Nat.lt_or_ge 600 (tx n).size with h'|h'
 ·exact h'
 ·exfalso
  apply h
  rw[←zBq,tx_list]at h';exact(Cub.dec_len_lt n 600 (by omega)).1 h'
theorem refToldQ (d:Nat) (x:Rat) (w:World) (hd1:1≤d) (hd:d≤5000) (hx:Bd d x):Ans 57 #[fx x] w (zEp x) (zEr x) (zHa x):=by
 unfold zEp zEr zHa
 by_cases h:Small x
 ·rw[if_pos h,if_pos h,if_pos h]
  unfold sT;rw[tx_tb _ h.1,tx_tb _ h.2];exact refTold _ _ _ w (zHz (by omega) h.1) (zHz (by omega) h.2)
 ·rw[if_neg h,if_neg h,if_neg h]
  refine refTold_large _ _ _ w ?_ (Nat.le_trans (zHz hd1 hx.1) hd) (Nat.le_trans (zHz hd1 hx.2) hd)
  by_cases h1:x.num.natAbs<10 ^ 600
  ·exact Or.inr (tx_large (fun h2=>h ⟨h1,h2⟩))
  ·exact Or.inl (tx_large h1)
end Go.Proofs.YtliadckofhblnaaGreatDoor.Tm
